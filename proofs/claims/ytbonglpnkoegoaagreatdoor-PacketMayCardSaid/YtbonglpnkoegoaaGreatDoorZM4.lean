/- Texts of this claim, joined (M4). -/
import Derived.Test.YtbonglpnkoegoaaGreatDoorZM3

set_option linter.unusedVariables false
set_option linter.unusedSimpArgs false
set_option maxHeartbeats 4000000
open Go.IntKind renaming i64 → zaa, u8 → zae, u64 → zaZ, u32 → zbc
open Int renaming toNat_natCast → zab, eq_ofNat_of_zero_le → zaU, toNat_of_nonneg → zaV, tdiv → zba, tmod → zbe
open Go.Value renaming bool → zac, int → zad
open Nat renaming ne_of_lt → zaf, zero_le → zag, lt_or_ge → zaj, zero_add → zas, ne_of_gt → zaJ, pow_succ → zaQ, pow_zero → zaR, mul_assoc → zaS, mul_left_comm → zaT, lt_of_lt_of_eq → zbb
open List renaming range → zah, replicate → zai, getElem?_eq_none → zak, size_toArray → zal, range_succ → zam, countP_append → zan, countP_singleton → zao, getElem?_toArray → zar, getElem?_eq_some_iff → zat, mem_iff_getElem? → zau, all_eq_true → zav, mem_range → zaw, mem_cons_of_mem → za1, cons_append → za2, mem_cons_self → za3, mem_append → za4, mem_singleton → za5, append_assoc → za6, nil_append → za7, take_append_drop → zaB, take_succ_cons → zaC, take_zero → zaD, drop_succ_cons → zaE, drop_zero → zaF, length_drop → zaG, mem_cons → zaH, not_mem_nil → zaI, take_append_of_le_length → zaN, take_of_length_le → zaO, drop_append_of_le_length → zaP, flatMap_cons → zaW, length_append → zaX, length_take → zaY, length_map → zbd, getD_eq_getElem?_getD → zbf, getElem?_take → zbg
open Array renaming ext_getElem? → zap, getD_eq_getD_getElem? → zaq, replicate → zax, ext' → za8
open Go.Region renaming noSelect → zay, ready → zaz, wanted → za0
open Go.Sem renaming run_bind → za9
open Go.Result renaming andThen_ok → zaA, ok → zaK
open Go.Code renaming wp → zaL, rounds → zaM
namespace Go.Proofs.YtbonglpnkoegoaaGreatDoor
open Rely.Ext renaming refl → zbh, trans → zbi
open Auto.Puts renaming row → zbj, ext → zbk
open Auto.Ext renaming tr → zbl, low → zbp
open Own.ExtB renaming row → zbm
open Auto.OwnN renaming base → zbn, rd → zbo
open Auto.Qai renaming refl → zbq, row → zbr, step → zbs, puts → zbt, keeps → zbu
open Wr.GW renaming trans → zbv
section
namespace Wr
open Go Go.RowKit
open Rely Auto Own Sha
theorem shrZ (n : Int) (k:Nat) (hk:k≤4):n.fdiv (2^min ((8*k:Nat):Int).toNat zaa.bits)=n.fdiv (2^(8*k)):=by
  rw [zab,Nat.min_eq_left (show 8*k≤zaa.bits by show 8*k≤64; omega)]
theorem Ql5 (base gw:Nat) (s:Option (List Int)) (n:Int) (size:Nat) (w:World) (hbw:base≤w.heap.size) (h:WSt base gw s w) (hsz:size≤4) (hn:0≤n):Calls Tryz.prog 58 #[pp gw 0,.int .i64 n,.int .i64 (size:Int)] w (fun e W=>e=.returned (.tuple #[])∧GW base gw w W∧WSt base gw (numS s n size) W):=by
 have hgw:=h.lt
 have hok:okN n size=(n.fdiv (2^(8*size))==0):=by unfold okN; simp [hn]
 refine enter 29 [(0,pp gw 0),(1,.int .i64 n),(2,.int .i64 (size:Int))] Tryz.func58 rfl rfl kj rfl <| sgC fun K1 hK1=>sg 2 kj <| sv (.bool true) 8 (Qac (u:=.bool (decide (n≥0))) kj (congrArg zac (decide_eq_true oo))) <| sg 3 kj <| sv (.int .i64 ((8*size:Nat):Int)) 12 (Qac (u:=.int .i64 (zaa.wrap (8*(size:Int)))) kj (congrArg (zad .i64) (i64n _ _ oo oo))) <| sv (.int .i64 (n.fdiv (2^(8*size)))) 13 (QaO .shr _ _ _ _ .i64 .i64 _ _ _ rfl kj kj (Qcd _ _ _ _ _ _ oo (shrZ n size oo))) <| sv (.bool (n.fdiv (2^(8*size))==0)) 14 (Qac (u:=.bool (((n.fdiv (2^(8*size)))==0))) kj (congrArg zac rfl)) <| sg 1 kj <| Qau (fun v W'=>v=.tuple #[]∧GW base gw w W'∧WSt base gw (mustS s (n.fdiv (2^(8*size))==0)) W') 78 #[pp gw 0,.bool (n.fdiv (2^(8*size))==0)] 16 rfl kj kj ((Qnl base gw s (n.fdiv (2^(8*size))==0) _ h).mono mo2) fun v2 W1 h2=>?_
 obtain ⟨rfl,q1,ws2⟩:=h2
 have x1:GW base gw w W1:=zbv (GW.refl base gw w) q1
 refine sgN hK1 <| wp_block <| Qa3 (fun (s1:Nat×Option (List Int))=>[(0,pp gw 0),(1,.int .i64 n),(2,.int .i64 (s1.1:Int))]) (fun (s1:Nat×Option (List Int)) W=>(s1.1≤size)∧(WSt base gw s1.2 W)∧(numR n s1.1 s1.2=numR n size (mustS s (n.fdiv (2^(8*size))==0)))∧(GW base gw w W)) (fun (s1:Nat×Option (List Int))=>s1.1) (size,mustS s (n.fdiv (2^(8*size))==0)) ⟨kj,kj,kj,trivial⟩ ⟨(qR _),ws2,rfl,x1⟩ fun s1 X1 V1 hI1=>?_
 obtain ⟨j,sc⟩:=s1
 obtain ⟨hj,hws,hnum,xx1⟩:=hI1
 replace hj:j≤size:=hj
 replace hws:WSt base gw sc V1:=hws
 replace hnum:numR n j sc=numR n size (mustS s (n.fdiv (2^(8*size))==0)):=hnum
 replace xx1:GW base gw w V1:=xx1
 refine wp_seq_k fun K3 hK3=>sgB kj <| Qay (t:=decide ((j:Int)>0)) kj (fun c5=>?_) (fun c5=>?_)
 ·skip
  obtain ⟨jp,hjp⟩:∃ jp,j=jp+1:=⟨j-1,by have:=of_decide_eq_true c5; omega⟩
  refine wp_skip <| hK3 _ _ <| wp_block <| sgC fun K6 hK6=>sg 1 kj <| sv (.int .i64 ((jp:Int))) 20 (Qac (u:=.int .i64 (zaa.wrap ((j:Int)-1))) kj (congrArg (zad .i64) (by rw [show (j:Int)-1=(jp:Int) by omega]; exact IntWalk.i64_in _ oo))) ?_
  refine sg 1 kj <| sgN hK6 <| Qaj <| sg 3 kj <| sv (.int .i64 ((8*jp:Nat):Int)) 24 (Qac (u:=.int .i64 (zaa.wrap (8*((jp:Int))))) kj (congrArg (zad .i64) (i64n _ _ oo oo))) <| sv (.int .i64 (n.fdiv (2^(8*jp)))) 25 (QaO .shr _ _ _ _ .i64 .i64 _ _ _ rfl kj kj (Qcd _ _ _ _ _ _ oo (shrZ n jp oo))) <| sv (.int .u8 (byV n jp)) 26 (Qac (u:=.int .u8 (zae.wrap (n.fdiv (2^(8*jp))))) kj (congrArg (zad .u8) rfl)) <| QaA (ints .u8 ([(byV n jp)])) 5 1 27 rfl kj kj fun g7 W3 l7 e3 r7_3=>?_
  have x3:GW base gw w W3:=GW.ext xx1 e3
  have ws8:=WSt.ext hws e3
  have b7:=qT xx1.size l7
  refine Qau (fun v W'=>v=.tuple #[]∧GW base gw W3 W'∧WSt base gw (rawS sc [byV n jp]) W') 57 #[pp gw 0,.slice (some ⟨g7,0,none⟩) 1 1] 28 rfl kj kj ((rawW base gw sc [byV n jp] _ _ (qT hbw x3.size) ws8 (by show 1≤1000000; decide) (Qhj n jp) (fun W e=>QaL (xs:=[byV n jp]) (n:=1) rfl (zbm e r7_3 (Ne.symm (zaf (qL hgw b7)))) (Qaq (zbm e r7_3 (Ne.symm (zaf (qL hgw b7))))) dd)).mono mo2) fun v9 W4 h9=>?_
  obtain ⟨rfl,q4,ws9⟩:=h9
  have x4:GW base gw w W4:=zbv x3 q4
  refine Qas ?_
  with_reducible repeat first | refine goX1 ?_ | refine goX2 ?_ | refine goX3 ?_
  exact Qa1 (jp,rawS sc [byV n jp]) ⟨kj,kj,kj,trivial⟩ ⟨oo,ws9,(by have h7:=hnum; rw [hjp] at h7; exact h7),x4⟩ oo
 ·skip
  have hj0:j=0:=by have:=of_decide_eq_false c5; omega
  refine wp_exit ?_
  with_reducible repeat first | refine goX1 ?_ | refine goX2 ?_ | refine goX3 ?_
  exact (show bodyPost _ _ _ .normal _ _ from end0 rfl ⟨rfl,xx1,by have h9:sc=numR n size (mustS s (n.fdiv (2^(8*size))==0)):=(by have h7:=hnum; rw [hj0] at h7; exact h7); rw [h9] at hws; have h8:okN n size=(n.fdiv (2^(8*size))==0):=hok; unfold numS; rw [h8]; exact hws⟩)
theorem Ql6 (base gw:Nat) (s:Option (List Int)) (n:Int) (size:Nat) (w:World) (hbw:base≤w.heap.size) (h:WSt base gw s w) (hsz:size≤4) (hn:n<0):Calls Tryz.prog 58 #[pp gw 0,.int .i64 n,.int .i64 (size:Int)] w (fun e W=>e=.returned (.tuple #[])∧GW base gw w W∧WSt base gw (numS s n size) W):=by
 have hgw:=h.lt
 have hok:okN n size=false:=by unfold okN; simp [show ¬ 0≤n by omega]
 refine enter 29 [(0,pp gw 0),(1,.int .i64 n),(2,.int .i64 (size:Int))] Tryz.func58 rfl rfl kj rfl <| sgC fun K1 hK1=>sg 2 kj <| sv (.bool false) 8 (Qac (u:=.bool (decide (n≥0))) kj (congrArg zac (decide_eq_false oo))) <| sg 7 kj <| Qau (fun v W'=>v=.tuple #[]∧GW base gw w W'∧WSt base gw (mustS s false) W') 78 #[pp gw 0,.bool false] 16 rfl kj kj ((Qnl base gw s false _ h).mono mo2) fun v2 W1 h2=>?_
 obtain ⟨rfl,q1,ws2⟩:=h2
 have x1:GW base gw w W1:=zbv (GW.refl base gw w) q1
 refine sgN hK1 <| wp_block <| Qa3 (fun (s1:Nat×Option (List Int))=>[(0,pp gw 0),(1,.int .i64 n),(2,.int .i64 (s1.1:Int))]) (fun (s1:Nat×Option (List Int)) W=>(s1.1≤size)∧(WSt base gw s1.2 W)∧(numR n s1.1 s1.2=numR n size (mustS s false))∧(GW base gw w W)) (fun (s1:Nat×Option (List Int))=>s1.1) (size,mustS s false) ⟨kj,kj,kj,trivial⟩ ⟨(qR _),ws2,rfl,x1⟩ fun s1 X1 V1 hI1=>?_
 obtain ⟨j,sc⟩:=s1
 obtain ⟨hj,hws,hnum,xx1⟩:=hI1
 replace hj:j≤size:=hj
 replace hws:WSt base gw sc V1:=hws
 replace hnum:numR n j sc=numR n size (mustS s false):=hnum
 replace xx1:GW base gw w V1:=xx1
 refine wp_seq_k fun K3 hK3=>sgB kj <| Qay (t:=decide ((j:Int)>0)) kj (fun c5=>?_) (fun c5=>?_)
 ·skip
  obtain ⟨jp,hjp⟩:∃ jp,j=jp+1:=⟨j-1,by have:=of_decide_eq_true c5; omega⟩
  refine wp_skip <| hK3 _ _ <| wp_block <| sgC fun K6 hK6=>sg 1 kj <| sv (.int .i64 ((jp:Int))) 20 (Qac (u:=.int .i64 (zaa.wrap ((j:Int)-1))) kj (congrArg (zad .i64) (by rw [show (j:Int)-1=(jp:Int) by omega]; exact IntWalk.i64_in _ oo))) ?_
  refine sg 1 kj <| sgN hK6 <| Qaj <| sg 3 kj <| sv (.int .i64 ((8*jp:Nat):Int)) 24 (Qac (u:=.int .i64 (zaa.wrap (8*((jp:Int))))) kj (congrArg (zad .i64) (i64n _ _ oo oo))) <| sv (.int .i64 (n.fdiv (2^(8*jp)))) 25 (QaO .shr _ _ _ _ .i64 .i64 _ _ _ rfl kj kj (Qcd _ _ _ _ _ _ oo (shrZ n jp oo))) <| sv (.int .u8 (byV n jp)) 26 (Qac (u:=.int .u8 (zae.wrap (n.fdiv (2^(8*jp))))) kj (congrArg (zad .u8) rfl)) <| QaA (ints .u8 ([(byV n jp)])) 5 1 27 rfl kj kj fun g7 W3 l7 e3 r7_3=>?_
  have x3:GW base gw w W3:=GW.ext xx1 e3
  have ws8:=WSt.ext hws e3
  have b7:=qT xx1.size l7
  refine Qau (fun v W'=>v=.tuple #[]∧GW base gw W3 W'∧WSt base gw (rawS sc [byV n jp]) W') 57 #[pp gw 0,.slice (some ⟨g7,0,none⟩) 1 1] 28 rfl kj kj ((rawW base gw sc [byV n jp] _ _ (qT hbw x3.size) ws8 (by show 1≤1000000; decide) (Qhj n jp) (fun W e=>QaL (xs:=[byV n jp]) (n:=1) rfl (zbm e r7_3 (Ne.symm (zaf (qL hgw b7)))) (Qaq (zbm e r7_3 (Ne.symm (zaf (qL hgw b7))))) dd)).mono mo2) fun v9 W4 h9=>?_
  obtain ⟨rfl,q4,ws9⟩:=h9
  have x4:GW base gw w W4:=zbv x3 q4
  refine Qas ?_
  with_reducible repeat first | refine goX1 ?_ | refine goX2 ?_ | refine goX3 ?_
  exact Qa1 (jp,rawS sc [byV n jp]) ⟨kj,kj,kj,trivial⟩ ⟨oo,ws9,(by have h7:=hnum; rw [hjp] at h7; exact h7),x4⟩ oo
 ·skip
  have hj0:j=0:=by have:=of_decide_eq_false c5; omega
  refine wp_exit ?_
  with_reducible repeat first | refine goX1 ?_ | refine goX2 ?_ | refine goX3 ?_
  exact (show bodyPost _ _ _ .normal _ _ from end0 rfl ⟨rfl,xx1,by have h9:sc=numR n size (mustS s false):=(by have h7:=hnum; rw [hj0] at h7; exact h7); rw [h9] at hws; have h8:okN n size=false:=hok; unfold numS; rw [h8]; exact hws⟩)
theorem Qgl (base gw:Nat) (s:Option (List Int)) (n:Int) (size:Nat) (w:World) (hbw:base≤w.heap.size) (h:WSt base gw s w) (hsz:size≤4):Calls Tryz.prog 58 #[pp gw 0,.int .i64 n,.int .i64 (size:Int)] w (fun e W=>e=.returned (.tuple #[])∧GW base gw w W∧WSt base gw (numS s n size) W):=by
  by_cases hn:0≤n
  · exact Ql5 base gw s n size w hbw h hsz hn
  · exact Ql6 base gw s n size w hbw h hsz oo
theorem QpA (base gw:Nat) (s:Option (List Int)) (n:Int) (w:World) (hbw:base≤w.heap.size) (h:WSt base gw s w):Calls Tryz.prog 59 #[pp gw 0,.int .i64 n] w (fun e W=>e=.returned (.tuple #[])∧GW base gw w W∧WSt base gw (leafS s n) W):=by
  have hgw:=h.lt
  refine enter 11 [(0,pp gw 0),(1,.int .i64 n)] Tryz.func59 rfl rfl kj rfl <| sgC fun K1 hK1=>sg 3 kj <| Qau (fun v W'=>v=.tuple #[]∧GW base gw w W'∧WSt base gw (mustS s (decide (n<32))) W') 78 #[pp gw 0,.bool (decide (n<32))] 7 rfl kj kj ((Qnl base gw s (decide (n<32)) _ h).mono mo2) fun v2 W1 h2=>?_
  obtain ⟨rfl,q1,ws2⟩:=h2
  have x1:GW base gw w W1:=zbv (GW.refl base gw w) q1
  refine sgN hK1 <| Qaj <| sg 2 kj <| Qau (fun v W'=>v=.tuple #[]∧GW base gw W1 W'∧WSt base gw (numS (mustS s (decide (n<32))) n 1) W') 58 #[pp gw 0,.int .i64 n,.int .i64 1] 10 rfl kj kj ((Qgl base gw _ n 1 _ (qT hbw x1.size) ws2 dd).mono mo2) fun v3 W2 h3=>?_
  obtain ⟨rfl,q2,ws3⟩:=h3
  have x2:GW base gw w W2:=zbv x1 q2
  refine Qas ?_
  with_reducible repeat first | refine goX1 ?_ | refine goX2 ?_ | refine goX3 ?_
  exact (show bodyPost _ _ _ .normal _ _ from end0 rfl ⟨rfl,x2,ws3⟩)
theorem QoV (base gw:Nat) (s:Option (List Int)) (ys:List Int) (v:Value) (w:World) (hbw:base≤w.heap.size) (hbg:base≤gw) (h:WSt base gw s w) (hyl:ys.length≤1000000) (hyb:Qak ys) (hy:RdK .u8 base ys v w):Calls Tryz.prog 60 #[pp gw 0,v] w (fun e W=>e=.returned (.tuple #[])∧GW base gw w W∧WSt base gw (bytS s ys) W):=by
  have hgw:=h.lt
  obtain ⟨a_y,c_y,rfl,-⟩:=id hy
  refine enter 11 [(0,pp gw 0),(1,.slice a_y ys.length c_y)] Tryz.func60 rfl rfl kj rfl <| sgC fun K1 hK1=>sg 3 kj <| Qau (fun v W'=>v=.tuple #[]∧GW base gw w W'∧WSt base gw (numS (s) (ys.length:Int) 2) W') 58 #[pp gw 0,.int .i64 (ys.length:Int),.int .i64 2] 7 rfl kj kj ((Qgl base gw _ (ys.length:Int) 2 _ (qT hbw (GW.refl base gw w).size) h dd).mono mo2) fun v2 W1 h2=>?_
  obtain ⟨rfl,q1,ws2⟩:=h2
  have x1:GW base gw w W1:=zbv (GW.refl base gw w) q1
  refine sgN hK1 <| Qaj <| sg 2 kj <| Qau (fun v W'=>v=.tuple #[]∧GW base gw W1 W'∧WSt base gw (rawS (numS (s) (ys.length:Int) 2) ys) W') 57 #[pp gw 0,.slice a_y ys.length c_y] 10 rfl kj kj ((rawW base gw _ ys _ _ (qT hbw x1.size) ws2 oo hyb (fun W e=>RdK.here (RdK.extB (Qoq hy x1 hbg) e hbg))).mono mo2) fun v3 W2 h3=>?_
  obtain ⟨rfl,q2,ws3⟩:=h3
  have x2:GW base gw w W2:=zbv x1 q2
  refine Qas ?_
  with_reducible repeat first | refine goX1 ?_ | refine goX2 ?_ | refine goX3 ?_
  exact (show bodyPost _ _ _ .normal _ _ from end0 rfl ⟨rfl,x2,ws3⟩)
end Wr
end
section
namespace Wr
open Go Go.RowKit
open Rely Auto Own Sha
theorem GW.back {base gw:Nat} {u w W:World} (h:Ext u w) (q:GW base gw w W) (hb:u.heap.size≤base) (hg:u.heap.size≤gw):Ext u W :=
  ⟨q.os.trans h.os,q.tape.trans h.tape,q.output.trans h.output,qT h.size q.size,fun k hk=>(q.block k (qL hk h.size) oo (.inl oo)).trans (h.block k hk)⟩
def PutR (base : Nat):Option (List Int)→Value→World→Prop
  | none=>fun v W=>v=.tuple #[.slice none 0 0,.iface 49 (.int .i64 3)]
  | some xs=>fun v W=>∃ u,v=.tuple #[u,.nilIface]∧OwnN .u8 5 base xs u W
def packS (s : Option (List Int)) (grp:List Int) (ep fr no:Int) (sealed:List Int):Option (List Int):=bytS (numS (leafS (numS (rawS s grp) ep 4) fr) no 4) sealed
theorem QmZ (base gw:Nat) (s:Option (List Int)) (grp:List Int) (ep fr no:Int) (sealed:List Int) (a_s:Option Addr) (c_s:Nat) (w:World) (hbw:base≤w.heap.size) (hbg:base≤gw) (h:WSt base gw s w) (hgl:grp.length=32) (hgb:Qak grp) (hsl:sealed.length≤1000000) (hsb:Qak sealed) (hs:RdK .u8 base sealed (.slice a_s sealed.length c_s) w):Calls Tryz.prog 41 #[pp gw 0,.agg (cat [ints .u8 (grp),#[.int .i64 ep],#[.int .i64 fr],#[.int .i64 no],#[.slice a_s sealed.length c_s]])] w (fun e W=>e=.returned (.tuple #[])∧GW base gw w W∧WSt base gw (packS s grp ep fr no sealed) W):=by
  have hgw:=h.lt
  refine enter 24 [(0,pp gw 0),(1,.agg (cat [ints .u8 (grp),#[.int .i64 ep],#[.int .i64 fr],#[.int .i64 no],#[.slice a_s sealed.length c_s]]))] Tryz.func41 rfl rfl kj rfl <| sgC fun K1 hK1=>Qah (cat [ints .u8 (grp),#[.int .i64 ep],#[.int .i64 fr],#[.int .i64 no],#[.slice a_s sealed.length c_s]]) 43 3 rfl kj kj fun g2 W1 l2 e1 r2_1=>?_
  have x1:GW base gw w W1:=GW.ext (GW.refl base gw w) e1
  have ws3:=WSt.ext h e1
  have b2:=qT (GW.refl base gw w).size l2
  refine sgN hK1 <| sgC fun K4 hK4=>sg 3 kj <| Qau (fun v W'=>v=.tuple #[]∧GW base gw W1 W'∧WSt base gw (rawS (s) grp) W') 57 #[pp gw 0,.slice (some ⟨g2,0,none⟩) 32 32] 7 rfl kj kj ((rawW base gw _ grp _ _ (qT hbw x1.size) ws3 (by rw [hgl]; decide) hgb (fun W e=>(Qeq 0 hgl (zbm e r2_1 (Ne.symm (zaf (qL hgw b2)))) (fun i hi=>QdZ [] [#[.int .i64 ep],#[.int .i64 fr],#[.int .i64 no],#[.slice a_s sealed.length c_s]] grp 0 i (0+i) kj rfl (by rw [hgl]; exact hi)) (Qaq (zbm e r2_1 (Ne.symm (zaf (qL hgw b2))))) (qR _) dd))).mono mo2) fun v5 W2 h5=>?_
  obtain ⟨rfl,q2,ws5⟩:=h5
  have x2:GW base gw w W2:=zbv x1 q2
  refine sgN hK4 <| sgC fun K6 hK6=>sg 2 kj ?_
  have r2_2:=(GW.row q2 r2_1 dd (Ne.symm (zaf (qL hgw b2))))
  refine sv (.int .i64 ep) 10 (Qab 3 _ g2 32 43 _ (.int .i64 ep) _ r2_2 rfl kj (Qap [ints .u8 (grp)] [#[.int .i64 ep]] [#[.int .i64 fr],#[.int .i64 no],#[.slice a_s sealed.length c_s]] 32 (izT hgl) 0 _ rfl) kj) <| Qau (fun v W'=>v=.tuple #[]∧GW base gw W2 W'∧WSt base gw (numS (rawS (s) grp) ep 4) W') 58 #[pp gw 0,.int .i64 ep,.int .i64 4] 11 rfl kj kj ((Qgl base gw _ ep 4 _ (qT hbw x2.size) ws5 dd).mono mo2) fun v7 W3 h7=>?_
  obtain ⟨rfl,q3,ws7⟩:=h7
  have x3:GW base gw w W3:=zbv x2 q3
  refine sgN hK6 <| sgC fun K8 hK8=>sg 2 kj ?_
  have r2_3:=(GW.row q3 r2_2 dd (Ne.symm (zaf (qL hgw b2))))
  refine sv (.int .i64 fr) 14 (Qab 3 _ g2 33 43 _ (.int .i64 fr) _ r2_3 rfl kj (Qap [ints .u8 (grp),#[.int .i64 ep]] [#[.int .i64 fr]] [#[.int .i64 no],#[.slice a_s sealed.length c_s]] 33 (cz1 hgl) 0 _ rfl) kj) ?_
  refine Qau (fun v W'=>v=.tuple #[]∧GW base gw W3 W'∧WSt base gw (leafS (numS (rawS (s) grp) ep 4) fr) W') 59 #[pp gw 0,.int .i64 fr] 15 rfl kj kj ((QpA base gw _ fr _ (qT hbw x3.size) ws7).mono mo2) fun v9 W4 h9=>?_
  obtain ⟨rfl,q4,ws9⟩:=h9
  have x4:GW base gw w W4:=zbv x3 q4
  refine sgN hK8 <| sgC fun K10 hK10=>sg 2 kj ?_
  have r2_4:=(GW.row q4 r2_3 dd (Ne.symm (zaf (qL hgw b2))))
  refine sv (.int .i64 no) 18 (Qab 3 _ g2 34 43 _ (.int .i64 no) _ r2_4 rfl kj (Qap [ints .u8 (grp),#[.int .i64 ep],#[.int .i64 fr]] [#[.int .i64 no]] [#[.slice a_s sealed.length c_s]] 34 (cz1 hgl) 0 _ rfl) kj) ?_
  refine Qau (fun v W'=>v=.tuple #[]∧GW base gw W4 W'∧WSt base gw (numS (leafS (numS (rawS (s) grp) ep 4) fr) no 4) W') 58 #[pp gw 0,.int .i64 no,.int .i64 4] 19 rfl kj kj ((Qgl base gw _ no 4 _ (qT hbw x4.size) ws9 dd).mono mo2) fun v11 W5 h11=>?_
  obtain ⟨rfl,q5,ws11⟩:=h11
  have x5:GW base gw w W5:=zbv x4 q5
  refine sgN hK10 <| Qaj <| sg 2 kj ?_
  have r2_5:=(GW.row q5 r2_4 dd (Ne.symm (zaf (qL hgw b2))))
  refine sv (.slice a_s sealed.length c_s) 22 (Qab 41 _ g2 35 43 _ (.slice a_s sealed.length c_s) _ r2_5 rfl kj (Qap [ints .u8 (grp),#[.int .i64 ep],#[.int .i64 fr],#[.int .i64 no]] [#[.slice a_s sealed.length c_s]] [] 35 (cz1 hgl) 0 _ rfl) kj) ?_
  refine Qau (fun v W'=>v=.tuple #[]∧GW base gw W5 W'∧WSt base gw (bytS (numS (leafS (numS (rawS (s) grp) ep 4) fr) no 4) sealed) W') 60 #[pp gw 0,.slice a_s sealed.length c_s] 23 rfl kj kj ((QoV base gw _ sealed _ _ (qT hbw x5.size) hbg ws11 oo hsb (Qoq hs x5 hbg)).mono mo2) fun v12 W6 h12=>?_
  obtain ⟨rfl,q6,ws12⟩:=h12
  have x6:GW base gw w W6:=zbv x5 q6
  refine Qas ?_
  with_reducible repeat first | refine goX1 ?_ | refine goX2 ?_ | refine goX3 ?_
  exact (show bodyPost _ _ _ .normal _ _ from end0 rfl ⟨rfl,x6,ws12⟩)
end Wr
end
section
namespace Wr
open Go Go.RowKit
open Rely Auto Own Sha
theorem QjN (grp : List Int) (ep fr no:Int) (sealed:List Int) (a_s:Option Addr) (c_s:Nat) (w:World) (hgl:grp.length=32) (hgb:Qak grp) (hsl:sealed.length≤1000000) (hsb:Qak sealed) (hs:RdK .u8 w.heap.size sealed (.slice a_s sealed.length c_s) w):Calls Tryz.prog 40 #[.agg (cat [ints .u8 (grp),#[.int .i64 ep],#[.int .i64 fr],#[.int .i64 no],#[.slice a_s sealed.length c_s]]),.func (.func 41) #[] #[]] w (Qby w (PutR w.heap.size (packS (some []) grp ep fr no sealed))):=by
 refine enter 22 [(0,.agg (cat [ints .u8 (grp),#[.int .i64 ep],#[.int .i64 fr],#[.int .i64 no],#[.slice a_s sealed.length c_s]])),(1,.func (.func 41) #[] #[])] Tryz.func40 rfl rfl kj rfl <| sgC fun K1 hK1=>Qah (cat [ints .u8 (grp),#[.int .i64 ep],#[.int .i64 fr],#[.int .i64 no],#[.slice a_s sealed.length c_s]]) 43 2 rfl kj kj fun g2 W1 l2 e1 r2_1=>?_
 have x1:=zbl (zbh w) e1
 have b2:=qT (zbh w).size l2
 refine sg 2 kj <| sgN hK1 <| sgC fun K3 hK3=>sg 1 kj <| Qah (cat [#[.slice none 0 0],#[.bool false]]) 127 8 rfl kj kj fun g4 W2 l4 e2 r4_2=>?_
 have x2:=zbl x1 e2
 have b4:=qT x1.size l4
 refine sg 1 kj <| sgN hK3 <| sgC fun K5 hK5=>sg 2 kj <| sv (.agg (cat [ints .u8 (grp),#[.int .i64 ep],#[.int .i64 fr],#[.int .i64 no],#[.slice a_s sealed.length c_s]])) 11 (Qae 43 _ g2 43 _ _ (Qaa r2_1 e2) rfl kj kj (isz (n:=36) kj (cz1 hgl))) ?_
 refine Qau (fun v W'=>v=.tuple #[]∧GW W1.heap.size g4 W2 W'∧WSt W1.heap.size g4 (packS (some []) grp ep fr no sealed) W') 41 #[pp g4 0,.agg (cat [ints .u8 (grp),#[.int .i64 ep],#[.int .i64 fr],#[.int .i64 no],#[.slice a_s sealed.length c_s]])] 12 rfl kj kj ((QmZ W1.heap.size g4 (some []) grp ep fr no sealed a_s c_s _ (qT (qR _) e2.size) l4 ⟨_,[],false,r4_2,Qb5 .u8 5 _ _,zag _,(fun x hx=>by cases hx),rfl⟩ hgl hgb hsl hsb (RdK.more (RdK.ext hs x2) (qT (qR _) e1.size))).mono mo2) fun v6 W3 h6=>?_
 obtain ⟨rfl,q3,u,xs,bad,rb3,ho,-,-,hS⟩:=h6
 have x3:=GW.back x2 q3 (qT (qR _) e1.size) b4
 obtain ⟨au,cu,rfl,-⟩:=id (zbo ho)
 refine sgN hK5 <| wp_seq_k fun K7 hK7=>sgC fun K8 hK8=>sg 3 kj <| sv (.bool bad) 16 (Qab 4 _ g4 1 127 _ (.bool bad) _ rb3 rfl kj kj kj) <| sgN hK8 <| Qay (t:=bad) kj (fun c9=>?_) (fun c9=>?_)
 ·skip
  refine sgB kj <| wp_ret ?_
  with_reducible repeat first | refine goR1 ?_ | refine goR2 ?_
  exact (show bodyPost _ _ _ .ret _ _ from ret2 (.slice none 0 0) (.iface 49 (.int .i64 3)) rfl (Qax kj) (Qax kj) ⟨_,rfl,x3,by rw [hS,c9]; exact rfl⟩)
 ·skip
  refine wp_skip <| hK7 _ _ <| sgC fun K11 hK11=>sg 3 kj <| sv (.slice au xs.length cu) 21 (Qab 41 _ g4 0 127 _ (.slice au xs.length cu) _ rb3 rfl kj kj kj) <| sg 2 kj <| sgN hK11 <| wp_ret ?_
  with_reducible repeat first | refine goR1 ?_ | refine goR2 ?_
  exact (show bodyPost _ _ _ .ret _ _ from ret2 (.slice au xs.length cu) (.nilIface) rfl (Qax kj) (Qax kj) ⟨_,rfl,x3,by rw [hS,c9]; exact ⟨_,rfl,zbn (qT (qR _) e1.size) ho⟩⟩)
theorem PutPacket_S (grp : List Int) (ep fr no:Int) (sealed:List Int) (a_s:Option Addr) (c_s:Nat) (w:World) (hgl:grp.length=32) (hgb:Qak grp) (hsl:sealed.length≤1000000) (hsb:Qak sealed) (hs:RdK .u8 w.heap.size sealed (.slice a_s sealed.length c_s) w) (xs:List Int) (hS:packS (some []) grp ep fr no sealed=some xs):Calls Tryz.prog 26 #[.agg (cat [ints .u8 (grp),#[.int .i64 ep],#[.int .i64 fr],#[.int .i64 no],#[.slice a_s sealed.length c_s]])] w (Qby w (PutR w.heap.size (some xs))):=by
  refine enter 8 [(0,.agg (cat [ints .u8 (grp),#[.int .i64 ep],#[.int .i64 fr],#[.int .i64 no],#[.slice a_s sealed.length c_s]]))] Tryz.func26 rfl rfl kj rfl <| sgC fun K1 hK1=>Qah (cat [ints .u8 (grp),#[.int .i64 ep],#[.int .i64 fr],#[.int .i64 no],#[.slice a_s sealed.length c_s]]) 43 1 rfl kj kj fun g2 W1 l2 e1 r2_1=>?_
  have x1:=zbl (zbh w) e1
  have b2:=qT (zbh w).size l2
  refine sg 2 kj <| sgN hK1 <| sgC fun K3 hK3=>sv (.agg (cat [ints .u8 (grp),#[.int .i64 ep],#[.int .i64 fr],#[.int .i64 no],#[.slice a_s sealed.length c_s]])) 4 (Qae 43 _ g2 43 _ _ r2_1 rfl kj kj (isz (n:=36) kj (cz1 hgl))) ?_
  refine Qau (fun v W'=>(PutR W1.heap.size (packS (some []) grp ep fr no sealed)) v W'∧Ext W1 W') 40 #[.agg (cat [ints .u8 (grp),#[.int .i64 ep],#[.int .i64 fr],#[.int .i64 no],#[.slice a_s sealed.length c_s]]),.func (.func 41) #[] #[]] 5 rfl kj kj ((QjN grp ep fr no sealed a_s c_s _ hgl hgb hsl hsb (RdK.here (RdK.ext hs x1))).mono mo1) fun vv4 W2 hh4=>?_
  obtain ⟨hv4,e2⟩:=hh4
  rw [hS] at hv4
  obtain ⟨u5_,rfl,hu5_⟩:=hv4
  obtain ⟨a5_,c5_,rfl,-⟩:=id (zbo hu5_)
  refine sg 4 kj <| sgN hK3 <| wp_ret ?_
  with_reducible repeat first | refine goR1 ?_ | refine goR2 ?_
  exact (show bodyPost _ _ _ .ret _ _ from ret2 (.slice a5_ ((xs).length) c5_) (.nilIface) rfl (Qax kj) (Qax kj) ⟨_,rfl,(zbl x1 e2),_,rfl,zbn x1.size hu5_⟩)
end Wr
end
section
section
namespace Rely
open Go Go.RowKit
def Qpj (M : Array Nat) (n len:Nat):Bool:=(zah len).all fun j=>decide (j<n) || (zah n).all fun i=>(M.getD j 0).testBit i
def Qeb (len n:Nat):Array Bool:=(zai n true++zai (len-n) false).toArray
def okZ (l : List Oper) (n N:Nat) (S:List Src):Bool :=
  let M:=masks l #[]
  decide (n≤l.length)&&QcB l M 0 (l.take n) S&&QdA N (l.take n)&&Qdi 0 l&&Qpj M n l.length &&
  (l.drop n).all (fun o=>match o.dst with | some d=>(l.take n).all (·.dst != some d) | none=>true)
section
variable {P : Program} {R : World → World → Prop} {w0 : World} {a0 : Act}
theorem Qf1 {l : List Oper} {n N:Nat} {S:List Src} {E:List Fact} {Q:Exit→Act→World→Prop} (hok:okZ l n N S=true) (hN:a0.tmps.size=N) (hrf:∀ a,R a a) (htr:∀ {a b c:World},R a b→R b c→R a c)
    (hE:E.length=(l.take n).length) (hst:∀ φ∈E,Qb2 R φ)
    (hop:∀ j o s,(l.take n)[j]? = some o→S[j]? = some s→opOk P R w0 (slots a0) E o s (E.getD j fun _ _=>True))
    (hfin:∀ W,R w0 W→fin (fun a W=>wpAny P .any l.toArray Q (l.length-n) (Qeb l.length n) a W) (l.take n) E a0 W) :
    ∀ (fuel:Nat) (listed:Array Bool) (a:Act) (W:World) (vs:Nat→Value),Inv R w0 a0 l.toArray E n listed a W vs→fuel=left l.toArray listed→wpAny P .any l.toArray Q fuel listed a W:=by
  simp only [okZ,Bool.and_eq_true,decide_eq_true_eq] at hok
  obtain ⟨⟨⟨⟨⟨hn,hsrc⟩,hdst⟩,hedge⟩,htail⟩,hdt⟩:=hok
  have hlen:(l.take n).length=n:=by simp [hn]
  have hget:∀ i,i<n→(l.take n)[i]? = l[i]?:=fun i hi=>by simp [hi]
  have hgd:∀ i,(E.getD i fun _ _=>True)=(fun _ _=>True)∨(E.getD i fun _ _=>True)∈E:=fun i=>by
    rcases zaj i E.length with h | h
    · right; simp [h]
    · left; simp [zak h]
  have hstg:∀ i,Qb2 R (E.getD i fun _ _=>True):=fun i=>by
    rcases hgd i with h | h
    · rw [h]; exact fun _ _ _ _ _=>trivial
    · exact hst _ h
  have hanc:∀ j i,((masks l #[]).getD j 0).testBit i=true→Anc l.toArray i j:=QcD l.toArray l #[] (fun j=>by simp) (fun j i h=>by simp at h)
  have count:∀ (listed:Array Bool),(∀ i,i<n→listed.getD i true=true)→(∀ i,n≤i→i<l.length→listed.getD i true=false)→left l.toArray listed=l.length-n:=by
    intro listed h1 h2
    unfold left
    simp only [zal]
    have:∀ m,m≤l.length→(zah m).countP (fun i=>!listed.getD i true)=m-n:=by
      intro m
      induction m with
      | zero=>intro _; simp
      | succ m ih =>
        intro hm
        rw [zam,zan,ih oo,zao]
        by_cases hmn:m<n
        · simp only [h1 m hmn,Bool.not_true,Bool.false_eq_true,if_false]; omega
        · simp only [h2 m oo oo,Bool.not_false,if_true]; omega
    exact this l.length (qR _)
  have done:∀ (fuel:Nat) (listed:Array Bool) (a:Act) (W:World) (vs:Nat→Value),Inv R w0 a0 l.toArray E n listed a W vs→fuel=left l.toArray listed→(∀ i,i<n→listed.getD i true=true)→wpAny P .any l.toArray Q fuel listed a W:=by
    intro fuel listed a W vs inv hf hall
    have hs:listed.size=l.length:=by simpa using inv.size
    have hall':∀ i,i<n→listed.getD i false=true:=fun i hi=>by
      cases hx:listed.getD i false with
      | true=>rfl
      | false=>have:=getD_in oo hx; rw [hall i hi] at this; cases this
    have hl:listed=Qeb l.length n:=by
      refine zap fun i=>?_
      unfold Qeb
      by_cases h1:i<l.length
      · have h2:listed[i]? = some (listed.getD i false):=by simp [zaq,Array.getElem?_eq_getElem (show i<listed.size by omega)]
        rw [h2]
        by_cases h3:i<n
        · rw [hall' i h3]; simp [List.getElem?_append,h3]
        · rw [inv.tail i oo]
          simp only [zar]
          rw [List.getElem?_append_right (by simp; omega),qZ,List.getElem?_replicate,if_pos oo]
      · rw [Array.getElem?_eq_none oo,zar,zak (by simp; omega)]
    have hfu:fuel=l.length-n:=by rw [hf]; exact count listed hall (fun i h1 h2=>getD_in oo (inv.tail i h1))
    rw [hl,hfu]
    have hq:=Qgt (l.take n) E a0 vs 0 (hfin W inv.rel) hE (fun i hi=>by
      rw [zas]
      exact inv.facts i (hall' i oo) oo)
    have heq:QaW (l.take n) vs 0 a0=a:=by
      have hsz:=Qck (l.take n) vs 0 a0
      have ht:(QaW (l.take n) vs 0 a0).tmps=a.tmps:=by
        refine zap fun t=>?_
        by_cases hw:∃ (i:Nat) (o:Oper),(l.take n)[i]? = some o∧o.dst=some t
        · obtain ⟨i,o,hi,ho⟩:=hw
          have hin:i<n:=by have:=(zat.1 hi).1; omega
          rw [QbV (l.take n) vs 0 a0 t i o hdst hN hi ho,zas]
          exact (inv.vals i o t (hall' i hin) hin (by rw [hget i hin] at hi; simpa using hi) ho).symm
        · rw [QbI (l.take n) vs 0 a0 t (fun o ho he=>by
            obtain ⟨i,hi⟩:=zau.1 ho
            exact hw ⟨i,o,hi,he⟩)]
          refine (inv.rest t fun i o _ hin hi he=>hw ⟨i,o,by rw [hget i hin]; simpa using hi,he⟩).symm
      have hd:=hsz.2.trans inv.defers.symm
      generalize QaW (l.take n) vs 0 a0=b at *
      cases a; cases b
      simp_all
    rw [heq] at hq
    exact hq
  have main:∀ (fuel:Nat) (listed:Array Bool) (a:Act) (W:World) (vs:Nat→Value),Inv R w0 a0 l.toArray E n listed a W vs→fuel=left l.toArray listed→wpAny P .any l.toArray Q fuel listed a W:=by
    intro fuel
    induction fuel with
    | zero =>
      intro listed a W vs inv hf
      refine done 0 listed a W vs inv hf fun i hi=>?_
      cases hx:listed.getD i true with
      | true=>rfl
      | false =>
        have:=QeM (ops:=l.toArray) (by simp; omega) hx
        omega
    | succ fuel ih =>
      intro listed a W vs inv hf
      by_cases hA:∀ i,i<n→listed.getD i true=true
      · exact done _ listed a W vs inv hf hA
      · have hs:listed.size=l.length:=by simpa using inv.size
        obtain ⟨i0,hi0,hu0⟩:∃ i,i<n∧listed.getD i true=false:=by
          refine Classical.byContradiction fun hc=>hA fun i hi=>?_
          cases hx:listed.getD i true with
          | true=>rfl
          | false=>exact absurd ⟨i,hi,hx⟩ hc
        refine ⟨fun hr=>?_,fun j hj=>?_⟩
        · obtain ⟨j,hj⟩:=QbT hedge (listed:=listed) i0 oo hu0
          rw [hr] at hj; cases hj
        · obtain ⟨hju,oj,hoj,_⟩:=mem_ready.1 hj
          have hoj':l[j]? = some oj:=by simpa using hoj
          have hjl:j<l.length:=(zat.1 hoj').1
          have hjn:j<n:=by
            rcases zaj j n with h | h
            · exact h
            · exfalso
              have h3:=zav.1 htail j (zaw.2 hjl)
              simp only [Bool.or_eq_true,decide_eq_true_eq] at h3
              rcases h3 with h3 | h3
              · omega
              · have h4:=zav.1 h3 i0 (zaw.2 oo)
                have:=Qbt inv.closed hj (hanc j i0 h4)
                rw [QaU this] at hu0
                cases hu0
          obtain ⟨s,hsj,hso⟩:=QdQ (l.take n) S 0 hsrc j oj (by rw [hget j hjn]; exact hoj')
          rw [zas] at hso
          simp only [Qhp,Bool.and_eq_true] at hso
          obtain ⟨hg,hrd⟩:=hso
          have hg':QcT l.toArray oj=some s.guard:=by simpa using hg
          have holds:∀ (r:List (Tmp×Option Nat)),r.all (QcW l (masks l #[]) j)=true→Qcz (slots a0) E (slots a) W r:=by
            intro r
            induction r with
            | nil=>intro _; trivial
            | cons x r ihr =>
              intro hr
              simp only [List.all_cons,Bool.and_eq_true] at hr
              obtain ⟨t,si⟩:=x
              cases si with
              | none =>
                refine ⟨?_,ihr hr.2⟩
                have h1:=hr.1
                simp only [QcW] at h1
                have h2:a.tmps[t]? = a0.tmps[t]?:=inv.rest t fun i o hli hin hio hd=>by
                  have h3:=zav.1 h1 (o,i) (by
                    rw [zau]
                    refine ⟨i,?_⟩
                    rw [List.getElem?_zipIdx]
                    have:l[i]? = some o:=by simpa using hio
                    simp [this])
                  simp only [hd,bne_self_eq_false,Bool.false_or,Bool.or_eq_true,beq_iff_eq] at h3
                  have hlj:listed.getD j false=true:=by
                    rcases h3 with h3 | h3
                    · exact inv.closed.anc (hanc i j h3) hli
                    · rw [←h3]; exact hli
                  rw [QaU hlj] at hju
                  cases hju
                simp only [slots,zaq,h2]
              | some i =>
                refine ⟨?_,ihr hr.2⟩
                have h1:=hr.1
                simp only [QcW,Bool.and_eq_true,decide_eq_true_eq,beq_iff_eq] at h1
                obtain ⟨⟨hij,hbit⟩,hdi⟩:=h1
                have hli:=Qbt inv.closed hj (hanc j i hbit)
                obtain ⟨oi,hoi,hdi'⟩:∃ oi,l[i]? = some oi∧oi.dst=some t:=by
                  cases hx:l[i]? with
                  | none=>rw [hx] at hdi; cases hdi
                  | some oi=>rw [hx] at hdi; exact ⟨oi,rfl,hdi⟩
                have hv:=inv.vals i oi t hli oo (by simpa using hoi) hdi'
                have:slots a t=vs i:=by simp only [slots,zaq,hv,Option.getD_some]
                rw [this]
                exact inv.facts i hli oo
          have hopj:=hop j oj s (by rw [hget j hjn]; exact hoj') hsj (slots a) W inv.rel (holds s.reads hrd)
          have next:∀ v W',R W W'→(E.getD j fun _ _=>True) v W'→wpAny P .any l.toArray Q fuel (listed.setIfInBounds j true) (a.put oj.dst v) W':=by
            intro v W' hR hφ
            have hjs:j<listed.size:=by omega
            have hlist:∀ i,(listed.setIfInBounds j true).getD i false=true→i=j∨listed.getD i false=true:=fun i hi=>by
              by_cases hij:j=i
              · exact .inl hij.symm
              · rw [getD_set_ne false hij] at hi; exact .inr hi
            refine ih _ _ W' (fun i=>if i=j then v else vs i) ⟨by simp [inv.size],inv.closed.set hj,htr inv.rel hR,(put_defers _ _ _).trans inv.defers,(Qdd _ _ _).trans inv.asize,?_,?_,?_,?_⟩ ?_
            · intro i hi hin
              by_cases hij:i=j
              · subst hij; simpa using hφ
              · simp only [hij,if_false]
                rcases hlist i hi with h | h
                · exact absurd h hij
                · exact hstg i _ _ _ hR (inv.facts i h hin)
            · intro i o d hi hin hio hd
              by_cases hij:i=j
              · subst hij
                obtain rfl:o=oj:=Option.some.inj (hio.symm.trans hoj)
                rw [hd,Qc9 _ _ _ (by rw [inv.asize,hN]; exact Qex (l.take n) hdst i o d (by rw [hget i hin]; exact hoj') hd)]
                simp
              · simp only [hij,if_false]
                rcases hlist i hi with h | h
                · exact absurd h hij
                · rw [QbB _ _ _ _ (Qew (l.take n) hdst i j o oj d (by rw [hget i hin]; simpa using hio) (by rw [hget j hjn]; exact hoj') hij hd)]
                  exact inv.vals i o d h hin hio hd
            · intro t ht
              rw [QbB _ _ _ _ (ht j oj (by simp [Array.getElem?_setIfInBounds_self_of_lt hjs]) hjn hoj)]
              exact inv.rest t fun i o hi hin hio=>ht i o (getD_set_true hi) hin hio
            · intro i hi
              rw [getD_set_ne false oo]
              exact inv.tail i hi
            · have:=Qd4 hju inv.size
              omega
          refine QbX hoj ?_
          rw [QbQ hg']
          by_cases hb:gOk s.guard (slots a)=true
          · rw [if_pos hb]
            refine Qfe (R:=R) (W:=W) (φ:=E.getD j fun _ _=>True) (fun {_ _ _} h1 h2=>htr h1 h2) ?_ next
            cases hgd':s.guard with
            | none=>rw [hgd'] at hopj; exact hopj
            | some db =>
              rw [hgd'] at hopj hb
              exact (if_pos hb).mp hopj
          · rw [if_neg hb]
            refine next undef W (hrf W) ?_
            cases hgd':s.guard with
            | none=>rw [hgd'] at hb; exact absurd rfl hb
            | some db =>
              rw [hgd'] at hopj hb
              exact (if_neg hb).mp hopj
  exact main
def QiA {P : Program} {R:World→World→Prop} {Q:Exit→Act→World→Prop} {a:Act} {w:World} {l:List Oper} {n:Nat} (F:List Fact→Prop):Prop :=
  ∀ E,(∀ W,R w.drew W→fin (fun a W=>wpAny P .any l.toArray Q (l.length-n) (Qeb l.length n) a W) (l.take n) E a W)→F E
theorem QiA.out {P : Program} {R:World→World→Prop} {Q:Exit→Act→World→Prop} {a:Act} {w:World} {l:List Oper} {n:Nat} {F:List Fact→Prop} (h:QiA (P:=P) (R:=R) (Q:=Q) (a:=a) (w:=w) (l:=l) (n:=n) F) {E:List Fact}
    (k:∀ W,R w.drew W→fin (fun a W=>wpAny P .any l.toArray Q (l.length-n) (Qeb l.length n) a W) (l.take n) E a W):F E:=h E k
theorem QeS {id : Nat} {Q:Exit→Act→World→Prop} {a:Act} {w:World} {l:List Oper} (R:World→World→Prop) (n N:Nat) (S:List Src) (hm:P.follows .mixedOrders=true) (hok:okZ l n N S=true) (hN:a.tmps.size=N)
    (hrf:∀ a,R a a) (htr:∀ {a b c:World},R a b→R b c→R a c)
    (h:∀ (F:List Fact→Prop) (r0:Tmp→Value),r0=slots a→QiA (P:=P) (R:=R) (Q:=Q) (a:=a) (w:=w) (l:=l) (n:=n) F→relies P R w.drew r0 F (l.take n) S []):(Code.region id l.toArray true).wp P Q a w:=by
  have hok':=hok
  simp only [okZ,Bool.and_eq_true,decide_eq_true_eq] at hok'
  obtain ⟨⟨⟨⟨⟨hn,hsrc⟩,hdst⟩,hedge⟩,htail⟩,hdt⟩:=hok'
  obtain ⟨E,hl,_,hst,hop,hfin⟩:=QcJ (M:=masks l #[]) (l.take n) S [] (h (fun E=>∀ W,R w.drew W→fin (fun a W=>wpAny P .any l.toArray Q (l.length-n) (Qeb l.length n) a W) (l.take n) E a W) _ rfl (show QiA _ from fun _ h=>h)) hsrc (fun _ h=>by cases h)
  refine wp_region_any hm ?_
  have hcount:l.toArray.size=left l.toArray (zax l.toArray.size false):=by
    unfold left
    have:∀ m,m≤l.toArray.size→(zah m).countP (fun i=>!(zax l.toArray.size false).getD i true)=m:=by
      intro m
      induction m with
      | zero=>intro _; simp
      | succ m ih =>
        intro hm
        rw [zam,zan,ih oo,zao]
        have:(zax l.toArray.size false).getD m true=false:=by simp at hm ⊢; simp [show m<l.length by omega]
        simp only [this,Bool.not_false,if_true]
    exact (this _ (qR _)).symm
  refine Qf1 (R:=R) (w0:=w.drew) (a0:=a) hok hN hrf htr (by simpa using hl) hst (fun j o s hj hs=>by simpa using hop j o s hj hs) hfin _ _ a _ (fun _=>undef) ⟨by simp,?_,hrf _,rfl,rfl,?_,?_,?_,?_⟩ hcount
  · intro j o ho hl
    rw [getD_replicate_false] at hl; cases hl
  · intro i hi; rw [getD_replicate_false] at hi; cases hi
  · intro i o d hi; rw [getD_replicate_false] at hi; cases hi
  · intro t _; rfl
  · intro i _; exact getD_replicate_false _ _
end
end Rely
end
namespace Wk
open Go Go.RowKit
open Rely Auto
section
variable {P : Program} {ops : Array Oper} {Q : Exit → Act → World → Prop} {o : Oper} {N : Nat} {L : Env} {w : World} {ds : List Deferred} {fuel : Nat} {listed : Array Bool} {k : Nat}
structure WZ (P : Program) (ops : Array Oper) (Q : Exit → Act → World → Prop) (fuel : Nat) (listed : Array Bool) (a : Act) (w : World) : Prop where
  out:wpAny P .any ops Q fuel listed a w
theorem wz_val (k : Nat) (v:Value) (d:Nat) (ho:ops[k]? = some o) (hd:o.dst=some d) (hg:Qbp ops o N L=some true) (hc:(zay ops&&Region.free .any ops listed k&&(zaz .any ops listed).contains k)=true)
    (hQ:∀ c a w,Q (.panic c) (a.put o.dst v) w→Q (.panic c) a w) (h:∀ W,(execOp (Rely.look (envN N L)) o).run P W=.ok (.value v) W) (kk:WZ P ops Q fuel (listed.setIfInBounds k true) (Qav ds N ((d,v)::L)) w):WZ P ops Q (fuel+1) listed (Qav ds N L) w:=by
  simp only [Bool.and_eq_true] at hc
  refine ⟨wpAny_take ho hc.1.1 hc.1.2 hc.2 hQ (.inl ⟨Qb1 hg,fun W=>?_⟩) ?_⟩
  · rw [QaZ]; exact h W
  · rw [hd,QaS]; exact kk.out
theorem wz_store (k : Nat) (g:Nat) (old cs:Array Value) (t:TypeId) (hgr:w.heap[g]? = some (.cells old t)) (hr:zaz .any ops listed=[k]) (ho:ops[k]? = some o) (hd:o.dst=none) (hg:Qbp ops o N L=some true)
    (h:(execOp (Rely.look (envN N L)) o).run P w=.ok .skip (w.setRow g cs)) (kk:∀ W,Puts w g W→W.heap[g]? = some (.cells cs t)→WZ P ops Q fuel (listed.setIfInBounds k true) (Qav ds N L) W):WZ P ops Q (fuel+1) listed (Qav ds N L) w:=by
  refine ⟨wpAny_all hr (by simp) fun i hi=>?_⟩
  obtain rfl:i=k:=by simpa using hi
  unfold wpOp
  rw [ho]
  simp only [Qb1 hg,if_true]
  refine .inl ?_
  unfold Oper.wp
  rw [QaZ,h]
  show wpAny _ _ _ _ _ _ _ _
  rw [hd]
  exact (kk _ (Qbe _ _ _) (setRow_heap _ _ _ _ _ _ hgr)).out
theorem wz_nil (hr : zaz .any ops listed=[]) (h:Q .normal (Qav ds N L) w):WZ P ops Q fuel listed (Qav ds N L) w:=⟨wpAny_done hr h fuel⟩
theorem any_regionEZ {id : Nat} {l:List Oper} (n:Nat) (S:List Src) (hm:P.follows .mixedOrders=true) (hok:okZ l n N S=true)
    (h:∀ F:List KE→Prop,(∀ C,(∀ W,Ext w W→finE (fun L W=>WZ P l.toArray Q (l.length-n) (Qeb l.length n) (Qav ds N L) W) (l.take n) C L W)→F C)→Qbn P Ext w.drew N L F (l.take n) S []) :
    (Code.region id l.toArray true).wp P Q (Qav ds N L) w:=by
  refine QeS Ext n N S hm hok (Qc8 N L) zbh zbi fun F r0 hr hF=>?_
  rw [QbF] at hr
  subst hr
  have:=h (fun C=>∀ W,Ext w.drew W→finE (fun L W=>WZ P l.toArray Q (l.length-n) (Qeb l.length n) (Qav ds N L) W) (l.take n) C L W) (fun C h W hR=>h W (zbi (Qan w) hR))
  exact Qci (G:=F) (fun C h=>hF.out fun W hR=>Qjj (Q:=fun a W=>wpAny P .any l.toArray Q (l.length-n) (Qeb l.length n) a W) _ _ _ (QcZ (fun L W h=>h.out) _ _ _ _ (h W hR))) _ _ [] this
end
end Wk
end
section
namespace Pk
open Go Go.RowKit
open Rely Auto Own Sha
open Cha
open Ae hiding run_storeQ
open Cn hiding nb_new run_extractT
section
open Wk
variable {P : Program} {ops : Array Oper} {Q : Exit → Act → World → Prop} {o : Oper} {N : Nat} {L : Env} {w : World} {ds : List Deferred} {fuel : Nat} {listed : Array Bool} {k : Nat} {a : Act} {Rd : World → Prop}
theorem QfU {Rd : World→Prop} {k fuel N:Nat} {o:Oper} {listed:Array Bool} {ds:List Deferred} {L:Env} {w:World} (g:Nat) (old cs:Array Value) (t:TypeId) (hgr:w.heap[g]? = some (.cells old t)) (ho:ops[k]? = some o) (hd:o.dst=none) (hg:Qbp ops o N L=some true)
    (h:(execOp (Rely.look (envN N L)) o).run P w=.ok .skip (w.setRow g cs)) (hR:∀ W,Puts w g W→Rd W) (kk:∀ W,Puts w g W→W.heap[g]? = some (.cells cs t)→WB P ops Q Rd fuel (listed.setIfInBounds k true) (Qav ds N L) W):WO P ops Q Rd k fuel listed (Qav ds N L) w:=by
  refine ⟨?_⟩
  unfold wpOp
  rw [ho]
  simp only [Qb1 hg,if_true]
  refine .inl ?_
  unfold Oper.wp
  rw [QaZ,h]
  show _∧allR _ _ _ _ _ _ _ _
  rw [hd]
  exact ⟨hR _ (Qbe _ _ _),(kk _ (Qbe _ _ _) (setRow_heap _ _ _ _ _ _ hgr)).out (hR _ (Qbe _ _ _))⟩
theorem QkM {K : Act→World→Prop} {d:Nat} {R:Value→World→Prop} (ho:ops[k]? = some o) (hd:o.dst=some d) (hg:za0 o (yielded ops a.tmps)=true) (h:∃ f args,(execOp a.eval o).run P w=.ok (.enter f args) w∧Calls P f args w fun e W=>∃ v,e=.returned v∧R v W) (hK:∀ v W,R v W→K (a.put (some d) v) W):wpOp P ops Q k K a w:=by
  unfold wpOp
  rw [ho]
  simp only [hg,if_true]
  refine .inl ?_
  unfold Oper.wp
  obtain ⟨f,args,h1,h2⟩:=h
  rw [h1]
  refine h2.mono ?_
  rintro e w' ⟨v,rfl,h3⟩
  show K _ _
  rw [hd]; exact hK v w' h3
theorem Qmo {K : Act→World→Prop} {d:Nat} {R:Value→World→Prop} (ho:ops[k]? = some o) (hd:o.dst=some d) (hg:za0 o (yielded ops a.tmps)=true) (h:∃ v W,(execOp a.eval o).run P w=.ok (.value v) W∧R v W) (hK:∀ v W,R v W→K (a.put (some d) v) W):wpOp P ops Q k K a w:=by
  unfold wpOp
  rw [ho]
  simp only [hg,if_true]
  refine .inl ?_
  unfold Oper.wp
  obtain ⟨v,W,h1,h2⟩:=h
  rw [h1]
  show K _ _
  rw [hd]; exact hK v W h2
theorem Qi8 (d : Nat) (v:Value):∀ (p L:Env),(∀ x∈p,x.1≠d)→Qav ds N (p++(d,v)::L)=Qav ds N ((d,v)::(p++L))
  | [],L,_=>rfl
  | (e,u)::p,L,h=>by
    have h1:=Qi8 d v p L (fun x hx=>h x (za1 _ hx))
    rw [za2,←QaS,h1,←QaS,Act.put_comm _ v u (fun x hx hy=>h (e,u) za3 (by cases hx; exact Option.some.inj hy)),QaS,QaS]
    rfl
theorem Qjw (k l m:Nat) {o1 o2:Oper} (ho1:ops[k]? = some o1) (ho2:ops[l]? = some o2) (hr:zaz .any ops listed=[k,l]) (hr2:zaz .any ops (listed.setIfInBounds l true)=[k])
    (hap:(o1.apart ops o2&&o2.apart ops o1&&zay ops)=true) (d1 d2:Nat) (hd1:o1.dst=some d1) (hd2:o2.dst=some d2) (hg1:Qbp ops o1 N L=some true) (hg2:∀ L',Qbp ops o2 N L'=some true)
    (Pre:World→Prop) (Kp:World→World→Prop) (φ ψ:Value→World→Prop) (pf:Value→Env) (LA LB LF:Array Bool) (hLF:LA.setIfInBounds l true=LF) (hLB:LF=LB) (hpf:∀ u,∀ x∈pf u,x.1≠d2) (hd:d1≠d2)
    (pe:∀ W W',Ext W W'→Pre W→Pre W') (re:∀ W W',Rd W→Ext W W'→Rd W') (φe:∀ v W W',Ext W W'→φ v W→φ v W') (ψk:∀ v W W',Rd W→Kp W W'→ψ v W→ψ v W')
    (h1:∀ W,Rd W→Pre W→∃ f args,(execOp (Rely.look (envN N L)) o1).run P W=.ok (.enter f args) W∧Calls P f args W fun e W'=>∃ u,e=.returned (.tuple #[u,.nilIface])∧Rd W'∧Kp W W'∧φ u W')
    (h2:∀ L' W,Rd W→∃ v W',(execOp (Rely.look (envN N L')) o2).run P W=.ok (.value v) W'∧Ext W W'∧ψ v W') (hw:Pre w)
    (fA:∀ (u:Value) (W:World),Rd W→WO P ops Q Rd l fuel LA (Qav ds N (pf u++(d1,.tuple #[u,.nilIface])::L)) W→WB P ops Q Rd (fuel+m+1) (listed.setIfInBounds k true) (Qav ds N ((d1,.tuple #[u,.nilIface])::L)) W)
    (fB:∀ (u v2:Value) (W:World),Rd W→WB P ops Q Rd fuel LB (Qav ds N (pf u++(d1,.tuple #[u,.nilIface])::(d2,v2)::L)) W→WB P ops Q Rd (fuel+m) ((listed.setIfInBounds l true).setIfInBounds k true) (Qav ds N ((d1,.tuple #[u,.nilIface])::(d2,v2)::L)) W)
    (kk:∀ (u v2:Value) (W:World),φ u W→ψ v2 W→Rd W→WB P ops Q Rd fuel LF (Qav ds N ((d2,v2)::(pf u++(d1,.tuple #[u,.nilIface])::L))) W):WB P ops Q Rd (fuel+m+2) listed (Qav ds N L) w:=by
  simp only [Bool.and_eq_true] at hap
  obtain ⟨⟨ha1,ha2⟩,hsl⟩:=hap
  obtain ⟨p1,p2,p3⟩:=Oper.apart_spec ha1
  have hs1:=fun cs b=>Region.noSelect_spec hsl k o1 cs b ho1
  rw [hd1,hd2] at p2
  rw [hd2] at p3
  refine ⟨fun hR=>⟨fun h0=>(by rw [hr] at h0; cases h0),fun i hi=>?_⟩⟩
  rw [hr] at hi
  rcases (by simpa using hi:i=k∨i=l) with rfl | rfl
  · refine QkM (R:=fun v W'=>∃ u,v=.tuple #[u,.nilIface]∧Rd W'∧Kp w W'∧φ u W') ho1 hd1 (Qb1 hg1) (by rw [QaZ]; obtain ⟨f,args,a1,a2⟩:=h1 w hR hw; exact ⟨f,args,a1,a2.mono fun e W' ⟨u,b1,b2⟩=>⟨_,b1,u,rfl,b2⟩⟩) fun v1 W1 ⟨u,hv,q1⟩=>⟨q1.1,?_⟩
    subst hv
    rw [QaS]
    refine (fA u W1 q1.1 ⟨?_⟩).out q1.1
    refine Qmo (R:=fun v W'=>Ext W1 W'∧ψ v W') ho2 hd2 (Qb1 (hg2 _)) (by rw [QaZ]; exact h2 _ W1 q1.1) fun v2 W2 q2=>⟨re _ _ q1.1 q2.1,?_⟩
    rw [QaS,hLF]
    exact (kk u v2 W2 (φe _ _ _ q2.1 q1.2.2) q2.2 (re _ _ q1.1 q2.1)).out (re _ _ q1.1 q2.1)
  · refine Qmo (R:=fun v W'=>Ext w W'∧ψ v W') ho2 hd2 (Qb1 (hg2 _)) (by rw [QaZ]; exact h2 _ w hR) fun v2 W1 q2=>⟨re _ _ hR q2.1,fun h0=>(by rw [hr2] at h0; cases h0),fun j hj=>?_⟩
    rw [hr2] at hj
    obtain rfl:j=k:=by simpa using hj
    refine QkM (R:=fun v W'=>∃ u,v=.tuple #[u,.nilIface]∧Rd W'∧Kp W1 W'∧φ u W') ho1 hd1 ?_ (by rw [execOp_put (ops:=ops) o1 hs1 _ (some d2) v2 p3,QaZ]; obtain ⟨f,args,a1,a2⟩:=h1 W1 (re _ _ hR q2.1) (pe _ _ q2.1 hw); exact ⟨f,args,a1,a2.mono fun e W' ⟨u,b1,b2⟩=>⟨_,b1,u,rfl,b2⟩⟩) fun v1 W2 ⟨u,hv,q1⟩=>⟨q1.1,?_⟩
    · rw [wanted_put o1 _ (some d2) v2 p3]; exact Qb1 hg1
    · subst hv
      rw [QaS,QaS]
      refine (fB u v2 W2 q1.1 ?_).out q1.1
      have hm:=Qi8 (ds:=ds) (N:=N) d2 v2 (pf u++[(d1,.tuple #[u,.nilIface])]) L (fun x hx=>by
        rcases za4.1 hx with h | h
        · exact hpf u x h
        · obtain rfl:=za5.1 h
          exact hd)
      simp only [za6,za2,za7] at hm
      rw [hm,←hLB]
      exact kk u v2 W2 q1.2.2 (ψk _ _ _ (re _ _ hR q2.1) q1.2.1 q2.2) q1.1
end
theorem QbZ.ext {b : Nat} {n:Int} {mv:List Int} {v:Value} {W W':World} (h:QbZ b n mv v W) (e:Ext W W'):QbZ b n mv v W':=by obtain ⟨u,h1,h2⟩:=h; exact ⟨u,h1,h2.ext e⟩
theorem QbZ.base {a b:Nat} {n:Int} {mv:List Int} {v:Value} {W:World} (hab:a≤b) (h:QbZ b n mv v W):QbZ a n mv v W:=by obtain ⟨u,h1,h2⟩:=h; exact ⟨u,h1,zbn hab h2⟩
theorem Qgh {k : IntKind} {T:TypeId} {b g:Nat} {xs:List Int} {v:Value} {W W':World} (h:OwnN k T b xs v W) (q:Puts W g W') (hn:v.ownBlock≠some g):OwnN k T b xs v W':=h.keep fun k hk=>q.2.2.2.2 k (fun e=>hn (by rw [hk,e]))
theorem Qnj {k : IntKind} {T T':TypeId} {base g:Nat} {xs:List Int} {v:Value} {W:World} {c:Array Value} (h:OwnN k T base xs v W) (r:W.heap[g]? = some (.cells c T')) (hne:T≠T'):v.ownBlock≠some g:=Wr.nb_typ h r hne
end Pk
end
section
namespace Pk
open Go Go.RowKit
open Rely Auto Own Sha
open Cha
open Ae hiding run_storeQ
open Cn hiding nb_new run_extractT
theorem Qiz (pl : Nat→Option (Nat×Nat)):∀ (ps:List (Nat×Nat×Value×Array Value)) (pre:List (Array Value)) (rest:Array Value) (off:Nat),(cat pre).size=off→okPl pl off ps→tot ps≤rest.size →
    Instr.fill pl (cat pre++rest) (ps.map fun x=>(x.1,x.2.2.1))=some (cat (pre++ps.map fun x=>x.2.2.2)++rest.extract (tot ps) rest.size)
  | [],pre,rest,off,_,_,ht=>by
    simp [Instr.fill,tot]
  | (i,n,v,p)::r,pre,rest,off,hoff,⟨h1,h2,h3,h4⟩,ht=>by
    subst h2
    have hn:n≤rest.size:=by rw [tot] at ht; omega
    simp only [List.map_cons,Instr.fill,h1,h3]
    rw [if_neg (by simp; omega)]
    have hz:(v.cells.zipIdx.foldl (fun cs (x:Value×Nat)=>cs.setIfInBounds (off+x.2) x.1) (cat pre++rest))=cat (pre++[v.cells])++rest.extract n rest.size:=by
      have e1:v.cells.zipIdx=(v.cells.toList.zipIdx 0).toArray:=by
        apply za8
        simp
      rw [e1,List.foldl_toArray',QcO]
      · have e2:rest=rest.extract 0 n++rest.extract n rest.size:=by
          rw [Array.extract_append_extract,Nat.max_eq_right hn]
          simp
        have e3:(cat pre++rest)=cat (pre++([rest.extract 0 n]++[rest.extract n rest.size])):=by
          rw [QaG]
          congr 1
        rw [Nat.add_zero,e3]
        have:=Qd8 pre [rest.extract 0 n] [v.cells] [rest.extract n rest.size] off hoff (by show v.cells.size=(rest.extract 0 n).size; simp; omega)
        rw [show (cat [v.cells]).toList=v.cells.toList from rfl] at this
        rw [this,←za6,QaG (pre++[v.cells])]
        rfl
      · rfl
    have key:=Qiz pl r (pre++[v.cells]) (rest.extract n rest.size) (off+n) (by rw [QaG]; show (cat pre++v.cells).size=_; simp; omega) h4 (by rw [tot] at ht; simp; omega)
    rw [←hz] at key
    rw [za6] at key
    rw [key,tot]
    congr 2
    rw [Array.extract_extract]
    simp
    congr 1
    rw [tot] at ht
    omega
theorem Qem {P : Program} {ρ:Operand→Value} {o:Oper} {w:World} (t:TypeId) (parts:Array (Nat×Operand)) (z:Value) (places:Array (Nat×Nat)) (off:Nat) (pre:List (Array Value)) (rest0:Array Value) (ps:List (Nat×Nat×Value×Array Value)) (rest:List (Array Value))
    (ho:o.op=.build t parts) (hv:(parts.map fun (i,x)=>(i,ρ x)).toList=ps.map fun x=>(x.1,x.2.2.1)) (hoff:(cat pre).size=off) (hp:okPl (fun i=>places[i]?) off ps) (hz0:z.cells=cat pre++rest0) (ht:tot ps≤rest0.size) (hr:rest0.extract (tot ps) rest0.size=cat rest)
    (hz:(zeroValue t).run P w=.ok z w) (hu:P.underlying t=some (.struct (P.fieldsOf t))) (hm:((P.fieldsOf t).mapM fun f=>do pure (f.offset,←sizeOf f.type):Sem (Array (Nat×Nat))).run P w=.ok places w) :
    (execOp ρ o).run P w=.ok (.value (.agg (cat (pre++(ps.map fun x=>x.2.2.2)++rest)))) w:=by
  have:=Qiz (fun i=>places[i]?) ps pre rest0 off hoff hp ht
  rw [←hz0,hr,←QaG] at this
  rw [←hv] at this
  have hB:(Instr.build t (parts.map fun (i,x)=>(i,ρ x))).run P w=.ok (.agg (cat (pre++(ps.map fun x=>x.2.2.2)++rest))) w:=by
    unfold Instr.build
    rw [za9,hz,zaA,za9,run_underlying hu w,zaA]
    show (Sem.run P _ w)=_
    rw [za9,hm,zaA]
    simp only [this]
    rfl
  unfold execOp
  simp only [ho,za9,hB,zaA,Sem.run_pure]
theorem Qcg {W : World} {a b:Nat} {c d:Array Value} {T T':TypeId} (h:W.heap[a]? = some (.cells c T)) (k:W.heap[b]? = some (.cells d T')) (hT:T≠T'):a≠b:=fun e=>by subst e; exact QhM h k hT
theorem nin {x cg cm:Nat} {s0 ts:List Int} {pl:Nat} {ms:List (Int×List Int)} {c:Array Value} {T:TypeId} {W:World} (r:W.heap[x]? = some (.cells c T)) (h:ChSt cg cm s0 ts pl ms W) (hT:T≠100):x∉[cg,cm]:=by
  obtain ⟨B,-,hr⟩:=h.row
  refine Qaw (Qcg r hr hT) (Qaw (fun e=>?_) QaF)
  obtain ⟨es,cl,h1,-⟩:=h.mp
  subst e
  rw [r] at h1
  cases h1
theorem OwE.tail {base : Nat} {e:Ep} {v:Value} {W:World} (h:OwE base [e] v W):∃ (g c:Nat) (tl:Array Value),v=.slice (some ⟨g,0,none⟩) 1 c∧base≤g∧W.heap[g]? = some (.cells (cat [#[pp e.gc 0],ints .u8 e.grp,#[.int .i64 e.num],#[.int .i64 e.leaf],tl]) 58):=by
  rcases h.row.2 with ⟨-,e2⟩ | ⟨g,cap,cur,q1,q2,q3,q4,q5,q6,q7⟩
  · cases e2
  · refine ⟨g,cap,(cur.toList.drop 35).toArray,q1,q2,?_⟩
    have h1:cur.toList.take 35=(cat (epP e)).toList:=by
      have:cur.toList.take ([e].length*35)=_:=q7
      simpa using this
    have h2:cur=cat [#[pp e.gc 0],ints .u8 e.grp,#[.int .i64 e.num],#[.int .i64 e.leaf],(cur.toList.drop 35).toArray]:=by
      apply za8
      have h3:=zaB 35 cur.toList
      rw [h1] at h3
      refine Eq.trans h3.symm ?_
      unfold epP
      simp [cat]
    rw [←h2]; exact q3
theorem Qfw (gb ge ce gc:Nat) (tl:Array Value) (grp:List Int) (hgl:grp.length=32) (w:World) (hgb:w.heap[gb]? = some (.cells (cat [#[.slice (some ⟨ge,0,none⟩) 1 ce],#[.bool false]]) 52)):Calls Tryz.prog 15 #[pp gb 0] w (Ret w (pp ge 0)):=by
  refine enter 24 [(0,pp gb 0)] Tryz.func15 rfl rfl kj rfl <| sgB kj <| wp_seq_k fun K3 hK3=>sgC fun K4 hK4=>sg 6 kj <| sv (.slice (some ⟨ge,0,none⟩) 1 ce) 9 (Qab 50 _ gb 0 52 _ (.slice (some ⟨ge,0,none⟩) 1 ce) _ hgb rfl kj kj kj) <| sg 3 kj <| sgN hK4 <| cond_false kj <| wp_skip ?_
  refine hK3 _ _ <| wp_seq_k fun K5 hK5=>Qba 11 [⟨none,[(0,none)]⟩,⟨none,[(13,some 0)]⟩,⟨none,[(14,some 1)]⟩,⟨none,[(15,some 2)]⟩,⟨none,[(0,none)]⟩,⟨none,[(17,some 4)]⟩,⟨none,[(18,some 5)]⟩,⟨none,[(19,some 6)]⟩,⟨none,[(20,some 7)]⟩,⟨none,[(21,some 8)]⟩,⟨none,[(16,some 3),(22,some 9)]⟩] kj kj fun F hF=>Qar (pp gb 0) kj kj (fun _=>kj) <| Qar (pp gb 0) kj kj (fun _=>kj) <| Qar (pp gb 0) kj kj (fun _=>kj) <| QaK (.slice (some ⟨ge,0,none⟩) 1 ce) kj kj (fun W hR=>(Qab 50 _ gb 0 52 _ (.slice (some ⟨ge,0,none⟩) 1 ce) _ (Qaa (Qaa hgb (Qan _)) hR) rfl kj kj kj)) <| Qar (pp gb 0) kj kj (fun _=>kj) <| Qar (pp gb 0) kj kj (fun _=>kj) <| Qar (pp gb 0) kj kj (fun _=>kj) ?_
  refine QaK (.slice (some ⟨ge,0,none⟩) 1 ce) kj kj (fun W hR=>(Qab 50 _ gb 0 52 _ (.slice (some ⟨ge,0,none⟩) 1 ce) _ (Qaa (Qaa hgb (Qan _)) hR) rfl kj kj kj)) <| Qar (.int .i64 1) kj kj (fun _=>kj) <| Qar (.int .i64 0) kj kj (fun _=>kj) <| Qar (pp ge 0) kj kj (fun _=>kj) <| Qbh (hF _ kj fun W1 e1=>?_)
  simp only [ups,up,Kn.val,zaC,zaD,zaE,zaF,za7,za2]
  clear hF
  refine sg 1 kj <| sgN hK5 <| wp_ret ?_
  exact (show bodyPost _ _ _ .ret _ _ from ret1 (pp ge 0) rfl (Qax kj) ⟨rfl,(zbl (zbh w) e1)⟩)
end Pk
end
section
namespace Pk
open Go Go.RowKit
open Rely Auto Own Sha
open Cha
open Ae hiding run_storeQ
open Cn hiding nb_new run_extractT
open Wk
set_option maxRecDepth 100000 in
theorem Qof (gb ge ce gc:Nat) (tl:Array Value) (grp:List Int) (hgl:grp.length=32) (w:World) (hgb:w.heap[gb]? = some (.cells (cat [#[.slice (some ⟨ge,0,none⟩) 1 ce],#[.bool false]]) 52)) (hge:w.heap[ge]? = some (.cells (cat [#[pp gc 0],ints .u8 grp,#[.int .i64 0],#[.int .i64 0],tl]) 58)) (gl len cap:Nat) (lp:Array Value) (hgc:w.heap[gc]? = some (.cells #[.slice (some ⟨gl,0,none⟩) len cap] 85)) (hgl_:w.heap[gl]? = some (.cells lp 91)) (cg cm:Nat) (hi:0<len) (hli:lp[0]? = some (pp cg 0)) (s0:List Int) (hch:ChSt cg cm s0 [] 0 [] w) (tc tq th tr:TypeId) (hc:w.heap[4]? = some (.cells (ints .u64 QaM) tc)) (hq:w.heap[3]? = some (.cells (ints .u64 Qa5) tq)) (hr4:w.heap[1]? = some (.cells (ints .i64 qQ) tr)) (hh4:w.heap[0]? = some (.cells (ints .u32 qH) th)) (hNc:4∉[cg,cm]) (hNq:3∉[cg,cm]) (hNr:1∉[cg,cm]) (hNh:0∉[cg,cm]) (text fs:List Int) (htl:text.length≤1024) (es:Qds ((keyV (itV s0 0)).take 32) ((keyV (itV s0 0)).drop 32) (grp++[0,0,0,0]++[0]++[0,0,0,0]) text=fs) (hgrb:Qak grp) (v:Value) (hst:∀ W,Qai [cg,cm] w W→RdK .u8 W.heap.size text v W) :
  Calls Tryz.prog 11 #[pp gb 0,v] w (fun x W=>∃ u,x=.returned (.tuple #[.agg (cat [ints .u8 grp,#[.int .i64 0],#[.int .i64 0],#[.int .i64 0],#[u]]),.nilIface])∧Qai [cg,cm] w W∧ChSt cg cm s0 [0] 1 (Qd9 [] s0 0 0) W∧OwnN .u8 5 w.heap.size fs u W):=by
 obtain ⟨a_t,c_t,rfl,-⟩:=id (hst _ (zbq _ _))
 have hctxb:Qak (grp++[0,0,0,0]++[0]++[0,0,0,0]):=fun x hx=>by
  simp only [za6,za4] at hx
  rcases hx with h | h
  ·exact hgrb x h
  ·have:x=0:=by simpa using h
   subst this; exact ⟨by decide,by decide⟩
 have hnl:((keyV (itV s0 0)).drop 32).length=12:=by rw [zaG,QaR]
 refine enter 69 [(0,pp gb 0),(1,.slice a_t text.length c_t)] Tryz.func11 rfl rfl kj rfl <| sgC fun K9 hK9=>Qah (cat [ints .u8 (zai 32 0),#[.int .i64 0],#[.int .i64 0],#[.int .i64 0],#[.slice none 0 0]]) 43 4 rfl kj kj fun g10 W1 l10 e1 r10_1=>?_
 have b10:=qT (zbh w).size l10
 refine sg 1 kj <| sgN hK9 <| sgC fun K11 hK11=>sg 1 kj ?_
 have r1_1:=(Qaa hgb e1)
 refine Qao (pp ge 0) 15 #[pp gb 0] 11 rfl kj kj (Qfw gb ge ce gc tl grp hgl _ r1_1) fun W2 e2=>?_
 have x2:=zbl (zbl (zbh w) e1) e2
 refine sg 1 kj <| sgN hK11 <| wp_seq_k fun K12 hK12=>sgB kj <| cond_false kj <| wp_skip <| hK12 _ _ <| wp_seq_k fun K14 hK14=>sgC fun K15 hK15=>sg 2 kj ?_
 refine sv (.bool false) 18 (Qac (u:=.bool (decide ((text.length:Int)>1024))) kj (congrArg zac (decide_eq_false oo))) <| sgN hK15 <| cond_false kj <| wp_skip <| hK14 _ _ <| wp_seq_k fun K16 hK16=>?_
 have r1_2:=(Qaa r1_1 e2)
 have r2_2:=(Qaa (Qaa hge e1) e2)
 have r3_2:=(Qaa (Qaa hgc e1) e2)
 have r4_2:=(Qaa (Qaa hgl_ e1) e2)
 have r5_2:=(Qaa (Qaa hc e1) e2)
 have r6_2:=(Qaa (Qaa hq e1) e2)
 have r7_2:=(Qaa (Qaa hr4 e1) e2)
 have r8_2:=(Qaa (Qaa hh4 e1) e2)
 have r10_2:=(Qaa r10_1 e2)
 have hch0:ChSt cg cm s0 [] 0 [] W2:=hch.ext x2
 have hcg0:=hch0.glt
 have hcm0:=hch0.mp.lt
 refine Qdt (fun W=>Qai [cg,cm] W2 W) kj fun Ws eWs=>⟨zbs (zbq _ _) eWs,?_⟩
 refine Qbd 0 (pp ge 0) 22 rfl rfl kj kj (fun _ _ _ h=>h) (fun W hR=>kj) <| Qbd 1 (pp ge 0) 23 rfl rfl kj kj (fun _ _ _ h=>h) (fun W hR=>kj) <| Qbd 2 (pp ge 0) 24 rfl rfl kj kj (fun _ _ _ h=>h) (fun W hR=>kj) <| Qbd 3 (pp gc 0) 25 rfl rfl kj kj (fun _ _ _ h=>h) (fun W hR=>(Qab 56 _ ge 0 58 _ (pp gc 0) _ (zbr hR r2_2 (nin r2_2 hch0 dd)) rfl kj (Qap [] [#[pp gc 0]] [ints .u8 (grp),#[.int .i64 0],#[.int .i64 0],tl] 0 kj 0 _ rfl) kj)) <| Qbd 4 (pp ge 0) 26 rfl rfl kj kj (fun _ _ _ h=>h) (fun W hR=>kj) <| Qbd 5 (pp ge 0) 27 rfl rfl kj kj (fun _ _ _ h=>h) (fun W hR=>kj) <| Qbd 6 (pp ge 34) 28 rfl rfl kj kj (fun _ _ _ h=>h) (fun W hR=>kj) <| Qbd 7 (.int .i64 0) 29 rfl rfl kj kj (fun _ _ _ h=>h) (fun W hR=>(Qab 3 _ ge 34 58 _ (.int .i64 0) _ (zbr hR r2_2 (nin r2_2 hch0 dd)) rfl kj (Qap [#[pp gc 0],ints .u8 (grp),#[.int .i64 0]] [#[.int .i64 0]] [tl] 34 (cz1 hgl) 0 _ rfl) kj)) ?_
 refine Qjw 8 12 3 rfl rfl kj kj kj 30 7 rfl rfl kj (fun _=>kj) (fun W=>ChSt cg cm s0 [] 0 [] W) (Qai [cg,cm]) (fun u W=>ChSt cg cm s0 [0] 1 (Qd9 [] s0 0 0) W∧QbZ W2.heap.size 0 (keyV (itV s0 0)) u W) (fun v W=>∃ g,v=pp g 0∧W2.heap.size≤g∧W.heap[g]? = some (.cells (cat [#[.int .i64 0],ints .u8 (zai 32 0),#[.slice none 0 0]]) 76)) (fun u=>[(32,.nilIface),(31,u),(21,.tuple #[u,.nilIface])]) _ _ _ rfl kj (fun u x hx=>by simp only [zaH,zaI,or_false] at hx; rcases hx with rfl | rfl | rfl; exact (by decide:(32:Nat)≠7); exact (by decide:(31:Nat)≠7); exact (by decide:(21:Nat)≠7)) dd (fun _ _ e h=>h.ext e) (fun _ _ h e=>zbs h e) (fun _ _ _ e h=>⟨h.1.ext e,QbZ.ext h.2 e⟩) (fun _ _ _ _ hK h=>by obtain ⟨g,a1,a2,a3⟩:=h; exact ⟨g,a1,a2,zbr hK a3 (Qaw (zaJ (qL hcg0 a2)) (Qaw (zaJ (qL hcm0 a2)) QaF))⟩) (fun W hR hP=>⟨23,#[pp gc 0,.int .i64 0],by kernel_rfl,(show Calls Tryz.prog 23 #[pp gc 0,.int .i64 0] W _ from Qo3 gc gl len cap lp W (zbr hR r3_2 (nin r3_2 hch0 dd)) (zbr hR r4_2 (nin r4_2 hch0 dd)) cg 0 hi hli tc tq (zbr hR r5_2 hNc) (zbr hR r6_2 hNq) hP dd (fun e=>hNc (by simp [←e])) (fun e=>hNq (by simp [←e]))).mono (by rintro e W' ⟨u,rfl,k1,k2,k3⟩; exact ⟨u,rfl,zbu hR k1 (fun c hc=>.inl hc),k1,k2,QbZ.base (Qai.size hR) k3⟩)⟩) (fun L' W hR=>⟨_,_,(by kernel_rfl:_=zaK (Next.value (pp W.heap.size 0)) (W.alloc (.cells (cat [#[.int .i64 0],ints .u8 (zai 32 0),#[.slice none 0 0]]) 76))),Qbi _ _,_,rfl,Qai.size hR,heap_alloc_new _ _⟩) (hch0.ext eWs) (fun u W hR kk=>by refine Qbd 9 (.tuple #[u,.nilIface]) 21 rfl rfl kj kj (fun _ _ _ h=>h) (fun W hR=>kj) ?_; refine Qbd 10 (u) 31 rfl rfl kj kj (fun _ _ _ h=>h) (fun W hR=>kj) ?_; refine Qbd 11 (.nilIface) 32 rfl rfl kj kj (fun _ _ _ h=>h) (fun W hR=>kj) ?_; exact Qf6 12 kj kk) (fun u v2 W hR kk=>by refine Qbd 9 (.tuple #[u,.nilIface]) 21 rfl rfl kj kj (fun _ _ _ h=>h) (fun W hR=>kj) ?_; refine Qbd 10 (u) 31 rfl rfl kj kj (fun _ _ _ h=>h) (fun W hR=>kj) ?_; refine Qbd 11 (.nilIface) 32 rfl rfl kj kj (fun _ _ _ h=>h) (fun W hR=>kj) ?_; exact kk) fun u1 v2 W3 q1 q2 q3=>?_
 obtain ⟨hch2,uo,rfl,hu⟩:=q1
 obtain ⟨g7,rfl,l7,r7_3⟩:=q2
 obtain ⟨a_n,c_n,rfl,-⟩:=id (zbo hu)
 have nb7:=Qnj hu r7_3 dd
 refine Qf6 13 kj (QfU g7 _ (cat [#[.int .i64 0],ints .u8 ((keyV (itV s0 0)).take 32),#[.slice a_n (((keyV (itV s0 0)).drop 32).length) c_n]]) 76 r7_3 rfl rfl kj (Qaf 76 _ _ g7 76 _ _ r7_3 rfl kj kj (isz (n:=34) kj (by rw [Qal,Qal,Qal]; simp only [qS,cat,(izT (Qbm (QaR _)))]; rfl)) (eqsz (n:=34) czR (by rw [Qal,Qal,Qal]; simp only [qS,cat,(izT (Qbm (QaR _)))]; rfl)) (QaQ _ (by intro a ha; simp only [zaH,zaI,or_false] at ha; rcases ha with rfl | rfl | rfl; exact (Qaz _ rfl); exact (Qat _ _); exact (Qaz _ rfl)))) (fun W' p=>zbt q3 p (.inr l7)) fun W4 p4 r7_4=>?_)
 have hu2:=Qgh hu p4 nb7
 have hch3:=hch2.keep (p4.2.2.2.2 cg (zaf (qL hcg0 l7))) (p4.2.2.2.2 cm (zaf (qL hcm0 l7)))
 have hK:Qai [cg,cm] W2 W4:=zbt q3 p4 (.inr l7)
 have hKw:Qai [cg,cm] w W4:=zbu (zbs (zbq _ _) x2) hK (fun c hc=>.inl hc)
 have rk1:=zbj p4 (zbr q3 r1_2 (nin r1_2 hch0 dd)) (zaf (qL (Qaq r1_2) l7))
 have rk2:=zbj p4 (zbr q3 r2_2 (nin r2_2 hch0 dd)) (zaf (qL (Qaq r2_2) l7))
 have rk3:=zbj p4 (zbr q3 r3_2 (nin r3_2 hch0 dd)) (zaf (qL (Qaq r3_2) l7))
 have rk4:=zbj p4 (zbr q3 r4_2 (nin r4_2 hch0 dd)) (zaf (qL (Qaq r4_2) l7))
 have rk5:=zbj p4 (zbr q3 r5_2 hNc) (zaf (qL (Qaq r5_2) l7))
 have rk6:=zbj p4 (zbr q3 r6_2 hNq) (zaf (qL (Qaq r6_2) l7))
 have rk7:=zbj p4 (zbr q3 r7_2 hNr) (zaf (qL (Qaq r7_2) l7))
 have rk8:=zbj p4 (zbr q3 r8_2 hNh) (zaf (qL (Qaq r8_2) l7))
 have rk10:=zbj p4 (zbr q3 r10_2 (nin r10_2 hch0 dd)) (zaf (qL (Qaq r10_2) l7))
 refine Qbd 14 (.nilIface) 8 rfl rfl kj kj (fun _ _ _ h=>h) (fun W hR=>kj) <| Qjv kj ?_
 have nb4:(Value.slice a_n ((keyV (itV s0 0)).drop 32).length c_n).ownBlock≠some g10:=Qcp hu (Qaq r10_2)
 refine hK16 _ _ <| wp_seq_k fun K18 hK18=>sgB kj <| cond_false kj <| wp_skip <| hK18 _ _ <| wp_seq_k fun K20 hK20=>QaT 16 [⟨none,[(6,none)]⟩,⟨none,[(37,some 0)]⟩,⟨none,[(38,some 1)]⟩,⟨none,[(39,some 2)]⟩,⟨none,[(6,none)]⟩,⟨none,[(41,some 4)]⟩,⟨none,[(42,some 5)]⟩,⟨none,[(43,some 6)]⟩,⟨none,[(6,none)]⟩,⟨none,[(45,some 8)]⟩,⟨none,[(46,some 9)]⟩,⟨none,[(47,some 10)]⟩,⟨none,[(7,none)]⟩,⟨none,[(49,some 12)]⟩,⟨none,[(40,some 3),(44,some 7),(48,some 11),(50,some 13)]⟩,⟨none,[]⟩] kj kj fun F hF=>Qa2 (Qam _) (pp ge 0) kj kj (fun _=>kj) <| Qa2 (Qam _) (pp ge 0) kj kj (fun _=>kj) ?_
 refine Qa2 (Qam _) (pp ge 1) kj kj (fun _=>kj) <| QaN (Qam _) (.agg (ints .u8 (grp))) kj kj (fun W hR=>(Qa4 23 _ ge 1 58 _ _ _ (Qaa (Qaa rk2 (Qan _)) hR) rfl kj (Qap [#[pp gc 0]] [ints .u8 (grp)] [#[.int .i64 0],#[.int .i64 0],tl] 1 kj) kj (isz (n:=32) kj (izT hgl)))) <| Qa2 (Qam _) (pp ge 0) kj kj (fun _=>kj) <| Qa2 (Qam _) (pp ge 0) kj kj (fun _=>kj) <| Qa2 (Qam _) (pp ge 33) kj kj (fun _=>kj) <| QaN (Qam _) (.int .i64 0) kj kj (fun W hR=>(Qab 3 _ ge 33 58 _ (.int .i64 0) _ (Qaa (Qaa rk2 (Qan _)) hR) rfl kj (Qap [#[pp gc 0],ints .u8 (grp)] [#[.int .i64 0]] [#[.int .i64 0],tl] 33 (cz1 hgl) 0 _ rfl) kj)) ?_
 refine Qa2 (Qam _) (pp ge 0) kj kj (fun _=>kj) <| Qa2 (Qam _) (pp ge 0) kj kj (fun _=>kj) <| Qa2 (Qam _) (pp ge 34) kj kj (fun _=>kj) <| QaN (Qam _) (.int .i64 0) kj kj (fun W hR=>(Qab 3 _ ge 34 58 _ (.int .i64 0) _ (Qaa (Qaa rk2 (Qan _)) hR) rfl kj (Qap [#[pp gc 0],ints .u8 (grp),#[.int .i64 0]] [#[.int .i64 0]] [tl] 34 (cz1 hgl) 0 _ rfl) kj)) ?_
 refine Qa2 (Qam _) (pp g7 0) kj kj (fun _=>kj) <| QaN (Qam _) (.int .i64 0) kj kj (fun W hR=>(Qab 3 _ g7 0 76 _ (.int .i64 0) _ (Qaa (Qaa r7_4 (Qan _)) hR) rfl kj (Qap [] [#[.int .i64 0]] [ints .u8 ((keyV (itV s0 0)).take 32),#[.slice a_n (((keyV (itV s0 0)).drop 32).length) c_n]] 0 kj 0 _ rfl) kj)) <| Qa2 (Qam _) (.agg (cat [ints .u8 (grp),#[.int .i64 0],#[.int .i64 0],#[.int .i64 0],#[.slice none 0 0]])) kj kj (fun W=>(Qem 43 _ (.agg (cat [ints .u8 (zai 32 0),#[.int .i64 0],#[.int .i64 0],#[.int .i64 0],#[.slice none 0 0]])) #[(0,32),(32,1),(33,1),(34,1),(35,1)] 0 [] (cat [ints .u8 (zai 32 0),#[.int .i64 0],#[.int .i64 0],#[.int .i64 0],#[.slice none 0 0]]) [(0,32,.agg (ints .u8 (grp)),ints .u8 (grp)),(1,1,.int .i64 0,#[.int .i64 0]),(2,1,.int .i64 0,#[.int .i64 0]),(3,1,.int .i64 0,#[.int .i64 0])] [#[.slice none 0 0]] rfl kj rfl ⟨kj,rfl,(izT hgl),kj,rfl,kj,kj,rfl,kj,kj,rfl,kj,trivial⟩ kj (Nat.le_of_ble_eq_true kj) kj kj kj kj)) <| QoR (Qam _) (cat [ints .u8 (zai 32 0),#[.int .i64 0],#[.int .i64 0],#[.int .i64 0],#[.slice none 0 0]]) 43 (NewP.stable _ _ _) kj kj (fun _=>kj) <| Qc3 (hF _ fun W5 e5=>?_)
 simp only [za7,za2,zaC,zaD,zaE,zaF,finE,up]
 intro vv21 hv21
 clear hF
 obtain ⟨g21,rfl,l21,r21_5⟩:=hv21
 have b21:=qT (ExtB.refl g10 W4).2.2.2.1 l21
 refine Qag g21 _ (cat [ints .u8 (grp),#[.int .i64 0],#[.int .i64 0],#[.int .i64 0],#[.slice none 0 0]]) 43 r21_5 rfl kj (Qaf 43 _ _ g21 43 _ _ r21_5 rfl kj kj (isz (n:=36) kj (cz1 hgl)) (eqsz (n:=36) czR (cz1 hgl)) (QaQ _ (by intro a ha; simp only [zaH,zaI,or_false] at ha; rcases ha with rfl | rfl | rfl | rfl | rfl; exact (Qat _ _); exact (Qaz _ rfl); exact (Qaz _ rfl); exact (Qaz _ rfl); exact (Qaz _ rfl)))) fun W6 p6 r21_6=>?_
 have x6:=ExtB.putsN (ExtB.ext (ExtB.refl g10 W4) e5) p6 b21
 refine sgN hK20 <| wp_seq_k fun K22 hK22=>Wk.any_regionEZ 8 [⟨none,[(7,none)]⟩,⟨none,[(53,some 0)]⟩,⟨none,[(7,none)]⟩,⟨none,[(55,some 2)]⟩,⟨none,[(9,none)]⟩,⟨none,[(57,some 4)]⟩,⟨none,[(1,none)]⟩,⟨none,[(54,some 1),(56,some 3),(58,some 5),(59,some 6)]⟩] kj kj fun F hF=>Qa2 (Qam _) (pp g7 1) kj kj (fun _=>kj) ?_
 have r17_6:=(rpn p6 r7_4 e5 l21)
 refine QaN (Qam _) (.agg (ints .u8 ((keyV (itV s0 0)).take 32))) kj kj (fun W hR=>(Qa4 74 _ g7 1 76 _ _ _ (Qaa (Qaa r17_6 (Qan _)) hR) rfl kj (Qap [#[.int .i64 0]] [ints .u8 ((keyV (itV s0 0)).take 32)] [#[.slice a_n (((keyV (itV s0 0)).drop 32).length) c_n]] 1 kj) kj (isz (n:=32) kj (izT (Qbm (QaR _)))))) <| Qa2 (Qam _) (pp g7 33) kj kj (fun _=>kj) <| QaN (Qam _) (.slice a_n (((keyV (itV s0 0)).drop 32).length) c_n) kj kj (fun W hR=>(Qab 41 _ g7 33 76 _ (.slice a_n (((keyV (itV s0 0)).drop 32).length) c_n) _ (Qaa (Qaa r17_6 (Qan _)) hR) rfl kj (Qap [#[.int .i64 0],ints .u8 ((keyV (itV s0 0)).take 32)] [#[.slice a_n (((keyV (itV s0 0)).drop 32).length) c_n]] [] 33 (by rw [Qal,Qal]; simp only [qS,cat,(izT (Qbm (QaR _)))]; rfl) 0 _ rfl) kj)) ?_
 refine QaN (Qam _) (.agg (cat [ints .u8 (grp),#[.int .i64 0],#[.int .i64 0],#[.int .i64 0],#[.slice none 0 0]])) kj kj (fun W hR=>(Qae 43 _ g21 43 _ _ (Qaa (Qaa r21_6 (Qan _)) hR) rfl kj kj (isz (n:=36) kj (cz1 hgl)))) ?_
 refine Qfv (Qam _) (OwnN .u8 5 W6.heap.size (grp++[0,0,0,0]++[0]++[0,0,0,0])) (OwnN.stable _ _ _ _) 25 #[.agg (cat [ints .u8 (grp),#[.int .i64 0],#[.int .i64 0],#[.int .i64 0],#[.slice none 0 0]])] kj kj (fun _=>kj) (fun W hR=>((Qhh grp hgl _ _ _ _).mono fun e W2 hg=>by obtain ⟨v2,e1,e2,e3⟩:=hg; exact ⟨v2,e1,e2,zbn (zbi (Qan _) hR).size e3⟩)) ?_
 refine Qa2 (Qam _) (.slice a_t text.length c_t) kj kj (fun _=>kj) ?_
 have f24_5:=(hu2.ext e5)
 have f25_6:=(f24_5.puts p6 (nb_new hu2 l21))
 refine Qi0 (Qam _) (MixR W6.heap.size fs) (Qfl _ _) 24 (fun ρ W hR hX=>?_) ?_
 ·skip
  have e54_:ρ 54=.agg (ints .u8 ((keyV (itV s0 0)).take 32)):=hX.1
  have e56_:ρ 56=.slice a_n (((keyV (itV s0 0)).drop 32).length) c_n:=hX.2.1
  have q58_:(OwnN .u8 5 W6.heap.size (grp++[0,0,0,0]++[0]++[0,0,0,0])) (ρ 58) W:=hX.2.2.1
  obtain ⟨ar58,cr58,e58_,-⟩:=id (zbo q58_)
  have rd58_:=zbo q58_
  rw [e58_] at rd58_
  have e59_:ρ 59=.slice a_t text.length c_t:=hX.2.2.2.1
  refine ⟨#[.agg (ints .u8 ((keyV (itV s0 0)).take 32)),.slice a_n (((keyV (itV s0 0)).drop 32).length) c_n,.slice ar58 ((grp++[0,0,0,0]++[0]++[0,0,0,0]).length) cr58,.slice a_t text.length c_t],Eq.trans (b:=zaK (Next.enter 24 #[ρ 54,ρ 56,ρ 58,ρ 59]) W) kj (by rw [e54_,e56_,e58_,e59_]),?_⟩
  exact ((QoZ ((keyV (itV s0 0)).take 32) ((keyV (itV s0 0)).drop 32) (grp++[0,0,0,0]++[0]++[0,0,0,0]) text _ _ _ _ _ _ th tr W (Qaa (Qaa (rpn p6 rk8 e5 l21) (Qan _)) hR) (Qaa (Qaa (rpn p6 rk7 e5 l21) (Qan _)) hR) (Qbm (QaR _)) (RdK.ext (zbo f25_6) (zbi (Qan _) hR)) rd58_ (RdK.ext (hst _ (Qai.but hKw x6 (.inr b10))) (zbi (Qan _) hR)) hctxb hnl (by simp [hgl]) oo).mono fun e W2 hg=>by obtain ⟨v2,e1,e2,u,e3,e4⟩:=hg; rw [es] at e4; exact ⟨v2,e1,e2,u,e3,e4.base (zbi (Qan _) hR).size⟩)
 refine Qc3 (hF _ fun W7 e7=>?_)
 simp only [za7,za2,zaC,zaD,zaE,zaF,finE,up]
 intro vv23 hv23 vv26 hv26
 clear hF
 obtain ⟨a27_,c27_,rfl,-⟩:=id (zbo hv23)
 obtain ⟨uu28,rfl,huu28⟩:=hv26
 obtain ⟨au28,cu28,rfl,-⟩:=id (zbo huu28)
 refine (show Wk.WZ _ _ _ 6 #[true,true,true,true,true,true,true,true,false,false,false,false,false,false] _ _ from ?_)
 refine Wk.wz_val 8 (.tuple #[.slice au28 ((fs).length) cu28,.nilIface]) 52 rfl rfl kj kj (fun _ _ _ h=>h) (fun _=>kj) <| Wk.wz_val 9 (.slice au28 ((fs).length) cu28) 61 rfl rfl kj kj (fun _ _ _ h=>h) (fun _=>kj) <| Wk.wz_val 10 (.nilIface) 62 rfl rfl kj kj (fun _ _ _ h=>h) (fun _=>kj) <| Wk.wz_val 11 (pp g21 35) 63 rfl rfl kj kj (fun _ _ _ h=>h) (fun _=>kj) ?_
 have r21_7:=(Qaa r21_6 e7)
 refine Wk.wz_store 12 g21 _ (cat [ints .u8 (grp),#[.int .i64 0],#[.int .i64 0],#[.int .i64 0],#[.slice au28 ((fs).length) cu28]]) 43 r21_7 kj rfl rfl kj (run_storeQ 41 _ _ g21 35 43 [ints .u8 (grp),#[.int .i64 0],#[.int .i64 0],#[.int .i64 0]] [] _ (.slice au28 ((fs).length) cu28) r21_7 rfl kj kj kj (cz1 hgl) rfl rfl) fun W8 p8 r21_8=>?_
 refine Wk.wz_val 13 (.nilIface) 8 rfl rfl kj kj (fun _ _ _ h=>h) (fun _=>kj) <| Wk.wz_nil kj <| hK22 _ _ <| wp_seq_k fun K29 hK29=>sgB kj <| cond_false kj <| wp_skip <| hK29 _ _ <| sgC fun K31 hK31=>sv (.agg (cat [ints .u8 (grp),#[.int .i64 0],#[.int .i64 0],#[.int .i64 0],#[.slice au28 ((fs).length) cu28]])) 68 (Qae 43 _ g21 43 _ _ r21_8 rfl kj kj (isz (n:=36) kj (cz1 hgl))) ?_
 have r10_6:=(rpn p6 rk10 e5 l21)
 have r10_8:=(zbj p8 (Qaa r10_6 e7) (Qad rk10 l21))
 refine Qag g10 _ (cat [ints .u8 (grp),#[.int .i64 0],#[.int .i64 0],#[.int .i64 0],#[.slice au28 ((fs).length) cu28]]) 43 r10_8 rfl kj (Qaf 43 _ _ g10 43 _ _ r10_8 rfl kj kj (isz (n:=36) kj (cz1 hgl)) (eqsz (n:=36) czR (cz1 hgl)) (QaQ _ (by intro a ha; simp only [zaH,zaI,or_false] at ha; rcases ha with rfl | rfl | rfl | rfl | rfl; exact (Qat _ _); exact (Qaz _ rfl); exact (Qaz _ rfl); exact (Qaz _ rfl); exact (Qaz _ rfl)))) fun W9 p9 r10_9=>?_
 have x9:=ExtB.puts (ExtB.putsN (ExtB.ext x6 e7) p8 b21) p9
 refine sg 1 kj <| sgN hK31 <| wp_ret ?_
 have f32_8:=(huu28.puts p8 (Qcp huu28 (Qaq r21_6)))
 have f33_9:=(f32_8.puts p9 (Qcp huu28 (Qaq r10_6)))
 exact (show bodyPost _ _ _ .ret _ _ from ret2 (.agg (cat [ints .u8 (grp),#[.int .i64 0],#[.int .i64 0],#[.int .i64 0],#[.slice au28 ((fs).length) cu28]])) (.nilIface) rfl (QaJ g10 43 _ r10_9 kj kj (isz (n:=36) kj (cz1 hgl))) (Qax kj) ⟨_,rfl,Qai.but hKw x9 (.inr b10),hch3.keep (x9.2.2.2.2 cg hch3.glt (zaf (qL hch.glt b10))) (x9.2.2.2.2 cm hch3.mp.lt (zaf (qL hch.mp.lt b10))),zbn (qT hKw.size x6.2.2.2.1) f33_9⟩)
end Pk
end
section
namespace Pk
open Go Go.RowKit
open Rely Auto Own Sha
open Cha
open Ae hiding run_storeQ
open Cn hiding nb_new run_extractT
theorem of_1 (gb ge ce gc:Nat) (tl:Array Value) (grp:List Int) (hgl:grp.length=32) (w:World) (hgb:w.heap[gb]? = some (.cells (cat [#[.slice (some ⟨ge,0,none⟩) 1 ce],#[.bool false]]) 52)) (hge:w.heap[ge]? = some (.cells (cat [#[pp gc 0],ints .u8 grp,#[.int .i64 0],#[.int .i64 1],tl]) 58)) (a_s:Option Addr) (n_s c_s:Nat):Calls Tryz.prog 27 #[pp gb 0,.agg (cat [ints .u8 grp,#[.int .i64 0],#[.int .i64 0],#[.int .i64 0],#[.slice a_s n_s c_s]])] w (Ret w (pp ge 0)):=by
  refine enter 39 [(0,pp gb 0),(1,.agg (cat [ints .u8 (grp),#[.int .i64 0],#[.int .i64 0],#[.int .i64 0],#[.slice a_s n_s c_s]]))] Tryz.func27 rfl rfl kj rfl <| sgC fun K3 hK3=>Qah (cat [ints .u8 (grp),#[.int .i64 0],#[.int .i64 0],#[.int .i64 0],#[.slice a_s n_s c_s]]) 43 3 rfl kj kj fun g4 W1 l4 e1 r4_1=>?_
  have b4:=qT (zbh w).size l4
  refine sg 1 kj <| sgN hK3 <| wp_seq_k fun K5 hK5=>sgC fun K6 hK6=>sg 3 kj ?_
  have r1_1:=(Qaa hgb e1)
  refine sv (.slice (some ⟨ge,0,none⟩) 1 ce) 10 (Qab 50 _ gb 0 52 _ (.slice (some ⟨ge,0,none⟩) 1 ce) _ r1_1 rfl kj kj kj) <| sg 2 kj <| sgN hK6 <| wp_block <| wp_loop_rounds 1 ?_
  show zaL _ _ (Exit.then (zaM _ _ _ 0) _) _ _
  refine sgB kj <| sgT kj <| wp_seq_k fun K9 hK9=>wp_block <| sgB kj <| sgC fun K11 hK11=>sg 3 kj <| sv (.slice (some ⟨ge,0,none⟩) 1 ce) 18 (Qab 50 _ gb 0 52 _ (.slice (some ⟨ge,0,none⟩) 1 ce) _ r1_1 rfl kj kj kj) <| sg 3 kj <| sgN hK11 ?_
  refine wp_seq_k fun K12 hK12=>Qba 16 [⟨none,[(6,none)]⟩,⟨none,[(21,some 0)]⟩,⟨none,[(22,some 1)]⟩,⟨none,[(23,some 2)]⟩,⟨none,[(3,none)]⟩,⟨none,[(25,some 4)]⟩,⟨none,[(24,some 3),(26,some 5)]⟩,⟨none,[(27,some 6)]⟩,⟨some (28,true),[(6,none),(28,some 7)]⟩,⟨some (28,true),[(29,some 8),(28,some 7)]⟩,⟨some (28,true),[(30,some 9),(28,some 7)]⟩,⟨some (28,true),[(31,some 10),(28,some 7)]⟩,⟨some (28,true),[(3,none),(28,some 7)]⟩,⟨some (28,true),[(33,some 12),(28,some 7)]⟩,⟨some (28,true),[(32,some 11),(34,some 13),(28,some 7)]⟩,⟨none,[(28,some 7),(35,some 14)]⟩] kj kj fun F hF=>Qar (pp ge 0) kj kj (fun _=>kj) <| Qar (pp ge 0) kj kj (fun _=>kj) <| Qar (pp ge 33) kj kj (fun _=>kj) ?_
  have r2_1:=(Qaa hge e1)
  refine QaK (.int .i64 0) kj kj (fun W hR=>(Qab 3 _ ge 33 58 _ (.int .i64 0) _ (Qaa (Qaa r2_1 (Qan _)) hR) rfl kj (Qap [#[pp gc 0],ints .u8 (grp)] [#[.int .i64 0]] [#[.int .i64 1],tl] 33 (cz1 hgl) 0 _ rfl) kj)) ?_
  refine Qar (pp g4 32) kj kj (fun _=>kj) <| QaK (.int .i64 0) kj kj (fun W hR=>(Qab 3 _ g4 32 43 _ (.int .i64 0) _ (Qaa (Qaa r4_1 (Qan _)) hR) rfl kj (Qap [ints .u8 (grp)] [#[.int .i64 0]] [#[.int .i64 0],#[.int .i64 0],#[.slice a_s n_s c_s]] 32 (izT hgl) 0 _ rfl) kj)) <| Qar (.bool true) kj kj (fun _=>kj) <| Qar (.bool true) kj kj (fun _=>kj) <| Qar (pp ge 0) kj kj (fun _=>kj) <| Qar (pp ge 0) kj kj (fun _=>kj) <| Qar (pp ge 1) kj kj (fun _=>kj) <| QaK (.agg (ints .u8 (grp))) kj kj (fun W hR=>(Qa4 23 _ ge 1 58 _ _ _ (Qaa (Qaa r2_1 (Qan _)) hR) rfl kj (Qap [#[pp gc 0]] [ints .u8 (grp)] [#[.int .i64 0],#[.int .i64 1],tl] 1 kj) kj (isz (n:=32) kj (izT hgl)))) <| Qar (pp g4 0) kj kj (fun _=>kj) <| QaK (.agg (ints .u8 (grp))) kj kj (fun W hR=>(Qa4 23 _ g4 0 43 _ _ _ (Qaa (Qaa r4_1 (Qan _)) hR) rfl kj (Qap [] [ints .u8 (grp)] [#[.int .i64 0],#[.int .i64 0],#[.int .i64 0],#[.slice a_s n_s c_s]] 0 kj) kj (isz (n:=32) kj (izT hgl)))) ?_
  refine Qar (.bool true) kj kj (fun W=>(Qhw 23 _ _ _ _ _ (.bool true) rfl kj kj kj (QkE 23 (e:=5) (k:=.u8) (grp) (grp) (decide_eq_true rfl) hgl hgl kj kj kj _))) <| Qar (.bool true) kj kj (fun _=>kj) <| Qbh (hF _ kj fun W2 e2=>?_)
  simp only [ups,up,Kn.val,zaC,zaD,zaE,zaF,za7,za2]
  clear hF
  refine sgN hK12 <| cond_true kj <| sgB kj <| wp_ret ?_
  exact (show bodyPost _ _ _ .ret _ _ from ret1 (pp ge 0) rfl (Qax kj) ⟨rfl,(zbl (zbl (zbh w) e1) e2)⟩)
theorem Qff {xs ys:List Int} (h:xs.length+ys.length≤65536):Wr.rawS (some xs) ys=some (xs++ys):=by
  unfold Wr.rawS
  simp [h]
theorem QgQ (n : Int):∀ (k:Nat) (xs:List Int),xs.length+k≤65536→∃ ys,ys.length=xs.length+k∧Wr.numR n k (some xs)=some ys
  | 0,xs,_=>⟨xs,rfl,rfl⟩
  | k+1,xs,h=>by
    obtain ⟨ys,h1,h2⟩:=QgQ n k (xs++[Wr.byV n k]) (by simp; omega)
    refine ⟨ys,by rw [h1]; simp; omega,?_⟩
    show Wr.numR n k (Wr.rawS (some xs) [Wr.byV n k])=_
    rw [Qff (by simp; omega)]; exact h2
theorem QdV {n : Int} {k:Nat} {xs:List Int} (ho:Wr.okN n k=true) (h:xs.length+k≤65536):∃ ys,ys.length=xs.length+k∧Wr.numS (some xs) n k=some ys:=by
  unfold Wr.numS Wr.mustS
  rw [ho]
  exact QgQ n k xs h
theorem Qne {n : Nat} (h:n≤1040):Wr.okN (n:Int) 2=true:=by
  unfold Wr.okN
  have h1:(n:Int).fdiv (2^(8*2))=0:=by
    rw [Int.fdiv_eq_ediv_of_nonneg _ dd]
    exact Int.ediv_eq_zero_of_lt oo (by show (n:Int)<65536; omega)
  rw [h1]
  simp
theorem QfH (grp fs:List Int) (hg:grp.length=32) (hf:fs.length≤1040):∃ xs,Wr.packS (some []) grp 0 0 0 fs=some xs:=by
  unfold Wr.packS Wr.leafS Wr.bytS
  rw [Qff (by simp [hg])]
  obtain ⟨y1,l1,e1⟩:=QdV (n:=0) (k:=4) (xs:=[]++grp) dd (by simp [hg])
  rw [e1]
  obtain ⟨y2,l2,e2⟩:=QdV (n:=0) (k:=1) (xs:=y1) dd (by rw [l1]; simp [hg])
  rw [show Wr.mustS (some y1) (decide ((0:Int)<32))=some y1 from rfl,e2]
  obtain ⟨y3,l3,e3⟩:=QdV (n:=0) (k:=4) (xs:=y2) dd (by rw [l2,l1]; simp [hg])
  rw [e3]
  obtain ⟨y4,l4,e4⟩:=QdV (n:=(fs.length:Int)) (k:=2) (xs:=y3) (Qne hf) (by rw [l3,l2,l1]; simp [hg])
  rw [e4]
  exact ⟨_,Qff (by rw [l4,l3,l2,l1]; simp [hg]; omega)⟩
end Pk
end
section
namespace Pk
open Go Go.RowKit
open Rely Auto Own Sha
open Cha
open Ae hiding run_storeQ
open Cn hiding nb_new run_extractT
open Wk
open Ae in
theorem Qg8 (key nonce ctx text:List Int):(Qds key nonce ctx text).take ((Qds key nonce ctx text).length-16)=mixV (Qbb key nonce) 1 text:=by
  rw [QcV]; unfold Qds
  rw [zaN (by rw [QbW]; omega),zaO (by rw [QbW]; omega)]
theorem Qj9 (key nonce ctx text:List Int):(Qds key nonce ctx text).drop ((Qds key nonce ctx text).length-16)=Qdy key nonce ctx (mixV (Qbb key nonce) 1 text):=by
  rw [QcV]; unfold Qds
  rw [zaP (by rw [QbW]; omega),List.drop_of_length_le (by rw [QbW]; omega),za7]
theorem QkU (key nonce ctx text:List Int) (v v2 v3:Value) (B B2 B3:Nat) (th tq:TypeId) (w:World) (hh:w.heap[0]? = some (.cells (ints .u32 qH) th)) (hq:w.heap[1]? = some (.cells (ints .i64 qQ) tq)) (hkl:key.length=32) (hn:RdK .u8 B nonce v w) (hc:RdK .u8 B2 ctx v2 w) (ht:RdK .u8 B3 (Qds key nonce ctx text) v3 w) (hcb:Qak ctx) (htb:Qak text) (h:nonce.length=12) (hcl:ctx.length≤1048576) (hxl:text.length≤1048576) :
    Calls Tryz.prog 29 #[.agg (ints .u8 key),v,v2,v3] w (Qby w (MixR w.heap.size text)):=by
  have h1:=Qpb key nonce ctx (Qds key nonce ctx text) v v2 v3 B B2 B3 th tq w hh hq hkl hn hc ht hcb (QdB _ _ _ _) h oo (by rw [QcV]; omega) (by rw [QcV]; omega) (by rw [Qg8,Qj9])
  rw [Qg8,Qnp _ _ _ htb] at h1
  exact h1
theorem Qoy (key nonce ctx text fs:List Int) (es:Qds key nonce ctx text=fs) (v v2 v3:Value) (B B2 B3:Nat) (th tq:TypeId) (w:World) (hh:w.heap[0]? = some (.cells (ints .u32 qH) th)) (hq:w.heap[1]? = some (.cells (ints .i64 qQ) tq)) (hkl:key.length=32) (hn:RdK .u8 B nonce v w) (hc:RdK .u8 B2 ctx v2 w) (ht:RdK .u8 B3 fs v3 w) (hcb:Qak ctx) (htb:Qak text) (h:nonce.length=12) (hcl:ctx.length≤1048576) (hxl:text.length≤1048576) :
    Calls Tryz.prog 29 #[.agg (ints .u8 key),v,v2,v3] w (Qby w (MixR w.heap.size text)):=by
  subst es
  exact QkU key nonce ctx text v v2 v3 B B2 B3 th tq w hh hq hkl hn hc ht hcb htb h hcl hxl
theorem QjW {k : IntKind} {T:TypeId} {b cg cm:Nat} {xs:List Int} {v:Value} {W W':World} (h:OwnN k T b xs v W) (q:Qai [cg,cm] W W') (h1:v.ownBlock≠some cg) (h2:v.ownBlock≠some cm):OwnN k T b xs v W' :=
  h.keep fun g hg=>q.block g (h.lt hg) (Qaw (fun e=>h1 (by rw [hg,e])) (Qaw (fun e=>h2 (by rw [hg,e])) QaF))
set_option maxRecDepth 100000 in
theorem Qox (gb ge ce gc:Nat) (tl:Array Value) (grp:List Int) (hgl:grp.length=32) (w:World) (hgb:w.heap[gb]? = some (.cells (cat [#[.slice (some ⟨ge,0,none⟩) 1 ce],#[.bool false]]) 52)) (hge:w.heap[ge]? = some (.cells (cat [#[pp gc 0],ints .u8 grp,#[.int .i64 0],#[.int .i64 1],tl]) 58)) (gl len cap:Nat) (lp:Array Value) (hgc:w.heap[gc]? = some (.cells #[.slice (some ⟨gl,0,none⟩) len cap] 85)) (hgl_:w.heap[gl]? = some (.cells lp 91)) (cg cm:Nat) (hi:0<len) (hli:lp[0]? = some (pp cg 0)) (s0:List Int) (hch:ChSt cg cm s0 [] 0 [] w) (tc tq th tr:TypeId) (hc:w.heap[4]? = some (.cells (ints .u64 QaM) tc)) (hq:w.heap[3]? = some (.cells (ints .u64 Qa5) tq)) (hr4:w.heap[1]? = some (.cells (ints .i64 qQ) tr)) (hh4:w.heap[0]? = some (.cells (ints .u32 qH) th)) (hNc:4∉[cg,cm]) (hNq:3∉[cg,cm]) (hNr:1∉[cg,cm]) (hNh:0∉[cg,cm]) (text fs:List Int) (htl:text.length≤1024) (htb:Qak text) (es:Qds ((keyV (itV s0 0)).take 32) ((keyV (itV s0 0)).drop 32) (grp++[0,0,0,0]++[0]++[0,0,0,0]) text=fs) (hgrb:Qak grp) (v:Value) (hst:∀ W,Ext w W→RdK .u8 W.heap.size fs v W) :
  Calls Tryz.prog 12 #[pp gb 0,.agg (cat [ints .u8 grp,#[.int .i64 0],#[.int .i64 0],#[.int .i64 0],#[v]])] w (fun x W=>∃ u,x=.returned (.tuple #[u,.nilIface])∧Qai [cg,cm] w W∧ChSt cg cm s0 [0] 1 (Qd9 [] s0 0 0) W∧OwnN .u8 5 w.heap.size text u W):=by
 obtain ⟨a_s,c_s,rfl,-⟩:=id (hst _ (zbh _))
 have hctxb:Qak (grp++[0,0,0,0]++[0]++[0,0,0,0]):=fun x hx=>by
  simp only [za6,za4] at hx
  rcases hx with h | h
  ·exact hgrb x h
  ·have:x=0:=by simpa using h
   subst this; exact ⟨by decide,by decide⟩
 have hnl:((keyV (itV s0 0)).drop 32).length=12:=by rw [zaG,QaR]
 have hfl:fs.length=text.length+16:=by rw [←es]; exact QcV _ _ _ _
 have hfb:Qak fs:=es▸QdB _ _ _ _
 obtain ⟨xs,hxs⟩:=QfH grp fs hgl oo
 refine enter 91 [(0,pp gb 0),(1,.agg (cat [ints .u8 (grp),#[.int .i64 0],#[.int .i64 0],#[.int .i64 0],#[.slice a_s fs.length c_s]]))] Tryz.func12 rfl rfl kj rfl <| sgC fun K9 hK9=>Qah (cat [ints .u8 (grp),#[.int .i64 0],#[.int .i64 0],#[.int .i64 0],#[.slice a_s fs.length c_s]]) 43 3 rfl kj kj fun g10 W1 l10 e1 r10_1=>?_
 have b10:=qT (zbh w).size l10
 refine sg 2 kj <| sgN hK9 <| wp_seq_k fun K11 hK11=>sgC fun K12 hK12=>sg 1 kj ?_
 have r1_1:=(Qaa hgb e1)
 refine Qao (pp ge 0) 15 #[pp gb 0] 15 rfl kj kj (Qfw gb ge ce gc tl grp hgl _ r1_1) fun W2 e2=>?_
 have x2:=zbl (zbl (zbh w) e1) e2
 refine sg 1 kj <| sgN hK12 <| cond_false kj <| wp_skip <| hK11 _ _ <| wp_seq_k fun K13 hK13=>sgC fun K14 hK14=>?_
 have r10_2:=(Qaa r10_1 e2)
 refine sv (.agg (cat [ints .u8 (grp),#[.int .i64 0],#[.int .i64 0],#[.int .i64 0],#[.slice a_s fs.length c_s]])) 19 (Qae 43 _ g10 43 _ _ r10_2 rfl kj kj (isz (n:=36) kj (cz1 hgl))) ?_
 refine Qau (fun v W'=>(Wr.PutR W2.heap.size (some xs)) v W'∧Ext W2 W') 26 #[.agg (cat [ints .u8 (grp),#[.int .i64 0],#[.int .i64 0],#[.int .i64 0],#[.slice a_s fs.length c_s]])] 20 rfl kj kj ((Wr.PutPacket_S grp 0 0 0 fs a_s c_s _ hgl hgrb oo hfb (hst _ x2) xs hxs).mono mo1) fun vv16 W3 hh16=>?_
 obtain ⟨hv16,e3⟩:=hh16
 obtain ⟨pu15,rfl,hpu15⟩:=hv16
 refine sg 5 kj <| sgN hK14 <| sgB kj <| cond_false kj <| wp_skip <| hK13 _ _ <| wp_seq_k fun K18 hK18=>sgC fun K19 hK19=>sg 1 kj ?_
 have r10_3:=(Qaa r10_2 e3)
 refine sv (.slice a_s fs.length c_s) 27 (Qab 41 _ g10 35 43 _ (.slice a_s fs.length c_s) _ r10_3 rfl kj (Qap [ints .u8 (grp),#[.int .i64 0],#[.int .i64 0],#[.int .i64 0]] [#[.slice a_s fs.length c_s]] [] 35 (cz1 hgl) 0 _ rfl) kj) ?_
 refine sg 1 kj <| sv (.bool false) 29 (Qac (u:=.bool (decide ((fs.length:Int)>1040))) kj (congrArg zac (decide_eq_false oo))) <| sgN hK19 <| cond_false kj <| wp_skip <| hK18 _ _ <| sgC fun K20 hK20=>sg 1 kj <| sv (.agg (cat [ints .u8 (grp),#[.int .i64 0],#[.int .i64 0],#[.int .i64 0],#[.slice a_s fs.length c_s]])) 32 (Qae 43 _ g10 43 _ _ r10_3 rfl kj kj (isz (n:=36) kj (cz1 hgl))) ?_
 have r1_3:=(Qaa (Qaa r1_1 e2) e3)
 have r2_3:=(Qaa (Qaa (Qaa hge e1) e2) e3)
 refine Qao (pp ge 0) 27 #[pp gb 0,.agg (cat [ints .u8 (grp),#[.int .i64 0],#[.int .i64 0],#[.int .i64 0],#[.slice a_s fs.length c_s]])] 33 rfl kj kj (of_1 gb ge ce gc tl grp hgl _ r1_3 r2_3 a_s _ c_s) fun W4 e4=>sg 1 kj <| sgN hK20 <| wp_seq_k fun K21 hK21=>sgB kj <| cond_false kj <| wp_skip <| hK21 _ _ <| wp_seq_k fun K23 hK23=>wp_seq_k fun K24 hK24=>?_
 refine Qba 7 [⟨none,[(3,none)]⟩,⟨none,[(37,some 0)]⟩,⟨none,[(8,none)]⟩,⟨none,[(39,some 2)]⟩,⟨none,[(40,some 3)]⟩,⟨none,[(41,some 4)]⟩,⟨none,[(38,some 1),(42,some 5)]⟩] kj kj fun F hF=>Qar (pp g10 33) kj kj (fun _=>kj) ?_
 have r10_4:=(Qaa r10_3 e4)
 refine QaK (.int .i64 0) kj kj (fun W hR=>(Qab 3 _ g10 33 43 _ (.int .i64 0) _ (Qaa (Qaa r10_4 (Qan _)) hR) rfl kj (Qap [ints .u8 (grp),#[.int .i64 0]] [#[.int .i64 0]] [#[.int .i64 0],#[.slice a_s fs.length c_s]] 33 (cz1 hgl) 0 _ rfl) kj)) ?_
 refine Qar (pp ge 0) kj kj (fun _=>kj) <| Qar (pp ge 0) kj kj (fun _=>kj) <| Qar (pp ge 34) kj kj (fun _=>kj) ?_
 have r2_4:=(Qaa r2_3 e4)
 refine QaK (.int .i64 1) kj kj (fun W hR=>(Qab 3 _ ge 34 58 _ (.int .i64 1) _ (Qaa (Qaa r2_4 (Qan _)) hR) rfl kj (Qap [#[pp gc 0],ints .u8 (grp),#[.int .i64 0]] [#[.int .i64 1]] [tl] 34 (cz1 hgl) 0 _ rfl) kj)) ?_
 refine Qar (.bool false) kj kj (fun _=>kj) <| Qbh (hF _ kj fun W5 e5=>?_)
 simp only [ups,up,Kn.val,zaC,zaD,zaE,zaF,za7,za2]
 clear hF
 have x5:=zbl (zbl (zbl x2 e3) e4) e5
 refine sgN hK24 <| cond_false kj <| wp_skip <| hK23 _ _ <| wp_seq_k fun K25 hK25=>?_
 have r1_5:=(Qaa (Qaa r1_3 e4) e5)
 have r2_5:=(Qaa r2_4 e5)
 have r3_5:=(Qaa (Qaa (Qaa (Qaa (Qaa hgc e1) e2) e3) e4) e5)
 have r4_5:=(Qaa (Qaa (Qaa (Qaa (Qaa hgl_ e1) e2) e3) e4) e5)
 have r5_5:=(Qaa (Qaa (Qaa (Qaa (Qaa hc e1) e2) e3) e4) e5)
 have r6_5:=(Qaa (Qaa (Qaa (Qaa (Qaa hq e1) e2) e3) e4) e5)
 have r7_5:=(Qaa (Qaa (Qaa (Qaa (Qaa hr4 e1) e2) e3) e4) e5)
 have r8_5:=(Qaa (Qaa (Qaa (Qaa (Qaa hh4 e1) e2) e3) e4) e5)
 have r10_5:=(Qaa r10_4 e5)
 have hch0a:ChSt cg cm s0 [] 0 [] W5:=hch.ext x5
 have hcg0a:=hch0a.glt
 have hcm0a:=hch0a.mp.lt
 refine Qdt (fun W=>Ext W5 W) kj fun Wsa eWsa=>⟨eWsa,?_⟩
 refine Qbd 0 (pp ge 0) 46 rfl rfl kj kj (fun _ _ _ h=>h) (fun W hR=>kj) <| Qbd 1 (pp ge 0) 47 rfl rfl kj kj (fun _ _ _ h=>h) (fun W hR=>kj) <| Qbd 2 (pp ge 0) 48 rfl rfl kj kj (fun _ _ _ h=>h) (fun W hR=>kj) <| Qbd 3 (pp gc 0) 49 rfl rfl kj kj (fun _ _ _ h=>h) (fun W hR=>(Qab 56 _ ge 0 58 _ (pp gc 0) _ (Qaa r2_5 hR) rfl kj (Qap [] [#[pp gc 0]] [ints .u8 (grp),#[.int .i64 0],#[.int .i64 1],tl] 0 kj 0 _ rfl) kj)) <| Qbd 4 (pp g10 33) 50 rfl rfl kj kj (fun _ _ _ h=>h) (fun W hR=>kj) <| Qbd 5 (.int .i64 0) 51 rfl rfl kj kj (fun _ _ _ h=>h) (fun W hR=>(Qab 3 _ g10 33 43 _ (.int .i64 0) _ (Qaa r10_5 hR) rfl kj (Qap [ints .u8 (grp),#[.int .i64 0]] [#[.int .i64 0]] [#[.int .i64 0],#[.slice a_s fs.length c_s]] 33 (cz1 hgl) 0 _ rfl) kj)) ?_
 refine Qbd 6 (pp g10 34) 52 rfl rfl kj kj (fun _ _ _ h=>h) (fun W hR=>kj) <| Qbd 7 (.int .i64 0) 53 rfl rfl kj kj (fun _ _ _ h=>h) (fun W hR=>(Qab 3 _ g10 34 43 _ (.int .i64 0) _ (Qaa r10_5 hR) rfl kj (Qap [ints .u8 (grp),#[.int .i64 0],#[.int .i64 0]] [#[.int .i64 0]] [#[.slice a_s fs.length c_s]] 34 (cz1 hgl) 0 _ rfl) kj)) ?_
 refine Qjw 8 12 3 rfl rfl kj kj kj 54 9 rfl rfl kj (fun _=>kj) (fun W=>ChSt cg cm s0 [] 0 [] W) Ext (fun u W=>ChSt cg cm s0 [] 0 [] W∧QbZ W5.heap.size 0 (keyV (itV s0 0)) u W) (fun v W=>∃ g,v=pp g 0∧W5.heap.size≤g∧W.heap[g]? = some (.cells (cat [#[.int .i64 0],ints .u8 (zai 32 0),#[.slice none 0 0]]) 76)) (fun u=>[(56,.nilIface),(55,u),(45,.tuple #[u,.nilIface])]) _ _ _ rfl kj (fun u x hx=>by simp only [zaH,zaI,or_false] at hx; rcases hx with rfl | rfl | rfl; exact (by decide:(56:Nat)≠9); exact (by decide:(55:Nat)≠9); exact (by decide:(45:Nat)≠9)) dd (fun _ _ e h=>h.ext e) (fun _ _ h e=>zbl h e) (fun _ _ _ e h=>⟨h.1.ext e,QbZ.ext h.2 e⟩) (fun _ _ _ _ hK h=>by obtain ⟨g,a1,a2,a3⟩:=h; exact ⟨g,a1,a2,Qaa a3 hK⟩) (fun W hR hP=>⟨28,#[pp gc 0,.int .i64 0,.int .i64 0],by kernel_rfl,(show Calls Tryz.prog 28 #[pp gc 0,.int .i64 0,.int .i64 0] W _ from QoF gc gl len cap lp W (Qaa r3_5 hR) (Qaa r4_5 hR) cg 0 hi hli tc tq (Qaa r5_5 hR) (Qaa r6_5 hR) hP 0 dd).mono (by rintro e W' ⟨v,rfl,k1,u,rfl,k3⟩; exact ⟨u,rfl,zbl hR k1,k1,hP.ext k1,QbZ.base hR.size k3⟩)⟩) (fun L' W hR=>⟨_,_,(by kernel_rfl:_=zaK (Next.value (pp W.heap.size 0)) (W.alloc (.cells (cat [#[.int .i64 0],ints .u8 (zai 32 0),#[.slice none 0 0]]) 76))),Qbi _ _,_,rfl,hR.size,heap_alloc_new _ _⟩) (hch0a.ext eWsa) (fun u W hR kk=>by refine Qbd 9 (.tuple #[u,.nilIface]) 45 rfl rfl kj kj (fun _ _ _ h=>h) (fun W hR=>kj) ?_; refine Qbd 10 (u) 55 rfl rfl kj kj (fun _ _ _ h=>h) (fun W hR=>kj) ?_; refine Qbd 11 (.nilIface) 56 rfl rfl kj kj (fun _ _ _ h=>h) (fun W hR=>kj) ?_; exact Qf6 12 kj kk) (fun u v2 W hR kk=>by refine Qbd 9 (.tuple #[u,.nilIface]) 45 rfl rfl kj kj (fun _ _ _ h=>h) (fun W hR=>kj) ?_; refine Qbd 10 (u) 55 rfl rfl kj kj (fun _ _ _ h=>h) (fun W hR=>kj) ?_; refine Qbd 11 (.nilIface) 56 rfl rfl kj kj (fun _ _ _ h=>h) (fun W hR=>kj) ?_; exact kk) fun u1 v2 W6 q1 q2 e6=>?_
 obtain ⟨hch2a,uo,rfl,hua⟩:=q1
 obtain ⟨g7a,rfl,l7a,r7a_6⟩:=q2
 obtain ⟨a_na,c_na,rfl,-⟩:=id (zbo hua)
 have nb7a:=Qnj hua r7a_6 dd
 have b7a:=qT x5.size l7a
 refine Qf6 13 kj (QfU g7a _ (cat [#[.int .i64 0],ints .u8 ((keyV (itV s0 0)).take 32),#[.slice a_na (((keyV (itV s0 0)).drop 32).length) c_na]]) 76 r7a_6 rfl rfl kj (Qaf 76 _ _ g7a 76 _ _ r7a_6 rfl kj kj (isz (n:=34) kj (by rw [Qal,Qal,Qal]; simp only [qS,cat,(izT (Qbm (QaR _)))]; rfl)) (eqsz (n:=34) czR (by rw [Qal,Qal,Qal]; simp only [qS,cat,(izT (Qbm (QaR _)))]; rfl)) (QaQ _ (by intro a ha; simp only [zaH,zaI,or_false] at ha; rcases ha with rfl | rfl | rfl; exact (Qaz _ rfl); exact (Qat _ _); exact (Qaz _ rfl)))) (fun W' p=>zbk p e6 l7a) fun W7 p7 r7a_7=>?_)
 have hu2a:=Qgh hua p7 nb7a
 have hch3a:=hch2a.keep (p7.2.2.2.2 cg (zaf (qL hcg0a l7a))) (p7.2.2.2.2 cm (zaf (qL hcm0a l7a)))
 have x7:=zbk p7 (zbl x5 e6) b7a
 refine Qbd 14 (.nilIface) 10 rfl rfl kj kj (fun _ _ _ h=>h) (fun W hR=>kj) <| Qjv kj <| hK25 _ _ <| wp_seq_k fun K27 hK27=>sgB kj <| cond_false kj <| wp_skip <| hK27 _ _ <| wp_seq_k fun K29 hK29=>Wk.any_regionEZ 9 [⟨none,[(9,none)]⟩,⟨none,[(61,some 0)]⟩,⟨none,[(9,none)]⟩,⟨none,[(63,some 2)]⟩,⟨none,[(3,none)]⟩,⟨none,[(65,some 4)]⟩,⟨none,[(3,none)]⟩,⟨none,[(67,some 6)]⟩,⟨none,[(62,some 1),(64,some 3),(66,some 5),(68,some 7)]⟩] kj kj fun F hF=>?_
 refine Qa2 (Qam _) (pp g7a 1) kj kj (fun _=>kj) <| QaN (Qam _) (.agg (ints .u8 ((keyV (itV s0 0)).take 32))) kj kj (fun W hR=>(Qa4 74 _ g7a 1 76 _ _ _ (Qaa (Qaa r7a_7 (Qan _)) hR) rfl kj (Qap [#[.int .i64 0]] [ints .u8 ((keyV (itV s0 0)).take 32)] [#[.slice a_na (((keyV (itV s0 0)).drop 32).length) c_na]] 1 kj) kj (isz (n:=32) kj (izT (Qbm (QaR _)))))) <| Qa2 (Qam _) (pp g7a 33) kj kj (fun _=>kj) <| QaN (Qam _) (.slice a_na (((keyV (itV s0 0)).drop 32).length) c_na) kj kj (fun W hR=>(Qab 41 _ g7a 33 76 _ (.slice a_na (((keyV (itV s0 0)).drop 32).length) c_na) _ (Qaa (Qaa r7a_7 (Qan _)) hR) rfl kj (Qap [#[.int .i64 0],ints .u8 ((keyV (itV s0 0)).take 32)] [#[.slice a_na (((keyV (itV s0 0)).drop 32).length) c_na]] [] 33 (by rw [Qal,Qal]; simp only [qS,cat,(izT (Qbm (QaR _)))]; rfl) 0 _ rfl) kj)) ?_
 have r10_7:=(zbj p7 (Qaa r10_5 e6) (zaf (qL (Qaq r10_5) l7a)))
 refine QaN (Qam _) (.agg (cat [ints .u8 (grp),#[.int .i64 0],#[.int .i64 0],#[.int .i64 0],#[.slice a_s fs.length c_s]])) kj kj (fun W hR=>(Qae 43 _ g10 43 _ _ (Qaa (Qaa r10_7 (Qan _)) hR) rfl kj kj (isz (n:=36) kj (cz1 hgl)))) ?_
 refine Qfv (Qam _) (OwnN .u8 5 W7.heap.size (grp++[0,0,0,0]++[0]++[0,0,0,0])) (OwnN.stable _ _ _ _) 25 #[.agg (cat [ints .u8 (grp),#[.int .i64 0],#[.int .i64 0],#[.int .i64 0],#[.slice a_s fs.length c_s]])] kj kj (fun _=>kj) (fun W hR=>((Qhh grp hgl _ _ _ _).mono fun e W2 hg=>by obtain ⟨v2,e1,e2,e3⟩:=hg; exact ⟨v2,e1,e2,zbn (zbi (Qan _) hR).size e3⟩)) ?_
 refine Qa2 (Qam _) (pp g10 35) kj kj (fun _=>kj) <| QaN (Qam _) (.slice a_s fs.length c_s) kj kj (fun W hR=>(Qab 41 _ g10 35 43 _ (.slice a_s fs.length c_s) _ (Qaa (Qaa r10_7 (Qan _)) hR) rfl kj (Qap [ints .u8 (grp),#[.int .i64 0],#[.int .i64 0],#[.int .i64 0]] [#[.slice a_s fs.length c_s]] [] 35 (cz1 hgl) 0 _ rfl) kj)) ?_
 have r8_7:=(zbj p7 (Qaa r8_5 e6) (zaf (qL (Qaq r8_5) l7a)))
 have r7_7:=(zbj p7 (Qaa r7_5 e6) (zaf (qL (Qaq r7_5) l7a)))
 refine Qi0 (Qam _) (MixR W7.heap.size text) (Qfl _ _) 29 (fun ρ W hR hX=>?_) ?_
 ·skip
  have e62_:ρ 62=.agg (ints .u8 ((keyV (itV s0 0)).take 32)):=hX.1
  have e64_:ρ 64=.slice a_na (((keyV (itV s0 0)).drop 32).length) c_na:=hX.2.1
  have q66_:(OwnN .u8 5 W7.heap.size (grp++[0,0,0,0]++[0]++[0,0,0,0])) (ρ 66) W:=hX.2.2.1
  obtain ⟨ar66,cr66,e66_,-⟩:=id (zbo q66_)
  have rd66_:=zbo q66_
  rw [e66_] at rd66_
  have e68_:ρ 68=.slice a_s fs.length c_s:=hX.2.2.2.1
  refine ⟨#[.agg (ints .u8 ((keyV (itV s0 0)).take 32)),.slice a_na (((keyV (itV s0 0)).drop 32).length) c_na,.slice ar66 ((grp++[0,0,0,0]++[0]++[0,0,0,0]).length) cr66,.slice a_s fs.length c_s],Eq.trans (b:=zaK (Next.enter 29 #[ρ 62,ρ 64,ρ 66,ρ 68]) W) kj (by rw [e62_,e64_,e66_,e68_]),?_⟩
  exact ((Qoy ((keyV (itV s0 0)).take 32) ((keyV (itV s0 0)).drop 32) (grp++[0,0,0,0]++[0]++[0,0,0,0]) text fs es _ _ _ _ _ _ th tr W (Qaa (Qaa r8_7 (Qan _)) hR) (Qaa (Qaa r7_7 (Qan _)) hR) (Qbm (QaR _)) (RdK.ext (zbo hu2a) (zbi (Qan _) hR)) rd66_ (RdK.ext (hst _ x7) (zbi (Qan _) hR)) hctxb htb hnl (by simp [hgl]) oo).mono fun e W2 hg=>by obtain ⟨v2,e1,e2,u,e3,e4⟩:=hg; exact ⟨v2,e1,e2,u,e3,e4.base (zbi (Qan _) hR).size⟩)
 refine Qc3 (hF _ fun W8 e8=>?_)
 simp only [za7,za2,zaC,zaD,zaE,zaF,finE,up]
 intro vv30 hv30 vv31 hv31
 clear hF
 obtain ⟨a32_,c32_,rfl,-⟩:=id (zbo hv30)
 obtain ⟨uu33,rfl,huu33⟩:=hv31
 obtain ⟨au33,cu33,rfl,-⟩:=id (zbo huu33)
 refine (show Wk.WZ _ _ _ 5 #[true,true,true,true,true,true,true,true,true,false,false,false,false,false] _ _ from ?_)
 refine Wk.wz_val 9 (.tuple #[.slice au33 ((text).length) cu33,.nilIface]) 60 rfl rfl kj kj (fun _ _ _ h=>h) (fun _=>kj) <| Wk.wz_val 10 (.slice au33 ((text).length) cu33) 70 rfl rfl kj kj (fun _ _ _ h=>h) (fun _=>kj) <| Wk.wz_val 11 (.nilIface) 71 rfl rfl kj kj (fun _ _ _ h=>h) (fun _=>kj) <| Wk.wz_val 12 (.slice au33 ((text).length) cu33) 11 rfl rfl kj kj (fun _ _ _ h=>h) (fun _=>kj) <| Wk.wz_val 13 (.nilIface) 10 rfl rfl kj kj (fun _ _ _ h=>h) (fun _=>kj) <| Wk.wz_nil kj <| hK29 _ _ <| wp_seq_k fun K34 hK34=>sgB kj <| cond_false kj ?_
 refine wp_skip <| hK34 _ _ <| wp_seq_k fun K36 hK36=>wp_seq_k fun K37 hK37=>?_
 have r1_8:=(Qaa (zbj p7 (Qaa r1_5 e6) (zaf (qL (Qaq r1_5) l7a))) e8)
 have r2_8:=(Qaa (zbj p7 (Qaa r2_5 e6) (zaf (qL (Qaq r2_5) l7a))) e8)
 have r3_8:=(Qaa (zbj p7 (Qaa r3_5 e6) (zaf (qL (Qaq r3_5) l7a))) e8)
 have r4_8:=(Qaa (zbj p7 (Qaa r4_5 e6) (zaf (qL (Qaq r4_5) l7a))) e8)
 have r5_8:=(Qaa (zbj p7 (Qaa r5_5 e6) (zaf (qL (Qaq r5_5) l7a))) e8)
 have r6_8:=(Qaa (zbj p7 (Qaa r6_5 e6) (zaf (qL (Qaq r6_5) l7a))) e8)
 have r7_8:=(Qaa r7_7 e8)
 have r8_8:=(Qaa r8_7 e8)
 have r10_8:=(Qaa r10_7 e8)
 have hch0b:ChSt cg cm s0 [] 0 [] W8:=hch3a.ext (zbi (zbh W7) e8)
 have hcg0b:=hch0b.glt
 have hcm0b:=hch0b.mp.lt
 refine Qdt (fun W=>Qai [cg,cm] W8 W) kj fun Wsb eWsb=>⟨zbs (zbq _ _) eWsb,?_⟩
 refine Qbd 0 (pp ge 0) 76 rfl rfl kj kj (fun _ _ _ h=>h) (fun W hR=>kj) <| Qbd 1 (pp ge 0) 77 rfl rfl kj kj (fun _ _ _ h=>h) (fun W hR=>kj) <| Qbd 2 (pp ge 0) 78 rfl rfl kj kj (fun _ _ _ h=>h) (fun W hR=>kj) <| Qbd 3 (pp gc 0) 79 rfl rfl kj kj (fun _ _ _ h=>h) (fun W hR=>(Qab 56 _ ge 0 58 _ (pp gc 0) _ (zbr hR r2_8 (nin r2_8 hch0b dd)) rfl kj (Qap [] [#[pp gc 0]] [ints .u8 (grp),#[.int .i64 0],#[.int .i64 1],tl] 0 kj 0 _ rfl) kj)) <| Qbd 4 (pp g10 33) 80 rfl rfl kj kj (fun _ _ _ h=>h) (fun W hR=>kj) <| Qbd 5 (.int .i64 0) 81 rfl rfl kj kj (fun _ _ _ h=>h) (fun W hR=>(Qab 3 _ g10 33 43 _ (.int .i64 0) _ (zbr hR r10_8 (nin r10_8 hch0b dd)) rfl kj (Qap [ints .u8 (grp),#[.int .i64 0]] [#[.int .i64 0]] [#[.int .i64 0],#[.slice a_s fs.length c_s]] 33 (cz1 hgl) 0 _ rfl) kj)) ?_
 refine Qbd 6 (pp g10 34) 82 rfl rfl kj kj (fun _ _ _ h=>h) (fun W hR=>kj) <| Qbd 7 (.int .i64 0) 83 rfl rfl kj kj (fun _ _ _ h=>h) (fun W hR=>(Qab 3 _ g10 34 43 _ (.int .i64 0) _ (zbr hR r10_8 (nin r10_8 hch0b dd)) rfl kj (Qap [ints .u8 (grp),#[.int .i64 0],#[.int .i64 0]] [#[.int .i64 0]] [#[.slice a_s fs.length c_s]] 34 (cz1 hgl) 0 _ rfl) kj)) ?_
 refine Qjw 8 12 3 rfl rfl kj kj kj 84 12 rfl rfl kj (fun _=>kj) (fun W=>ChSt cg cm s0 [] 0 [] W) (Qai [cg,cm]) (fun u W=>ChSt cg cm s0 [0] 1 (Qd9 [] s0 0 0) W∧QbZ W8.heap.size 0 (keyV (itV s0 0)) u W) (fun v W=>∃ g,v=pp g 0∧W8.heap.size≤g∧W.heap[g]? = some (.cells (cat [#[.int .i64 0],ints .u8 (zai 32 0),#[.slice none 0 0]]) 76)) (fun u=>[(86,.nilIface),(85,u),(75,.tuple #[u,.nilIface])]) _ _ _ rfl kj (fun u x hx=>by simp only [zaH,zaI,or_false] at hx; rcases hx with rfl | rfl | rfl; exact (by decide:(86:Nat)≠12); exact (by decide:(85:Nat)≠12); exact (by decide:(75:Nat)≠12)) dd (fun _ _ e h=>h.ext e) (fun _ _ h e=>zbs h e) (fun _ _ _ e h=>⟨h.1.ext e,QbZ.ext h.2 e⟩) (fun _ _ _ _ hK h=>by obtain ⟨g,a1,a2,a3⟩:=h; exact ⟨g,a1,a2,zbr hK a3 (Qaw (zaJ (qL hcg0b a2)) (Qaw (zaJ (qL hcm0b a2)) QaF))⟩) (fun W hR hP=>⟨30,#[pp gc 0,.int .i64 0,.int .i64 0],by kernel_rfl,(show Calls Tryz.prog 30 #[pp gc 0,.int .i64 0,.int .i64 0] W _ from Qmj gc gl len cap lp W (zbr hR r3_8 (nin r3_8 hch0b dd)) (zbr hR r4_8 (nin r4_8 hch0b dd)) cg 0 hi hli tc tq (zbr hR r5_8 hNc) (zbr hR r6_8 hNq) hP 0 dd (fun e=>hNc (by simp [←e])) (fun e=>hNq (by simp [←e]))).mono (by rintro e W' ⟨u,rfl,k1,k2,k3⟩; exact ⟨u,rfl,zbu hR k1 (fun c hc=>.inl hc),k1,k2,QbZ.base (Qai.size hR) k3⟩)⟩) (fun L' W hR=>⟨_,_,(by kernel_rfl:_=zaK (Next.value (pp W.heap.size 0)) (W.alloc (.cells (cat [#[.int .i64 0],ints .u8 (zai 32 0),#[.slice none 0 0]]) 76))),Qbi _ _,_,rfl,Qai.size hR,heap_alloc_new _ _⟩) (hch0b.ext eWsb) (fun u W hR kk=>by refine Qbd 9 (.tuple #[u,.nilIface]) 75 rfl rfl kj kj (fun _ _ _ h=>h) (fun W hR=>kj) ?_; refine Qbd 10 (u) 85 rfl rfl kj kj (fun _ _ _ h=>h) (fun W hR=>kj) ?_; refine Qbd 11 (.nilIface) 86 rfl rfl kj kj (fun _ _ _ h=>h) (fun W hR=>kj) ?_; exact Qf6 12 kj kk) (fun u v2 W hR kk=>by refine Qbd 9 (.tuple #[u,.nilIface]) 75 rfl rfl kj kj (fun _ _ _ h=>h) (fun W hR=>kj) ?_; refine Qbd 10 (u) 85 rfl rfl kj kj (fun _ _ _ h=>h) (fun W hR=>kj) ?_; refine Qbd 11 (.nilIface) 86 rfl rfl kj kj (fun _ _ _ h=>h) (fun W hR=>kj) ?_; exact kk) fun u1 v2 W9 q1 q2 q9=>?_
 obtain ⟨hch2b,uo,rfl,hub⟩:=q1
 obtain ⟨g7b,rfl,l7b,r7b_9⟩:=q2
 obtain ⟨a_nb,c_nb,rfl,-⟩:=id (zbo hub)
 have nb7b:=Qnj hub r7b_9 dd
 refine Qf6 13 kj (QfU g7b _ (cat [#[.int .i64 0],ints .u8 ((keyV (itV s0 0)).take 32),#[.slice a_nb (((keyV (itV s0 0)).drop 32).length) c_nb]]) 76 r7b_9 rfl rfl kj (Qaf 76 _ _ g7b 76 _ _ r7b_9 rfl kj kj (isz (n:=34) kj (by rw [Qal,Qal,Qal]; simp only [qS,cat,(izT (Qbm (QaR _)))]; rfl)) (eqsz (n:=34) czR (by rw [Qal,Qal,Qal]; simp only [qS,cat,(izT (Qbm (QaR _)))]; rfl)) (QaQ _ (by intro a ha; simp only [zaH,zaI,or_false] at ha; rcases ha with rfl | rfl | rfl; exact (Qaz _ rfl); exact (Qat _ _); exact (Qaz _ rfl)))) (fun W' p=>zbt q9 p (.inr l7b)) fun W10 p10 r7b_10=>?_)
 have hu2b:=Qgh hub p10 nb7b
 have hch3b:=hch2b.keep (p10.2.2.2.2 cg (zaf (qL hcg0b l7b))) (p10.2.2.2.2 cm (zaf (qL hcm0b l7b)))
 have hKb:Qai [cg,cm] W8 W10:=zbt q9 p10 (.inr l7b)
 have hKwb:Qai [cg,cm] w W10:=zbu (zbs (zbq _ _) (zbl x7 e8)) hKb (fun c hc=>.inl hc)
 have rkb1:=zbj p10 (zbr q9 r1_8 (nin r1_8 hch0b dd)) (zaf (qL (Qaq r1_8) l7b))
 have rkb2:=zbj p10 (zbr q9 r2_8 (nin r2_8 hch0b dd)) (zaf (qL (Qaq r2_8) l7b))
 have rkb3:=zbj p10 (zbr q9 r3_8 (nin r3_8 hch0b dd)) (zaf (qL (Qaq r3_8) l7b))
 have rkb4:=zbj p10 (zbr q9 r4_8 (nin r4_8 hch0b dd)) (zaf (qL (Qaq r4_8) l7b))
 have rkb5:=zbj p10 (zbr q9 r5_8 hNc) (zaf (qL (Qaq r5_8) l7b))
 have rkb6:=zbj p10 (zbr q9 r6_8 hNq) (zaf (qL (Qaq r6_8) l7b))
 have rkb7:=zbj p10 (zbr q9 r7_8 hNr) (zaf (qL (Qaq r7_8) l7b))
 have rkb8:=zbj p10 (zbr q9 r8_8 hNh) (zaf (qL (Qaq r8_8) l7b))
 have rkb10:=zbj p10 (zbr q9 r10_8 (nin r10_8 hch0b dd)) (zaf (qL (Qaq r10_8) l7b))
 refine Qbd 14 (.nilIface) 13 rfl rfl kj kj (fun _ _ _ h=>h) (fun W hR=>kj) <| Qjv kj <| hK37 _ _ <| sgB kj <| cond_false kj <| wp_skip <| hK36 _ _ <| sgB kj <| wp_ret ?_
 exact (show bodyPost _ _ _ .ret _ _ from ret2 (.slice au33 ((text).length) cu33) (.nilIface) rfl (Qax kj) (Qax kj) ⟨_,rfl,hKwb,hch3b,zbn x7.size (QjW huu33 hKb (Qcp huu33 (qL hch.glt x7.size)) (Qcp huu33 (qL hch.mp.lt x7.size)))⟩)
end Pk
end
section
namespace Pk
open Go Go.RowKit
open Rely Auto Own Sha
open Cha
open Ae hiding run_storeQ
open Cn hiding nb_new run_extractT
theorem Qp7 (gc gl len cap:Nat) (lp:Array Value) (w:World) (hgc:w.heap[gc]? = some (.cells #[.slice (some ⟨gl,0,none⟩) len cap] 85)) (hgl_:w.heap[gl]? = some (.cells lp 91)) (cg:Nat) (hi:0<len) (hli:lp[0]? = some (pp cg 0)) (tc tq:TypeId) (hc:w.heap[4]? = some (.cells (ints .u64 QaM) tc)) (hq:w.heap[3]? = some (.cells (ints .u64 Qa5) tq)) {cm:Nat} (s0:List Int) (ms:List (Int×List Int)) (hch:ChSt cg cm s0 [0] 1 ms w) :
    Calls Tryz.prog 28 #[pp gc 0,.int .i64 0,.int .i64 0] w (Ret w (.tuple #[.agg (cat [#[.int .i64 0],ints .u8 (zai 32 0),#[.slice none 0 0]]),.iface 49 (.int .i64 7)])):=by
  have h:=QoG gc gl len cap lp w hgc hgl_ cg 0 hi hli tc tq hc hq hch 0 dd
  rw [show chkN [0] 1 0=7 by decide] at h
  exact h
set_option maxRecDepth 100000 in
theorem Qow (gb ge ce gc:Nat) (tl:Array Value) (grp:List Int) (hgl:grp.length=32) (w:World) (hgb:w.heap[gb]? = some (.cells (cat [#[.slice (some ⟨ge,0,none⟩) 1 ce],#[.bool false]]) 52)) (hge:w.heap[ge]? = some (.cells (cat [#[pp gc 0],ints .u8 grp,#[.int .i64 0],#[.int .i64 1],tl]) 58)) (gl len cap:Nat) (lp:Array Value) (hgc:w.heap[gc]? = some (.cells #[.slice (some ⟨gl,0,none⟩) len cap] 85)) (hgl_:w.heap[gl]? = some (.cells lp 91)) (cg cm:Nat) (hi:0<len) (hli:lp[0]? = some (pp cg 0)) (s0:List Int) (ms:List (Int×List Int)) (hch:ChSt cg cm s0 [0] 1 ms w) (tc tq:TypeId) (hc:w.heap[4]? = some (.cells (ints .u64 QaM) tc)) (hq:w.heap[3]? = some (.cells (ints .u64 Qa5) tq)) (fs:List Int) (hfl:fs.length≤1040) (hfb:Qak fs) (hgrb:Qak grp) (v:Value) (hst:∀ W,Ext w W→RdK .u8 W.heap.size fs v W) :
    Calls Tryz.prog 12 #[pp gb 0,.agg (cat [ints .u8 grp,#[.int .i64 0],#[.int .i64 0],#[.int .i64 0],#[v]])] w (Ret w (.tuple #[.slice none 0 0,.iface 49 (.int .i64 7)])):=by
  obtain ⟨a_s,c_s,rfl,-⟩:=id (hst _ (zbh _))
  obtain ⟨xs,hxs⟩:=QfH grp fs hgl hfl
  refine enter 91 [(0,pp gb 0),(1,.agg (cat [ints .u8 (grp),#[.int .i64 0],#[.int .i64 0],#[.int .i64 0],#[.slice a_s fs.length c_s]]))] Tryz.func12 rfl rfl kj rfl <| sgC fun K7 hK7=>Qah (cat [ints .u8 (grp),#[.int .i64 0],#[.int .i64 0],#[.int .i64 0],#[.slice a_s fs.length c_s]]) 43 3 rfl kj kj fun g8 W1 l8 e1 r8_1=>?_
  have b8:=qT (zbh w).size l8
  refine sg 2 kj <| sgN hK7 <| wp_seq_k fun K9 hK9=>sgC fun K10 hK10=>sg 1 kj ?_
  have r1_1:=(Qaa hgb e1)
  refine Qao (pp ge 0) 15 #[pp gb 0] 15 rfl kj kj (Qfw gb ge ce gc tl grp hgl _ r1_1) fun W2 e2=>?_
  have x2:=zbl (zbl (zbh w) e1) e2
  refine sg 1 kj <| sgN hK10 <| cond_false kj <| wp_skip <| hK9 _ _ <| wp_seq_k fun K11 hK11=>sgC fun K12 hK12=>?_
  have r8_2:=(Qaa r8_1 e2)
  refine sv (.agg (cat [ints .u8 (grp),#[.int .i64 0],#[.int .i64 0],#[.int .i64 0],#[.slice a_s fs.length c_s]])) 19 (Qae 43 _ g8 43 _ _ r8_2 rfl kj kj (isz (n:=36) kj (cz1 hgl))) ?_
  refine Qau (fun v W'=>(Wr.PutR W2.heap.size (some xs)) v W'∧Ext W2 W') 26 #[.agg (cat [ints .u8 (grp),#[.int .i64 0],#[.int .i64 0],#[.int .i64 0],#[.slice a_s fs.length c_s]])] 20 rfl kj kj ((Wr.PutPacket_S grp 0 0 0 fs a_s c_s _ hgl hgrb oo hfb (hst _ x2) xs hxs).mono mo1) fun vv14 W3 hh14=>?_
  obtain ⟨hv14,e3⟩:=hh14
  obtain ⟨pu13,rfl,hpu13⟩:=hv14
  refine sg 5 kj <| sgN hK12 <| sgB kj <| cond_false kj <| wp_skip <| hK11 _ _ <| wp_seq_k fun K16 hK16=>sgC fun K17 hK17=>sg 1 kj ?_
  have r8_3:=(Qaa r8_2 e3)
  refine sv (.slice a_s fs.length c_s) 27 (Qab 41 _ g8 35 43 _ (.slice a_s fs.length c_s) _ r8_3 rfl kj (Qap [ints .u8 (grp),#[.int .i64 0],#[.int .i64 0],#[.int .i64 0]] [#[.slice a_s fs.length c_s]] [] 35 (cz1 hgl) 0 _ rfl) kj) ?_
  refine sg 1 kj <| sv (.bool false) 29 (Qac (u:=.bool (decide ((fs.length:Int)>1040))) kj (congrArg zac (decide_eq_false oo))) <| sgN hK17 <| cond_false kj <| wp_skip <| hK16 _ _ <| sgC fun K18 hK18=>sg 1 kj <| sv (.agg (cat [ints .u8 (grp),#[.int .i64 0],#[.int .i64 0],#[.int .i64 0],#[.slice a_s fs.length c_s]])) 32 (Qae 43 _ g8 43 _ _ r8_3 rfl kj kj (isz (n:=36) kj (cz1 hgl))) ?_
  have r2_3:=(Qaa (Qaa (Qaa hge e1) e2) e3)
  refine Qao (pp ge 0) 27 #[pp gb 0,.agg (cat [ints .u8 (grp),#[.int .i64 0],#[.int .i64 0],#[.int .i64 0],#[.slice a_s fs.length c_s]])] 33 rfl kj kj (of_1 gb ge ce gc tl grp hgl _ (Qaa (Qaa r1_1 e2) e3) r2_3 a_s _ c_s) fun W4 e4=>sg 1 kj <| sgN hK18 <| wp_seq_k fun K19 hK19=>sgB kj <| cond_false kj <| wp_skip <| hK19 _ _ <| wp_seq_k fun K21 hK21=>wp_seq_k fun K22 hK22=>?_
  refine Qba 7 [⟨none,[(3,none)]⟩,⟨none,[(37,some 0)]⟩,⟨none,[(8,none)]⟩,⟨none,[(39,some 2)]⟩,⟨none,[(40,some 3)]⟩,⟨none,[(41,some 4)]⟩,⟨none,[(38,some 1),(42,some 5)]⟩] kj kj fun F hF=>Qar (pp g8 33) kj kj (fun _=>kj) ?_
  have r8_4:=(Qaa r8_3 e4)
  refine QaK (.int .i64 0) kj kj (fun W hR=>(Qab 3 _ g8 33 43 _ (.int .i64 0) _ (Qaa (Qaa r8_4 (Qan _)) hR) rfl kj (Qap [ints .u8 (grp),#[.int .i64 0]] [#[.int .i64 0]] [#[.int .i64 0],#[.slice a_s fs.length c_s]] 33 (cz1 hgl) 0 _ rfl) kj)) ?_
  refine Qar (pp ge 0) kj kj (fun _=>kj) <| Qar (pp ge 0) kj kj (fun _=>kj) <| Qar (pp ge 34) kj kj (fun _=>kj) ?_
  have r2_4:=(Qaa r2_3 e4)
  refine QaK (.int .i64 1) kj kj (fun W hR=>(Qab 3 _ ge 34 58 _ (.int .i64 1) _ (Qaa (Qaa r2_4 (Qan _)) hR) rfl kj (Qap [#[pp gc 0],ints .u8 (grp),#[.int .i64 0]] [#[.int .i64 1]] [tl] 34 (cz1 hgl) 0 _ rfl) kj)) ?_
  refine Qar (.bool false) kj kj (fun _=>kj) <| Qbh (hF _ kj fun W5 e5=>?_)
  simp only [ups,up,Kn.val,zaC,zaD,zaE,zaF,za7,za2]
  clear hF
  have x5:=zbl (zbl (zbl x2 e3) e4) e5
  refine sgN hK22 <| cond_false kj <| wp_skip <| hK21 _ _ <| wp_seq_k fun K23 hK23=>Qce (fun W=>True) [⟨none,[(8,none)]⟩,⟨none,[(46,some 0)]⟩,⟨none,[(47,some 1)]⟩,⟨none,[(48,some 2)]⟩,⟨none,[(3,none)]⟩,⟨none,[(50,some 4)]⟩,⟨none,[(3,none)]⟩,⟨none,[(52,some 6)]⟩,⟨none,[(49,some 3),(51,some 5),(53,some 7)]⟩,⟨none,[(54,some 8)]⟩,⟨none,[(45,some 9)]⟩,⟨none,[(45,some 9)]⟩,⟨none,[]⟩,⟨none,[(9,some 12),(55,some 10)]⟩,⟨none,[(56,some 11)]⟩] [12] [11,14] kj kj kj (fun W hR=>trivial) fun F hF=>Qbf (pp ge 0) kj kj rfl (fun _=>kj) <| Qbf (pp ge 0) kj kj rfl (fun _=>kj) <| Qbf (pp ge 0) kj kj rfl (fun _=>kj) <| Qcf (pp gc 0) kj kj kj rfl (fun W hR=>(Qab 56 _ ge 0 58 _ (pp gc 0) _ (Qaa (Qaa (Qaa r2_4 e5) (Qan _)) hR) rfl kj (Qap [] [#[pp gc 0]] [ints .u8 (grp),#[.int .i64 0],#[.int .i64 1],tl] 0 kj 0 _ rfl) kj)) ?_
  refine Qbf (pp g8 33) kj kj rfl (fun _=>kj) ?_
  have r8_5:=(Qaa r8_4 e5)
  refine Qcf (.int .i64 0) kj kj kj rfl (fun W hR=>(Qab 3 _ g8 33 43 _ (.int .i64 0) _ (Qaa (Qaa r8_5 (Qan _)) hR) rfl kj (Qap [ints .u8 (grp),#[.int .i64 0]] [#[.int .i64 0]] [#[.int .i64 0],#[.slice a_s fs.length c_s]] 33 (cz1 hgl) 0 _ rfl) kj)) ?_
  refine Qbf (pp g8 34) kj kj rfl (fun _=>kj) <| Qcf (.int .i64 0) kj kj kj rfl (fun W hR=>(Qab 3 _ g8 34 43 _ (.int .i64 0) _ (Qaa (Qaa r8_5 (Qan _)) hR) rfl kj (Qap [ints .u8 (grp),#[.int .i64 0],#[.int .i64 0]] [#[.int .i64 0]] [#[.slice a_s fs.length c_s]] 34 (cz1 hgl) 0 _ rfl) kj)) ?_
  refine Qmk (.tuple #[.agg (cat [#[.int .i64 0],ints .u8 (zai 32 0),#[.slice none 0 0]]),.iface 49 (.int .i64 7)]) 28 #[pp gc 0,.int .i64 0,.int .i64 0] kj kj kj rfl (fun _=>kj) (fun W hR=>(fun W hR=>Qp7 gc gl len cap lp W (Qaa (Qaa (Qaa (Qaa (Qaa (Qaa (Qaa hgc e1) e2) e3) e4) e5) (Qan _)) hR) (Qaa (Qaa (Qaa (Qaa (Qaa (Qaa (Qaa hgl_ e1) e2) e3) e4) e5) (Qan _)) hR) cg hi hli tc tq (Qaa (Qaa (Qaa (Qaa (Qaa (Qaa (Qaa hc e1) e2) e3) e4) e5) (Qan _)) hR) (Qaa (Qaa (Qaa (Qaa (Qaa (Qaa (Qaa hq e1) e2) e3) e4) e5) (Qan _)) hR) s0 ms (hch.ext (zbi (zbi x5 (Qan _)) hR))) W hR) <| Qbf (.tuple #[.agg (cat [#[.int .i64 0],ints .u8 (zai 32 0),#[.slice none 0 0]]),.iface 49 (.int .i64 7)]) kj kj rfl (fun _=>kj) <| Qbf (.agg (cat [#[.int .i64 0],ints .u8 (zai 32 0),#[.slice none 0 0]])) kj kj rfl (fun _=>kj) <| Qbf (.iface 49 (.int .i64 7)) kj kj rfl (fun _=>kj) <| Qpm (cat [#[.int .i64 0],ints .u8 (zai 32 0),#[.slice none 0 0]]) 76 kj kj (qR _) kj rfl (fun _=>kj) <| Qc1 rfl <| Qbf (.iface 49 (.int .i64 7)) kj kj rfl (fun _=>kj) <| Qho (hF _ kj fun W6 e6=>?_)
  simp only [za7,za2,fins,up]
  intro g24 l24 r24_6 n24
  have b24:=qT x5.size l24
  clear hF
  refine Qcw _ g24 _ (cat [#[.int .i64 0],ints .u8 (zai 32 0),#[.slice none 0 0]]) 76 r24_6 rfl (Qaf 76 _ _ g24 76 _ _ r24_6 rfl kj kj (isz (n:=34) kj czR) (eqsz (n:=34) czR czR) (QaQ _ (by intro a ha; simp only [zaH,zaI,or_false] at ha; rcases ha with rfl | rfl | rfl; exact (Qaz _ rfl); exact (Qat _ _); exact (Qaz _ rfl)))) (fun W hp=>trivial) fun W7 p7 r24_7=>?_
  refine QeW <| hK23 _ _ <| wp_seq_k fun K25 hK25=>sgB kj <| cond_true kj <| sgB kj <| wp_ret ?_
  exact (show bodyPost _ _ _ .ret _ _ from ret2 (.slice none 0 0) (.iface 49 (.int .i64 7)) rfl (Qax kj) (Qax kj) ⟨rfl,(zbk p7 (zbl x5 e6) b24)⟩)
end Pk
end
section
namespace Pk
open Go Go.RowKit
open Rely Auto Own Sha
open Cha
open Ae hiding run_storeQ
open Cn hiding nb_new run_extractT
theorem Qp1 (w : World):Calls Tryz.prog 9 #[.iface 49 (.int .i64 7)] w (Ret w (.int .i64 7)):=by
  refine enter 19 [(0,.iface 49 (.int .i64 7))] Tryz.func9 rfl rfl kj rfl <| sgB kj <| wp_seq_k fun K2 hK2=>sgB kj <| cond_false kj <| wp_skip <| hK2 _ _ <| sgB kj <| wp_seq_k fun K5 hK5=>sgB kj ?_
  refine cond_false kj <| wp_skip <| hK5 _ _ <| sgB kj <| wp_ret ?_
  with_reducible repeat first | refine goR1 ?_ | refine goR2 ?_
  exact (show bodyPost _ _ _ .ret _ _ from ret1 (.int .i64 7) rfl (Qax kj) ⟨rfl,(zbh w)⟩)
theorem is7 (w : World):Calls Tryz.prog 13 #[.iface 49 (.int .i64 7),.int .i64 7] w (Ret w (.bool true)):=by
  refine enter 9 [(0,.iface 49 (.int .i64 7)),(1,.int .i64 7)] Tryz.func13 rfl rfl kj rfl <| sgB kj <| sgC fun K2 hK2=>sg 1 kj <| Qao (.int .i64 7) 9 #[.iface 49 (.int .i64 7)] 6 rfl kj kj ((Qp1) _) fun W1 e1=>sg 3 kj <| sgN hK2 <| wp_ret ?_
  with_reducible repeat first | refine goR1 ?_ | refine goR2 ?_
  exact (show bodyPost _ _ _ .ret _ _ from ret1 (.bool true) rfl (Qax kj) ⟨rfl,(zbl (zbh w) e1)⟩)
theorem unpack {base : Nat} {sec grp:List Int} {num leaf:Int} {e:Ep} {x:Value} {W:World} (ho:OwE base [e] x W) (hE:EpIs base sec 1 grp num leaf e W) :
    ∃ (ge ce gc gl cap:Nat) (tl lp:Array Value) (cg cm:Nat),x=.slice (some ⟨ge,0,none⟩) 1 ce∧base≤ge∧W.heap[ge]? = some (.cells (cat [#[pp gc 0],ints .u8 grp,#[.int .i64 num],#[.int .i64 leaf],tl]) 58) ∧
      W.heap[gc]? = some (.cells #[.slice (some ⟨gl,0,none⟩) 2 cap] 85)∧W.heap[gl]? = some (.cells lp 91)∧lp[0]? = some (pp cg 0)∧ChSt cg cm (Qbw sec 1 0) [] 0 [] W∧base≤cg∧base≤cm:=by
  obtain ⟨ge,ce,tl,h1,h2,h3⟩:=ho.tail
  obtain ⟨gc,g1,n1,l1⟩:=e
  obtain ⟨e1,e2,e3,w0,hw0,gc',gl,cap,lp,ns,hp,-,hn,hgc,hgl,hall,-,-⟩:=hE
  simp only at e1 e2 e3 hp
  subst e1 e2 e3
  simp only [Value.pointer.injEq,Option.some.injEq,Addr.mk.injEq,and_true] at hp
  subst hp
  obtain ⟨p,hp0⟩:∃ p,ns[0]? = some p:=⟨ns[0]'(by rw [hn]; decide),by simp⟩
  obtain ⟨a1,a2,a3,a4⟩:=hall 0 p hp0
  exact ⟨ge,ce,_,gl,cap,tl,lp,p.1,p.2,h1,h2,h3,hgc,hgl,a1,a2,qT hw0 a3,qT hw0 a4⟩
theorem QbO {x cg cm b:Nat} (hx:x<b) (h1:b≤cg) (h2:b≤cm):x∉[cg,cm]:=Qaw oo (Qaw oo QaF)
theorem Qh6 {x cg cm b:Nat} (hx:b≤x) (h1:cg<b) (h2:cm<b):x∉[cg,cm]:=Qaw oo (Qaw oo QaF)
def pG_ : List Int:=1::zai 31 0
def pS_ : List Int:=2::zai 31 0
theorem pG_b : Qak pG_:=fun x hx=>by
  have:=zav.1 (show (pG_.all fun x=>decide (0≤x)&&decide (x≤255))=true by decide) x hx
  simpa using this
theorem pS_b : Qak pS_:=fun x hx=>by
  have:=zav.1 (show (pS_.all fun x=>decide (0≤x)&&decide (x≤255))=true by decide) x hx
  simpa using this
set_option maxRecDepth 100000 in
theorem QkT (tc tq th tr:TypeId) (w:World) (hc:w.heap[4]? = some (.cells (ints .u64 QaM) tc)) (hq:w.heap[3]? = some (.cells (ints .u64 Qa5) tq)) (hr4:w.heap[1]? = some (.cells (ints .i64 qQ) tr)) (hh4:w.heap[0]? = some (.cells (ints .u32 qH) th)) (hT:Seat.TabAt w):Calls Tryz.prog 5 #[] w (Ret w (.bool true)):=by
  have htb:Qak [104,105]:=fun x hx=>by
    have:=zav.1 (show (([104,105]:List Int).all fun x=>decide (0≤x)&&decide (x≤255))=true by decide) x hx
    simpa using this
  obtain ⟨fs,es⟩:∃ z,Qds ((keyV (itV (Qbw pS_ 1 0) 0)).take 32) ((keyV (itV (Qbw pS_ 1 0) 0)).drop 32) (pG_++[0,0,0,0]++[0]++[0,0,0,0]) [104,105]=z:=⟨_,rfl⟩
  have lfs:fs.length=18:=by rw [←es]; exact QcV _ _ _ _
  have hfb:Qak fs:=es▸QdB _ _ _ _
  refine enter 65 [] Tryz.func5 rfl rfl kj rfl <| sgB kj <| sgC fun K6 hK6=>Qau (fun v W'=>(fun v W=>∃ g,v=pp g 0∧w.heap.size≤g∧W.heap[g]? = some (.cells (cat [#[.slice none 0 0],#[.bool false]]) 52)) v W'∧Ext w W') 6 #[] 8 rfl kj kj ((newB _).mono mo1) fun vv7 W1 hh7=>?_
  obtain ⟨hv7,e1⟩:=hh7
  have x1:=zbl (zbh w) e1
  obtain ⟨gs8,rfl,ls8,rs8⟩:=hv7
  have bs8:=qT (zbh w).size ls8
  refine Qau (fun v W'=>(fun v W=>∃ g,v=pp g 0∧W1.heap.size≤g∧W.heap[g]? = some (.cells (cat [#[.slice none 0 0],#[.bool false]]) 52)) v W'∧Ext W1 W') 6 #[] 9 rfl kj kj ((newB _).mono mo1) fun vv9 W2 hh9=>?_
  obtain ⟨hv9,e2⟩:=hh9
  have x2:=zbl x1 e2
  obtain ⟨gs10,rfl,ls10,rs10⟩:=hv9
  have bs10:=qT x1.size ls10
  refine sg 2 kj <| sgN hK6 <| wp_seq_k fun K11 hK11=>sgC fun K12 hK12=>sg 3 kj ?_
  have r1_2:=(Qaa (Qaa hc e1) e2)
  have r2_2:=(Qaa (Qaa hq e1) e2)
  have r3_2:=(Qaa (Qaa hr4 e1) e2)
  have r4_2:=(Qaa (Qaa hh4 e1) e2)
  refine Qau (fun v W'=>v=.nilIface∧ExtB gs8 W2 W'∧∃ (e:Ep) (x:Value),W'.heap[gs8]? = some (.cells (cat [#[x],#[.bool false]]) 52)∧OwE W2.heap.size [e] x W'∧EpIs W2.heap.size pS_ 1 pG_ 0 0 e W') 7 #[pp gs8 0,.agg (ints .u8 (pG_)),.int .i64 0,.agg (ints .u8 (pS_)),.int .i64 2,.int .i64 0] 13 rfl kj kj ((QhD gs8 pG_ pS_ 0 0 1 dd rfl rfl pS_b dd dd dd dd tc tq _ (Qaa rs8 e2) r1_2 r2_2 (hT.ext x2)).mono mo2) fun v W3 h13=>?_
  obtain ⟨rfl,q3,epa,xva,rba,hOa,hEa⟩:=h13
  obtain ⟨gea,cea,gca,gla,capa,tla,lpa,cga,cma,rfl,lgea,rgea,rgca,rgla,hlia,hcha,lcga,lcma⟩:=unpack hOa hEa
  have x3:=ExtB.up x2 q3 bs8
  have lwa:w.heap.size≤cga:=qT x2.size lcga
  have lva:w.heap.size≤cma:=qT x2.size lcma
  refine sg 5 kj ?_
  have hcha1:ChSt cga cma (Qbw pS_ 1 0) [] 0 [] W3:=hcha
  refine Qau (fun v W'=>v=.nilIface∧ExtB gs10 W3 W'∧∃ (e:Ep) (x:Value),W'.heap[gs10]? = some (.cells (cat [#[x],#[.bool false]]) 52)∧OwE W3.heap.size [e] x W'∧EpIs W3.heap.size pS_ 1 pG_ 0 1 e W') 7 #[pp gs10 0,.agg (ints .u8 (pG_)),.int .i64 0,.agg (ints .u8 (pS_)),.int .i64 2,.int .i64 1] 19 rfl kj kj ((QhD gs10 pG_ pS_ 0 1 1 dd rfl rfl pS_b dd dd dd dd tc tq _ (zbm q3 rs10 (Ne.symm (Qad rs8 ls10))) (zbm q3 r1_2 (zaf (qL (Qaq hc) bs8))) (zbm q3 r2_2 (zaf (qL (Qaq hq) bs8))) (hT.ext x3)).mono mo2) fun v W4 h17=>?_
  obtain ⟨rfl,q4,epb,xvb,rbb,hOb,hEb⟩:=h17
  obtain ⟨geb,ceb,gcb,glb,capb,tlb,lpb,cgb,cmb,rfl,lgeb,rgeb,rgcb,rglb,hlib,hchb,lcgb,lcmb⟩:=unpack hOb hEb
  have x4:=ExtB.up x3 q4 bs10
  have lwb:w.heap.size≤cgb:=qT x3.size lcgb
  have lvb:w.heap.size≤cmb:=qT x3.size lcmb
  have hlb:gs10<W2.heap.size:=Qaq rs10
  have hcha2:=hcha1.keep (q4.2.2.2.2 cga hcha1.glt oo) (q4.2.2.2.2 cma hcha1.mp.lt oo)
  have hcga2:=hcha1.glt
  have hcma2:=hcha1.mp.lt
  refine sg 2 kj <| sgN hK12 <| cond_false kj <| wp_skip <| hK11 _ _ <| sgC fun K21 hK21=>sg 1 kj <| QaA (ints .u8 ([104,105])) 5 2 24 rfl kj kj fun g22 W5 l22 e5 r22_5=>?_
  have b22:=qT x4.size l22
  refine Qj8 (xs:=[104,105]) 41 5 (.tmp 24) 25 rfl rfl kj kj kj kj rfl (show 2≤maxLen by decide) r22_5 fun W6 p6 r22_6 rd23=>?_
  have r1_6:=(zbj p6 (Qaa (zbm q4 (zbm q3 r1_2 (zaf (qL (Qaq hc) bs8))) (zaf (qL (Qaq hc) bs10))) e5) (Qad (zbm q4 (zbm q3 r1_2 (zaf (qL (Qaq hc) bs8))) (zaf (qL (Qaq hc) bs10))) l22))
  have r2_6:=(zbj p6 (Qaa (zbm q4 (zbm q3 r2_2 (zaf (qL (Qaq hq) bs8))) (zaf (qL (Qaq hq) bs10))) e5) (Qad (zbm q4 (zbm q3 r2_2 (zaf (qL (Qaq hq) bs8))) (zaf (qL (Qaq hq) bs10))) l22))
  have r3_6:=(zbj p6 (Qaa (zbm q4 (zbm q3 r3_2 (zaf (qL (Qaq hr4) bs8))) (zaf (qL (Qaq hr4) bs10))) e5) (Qad (zbm q4 (zbm q3 r3_2 (zaf (qL (Qaq hr4) bs8))) (zaf (qL (Qaq hr4) bs10))) l22))
  have r4_6:=(zbj p6 (Qaa (zbm q4 (zbm q3 r4_2 (zaf (qL (Qaq hh4) bs8))) (zaf (qL (Qaq hh4) bs10))) e5) (Qad (zbm q4 (zbm q3 r4_2 (zaf (qL (Qaq hh4) bs8))) (zaf (qL (Qaq hh4) bs10))) l22))
  have r10_6:=(rpn p6 rbb e5 l22)
  have r14_5:=(Qaa (zbm q4 rgea (Qcg rgea (zbm q3 rs10 (Ne.symm (Qad rs8 ls10))) dd)) e5)
  have r14_6:=(zbj p6 r14_5 (Qad (zbm q4 rgea (Qcg rgea (zbm q3 rs10 (Ne.symm (Qad rs8 ls10))) dd)) l22))
  have r18_6:=(rpn p6 rgeb e5 l22)
  have r15_5:=(Qaa (zbm q4 rgca (Qcg rgca (zbm q3 rs10 (Ne.symm (Qad rs8 ls10))) dd)) e5)
  have r15_6:=(zbj p6 r15_5 (Qad (zbm q4 rgca (Qcg rgca (zbm q3 rs10 (Ne.symm (Qad rs8 ls10))) dd)) l22))
  have r19_6:=(rpn p6 rgcb e5 l22)
  have r16_5:=(Qaa (zbm q4 rgla (Qcg rgla (zbm q3 rs10 (Ne.symm (Qad rs8 ls10))) dd)) e5)
  have r16_6:=(zbj p6 r16_5 (Qad (zbm q4 rgla (Qcg rgla (zbm q3 rs10 (Ne.symm (Qad rs8 ls10))) dd)) l22))
  have r20_6:=(rpn p6 rglb e5 l22)
  have y4_6:=(zbk p6 (zbi (zbh W4) e5) l22)
  have hcha3:=hcha2.ext y4_6
  have hchb3:=hchb.ext y4_6
  refine Qau (fun v W'=>∃ u,v=.tuple #[.agg (cat [ints .u8 pG_,#[.int .i64 0],#[.int .i64 0],#[.int .i64 0],#[u]]),.nilIface]∧Qai [cga,cma] W6 W'∧OwnN .u8 5 W6.heap.size fs u W') 11 #[pp gs8 0,.slice (some ⟨g22,0,none⟩) 2 2] 26 rfl kj kj ((Qof gs8 gea cea gca tla pG_ rfl _ (zbj p6 (Qaa (zbm q4 rba (Qad rs8 ls10)) e5) (Qad (zbm q4 rba (Qad rs8 ls10)) l22)) r14_6 gla 2 capa lpa r15_6 r16_6 cga cma dd hlia (Qbw pS_ 1 0) hcha3 tc tq th tr r1_6 r2_6 r3_6 r4_6 (QbO (Qaq hc) lwa lva) (QbO (Qaq hq) lwa lva) (QbO (Qaq hr4) lwa lva) (QbO (Qaq hh4) lwa lva) [104,105] fs dd es pG_b _ (fun W e=>RdK.here (RdK.keepN rd23 e.size (fun i hi hl=>e.block i hl (by obtain rfl:=Option.some.inj hi; exact Qh6 l22 hcha2.glt hcha2.mp.lt))))).mono (by rintro e w' ⟨u,rfl,h1,h2,h3⟩; exact ⟨_,rfl,u,rfl,h1,h3⟩)) fun v W7 h24=>?_
  obtain ⟨us,rfl,q7,hus⟩:=h24
  obtain ⟨aus,cus,rfl,-⟩:=id (zbo hus)
  have x7:Ext w W7:=Qai.ext q7 (zbk p6 (zbl x4 e5) b22) (fun c hc=>by simp only [zaH,zaI,or_false] at hc; rcases hc with rfl | rfl; exact lwa; exact lva)
  have hchb4:=hchb3.keep (q7.block cgb hchb3.glt (Qh6 lcgb hcga2 hcma2)) (q7.block cmb hchb3.mp.lt (Qh6 lcmb hcga2 hcma2))
  refine sg 3 kj <| Qah (cat [ints .u8 (zai 32 0),#[.int .i64 0],#[.int .i64 0],#[.int .i64 0],#[.slice none 0 0]]) 43 3 rfl kj kj fun g25 W8 l25 e8 r25_8=>?_
  have b25:=qT x7.size l25
  refine Qag g25 _ (cat [ints .u8 (pG_),#[.int .i64 0],#[.int .i64 0],#[.int .i64 0],#[.slice aus fs.length cus]]) 43 r25_8 rfl kj (Qaf 43 _ _ g25 43 _ _ r25_8 rfl kj kj (isz (n:=36) kj (by rw [Qal,Qal,Qal,Qal,Qal]; simp only [qS,cat,(izT rfl)]; rfl)) (eqsz (n:=36) czR (by rw [Qal,Qal,Qal,Qal,Qal]; simp only [qS,cat,(izT rfl)]; rfl)) (QaQ _ (by intro a ha; simp only [zaH,zaI,or_false] at ha; rcases ha with rfl | rfl | rfl | rfl | rfl; exact (Qat _ _); exact (Qaz _ rfl); exact (Qaz _ rfl); exact (Qaz _ rfl); exact (Qaz _ rfl)))) fun W9 p9 r25_9=>?_
  refine sg 1 kj <| sgN hK21 <| wp_seq_k fun K26 hK26=>sgC fun K27 hK27=>sg 4 kj <| sv (.int .i64 0) 33 (Qab 3 _ g25 34 43 _ (.int .i64 0) _ r25_9 rfl kj (Qap [ints .u8 (pG_),#[.int .i64 0],#[.int .i64 0]] [#[.int .i64 0]] [#[.slice aus fs.length cus]] 34 (by rw [Qal,Qal,Qal]; simp only [qS,cat,(izT rfl)]; rfl) 0 _ rfl) kj) ?_
  refine sg 4 kj <| sv (.slice aus fs.length cus) 38 (Qab 41 _ g25 35 43 _ (.slice aus fs.length cus) _ r25_9 rfl kj (Qap [ints .u8 (pG_),#[.int .i64 0],#[.int .i64 0],#[.int .i64 0]] [#[.slice aus fs.length cus]] [] 35 (by rw [Qal,Qal,Qal,Qal]; simp only [qS,cat,(izT rfl)]; rfl) 0 _ rfl) kj) ?_
  refine sg 1 kj <| sv (.bool false) 40 (Qac (u:=.bool (((fs.length:Int) != 18))) kj (congrArg zac (bne_eq_false_iff_eq.2 (by rw [lfs]; rfl)))) ?_
  refine sg 1 kj <| sgN hK27 <| cond_false kj <| wp_skip <| hK26 _ _ <| sgC fun K28 hK28=>sg 1 kj <| sv (.agg (cat [ints .u8 (pG_),#[.int .i64 0],#[.int .i64 0],#[.int .i64 0],#[.slice aus fs.length cus]])) 44 (Qae 43 _ g25 43 _ _ r25_9 rfl kj kj (isz (n:=36) kj (by rw [Qal,Qal,Qal,Qal,Qal]; simp only [qS,cat,(izT rfl)]; rfl))) ?_
  have r1_9:=(zbj p9 (Qaa (zbr q7 r1_6 (QbO (Qaq hc) lwa lva)) e8) (Qad (zbr q7 r1_6 (QbO (Qaq hc) lwa lva)) l25))
  have r2_9:=(zbj p9 (Qaa (zbr q7 r2_6 (QbO (Qaq hq) lwa lva)) e8) (Qad (zbr q7 r2_6 (QbO (Qaq hq) lwa lva)) l25))
  have r10_8:=(Qaa (zbr q7 r10_6 (nin r10_6 hcha3 dd)) e8)
  have r10_9:=(zbj p9 r10_8 (Qad (zbr q7 r10_6 (nin r10_6 hcha3 dd)) l25))
  have r18_8:=(Qaa (zbr q7 r18_6 (nin r18_6 hcha3 dd)) e8)
  have r18_9:=(zbj p9 r18_8 (Qad (zbr q7 r18_6 (nin r18_6 hcha3 dd)) l25))
  have r19_8:=(Qaa (zbr q7 r19_6 (nin r19_6 hcha3 dd)) e8)
  have r19_9:=(zbj p9 r19_8 (Qad (zbr q7 r19_6 (nin r19_6 hcha3 dd)) l25))
  have r20_8:=(Qaa (zbr q7 r20_6 (nin r20_6 hcha3 dd)) e8)
  have r20_9:=(zbj p9 r20_8 (Qad (zbr q7 r20_6 (nin r20_6 hcha3 dd)) l25))
  have y7_9:=(zbk p9 (zbi (zbh W7) e8) l25)
  have hchb5:=hchb4.ext y7_9
  have hus5:=OwnN.ext hus y7_9
  refine Qau (fun v W'=>∃ u,v=.tuple #[u,.nilIface]∧Qai [cgb,cmb] W9 W'∧ChSt cgb cmb (Qbw pS_ 1 0) [0] 1 (Qd9 [] (Qbw pS_ 1 0) 0 0) W'∧OwnN .u8 5 W9.heap.size [104,105] u W') 12 #[pp gs10 0,.agg (cat [ints .u8 (pG_),#[.int .i64 0],#[.int .i64 0],#[.int .i64 0],#[.slice aus fs.length cus]])] 45 rfl kj kj ((Qox gs10 geb ceb gcb tlb pG_ rfl _ r10_9 r18_9 glb 2 capb lpb r19_9 r20_9 cgb cmb dd hlib (Qbw pS_ 1 0) hchb5 tc tq th tr r1_9 r2_9 (zbj p9 (Qaa (zbr q7 r3_6 (QbO (Qaq hr4) lwa lva)) e8) (Qad (zbr q7 r3_6 (QbO (Qaq hr4) lwa lva)) l25)) (zbj p9 (Qaa (zbr q7 r4_6 (QbO (Qaq hh4) lwa lva)) e8) (Qad (zbr q7 r4_6 (QbO (Qaq hh4) lwa lva)) l25)) (QbO (Qaq hc) lwb lvb) (QbO (Qaq hq) lwb lvb) (QbO (Qaq hr4) lwb lvb) (QbO (Qaq hh4) lwb lvb) [104,105] fs dd htb es pG_b _ (fun W e=>RdK.here (zbo (OwnN.ext hus5 e)))).mono (by rintro e w' ⟨u,rfl,h1,h2,h3⟩; exact ⟨_,rfl,u,rfl,h1,h2,h3⟩)) fun v W10 h29=>?_
  obtain ⟨ut,rfl,q10,hchb6,hut⟩:=h29
  obtain ⟨aut,cut,rfl,-⟩:=id (zbo hut)
  have x10:Ext w W10:=Qai.ext q10 (zbk p9 (zbl x7 e8) b25) (fun c hc=>by simp only [zaH,zaI,or_false] at hc; rcases hc with rfl | rfl; exact lwb; exact lvb)
  have hus6:=QjW hus5 q10 (Qcp hus (hchb3.glt)) (Qcp hus (hchb3.mp.lt))
  refine sg 5 kj <| sgN hK28 <| sgC fun K30 hK30=>sg 1 kj <| sv (.agg (cat [ints .u8 (pG_),#[.int .i64 0],#[.int .i64 0],#[.int .i64 0],#[.slice aus fs.length cus]])) 50 (Qae 43 _ g25 43 _ _ (zbr q10 r25_9 (nin r25_9 hchb5 dd)) rfl kj kj (isz (n:=36) kj (by rw [Qal,Qal,Qal,Qal,Qal]; simp only [qS,cat,(izT rfl)]; rfl))) ?_
  refine Qao (.tuple #[.slice none 0 0,.iface 49 (.int .i64 7)]) 12 #[pp gs10 0,.agg (cat [ints .u8 (pG_),#[.int .i64 0],#[.int .i64 0],#[.int .i64 0],#[.slice aus fs.length cus]])] 51 rfl kj kj (Qow gs10 geb ceb gcb tlb pG_ rfl _ (zbr q10 r10_9 (nin r10_9 hchb5 dd)) (zbr q10 r18_9 (nin r18_9 hchb5 dd)) glb 2 capb lpb (zbr q10 r19_9 (nin r19_9 hchb5 dd)) (zbr q10 r20_9 (nin r20_9 hchb5 dd)) cgb cmb dd hlib (Qbw pS_ 1 0) _ (hchb6.ext (zbh W10)) tc tq (zbr q10 r1_9 (QbO (Qaq hc) lwb lvb)) (zbr q10 r2_9 (QbO (Qaq hq) lwb lvb)) fs (by rw [lfs]; decide) hfb pG_b _ (fun W e=>RdK.here (zbo (OwnN.ext (OwnN.ext hus6 (zbh W10)) e)))) fun W11 e11=>?_
  refine sg 5 kj <| sgN hK30 <| sgC fun K31 hK31=>sg 4 kj <| sv (.string (Qle [104,105])) 58 (QjF (.tmp 57) (.slice aut (([104,105]:List Int).length) cut) rfl rfl [104,105] (RdK.bytes (zbo (OwnN.ext hut (zbi (zbh W10) e11))) htb)) <| sg 4 kj <| Qao (.bool true) 13 #[.iface 49 (.int .i64 7),.int .i64 7] 63 rfl kj kj ((is7) _) fun W12 e12=>sg 2 kj <| sgN hK31 <| wp_ret ?_
  exact (show bodyPost _ _ _ .ret _ _ from ret1 (.bool true) rfl (Qax kj) ⟨rfl,(zbl (zbl x10 e11) e12)⟩)
end Pk
end
section
namespace Seat
open Go Go.RowKit
open Rely
def QbY (x n:Int):Bool:=isTree n&&decide (0≤x)&&decide (x≤2*n-2)
def up1 (x k:Int):Int:=if bits .and .i64 (x/2^(k+1).toNat) 1==0 then wrap64 (x+wrap64 (2^k.toNat)) else wrap64 (x-wrap64 (2^k.toNat))
def par (x n:Int):Int :=
  if QbY x n=false then -1 else if x=n-1 then -1 else up1 x (lv x)
theorem Qep : ∀ (a b m n:Nat),2^a*(2*m+1)=2^b*(2*n+1)→a=b
  | 0,0,_,_,_=>rfl
  | 0,b+1,m,n,h=>by
    exfalso
    rw [zaQ,zaR,zaS,zaT] at h
    omega
  | a+1,0,m,n,h=>by
    exfalso
    rw [zaQ,zaR,zaS,zaT] at h
    omega
  | a+1,b+1,m,n,h=>by
    rw [zaQ,zaQ,zaS,zaS,zaT,zaT (2^b)] at h
    rw [Qep a b m n oo]
theorem Qgq (x : Nat) (h:x≤9223372036854775807):∃ m,x+1=2^lvN x*(2*m+1):=by
  have h0:18446744073709551615-x≠0:=by omega
  have e:lvN x=Lib.ctzFrom 64 (18446744073709551615-x):=by unfold lvN Lib.ctz; rw [if_neg h0]
  obtain ⟨m,hm,hk⟩:=Lib.ctzFrom_spec 64 (18446744073709551615-x) oo oo
  rw [←e] at hm hk
  generalize lvN x=k at *
  have hp:(2:Nat)^k*2^(64-k)=18446744073709551616:=by
    rw [←Nat.pow_add,show k+(64-k)=64 from by omega]
  obtain ⟨q,hq⟩:∃ q,2^(64-k)=2*q:=⟨2^(63-k),by rw [show 64-k=(63-k)+1 from by omega,zaQ]; omega⟩
  rw [hq] at hp
  generalize 2^k=p at *
  have h1:p*(2*q)=p*(2*m+1)+(x+1):=by omega
  have h2:2*m+1<2*q:=by
    rcases zaj (2*m+1) (2*q) with h | h
    · exact h
    · have:=Nat.mul_le_mul_left p h
      omega
  refine ⟨q-m-1,?_⟩
  have h3:2*q=(2*m+1)+(2*(q-m-1)+1):=by omega
  rw [h3,Nat.mul_add] at h1
  omega
theorem Qnq (x : Nat) (h:x≤9223372036854775807) (ho:x%2=1):lvN x=lvN (x/2)+1:=by
  obtain ⟨m,hm⟩:=Qgq x h
  obtain ⟨n,hn⟩:=Qgq (x/2) oo
  refine Qep _ _ m n ?_
  rw [←hm,zaQ,zaS,zaT,←hn]
  omega
theorem QlB (x : Nat) (h:x≤9223372036854775807) (ho:x%2=0):lvN x=0:=by
  obtain ⟨m,hm⟩:=Qgq x h
  refine Qep _ 0 m (x/2) ?_
  rw [←hm]
  omega
theorem rlevel (x : Int) (hx:i64 x) (w:World):Calls Tryz.prog 49 #[.int .i64 x] w fun e w'=>e=.returned (.int .i64 (lv x))∧w=w':=by
  unfold i64 at hx
  by_cases h:x<0
  · have e:lv x=-1:=by simp [lv,h]
    rw [e]
    go_enter Tryz.func49,Tryz.ntmps49
    go_wp2
    go_ret
    exact ⟨rfl,rfl⟩
  · have e:lv x=(lvN x.toNat:Int):=by simp [lv,h]
    rw [e]
    obtain ⟨n,rfl⟩:=zaU (by omega:0≤x)
    rw [zab]
    have hn:n≤9223372036854775807:=by omega
    clear e hx h
    go_enter Tryz.func49,Tryz.ntmps49
    go_wp2
    go_loop [0,3] (fun v k=>∃ m c:Nat,m≤n∧v=.int .i64 m∧k=.int .i64 c∧lvN n=c+lvN m∧c≤64) (fun v _=>(intOf v).toNat)
    case atStart=>exact ⟨n,0,qR _,rfl,rfl,by omega,by omega⟩
    case round =>
      obtain ⟨m,c,hm,rfl,rfl,hk,hc⟩:=hrel
      have hl64:=Qmx n hn
      by_cases ho:m%2=1
      · have h1:=Qnq m oo ho
        have K:=Lib.hid hk
        have K1:=Lib.hid h1
        clear hk h1
        go_wp2
        go_round
        case rel=>exact ⟨m/2,c+1,by omega,by go_num,by go_num,by have:=K.out; have:=K1.out; omega,by have:=K.out; have:=K1.out; omega⟩
        case measure=>simp [intOf]; omega
      · have h1:=QlB m oo oo
        have hk':lvN n=c:=by omega
        have K:=Lib.hid hk'
        clear hk h1 hk' hl64
        go_wp2
        go_ret
        exact ⟨by rw [K.out]; rfl,rfl⟩
theorem Qfg (k : Nat) (h:k≤62):(2:Int)^k≤4611686018427387904∧1≤(2:Int)^k:=by
  have h1:(2:Nat)^k≤2^62:=Nat.pow_le_pow_right dd h
  have h2:=Nat.two_pow_pos k
  have e:((2:Int)^k)=((2^k:Nat):Int):=by simp
  rw [e]
  have h3:(2:Nat)^62=4611686018427387904:=rfl
  omega
theorem rchildren (x : Int) (hx:i64 x) (w:World):Calls Tryz.prog 34 #[.int .i64 x] w fun e w'=>e=.returned (.tuple #[.int .i64 (kidL x),.int .i64 (kidR x)])∧w=w':=by
  have hl:=rlevel x hx w
  have hb:=QoD x hx
  by_cases h:lv x≤0
  · have e1:kidL x=-1:=by simp [kidL,h]
    have e2:kidR x=-1:=by simp [kidR,h]
    rw [e1,e2]
    generalize lv x=k at *
    clear e1 e2
    go_enter Tryz.func34,Tryz.ntmps34
    go_wp2_with (go_at_call 49; refine hl.mono ?_; rintro e w' ⟨rfl,rfl⟩)
    go_ret2
    exact ⟨rfl,rfl⟩
  · have e1:kidL x=wrap64 (x-half (lv x)):=by simp [kidL,h]
    have e2:kidR x=wrap64 (x+half (lv x)):=by simp [kidR,h]
    rw [e1,e2]
    generalize lv x=k at *
    have eh:half k=2^(k.toNat-1):=by
      have:=Qfg (k.toNat-1) oo
      unfold half
      exact IntWalk.wrap64_in _ oo
    rw [eh]
    clear e1 e2 eh
    go_enter Tryz.func34,Tryz.ntmps34
    go_wp2_with (go_at_call 49; refine hl.mono ?_; rintro e w' ⟨rfl,rfl⟩)
    go_loop [5,6] (fun p i=>∃ c:Nat,c<k.toNat∧p=.int .i64 (2^c)∧i=.int .i64 (c+1)) (fun _ i=>k.toNat-(intOf i).toNat)
    case atStart=>exact ⟨0,by omega,rfl,rfl⟩
    case round =>
      obtain ⟨c,hc,rfl,rfl⟩:=hrel
      by_cases hlt:(c:Int)+1<k
      · have hp:=Qfg (c+1) oo
        have e:(2:Int)^(c+1)=2*2^c:=by rw [Int.pow_succ,Int.mul_comm]
        have E:=Lib.hid e
        clear e
        have hq:=Qfg c oo
        have hp':2*(2:Int)^c≤4611686018427387904:=by have:=E.out; omega
        clear hp
        go_wp2
        go_round
        case rel=>exact ⟨c+1,by omega,by rw [E.out],by go_num⟩
        case measure=>simp [intOf]; omega
      · have hck:c=k.toNat-1:=by omega
        have K:=Lib.hid hck
        clear hck
        have hd:decide ((c:Int)+1<k)=false:=decide_eq_false hlt
        go_wp2
        all_goals first | omega | (go_ret2; exact ⟨by rw [←K.out]; rfl,rfl⟩)
theorem sound (n : Int) (w:World):Calls Tryz.prog 18 #[.int .i64 n] w fun e w'=>e=.returned (.bool (isTree n))∧w=w':=by
  by_cases h:n=1∨n=2∨n=4∨n=8∨n=16∨n=32
  · have e:isTree n=true:=by simp only [isTree,Bool.or_eq_true,beq_iff_eq]; omega
    rw [e]
    clear e
    rcases h with rfl | rfl | rfl | rfl | rfl | rfl
    all_goals
      go_enter Tryz.func18,Tryz.ntmps18
      go_wp2
      go_ret
      exact ⟨rfl,rfl⟩
  · have e:isTree n=false:=by
      rw [Bool.eq_false_iff]; intro h'; exact h (isTree_cases h')
    rw [e]
    have h1:(n==1)=false:=by rw [beq_eq_false_iff_ne]; omega
    have h2:(n==2)=false:=by rw [beq_eq_false_iff_ne]; omega
    have h3:(n==4)=false:=by rw [beq_eq_false_iff_ne]; omega
    have h4:(n==8)=false:=by rw [beq_eq_false_iff_ne]; omega
    have h5:(n==16)=false:=by rw [beq_eq_false_iff_ne]; omega
    have h6:(n==32)=false:=by rw [beq_eq_false_iff_ne]; omega
    clear e h
    go_enter Tryz.func18,Tryz.ntmps18
    go_wp2
    go_ret
    exact ⟨rfl,rfl⟩
theorem rnode (x n:Int) (w:World):Calls Tryz.prog 69 #[.int .i64 x,.int .i64 n] w fun e w'=>e=.returned (.bool (QbY x n))∧w=w':=by
  have hn:=sound n w
  cases ht:isTree n with
  | false =>
    have e:QbY x n=false:=by simp [QbY,ht]
    rw [e]
    rw [ht] at hn
    go_enter Tryz.func69,Tryz.ntmps69
    go_wp2_with (go_at_call 18; refine hn.mono ?_; rintro e w' ⟨rfl,rfl⟩)
    go_ret
    exact ⟨rfl,rfl⟩
  | true =>
    rw [ht] at hn
    have hc:=isTree_cases ht
    have hb:1≤n∧n≤32:=by omega
    clear hc
    by_cases hx:0≤x
    · have h1:decide (0≤x)=true:=decide_eq_true hx
      by_cases hl:x≤2*n-2
      · have e:QbY x n=true:=by simp [QbY,ht]; omega
        rw [e]
        have h2:decide (x≤2*n-2)=true:=decide_eq_true hl
        clear ht e
        go_enter Tryz.func69,Tryz.ntmps69
        go_wp2_with (go_at_call 18; refine hn.mono ?_; rintro e w' ⟨rfl,rfl⟩)
        go_ret
        exact ⟨rfl,rfl⟩
      · have e:QbY x n=false:=by simp [QbY,ht]; omega
        rw [e]
        have h2:decide (x≤2*n-2)=false:=decide_eq_false hl
        clear ht e
        go_enter Tryz.func69,Tryz.ntmps69
        go_wp2_with (go_at_call 18; refine hn.mono ?_; rintro e w' ⟨rfl,rfl⟩)
        go_ret
        exact ⟨rfl,rfl⟩
    · have e:QbY x n=false:=by simp [QbY,hx]
      rw [e]
      have h1:decide (0≤x)=false:=decide_eq_false hx
      clear ht e
      go_enter Tryz.func69,Tryz.ntmps69
      go_wp2_with (go_at_call 18; refine hn.mono ?_; rintro e w' ⟨rfl,rfl⟩)
      go_ret
      exact ⟨rfl,rfl⟩
def sizes : List Int:=[1,2,4,8,16,32]
theorem Qkh {n : Int} (h:isTree n=true):n∈sizes:=by
  have:=isTree_cases h
  simp only [sizes,zaH,zaI,or_false]
  exact this
def Qgx (f : Int→Int→Bool):Bool:=sizes.all fun n=>(zah (2*n.toNat-1)).all fun x=>f n x
theorem Qeh {f : Int→Int→Bool} (h:Qgx f=true) {x n:Int} (hd:QbY x n=true):f n x=true:=by
  simp only [QbY,Bool.and_eq_true,decide_eq_true_eq] at hd
  obtain ⟨⟨ht,h0⟩,h1⟩:=hd
  have hc:=isTree_cases ht
  have h2:=zav.1 (zav.1 h n (Qkh ht)) x.toNat (zaw.2 oo)
  simpa [zaV h0] using h2
theorem Qgn {x n:Int} (hd:QbY x n=true):0≤x∧x≤62∧x≤2*n-2∧1≤n∧n≤32∧isTree n=true:=by
  simp only [QbY,Bool.and_eq_true,decide_eq_true_eq] at hd
  obtain ⟨⟨ht,h0⟩,h1⟩:=hd
  have hc:=isTree_cases ht
  exact ⟨by omega,by omega,by omega,by omega,by omega,ht⟩
set_option maxRecDepth 100000 in
theorem QmW : Qgx (fun n x=>decide (par x n=-1) || (QbY (par x n) n&&decide (lv (par x n)=lv x+1)))=true:=by decide +kernel
set_option maxRecDepth 100000 in
theorem QlE : Qgx (fun n x=>(zah (2*n.toNat-1)).all fun p=>((kidL p==x || kidR p==x)==(par x n==p)))=true:=by decide +kernel
theorem QjT {x n:Int} (hd:QbY x n=false):par x n=-1:=by simp [par,hd]
theorem Qic {x n:Int} (hd:QbY x n=true):par x n=-1∨(QbY (par x n) n=true∧lv (par x n)=lv x+1):=by
  have:=Qeh QmW hd
  simpa using this
theorem Qos (x n:Int):-1≤par x n∧par x n≤62:=by
  cases hd:QbY x n with
  | false=>rw [QjT hd]; omega
  | true =>
    rcases Qic hd with h | h
    · omega
    · have:=Qgn h.1; omega
theorem QlD {x n p:Int} (hd:QbY x n=true) (h0:0≤p) (h1:p≤2*n-2):(kidL p==x || kidR p==x)=(par x n==p):=by
  have hb:=Qgn hd
  have:=zav.1 (Qeh QlE hd) p.toNat (zaw.2 oo)
  simpa [zaV h0] using this
theorem rparent (x n:Int) (w:World):Calls Tryz.prog 48 #[.int .i64 x,.int .i64 n] w fun e w'=>e=.returned (.int .i64 (par x n))∧w=w':=by
  have hn:=rnode x n w
  cases hd:QbY x n with
  | false =>
    rw [QjT hd]
    rw [hd] at hn
    clear hd
    go_enter Tryz.func48,Tryz.ntmps48
    go_wp2_with (go_at_call 69; refine hn.mono ?_; rintro e w' ⟨rfl,rfl⟩)
    go_ret
    exact ⟨rfl,rfl⟩
  | true =>
    rw [hd] at hn
    have hb:=Qgn hd
    have hpb:=Qic hd
    have hk:∀ p,0≤p→p≤2*n-2→(kidL p==x || kidR p==x)=(par x n==p):=fun p h0 h1=>QlD hd h0 h1
    have hpn:par x n=-1∨par x n≤2*n-2:=by
      rcases hpb with h | h
      · exact .inl h
      · have:=Qgn h.1; omega
    have H:=Lib.hid hk
    have hqb:=(Qos x n).1
    generalize par x n=q at *
    obtain ⟨N,hN⟩:=zaU (by omega:0≤n)
    subst hN
    clear hd hk hpb
    go_enter Tryz.func48,Tryz.ntmps48
    go_wp2_with (go_at_call 69; refine hn.mono ?_; rintro e w' ⟨rfl,rfl⟩)
    go_loop [5] (fun p=>∃ c:Nat,c≤2*N-1∧p=.int .i64 c∧(q=-1∨(c:Int)≤q)) (fun p=>2*N-(intOf p).toNat)
    case atStart=>exact ⟨0,by omega,rfl,by omega⟩
    case round =>
      obtain ⟨c,hc,rfl,hq⟩:=hrel
      by_cases hlt:(c:Int)≤2*(N:Int)-2
      · have hm:=H.out c oo hlt
        have hch:=rchildren c (by unfold i64; omega) w
        generalize kidL c=l at *
        generalize kidR c=r at *
        by_cases hqc:q=c
        · subst hqc
          rw [show ((c:Int)==c)=true from beq_self_eq_true _] at hm
          cases hl:(l==x) with
          | true =>
            clear hm
            go_wp2_with (go_at_call 34; refine hch.mono ?_; rintro e w' ⟨rfl,rfl⟩)
            go_ret
            exact ⟨rfl,rfl⟩
          | false =>
            rw [hl,Bool.false_or] at hm
            go_wp2_with (go_at_call 34; refine hch.mono ?_; rintro e w' ⟨rfl,rfl⟩)
            go_ret
            exact ⟨rfl,rfl⟩
        · rw [show (q==(c:Int))=false from beq_eq_false_iff_ne.2 hqc,Bool.or_eq_false_iff] at hm
          obtain ⟨hl,hr⟩:=hm
          go_wp2_with (go_at_call 34; refine hch.mono ?_; rintro e w' ⟨rfl,rfl⟩)
          go_round
          case rel=>exact ⟨c+1,by omega,by go_num,by omega⟩
          case measure=>simp [intOf]; omega
      · have hq':q=-1:=by omega
        have hd:decide ((c:Int)≤2*(N:Int)-2)=false:=decide_eq_false hlt
        have K:=Lib.hid hq'
        clear hq' hq hpn
        go_wp2
        all_goals first | omega | (go_ret; exact ⟨by rw [K.out]; rfl,rfl⟩)
end Seat
end
section
namespace Pk
open Go Go.RowKit
open Rely Auto Own Sha
open Cha
open Ae hiding run_storeQ
open Cn hiding nb_new run_extractT
theorem Qk5 {α β:Type} (f:α→List β) (k:Nat):∀ (es:List α),(∀ e∈es,(f e).length=k)→∀ i e,es[i]? = some e→(es.flatMap f).take (k*i)++(f e++(es.flatMap f).drop (k*i+k))=es.flatMap f∧k*i+k≤(es.flatMap f).length
  | [],_,_,_,h=>by simp at h
  | x::es,hl,0,e,h=>by
    obtain rfl:x=e:=by simpa using h
    have:=hl x za3
    rw [zaW]
    constructor
    · rw [Nat.mul_zero,zaD,za7,zas,←this,List.drop_left]
    · rw [zaX]; omega
  | x::es,hl,i+1,e,h=>by
    have hx:=hl x za3
    obtain ⟨h1,h2⟩:=Qk5 f k es (fun e he=>hl e (za1 _ he)) i e (by simpa using h)
    rw [zaW]
    have e1:k*(i+1)=(f x).length+k*i:=by rw [hx,Nat.mul_add]; omega
    have e2:k*(i+1)+k=(f x).length+(k*i+k):=by omega
    constructor
    · rw [e2,e1,List.take_length_add_append,List.drop_length_add_append,za6,h1]
    · rw [zaX,e2]; omega
theorem Qji {α : Type} (f:α→List Value) (k:Nat) (es:List α) (hl:∀ e∈es,(f e).length=k) (cur:Array Value) (h:cur.toList.take (es.length*k)=es.flatMap f) (i:Nat) (e:α) (he:es[i]? = some e):(cur.toList.take (k*i)).toArray.size=k*i∧cur.toList=cur.toList.take (k*i)++(f e++cur.toList.drop (k*i+k)):=by
  have hf:=Qk5 f k es hl i e he
  have h3:cur.toList=es.flatMap f++cur.toList.drop (es.length*k):=by rw [←h,zaB]
  have l2:(es.flatMap f).length≤cur.toList.length:=by rw [←h,zaY]; omega
  refine ⟨by simp only [zal,zaY]; omega,?_⟩
  have t1:cur.toList.take (k*i)=(es.flatMap f).take (k*i):=by rw [h3,zaN oo]
  have t2:cur.toList.drop (k*i+k)=(es.flatMap f).drop (k*i+k)++cur.toList.drop (es.length*k):=by conv=>{ lhs; rw [h3] }; rw [zaP hf.2]
  rw [t1,t2,←za6 (f e),←za6,hf.1]; exact h3
theorem Qje {g : Nat} {W W':World} (q:ExtB g W W'):Qai [g] W W':=Qai.but (zbq _ _) q (.inl za3)
theorem Qk3 {g : Nat} {W W':World} (q:W.grownBy W' (some g)):ExtB g W W':=⟨q.os,q.tape,q.output,q.size,fun k hk hn=>q.block k hk (fun e=>hn (Option.some.inj e))⟩
structure OwG {α : Type} (T : TypeId) (sz base : Nat) (f : α → List Value) (xs : List α) (v : Value) (W : World) : Prop where
  row:W.ownsRow base T sz v xs.length (xs.flatMap f)
theorem OwG.nil {α : Type} (T:TypeId) (sz base:Nat) (f:α→List Value) (W:World):OwG T sz base f [] (.slice none 0 0) W:=⟨World.ownsRow_nil W base T sz⟩
theorem OwG.ext {α : Type} {T:TypeId} {sz base:Nat} {f:α→List Value} {xs:List α} {v:Value} {W W':World} (h:OwG T sz base f xs v W) (e:Ext W W'):OwG T sz base f xs v W' :=
  ⟨⟨h.row.1,h.row.2.imp id fun ⟨g,c,cur,q1,q2,q3,q4⟩=>⟨g,c,cur,q1,q2,Qaa q3 e,q4⟩⟩⟩
theorem OwG.sl {α : Type} {T:TypeId} {sz base:Nat} {f:α→List Value} {xs:List α} {v:Value} {W:World} (h:OwG T sz base f xs v W):∃ a c,v=.slice a xs.length c:=by
  rcases h.row.2 with ⟨rfl,e⟩ | ⟨g',c,cur,rfl,_⟩
  · exact ⟨none,0,by rw [e]⟩
  · exact ⟨_,_,rfl⟩
theorem OwG.at {α : Type} {T:TypeId} {sz base:Nat} {f:α→List Value} {xs:List α} {v:Value} {W:World} (h:OwG T sz base f xs v W) {k:Nat} (e:v.ownBlock=some k):base≤k∧∃ cur,W.heap[k]? = some (.cells cur T):=by
  rcases h.row.2 with ⟨rfl,_⟩ | ⟨g',c,cur,rfl,q2,q3,_⟩
  · cases e
  · obtain rfl:g'=k:=Option.some.inj e
    exact ⟨q2,cur,q3⟩
theorem OwG.keep {α : Type} {T:TypeId} {sz base:Nat} {f:α→List Value} {xs:List α} {v:Value} {W W':World} (h:OwG T sz base f xs v W) (k:∀ g,v.ownBlock=some g→W'.heap[g]? = W.heap[g]?):OwG T sz base f xs v W' :=
  ⟨⟨h.row.1,h.row.2.imp id fun ⟨g,c,cur,q1,q2,q3,q4⟩=>⟨g,c,cur,q1,q2,(k g (by rw [q1]; rfl)).trans q3,q4⟩⟩⟩
theorem OwG.get {α : Type} {T:TypeId} {sz base:Nat} {f:α→List Value} {xs:List α} {v:Value} {W:World} (h:OwG T sz base f xs v W) (hf:∀ e∈xs,(f e).length=sz) (k:Nat) (e:α) (he:xs[k]? = some e):∃ (g c:Nat) (P tl:Array Value),v=.slice (some ⟨g,0,none⟩) xs.length c∧base≤g∧P.size=sz*k∧W.heap[g]? = some (.cells (P++((f e).toArray++tl)) T):=by
  rcases h.row.2 with ⟨-,e2⟩ | ⟨g,cap,cur,q1,q2,q3,q4,q5,q6,q7⟩
  · have:=(zat.1 he).1
    omega
  · obtain ⟨h1,h2⟩:=Qji f sz xs hf cur q7 k e he
    refine ⟨g,cap,_,(cur.toList.drop (sz*k+sz)).toArray,q1,q2,h1,?_⟩
    rw [q3]
    refine congrArg (fun z=>some (Obj.cells z T)) (za8 ?_)
    refine Eq.trans h2 ?_
    simp
theorem OwG.app {α : Type} {P:Program} {ρ:Operand→Value} {o:Oper} {W:World} {T:TypeId} {sz:Nat} (b:Nat) (s x:Operand) (t:TypeId) (ho:o.op=.call { callee:=.builtin .append,args:=#[s,x],argTypes:=#[t,t] }) (ht:P.underlying t=some (.slice T))
    (hi:(P.info? T).map (fun i=>(i.zero.map (·.cells.size),i.size,i.bytes))=some (some sz,sz,b)) (hb8:b≤1000) (hsz:0<sz) {base g:Nat} {v:Value} {f:α→List Value} {xs:List α} {e:α} (hs:ρ s=v) (hx:ρ x=.slice (some ⟨g,0,none⟩) 1 1)
    (h:OwG T sz base f xs v W) (he:(f e).length=sz) (h1:∀ u∈f e,u.oneCell'=true) (hrow:W.heap[g]? = some (.cells (f e).toArray T)) (hl:xs.length≤1000) (hbase:base≤W.heap.size) :
    ∃ v' W',(execOp ρ o).run P W=.ok (.value v') W'∧OwG T sz base f (xs++[e]) v' W'∧W.grownBy W' v.ownBlock:=by
  obtain ⟨i,hq,z,hz,hzs,hi2,hi3⟩:∃ i,P.info? T=some i∧∃ z,i.zero=some z∧z.cells.size=sz∧i.size=sz∧i.bytes=b:=by
    cases hq:P.info? T with
    | none=>rw [hq] at hi; cases hi
    | some i =>
      rw [hq] at hi
      simp only [Option.map_some,Option.some.injEq,Prod.mk.injEq] at hi
      obtain ⟨z,hz,hzs⟩:=Option.map_eq_some_iff.1 hi.1
      exact ⟨i,rfl,z,hz,hzs,hi.2.1,hi.2.2⟩
  obtain ⟨v',W',hr,h2,h3,-,-⟩:=run_append_own_at (P:=P) W base t o.type T i z sz b ht hq hz hi2 hi3 hzs hsz v xs.length _ h.row ⟨g,0,none⟩ 1 1 (f e) (by rw [Nat.one_mul]; exact he)
    (fun j u hu=>by
      rw [WideShapes.add_plain,zas]
      unfold World.cell?
      simp only [hrow]
      simpa using hu) h1 (by simp only [maxLen]; omega) (by
        have:(xs.length+1)*b≤1001*1000:=Nat.mul_le_mul oo hb8
        omega) hbase
  refine ⟨v',W',?_,⟨?_⟩,h3⟩
  · unfold execOp
    simp only [ho,resolve,invoke,builtin,za9,Sem.run_pure,zaA,List.map_toArray,List.map_cons,List.map_nil,hs,hx,hr]
  · rw [zaX,List.flatMap_append]
    simpa using h2
section
variable {ds : List Deferred} {P : Program} {ops : Array Oper} {Q : Exit → Act → World → Prop} {rest : List Oper} {o : Oper} {N : Nat} {L : Env} {w : World}
theorem QhS {α : Type} {T:TypeId} {sz:Nat} (b:Nat) (s x:Operand) (t:TypeId) (d:Nat) (ho:o.op=.call { callee:=.builtin .append,args:=#[s,x],argTypes:=#[t,t] }) (ht:P.underlying t=some (.slice T))
    (hi:(P.info? T).map (fun i=>(i.zero.map (·.cells.size),i.size,i.bytes))=some (some sz,sz,b)) (hb8:b≤1000) (hsz:0<sz) {base g:Nat} {v:Value} {f:α→List Value} {xs:List α} {e:α} (hs:Rely.look (envN N L) s=v) (hx:Rely.look (envN N L) x=.slice (some ⟨g,0,none⟩) 1 1)
    (h:OwG T sz base f xs v w) (he:(f e).length=sz) (h1:∀ u∈f e,u.oneCell'=true) (hrow:w.heap[g]? = some (.cells (f e).toArray T)) (hl:xs.length≤1000) (hbase:base≤w.heap.size) (hd:o.dst=some d) (hg:Qbp ops o N L=some true)
    (k:∀ (v':Value) (W:World),OwG T sz base f (xs++[e]) v' W→w.grownBy W v.ownBlock→WL P ops Q rest (Qav ds N ((d,v')::L)) W):WL P ops Q (o::rest) (Qav ds N L) w:=by
  obtain ⟨v',W',hr,h2,h3⟩:=OwG.app b s x t ho ht hi hb8 hsz hs hx h he h1 hrow hl hbase
  exact Qbs v' W' d hd hg hr (k v' W' h2 h3)
end
theorem Qiv {α : Type} {T:TypeId} {sz:Nat} {f:α→List Value} {xs:List α} {v:Value} {w W W':World} (x:Ext w W) (h:OwG T sz w.heap.size f xs v W) (q:W.grownBy W' v.ownBlock):Ext w W':=by
  cases e:v.ownBlock with
  | none=>rw [e] at q; exact zbl x (Qfu q)
  | some g =>
    obtain ⟨hb,-⟩:=h.at e
    rw [e] at q
    exact Qai.ext (Qje (Qk3 q)) x (fun c hc=>by rw [za5] at hc; omega)
theorem Qdg {α : Type} {T T':TypeId} {sz base k:Nat} {f:α→List Value} {xs:List α} {v:Value} {W W':World} {c:Array Value} (h:OwG T sz base f xs v W) (q:W.grownBy W' v.ownBlock) (r:W.heap[k]? = some (.cells c T')) (hT:T'≠T):W'.heap[k]? = some (.cells c T') :=
  (q.block k (Qaq r) (fun e=>by obtain ⟨-,cur,r2⟩:=h.at e.symm; exact Qcg r r2 hT rfl)).trans r
theorem Qok (n : Int) (h:Seat.isTree n=false) (w:World):Calls Tryz.prog 14 #[.int .i64 n] w (Ret w (.int .i64 (-1))):=(Seat.root n w).mono fun e W ⟨h1,h2⟩=>by rw [h] at h1; exact ⟨h1,h2▸zbh _⟩
theorem QgG (n : Int) (h:Seat.isTree n=true) (w:World):Calls Tryz.prog 14 #[.int .i64 n] w (Ret w (.int .i64 (n-1))):=(Seat.root n w).mono fun e W ⟨h1,h2⟩=>by rw [h] at h1; exact ⟨h1,h2▸zbh _⟩
theorem Qe1 (n : Int) (b:Bool) (h:Seat.isTree n=b) (w:World):Calls Tryz.prog 18 #[.int .i64 n] w (Ret w (.bool b)):=(Seat.sound n w).mono fun e W ⟨h1,h2⟩=>by rw [h] at h1; exact ⟨h1,h2▸zbh _⟩
theorem QoS (gb ge ce:Nat) (w:World) (hgb:w.heap[gb]? = some (.cells (cat [#[.slice (some ⟨ge,0,none⟩) 1 ce],#[.bool false]]) 52)):Calls Tryz.prog 15 #[pp gb 0] w (Ret w (pp ge 0)):=by
  refine enter 24 [(0,pp gb 0)] Tryz.func15 rfl rfl kj rfl <| sgB kj <| wp_seq_k fun K3 hK3=>sgC fun K4 hK4=>sg 6 kj <| sv (.slice (some ⟨ge,0,none⟩) 1 ce) 9 (Qab 50 _ gb 0 52 _ (.slice (some ⟨ge,0,none⟩) 1 ce) _ hgb rfl kj kj kj) <| sg 3 kj <| sgN hK4 <| cond_false kj <| wp_skip ?_
  refine hK3 _ _ <| wp_seq_k fun K5 hK5=>Qba 11 [⟨none,[(0,none)]⟩,⟨none,[(13,some 0)]⟩,⟨none,[(14,some 1)]⟩,⟨none,[(15,some 2)]⟩,⟨none,[(0,none)]⟩,⟨none,[(17,some 4)]⟩,⟨none,[(18,some 5)]⟩,⟨none,[(19,some 6)]⟩,⟨none,[(20,some 7)]⟩,⟨none,[(21,some 8)]⟩,⟨none,[(16,some 3),(22,some 9)]⟩] kj kj fun F hF=>Qar (pp gb 0) kj kj (fun _=>kj) <| Qar (pp gb 0) kj kj (fun _=>kj) <| Qar (pp gb 0) kj kj (fun _=>kj) <| QaK (.slice (some ⟨ge,0,none⟩) 1 ce) kj kj (fun W hR=>(Qab 50 _ gb 0 52 _ (.slice (some ⟨ge,0,none⟩) 1 ce) _ (Qaa (Qaa hgb (Qan _)) hR) rfl kj kj kj)) <| Qar (pp gb 0) kj kj (fun _=>kj) <| Qar (pp gb 0) kj kj (fun _=>kj) <| Qar (pp gb 0) kj kj (fun _=>kj) ?_
  refine QaK (.slice (some ⟨ge,0,none⟩) 1 ce) kj kj (fun W hR=>(Qab 50 _ gb 0 52 _ (.slice (some ⟨ge,0,none⟩) 1 ce) _ (Qaa (Qaa hgb (Qan _)) hR) rfl kj kj kj)) <| Qar (.int .i64 1) kj kj (fun _=>kj) <| Qar (.int .i64 0) kj kj (fun _=>kj) <| Qar (pp ge 0) kj kj (fun _=>kj) <| Qbh (hF _ kj fun W1 e1=>?_)
  simp only [ups,up,Kn.val,zaC,zaD,zaE,zaF,za7,za2]
  clear hF
  refine sg 1 kj <| sgN hK5 <| wp_ret ?_
  exact (show bodyPost _ _ _ .ret _ _ from ret1 (pp ge 0) rfl (Qax kj) ⟨rfl,(zbl (zbh w) e1)⟩)
theorem QpG (gb : Nat) (w:World) (hgb:w.heap[gb]? = some (.cells (cat [#[.slice none 0 0],#[.bool false]]) 52)):Calls Tryz.prog 15 #[pp gb 0] w (Ret w (.pointer none)):=by
  refine enter 24 [(0,pp gb 0)] Tryz.func15 rfl rfl kj rfl <| sgB kj <| wp_seq_k fun K3 hK3=>sgC fun K4 hK4=>sg 6 kj <| sv (.slice none 0 0) 9 (Qab 50 _ gb 0 52 _ (.slice none 0 0) _ hgb rfl kj kj kj) <| sg 3 kj <| sgN hK4 <| cond_true kj <| sgB kj ?_
  refine wp_ret ?_
  exact (show bodyPost _ _ _ .ret _ _ from ret1 (.pointer none) rfl (Qax kj) ⟨rfl,(zbh w)⟩)
theorem Qp5 (g : Nat) (grp sec:List Int) (hgl:grp.length=32) (hsl:sec.length=32) (num leaf lv:Int) (w:World) (hg:w.heap[g]? = some (.cells (cat [#[.slice none 0 0],#[.bool false]]) 52)) (hf:Seat.isTree lv=false):Calls Tryz.prog 7 #[pp g 0,.agg (ints .u8 grp),.int .i64 num,.agg (ints .u8 sec),.int .i64 lv,.int .i64 leaf] w (Ret w (.iface 49 (.int .i64 3))):=by
  refine enter 94 [(0,pp g 0),(1,.agg (ints .u8 (grp))),(2,.int .i64 num),(3,.agg (ints .u8 (sec))),(4,.int .i64 lv),(5,.int .i64 leaf)] Tryz.func7 rfl rfl kj rfl <| sgC fun K2 hK2=>Qah (ints .u8 (grp)) 23 7 rfl kj kj fun g3 W1 l3 e1 r3_1=>?_
  have x1:=zbl (zbh w) e1
  have b3:=qT (zbh w).size l3
  refine Qah (ints .u8 (sec)) 23 9 rfl kj kj fun g4 W2 l4 e2 r4_2=>?_
  have b4:=qT x1.size l4
  refine sg 1 kj <| sgN hK2 <| wp_seq_k fun K5 hK5=>sgC fun K6 hK6=>sg 6 kj <| sv (.bool false) 20 (Qab 4 _ g 1 52 _ (.bool false) _ (Qaa (Qaa hg e1) e2) rfl kj kj kj) <| sg 1 kj <| sgN hK6 <| cond_false kj <| wp_skip ?_
  refine hK5 _ _ <| wp_seq_k fun K7 hK7=>sgC fun K8 hK8=>sg 1 kj <| Qao (.int .i64 (-1)) 14 #[.int .i64 lv] 24 rfl kj kj ((Qok lv hf) _) fun W3 e3=>sg 10 kj <| sgN hK8 <| cond_true kj <| sgB kj <| wp_ret ?_
  exact (show bodyPost _ _ _ .ret _ _ from ret1 (.iface 49 (.int .i64 3)) rfl (Qax kj) ⟨rfl,(zbl (zbl x1 e2) e3)⟩)
theorem Qp4 (g : Nat) (grp sec:List Int) (hgl:grp.length=32) (hsl:sec.length=32) (num leaf lv:Int) (w:World) (hg:w.heap[g]? = some (.cells (cat [#[.slice none 0 0],#[.bool false]]) 52)) (hf:Seat.isTree lv=true) (h1:leaf<0):Calls Tryz.prog 7 #[pp g 0,.agg (ints .u8 grp),.int .i64 num,.agg (ints .u8 sec),.int .i64 lv,.int .i64 leaf] w (Ret w (.iface 49 (.int .i64 3))):=by
  have htr:lv=1∨lv=2∨lv=4∨lv=8∨lv=16∨lv=32:=Seat.isTree_cases hf
  refine enter 94 [(0,pp g 0),(1,.agg (ints .u8 (grp))),(2,.int .i64 num),(3,.agg (ints .u8 (sec))),(4,.int .i64 lv),(5,.int .i64 leaf)] Tryz.func7 rfl rfl kj rfl <| sgC fun K2 hK2=>Qah (ints .u8 (grp)) 23 7 rfl kj kj fun g3 W1 l3 e1 r3_1=>?_
  have x1:=zbl (zbh w) e1
  have b3:=qT (zbh w).size l3
  refine Qah (ints .u8 (sec)) 23 9 rfl kj kj fun g4 W2 l4 e2 r4_2=>?_
  have b4:=qT x1.size l4
  refine sg 1 kj <| sgN hK2 <| wp_seq_k fun K5 hK5=>sgC fun K6 hK6=>sg 6 kj <| sv (.bool false) 20 (Qab 4 _ g 1 52 _ (.bool false) _ (Qaa (Qaa hg e1) e2) rfl kj kj kj) <| sg 1 kj <| sgN hK6 <| cond_false kj <| wp_skip ?_
  refine hK5 _ _ <| wp_seq_k fun K7 hK7=>sgC fun K8 hK8=>sg 1 kj <| Qao (.int .i64 (lv-1)) 14 #[.int .i64 lv] 24 rfl kj kj ((QgG lv hf) _) fun W3 e3=>sv (.bool false) 25 (Qac (u:=.bool (decide ((lv-1)<0))) kj (congrArg zac (decide_eq_false oo))) <| sg 2 kj <| sv (.bool true) 28 (Qac (u:=.bool (decide (leaf<0))) kj (congrArg zac (decide_eq_true oo))) <| sg 6 kj <| sgN hK8 ?_
  refine cond_true kj <| sgB kj <| wp_ret ?_
  exact (show bodyPost _ _ _ .ret _ _ from ret1 (.iface 49 (.int .i64 3)) rfl (Qax kj) ⟨rfl,(zbl (zbl x1 e2) e3)⟩)
theorem Qp3 (g : Nat) (grp sec:List Int) (hgl:grp.length=32) (hsl:sec.length=32) (num leaf lv:Int) (w:World) (hg:w.heap[g]? = some (.cells (cat [#[.slice none 0 0],#[.bool false]]) 52)) (hf:Seat.isTree lv=true) (h1:0≤leaf) (h2:lv≤leaf):Calls Tryz.prog 7 #[pp g 0,.agg (ints .u8 grp),.int .i64 num,.agg (ints .u8 sec),.int .i64 lv,.int .i64 leaf] w (Ret w (.iface 49 (.int .i64 3))):=by
  have htr:lv=1∨lv=2∨lv=4∨lv=8∨lv=16∨lv=32:=Seat.isTree_cases hf
  refine enter 94 [(0,pp g 0),(1,.agg (ints .u8 (grp))),(2,.int .i64 num),(3,.agg (ints .u8 (sec))),(4,.int .i64 lv),(5,.int .i64 leaf)] Tryz.func7 rfl rfl kj rfl <| sgC fun K2 hK2=>Qah (ints .u8 (grp)) 23 7 rfl kj kj fun g3 W1 l3 e1 r3_1=>?_
  have x1:=zbl (zbh w) e1
  have b3:=qT (zbh w).size l3
  refine Qah (ints .u8 (sec)) 23 9 rfl kj kj fun g4 W2 l4 e2 r4_2=>?_
  have b4:=qT x1.size l4
  refine sg 1 kj <| sgN hK2 <| wp_seq_k fun K5 hK5=>sgC fun K6 hK6=>sg 6 kj <| sv (.bool false) 20 (Qab 4 _ g 1 52 _ (.bool false) _ (Qaa (Qaa hg e1) e2) rfl kj kj kj) <| sg 1 kj <| sgN hK6 <| cond_false kj <| wp_skip ?_
  refine hK5 _ _ <| wp_seq_k fun K7 hK7=>sgC fun K8 hK8=>sg 1 kj <| Qao (.int .i64 (lv-1)) 14 #[.int .i64 lv] 24 rfl kj kj ((QgG lv hf) _) fun W3 e3=>sv (.bool false) 25 (Qac (u:=.bool (decide ((lv-1)<0))) kj (congrArg zac (decide_eq_false oo))) <| sg 2 kj <| sv (.bool false) 28 (Qac (u:=.bool (decide (leaf<0))) kj (congrArg zac (decide_eq_false oo))) <| sg 4 kj <| sv (.bool true) 33 (Qac (u:=.bool (decide (leaf≥lv))) kj (congrArg zac (decide_eq_true oo))) ?_
  refine sg 1 kj <| sgN hK8 <| cond_true kj <| sgB kj <| wp_ret ?_
  exact (show bodyPost _ _ _ .ret _ _ from ret1 (.iface 49 (.int .i64 3)) rfl (Qax kj) ⟨rfl,(zbl (zbl x1 e2) e3)⟩)
theorem Qo2 (g : Nat) (grp sec:List Int) (hgl:grp.length=32) (hsl:sec.length=32) (num leaf lv:Int) (w:World) (hg:w.heap[g]? = some (.cells (cat [#[.slice none 0 0],#[.bool false]]) 52)) (hf:Seat.isTree lv=true) (h1:0≤leaf) (h2:leaf<lv) (h3:num<0):Calls Tryz.prog 7 #[pp g 0,.agg (ints .u8 grp),.int .i64 num,.agg (ints .u8 sec),.int .i64 lv,.int .i64 leaf] w (Ret w (.iface 49 (.int .i64 6))):=by
  have htr:lv=1∨lv=2∨lv=4∨lv=8∨lv=16∨lv=32:=Seat.isTree_cases hf
  refine enter 94 [(0,pp g 0),(1,.agg (ints .u8 (grp))),(2,.int .i64 num),(3,.agg (ints .u8 (sec))),(4,.int .i64 lv),(5,.int .i64 leaf)] Tryz.func7 rfl rfl kj rfl <| sgC fun K2 hK2=>Qah (ints .u8 (grp)) 23 7 rfl kj kj fun g3 W1 l3 e1 r3_1=>?_
  have x1:=zbl (zbh w) e1
  have b3:=qT (zbh w).size l3
  refine Qah (ints .u8 (sec)) 23 9 rfl kj kj fun g4 W2 l4 e2 r4_2=>?_
  have b4:=qT x1.size l4
  refine sg 1 kj <| sgN hK2 <| wp_seq_k fun K5 hK5=>sgC fun K6 hK6=>sg 6 kj <| sv (.bool false) 20 (Qab 4 _ g 1 52 _ (.bool false) _ (Qaa (Qaa hg e1) e2) rfl kj kj kj) <| sg 1 kj <| sgN hK6 <| cond_false kj <| wp_skip ?_
  refine hK5 _ _ <| wp_seq_k fun K7 hK7=>sgC fun K8 hK8=>sg 1 kj <| Qao (.int .i64 (lv-1)) 14 #[.int .i64 lv] 24 rfl kj kj ((QgG lv hf) _) fun W3 e3=>sv (.bool false) 25 (Qac (u:=.bool (decide ((lv-1)<0))) kj (congrArg zac (decide_eq_false oo))) <| sg 2 kj <| sv (.bool false) 28 (Qac (u:=.bool (decide (leaf<0))) kj (congrArg zac (decide_eq_false oo))) <| sg 4 kj <| sv (.bool false) 33 (Qac (u:=.bool (decide (leaf≥lv))) kj (congrArg zac (decide_eq_false oo))) ?_
  refine sg 1 kj <| sgN hK8 <| cond_false kj <| wp_skip <| hK7 _ _ <| wp_seq_k fun K9 hK9=>sgC fun K10 hK10=>sg 1 kj <| sv (.bool true) 37 (Qac (u:=.bool (decide (num<0))) kj (congrArg zac (decide_eq_true oo))) <| sg 4 kj ?_
  refine sgN hK10 <| cond_true kj <| sgB kj <| wp_ret ?_
  exact (show bodyPost _ _ _ .ret _ _ from ret1 (.iface 49 (.int .i64 6)) rfl (Qax kj) ⟨rfl,(zbl (zbl x1 e2) e3)⟩)
theorem Qo1 (g : Nat) (grp sec:List Int) (hgl:grp.length=32) (hsl:sec.length=32) (num leaf lv:Int) (w:World) (hg:w.heap[g]? = some (.cells (cat [#[.slice none 0 0],#[.bool false]]) 52)) (hf:Seat.isTree lv=true) (h1:0≤leaf) (h2:leaf<lv) (h3:0≤num) (h4:4294967295<num):Calls Tryz.prog 7 #[pp g 0,.agg (ints .u8 grp),.int .i64 num,.agg (ints .u8 sec),.int .i64 lv,.int .i64 leaf] w (Ret w (.iface 49 (.int .i64 6))):=by
  have htr:lv=1∨lv=2∨lv=4∨lv=8∨lv=16∨lv=32:=Seat.isTree_cases hf
  refine enter 94 [(0,pp g 0),(1,.agg (ints .u8 (grp))),(2,.int .i64 num),(3,.agg (ints .u8 (sec))),(4,.int .i64 lv),(5,.int .i64 leaf)] Tryz.func7 rfl rfl kj rfl <| sgC fun K2 hK2=>Qah (ints .u8 (grp)) 23 7 rfl kj kj fun g3 W1 l3 e1 r3_1=>?_
  have x1:=zbl (zbh w) e1
  have b3:=qT (zbh w).size l3
  refine Qah (ints .u8 (sec)) 23 9 rfl kj kj fun g4 W2 l4 e2 r4_2=>?_
  have b4:=qT x1.size l4
  refine sg 1 kj <| sgN hK2 <| wp_seq_k fun K5 hK5=>sgC fun K6 hK6=>sg 6 kj <| sv (.bool false) 20 (Qab 4 _ g 1 52 _ (.bool false) _ (Qaa (Qaa hg e1) e2) rfl kj kj kj) <| sg 1 kj <| sgN hK6 <| cond_false kj <| wp_skip ?_
  refine hK5 _ _ <| wp_seq_k fun K7 hK7=>sgC fun K8 hK8=>sg 1 kj <| Qao (.int .i64 (lv-1)) 14 #[.int .i64 lv] 24 rfl kj kj ((QgG lv hf) _) fun W3 e3=>sv (.bool false) 25 (Qac (u:=.bool (decide ((lv-1)<0))) kj (congrArg zac (decide_eq_false oo))) <| sg 2 kj <| sv (.bool false) 28 (Qac (u:=.bool (decide (leaf<0))) kj (congrArg zac (decide_eq_false oo))) <| sg 4 kj <| sv (.bool false) 33 (Qac (u:=.bool (decide (leaf≥lv))) kj (congrArg zac (decide_eq_false oo))) ?_
  refine sg 1 kj <| sgN hK8 <| cond_false kj <| wp_skip <| hK7 _ _ <| wp_seq_k fun K9 hK9=>sgC fun K10 hK10=>sg 1 kj <| sv (.bool false) 37 (Qac (u:=.bool (decide (num<0))) kj (congrArg zac (decide_eq_false oo))) <| sg 2 kj ?_
  refine sv (.bool true) 40 (Qac (u:=.bool (decide (num>4294967295))) kj (congrArg zac (decide_eq_true oo))) <| sg 1 kj <| sgN hK10 <| cond_true kj <| sgB kj <| wp_ret ?_
  exact (show bodyPost _ _ _ .ret _ _ from ret1 (.iface 49 (.int .i64 6)) rfl (Qax kj) ⟨rfl,(zbl (zbl x1 e2) e3)⟩)
theorem Qo0 (g : Nat) (ge ce gc:Nat) (grp0:List Int) (hg0:grp0.length=32) (tl:Array Value) (grp sec:List Int) (hgl:grp.length=32) (hsl:sec.length=32) (num leaf lv:Int) (w:World) (hg:w.heap[g]? = some (.cells (cat [#[.slice (some ⟨ge,0,none⟩) 1 ce],#[.bool false]]) 52)) (hge:w.heap[ge]? = some (.cells (cat [#[pp gc 0],ints .u8 grp0,#[.int .i64 num],#[.int .i64 leaf],tl]) 58)) (hf:Seat.isTree lv=true) (h1:0≤leaf) (h2:leaf<lv) (h3:0≤num) (h4:num≤4294967295):Calls Tryz.prog 7 #[pp g 0,.agg (ints .u8 grp),.int .i64 num,.agg (ints .u8 sec),.int .i64 lv,.int .i64 leaf] w (Ret w (.iface 49 (.int .i64 6))):=by
  have htr:lv=1∨lv=2∨lv=4∨lv=8∨lv=16∨lv=32:=Seat.isTree_cases hf
  refine enter 94 [(0,pp g 0),(1,.agg (ints .u8 (grp))),(2,.int .i64 num),(3,.agg (ints .u8 (sec))),(4,.int .i64 lv),(5,.int .i64 leaf)] Tryz.func7 rfl rfl kj rfl <| sgC fun K3 hK3=>Qah (ints .u8 (grp)) 23 7 rfl kj kj fun g4 W1 l4 e1 r4_1=>?_
  have x1:=zbl (zbh w) e1
  have b4:=qT (zbh w).size l4
  refine Qah (ints .u8 (sec)) 23 9 rfl kj kj fun g5 W2 l5 e2 r5_2=>?_
  have b5:=qT x1.size l5
  refine sg 1 kj <| sgN hK3 <| wp_seq_k fun K6 hK6=>sgC fun K7 hK7=>sg 6 kj ?_
  have r1_2:=(Qaa (Qaa hg e1) e2)
  refine sv (.bool false) 20 (Qab 4 _ g 1 52 _ (.bool false) _ r1_2 rfl kj kj kj) <| sg 1 kj <| sgN hK7 <| cond_false kj <| wp_skip <| hK6 _ _ <| wp_seq_k fun K8 hK8=>sgC fun K9 hK9=>sg 1 kj <| Qao (.int .i64 (lv-1)) 14 #[.int .i64 lv] 24 rfl kj kj ((QgG lv hf) _) fun W3 e3=>?_
  refine sv (.bool false) 25 (Qac (u:=.bool (decide ((lv-1)<0))) kj (congrArg zac (decide_eq_false oo))) <| sg 2 kj <| sv (.bool false) 28 (Qac (u:=.bool (decide (leaf<0))) kj (congrArg zac (decide_eq_false oo))) <| sg 4 kj <| sv (.bool false) 33 (Qac (u:=.bool (decide (leaf≥lv))) kj (congrArg zac (decide_eq_false oo))) <| sg 1 kj <| sgN hK9 <| cond_false kj <| wp_skip <| hK8 _ _ ?_
  refine wp_seq_k fun K10 hK10=>sgC fun K11 hK11=>sg 1 kj <| sv (.bool false) 37 (Qac (u:=.bool (decide (num<0))) kj (congrArg zac (decide_eq_false oo))) <| sg 2 kj <| sv (.bool false) 40 (Qac (u:=.bool (decide (num>4294967295))) kj (congrArg zac (decide_eq_false oo))) <| sg 1 kj <| sgN hK11 <| cond_false kj <| wp_skip ?_
  refine hK10 _ _ <| wp_seq_k fun K12 hK12=>sgC fun K13 hK13=>sg 1 kj <| Qao (pp ge 0) 15 #[pp g 0] 44 rfl kj kj (QoS g ge ce _ (Qaa r1_2 e3)) fun W4 e4=>sg 1 kj <| sgN hK13 <| wp_seq_k fun K14 hK14=>Qba 18 [⟨none,[(13,none)]⟩,⟨none,[(45,some 0)]⟩,⟨none,[(46,some 1)]⟩,⟨some (47,true),[(2,none),(47,some 2)]⟩,⟨some (47,true),[(13,none),(47,some 2)]⟩,⟨some (47,true),[(49,some 4),(47,some 2)]⟩,⟨some (47,true),[(50,some 5),(47,some 2)]⟩,⟨some (47,true),[(51,some 6),(47,some 2)]⟩,⟨some (47,true),[(48,some 3),(52,some 7),(47,some 2)]⟩,⟨some (47,true),[(53,some 8),(47,some 2)]⟩,⟨some (54,false),[(7,none),(54,some 9)]⟩,⟨some (54,false),[(13,none),(54,some 9)]⟩,⟨some (54,false),[(56,some 11),(54,some 9)]⟩,⟨some (54,false),[(57,some 12),(54,some 9)]⟩,⟨some (54,false),[(58,some 13),(54,some 9)]⟩,⟨some (54,false),[(55,some 10),(59,some 14),(54,some 9)]⟩,⟨some (47,true),[(54,some 9),(60,some 15),(47,some 2)]⟩,⟨none,[(47,some 2),(61,some 16)]⟩] kj kj fun F hF=>Qar (pp ge 0) kj kj (fun _=>kj) ?_
  refine Qar (.bool true) kj kj (fun _=>kj) <| Qar (.bool true) kj kj (fun _=>kj) <| Qar (.int .i64 num) kj kj (fun _=>kj) <| Qar (pp ge 0) kj kj (fun _=>kj) <| Qar (pp ge 0) kj kj (fun _=>kj) <| Qar (pp ge 33) kj kj (fun _=>kj) <| QaK (.int .i64 num) kj kj (fun W hR=>(Qab 3 _ ge 33 58 _ (.int .i64 num) _ (Qaa (Qaa (Qaa (Qaa (Qaa (Qaa hge e1) e2) e3) e4) (Qan _)) hR) rfl kj (Qap [#[pp gc 0],ints .u8 (grp0)] [#[.int .i64 num]] [#[.int .i64 leaf],tl] 33 (cz1 hg0) 0 _ rfl) kj)) ?_
  refine Qar (.bool true) kj kj (fun W=>(Qac (u:=.bool (decide (num≤num))) kj (congrArg zac (decide_eq_true oo)))) <| Qar (.bool true) kj kj (fun _=>kj) <| Qbv kj kj <| Qbv kj kj <| Qbv kj kj <| Qbv kj kj <| Qbv kj kj <| Qbv kj kj <| Qar (.bool true) kj kj (fun _=>kj) <| Qar (.bool true) kj kj (fun _=>kj) ?_
  refine Qbh (hF _ kj fun W5 e5=>?_)
  simp only [ups,up,Kn.val,zaC,zaD,zaE,zaF,za7,za2]
  clear hF
  refine sgN hK14 <| cond_true kj <| sgB kj <| wp_ret ?_
  exact (show bodyPost _ _ _ .ret _ _ from ret1 (.iface 49 (.int .i64 6)) rfl (Qax kj) ⟨rfl,(zbl (zbl (zbl (zbl x1 e2) e3) e4) e5)⟩)
end Pk
end
section
namespace Pk
open Go Go.RowKit
open Rely Auto Own Sha
open Cha
open Ae hiding run_storeQ
open Cn hiding nb_new run_extractT
theorem QlQ (g : Nat) (w:World) (hg:w.heap[g]? = some (.cells (cat [#[.slice none 0 0],#[.bool false]]) 52)):Calls Tryz.prog 21 #[pp g 0] w (Ret w (.slice none 0 0)):=by
  refine enter 24 [(0,pp g 0)] Tryz.func21 rfl rfl kj rfl <| sgB kj <| wp_seq_k fun K3 hK3=>sgB kj <| cond_false kj <| wp_skip <| hK3 _ _ <| sgB kj <| wp_seq_k fun K6 hK6=>sgC fun K7 hK7=>?_
  refine sg 3 kj <| sv (.slice none 0 0) 11 (Qab 50 _ g 0 52 _ (.slice none 0 0) _ hg rfl kj kj kj) <| sg 2 kj <| sgN hK7 <| wp_block <| wp_loop_rounds 1 ?_
  show zaL _ _ (Exit.then (zaM _ _ _ 0) _) _ _
  refine sgB kj <| wp_seq_k fun K9 hK9=>cond_false kj <| wp_exit <| hK6 _ _ <| sgB kj <| wp_ret ?_
  exact (show bodyPost _ _ _ .ret _ _ from ret1 (.slice none 0 0) rfl (Qax kj) ⟨rfl,(zbh w)⟩)
theorem QlP (g ge ce gc:Nat) (grp0:List Int) (hg0:grp0.length=32) (tl:Array Value) (num leaf:Int) (w:World) (hg:w.heap[g]? = some (.cells (cat [#[.slice (some ⟨ge,0,none⟩) 1 ce],#[.bool false]]) 52)) (hge:w.heap[ge]? = some (.cells (cat [#[pp gc 0],ints .u8 grp0,#[.int .i64 num],#[.int .i64 leaf],tl]) 58)):Calls Tryz.prog 21 #[pp g 0] w (Qby w (OwnN .i64 3 w.heap.size [num])):=by
  refine enter 24 [(0,pp g 0)] Tryz.func21 rfl rfl kj rfl <| sgB kj <| wp_seq_k fun K4 hK4=>sgB kj <| cond_false kj <| wp_skip <| hK4 _ _ <| sgB kj <| wp_seq_k fun K7 hK7=>sgC fun K8 hK8=>?_
  refine sg 3 kj <| sv (.slice (some ⟨ge,0,none⟩) 1 ce) 11 (Qab 50 _ g 0 52 _ (.slice (some ⟨ge,0,none⟩) 1 ce) _ hg rfl kj kj kj) <| sg 2 kj <| sgN hK8 <| wp_block <| wp_loop_rounds 2 ?_
  show zaL _ _ (Exit.then (zaM _ _ _ 1) _) _ _
  refine sgB kj <| sgT kj <| wp_seq_k fun K11 hK11=>wp_block <| sgC fun K12 hK12=>sg 1 kj <| sv (.agg (cat [#[pp gc 0],ints .u8 (grp0),#[.int .i64 num],#[.int .i64 leaf]])) 16 (Qa4 58 _ ge 0 58 _ _ _ hge rfl kj (Qap [] [#[pp gc 0],ints .u8 (grp0),#[.int .i64 num],#[.int .i64 leaf]] [tl] 0 kj) kj (isz (n:=35) kj (cz1 hg0))) ?_
  refine Qlh (cat [#[.pointer none],ints .u8 (zai 32 0),#[.int .i64 0],#[.int .i64 0]]) (cat [#[pp gc 0],ints .u8 (grp0),#[.int .i64 num],#[.int .i64 leaf]]) 58 5 35 rfl kj kj rfl (fun _=>kj) rfl (fun _=>kj) (fun _=>kj) kj (cz1 hg0) czR (QaQ _ (by intro a ha; simp only [zaH,zaI,or_false] at ha; rcases ha with rfl | rfl | rfl | rfl; exact (Qaz _ rfl); exact (Qat _ _); exact (Qaz _ rfl); exact (Qaz _ rfl))) fun g13 W2 l13 e2 r13_2=>?_
  have b13:=qT (zbh w).size l13
  have x2:=zbl (zbh w) e2
  refine sgN hK12 <| Qaj <| sg 2 kj <| sv (.int .i64 num) 19 (Qab 3 _ g13 33 58 _ (.int .i64 num) _ r13_2 rfl kj (Qap [#[pp gc 0],ints .u8 (grp0)] [#[.int .i64 num]] [#[.int .i64 leaf]] 33 (cz1 hg0) 0 _ rfl) kj) ?_
  refine QaA (ints .i64 ([num])) 3 1 20 rfl kj kj fun g14 W3 l14 e3 r14_3=>?_
  have b14:=qT x2.size l14
  refine QaH (T:=3) 8 (.tmp 17) (.tmp 20) 67 rfl kj kj dd 21 rfl kj rfl rfl (Qb5 .i64 3 w.heap.size _) (QaL (xs:=[num]) (n:=1) rfl r14_3 (Qaq r14_3) (show 1≤maxLen from by decide)) (show 1≤1000000000 from by decide) (zbl x2 e3) fun v21 W4 ho15 x4 l4=>sg 1 kj <| Qas <| hK11 _ _ <| sgA kj ?_
  show zaM _ _ _ 1 _ _
  show zaL _ _ (Exit.then (zaM _ _ _ 0) _) _ _
  refine sgB kj <| wp_seq_k fun K17 hK17=>cond_false kj <| wp_exit <| hK7 _ _ <| sgB kj <| wp_ret ?_
  exact (show bodyPost _ _ _ .ret _ _ from ret1 (v21) rfl (Qax kj) ⟨_,rfl,x4,(by have h9:=ho15; simpa using h9)⟩)
theorem Qo5 (g : Nat) (w:World) (hg:w.heap[g]? = some (.cells (cat [#[.slice none 0 0],#[.bool false]]) 52)):Calls Tryz.prog 22 #[pp g 0] w (Ret w (.int .i64 0)):=by
  refine enter 17 [(0,pp g 0)] Tryz.func22 rfl rfl kj rfl <| sgB kj <| sgC fun K3 hK3=>sg 1 kj <| Qao (.pointer none) 15 #[pp g 0] 5 rfl kj kj (QpG g _ hg) fun W1 e1=>sg 1 kj <| sgN hK3 <| wp_seq_k fun K4 hK4=>sgB kj <| cond_true kj ?_
  refine sgB kj <| wp_ret ?_
  exact (show bodyPost _ _ _ .ret _ _ from ret1 (.int .i64 0) rfl (Qax kj) ⟨rfl,(zbl (zbh w) e1)⟩)
theorem Qo4 (g ge ce gc:Nat) (grp0:List Int) (hg0:grp0.length=32) (tl:Array Value) (num:Int) (i:Nat) (w:World) (hg:w.heap[g]? = some (.cells (cat [#[.slice (some ⟨ge,0,none⟩) 1 ce],#[.bool false]]) 52)) (hge:w.heap[ge]? = some (.cells (cat [#[pp gc 0],ints .u8 grp0,#[.int .i64 num],#[.int .i64 (i:Int)],tl]) 58)) (gl len cap:Nat) (lp:Array Value) (hgc:w.heap[gc]? = some (.cells #[.slice (some ⟨gl,0,none⟩) len cap] 85)) (hgl_:w.heap[gl]? = some (.cells lp 91)) (cg cm:Nat) (hi:i<len) (hli:lp[i]? = some (pp cg 0)) (s0 ts:List Int) (pl:Nat) (ms:List (Int×List Int)) (hch:ChSt cg cm s0 ts pl ms w):Calls Tryz.prog 22 #[pp g 0] w (Ret w (.int .i64 (pl:Int))):=by
  refine enter 17 [(0,pp g 0)] Tryz.func22 rfl rfl kj rfl <| sgB kj <| sgC fun K6 hK6=>sg 1 kj <| Qao (pp ge 0) 15 #[pp g 0] 5 rfl kj kj (QoS g ge ce _ hg) fun W1 e1=>?_
  have x1:=zbl (zbh w) e1
  refine sg 1 kj <| sgN hK6 <| wp_seq_k fun K7 hK7=>sgB kj <| cond_false kj <| wp_skip <| hK7 _ _ <| wp_seq_k fun K9 hK9=>Qba 9 [⟨none,[(3,none)]⟩,⟨none,[(8,some 0)]⟩,⟨none,[(9,some 1)]⟩,⟨none,[(10,some 2)]⟩,⟨none,[(3,none)]⟩,⟨none,[(12,some 4)]⟩,⟨none,[(13,some 5)]⟩,⟨none,[(14,some 6)]⟩,⟨none,[(11,some 3),(15,some 7)]⟩] kj kj fun F hF=>Qar (pp ge 0) kj kj (fun _=>kj) ?_
  refine Qar (pp ge 0) kj kj (fun _=>kj) <| Qar (pp ge 0) kj kj (fun _=>kj) ?_
  have r2_1:=(Qaa hge e1)
  refine QaK (pp gc 0) kj kj (fun W hR=>(Qab 56 _ ge 0 58 _ (pp gc 0) _ (Qaa (Qaa r2_1 (Qan _)) hR) rfl kj (Qap [] [#[pp gc 0]] [ints .u8 (grp0),#[.int .i64 num],#[.int .i64 (i:Int)],tl] 0 kj 0 _ rfl) kj)) <| Qar (pp ge 0) kj kj (fun _=>kj) <| Qar (pp ge 0) kj kj (fun _=>kj) <| Qar (pp ge 34) kj kj (fun _=>kj) <| QaK (.int .i64 (i:Int)) kj kj (fun W hR=>(Qab 3 _ ge 34 58 _ (.int .i64 (i:Int)) _ (Qaa (Qaa r2_1 (Qan _)) hR) rfl kj (Qap [#[pp gc 0],ints .u8 (grp0),#[.int .i64 num]] [#[.int .i64 (i:Int)]] [tl] 34 (cz1 hg0) 0 _ rfl) kj)) ?_
  refine QcP (.int .i64 (pl:Int)) 36 #[pp gc 0,.int .i64 (i:Int)] kj kj (fun _=>kj) (fun W hR=>(fun W hR=>QmU gc gl len cap lp W (Qaa (Qaa (Qaa hgc e1) (Qan _)) hR) (Qaa (Qaa (Qaa hgl_ e1) (Qan _)) hR) cg i hi hli (hch.ext (zbi (zbi x1 (Qan _)) hR))) W hR) <| Qbh (hF _ kj fun W2 e2=>?_)
  simp only [ups,up,Kn.val,zaC,zaD,zaE,zaF,za7,za2]
  clear hF
  refine sg 1 kj <| sgN hK9 <| wp_ret ?_
  exact (show bodyPost _ _ _ .ret _ _ from ret1 (.int .i64 (pl:Int)) rfl (Qax kj) ⟨rfl,(zbl x1 e2)⟩)
end Pk
end
section
namespace Sha
open Go Go.RowKit
open Rely Auto Own
theorem QoH (w : World):Calls Tryz.prog 109 #[] w (Qby w (fun v W=>∃ g,v=.slice (some ⟨g,0,none⟩) 80 80∧w.heap.size≤g∧W.heap[g]? = some (.cells (ints .u64 QaM) 93))):=by
  refine enter 2 [] Tryz.func109 rfl rfl kj rfl <| sgB kj <| sgC fun K2 hK2=>QaA (ints .u64 QaM) 93 80 1 rfl kj kj fun g3 W1 l3 e1 r3_1=>sg 1 kj <| sgN hK2 <| wp_ret ?_
  with_reducible repeat first | refine goR1 ?_ | refine goR2 ?_
  exact (show bodyPost _ _ _ .ret _ _ from ret1 (.slice (some ⟨g3,0,none⟩) 80 80) rfl (Qax kj) ⟨_,rfl,(zbl (zbh w) e1),_,rfl,(qT (zbh w).size l3),r3_1⟩)
theorem QoW (w : World):Calls Tryz.prog 98 #[] w (Qby w (fun v W=>∃ g,v=.slice (some ⟨g,0,none⟩) 8 8∧w.heap.size≤g∧W.heap[g]? = some (.cells (ints .u64 Qa5) 93))):=by
  refine enter 2 [] Tryz.func98 rfl rfl kj rfl <| sgB kj <| sgC fun K2 hK2=>QaA (ints .u64 Qa5) 93 8 1 rfl kj kj fun g3 W1 l3 e1 r3_1=>sg 1 kj <| sgN hK2 <| wp_ret ?_
  with_reducible repeat first | refine goR1 ?_ | refine goR2 ?_
  exact (show bodyPost _ _ _ .ret _ _ from ret1 (.slice (some ⟨g3,0,none⟩) 8 8) rfl (Qax kj) ⟨_,rfl,(zbl (zbh w) e1),_,rfl,(qT (zbh w).size l3),r3_1⟩)
theorem QoT (i : Nat) (h:i<64):zaZ.wrap (zba (nth QaM i) 4294967296)=nth QaM i/4294967296:=by
  have:∀ i:Fin 64,zaZ.wrap (zba (nth QaM i.1) 4294967296)=nth QaM i.1/4294967296:=by decide +kernel
  exact this ⟨i,h⟩
theorem QmD {i : Nat} (h:i<64):(KK.take (i+1)).map wv=(KK.take i).map wv++[wv (wget KK i)]:=by
  have:∀ i:Fin 64,(KK.take (i.1+1)).map wv=(KK.take i.1).map wv++[wv (wget KK i.1)]:=by decide +kernel
  exact this ⟨i,h⟩
theorem QmH (w : World):Calls Tryz.prog 99 #[] w (Qby w (OwnN .u32 139 w.heap.size (KK.map wv))):=by
 refine enter 19 [] Tryz.func99 rfl rfl kj rfl <| sgB kj <| sgB kj <| sgC fun K3 hK3=>Qau (fun v W'=>(fun v W=>∃ g,v=.slice (some ⟨g,0,none⟩) 80 80∧w.heap.size≤g∧W.heap[g]? = some (.cells (ints .u64 QaM) 93)) v W'∧Ext w W') 109 #[] 4 rfl kj kj ((QoH _).mono mo1) fun vv4 W1 hh4=>?_
 obtain ⟨hv4,e1⟩:=hh4
 have x1:=zbl (zbh w) e1
 obtain ⟨gd5,rfl,ld5,rd5_1⟩:=hv4
 have b5:=qT (zbh w).size ld5
 refine sg 1 kj <| sgN hK3 <| wp_seq_k fun K6 hK6=>sgB kj <| wp_block <| Qa3 (fun (s1:Nat×Value)=>[(1,s1.2),(2,.slice (some ⟨gd5,0,none⟩) 80 80),(3,.int .i64 (s1.1:Int))]) (fun (s1:Nat×Value) W=>(s1.1≤64)∧(OwnN .u32 139 W1.heap.size ((KK.take s1.1).map wv) s1.2 W)∧(Ext W1 W)∧(Ext w W)) (fun (s1:Nat×Value)=>64-s1.1) (0,(.slice none 0 0)) ⟨kj,kj,kj,trivial⟩ ⟨(zag _),(Qb5 _ _ _ _),(zbh W1),x1⟩ fun s1 X1 V1 hI1=>?_
 obtain ⟨i,u⟩:=s1
 obtain ⟨hi,hu,kk1,xx1⟩:=hI1
 replace hi:i≤64:=hi
 replace hu:OwnN .u32 139 W1.heap.size ((KK.take i).map wv) u V1:=hu
 replace kk1:Ext W1 V1:=kk1
 replace xx1:Ext w V1:=xx1
 have e2:=kk1
 refine wp_seq_k fun K8 hK8=>sgB kj <| Qay (t:=decide ((i:Int)<64)) kj (fun c10=>?_) (fun c10=>?_)
 ·skip
  have hlt6:i<64:=by have:=of_decide_eq_true c10; omega
  refine wp_skip <| hK8 _ _ <| wp_seq_k fun K11 hK11=>wp_block <| Qaj <| sg 3 kj <| sv (pp gd5 i) 12 (Qbr 177 _ _ .i64 (i) gd5 80 80 93 rfl kj kj kj kj oo) <| sv (.int .u64 (nth (QaM) i)) 13 (Qab 93 _ gd5 i 93 _ (.int .u64 (nth (QaM) i)) _ (Qaa rd5_1 e2) rfl kj (QaD _ _ _ (zbb oo (show QaM.length=80 from rfl).symm)) kj) <| sv (.int .u64 (nth QaM i/4294967296)) 14 (Qac (u:=.int .u64 (zaZ.wrap (zba ((nth (QaM) i)) (4294967296)))) kj (congrArg (zad .u64) (QoT i hlt6))) <| sv (.int .u32 (wv (wget KK i))) 15 (Qac (u:=.int .u32 (zbc.wrap (nth QaM i/4294967296))) kj (congrArg (zad .u32) (Qm4 i hlt6))) ?_
  refine QaA (ints .u32 ([(wv (wget KK i))])) 139 1 16 rfl kj kj fun g12 W3 l12 e3 r12_3=>?_
  have b12:=qT xx1.size l12
  refine QaH (k:=.u32) (T:=139) (xs:=(KK.take i).map wv) (ys:=[wv (wget KK i)]) (V:=W1) 4 (.tmp 9) (.tmp 16) 180 rfl kj kj dd 17 rfl kj kj kj (hu.ext e3) (QaL (xs:=[(wv (wget KK i))]) (n:=1) rfl r12_3 (Qaq r12_3) (show 1≤maxLen from by decide)) (by rw [zbd,zaY]; show _+1≤_; omega) (zbi e2 e3) fun u2 W4 f14 y4 l4=>?_
  refine sg 1 kj <| Qas <| hK11 _ _ <| Qaj <| sg 1 kj <| sv (.int .i64 ((i+1:Nat):Int)) 8 (Qac (u:=.int .i64 (zaa.wrap ((i:Int)+1))) kj (congrArg (zad .i64) (i64n _ _ oo oo))) <| sg 1 kj <| Qas ?_
  with_reducible repeat first | refine goX1 ?_ | refine goX2 ?_ | refine goX3 ?_
  exact Qa1 ((i+1),u2) ⟨kj,kj,kj,trivial⟩ ⟨oo,(by rw [QmD hlt6]; exact f14),y4,(zbp (zbl xx1 e3) l4 x1.size)⟩ (by show 64-(i+1)<64-i; omega)
 ·skip
  have heq6:i=64:=by have:=of_decide_eq_false c10; omega
  refine wp_exit <| hK6 _ _ <| sgB kj <| wp_ret ?_
  with_reducible repeat first | refine goR1 ?_ | refine goR2 ?_
  exact (show bodyPost _ _ _ .ret _ _ from ret1 (u) rfl (Qax kj) ⟨u,rfl,xx1,zbn x1.size (by rw [show KK.map wv=(KK.take i).map wv by rw [heq6,zaO (show KK.length≤64 by decide)]]; exact hu)⟩)
end Sha
end
section
namespace Sha
open Go Go.RowKit
open Rely Auto Own
section
variable {P : Program} {ρ : Operand → Value} {o : Oper} {w : World}
end
section
variable {ds : List Deferred} {P : Program} {ops : Array Oper} {Q : Exit → Act → World → Prop} {rest : List Oper} {o : Oper} {N : Nat} {L : Env} {W : World}
theorem Qhs {k : IntKind} {T:TypeId} (b:Nat) (s x:Operand) (t:TypeId) (ho:o.op=.call { callee:=.builtin .append,args:=#[s,x],argTypes:=#[t,t] })
    (ht:P.underlying t=some (.slice T)) (hi:(P.info? T).map (fun i=>(i.zero,i.size,i.bytes))=some (some (.int k 0),1,b)) (hb8:b≤8) (d:Nat) (hd:o.dst=some d) (hg:Qbp ops o N L=some true) {B:Nat} {v y:Value} {xs ys:List Int} {V:World}
    (hs:Rely.look (envN N L) s=v) (hx:Rely.look (envN N L) x=y)
    (h:OwnN k T V.heap.size xs v W) (hy:RdK k B ys y W) {g9:Nat} (hl:g9<W.heap.size) (hne:v.ownBlock≠some g9) (hn:xs.length+ys.length≤1000000000) (hV:Ext V W)
    (kk:∀ (u:Value) (W':World),OwnN k T V.heap.size (xs++ys) u W'→Ext V W'→Below V.heap.size W W'→(u.ownBlock≠some g9∧g9<W'.heap.size∧W'.heap[g9]? = W.heap[g9]?)→WL P ops Q rest (Qav ds N ((d,u)::L)) W'):WL P ops Q (o::rest) (Qav ds N L) W:=by
  obtain ⟨v',W',h1,h2,h3,h4⟩:=Qdk (ρ:=Rely.look (envN N L)) (o:=o) (W:=W) s x t ho ht hi hb8 hs hx h hy hn hV.size
  refine Qbs _ _ d hd hg h1 (kk v' W' h2 (Qft hV h h3) ⟨h3.os,h3.tape,h3.output,h3.size,fun i hi=>h3.block i (qL hi hV.size) (fun q=>by have:=h.ge q.symm; omega)⟩ ⟨?_,qL hl h3.size,h3.block g9 hl (fun q=>hne q.symm)⟩)
  rcases h4 with h4 | h4
  · rw [h4]; exact hne
  · rw [h4]; intro e; have:=Option.some.inj e; omega
end
def leP (n j:Nat):List Int:=(zah j).map fun i=>((8*n/256^i%256:Nat):Int)
theorem Qfn (n j:Nat):(leP n j).length=j:=by simp [leP]
theorem QlC (n j:Nat):leP n (j+1)=leP n j++[((8*n/256^j%256:Nat):Int)]:=by simp [leP,zam]
theorem QpB (n j:Nat) (h:j<8):nth (leP n 8) (7-j)=nth (be8 (8*n)) j:=by
  match j,h with
  | 0,_=>rfl
  | 1,_=>rfl
  | 2,_=>rfl
  | 3,_=>rfl
  | 4,_=>rfl
  | 5,_=>rfl
  | 6,_=>rfl
  | 7,_=>rfl
theorem QnJ (m j:Nat) (h:j<8):(be8 m).take (j+1)=(be8 m).take j++[nth (be8 m) j]:=by
  match j,h with
  | 0,_=>rfl
  | 1,_=>rfl
  | 2,_=>rfl
  | 3,_=>rfl
  | 4,_=>rfl
  | 5,_=>rfl
  | 6,_=>rfl
  | 7,_=>rfl
theorem Qlr (t : List Int) (i:Nat):t++128::zai (i+1) (0:Int)=(t++128::zai i 0)++[0]:=by
  rw [za6,za2,List.replicate_succ']
theorem Qly (t : List Int) (i:Nat) (h:i≤Qbc t.length):((((t++128::zai i (0:Int)).length%64:Nat):Int) != 56)=decide (i<Qbc t.length):=by
  have hl:(t++128::zai i (0:Int)).length=t.length+(i+1):=by simp
  rw [hl]
  unfold Qbc at *
  by_cases h2:i<(64-(t.length+9)%64)%64
  · rw [decide_eq_true h2,bne_iff_ne]; omega
  · rw [decide_eq_false h2,bne_eq_false_iff_eq]; omega
theorem Qnv (n j:Nat):decide ((((leP n j).length:Nat):Int)<8)=decide (j<8):=by
  rw [Qfn]
  exact decide_eq_decide.2 oo
theorem Qn1 (j : Nat) (h:j≤8):decide ((7:Int)-(j:Int)≥0)=decide (j<8):=decide_eq_decide.2 oo
theorem QpF (j : Nat) (h:j≤8):zaa.wrap ((7:Int)-(j:Int)-1)=(7:Int)-((j+1:Nat):Int):=by
  rw [show (7:Int)-(j:Int)-1=(7:Int)-((j+1:Nat):Int) by omega]
  exact IntWalk.i64_in _ oo
theorem le_0 (n : Nat):zae.wrap ((n%32*8:Nat):Int)=((8*n/256^0%256:Nat):Int):=by
  rw [QkN,zaR,Nat.div_one]; omega
theorem le_j (m : Nat):zae.wrap ((m%256:Nat):Int)=((m%256:Nat):Int):=by rw [QkN]; omega
theorem q_1 (n : Nat):8*n/256^1=n/32:=by rw [Nat.pow_one]; omega
theorem q_j (m j:Nat):m/256^j/256=m/256^(j+1):=by rw [Nat.div_div_eq_div_mul,zaQ]
theorem QmX (t : List Int):(t++128::zai (Qbc t.length) (0:Int))++(be8 (8*t.length)).take 8=padT t:=by
  rw [za6,za2]
  rfl
theorem padC (t : List Int) (v:Value) (B:Nat) (w:World) (hlen:t.length≤900000000) (hr:RdK .u8 B t v w):Calls Tryz.prog 100 #[v,.int .i64 64,.int .i64 8] w (Qby w (OwnN .u8 5 w.heap.size (padT t))):=by
 obtain ⟨a_t,c_t,rfl,-⟩:=id hr
 have hF:Qbc t.length<64:=by unfold Qbc; omega
 refine enter 62 [(0,.slice a_t t.length c_t),(1,.int .i64 64),(2,.int .i64 8)] Tryz.func100 rfl rfl kj rfl <| sgB kj <| sgC fun K2 hK2=>QaA (ints .u8 ([])) 5 0 11 rfl kj kj fun g3 W1 l3 e1 r3_1=>?_
 have x1:=zbl (zbh w) e1
 have b3:=qT (zbh w).size l3
 refine sg 1 kj <| QaH (k:=.u8) (T:=5) (xs:=[]) (ys:=t) (V:=w) 1 (.tmp 11) (.tmp 12) 41 rfl kj kj dd 13 rfl kj kj kj (Qb3 (xs:=[]) rfl l3 r3_1 dd) (RdK.ext hr x1) (by simp; omega) (zbi (zbh w) e1) fun z1 W2 f4 y2 l2=>?_
 have x2:=zbp x1 l2 (zbh w).size
 refine QaA (ints .u8 ([128])) 5 1 14 rfl kj kj fun g6 W3 l6 e3 r6_3=>?_
 have b6:=qT x2.size l6
 refine QaH (k:=.u8) (T:=5) (xs:=[]++t) (ys:=[128]) (V:=w) 1 (.tmp 13) (.tmp 14) 41 rfl kj kj dd 15 rfl kj kj kj (f4.ext e3) (QaL (xs:=[128]) (n:=1) rfl r6_3 (Qaq r6_3) (show 1≤maxLen from by decide)) (by simp; omega) (zbi y2 e3) fun z2 W4 f8 y4 l4=>?_
 refine sg 1 kj <| sgN hK2 <| wp_seq_k fun K10 hK10=>wp_block <| Qa3 (fun (s1:Nat×Value)=>[(0,.slice a_t t.length c_t),(1,.int .i64 64),(2,.int .i64 8),(7,s1.2)]) (fun (s1:Nat×Value) W=>(s1.1≤Qbc t.length)∧(OwnN .u8 5 w.heap.size (t++128::zai s1.1 0) s1.2 W)∧(Ext w W)) (fun (s1:Nat×Value)=>Qbc t.length-s1.1) (0,z2) ⟨kj,kj,kj,kj,trivial⟩ ⟨(zag _),(by have h:=f8; simpa using h),(zbp (zbl x2 e3) l4 (zbh w).size)⟩ fun s1 X1 V1 hI1=>?_
 obtain ⟨i,u⟩:=s1
 obtain ⟨hi,hu,xx1⟩:=hI1
 replace hi:i≤Qbc t.length:=hi
 replace hu:OwnN .u8 5 w.heap.size (t++128::zai i 0) u V1:=hu
 replace xx1:Ext w V1:=xx1
 obtain ⟨a7,c7,rfl,-⟩:=id (zbo hu)
 refine wp_seq_k fun K11 hK11=>sgC fun K12 hK12=>sg 3 kj <| sv (.int .i64 ((((t++128::zai i 0).length)%64:Nat):Int)) 19 (Qac (u:=.int .i64 (zbe ((((t++128::zai i 0).length:Nat):Int)) (64))) kj (congrArg (zad .i64) (QbK _ 64))) <| sg 3 kj <| sv (.bool (decide (i<Qbc t.length))) 23 (Qac (u:=.bool ((((((t++128::zai i 0).length)%64:Nat):Int) != 56))) kj (congrArg zac (Qly t i hi))) <| sgN hK12 <| Qay (t:=decide (i<Qbc t.length)) kj (fun c13=>?_) (fun c13=>?_)
 ·skip
  have hlt23:i<Qbc t.length:=by have:=of_decide_eq_true c13; omega
  refine wp_skip <| hK11 _ _ <| wp_block <| Qaj <| sg 1 kj <| QaA (ints .u8 ([0])) 5 1 25 rfl kj kj fun g14 W6 l14 e6 r14_6=>?_
  have x6:=zbl xx1 e6
  have b14:=qT xx1.size l14
  refine QaH (k:=.u8) (T:=5) (xs:=t++128::zai i 0) (ys:=[0]) (V:=w) 1 (.tmp 24) (.tmp 25) 41 rfl kj kj dd 26 rfl kj kj kj (hu.ext e6) (QaL (xs:=[0]) (n:=1) rfl r14_6 (Qaq r14_6) (show 1≤maxLen from by decide)) (by simp; omega) (zbi xx1 e6) fun z3 W7 f16 y7 l7=>?_
  refine sg 1 kj <| Qas ?_
  with_reducible repeat first | refine goX1 ?_ | refine goX2 ?_ | refine goX3 ?_
  exact Qa1 ((i+1),z3) ⟨kj,kj,kj,kj,trivial⟩ ⟨oo,(by rw [Qlr]; exact f16),(zbp x6 l7 (zbh w).size)⟩ (by show Qbc t.length-(i+1)<Qbc t.length-i; omega)
 ·skip
  have heq23:i=Qbc t.length:=by have:=of_decide_eq_false c13; omega
  subst heq23
  refine wp_exit <| hK10 _ _ <| sgB kj <| sgC fun K19 hK19=>sg 1 kj <| sv (.int .i64 ((t.length%32:Nat):Int)) 30 (Qac (u:=.int .i64 (zbe ((t.length:Int)) (32))) kj (congrArg (zad .i64) (QbK _ 32))) <| sv (.int .i64 (((t.length%32)*8:Nat):Int)) 31 (Qac (u:=.int .i64 (zaa.wrap (((t.length%32:Nat):Int)*8))) kj (congrArg (zad .i64) (i64n _ _ oo oo))) <| sv (.int .u8 ((8*t.length/256^0%256:Nat):Int)) 32 (Qac (u:=.int .u8 (zae.wrap (((t.length%32)*8:Nat):Int))) kj (congrArg (zad .u8) (le_0 _))) <| QaA (ints .u8 ([((8*t.length/256^0%256:Nat):Int)])) 5 1 33 rfl kj kj fun g20 W6 l20 e6 r20_6=>?_
  have x6:=zbl xx1 e6
  have b20:=qT xx1.size l20
  refine sg 1 kj <| sgN hK19 <| sgC fun K21 hK21=>sg 1 kj <| sv (.int .i64 ((t.length/32:Nat):Int)) 35 (Qac (u:=.int .i64 (zaa.wrap (zba ((t.length:Int)) (32)))) kj (congrArg (zad .i64) (Qcv _ 32 oo))) <| sg 1 kj <| sgN hK21 <| wp_seq_k fun K22 hK22=>wp_block <| Qa3 (fun (s2:Nat×Value)=>[(0,.slice a_t t.length c_t),(1,.int .i64 64),(2,.int .i64 8),(7,.slice a7 ((t++128::zai (Qbc t.length) 0).length) c7),(8,.int .i64 ((8*t.length/256^s2.1:Nat):Int)),(9,s2.2)]) (fun (s2:Nat×Value) W=>(1≤s2.1)∧(s2.1≤8)∧(OwnN .u8 5 w.heap.size (t++128::zai (Qbc t.length) 0) (.slice a7 ((t++128::zai (Qbc t.length) 0).length) c7) W)∧(OwnN .u8 5 V1.heap.size (leP t.length s2.1) s2.2 W)∧(Ext V1 W)∧(Ext w W)) (fun (s2:Nat×Value)=>8-s2.1) (1,.slice (some ⟨g20,0,none⟩) 1 1) ⟨kj,kj,kj,kj,(congrArg (fun z:Nat=>zad .i64 (z:Int)) (q_1 _).symm),kj,trivial⟩ ⟨(qR _),(show (1:Nat)≤8 by decide),(hu.ext e6),(Qb3 (xs:=leP t.length 1) rfl l20 r20_6 dd),(zbi (zbh V1) e6),x6⟩ fun s2 X2 V2 hI2=>?_
  obtain ⟨j,u⟩:=s2
  obtain ⟨hj1,hj,h7,hu9,hv9,xx2⟩:=hI2
  replace hj1:1≤j:=hj1
  replace hj:j≤8:=hj
  replace h7:OwnN .u8 5 w.heap.size (t++128::zai (Qbc t.length) 0) (.slice a7 ((t++128::zai (Qbc t.length) 0).length) c7) V2:=h7
  replace hu9:OwnN .u8 5 V1.heap.size (leP t.length j) u V2:=hu9
  replace hv9:Ext V1 V2:=hv9
  replace xx2:Ext w V2:=xx2
  obtain ⟨a9,c9,rfl,-⟩:=id (zbo hu9)
  have hq8:8*t.length/256^j≤8000000000:=qT (Nat.div_le_self _ _) oo
  refine wp_seq_k fun K24 hK24=>sgC fun K25 hK25=>sg 3 kj <| sv (.bool (decide (j<8))) 39 (Qac (u:=.bool (decide ((((leP t.length j).length:Nat):Int)<8))) kj (congrArg zac (Qnv _ _))) <| sgN hK25 <| Qay (t:=decide (j<8)) kj (fun c26=>?_) (fun c26=>?_)
  ·skip
   have hlt39:j<8:=by have:=of_decide_eq_true c26; omega
   refine wp_skip <| hK24 _ _ <| wp_block <| sgC fun K27 hK27=>sg 2 kj <| sv (.int .i64 (((8*t.length/256^j)%256:Nat):Int)) 42 (Qac (u:=.int .i64 (zbe ((8*t.length/256^j:Nat):Int) (256))) kj (congrArg (zad .i64) (QbK _ 256))) <| sv (.int .u8 ((8*t.length/256^j%256:Nat):Int)) 43 (Qac (u:=.int .u8 (zae.wrap (((8*t.length/256^j)%256:Nat):Int))) kj (congrArg (zad .u8) (le_j _))) <| QaA (ints .u8 ([((8*t.length/256^j%256:Nat):Int)])) 5 1 44 rfl kj kj fun g28 W8 l28 e8 r28_8=>?_
   have b28:=qT xx2.size l28
   refine QaH (k:=.u8) (T:=5) (xs:=leP t.length j) (ys:=[((8*t.length/256^j%256:Nat):Int)]) (V:=V1) 1 (.tmp 40) (.tmp 44) 41 rfl kj kj dd 45 rfl kj kj kj (hu9.ext e8) (QaL (xs:=[((8*t.length/256^j%256:Nat):Int)]) (n:=1) rfl r28_8 (Qaq r28_8) (show 1≤maxLen from by decide)) (by rw [Qfn]; show _+1≤_; omega) (zbi hv9 e8) fun z4 W9 f30 y9 l9=>?_
   have x9:=zbp (zbl xx2 e8) l9 xx1.size
   refine sg 1 kj <| sgN hK27 <| Qaj <| sg 1 kj <| sv (.int .i64 (((8*t.length/256^j)/256:Nat):Int)) 47 (Qac (u:=.int .i64 (zaa.wrap (zba ((8*t.length/256^j:Nat):Int) (256)))) kj (congrArg (zad .i64) (Qcv _ 256 oo))) <| sg 1 kj <| Qas ?_
   with_reducible repeat first | refine goX1 ?_ | refine goX2 ?_ | refine goX3 ?_
   exact Qa1 ((j+1),z4) ⟨kj,kj,kj,kj,(congrArg (fun z:Nat=>zad .i64 (z:Int)) (q_j _ _)),kj,trivial⟩ ⟨oo,oo,(OwnN.low (n:=0) (h7.ext e8) hu l9),(by rw [QlC]; exact f30),y9,x9⟩ (by show 8-(j+1)<8-j; omega)
  ·skip
   have heq39:j=8:=by have:=of_decide_eq_false c26; omega
   subst heq39
   refine wp_exit <| hK22 _ _ <| wp_seq_k fun K34 hK34=>sgB kj <| wp_block ?_
   obtain ⟨g9,o9,ha9,hl0,hc0⟩:=QbU (zbo hu9) (by rw [Qfn]; decide)
   have hne0:(Value.slice a7 (t++128::zai (Qbc t.length) 0).length c7).ownBlock≠some g9:=fun e=>by
    have h1:=OwnN.lt hu e
    have h2:=OwnN.ge hu9 (g:=g9) (by rw [ha9]; rfl)
    omega
   refine Qa3 (fun (s3:Nat×Value)=>[(7,s3.2),(9,.slice a9 ((leP t.length 8).length) c9),(10,.int .i64 ((7:Int)-(s3.1:Int)))]) (fun (s3:Nat×Value) W=>(s3.1≤8)∧(OwnN .u8 5 w.heap.size (t++128::zai (Qbc t.length) 0++(be8 (8*t.length)).take s3.1) s3.2 W)∧(g9<W.heap.size)∧(s3.2.ownBlock≠some g9)∧(∀ i,i<(leP t.length 8).length→W.cell? ⟨g9,o9+i,none⟩=some (.int .u8 (nth (leP t.length 8) i)))∧(Ext w W)) (fun (s3:Nat×Value)=>8-s3.1) (0,.slice a7 ((t++128::zai (Qbc t.length) 0).length) c7) ⟨kj,kj,kj,trivial⟩ ⟨(zag _),(by rw [zaD,List.append_nil]; exact h7),hl0,hne0,hc0,xx2⟩ fun s3 X3 V3 hI3=>?_
   obtain ⟨j,u⟩:=s3
   obtain ⟨hj,hu,hl,hne,hcl,xx3⟩:=hI3
   replace hj:j≤8:=hj
   replace hu:OwnN .u8 5 w.heap.size (t++128::zai (Qbc t.length) 0++(be8 (8*t.length)).take j) u V3:=hu
   replace hl:g9<V3.heap.size:=hl
   replace hne:u.ownBlock≠some g9:=hne
   replace hcl:∀ i,i<(leP t.length 8).length→V3.cell? ⟨g9,o9+i,none⟩=some (.int .u8 (nth (leP t.length 8) i)):=hcl
   replace xx3:Ext w V3:=xx3
   refine wp_seq_k fun K36 hK36=>sgC fun K37 hK37=>sg 1 kj <| sv (.bool (decide (j<8))) 51 (Qac (u:=.bool (decide (((7:Int)-(j:Int))≥0))) kj (congrArg zac (Qn1 j hj))) <| sgN hK37 <| Qay (t:=decide (j<8)) kj (fun c38=>?_) (fun c38=>?_)
   ·skip
    have hlt51:j<8:=by have:=of_decide_eq_true c38; omega
    refine wp_skip <| hK36 _ _ <| wp_seq_k fun K39 hK39=>wp_block <| Qaj <| sg 3 kj <| sv (pp g9 (o9+(7-j))) 57 (QaP 41 _ _ .i64 (7-j) g9 o9 (leP t.length 8).length c9 5 a9 ((7:Int)-(j:Int)) ha9 oo rfl kj kj kj kj (by rw [Qfn]; omega)) ?_
    refine sv (.int .u8 (nth (be8 (8*t.length)) j)) 58 (QaB 5 _ _ (.int .u8 (nth (be8 (8*t.length)) j)) ((hcl (7-j) (by rw [Qfn]; omega)).trans (congrArg (fun z=>some (zad .u8 z)) (QpB _ j hlt51))) rfl kj kj) ?_
    refine QaA (ints .u8 ([(nth (be8 (8*t.length)) j)])) 5 1 59 rfl kj kj fun g40 W9 l40 e9 r40_9=>?_
    have x9:=zbl xx3 e9
    have b40:=qT xx3.size l40
    have hl4:=qL hl e9.size
    have hb4:=e9.block g9 hl
    refine Qhs (k:=.u8) (T:=5) (xs:=t++128::zai (Qbc t.length) 0++(be8 (8*t.length)).take j) (ys:=[(nth (be8 (8*t.length)) j)]) (V:=w) 1 (.tmp 54) (.tmp 59) 41 rfl kj kj dd 60 rfl kj kj kj (hu.ext e9) (QaL (xs:=[(nth (be8 (8*t.length)) j)]) (n:=1) rfl r40_9 (Qaq r40_9) (show 1≤maxLen from by decide)) hl4 hne (by simp [be8]; unfold Qbc; omega) (zbi xx3 e9) fun z5 W10 f42 y10 l10 hP=>?_
    refine sg 1 kj <| Qas <| hK39 _ _ <| Qaj <| sg 1 kj <| sv (.int .i64 ((7:Int)-((j+1:Nat):Int))) 53 (Qac (u:=.int .i64 (zaa.wrap (((7:Int)-(j:Int))-1))) kj (congrArg (zad .i64) (QpF j oo))) <| sg 1 kj <| Qas ?_
    with_reducible repeat first | refine goX1 ?_ | refine goX2 ?_ | refine goX3 ?_
    exact Qa1 ((j+1),z5) ⟨kj,kj,kj,trivial⟩ ⟨oo,(by rw [QnJ _ _ hlt51,←za6]; exact f42),hP.2.1,hP.1,(fun i hi=>(World.cell?_of_block (hP.2.2.trans hb4)).trans (hcl i hi)),(zbp x9 l10 (zbh w).size)⟩ (by show 8-(j+1)<8-j; omega)
   ·skip
    have heq51:j=8:=by have:=of_decide_eq_false c38; omega
    subst heq51
    refine wp_exit <| hK34 _ _ <| sgB kj <| wp_ret ?_
    with_reducible repeat first | refine goR1 ?_ | refine goR2 ?_
    exact (show bodyPost _ _ _ .ret _ _ from ret1 (u) rfl (Qax kj) ⟨_,rfl,xx3,QmX t▸hu⟩)
end Sha
end
section
namespace Sha
open Go Go.RowKit
open Rely Auto Own
theorem nb_nil {v : Value}:∀ c∈([]:List Nat),v.ownBlock≠some c:=fun _ h=>by simp at h
theorem nb_cons {v : Value} {g:Nat} {gs:List Nat} (h:v.ownBlock≠some g) (h2:∀ c∈gs,v.ownBlock≠some c):∀ c∈g::gs,v.ownBlock≠some c:=fun c hc=>by
  rcases zaH.1 hc with e | e
  · rw [e]; exact h
  · exact h2 c e
theorem OwnN.keepsL {k : IntKind} {T:TypeId} {base:Nat} {gs:List Nat} {xs:List Int} {v:Value} {V W:World} (h:OwnN k T base xs v V) (q:Qai gs V W) (hn:∀ c∈gs,v.ownBlock≠some c):OwnN k T base xs v W :=
  h.keep fun g hg=>q.block g (h.lt hg) (fun hm=>hn g hm hg)
theorem QeG (ws : List Wd) {i n:Nat} (h:ws.length=n) (hi:i≤n):((ws.map wv).take i).length=i:=by rw [zaY,zbd]; omega
theorem Qmi (ws : List Wd) {i n:Nat} (h:ws.length=n) (hi:i<n):(ws.map wv).take (i+1)=(ws.map wv).take i++[wv (wget ws i)]:=by
  have hl:i<(ws.map wv).length:=by rw [zbd]; omega
  rw [List.take_succ_eq_append_getElem hl]
  have:(ws.map wv)[i]=wv (wget ws i):=by
    unfold wget
    rw [List.getElem_map,zbf,List.getElem?_eq_getElem oo]
    rfl
  rw [this]
theorem QdO (ws : List Wd) (i k:Nat) (hk:k<i):nth ((ws.map wv).take i) k=wv (wget ws k):=by
  rw [←QbJ]
  unfold nth
  rw [zbf,zbf,zbg,if_pos hk]
theorem u32s (x : Int) (h:0≤x∧x<4294967296):zbc.wrap x=x:=by rw [wrap32]; omega
theorem QmY (t : List Int):∃ q,(padT t).length=64*q:=by
  refine ⟨(t.length+(1+Qbc t.length+8))/64,?_⟩
  rw [padT,zaX,QdP]
  unfold Qbc; omega
theorem QeK (P : List Int) (m k:Nat) (h:k<64):nth ((P.drop (64*m)).take 64) k=nth P (64*m+k):=by
  unfold nth
  rw [zbf,zbf,zbg,if_pos h,List.getElem?_drop]
theorem QoX {P b:List Int} {m j:Nat} (hP:Qak P) (hb:b=(P.drop (64*m)).take 64) (hj:j<16) :
    zbc.wrap (nth P (64*m+4*j)*16777216+nth P (64*m+4*j+1)*65536+nth P (64*m+4*j+2)*256+nth P (64*m+4*j+3))=wv (wget (w64 b) j):=by
  rw [Qjy b j hj,hb,QeK _ _ _ oo,QeK _ _ _ oo,QeK _ _ _ oo,QeK _ _ _ oo,be4,QdN,wrap32]
  simp only [Nat.add_assoc]
  congr 1
  omega
theorem QiU {t : List Int} (h:Qak t):Qak (padT t):=fun x hx=>by
  rcases za4.1 hx with e | e
  · exact h x e
  · exact QeY _ x e
def shf (l : List Int) (j:Nat):List Int:=l.take (j+1)++(l.drop j).take (7-j)
theorem Qj4 {a b c d e f g h:Int} {j:Nat} (hj:j≤7):(shf [a,b,c,d,e,f,g,h] j).length=8:=by
  rcases (show j=0∨j=1∨j=2∨j=3∨j=4∨j=5∨j=6∨j=7 by omega) with rfl | rfl | rfl | rfl | rfl | rfl | rfl | rfl <;> rfl
theorem QmI {a b c d e f g h:Int} {j:Nat} (h0:0<j) (hj:j≤7):(shf [a,b,c,d,e,f,g,h] j).set j (nth (shf [a,b,c,d,e,f,g,h] j) (j-1))=shf [a,b,c,d,e,f,g,h] (j-1):=by
  rcases (show j=1∨j=2∨j=3∨j=4∨j=5∨j=6∨j=7 by omega) with rfl | rfl | rfl | rfl | rfl | rfl | rfl <;> rfl
set_option maxRecDepth 20000 in
theorem Qfc (t : List Int) (v:Value) (B:Nat) (w:World) (hlen:t.length≤900000000) (htb:Qak t) (hr:RdK .u8 B t v w):Calls Tryz.prog 92 #[v] w (Ret w (.agg (ints .u8 (dig t)))):=by
 obtain ⟨a_t,c_t,rfl,-⟩:=id hr
 refine enter 252 [(0,.slice a_t t.length c_t)] Tryz.func92 rfl rfl kj rfl <| sgC fun K1 hK1=>Qah (ints .u8 (zai 32 0)) 23 2 rfl kj kj fun g2 W1 l2 e1 r2_1=>?_
 have x1:=zbl (zbh w) e1
 refine sgN hK1 <| sgC fun K3 hK3=>Qau (fun v W'=>(fun v W=>∃ g,v=.slice (some ⟨g,0,none⟩) 8 8∧W1.heap.size≤g∧W.heap[g]? = some (.cells (ints .u64 Qa5) 93)) v W'∧Ext W1 W') 98 #[] 23 rfl kj kj ((QoW _).mono mo1) fun vv4 W2 hh4=>?_
 obtain ⟨hv4,e2⟩:=hh4
 have x2:=zbl x1 e2
 obtain ⟨gd5,rfl,ld5,rd5_2⟩:=hv4
 have b5:=qT x1.size ld5
 refine sg 1 kj <| sgN hK3 <| sgC fun K6 hK6=>Qah (ints .u32 (zai 8 0)) 179 4 rfl kj kj fun g7 W3 l7 e3 r7_3=>?_
 have b7:=qT x2.size l7
 refine sgN hK6 <| wp_seq_k fun K8 hK8=>sgB kj <| wp_block <| Qa3 (fun (s1:Nat)=>[(0,.slice a_t t.length c_t),(2,pp g2 0),(3,.slice (some ⟨gd5,0,none⟩) 8 8),(4,pp g7 0),(5,.int .i64 (s1:Int))]) (fun (s1:Nat) W=>(s1≤8)∧(W.heap[g7]? = some (.cells (ints .u32 (fill (S0.l.map wv) 8 s1)) 179))∧(Qai [g7] W3 W)∧(Ext w W)) (fun (s1:Nat)=>8-s1) 0 ⟨kj,kj,kj,kj,kj,trivial⟩ ⟨(zag _),(Qa9 r7_3 (QcE (S0.l.map wv) 8).symm),(zbq [g7] W3),(zbl x2 e3)⟩ fun s1 X1 V1 hI1=>?_
 obtain ⟨i,hs1⟩:∃ z,z=s1:=⟨_,rfl⟩
 subst hs1
 obtain ⟨hi,q7_1,kk1,xx1⟩:=hI1
 replace hi:i≤8:=hi
 replace q7_1:V1.heap[g7]? = some (.cells (ints .u32 (fill (S0.l.map wv) 8 i)) 179):=q7_1
 replace kk1:Qai [g7] W3 V1:=kk1
 replace xx1:Ext w V1:=xx1
 have q4:=kk1
 refine wp_seq_k fun K10 hK10=>sgB kj <| Qay (t:=decide ((i:Int)<8)) kj (fun c12=>?_) (fun c12=>?_)
 ·skip
  have hlt25:i<8:=by have:=of_decide_eq_true c12; omega
  refine wp_skip <| hK10 _ _ <| wp_seq_k fun K13 hK13=>wp_block <| Qaj <| sg 3 kj <| sv (pp gd5 i) 31 (Qbr 177 _ _ .i64 (i) gd5 8 8 93 rfl kj kj kj kj oo) <| sv (.int .u64 (nth (Qa5) i)) 32 (Qab 93 _ gd5 i 93 _ (.int .u64 (nth (Qa5) i)) _ (zbr q4 (Qaa rd5_2 e3) (Qaw (Qad rd5_2 l7) QaF)) rfl kj (QaD _ _ _ (zbb oo (show Qa5.length=8 from rfl).symm)) kj) <| sv (.int .u64 (nth Qa5 i/4294967296)) 33 (Qac (u:=.int .u64 (zaZ.wrap (zba ((nth (Qa5) i)) (4294967296)))) kj (congrArg (zad .u64) ((by decide +kernel:∀ i:Fin 8,zaZ.wrap (zba (nth Qa5 i.val) 4294967296)=nth Qa5 i.val/4294967296) ⟨i,hlt25⟩))) <| sv (.int .u32 (nth (S0.l.map wv) i)) 34 (Qac (u:=.int .u32 (zbc.wrap (nth Qa5 i/4294967296))) kj (congrArg (zad .u32) ((by decide +kernel:∀ i:Fin 8,zbc.wrap (nth Qa5 i.val/4294967296)=nth (S0.l.map wv) i.val) ⟨i,hlt25⟩))) ?_
  refine sv (pp g7 i) 35 (Qa7 _ _ _ .i64 (i) _ 8 139 rfl kj kj kj kj oo) <| Qag g7 _ (ints .u32 ((fill (S0.l.map wv) 8 i).set i (nth (S0.l.map wv) i))) 179 q7_1 rfl kj (Qa0 139 _ _ g7 i 179 _ _ q7_1 rfl kj kj kj (zbb oo (Qb4 (n:=8) rfl hi).symm)) fun W5 p5 r7_5=>?_
  have x5:=zbk p5 xx1 b7
  refine Qas <| hK13 _ _ <| Qaj <| sg 1 kj <| sv (.int .i64 ((i+1:Nat):Int)) 27 (Qac (u:=.int .i64 (zaa.wrap ((i:Int)+1))) kj (congrArg (zad .i64) (i64n _ _ oo oo))) <| sg 1 kj <| Qas ?_
  with_reducible repeat first | refine goX1 ?_ | refine goX2 ?_ | refine goX3 ?_
  exact Qa1 (i+1) ⟨kj,kj,kj,kj,kj,trivial⟩ ⟨oo,(Qa9 r7_5 (Qcl rfl hlt25)),(zbt q4 p5 (.inl (by simp))),x5⟩ (by show 8-(i+1)<8-i; omega)
 ·skip
  have heq25:i=8:=by have:=of_decide_eq_false c12; omega
  have r7_4_14:V1.heap[g7]? = some (.cells (ints .u32 ([wv S0.a,wv S0.b,wv S0.c,wv S0.d,wv S0.e,wv S0.f,wv S0.g,wv S0.h])) 179):=Qa9 q7_1 (by rw [heq25]; rfl)
  refine wp_exit <| hK8 _ _ <| sgC fun K15 hK15=>Qau (fun v W'=>(OwnN .u32 139 V1.heap.size (KK.map wv)) v W'∧Ext V1 W') 99 #[] 36 rfl kj kj ((QmH _).mono mo1) fun vv16 W5 hh16=>?_
  obtain ⟨hv16,e5⟩:=hh16
  have x5:=zbl xx1 e5
  obtain ⟨am17,cm17,rfl,-⟩:=id (zbo hv16)
  have nb17_7:(.slice am17 ((KK.map wv).length) cm17:Value).ownBlock≠some g7:=OwnN.nb hv16 (Qaq r7_4_14)
  refine sg 1 kj <| sgN hK15 <| sgC fun K18 hK18=>sg 1 kj ?_
  have r7_5:=(Qaa r7_4_14 e5)
  refine Qau (fun v W'=>(OwnN .u8 5 W5.heap.size (padT t)) v W'∧Ext W5 W') 100 #[.slice a_t t.length c_t,.int .i64 64,.int .i64 8] 38 rfl kj kj ((padC t _ _ _ hlen (RdK.ext hr x5)).mono mo1) fun vv19 W6 hh19=>?_
  obtain ⟨hv19,e6⟩:=hh19
  obtain ⟨am20,cm20,rfl,-⟩:=id (zbo hv19)
  have nb20_7:(.slice am20 ((padT t).length) cm20:Value).ownBlock≠some g7:=OwnN.nb hv19 (Qaq r7_5)
  refine sg 1 kj <| sgN hK18 <| wp_seq_k fun K21 hK21=>sgB kj <| wp_block ?_
  obtain ⟨q,hq⟩:=QmY t
  have hPl:(padT t).length≤900000200:=by rw [padT,zaX,QdP]; unfold Qbc; omega
  have hPb:Qak (padT t):=QiU htb
  refine Qa3 (fun (s2:Nat)=>[(2,pp g2 0),(4,pp g7 0),(6,.slice am17 ((KK.map wv).length) cm17),(7,.slice am20 ((padT t).length) cm20),(8,.int .i64 ((64*s2:Nat):Int))]) (fun (s2:Nat) W=>(s2≤q)∧(W.heap[g7]? = some (.cells (ints .u32 ([wv (absorb S0 (padT t) s2).a,wv (absorb S0 (padT t) s2).b,wv (absorb S0 (padT t) s2).c,wv (absorb S0 (padT t) s2).d,wv (absorb S0 (padT t) s2).e,wv (absorb S0 (padT t) s2).f,wv (absorb S0 (padT t) s2).g,wv (absorb S0 (padT t) s2).h])) 179))∧(Qai [g7] W6 W)∧(Ext w W)) (fun (s2:Nat)=>q-s2) 0 ⟨kj,kj,kj,kj,kj,trivial⟩ ⟨(zag _),(Qaa r7_5 e6),(zbq [g7] W6),(zbl x5 e6)⟩ fun s2 X2 V2 hI2=>?_
  obtain ⟨m,hs2⟩:∃ z,z=s2:=⟨_,rfl⟩
  subst hs2
  obtain ⟨hm,q7_2,kk2,xx2⟩:=hI2
  replace hm:m≤q:=hm
  replace q7_2:V2.heap[g7]? = some (.cells (ints .u32 ([wv (absorb S0 (padT t) m).a,wv (absorb S0 (padT t) m).b,wv (absorb S0 (padT t) m).c,wv (absorb S0 (padT t) m).d,wv (absorb S0 (padT t) m).e,wv (absorb S0 (padT t) m).f,wv (absorb S0 (padT t) m).g,wv (absorb S0 (padT t) m).h])) 179):=q7_2
  replace kk2:Qai [g7] W6 V2:=kk2
  replace xx2:Ext w V2:=xx2
  have q7:=kk2
  refine wp_seq_k fun K23 hK23=>sgC fun K24 hK24=>sg 3 kj <| sv (.bool (decide (m<q))) 42 (Qac (u:=.bool (decide (((64*m:Nat):Int)<(((padT t).length:Nat):Int)))) kj (congrArg zac (by rw [hq]; exact decide_eq_decide.2 oo))) ?_
  refine sgN hK24 <| Qay (t:=decide (m<q)) kj (fun c25=>?_) (fun c25=>?_)
  ·skip
   have hlt42:m<q:=by have:=of_decide_eq_true c25; omega
   obtain ⟨b,hb⟩:∃ z,z=((padT t).drop (64*m)).take 64:=⟨_,rfl⟩
   obtain ⟨s,hs⟩:∃ z,z=absorb S0 (padT t) m:=⟨_,rfl⟩
   have r7_7_26:V2.heap[g7]? = some (.cells (ints .u32 ([wv s.a,wv s.b,wv s.c,wv s.d,wv s.e,wv s.f,wv s.g,wv s.h])) 179):=Qa9 q7_2 (by rw [hs])
   refine wp_skip <| hK23 _ _ <| wp_seq_k fun K27 hK27=>wp_block <| sgB kj <| wp_seq_k fun K29 hK29=>sgB kj <| wp_block <| Qa3 (fun (s3:Nat×Value)=>[(2,pp g2 0),(4,pp g7 0),(6,.slice am17 ((KK.map wv).length) cm17),(7,.slice am20 ((padT t).length) cm20),(8,.int .i64 ((64*m:Nat):Int)),(9,s3.2),(10,.int .i64 (s3.1:Int))]) (fun (s3:Nat×Value) W=>(s3.1≤16)∧(OwnN .u32 139 V2.heap.size (((w64 b).map wv).take s3.1) s3.2 W)∧(Ext V2 W)∧(Ext w W)) (fun (s3:Nat×Value)=>16-s3.1) (0,(.slice none 0 0)) ⟨kj,kj,kj,kj,kj,kj,kj,trivial⟩ ⟨(zag _),(Qb5 _ _ _ _),(zbh V2),xx2⟩ fun s3 X3 V3 hI3=>?_
   obtain ⟨j,u⟩:=s3
   obtain ⟨hj,hu,kk3,xx3⟩:=hI3
   replace hj:j≤16:=hj
   replace hu:OwnN .u32 139 V2.heap.size (((w64 b).map wv).take j) u V3:=hu
   replace kk3:Ext V2 V3:=kk3
   replace xx3:Ext w V3:=xx3
   have e8:=kk3
   have f32_7:=(OwnN.keepsL hv19 q7 (nb_cons nb20_7 nb_nil))
   have f33_8:=(f32_7.ext e8)
   have hnp_31:(padT t).length=64*q:=hq
   obtain ⟨gcp_31,ocp_31,hap_31,hlp_31,hcp_31⟩:=QbU (zbo f33_8) (by rw [hnp_31]; omega)
   refine wp_seq_k fun K34 hK34=>sgB kj <| Qay (t:=decide ((j:Int)<16)) kj (fun c36=>?_) (fun c36=>?_)
   ·skip
    have hlt46:j<16:=by have:=of_decide_eq_true c36; omega
    refine wp_skip <| hK34 _ _ <| wp_seq_k fun K37 hK37=>wp_block <| sgC fun K38 hK38=>sg 2 kj <| sv (.int .i64 ((4*j:Nat):Int)) 51 (Qac (u:=.int .i64 (zaa.wrap (4*(j:Int)))) kj (congrArg (zad .i64) (i64n _ _ oo oo))) <| sv (.int .i64 (((64*m)+(4*j):Nat):Int)) 52 (Qac (u:=.int .i64 (zaa.wrap (((64*m:Nat):Int)+((4*j:Nat):Int)))) kj (congrArg (zad .i64) (i64n _ _ oo oo))) <| sg 1 kj <| sgN hK38 ?_
    refine QaT 31 [⟨none,[(9,none)]⟩,⟨none,[(7,none)]⟩,⟨none,[(11,none)]⟩,⟨none,[(54,some 1),(55,some 2)]⟩,⟨none,[(56,some 3)]⟩,⟨none,[(57,some 4)]⟩,⟨none,[(58,some 5)]⟩,⟨none,[(7,none)]⟩,⟨none,[(11,none)]⟩,⟨none,[(61,some 8)]⟩,⟨none,[(60,some 7),(62,some 9)]⟩,⟨none,[(63,some 10)]⟩,⟨none,[(64,some 11)]⟩,⟨none,[(65,some 12)]⟩,⟨none,[(59,some 6),(66,some 13)]⟩,⟨none,[(7,none)]⟩,⟨none,[(11,none)]⟩,⟨none,[(69,some 16)]⟩,⟨none,[(68,some 15),(70,some 17)]⟩,⟨none,[(71,some 18)]⟩,⟨none,[(72,some 19)]⟩,⟨none,[(73,some 20)]⟩,⟨none,[(67,some 14),(74,some 21)]⟩,⟨none,[(7,none)]⟩,⟨none,[(11,none)]⟩,⟨none,[(77,some 24)]⟩,⟨none,[(76,some 23),(78,some 25)]⟩,⟨none,[(79,some 26)]⟩,⟨none,[(80,some 27)]⟩,⟨none,[(75,some 22),(81,some 28)]⟩,⟨none,[(82,some 29)]⟩] kj kj fun F hF=>Qa2 (Qam _) (u) kj kj (fun _=>kj) <| Qa2 (Qam _) (.slice am20 ((padT t).length) cm20) kj kj (fun _=>kj) <| Qa2 (Qam _) (.int .i64 (((64*m)+(4*j):Nat):Int)) kj kj (fun _=>kj) <| Qa2 (Qam _) (pp gcp_31 (ocp_31+((64*m)+(4*j)))) kj kj (fun W=>(QaP 41 _ _ .i64 ((64*m)+(4*j)) gcp_31 ocp_31 ((padT t).length) cm20 5 am20 _ hap_31 rfl rfl kj kj kj kj (zbb (show (64*m)+(4*j)<64*q by omega) hnp_31.symm))) <| QaN (Qam _) (.int .u8 (nth (padT t) (((64*m)+(4*j))))) kj kj (fun W hR=>(QaB 5 _ _ (.int .u8 (nth (padT t) (((64*m)+(4*j))))) ((Below.cell (zbi (Qan _) hR) hlp_31).trans (hcp_31 ((64*m)+(4*j)) (zbb (show (64*m)+(4*j)<64*q by omega) hnp_31.symm))) rfl kj kj)) <| Qa2 (Qam _) (.int .u32 (nth (padT t) (64*m+4*j))) kj kj (fun W=>(Qac (u:=.int .u32 (zbc.wrap (nth (padT t) (((64*m)+(4*j)))))) kj (congrArg (zad .u32) (u32s _ (by have:=hPb.nth (64*m+4*j); omega))))) ?_
    refine Qa2 (Qam _) (.int .u32 (nth (padT t) (64*m+4*j)*16777216)) kj kj (fun W=>(Qac (u:=.int .u32 (zbc.wrap ((nth (padT t) (64*m+4*j))*16777216))) kj (congrArg (zad .u32) (u32s _ (by have:=hPb.nth (64*m+4*j); omega))))) ?_
    refine Qa2 (Qam _) (.slice am20 ((padT t).length) cm20) kj kj (fun _=>kj) <| Qa2 (Qam _) (.int .i64 (((64*m)+(4*j):Nat):Int)) kj kj (fun _=>kj) <| Qa2 (Qam _) (.int .i64 ((((64*m)+(4*j))+1:Nat):Int)) kj kj (fun W=>(Qac (u:=.int .i64 (zaa.wrap ((((64*m)+(4*j):Nat):Int)+1))) kj (congrArg (zad .i64) (i64n _ _ oo oo)))) <| Qa2 (Qam _) (pp gcp_31 (ocp_31+(((64*m)+(4*j))+1))) kj kj (fun W=>(QaP 41 _ _ .i64 (((64*m)+(4*j))+1) gcp_31 ocp_31 ((padT t).length) cm20 5 am20 _ hap_31 rfl rfl kj kj kj kj (zbb (show ((64*m)+(4*j))+1<64*q by omega) hnp_31.symm))) <| QaN (Qam _) (.int .u8 (nth (padT t) ((((64*m)+(4*j))+1)))) kj kj (fun W hR=>(QaB 5 _ _ (.int .u8 (nth (padT t) ((((64*m)+(4*j))+1)))) ((Below.cell (zbi (Qan _) hR) hlp_31).trans (hcp_31 (((64*m)+(4*j))+1) (zbb (show ((64*m)+(4*j))+1<64*q by omega) hnp_31.symm))) rfl kj kj)) <| Qa2 (Qam _) (.int .u32 (nth (padT t) (64*m+4*j+1))) kj kj (fun W=>(Qac (u:=.int .u32 (zbc.wrap (nth (padT t) ((((64*m)+(4*j))+1))))) kj (congrArg (zad .u32) (u32s _ (by have:=hPb.nth (64*m+4*j+1); omega))))) ?_
    refine Qa2 (Qam _) (.int .u32 (nth (padT t) (64*m+4*j+1)*65536)) kj kj (fun W=>(Qac (u:=.int .u32 (zbc.wrap ((nth (padT t) (64*m+4*j+1))*65536))) kj (congrArg (zad .u32) (u32s _ (by have:=hPb.nth (64*m+4*j+1); omega))))) ?_
    refine Qa2 (Qam _) (.int .u32 (nth (padT t) (64*m+4*j)*16777216+nth (padT t) (64*m+4*j+1)*65536)) kj kj (fun W=>(Qac (u:=.int .u32 (zbc.wrap ((nth (padT t) (64*m+4*j)*16777216)+(nth (padT t) (64*m+4*j+1)*65536)))) kj (congrArg (zad .u32) (u32s _ (by have:=hPb.nth (64*m+4*j); have:=hPb.nth (64*m+4*j+1); omega))))) ?_
    refine Qa2 (Qam _) (.slice am20 ((padT t).length) cm20) kj kj (fun _=>kj) <| Qa2 (Qam _) (.int .i64 (((64*m)+(4*j):Nat):Int)) kj kj (fun _=>kj) <| Qa2 (Qam _) (.int .i64 ((((64*m)+(4*j))+2:Nat):Int)) kj kj (fun W=>(Qac (u:=.int .i64 (zaa.wrap ((((64*m)+(4*j):Nat):Int)+2))) kj (congrArg (zad .i64) (i64n _ _ oo oo)))) <| Qa2 (Qam _) (pp gcp_31 (ocp_31+(((64*m)+(4*j))+2))) kj kj (fun W=>(QaP 41 _ _ .i64 (((64*m)+(4*j))+2) gcp_31 ocp_31 ((padT t).length) cm20 5 am20 _ hap_31 rfl rfl kj kj kj kj (zbb (show ((64*m)+(4*j))+2<64*q by omega) hnp_31.symm))) <| QaN (Qam _) (.int .u8 (nth (padT t) ((((64*m)+(4*j))+2)))) kj kj (fun W hR=>(QaB 5 _ _ (.int .u8 (nth (padT t) ((((64*m)+(4*j))+2)))) ((Below.cell (zbi (Qan _) hR) hlp_31).trans (hcp_31 (((64*m)+(4*j))+2) (zbb (show ((64*m)+(4*j))+2<64*q by omega) hnp_31.symm))) rfl kj kj)) <| Qa2 (Qam _) (.int .u32 (nth (padT t) (64*m+4*j+2))) kj kj (fun W=>(Qac (u:=.int .u32 (zbc.wrap (nth (padT t) ((((64*m)+(4*j))+2))))) kj (congrArg (zad .u32) (u32s _ (by have:=hPb.nth (64*m+4*j+2); omega))))) ?_
    refine Qa2 (Qam _) (.int .u32 (nth (padT t) (64*m+4*j+2)*256)) kj kj (fun W=>(Qac (u:=.int .u32 (zbc.wrap ((nth (padT t) (64*m+4*j+2))*256))) kj (congrArg (zad .u32) (u32s _ (by have:=hPb.nth (64*m+4*j+2); omega))))) ?_
    refine Qa2 (Qam _) (.int .u32 (nth (padT t) (64*m+4*j)*16777216+nth (padT t) (64*m+4*j+1)*65536+nth (padT t) (64*m+4*j+2)*256)) kj kj (fun W=>(Qac (u:=.int .u32 (zbc.wrap ((nth (padT t) (64*m+4*j)*16777216+nth (padT t) (64*m+4*j+1)*65536)+(nth (padT t) (64*m+4*j+2)*256)))) kj (congrArg (zad .u32) (u32s _ (by have:=hPb.nth (64*m+4*j); have:=hPb.nth (64*m+4*j+1); have:=hPb.nth (64*m+4*j+2); omega))))) ?_
    refine Qa2 (Qam _) (.slice am20 ((padT t).length) cm20) kj kj (fun _=>kj) <| Qa2 (Qam _) (.int .i64 (((64*m)+(4*j):Nat):Int)) kj kj (fun _=>kj) <| Qa2 (Qam _) (.int .i64 ((((64*m)+(4*j))+3:Nat):Int)) kj kj (fun W=>(Qac (u:=.int .i64 (zaa.wrap ((((64*m)+(4*j):Nat):Int)+3))) kj (congrArg (zad .i64) (i64n _ _ oo oo)))) <| Qa2 (Qam _) (pp gcp_31 (ocp_31+(((64*m)+(4*j))+3))) kj kj (fun W=>(QaP 41 _ _ .i64 (((64*m)+(4*j))+3) gcp_31 ocp_31 ((padT t).length) cm20 5 am20 _ hap_31 rfl rfl kj kj kj kj (zbb (show ((64*m)+(4*j))+3<64*q by omega) hnp_31.symm))) <| QaN (Qam _) (.int .u8 (nth (padT t) ((((64*m)+(4*j))+3)))) kj kj (fun W hR=>(QaB 5 _ _ (.int .u8 (nth (padT t) ((((64*m)+(4*j))+3)))) ((Below.cell (zbi (Qan _) hR) hlp_31).trans (hcp_31 (((64*m)+(4*j))+3) (zbb (show ((64*m)+(4*j))+3<64*q by omega) hnp_31.symm))) rfl kj kj)) <| Qa2 (Qam _) (.int .u32 (nth (padT t) (64*m+4*j+3))) kj kj (fun W=>(Qac (u:=.int .u32 (zbc.wrap (nth (padT t) ((((64*m)+(4*j))+3))))) kj (congrArg (zad .u32) (u32s _ (by have:=hPb.nth (64*m+4*j+3); omega))))) ?_
    refine Qa2 (Qam _) (.int .u32 (wv (wget (w64 b) j))) kj kj (fun W=>(Qac (u:=.int .u32 (zbc.wrap ((nth (padT t) (64*m+4*j)*16777216+nth (padT t) (64*m+4*j+1)*65536+nth (padT t) (64*m+4*j+2)*256)+(nth (padT t) (64*m+4*j+3))))) kj (congrArg (zad .u32) (QoX hPb hb hlt46)))) <| QkF (Qam _) (ints .u32 ([(wv (wget (w64 b) j))])) 139 1 (NewS.stable _ _ _ _) kj kj (fun _=>kj) <| Qc3 (hF _ fun W9 e9=>?_)
    simp only [za7,za2,zaC,zaD,zaE,zaF,finE,up]
    intro vv39 hv39
    clear hF
    obtain ⟨g39,rfl,l39,r39_9⟩:=hv39
    have b39:=qT xx3.size l39
    have y7_9:=(zbi e8 e9)
    refine QaH (k:=.u32) (T:=139) (xs:=((w64 b).map wv).take j) (ys:=[(wv (wget (w64 b) j))]) (V:=V2) 4 (.tmp 53) (.tmp 83) 180 rfl kj kj dd 84 rfl kj kj kj (hu.ext e9) (QaL (xs:=[(wv (wget (w64 b) j))]) (n:=1) rfl r39_9 (Qaq r39_9) (show 1≤maxLen from by decide)) (by rw [QeG _ (Qcq b) oo]; show _+1≤_; omega) y7_9 fun z1 W10 f41 y10 l10=>?_
    have x10:=zbp (zbl xx3 e9) l10 xx2.size
    refine sg 1 kj <| Qas <| hK37 _ _ <| Qaj <| sg 1 kj <| sv (.int .i64 ((j+1:Nat):Int)) 48 (Qac (u:=.int .i64 (zaa.wrap ((j:Int)+1))) kj (congrArg (zad .i64) (i64n _ _ oo oo))) <| sg 1 kj <| Qas ?_
    with_reducible repeat first | refine goX1 ?_ | refine goX2 ?_ | refine goX3 ?_
    exact Qa1 ((j+1),z1) ⟨kj,kj,kj,kj,kj,kj,kj,trivial⟩ ⟨oo,(by rw [Qmi _ (Qcq b) oo]; exact f41),y10,x10⟩ (by show 16-(j+1)<16-j; omega)
   ·skip
    have heq46:j=16:=by have:=of_decide_eq_false c36; omega
    subst heq46
    refine wp_exit <| hK29 _ _ <| wp_seq_k fun K43 hK43=>sgB kj <| wp_block <| Qa3 (fun (s4:Nat×Value)=>[(2,pp g2 0),(4,pp g7 0),(6,.slice am17 ((KK.map wv).length) cm17),(7,.slice am20 ((padT t).length) cm20),(8,.int .i64 ((64*m:Nat):Int)),(9,s4.2),(12,.int .i64 (s4.1:Int))]) (fun (s4:Nat×Value) W=>(16≤s4.1)∧(s4.1≤64)∧(OwnN .u32 139 V2.heap.size (((w64 b).map wv).take s4.1) s4.2 W)∧(Below V2.heap.size V3 W)∧(Ext w W)) (fun (s4:Nat×Value)=>64-s4.1) (16,u) ⟨kj,kj,kj,kj,kj,kj,kj,trivial⟩ ⟨(qR _),(show (16:Nat)≤64 by decide),hu,(RowKit.Below.refl _ V3),xx3⟩ fun s4 X4 V4 hI4=>?_
    obtain ⟨i,u⟩:=s4
    obtain ⟨h16,hi,hu,kk4,xx4⟩:=hI4
    replace h16:16≤i:=h16
    replace hi:i≤64:=hi
    replace hu:OwnN .u32 139 V2.heap.size (((w64 b).map wv).take i) u V4:=hu
    replace kk4:Below V2.heap.size V3 V4:=kk4
    replace xx4:Ext w V4:=xx4
    have l9:=kk4
    obtain ⟨a9,c9,rfl,-⟩:=id (zbo hu)
    have hnw_45:(((w64 b).map wv).take i).length=i:=(QeG _ (Qcq b) hi)
    obtain ⟨gcw_45,ocw_45,haw_45,hlw_45,hcw_45⟩:=QbU (zbo hu) (by rw [hnw_45]; omega)
    refine wp_seq_k fun K46 hK46=>sgB kj <| Qay (t:=decide ((i:Int)<64)) kj (fun c48=>?_) (fun c48=>?_)
    ·skip
     have hlt86:i<64:=by have:=of_decide_eq_true c48; omega
     refine wp_skip <| hK46 _ _ <| wp_seq_k fun K49 hK49=>wp_block <| sgC fun K50 hK50=>sg 2 kj <| sv (.int .i64 ((i-15:Nat):Int)) 91 (Qac (u:=.int .i64 (zaa.wrap ((i:Int)-15))) kj (congrArg (zad .i64) (i64n _ _ oo oo))) <| sv (pp gcw_45 (ocw_45+(i-15))) 92 (QaP 180 _ _ .i64 (i-15) gcw_45 ocw_45 ((((w64 b).map wv).take i).length) c9 139 a9 _ haw_45 rfl rfl kj kj kj kj (zbb (show i-15<i by omega) hnw_45.symm)) <| sv (.int .u32 (wv (wget (w64 b) (i-15)))) 93 (QaB 139 _ _ (.int .u32 (wv (wget (w64 b) (i-15)))) ((hcw_45 (i-15) (zbb (show i-15<i by omega) hnw_45.symm)).trans (congrArg (fun z=>some (zad .u32 z)) (QdO (w64 b) i (i-15) oo))) rfl kj kj) <| sg 1 kj ?_
     refine sgN hK50 <| sgC fun K51 hK51=>sg 2 kj <| sv (.int .i64 ((i-2:Nat):Int)) 96 (Qac (u:=.int .i64 (zaa.wrap ((i:Int)-2))) kj (congrArg (zad .i64) (i64n _ _ oo oo))) <| sv (pp gcw_45 (ocw_45+(i-2))) 97 (QaP 180 _ _ .i64 (i-2) gcw_45 ocw_45 ((((w64 b).map wv).take i).length) c9 139 a9 _ haw_45 rfl rfl kj kj kj kj (zbb (show i-2<i by omega) hnw_45.symm)) <| sv (.int .u32 (wv (wget (w64 b) (i-2)))) 98 (QaB 139 _ _ (.int .u32 (wv (wget (w64 b) (i-2)))) ((hcw_45 (i-2) (zbb (show i-2<i by omega) hnw_45.symm)).trans (congrArg (fun z=>some (zad .u32 z)) (QdO (w64 b) i (i-2) oo))) rfl kj kj) <| sg 1 kj <| sgN hK51 <| QaT 31 [⟨none,[(9,none)]⟩,⟨none,[(14,none)]⟩,⟨none,[(100,some 1)]⟩,⟨none,[(14,none)]⟩,⟨none,[(102,some 3)]⟩,⟨none,[(101,some 2),(103,some 4)]⟩,⟨none,[(14,none)]⟩,⟨none,[(105,some 6)]⟩,⟨none,[(104,some 5),(106,some 7)]⟩,⟨none,[(9,none)]⟩,⟨none,[(12,none)]⟩,⟨none,[(109,some 10)]⟩,⟨none,[(108,some 9),(110,some 11)]⟩,⟨none,[(111,some 12)]⟩,⟨none,[(107,some 8),(112,some 13)]⟩,⟨none,[(13,none)]⟩,⟨none,[(114,some 15)]⟩,⟨none,[(13,none)]⟩,⟨none,[(116,some 17)]⟩,⟨none,[(115,some 16),(117,some 18)]⟩,⟨none,[(13,none)]⟩,⟨none,[(119,some 20)]⟩,⟨none,[(118,some 19),(120,some 21)]⟩,⟨none,[(113,some 14),(121,some 22)]⟩,⟨none,[(9,none)]⟩,⟨none,[(12,none)]⟩,⟨none,[(124,some 25)]⟩,⟨none,[(123,some 24),(125,some 26)]⟩,⟨none,[(126,some 27)]⟩,⟨none,[(122,some 23),(127,some 28)]⟩,⟨none,[(128,some 29)]⟩] kj kj fun F hF=>Qa2 (Qam _) (.slice a9 ((((w64 b).map wv).take i).length) c9) kj kj (fun _=>kj) ?_
     refine Qa2 (Qam _) (.int .u32 (wv (wget (w64 b) (i-2)))) kj kj (fun _=>kj) <| Qdn (Qam _) (.int .u32 (wv (rr (wget (w64 b) (i-2)) 17))) 101 #[.int .u32 (wv (wget (w64 b) (i-2))),.int .u64 17] kj kj (fun _=>kj) (fun W hR=>(turnC (wget (w64 b) (i-2)) 17 (17) dd dd dd) W) <| Qa2 (Qam _) (.int .u32 (wv (wget (w64 b) (i-2)))) kj kj (fun _=>kj) <| Qdn (Qam _) (.int .u32 (wv (rr (wget (w64 b) (i-2)) 19))) 101 #[.int .u32 (wv (wget (w64 b) (i-2))),.int .u64 19] kj kj (fun _=>kj) (fun W hR=>(turnC (wget (w64 b) (i-2)) 19 (19) dd dd dd) W) <| Qa2 (Qam _) (.int .u32 (wv (((rr (wget (w64 b) (i-2)) 17))^^^((rr (wget (w64 b) (i-2)) 19))))) kj kj (fun W=>(Qac kj (congrArg (zad .u32) (w_xor _ _)))) <| Qa2 (Qam _) (.int .u32 (wv (wget (w64 b) (i-2)))) kj kj (fun _=>kj) <| Qa2 (Qam _) (.int .u32 (wv (((wget (w64 b) (i-2)))>>>10))) kj kj (fun W=>(QaO .shr _ _ _ _ .u32 .u64 _ _ _ rfl kj kj (Qcd _ _ _ _ _ _ dd (Qf2 _ _ 10 rfl dd)))) <| Qa2 (Qam _) (.int .u32 (wv (((((rr (wget (w64 b) (i-2)) 17))^^^((rr (wget (w64 b) (i-2)) 19))))^^^((((wget (w64 b) (i-2)))>>>10))))) kj kj (fun W=>(Qac kj (congrArg (zad .u32) (w_xor _ _)))) <| Qa2 (Qam _) (.slice a9 ((((w64 b).map wv).take i).length) c9) kj kj (fun _=>kj) <| Qa2 (Qam _) (.int .i64 (i:Int)) kj kj (fun _=>kj) ?_
     refine Qa2 (Qam _) (.int .i64 ((i-7:Nat):Int)) kj kj (fun W=>(Qac (u:=.int .i64 (zaa.wrap ((i:Int)-7))) kj (congrArg (zad .i64) (i64n _ _ oo oo)))) <| Qa2 (Qam _) (pp gcw_45 (ocw_45+(i-7))) kj kj (fun W=>(QaP 180 _ _ .i64 (i-7) gcw_45 ocw_45 ((((w64 b).map wv).take i).length) c9 139 a9 _ haw_45 rfl rfl kj kj kj kj (zbb (show i-7<i by omega) hnw_45.symm))) <| QaN (Qam _) (.int .u32 (wv (wget (w64 b) (i-7)))) kj kj (fun W hR=>(QaB 139 _ _ (.int .u32 (wv (wget (w64 b) (i-7)))) (((Below.cell (zbi (Qan _) hR) hlw_45).trans (hcw_45 (i-7) (zbb (show i-7<i by omega) hnw_45.symm))).trans (congrArg (fun z=>some (zad .u32 z)) (QdO (w64 b) i (i-7) oo))) rfl kj kj)) <| Qa2 (Qam _) (.int .u32 (wv (((((((rr (wget (w64 b) (i-2)) 17))^^^((rr (wget (w64 b) (i-2)) 19))))^^^((((wget (w64 b) (i-2)))>>>10))))+((wget (w64 b) (i-7)))))) kj kj (fun W=>(Qac kj (congrArg (zad .u32) (Qcm _ _)))) <| Qa2 (Qam _) (.int .u32 (wv (wget (w64 b) (i-15)))) kj kj (fun _=>kj) <| Qdn (Qam _) (.int .u32 (wv (rr (wget (w64 b) (i-15)) 7))) 101 #[.int .u32 (wv (wget (w64 b) (i-15))),.int .u64 7] kj kj (fun _=>kj) (fun W hR=>(turnC (wget (w64 b) (i-15)) 7 (7) dd dd dd) W) <| Qa2 (Qam _) (.int .u32 (wv (wget (w64 b) (i-15)))) kj kj (fun _=>kj) <| Qdn (Qam _) (.int .u32 (wv (rr (wget (w64 b) (i-15)) 18))) 101 #[.int .u32 (wv (wget (w64 b) (i-15))),.int .u64 18] kj kj (fun _=>kj) (fun W hR=>(turnC (wget (w64 b) (i-15)) 18 (18) dd dd dd) W) <| Qa2 (Qam _) (.int .u32 (wv (((rr (wget (w64 b) (i-15)) 7))^^^((rr (wget (w64 b) (i-15)) 18))))) kj kj (fun W=>(Qac kj (congrArg (zad .u32) (w_xor _ _)))) <| Qa2 (Qam _) (.int .u32 (wv (wget (w64 b) (i-15)))) kj kj (fun _=>kj) ?_
     refine Qa2 (Qam _) (.int .u32 (wv (((wget (w64 b) (i-15)))>>>3))) kj kj (fun W=>(QaO .shr _ _ _ _ .u32 .u64 _ _ _ rfl kj kj (Qcd _ _ _ _ _ _ dd (Qf2 _ _ 3 rfl dd)))) <| Qa2 (Qam _) (.int .u32 (wv (((((rr (wget (w64 b) (i-15)) 7))^^^((rr (wget (w64 b) (i-15)) 18))))^^^((((wget (w64 b) (i-15)))>>>3))))) kj kj (fun W=>(Qac kj (congrArg (zad .u32) (w_xor _ _)))) <| Qa2 (Qam _) (.int .u32 (wv (((((((((rr (wget (w64 b) (i-2)) 17))^^^((rr (wget (w64 b) (i-2)) 19))))^^^((((wget (w64 b) (i-2)))>>>10))))+((wget (w64 b) (i-7)))))+((((((rr (wget (w64 b) (i-15)) 7))^^^((rr (wget (w64 b) (i-15)) 18))))^^^((((wget (w64 b) (i-15)))>>>3))))))) kj kj (fun W=>(Qac kj (congrArg (zad .u32) (Qcm _ _)))) <| Qa2 (Qam _) (.slice a9 ((((w64 b).map wv).take i).length) c9) kj kj (fun _=>kj) <| Qa2 (Qam _) (.int .i64 (i:Int)) kj kj (fun _=>kj) <| Qa2 (Qam _) (.int .i64 ((i-16:Nat):Int)) kj kj (fun W=>(Qac (u:=.int .i64 (zaa.wrap ((i:Int)-16))) kj (congrArg (zad .i64) (i64n _ _ oo oo)))) <| Qa2 (Qam _) (pp gcw_45 (ocw_45+(i-16))) kj kj (fun W=>(QaP 180 _ _ .i64 (i-16) gcw_45 ocw_45 ((((w64 b).map wv).take i).length) c9 139 a9 _ haw_45 rfl rfl kj kj kj kj (zbb (show i-16<i by omega) hnw_45.symm))) <| QaN (Qam _) (.int .u32 (wv (wget (w64 b) (i-16)))) kj kj (fun W hR=>(QaB 139 _ _ (.int .u32 (wv (wget (w64 b) (i-16)))) (((Below.cell (zbi (Qan _) hR) hlw_45).trans (hcw_45 (i-16) (zbb (show i-16<i by omega) hnw_45.symm))).trans (congrArg (fun z=>some (zad .u32 z)) (QdO (w64 b) i (i-16) oo))) rfl kj kj)) <| Qa2 (Qam _) (.int .u32 (wv (((((((((((rr (wget (w64 b) (i-2)) 17))^^^((rr (wget (w64 b) (i-2)) 19))))^^^((((wget (w64 b) (i-2)))>>>10))))+((wget (w64 b) (i-7)))))+((((((rr (wget (w64 b) (i-15)) 7))^^^((rr (wget (w64 b) (i-15)) 18))))^^^((((wget (w64 b) (i-15)))>>>3))))))+((wget (w64 b) (i-16)))))) kj kj (fun W=>(Qac kj (congrArg (zad .u32) (Qcm _ _)))) <| QkF (Qam _) (ints .u32 ([(wv (((((((((((rr (wget (w64 b) (i-2)) 17))^^^((rr (wget (w64 b) (i-2)) 19))))^^^((((wget (w64 b) (i-2)))>>>10))))+((wget (w64 b) (i-7)))))+((((((rr (wget (w64 b) (i-15)) 7))^^^((rr (wget (w64 b) (i-15)) 18))))^^^((((wget (w64 b) (i-15)))>>>3))))))+((wget (w64 b) (i-16)))))])) 139 1 (NewS.stable _ _ _ _) kj kj (fun _=>kj) ?_
     refine Qc3 (hF _ fun W10 e10=>?_)
     simp only [za7,za2,zaC,zaD,zaE,zaF,finE,up]
     intro vv52 hv52
     clear hF
     have x10:=zbl xx4 e10
     obtain ⟨g52,rfl,l52,r52_10⟩:=hv52
     have b52:=qT xx4.size l52
     have y7_9:=(zbp e8 l9 (zbh V2).size)
     refine QaH (k:=.u32) (T:=139) (xs:=((w64 b).map wv).take i) (ys:=[(wv (((((((((((rr (wget (w64 b) (i-2)) 17))^^^((rr (wget (w64 b) (i-2)) 19))))^^^((((wget (w64 b) (i-2)))>>>10))))+((wget (w64 b) (i-7)))))+((((((rr (wget (w64 b) (i-15)) 7))^^^((rr (wget (w64 b) (i-15)) 18))))^^^((((wget (w64 b) (i-15)))>>>3))))))+((wget (w64 b) (i-16)))))]) (V:=V2) 4 (.tmp 99) (.tmp 129) 180 rfl kj kj dd 130 rfl kj kj kj (hu.ext e10) (QaL (xs:=[(wv (((((((((((rr (wget (w64 b) (i-2)) 17))^^^((rr (wget (w64 b) (i-2)) 19))))^^^((((wget (w64 b) (i-2)))>>>10))))+((wget (w64 b) (i-7)))))+((((((rr (wget (w64 b) (i-15)) 7))^^^((rr (wget (w64 b) (i-15)) 18))))^^^((((wget (w64 b) (i-15)))>>>3))))))+((wget (w64 b) (i-16)))))]) (n:=1) rfl r52_10 (Qaq r52_10) (show 1≤maxLen from by decide)) (by rw [QeG _ (Qcq b) oo]; show _+1≤_; omega) (zbi y7_9 e10) fun z2 W11 f54 y11 l11=>?_
     have x11:=zbp x10 l11 xx2.size
     refine sg 1 kj <| Qas <| hK49 _ _ <| Qaj <| sg 1 kj <| sv (.int .i64 ((i+1:Nat):Int)) 88 (Qac (u:=.int .i64 (zaa.wrap ((i:Int)+1))) kj (congrArg (zad .i64) (i64n _ _ oo oo))) <| sg 1 kj <| Qas ?_
     with_reducible repeat first | refine goX1 ?_ | refine goX2 ?_ | refine goX3 ?_
     exact Qa1 ((i+1),z2) ⟨kj,kj,kj,kj,kj,kj,kj,trivial⟩ ⟨oo,oo,(by rw [Qmi _ (Qcq b) oo,QhL b i h16 hlt86]; exact f54),(RowKit.Below.trans (RowKit.Below.trans l9 (RowKit.Below.mono e10 y7_9.size)) l11),x11⟩ (by show 64-(i+1)<64-i; omega)
    ·skip
     have heq86:i=64:=by have:=of_decide_eq_false c48; omega
     subst heq86
     have nb9_4:(.slice a9 ((((w64 b).map wv).take 64).length) c9:Value).ownBlock≠some g7:=OwnN.nb hu (Qaq r7_7_26)
     refine wp_exit <| hK43 _ _ <| sgC fun K56 hK56=>?_
     have f58_7:=(OwnN.keepsL (hv16.ext e6) q7 (nb_cons nb17_7 nb_nil))
     have f60_9:=(OwnN.low (n:=0) (f58_7.ext e8) f58_7 l9)
     have r7_8:=(Qaa r7_7_26 e8)
     have r7_9:=(Qbk l9 r7_8 (Qaq r7_7_26))
     refine sv (.agg (ints .u32 ([wv s.a,wv s.b,wv s.c,wv s.d,wv s.e,wv s.f,wv s.g,wv s.h]))) 131 (Qae 179 _ g7 179 _ _ r7_9 rfl kj kj (isz (n:=8) kj kj)) <| Qah (ints .u32 (zai 8 0)) 179 15 rfl kj kj fun g62 W10 l62 e10 r62_10=>?_
     have x10:=zbl xx4 e10
     have b62:=qT xx4.size l62
     refine Qag g62 _ (ints .u32 ([wv s.a,wv s.b,wv s.c,wv s.d,wv s.e,wv s.f,wv s.g,wv s.h])) 179 r62_10 rfl kj (Qaf 179 _ _ g62 179 _ _ r62_10 rfl kj kj (isz (n:=8) kj kj) (eqsz (n:=8) (izT (qZ (n:=8))) kj) (Qat _ _)) fun W11 p11 r62_11=>?_
     have x11:=zbk p11 x10 b62
     refine sgN hK56 <| wp_seq_k fun K63 hK63=>sgB kj <| wp_block ?_
     have nb6_15:(.slice am17 ((KK.map wv).length) cm17:Value).ownBlock≠some g62:=fun e=>by have h1:=OwnN.lt f60_9 e; have h2:=l62; omega
     have nb7_15:(.slice am20 ((padT t).length) cm20:Value).ownBlock≠some g62:=fun e=>by have h1:=OwnN.lt (OwnN.low (n:=0) f33_8 f32_7 l9) e; have h2:=l62; omega
     have nb9_15:(.slice a9 ((((w64 b).map wv).take 64).length) c9:Value).ownBlock≠some g62:=fun e=>by have h1:=OwnN.lt hu e; have h2:=l62; omega
     refine Qa3 (fun (s5:Nat)=>[(2,pp g2 0),(4,pp g7 0),(6,.slice am17 ((KK.map wv).length) cm17),(7,.slice am20 ((padT t).length) cm20),(8,.int .i64 ((64*m:Nat):Int)),(9,.slice a9 ((((w64 b).map wv).take 64).length) c9),(15,pp g62 0),(16,.int .i64 (s5:Int))]) (fun (s5:Nat) W=>(s5≤64)∧(W.heap[g62]? = some (.cells (ints .u32 ([wv (rnds KK (w64 b) s s5).a,wv (rnds KK (w64 b) s s5).b,wv (rnds KK (w64 b) s s5).c,wv (rnds KK (w64 b) s s5).d,wv (rnds KK (w64 b) s s5).e,wv (rnds KK (w64 b) s s5).f,wv (rnds KK (w64 b) s s5).g,wv (rnds KK (w64 b) s s5).h])) 179))∧(Qai [g62] W11 W)∧(Ext w W)) (fun (s5:Nat)=>64-s5) 0 ⟨kj,kj,kj,kj,kj,kj,kj,kj,trivial⟩ ⟨(zag _),r62_11,(zbq [g62] W11),x11⟩ fun s5 X5 V5 hI5=>?_
     obtain ⟨i,hs5⟩:∃ z,z=s5:=⟨_,rfl⟩
     subst hs5
     obtain ⟨hi,q62_5,kk5,xx5⟩:=hI5
     replace hi:i≤64:=hi
     replace q62_5:V5.heap[g62]? = some (.cells (ints .u32 ([wv (rnds KK (w64 b) s i).a,wv (rnds KK (w64 b) s i).b,wv (rnds KK (w64 b) s i).c,wv (rnds KK (w64 b) s i).d,wv (rnds KK (w64 b) s i).e,wv (rnds KK (w64 b) s i).f,wv (rnds KK (w64 b) s i).g,wv (rnds KK (w64 b) s i).h])) 179):=q62_5
     replace kk5:Qai [g62] W11 V5:=kk5
     replace xx5:Ext w V5:=xx5
     have q12:=kk5
     have hnk_65:(KK.map wv).length=64:=(zbd ..)
     obtain ⟨gck_65,ock_65,hak_65,hlk_65,hck_65⟩:=QbU (zbo (OwnN.keepsL ((f60_9.ext e10).puts p11 nb6_15) q12 (nb_cons nb6_15 nb_nil))) (by rw [hnk_65]; omega)
     have hnw_69:(((w64 b).map wv).take 64).length=64:=(QeG _ (Qcq b) (qR _))
     obtain ⟨gcw_69,ocw_69,haw_69,hlw_69,hcw_69⟩:=QbU (zbo (OwnN.keepsL ((hu.ext e10).puts p11 nb9_15) q12 (nb_cons nb9_15 nb_nil))) (by rw [hnw_69]; omega)
     refine wp_seq_k fun K73 hK73=>sgB kj <| Qay (t:=decide ((i:Int)<64)) kj (fun c75=>?_) (fun c75=>?_)
     ·skip
      have hlt133:i<64:=by have:=of_decide_eq_true c75; omega
      refine wp_skip <| hK73 _ _ <| wp_seq_k fun K76 hK76=>wp_block <| wp_seq_k fun K77 hK77=>QaT 36 [⟨none,[(15,none)]⟩,⟨none,[(136,some 0)]⟩,⟨none,[(15,none)]⟩,⟨none,[(138,some 2)]⟩,⟨none,[(139,some 3)]⟩,⟨none,[(15,none)]⟩,⟨none,[(141,some 5)]⟩,⟨none,[(142,some 6)]⟩,⟨none,[(140,some 4),(143,some 7)]⟩,⟨none,[(15,none)]⟩,⟨none,[(145,some 9)]⟩,⟨none,[(146,some 10)]⟩,⟨none,[(144,some 8),(147,some 11)]⟩,⟨none,[(137,some 1),(148,some 12)]⟩,⟨none,[(15,none)]⟩,⟨none,[(150,some 14)]⟩,⟨none,[(15,none)]⟩,⟨none,[(152,some 16)]⟩,⟨none,[(151,some 15),(153,some 17)]⟩,⟨none,[(15,none)]⟩,⟨none,[(155,some 19)]⟩,⟨none,[(156,some 20)]⟩,⟨none,[(15,none)]⟩,⟨none,[(158,some 22)]⟩,⟨none,[(157,some 21),(159,some 23)]⟩,⟨none,[(154,some 18),(160,some 24)]⟩,⟨none,[(149,some 13),(161,some 25)]⟩,⟨none,[(6,none)]⟩,⟨none,[(16,none)]⟩,⟨none,[(163,some 27),(164,some 28)]⟩,⟨none,[(165,some 29)]⟩,⟨none,[(162,some 26),(166,some 30)]⟩,⟨none,[(9,none)]⟩,⟨none,[(16,none)]⟩,⟨none,[(168,some 32),(169,some 33)]⟩,⟨none,[(170,some 34)]⟩] kj kj fun F hF=>Qa2 (Qam _) (pp g62 7) kj kj (fun _=>kj) <| QaN (Qam _) (.int .u32 (wv (rnds KK (w64 b) s i).h)) kj kj (fun W hR=>(Qab 139 _ g62 7 179 _ (.int .u32 (wv (rnds KK (w64 b) s i).h)) _ (Qaa (Qaa q62_5 (Qan _)) hR) rfl kj kj kj)) <| Qa2 (Qam _) (pp g62 4) kj kj (fun _=>kj) <| QaN (Qam _) (.int .u32 (wv (rnds KK (w64 b) s i).e)) kj kj (fun W hR=>(Qab 139 _ g62 4 179 _ (.int .u32 (wv (rnds KK (w64 b) s i).e)) _ (Qaa (Qaa q62_5 (Qan _)) hR) rfl kj kj kj)) ?_
      refine Qdn (Qam _) (.int .u32 (wv (rr ((rnds KK (w64 b) s i).e) 6))) 101 #[.int .u32 (wv (rnds KK (w64 b) s i).e),.int .u64 6] kj kj (fun _=>kj) (fun W hR=>(turnC ((rnds KK (w64 b) s i).e) 6 (6) dd dd dd) W) <| Qa2 (Qam _) (pp g62 4) kj kj (fun _=>kj) <| QaN (Qam _) (.int .u32 (wv (rnds KK (w64 b) s i).e)) kj kj (fun W hR=>(Qab 139 _ g62 4 179 _ (.int .u32 (wv (rnds KK (w64 b) s i).e)) _ (Qaa (Qaa q62_5 (Qan _)) hR) rfl kj kj kj)) <| Qdn (Qam _) (.int .u32 (wv (rr ((rnds KK (w64 b) s i).e) 11))) 101 #[.int .u32 (wv (rnds KK (w64 b) s i).e),.int .u64 11] kj kj (fun _=>kj) (fun W hR=>(turnC ((rnds KK (w64 b) s i).e) 11 (11) dd dd dd) W) <| Qa2 (Qam _) (.int .u32 (wv (((rr ((rnds KK (w64 b) s i).e) 6))^^^((rr ((rnds KK (w64 b) s i).e) 11))))) kj kj (fun W=>(Qac kj (congrArg (zad .u32) (w_xor _ _)))) <| Qa2 (Qam _) (pp g62 4) kj kj (fun _=>kj) <| QaN (Qam _) (.int .u32 (wv (rnds KK (w64 b) s i).e)) kj kj (fun W hR=>(Qab 139 _ g62 4 179 _ (.int .u32 (wv (rnds KK (w64 b) s i).e)) _ (Qaa (Qaa q62_5 (Qan _)) hR) rfl kj kj kj)) <| Qdn (Qam _) (.int .u32 (wv (rr ((rnds KK (w64 b) s i).e) 25))) 101 #[.int .u32 (wv (rnds KK (w64 b) s i).e),.int .u64 25] kj kj (fun _=>kj) (fun W hR=>(turnC ((rnds KK (w64 b) s i).e) 25 (25) dd dd dd) W) <| Qa2 (Qam _) (.int .u32 (wv (((((rr ((rnds KK (w64 b) s i).e) 6))^^^((rr ((rnds KK (w64 b) s i).e) 11))))^^^((rr ((rnds KK (w64 b) s i).e) 25))))) kj kj (fun W=>(Qac kj (congrArg (zad .u32) (w_xor _ _)))) <| Qa2 (Qam _) (.int .u32 (wv (((rnds KK (w64 b) s i).h)+((((((rr ((rnds KK (w64 b) s i).e) 6))^^^((rr ((rnds KK (w64 b) s i).e) 11))))^^^((rr ((rnds KK (w64 b) s i).e) 25))))))) kj kj (fun W=>(Qac kj (congrArg (zad .u32) (Qcm _ _)))) ?_
      refine Qa2 (Qam _) (pp g62 4) kj kj (fun _=>kj) <| QaN (Qam _) (.int .u32 (wv (rnds KK (w64 b) s i).e)) kj kj (fun W hR=>(Qab 139 _ g62 4 179 _ (.int .u32 (wv (rnds KK (w64 b) s i).e)) _ (Qaa (Qaa q62_5 (Qan _)) hR) rfl kj kj kj)) <| Qa2 (Qam _) (pp g62 5) kj kj (fun _=>kj) <| QaN (Qam _) (.int .u32 (wv (rnds KK (w64 b) s i).f)) kj kj (fun W hR=>(Qab 139 _ g62 5 179 _ (.int .u32 (wv (rnds KK (w64 b) s i).f)) _ (Qaa (Qaa q62_5 (Qan _)) hR) rfl kj kj kj)) <| Qa2 (Qam _) (.int .u32 (wv (((rnds KK (w64 b) s i).e)&&&((rnds KK (w64 b) s i).f)))) kj kj (fun W=>(Qac kj (congrArg (zad .u32) (Qf3 _ _)))) <| Qa2 (Qam _) (pp g62 4) kj kj (fun _=>kj) <| QaN (Qam _) (.int .u32 (wv (rnds KK (w64 b) s i).e)) kj kj (fun W hR=>(Qab 139 _ g62 4 179 _ (.int .u32 (wv (rnds KK (w64 b) s i).e)) _ (Qaa (Qaa q62_5 (Qan _)) hR) rfl kj kj kj)) <| Qa2 (Qam _) (.int .u32 (wv (~~~((rnds KK (w64 b) s i).e)))) kj kj (fun W=>(Qac kj (congrArg (zad .u32) (Qpe _)))) <| Qa2 (Qam _) (pp g62 6) kj kj (fun _=>kj) <| QaN (Qam _) (.int .u32 (wv (rnds KK (w64 b) s i).g)) kj kj (fun W hR=>(Qab 139 _ g62 6 179 _ (.int .u32 (wv (rnds KK (w64 b) s i).g)) _ (Qaa (Qaa q62_5 (Qan _)) hR) rfl kj kj kj)) ?_
      refine Qa2 (Qam _) (.int .u32 (wv (((~~~((rnds KK (w64 b) s i).e)))&&&((rnds KK (w64 b) s i).g)))) kj kj (fun W=>(Qac kj (congrArg (zad .u32) (Qf3 _ _)))) <| Qa2 (Qam _) (.int .u32 (wv (((((rnds KK (w64 b) s i).e)&&&((rnds KK (w64 b) s i).f)))^^^((((~~~((rnds KK (w64 b) s i).e)))&&&((rnds KK (w64 b) s i).g)))))) kj kj (fun W=>(Qac kj (congrArg (zad .u32) (w_xor _ _)))) <| Qa2 (Qam _) (.int .u32 (wv (((((rnds KK (w64 b) s i).h)+((((((rr ((rnds KK (w64 b) s i).e) 6))^^^((rr ((rnds KK (w64 b) s i).e) 11))))^^^((rr ((rnds KK (w64 b) s i).e) 25))))))+((((((rnds KK (w64 b) s i).e)&&&((rnds KK (w64 b) s i).f)))^^^((((~~~((rnds KK (w64 b) s i).e)))&&&((rnds KK (w64 b) s i).g)))))))) kj kj (fun W=>(Qac kj (congrArg (zad .u32) (Qcm _ _)))) <| Qa2 (Qam _) (.slice am17 ((KK.map wv).length) cm17) kj kj (fun _=>kj) <| Qa2 (Qam _) (.int .i64 (i:Int)) kj kj (fun _=>kj) <| Qa2 (Qam _) (pp gck_65 (ock_65+i)) kj kj (fun W=>(QaP 180 _ _ .i64 i gck_65 ock_65 ((KK.map wv).length) cm17 139 am17 _ hak_65 rfl rfl kj kj kj kj (zbb (show i<64 by omega) hnk_65.symm))) <| QaN (Qam _) (.int .u32 (wv (wget KK i))) kj kj (fun W hR=>(QaB 139 _ _ (.int .u32 (wv (wget KK i))) (((Below.cell (zbi (Qan _) hR) hlk_65).trans (hck_65 i (zbb (show i<64 by omega) hnk_65.symm))).trans (congrArg (fun z=>some (zad .u32 z)) (QbJ _ _))) rfl kj kj)) <| Qa2 (Qam _) (.int .u32 (wv (((((((rnds KK (w64 b) s i).h)+((((((rr ((rnds KK (w64 b) s i).e) 6))^^^((rr ((rnds KK (w64 b) s i).e) 11))))^^^((rr ((rnds KK (w64 b) s i).e) 25))))))+((((((rnds KK (w64 b) s i).e)&&&((rnds KK (w64 b) s i).f)))^^^((((~~~((rnds KK (w64 b) s i).e)))&&&((rnds KK (w64 b) s i).g)))))))+((wget KK i))))) kj kj (fun W=>(Qac kj (congrArg (zad .u32) (Qcm _ _)))) <| Qa2 (Qam _) (.slice a9 ((((w64 b).map wv).take 64).length) c9) kj kj (fun _=>kj) <| Qa2 (Qam _) (.int .i64 (i:Int)) kj kj (fun _=>kj) ?_
      refine Qa2 (Qam _) (pp gcw_69 (ocw_69+i)) kj kj (fun W=>(QaP 180 _ _ .i64 i gcw_69 ocw_69 ((((w64 b).map wv).take 64).length) c9 139 a9 _ haw_69 rfl rfl kj kj kj kj (zbb (show i<64 by omega) hnw_69.symm))) <| QaN (Qam _) (.int .u32 (wv (wget (w64 b) i))) kj kj (fun W hR=>(QaB 139 _ _ (.int .u32 (wv (wget (w64 b) i))) (((Below.cell (zbi (Qan _) hR) hlw_69).trans (hcw_69 i (zbb (show i<64 by omega) hnw_69.symm))).trans (congrArg (fun z=>some (zad .u32 z)) (QdO (w64 b) 64 i hlt133))) rfl kj kj)) <| Qc3 (hF _ fun W13 e13=>?_)
      simp only [za7,za2,zaC,zaD,zaE,zaF,finE,up]
      clear hF
      refine sv (.int .u32 (wv (((((((((rnds KK (w64 b) s i).h)+((((((rr ((rnds KK (w64 b) s i).e) 6))^^^((rr ((rnds KK (w64 b) s i).e) 11))))^^^((rr ((rnds KK (w64 b) s i).e) 25))))))+((((((rnds KK (w64 b) s i).e)&&&((rnds KK (w64 b) s i).f)))^^^((((~~~((rnds KK (w64 b) s i).e)))&&&((rnds KK (w64 b) s i).g)))))))+((wget KK i))))+((wget (w64 b) i))))) 172 (Qac kj (congrArg (zad .u32) (Qcm _ _))) <| sg 1 kj <| sgN hK77 <| wp_seq_k fun K78 hK78=>QaT 28 [⟨none,[(15,none)]⟩,⟨none,[(173,some 0)]⟩,⟨none,[(174,some 1)]⟩,⟨none,[(15,none)]⟩,⟨none,[(176,some 3)]⟩,⟨none,[(177,some 4)]⟩,⟨none,[(175,some 2),(178,some 5)]⟩,⟨none,[(15,none)]⟩,⟨none,[(180,some 7)]⟩,⟨none,[(181,some 8)]⟩,⟨none,[(179,some 6),(182,some 9)]⟩,⟨none,[(15,none)]⟩,⟨none,[(184,some 11)]⟩,⟨none,[(15,none)]⟩,⟨none,[(186,some 13)]⟩,⟨none,[(185,some 12),(187,some 14)]⟩,⟨none,[(15,none)]⟩,⟨none,[(189,some 16)]⟩,⟨none,[(15,none)]⟩,⟨none,[(191,some 18)]⟩,⟨none,[(190,some 17),(192,some 19)]⟩,⟨none,[(188,some 15),(193,some 20)]⟩,⟨none,[(15,none)]⟩,⟨none,[(195,some 22)]⟩,⟨none,[(15,none)]⟩,⟨none,[(197,some 24)]⟩,⟨none,[(196,some 23),(198,some 25)]⟩,⟨none,[(194,some 21),(199,some 26)]⟩] kj kj fun F hF=>Qa2 (Qam _) (pp g62 0) kj kj (fun _=>kj) ?_
      have r62_13:=(Qaa q62_5 e13)
      refine QaN (Qam _) (.int .u32 (wv (rnds KK (w64 b) s i).a)) kj kj (fun W hR=>(Qab 139 _ g62 0 179 _ (.int .u32 (wv (rnds KK (w64 b) s i).a)) _ (Qaa (Qaa r62_13 (Qan _)) hR) rfl kj kj kj)) <| Qdn (Qam _) (.int .u32 (wv (rr ((rnds KK (w64 b) s i).a) 2))) 101 #[.int .u32 (wv (rnds KK (w64 b) s i).a),.int .u64 2] kj kj (fun _=>kj) (fun W hR=>(turnC ((rnds KK (w64 b) s i).a) 2 (2) dd dd dd) W) <| Qa2 (Qam _) (pp g62 0) kj kj (fun _=>kj) <| QaN (Qam _) (.int .u32 (wv (rnds KK (w64 b) s i).a)) kj kj (fun W hR=>(Qab 139 _ g62 0 179 _ (.int .u32 (wv (rnds KK (w64 b) s i).a)) _ (Qaa (Qaa r62_13 (Qan _)) hR) rfl kj kj kj)) <| Qdn (Qam _) (.int .u32 (wv (rr ((rnds KK (w64 b) s i).a) 13))) 101 #[.int .u32 (wv (rnds KK (w64 b) s i).a),.int .u64 13] kj kj (fun _=>kj) (fun W hR=>(turnC ((rnds KK (w64 b) s i).a) 13 (13) dd dd dd) W) <| Qa2 (Qam _) (.int .u32 (wv (((rr ((rnds KK (w64 b) s i).a) 2))^^^((rr ((rnds KK (w64 b) s i).a) 13))))) kj kj (fun W=>(Qac kj (congrArg (zad .u32) (w_xor _ _)))) <| Qa2 (Qam _) (pp g62 0) kj kj (fun _=>kj) <| QaN (Qam _) (.int .u32 (wv (rnds KK (w64 b) s i).a)) kj kj (fun W hR=>(Qab 139 _ g62 0 179 _ (.int .u32 (wv (rnds KK (w64 b) s i).a)) _ (Qaa (Qaa r62_13 (Qan _)) hR) rfl kj kj kj)) <| Qdn (Qam _) (.int .u32 (wv (rr ((rnds KK (w64 b) s i).a) 22))) 101 #[.int .u32 (wv (rnds KK (w64 b) s i).a),.int .u64 22] kj kj (fun _=>kj) (fun W hR=>(turnC ((rnds KK (w64 b) s i).a) 22 (22) dd dd dd) W) <| Qa2 (Qam _) (.int .u32 (wv (((((rr ((rnds KK (w64 b) s i).a) 2))^^^((rr ((rnds KK (w64 b) s i).a) 13))))^^^((rr ((rnds KK (w64 b) s i).a) 22))))) kj kj (fun W=>(Qac kj (congrArg (zad .u32) (w_xor _ _)))) ?_
      refine Qa2 (Qam _) (pp g62 0) kj kj (fun _=>kj) <| QaN (Qam _) (.int .u32 (wv (rnds KK (w64 b) s i).a)) kj kj (fun W hR=>(Qab 139 _ g62 0 179 _ (.int .u32 (wv (rnds KK (w64 b) s i).a)) _ (Qaa (Qaa r62_13 (Qan _)) hR) rfl kj kj kj)) <| Qa2 (Qam _) (pp g62 1) kj kj (fun _=>kj) <| QaN (Qam _) (.int .u32 (wv (rnds KK (w64 b) s i).b)) kj kj (fun W hR=>(Qab 139 _ g62 1 179 _ (.int .u32 (wv (rnds KK (w64 b) s i).b)) _ (Qaa (Qaa r62_13 (Qan _)) hR) rfl kj kj kj)) <| Qa2 (Qam _) (.int .u32 (wv (((rnds KK (w64 b) s i).a)&&&((rnds KK (w64 b) s i).b)))) kj kj (fun W=>(Qac kj (congrArg (zad .u32) (Qf3 _ _)))) <| Qa2 (Qam _) (pp g62 0) kj kj (fun _=>kj) <| QaN (Qam _) (.int .u32 (wv (rnds KK (w64 b) s i).a)) kj kj (fun W hR=>(Qab 139 _ g62 0 179 _ (.int .u32 (wv (rnds KK (w64 b) s i).a)) _ (Qaa (Qaa r62_13 (Qan _)) hR) rfl kj kj kj)) <| Qa2 (Qam _) (pp g62 2) kj kj (fun _=>kj) <| QaN (Qam _) (.int .u32 (wv (rnds KK (w64 b) s i).c)) kj kj (fun W hR=>(Qab 139 _ g62 2 179 _ (.int .u32 (wv (rnds KK (w64 b) s i).c)) _ (Qaa (Qaa r62_13 (Qan _)) hR) rfl kj kj kj)) <| Qa2 (Qam _) (.int .u32 (wv (((rnds KK (w64 b) s i).a)&&&((rnds KK (w64 b) s i).c)))) kj kj (fun W=>(Qac kj (congrArg (zad .u32) (Qf3 _ _)))) ?_
      refine Qa2 (Qam _) (.int .u32 (wv (((((rnds KK (w64 b) s i).a)&&&((rnds KK (w64 b) s i).b)))^^^((((rnds KK (w64 b) s i).a)&&&((rnds KK (w64 b) s i).c)))))) kj kj (fun W=>(Qac kj (congrArg (zad .u32) (w_xor _ _)))) <| Qa2 (Qam _) (pp g62 1) kj kj (fun _=>kj) <| QaN (Qam _) (.int .u32 (wv (rnds KK (w64 b) s i).b)) kj kj (fun W hR=>(Qab 139 _ g62 1 179 _ (.int .u32 (wv (rnds KK (w64 b) s i).b)) _ (Qaa (Qaa r62_13 (Qan _)) hR) rfl kj kj kj)) <| Qa2 (Qam _) (pp g62 2) kj kj (fun _=>kj) <| QaN (Qam _) (.int .u32 (wv (rnds KK (w64 b) s i).c)) kj kj (fun W hR=>(Qab 139 _ g62 2 179 _ (.int .u32 (wv (rnds KK (w64 b) s i).c)) _ (Qaa (Qaa r62_13 (Qan _)) hR) rfl kj kj kj)) <| Qa2 (Qam _) (.int .u32 (wv (((rnds KK (w64 b) s i).b)&&&((rnds KK (w64 b) s i).c)))) kj kj (fun W=>(Qac kj (congrArg (zad .u32) (Qf3 _ _)))) <| Qa2 (Qam _) (.int .u32 (wv (((((((rnds KK (w64 b) s i).a)&&&((rnds KK (w64 b) s i).b)))^^^((((rnds KK (w64 b) s i).a)&&&((rnds KK (w64 b) s i).c)))))^^^((((rnds KK (w64 b) s i).b)&&&((rnds KK (w64 b) s i).c)))))) kj kj (fun W=>(Qac kj (congrArg (zad .u32) (w_xor _ _)))) <| Qc3 (hF _ fun W14 e14=>?_)
      simp only [za7,za2,zaC,zaD,zaE,zaF,finE,up]
      clear hF
      have x14:=zbl (zbl xx5 e13) e14
      refine sv (.int .u32 (wv (((((((rr ((rnds KK (w64 b) s i).a) 2))^^^((rr ((rnds KK (w64 b) s i).a) 13))))^^^((rr ((rnds KK (w64 b) s i).a) 22))))+((((((((rnds KK (w64 b) s i).a)&&&((rnds KK (w64 b) s i).b)))^^^((((rnds KK (w64 b) s i).a)&&&((rnds KK (w64 b) s i).c)))))^^^((((rnds KK (w64 b) s i).b)&&&((rnds KK (w64 b) s i).c)))))))) 201 (Qac kj (congrArg (zad .u32) (Qcm _ _))) <| sg 1 kj <| sgN hK78 <| wp_seq_k fun K79 hK79=>sgB kj <| wp_block <| Qa3 (fun (s6:Nat)=>[(2,pp g2 0),(4,pp g7 0),(6,.slice am17 ((KK.map wv).length) cm17),(7,.slice am20 ((padT t).length) cm20),(8,.int .i64 ((64*m:Nat):Int)),(9,.slice a9 ((((w64 b).map wv).take 64).length) c9),(15,pp g62 0),(16,.int .i64 (i:Int)),(17,.int .u32 (wv (((((((((rnds KK (w64 b) s i).h)+((((((rr ((rnds KK (w64 b) s i).e) 6))^^^((rr ((rnds KK (w64 b) s i).e) 11))))^^^((rr ((rnds KK (w64 b) s i).e) 25))))))+((((((rnds KK (w64 b) s i).e)&&&((rnds KK (w64 b) s i).f)))^^^((((~~~((rnds KK (w64 b) s i).e)))&&&((rnds KK (w64 b) s i).g)))))))+((wget KK i))))+((wget (w64 b) i))))),(18,.int .u32 (wv (((((((rr ((rnds KK (w64 b) s i).a) 2))^^^((rr ((rnds KK (w64 b) s i).a) 13))))^^^((rr ((rnds KK (w64 b) s i).a) 22))))+((((((((rnds KK (w64 b) s i).a)&&&((rnds KK (w64 b) s i).b)))^^^((((rnds KK (w64 b) s i).a)&&&((rnds KK (w64 b) s i).c)))))^^^((((rnds KK (w64 b) s i).b)&&&((rnds KK (w64 b) s i).c)))))))),(19,.int .i64 (s6:Int))]) (fun (s6:Nat) W=>(s6≤7)∧(W.heap[g62]? = some (.cells (ints .u32 (shf [wv (rnds KK (w64 b) s i).a,wv (rnds KK (w64 b) s i).b,wv (rnds KK (w64 b) s i).c,wv (rnds KK (w64 b) s i).d,wv (rnds KK (w64 b) s i).e,wv (rnds KK (w64 b) s i).f,wv (rnds KK (w64 b) s i).g,wv (rnds KK (w64 b) s i).h] s6)) 179))∧(Qai [g62] W14 W)∧(Ext w W)) (fun (s6:Nat)=>s6) 7 ⟨kj,kj,kj,kj,kj,kj,kj,kj,kj,kj,kj,trivial⟩ ⟨(qR _),(Qa9 (Qaa r62_13 e14) (show _=shf _ 7 from rfl)),(zbq [g62] W14),x14⟩ fun s6 X6 V6 hI6=>?_
      obtain ⟨j,hs6⟩:∃ z,z=s6:=⟨_,rfl⟩
      subst hs6
      obtain ⟨hj,q62_6,kk6,xx6⟩:=hI6
      replace hj:j≤7:=hj
      replace q62_6:V6.heap[g62]? = some (.cells (ints .u32 (shf [wv (rnds KK (w64 b) s i).a,wv (rnds KK (w64 b) s i).b,wv (rnds KK (w64 b) s i).c,wv (rnds KK (w64 b) s i).d,wv (rnds KK (w64 b) s i).e,wv (rnds KK (w64 b) s i).f,wv (rnds KK (w64 b) s i).g,wv (rnds KK (w64 b) s i).h] j)) 179):=q62_6
      replace kk6:Qai [g62] W14 V6:=kk6
      replace xx6:Ext w V6:=xx6
      have q15:=kk6
      refine wp_seq_k fun K81 hK81=>sgB kj <| Qay (t:=decide ((j:Int)>0)) kj (fun c83=>?_) (fun c83=>?_)
      ·skip
       have hj0:0<j:=by have:=of_decide_eq_true c83; omega
       refine wp_skip <| hK81 _ _ <| wp_seq_k fun K84 hK84=>wp_block <| Qaj <| sg 2 kj <| sv (.int .i64 ((j-1:Nat):Int)) 208 (Qac (u:=.int .i64 (zaa.wrap ((j:Int)-1))) kj (congrArg (zad .i64) (i64n _ _ oo oo))) <| sv (pp g62 (j-1)) 209 (Qa7 _ _ _ .i64 (j-1) _ 8 139 rfl kj kj kj kj oo) <| sv (.int .u32 (nth (shf [wv (rnds KK (w64 b) s i).a,wv (rnds KK (w64 b) s i).b,wv (rnds KK (w64 b) s i).c,wv (rnds KK (w64 b) s i).d,wv (rnds KK (w64 b) s i).e,wv (rnds KK (w64 b) s i).f,wv (rnds KK (w64 b) s i).g,wv (rnds KK (w64 b) s i).h] j) (j-1))) 210 (Qab 139 _ g62 (j-1) 179 _ (.int .u32 (nth (shf [wv (rnds KK (w64 b) s i).a,wv (rnds KK (w64 b) s i).b,wv (rnds KK (w64 b) s i).c,wv (rnds KK (w64 b) s i).d,wv (rnds KK (w64 b) s i).e,wv (rnds KK (w64 b) s i).f,wv (rnds KK (w64 b) s i).g,wv (rnds KK (w64 b) s i).h] j) (j-1))) _ q62_6 rfl kj (QaD _ _ _ (zbb oo (Qj4 hj).symm)) kj) <| sv (pp g62 j) 211 (Qa7 _ _ _ .i64 (j) _ 8 139 rfl kj kj kj kj oo) ?_
       refine Qag g62 _ (ints .u32 ((shf [wv (rnds KK (w64 b) s i).a,wv (rnds KK (w64 b) s i).b,wv (rnds KK (w64 b) s i).c,wv (rnds KK (w64 b) s i).d,wv (rnds KK (w64 b) s i).e,wv (rnds KK (w64 b) s i).f,wv (rnds KK (w64 b) s i).g,wv (rnds KK (w64 b) s i).h] j).set j (nth (shf [wv (rnds KK (w64 b) s i).a,wv (rnds KK (w64 b) s i).b,wv (rnds KK (w64 b) s i).c,wv (rnds KK (w64 b) s i).d,wv (rnds KK (w64 b) s i).e,wv (rnds KK (w64 b) s i).f,wv (rnds KK (w64 b) s i).g,wv (rnds KK (w64 b) s i).h] j) (j-1)))) 179 q62_6 rfl kj (Qa0 139 _ _ g62 j 179 _ _ q62_6 rfl kj kj kj (zbb oo (Qj4 hj).symm)) fun W16 p16 r62_16=>?_
       have x16:=zbk p16 xx6 b62
       refine Qas <| hK84 _ _ <| Qaj <| sg 1 kj <| sv (.int .i64 ((j-1:Nat):Int)) 205 (Qac (u:=.int .i64 (zaa.wrap ((j:Int)-1))) kj (congrArg (zad .i64) (i64n _ _ oo oo))) <| sg 1 kj <| Qas ?_
       with_reducible repeat first | refine goX1 ?_ | refine goX2 ?_ | refine goX3 ?_
       exact Qa1 (j-1) ⟨kj,kj,kj,kj,kj,kj,kj,kj,kj,kj,kj,trivial⟩ ⟨oo,(Qa9 r62_16 (QmI hj0 hj)),(zbt q15 p16 (.inl (by simp))),x16⟩ (by show j-1<j; omega)
      ·skip
       have hj0:j=0:=by have:=of_decide_eq_false c83; omega
       have r62_15_85:V6.heap[g62]? = some (.cells (ints .u32 ([wv (rnds KK (w64 b) s i).a,wv (rnds KK (w64 b) s i).a,wv (rnds KK (w64 b) s i).b,wv (rnds KK (w64 b) s i).c,wv (rnds KK (w64 b) s i).d,wv (rnds KK (w64 b) s i).e,wv (rnds KK (w64 b) s i).f,wv (rnds KK (w64 b) s i).g])) 179):=Qa9 q62_6 (by rw [hj0]; rfl)
       refine wp_exit <| hK79 _ _ <| sgC fun K86 hK86=>sg 1 kj <| sv (.int .u32 (wv (rnds KK (w64 b) s i).d)) 213 (Qab 139 _ g62 4 179 _ (.int .u32 (wv (rnds KK (w64 b) s i).d)) _ r62_15_85 rfl kj kj kj) <| sg 1 kj <| sv (.int .u32 (wv (((rnds KK (w64 b) s i).d)+((((((((((rnds KK (w64 b) s i).h)+((((((rr ((rnds KK (w64 b) s i).e) 6))^^^((rr ((rnds KK (w64 b) s i).e) 11))))^^^((rr ((rnds KK (w64 b) s i).e) 25))))))+((((((rnds KK (w64 b) s i).e)&&&((rnds KK (w64 b) s i).f)))^^^((((~~~((rnds KK (w64 b) s i).e)))&&&((rnds KK (w64 b) s i).g)))))))+((wget KK i))))+((wget (w64 b) i))))))) 215 (Qac kj (congrArg (zad .u32) (Qcm _ _))) <| sg 1 kj <| Qag g62 _ (ints .u32 ([wv (rnds KK (w64 b) s i).a,wv (rnds KK (w64 b) s i).a,wv (rnds KK (w64 b) s i).b,wv (rnds KK (w64 b) s i).c,(wv (((rnds KK (w64 b) s i).d)+((((((((((rnds KK (w64 b) s i).h)+((((((rr ((rnds KK (w64 b) s i).e) 6))^^^((rr ((rnds KK (w64 b) s i).e) 11))))^^^((rr ((rnds KK (w64 b) s i).e) 25))))))+((((((rnds KK (w64 b) s i).e)&&&((rnds KK (w64 b) s i).f)))^^^((((~~~((rnds KK (w64 b) s i).e)))&&&((rnds KK (w64 b) s i).g)))))))+((wget KK i))))+((wget (w64 b) i)))))),wv (rnds KK (w64 b) s i).e,wv (rnds KK (w64 b) s i).f,wv (rnds KK (w64 b) s i).g])) 179 r62_15_85 rfl kj (Qa0 139 _ _ g62 4 179 _ _ r62_15_85 rfl kj kj kj (show 4<8 by decide)) fun W16 p16 r62_16=>?_
       have x16:=zbk p16 xx6 b62
       refine sgN hK86 <| Qaj <| sg 2 kj <| sv (.int .u32 (wv (((((((((((rnds KK (w64 b) s i).h)+((((((rr ((rnds KK (w64 b) s i).e) 6))^^^((rr ((rnds KK (w64 b) s i).e) 11))))^^^((rr ((rnds KK (w64 b) s i).e) 25))))))+((((((rnds KK (w64 b) s i).e)&&&((rnds KK (w64 b) s i).f)))^^^((((~~~((rnds KK (w64 b) s i).e)))&&&((rnds KK (w64 b) s i).g)))))))+((wget KK i))))+((wget (w64 b) i))))+((((((((rr ((rnds KK (w64 b) s i).a) 2))^^^((rr ((rnds KK (w64 b) s i).a) 13))))^^^((rr ((rnds KK (w64 b) s i).a) 22))))+((((((((rnds KK (w64 b) s i).a)&&&((rnds KK (w64 b) s i).b)))^^^((((rnds KK (w64 b) s i).a)&&&((rnds KK (w64 b) s i).c)))))^^^((((rnds KK (w64 b) s i).b)&&&((rnds KK (w64 b) s i).c)))))))))) 219 (Qac kj (congrArg (zad .u32) (Qcm _ _))) <| sg 1 kj <| Qag g62 _ (ints .u32 ([(wv (((((((((((rnds KK (w64 b) s i).h)+((((((rr ((rnds KK (w64 b) s i).e) 6))^^^((rr ((rnds KK (w64 b) s i).e) 11))))^^^((rr ((rnds KK (w64 b) s i).e) 25))))))+((((((rnds KK (w64 b) s i).e)&&&((rnds KK (w64 b) s i).f)))^^^((((~~~((rnds KK (w64 b) s i).e)))&&&((rnds KK (w64 b) s i).g)))))))+((wget KK i))))+((wget (w64 b) i))))+((((((((rr ((rnds KK (w64 b) s i).a) 2))^^^((rr ((rnds KK (w64 b) s i).a) 13))))^^^((rr ((rnds KK (w64 b) s i).a) 22))))+((((((((rnds KK (w64 b) s i).a)&&&((rnds KK (w64 b) s i).b)))^^^((((rnds KK (w64 b) s i).a)&&&((rnds KK (w64 b) s i).c)))))^^^((((rnds KK (w64 b) s i).b)&&&((rnds KK (w64 b) s i).c))))))))),wv (rnds KK (w64 b) s i).a,wv (rnds KK (w64 b) s i).b,wv (rnds KK (w64 b) s i).c,(wv (((rnds KK (w64 b) s i).d)+((((((((((rnds KK (w64 b) s i).h)+((((((rr ((rnds KK (w64 b) s i).e) 6))^^^((rr ((rnds KK (w64 b) s i).e) 11))))^^^((rr ((rnds KK (w64 b) s i).e) 25))))))+((((((rnds KK (w64 b) s i).e)&&&((rnds KK (w64 b) s i).f)))^^^((((~~~((rnds KK (w64 b) s i).e)))&&&((rnds KK (w64 b) s i).g)))))))+((wget KK i))))+((wget (w64 b) i)))))),wv (rnds KK (w64 b) s i).e,wv (rnds KK (w64 b) s i).f,wv (rnds KK (w64 b) s i).g])) 179 r62_16 rfl kj (Qa0 139 _ _ g62 0 179 _ _ r62_16 rfl kj kj kj (show 0<8 by decide)) fun W17 p17 r62_17=>Qas <| hK76 _ _ <| Qaj <| sg 1 kj ?_
       refine sv (.int .i64 ((i+1:Nat):Int)) 135 (Qac (u:=.int .i64 (zaa.wrap ((i:Int)+1))) kj (congrArg (zad .i64) (i64n _ _ oo oo))) <| sg 1 kj <| Qas ?_
       with_reducible repeat first | refine goX1 ?_ | refine goX2 ?_ | refine goX3 ?_
       exact Qa1 (i+1) ⟨kj,kj,kj,kj,kj,kj,kj,kj,trivial⟩ ⟨oo,(Qa9 r62_17 (by rw [show rnds KK (w64 b) s (i+1)=rnd (wget KK i) (wget (w64 b) i) (rnds KK (w64 b) s i) from rfl]; generalize rnds KK (w64 b) s i=r; generalize wget KK i=kk; generalize wget (w64 b) i=ww; rfl)),(zbt (zbt (zbu (zbs (zbs q12 e13) e14) q15 (QdE (.inl (by simp)) Qfi)) p16 (.inl (by simp))) p17 (.inl (by simp))),(zbk p17 x16 b62)⟩ oo
     ·skip
      have heq133:i=64:=by have:=of_decide_eq_false c75; omega
      have r62_12_87:V5.heap[g62]? = some (.cells (ints .u32 ([wv (rnds KK (w64 b) s 64).a,wv (rnds KK (w64 b) s 64).b,wv (rnds KK (w64 b) s 64).c,wv (rnds KK (w64 b) s 64).d,wv (rnds KK (w64 b) s 64).e,wv (rnds KK (w64 b) s 64).f,wv (rnds KK (w64 b) s 64).g,wv (rnds KK (w64 b) s 64).h])) 179):=Qa9 q62_5 (by rw [heq133])
      refine wp_exit <| hK63 _ _ <| sgB kj <| wp_block ?_
      have n15_4:g62≠g7:=(QaI r7_9 l62)
      obtain ⟨r,hr9⟩:∃ z,z=rnds KK (w64 b) s 64:=⟨_,rfl⟩
      have r62_12_89:V5.heap[g62]? = some (.cells (ints .u32 (r.l.map wv)) 179):=Qa9 r62_12_87 (by rw [hr9]; rfl)
      refine Qa3 (fun (s7:Nat)=>[(2,pp g2 0),(4,pp g7 0),(6,.slice am17 ((KK.map wv).length) cm17),(7,.slice am20 ((padT t).length) cm20),(8,.int .i64 ((64*m:Nat):Int)),(9,.slice a9 ((((w64 b).map wv).take 64).length) c9),(15,pp g62 0),(20,.int .i64 (s7:Int))]) (fun (s7:Nat) W=>(s7≤8)∧(W.heap[g7]? = some (.cells (ints .u32 ((mixW s.l r.l s7).map wv)) 179))∧(Qai [g7] V5 W)∧(Ext w W)) (fun (s7:Nat)=>8-s7) 0 ⟨kj,kj,kj,kj,kj,kj,kj,kj,trivial⟩ ⟨(zag _),(Qa9 (zbr q12 (rpn p11 r7_9 e10 l62) (Qaw (Qad r7_9 l62) QaF)) (show _=(mixW s.l r.l 0).map wv from rfl)),(zbq [g7] V5),xx5⟩ fun s7 X7 V7 hI7=>?_
      obtain ⟨i,hs7⟩:∃ z,z=s7:=⟨_,rfl⟩
      subst hs7
      obtain ⟨hi,q7_7,kk7,xx7⟩:=hI7
      replace hi:i≤8:=hi
      replace q7_7:V7.heap[g7]? = some (.cells (ints .u32 ((mixW s.l r.l i).map wv)) 179):=q7_7
      replace kk7:Qai [g7] V5 V7:=kk7
      replace xx7:Ext w V7:=xx7
      have q13:=kk7
      refine wp_seq_k fun K90 hK90=>sgB kj <| Qay (t:=decide ((i:Int)<8)) kj (fun c92=>?_) (fun c92=>?_)
      ·skip
       have hlt222:i<8:=by have:=of_decide_eq_true c92; omega
       refine wp_skip <| hK90 _ _ <| wp_seq_k fun K93 hK93=>wp_block <| QaT 8 [⟨none,[(20,none)]⟩,⟨none,[(20,none)]⟩,⟨none,[(4,none),(226,some 1)]⟩,⟨none,[(227,some 2)]⟩,⟨none,[(20,none)]⟩,⟨none,[(15,none),(229,some 4)]⟩,⟨none,[(230,some 5)]⟩,⟨none,[(228,some 3),(231,some 6)]⟩] kj kj fun F hF=>Qa2 (Qam _) (.int .i64 (i:Int)) kj kj (fun _=>kj) <| Qa2 (Qam _) (.int .i64 (i:Int)) kj kj (fun _=>kj) <| Qa2 (Qam _) (pp g7 i) kj kj (fun W=>(Qa7 _ _ _ .i64 (i) _ 8 139 rfl kj kj kj kj oo)) <| QaN (Qam _) (.int .u32 (wv (wget s.l i))) kj kj (fun W hR=>(Qab 139 _ g7 i 179 _ (.int .u32 (wv (wget s.l i))) _ (Qaa (Qaa q7_7 (Qan _)) hR) rfl kj ((QaD _ _ _ (zbb oo (Qgo s r hi).symm)).trans (congrArg (fun z=>some (zad .u32 z)) (Qkg s r hlt222))) kj)) <| Qa2 (Qam _) (.int .i64 (i:Int)) kj kj (fun _=>kj) ?_
       refine Qa2 (Qam _) (pp g62 i) kj kj (fun W=>(Qa7 _ _ _ .i64 (i) _ 8 139 rfl kj kj kj kj oo)) ?_
       have r62_13:=(zbr q13 r62_12_89 (Qaw n15_4 QaF))
       refine QaN (Qam _) (.int .u32 (wv (wget r.l i))) kj kj (fun W hR=>(Qab 139 _ g62 i 179 _ (.int .u32 (wv (wget r.l i))) _ (Qaa (Qaa r62_13 (Qan _)) hR) rfl kj ((QaD _ _ _ (zbb oo (show (r.l.map wv).length=8 from rfl).symm)).trans (congrArg (fun z=>some (zad .u32 z)) (QbJ _ _))) kj)) <| Qa2 (Qam _) (.int .u32 (wv (((wget s.l i))+((wget r.l i))))) kj kj (fun W=>(Qac kj (congrArg (zad .u32) (Qcm _ _)))) <| Qc3 (hF _ fun W14 e14=>?_)
       simp only [za7,za2,zaC,zaD,zaE,zaF,finE,up]
       clear hF
       have x14:=zbl xx7 e14
       refine sv (pp g7 i) 233 (Qa7 _ _ _ .i64 (i) _ 8 139 rfl kj kj kj kj oo) ?_
       have r7_14:=(Qaa q7_7 e14)
       refine Qag g7 _ (ints .u32 (((mixW s.l r.l i).map wv).set i (wv (((wget s.l i))+((wget r.l i)))))) 179 r7_14 rfl kj (Qa0 139 _ _ g7 i 179 _ _ r7_14 rfl kj kj kj (zbb oo (Qgo s r hi).symm)) fun W15 p15 r7_15=>Qas <| hK93 _ _ <| Qaj <| sg 1 kj <| sv (.int .i64 ((i+1:Nat):Int)) 224 (Qac (u:=.int .i64 (zaa.wrap ((i:Int)+1))) kj (congrArg (zad .i64) (i64n _ _ oo oo))) <| sg 1 kj <| Qas ?_
       with_reducible repeat first | refine goX1 ?_ | refine goX2 ?_ | refine goX3 ?_
       exact Qa1 (i+1) ⟨kj,kj,kj,kj,kj,kj,kj,kj,trivial⟩ ⟨oo,(Qa9 r7_15 (Qkf s r hlt222)),(zbt (zbs q13 e14) p15 (.inl (by simp))),(zbk p15 x14 b7)⟩ (by show 8-(i+1)<8-i; omega)
      ·skip
       have heq222:i=8:=by have:=of_decide_eq_false c92; omega
       refine wp_exit <| hK27 _ _ <| Qaj <| sg 1 kj <| sv (.int .i64 (((64*m)+64:Nat):Int)) 44 (Qac (u:=.int .i64 (zaa.wrap (((64*m:Nat):Int)+64))) kj (congrArg (zad .i64) (i64n _ _ oo oo))) <| sg 1 kj <| Qas ?_
       with_reducible repeat first | refine goX1 ?_ | refine goX2 ?_ | refine goX3 ?_
       exact Qa1 (m+1) ⟨kj,kj,kj,kj,kj,trivial⟩ ⟨oo,(Qa9 q7_7 (by rw [heq222]; subst hr9; subst hs; subst hb; rfl)),(zbu (zbu (zbt (zbs (Qai.low (zbs q7 e8) l9 (qT (Qai.size q7) (qR _))) e10) p11 (.inr (qT (Qai.size q7) (qT (qT (qT (qR _) e8.size) l9.size) l62)))) q12 (QdE (.inr (qT (Qai.size q7) (qT (qT (qT (qR _) e8.size) l9.size) l62))) Qfi)) q13 (QdE (.inl (by simp)) Qfi)),xx7⟩ oo
  ·skip
   have heq42:m=q:=by have:=of_decide_eq_false c25; omega
   have r7_7_94:V2.heap[g7]? = some (.cells (ints .u32 ([wv (absorb S0 (padT t) q).a,wv (absorb S0 (padT t) q).b,wv (absorb S0 (padT t) q).c,wv (absorb S0 (padT t) q).d,wv (absorb S0 (padT t) q).e,wv (absorb S0 (padT t) q).f,wv (absorb S0 (padT t) q).g,wv (absorb S0 (padT t) q).h])) 179):=Qa9 q7_2 (by rw [heq42])
   refine wp_exit <| hK21 _ _ <| sgC fun K95 hK95=>Qah (ints .u8 (zai 32 0)) 23 21 rfl kj kj fun g96 W8 l96 e8 r96_8=>sgN hK95 <| wp_seq_k fun K97 hK97=>sgB kj <| wp_block ?_
   obtain ⟨sQ,hsQ⟩:∃ z,z=absorb S0 (padT t) q:=⟨_,rfl⟩
   have r7_8:=(Qaa r7_7_94 e8)
   have r7_8_99:W8.heap[g7]? = some (.cells (ints .u32 (sQ.l.map wv)) 179):=Qa9 r7_8 (by rw [hsQ]; rfl)
   refine Qa3 (fun (s8:Nat)=>[(2,pp g2 0),(4,pp g7 0),(21,pp g96 0),(22,.int .i64 (s8:Int))]) (fun (s8:Nat) W=>(s8≤32)∧(W.heap[g96]? = some (.cells (ints .u8 (fill sQ.out 32 s8)) 23))∧(Qai [g96] W8 W)∧(Ext w W)) (fun (s8:Nat)=>32-s8) 0 ⟨kj,kj,kj,kj,trivial⟩ ⟨(zag _),(Qa9 r96_8 (QcE sQ.out 32).symm),(zbq [g96] W8),(zbl xx2 e8)⟩ fun s8 X8 V8 hI8=>?_
   obtain ⟨i,hs8⟩:∃ z,z=s8:=⟨_,rfl⟩
   subst hs8
   obtain ⟨hi,q96_8,kk8,xx8⟩:=hI8
   replace hi:i≤32:=hi
   replace q96_8:V8.heap[g96]? = some (.cells (ints .u8 (fill sQ.out 32 i)) 23):=q96_8
   replace kk8:Qai [g96] W8 V8:=kk8
   replace xx8:Ext w V8:=xx8
   have q9:=kk8
   refine wp_seq_k fun K100 hK100=>sgB kj <| Qay (t:=decide ((i:Int)<32)) kj (fun c102=>?_) (fun c102=>?_)
   ·skip
    have hlt235:i<32:=by have:=of_decide_eq_true c102; omega
    refine wp_skip <| hK100 _ _ <| wp_seq_k fun K103 hK103=>wp_block <| Qaj <| sg 2 kj <| sv (.int .i64 ((i/4:Nat):Int)) 240 (Qac (u:=.int .i64 (zaa.wrap (zba ((i:Int)) (4)))) kj (congrArg (zad .i64) (Qcv _ 4 oo))) <| sv (pp g7 (i/4)) 241 (Qa7 _ _ _ .i64 (i/4) _ 8 139 rfl kj kj kj kj oo) ?_
    have r7_9:=(zbr q9 r7_8_99 (Qaw (Qad r7_7_94 l96) QaF))
    refine sv (.int .u32 (wv (wget sQ.l (i/4)))) 242 (Qab 139 _ g7 (i/4) 179 _ (.int .u32 (wv (wget sQ.l (i/4)))) _ r7_9 rfl kj ((QaD _ _ _ (zbb oo (show (sQ.l.map wv).length=8 from rfl).symm)).trans (congrArg (fun z=>some (zad .u32 z)) (QbJ _ _))) kj) <| sg 1 kj <| sv (.int .i64 ((i%4:Nat):Int)) 244 (Qac (u:=.int .i64 (zbe ((i:Int)) (4))) kj (congrArg (zad .i64) (QbK _ 4))) <| sv (.int .i64 ((8*(i%4):Nat):Int)) 245 (Qac (u:=.int .i64 (zaa.wrap (8*((i%4:Nat):Int)))) kj (congrArg (zad .i64) (i64n _ _ oo oo))) <| sv (.int .i64 (((24-8*(i%4):Nat):Int))) 246 (Qac (u:=.int .i64 (zaa.wrap (24-((8*(i%4):Nat):Int)))) kj (congrArg (zad .i64) (i64n _ _ oo oo))) <| sv (.int .u64 (((24-8*(i%4):Nat):Int))) 247 (Qac (u:=.int .u64 (zaZ.wrap (((24-8*(i%4):Nat):Int)))) kj (congrArg (zad .u64) (by rw [show ∀ z:Int,zaZ.wrap z=z%2^64 from fun _=>rfl]; omega))) ?_
    refine sv (.int .u32 (wv (wget sQ.l (i/4)>>>(24-8*(i%4))))) 248 (QaO .shr _ _ _ _ .u32 .u64 _ _ _ rfl kj kj (Qcd _ _ _ _ _ _ oo (Qf2 _ _ (24-8*(i%4)) rfl oo))) <| sv (.int .u8 (nth sQ.out i)) 249 (Qac (u:=.int .u8 (zae.wrap (wv (wget sQ.l (i/4)>>>(24-8*(i%4)))))) kj (congrArg (zad .u8) (by have h9:=out_byte sQ (a:=i/4) (b:=i%4) oo oo; rwa [show 4*(i/4)+i%4=i by omega] at h9))) ?_
    refine sv (pp g96 i) 250 (Qa7 _ _ _ .i64 (i) _ 32 5 rfl kj kj kj kj oo) <| Qag g96 _ (ints .u8 ((fill sQ.out 32 i).set i (nth sQ.out i))) 23 q96_8 rfl kj (Qa0 5 _ _ g96 i 23 _ _ q96_8 rfl kj kj kj (zbb oo (Qb4 (show sQ.out.length=32 from rfl) hi).symm)) fun W10 p10 r96_10=>?_
    have x10:=zbk p10 xx8 (qT xx2.size l96)
    refine Qas <| hK103 _ _ <| Qaj <| sg 1 kj <| sv (.int .i64 ((i+1:Nat):Int)) 237 (Qac (u:=.int .i64 (zaa.wrap ((i:Int)+1))) kj (congrArg (zad .i64) (i64n _ _ oo oo))) <| sg 1 kj <| Qas ?_
    with_reducible repeat first | refine goX1 ?_ | refine goX2 ?_ | refine goX3 ?_
    exact Qa1 (i+1) ⟨kj,kj,kj,kj,trivial⟩ ⟨oo,(Qa9 r96_10 (Qcl (show sQ.out.length=32 from rfl) hlt235)),(zbt q9 p10 (.inl (by simp))),x10⟩ (by show 32-(i+1)<32-i; omega)
   ·skip
    have heq235:i=32:=by have:=of_decide_eq_false c102; omega
    have r96_9_104:V8.heap[g96]? = some (.cells (ints .u8 (sQ.out)) 23):=Qa9 q96_8 (by rw [heq235]; exact QcF (show sQ.out.length=32 from rfl))
    refine wp_exit <| hK97 _ _ <| sgC fun K105 hK105=>sv (.agg (ints .u8 (sQ.out))) 251 (Qae 23 _ g96 23 _ _ r96_9_104 rfl kj kj (isz (n:=32) kj (izT (show sQ.out.length=32 from rfl)))) ?_
    have r2_2:=(Qaa r2_1 e2)
    have r2_7:=(zbr q7 (Qaa (Qaa (zbr q4 (Qaa r2_2 e3) (Qaw (Qad r2_2 l7) QaF)) e5) e6) (Qaw (Qad r2_2 l7) QaF))
    have r2_9:=(zbr q9 (Qaa r2_7 e8) (Qaw (Qad r2_7 l96) QaF))
    refine Qag g2 _ (ints .u8 (sQ.out)) 23 r2_9 rfl kj (Qaf 23 _ _ g2 23 _ _ r2_9 rfl kj kj (isz (n:=32) kj (izT (show sQ.out.length=32 from rfl))) (eqsz (n:=32) (izT (qZ (n:=32))) (izT (show sQ.out.length=32 from rfl))) (Qat _ _)) fun W10 p10 r2_10=>?_
    have x10:=zbk p10 xx8 (qT (zbh w).size l2)
    refine sgN hK105 <| wp_ret ?_
    with_reducible repeat first | refine goR1 ?_ | refine goR2 ?_
    exact (show bodyPost _ _ _ .ret _ _ from ret1 (.agg (ints .u8 (sQ.out))) rfl (QaJ g2 23 _ r2_10 kj kj (isz (n:=32) kj (izT (show sQ.out.length=32 from rfl)))) ⟨by rw [show dig t=sQ.out by unfold dig; rw [hq,Nat.mul_div_cancel_left _ dd,hsQ]],x10⟩)
end Sha
end
end Go.Proofs.YtbonglpnkoegoaaGreatDoor
