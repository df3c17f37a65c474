/- Texts of this claim, joined (S3). -/
import Derived.Test.YtlcjklafldaemaaGreatDoorZS2
import Derived.Laws.BitsAll
import Derived.Laws.IdiomStrings
import Derived.Test.YtlcjklafldaemaaGreatDoorRows
import Derived.Laws.Externs
import Derived.Shelf.Spec.BitsCarry
import Derived.Shelf.Bits.Mul64
import Derived.Laws.Bits64b
import Derived.Laws.BitsAllLaws
import Derived.LoopN
import Derived.WalkKit

set_option linter.unusedVariables false
set_option linter.unusedSimpArgs false
set_option maxHeartbeats 4000000
open List renaming mem_cons → zaa, not_mem_nil → zab, map_cons → zac, map_nil → zad, flatten_cons → zae, flatten_nil → zaf, append_nil → zag, length_append → zah, map → zai, getD_eq_getElem?_getD → zak, getElem?_map → zal, replicate → zaq, size_toArray → zau, range → zav, range_succ → zaw, countP_append → zax, countP_singleton → zay, getElem?_eq_some_iff → zaz, mem_iff_getElem? → za0, all_eq_true → za1, mem_range → za2, ext_getElem → zaJ, getElem_set → zaK, getElem_map → zaL, getElem_range → zaM, take_succ_cons → zaU, take_zero → zaV, cons_append → zaW, nil_append → zaX, getD_cons_zero → zaY, getD_cons_succ → zaZ, drop_succ_cons → zba, drop_zero → zbb, setIfInBounds_toArray → zbc, set_cons_zero → zbd, set_cons_succ → zbe, map_congr_left → zbo, mem_cons_self → zbw, mem_cons_of_mem → zby, take_add_one → zbB, getElem?_range → zbC, length_cons → zbI, length_nil → zbJ, push_toArray → zbM, append_toArray → zbN, take_of_length_le → zbO, length_take → zbP, take_prefix → zbQ
open Array renaming getElem?_eq_getElem → zaj, getElem?_modify → zas, getD_eq_getD_getElem? → za3, replicate → za4, getElem?_setIfInBounds_ne → zb5, replicate_succ → zbK, replicate_zero → zbL
open Go.Sem renaming run_bind → zam, run_pure → zao
open Go.Result renaming andThen_ok → zan
open Nat renaming zero_add → zap, lt_or_ge → zat, and_two_pow_sub_one_eq_mod → za7, reduceSub → zaB, two_pow_add_eq_or_of_lt → zaG, mul_comm → zaQ, add_comm → zaR, reduceAdd → zaS, mul_mod → zbq, pow_mod → zbr, gcd → zbs, pow_mul → zbt, pow_add → zbu, le_of_dvd → zbv, gcd_dvd_left → zbx, gcd_dvd_right → zbz, mod_eq_of_lt → zb0, dvd_mul_left → zb1, eq_zero_or_pos → zb2, pow_succ → zb3
open Go.World renaming setCell → zar, size_alloc → zb6
open Go.IntKind renaming i64 → za5, u64 → za8, wrap_u64 → za9, u8 → zb7, wrap_u8 → zb8
open Int renaming eq_ofNat_of_zero_le → za6, mul_nonneg → zaA, emod_eq_of_lt → zaC, emod_nonneg → zaD, emod_lt_of_pos → zaE, add_emod_right → zaH, toNat_of_nonneg → zaI, mul_le_mul_of_nonneg_right → zaN, pow_succ → zaO, mul_comm → zaP, tmod_eq_emod_of_nonneg → zaT, pow_pos → zbf, add_mul_ediv_right → zbg, ne_of_gt → zbh, ediv_ediv_of_nonneg → zbi, le_of_lt → zbj, pow_add → zbk, add_mul → zbl, mul_assoc → zbm, emod_def → zbn, ediv_nonneg → zbp, tdiv_eq_ediv_of_nonneg → zb4, lt_of_le_of_lt → zb9, ediv_le_self → zbA, pow_zero → zbF, mul_emod → zbG, emod_emod → zbH
open Go.Value renaming oneCell' → zaF
open Option renaming map_some → zbD, toList_some → zbE
namespace Go.Proofs.YtlcjklafldaemaaGreatDoor
open Rely.Ext renaming refl → zbR, trans → zbS
section
namespace Ci
open Go Go.RowKit
open Rely Auto Own Sha Sha
open Cha
open Ae hiding run_storeQ
open Ll hiding run_storeQ
open Wk
set_option maxRecDepth 100000 in
theorem Qro (g : Nat) {Tg:TypeId} {tl:Array Value} (key chain hash:List Int) (num:Nat) (text fs:List Int) (es:Qc0 key (nonV num) hash text=fs) (v:Value) (B:Nat) (th tq tsc tsq:TypeId) (w:World) (hkl:key.length=32) (hcl:chain.length=32) (hhl:hash.length=32) (hhb:Qaf hash) (hh:w.heap[2]? = some (.cells (ints .u32 qH) th)) (hq:w.heap[3]? = some (.cells (ints .i64 qQ) tq)) (hsc:w.heap[1]? = some (.cells (ints .u64 QbI) tsc)) (hsq:w.heap[0]? = some (.cells (ints .u64 Qbf) tsq)) (hnh:2≠g) (hnq:3≠g) (hnc:1≠g) (hns:0≠g) (hg:w.heap[g]? = some (.cells (cat [ints .u8 (key),#[.bool true],#[.int .i64 ((num:Nat):Int)],ints .u8 (chain),ints .u8 (hash),tl]) Tg)) (hn:num<4294967295) (hfb:Qaf fs) (lfs:fs.length=text.length+16) (htl:text.length≤1048576) (ht:RdK .u8 B text v w) :
    Calls Tryz.prog 48 #[.pointer (some ⟨g,0,none⟩),v] w (fun e W=>∃ u,e=.returned (.tuple #[u,.nilIface])∧OwnN .u8 5 w.heap.size (fs) u W∧ExtB g w W∧W.heap[g]? = some (.cells (cat [ints .u8 (key),#[.bool true],#[.int .i64 ((num+1:Nat):Int)],ints .u8 (chain),ints .u8 (dig (hash++fs)),tl]) Tg)):=by
  obtain ⟨a_t,c_t,rfl,-⟩:=id (ht)
  refine enter 31 [(0,.pointer (some ⟨g,0,none⟩)),(1,.slice a_t text.length c_t)] Tryz.func48 rfl rfl kj rfl <| sgB kj <| wp_seq_k fun K7 hK7=>sgB kj <| cond_false kj <| wp_skip <| hK7 _ _ <| wp_seq_k fun K9 hK9=>QdY kj fun W1 e1=>?_
  have x1:=Ext.tr (zbR w) e1
  refine Qbl 0 (.pointer (some ⟨g,0,none⟩)) 12 rfl rfl kj kj (fun _ _ _ h=>h) (fun _=>kj) <| Qbl 1 (.pointer (some ⟨g,0,none⟩)) 13 rfl rfl kj kj (fun _ _ _ h=>h) (fun _=>kj) <| Qbl 2 (.pointer (some ⟨g,0,none⟩)) 14 rfl rfl kj kj (fun _ _ _ h=>h) (fun _=>kj) <| Qbl 3 (.pointer (some ⟨g,0,none⟩)) 15 rfl rfl kj kj (fun _ _ _ h=>h) (fun _=>kj) <| Qbl 4 (.pointer (some ⟨g,0,none⟩)) 16 rfl rfl kj kj (fun _ _ _ h=>h) (fun _=>kj) <| Qbl 5 (.pointer (some ⟨g,66,none⟩)) 17 rfl rfl kj kj (fun _ _ _ h=>h) (fun _=>kj) <| Qbl 6 (.slice (some ⟨g,66,none⟩) 32 32) 18 rfl rfl kj kj (fun _ _ _ h=>h) (fun _=>kj) <| Qbl 7 (.slice a_t text.length c_t) 19 rfl rfl kj kj (fun _ _ _ h=>h) (fun _=>kj) ?_
  have r1_1:=(Qaa hg e1)
  have xb1:=ExtB.ext (ExtB.refl g w) x1
  refine QfT 8 rfl kj (fun v W'=>∃ u,v=.tuple #[u,.nilIface]∧OwnN .u8 5 W1.heap.size (fs) u W'∧ExtB g W1 W'∧W'.heap[g]? = some (.cells (cat [ints .u8 (key),#[.bool true],#[.int .i64 ((num+1:Nat):Int)],ints .u8 (chain),ints .u8 (hash),tl]) Tg)) 75 #[.pointer (some ⟨g,0,none⟩),.func (.func 76) #[] #[],.slice (some ⟨g,66,none⟩) 32 32,.slice a_t text.length c_t] 20 rfl kj kj ((QpL g key chain hash num hash text fs es _ _ _ _ th tq _ hkl hcl hhl (Qaa hh e1) (Qaa hq e1) r1_1 hn hhb (by rw [hhl]; decide) htl (QdZ 66 hhl r1_1 (fun i hi=>QdF [ints .u8 (key),#[.bool true],#[.int .i64 ((num:Nat):Int)],ints .u8 (chain)] [tl] hash 66 i (66+i) (by rw [Qab,Qab,Qab,Qab]; simp only [qS,cat,(izT hcl),(izT hkl)]; rfl) rfl (by rw [hhl]; exact hi)) (Qa7 r1_1) (qR _) (by decide)) (RdK.ext ht x1)).mono (by rintro e w' ⟨u,rfl,h1,h2,h3⟩; exact ⟨_,rfl,u,rfl,h1,h2,h3⟩)) fun v W2 h10=>?_
  obtain ⟨u10_,rfl,hu10_,q2,r1_2⟩:=h10
  have x2:=ExtB.trans xb1 q2
  obtain ⟨a10_,c10_,rfl,-⟩:=id (OwnN.rd hu10_)
  refine Qbl 9 (.tuple #[.slice a10_ ((fs).length) c10_,.nilIface]) 11 rfl rfl kj kj (fun _ _ _ h=>h) (fun _=>kj) <| Qbl 10 (.slice a10_ ((fs).length) c10_) 21 rfl rfl kj kj (fun _ _ _ h=>h) (fun _=>kj) <| Qbl 11 (.nilIface) 22 rfl rfl kj kj (fun _ _ _ h=>h) (fun _=>kj) <| Qbl 12 (.slice a10_ ((fs).length) c10_) 6 rfl rfl kj kj (fun _ _ _ h=>h) (fun _=>kj) <| Qbl 13 (.nilIface) 7 rfl rfl kj kj (fun _ _ _ h=>h) (fun _=>kj) <| QjA kj <| hK9 _ _ <| wp_seq_k fun K11 hK11=>sgB kj <| cond_false kj ?_
  refine wp_skip <| hK11 _ _ <| sgC fun K13 hK13=>sg 2 kj <| QbM (#[.slice a10_ ((fs).length) c10_]) 24 1 28 rfl kj kj fun g14 W3 l14 e3 r14_3=>?_
  have b14:=qT x2.2.2.2.1 l14
  have f15_3:=(hu10_.ext e3)
  have hps16:∀ p∈([(.slice a10_ ((fs).length) c10_,fs)]:List (Value×List Int)),RdK .u8 W3.heap.size p.2 p.1 W3∧Qaf p.2:=by
    intro p hp
    simp only [zaa,zab,or_false] at hp
    rcases hp with rfl
    · exact ⟨RdK.here (OwnN.rd f15_3),hfb⟩
  have hmx16:=Qh7 g (key) (chain) (hash) true ((num+1:Nat):Int) g14 1 _ ([(.slice a10_ ((fs).length) c10_,fs)]:List (Value×List Int)) rfl (by decide) tsc tsq W3 hkl hcl hhl hhb (Qaa (ExtB.row q2 (Qaa hsc e1) hnc) e3) (Qaa (ExtB.row q2 (Qaa hsq e1) hns) e3) (Qaa r1_2 e3) r14_3 hps16 (by simp only [zac,zad,zae,zaf,zag,zah,lfs]; omega)
  rw [show ((zai Prod.snd ([(.slice a10_ ((fs).length) c10_,fs)]:List (Value×List Int))).flatten)=fs by simp only [zac,zad,zae,zaf,zag]] at hmx16
  refine Qaw (fun v W'=>v=.tuple #[]∧ExtB g W3 W'∧W'.heap[g]? = some (.cells (cat [ints .u8 (key),#[.bool true],#[.int .i64 ((num+1:Nat):Int)],ints .u8 (chain),ints .u8 (dig (hash++fs)),tl]) Tg)) 28 #[.pointer (some ⟨g,0,none⟩),.slice (some ⟨g14,0,none⟩) 1 1] 29 rfl kj kj (hmx16.mono fun e w' h=>⟨_,h.1,rfl,h.2⟩) fun v W4 h16=>?_
  obtain ⟨rfl,q4,r1_4⟩:=h16
  refine sgN hK13 <| sgB kj <| wp_ret ?_
  exact (show bodyPost _ _ _ .ret _ _ from ret2 (.slice a10_ ((fs).length) c10_) (.nilIface) rfl (Qa4 kj) (Qa4 kj) ⟨_,rfl,OwnN.base xb1.2.2.2.1 (QcY f15_3 q4 (Qei hu10_ (Qa7 r1_1))),(ExtB.trans (ExtB.ext x2 e3) q4),r1_4⟩)
set_option maxRecDepth 100000 in
theorem QqX (g : Nat) {Tg:TypeId} {tl:Array Value} (key chain hash:List Int) (num:Nat) (text fs:List Int) (es:Qc0 key (nonV num) hash text=fs) (v:Value) (th tq tsc tsq:TypeId) (w:World) (hkl:key.length=32) (hcl:chain.length=32) (hhl:hash.length=32) (hhb:Qaf hash) (hh:w.heap[2]? = some (.cells (ints .u32 qH) th)) (hq:w.heap[3]? = some (.cells (ints .i64 qQ) tq)) (hsc:w.heap[1]? = some (.cells (ints .u64 QbI) tsc)) (hsq:w.heap[0]? = some (.cells (ints .u64 Qbf) tsq)) (hnh:2≠g) (hnq:3≠g) (hnc:1≠g) (hns:0≠g) (hg:w.heap[g]? = some (.cells (cat [ints .u8 (key),#[.bool true],#[.int .i64 ((num:Nat):Int)],ints .u8 (chain),ints .u8 (hash),tl]) Tg)) (hn:num<4294967295) (hfb:Qaf fs) (lfs:fs.length=text.length+16) (htb:Qaf text) (htl:text.length≤1048576) (hst:∀ W,ExtB g w W→RdK .u8 W.heap.size fs v W) :
    Calls Tryz.prog 53 #[.pointer (some ⟨g,0,none⟩),v] w (fun e W=>∃ u,e=.returned (.tuple #[u,.nilIface])∧OwnN .u8 5 w.heap.size (text) u W∧ExtB g w W∧W.heap[g]? = some (.cells (cat [ints .u8 (key),#[.bool true],#[.int .i64 ((num+1:Nat):Int)],ints .u8 (chain),ints .u8 (dig (hash++fs)),tl]) Tg)):=by
  obtain ⟨a_t,c_t,rfl,-⟩:=id (hst _ (ExtB.refl g w))
  refine enter 31 [(0,.pointer (some ⟨g,0,none⟩)),(1,.slice a_t fs.length c_t)] Tryz.func53 rfl rfl kj rfl <| sgB kj <| wp_seq_k fun K7 hK7=>sgB kj <| cond_false kj <| wp_skip <| hK7 _ _ <| wp_seq_k fun K9 hK9=>QdY kj fun W1 e1=>?_
  have x1:=Ext.tr (zbR w) e1
  refine Qbl 0 (.pointer (some ⟨g,0,none⟩)) 12 rfl rfl kj kj (fun _ _ _ h=>h) (fun _=>kj) <| Qbl 1 (.pointer (some ⟨g,0,none⟩)) 13 rfl rfl kj kj (fun _ _ _ h=>h) (fun _=>kj) <| Qbl 2 (.pointer (some ⟨g,0,none⟩)) 14 rfl rfl kj kj (fun _ _ _ h=>h) (fun _=>kj) <| Qbl 3 (.pointer (some ⟨g,0,none⟩)) 15 rfl rfl kj kj (fun _ _ _ h=>h) (fun _=>kj) <| Qbl 4 (.pointer (some ⟨g,0,none⟩)) 16 rfl rfl kj kj (fun _ _ _ h=>h) (fun _=>kj) <| Qbl 5 (.pointer (some ⟨g,66,none⟩)) 17 rfl rfl kj kj (fun _ _ _ h=>h) (fun _=>kj) <| Qbl 6 (.slice (some ⟨g,66,none⟩) 32 32) 18 rfl rfl kj kj (fun _ _ _ h=>h) (fun _=>kj) <| Qbl 7 (.slice a_t fs.length c_t) 19 rfl rfl kj kj (fun _ _ _ h=>h) (fun _=>kj) ?_
  have r1_1:=(Qaa hg e1)
  have xb1:=ExtB.ext (ExtB.refl g w) x1
  refine QfT 8 rfl kj (fun v W'=>∃ u,v=.tuple #[u,.nilIface]∧OwnN .u8 5 W1.heap.size (text) u W'∧ExtB g W1 W'∧W'.heap[g]? = some (.cells (cat [ints .u8 (key),#[.bool true],#[.int .i64 ((num+1:Nat):Int)],ints .u8 (chain),ints .u8 (hash),tl]) Tg)) 75 #[.pointer (some ⟨g,0,none⟩),.func (.func 81) #[] #[],.slice (some ⟨g,66,none⟩) 32 32,.slice a_t fs.length c_t] 20 rfl kj kj ((QpM g key chain hash num hash text fs es _ _ _ _ th tq _ hkl hcl hhl (Qaa hh e1) (Qaa hq e1) r1_1 hn hhb htb (by rw [hhl]; decide) htl (QdZ 66 hhl r1_1 (fun i hi=>QdF [ints .u8 (key),#[.bool true],#[.int .i64 ((num:Nat):Int)],ints .u8 (chain)] [tl] hash 66 i (66+i) (by rw [Qab,Qab,Qab,Qab]; simp only [qS,cat,(izT hcl),(izT hkl)]; rfl) rfl (by rw [hhl]; exact hi)) (Qa7 r1_1) (qR _) (by decide)) (hst _ (ExtB.ext (ExtB.refl g w) x1))).mono (by rintro e w' ⟨u,rfl,h1,h2,h3⟩; exact ⟨_,rfl,u,rfl,h1,h2,h3⟩)) fun v W2 h10=>?_
  obtain ⟨u10_,rfl,hu10_,q2,r1_2⟩:=h10
  have x2:=ExtB.trans xb1 q2
  obtain ⟨a10_,c10_,rfl,-⟩:=id (OwnN.rd hu10_)
  refine Qbl 9 (.tuple #[.slice a10_ ((text).length) c10_,.nilIface]) 11 rfl rfl kj kj (fun _ _ _ h=>h) (fun _=>kj) <| Qbl 10 (.slice a10_ ((text).length) c10_) 21 rfl rfl kj kj (fun _ _ _ h=>h) (fun _=>kj) <| Qbl 11 (.nilIface) 22 rfl rfl kj kj (fun _ _ _ h=>h) (fun _=>kj) <| Qbl 12 (.slice a10_ ((text).length) c10_) 6 rfl rfl kj kj (fun _ _ _ h=>h) (fun _=>kj) <| Qbl 13 (.nilIface) 7 rfl rfl kj kj (fun _ _ _ h=>h) (fun _=>kj) <| QjA kj <| hK9 _ _ <| wp_seq_k fun K11 hK11=>sgB kj <| cond_false kj ?_
  refine wp_skip <| hK11 _ _ <| sgC fun K13 hK13=>sg 2 kj <| QbM (#[.slice a_t fs.length c_t]) 24 1 28 rfl kj kj fun g14 W3 l14 e3 r14_3=>?_
  have x3:=ExtB.ext x2 e3
  have b14:=qT x2.2.2.2.1 l14
  have hps15:∀ p∈([(.slice a_t fs.length c_t,fs)]:List (Value×List Int)),RdK .u8 W3.heap.size p.2 p.1 W3∧Qaf p.2:=by
    intro p hp
    simp only [zaa,zab,or_false] at hp
    rcases hp with rfl
    · exact ⟨RdK.here (hst _ x3),hfb⟩
  have hmx15:=Qh7 g (key) (chain) (hash) true ((num+1:Nat):Int) g14 1 _ ([(.slice a_t fs.length c_t,fs)]:List (Value×List Int)) rfl (by decide) tsc tsq W3 hkl hcl hhl hhb (Qaa (ExtB.row q2 (Qaa hsc e1) hnc) e3) (Qaa (ExtB.row q2 (Qaa hsq e1) hns) e3) (Qaa r1_2 e3) r14_3 hps15 (by simp only [zac,zad,zae,zaf,zag,zah,lfs]; omega)
  rw [show ((zai Prod.snd ([(.slice a_t fs.length c_t,fs)]:List (Value×List Int))).flatten)=fs by simp only [zac,zad,zae,zaf,zag]] at hmx15
  refine Qaw (fun v W'=>v=.tuple #[]∧ExtB g W3 W'∧W'.heap[g]? = some (.cells (cat [ints .u8 (key),#[.bool true],#[.int .i64 ((num+1:Nat):Int)],ints .u8 (chain),ints .u8 (dig (hash++fs)),tl]) Tg)) 28 #[.pointer (some ⟨g,0,none⟩),.slice (some ⟨g14,0,none⟩) 1 1] 29 rfl kj kj (hmx15.mono fun e w' h=>⟨_,h.1,rfl,h.2⟩) fun v W4 h15=>?_
  obtain ⟨rfl,q4,r1_4⟩:=h15
  refine sgN hK13 <| sgB kj <| wp_ret ?_
  exact (show bodyPost _ _ _ .ret _ _ from ret2 (.slice a10_ ((text).length) c10_) (.nilIface) rfl (Qa4 kj) (Qa4 kj) ⟨_,rfl,OwnN.base xb1.2.2.2.1 (QcY (hu10_.ext e3) q4 (Qei hu10_ (Qa7 r1_1))),(ExtB.trans x3 q4),r1_4⟩)
end Ci
end
section
namespace Ci
open Go Go.RowKit
open Rely Auto Own Sha Sha
open Cha
open Ae hiding run_storeQ
open Ll hiding run_storeQ
def strB (s : ByteArray):List Int:=s.data.toList.map fun b=>(b.toNat:Int)
theorem QjD (s : ByteArray):(strB s).length=s.size:=by unfold strB; rw [List.length_map,Array.length_toList]; rfl
theorem QiD (s : ByteArray) (cap i:Nat) (hi:i<(strB s).length):(bytesRow s cap)[i]? = some (.int .u8 (nth (strB s) i)):=by
  have h1:i<s.data.size:=by rw [QjD] at hi; exact hi
  unfold bytesRow
  rw [Array.getElem?_append_left (by simpa using h1),Array.getElem?_map,zaj h1]
  simp only [nth,strB,zak,zal,Array.getElem?_toList]
  rw [zaj h1]; rfl
section
variable {ds : List Deferred} {P : Program} {ops : Array Oper} {Q : Exit → Act → World → Prop} {rest : List Oper} {o : Oper} {N : Nat} {L : Env} {W : World}
theorem QmZ (s : ByteArray) (xs:List Int) (src dst e:TypeId) (x:Operand) (d:Nat) (ho:o.op=.convert src dst x) (hd:o.dst=some d) (hg:Qcd ops o N L=some true) (hx:Rely.look (envN N L) x=.string s) (hxs:strB s=xs)
    (hs:P.underlying src=some .string) (ht:P.underlying dst=some (.slice e)) (he:P.underlying e=some (.int .u8)) (hm:xs.length≤maxLen)
    (k:∀ (g c:Nat) (W':World),Ext W W'→RdK .u8 W'.heap.size xs (.slice (some ⟨g,0,none⟩) xs.length c) W'→WL P ops Q rest (Qau ds N ((d,.slice (some ⟨g,0,none⟩) xs.length c)::L)) W'):WL P ops Q (o::rest) (Qau ds N L) W:=by
  subst hxs
  have hsz:=QjD s
  have hc:=grownCap_ge W s.size 0 e
  have hc2:=grownCap_le_maxLen W s.size 0 e (by omega)
  have hrun:(execOp (Rely.look (envN N L)) o).run P W=.ok (.value (.slice (some ⟨W.heap.size,0,none⟩) (strB s).length (grownCap W s.size 0 e))) (W.drew.alloc (.cells (bytesRow s (grownCap W s.size 0 e)) e ((bytesRow s (grownCap W s.size 0 e)).size,(bytesRow s (grownCap W s.size 0 e)).size+1))):=by
    unfold execOp
    simp only [ho,hx,zam,run_bytes_of_string W src dst e s hs ht he,zan,zao,hsz]
  refine Qcs _ _ d hd hg hrun (k _ _ _ (zbS (Qah W) (QaK _ _)) ?_)
  have r:=heap_alloc_new W.drew (.cells (bytesRow s (grownCap W s.size 0 e)) e ((bytesRow s (grownCap W s.size 0 e)).size,(bytesRow s (grownCap W s.size 0 e)).size+1))
  refine ⟨_,_,rfl,by omega,hc2,(fun h=>by cases h),.inr ⟨W.heap.size,0,rfl,Qa7 r,Qa7 r,fun i hi=>?_⟩⟩
  rw [zap]
  exact (cell_of_row _ _ i _ e _ r).trans (QiD s _ i hi)
end
def BegL (base : Nat) (nm:List Int):Value→World→Prop:=fun v W=>∃ g,v=.pointer (some ⟨g,0,none⟩)∧base≤g∧W.heap[g]? = some (.cells (cat [ints .u8 (zaq 32 0),#[.bool false],#[.int .i64 0],ints .u8 (dig nm),ints .u8 (dig nm)]) 71)
theorem Qo1 (s : ByteArray) (nm:List Int) (hs:strB s=nm) (hnb:Qaf nm) (hnl:nm.length≤800000000) (tc tq:TypeId) (w:World) (hc:w.heap[1]? = some (.cells (ints .u64 QbI) tc)) (hq:w.heap[0]? = some (.cells (ints .u64 Qbf) tq)):Calls Tryz.prog 27 #[.string s] w (QcL w (BegL w.heap.size nm)):=by
  refine enter 12 [(0,.string s)] Tryz.func27 rfl rfl kj rfl <| sgB kj <| sgC fun K4 hK4=>sg 1 kj <| QmZ s nm 9 24 5 (.tmp 4) 5 rfl rfl kj kj hs kj kj kj (qT hnl (by decide)) fun gs5 cs5 W1 e1 fs5=>?_
  have x1:=Ext.tr (zbR w) e1
  refine QbM (#[.slice (some ⟨gs5,0,none⟩) ((nm).length) cs5]) 24 1 6 rfl kj kj fun g6 W2 l6 e2 r6_2=>?_
  have b6:=qT x1.size l6
  have hps8:∀ p∈([(.slice (some ⟨gs5,0,none⟩) ((nm).length) cs5,nm)]:List (Value×List Int)),RdK .u8 W2.heap.size p.2 p.1 W2∧Qaf p.2:=by
    intro p hp
    simp only [zaa,zab,or_false] at hp
    rcases hp with rfl
    · exact ⟨RdK.here (fs5.ext e2),hnb⟩
  have hsh8:=Qlv g6 1 _ ([(.slice (some ⟨gs5,0,none⟩) ((nm).length) cs5,nm)]:List (Value×List Int)) rfl (by decide) tc tq W2 (Qaa (Qaa hc e1) e2) (Qaa (Qaa hq e1) e2) r6_2 hps8 (by simp only [zac,zad,zae,zaf,zag,zah]; omega)
  rw [show ((zai Prod.snd ([(.slice (some ⟨gs5,0,none⟩) ((nm).length) cs5,nm)]:List (Value×List Int))).flatten)=nm by simp only [zac,zad,zae,zaf,zag]] at hsh8
  refine Qas (.agg (ints .u8 (dig (nm)))) 41 #[.slice (some ⟨g6,0,none⟩) 1 1] 7 rfl kj kj hsh8 fun W3 e3=>?_
  have x3:=Ext.tr (Ext.tr x1 e2) e3
  refine Qbi (ints .u8 (zaq 32 0)) (ints .u8 (dig (nm))) 35 3 32 rfl kj kj rfl (fun _=>kj) rfl (fun _=>kj) (fun _=>kj) kj (izT (QaV _)) (izT (qZ (n:=32))) (ints_one _ _) fun g9 W5 l9 e5 r9_5=>?_
  have b9:=qT x3.size l9
  have x5:=Ext.tr x3 e5
  refine sgN hK4 <| sgC fun K10 hK10=>Qac (.agg (ints .u8 (dig (nm)))) 8 rfl kj (Qae 35 _ g9 35 _ _ r9_5 rfl kj kj (isz (n:=32) kj (izT (QaV _)))) <| Qac (.agg (ints .u8 (dig (nm)))) 9 rfl kj (Qae 35 _ g9 35 _ _ r9_5 rfl kj kj (isz (n:=32) kj (izT (QaV _)))) <| Qac (.agg (cat [ints .u8 (zaq 32 0),#[.bool false],#[.int .i64 0],ints .u8 (dig (nm)),ints .u8 (dig (nm))])) 10 rfl kj (Qfu 71 _ (.agg (cat [ints .u8 (zaq 32 0),#[.bool false],#[.int .i64 0],ints .u8 (zaq 32 0),ints .u8 (zaq 32 0)])) #[(0,34),(34,32),(66,32)] 34 [ints .u8 (zaq 32 0),#[.bool false],#[.int .i64 0]] (cat [ints .u8 (zaq 32 0),ints .u8 (zaq 32 0)]) [(1,32,.agg (ints .u8 (dig (nm))),ints .u8 (dig (nm))),(2,32,.agg (ints .u8 (dig (nm))),ints .u8 (dig (nm)))] [] rfl kj (by rw [Qab,Qab,Qab]; simp only [qS,cat,(izT (qZ (n:=32)))]; rfl) ⟨kj,rfl,(izT (QaV _)),kj,rfl,(izT (QaV _)),trivial⟩ kj (Nat.le_of_ble_eq_true kj) kj kj kj kj) ?_
  refine Qak (cat [ints .u8 (zaq 32 0),#[.bool false],#[.int .i64 0],ints .u8 (dig (nm)),ints .u8 (dig (nm))]) 71 11 rfl kj kj fun g11 W6 l11 e6 r11_6=>sg 1 kj <| sgN hK10 <| wp_ret ?_
  repeat (first | with_reducible refine goR1 ?_ | with_reducible refine goR2 ?_)
  exact (show bodyPost _ _ _ .ret _ _ from ret1 (.pointer (some ⟨g11,0,none⟩)) rfl (Qa4 kj) ⟨_,rfl,(Ext.tr x5 e6),g11,rfl,(qT x5.size l11),r11_6⟩)
theorem Qrq (g : Nat) {Tg:TypeId} {tl:Array Value} (key chain hash:List Int) (has:Bool) (num:Int) (w:World) (hkl:key.length=32) (hcl:chain.length=32) (hhl:hash.length=32) (hg:w.heap[g]? = some (.cells (cat [ints .u8 (key),#[.bool has],#[.int .i64 num],ints .u8 (chain),ints .u8 (hash),tl]) Tg)):Calls Tryz.prog 36 #[.pointer (some ⟨g,0,none⟩)] w (Ret w (.agg (ints .u8 hash))):=by
  refine enter 10 [(0,.pointer (some ⟨g,0,none⟩))] Tryz.func36 rfl rfl kj rfl <| sgC fun K2 hK2=>Qak (ints .u8 (zaq 32 0)) 35 2 rfl kj kj fun g3 W1 l3 e1 r3_1=>sgN hK2 <| wp_seq_k fun K4 hK4=>sgB kj <| cond_false kj <| wp_skip <| hK4 _ _ <| sgC fun K6 hK6=>?_
  refine sg 3 kj <| Qac (.agg (ints .u8 (hash))) 9 rfl kj (Qan 35 _ g 66 Tg _ _ _ (Qaa hg e1) rfl kj (Qaq [ints .u8 (key),#[.bool has],#[.int .i64 num],ints .u8 (chain)] [ints .u8 (hash)] [tl] 66 (by rw [Qab,Qab,Qab,Qab]; simp only [qS,cat,(izT hcl),(izT hkl)]; rfl)) kj (isz (n:=32) kj (izT hhl))) ?_
  refine Qai g3 _ (ints .u8 (hash)) 35 r3_1 rfl kj (Qag 35 _ _ g3 35 _ _ r3_1 rfl kj kj (isz (n:=32) kj (izT hhl)) (eqsz (n:=32) (izT (qZ (n:=32))) (izT hhl)) (ints_one _ _)) fun W2 p2 r3_2=>sgN hK6 <| wp_ret ?_
  repeat (first | with_reducible refine goR1 ?_ | with_reducible refine goR2 ?_)
  exact (show bodyPost _ _ _ .ret _ _ from ret1 (.agg (ints .u8 (hash))) rfl (QaU g3 35 _ r3_2 kj kj (isz (n:=32) kj (izT hhl))) ⟨rfl,(Puts.ext p2 (Ext.tr (zbR w) e1) (qT (zbR w).size l3))⟩)
end Ci
end
section
section
namespace Rely
open Go
section
variable {P : Program} {R : World → World → Prop} {w0 : World} {r0 : Tmp → Value} {F : List Fact → Prop} {o : Oper} {os : List Oper} {s : Src} {ss : List Src} {E : List Fact}
theorem Qbb (c : Value) (h:∀ (ρ:Tmp→Value) (W:World),R w0 W→Qcr r0 E ρ W s.reads→guarded s.guard ρ (Qb4 P R o ρ W fun v _=>v=c) (undef=c))
    (hk:relies P R w0 r0 F os ss (E++[fun v _=>v=c])):relies P R w0 r0 F (o::os) (s::ss) E :=
  ⟨fun v _=>v=c,fun _ _ _ _ h=>h,h,hk⟩
end
end Rely
end
section
namespace Rely
open Go Go.RowKit
theorem Qmy (W : World) (n:Nat):Ext W (W.drewN n):=⟨rfl,rfl,rfl,qR _,fun _ _=>rfl⟩
end Rely
end
section
namespace Rely
open Go Go.RowKit
theorem Qe9 (xs : List Int) (i:Nat) (v:Int) (h:i<xs.length):nth (xs.set i v) i=v:=by simp [nth,h]
theorem nth_set_ne (xs : List Int) (i j:Nat) (v:Int) (h:i≠j):nth (xs.set i v) j=nth xs j:=by
  simp [nth,List.getElem?_set_ne h]
theorem Qb6 {P : Program} {o:Oper} {ρ:Tmp→Value} {W:World} (ty:TypeId) (x:Operand) (ho:o.op=.load ty x)
    (g:Nat) (hx:look ρ x=.pointer (some ⟨g,0,none⟩)) (t:TypeId) (cs:Array Value) (fr:Nat×Nat) (d:TypeDesc) (hg:W.heap[g]? = some (.cells cs t fr))
    (hu:P.underlying ty=some d) (hd:(match d with | .struct _ | .array _ _=>true | _=>false)=true) (hi:(P.info? ty).map (·.size)=some cs.size) :
    Qb4 P Ext o ρ W (fun v _=>v=.agg cs):=by
  unfold Qb4 execOp
  simp only [ho,hx,Instr.loadAt,Instr.sureAddr,zam,zao,zan,run_loadVar_row W g t ty cs fr d hg hu hd hi]
  exact ⟨zbR _,rfl⟩
end Rely
end
section
namespace Rely
open Go Go.RowKit
theorem Qc5 {W : World} {g:Nat} {cs:Array Value} {t:TypeId} (i:Nat) (v:Value) (h:W.heap[g]? = some (.cells cs t)):(W.setCell ⟨g,i,none⟩ v).heap[g]? = some (.cells (cs.setIfInBounds i v) t):=by
  simp [zar,zas,h]
theorem QaA {W : World} {g k:Nat} (i:Nat) (v:Value) (hk:k≠g):(W.setCell ⟨g,i,none⟩ v).heap[k]? = W.heap[k]?:=by
  simp [zar,zas,Ne.symm hk]
theorem QcA {w W:World} {g:Nat} (h:Ext w W) (hg:w.heap.size≤g) (i:Nat) (v:Value):Ext w (W.setCell ⟨g,i,none⟩ v):=h.setCell (p:=⟨g,i,none⟩) hg v
theorem Qbs {w W:World} {g:Nat} (h:Ext w W) (hg:w.heap.size≤g) (cs:Array Value):Ext w (W.setRow g cs) :=
  ⟨h.os,h.tape,h.output,by simpa using h.size,fun k hk=>(setRow_other W g k cs (by omega)).trans (h.block k hk)⟩
end Rely
end
section
namespace Rely
open Go Go.RowKit
theorem QbY {F : Fence} {n:Nat} {P:Program} {ops:Array Oper} {rest:List Oper} {o:Oper} {a:Act} {w:World} {Q:Exit→Act→World→Prop} (hgd:o.guard=none) (ty:TypeId) (x:Operand) (ho:o.op=.load ty x)
    (g:Nat) (hx:a.eval x=.pointer (some ⟨g,0,none⟩)) (t:TypeId) (cs:Array Value) (fr:Nat×Nat) (d:TypeDesc) (hg:w.heap[g]? = some (.cells cs t fr))
    (hu:P.underlying ty=some d) (hd:(match d with | .struct _ | .array _ _=>true | _=>false)=true) (hi:(P.info? ty).map (·.size)=some cs.size)
    (h:wpListIn F n P ops Q rest (a.put o.dst (.agg cs)) w):wpListIn F n P ops Q (o::rest) a w:=by
  refine wpListIn_plain hgd fun K hK'=>?_
  unfold Oper.wpIn
  refine ⟨?_,?_⟩
  · simp [Oper.about,ho]
  · rw [Oper.semAt_plain F _ _ (by rw [ho]; intro c hc'; cases hc')]
    unfold execOp
    simp only [ho,hx,Instr.loadAt,Instr.sureAddr,zam,zao,zan,run_loadVar_row w g t ty cs fr d hg hu hd hi]
    exact hK' _ _ h
theorem QbQ {F : Fence} {n:Nat} {P:Program} {ops:Array Oper} {rest:List Oper} {o:Oper} {a:Act} {w:World} {Q:Exit→Act→World→Prop} (hgd:o.guard=none) (ty:TypeId) (x y:Operand) (ho:o.op=.store ty x y)
    (g:Nat) (cells:Array Value) (hx:a.eval x=.pointer (some ⟨g,0,none⟩)) (hy:a.eval y=.agg cells)
    (t:TypeId) (old:Array Value) (hg:w.heap[g]? = some (.cells old t (0,0))) (hi:(P.info? ty).map (·.size)=some cells.size)
    (hold:old.size=cells.size) (h1:cells.all (·.oneCell')=true)
    (h:wpListIn F n P ops Q rest (a.put o.dst undef) (w.setRow g cells)):wpListIn F n P ops Q (o::rest) a w:=by
  refine wpListIn_plain hgd fun K hK'=>?_
  unfold Oper.wpIn
  refine ⟨?_,?_⟩
  · simp [Oper.about,ho]
  · rw [Oper.semAt_plain F _ _ (by rw [ho]; intro c hc'; cases hc')]
    unfold execOp
    simp only [ho,hx,hy,Instr.storeAt,Instr.sureAddr,zam,zao,zan,run_storeVar_row w g t ty old cells hg hi hold h1]
    exact hK' _ _ h
theorem QdE {W : World} {g:Nat} {cs:Array Value} {t:TypeId} (hg:W.heap[g]? = some (.cells cs t)) (new:Array Value):KeepsOthers W (W.setRow g new) :=
  ⟨by simp,fun k o hk ho=>by
    refine (setRow_other W g k new fun e=>?_).trans hk
    subst e
    rw [hg] at hk
    cases hk
    cases ho⟩
theorem Qfm {n : Nat} {W W':World} (h:Ext W W') (hn:n≤W.heap.size):Below n W W':=h.mono hn
theorem Qe0 {n : Nat} {a W:World} (h:Below n a W) {g:Nat} (hg:n≤g) (cs:Array Value):Below n a (W.setRow g cs) :=
  ⟨h.os,h.tape,h.output,by simpa using h.size,fun k hk=>(setRow_other W g k cs (by omega)).trans (h.block k hk)⟩
end Rely
end
section
namespace Rely
open Go
def Qkv (D : List Nat) (E:List Fact):Prop:=∀ j∈D,∀ u W,(E.getD j fun _ _=>True) u W→∃ g,u=.pointer (some ⟨g,0,none⟩)∧g<W.heap.size
section
variable {P : Program} {R : World → World → Prop} {w0 : World} {a0 : Act}
theorem Qg8 {l : List Oper} {n N:Nat} {S:List Src} {E:List Fact} {D:List Nat} {Q:Exit→Act→World→Prop} (hD:Qdb l D=true) (hB:Qkv D E) (hok:ok l n N S=true) (hN:a0.tmps.size=N) (hrf:∀ a,R a a) (htr:∀ {a b c:World},R a b→R b c→R a c)
    (hE:E.length=(l.take n).length) (hst:∀ φ∈E,Qcq R φ)
    (hop:∀ j o s,(l.take n)[j]? = some o→S[j]? = some s→opOk P R w0 (slots a0) E o s (E.getD j fun _ _=>True))
    (hfin:∀ W,R w0 W→finP (fun a W=>wpList P l.toArray Q (l.drop n) a W) D (l.take n) E 0 [] a0 W) :
    ∀ (fuel:Nat) (listed:Array Bool) (a:Act) (W:World) (vs:Nat→Value),Inv R w0 a0 l.toArray E n listed a W vs→QiL D n listed vs→fuel=left l.toArray listed→wpAny P .any l.toArray Q fuel listed a W:=by
  simp only [ok,Bool.and_eq_true,decide_eq_true_eq] at hok
  obtain ⟨⟨⟨⟨⟨hn,hsrc⟩,hdst⟩,hedge⟩,htail⟩,hdt⟩:=hok
  have hlen:(l.take n).length=n:=by simp [hn]
  have hget:∀ i,i<n→(l.take n)[i]? = l[i]?:=fun i hi=>by simp [hi]
  have hgd:∀ i,(E.getD i fun _ _=>True)=(fun _ _=>True)∨(E.getD i fun _ _=>True)∈E:=fun i=>by
    rcases zat i E.length with h | h
    · right; simp [h]
    · left; simp [List.getElem?_eq_none h]
  have hstg:∀ i,Qcq R (E.getD i fun _ _=>True):=fun i=>by
    rcases hgd i with h | h
    · rw [h]; exact fun _ _ _ _ _=>trivial
    · exact hst _ h
  have hanc:∀ j i,((masks l #[]).getD j 0).testBit i=true→Anc l.toArray i j:=Qde l.toArray l #[] (fun j=>by simp) (fun j i h=>by simp at h)
  have count:∀ (listed:Array Bool),(∀ i,i<n→listed.getD i true=true)→(∀ i,n≤i→i<l.length→listed.getD i true=false)→left l.toArray listed=l.length-n:=by
    intro listed h1 h2
    unfold left
    simp only [zau]
    have:∀ m,m≤l.length→(zav m).countP (fun i=>!listed.getD i true)=m-n:=by
      intro m
      induction m with
      | zero=>intro _; simp
      | succ m ih =>
        intro hm
        rw [zaw,zax,ih (by omega),zay]
        by_cases hmn:m<n
        · simp only [h1 m hmn,Bool.not_true,Bool.false_eq_true,if_false]; omega
        · simp only [h2 m (by omega) (by omega),Bool.not_false,if_true]; omega
    exact this l.length (qR _)
  have done:∀ (fuel:Nat) (listed:Array Bool) (a:Act) (W:World) (vs:Nat→Value),Inv R w0 a0 l.toArray E n listed a W vs→QiL D n listed vs→fuel=left l.toArray listed→(∀ i,i<n→listed.getD i true=true)→wpAny P .any l.toArray Q fuel listed a W:=by
    intro fuel listed a W vs inv hpr hf hall
    have hs:listed.size=l.length:=by simpa using inv.size
    have hall':∀ i,i<n→listed.getD i false=true:=fun i hi=>by
      cases hx:listed.getD i false with
      | true=>rfl
      | false=>have:=getD_in (by omega) hx; rw [hall i hi] at this; cases this
    refine QgD htail hedge fuel n listed a W (qR _) hn hs inv.closed hall' inv.tail (by rw [hf]; exact count listed hall (fun i h1 h2=>getD_in (by omega) (inv.tail i h1))) ?_
    have hq:=Qga (D:=D) (l.take n) E a0 vs 0 [] (hfin W inv.rel) hE (fun i hi=>by
      rw [zap]
      exact inv.facts i (hall' i (by omega)) (by omega)) (fun u hu=>by cases hu) (fun i k hi hk hin hkn hne=>hpr i k hi hk (hall' i (by omega)) (hall' k (by omega)) (by omega) (by omega) hne)
    have heq:QaR (l.take n) vs 0 a0=a:=by
      have hsz:=Qcu (l.take n) vs 0 a0
      have ht:(QaR (l.take n) vs 0 a0).tmps=a.tmps:=by
        refine Array.ext_getElem? fun t=>?_
        by_cases hw:∃ (i:Nat) (o:Oper),(l.take n)[i]? = some o∧o.dst=some t
        · obtain ⟨i,o,hi,ho⟩:=hw
          have hin:i<n:=by have:=(zaz.1 hi).1; omega
          rw [QbS (l.take n) vs 0 a0 t i o hdst hN hi ho,zap]
          exact (inv.vals i o t (hall' i hin) hin (by rw [hget i hin] at hi; simpa using hi) ho).symm
        · rw [QbD (l.take n) vs 0 a0 t (fun o ho he=>by
            obtain ⟨i,hi⟩:=za0.1 ho
            exact hw ⟨i,o,hi,he⟩)]
          refine (inv.rest t fun i o _ hin hi he=>hw ⟨i,o,by rw [hget i hin]; simpa using hi,he⟩).symm
      have hd:=hsz.2.trans inv.defers.symm
      generalize QaR (l.take n) vs 0 a0=b at *
      cases a; cases b
      simp_all
    rw [heq] at hq
    exact hq
  have main:∀ (fuel:Nat) (listed:Array Bool) (a:Act) (W:World) (vs:Nat→Value),Inv R w0 a0 l.toArray E n listed a W vs→QiL D n listed vs→fuel=left l.toArray listed→wpAny P .any l.toArray Q fuel listed a W:=by
    intro fuel
    induction fuel with
    | zero =>
      intro listed a W vs inv hpr hf
      refine done 0 listed a W vs inv hpr hf fun i hi=>?_
      cases hx:listed.getD i true with
      | true=>rfl
      | false =>
        have:=Qfg (ops:=l.toArray) (by simp; omega) hx
        omega
    | succ fuel ih =>
      intro listed a W vs inv hpr hf
      by_cases hA:∀ i,i<n→listed.getD i true=true
      · exact done _ listed a W vs inv hpr hf hA
      · have hs:listed.size=l.length:=by simpa using inv.size
        obtain ⟨i0,hi0,hu0⟩:∃ i,i<n∧listed.getD i true=false:=by
          refine Classical.byContradiction fun hc=>hA fun i hi=>?_
          cases hx:listed.getD i true with
          | true=>rfl
          | false=>exact absurd ⟨i,hi,hx⟩ hc
        refine ⟨fun hr=>?_,fun j hj=>?_⟩
        · obtain ⟨j,hj⟩:=Qcf hedge (listed:=listed) i0 (by omega) hu0
          rw [hr] at hj; cases hj
        · obtain ⟨hju,oj,hoj,_⟩:=mem_ready.1 hj
          have hoj':l[j]? = some oj:=by simpa using hoj
          have hjl:j<l.length:=(zaz.1 hoj').1
          have hjn:j<n:=by
            rcases zat j n with h | h
            · exact h
            · exfalso
              have h3:=za1.1 htail j (za2.2 hjl)
              simp only [Bool.or_eq_true,decide_eq_true_eq] at h3
              rcases h3 with h3 | h3
              · omega
              · have h4:=za1.1 h3 i0 (za2.2 (by omega))
                have:=Qbp inv.closed hj (hanc j i0 h4)
                rw [QaX this] at hu0
                cases hu0
          obtain ⟨s,hsj,hso⟩:=Qe5 (l.take n) S 0 hsrc j oj (by rw [hget j hjn]; exact hoj')
          rw [zap] at hso
          simp only [QhS,Bool.and_eq_true] at hso
          obtain ⟨hg,hrd⟩:=hso
          have hg':Qd3 l.toArray oj=some s.guard:=by simpa using hg
          have holds:∀ (r:List (Tmp×Option Nat)),r.all (Qdy l (masks l #[]) j)=true→Qcr (slots a0) E (slots a) W r:=by
            intro r
            induction r with
            | nil=>intro _; trivial
            | cons x r ihr =>
              intro hr
              simp only [List.all_cons,Bool.and_eq_true] at hr
              obtain ⟨t,si⟩:=x
              cases si with
              | none =>
                refine ⟨?_,ihr hr.2⟩
                have h1:=hr.1
                simp only [Qdy] at h1
                have h2:a.tmps[t]? = a0.tmps[t]?:=inv.rest t fun i o hli hin hio hd=>by
                  have h3:=za1.1 h1 (o,i) (by
                    rw [za0]
                    refine ⟨i,?_⟩
                    rw [List.getElem?_zipIdx]
                    have:l[i]? = some o:=by simpa using hio
                    simp [this])
                  simp only [hd,bne_self_eq_false,Bool.false_or,Bool.or_eq_true,beq_iff_eq] at h3
                  have hlj:listed.getD j false=true:=by
                    rcases h3 with h3 | h3
                    · exact inv.closed.anc (hanc i j h3) hli
                    · rw [←h3]; exact hli
                  rw [QaX hlj] at hju
                  cases hju
                simp only [slots,za3,h2]
              | some i =>
                refine ⟨?_,ihr hr.2⟩
                have h1:=hr.1
                simp only [Qdy,Bool.and_eq_true,decide_eq_true_eq,beq_iff_eq] at h1
                obtain ⟨⟨hij,hbit⟩,hdi⟩:=h1
                have hli:=Qbp inv.closed hj (hanc j i hbit)
                obtain ⟨oi,hoi,hdi'⟩:∃ oi,l[i]? = some oi∧oi.dst=some t:=by
                  cases hx:l[i]? with
                  | none=>rw [hx] at hdi; cases hdi
                  | some oi=>rw [hx] at hdi; exact ⟨oi,rfl,hdi⟩
                have hv:=inv.vals i oi t hli (by omega) (by simpa using hoi) hdi'
                have:slots a t=vs i:=by simp only [slots,za3,hv,Option.getD_some]
                rw [this]
                exact inv.facts i hli (by omega)
          have hopj:=hop j oj s (by rw [hget j hjn]; exact hoj') hsj (slots a) W inv.rel (holds s.reads hrd)
          have next:∀ v W',R W W'→((E.getD j fun _ _=>True) v W'∧(j∈D→v=.pointer (some ⟨W.heap.size,0,none⟩)))→wpAny P .any l.toArray Q fuel (listed.setIfInBounds j true) (a.put oj.dst v) W':=by
            intro v W' hR ⟨hφ,hfresh⟩
            have hjs:j<listed.size:=by omega
            have hlist:∀ i,(listed.setIfInBounds j true).getD i false=true→i=j∨listed.getD i false=true:=fun i hi=>by
              by_cases hij:j=i
              · exact .inl hij.symm
              · rw [getD_set_ne false hij] at hi; exact .inr hi
            refine ih _ _ W' (fun i=>if i=j then v else vs i) ⟨by simp [inv.size],inv.closed.set hj,htr inv.rel hR,(put_defers _ _ _).trans inv.defers,(Qdl _ _ _).trans inv.asize,?_,?_,?_,?_⟩ ?_ ?_
            · intro i hi hin
              by_cases hij:i=j
              · subst hij; simpa using hφ
              · simp only [hij,if_false]
                rcases hlist i hi with h | h
                · exact absurd h hij
                · exact hstg i _ _ _ hR (inv.facts i h hin)
            · intro i o d hi hin hio hd
              by_cases hij:i=j
              · subst hij
                obtain rfl:o=oj:=Option.some.inj (hio.symm.trans hoj)
                rw [hd,QcC _ _ _ (by rw [inv.asize,hN]; exact Qez (l.take n) hdst i o d (by rw [hget i hin]; exact hoj') hd)]
                simp
              · simp only [hij,if_false]
                rcases hlist i hi with h | h
                · exact absurd h hij
                · rw [Qb2 _ _ _ _ (Qey (l.take n) hdst i j o oj d (by rw [hget i hin]; simpa using hio) (by rw [hget j hjn]; exact hoj') hij hd)]
                  exact inv.vals i o d h hin hio hd
            · intro t ht
              rw [Qb2 _ _ _ _ (ht j oj (by simp [Array.getElem?_setIfInBounds_self_of_lt hjs]) hjn hoj)]
              exact inv.rest t fun i o hi hin hio=>ht i o (getD_set_true hi) hin hio
            · intro i hi
              rw [getD_set_ne false (by omega)]
              exact inv.tail i hi
            · have old:∀ k,k∈D→listed.getD k false=true→k<n→j∈D→vs k≠v:=fun k hk hl hkn hjD he=>by
                obtain ⟨g,hg1,hg2⟩:=hB k hk _ _ (inv.facts k hl hkn)
                rw [hg1,hfresh hjD] at he
                simp only [Value.pointer.injEq,Option.some.injEq,Addr.mk.injEq,and_true] at he
                omega
              intro i k hi hk hli hlk hin hkn hne
              by_cases hij:i=j
              · by_cases hkj:k=j
                · exact absurd (hij.trans hkj.symm) hne
                · simp only [hij,hkj,if_true,if_false]
                  exact (old k hk ((hlist k hlk).resolve_left hkj) hkn (hij▸hi)).symm
              · by_cases hkj:k=j
                · simp only [hij,hkj,if_true,if_false]
                  exact old i hi ((hlist i hli).resolve_left hij) hin (hkj▸hk)
                · simp only [hij,hkj,if_false]
                  exact hpr i k hi hk ((hlist i hli).resolve_left hij) ((hlist k hlk).resolve_left hkj) hin hkn hne
            · have:=Qdp hju inv.size
              omega
          refine Qcz hoj ?_
          rw [QbG hg']
          by_cases hb:gOk s.guard (slots a)=true
          · rw [if_pos hb]
            refine Qgo (R:=R) (W:=W) (φ:=fun v W'=>(E.getD j fun _ _=>True) v W'∧(j∈D→v=.pointer (some ⟨W.heap.size,0,none⟩))) (fun {_ _ _} h1 h2=>htr h1 h2) ?_ next
            cases hgd':s.guard with
            | none=>rw [hgd'] at hopj; exact QcB hD hoj' hopj
            | some db =>
              rw [hgd'] at hopj hb
              exact QcB hD hoj' ((if_pos hb).mp hopj)
          · rw [if_neg hb]
            refine next undef W (hrf W) ⟨?_,fun hjD=>absurd (noguard hD hjD hoj' hg') (fun e=>hb (by rw [e]; rfl))⟩
            cases hgd':s.guard with
            | none=>rw [hgd'] at hb; exact absurd rfl hb
            | some db =>
              rw [hgd'] at hopj hb
              exact (if_neg hb).mp hopj
  exact main
def Qkw {P : Program} {R:World→World→Prop} {Q:Exit→Act→World→Prop} {a:Act} {w:World} {l:List Oper} {n:Nat} {D:List Nat} (F:List Fact→Prop):Prop :=
  ∀ E,Qkv D E→(∀ W,R w.drew W→finP (fun a W=>wpList P l.toArray Q (l.drop n) a W) D (l.take n) E 0 [] a W)→F E
theorem Qkw.out {P : Program} {R:World→World→Prop} {Q:Exit→Act→World→Prop} {a:Act} {w:World} {l:List Oper} {n:Nat} {D:List Nat} {F:List Fact→Prop} (h:Qkw (P:=P) (R:=R) (Q:=Q) (a:=a) (w:=w) (l:=l) (n:=n) (D:=D) F) {E:List Fact} (b:Qkv D E)
    (k:∀ W,R w.drew W→finP (fun a W=>wpList P l.toArray Q (l.drop n) a W) D (l.take n) E 0 [] a W):F E:=h E b k
theorem Qge {id : Nat} {Q:Exit→Act→World→Prop} {a:Act} {w:World} {l:List Oper} (R:World→World→Prop) (n N:Nat) (S:List Src) (D:List Nat) (hD:Qdb l D=true) (hm:P.follows .mixedOrders=true) (hok:ok l n N S=true) (hN:a.tmps.size=N)
    (hrf:∀ a,R a a) (htr:∀ {a b c:World},R a b→R b c→R a c)
    (h:∀ (F:List Fact→Prop) (r0:Tmp→Value),r0=slots a→Qkw (P:=P) (R:=R) (Q:=Q) (a:=a) (w:=w) (l:=l) (n:=n) (D:=D) F→relies P R w.drew r0 F (l.take n) S []):(Code.region id l.toArray true).wp P Q a w:=by
  have hok':=hok
  simp only [ok,Bool.and_eq_true,decide_eq_true_eq] at hok'
  obtain ⟨⟨⟨⟨⟨hn,hsrc⟩,hdst⟩,hedge⟩,htail⟩,hdt⟩:=hok'
  obtain ⟨E,hl,_,hst,hop,hB,hfin⟩:=QdB (M:=masks l #[]) (l.take n) S [] (h (fun E=>Qkv D E∧∀ W,R w.drew W→finP (fun a W=>wpList P l.toArray Q (l.drop n) a W) D (l.take n) E 0 [] a W) _ rfl (show Qkw _ from fun _ b h=>⟨b,h⟩)) hsrc (fun _ h=>by cases h)
  refine wp_region_any hm ?_
  have hcount:l.toArray.size=left l.toArray (za4 l.toArray.size false):=by
    unfold left
    have:∀ m,m≤l.toArray.size→(zav m).countP (fun i=>!(za4 l.toArray.size false).getD i true)=m:=by
      intro m
      induction m with
      | zero=>intro _; simp
      | succ m ih =>
        intro hm
        rw [zaw,zax,ih (by omega),zay]
        have:(za4 l.toArray.size false).getD m true=false:=by simp at hm ⊢; simp [show m<l.length by omega]
        simp only [this,Bool.not_false,if_true]
    exact (this _ (qR _)).symm
  refine Qg8 (R:=R) (w0:=w.drew) (a0:=a) hD hB hok hN hrf htr (by simpa using hl) hst (fun j o s hj hs=>by simpa using hop j o s hj hs) hfin _ _ a _ (fun _=>undef) ⟨by simp,?_,hrf _,rfl,rfl,?_,?_,?_,?_⟩ ?_ hcount
  · intro j o ho hl
    rw [getD_replicate_false] at hl; cases hl
  · intro i hi; rw [getD_replicate_false] at hi; cases hi
  · intro i o d hi; rw [getD_replicate_false] at hi; cases hi
  · intro t _; rfl
  · intro i _; exact getD_replicate_false _ _
  · intro i k _ _ hi; rw [getD_replicate_false] at hi; cases hi
end
end Rely
end
section
namespace Auto
open Go Go.RowKit
open Rely
variable {ds : List Deferred}
section
variable {P : Program} {w0 : World} {base N : Nat} {L : Env} {F : List Kn → Prop} {o : Oper} {os : List Oper} {s : Src} {ss : List Src} {C : List Kn}
theorem Qcy (cs : Array Value) (T:TypeId) (hs:seen C o s=true) (hb:base≤w0.heap.size) (hg:gOk s.guard (get (envS N L (C.map Kn.val) s.reads))=true)
    (h:∀ W,(execOp (Rely.look (get (envS N L (C.map Kn.val) s.reads))) o).run P W=.ok (.value (.pointer (some ⟨W.heap.size,0,none⟩))) (W.alloc (.cells cs T)))
    (hk:steps P w0 base N L F os ss (C++[.new cs T])):steps P w0 base N L F (o::os) (s::ss) C :=
  Qkq (.new cs T) hs hg (fun W hR=>by
    rw [h]
    refine ⟨QaK _ _,_,rfl,?_,heap_alloc_new _ _⟩
    have:=hR.size
    omega) hk
end
theorem Qgx {base : Nat} {W:World}:∀ (os:List Oper) (C:List Kn) (acc:List Nat) (L:Env) (A B:Env→World→Prop),(∀ L W,A L W→B L W)→fins base A os C acc L W→fins base B os C acc L W
  | [],C,acc,L,A,B,h,hh=>by cases C <;> exact h _ _ hh
  | o::os,[],acc,L,A,B,h,hh=>h _ _ hh
  | o::os,.is c::C,acc,L,A,B,h,hh=>Qgx os C acc _ A B h hh
  | o::os,.new cs T::C,acc,L,A,B,h,hh=>fun g h1 h2 h3=>Qgx os C _ _ A B h (hh g h1 h2 h3)
theorem QbV {P : Program} {id:Nat} {Q:Exit→Act→World→Prop} {N:Nat} {L:Env} {w:World} {l:List Oper} (n:Nat) (S:List Src) (D:List Nat) (hD:Qdb l D=true) (hm:P.follows .mixedOrders=true) (hok:ok l n N S=true)
    (h:∀ F:List Kn→Prop,(∀ C,Qeh C 0=D→(∀ W,Ext w W→fins w.heap.size (fun L W=>WL P l.toArray Q (l.drop n) (Qau ds N L) W) (l.take n) C [] L W)→F C)→steps P w.drew w.heap.size N L F (l.take n) S []) :
    (Code.region id l.toArray true).wp P Q (Qau ds N L) w:=by
  refine Qge Ext n N S D hD hm hok (Qds N L) zbR zbS fun F r0 hr hF=>?_
  rw [Qce] at hr
  subst hr
  have:=h (fun C=>Qeh C 0=D∧∀ W,Ext w W→fins w.heap.size (fun L W=>WL P l.toArray Q (l.drop n) (Qau ds N L) W) (l.take n) C [] L W) (fun C h1 h2=>⟨h1,h2⟩)
  refine Qen (F:=fun C=>Qeh C 0=D∧∀ W,Ext w W→fins w.heap.size (fun L W=>WL P l.toArray Q (l.drop n) (Qau ds N L) W) (l.take n) C [] L W) (G:=F) (fun C h=>hF.out ?_ fun W hR=>?_) _ _ [] this
  · intro j hj u W hu
    obtain ⟨cs,T,hc⟩:=QdN C C 0 (fun j=>by rw [zap]) j (by rw [h.1]; exact hj)
    have:(zai (Kn.fact w.heap.size) C).getD j (fun _ _=>True)=Kn.fact w.heap.size (.new cs T):=by simp [hc]
    rw [this] at hu
    obtain ⟨g,h1,h2,h3⟩:=hu
    exact ⟨g,h1,Qa7 h3⟩
  · exact Qeu (Q:=fun a W=>wpList P l.toArray Q (l.drop n) a W) _ _ 0 [] L (fun i _=>by rw [h.1]; simp) (Qgx _ _ _ _ _ _ (fun L W hh=>hh.out) (h.2 W (zbS (Qah w) hR)))
end Auto
end
section
namespace Auto
open Go Go.RowKit
open Rely
variable {ds : List Deferred} {Fe : Fence} {nf : Nat}
section
variable {P : Program} {ops : Array Oper} {Q : Exit → Act → World → Prop} {rest : List Oper} {o : Oper} {N : Nat} {L : Env} {w : World}
end
section
variable {P : Program} {Q : Exit → Act → World → Prop} {w : World} {N : Nat} {L : Env}
end
end Auto
end
section
namespace Auto
open Go Go.RowKit
open Rely
variable {ds : List Deferred}
theorem QkC {α : Type} {P:Program} {g:Operand} {p:Tmp} {assign body:Code} {Q:Exit→Act→World→Prop} {N:Nat} {L:Env} {w:World}
    {gf:Nat} {lb:Array Value} (hg:Rely.look (envN N L) g=.func (.func gf) #[] lb) (eg:∀ args w,(callFunc gf args).run P w=.ok (.enter gf args) w)
    {enc:α→Value} {Kp:World→World→Prop} {S Sp:List α→Prop} {M:Nat} {w0:World} (hseq:SeqStopsK Fence.wide 2 P gf lb (fun x=>#[enc x]) Kp S Sp M w0)
    (hKt:∀ {A B C:World},Kp A B→Kp B C→Kp A C) (hKb:∀ (W:World) (l:Nat) (o o':Obj),w.heap.size≤l→W.heap[l]? = some o→o.isCells=false→o.isWalk=false→Kp W (W.putObj l o')) (hb0:Below w0.heap.size w0 w)
    (I:List α→World→Prop) (Ix:Code→List α→World→Prop) (hI:OwnFrom w.heap.size I) (hIx:∀ c,OwnFrom w.heap.size (Ix c)) (h0:I [] w) (asg:α→Env)
    (hassign:∀ (l:Nat) (x:α) (W:World) (K:Act→World→Prop),K (Qau [] N (asg x++L)) W→assign.wpIn (Fence.wide.inRound l) 1 P (Exit.then K (fun _ _ _=>False)) (Qau [] N ((p,enc x)::L)) W)
    (hbody:∀ (l:Nat) (pre:List α) (x:α) (W:World),I pre W→pre.length<M→body.wpIn (Fence.wide.inRound l) 1 P (ownPostK Kp I Ix (pre++[x]) W) (Qau [] N (asg x++L)) W)
    (hdone:∀ (D:Nat) (xs:List α) (W:World),w.heap.size≤D→S xs→I xs W→W.heap[D]? = some (.deferred (some []))→Q .normal (Qau (mark D::ds) N L) W)
    (hstop:∀ (D:Nat) (c:Code) (pre:List α) (W:World),w.heap.size≤D→Sp pre→Ix c pre W→W.heap[D]? = some (.deferred (some []))→c.wp P Q (Qau (mark D::ds) N L) W) :
    (Code.rangeFunc g #[p] assign body).wp P Q (Qau ds N L) w:=by
  refine (wpIn_wide (n:=3)).1 <| wpIn_rangeFunc_ownF rfl (by omega) (by rw [Qb3]; exact hg) trivial eg (w0:=w0) hseq hKt hKb hb0 (fun _=>rfl) I Ix hI hIx h0 (fun x=>Qau [] N (asg x++L)) (fun l x W K hK=>?_) hbody ?_ ?_
  · rw [Qgl]
    exact hassign l x W K hK
  · intro D xs W h1 h2 h3 h4
    exact hdone D xs W h1 h2 h3 h4
  · intro D c pre W h1 h2 h3 h4
    exact wpIn_wide.2 (hstop D c pre W h1 h2 h3 h4)
theorem Qpj {W : World} {g D:Nat} {cs:Array Value} {t:TypeId} {b:Option (List Deferred)} (h:W.heap[g]? = some (.cells cs t)) (hD:W.heap[D]? = some (.deferred b)):D≠g:=fun e=>by
  subst e
  rw [h] at hD
  cases hD
section
variable {P : Program} {fn : Func} {R : Ending → World → Prop} {N : Nat} {L : Env} {w : World}
theorem Qrb {D : Nat} {r:ResultVar} (v:Value) (hr:fn.results=#[r]) (hD:w.heap[D]? = some (.deferred (some []))) (h:Qdf P (w.putObj D (.deferred none)) N L r v) (k:R (.returned v) (w.putObj D (.deferred none))):bodyPostM Fence.wide 3 P fn R .ret (Qau [mark D] N L) w :=
  ⟨by simp,.inl ⟨_,_,rfl,run_takeDeferred hD,⟨_,QfB hr h,k⟩⟩⟩
end
end Auto
end
section
namespace Auto
open Go Go.RowKit
open Rely
variable {ds : List Deferred}
theorem Qkb (n : Nat) (h:n<9223372036854775808):za5.wrap ((n:Int)-1)=(n:Int)-1:=IntWalk.i64_in _ (by omega)
end Auto
end
end
section
section
namespace Field
open Go Go.RowKit
open Rely
def isW (x : Int):Prop:=0≤x∧x<18446744073709551616
theorem add64 (x y c:Int) (hx:isW x) (hy:isW y) (hc:0≤c∧c≤1) :
    ∃ s d:Int,isW s∧(0≤d∧d≤1)∧s+18446744073709551616*d=x+y+c ∧
      ∀ W,(callFunc 111 #[.int .u64 x,.int .u64 y,.int .u64 c]).run Tryz.prog W=.ok (.value (.tuple #[.int .u64 s,.int .u64 d])) W:=by
  unfold isW at hx hy
  refine ⟨(x+y+c)%18446744073709551616,(x+y+c)/18446744073709551616,⟨by omega,by omega⟩,by omega,by omega,fun W=>?_⟩
  rw [run_callFunc_extern Tryz.func111 (by kernel_rfl) (by kernel_rfl) (by kernel_rfl) (e:=add64Entry) (by kernel_rfl),run_add64 x y c hx.1 hy.1 hc.1 hc.2]
  rfl
theorem Qg9 (x y c:Int) (hx:isW x) (hy:isW y) (hc:0≤c∧c≤1) :
    ∃ s d:Int,isW s∧(0≤d∧d≤1)∧s-18446744073709551616*d=x-y-c ∧
      ∀ W,(callFunc 115 #[.int .u64 x,.int .u64 y,.int .u64 c]).run Tryz.prog W=.ok (.value (.tuple #[.int .u64 s,.int .u64 d])) W:=by
  unfold isW at hx hy
  obtain ⟨X,rfl⟩:=za6 hx.1
  obtain ⟨Y,rfl⟩:=za6 hy.1
  obtain ⟨C,rfl⟩:=za6 hc.1
  refine ⟨(((X+18446744073709551616-Y-C)%18446744073709551616:Nat):Int),((if X<Y+C then 1 else 0:Nat):Int),⟨by omega,by omega⟩,?_,?_,fun W=>?_⟩
  · split <;> simp
  · split <;> omega
  · rw [run_callFunc_extern Tryz.func115 (by kernel_rfl) (by kernel_rfl) (by kernel_rfl) (e:=sub64Entry) (by kernel_rfl),run_sub64 X Y C (by omega)]
    rfl
theorem maskN (a : Int) (h:isW a):bits .and .u64 a 4294967295=a%4294967296:=by
  obtain ⟨A,rfl⟩:=za6 h.1
  have h:=bits_and_u64_nat A 4294967295 (by have:=h.2; omega) (by omega)
  have e:A&&&4294967295=A%4294967296:=za7 A 32
  rw [e] at h
  exact h
theorem wrap64 (a : Int) (h:isW a):za8.wrap a=a:=by rw [za9]; have:=h.1; have:=h.2; omega
theorem mul64 (x y:Int) (hx:isW x) (hy:isW y) :
    ∃ hi lo:Int,isW hi∧isW lo∧lo+18446744073709551616*hi=x*y∧∀ w,Calls Tryz.prog 127 #[.int .u64 x,.int .u64 y] w (fun e w'=>e=.returned (.tuple #[.int .u64 hi,.int .u64 lo])∧w'=w):=by
  obtain ⟨X,rfl⟩:=za6 hx.1
  obtain ⟨Y,rfl⟩:=za6 hy.1
  have hX:X<18446744073709551616:=by have:=hx.2; omega
  have hY:Y<18446744073709551616:=by have:=hy.2; omega
  have hXY:X*Y<18446744073709551616*18446744073709551616:=Nat.mul_lt_mul'' hX hY
  refine ⟨((X*Y/18446744073709551616:Nat):Int),((X*Y%18446744073709551616:Nat):Int),⟨by omega,by omega⟩,⟨by omega,by omega⟩,?_,fun w=>?_⟩
  · rw [←Int.natCast_mul]; omega
  obtain ⟨bd,bt,bw,hhi⟩:=Lib.mul64_hi X Y hX hY
  have ba:=Lib.half_mul_le (a:=X/4294967296) (b:=Y/4294967296) (by omega) (by omega)
  have bb:=Lib.half_mul_le (a:=X/4294967296) (b:=Y%4294967296) (by omega) (by omega)
  have bc:=Lib.half_mul_le (a:=X%4294967296) (b:=Y/4294967296) (by omega) (by omega)
  have ba':X/4294967296*(Y/4294967296)<18446744073709551616:=by omega
  have bb':X/4294967296*(Y%4294967296)<18446744073709551616:=by omega
  have bc':X%4294967296*(Y/4294967296)<18446744073709551616:=by omega
  have bh1:X/4294967296*(Y/4294967296)+(X/4294967296*(Y%4294967296)+X%4294967296*(Y%4294967296)/4294967296)/4294967296<18446744073709551616:=by omega
  have bh:X/4294967296*(Y/4294967296)+(X/4294967296*(Y%4294967296)+X%4294967296*(Y%4294967296)/4294967296)/4294967296+((X/4294967296*(Y%4294967296)+X%4294967296*(Y%4294967296)/4294967296)%4294967296+X%4294967296*(Y/4294967296))/4294967296<18446744073709551616:=by omega
  go_enter Tryz.func127,Tryz.ntmps127
  go_wp2
  simp only [Mul64.maskN X hX,Mul64.maskN Y hY,Mul64.divN,Mul64.mulN,Mul64.addN,Mul64.wrapN _ bd,Mul64.wrapN _ bb',Mul64.wrapN _ bt,Mul64.maskN _ bt,Mul64.wrapN _ bc',Mul64.wrapN _ bw,Mul64.wrapN _ ba',Mul64.wrapN _ bh1,Mul64.wrapN _ bh,Mul64.wrapM (X*Y)]
  rw [hhi]
  go_ret2
  exact ⟨rfl,rfl⟩
theorem zero_isW : isW 0:=⟨by decide,by decide⟩
theorem QcD (x y a b:Int) (hx:isW x) (hy:isW y) (ha:isW a) (hb:isW b) :
    ∃ lo hi:Int,isW lo∧isW hi∧lo+18446744073709551616*hi=x*y+a+b∧∀ w,Calls Tryz.prog 110 #[.int .u64 x,.int .u64 y,.int .u64 a,.int .u64 b] w (fun e w'=>e=.returned (.tuple #[.int .u64 lo,.int .u64 hi])∧w'=w):=by
  obtain ⟨h0,l0,wh0,wl0,e0,c0⟩:=mul64 x y hx hy
  obtain ⟨l1,k1,wl1,wk1,e1,c1⟩:=add64 l0 a 0 wl0 ha (by decide)
  obtain ⟨l2,k2,wl2,wk2,e2,c2⟩:=add64 l1 b 0 wl1 hb (by decide)
  have hm:x*y≤18446744073709551615*18446744073709551615:=Int.mul_le_mul (by have:=hx.2; omega) (by have:=hy.2; omega) hy.1 (by decide)
  have hn:0≤x*y:=zaA hx.1 hy.1
  generalize x*y=xy at *
  unfold isW at *
  have w1:=wrap64 (h0+k1) (by unfold isW; omega)
  have w2:=wrap64 (h0+k1+k2) (by unfold isW; omega)
  refine ⟨l2,h0+k1+k2,wl2,by omega,by omega,fun w=>?_⟩
  have C0:=Lib.hid c0
  clear c0 hm hn hx hy ha hb wh0 wl0 wl1 wl2 wk1 wk2 e0 e1 e2
  go_enter Tryz.func110,Tryz.ntmps110
  go_wp2_with (go_at_call 127; (with_reducible refine (C0.out _).mono ?_); rintro e w' ⟨rfl,rfl⟩)
  go_ret2
  exact ⟨rfl,rfl⟩
end Field
end
section
namespace Field
open Go Go.RowKit
open Rely
def val (a b c d:Int):Int:=a+18446744073709551616*b+340282366920938463463374607431768211456*c+6277101735386680763835789423207666416102355444464034512896*d
def p : Int:=57896044618658097711785492504343953926634992332820282019728792003956564819949
def words (a b c d:Int):Value:=.agg #[.int .u64 a,.int .u64 b,.int .u64 c,.int .u64 d]
def num (n : Int):Value:=words (n%18446744073709551616) (n/18446744073709551616%18446744073709551616) (n/340282366920938463463374607431768211456%18446744073709551616) (n/6277101735386680763835789423207666416102355444464034512896%18446744073709551616)
theorem Qgr (a b c d:Int) (ha:isW a) (hb:isW b) (hc:isW c) (hd:isW d):words a b c d=num (val a b c d):=by
  unfold isW at *
  unfold num val
  have e1:(a+18446744073709551616*b+340282366920938463463374607431768211456*c+6277101735386680763835789423207666416102355444464034512896*d)%18446744073709551616=a:=by omega
  have e2:(a+18446744073709551616*b+340282366920938463463374607431768211456*c+6277101735386680763835789423207666416102355444464034512896*d)/18446744073709551616%18446744073709551616=b:=by omega
  have e3:(a+18446744073709551616*b+340282366920938463463374607431768211456*c+6277101735386680763835789423207666416102355444464034512896*d)/340282366920938463463374607431768211456%18446744073709551616=c:=by omega
  have e4:(a+18446744073709551616*b+340282366920938463463374607431768211456*c+6277101735386680763835789423207666416102355444464034512896*d)/6277101735386680763835789423207666416102355444464034512896%18446744073709551616=d:=by omega
  rw [e1,e2,e3,e4]
theorem Qgm {fn : Func} {tmps:Array Value} {W:World} {g:Nat} {t:Tmp} {a b c d:Int} (h:fn.results=#[.cell t 126])
    (hp:tmps.getD t undef=.pointer (some ⟨g,0,none⟩)) (hg:W.heap[g]? = some (.cells #[.int .u64 a,.int .u64 b,.int .u64 c,.int .u64 d] 126)) :
    (results fn tmps).run Tryz.prog W=.ok (words a b c d) W :=
  results_cell_row h tmps W g 126 _ (0,0) _ hp hg Tryz.underlying126 rfl (by kernel_rfl)
theorem QiS (a : Int) (h:isW a):bits .andNot .u64 a 9223372036854775808=a%9223372036854775808:=by
  obtain ⟨A,rfl⟩:=za6 h.1
  have h2:A<18446744073709551616:=by have:=h.2; omega
  have e:=u64_andNot_nat A 9223372036854775808 h2 (by decide)
  have m:A&&&9223372036854775807=A%9223372036854775808:=za7 A 63
  simp only [zaB,m] at e
  exact e
theorem reduced (a b c d:Int) (ha:isW a) (hb:isW b) (hc:isW c) (hd:isW d) (h:val a b c d<2*p) (w:World) :
    Calls Tryz.prog 112 #[.int .u64 a,.int .u64 b,.int .u64 c,.int .u64 d] w (Ret w (num (val a b c d%p))):=by
  obtain ⟨v0,c0,wv0,wc0,e0,r0⟩:=add64 a 19 0 ha (by unfold isW; decide) (by decide)
  obtain ⟨v1,c1,wv1,wc1,e1,r1⟩:=add64 b 0 c0 hb (by unfold isW; decide) wc0
  obtain ⟨v2,c2,wv2,wc2,e2,r2⟩:=add64 c 0 c1 hc (by unfold isW; decide) wc1
  have wv3:isW (d+c2):=by unfold isW val p at *; omega
  have o3:=QiS _ wv3
  have u3:=wrap64 _ wv3
  by_cases hlt:d+c2<9223372036854775808
  · have hz:(d+c2)/9223372036854775808=0:=by have:=wv3.1; omega
    have hv:num (val a b c d%p)=words a b c d:=by
      rw [zaC (by unfold isW val p at *; omega) (by unfold isW val p at *; omega),Qgr a b c d ha hb hc hd]
    rw [hv]
    clear hv o3 e0 e1 e2 h
    go_enter Tryz.func112,Tryz.ntmps112
    go_wp2_with fail
    exact bodyPost_ret (Qgm (t:=8) rfl rfl (heap_alloc_new w _)) rfl ⟨rfl,QaK _ _⟩
  · have hz:(d+c2)/9223372036854775808=1:=by have:=wv3.2; omega
    have hv:num (val a b c d%p)=words v0 v1 v2 ((d+c2)%9223372036854775808):=by
      rw [Qgr v0 v1 v2 ((d+c2)%9223372036854775808) wv0 wv1 wv2 (by unfold isW; omega)]
      congr 1
      rw [←Int.sub_emod_right,zaC (by unfold isW val p at *; omega) (by unfold isW val p at *; omega)]
      unfold isW val p at *
      omega
    rw [hv]
    clear hv e0 e1 e2 h
    go_enter Tryz.func112,Tryz.ntmps112
    go_wp2_with fail
    exact bodyPost_ret (Qgm (t:=8) rfl rfl (heap_alloc_new w _)) rfl ⟨rfl,QaK _ _⟩
end Field
end
section
namespace Field
open Go Go.RowKit
open Rely
def isN (a : Int):Prop:=0≤a∧a<p
theorem QaF (a : Int):isN (a%p):=⟨zaD _ (by unfold p; decide),zaE _ (by unfold p; decide)⟩
theorem Qdm (a : Int) (h:isN a):∃ x0 x1 x2 x3:Int,isW x0∧isW x1∧isW x2∧isW x3∧val x0 x1 x2 x3=a∧num a=words x0 x1 x2 x3:=by
  refine ⟨a%18446744073709551616,a/18446744073709551616%18446744073709551616,a/340282366920938463463374607431768211456%18446744073709551616,a/6277101735386680763835789423207666416102355444464034512896%18446744073709551616,?_,?_,?_,?_,?_,rfl⟩
  all_goals unfold isN p at h
  all_goals first | (unfold isW; omega) | (unfold val; omega)
def numA (n : Int):Array Value:=#[.int .u64 (n%18446744073709551616),.int .u64 (n/18446744073709551616%18446744073709551616),.int .u64 (n/340282366920938463463374607431768211456%18446744073709551616),.int .u64 (n/6277101735386680763835789423207666416102355444464034512896%18446744073709551616)]
theorem Qco : (Tryz.prog.info? 126).map (·.size)=some 4:=by kernel_rfl
theorem QdX {fn : Func} {tmps:Array Value} {W:World} {g:Nat} {t:Tmp} {n:Int} (h:fn.results=#[.cell t 126])
    (hp:tmps.getD t undef=.pointer (some ⟨g,0,none⟩)) (hg:W.heap[g]? = some (.cells (numA n) 126)) :
    (results fn tmps).run Tryz.prog W=.ok (num n) W :=
  results_cell_row h tmps W g 126 _ (0,0) _ hp hg Tryz.underlying126 rfl Qco
theorem QbK (w : World) (a b c:Obj):(((w.alloc a).alloc b).alloc c).heap[w.heap.size+2]? = some c:=by
  have:=heap_alloc_new ((w.alloc a).alloc b) c
  simpa using this
theorem below_setRow {B : Nat} {a w:World} (h:Below B a w) {g:Nat} (hp:B≤g) (cs:Array Value):Below B a (w.setRow g cs) :=
  ⟨h.os,h.tape,h.output,by simpa using h.size,fun k hk=>(setRow_other w g k cs (by omega)).trans (h.block k hk)⟩
theorem ext3 (w : World) (a b c:Obj):Ext w (((w.alloc a).alloc b).alloc c):=zbS (zbS (QaK _ _) (QaK _ _)) (QaK _ _)
theorem Qdn (n : Int):(numA n).all (·.oneCell')=true:=by simp [numA,zaF]
theorem add (a b:Int) (ha:isN a) (hb:isN b) (w:World) :
    Calls Tryz.prog 109 #[num a,num b] w (Ret w (num ((a+b)%p))):=by
  obtain ⟨x0,x1,x2,x3,wx0,wx1,wx2,wx3,ex,eX⟩:=Qdm a ha
  obtain ⟨y0,y1,y2,y3,wy0,wy1,wy2,wy3,ey,eY⟩:=Qdm b hb
  obtain ⟨v0,c0,wv0,wc0,e0,r0⟩:=add64 x0 y0 0 wx0 wy0 (by decide)
  obtain ⟨v1,c1,wv1,wc1,e1,r1⟩:=add64 x1 y1 c0 wx1 wy1 wc0
  obtain ⟨v2,c2,wv2,wc2,e2,r2⟩:=add64 x2 y2 c1 wx2 wy2 wc1
  have wv3:isW (x3+y3+c2):=by unfold isN isW val p at *; omega
  have u3:=wrap64 _ wv3
  have u3':=wrap64 (x3+y3) (by unfold isW at *; omega)
  have hs:val v0 v1 v2 (x3+y3+c2)=a+b:=by unfold val at *; omega
  have C:∀ w,Calls Tryz.prog 112 #[.int .u64 v0,.int .u64 v1,.int .u64 v2,.int .u64 (x3+y3+c2)] w (Ret w (num ((a+b)%p))):=fun w=>by
    have:=reduced v0 v1 v2 (x3+y3+c2) wv0 wv1 wv2 wv3 (by rw [hs]; unfold isN at *; omega) w
    rw [hs] at this
    exact this
  rw [eX,eY]
  generalize (a+b)%p=r at *
  have HC:=Lib.hid C
  clear C hs e0 e1 e2 ex ey eX eY ha hb
  unfold words
  go_enter Tryz.func109,Tryz.ntmps109
  go_wp2_with first
    | (go_at_call 112
       (with_reducible refine (HC.out _).mono ?_)
       rintro e w' ⟨rfl,hw⟩)
    | (with_reducible show wpList _ _ _ ((⟨_,.store 126 _ _,_,_,_,_⟩:Oper)::_) _ _
       refine wpList_store_row rfl 126 _ _ rfl (w.heap.size+2) (numA r) rfl rfl 126 _ ((hw.block _ (by simp)).trans (QbK _ _ _ _)) Qco rfl (Qdn _) ?_)
  exact bodyPost_ret (QdX (t:=4) rfl rfl (setRow_heap _ _ _ _ _ _ ((hw.block _ (by simp)).trans (QbK _ _ _ _)))) rfl ⟨rfl,below_setRow (zbS (ext3 _ _ _ _) hw) (by omega) _⟩
theorem Qo6 (r : Nat) (h:r<9223372036854775808):(9223372036854775808+r)^^^9223372036854775808=r:=by
  have e:9223372036854775808+r=9223372036854775808|||r:=by
    have:=zaG (i:=63) (b:=r) h 1
    simpa using this
  have h2:(9223372036854775808:Nat)=2^63:=by decide
  rw [e]
  apply Nat.eq_of_testBit_eq
  intro i
  rw [Nat.testBit_xor,Nat.testBit_or,h2,Nat.testBit_two_pow]
  by_cases hi:63=i
  · subst hi
    rw [Nat.testBit_lt_two_pow (h2▸h)]
    simp
  · simp [hi]
theorem QmQ (a : Int) (h:9223372036854775808≤a∧a<18446744073709551616):bits .xor .u64 a 9223372036854775808=a-9223372036854775808:=by
  rw [u64_xor a _ (by omega) (by omega) (by omega) (by omega)]
  obtain ⟨A,rfl⟩:=za6 (show 0≤a by omega)
  obtain ⟨r,rfl⟩:∃ r,A=9223372036854775808+r:=⟨A-9223372036854775808,by omega⟩
  have:=Qo6 r (by omega)
  simp only [Int.toNat_natCast]
  have e:(9223372036854775808:Int).toNat=9223372036854775808:=rfl
  rw [e,this]
  omega
theorem xor_zero (a : Int) (h:isW a):bits .xor .u64 a 0=a:=by
  rw [u64_xor a _ h.1 h.2 (by omega) (by omega)]
  simp
  have:=h.1
  omega
theorem Qoa (v0 v1 v2 v3 u0 u1 u2 d0 d1 d2:Int) (f0:u0-18446744073709551616*d0=v0-19-0) (f1:u1-18446744073709551616*d1=v1-0-d0) (f2:u2-18446744073709551616*d2=v2-0-d1) :
    val u0 u1 u2 (v3-d2)=val v0 v1 v2 v3-19:=by unfold val; omega
theorem Qlo (a b c d:Int) (ha:isW a) (hb:isW b) (hc:isW c) (hd:isW d):0≤val a b c d∧val a b c d<115792089237316195423570985008687907853269984665640564039457584007913129639936:=by unfold isW at *; unfold val; omega
theorem Qk5 (u0 u1 u2 t V:Int) (h0:isW u0) (h1:isW u1) (h2:isW u2) (e:val u0 u1 u2 t=V)
    (l:57896044618658097711785492504343953926634992332820282019728792003956564819968≤V) (h:V<115792089237316195423570985008687907853269984665640564039457584007913129639936) :
    9223372036854775808≤t∧t<18446744073709551616:=by unfold isW at *; unfold val at e; omega
theorem QoC (a b c d:Int):val a b c (d-9223372036854775808)=val a b c d-57896044618658097711785492504343953926634992332820282019728792003956564819968:=by unfold val; omega
theorem sub (a b:Int) (ha:isN a) (hb:isN b) (w:World) :
    Calls Tryz.prog 96 #[num a,num b] w (Ret w (num ((a-b)%p))):=by
  obtain ⟨x0,x1,x2,x3,wx0,wx1,wx2,wx3,ex,eX⟩:=Qdm a ha
  obtain ⟨y0,y1,y2,y3,wy0,wy1,wy2,wy3,ey,eY⟩:=Qdm b hb
  obtain ⟨v0,c0,wv0,wc0,e0,r0⟩:=Qg9 x0 y0 0 wx0 wy0 (by decide)
  obtain ⟨v1,c1,wv1,wc1,e1,r1⟩:=Qg9 x1 y1 c0 wx1 wy1 wc0
  obtain ⟨v2,c2,wv2,wc2,e2,r2⟩:=Qg9 x2 y2 c1 wx2 wy2 wc1
  obtain ⟨v3,c3,wv3,wc3,e3,r3⟩:=Qg9 x3 y3 c2 wx3 wy3 wc2
  have hs:val v0 v1 v2 v3=a-b+115792089237316195423570985008687907853269984665640564039457584007913129639936*c3:=by unfold val at *; omega
  rw [eX,eY]
  rcases (by omega:c3=0∨c3=1) with rfl | rfl
  · obtain ⟨u0,d0,wu0,wd0,f0,s0⟩:=Qg9 v0 0 0 wv0 zero_isW (by decide)
    obtain ⟨u1,d1,wu1,wd1,f1,s1⟩:=Qg9 v1 0 d0 wv1 zero_isW wd0
    obtain ⟨u2,d2,wu2,wd2,f2,s2⟩:=Qg9 v2 0 d1 wv2 zero_isW wd1
    have k0:d0=0:=by unfold isW at *; omega
    subst k0
    have k1:d1=0:=by unfold isW at *; omega
    subst k1
    have k2:d2=0:=by unfold isW at *; omega
    subst k2
    have hr:num ((a-b)%p)=words u0 u1 u2 v3:=by
      rw [Qgr _ _ _ _ wu0 wu1 wu2 wv3,zaC (by unfold isN isW val at *; omega) (by unfold isN isW val at *; omega)]
      congr 1
      unfold val at *
      omega
    have w3:=wrap64 v3 wv3
    have z3:=xor_zero v3 wv3
    rw [hr]
    clear hr hs e0 e1 e2 e3 f0 f1 f2 ex ey eX eY ha hb
    unfold words
    go_enter Tryz.func96,Tryz.ntmps96
    go_wp2_with fail
    exact bodyPost_ret (Qgm (t:=4) rfl rfl (QbK _ _ _ _)) rfl ⟨rfl,ext3 _ _ _ _⟩
  · obtain ⟨u0,d0,wu0,wd0,f0,s0⟩:=Qg9 v0 19 0 wv0 (by unfold isW; decide) (by decide)
    obtain ⟨u1,d1,wu1,wd1,f1,s1⟩:=Qg9 v1 0 d0 wv1 zero_isW wd0
    obtain ⟨u2,d2,wu2,wd2,f2,s2⟩:=Qg9 v2 0 d1 wv2 zero_isW wd1
    have hu:=Qoa v0 v1 v2 v3 u0 u1 u2 d0 d1 d2 f0 f1 f2
    have hlo:=Qlo v0 v1 v2 v3 wv0 wv1 wv2 wv3
    have hV:val u0 u1 u2 (v3-d2)=a-b+115792089237316195423570985008687907853269984665640564039457584007913129639917:=by rw [hu,hs]; omega
    have hb3:=Qk5 u0 u1 u2 (v3-d2) _ wu0 wu1 wu2 hV (by have:=ha.1; have:=hb.2; unfold p at this; omega) (by rw [hs] at hlo; omega)
    have hr:num ((a-b)%p)=words u0 u1 u2 (v3-d2-9223372036854775808):=by
      rw [Qgr _ _ _ _ wu0 wu1 wu2 (by unfold isW; omega),←zaH,zaC (by have:=ha.1; have:=hb.2; omega) (by rw [hs] at hlo; omega)]
      congr 1
      have e:=QoC u0 u1 u2 (v3-d2)
      rw [hV] at e
      rw [e]
      unfold p
      omega
    have w3:=wrap64 (v3-d2) (by unfold isW; omega)
    have z3:=QmQ (v3-d2) hb3
    rw [hr]
    clear hr hs e0 e1 e2 e3 f0 f1 f2 ex ey eX eY ha hb hb3
    unfold words
    go_enter Tryz.func96,Tryz.ntmps96
    go_wp2_with fail
    exact bodyPost_ret (Qgm (t:=4) rfl rfl (QbK _ _ _ _)) rfl ⟨rfl,ext3 _ _ _ _⟩
end Field
end
section
namespace Field
open Go Go.RowKit
open Rely
theorem Qpl (x0 x1 x2 x3 y0 y1 y2 y3:Int):val x0 x1 x2 x3*val y0 y1 y2 y3=(x0*y0)+18446744073709551616*(x0*y1)+340282366920938463463374607431768211456*(x0*y2)+6277101735386680763835789423207666416102355444464034512896*(x0*y3)+18446744073709551616*(x1*y0)+340282366920938463463374607431768211456*(x1*y1)+6277101735386680763835789423207666416102355444464034512896*(x1*y2)+115792089237316195423570985008687907853269984665640564039457584007913129639936*(x1*y3)+340282366920938463463374607431768211456*(x2*y0)+6277101735386680763835789423207666416102355444464034512896*(x2*y1)+115792089237316195423570985008687907853269984665640564039457584007913129639936*(x2*y2)+2135987035920910082395021706169552114602704522356652769947041607822219725780640550022962086936576*(x2*y3)+6277101735386680763835789423207666416102355444464034512896*(x3*y0)+115792089237316195423570985008687907853269984665640564039457584007913129639936*(x3*y1)+2135987035920910082395021706169552114602704522356652769947041607822219725780640550022962086936576*(x3*y2)+39402006196394479212279040100143613805079739270465446667948293404245721771497210611414266254884915640806627990306816*(x3*y3):=by
  unfold val
  grind
theorem Qnz (p00 p01 p02 p03 p10 p11 p12 p13 p20 p21 p22 p23 p30 p31 p32 p33 l00 h00 l01 h01 l02 h02 l03 h03 l10 h10 l11 h11 l12 h12 l13 h13 l20 h20 l21 h21 l22 h22 l23 h23 l30 h30 l31 h31 l32 h32 l33 h33:Int) (q00:l00+18446744073709551616*h00=p00+0+0) (q01:l01+18446744073709551616*h01=p01+0+h00) (q02:l02+18446744073709551616*h02=p02+0+h01) (q03:l03+18446744073709551616*h03=p03+0+h02) (q10:l10+18446744073709551616*h10=p10+l01+0) (q11:l11+18446744073709551616*h11=p11+l02+h10) (q12:l12+18446744073709551616*h12=p12+l03+h11) (q13:l13+18446744073709551616*h13=p13+h03+h12) (q20:l20+18446744073709551616*h20=p20+l11+0) (q21:l21+18446744073709551616*h21=p21+l12+h20) (q22:l22+18446744073709551616*h22=p22+l13+h21) (q23:l23+18446744073709551616*h23=p23+h13+h22) (q30:l30+18446744073709551616*h30=p30+l21+0) (q31:l31+18446744073709551616*h31=p31+l22+h30) (q32:l32+18446744073709551616*h32=p32+l23+h31) (q33:l33+18446744073709551616*h33=p33+h23+h32) :
    l00+18446744073709551616*l10+340282366920938463463374607431768211456*l20+6277101735386680763835789423207666416102355444464034512896*l30+115792089237316195423570985008687907853269984665640564039457584007913129639936*l31+2135987035920910082395021706169552114602704522356652769947041607822219725780640550022962086936576*l32+39402006196394479212279040100143613805079739270465446667948293404245721771497210611414266254884915640806627990306816*l33+726838724295606890549323807888004534353641360687318060281490199180639288113397923326191050713763565560762521606266177933534601628614656*h33=p00+18446744073709551616*p01+340282366920938463463374607431768211456*p02+6277101735386680763835789423207666416102355444464034512896*p03+18446744073709551616*p10+340282366920938463463374607431768211456*p11+6277101735386680763835789423207666416102355444464034512896*p12+115792089237316195423570985008687907853269984665640564039457584007913129639936*p13+340282366920938463463374607431768211456*p20+6277101735386680763835789423207666416102355444464034512896*p21+115792089237316195423570985008687907853269984665640564039457584007913129639936*p22+2135987035920910082395021706169552114602704522356652769947041607822219725780640550022962086936576*p23+6277101735386680763835789423207666416102355444464034512896*p30+115792089237316195423570985008687907853269984665640564039457584007913129639936*p31+2135987035920910082395021706169552114602704522356652769947041607822219725780640550022962086936576*p32+39402006196394479212279040100143613805079739270465446667948293404245721771497210611414266254884915640806627990306816*p33:=by omega
theorem Qn0 (w0 w1 w2 w3 w4 w5 w6 w7 r0 r1 r2 r3 k0 k1 k2 k3 v0 v1 v2 c0 c1 c2 Z:Int) (hr3:isW r3) (hz:w0+18446744073709551616*w1+340282366920938463463374607431768211456*w2+6277101735386680763835789423207666416102355444464034512896*w3+115792089237316195423570985008687907853269984665640564039457584007913129639936*w4+2135987035920910082395021706169552114602704522356652769947041607822219725780640550022962086936576*w5+39402006196394479212279040100143613805079739270465446667948293404245721771497210611414266254884915640806627990306816*w6+726838724295606890549323807888004534353641360687318060281490199180639288113397923326191050713763565560762521606266177933534601628614656*w7=Z)
    (g0:r0+18446744073709551616*k0=w4*38+w0+0) (g1:r1+18446744073709551616*k1=w5*38+w1+k0) (g2:r2+18446744073709551616*k2=w6*38+w2+k1) (g3:r3+18446744073709551616*k3=w7*38+w3+k2)
    (f0:v0+18446744073709551616*c0=r0+19*(2*k3+r3/9223372036854775808)+0) (f1:v1+18446744073709551616*c1=r1+0+c0) (f2:v2+18446744073709551616*c2=r2+0+c1) :
    val v0 v1 v2 (r3%9223372036854775808+c2)=Z-p*(2*(w4+18446744073709551616*w5+340282366920938463463374607431768211456*w6+6277101735386680763835789423207666416102355444464034512896*w7)+(2*k3+r3/9223372036854775808)):=by
  have e:=Int.emod_add_mul_ediv r3 9223372036854775808
  unfold val p
  omega
theorem QlU (r0 r1 r2 r3 k3 v0 v1 v2 c0 c1 c2:Int) (h0:isW r0) (h1:isW r1) (h2:isW r2) (h3:isW r3) (hk:0≤k3∧k3≤39)
    (f0:v0+18446744073709551616*c0=r0+19*(2*k3+r3/9223372036854775808)+0) (f1:v1+18446744073709551616*c1=r1+0+c0) (f2:v2+18446744073709551616*c2=r2+0+c1) :
    val v0 v1 v2 (r3%9223372036854775808+c2)<2*p:=by
  unfold isW at *
  unfold val p
  omega
theorem QnA (w7 w3 k2 r3 k3:Int) (h1:isW w7) (h2:isW w3) (h3:isW k2) (h4:isW k3) (h5:isW r3) (g3:r3+18446744073709551616*k3=w7*38+w3+k2):0≤k3∧k3≤39:=by unfold isW at *; omega
theorem QoE (r : Int) (h:isW r):0≤r/9223372036854775808∧r/9223372036854775808≤1:=by unfold isW at *; omega
theorem Qpr (r c:Int) (h:isW r) (hc:0≤c∧c≤1):isW (r%9223372036854775808+c):=by unfold isW at *; omega
theorem Qqm (k t:Int) (hk:0≤k∧k≤39) (ht:0≤t∧t≤1):bits .or .u64 (k*2) t=2*k+t:=by
  have h:∀ a:Fin 40,∀ b:Fin 2,bits .or .u64 ((a.val:Int)*2) (b.val:Int)=2*(a.val:Int)+(b.val:Int):=by decide +kernel
  have:=h ⟨k.toNat,by omega⟩ ⟨t.toNat,by omega⟩
  simpa [zaI hk.1,zaI ht.1] using this
set_option maxRecDepth 100000 in
theorem mul (a b:Int) (ha:isN a) (hb:isN b) (w:World) :
    Calls Tryz.prog 94 #[num a,num b] w (Ret w (num ((a*b)%p))):=by
  obtain ⟨x0,x1,x2,x3,wx0,wx1,wx2,wx3,ex,eX⟩:=Qdm a ha
  obtain ⟨y0,y1,y2,y3,wy0,wy1,wy2,wy3,ey,eY⟩:=Qdm b hb
  obtain ⟨l00,h00,wl00,wh00,q00,C00⟩:=QcD x0 y0 0 0 wx0 wy0 zero_isW zero_isW
  obtain ⟨l01,h01,wl01,wh01,q01,C01⟩:=QcD x0 y1 0 h00 wx0 wy1 zero_isW wh00
  obtain ⟨l02,h02,wl02,wh02,q02,C02⟩:=QcD x0 y2 0 h01 wx0 wy2 zero_isW wh01
  obtain ⟨l03,h03,wl03,wh03,q03,C03⟩:=QcD x0 y3 0 h02 wx0 wy3 zero_isW wh02
  obtain ⟨l10,h10,wl10,wh10,q10,C10⟩:=QcD x1 y0 l01 0 wx1 wy0 wl01 zero_isW
  obtain ⟨l11,h11,wl11,wh11,q11,C11⟩:=QcD x1 y1 l02 h10 wx1 wy1 wl02 wh10
  obtain ⟨l12,h12,wl12,wh12,q12,C12⟩:=QcD x1 y2 l03 h11 wx1 wy2 wl03 wh11
  obtain ⟨l13,h13,wl13,wh13,q13,C13⟩:=QcD x1 y3 h03 h12 wx1 wy3 wh03 wh12
  obtain ⟨l20,h20,wl20,wh20,q20,C20⟩:=QcD x2 y0 l11 0 wx2 wy0 wl11 zero_isW
  obtain ⟨l21,h21,wl21,wh21,q21,C21⟩:=QcD x2 y1 l12 h20 wx2 wy1 wl12 wh20
  obtain ⟨l22,h22,wl22,wh22,q22,C22⟩:=QcD x2 y2 l13 h21 wx2 wy2 wl13 wh21
  obtain ⟨l23,h23,wl23,wh23,q23,C23⟩:=QcD x2 y3 h13 h22 wx2 wy3 wh13 wh22
  obtain ⟨l30,h30,wl30,wh30,q30,C30⟩:=QcD x3 y0 l21 0 wx3 wy0 wl21 zero_isW
  obtain ⟨l31,h31,wl31,wh31,q31,C31⟩:=QcD x3 y1 l22 h30 wx3 wy1 wl22 wh30
  obtain ⟨l32,h32,wl32,wh32,q32,C32⟩:=QcD x3 y2 l23 h31 wx3 wy2 wl23 wh31
  obtain ⟨l33,h33,wl33,wh33,q33,C33⟩:=QcD x3 y3 h23 h32 wx3 wy3 wh23 wh32
  obtain ⟨r0,k0,wr0,wk0,g0,D0⟩:=QcD l31 38 l00 0 wl31 (by unfold isW; decide) wl00 zero_isW
  obtain ⟨r1,k1,wr1,wk1,g1,D1⟩:=QcD l32 38 l10 k0 wl32 (by unfold isW; decide) wl10 wk0
  obtain ⟨r2,k2,wr2,wk2,g2,D2⟩:=QcD l33 38 l20 k1 wl33 (by unfold isW; decide) wl20 wk1
  obtain ⟨r3,k3,wr3,wk3,g3,D3⟩:=QcD h33 38 l30 k2 wh33 (by unfold isW; decide) wl30 wk2
  have hk3:=QnA h33 l30 k2 r3 k3 wh33 wl30 wk2 wk3 wr3 g3
  have ht:=QoE r3 wr3
  have ob:=Qqm k3 (r3/9223372036854775808) hk3 ht
  have u1:=wrap64 (k3*2) (by unfold isW; omega)
  have u2:=wrap64 (19*(2*k3+r3/9223372036854775808)) (by unfold isW; omega)
  obtain ⟨v0,c0,wv0,wc0,f0,s0⟩:=add64 r0 (19*(2*k3+r3/9223372036854775808)) 0 wr0 (by unfold isW; omega) (by decide)
  obtain ⟨v1,c1,wv1,wc1,f1,s1⟩:=add64 r1 0 c0 wr1 zero_isW wc0
  obtain ⟨v2,c2,wv2,wc2,f2,s2⟩:=add64 r2 0 c1 wr2 zero_isW wc1
  have to:=QiS r3 wr3
  have wv3:isW (r3%9223372036854775808+c2):=Qpr r3 c2 wr3 wc2
  have u3:=wrap64 _ wv3
  have Z:=(Qnz (x0*y0) (x0*y1) (x0*y2) (x0*y3) (x1*y0) (x1*y1) (x1*y2) (x1*y3) (x2*y0) (x2*y1) (x2*y2) (x2*y3) (x3*y0) (x3*y1) (x3*y2) (x3*y3) l00 h00 l01 h01 l02 h02 l03 h03 l10 h10 l11 h11 l12 h12 l13 h13 l20 h20 l21 h21 l22 h22 l23 h23 l30 h30 l31 h31 l32 h32 l33 h33 q00 q01 q02 q03 q10 q11 q12 q13 q20 q21 q22 q23 q30 q31 q32 q33).trans (Qpl x0 x1 x2 x3 y0 y1 y2 y3).symm
  rw [ex,ey] at Z
  have F:=Qn0 l00 l10 l20 l30 l31 l32 l33 h33 r0 r1 r2 r3 k0 k1 k2 k3 v0 v1 v2 c0 c1 c2 _ wr3 Z g0 g1 g2 g3 f0 f1 f2
  have C:∀ w,Calls Tryz.prog 112 #[.int .u64 v0,.int .u64 v1,.int .u64 v2,.int .u64 (r3%9223372036854775808+c2)] w (Ret w (num ((a*b)%p))):=fun w=>by
    have:=reduced v0 v1 v2 (r3%9223372036854775808+c2) wv0 wv1 wv2 wv3 (QlU r0 r1 r2 r3 k3 v0 v1 v2 c0 c1 c2 wr0 wr1 wr2 wr3 hk3 f0 f1 f2) w
    rw [F,Int.sub_mul_emod_self_left] at this
    exact this
  clear F Z
  rw [eX,eY]
  generalize (a*b)%p=r at *
  have HC00:=Lib.hid C00
  have HC01:=Lib.hid C01
  have HC02:=Lib.hid C02
  have HC03:=Lib.hid C03
  have HC10:=Lib.hid C10
  have HC11:=Lib.hid C11
  have HC12:=Lib.hid C12
  have HC13:=Lib.hid C13
  have HC20:=Lib.hid C20
  have HC21:=Lib.hid C21
  have HC22:=Lib.hid C22
  have HC23:=Lib.hid C23
  have HC30:=Lib.hid C30
  have HC31:=Lib.hid C31
  have HC32:=Lib.hid C32
  have HC33:=Lib.hid C33
  have HD0:=Lib.hid D0
  have HD1:=Lib.hid D1
  have HD2:=Lib.hid D2
  have HD3:=Lib.hid D3
  have HC:=Lib.hid C
  clear C C00 C01 C02 C03 C10 C11 C12 C13 C20 C21 C22 C23 C30 C31 C32 C33 D0 D1 D2 D3 q00 q01 q02 q03 q10 q11 q12 q13 q20 q21 q22 q23 q30 q31 q32 q33 g0 g1 g2 g3 f0 f1 f2 ex ey eX eY ha hb
  unfold words
  go_enter Tryz.func94,Tryz.ntmps94
  go_wp2_with first
    | (go_at_call 110
       first
         | (with_reducible refine (HC00.out _).mono ?_)
         | (with_reducible refine (HC01.out _).mono ?_)
         | (with_reducible refine (HC02.out _).mono ?_)
         | (with_reducible refine (HC03.out _).mono ?_)
         | (with_reducible refine (HC10.out _).mono ?_)
         | (with_reducible refine (HC11.out _).mono ?_)
         | (with_reducible refine (HC12.out _).mono ?_)
         | (with_reducible refine (HC13.out _).mono ?_)
         | (with_reducible refine (HC20.out _).mono ?_)
         | (with_reducible refine (HC21.out _).mono ?_)
         | (with_reducible refine (HC22.out _).mono ?_)
         | (with_reducible refine (HC23.out _).mono ?_)
         | (with_reducible refine (HC30.out _).mono ?_)
         | (with_reducible refine (HC31.out _).mono ?_)
         | (with_reducible refine (HC32.out _).mono ?_)
         | (with_reducible refine (HC33.out _).mono ?_)
         | (with_reducible refine (HD0.out _).mono ?_)
         | (with_reducible refine (HD1.out _).mono ?_)
         | (with_reducible refine (HD2.out _).mono ?_)
         | (with_reducible refine (HD3.out _).mono ?_)
       rintro e w' ⟨rfl,rfl⟩)
    | (go_at_call 112
       (with_reducible refine (HC.out _).mono ?_)
       rintro e w' ⟨rfl,hw⟩)
    | (with_reducible show wpList _ _ _ ((⟨_,.store 126 _ _,_,_,_,_⟩:Oper)::_) _ _
       refine wpList_store_row rfl 126 _ _ rfl (w.heap.size+2) (numA r) rfl rfl 126 _ ((hw.block _ (by simp)).trans (QbK _ _ _ _)) Qco rfl (Qdn _) ?_)
  exact bodyPost_ret (QdX (t:=4) rfl rfl (setRow_heap _ _ _ _ _ _ ((hw.block _ (by simp)).trans (QbK _ _ _ _)))) rfl ⟨rfl,below_setRow (zbS (ext3 _ _ _ _) hw) (by omega) _⟩
end Field
end
section
namespace Field
open Go Go.RowKit
open Rely
theorem equal (a b:Int) (ha:isN a) (hb:isN b) (w:World):Calls Tryz.prog 98 #[num a,num b] w (Ret w (.bool (a==b))):=by
  obtain ⟨x0,x1,x2,x3,wx0,wx1,wx2,wx3,ex,eX⟩:=Qdm a ha
  obtain ⟨y0,y1,y2,y3,wy0,wy1,wy2,wy3,ey,eY⟩:=Qdm b hb
  have q:∀ W,(Op.equalIn 9999 124 (.agg #[.int .u64 x0,.int .u64 x1,.int .u64 x2,.int .u64 x3]) (.agg #[.int .u64 y0,.int .u64 y1,.int .u64 y2,.int .u64 y3])).run Tryz.prog W=.ok (a==b) W:=fun W=>by
    have h:=QfI (P:=Tryz.prog) W 9997 Tryz.underlying124 Tryz.underlying115 (by kernel_rfl) [x0,x1,x2,x3] [y0,y1,y2,y3] rfl rfl
    have e:decide ([x0,x1,x2,x3]=[y0,y1,y2,y3])=(a==b):=by
      have:[x0,x1,x2,x3]=[y0,y1,y2,y3]↔a=b:=by
        simp only [List.cons.injEq,and_true]
        unfold isW val at *
        constructor <;> omega
      rw [Bool.eq_iff_iff]
      simp only [decide_eq_true_eq,beq_iff_eq,this]
    rw [e] at h
    exact h
  have HQ:=Lib.hid q
  clear q
  rw [eX,eY]
  have q:=HQ.out
  clear HQ ex ey eX eY
  generalize (a==b)=r at *
  unfold words
  cases r
  all_goals
    go_enter Tryz.func98,Tryz.ntmps98
    go_wp2_with fail
    go_ret
    exact ⟨rfl,zbS (QaK _ _) (QaK _ _)⟩
theorem QhT (n : Int) (h:0≤n∧n<9223372036854775808) (w:World):Calls Tryz.prog 71 #[.int .i64 n] w (Ret w (num (n%p))):=by
  have hw:=wrap64 n (by unfold isW; omega)
  have e:num (n%p)=words n 0 0 0:=by
    rw [Qgr n 0 0 0 (by unfold isW; omega) zero_isW zero_isW zero_isW]
    congr 1
    unfold val p
    omega
  rw [e]
  have hlt:¬ n<0:=by omega
  unfold words
  go_enter Tryz.func71,Tryz.ntmps71
  go_wp2_with fail
  exact bodyPost_ret (Qgm (t:=2) rfl rfl (heap_alloc_new w _)) rfl ⟨rfl,QaK _ _⟩
end Field
end
section
namespace Field
open Go Go.RowKit
open Rely
def QaM (n : Int) (i:Nat):Int:=n/256^i%256
def part (n : Int) (k:Nat):List Int:=(zav 32).map fun i=>if i<k then QaM n i else 0
def Qav (n : Int):List Int:=part n 32
theorem wb0 (x0 x1 x2 x3:Int) (h0:isW x0) (h1:isW x1) (h2:isW x2) (h3:isW x3):x0/2^(8*(0%8))%256=QaM (val x0 x1 x2 x3) 0:=by
  have e:(2:Int)^(8*(0%8))=1:=by decide
  have f:(256:Int)^0=1:=by decide
  unfold QaM
  rw [e,f]
  unfold isW val at *
  omega
theorem wb1 (x0 x1 x2 x3:Int) (h0:isW x0) (h1:isW x1) (h2:isW x2) (h3:isW x3):x0/2^(8*(1%8))%256=QaM (val x0 x1 x2 x3) 1:=by
  have e:(2:Int)^(8*(1%8))=256:=by decide
  have f:(256:Int)^1=256:=by decide
  unfold QaM
  rw [e,f]
  unfold isW val at *
  omega
theorem wb2 (x0 x1 x2 x3:Int) (h0:isW x0) (h1:isW x1) (h2:isW x2) (h3:isW x3):x0/2^(8*(2%8))%256=QaM (val x0 x1 x2 x3) 2:=by
  have e:(2:Int)^(8*(2%8))=65536:=by decide
  have f:(256:Int)^2=65536:=by decide
  unfold QaM
  rw [e,f]
  unfold isW val at *
  omega
theorem wb3 (x0 x1 x2 x3:Int) (h0:isW x0) (h1:isW x1) (h2:isW x2) (h3:isW x3):x0/2^(8*(3%8))%256=QaM (val x0 x1 x2 x3) 3:=by
  have e:(2:Int)^(8*(3%8))=16777216:=by decide
  have f:(256:Int)^3=16777216:=by decide
  unfold QaM
  rw [e,f]
  unfold isW val at *
  omega
theorem wb4 (x0 x1 x2 x3:Int) (h0:isW x0) (h1:isW x1) (h2:isW x2) (h3:isW x3):x0/2^(8*(4%8))%256=QaM (val x0 x1 x2 x3) 4:=by
  have e:(2:Int)^(8*(4%8))=4294967296:=by decide
  have f:(256:Int)^4=4294967296:=by decide
  unfold QaM
  rw [e,f]
  unfold isW val at *
  omega
theorem wb5 (x0 x1 x2 x3:Int) (h0:isW x0) (h1:isW x1) (h2:isW x2) (h3:isW x3):x0/2^(8*(5%8))%256=QaM (val x0 x1 x2 x3) 5:=by
  have e:(2:Int)^(8*(5%8))=1099511627776:=by decide
  have f:(256:Int)^5=1099511627776:=by decide
  unfold QaM
  rw [e,f]
  unfold isW val at *
  omega
theorem wb6 (x0 x1 x2 x3:Int) (h0:isW x0) (h1:isW x1) (h2:isW x2) (h3:isW x3):x0/2^(8*(6%8))%256=QaM (val x0 x1 x2 x3) 6:=by
  have e:(2:Int)^(8*(6%8))=281474976710656:=by decide
  have f:(256:Int)^6=281474976710656:=by decide
  unfold QaM
  rw [e,f]
  unfold isW val at *
  omega
theorem wb7 (x0 x1 x2 x3:Int) (h0:isW x0) (h1:isW x1) (h2:isW x2) (h3:isW x3):x0/2^(8*(7%8))%256=QaM (val x0 x1 x2 x3) 7:=by
  have e:(2:Int)^(8*(7%8))=72057594037927936:=by decide
  have f:(256:Int)^7=72057594037927936:=by decide
  unfold QaM
  rw [e,f]
  unfold isW val at *
  omega
theorem wb8 (x0 x1 x2 x3:Int) (h0:isW x0) (h1:isW x1) (h2:isW x2) (h3:isW x3):x1/2^(8*(8%8))%256=QaM (val x0 x1 x2 x3) 8:=by
  have e:(2:Int)^(8*(8%8))=1:=by decide
  have f:(256:Int)^8=18446744073709551616:=by decide
  unfold QaM
  rw [e,f]
  unfold isW val at *
  omega
theorem wb9 (x0 x1 x2 x3:Int) (h0:isW x0) (h1:isW x1) (h2:isW x2) (h3:isW x3):x1/2^(8*(9%8))%256=QaM (val x0 x1 x2 x3) 9:=by
  have e:(2:Int)^(8*(9%8))=256:=by decide
  have f:(256:Int)^9=4722366482869645213696:=by decide
  unfold QaM
  rw [e,f]
  unfold isW val at *
  omega
theorem wb10 (x0 x1 x2 x3:Int) (h0:isW x0) (h1:isW x1) (h2:isW x2) (h3:isW x3):x1/2^(8*(10%8))%256=QaM (val x0 x1 x2 x3) 10:=by
  have e:(2:Int)^(8*(10%8))=65536:=by decide
  have f:(256:Int)^10=1208925819614629174706176:=by decide
  unfold QaM
  rw [e,f]
  unfold isW val at *
  omega
theorem wb11 (x0 x1 x2 x3:Int) (h0:isW x0) (h1:isW x1) (h2:isW x2) (h3:isW x3):x1/2^(8*(11%8))%256=QaM (val x0 x1 x2 x3) 11:=by
  have e:(2:Int)^(8*(11%8))=16777216:=by decide
  have f:(256:Int)^11=309485009821345068724781056:=by decide
  unfold QaM
  rw [e,f]
  unfold isW val at *
  omega
theorem wb12 (x0 x1 x2 x3:Int) (h0:isW x0) (h1:isW x1) (h2:isW x2) (h3:isW x3):x1/2^(8*(12%8))%256=QaM (val x0 x1 x2 x3) 12:=by
  have e:(2:Int)^(8*(12%8))=4294967296:=by decide
  have f:(256:Int)^12=79228162514264337593543950336:=by decide
  unfold QaM
  rw [e,f]
  unfold isW val at *
  omega
theorem wb13 (x0 x1 x2 x3:Int) (h0:isW x0) (h1:isW x1) (h2:isW x2) (h3:isW x3):x1/2^(8*(13%8))%256=QaM (val x0 x1 x2 x3) 13:=by
  have e:(2:Int)^(8*(13%8))=1099511627776:=by decide
  have f:(256:Int)^13=20282409603651670423947251286016:=by decide
  unfold QaM
  rw [e,f]
  unfold isW val at *
  omega
theorem wb14 (x0 x1 x2 x3:Int) (h0:isW x0) (h1:isW x1) (h2:isW x2) (h3:isW x3):x1/2^(8*(14%8))%256=QaM (val x0 x1 x2 x3) 14:=by
  have e:(2:Int)^(8*(14%8))=281474976710656:=by decide
  have f:(256:Int)^14=5192296858534827628530496329220096:=by decide
  unfold QaM
  rw [e,f]
  unfold isW val at *
  omega
theorem wb15 (x0 x1 x2 x3:Int) (h0:isW x0) (h1:isW x1) (h2:isW x2) (h3:isW x3):x1/2^(8*(15%8))%256=QaM (val x0 x1 x2 x3) 15:=by
  have e:(2:Int)^(8*(15%8))=72057594037927936:=by decide
  have f:(256:Int)^15=1329227995784915872903807060280344576:=by decide
  unfold QaM
  rw [e,f]
  unfold isW val at *
  omega
theorem wb16 (x0 x1 x2 x3:Int) (h0:isW x0) (h1:isW x1) (h2:isW x2) (h3:isW x3):x2/2^(8*(16%8))%256=QaM (val x0 x1 x2 x3) 16:=by
  have e:(2:Int)^(8*(16%8))=1:=by decide
  have f:(256:Int)^16=340282366920938463463374607431768211456:=by decide
  unfold QaM
  rw [e,f]
  unfold isW val at *
  omega
theorem wb17 (x0 x1 x2 x3:Int) (h0:isW x0) (h1:isW x1) (h2:isW x2) (h3:isW x3):x2/2^(8*(17%8))%256=QaM (val x0 x1 x2 x3) 17:=by
  have e:(2:Int)^(8*(17%8))=256:=by decide
  have f:(256:Int)^17=87112285931760246646623899502532662132736:=by decide
  unfold QaM
  rw [e,f]
  unfold isW val at *
  omega
theorem wb18 (x0 x1 x2 x3:Int) (h0:isW x0) (h1:isW x1) (h2:isW x2) (h3:isW x3):x2/2^(8*(18%8))%256=QaM (val x0 x1 x2 x3) 18:=by
  have e:(2:Int)^(8*(18%8))=65536:=by decide
  have f:(256:Int)^18=22300745198530623141535718272648361505980416:=by decide
  unfold QaM
  rw [e,f]
  unfold isW val at *
  omega
theorem wb19 (x0 x1 x2 x3:Int) (h0:isW x0) (h1:isW x1) (h2:isW x2) (h3:isW x3):x2/2^(8*(19%8))%256=QaM (val x0 x1 x2 x3) 19:=by
  have e:(2:Int)^(8*(19%8))=16777216:=by decide
  have f:(256:Int)^19=5708990770823839524233143877797980545530986496:=by decide
  unfold QaM
  rw [e,f]
  unfold isW val at *
  omega
theorem wb20 (x0 x1 x2 x3:Int) (h0:isW x0) (h1:isW x1) (h2:isW x2) (h3:isW x3):x2/2^(8*(20%8))%256=QaM (val x0 x1 x2 x3) 20:=by
  have e:(2:Int)^(8*(20%8))=4294967296:=by decide
  have f:(256:Int)^20=1461501637330902918203684832716283019655932542976:=by decide
  unfold QaM
  rw [e,f]
  unfold isW val at *
  omega
theorem wb21 (x0 x1 x2 x3:Int) (h0:isW x0) (h1:isW x1) (h2:isW x2) (h3:isW x3):x2/2^(8*(21%8))%256=QaM (val x0 x1 x2 x3) 21:=by
  have e:(2:Int)^(8*(21%8))=1099511627776:=by decide
  have f:(256:Int)^21=374144419156711147060143317175368453031918731001856:=by decide
  unfold QaM
  rw [e,f]
  unfold isW val at *
  omega
theorem wb22 (x0 x1 x2 x3:Int) (h0:isW x0) (h1:isW x1) (h2:isW x2) (h3:isW x3):x2/2^(8*(22%8))%256=QaM (val x0 x1 x2 x3) 22:=by
  have e:(2:Int)^(8*(22%8))=281474976710656:=by decide
  have f:(256:Int)^22=95780971304118053647396689196894323976171195136475136:=by decide
  unfold QaM
  rw [e,f]
  unfold isW val at *
  omega
theorem wb23 (x0 x1 x2 x3:Int) (h0:isW x0) (h1:isW x1) (h2:isW x2) (h3:isW x3):x2/2^(8*(23%8))%256=QaM (val x0 x1 x2 x3) 23:=by
  have e:(2:Int)^(8*(23%8))=72057594037927936:=by decide
  have f:(256:Int)^23=24519928653854221733733552434404946937899825954937634816:=by decide
  unfold QaM
  rw [e,f]
  unfold isW val at *
  omega
theorem wb24 (x0 x1 x2 x3:Int) (h0:isW x0) (h1:isW x1) (h2:isW x2) (h3:isW x3):x3/2^(8*(24%8))%256=QaM (val x0 x1 x2 x3) 24:=by
  have e:(2:Int)^(8*(24%8))=1:=by decide
  have f:(256:Int)^24=6277101735386680763835789423207666416102355444464034512896:=by decide
  unfold QaM
  rw [e,f]
  unfold isW val at *
  omega
theorem wb25 (x0 x1 x2 x3:Int) (h0:isW x0) (h1:isW x1) (h2:isW x2) (h3:isW x3):x3/2^(8*(25%8))%256=QaM (val x0 x1 x2 x3) 25:=by
  have e:(2:Int)^(8*(25%8))=256:=by decide
  have f:(256:Int)^25=1606938044258990275541962092341162602522202993782792835301376:=by decide
  unfold QaM
  rw [e,f]
  unfold isW val at *
  omega
theorem wb26 (x0 x1 x2 x3:Int) (h0:isW x0) (h1:isW x1) (h2:isW x2) (h3:isW x3):x3/2^(8*(26%8))%256=QaM (val x0 x1 x2 x3) 26:=by
  have e:(2:Int)^(8*(26%8))=65536:=by decide
  have f:(256:Int)^26=411376139330301510538742295639337626245683966408394965837152256:=by decide
  unfold QaM
  rw [e,f]
  unfold isW val at *
  omega
theorem wb27 (x0 x1 x2 x3:Int) (h0:isW x0) (h1:isW x1) (h2:isW x2) (h3:isW x3):x3/2^(8*(27%8))%256=QaM (val x0 x1 x2 x3) 27:=by
  have e:(2:Int)^(8*(27%8))=16777216:=by decide
  have f:(256:Int)^27=105312291668557186697918027683670432318895095400549111254310977536:=by decide
  unfold QaM
  rw [e,f]
  unfold isW val at *
  omega
theorem wb28 (x0 x1 x2 x3:Int) (h0:isW x0) (h1:isW x1) (h2:isW x2) (h3:isW x3):x3/2^(8*(28%8))%256=QaM (val x0 x1 x2 x3) 28:=by
  have e:(2:Int)^(8*(28%8))=4294967296:=by decide
  have f:(256:Int)^28=26959946667150639794667015087019630673637144422540572481103610249216:=by decide
  unfold QaM
  rw [e,f]
  unfold isW val at *
  omega
theorem wb29 (x0 x1 x2 x3:Int) (h0:isW x0) (h1:isW x1) (h2:isW x2) (h3:isW x3):x3/2^(8*(29%8))%256=QaM (val x0 x1 x2 x3) 29:=by
  have e:(2:Int)^(8*(29%8))=1099511627776:=by decide
  have f:(256:Int)^29=6901746346790563787434755862277025452451108972170386555162524223799296:=by decide
  unfold QaM
  rw [e,f]
  unfold isW val at *
  omega
theorem wb30 (x0 x1 x2 x3:Int) (h0:isW x0) (h1:isW x1) (h2:isW x2) (h3:isW x3):x3/2^(8*(30%8))%256=QaM (val x0 x1 x2 x3) 30:=by
  have e:(2:Int)^(8*(30%8))=281474976710656:=by decide
  have f:(256:Int)^30=1766847064778384329583297500742918515827483896875618958121606201292619776:=by decide
  unfold QaM
  rw [e,f]
  unfold isW val at *
  omega
theorem wb31 (x0 x1 x2 x3:Int) (h0:isW x0) (h1:isW x1) (h2:isW x2) (h3:isW x3):x3/2^(8*(31%8))%256=QaM (val x0 x1 x2 x3) 31:=by
  have e:(2:Int)^(8*(31%8))=72057594037927936:=by decide
  have f:(256:Int)^31=452312848583266388373324160190187140051835877600158453279131187530910662656:=by decide
  unfold QaM
  rw [e,f]
  unfold isW val at *
  omega
theorem QoA (x0 x1 x2 x3 n:Int) (h0:isW x0) (h1:isW x1) (h2:isW x2) (h3:isW x3) (e:val x0 x1 x2 x3=n) (k:Nat) (hk:k<32) :
    ∃ y,isW y∧(#[Value.int .u64 x0,.int .u64 x1,.int .u64 x2,.int .u64 x3]:Array Value)[k/8]? = some (.int .u64 y)∧y/2^(8*(k%8))%256=QaM n k:=by
  subst e
  rcases (by omega:k=0∨k=1∨k=2∨k=3∨k=4∨k=5∨k=6∨k=7∨k=8∨k=9∨k=10∨k=11∨k=12∨k=13∨k=14∨k=15∨k=16∨k=17∨k=18∨k=19∨k=20∨k=21∨k=22∨k=23∨k=24∨k=25∨k=26∨k=27∨k=28∨k=29∨k=30∨k=31) with rfl | rfl | rfl | rfl | rfl | rfl | rfl | rfl | rfl | rfl | rfl | rfl | rfl | rfl | rfl | rfl | rfl | rfl | rfl | rfl | rfl | rfl | rfl | rfl | rfl | rfl | rfl | rfl | rfl | rfl | rfl | rfl
  · exact ⟨x0,h0,rfl,wb0 x0 x1 x2 x3 h0 h1 h2 h3⟩
  · exact ⟨x0,h0,rfl,wb1 x0 x1 x2 x3 h0 h1 h2 h3⟩
  · exact ⟨x0,h0,rfl,wb2 x0 x1 x2 x3 h0 h1 h2 h3⟩
  · exact ⟨x0,h0,rfl,wb3 x0 x1 x2 x3 h0 h1 h2 h3⟩
  · exact ⟨x0,h0,rfl,wb4 x0 x1 x2 x3 h0 h1 h2 h3⟩
  · exact ⟨x0,h0,rfl,wb5 x0 x1 x2 x3 h0 h1 h2 h3⟩
  · exact ⟨x0,h0,rfl,wb6 x0 x1 x2 x3 h0 h1 h2 h3⟩
  · exact ⟨x0,h0,rfl,wb7 x0 x1 x2 x3 h0 h1 h2 h3⟩
  · exact ⟨x1,h1,rfl,wb8 x0 x1 x2 x3 h0 h1 h2 h3⟩
  · exact ⟨x1,h1,rfl,wb9 x0 x1 x2 x3 h0 h1 h2 h3⟩
  · exact ⟨x1,h1,rfl,wb10 x0 x1 x2 x3 h0 h1 h2 h3⟩
  · exact ⟨x1,h1,rfl,wb11 x0 x1 x2 x3 h0 h1 h2 h3⟩
  · exact ⟨x1,h1,rfl,wb12 x0 x1 x2 x3 h0 h1 h2 h3⟩
  · exact ⟨x1,h1,rfl,wb13 x0 x1 x2 x3 h0 h1 h2 h3⟩
  · exact ⟨x1,h1,rfl,wb14 x0 x1 x2 x3 h0 h1 h2 h3⟩
  · exact ⟨x1,h1,rfl,wb15 x0 x1 x2 x3 h0 h1 h2 h3⟩
  · exact ⟨x2,h2,rfl,wb16 x0 x1 x2 x3 h0 h1 h2 h3⟩
  · exact ⟨x2,h2,rfl,wb17 x0 x1 x2 x3 h0 h1 h2 h3⟩
  · exact ⟨x2,h2,rfl,wb18 x0 x1 x2 x3 h0 h1 h2 h3⟩
  · exact ⟨x2,h2,rfl,wb19 x0 x1 x2 x3 h0 h1 h2 h3⟩
  · exact ⟨x2,h2,rfl,wb20 x0 x1 x2 x3 h0 h1 h2 h3⟩
  · exact ⟨x2,h2,rfl,wb21 x0 x1 x2 x3 h0 h1 h2 h3⟩
  · exact ⟨x2,h2,rfl,wb22 x0 x1 x2 x3 h0 h1 h2 h3⟩
  · exact ⟨x2,h2,rfl,wb23 x0 x1 x2 x3 h0 h1 h2 h3⟩
  · exact ⟨x3,h3,rfl,wb24 x0 x1 x2 x3 h0 h1 h2 h3⟩
  · exact ⟨x3,h3,rfl,wb25 x0 x1 x2 x3 h0 h1 h2 h3⟩
  · exact ⟨x3,h3,rfl,wb26 x0 x1 x2 x3 h0 h1 h2 h3⟩
  · exact ⟨x3,h3,rfl,wb27 x0 x1 x2 x3 h0 h1 h2 h3⟩
  · exact ⟨x3,h3,rfl,wb28 x0 x1 x2 x3 h0 h1 h2 h3⟩
  · exact ⟨x3,h3,rfl,wb29 x0 x1 x2 x3 h0 h1 h2 h3⟩
  · exact ⟨x3,h3,rfl,wb30 x0 x1 x2 x3 h0 h1 h2 h3⟩
  · exact ⟨x3,h3,rfl,wb31 x0 x1 x2 x3 h0 h1 h2 h3⟩
theorem Qhw (n : Int) (k:Nat) (hk:k<32):(ints .u8 (part n k))[k]? = some (.int .u8 0):=by
  rw [Qay _ _ _ (by simp [part,hk])]
  simp [nth,part,hk]
theorem Qhv (n : Int) (k:Nat) (hk:k<32):(ints .u8 (part n k)).setIfInBounds k (.int .u8 (QaM n k))=ints .u8 (part n (k+1)):=by
  rw [QbP]
  congr 1
  apply zaJ
  · simp [part]
  · intro i h1 h2
    simp only [part,zaK,zaL,zaM]
    by_cases hi:k=i
    · subst hi; simp
    · simp only [hi,if_false]
      by_cases hl:i<k
      · rw [if_pos hl,if_pos (by omega)]
      · rw [if_neg hl,if_neg (by omega)]
theorem Qcx (w : World) (a b c:Obj):(((w.alloc a).alloc b).alloc c).heap[w.heap.size+1]? = some b:=by
  rw [Below.heap_alloc _ _ _ (by simp)]
  have:=heap_alloc_new (w.alloc a) b
  simpa using this
theorem infoKey : (Tryz.prog.info? 23).map (·.size)=some 32:=by kernel_rfl
theorem ints_one (k : IntKind) (xs:List Int):(ints k xs).all (·.oneCell')=true:=by simp [ints,zaF]
theorem bytes (n : Int) (hn:isN n) (w:World):Calls Tryz.prog 72 #[num n] w (Ret w (.agg (ints .u8 (Qav n)))):=by
  obtain ⟨x0,x1,x2,x3,wx0,wx1,wx2,wx3,ex,eX⟩:=Qdm n hn
  rw [eX]
  clear eX
  unfold words
  go_enter Tryz.func72,Tryz.ntmps72
  go_wp2_with fail
  go_loopw [5] (fun i wr=>∃ k:Nat,k≤32∧i=.int .i64 k∧∃ b,b.size=32∧wr=((w.alloc (.cells #[.int .u64 x0,.int .u64 x1,.int .u64 x2,.int .u64 x3] 126)).alloc (.cells b 23)).alloc (.cells (ints .u8 (part n k)) 23)) (fun i _=>32-(intOf i).toNat)
  case atStart=>exact ⟨0,by omega,rfl,_,rfl,rfl⟩
  case round =>
    obtain ⟨k,hk,rfl,b,hbs,rfl⟩:=hrel
    by_cases hlt:k<32
    · obtain ⟨y,wy,hy,hby⟩:=QoA x0 x1 x2 x3 n wx0 wx1 wx2 wx3 ex k hlt
      have hg:=Qhw n k hlt
      have hs:=Qhv n k hlt
      go_wp2
      exact ⟨⟨k+1,by omega,by go_num,b,hbs,rfl⟩,by simp [intOf]; omega⟩
    · obtain rfl:k=32:=by omega
      have hi:(Tryz.prog.info? 23).map (·.size)=some (ints .u8 (Qav n)).size:=by rw [infoKey,QaD]; rfl
      have hbl:b.size=(ints .u8 (Qav n)).size:=by rw [hbs,QaD]; rfl
      go_wp2_with first
        | (with_reducible show wpList _ _ _ ((⟨_,.load 23 _,_,_,_,_⟩:Oper)::_) _ _
           refine wpList_load_row rfl 23 _ rfl (w.heap.size+2) rfl 23 (ints .u8 (Qav n)) (0,0) _ (QbK _ _ _ _) Tryz.underlying23 rfl hi ?_)
        | (with_reducible show wpList _ _ _ ((⟨_,.store 23 _ _,_,_,_,_⟩:Oper)::_) _ _
           refine wpList_store_row rfl 23 _ _ rfl (w.heap.size+1) (ints .u8 (Qav n)) rfl rfl 23 _ (Qcx _ _ _ _) hi hbl (ints_one _ _) ?_)
      exact bodyPost_ret (v:=.agg (ints .u8 (Qav n))) (results_cell_row (p:=2) rfl _ _ (w.heap.size+1) 23 (ints .u8 (Qav n)) (0,0) _ rfl (setRow_heap _ _ _ _ _ _ (Qcx _ _ _ _)) Tryz.underlying23 rfl hi) rfl ⟨rfl,below_setRow (ext3 _ _ _ _) (by omega) _⟩
end Field
end
section
namespace Field
open Go Go.RowKit
open Rely
def Drew (w w':World):Prop:=∃ n,w'=w.drewN n
theorem Drew.refl (w : World):Drew w w:=⟨0,rfl⟩
theorem Drew.trans {a b c:World}:Drew a b→Drew b c→Drew a c:=fun ⟨m,h⟩ ⟨n,k⟩=>⟨m+n,by subst h; subst k; simp⟩
theorem run_index_ints {P : Program} (W:World) {t e:TypeId} {n:Nat} {k ki:IntKind} (ht:P.underlying t=some (.array n e)) (he:P.underlying e=some (.int k)) (hq:(P.info? e).map (·.size)=some 1)
    (xs:List Int) (hl:xs.length=n) (i:Nat) (hi:i<n):(Instr.index t (.agg (ints k xs)) (.int ki (i:Int))).run P W=.ok (.int k (nth xs i)) W:=by
  have hp:P.plainKey e=true:=by simp [Program.plainKey,he]
  have a1:=run_part_plain W hp (Qay k xs i (by omega))
  unfold Instr.index
  cases hI:P.info? e with
  | none=>simp [hI] at hq
  | some inf =>
    have hs:inf.size=1:=by simpa [hI] using hq
    have h1:((0:Int)≤(i:Int)∧(i:Int)<(n:Int)):=by omega
    simp [asIntOf,run_underlying ht,zam,sizeOf,typeInfo,hI,hs,hi,a1]
def leAt (xs : List Int) (o:Nat):Nat→Int
  | 0=>0
  | m+1=>leAt xs o m+nth xs (o+m)*256^m
def pw (xs : List Int) (k:Nat):List Int:=[leAt xs 0 (min 8 k),leAt xs 8 (min 8 (k-8)),leAt xs 16 (min 8 (k-16)),leAt xs 24 (min 8 (k-24))]
theorem Qf2 (xs : List Int) (hb:Qaf xs) (o:Nat):∀ m,0≤leAt xs o m∧leAt xs o m<256^m
  | 0=>by simp [leAt]
  | m+1=>by
    have ih:=Qf2 xs hb o m
    have h:=hb.nth (o+m)
    have hp:(0:Int)≤256^m:=by have:=ih.1; have:=ih.2; omega
    have h1:0≤nth xs (o+m)*256^m:=zaA h.1 hp
    have h2:nth xs (o+m)*256^m≤255*256^m:=zaN h.2 hp
    have e:(256:Int)^(m+1)=256*256^m:=by rw [zaO,zaP]
    rw [leAt,e]
    have:=ih.1
    have:=ih.2
    omega
theorem Qns (s x:Int) (m:Nat) (hm:m<8) (hs:0≤s∧s<256^m) (hx:0≤x∧x≤255) :
    bits .or .u64 s (x*2^(8*m))=s+x*256^m∧0≤x*2^(8*m)∧x*2^(8*m)<18446744073709551616:=by
  obtain ⟨S,rfl⟩:=za6 hs.1
  obtain ⟨X,rfl⟩:=za6 hx.1
  have key:∀ i:Nat,S<2^i→X*2^i<18446744073709551616→S<18446744073709551616→bits .or .u64 (S:Int) ((X*2^i:Nat):Int)=((S+X*2^i:Nat):Int):=fun i h1 h2 h3=>by
    rw [u64_or_nat S _ h3 h2,Nat.or_comm,zaQ,←zaG h1,zaR]
  have hX:X≤255:=by omega
  rcases (by omega:m=0∨m=1∨m=2∨m=3∨m=4∨m=5∨m=6∨m=7) with rfl | rfl | rfl | rfl | rfl | rfl | rfl | rfl
  · have h:=key 0 (by have:=hs.2; omega) (by omega) (by have:=hs.2; omega)
    have e:(2:Int)^(8*0)=1:=by decide
    have f:(256:Int)^0=1:=by decide
    rw [e,f]
    refine ⟨?_,by omega,by omega⟩
    have g:((X*2^0:Nat):Int)=(X:Int)*1:=by omega
    rw [g] at h
    rw [h]
    omega
  · have h:=key 8 (by have:=hs.2; omega) (by omega) (by have:=hs.2; omega)
    have e:(2:Int)^(8*1)=256:=by decide
    have f:(256:Int)^1=256:=by decide
    rw [e,f]
    refine ⟨?_,by omega,by omega⟩
    have g:((X*2^8:Nat):Int)=(X:Int)*256:=by omega
    rw [g] at h
    rw [h]
    omega
  · have h:=key 16 (by have:=hs.2; omega) (by omega) (by have:=hs.2; omega)
    have e:(2:Int)^(8*2)=65536:=by decide
    have f:(256:Int)^2=65536:=by decide
    rw [e,f]
    refine ⟨?_,by omega,by omega⟩
    have g:((X*2^16:Nat):Int)=(X:Int)*65536:=by omega
    rw [g] at h
    rw [h]
    omega
  · have h:=key 24 (by have:=hs.2; omega) (by omega) (by have:=hs.2; omega)
    have e:(2:Int)^(8*3)=16777216:=by decide
    have f:(256:Int)^3=16777216:=by decide
    rw [e,f]
    refine ⟨?_,by omega,by omega⟩
    have g:((X*2^24:Nat):Int)=(X:Int)*16777216:=by omega
    rw [g] at h
    rw [h]
    omega
  · have h:=key 32 (by have:=hs.2; omega) (by omega) (by have:=hs.2; omega)
    have e:(2:Int)^(8*4)=4294967296:=by decide
    have f:(256:Int)^4=4294967296:=by decide
    rw [e,f]
    refine ⟨?_,by omega,by omega⟩
    have g:((X*2^32:Nat):Int)=(X:Int)*4294967296:=by omega
    rw [g] at h
    rw [h]
    omega
  · have h:=key 40 (by have:=hs.2; omega) (by omega) (by have:=hs.2; omega)
    have e:(2:Int)^(8*5)=1099511627776:=by decide
    have f:(256:Int)^5=1099511627776:=by decide
    rw [e,f]
    refine ⟨?_,by omega,by omega⟩
    have g:((X*2^40:Nat):Int)=(X:Int)*1099511627776:=by omega
    rw [g] at h
    rw [h]
    omega
  · have h:=key 48 (by have:=hs.2; omega) (by omega) (by have:=hs.2; omega)
    have e:(2:Int)^(8*6)=281474976710656:=by decide
    have f:(256:Int)^6=281474976710656:=by decide
    rw [e,f]
    refine ⟨?_,by omega,by omega⟩
    have g:((X*2^48:Nat):Int)=(X:Int)*281474976710656:=by omega
    rw [g] at h
    rw [h]
    omega
  · have h:=key 56 (by have:=hs.2; omega) (by omega) (by have:=hs.2; omega)
    have e:(2:Int)^(8*7)=72057594037927936:=by decide
    have f:(256:Int)^7=72057594037927936:=by decide
    rw [e,f]
    refine ⟨?_,by omega,by omega⟩
    have g:((X*2^56:Nat):Int)=(X:Int)*72057594037927936:=by omega
    rw [g] at h
    rw [h]
    omega
theorem Qnh (xs : List Int) (hb:Qaf xs) (k:Nat) (hk:k<32):∃ s s',(ints .u64 (pw xs k))[k/8]? = some (.int .u64 s) ∧
    za8.wrap (nth xs k*2^(8*(k%8)))=nth xs k*2^(8*(k%8)) ∧
    bits .or .u64 s (nth xs k*2^(8*(k%8)))=s'∧(ints .u64 (pw xs k)).setIfInBounds (k/8) (.int .u64 s')=ints .u64 (pw xs (k+1)):=by
  have key:=fun o m (hm:m<8)=>Qns (leAt xs o m) (nth xs (o+m)) m hm (Qf2 xs hb o m) (hb.nth (o+m))
  rcases (by omega:k=0∨k=1∨k=2∨k=3∨k=4∨k=5∨k=6∨k=7∨k=8∨k=9∨k=10∨k=11∨k=12∨k=13∨k=14∨k=15∨k=16∨k=17∨k=18∨k=19∨k=20∨k=21∨k=22∨k=23∨k=24∨k=25∨k=26∨k=27∨k=28∨k=29∨k=30∨k=31) with rfl | rfl | rfl | rfl | rfl | rfl | rfl | rfl | rfl | rfl | rfl | rfl | rfl | rfl | rfl | rfl | rfl | rfl | rfl | rfl | rfl | rfl | rfl | rfl | rfl | rfl | rfl | rfl | rfl | rfl | rfl | rfl
  · exact ⟨leAt xs 0 0,leAt xs 0 1,rfl,wrap64 _ (key 0 0 (by decide)).2,(key 0 0 (by decide)).1,rfl⟩
  · exact ⟨leAt xs 0 1,leAt xs 0 2,rfl,wrap64 _ (key 0 1 (by decide)).2,(key 0 1 (by decide)).1,rfl⟩
  · exact ⟨leAt xs 0 2,leAt xs 0 3,rfl,wrap64 _ (key 0 2 (by decide)).2,(key 0 2 (by decide)).1,rfl⟩
  · exact ⟨leAt xs 0 3,leAt xs 0 4,rfl,wrap64 _ (key 0 3 (by decide)).2,(key 0 3 (by decide)).1,rfl⟩
  · exact ⟨leAt xs 0 4,leAt xs 0 5,rfl,wrap64 _ (key 0 4 (by decide)).2,(key 0 4 (by decide)).1,rfl⟩
  · exact ⟨leAt xs 0 5,leAt xs 0 6,rfl,wrap64 _ (key 0 5 (by decide)).2,(key 0 5 (by decide)).1,rfl⟩
  · exact ⟨leAt xs 0 6,leAt xs 0 7,rfl,wrap64 _ (key 0 6 (by decide)).2,(key 0 6 (by decide)).1,rfl⟩
  · exact ⟨leAt xs 0 7,leAt xs 0 8,rfl,wrap64 _ (key 0 7 (by decide)).2,(key 0 7 (by decide)).1,rfl⟩
  · exact ⟨leAt xs 8 0,leAt xs 8 1,rfl,wrap64 _ (key 8 0 (by decide)).2,(key 8 0 (by decide)).1,rfl⟩
  · exact ⟨leAt xs 8 1,leAt xs 8 2,rfl,wrap64 _ (key 8 1 (by decide)).2,(key 8 1 (by decide)).1,rfl⟩
  · exact ⟨leAt xs 8 2,leAt xs 8 3,rfl,wrap64 _ (key 8 2 (by decide)).2,(key 8 2 (by decide)).1,rfl⟩
  · exact ⟨leAt xs 8 3,leAt xs 8 4,rfl,wrap64 _ (key 8 3 (by decide)).2,(key 8 3 (by decide)).1,rfl⟩
  · exact ⟨leAt xs 8 4,leAt xs 8 5,rfl,wrap64 _ (key 8 4 (by decide)).2,(key 8 4 (by decide)).1,rfl⟩
  · exact ⟨leAt xs 8 5,leAt xs 8 6,rfl,wrap64 _ (key 8 5 (by decide)).2,(key 8 5 (by decide)).1,rfl⟩
  · exact ⟨leAt xs 8 6,leAt xs 8 7,rfl,wrap64 _ (key 8 6 (by decide)).2,(key 8 6 (by decide)).1,rfl⟩
  · exact ⟨leAt xs 8 7,leAt xs 8 8,rfl,wrap64 _ (key 8 7 (by decide)).2,(key 8 7 (by decide)).1,rfl⟩
  · exact ⟨leAt xs 16 0,leAt xs 16 1,rfl,wrap64 _ (key 16 0 (by decide)).2,(key 16 0 (by decide)).1,rfl⟩
  · exact ⟨leAt xs 16 1,leAt xs 16 2,rfl,wrap64 _ (key 16 1 (by decide)).2,(key 16 1 (by decide)).1,rfl⟩
  · exact ⟨leAt xs 16 2,leAt xs 16 3,rfl,wrap64 _ (key 16 2 (by decide)).2,(key 16 2 (by decide)).1,rfl⟩
  · exact ⟨leAt xs 16 3,leAt xs 16 4,rfl,wrap64 _ (key 16 3 (by decide)).2,(key 16 3 (by decide)).1,rfl⟩
  · exact ⟨leAt xs 16 4,leAt xs 16 5,rfl,wrap64 _ (key 16 4 (by decide)).2,(key 16 4 (by decide)).1,rfl⟩
  · exact ⟨leAt xs 16 5,leAt xs 16 6,rfl,wrap64 _ (key 16 5 (by decide)).2,(key 16 5 (by decide)).1,rfl⟩
  · exact ⟨leAt xs 16 6,leAt xs 16 7,rfl,wrap64 _ (key 16 6 (by decide)).2,(key 16 6 (by decide)).1,rfl⟩
  · exact ⟨leAt xs 16 7,leAt xs 16 8,rfl,wrap64 _ (key 16 7 (by decide)).2,(key 16 7 (by decide)).1,rfl⟩
  · exact ⟨leAt xs 24 0,leAt xs 24 1,rfl,wrap64 _ (key 24 0 (by decide)).2,(key 24 0 (by decide)).1,rfl⟩
  · exact ⟨leAt xs 24 1,leAt xs 24 2,rfl,wrap64 _ (key 24 1 (by decide)).2,(key 24 1 (by decide)).1,rfl⟩
  · exact ⟨leAt xs 24 2,leAt xs 24 3,rfl,wrap64 _ (key 24 2 (by decide)).2,(key 24 2 (by decide)).1,rfl⟩
  · exact ⟨leAt xs 24 3,leAt xs 24 4,rfl,wrap64 _ (key 24 3 (by decide)).2,(key 24 3 (by decide)).1,rfl⟩
  · exact ⟨leAt xs 24 4,leAt xs 24 5,rfl,wrap64 _ (key 24 4 (by decide)).2,(key 24 4 (by decide)).1,rfl⟩
  · exact ⟨leAt xs 24 5,leAt xs 24 6,rfl,wrap64 _ (key 24 5 (by decide)).2,(key 24 5 (by decide)).1,rfl⟩
  · exact ⟨leAt xs 24 6,leAt xs 24 7,rfl,wrap64 _ (key 24 6 (by decide)).2,(key 24 6 (by decide)).1,rfl⟩
  · exact ⟨leAt xs 24 7,leAt xs 24 8,rfl,wrap64 _ (key 24 7 (by decide)).2,(key 24 7 (by decide)).1,rfl⟩
theorem Qdu (w : World) (a b c:Obj):(((w.alloc a).alloc b).alloc c).heap[w.heap.size]? = some a:=by
  rw [Below.heap_alloc _ _ _ (by simp; omega),Below.heap_alloc _ _ _ (by simp)]
  exact heap_alloc_new w a
theorem set3 (w : World) (a b:Obj) (cs:Array Value) (t:TypeId) (n i:Nat) (v:Value) :
    ((((w.alloc a).alloc b).alloc (.cells cs t)).drewN n).setCell ⟨w.heap.size+1+1,i,none⟩ v=(((w.alloc a).alloc b).alloc (.cells (cs.setIfInBounds i v) t)).drewN n:=by
  have h:∀ W:World,(W.drewN n).setCell ⟨w.heap.size+1+1,i,none⟩ v=(W.setCell ⟨w.heap.size+1+1,i,none⟩ v).drewN n:=fun _=>rfl
  rw [h]
  congr 1
  go_simp
theorem le32 (xs : List Int):val (leAt xs 0 8) (leAt xs 8 8) (leAt xs 16 8) (leAt xs 24 8)=leAt xs 0 32:=by
  simp only [leAt,val,Int.reducePow,zaS]
  omega
theorem QfS (xs : List Int) (hb:Qaf xs) (o:Nat):isW (leAt xs o 8):=by
  have h:=Qf2 xs hb o 8
  have e:(256:Int)^8=18446744073709551616:=by decide
  rw [e] at h
  exact h
theorem Qqt (a b c d n:Int) (ha:isW a) (hb:isW b) (hc:isW c) (hd:isW d) (e:val a b c d=n) :
    val a b c (d%9223372036854775808)=n%57896044618658097711785492504343953926634992332820282019728792003956564819968∧val a b c (d%9223372036854775808)<2*p:=by
  subst e
  unfold isW at *
  unfold val p
  omega
set_option maxRecDepth 100000 in
theorem Qrr (xs : List Int) (hl:xs.length=32) (hb:Qaf xs) (w:World):Calls Tryz.prog 97 #[.agg (ints .u8 xs)] w (Ret w (num (leAt xs 0 32%57896044618658097711785492504343953926634992332820282019728792003956564819968%p))):=by
  go_enter Tryz.func97,Tryz.ntmps97
  have hi:(Tryz.prog.info? 23).map (·.size)=some (ints .u8 xs).size:=by rw [infoKey,QaD,hl]
  go_wp2_with first
    | (with_reducible show wpList _ _ _ ((⟨_,.load 23 _,_,_,_,_⟩:Oper)::_) _ _
       refine wpList_load_row rfl 23 _ rfl w.heap.size rfl 23 (ints .u8 xs) (0,0) _ (Qdu _ _ _ _) Tryz.underlying23 rfl hi ?_)
  go_loopw [7] (fun i wr=>∃ k:Nat,k≤32∧i=.int .i64 k∧∃ b nq,b.size=4∧wr=(((w.alloc (.cells (ints .u8 xs) 23)).alloc (.cells b 126)).alloc (.cells (ints .u64 (pw xs k)) 124)).drewN nq) (fun i _=>32-(intOf i).toNat)
  case atStart=>exact ⟨0,by omega,rfl,_,0,rfl,rfl⟩
  case round =>
    obtain ⟨k,hk,rfl,b,nq,hbs,rfl⟩:=hrel
    by_cases hlt:k<32
    · obtain ⟨s,s',hg,hw,ho,hs⟩:=Qnh xs hb k hlt
      have hx:(ints .u8 xs)[k]? = some (.int .u8 (nth xs k)):=Qay _ _ _ (by omega)
      have q0:(0:Int)≤(k:Int)/8:=by omega
      have q1:(k:Int)/8<4:=by omega
      have q2:za5.wrap ((k:Int)/8)=(k:Int)/8:=IntWalk.i64_in _ (by omega)
      have qm:(k:Int).tmod 8=(k:Int)%8:=zaT (by omega)
      have q3:za5.wrap ((k:Int)%8)=(k:Int)%8:=IntWalk.i64_in _ (by omega)
      have q4:za5.wrap (8*((k:Int)%8))=8*((k:Int)%8):=IntWalk.i64_in _ (by omega)
      have q5:((k:Int)/8).toNat=k/8:=by omega
      have q6:(8*((k:Int)%8)).toNat=8*(k%8):=by omega
      have q7:(0:Int)≤8*((k:Int)%8):=by omega
      have q8:8*((k:Int)%8)<64:=by omega
      have q9:=wrap64 (nth xs k) (by have:=hb.nth k; unfold isW; omega)
      have hX:∀ W,(Instr.index 23 (.agg (ints .u8 xs)) (.int .i64 (k:Int))).run Tryz.prog W=.ok (.int .u8 (nth xs k)) W:=fun W=>run_index_ints W Tryz.underlying23 Tryz.underlying5 (by kernel_rfl) xs hl k hlt
      go_wp2
      have hc:∀ W,Drew ((((w.alloc (.cells (ints .u8 xs) 23)).alloc (.cells b 126)).alloc (.cells (ints .u64 (pw xs k)) 124)).drewN nq).drew W→W.cell? ⟨w.heap.size+1+1,k/8,none⟩=some (.int .u64 s):=fun W hR=>by
        obtain ⟨m,rfl⟩:=hR
        have h2:=QbK w (.cells (ints .u8 xs) 23) (.cells b 126) (.cells (ints .u64 (pw xs k)) 124)
        exact (cell_of_row _ (w.heap.size+2) (k/8) _ _ _ h2).trans hg
      have HC:=Lib.hid hc
      clear hc
      refine QaZ Drew 12 34 [⟨none,[(4,none)]⟩,⟨none,[(11,some 0)]⟩,⟨none,[(3,none),(12,some 1)]⟩,⟨none,[(13,some 2)]⟩,⟨none,[(5,none)]⟩,⟨none,[(15,some 4)]⟩,⟨none,[(4,none)]⟩,⟨none,[(17,some 6)]⟩,⟨none,[(18,some 7)]⟩,⟨none,[(16,some 5),(19,some 8)]⟩,⟨none,[(14,some 3),(20,some 9)]⟩,⟨none,[(3,none),(12,some 1)]⟩] (by kernel_rfl) (by kernel_rfl) rfl Drew.refl Drew.trans (fun F r0 hr hF=>?_)
      have f3:r0 3=.pointer (some ⟨w.heap.size+1+1,0,none⟩):=by rw [hr]; rfl
      have f4:r0 4=.int .i64 k:=by rw [hr]; rfl
      have f5:r0 5=.int .u8 (nth xs k):=by rw [hr]; rfl
      clear hr
      simp only [zaU,zaV]
      repeat
        (try simp only [zaW,zaX]
         apply Qbb
         (intro ρ W hR hh
          have hcell:=HC.out W hR
          simp only [Qcr,zaY,zaZ,f3,f4,f5] at hh
          simp only [guarded,Qb4]
          go_simp
          first
            | exact ⟨Drew.refl _,rfl⟩
            | exact Drew.refl _))
      try simp only [zaW,zaX]
      refine hF.out fun W hR=>?_
      obtain ⟨m,rfl⟩:=hR
      simp only [zaU,zaV,zba,zbb,fin,forall_eq,Act.put,zbc,zbd,zbe]
      go_wp2
      refine ⟨⟨k+1,by omega,by go_num,b,nq+1+m,hbs,?_⟩,by simp [intOf]; omega⟩
      rw [set3,hs]
    · obtain rfl:k=32:=by omega
      have l0:=QfS xs hb 0
      have l1:=QfS xs hb 8
      have l2:=QfS xs hb 16
      have l3:=QfS xs hb 24
      have hp:ints .u64 (pw xs 32)=#[.int .u64 (leAt xs 0 8),.int .u64 (leAt xs 8 8),.int .u64 (leAt xs 16 8),.int .u64 (leAt xs 24 8)]:=rfl
      have ho:=QiS _ l3
      have C:∀ w,Calls Tryz.prog 112 #[.int .u64 (leAt xs 0 8),.int .u64 (leAt xs 8 8),.int .u64 (leAt xs 16 8),.int .u64 (leAt xs 24 8%9223372036854775808)] w (Ret w (num (leAt xs 0 32%57896044618658097711785492504343953926634992332820282019728792003956564819968%p))):=fun w=>by
        have lo:=Qqt _ _ _ _ _ l0 l1 l2 l3 (le32 xs)
        have:=reduced _ _ _ _ l0 l1 l2 (by unfold isW; omega) lo.2 w
        rw [lo.1] at this
        exact this
      generalize leAt xs 0 32%57896044618658097711785492504343953926634992332820282019728792003956564819968%p=r at *
      rw [hp]
      generalize leAt xs 0 8=z0 at *
      generalize leAt xs 8 8=z1 at *
      generalize leAt xs 16 8=z2 at *
      generalize leAt xs 24 8=z3 at *
      have HC:=Lib.hid C
      clear C hp l0 l1 l2 l3
      go_wp2_with first
        | (go_at_call 112
           (with_reducible refine (HC.out _).mono ?_)
           rintro e w' ⟨rfl,hw⟩)
        | (with_reducible show wpList _ _ _ ((⟨_,.store 126 _ _,_,_,_,_⟩:Oper)::_) _ _
           refine wpList_store_row rfl 126 _ _ rfl (w.heap.size+1) (numA r) rfl rfl 126 b ((hw.block _ (by simp)).trans (Qcx _ _ _ _)) Qco hbs (Qdn _) ?_)
      exact bodyPost_ret (QdX (t:=2) rfl rfl (setRow_heap _ _ _ _ _ _ ((hw.block _ (by simp)).trans (Qcx _ _ _ _)))) rfl ⟨rfl,below_setRow (zbS (zbS (ext3 _ _ _ _) (Qmy _ _)) hw) (by omega) _⟩
end Field
end
section
namespace Field
open Go Go.RowKit
open Rely
def pvf (g : Nat→Int):Nat→Int
  | 0=>0
  | k+1=>pvf g k+g k*65536^k
def limb (n : Int) (i:Nat):Int:=n/65536^i%65536
def cr (g : Nat→Int) (k:Nat):Int:=pvf g k/65536^k
theorem QfQ (k : Nat):(0:Int)<65536^k:=zbf (by decide)
theorem Qbg (n : Int) (i:Nat):0≤limb n i∧limb n i<65536:=by unfold limb; omega
theorem Qf6 (g : Nat→Int):cr g 0=0:=by simp [cr,pvf]
theorem Qox (g : Nat→Int) (k:Nat):pvf g (k+1)/65536^k=g k+cr g k:=by
  unfold cr
  rw [pvf,zbg _ _ (zbh (QfQ k)),Int.add_comm]
theorem Qf7 (g : Nat→Int) (k:Nat):(g k+cr g k)/65536=cr g (k+1):=by
  rw [←Qox]
  unfold cr
  rw [zaO,zbi (zbj (QfQ k))]
theorem Qp7 (g : Nat→Int) (k:Nat):(g k+cr g k)%65536=limb (pvf g (k+1)) k:=by
  rw [←Qox]
  rfl
theorem Qif (g : Nat→Int) (k:Nat):∀ m,∃ r,pvf g (k+m)=pvf g k+r*65536^k
  | 0=>⟨0,by simp⟩
  | m+1=>by
    obtain ⟨r,h⟩:=Qif g k m
    refine ⟨r+g (k+m)*65536^m,?_⟩
    rw [←Nat.add_assoc,pvf,h,zbk,zbl,zbm,zaP (65536^m),Int.add_assoc]
theorem Qju (g : Nat→Int) (k n:Nat) (h:k<n):limb (pvf g (k+1)) k=limb (pvf g n) k:=by
  obtain ⟨m,rfl⟩:∃ m,n=k+1+m:=⟨n-(k+1),by omega⟩
  obtain ⟨r,hr⟩:=Qif g (k+1) m
  unfold limb
  rw [hr,zaO,←zbm,Int.mul_right_comm,zbg _ _ (zbh (QfQ k)),Int.add_mul_emod_self_right]
theorem QeD (g : Nat→Int) (k n:Nat) (h:k<n):(g k+cr g k)%65536=limb (pvf g n) k:=by
  rw [Qp7,Qju g k n h]
theorem QhE (g : Nat→Int) (M:Int) (n:Nat) (hM:65536≤M) (hg:∀ i,i<n→0≤g i∧g i≤M):∀ k,k≤n→0≤cr g k∧cr g k≤M
  | 0,_=>by rw [Qf6]; omega
  | k+1,h=>by
    have ih:=QhE g M n hM hg k (by omega)
    have h0:=hg k (by omega)
    rw [←Qf7]
    omega
theorem QcX (n : Int):∀ k,pvf (limb n) k=n%65536^k
  | 0=>by simp [pvf,Int.emod_one]
  | k+1=>by
    rw [pvf,QcX n k]
    unfold limb
    rw [zaO,zbn n,zbn n,zbn (n/_),←zbi (zbj (QfQ k))]
    generalize n/65536^k=q
    generalize (65536:Int)^k=b
    generalize q/65536=r
    grind
theorem Qdz {g h:Nat→Int} {n:Nat} (e:∀ i,i<n→g i=h i):∀ k,k≤n→pvf g k=pvf h k
  | 0,_=>rfl
  | k+1,hk=>by rw [pvf,pvf,Qdz e k (by omega),e k (by omega)]
theorem Qhu (g h:Nat→Int):∀ k,pvf (fun i=>g i+h i) k=pvf g k+pvf h k
  | 0=>rfl
  | k+1=>by simp only [pvf]; rw [Qhu g h k,zbl]; omega
theorem QjH (c : Int) (g:Nat→Int):∀ k,pvf (fun i=>c*g i) k=c*pvf g k
  | 0=>by simp [pvf]
  | k+1=>by simp only [pvf]; rw [QjH c g k,Int.mul_add,zbm]
theorem Qie (g : Nat→Int) (k:Nat):∀ m,pvf g (k+m)=pvf g k+pvf (fun i=>g (i+k)) m*65536^k
  | 0=>by simp [pvf]
  | m+1=>by
    rw [←Nat.add_assoc,pvf,Qie g k m,pvf,zbl,zaR m k,zbk]
    rw [zbm (g (k+m)),zaP (65536^m),Int.add_assoc]
theorem QkN (n : Int) (i k:Nat):limb n (i+k)=limb (n/65536^k) i:=by
  unfold limb
  rw [zbi (zbj (QfQ k)),←zbk,zaR k i]
def mix (N : Nat) (f g:Nat→Int) (k:Nat):List Int:=(zav N).map fun i=>if i<k then f i else g i
theorem mix_len (N : Nat) (f g:Nat→Int) (k:Nat):(mix N f g k).length=N:=by simp [mix]
theorem Qc8 (N : Nat) (f g:Nat→Int) (k i:Nat) (hi:i<N):nth (mix N f g k) i=if i<k then f i else g i:=by simp [nth,mix,hi]
theorem Qh6 (N : Nat) (f g:Nat→Int) (k:Nat) (h:N≤k):mix N f g k=(zav N).map f:=by
  unfold mix
  refine zbo fun i hi=>?_
  have:=za2.1 hi
  rw [if_pos (by omega)]
theorem Qh5 (N : Nat) (f g:Nat→Int):mix N f g 0=(zav N).map g:=by
  unfold mix
  exact zbo fun i hi=>by simp
theorem mix_set (N : Nat) (f g:Nat→Int) (k:Nat) (hk:k<N):(mix N f g k).set k (f k)=mix N f g (k+1):=by
  apply zaJ
  · simp [mix]
  · intro i h1 h2
    simp only [mix,zaK,zaL,zaM]
    by_cases hi:k=i
    · subst hi; simp
    · simp only [hi,if_false]
      by_cases hl:i<k
      · rw [if_pos hl,if_pos (by omega)]
      · rw [if_neg hl,if_neg (by omega)]
theorem QlB (xs : List Int) (N:Nat) (h:xs.length=N):(zav N).map (nth xs)=xs:=by
  apply zaJ
  · simp [h]
  · intro i h1 h2
    simp [nth,h2]
def lims (n : Int):List Int:=(zav 16).map (limb n)
theorem QaW (n : Int):(lims n).length=16:=by simp [lims]
theorem Qdo (n : Int) (i:Nat) (h:i<16):nth (lims n) i=limb n i:=by simp [nth,lims,h]
def QcN (n : Int) (i:Nat):Int:=if i<16 then limb n i+38*limb n (i+16) else 0
def Qca (n : Int):Int:=n%65536^16+38*(n/65536^16)
theorem Qht : ∀ k,pvf (fun _=>0) k=0
  | 0=>rfl
  | k+1=>by rw [pvf,Qht k]; simp
theorem QnJ (n : Int) (h:0≤n∧n<65536^32):pvf (QcN n) 32=Qca n:=by
  have e0:pvf (QcN n) (16+16)=pvf (QcN n) 16+pvf (fun i=>QcN n (i+16)) 16*65536^16:=Qie _ 16 16
  have e1:pvf (fun i=>QcN n (i+16)) 16=0:=by
    rw [Qdz (h:=fun _=>0) (n:=16) (fun i hi=>by unfold QcN; rw [if_neg (by omega)]) 16 (qR _)]
    exact Qht 16
  have e2:pvf (QcN n) 16=pvf (fun i=>limb n i+38*limb n (i+16)) 16 :=
    Qdz (fun i hi=>by unfold QcN; rw [if_pos hi]) 16 (qR _)
  have e3:pvf (fun i=>limb n (i+16)) 16=n/65536^16:=by
    rw [Qdz (h:=limb (n/65536^16)) (n:=16) (fun i hi=>QkN n i 16) 16 (qR _),QcX]
    exact zaC (zbp h.1 (zbj (QfQ 16))) (Int.ediv_lt_of_lt_mul (QfQ 16) (by rw [←zbk]; exact h.2))
  have e4:=Qhu (limb n) (fun i=>38*limb n (i+16)) 16
  have e5:=QjH 38 (fun i=>limb n (i+16)) 16
  rw [show (32:Nat)=16+16 from rfl,e0,e1,e2,e4,e5,e3,QcX]
  unfold Qca
  omega
theorem Qi8 (n : Int) (i:Nat):0≤QcN n i∧QcN n i≤2555865:=by
  unfold QcN
  have:=Qbg n i
  have:=Qbg n (i+16)
  split <;> omega
theorem four (n : Int) (h:0≤n∧n<65536^32):0≤Qca n∧Qca n<65536^32∧0≤Qca (Qca n)∧Qca (Qca n)<65536^32∧0≤Qca (Qca (Qca n))∧Qca (Qca (Qca n))<65536^32 ∧
    0≤Qca (Qca (Qca (Qca n)))∧Qca (Qca (Qca (Qca n)))<65536^16∧Qca (Qca (Qca (Qca n)))%57896044618658097711785492504343953926634992332820282019728792003956564819949=n%57896044618658097711785492504343953926634992332820282019728792003956564819949:=by
  have e1:(65536:Int)^16=115792089237316195423570985008687907853269984665640564039457584007913129639936:=by decide
  have e2:(65536:Int)^32=13407807929942597099574024998205846127479365820592393377723561443721764030073546976801874298166903427690031858186486050853753882811946569946433649006084096:=by decide
  have step:∀ m:Int,Qca m=m-115792089237316195423570985008687907853269984665640564039457584007913129639898*(m/115792089237316195423570985008687907853269984665640564039457584007913129639936):=fun m=>by
    unfold Qca; rw [e1]; omega
  rw [e1,e2] at *
  generalize hq1:n/115792089237316195423570985008687907853269984665640564039457584007913129639936=q1
  have s1:=step n
  rw [hq1] at s1
  have b1:0≤Qca n∧Qca n<4515891480255331621519268415338828406277529401959981997538845776308612055957504:=by omega
  generalize Qca n=m1 at *
  have s2:=step m1
  generalize hq2:m1/115792089237316195423570985008687907853269984665640564039457584007913129639936=q2 at *
  have b2:0≤Qca m1∧Qca m1<115792089237316195423570985008687907853269984665640564039457584007913129639936+38*38:=by omega
  generalize Qca m1=m2 at *
  have s3:=step m2
  generalize hq3:m2/115792089237316195423570985008687907853269984665640564039457584007913129639936=q3 at *
  have b3:0≤Qca m2∧Qca m2<115792089237316195423570985008687907853269984665640564039457584007913129639936:=by omega
  generalize Qca m2=m3 at *
  have s4:=step m3
  generalize hq4:m3/115792089237316195423570985008687907853269984665640564039457584007913129639936=q4 at *
  have b4:0≤Qca m3∧Qca m3<115792089237316195423570985008687907853269984665640564039457584007913129639936:=by omega
  generalize Qca m3=m4 at *
  refine ⟨by omega,by omega,by omega,by omega,by omega,by omega,by omega,by omega,?_⟩
  have:m4=n-2*57896044618658097711785492504343953926634992332820282019728792003956564819949*(q1+q2+q3+q4):=by omega
  omega
end Field
end
section
namespace Prime
def IsP (n : Nat):Prop:=1<n∧∀ d,d ∣ n→d=1∨d=n
def prods : List Nat→Nat
  | []=>1
  | q::l=>q*prods l
theorem onto : ∀ (n:Nat) (f:Nat→Nat),(∀ i,i<n→f i<n)→(∀ i j,i<n→j<n→f i=f j→i=j)→∀ y,y<n→∃ i,i<n∧f i=y
  | 0,_,_,_,y,hy=>absurd hy (Nat.not_lt_zero y)
  | n+1,f,hf,hi,y,hy=>by
    have key:∀ i,i<n→f i=n→f n<n:=fun i h e=>by
      have h1:=hf n (by omega)
      rcases zat (f n) n with h2 | h2
      · exact h2
      · have:=hi i n (by omega) (by omega) (by omega)
        omega
    have IH:=onto n (fun i=>if f i=n then f n else f i) (fun i h=>by
        show (if f i=n then f n else f i)<n
        by_cases e:f i=n
        · rw [if_pos e]; exact key i h e
        · rw [if_neg e]; have:=hf i (by omega); omega)
      (fun i j h1 h2 h=>by
        have h':(if f i=n then f n else f i)=(if f j=n then f n else f j):=h
        by_cases e1:f i=n <;> by_cases e2:f j=n
        · exact hi i j (by omega) (by omega) (by omega)
        · rw [if_pos e1,if_neg e2] at h'
          have:=hi n j (by omega) (by omega) h'
          omega
        · rw [if_neg e1,if_pos e2] at h'
          have:=hi i n (by omega) (by omega) h'
          omega
        · rw [if_neg e1,if_neg e2] at h'
          exact hi i j (by omega) (by omega) h')
    have back:∀ z,z<n→∃ i,i<n+1∧f i=z:=fun z hz=>by
      obtain ⟨i,h1,h2⟩:=IH z hz
      have h2':(if f i=n then f n else f i)=z:=h2
      by_cases e:f i=n
      · rw [if_pos e] at h2'; exact ⟨n,by omega,h2'⟩
      · rw [if_neg e] at h2'; exact ⟨i,by omega,h2'⟩
    rcases zat y n with h | h
    · exact back y h
    · have e:y=n:=by omega
      subst e
      by_cases e2:f y=y
      · exact ⟨y,by omega,e2⟩
      · have h3:f y<y:=by have:=hf y (by omega); omega
        obtain ⟨i,h1,h2⟩:=IH (f y) h3
        have h2':(if f i=y then f y else f i)=f y:=h2
        by_cases e3:f i=y
        · exact ⟨i,by omega,e3⟩
        · rw [if_neg e3] at h2'
          have:=hi i y (by omega) (by omega) h2'
          omega
theorem QeQ (N a b k:Nat) (h:a%N=1%N):(a^k*b)%N=b%N:=by
  rw [zbq,zbr,h,←zbr,Nat.one_pow,←zbq,Nat.one_mul]
theorem QoV (N g:Nat):∀ m n,g^m%N=1%N→g^n%N=1%N→g^(zbs m n)%N=1%N:=by
  intro m n
  induction m,n using zbs.induction with
  | H0 n=>intro _ h; simpa using h
  | H1 m n hm ih =>
    intro h1 h2
    rw [Nat.gcd_rec]
    refine ih ?_ h1
    have e:g^n=(g^m)^(n/m)*g^(n%m):=by
      rw [←zbt,←zbu,Nat.div_add_mod]
    rw [e,QeQ N _ _ _ h1] at h2
    exact h2
theorem QiB : ∀ (qs:List Nat) (e:Nat),(∀ q∈qs,IsP q)→e ∣ prods qs→1<e→∃ q∈qs,q ∣ e
  | [],e,_,h,h1=>by
    have:=zbv (by decide) h
    simp only [prods] at this
    omega
  | q::l,e,hq,h,h1=>by
    have hp:=hq q zbw
    rcases hp.2 (zbs q e) (zbx q e) with hg | hg
    · have h2:e ∣ prods l:=by
        have hc:Nat.Coprime e q:=by rw [Nat.Coprime,Nat.gcd_comm]; exact hg
        exact hc.dvd_of_dvd_mul_left h
      obtain ⟨r,h3,h4⟩:=QiB l e (fun r hr=>hq r (zby _ hr)) h2 h1
      exact ⟨r,zby _ h3,h4⟩
    · exact ⟨q,zbw,by rw [←hg]; exact zbz q e⟩
theorem order (N g:Nat) (qs:List Nat) (h1:1<N) (hq:∀ q∈qs,IsP q) (hprod:prods qs=N-1) (hne:∀ q∈qs,g^((N-1)/q)%N≠1)
    (hone:g^(N-1)%N=1) (m:Nat) (hm:0<m) (hlt:m<N-1) (h:g^m%N=1):False:=by
  have e1:1%N=1:=zb0 h1
  have hd:=QoV N g m (N-1) (by rw [e1]; exact h) (by rw [e1]; exact hone)
  have d1:zbs m (N-1) ∣ N-1:=zbz _ _
  have d2:zbs m (N-1)≤m:=zbv hm (zbx _ _)
  generalize hD:zbs m (N-1)=d at *
  obtain ⟨e,he⟩:=d1
  have epos:1<e:=by
    rcases (by omega:e=0∨e=1∨1<e) with h0 | h0 | h0
    · subst h0; simp at he; omega
    · subst h0; simp at he; omega
    · exact h0
  obtain ⟨q,hq1,hq2⟩:=QiB qs e hq (by rw [hprod,he]; exact zb1 e d) epos
  obtain ⟨r,hr⟩:=hq2
  have qpos:0<q:=by have:=(hq q hq1).1; omega
  refine hne q hq1 ?_
  have e3:(N-1)/q=d*r:=by
    rw [he,hr,show d*(q*r)=q*(d*r) by rw [←Nat.mul_assoc,zaQ d q,Nat.mul_assoc]]
    exact Nat.mul_div_cancel_left _ qpos
  have:=QeQ N (g^d) 1 r hd
  rw [Nat.mul_one,←zbt,e1] at this
  rw [e3]
  exact this
theorem Qld (N g:Nat) (qs:List Nat) (h1:1<N) (hq:∀ q∈qs,IsP q) (hprod:prods qs=N-1) (hne:∀ q∈qs,g^((N-1)/q)%N≠1)
    (hone:g^(N-1)%N=1) (a:Nat) (ha:0<a) (hlt:a<N):∃ k,g^k%N=a:=by
  have e1:1%N=1:=zb0 h1
  have hone':g^(N-1)%N=1%N:=by rw [e1]; exact hone
  have up:∀ b,(g^(N-1)*b)%N=b%N:=fun b=>by
    have:=QeQ N (g^(N-1)) b 1 hone'
    rwa [Nat.pow_one] at this
  have hpos:∀ i,i<N-1→0<g^i%N:=fun i hi=>by
    rcases zb2 (g^i%N) with h | h
    · have:g^(N-1)%N=0:=by
        rw [show N-1=i+(N-1-i) by omega,zbu,zbq,h,Nat.zero_mul,Nat.zero_mod]
      omega
    · exact h
  have inj:∀ i j,i<j→j<N-1→g^i%N=g^j%N→False:=fun i j hij hj h=>by
    refine order N g qs h1 hq hprod hne hone (j-i) (by omega) (by omega) ?_
    have e2:(g^(N-1-i)*g^i)%N=(g^(N-1-i)*g^j)%N:=by rw [zbq,h,←zbq]
    rw [←zbu,←zbu,show N-1-i+i=N-1 by omega,show N-1-i+j=N-1+(j-i) by omega,zbu,up,hone] at e2
    exact e2.symm
  obtain ⟨i,h2,h3⟩:=onto (N-1) (fun i=>g^i%N-1) (fun i hi=>by
      show g^i%N-1<N-1
      have:=hpos i hi
      have:=Nat.mod_lt (g^i) (show 0<N by omega)
      omega)
    (fun i j hi hj h=>by
      have h':g^i%N-1=g^j%N-1:=h
      have:=hpos i hi
      have:=hpos j hj
      rcases Nat.lt_trichotomy i j with h4 | h4 | h4
      · exact (inj i j h4 hj (by omega)).elim
      · exact h4
      · exact (inj j i h4 hi (by omega)).elim) (a-1) (by omega)
  have h3':g^i%N-1=a-1:=h3
  have:=hpos i h2
  exact ⟨i,by omega⟩
theorem QiA (N g:Nat) (h1:1<N) (hone:g^(N-1)%N=1) (hall:∀ a,0<a→a<N→∃ k,g^k%N=a) (a:Nat) (ha:a%N≠0):a^(N-1)%N=1:=by
  obtain ⟨k,hk⟩:=hall (a%N) (by omega) (Nat.mod_lt _ (by omega))
  have e1:1%N=1:=zb0 h1
  rw [zbr,←hk,←zbr,←zbt,zaQ,zbt,zbr,hone,Nat.one_pow,e1]
theorem Qnj (N g:Nat) (h1:1<N) (hone:g^(N-1)%N=1) (hall:∀ a,0<a→a<N→∃ k,g^k%N=a):IsP N:=by
  refine ⟨h1,fun d hd=>?_⟩
  have hle:=zbv (by omega) hd
  rcases Nat.eq_or_lt_of_le hle with h | h
  · exact .inr h
  · left
    have d0:0<d:=Nat.pos_of_dvd_of_pos hd (by omega)
    have hf:=QiA N g h1 hone hall d (by rw [zb0 h]; omega)
    by_cases hN:N-1=0
    · omega
    · have h2:d ∣ d^(N-1):=by
        rw [show N-1=(N-2)+1 by omega,zb3]
        exact zb1 d _
      have h3:d ∣ d^(N-1)%N:=(Nat.dvd_mod_iff hd).2 h2
      rw [hf] at h3
      exact Nat.dvd_one.1 h3
def pm (N : Nat):Nat→Nat→Nat→Nat
  | 0,_,_=>1%N
  | f+1,g,e=>let h:=pm N f (g*g%N) (e/2); if e%2=1 then g*h%N else h
theorem pm_eq (N : Nat):∀ f g e,e<2^f→pm N f g e=g^e%N
  | 0,g,e,h=>by
    have:e=0:=by simpa using h
    subst this
    simp [pm]
  | f+1,g,e,h=>by
    have hm:g*g%N%N=g*g%N:=Nat.mod_mod _ _
    have ih:=pm_eq N f (g*g%N) (e/2) (by rw [zb3] at h; omega)
    have e2:(g*g%N)^(e/2)%N=(g*g)^(e/2)%N:=by rw [zbr,hm,←zbr]
    have e3:(g*g)^(e/2)=g^(2*(e/2)):=by rw [zbt,zb3,Nat.pow_one]
    simp only [pm]
    rw [ih,e2,e3]
    by_cases ho:e%2=1
    · rw [if_pos ho]
      have:g^e=g*g^(2*(e/2)):=by
        rw [zaQ,←zb3]
        congr 1
        omega
      rw [this,zbq,Nat.mod_mod,←zbq]
    · rw [if_neg ho]
      congr 2
      omega
def Qnx (q : Nat):Nat→Bool
  | 0=>true
  | k+1=>(decide (k+2=q) || q%(k+2) != 0)&&Qnx q k
theorem Qf0 (q : Nat):∀ k,Qnx q k=true→∀ d,2≤d→d<k+2→d ∣ q→d=q
  | 0,_,d,h1,h2,_=>by omega
  | k+1,h,d,h1,h2,h3=>by
    simp only [Qnx,Bool.and_eq_true,Bool.or_eq_true,decide_eq_true_eq,bne_iff_ne,ne_eq] at h
    rcases zat d (k+2) with h4 | h4
    · exact Qf0 q k h.2 d h1 h4 h3
    · have:d=k+2:=by omega
      subst this
      rcases h.1 with h5 | h5
      · exact h5
      · exact absurd (Nat.mod_eq_zero_of_dvd h3) h5
theorem Qa2 (q k:Nat) (h:(decide (1<q)&&decide (q<(k+2)*(k+2))&&Qnx q k)=true):IsP q:=by
  simp only [Bool.and_eq_true,decide_eq_true_eq] at h
  obtain ⟨⟨h1,h2⟩,h3⟩:=h
  refine ⟨h1,fun d hd=>?_⟩
  obtain ⟨e,he⟩:=hd
  have dpos:0<d:=by
    rcases zb2 d with h | h; · subst h; simp at he; omega
    · exact h
  have epos:0<e:=by
    rcases zb2 e with h | h; · subst h; simp at he; omega
    · exact h
  rcases (by omega:d=1∨2≤d) with h4 | h4
  · exact .inl h4
  · rcases (by omega:e=1∨2≤e) with h5 | h5
    · subst h5; right; omega
    · rcases zat d (k+2) with h6 | h6
      · right; exact Qf0 q k h3 d h4 h6 ⟨e,he⟩
      · rcases zat e (k+2) with h7 | h7
        · have:=Qf0 q k h3 e h5 h7 ⟨d,by rw [he,zaQ]⟩
          left
          rw [this] at he
          have:q*1=q*d:=by rw [Nat.mul_one,zaQ]; exact he
          exact (Nat.eq_of_mul_eq_mul_left (by omega) this).symm
        · have:=Nat.mul_le_mul h6 h7
          omega
def Qo0 (N g:Nat) (qs:List Nat):Bool:=decide (1<N)&&decide (N<2^256)&&decide (prods qs=N-1)&&(pm N 256 g (N-1)==1)&&qs.all fun q=>pm N 256 g ((N-1)/q) != 1
theorem cert (N g:Nat) (qs:List Nat) (hq:∀ q∈qs,IsP q) (h:Qo0 N g qs=true):IsP N∧(∀ a,a%N≠0→a^(N-1)%N=1)∧∀ a,0<a→a<N→∃ k,g^k%N=a:=by
  simp only [Qo0,Bool.and_eq_true,decide_eq_true_eq,beq_iff_eq,za1,bne_iff_ne,ne_eq] at h
  obtain ⟨⟨⟨⟨h1,h2⟩,h3⟩,h4⟩,h5⟩:=h
  rw [pm_eq N 256 g (N-1) (by omega)] at h4
  have hne:∀ q∈qs,g^((N-1)/q)%N≠1:=fun q hm=>by
    have:=h5 q hm
    rwa [pm_eq N 256 g _ (by have:=Nat.div_le_self (N-1) q; omega)] at this
  have hall:=Qld N g qs h1 hq h3 hne h4
  exact ⟨Qnj N g h1 h4 hall,QiA N g h1 h4 hall,hall⟩
theorem p2 : IsP 2:=Qa2 2 0 (by decide +kernel)
theorem p3 : IsP 3:=Qa2 3 0 (by decide +kernel)
theorem p5 : IsP 5:=Qa2 5 1 (by decide +kernel)
theorem p7 : IsP 7:=Qa2 7 1 (by decide +kernel)
theorem p13 : IsP 13:=Qa2 13 2 (by decide +kernel)
theorem p19 : IsP 19:=Qa2 19 3 (by decide +kernel)
theorem p31 : IsP 31:=Qa2 31 4 (by decide +kernel)
theorem p47 : IsP 47:=Qa2 47 5 (by decide +kernel)
theorem p103 : IsP 103:=Qa2 103 9 (by decide +kernel)
theorem p107 : IsP 107:=Qa2 107 9 (by decide +kernel)
theorem p127 : IsP 127:=Qa2 127 10 (by decide +kernel)
theorem p223 : IsP 223:=Qa2 223 13 (by decide +kernel)
theorem p353 : IsP 353:=Qa2 353 17 (by decide +kernel)
theorem p991 : IsP 991:=Qa2 991 30 (by decide +kernel)
theorem Qrj : IsP 2437:=Qa2 2437 48 (by decide +kernel)
theorem Qri : IsP 4153:=Qa2 4153 63 (by decide +kernel)
theorem Qql : IsP 57467:=Qa2 57467 238 (by decide +kernel)
theorem Qqk : IsP 65147:=Qa2 65147 254 (by decide +kernel)
theorem Qqj : IsP 75707:=Qa2 75707 274 (by decide +kernel)
theorem Qpc : IsP 132049:=Qa2 132049 362 (by decide +kernel)
theorem Qpb : IsP 430751:=Qa2 430751 655 (by decide +kernel)
theorem Qpa : IsP 569003:=Qa2 569003 753 (by decide +kernel)
theorem Qnr : IsP 1923133:=Qa2 1923133 1385 (by decide +kernel)
theorem Qnq : IsP 8574133:=(cert 8574133 2 [2,2,3,7,103,991] (by
  intro q hq
  simp only [zaa,zab,or_false] at hq
  rcases hq with rfl | rfl | rfl | rfl | rfl | rfl
  · exact p2
  · exact p2
  · exact p3
  · exact p7
  · exact p103
  · exact p991
) (by decide +kernel)).1
theorem Qjg : IsP 2773320623:=(cert 2773320623 5 [2,2437,569003] (by
  intro q hq
  simp only [zaa,zab,or_false] at hq
  rcases hq with rfl | rfl | rfl
  · exact p2
  · exact Qrj
  · exact Qpa
) (by decide +kernel)).1
theorem Qim : IsP 72106336199:=(cert 72106336199 7 [2,13,2773320623] (by
  intro q hq
  simp only [zaa,zab,or_false] at hq
  rcases hq with rfl | rfl | rfl
  · exact p2
  · exact p13
  · exact Qjg
) (by decide +kernel)).1
theorem Qfz : IsP 1919519569386763:=(cert 1919519569386763 2 [2,3,7,19,47,47,127,8574133] (by
  intro q hq
  simp only [zaa,zab,or_false] at hq
  rcases hq with rfl | rfl | rfl | rfl | rfl | rfl | rfl | rfl
  · exact p2
  · exact p3
  · exact p7
  · exact p19
  · exact p47
  · exact p47
  · exact p127
  · exact Qnq
) (by decide +kernel)).1
theorem Qc1 : IsP 75445702479781427272750846543864801:=(cert 75445702479781427272750846543864801 7 [2,2,2,2,2,3,3,5,5,75707,72106336199,1919519569386763] (by
  intro q hq
  simp only [zaa,zab,or_false] at hq
  rcases hq with rfl | rfl | rfl | rfl | rfl | rfl | rfl | rfl | rfl | rfl | rfl | rfl
  · exact p2
  · exact p2
  · exact p2
  · exact p2
  · exact p2
  · exact p3
  · exact p3
  · exact p5
  · exact p5
  · exact Qqj
  · exact Qim
  · exact Qfz
) (by decide +kernel)).1
theorem Qfd : IsP 31757755568855353:=(cert 31757755568855353 10 [2,2,2,3,31,107,223,4153,430751] (by
  intro q hq
  simp only [zaa,zab,or_false] at hq
  rcases hq with rfl | rfl | rfl | rfl | rfl | rfl | rfl | rfl | rfl
  · exact p2
  · exact p2
  · exact p2
  · exact p3
  · exact p31
  · exact p107
  · exact p223
  · exact Qri
  · exact Qpb
) (by decide +kernel)).1
theorem Qbn : IsP 74058212732561358302231226437062788676166966415465897661863160754340907:=(cert 74058212732561358302231226437062788676166966415465897661863160754340907 2 [2,3,353,57467,132049,1923133,31757755568855353,75445702479781427272750846543864801] (by
  intro q hq
  simp only [zaa,zab,or_false] at hq
  rcases hq with rfl | rfl | rfl | rfl | rfl | rfl | rfl | rfl
  · exact p2
  · exact p3
  · exact p353
  · exact Qql
  · exact Qpc
  · exact Qnr
  · exact Qfd
  · exact Qc1
) (by decide +kernel)).1
theorem p25519 : IsP 57896044618658097711785492504343953926634992332820282019728792003956564819949∧(∀ a,a%57896044618658097711785492504343953926634992332820282019728792003956564819949≠0→a^(57896044618658097711785492504343953926634992332820282019728792003956564819949-1)%57896044618658097711785492504343953926634992332820282019728792003956564819949=1)∧∀ a,0<a→a<57896044618658097711785492504343953926634992332820282019728792003956564819949→∃ k,2^k%57896044618658097711785492504343953926634992332820282019728792003956564819949=a:=cert 57896044618658097711785492504343953926634992332820282019728792003956564819949 2 [2,2,3,65147,74058212732561358302231226437062788676166966415465897661863160754340907] (by
  intro q hq
  simp only [zaa,zab,or_false] at hq
  rcases hq with rfl | rfl | rfl | rfl | rfl
  · exact p2
  · exact p2
  · exact p3
  · exact Qqk
  · exact Qbn
) (by decide +kernel)
end Prime
end
end
section
section
namespace Field
open Go Go.RowKit
open Rely
def lnum (n : Int):Value:=.agg (ints .i64 (lims n))
def big : Int:=115792089237316195423570985008687907853269984665640564039457584007913129639936
theorem QmD : (65536:Int)^16=big:=by decide
theorem Qcj (xs : List Int) (h:xs.length=16):(Tryz.prog.info? 90).map (·.size)=some (ints .i64 xs).size:=by
  rw [QaD,h]
  kernel_rfl
def QcJ (x y:Int) (i:Nat):Int:=limb x i-limb y i
theorem Qjc (g h:Nat→Int):∀ k,pvf (fun i=>g i-h i) k=pvf g k-pvf h k
  | 0=>rfl
  | k+1=>by simp only [pvf]; rw [Qjc g h k,Int.sub_mul]; omega
theorem Qgv (x y:Int) (hx:0≤x∧x<big) (hy:0≤y∧y<big):pvf (QcJ x y) 16=x-y:=by
  have h:pvf (QcJ x y) 16=pvf (limb x) 16-pvf (limb y) 16:=Qjc _ _ _
  rw [h,QcX,QcX,QmD,zaC hx.1 hx.2,zaC hy.1 hy.2]
theorem Qh9 (x y:Int):∀ k,cr (QcJ x y) k=0∨cr (QcJ x y) k=-1
  | 0=>.inl (Qf6 _)
  | k+1=>by
    rw [←Qf7]
    have:=Qbg x k
    have:=Qbg y k
    have h:=Qh9 x y k
    unfold QcJ at *
    omega
theorem QkO (x y:Int) (k:Nat) (hk:k<16) (e:pvf (QcJ x y) 16=x-y) :
    (limb x k-limb y k - -(cr (QcJ x y) k)<0→limb x k-limb y k - -(cr (QcJ x y) k)+65536=limb (x-y) k∧(1:Int)=-(cr (QcJ x y) (k+1))) ∧
    (¬ limb x k-limb y k - -(cr (QcJ x y) k)<0→limb x k-limb y k - -(cr (QcJ x y) k)=limb (x-y) k∧(0:Int)=-(cr (QcJ x y) (k+1))):=by
  have h1:=QeD (QcJ x y) k 16 hk
  have h2:=Qf7 (QcJ x y) k
  have h3:=Qbg x k
  have h4:=Qbg y k
  have h5:=Qh9 x y k
  rw [e] at h1
  unfold QcJ at *
  generalize limb (x-y) k=r at *
  generalize cr (fun i=>limb x i-limb y i) k=c at *
  omega
theorem minus (x y:Int) (hy:0≤y) (hxy:y≤x) (hx:x<big) (w:World):Calls Tryz.prog 84 #[lnum x,lnum y] w (Ret w (lnum (x-y))):=by
  have e:=Qgv x y (by omega) (by omega)
  unfold lnum
  go_enter Tryz.func84,Tryz.ntmps84
  go_wp2_with fail
  go_loopw [5,6] (fun c i wr=>∃ k:Nat,k≤16∧i=.int .i64 k∧c=.int .i64 (-(cr (QcJ x y) k))∧Ext w wr∧wr.heap[w.heap.size]? = some (.cells (ints .i64 (mix 16 (limb (x-y)) (limb x) k)) 90) ∧
      wr.heap[w.heap.size+1]? = some (.cells (ints .i64 (lims y)) 90)∧∃ b,b.size=16∧wr.heap[w.heap.size+1+1]? = some (.cells b 90)) (fun _ i _=>16-(intOf i).toNat)
  case atStart=>exact ⟨0,by omega,rfl,by rw [Qf6]; rfl,ext3 _ _ _ _,by rw [Qh5]; exact Qdu _ _ _ _,Qcx _ _ _ _,_,rfl,QbK _ _ _ _⟩
  case round =>
    obtain ⟨k,hk,rfl,rfl,he,hA,hB,b,hbs,hC⟩:=hrel
    by_cases hlt:k<16
    · have hX:(ints .i64 (mix 16 (limb (x-y)) (limb x) k))[k]? = some (.int .i64 (limb x k)):=by rw [Qay _ _ _ (by rw [mix_len]; exact hlt),Qc8 _ _ _ _ _ hlt,if_neg (by omega)]
      have hY:(ints .i64 (lims y))[k]? = some (.int .i64 (limb y k)):=by rw [Qay _ _ _ (by rw [QaW]; exact hlt),Qdo _ _ hlt]
      have hS:(ints .i64 (mix 16 (limb (x-y)) (limb x) k)).setIfInBounds k (.int .i64 (limb (x-y) k))=ints .i64 (mix 16 (limb (x-y)) (limb x) (k+1)):=by rw [QbP,mix_set _ _ _ _ hlt]
      have HR:=Lib.hid (QkO x y k hlt e)
      have h3:=Qbg x k
      have h4:=Qbg y k
      have h5:=Qh9 x y k
      generalize hc:cr (QcJ x y) k=c at *
      generalize hc':cr (QcJ x y) (k+1)=c' at *
      generalize hlx:limb x k=lx at *
      generalize hly:limb y k=ly at *
      have w1:za5.wrap (lx-ly)=lx-ly:=IntWalk.i64_in _ (by omega)
      have w2:za5.wrap (lx-ly - -c)=lx-ly - -c:=IntWalk.i64_in _ (by omega)
      have w3:lx-ly - -c<0→za5.wrap (lx-ly - -c+65536)=lx-ly - -c+65536:=fun h=>IntWalk.i64_in _ (by omega)
      have HX:Hid (∀ W,Ext wr.drew W→W.cell? ⟨w.heap.size,k,none⟩=some (.int .i64 lx)):=Lib.hid fun W hR=>QaO (Qaa (Qaa hA (Qah _)) hR) hX
      have HY:Hid (∀ W,Ext wr.drew W→W.cell? ⟨w.heap.size+1,k,none⟩=some (.int .i64 ly)):=Lib.hid fun W hR=>QaO (Qaa (Qaa hB (Qah _)) hR) hY
      go_wp2
      refine QaZ Ext 9 29 [⟨none,[(6,none)]⟩,⟨none,[(2,none),(12,some 0)]⟩,⟨none,[(13,some 1)]⟩,⟨none,[(6,none)]⟩,⟨none,[(3,none),(15,some 3)]⟩,⟨none,[(16,some 4)]⟩,⟨none,[(14,some 2),(17,some 5)]⟩,⟨none,[(5,none)]⟩,⟨none,[(18,some 6),(19,some 7)]⟩] (by kernel_rfl) (by kernel_rfl) rfl zbR zbS (fun F r0 hr hF=>?_)
      have f2:r0 2=.pointer (some ⟨w.heap.size,0,none⟩):=by rw [hr]; rfl
      have f3:r0 3=.pointer (some ⟨w.heap.size+1,0,none⟩):=by rw [hr]; rfl
      have f5:r0 5=.int .i64 (-c):=by rw [hr]; rfl
      have f6:r0 6=.int .i64 k:=by rw [hr]; rfl
      clear hr
      simp only [zaU,zaV]
      repeat
        (try simp only [zaW,zaX]
         apply Qbb
         (intro ρ W hR hh
          have hcx:=HX.out W hR
          have hcy:=HY.out W hR
          simp only [Qcr,zaY,zaZ,f2,f3,f5,f6] at hh
          simp only [guarded,Qb4]
          go_simp
          first
            | exact ⟨zbR _,rfl⟩
            | exact zbR _))
      simp only [zaW,zaX]
      refine hF.out fun W hRW=>?_
      simp only [zaU,zaV,zba,zbb,fin,forall_eq,Act.put,zbc,zbd,zbe]
      clear HX HY hF f2 f3 f5 f6
      have hE:=zbS (Qah wr) hRW
      have hA':=Qaa hA hE
      have hB':=Qaa hB hE
      have hC':=Qaa hC hE
      have hcx:=QaO hA' hX
      have hfx:=Qb1 hA' k
      go_wp2
      all_goals
        have hR:=HR.out
        clear HR
        refine ⟨⟨k+1,by omega,by go_num,?_,QcA (zbS he hE) (qR _) _ _,(Qc5 _ _ hA').trans ?_,(QaA _ _ (by omega)).trans hB',b,hbs,(QaA _ _ (by omega)).trans hC'⟩,by simp [intOf]; omega⟩
      · rw [hc',(hR.1 (by omega)).2]
      · rw [show lx-ly+c+65536=limb (x-y) k by have:=(hR.1 (by omega)).1; omega,hS]
      · rw [hc',(hR.2 (by omega)).2]
      · rw [show lx-ly+c=limb (x-y) k by have:=(hR.2 (by omega)).1; omega,hS]
    · obtain rfl:k=16:=by omega
      go_wp2_with first
        | (with_reducible show wpList _ _ _ ((⟨_,.load 90 _,_,_,_,_⟩:Oper)::_) _ _
           refine wpList_load_row rfl 90 _ rfl w.heap.size rfl 90 _ (0,0) _ hA Tryz.underlying90 rfl (Qcj _ (mix_len _ _ _ _)) ?_)
        | (with_reducible show wpList _ _ _ ((⟨_,.store 90 _ _,_,_,_,_⟩:Oper)::_) _ _
           refine wpList_store_row rfl 90 _ _ rfl (w.heap.size+1+1) _ rfl rfl 90 _ hC (Qcj _ (mix_len _ _ _ _)) (by rw [hbs,QaD,mix_len]) (ints_one _ _) ?_)
      exact bodyPost_ret (results_cell_row (p:=4) rfl _ _ (w.heap.size+1+1) 90 _ (0,0) _ rfl (setRow_heap _ _ _ _ _ _ hC) Tryz.underlying90 rfl (Qcj _ (mix_len _ _ _ _))) rfl ⟨by rw [Qh6 _ _ _ _ (qR _)]; rfl,Qbs he (by omega) _⟩
end Field
end
section
namespace Field
open Go Go.RowKit
open Rely
theorem prime (w : World):Calls Tryz.prog 85 #[] w (Ret w (lnum p)):=by
  have e0:lims p=[65517,65535,65535,65535,65535,65535,65535,65535,65535,65535,65535,65535,65535,65535,65535,32767]:=by decide +kernel
  have e:ints .i64 (lims p)=#[.int .i64 65517,.int .i64 65535,.int .i64 65535,.int .i64 65535,.int .i64 65535,.int .i64 65535,.int .i64 65535,.int .i64 65535,.int .i64 65535,.int .i64 65535,.int .i64 65535,.int .i64 65535,.int .i64 65535,.int .i64 65535,.int .i64 65535,.int .i64 32767]:=by
    rw [e0]; rfl
  have hi:=Qcj (lims p) (QaW p)
  unfold lnum
  rw [e]
  rw [e] at hi
  clear e e0
  go_enter Tryz.func85,Tryz.ntmps85
  go_wp2_with fail
  exact bodyPost_ret (results_cell_row (p:=0) rfl _ _ w.heap.size 90 _ (0,0) _ rfl (heap_alloc_new _ _) Tryz.underlying90 rfl hi) rfl ⟨rfl,QaK _ _⟩
theorem Qfc (g : Nat→Int) (k:Nat):∀ n,k≤n→(∀ j,k≤j→j<n→g j=0)→pvf g n=pvf g k
  | 0,h,_=>by
      obtain rfl:k=0:=by omega
      rfl
  | n+1,h,hz=>by
    rcases zat n k with h1 | h1
    · obtain rfl:k=n+1:=by omega
      rfl
    · rw [pvf,hz n h1 (by omega),Qfc g k n h1 fun j a b=>hz j a (by omega)]
      simp
theorem Qmc (x y:Int) (k:Nat):-(65536^k)<pvf (QcJ x y) k∧pvf (QcJ x y) k<65536^k:=by
  have h:pvf (QcJ x y) k=pvf (limb x) k-pvf (limb y) k:=Qjc _ _ _
  have hp:=QfQ k
  have h1:=zaD x (zbh hp)
  have h2:=zaE x hp
  have h3:=zaD y (zbh hp)
  have h4:=zaE y hp
  rw [h,QcX,QcX]
  omega
theorem QiT (x y:Int) (hx:0≤x∧x<big) (hy:0≤y∧y<big) (k:Nat) (hk:k<16) (hi:∀ j,k+1≤j→j<16→limb x j=limb y j) (hd:limb x k≠limb y k) :
    decide (limb x k>limb y k)=decide (y≤x):=by
  have e:=Qgv x y hx hy
  rw [Qfc (QcJ x y) (k+1) 16 (by omega) fun j a b=>by unfold QcJ; rw [hi j a b]; omega,pvf] at e
  have hl:=Qmc x y k
  have hp:=QfQ k
  refine decide_eq_decide.2 ⟨fun h=>?_,fun h=>?_⟩
  · have h1:1*65536^k≤QcJ x y k*65536^k:=zaN (by unfold QcJ; omega) (zbj hp)
    omega
  · rcases (by omega:limb x k>limb y k∨limb x k<limb y k) with h0 | h0
    · exact h0
    · have h1:QcJ x y k*65536^k≤-1*65536^k:=zaN (by unfold QcJ; omega) (zbj hp)
      omega
theorem Qnc (x y:Int) (hx:0≤x∧x<big) (hy:0≤y∧y<big) (hi:∀ j,0≤j→j<16→limb x j=limb y j):x=y:=by
  have e:=Qgv x y hx hy
  rw [Qfc (QcJ x y) 0 16 (by omega) fun j a b=>by unfold QcJ; rw [hi j (by omega) b]; omega,pvf] at e
  omega
theorem Qj4 (x y:Int) (hx:0≤x∧x<big) (hy:0≤y∧y<big) (w:World):Calls Tryz.prog 87 #[lnum x,lnum y] w (Ret w (.bool (decide (y≤x)))):=by
  unfold lnum
  go_enter Tryz.func87,Tryz.ntmps87
  go_wp2_with fail
  go_loopw [5] (fun i wr=>∃ k:Nat,k≤16∧i=.int .i64 ((k:Int)-1)∧(∀ j,k≤j→j<16→limb x j=limb y j)∧Ext w wr∧wr.heap[w.heap.size]? = some (.cells (ints .i64 (lims x)) 90) ∧
      wr.heap[w.heap.size+1]? = some (.cells (ints .i64 (lims y)) 90)) (fun i _=>(intOf i+1).toNat)
  case atStart=>exact ⟨16,by omega,rfl,fun j h1 h2=>by omega,zbS (QaK _ _) (QaK _ _),by rw [Below.heap_alloc _ _ _ (by simp)]; exact heap_alloc_new _ _,by have:=heap_alloc_new (w.alloc (.cells (ints .i64 (lims x)) 90)) (.cells (ints .i64 (lims y)) 90); simpa using this⟩
  case round =>
    obtain ⟨k,hk,rfl,hi,he,hA,hB⟩:=hrel
    rcases k with _ | j
    · have e:=Qnc x y hx hy hi
      go_wp2
      exact bodyPost_ret (results_tmp rfl _ _ _) rfl ⟨by rw [e]; simp,he⟩
    · have hlt:j<16:=by omega
      have q0:(0:Int)≤(j:Int):=by omega
      have q1:(j:Int)<16:=by omega
      have hX:(ints .i64 (lims x))[j]? = some (.int .i64 (limb x j)):=by rw [Qay _ _ _ (by rw [QaW]; exact hlt),Qdo _ _ hlt]
      have hY:(ints .i64 (lims y))[j]? = some (.int .i64 (limb y j)):=by rw [Qay _ _ _ (by rw [QaW]; exact hlt),Qdo _ _ hlt]
      rw [show ((j+1:Nat):Int)-1=(j:Int) by omega]
      have HT:=Lib.hid (QiT x y hx hy j hlt hi)
      have HI:=Lib.hid hi
      clear hi
      generalize hlx:limb x j=lx at *
      generalize hly:limb y j=ly at *
      have HX:Hid (∀ W,Ext wr.drew W→W.cell? ⟨w.heap.size,j,none⟩=some (.int .i64 lx)):=Lib.hid fun W hR=>QaO (Qaa (Qaa hA (Qah _)) hR) hX
      have HY:Hid (∀ W,Ext wr.drew W→W.cell? ⟨w.heap.size+1,j,none⟩=some (.int .i64 ly)):=Lib.hid fun W hR=>QaO (Qaa (Qaa hB (Qah _)) hR) hY
      go_wp2
      refine QaZ Ext 6 24 [⟨none,[(5,none)]⟩,⟨none,[(2,none),(10,some 0)]⟩,⟨none,[(11,some 1)]⟩,⟨none,[(5,none)]⟩,⟨none,[(3,none),(13,some 3)]⟩,⟨none,[(14,some 4)]⟩] (by kernel_rfl) (by kernel_rfl) rfl zbR zbS (fun F r0 hr hF=>?_)
      have f2:r0 2=.pointer (some ⟨w.heap.size,0,none⟩):=by rw [hr]; rfl
      have f3:r0 3=.pointer (some ⟨w.heap.size+1,0,none⟩):=by rw [hr]; rfl
      have f5:r0 5=.int .i64 j:=by rw [hr]; rfl
      clear hr
      simp only [zaU,zaV]
      repeat
        (try simp only [zaW,zaX]
         apply Qbb
         (intro ρ W hR hh
          have hcx:=HX.out W hR
          have hcy:=HY.out W hR
          simp only [Qcr,zaY,zaZ,f2,f3,f5] at hh
          simp only [guarded,Qb4]
          go_simp
          first
            | exact ⟨zbR _,rfl⟩
            | exact zbR _))
      simp only [zaW,zaX]
      refine hF.out fun W hRW=>?_
      simp only [zaU,zaV,zba,zbb,fin,forall_eq,Act.put,zbc,zbd,zbe]
      clear HX HY hF f2 f3 f5
      have hE:=zbS (Qah wr) hRW
      have hA':=Qaa hA hE
      have hB':=Qaa hB hE
      have HX:Hid (∀ V,Ext W.drew V→V.cell? ⟨w.heap.size,j,none⟩=some (.int .i64 lx)):=Lib.hid fun V hR=>QaO (Qaa (Qaa hA' (Qah _)) hR) hX
      have HY:Hid (∀ V,Ext W.drew V→V.cell? ⟨w.heap.size+1,j,none⟩=some (.int .i64 ly)):=Lib.hid fun V hR=>QaO (Qaa (Qaa hB' (Qah _)) hR) hY
      go_wp2
      · have hne:lx≠ly:=by
          have h:(lx != ly)=true:=by assumption
          simpa using h
        refine QaZ Ext 7 24 [⟨none,[(5,none)]⟩,⟨none,[(2,none),(17,some 0)]⟩,⟨none,[(18,some 1)]⟩,⟨none,[(5,none)]⟩,⟨none,[(3,none),(20,some 3)]⟩,⟨none,[(21,some 4)]⟩,⟨none,[(19,some 2),(22,some 5)]⟩] (by kernel_rfl) (by kernel_rfl) rfl zbR zbS (fun F r0 hr hF=>?_)
        have f2:r0 2=.pointer (some ⟨w.heap.size,0,none⟩):=by rw [hr]; rfl
        have f3:r0 3=.pointer (some ⟨w.heap.size+1,0,none⟩):=by rw [hr]; rfl
        have f5:r0 5=.int .i64 j:=by rw [hr]; rfl
        clear hr
        simp only [zaU,zaV]
        repeat
          (try simp only [zaW,zaX]
           apply Qbb
           (intro ρ V hR hh
            have hcx:=HX.out V hR
            have hcy:=HY.out V hR
            simp only [Qcr,zaY,zaZ,f2,f3,f5] at hh
            simp only [guarded,Qb4]
            go_simp
            first
              | exact ⟨zbR _,rfl⟩
              | exact zbR _))
        simp only [zaW,zaX]
        refine hF.out fun V hRV=>?_
        simp only [zaU,zaV,zba,zbb,fin,forall_eq,Act.put,zbc,zbd,zbe]
        go_wp2
        exact bodyPost_ret (results_tmp rfl _ _ _) rfl ⟨by rw [←HT.out hne]; rfl,zbS (zbS (zbS he hE) (Qah _)) hRV⟩
      · have heq:lx=ly:=by
          first
            | (have h:(lx != ly)=false:=by assumption
               simpa using h)
            | (have h:¬ ((lx != ly)=true):=by assumption
               simpa using h)
        refine ⟨⟨j,by omega,rfl,fun i h1 h2=>?_,zbS he hE,hA',hB'⟩,by simp [intOf]⟩
        rcases (by omega:i=j∨j+1≤i) with rfl | h
        · rw [hlx,hly]; exact heq
        · exact HI.out i h h2
end Field
end
section
namespace Field
open Go Go.RowKit
open Rely
def it : Nat→Int→Int
  | 0,n=>n
  | r+1,n=>Qca (it r n)
theorem QnB (n : Int) (h:0≤n∧n<65536^32) (r:Nat) (hr:r<4):0≤it r n∧it r n<65536^32:=by
  have f:=four n h
  rcases (by omega:r=0∨r=1∨r=2∨r=3) with rfl | rfl | rfl | rfl
  · exact h
  · exact ⟨f.1,f.2.1⟩
  · exact ⟨f.2.2.1,f.2.2.2.1⟩
  · exact ⟨f.2.2.2.2.1,f.2.2.2.2.2.1⟩
theorem Qpu (n : Int) (h:0≤n∧n<65536^32):0≤it 4 n∧it 4 n<65536^16∧it 4 n%57896044618658097711785492504343953926634992332820282019728792003956564819949=n%57896044618658097711785492504343953926634992332820282019728792003956564819949:=by
  have f:=four n h
  exact ⟨f.2.2.2.2.2.2.1,f.2.2.2.2.2.2.2.1,f.2.2.2.2.2.2.2.2⟩
def fmix (S : Int) (k:Nat):List Int:=(zav 32).map fun i=>if i<k then QcN S i else if 16≤i∧i<16+k then 0 else limb S i
theorem Qkh (S : Int) (k:Nat):(fmix S k).length=32:=by simp [fmix]
theorem Qkg (S : Int) (k i:Nat) (hi:i<32):nth (fmix S k) i=if i<k then QcN S i else if 16≤i∧i<16+k then 0 else limb S i:=by simp [nth,fmix,hi]
theorem Qmr (S : Int):fmix S 0=(zav 32).map (limb S):=by
  unfold fmix
  refine zbo fun i hi=>?_
  rw [if_neg (by omega),if_neg (by omega)]
theorem Qms (S : Int):fmix S 16=(zav 32).map (QcN S):=by
  unfold fmix
  refine zbo fun i hi=>?_
  have:=za2.1 hi
  by_cases h:i<16
  · rw [if_pos h]
  · rw [if_neg h,if_pos (by omega)]
    unfold QcN
    rw [if_neg h]
theorem QnK (S : Int) (k:Nat) (hk:k<16):((fmix S k).set k (limb S k+38*limb S (k+16))).set (k+16) 0=fmix S (k+1):=by
  apply zaJ
  · simp [fmix]
  · intro i h1 h2
    simp only [fmix,zaK,zaL,zaM]
    rcases (by omega:i=k+16∨i=k∨i<k∨(k<i∧i<16)∨(16≤i∧i<16+k)∨16+k<i) with h | h | h | h | h | h
    · subst h
      rw [if_pos rfl,if_neg (show ¬ k+16<k+1 by omega),if_pos (show 16≤k+16∧k+16<16+(k+1) by omega)]
    · subst h
      rw [if_neg (show ¬ i+16=i by omega),if_pos rfl,if_pos (show i<i+1 by omega)]
      unfold QcN
      rw [if_pos hk]
    · rw [if_neg (show ¬ k+16=i by omega),if_neg (show ¬ k=i by omega),if_pos h,if_pos (show i<k+1 by omega)]
    · rw [if_neg (show ¬ k+16=i by omega),if_neg (show ¬ k=i by omega),if_neg (show ¬ i<k by omega),if_neg (show ¬ i<k+1 by omega),if_neg (show ¬ (16≤i∧i<16+k) by omega),if_neg (show ¬ (16≤i∧i<16+(k+1)) by omega)]
    · rw [if_neg (show ¬ k+16=i by omega),if_neg (show ¬ k=i by omega),if_neg (show ¬ i<k by omega),if_neg (show ¬ i<k+1 by omega),if_pos (show (16≤i∧i<16+k) by omega),if_pos (show (16≤i∧i<16+(k+1)) by omega)]
    · rw [if_neg (show ¬ k+16=i by omega),if_neg (show ¬ k=i by omega),if_neg (show ¬ i<k by omega),if_neg (show ¬ i<k+1 by omega),if_neg (show ¬ (16≤i∧i<16+k) by omega),if_neg (show ¬ (16≤i∧i<16+(k+1)) by omega)]
def out5 (S : Int) (i:Nat):Int:=if i=15 then limb S 15%32768 else limb S i
def g5 (S : Int) (i:Nat):Int:=out5 S i+(if i=0 then 19*(limb S 15/32768) else 0)
def S5 (S : Int):Int:=S%57896044618658097711785492504343953926634992332820282019728792003956564819968+19*(S/57896044618658097711785492504343953926634992332820282019728792003956564819968)
theorem Qig (c : Int):∀ k,pvf (fun i=>if i=0 then c else 0) (k+1)=c
  | 0=>by simp [pvf]
  | k+1=>by
    rw [pvf,Qig c k]
    simp
theorem Qqz (S : Int) (h:0≤S∧S<65536^16):pvf (g5 S) 16=S5 S:=by
  have e1:pvf (g5 S) 16=pvf (out5 S) 16+pvf (fun i=>if i=0 then 19*(limb S 15/32768) else 0) 16:=Qhu _ _ _
  have e2:pvf (fun i=>if i=0 then 19*(limb S 15/32768) else 0) 16=19*(limb S 15/32768):=Qig _ 15
  have e3:pvf (out5 S) 15=pvf (limb S) 15:=Qdz (n:=15) (fun i hi=>by unfold out5; rw [if_neg (by omega)]) 15 (qR _)
  have e4:pvf (out5 S) 16=pvf (out5 S) 15+out5 S 15*65536^15:=rfl
  rw [e1,e2,e4,e3,QcX]
  unfold out5 S5 limb
  rw [if_pos rfl]
  have f1:(65536:Int)^15=1766847064778384329583297500742918515827483896875618958121606201292619776:=by decide
  have f2:(65536:Int)^16=115792089237316195423570985008687907853269984665640564039457584007913129639936:=by decide
  rw [f1]
  rw [f2] at h
  omega
theorem QkF (S : Int) (i:Nat):0≤out5 S i∧out5 S i<65536:=by
  unfold out5
  have h1:=Qbg S i
  have h2:=Qbg S 15
  split <;> omega
theorem QqE (S : Int) (h:0≤S∧S<65536^16):0≤S5 S∧S5 S<57896044618658097711785492504343953926634992332820282019728792003956564820006 ∧
    S5 S%57896044618658097711785492504343953926634992332820282019728792003956564819949=S%57896044618658097711785492504343953926634992332820282019728792003956564819949:=by
  have f2:(65536:Int)^16=115792089237316195423570985008687907853269984665640564039457584007913129639936:=by decide
  rw [f2] at h
  unfold S5
  omega
theorem Qn4 (V : Int) (h0:0≤V) (h:V<57896044618658097711785492504343953926634992332820282019728792003956564820006) :
    (57896044618658097711785492504343953926634992332820282019728792003956564819949≤V→V-57896044618658097711785492504343953926634992332820282019728792003956564819949=V%57896044618658097711785492504343953926634992332820282019728792003956564819949) ∧
    (¬ 57896044618658097711785492504343953926634992332820282019728792003956564819949≤V→V=V%57896044618658097711785492504343953926634992332820282019728792003956564819949):=by omega
theorem Qml (xs : List Int) (h:xs.length=32):(Tryz.prog.info? 108).map (·.size)=some (ints .i64 xs).size:=by
  rw [QaD,h]
  kernel_rfl
def M : Int:=1125899906842624
theorem small (xs : List Int) (hl:xs.length=32) (hr:∀ i,i<32→0≤nth xs i∧nth xs i≤M) (h0:0≤pvf (nth xs) 32∧pvf (nth xs) 32<65536^32) (w:World) :
    Calls Tryz.prog 63 #[.agg (ints .i64 xs)] w (Ret w (lnum (pvf (nth xs) 32%p))):=by
  generalize hn:pvf (nth xs) 32=n at *
  have hit:=QnB n h0
  have hfour:=Qpu n h0
  go_enter Tryz.func63,Tryz.ntmps63
  go_wp2_with fail
  go_loopw [4] (fun i wr=>∃ r:Nat,r≤4∧i=.int .i64 r∧Ext w wr∧∃ g:Nat→Int,(∀ i,i<32→0≤g i∧g i≤M)∧pvf g 32=it r n∧(1≤r→∀ i,16≤i→g i=0) ∧
      wr.heap[w.heap.size]? = some (.cells (ints .i64 ((zav 32).map g)) 108)∧(∃ b,b.size=16∧wr.heap[w.heap.size+1]? = some (.cells b 90)) ∧
      wr.heap[w.heap.size+1+1]? = some (.cells (ints .i64 (zaq 16 0)) 90)) (fun i _=>4-(intOf i).toNat)
  case atStart=>exact ⟨0,by omega,rfl,ext3 _ _ _ _,nth xs,hr,hn,fun h=>by omega,by rw [QlB _ _ hl]; exact Qdu _ _ _ _,⟨_,rfl,Qcx _ _ _ _⟩,QbK _ _ _ _⟩
  case round =>
    obtain ⟨r,hr4,rfl,he,g,hg,hgv,hgz,hA,⟨b,hbs,hB⟩,hC⟩:=hrel
    by_cases hlt:r<4
    · clear hgz hfour hr hn hl h0
      have hS:=hit r hlt
      go_wp2
      go_loopw [5,6] (fun c i wq=>∃ k:Nat,k≤32∧i=.int .i64 k∧c=.int .i64 (cr g k)∧Ext w wq∧wq.heap[w.heap.size]? = some (.cells (ints .i64 (mix 32 (limb (it r n)) g k)) 108)∧wq.heap[w.heap.size+1]? = some (.cells b 90) ∧
        wq.heap[w.heap.size+1+1]? = some (.cells (ints .i64 (zaq 16 0)) 90)) (fun _ i _=>32-(intOf i).toNat)
      case atStart=>exact ⟨0,by omega,rfl,by rw [Qf6],he,by rw [Qh5]; exact hA,hB,hC⟩
      case round =>
        clear hA hB hC he
        obtain ⟨k,hk,rfl,rfl,he,hA,hB,hC⟩:=hrel
        by_cases hk32:k<32
        · have hX:(ints .i64 (mix 32 (limb (it r n)) g k))[k]? = some (.int .i64 (g k)):=by rw [Qay _ _ _ (by rw [mix_len]; exact hk32),Qc8 _ _ _ _ _ hk32,if_neg (by omega)]
          have hS1:(ints .i64 (mix 32 (limb (it r n)) g k)).setIfInBounds k (.int .i64 (limb (it r n) k))=ints .i64 (mix 32 (limb (it r n)) g (k+1)):=by rw [QbP,mix_set _ _ _ _ hk32]
          have e1:=QeD g k 32 hk32
          have e2:=Qf7 g k
          have b1:=hg k hk32
          have b2:=QhE g M 32 (by decide) hg k (by omega)
          rw [hgv] at e1
          unfold M at b1 b2
          generalize hcn:cr g (k+1)=cn at *
          generalize hcc:cr g k=cc at *
          generalize hgg:g k=gk at *
          have hcx:=QaO hA hX
          have hfx:=Qb1 hA k
          have w1:za5.wrap (gk+cc)=gk+cc:=IntWalk.i64_in _ (by omega)
          have w2:(gk+cc).tmod 65536=(gk+cc)%65536:=zaT (by omega)
          have w3:za5.wrap ((gk+cc)%65536)=(gk+cc)%65536:=IntWalk.i64_in _ (by omega)
          have w4:(gk+cc).tdiv 65536=(gk+cc)/65536:=zb4 (by omega)
          have w5:za5.wrap ((gk+cc)/65536)=(gk+cc)/65536:=IntWalk.i64_in _ (by omega)
          have HG:=Lib.hid hg
          clear hg
          go_wp2
          exact ⟨⟨k+1,by omega,by go_num,by rw [hcn],QcA he (qR _) _ _,(Qc5 _ _ hA).trans (by rw [hS1]),(QaA _ _ (by omega)).trans hB,(QaA _ _ (by omega)).trans hC⟩,by simp [intOf]; omega⟩
        · obtain rfl:k=32:=by omega
          rw [Qh6 _ _ _ _ (qR _),←Qmr] at hA
          have HS:=Lib.hid hS
          have HG:=Lib.hid hgv
          clear hS hgv hg hit
          go_wp2
          go_loopw [8] (fun i wq=>∃ k:Nat,k≤16∧i=.int .i64 k∧Ext w wq∧wq.heap[w.heap.size]? = some (.cells (ints .i64 (fmix (it r n) k)) 108)∧wq.heap[w.heap.size+1]? = some (.cells b 90) ∧
            wq.heap[w.heap.size+1+1]? = some (.cells (ints .i64 (zaq 16 0)) 90)) (fun i _=>16-(intOf i).toNat)
          case atStart=>exact ⟨0,by omega,rfl,he,hA,hB,hC⟩
          case round =>
            clear hA hB hC he
            obtain ⟨k,hk,rfl,he,hA,hB,hC⟩:=hrel
            by_cases hk16:k<16
            · have hX:(ints .i64 (fmix (it r n) k))[k]? = some (.int .i64 (limb (it r n) k)):=by rw [Qay _ _ _ (by rw [Qkh]; omega),Qkg _ _ _ (by omega),if_neg (by omega),if_neg (by omega)]
              have hY:(ints .i64 (fmix (it r n) k))[k+16]? = some (.int .i64 (limb (it r n) (k+16))):=by rw [Qay _ _ _ (by rw [Qkh]; omega),Qkg _ _ _ (by omega),if_neg (by omega),if_neg (by omega)]
              have hS1:((ints .i64 (fmix (it r n) k)).setIfInBounds k (.int .i64 (limb (it r n) k+38*limb (it r n) (k+16)))).setIfInBounds (k+16) (.int .i64 0)=ints .i64 (fmix (it r n) (k+1)):=by rw [QbP,QbP,QnK _ _ hk16]
              have b1:=Qbg (it r n) k
              have b2:=Qbg (it r n) (k+16)
              generalize hlx:limb (it r n) k=lx at *
              generalize hly:limb (it r n) (k+16)=ly at *
              have q1:za5.wrap ((k:Int)+16)=(k:Int)+16:=IntWalk.i64_in _ (by omega)
              have q2:((k:Int)+16).toNat=k+16:=by omega
              have q3:(0:Int)≤(k:Int)+16:=by omega
              have q4:(k:Int)+16<32:=by omega
              have q5:(k:Int)<32:=by omega
              have w1:za5.wrap (38*ly)=38*ly:=IntWalk.i64_in _ (by omega)
              have w2:za5.wrap (lx+38*ly)=lx+38*ly:=IntWalk.i64_in _ (by omega)
              have HX:Hid (∀ W,Ext wr.drew W→W.cell? ⟨w.heap.size,k,none⟩=some (.int .i64 lx)):=Lib.hid fun W hR=>QaO (Qaa (Qaa hA (Qah _)) hR) hX
              have HY:Hid (∀ W,Ext wr.drew W→W.cell? ⟨w.heap.size,k+16,none⟩=some (.int .i64 ly)):=Lib.hid fun W hR=>QaO (Qaa (Qaa hA (Qah _)) hR) hY
              go_wp2
              refine QaZ Ext 11 103 [⟨none,[(8,none)]⟩,⟨none,[(8,none)]⟩,⟨none,[(1,none),(39,some 1)]⟩,⟨none,[(40,some 2)]⟩,⟨none,[(8,none)]⟩,⟨none,[(42,some 4)]⟩,⟨none,[(1,none),(43,some 5)]⟩,⟨none,[(44,some 6)]⟩,⟨none,[(45,some 7)]⟩,⟨none,[(41,some 3),(46,some 8)]⟩,⟨none,[(1,none),(38,some 0)]⟩] (by kernel_rfl) (by kernel_rfl) rfl zbR zbS (fun F r0 hr hF=>?_)
              have f1:r0 1=.pointer (some ⟨w.heap.size,0,none⟩):=by rw [hr]; rfl
              have f8:r0 8=.int .i64 k:=by rw [hr]; rfl
              clear hr
              simp only [zaU,zaV]
              repeat
                (try simp only [zaW,zaX]
                 apply Qbb
                 (intro ρ W hR hh
                  have hcx:=HX.out W hR
                  have hcy:=HY.out W hR
                  simp only [Qcr,zaY,zaZ,f1,f8] at hh
                  simp only [guarded,Qb4]
                  go_simp
                  first
                    | exact ⟨zbR _,rfl⟩
                    | exact zbR _))
              simp only [zaW,zaX]
              refine hF.out fun W hRW=>?_
              simp only [zaU,zaV,zba,zbb,fin,forall_eq,Act.put,zbc,zbd,zbe]
              clear HX HY hF f1 f8
              have hE:=zbS (Qah wr) hRW
              have hA':=Qaa hA hE
              have hB':=Qaa hB hE
              have hC':=Qaa hC hE
              have hcx:=QaO hA' hX
              have hfx:=Qb1 hA' k
              have hA2:=Qc5 k (.int .i64 (lx+38*ly)) hA'
              have hcy:(W.setCell ⟨w.heap.size,k,none⟩ (.int .i64 (lx+38*ly))).cell? ⟨w.heap.size,k+16,none⟩=some (.int .i64 ly):=QaO hA2 (by rw [zb5 (by omega)]; exact hY)
              have hfy:=Qb1 hA2 (k+16)
              go_wp2
              exact ⟨⟨k+1,by omega,by go_num,QcA (QcA (zbS he hE) (qR _) _ _) (qR _) _ _,(Qc5 _ _ hA2).trans (by rw [hS1]),(QaA _ _ (by omega)).trans ((QaA _ _ (by omega)).trans hB'),(QaA _ _ (by omega)).trans ((QaA _ _ (by omega)).trans hC')⟩,by simp [intOf]; omega⟩
            · obtain rfl:k=16:=by omega
              rw [Qms] at hA
              have hS:=HS.out
              have hgv:=HG.out
              clear HS HG
              go_wp2
              refine ⟨⟨r+1,by omega,by go_num,he,QcN (it r n),fun i _=>?_,QnJ _ hS,fun _ i hi=>?_,hA,⟨b,hbs,hB⟩,hC⟩,by simp [intOf]; omega⟩
              · have:=Qi8 (it r n) i
                unfold M
                omega
              · unfold QcN
                rw [if_neg (by omega)]
    · obtain rfl:r=4:=by omega
      have hz:=hgz (by decide)
      have hgv:pvf g 16=it 4 n:=by rw [←hgv,Qfc g 16 32 (by decide) fun j a _=>hz j a]
      clear hgz hr hn hl h0 hit
      obtain ⟨hN0,hN1,hN2⟩:=hfour
      generalize hN:it 4 n=N at *
      have HN:=Lib.hid (And.intro hN0 (And.intro hN1 hN2))
      clear hN0 hN1 hN2 hN
      rw [show zaq 16 (0:Int)=mix 16 (limb N) (fun _=>0) 0 by rw [Qh5]; rfl] at hC
      go_wp2
      go_loopw [9,10] (fun c i wq=>∃ k:Nat,k≤16∧i=.int .i64 k∧c=.int .i64 (cr g k)∧Ext w wq∧wq.heap[w.heap.size]? = some (.cells (ints .i64 ((zav 32).map g)) 108)∧wq.heap[w.heap.size+1]? = some (.cells b 90) ∧
        wq.heap[w.heap.size+1+1]? = some (.cells (ints .i64 (mix 16 (limb N) (fun _=>0) k)) 90)) (fun _ i _=>16-(intOf i).toNat)
      case atStart=>exact ⟨0,by omega,rfl,by rw [Qf6],he,hA,hB,hC⟩
      case round =>
        clear hA hB hC he
        obtain ⟨k,hk,rfl,rfl,he,hA,hB,hC⟩:=hrel
        by_cases hk16:k<16
        · have hX:(ints .i64 ((zav 32).map g))[k]? = some (.int .i64 (g k)):=by rw [Qay _ _ _ (by simp; omega)]; simp [nth,show k<32 by omega]
          have hY:(ints .i64 (mix 16 (limb N) (fun _=>0) k))[k]? = some (.int .i64 0):=by rw [Qay _ _ _ (by rw [mix_len]; exact hk16),Qc8 _ _ _ _ _ hk16,if_neg (by omega)]
          have hS1:(ints .i64 (mix 16 (limb N) (fun _=>0) k)).setIfInBounds k (.int .i64 (limb N k))=ints .i64 (mix 16 (limb N) (fun _=>0) (k+1)):=by rw [QbP,mix_set _ _ _ _ hk16]
          have e1:=QeD g k 16 hk16
          have e2:=Qf7 g k
          have b1:=hg k (by omega)
          have b2:=QhE g M 32 (by decide) hg k (by omega)
          rw [hgv] at e1
          unfold M at b1 b2
          generalize hcn:cr g (k+1)=cn at *
          generalize hcc:cr g k=cc at *
          generalize hgg:g k=gk at *
          have q5:(k:Int)<32:=by omega
          have hcx:=QaO hA hX
          have hcy:=QaO hC hY
          have hfx:=Qb1 hC k
          have w1:za5.wrap (gk+cc)=gk+cc:=IntWalk.i64_in _ (by omega)
          have w2:(gk+cc).tmod 65536=(gk+cc)%65536:=zaT (by omega)
          have w3:za5.wrap ((gk+cc)%65536)=(gk+cc)%65536:=IntWalk.i64_in _ (by omega)
          have w4:(gk+cc).tdiv 65536=(gk+cc)/65536:=zb4 (by omega)
          have w5:za5.wrap ((gk+cc)/65536)=(gk+cc)/65536:=IntWalk.i64_in _ (by omega)
          have HG:=Lib.hid hg
          clear hg hz
          go_wp2
          exact ⟨⟨k+1,by omega,by go_num,by rw [hcn],QcA he (by omega) _ _,(QaA _ _ (by omega)).trans hA,(QaA _ _ (by omega)).trans hB,(Qc5 _ _ hC).trans (by rw [hS1])⟩,by simp [intOf]; omega⟩
        · obtain rfl:k=16:=by omega
          clear hg hz hgv hA
          have hX:(ints .i64 (mix 16 (limb N) (fun _=>0) 16))[15]? = some (.int .i64 (limb N 15)):=by rw [Qay _ _ _ (by rw [mix_len]; decide),Qc8 _ _ _ _ _ (by decide),if_pos (by decide)]
          have hY:(ints .i64 (mix 16 (limb N) (fun _=>0) 16))[0]? = some (.int .i64 (limb N 0)):=by rw [Qay _ _ _ (by rw [mix_len]; decide),Qc8 _ _ _ _ _ (by decide),if_pos (by decide)]
          have hS1:(ints .i64 (mix 16 (limb N) (fun _=>0) 16)).setIfInBounds 15 (.int .i64 (limb N 15%32768))=ints .i64 (mix 16 (limb (S5 N)) (out5 N) 0):=by
            rw [QbP]
            refine congrArg (ints .i64) (zaJ (by simp [mix]) fun i h1 h2=>?_)
            have h3:i<16:=by simpa [mix] using h2
            simp only [mix,zaK,zaL,zaM]
            unfold out5
            by_cases h:i=15
            · subst h; simp
            · rw [if_neg (show ¬ 15=i by omega),if_pos h3,if_neg (show ¬ i<0 by omega),if_neg h]
          have b1:=Qbg N 15
          have b2:=Qbg N 0
          have eg0:limb N 0+19*(limb N 15/32768)=g5 N 0+cr (g5 N) 0:=by
            rw [Qf6]
            unfold g5 out5
            simp
          generalize hm0:g5 N 0+cr (g5 N) 0=m0 at *
          generalize hlx:limb N 15=lx at *
          generalize hly:limb N 0=ly at *
          have w1:lx.tdiv 32768=lx/32768:=zb4 (by omega)
          have w2:za5.wrap (lx/32768)=lx/32768:=IntWalk.i64_in _ (by omega)
          have w3:lx.tmod 32768=lx%32768:=zaT (by omega)
          have w4:za5.wrap (lx%32768)=lx%32768:=IntWalk.i64_in _ (by omega)
          have w5:za5.wrap (19*(lx/32768))=19*(lx/32768):=IntWalk.i64_in _ (by omega)
          have w6:za5.wrap (ly+19*(lx/32768))=ly+19*(lx/32768):=IntWalk.i64_in _ (by omega)
          have hcx:=QaO hC hX
          have hfx:=Qb1 hC 15
          have hC2:=Qc5 15 (.int .i64 (lx%32768)) hC
          have hcy:(wr.setCell ⟨w.heap.size+1+1,15,none⟩ (.int .i64 (lx%32768))).cell? ⟨w.heap.size+1+1,0,none⟩=some (.int .i64 ly):=QaO hC2 (by rw [zb5 (by decide)]; exact hY)
          rw [hS1] at hC2
          have hB2:=(QaA (W:=wr) 15 (.int .i64 (lx%32768)) (show w.heap.size+1≠w.heap.size+1+1 by omega)).trans hB
          have he2:=QcA he (show w.heap.size≤w.heap.size+1+1 by omega) 15 (.int .i64 (lx%32768))
          generalize hwz:wr.setCell ⟨w.heap.size+1+1,15,none⟩ (.int .i64 (lx%32768))=wz at *
          go_wp2
          clear hcx hfx hcy hX hY hS1 hC hB he hwz w1 w2 w3 w4 w5 w6
          go_loopw [13,14] (fun c i wq=>∃ k:Nat,k≤16∧i=.int .i64 k∧(∃ m:Int,c=.int .i64 m∧0≤m∧m≤4611686018427387904∧(k<16→m=g5 N k+cr (g5 N) k))∧Ext w wq∧wq.heap[w.heap.size+1]? = some (.cells b 90) ∧
            wq.heap[w.heap.size+1+1]? = some (.cells (ints .i64 (mix 16 (limb (S5 N)) (out5 N) k)) 90)) (fun _ i _=>16-(intOf i).toNat)
          case atStart=>exact ⟨0,by omega,rfl,⟨_,rfl,by omega,by omega,fun _=>by rw [hm0]⟩,he2,hB2,hC2⟩
          case round =>
            clear he2 hB2 hC2 eg0 hm0 b1 b2
            obtain ⟨k,hk,rfl,⟨m,rfl,hm0,hm1,hme⟩,he,hB,hC⟩:=hrel
            by_cases hk16:k<16
            · have hme':=hme hk16
              have hX:(ints .i64 (mix 16 (limb (S5 N)) (out5 N) k))[k]? = some (.int .i64 (out5 N k)):=by rw [Qay _ _ _ (by rw [mix_len]; exact hk16),Qc8 _ _ _ _ _ hk16,if_neg (by omega)]
              have hS1:(ints .i64 (mix 16 (limb (S5 N)) (out5 N) k)).setIfInBounds k (.int .i64 (limb (S5 N) k))=ints .i64 (mix 16 (limb (S5 N)) (out5 N) (k+1)):=by rw [QbP,mix_set _ _ _ _ hk16]
              have e1:=QeD (g5 N) k 16 hk16
              have e2:=Qf7 (g5 N) k
              rw [Qqz N ⟨HN.out.1,HN.out.2.1⟩,←hme'] at e1
              rw [←hme'] at e2
              have hcx:=QaO hC hX
              have hfx:=Qb1 hC k
              have hC2:=Qc5 k (.int .i64 (limb (S5 N) k)) hC
              have hB2:=(QaA (W:=wr) k (.int .i64 (limb (S5 N) k)) (show w.heap.size+1≠w.heap.size+1+1 by omega)).trans hB
              have he2:=QcA he (show w.heap.size≤w.heap.size+1+1 by omega) k (.int .i64 (limb (S5 N) k))
              rw [hS1] at hC2
              have w2:m.tmod 65536=m%65536:=zaT hm0
              have w3:za5.wrap (m%65536)=m%65536:=IntWalk.i64_in _ (by omega)
              have w4:m.tdiv 65536=m/65536:=zb4 hm0
              have w5:za5.wrap (m/65536)=m/65536:=IntWalk.i64_in _ (by omega)
              by_cases hk15:k<15
              · have hZ:(ints .i64 (mix 16 (limb (S5 N)) (out5 N) (k+1)))[k+1]? = some (.int .i64 (out5 N (k+1))):=by rw [Qay _ _ _ (by rw [mix_len]; omega),Qc8 _ _ _ _ _ (by omega),if_neg (by omega)]
                have hcz:=QaO hC2 hZ
                have hor:=QkF N (k+1)
                have hgn:out5 N (k+1)+cr (g5 N) (k+1)=g5 N (k+1)+cr (g5 N) (k+1):=by
                  unfold g5
                  rw [if_neg (show ¬ k+1=0 by omega)]
                  omega
                have q1:za5.wrap ((k:Int)+1)=(k:Int)+1:=IntWalk.i64_in _ (by omega)
                have q2:((k:Int)+1).toNat=k+1:=by omega
                have q3:(0:Int)≤(k:Int)+1:=by omega
                have q4:(k:Int)+1<16:=by omega
                have q5:(k:Int)<15:=by omega
                rw [←e2] at hgn
                have Hgn:=Lib.hid hgn
                clear hgn hme hme'
                generalize hoz:out5 N (k+1)=oz at *
                generalize hwz:wr.setCell ⟨w.heap.size+1+1,k,none⟩ (.int .i64 (limb (S5 N) k))=wz at *
                have w6:za5.wrap (oz+m/65536)=oz+m/65536:=IntWalk.i64_in _ (by omega)
                go_wp2
                exact ⟨⟨k+1,by omega,by go_num,⟨_,rfl,by omega,by omega,fun _=>by have:=Hgn.out; omega⟩,he2,hB2,hC2⟩,by simp [intOf]; omega⟩
              · obtain rfl:k=15:=by omega
                clear hme hme'
                generalize hwz:wr.setCell ⟨w.heap.size+1+1,15,none⟩ (.int .i64 (limb (S5 N) 15))=wz at *
                go_wp2
                exact ⟨⟨16,by omega,rfl,⟨m,rfl,hm0,hm1,fun h=>by omega⟩,he2,hB2,hC2⟩,by simp [intOf]⟩
            · obtain rfl:k=16:=by omega
              clear hme
              have hV:=QqE N ⟨HN.out.1,HN.out.2.1⟩
              have hL:=Qn4 (S5 N) hV.1 hV.2.1
              have hres:lnum (S5 N%p)=lnum (n%p):=by
                have:=HN.out.2.2
                unfold p
                rw [hV.2.2,this]
              rw [Qh6 _ _ _ _ (qR _)] at hC
              have hC:wr.heap[w.heap.size+1+1]? = some (.cells (ints .i64 (lims (S5 N))) 90):=hC
              clear HN
              generalize hVV:S5 N=V at *
              have hp0:(0:Int)≤p∧p<big:=by decide
              have hVb:0≤V∧V<big:=by unfold big; omega
              by_cases hge:p≤V
              · have hv:V-p=V%p:=hL.1 hge
                have hvb:0≤V%p∧V%p<p:=⟨zaD _ (by decide),zaE _ (by decide)⟩
                have HA:Hid (∀ w,Calls Tryz.prog 87 #[.agg (ints .i64 (lims V)),.agg (ints .i64 (lims p))] w (Ret w (.bool true))):=Lib.hid fun w=>by
                  have:=Qj4 V p hVb hp0 w
                  rw [decide_eq_true hge] at this
                  exact this
                have HA2:Hid (∀ w,Calls Tryz.prog 87 #[.agg (ints .i64 (lims (V%p))),.agg (ints .i64 (lims p))] w (Ret w (.bool false))):=Lib.hid fun w=>by
                  have:=Qj4 (V%p) p ⟨hvb.1,by omega⟩ hp0 w
                  rw [decide_eq_false (by omega)] at this
                  exact this
                have HM:Hid (∀ w,Calls Tryz.prog 84 #[.agg (ints .i64 (lims V)),.agg (ints .i64 (lims p))] w (Ret w (.agg (ints .i64 (lims (V%p)))))):=Lib.hid fun w=>by
                  have:=minus V p hp0.1 hge hVb.2 w
                  rw [hv] at this
                  exact this
                generalize hR:V%p=R at *
                have HRES:=Lib.hid hres
                clear hres
                clear hv hvb hge hVb hL hV hVV hR
                go_wp2
                refine wp_loop_rounds 3 ?_
                rw [rounds_succ]
                go_wp2
                refine QaZ Ext 2 103 [⟨none,[(3,none)]⟩,⟨none,[]⟩] (by kernel_rfl) (by kernel_rfl) rfl zbR zbS (fun F r0 hr hF=>?_)
                have f3:r0 3=.pointer (some ⟨w.heap.size+1+1,0,none⟩):=by rw [hr]; rfl
                clear hr
                simp only [zaU,zaV]
                refine Qbb (.agg (ints .i64 (lims V))) (fun ρ W hR hh=>?_) ?_
                · exact Qb6 90 (.tmp _) rfl _ (Eq.trans hh.1 f3) 90 _ (0,0) _ (Qaa (Qaa hC (Qah _)) hR) Tryz.underlying90 rfl (Qcj _ (QaW _))
                refine Qbb (.agg (ints .i64 (lims p))) (fun ρ W hR hh=>?_) ?_
                · simp only [guarded,Qb4]
                  go_simp
                  exact ⟨zbR _,(prime _).mono fun _ _ h=>h.const⟩
                simp only [zaW,zaX]
                refine hF.out fun W1 hR1=>?_
                simp only [zaU,zaV,zba,zbb,fin,forall_eq,Act.put,zbc,zbd,zbe]
                clear hF f3
                go_wp2_with first
                  | (go_at_call 87
                     (with_reducible refine (HA.out _).mono ?_)
                     clear HA
                     rintro e w' ⟨rfl,hw⟩)
                have hBy:=Qaa (Qaa (Qaa hB (Qah _)) hR1) hw
                have hCy:=Qaa (Qaa (Qaa hC (Qah _)) hR1) hw
                have hey:=zbS (zbS (zbS he (Qah _)) hR1) hw
                clear hB hC he hw hR1
                refine QaZ Ext 2 103 [⟨none,[(3,none)]⟩,⟨none,[]⟩] (by kernel_rfl) (by kernel_rfl) rfl zbR zbS (fun F r0 hr hF=>?_)
                have f3:r0 3=.pointer (some ⟨w.heap.size+1+1,0,none⟩):=by rw [hr]; rfl
                clear hr
                simp only [zaU,zaV]
                refine Qbb (.agg (ints .i64 (lims V))) (fun ρ W hR hh=>?_) ?_
                · exact Qb6 90 (.tmp _) rfl _ (Eq.trans hh.1 f3) 90 _ (0,0) _ (Qaa (Qaa hCy (Qah _)) hR) Tryz.underlying90 rfl (Qcj _ (QaW _))
                refine Qbb (.agg (ints .i64 (lims p))) (fun ρ W hR hh=>?_) ?_
                · simp only [guarded,Qb4]
                  go_simp
                  exact ⟨zbR _,(prime _).mono fun _ _ h=>h.const⟩
                simp only [zaW,zaX]
                refine hF.out fun W2 hR2=>?_
                simp only [zaU,zaV,zba,zbb,fin,forall_eq,Act.put,zbc,zbd,zbe]
                clear hF f3
                go_wp2_with first
                  | (go_at_call 84
                     (with_reducible refine (HM.out _).mono ?_)
                     clear HM
                     rintro e w'' ⟨rfl,hw⟩
                     have hBx:=Qaa (Qaa (Qaa hBy (Qah _)) hR2) hw
                     have hCx:=Qaa (Qaa (Qaa hCy (Qah _)) hR2) hw
                     have hex:=zbS (zbS (zbS hey (Qah _)) hR2) hw)
                  | (with_reducible show wpList _ _ _ ((⟨_,.store 90 _ _,_,_,_,_⟩:Oper)::_) _ _
                     refine wpList_store_row rfl 90 _ _ rfl (w.heap.size+1+1) _ rfl rfl 90 _ hCx (Qcj _ (QaW _)) (by rw [QaD,QaD,QaW,QaW]) (ints_one _ _) ?_)
                have hCv:(w''.setRow (w.heap.size+1+1) (ints .i64 (lims R))).heap[w.heap.size+1+1]? = some (.cells (ints .i64 (lims R)) 90):=setRow_heap _ _ _ _ _ _ hCx
                have hBv:=(setRow_other w'' (w.heap.size+1+1) (w.heap.size+1) (ints .i64 (lims R)) (by omega)).trans hBx
                have hev:=Qbs hex (show w.heap.size≤w.heap.size+1+1 by omega) (ints .i64 (lims R))
                generalize w''.setRow (w.heap.size+1+1) (ints .i64 (lims R))=wv at *
                clear hCx hBx hex hw hCy hBy hey hR2
                rw [rounds_succ]
                go_wp2
                refine QaZ Ext 2 103 [⟨none,[(3,none)]⟩,⟨none,[]⟩] (by kernel_rfl) (by kernel_rfl) rfl zbR zbS (fun F r0 hr hF=>?_)
                have f3:r0 3=.pointer (some ⟨w.heap.size+1+1,0,none⟩):=by rw [hr]; rfl
                clear hr
                simp only [zaU,zaV]
                refine Qbb (.agg (ints .i64 (lims R))) (fun ρ W hR hh=>?_) ?_
                · exact Qb6 90 (.tmp _) rfl _ (Eq.trans hh.1 f3) 90 _ (0,0) _ (Qaa (Qaa hCv (Qah _)) hR) Tryz.underlying90 rfl (Qcj _ (QaW _))
                refine Qbb (.agg (ints .i64 (lims p))) (fun ρ W hR hh=>?_) ?_
                · simp only [guarded,Qb4]
                  go_simp
                  exact ⟨zbR _,(prime _).mono fun _ _ h=>h.const⟩
                simp only [zaW,zaX]
                refine hF.out fun W3 hR3=>?_
                simp only [zaU,zaV,zba,zbb,fin,forall_eq,Act.put,zbc,zbd,zbe]
                clear hF f3
                go_wp2_with first
                  | (go_at_call 87
                     (with_reducible refine (HA2.out _).mono ?_)
                     clear HA2
                     rintro e w4 ⟨rfl,hw4⟩
                     have hBz:=Qaa (Qaa (Qaa hBv (Qah _)) hR3) hw4
                     have hCz:=Qaa (Qaa (Qaa hCv (Qah _)) hR3) hw4
                     have hez:=zbS (zbS (zbS hev (Qah _)) hR3) hw4
                     clear hw4)
                  | (with_reducible show wpList _ _ _ ((⟨_,.load 90 _,_,_,_,_⟩:Oper)::_) _ _
                     refine wpList_load_row rfl 90 _ rfl (w.heap.size+1+1) rfl 90 _ (0,0) _ hCz Tryz.underlying90 rfl (Qcj _ (QaW _)) ?_)
                  | (with_reducible show wpList _ _ _ ((⟨_,.store 90 _ _,_,_,_,_⟩:Oper)::_) _ _
                     refine wpList_store_row rfl 90 _ _ rfl (w.heap.size+1) _ rfl rfl 90 _ hBz (Qcj _ (QaW _)) (by rw [hbs,QaD,QaW]) (ints_one _ _) ?_)
                exact bodyPost_ret (results_cell_row (p:=2) rfl _ _ (w.heap.size+1) 90 _ (0,0) _ rfl (setRow_heap _ _ _ _ _ _ hBz) Tryz.underlying90 rfl (Qcj _ (QaW _))) rfl ⟨by rw [←HRES.out]; rfl,Qbs hez (by omega) _⟩
              · have hv:V=V%p:=hL.2 hge
                have HA:Hid (∀ w,Calls Tryz.prog 87 #[.agg (ints .i64 (lims V)),.agg (ints .i64 (lims p))] w (Ret w (.bool false))):=Lib.hid fun w=>by
                  have:=Qj4 V p hVb hp0 w
                  rw [decide_eq_false hge] at this
                  exact this
                rw [←hv] at hres
                have HRES:=Lib.hid hres
                clear hres
                clear hv hge hVb hL hV hVV
                go_wp2
                refine wp_loop_rounds 2 ?_
                rw [rounds_succ]
                go_wp2
                refine QaZ Ext 2 103 [⟨none,[(3,none)]⟩,⟨none,[]⟩] (by kernel_rfl) (by kernel_rfl) rfl zbR zbS (fun F r0 hr hF=>?_)
                have f3:r0 3=.pointer (some ⟨w.heap.size+1+1,0,none⟩):=by rw [hr]; rfl
                clear hr
                simp only [zaU,zaV]
                refine Qbb (.agg (ints .i64 (lims V))) (fun ρ W hR hh=>?_) ?_
                · exact Qb6 90 (.tmp _) rfl _ (Eq.trans hh.1 f3) 90 _ (0,0) _ (Qaa (Qaa hC (Qah _)) hR) Tryz.underlying90 rfl (Qcj _ (QaW _))
                refine Qbb (.agg (ints .i64 (lims p))) (fun ρ W hR hh=>?_) ?_
                · simp only [guarded,Qb4]
                  go_simp
                  exact ⟨zbR _,(prime _).mono fun _ _ h=>h.const⟩
                simp only [zaW,zaX]
                refine hF.out fun W1 hR1=>?_
                simp only [zaU,zaV,zba,zbb,fin,forall_eq,Act.put,zbc,zbd,zbe]
                clear hF f3
                go_wp2_with first
                  | (go_at_call 87
                     (with_reducible refine (HA.out _).mono ?_)
                     clear HA
                     rintro e w4 ⟨rfl,hw4⟩
                     have hBz:=Qaa (Qaa (Qaa hB (Qah _)) hR1) hw4
                     have hCz:=Qaa (Qaa (Qaa hC (Qah _)) hR1) hw4
                     have hez:=zbS (zbS (zbS he (Qah _)) hR1) hw4
                     clear hw4)
                  | (with_reducible show wpList _ _ _ ((⟨_,.load 90 _,_,_,_,_⟩:Oper)::_) _ _
                     refine wpList_load_row rfl 90 _ rfl (w.heap.size+1+1) rfl 90 _ (0,0) _ hCz Tryz.underlying90 rfl (Qcj _ (QaW _)) ?_)
                  | (with_reducible show wpList _ _ _ ((⟨_,.store 90 _ _,_,_,_,_⟩:Oper)::_) _ _
                     refine wpList_store_row rfl 90 _ _ rfl (w.heap.size+1) _ rfl rfl 90 _ hBz (Qcj _ (QaW _)) (by rw [hbs,QaD,QaW]) (ints_one _ _) ?_)
                exact bodyPost_ret (results_cell_row (p:=2) rfl _ _ (w.heap.size+1) 90 _ (0,0) _ rfl (setRow_heap _ _ _ _ _ _ hBz) Tryz.underlying90 rfl (Qcj _ (QaW _))) rfl ⟨by rw [←HRES.out]; rfl,Qbs hez (by omega) _⟩
end Field
end
section
namespace Field
open Go Go.RowKit
open Rely
theorem ext4 (w : World) (a b c d:Obj):Ext w ((((w.alloc a).alloc b).alloc c).alloc d):=zbS (ext3 w a b c) (QaK _ _)
theorem QhJ (w : World) (a b c d:Obj):((((w.alloc a).alloc b).alloc c).alloc d).heap[w.heap.size]? = some a:=by
  rw [Below.heap_alloc _ _ _ (by simp only [zb6]; omega)]; exact Qdu _ _ _ _
theorem QhI (w : World) (a b c d:Obj):((((w.alloc a).alloc b).alloc c).alloc d).heap[w.heap.size+1]? = some b:=by
  rw [Below.heap_alloc _ _ _ (by simp only [zb6]; omega)]; exact Qcx _ _ _ _
theorem QhH (w : World) (a b c d:Obj):((((w.alloc a).alloc b).alloc c).alloc d).heap[w.heap.size+1+1]? = some c:=by
  rw [Below.heap_alloc _ _ _ (by simp only [zb6]; omega)]; exact QbK _ _ _ _
theorem QhG (w : World) (a b c d:Obj):((((w.alloc a).alloc b).alloc c).alloc d).heap[w.heap.size+1+1+1]? = some d:=by
  have:=heap_alloc_new (((w.alloc a).alloc b).alloc c) d
  simpa using this
theorem QlG (f : Nat→Int) (k:Nat) (hk:k≤32):pvf (nth (mix 32 f (fun _=>0) k)) 32=pvf f k:=by
  rw [Qfc (nth (mix 32 f (fun _=>0) k)) k 32 hk fun j a b=>by rw [Qc8 _ _ _ _ _ b,if_neg (by omega)]]
  exact Qdz (n:=k) (fun i hi=>by rw [Qc8 _ _ _ _ _ (by omega),if_pos hi]) k (qR _)
theorem Qiw (f : Nat→Int) (k:Nat) (hf:∀ i,i<k→0≤f i∧f i≤M) (i:Nat) (hi:i<32):0≤nth (mix 32 f (fun _=>0) k) i∧nth (mix 32 f (fun _=>0) k) i≤M:=by
  rw [Qc8 _ _ _ _ _ hi]
  split
  · exact hf i (by assumption)
  · decide
theorem QfY (x : Int) (hx:0≤x∧x<big):pvf (limb x) 16=x:=by rw [QcX,QmD,zaC hx.1 hx.2]
theorem Qqh : (65536:Int)^32=big*big:=by decide
theorem lAdd (x y:Int) (hx:0≤x∧x<big) (hy:0≤y∧y<big) (w:World):Calls Tryz.prog 58 #[lnum x,lnum y] w (Ret w (lnum ((x+y)%p))):=by
  have HC:Hid (∀ w,Calls Tryz.prog 63 #[.agg (ints .i64 (mix 32 (fun i=>limb x i+limb y i) (fun _=>0) 16))] w (Ret w (lnum ((x+y)%p)))):=Lib.hid fun w=>by
    have hv:pvf (nth (mix 32 (fun i=>limb x i+limb y i) (fun _=>0) 16)) 32=x+y:=by
      rw [QlG _ _ (by decide),Qhu,QfY x hx,QfY y hy]
    have:=small (mix 32 (fun i=>limb x i+limb y i) (fun _=>0) 16) (mix_len _ _ _ _) (Qiw _ 16 fun i _=>by
      have:=Qbg x i
      have:=Qbg y i
      unfold M
      omega) (by rw [hv,Qqh]; unfold big at *; omega) w
    rw [hv] at this
    exact this
  unfold lnum at HC ⊢
  generalize hr:lims ((x+y)%p)=res at *
  have hrl:res.length=16:=by rw [←hr]; exact QaW _
  clear hr
  go_enter Tryz.func58,Tryz.ntmps58
  go_wp2_with fail
  go_loopw [6] (fun i wr=>∃ k:Nat,k≤16∧i=.int .i64 k∧Ext w wr∧wr.heap[w.heap.size]? = some (.cells (ints .i64 (lims x)) 90)∧wr.heap[w.heap.size+1]? = some (.cells (ints .i64 (lims y)) 90) ∧
    (∃ b,b.size=16∧wr.heap[w.heap.size+1+1]? = some (.cells b 90))∧wr.heap[w.heap.size+1+1+1]? = some (.cells (ints .i64 (mix 32 (fun i=>limb x i+limb y i) (fun _=>0) k)) 108)) (fun i _=>16-(intOf i).toNat)
  case atStart=>exact ⟨0,by omega,rfl,ext4 _ _ _ _ _,QhJ _ _ _ _ _,QhI _ _ _ _ _,⟨_,rfl,QhH _ _ _ _ _⟩,QhG _ _ _ _ _⟩
  case round =>
    obtain ⟨k,hk,rfl,he,hA,hB,⟨b,hbs,hC⟩,hD⟩:=hrel
    by_cases hlt:k<16
    · have hX:(ints .i64 (lims x))[k]? = some (.int .i64 (limb x k)):=by rw [Qay _ _ _ (by rw [QaW]; exact hlt),Qdo _ _ hlt]
      have hY:(ints .i64 (lims y))[k]? = some (.int .i64 (limb y k)):=by rw [Qay _ _ _ (by rw [QaW]; exact hlt),Qdo _ _ hlt]
      have hZ:(ints .i64 (mix 32 (fun i=>limb x i+limb y i) (fun _=>0) k))[k]? = some (.int .i64 0):=by rw [Qay _ _ _ (by rw [mix_len]; omega),Qc8 _ _ _ _ _ (by omega),if_neg (by omega)]
      have hS:(ints .i64 (mix 32 (fun i=>limb x i+limb y i) (fun _=>0) k)).setIfInBounds k (.int .i64 (limb x k+limb y k))=ints .i64 (mix 32 (fun i=>limb x i+limb y i) (fun _=>0) (k+1)):=by
        rw [QbP,←mix_set _ _ _ _ (by omega)]
      have h3:=Qbg x k
      have h4:=Qbg y k
      generalize hlx:limb x k=lx at *
      generalize hly:limb y k=ly at *
      have w1:za5.wrap (lx+ly)=lx+ly:=IntWalk.i64_in _ (by omega)
      have q5:(k:Int)<32:=by omega
      have HX:Hid (∀ W,Ext wr.drew W→W.cell? ⟨w.heap.size,k,none⟩=some (.int .i64 lx)):=Lib.hid fun W hR=>QaO (Qaa (Qaa hA (Qah _)) hR) hX
      have HY:Hid (∀ W,Ext wr.drew W→W.cell? ⟨w.heap.size+1,k,none⟩=some (.int .i64 ly)):=Lib.hid fun W hR=>QaO (Qaa (Qaa hB (Qah _)) hR) hY
      go_wp2
      refine QaZ Ext 9 22 [⟨none,[(6,none)]⟩,⟨none,[(6,none)]⟩,⟨none,[(2,none),(12,some 1)]⟩,⟨none,[(13,some 2)]⟩,⟨none,[(6,none)]⟩,⟨none,[(3,none),(15,some 4)]⟩,⟨none,[(16,some 5)]⟩,⟨none,[(14,some 3),(17,some 6)]⟩,⟨none,[(5,none),(11,some 0)]⟩] (by kernel_rfl) (by kernel_rfl) rfl zbR zbS (fun F r0 hr hF=>?_)
      have f2:r0 2=.pointer (some ⟨w.heap.size,0,none⟩):=by rw [hr]; rfl
      have f3:r0 3=.pointer (some ⟨w.heap.size+1,0,none⟩):=by rw [hr]; rfl
      have f5:r0 5=.pointer (some ⟨w.heap.size+1+1+1,0,none⟩):=by rw [hr]; rfl
      have f6:r0 6=.int .i64 k:=by rw [hr]; rfl
      clear hr
      simp only [zaU,zaV]
      repeat
        (try simp only [zaW,zaX]
         apply Qbb
         (intro ρ W hR hh
          have hcx:=HX.out W hR
          have hcy:=HY.out W hR
          simp only [Qcr,zaY,zaZ,f2,f3,f5,f6] at hh
          simp only [guarded,Qb4]
          go_simp
          first
            | exact ⟨zbR _,rfl⟩
            | exact zbR _))
      simp only [zaW,zaX]
      refine hF.out fun W hRW=>?_
      simp only [zaU,zaV,zba,zbb,fin,forall_eq,Act.put,zbc,zbd,zbe]
      clear HX HY hF f2 f3 f5 f6
      have hE:=zbS (Qah wr) hRW
      have hA':=Qaa hA hE
      have hB':=Qaa hB hE
      have hC':=Qaa hC hE
      have hD':=Qaa hD hE
      have hcx:=QaO hD' hZ
      have hfx:=Qb1 hD' k
      go_wp2
      exact ⟨⟨k+1,by omega,by go_num,QcA (zbS he hE) (by omega) _ _,(QaA _ _ (by omega)).trans hA',(QaA _ _ (by omega)).trans hB',⟨b,hbs,(QaA _ _ (by omega)).trans hC'⟩,(Qc5 _ _ hD').trans (by rw [hS])⟩,by simp [intOf]; omega⟩
    · obtain rfl:k=16:=by omega
      go_wp2_with first
        | (go_at_call 63
           (with_reducible refine (HC.out _).mono ?_)
           rintro e w' ⟨rfl,hw⟩
           have hC':=Qaa hC hw)
        | (with_reducible show wpList _ _ _ ((⟨_,.load 108 _,_,_,_,_⟩:Oper)::_) _ _
           refine wpList_load_row rfl 108 _ rfl (w.heap.size+1+1+1) rfl 108 _ (0,0) _ hD Tryz.underlying108 rfl (Qml _ (mix_len _ _ _ _)) ?_)
        | (with_reducible show wpList _ _ _ ((⟨_,.store 90 _ _,_,_,_,_⟩:Oper)::_) _ _
           refine wpList_store_row rfl 90 _ _ rfl (w.heap.size+1+1) _ rfl rfl 90 _ hC' (Qcj _ hrl) (by rw [hbs,QaD,hrl]) (ints_one _ _) ?_)
      exact bodyPost_ret (results_cell_row (p:=4) rfl _ _ (w.heap.size+1+1) 90 _ (0,0) _ rfl (setRow_heap _ _ _ _ _ _ hC') Tryz.underlying90 rfl (Qcj _ hrl)) rfl ⟨rfl,Qbs (zbS he hw) (by omega) _⟩
end Field
end
section
namespace Field
open Go Go.RowKit
open Rely
theorem lSub (x y:Int) (hx:0≤x∧x<big) (hy:0≤y∧y≤p) (w:World):Calls Tryz.prog 59 #[lnum x,lnum y] w (Ret w (lnum ((x-y)%p))):=by
  have hp0:(0:Int)≤p∧p<big:=by decide
  have HM:Hid (∀ w,Calls Tryz.prog 84 #[lnum p,lnum y] w (Ret w (lnum (p-y)))):=Lib.hid fun w=>minus p y hy.1 hy.2 hp0.2 w
  have HA:Hid (∀ w,Calls Tryz.prog 58 #[lnum x,lnum (p-y)] w (Ret w (lnum ((x-y)%p)))):=Lib.hid fun w=>by
    have:=lAdd x (p-y) hx (by omega) w
    rw [show (x+(p-y))%p=(x-y)%p by rw [show x+(p-y)=x-y+p by omega,zaH]] at this
    exact this
  have HP:Hid (∀ w,Calls Tryz.prog 85 #[] w (Ret w (lnum p))):=Lib.hid prime
  unfold lnum at HM HA HP ⊢
  have hxl:=QaW x
  have hyl:=QaW y
  have hrl:=QaW ((x-y)%p)
  generalize lims ((x-y)%p)=res at *
  generalize lims (p-y)=l1 at *
  generalize lims x=lx at *
  generalize lims y=ly at *
  generalize lims p=lp at *
  clear hx hy hp0
  go_enter Tryz.func59,Tryz.ntmps59
  go_wp2_with fail
  generalize hW:((w.alloc (.cells (ints .i64 lx) 90)).alloc (.cells (ints .i64 ly) 90)).alloc _=W0
  have hA:W0.heap[w.heap.size]? = some (.cells (ints .i64 lx) 90):=by rw [←hW]; exact Qdu _ _ _ _
  have hB:W0.heap[w.heap.size+1]? = some (.cells (ints .i64 ly) 90):=by rw [←hW]; exact Qcx _ _ _ _
  have hC:∃ b:Array Value,b.size=16∧W0.heap[w.heap.size+1+1]? = some (.cells b 90):=by rw [←hW]; exact ⟨_,rfl,QbK _ _ _ _⟩
  obtain ⟨b,hbs,hC⟩:=hC
  have he:Ext w W0:=by rw [←hW]; exact ext3 _ _ _ _
  clear hW
  refine QaZ Ext 4 10 [⟨none,[(2,none)]⟩,⟨none,[]⟩,⟨none,[(3,none)]⟩,⟨none,[(6,some 1),(7,some 2)]⟩] (by kernel_rfl) (by kernel_rfl) rfl zbR zbS (fun F r0 hr hF=>?_)
  have f2:r0 2=.pointer (some ⟨w.heap.size,0,none⟩):=by rw [hr]; rfl
  have f3:r0 3=.pointer (some ⟨w.heap.size+1,0,none⟩):=by rw [hr]; rfl
  clear hr
  simp only [zaU,zaV]
  refine Qbb (.agg (ints .i64 lx)) (fun ρ W hR hh=>?_) ?_
  · exact Qb6 90 (.tmp _) rfl _ (Eq.trans hh.1 f2) 90 _ (0,0) _ (Qaa (Qaa hA (Qah _)) hR) Tryz.underlying90 rfl (Qcj _ hxl)
  refine Qbb (.agg (ints .i64 lp)) (fun ρ W hR hh=>?_) ?_
  · simp only [guarded,Qb4]
    go_simp
    exact ⟨zbR _,(HP.out _).mono fun _ _ h=>h.const⟩
  refine Qbb (.agg (ints .i64 ly)) (fun ρ W hR hh=>?_) ?_
  · exact Qb6 90 (.tmp _) rfl _ (Eq.trans hh.1 f3) 90 _ (0,0) _ (Qaa (Qaa hB (Qah _)) hR) Tryz.underlying90 rfl (Qcj _ hyl)
  refine Qbb (.agg (ints .i64 l1)) (fun ρ W hR hh=>?_) ?_
  · have h6:ρ 6=.agg (ints .i64 lp):=hh.1
    have h7:ρ 7=.agg (ints .i64 ly):=hh.2.1
    simp only [guarded,Qb4]
    go_simp
    exact ⟨zbR _,(HM.out _).mono fun _ _ h=>h.const⟩
  simp only [zaW,zaX]
  refine hF.out fun W hR=>?_
  simp only [zaU,zaV,zba,zbb,fin,forall_eq,Act.put,zbc,zbd,zbe]
  clear hF
  go_wp2_with first
    | (go_at_call 58
       (with_reducible refine (HA.out _).mono ?_)
       rintro e w' ⟨rfl,hw⟩
       have hC':=Qaa (Qaa (Qaa hC (Qah _)) hR) hw
       have he':=zbS (zbS (zbS he (Qah _)) hR) hw)
    | (with_reducible show wpList _ _ _ ((⟨_,.store 90 _ _,_,_,_,_⟩:Oper)::_) _ _
       refine wpList_store_row rfl 90 _ _ rfl (w.heap.size+1+1) _ rfl rfl 90 _ hC' (Qcj _ hrl) (by rw [hbs,QaD,hrl]) (ints_one _ _) ?_)
  exact bodyPost_ret (results_cell_row (p:=4) rfl _ _ (w.heap.size+1+1) 90 _ (0,0) _ rfl (setRow_heap _ _ _ _ _ _ hC') Tryz.underlying90 rfl (Qcj _ hrl)) rfl ⟨rfl,Qbs he' (by omega) _⟩
theorem QnY (n : Int) (k:Nat):limb n k%256=QaM n (2*k):=by
  unfold limb QaM
  rw [Int.pow_mul,show (256:Int)^2=65536 by decide]
  omega
theorem QmA (n : Int) (k:Nat):limb n k/256=QaM n (2*k+1):=by
  unfold limb QaM
  rw [zaO,Int.pow_mul,show (256:Int)^2=65536 by decide,←zbi (zbj (QfQ k))]
  omega
theorem Qqw (n : Int) (w:World):Calls Tryz.prog 61 #[lnum n] w (Ret w (.agg (ints .u8 (Qav n)))):=by
  unfold lnum
  go_enter Tryz.func61,Tryz.ntmps61
  go_wp2_with fail
  go_loopw [4] (fun i wr=>∃ k:Nat,k≤16∧i=.int .i64 k∧Ext w wr∧wr.heap[w.heap.size]? = some (.cells (ints .i64 (lims n)) 90) ∧
    (∃ b,b.size=32∧wr.heap[w.heap.size+1]? = some (.cells b 23))∧wr.heap[w.heap.size+1+1]? = some (.cells (ints .u8 (part n (2*k))) 23)) (fun i _=>16-(intOf i).toNat)
  case atStart=>exact ⟨0,by omega,rfl,ext3 _ _ _ _,Qdu _ _ _ _,⟨_,rfl,Qcx _ _ _ _⟩,QbK _ _ _ _⟩
  case round =>
    obtain ⟨k,hk,rfl,he,hA,⟨b,hbs,hB⟩,hC⟩:=hrel
    by_cases hlt:k<16
    · have hX:(ints .i64 (lims n))[k]? = some (.int .i64 (limb n k)):=by rw [Qay _ _ _ (by rw [QaW]; exact hlt),Qdo _ _ hlt]
      have g1:=Qhw n (2*k) (by omega)
      have s1:=Qhv n (2*k) (by omega)
      have g2:=Qhw n (2*k+1) (by omega)
      have s2:=Qhv n (2*k+1) (by omega)
      have e1:=QnY n k
      have e2:=QmA n k
      have b1:=Qbg n k
      generalize hlx:limb n k=lx at *
      have q1:za5.wrap (2*(k:Int))=2*(k:Int):=IntWalk.i64_in _ (by omega)
      have q2:(2*(k:Int)).toNat=2*k:=by omega
      have q3:(0:Int)≤2*(k:Int):=by omega
      have q4:2*(k:Int)<32:=by omega
      have q5:za5.wrap (2*(k:Int)+1)=2*(k:Int)+1:=IntWalk.i64_in _ (by omega)
      have q6:(2*(k:Int)+1).toNat=2*k+1:=by omega
      have q7:(0:Int)≤2*(k:Int)+1:=by omega
      have q8:2*(k:Int)+1<32:=by omega
      have w2:lx.tmod 256=lx%256:=zaT (by omega)
      have w3:za5.wrap (lx%256)=lx%256:=IntWalk.i64_in _ (by omega)
      have w4:lx.tdiv 256=lx/256:=zb4 (by omega)
      have w5:za5.wrap (lx/256)=lx/256:=IntWalk.i64_in _ (by omega)
      have w6:zb7.wrap (lx%256)=lx%256:=by rw [zb8]; omega
      have w7:zb7.wrap (lx/256)=lx/256:=by rw [zb8]; omega
      have hcx:=QaO hA hX
      have hcy:=QaO hC g1
      have hfy:=Qb1 hC (2*k)
      have hC2:=Qc5 (2*k) (.int .u8 (lx%256)) hC
      rw [e1,s1] at hC2
      rw [←e1] at hC2
      have hA2:=(QaA (W:=wr) (2*k) (.int .u8 (lx%256)) (show w.heap.size≠w.heap.size+1+1 by omega)).trans hA
      have hB2:=(QaA (W:=wr) (2*k) (.int .u8 (lx%256)) (show w.heap.size+1≠w.heap.size+1+1 by omega)).trans hB
      have he2:=QcA he (show w.heap.size≤w.heap.size+1+1 by omega) (2*k) (.int .u8 (lx%256))
      generalize hwz:wr.setCell ⟨w.heap.size+1+1,2*k,none⟩ (.int .u8 (lx%256))=wz at *
      have hcx2:=QaO hA2 hX
      have hcy2:=QaO hC2 g2
      have hfy2:=Qb1 hC2 (2*k+1)
      have e1':=Lib.hid e1
      have e2':=Lib.hid e2
      clear e1 e2 s1
      go_wp2
      exact ⟨⟨k+1,by omega,by go_num,QcA he2 (by omega) _ _,(QaA _ _ (by omega)).trans hA2,⟨b,hbs,(QaA _ _ (by omega)).trans hB2⟩,(Qc5 _ _ hC2).trans (by rw [e2'.out,s2]; rfl)⟩,by simp [intOf]; omega⟩
    · obtain rfl:k=16:=by omega
      have hi:(Tryz.prog.info? 23).map (·.size)=some (ints .u8 (Qav n)).size:=by rw [infoKey,QaD]; rfl
      have hbl:b.size=(ints .u8 (Qav n)).size:=by rw [hbs,QaD]; rfl
      have hC:wr.heap[w.heap.size+1+1]? = some (.cells (ints .u8 (Qav n)) 23):=hC
      go_wp2_with first
        | (with_reducible show wpList _ _ _ ((⟨_,.load 23 _,_,_,_,_⟩:Oper)::_) _ _
           refine wpList_load_row rfl 23 _ rfl (w.heap.size+1+1) rfl 23 (ints .u8 (Qav n)) (0,0) _ hC Tryz.underlying23 rfl hi ?_)
        | (with_reducible show wpList _ _ _ ((⟨_,.store 23 _ _,_,_,_,_⟩:Oper)::_) _ _
           refine wpList_store_row rfl 23 _ _ rfl (w.heap.size+1) (ints .u8 (Qav n)) rfl rfl 23 _ hB hi hbl (ints_one _ _) ?_)
      exact bodyPost_ret (results_cell_row (p:=2) rfl _ _ (w.heap.size+1) 23 (ints .u8 (Qav n)) (0,0) _ rfl (setRow_heap _ _ _ _ _ _ hB) Tryz.underlying23 rfl hi) rfl ⟨rfl,Qbs he (by omega) _⟩
end Field
end
section
namespace Field
open Go Go.RowKit
open Rely
end Field
end
section
namespace Field
open Go Go.RowKit
open Rely
theorem QlF (xs : List Int) (i:Nat) (d:Int) (hi:i<xs.length):∀ n,pvf (nth (xs.set i (nth xs i+d))) n=pvf (nth xs) n+(if i<n then d*65536^i else 0)
  | 0=>by simp [pvf]
  | n+1=>by
    rw [pvf,pvf,QlF xs i d hi n]
    by_cases h:i=n
    · subst h
      rw [Qe9 _ _ _ hi,if_neg (by omega),if_pos (by omega),zbl]
      omega
    · rw [nth_set_ne _ _ _ _ h]
      by_cases h2:i<n
      · rw [if_pos h2,if_pos (by omega)]; omega
      · rw [if_neg h2,if_neg (by omega)]; omega
theorem Qi0 (x y:Int) (i j:Nat):0≤limb x i*limb y j∧limb x i*limb y j≤4294836225:=by
  have h1:=Qbg x i
  have h2:=Qbg y j
  refine ⟨zaA h1.1 h2.1,?_⟩
  have:=Int.mul_le_mul (show limb x i≤65535 by omega) (show limb y j≤65535 by omega) h2.1 (by decide)
  omega
def QfM (x y:Int) (i j:Nat) (xs:List Int):Prop :=
  xs.length=32∧(∀ m,m<32→0≤nth xs m∧nth xs m≤4294836225*(16*(i:Int)+j))∧pvf (nth xs) 32=pvf (limb x) i*pvf (limb y) 16+limb x i*65536^i*pvf (limb y) j
theorem QlO (n m:Nat):nth (zaq n (0:Int)) m=0:=by
  unfold nth
  rw [zak,List.getElem?_replicate]
  split <;> rfl
theorem Qiv (x y:Int):QfM x y 0 0 (zaq 32 0):=by
  refine ⟨rfl,fun m hm=>?_,?_⟩
  · rw [QlO]; simp
  · have:pvf (nth (zaq 32 (0:Int))) 32=0:=by
      rw [Qdz (h:=fun _=>0) (n:=32) (fun i hi=>QlO 32 i) 32 (qR _)]
      exact Qht 32
    rw [this]; simp [pvf]
theorem Qjq (x y:Int) (i:Nat) (xs:List Int) (h:QfM x y i 16 xs):QfM x y (i+1) 0 xs:=by
  refine ⟨h.1,fun m hm=>?_,?_⟩
  · have:=h.2.1 m hm
    omega
  · rw [h.2.2]
    show _=(pvf (limb x) i+limb x i*65536^i)*pvf (limb y) 16+limb x (i+1)*65536^(i+1)*0
    rw [zbl,Int.mul_zero,Int.add_zero]
theorem Qjp (x y:Int) (i j:Nat) (xs:List Int) (hi:i<16) (hj:j<16) (h:QfM x y i j xs):QfM x y i (j+1) (xs.set (i+j) (nth xs (i+j)+limb x i*limb y j)):=by
  have hp:=Qi0 x y i j
  refine ⟨by simp [h.1],fun m hm=>?_,?_⟩
  · have hm':=h.2.1 m hm
    by_cases e:i+j=m
    · rw [←e] at hm' ⊢
      rw [Qe9 _ _ _ (by rw [h.1]; omega)]
      omega
    · rw [nth_set_ne _ _ _ _ e]
      omega
  · rw [QlF _ _ _ (by rw [h.1]; omega),h.2.2,if_pos (by omega),zbk]
    show _=pvf (limb x) i*pvf (limb y) 16+limb x i*65536^i*(pvf (limb y) j+limb y j*65536^j)
    generalize pvf (limb x) i*pvf (limb y) 16=a
    generalize limb x i=b
    generalize limb y j=c
    generalize pvf (limb y) j=d
    generalize (65536:Int)^i=e
    generalize (65536:Int)^j=f
    grind
set_option maxHeartbeats 1000000 in
theorem lMul (x y:Int) (hx:0≤x∧x<big) (hy:0≤y∧y<big) (w:World):Calls Tryz.prog 60 #[lnum x,lnum y] w (Ret w (lnum (x*y%p))):=by
  have HC:Hid (∀ xs,QfM x y 16 0 xs→∀ w,Calls Tryz.prog 63 #[.agg (ints .i64 xs)] w (Ret w (lnum (x*y%p)))):=Lib.hid fun xs h w=>by
    have hv:pvf (nth xs) 32=x*y:=by
      rw [h.2.2,QfY x hx,QfY y hy]
      simp [pvf]
    have h1:0≤x*y:=zaA hx.1 hy.1
    have h2:x*y<big*big:=by
      have a1:x*y≤x*big:=Int.mul_le_mul_of_nonneg_left (zbj hy.2) hx.1
      have a2:x*big<big*big:=Int.mul_lt_mul_of_pos_right hx.2 (by decide)
      exact zb9 a1 a2
    have:=small xs h.1 (fun i hi=>by
      have:=h.2.1 i hi
      unfold M
      omega) (by rw [hv,Qqh]; exact ⟨h1,h2⟩) w
    rw [hv] at this
    exact this
  unfold lnum at HC ⊢
  have hrl:=QaW (x*y%p)
  generalize lims (x*y%p)=res at *
  go_enter Tryz.func60,Tryz.ntmps60
  go_wp2_with fail
  go_loopw [6] (fun i wr=>∃ k:Nat,k≤16∧i=.int .i64 k∧Ext w wr∧wr.heap[w.heap.size]? = some (.cells (ints .i64 (lims x)) 90)∧wr.heap[w.heap.size+1]? = some (.cells (ints .i64 (lims y)) 90) ∧
    (∃ b,b.size=16∧wr.heap[w.heap.size+1+1]? = some (.cells b 90))∧∃ xs,QfM x y k 0 xs∧wr.heap[w.heap.size+1+1+1]? = some (.cells (ints .i64 xs) 108)) (fun i _=>16-(intOf i).toNat)
  case atStart=>exact ⟨0,by omega,rfl,ext4 _ _ _ _ _,QhJ _ _ _ _ _,QhI _ _ _ _ _,⟨_,rfl,QhH _ _ _ _ _⟩,_,Qiv x y,QhG _ _ _ _ _⟩
  case round =>
    obtain ⟨i,hi,rfl,he,hA,hB,⟨b,hbs,hC⟩,xs,hM,hD⟩:=hrel
    by_cases hlt:i<16
    · have HD:=Lib.hid hM
      clear hM
      go_wp2
      go_loopw [7] (fun j wq=>∃ k:Nat,k≤16∧j=.int .i64 k∧Ext w wq∧wq.heap[w.heap.size]? = some (.cells (ints .i64 (lims x)) 90)∧wq.heap[w.heap.size+1]? = some (.cells (ints .i64 (lims y)) 90) ∧
        wq.heap[w.heap.size+1+1]? = some (.cells b 90)∧∃ xs,QfM x y i k xs∧wq.heap[w.heap.size+1+1+1]? = some (.cells (ints .i64 xs) 108)) (fun j _=>16-(intOf j).toNat)
      case atStart=>exact ⟨0,by omega,rfl,he,hA,hB,hC,xs,HD.out,hD⟩
      case round =>
        clear hA hB hC hD he HD
        obtain ⟨k,hk,rfl,he,hA,hB,hC,xs,hM,hD⟩:=hrel
        by_cases hk16:k<16
        · have hX:(ints .i64 (lims x))[i]? = some (.int .i64 (limb x i)):=by rw [Qay _ _ _ (by rw [QaW]; exact hlt),Qdo _ _ hlt]
          have hY:(ints .i64 (lims y))[k]? = some (.int .i64 (limb y k)):=by rw [Qay _ _ _ (by rw [QaW]; exact hk16),Qdo _ _ hk16]
          have hZ:(ints .i64 xs)[i+k]? = some (.int .i64 (nth xs (i+k))):=Qay _ _ _ (by rw [hM.1]; omega)
          have hN:=Lib.hid (Qjp x y i k xs hlt hk16 hM)
          have hS:(ints .i64 xs).setIfInBounds (i+k) (.int .i64 (nth xs (i+k)+limb x i*limb y k))=ints .i64 (xs.set (i+k) (nth xs (i+k)+limb x i*limb y k)):=by rw [QbP]
          have b1:=hM.2.1 (i+k) (by omega)
          have b2:=Qi0 x y i k
          clear hM
          generalize hzz:nth xs (i+k)=zz at *
          generalize hlx:limb x i=lx at *
          generalize hly:limb y k=ly at *
          have w1:za5.wrap (lx*ly)=lx*ly:=IntWalk.i64_in _ (by omega)
          have w2:za5.wrap (zz+lx*ly)=zz+lx*ly:=IntWalk.i64_in _ (by omega)
          have q1:za5.wrap ((i:Int)+(k:Int))=(i:Int)+(k:Int):=IntWalk.i64_in _ (by omega)
          have q2:((i:Int)+(k:Int)).toNat=i+k:=by omega
          have q3:(0:Int)≤(i:Int)+(k:Int):=by omega
          have q4:(i:Int)+(k:Int)<32:=by omega
          have q5:(i:Int)<16:=by omega
          have HX:Hid (∀ W,Ext wr.drew W→W.cell? ⟨w.heap.size,i,none⟩=some (.int .i64 lx)):=Lib.hid fun W hR=>QaO (Qaa (Qaa hA (Qah _)) hR) hX
          have HY:Hid (∀ W,Ext wr.drew W→W.cell? ⟨w.heap.size+1,k,none⟩=some (.int .i64 ly)):=Lib.hid fun W hR=>QaO (Qaa (Qaa hB (Qah _)) hR) hY
          have HZ:Hid (∀ W,Ext wr.drew W→W.cell? ⟨w.heap.size+1+1+1,i+k,none⟩=some (.int .i64 zz)):=Lib.hid fun W hR=>QaO (Qaa (Qaa hD (Qah _)) hR) hZ
          clear b1 b2
          go_wp2
          refine QaZ Ext 17 35 [⟨none,[(6,none)]⟩,⟨none,[(7,none)]⟩,⟨none,[(16,some 0),(17,some 1)]⟩,⟨none,[(6,none)]⟩,⟨none,[(7,none)]⟩,⟨none,[(19,some 3),(20,some 4)]⟩,⟨none,[(5,none),(21,some 5)]⟩,⟨none,[(22,some 6)]⟩,⟨none,[(6,none)]⟩,⟨none,[(2,none),(24,some 8)]⟩,⟨none,[(25,some 9)]⟩,⟨none,[(7,none)]⟩,⟨none,[(3,none),(27,some 11)]⟩,⟨none,[(28,some 12)]⟩,⟨none,[(26,some 10),(29,some 13)]⟩,⟨none,[(23,some 7),(30,some 14)]⟩,⟨none,[(5,none),(18,some 2)]⟩] (by kernel_rfl) (by kernel_rfl) rfl zbR zbS (fun F r0 hr hF=>?_)
          have f2:r0 2=.pointer (some ⟨w.heap.size,0,none⟩):=by rw [hr]; rfl
          have f3:r0 3=.pointer (some ⟨w.heap.size+1,0,none⟩):=by rw [hr]; rfl
          have f5:r0 5=.pointer (some ⟨w.heap.size+1+1+1,0,none⟩):=by rw [hr]; rfl
          have f6:r0 6=.int .i64 i:=by rw [hr]; rfl
          have f7:r0 7=.int .i64 k:=by rw [hr]; rfl
          clear hr
          simp only [zaU,zaV]
          repeat
            (try simp only [zaW,zaX]
             apply Qbb
             (intro ρ W hR hh
              have hcx:=HX.out W hR
              have hcy:=HY.out W hR
              have hcz:=HZ.out W hR
              simp only [Qcr,zaY,zaZ,f2,f3,f5,f6,f7] at hh
              simp only [guarded,Qb4]
              go_simp
              first
                | exact ⟨zbR _,rfl⟩
                | exact zbR _))
          simp only [zaW,zaX]
          refine hF.out fun W hRW=>?_
          simp only [zaU,zaV,zba,zbb,fin,forall_eq,Act.put,zbc,zbd,zbe]
          clear HX HY HZ hF f2 f3 f5 f6 f7
          have hE:=zbS (Qah wr) hRW
          have hA':=Qaa hA hE
          have hB':=Qaa hB hE
          have hC':=Qaa hC hE
          have hD':=Qaa hD hE
          have hcx:=QaO hD' hZ
          have hfx:=Qb1 hD' (i+k)
          go_wp2
          exact ⟨⟨k+1,by omega,by go_num,QcA (zbS he hE) (by omega) _ _,(QaA _ _ (by omega)).trans hA',(QaA _ _ (by omega)).trans hB',(QaA _ _ (by omega)).trans hC',_,hN.out,(Qc5 _ _ hD').trans (by rw [hS])⟩,by simp [intOf]; omega⟩
        · obtain rfl:k=16:=by omega
          have hN:=Lib.hid (Qjq x y i xs hM)
          clear hM
          go_wp2
          exact ⟨⟨i+1,by omega,by go_num,he,hA,hB,⟨b,hbs,hC⟩,xs,hN.out,hD⟩,by simp [intOf]; omega⟩
    · obtain rfl:i=16:=by omega
      have HC':=Lib.hid (HC.out xs hM)
      have hi:=Qml xs hM.1
      clear hM HC
      go_wp2_with first
        | (go_at_call 63
           (with_reducible refine (HC'.out _).mono ?_)
           rintro e w' ⟨rfl,hw⟩
           have hC':=Qaa hC hw)
        | (with_reducible show wpList _ _ _ ((⟨_,.load 108 _,_,_,_,_⟩:Oper)::_) _ _
           refine wpList_load_row rfl 108 _ rfl (w.heap.size+1+1+1) rfl 108 _ (0,0) _ hD Tryz.underlying108 rfl hi ?_)
        | (with_reducible show wpList _ _ _ ((⟨_,.store 90 _ _,_,_,_,_⟩:Oper)::_) _ _
           refine wpList_store_row rfl 90 _ _ rfl (w.heap.size+1+1) _ rfl rfl 90 _ hC' (Qcj _ hrl) (by rw [hbs,QaD,hrl]) (ints_one _ _) ?_)
      exact bodyPost_ret (results_cell_row (p:=4) rfl _ _ (w.heap.size+1+1) 90 _ (0,0) _ rfl (setRow_heap _ _ _ _ _ _ hC') Tryz.underlying90 rfl (Qcj _ hrl)) rfl ⟨rfl,Qbs (zbS he hw) (by omega) _⟩
end Field
end
section
namespace Field
open Go Go.RowKit
open Rely
theorem Qgd (w : World) (a b:Obj):((w.alloc a).alloc b).heap[w.heap.size]? = some a:=by
  rw [Below.heap_alloc _ _ _ (by simp)]; exact heap_alloc_new _ _
theorem Qgc (w : World) (a b:Obj):((w.alloc a).alloc b).heap[w.heap.size+1]? = some b:=by
  have:=heap_alloc_new (w.alloc a) b
  simpa using this
theorem Qmb (n : Int) (k:Nat):n/65536^k/65536=n/65536^(k+1):=by
  rw [zaO,zbi (zbj (QfQ k))]
theorem Qm3 (n : Int) (h:0≤n∧n<9223372036854775808) (k:Nat):0≤n/65536^k∧n/65536^k<9223372036854775808:=by
  have hp:=QfQ k
  refine ⟨zbp h.1 (zbj hp),zb9 (zbA _ h.1) h.2⟩
theorem Qn3 : lims 1=1::zaq 15 0:=by decide +kernel
end Field
end
section
namespace Field
open Go Go.RowKit
open Rely
def QfF (xs : List Int):Int:=leAt xs 0 32%57896044618658097711785492504343953926634992332820282019728792003956564819968%p
theorem QkQ (xs : List Int):isN (QfF xs):=QaF _
theorem Qa9 {n : Int} (h:isN n):0≤n∧n<big:=⟨h.1,Int.lt_trans h.2 (by decide)⟩
theorem QaE (n : Int):(Qav n).length=32:=by simp [Qav,part]
end Field
end
section
namespace Field
open Go Go.RowKit Go.Shelf
open Rely
attribute [local go_sem] Oper.semAt_some
def Qek (es : List Int) (i:Nat):Int:=nth es (i/8)/2^(i%8)%2
def Qdi (es : List Int):List Int:=(zav 256).map fun j=>Qek es (255-j)
theorem Qhb (es : List Int):(Qdi es).length=256:=by simp [Qdi]
theorem Qj3 (es : List Int) (j:Nat) (hj:j<256):(Qdi es).take (256-j)=(Qdi es).take (256-(j+1))++[Qek es j]:=by
  have e:256-j=(256-(j+1))+1:=by omega
  rw [e,zbB]
  congr 1
  have h:256-(j+1)<256:=by omega
  simp only [Qdi,zal,zbC h,zbD,zbE]
  rw [show 255-(256-(j+1))=j by omega]
theorem Qg5 (es : List Int) (i:Nat):0≤Qek es i∧Qek es i<2:=by unfold Qek; omega
def Qfb (a o b:Int):Int:=if b=0 then o*o%p else o*o%p*a%p
def QbH (a : Int) (bs:List Int):Int:=bs.foldl (Qfb a) 1
theorem Qeb (a : Int) (bs:List Int) (b:Int):QbH a (bs++[b])=Qfb a (QbH a bs) b:=by simp [QbH]
theorem QkE (a o b:Int):isN (Qfb a o b):=by
  unfold Qfb
  split <;> exact QaF _
theorem Qji : isN 1:=by unfold isN p; decide
theorem Qfx (a : Int):∀ bs:List Int,isN (QbH a bs):=fun bs=>by
  rcases List.eq_nil_or_concat bs with h | ⟨l,b,h⟩
  · subst h; exact Qji
  · subst h; rw [List.concat_eq_append,Qeb]; exact QkE _ _ _
def cnt (bs : List Int):Nat:=bs.foldl (fun n b=>2*n+(if b=0 then 0 else 1)) 0
theorem QnX (bs : List Int) (b:Int):cnt (bs++[b])=2*cnt bs+(if b=0 then 0 else 1):=by simp [cnt]
theorem Qom (a : Int):∀ bs:List Int,QbH a bs=a^cnt bs%p:=fun bs=>by
  have key:∀ r:List Int,QbH a r.reverse=a^cnt r.reverse%p:=by
    intro r
    induction r with
    | nil =>
      show (1:Int)=a^0%p
      rw [zbF]
      decide
    | cons b r ih =>
      rw [List.reverse_cons,Qeb,QnX,ih]
      unfold Qfb
      have sq:a^cnt r.reverse%p*(a^cnt r.reverse%p)%p=a^(2*cnt r.reverse)%p:=by
        rw [←zbG,←zbk,Nat.two_mul]
      by_cases hb:b=0
      · rw [if_pos hb,if_pos hb,sq,Nat.add_zero]
      · rw [if_neg hb,if_neg hb,sq,zaO]
        generalize a^(2*cnt r.reverse)=c
        rw [zbG (c%p),zbH,←zbG]
  have:=key bs.reverse
  rwa [List.reverse_reverse] at this
theorem QmG (v : Int) (h:0≤v∧v≤255):bits .and .i64 v 1=v%2:=by
  obtain ⟨n,rfl⟩:=za6 h.1
  have key:∀ n:Nat,n<256→bits .and .i64 (n:Int) 1=(n:Int)%2:=by decide +kernel
  exact key n (by omega)
set_option maxHeartbeats 2000000 in
theorem Qlb (m : Nat) (hm:1≤m) (kb n₀:Nat) (es:List Int) (hel:es.length=32) (hb:Qaf es) (w:World) (hkb:w.heap[kb]? = some (.cells (ints .u8 es) 23)) (hk:kb<n₀) (hn₀:n₀≤w.heap.size) :
    SeqStopsK Fence.wide m Tryz.prog 108 #[.pointer (some ⟨kb,0,none⟩)] (fun x:Int=>#[Value.int .i64 x]) (Below n₀) (fun ys=>ys=Qdi es) (fun pre=>pre <+: Qdi es) 256 w:=fun l J Jx W hW hJ hJx hY h0=>by
  refine callsIn_of_wp Tryz.func108 rfl trivial ?_ rfl
  simp only [Tryz.ntmps108,zau,zbI,zbJ,zaS,zaB,zbK,zbL,zbM,zbN,zaX,zaW]
  have hkW:W.heap[kb]? = some (.cells (ints .u8 es) 23):=(hW.block kb (Qa7 hkb)).trans hkb
  gi_wp2
  gi_loopw [3] (fun i wr=>∃ k:Nat,k≤256∧i=.int .i64 ((k:Int)-1)∧J ((Qdi es).take (256-k)) wr∧Below n₀ W wr) (fun i _=>(intOf i+1).toNat)
  case atStart=>exact ⟨256,by omega,rfl,by simpa using h0,Below.refl _ _⟩
  case round =>
    obtain ⟨k,hk256,rfl,hJs,hB⟩:=hrel
    rcases k with _ | j
    · gi_wp2
      go_end0
      exact ⟨⟨_,rfl⟩,.inl ⟨_,rfl,by rwa [zbO (by rw [Qhb]; omega)] at hJs⟩⟩
    · have hj:j<256:=by omega
      rw [show ((j+1:Nat):Int)-1=(j:Int) by omega]
      have hkw:wr.heap[kb]? = some (.cells (ints .u8 es) 23):=(hB.block kb hk).trans hkW
      have hX:(ints .u8 es)[j/8]? = some (.int .u8 (nth es (j/8))):=Qay _ _ _ (by omega)
      have hcx:=QaO hkw hX
      obtain ⟨fn,tmps,assign,body,hy,hR⟩:=hY _ (Qek es j) wr hJs (by rw [zbP,Qhb]; omega)
      have hT:=Lib.hid (Qj3 es j hj)
      have b1:=hb.nth (j/8)
      rw [show Qek es j=nth es (j/8)/2^(j%8)%2 from rfl] at hy
      generalize Qek es j=bt at *
      generalize nth es (j/8)=v at *
      have q0:(0:Int)≤(j:Int):=by omega
      have q1:(j:Int)/8<32:=by omega
      have q2:za5.wrap ((j:Int)/8)=(j:Int)/8:=IntWalk.i64_in _ (by omega)
      have qm:(j:Int).tmod 8=(j:Int)%8:=zaT (by omega)
      have q3:za5.wrap ((j:Int)%8)=(j:Int)%8:=IntWalk.i64_in _ (by omega)
      have q4:(0:Int)≤(j:Int)/8:=by omega
      have q5:((j:Int)/8).toNat=j/8:=by omega
      have q6:((j:Int)%8).toNat=j%8:=by omega
      have q7:(0:Int)≤(j:Int)%8:=by omega
      have q8:(j:Int)%8<8:=by omega
      have hp:(1:Int)≤2^(j%8):=by
        have:(0:Int)<2^(j%8):=zbf (by decide)
        omega
      have d1:0≤v/2^(j%8):=zbp b1.1 (by omega)
      have d2:v/2^(j%8)≤v:=zbA _ b1.1
      have w1:za5.wrap (v/2^(j%8))=v/2^(j%8):=IntWalk.i64_in _ (by omega)
      have w2:=QmG (v/2^(j%8)) (by omega)
      gi_wp2
      refine hR.mono ?_
      rintro e W3 (⟨rfl,hJ3,hk3⟩ | ⟨rfl,hJx3⟩)
      · gi_wp2
        go_roundw
        case rel=>exact ⟨j,by omega,rfl,by rw [hT.out]; exact hJ3,hB.trans hk3⟩
        case measure=>simp [intOf]
      · gi_wp2
        refine bodyPost_ret (results_none rfl _ _ _) rfl ?_
        exact ⟨⟨_,rfl⟩,.inr ⟨_,by rw [←hT.out]; exact zbQ _ _,hJx3⟩⟩
end Field
end
section
namespace Field
open Go Go.RowKit Go.Shelf
open Rely
attribute [local go_sem] Oper.semAt_some
def Qlf (es : List Int):Fact:=fun v W=>∃ kb,v=.func (.func 108) #[] #[.pointer (some ⟨kb,0,none⟩)]∧W.heap[kb]? = some (.cells (ints .u8 es) 23)
theorem QiH (es : List Int):Qcq Ext (Qlf es):=fun v W W' hR ⟨kb,h1,h2⟩=>⟨kb,h1,Qaa h2 hR⟩
theorem QmB (es : List Int) (w:World):Calls Tryz.prog 91 #[.agg (ints .u8 es)] w (QcL w (Qlf es)):=by
  have hmf:∀ (fn:Fn) (first cap:Array Value) (w:World),(Instr.makeFunc fn first cap).run Tryz.prog w=.ok (.func fn first cap) w:=fun _ _ _ _=>rfl
  go_enter Tryz.func91,Tryz.ntmps91
  go_wp2_with fail
  exact bodyPost_ret (results_tmp rfl _ _ _) rfl ⟨_,rfl,QaK _ _,w.heap.size,rfl,heap_alloc_new _ _⟩
set_option maxRecDepth 100000 in
theorem power (a : Int) (ha:isN a) (es:List Int) (hel:es.length=32) (hb:Qaf es) (v:Value) (w:World) (hv:Qlf es v w) :
    Calls Tryz.prog 113 #[num a,v] w (Ret w (num (QbH a (Qdi es)))):=by
  obtain ⟨kb,rfl,hkb⟩:=hv
  have HS:Hid (∀ w,Calls Tryz.prog 71 #[.int .i64 1] w (Ret w (num 1))):=Lib.hid fun w=>by have:=QhT 1 (by decide) w; rw [show (1:Int)%p=1 by decide] at this; exact this
  have hnf:∀ W,(binOp .eql 150 (.func (.func 108) #[] #[.pointer (some ⟨kb,0,none⟩)]) Value.nilFunc).run Tryz.prog W=.ok (.bool false) W:=fun W=>by kernel_rfl
  rw [show num a=.agg (numA a) from rfl]
  refine (callsIn_wide (n:=3)).1 <| callsIn_of_wp_marks Tryz.func113 rfl trivial ?_ rfl
  simp only [Tryz.ntmps113,zau,zbI,zbJ,zaS,zaB,zbK,zbL,zbM,zbN,zaX,zaW]
  gi_wp2_with first
    | (refine ⟨trivial,?_⟩
       gi_at_call 71
       refine (callsIn_wide.2 (HS.out _)).mono ?_
       rintro e w' ⟨rfl,hw⟩)
    | (with_reducible show wpListIn _ _ _ _ _ ((⟨_,.store 126 _ _,_,_,_,_⟩:Oper)::_) _ _
       refine QbQ rfl 126 _ _ rfl w'.heap.size (numA 1) rfl rfl 126 _ (heap_alloc_new _ _) Qco rfl (Qdn _) ?_)
  have hO:((w'.alloc (.cells #[.int .u64 0,.int .u64 0,.int .u64 0,.int .u64 0] 126)).setRow w'.heap.size (numA 1)).heap[w'.heap.size]? = some (.cells (numA 1) 126):=setRow_heap _ _ _ _ _ _ (heap_alloc_new _ _)
  have hq:w.heap.size+2≤w'.heap.size:=by have:=hw.size; simpa using this
  have he1:Ext w w':=zbS (zbS (QaK _ _) (QaK _ _)) hw
  have hA1:w'.heap[w.heap.size]? = some (.cells (numA a) 126):=Qaa (by rw [Below.heap_alloc _ _ _ (by simp)]; exact heap_alloc_new _ _) hw
  have hR1:∃ b:Array Value,b.size=4∧w'.heap[w.heap.size+1]? = some (.cells b 126):=⟨_,rfl,Qaa (by have:=heap_alloc_new (w.alloc (.cells (numA a) 126)) (.cells #[.int .u64 0,.int .u64 0,.int .u64 0,.int .u64 0] 126); simpa using this) hw⟩
  have he2:Ext w' ((w'.alloc (.cells #[.int .u64 0,.int .u64 0,.int .u64 0,.int .u64 0] 126)).setRow w'.heap.size (numA 1)):=Qbs (QaK _ _) (qR _) _
  have hA:=Qaa hA1 he2
  obtain ⟨b,hbs,hR1⟩:=hR1
  have hR:=Qaa hR1 he2
  have he:=zbS he1 he2
  have hkV:=Qaa hkb he
  have hkl:=Qa7 hkb
  generalize (w'.alloc (.cells #[.int .u64 0,.int .u64 0,.int .u64 0,.int .u64 0] 126)).setRow w'.heap.size (numA 1)=V at *
  generalize w'.heap.size=gO at *
  clear hA1 hR1 he1 he2 hw HS hnf
  have hsz:=he.size
  refine wpIn_rangeFunc_ownF rfl (by omega) (gf:=108) (lb:=#[.pointer (some ⟨kb,0,none⟩)]) rfl trivial (enters_of Tryz.func108 (by kernel_rfl) rfl)
    (Qlb _ (by omega) kb w.heap.size es hel hb V hkV hkl hsz) belowK_t (belowK_b hsz) (Below.refl _ _) (fun _=>rfl)
    (fun pre W=>(W.heap[gO]? = some (.cells (numA (QbH a pre)) 126)∧W.heap[w.heap.size]? = some (.cells (numA a) 126)∧W.heap[w.heap.size+1]? = some (.cells b 126))∧Below w.heap.size w W)
    (fun _ _ _=>False)
    (OwnFrom.and (Own.from (fun s A B row hs hg hr=>⟨Qbx hs.1 hg hr,Qbx hs.2.1 hg hr,Qbx hs.2.2 hg hr⟩) _) (ownFrom_below (qR _) hsz))
    (fun _ _ _ _ _ hs _ _=>hs)
    ⟨⟨hO,hA,hR⟩,he⟩
    (fun x=>{ tmps:=#[.agg (numA a),.func (.func 108) #[] #[.pointer (some ⟨kb,0,none⟩)],.pointer (some ⟨w.heap.size,0,none⟩),undef,.pointer (some ⟨w.heap.size+1,0,none⟩),.pointer (some ⟨gO,0,none⟩),.int .i64 x,num 1,
      .func (.func 108) #[] #[.pointer (some ⟨kb,0,none⟩)],.bool false,undef,.func (.func 108) #[] #[.pointer (some ⟨kb,0,none⟩)],.int .i64 x,undef,undef,undef,undef,undef,undef,undef,undef,undef],defers:=[] }) ?assign ?body ?done ?stop
  case assign =>
    intro l x W K hK
    gi_wp2
    exact hK
  case body =>
    clear hO hA hR hkV hsz he
    rintro l pre x W ⟨⟨hO,hA,hR⟩,hB⟩ _
    have io:=Qfx a pre
    have HM:Hid (∀ w,Calls Tryz.prog 94 #[.agg (numA (QbH a pre)),.agg (numA (QbH a pre))] w (Ret w (.agg (numA (QbH a pre*QbH a pre%p))))):=Lib.hid (mul _ _ io io)
    have hsn:=Qeb a pre x
    have hlA:=Qa7 hA
    by_cases hx:x=0
    · have hval:QbH a (pre++[x])=QbH a pre*QbH a pre%p:=by rw [hsn]; unfold Qfb; rw [if_pos hx]
      have HV:=Lib.hid hval
      clear hval hsn
      generalize hoo:QbH a pre=o at *
      generalize ho2:o*o%p=o2 at *
      gi_wp2_with first
        | (refine ⟨trivial,?_⟩
           gi_at_call 94
           refine (CallsIn.inRound l (callsIn_wide.2 (HM.out _))).mono ?_
           rintro e w2 ⟨rfl,hw2⟩
           have hO2:=Qaa hO hw2)
        | (with_reducible show wpListIn _ _ _ _ _ ((⟨_,.load 126 _,_,_,_,_⟩:Oper)::_) _ _
           refine QbY rfl 126 _ rfl gO rfl 126 _ (0,0) _ hO Tryz.underlying126 rfl Qco ?_)
        | (with_reducible show wpListIn _ _ _ _ _ ((⟨_,.store 126 _ _,_,_,_,_⟩:Oper)::_) _ _
           refine QbQ rfl 126 _ _ rfl gO (numA o2) rfl rfl 126 _ hO2 Qco rfl (Qdn _) ?_)
      refine ⟨(Qd1 hw2).trans (QdE hO2 _),Qe0 (Qfm hw2 (by omega)) (by omega) _,⟨?_,(setRow_other _ _ _ _ (by omega)).trans (Qaa hA hw2),(setRow_other _ _ _ _ (by omega)).trans (Qaa hR hw2)⟩,Qe0 (hB.trans (Qfm hw2 (by omega))) (by omega) _⟩
      rw [HV.out]
      exact setRow_heap _ _ _ _ _ _ hO2
    · have hval:QbH a (pre++[x])=QbH a pre*QbH a pre%p*a%p:=by rw [hsn]; unfold Qfb; rw [if_neg hx]
      have HV:=Lib.hid hval
      have HM2:Hid (∀ w,Calls Tryz.prog 94 #[.agg (numA (QbH a pre*QbH a pre%p)),.agg (numA a)] w (Ret w (.agg (numA (QbH a pre*QbH a pre%p*a%p))))):=Lib.hid (mul _ _ (QaF _) ha)
      clear hval hsn
      generalize hoo:QbH a pre=o at *
      generalize ho2:o*o%p=o2 at *
      generalize ho3:o2*a%p=o3 at *
      gi_wp2_with first
        | (refine ⟨trivial,?_⟩
           gi_at_call 94
           refine (CallsIn.inRound l (callsIn_wide.2 (HM.out _))).mono ?_
           rintro e w2 ⟨rfl,hw2⟩
           clear HM
           have hO2:=Qaa hO hw2
           clear hO)
        | (refine ⟨trivial,?_⟩
           gi_at_call 94
           refine (CallsIn.inRound l (callsIn_wide.2 (HM2.out _))).mono ?_
           rintro e w4 ⟨rfl,hw4⟩
           clear HM2
           have hO4:=Qaa hO3 hw4
           clear hO3)
        | (with_reducible show wpListIn _ _ _ _ _ ((⟨_,.load 126 _,_,_,_,_⟩:Oper)::_) _ _
           refine QbY rfl 126 _ rfl gO rfl 126 _ (0,0) _ hO Tryz.underlying126 rfl Qco ?_)
        | (with_reducible show wpListIn _ _ _ _ _ ((⟨_,.load 126 _,_,_,_,_⟩:Oper)::_) _ _
           refine QbY rfl 126 _ rfl gO rfl 126 _ (0,0) _ hO3 Tryz.underlying126 rfl Qco ?_)
        | (with_reducible show wpListIn _ _ _ _ _ ((⟨_,.load 126 _,_,_,_,_⟩:Oper)::_) _ _
           refine QbY rfl 126 _ rfl w.heap.size rfl 126 _ (0,0) _ hA3 Tryz.underlying126 rfl Qco ?_)
        | (with_reducible show wpListIn _ _ _ _ _ ((⟨_,.store 126 _ _,_,_,_,_⟩:Oper)::_) _ _
           refine QbQ rfl 126 _ _ rfl gO (numA o2) rfl rfl 126 _ hO2 Qco rfl (Qdn _) ?_
           have hO3:=setRow_heap _ _ _ (numA o2) _ _ hO2
           have hA3:=(setRow_other _ gO w.heap.size (numA o2) (by omega)).trans (Qaa hA hw2)
           have hR3:=(setRow_other _ gO (w.heap.size+1) (numA o2) (by omega)).trans (Qaa hR hw2)
           have hk3:=(Qd1 hw2).trans (QdE hO2 (numA o2))
           have hb3:=Qe0 (Qfm (n:=w.heap.size) hw2 (by omega)) (show w.heap.size≤gO by omega) (numA o2)
           clear hO2 hw2)
        | (with_reducible show wpListIn _ _ _ _ _ ((⟨_,.store 126 _ _,_,_,_,_⟩:Oper)::_) _ _
           refine QbQ rfl 126 _ _ rfl gO (numA o3) rfl rfl 126 _ hO4 Qco rfl (Qdn _) ?_)
      have hl3:=Qa7 hA3
      have hb5:=Qe0 (hb3.trans (Qfm hw4 (by omega))) (show w.heap.size≤gO by omega) (numA o3)
      refine ⟨(hk3.trans (Qd1 hw4)).trans (QdE hO4 _),hb5,⟨?_,(setRow_other _ _ _ _ (by omega)).trans (Qaa hA3 hw4),(setRow_other _ _ _ _ (by omega)).trans (Qaa hR3 hw4)⟩,hB.trans hb5⟩
      rw [HV.out]
      exact setRow_heap _ _ _ _ _ _ hO4
  case done =>
    rintro D ys W hD rfl ⟨⟨hO,hA,hR⟩,hB⟩ hK
    gi_wp2_with first
        | (with_reducible show wpListIn _ _ _ _ _ ((⟨_,.load 126 _,_,_,_,_⟩:Oper)::_) _ _
           refine QbY rfl 126 _ rfl gO rfl 126 _ (0,0) _ hO Tryz.underlying126 rfl Qco ?_)
        | (with_reducible show wpListIn _ _ _ _ _ ((⟨_,.store 126 _ _,_,_,_,_⟩:Oper)::_) _ _
           refine QbQ rfl 126 _ _ rfl (w.heap.size+1) (numA (QbH a (Qdi es))) rfl rfl 126 _ hR Qco hbs (Qdn _) ?_)
    have hK':=(QdE hR (numA (QbH a (Qdi es)))).same D _ hK rfl
    refine ⟨by simp,.inl ⟨_,_,rfl,run_takeDeferred hK',?_⟩⟩
    exact ⟨_,results_cell_row (p:=4) rfl _ _ (w.heap.size+1) 126 (numA (QbH a (Qdi es))) (0,0) _ rfl (Qbx (setRow_heap _ _ _ _ _ _ hR) (grownBy_putObj' _ D (.deferred none)) (fun r e=>by cases e; exact ⟨_,hK',rfl⟩)) Tryz.underlying126 rfl Qco,rfl,
      (Qe0 hB (by omega) _).trans (belowK_b (w:=w) (qR _) _ D _ _ (by omega) hK' rfl rfl)⟩
  case stop =>
    rintro D c pre W _ _ h _
    exact h.elim
end Field
end
section
namespace Field
open Go Go.RowKit
open Rely
def expo (lo hi:Int):List Int:=lo::(zaq 30 255++[hi])
theorem QhC (lo hi:Int):(expo lo hi).length=32:=by simp [expo]
theorem QkX (lo hi:Int) (hl:0≤lo∧lo≤255) (hh:0≤hi∧hi≤255):Qaf (expo lo hi):=fun x hx=>by
  simp only [expo,zaa,List.mem_append,List.mem_replicate,zab,or_false] at hx
  omega
theorem QnO (lo hi:Int):((ints .u8 (mix 32 (fun _=>255) (fun _=>0) 32)).setIfInBounds 0 (.int .u8 lo)).setIfInBounds 31 (.int .u8 hi)=ints .u8 (expo lo hi):=by
  rw [QbP,QbP]
  rfl
theorem exponent (lo hi:Int) (w:World):Calls Tryz.prog 114 #[.int .u8 lo,.int .u8 hi] w (Ret w (.agg (ints .u8 (expo lo hi)))):=by
  go_enter Tryz.func114,Tryz.ntmps114
  go_wp2_with fail
  go_loopw [6,7] (fun c i wr=>∃ k:Nat,k≤32∧i=.int .i64 k∧Ext w wr∧(∃ b,b.size=32∧wr.heap[w.heap.size]? = some (.cells b 23)) ∧
    wr.heap[w.heap.size+1]? = some (.cells (ints .u8 (mix 32 (fun _=>255) (fun _=>0) k)) 23)) (fun _ i _=>32-(intOf i).toNat)
  case atStart=>exact ⟨0,by omega,rfl,zbS (QaK _ _) (QaK _ _),⟨_,rfl,Qgd _ _ _⟩,Qgc _ _ _⟩
  case round =>
    obtain ⟨k,hk,rfl,he,⟨b,hbs,hB⟩,hC⟩:=hrel
    by_cases hlt:k<32
    · have hZ:(ints .u8 (mix 32 (fun _=>255) (fun _=>0) k))[k]? = some (.int .u8 0):=by rw [Qay _ _ _ (by rw [mix_len]; omega),Qc8 _ _ _ _ _ (by omega),if_neg (by omega)]
      have hS:(ints .u8 (mix 32 (fun _=>255) (fun _=>0) k)).setIfInBounds k (.int .u8 255)=ints .u8 (mix 32 (fun _=>255) (fun _=>0) (k+1)):=by rw [QbP,←mix_set _ _ _ _ (by omega)]
      have hcx:=QaO hC hZ
      have hfx:=Qb1 hC k
      have q5:(k:Int)<32:=by omega
      go_wp2
      exact ⟨⟨k+1,by omega,by go_num,QcA he (by omega) _ _,⟨b,hbs,(QaA _ _ (by omega)).trans hB⟩,(Qc5 _ _ hC).trans (by rw [hS])⟩,by simp [intOf]; omega⟩
    · obtain rfl:k=32:=by omega
      have hX:(ints .u8 (mix 32 (fun _=>255) (fun _=>0) 32))[0]? = some (.int .u8 255):=by rw [Qay _ _ _ (by rw [mix_len]; omega),Qc8 _ _ _ _ _ (by omega),if_pos (by omega)]
      have hY:(ints .u8 (mix 32 (fun _=>255) (fun _=>0) 32))[31]? = some (.int .u8 255):=by rw [Qay _ _ _ (by rw [mix_len]; omega),Qc8 _ _ _ _ _ (by omega),if_pos (by omega)]
      have hcx:=QaO hC hX
      have hfx:=Qb1 hC 0
      have hC2:=Qc5 0 (.int .u8 lo) hC
      have hcy:(wr.setCell ⟨w.heap.size+1,0,none⟩ (.int .u8 lo)).cell? ⟨w.heap.size+1,31,none⟩=some (.int .u8 255):=QaO hC2 (by rw [zb5 (by decide)]; exact hY)
      have hfy:=Qb1 hC2 31
      have hB2:=(QaA (W:=wr) 0 (.int .u8 lo) (show w.heap.size≠w.heap.size+1 by omega)).trans hB
      have he2:=QcA he (show w.heap.size≤w.heap.size+1 by omega) 0 (.int .u8 lo)
      generalize hwz:wr.setCell ⟨w.heap.size+1,0,none⟩ (.int .u8 lo)=wz at *
      have hC3:=Qc5 31 (.int .u8 hi) hC2
      rw [QnO] at hC3
      have hB3:=(QaA (W:=wz) 31 (.int .u8 hi) (show w.heap.size≠w.heap.size+1 by omega)).trans hB2
      have he3:=QcA he2 (show w.heap.size≤w.heap.size+1 by omega) 31 (.int .u8 hi)
      generalize hwy:wz.setCell ⟨w.heap.size+1,31,none⟩ (.int .u8 hi)=wy at *
      have hi':(Tryz.prog.info? 23).map (·.size)=some (ints .u8 (expo lo hi)).size:=by rw [infoKey,QaD,QhC]
      have hbl:b.size=(ints .u8 (expo lo hi)).size:=by rw [hbs,QaD,QhC]
      clear hC hC2 hB hB2 he he2
      go_wp2_with first
        | (with_reducible show wpList _ _ _ ((⟨_,.load 23 _,_,_,_,_⟩:Oper)::_) _ _
           refine wpList_load_row rfl 23 _ rfl (w.heap.size+1) rfl 23 _ (0,0) _ hC3 Tryz.underlying23 rfl hi' ?_)
        | (with_reducible show wpList _ _ _ ((⟨_,.store 23 _ _,_,_,_,_⟩:Oper)::_) _ _
           refine wpList_store_row rfl 23 _ _ rfl w.heap.size _ rfl rfl 23 _ hB3 hi' hbl (ints_one _ _) ?_)
      exact bodyPost_ret (results_cell_row (p:=4) rfl _ _ w.heap.size 23 _ (0,0) _ rfl (setRow_heap _ _ _ _ _ _ hB3) Tryz.underlying23 rfl hi') rfl ⟨rfl,Qbs he3 (qR _) _⟩
def invN (a : Int):Int:=QbH a (Qdi (expo 235 127))
theorem QhB (a : Int):isN (invN a):=Qfx _ _
theorem inv (a : Int) (ha:isN a) (w:World):Calls Tryz.prog 95 #[num a] w (Ret w (num (invN a))):=by
  have HE:Hid (∀ w,Calls Tryz.prog 114 #[.int .u8 235,.int .u8 127] w (Ret w (.agg (ints .u8 (expo 235 127))))):=Lib.hid (exponent 235 127)
  have HB:Hid (∀ w,Calls Tryz.prog 91 #[.agg (ints .u8 (expo 235 127))] w (QcL w (Qlf (expo 235 127)))):=Lib.hid (QmB _)
  have HP:Hid (∀ v w,Qlf (expo 235 127) v w→Calls Tryz.prog 113 #[num a,v] w (Ret w (num (invN a)))):=Lib.hid fun v w hv=>power a ha (expo 235 127) (QhC _ _) (QkX _ _ (by decide) (by decide)) v w hv
  generalize expo 235 127=ex at *
  generalize invN a=r at *
  rw [show num a=.agg (numA a) from rfl] at HP ⊢
  go_enter Tryz.func95,Tryz.ntmps95
  go_wp2_with fail
  generalize hW:(w.alloc _).alloc _=W0
  have hA:W0.heap[w.heap.size]? = some (.cells (numA a) 126):=by rw [←hW]; exact Qgd _ _ _
  have hC:∃ b:Array Value,b.size=4∧W0.heap[w.heap.size+1]? = some (.cells b 126):=by rw [←hW]; exact ⟨_,rfl,Qgc _ _ _⟩
  obtain ⟨b,hbs,hC⟩:=hC
  have he:Ext w W0:=by rw [←hW]; exact zbS (QaK _ _) (QaK _ _)
  clear hW
  refine QaZ Ext 3 7 [⟨none,[(1,none)]⟩,⟨none,[]⟩,⟨none,[(4,some 1)]⟩] (by kernel_rfl) (by kernel_rfl) rfl zbR zbS (fun F r0 hr hF=>?_)
  have f1:r0 1=.pointer (some ⟨w.heap.size,0,none⟩):=by rw [hr]; rfl
  clear hr
  simp only [zaU,zaV]
  refine Qbb (.agg (numA a)) (fun ρ W hR hh=>?_) ?_
  · exact Qb6 126 (.tmp _) rfl _ (Eq.trans hh.1 f1) 126 _ (0,0) _ (Qaa (Qaa hA (Qah _)) hR) Tryz.underlying126 rfl Qco
  refine Qbb (.agg (ints .u8 ex)) (fun ρ W hR hh=>?_) ?_
  · simp only [guarded,Qb4]
    go_simp
    exact ⟨zbR _,(HE.out _).mono fun _ _ h=>h.const⟩
  refine Qlt (Qlf ex) (QiH ex) (fun ρ W hR hh=>?_) ?_
  · have h4:ρ 4=.agg (ints .u8 ex):=hh.1
    simp only [guarded,Qb4]
    go_simp
    exact ⟨zbR _,(HB.out _).mono fun _ _ h=>h.fact⟩
  simp only [zaW,zaX]
  refine hF.out fun W hR=>?_
  simp only [zaU,zaV,zba,zbb,fin,forall_eq,Act.put,zbc,zbd,zbe]
  intro v hv
  have HP':=Lib.hid (HP.out v W hv)
  clear hF HP HE HB hv
  go_wp2_with first
    | (go_at_call 113
       (with_reducible refine HP'.out.mono ?_)
       rintro e w' ⟨rfl,hw⟩
       have hC':=Qaa (Qaa (Qaa hC (Qah _)) hR) hw
       have he':=zbS (zbS (zbS he (Qah _)) hR) hw)
    | (with_reducible show wpList _ _ _ ((⟨_,.store 126 _ _,_,_,_,_⟩:Oper)::_) _ _
       refine wpList_store_row rfl 126 _ _ rfl (w.heap.size+1) (numA r) rfl rfl 126 _ hC' Qco hbs (Qdn _) ?_)
  exact bodyPost_ret (QdX (t:=2) rfl rfl (setRow_heap _ _ _ _ _ _ hC')) rfl ⟨rfl,Qbs he' (by omega) _⟩
end Field
end
section
namespace Field
open Go Go.RowKit
open Rely
def lbit (e : Int) (i:Nat):Int:=limb e (i/16)/2^(i%16)%2
def lbits (e : Int):List Int:=(zav 256).map fun j=>lbit e (255-j)
theorem Qmd (e : Int):(lbits e).length=256:=by simp [lbits]
theorem QkP (e : Int) (j:Nat) (hj:j<256):(lbits e).take (256-j)=(lbits e).take (256-(j+1))++[lbit e j]:=by
  have h0:256-j=(256-(j+1))+1:=by omega
  rw [h0,zbB]
  congr 1
  have h:256-(j+1)<256:=by omega
  simp only [lbits,zal,zbC h,zbD,zbE]
  rw [show 255-(256-(j+1))=j by omega]
set_option maxHeartbeats 1000000 in
theorem Qqv (x e:Int) (hx:isN x) (he0:0≤e∧e<big) (w:World):Calls Tryz.prog 86 #[lnum x,lnum e] w (Ret w (lnum (QbH x (lbits e)))):=by
  have h1':ints .i64 (lims 1)=#[.int .i64 1,.int .i64 0,.int .i64 0,.int .i64 0,.int .i64 0,.int .i64 0,.int .i64 0,.int .i64 0,.int .i64 0,.int .i64 0,.int .i64 0,.int .i64 0,.int .i64 0,.int .i64 0,.int .i64 0,.int .i64 0]:=by rw [Qn3]; rfl
  unfold lnum
  go_enter Tryz.func86,Tryz.ntmps86
  go_wp2_with fail
  generalize hW:(((w.alloc _).alloc _).alloc _).alloc _=W0
  have hA:W0.heap[w.heap.size]? = some (.cells (ints .i64 (lims x)) 90):=by rw [←hW]; exact QhJ _ _ _ _ _
  have hE:W0.heap[w.heap.size+1]? = some (.cells (ints .i64 (lims e)) 90):=by rw [←hW]; exact QhI _ _ _ _ _
  have hR:∃ b:Array Value,b.size=16∧W0.heap[w.heap.size+1+1]? = some (.cells b 90):=by rw [←hW]; exact ⟨_,rfl,QhH _ _ _ _ _⟩
  have hO:W0.heap[w.heap.size+1+1+1]? = some (.cells (ints .i64 (lims 1)) 90):=by rw [←hW,h1']; exact QhG _ _ _ _ _
  have he:Ext w W0:=by rw [←hW]; exact ext4 _ _ _ _ _
  clear hW h1'
  go_loopw [6] (fun i wr=>∃ k:Nat,k≤256∧i=.int .i64 ((k:Int)-1)∧Ext w wr∧wr.heap[w.heap.size]? = some (.cells (ints .i64 (lims x)) 90)∧wr.heap[w.heap.size+1]? = some (.cells (ints .i64 (lims e)) 90) ∧
    (∃ b,b.size=16∧wr.heap[w.heap.size+1+1]? = some (.cells b 90))∧wr.heap[w.heap.size+1+1+1]? = some (.cells (ints .i64 (lims (QbH x ((lbits e).take (256-k))))) 90)) (fun i _=>(intOf i+1).toNat)
  case atStart=>exact ⟨256,by omega,rfl,he,hA,hE,hR,hO⟩
  case round =>
    clear hA hE hR hO he
    obtain ⟨k,hk,rfl,he,hA,hE,⟨b,hbs,hR⟩,hO⟩:=hrel
    rcases k with _ | j
    · rw [zbO (by rw [Qmd]; omega)] at hO
      have hrl:=QaW (QbH x (lbits e))
      go_wp2_with first
        | (with_reducible show wpList _ _ _ ((⟨_,.load 90 _,_,_,_,_⟩:Oper)::_) _ _
           refine wpList_load_row rfl 90 _ rfl (w.heap.size+1+1+1) rfl 90 _ (0,0) _ hO Tryz.underlying90 rfl (Qcj _ hrl) ?_)
        | (with_reducible show wpList _ _ _ ((⟨_,.store 90 _ _,_,_,_,_⟩:Oper)::_) _ _
           refine wpList_store_row rfl 90 _ _ rfl (w.heap.size+1+1) _ rfl rfl 90 _ hR (Qcj _ hrl) (by rw [hbs,QaD,hrl]) (ints_one _ _) ?_)
      exact bodyPost_ret (results_cell_row (p:=4) rfl _ _ (w.heap.size+1+1) 90 _ (0,0) _ rfl (setRow_heap _ _ _ _ _ _ hR) Tryz.underlying90 rfl (Qcj _ hrl)) rfl ⟨rfl,Qbs he (by omega) _⟩
    · have hj:j<256:=by omega
      rw [show ((j+1:Nat):Int)-1=(j:Int) by omega]
      have HT:=Lib.hid (QkP e j hj)
      have hsn:=Qeb x ((lbits e).take (256-(j+1))) (lbit e j)
      have io:=Qfx x ((lbits e).take (256-(j+1)))
      generalize hoo:QbH x ((lbits e).take (256-(j+1)))=o at *
      have HM:Hid (∀ w,Calls Tryz.prog 60 #[.agg (ints .i64 (lims o)),.agg (ints .i64 (lims o))] w (Ret w (.agg (ints .i64 (lims (o*o%p)))))):=Lib.hid (lMul o o (Qa9 io) (Qa9 io))
      have HM2:Hid (∀ w,Calls Tryz.prog 60 #[.agg (ints .i64 (lims (o*o%p))),.agg (ints .i64 (lims x))] w (Ret w (.agg (ints .i64 (lims (o*o%p*x%p)))))):=Lib.hid (lMul _ _ (Qa9 (QaF _)) (Qa9 hx))
      have eb:lbit e j=limb e (j/16)/2^(j%16)%2:=rfl
      have b1:=Qbg e (j/16)
      have hX:(ints .i64 (lims e))[j/16]? = some (.int .i64 (limb e (j/16))):=by rw [Qay _ _ _ (by rw [QaW]; omega),Qdo _ _ (by omega)]
      generalize hv:limb e (j/16)=v at *
      have q0:(0:Int)≤(j:Int):=by omega
      have q1:(j:Int)/16<16:=by omega
      have q2:za5.wrap ((j:Int)/16)=(j:Int)/16:=IntWalk.i64_in _ (by omega)
      have qm:(j:Int).tmod 16=(j:Int)%16:=zaT (by omega)
      have q3:za5.wrap ((j:Int)%16)=(j:Int)%16:=IntWalk.i64_in _ (by omega)
      have q4:(0:Int)≤(j:Int)/16:=by omega
      have q5:((j:Int)/16).toNat=j/16:=by omega
      have q6:((j:Int)%16).toNat=j%16:=by omega
      have q7:(0:Int)≤(j:Int)%16:=by omega
      have q8:(j:Int)%16<16:=by omega
      have q9:za8.wrap ((j:Int)%16)=(j:Int)%16:=by rw [za9]; omega
      have q10:(j:Int)%16<64:=by omega
      have hp:(1:Int)≤2^(j%16):=by
        have:(0:Int)<2^(j%16):=zbf (by decide)
        omega
      have d1:0≤v/2^(j%16):=zbp b1.1 (by omega)
      have d2:v/2^(j%16)≤v:=zbA _ b1.1
      have w1:za5.wrap (v/2^(j%16))=v/2^(j%16):=IntWalk.i64_in _ (by omega)
      have w2:(v/2^(j%16)).tmod 2=v/2^(j%16)%2:=zaT d1
      have w3:za5.wrap (v/2^(j%16)%2)=v/2^(j%16)%2:=IntWalk.i64_in _ (by omega)
      have hlO:=Qa7 hO
      have r2:=QaW (o*o%p)
      have r3:=QaW (o*o%p*x%p)
      have r1:=QaW o
      have rx:=QaW x
      have EB:=Lib.hid eb
      have HSN:=Lib.hid hsn
      clear eb hsn
      by_cases hz:v/2^(j%16)%2=1
      · go_wp2_with first
          | (go_at_call 60
             (with_reducible refine (HM.out _).mono ?_)
             rintro e2 w2' ⟨rfl,hw2⟩
             clear HM
             have hO2:=Qaa hO hw2
             clear hO)
          | (go_at_call 60
             (with_reducible refine (HM2.out _).mono ?_)
             rintro e4 w4' ⟨rfl,hw4⟩
             clear HM2
             have hO4:=Qaa hO3 hw4
             clear hO3)
          | (with_reducible show wpList _ _ _ ((⟨_,.load 90 _,_,_,_,_⟩:Oper)::_) _ _
             refine wpList_load_row rfl 90 _ rfl (w.heap.size+1+1+1) rfl 90 _ (0,0) _ hO Tryz.underlying90 rfl (Qcj _ r1) ?_)
          | (with_reducible show wpList _ _ _ ((⟨_,.load 90 _,_,_,_,_⟩:Oper)::_) _ _
             refine wpList_load_row rfl 90 _ rfl (w.heap.size+1+1+1) rfl 90 _ (0,0) _ hO3 Tryz.underlying90 rfl (Qcj _ r2) ?_)
          | (with_reducible show wpList _ _ _ ((⟨_,.load 90 _,_,_,_,_⟩:Oper)::_) _ _
             refine wpList_load_row rfl 90 _ rfl w.heap.size rfl 90 _ (0,0) _ hA3 Tryz.underlying90 rfl (Qcj _ rx) ?_)
          | (with_reducible show wpList _ _ _ ((⟨_,.store 90 _ _,_,_,_,_⟩:Oper)::_) _ _
             refine wpList_store_row rfl 90 _ _ rfl (w.heap.size+1+1+1) _ rfl rfl 90 _ hO2 (Qcj _ r2) (by rw [QaD,QaD,r1,r2]) (ints_one _ _) ?_
             have hE3:=(setRow_other _ (w.heap.size+1+1+1) (w.heap.size+1) (ints .i64 (lims (o*o%p))) (by omega)).trans (Qaa hE hw2)
             have hA3:=(setRow_other _ (w.heap.size+1+1+1) w.heap.size (ints .i64 (lims (o*o%p))) (by omega)).trans (Qaa hA hw2)
             have hR3:=(setRow_other _ (w.heap.size+1+1+1) (w.heap.size+1+1) (ints .i64 (lims (o*o%p))) (by omega)).trans (Qaa hR hw2)
             have hO3:=setRow_heap _ _ _ (ints .i64 (lims (o*o%p))) _ _ hO2
             have he3:=Qbs (zbS he hw2) (show w.heap.size≤(w.heap.size+1+1+1) by omega) (ints .i64 (lims (o*o%p)))
             have hcx:=QaO hE3 hX
             clear hO2 hw2)
          | (with_reducible show wpList _ _ _ ((⟨_,.store 90 _ _,_,_,_,_⟩:Oper)::_) _ _
             refine wpList_store_row rfl 90 _ _ rfl (w.heap.size+1+1+1) _ rfl rfl 90 _ hO4 (Qcj _ r3) (by rw [QaD,QaD,r2,r3]) (ints_one _ _) ?_)
        refine ⟨⟨j,by omega,rfl,Qbs (zbS he3 hw4) (by omega) _,(setRow_other _ _ _ _ (by omega)).trans (Qaa hA3 hw4),(setRow_other _ _ _ _ (by omega)).trans (Qaa hE3 hw4),⟨b,hbs,(setRow_other _ _ _ _ (by omega)).trans (Qaa hR3 hw4)⟩,?_⟩,by simp [intOf]⟩
        rw [HT.out,HSN.out]
        unfold Qfb
        rw [if_neg (by rw [EB.out]; omega)]
        exact setRow_heap _ _ _ _ _ _ hO4
      · have hz0:v/2^(j%16)%2=0:=by omega
        go_wp2_with first
          | (go_at_call 60
             (with_reducible refine (HM.out _).mono ?_)
             rintro e2 w2' ⟨rfl,hw2⟩
             have hO2:=Qaa hO hw2)
          | (with_reducible show wpList _ _ _ ((⟨_,.load 90 _,_,_,_,_⟩:Oper)::_) _ _
             refine wpList_load_row rfl 90 _ rfl (w.heap.size+1+1+1) rfl 90 _ (0,0) _ hO Tryz.underlying90 rfl (Qcj _ r1) ?_)
          | (with_reducible show wpList _ _ _ ((⟨_,.store 90 _ _,_,_,_,_⟩:Oper)::_) _ _
             refine wpList_store_row rfl 90 _ _ rfl (w.heap.size+1+1+1) _ rfl rfl 90 _ hO2 (Qcj _ r2) (by rw [QaD,QaD,r1,r2]) (ints_one _ _) ?_
             have hE3:=(setRow_other _ (w.heap.size+1+1+1) (w.heap.size+1) (ints .i64 (lims (o*o%p))) (by omega)).trans (Qaa hE hw2)
             have hcx:=QaO hE3 hX)
        refine ⟨⟨j,by omega,rfl,Qbs (zbS he hw2) (by omega) _,(setRow_other _ _ _ _ (by omega)).trans (Qaa hA hw2),(setRow_other _ _ _ _ (by omega)).trans (Qaa hE hw2),⟨b,hbs,(setRow_other _ _ _ _ (by omega)).trans (Qaa hR hw2)⟩,?_⟩,by simp [intOf]⟩
        rw [HT.out,HSN.out]
        unfold Qfb
        rw [if_pos (by rw [EB.out]; exact hz0)]
        exact setRow_heap _ _ _ _ _ _ hO2
theorem Qn2 : lims 2=2::zaq 15 0:=by decide +kernel
theorem QnE : lbits (p-2)=Qdi (expo 235 127):=by decide +kernel
theorem lInv (a : Int) (ha:isN a) (w:World):Calls Tryz.prog 62 #[lnum a] w (Ret w (lnum (invN a))):=by
  have hp0:(0:Int)≤p∧p<big:=by decide
  have HP:Hid (∀ w,Calls Tryz.prog 85 #[] w (Ret w (lnum p))):=Lib.hid prime
  have HM:Hid (∀ w,Calls Tryz.prog 84 #[lnum p,lnum 2] w (Ret w (lnum (p-2)))):=Lib.hid fun w=>minus p 2 (by decide) (by decide) hp0.2 w
  have HW:Hid (∀ w,Calls Tryz.prog 86 #[lnum a,lnum (p-2)] w (Ret w (lnum (invN a)))):=Lib.hid fun w=>by
    have:=Qqv a (p-2) ha (by decide) w
    rw [QnE] at this
    exact this
  have h2:lnum 2=.agg #[.int .i64 2,.int .i64 0,.int .i64 0,.int .i64 0,.int .i64 0,.int .i64 0,.int .i64 0,.int .i64 0,.int .i64 0,.int .i64 0,.int .i64 0,.int .i64 0,.int .i64 0,.int .i64 0,.int .i64 0,.int .i64 0]:=by unfold lnum; rw [Qn2]; rfl
  rw [h2] at HM
  unfold lnum at HM HP HW ⊢
  clear h2 hp0
  have ra:=QaW a
  have rr:=QaW (invN a)
  generalize lims (invN a)=res at *
  generalize lims (p-2)=lq at *
  generalize lims p=lp at *
  generalize lims a=la at *
  go_enter Tryz.func62,Tryz.ntmps62
  go_wp2_with fail
  generalize hW:(w.alloc _).alloc _=W0
  have hA:W0.heap[w.heap.size]? = some (.cells (ints .i64 la) 90):=by rw [←hW]; exact Qgd _ _ _
  have hC:∃ b:Array Value,b.size=16∧W0.heap[w.heap.size+1]? = some (.cells b 90):=by rw [←hW]; exact ⟨_,rfl,Qgc _ _ _⟩
  obtain ⟨b,hbs,hC⟩:=hC
  have he:Ext w W0:=by rw [←hW]; exact zbS (QaK _ _) (QaK _ _)
  clear hW
  refine QaZ Ext 4 8 [⟨none,[(1,none)]⟩,⟨none,[]⟩,⟨none,[]⟩,⟨none,[(4,some 1),(5,some 2)]⟩] (by kernel_rfl) (by kernel_rfl) rfl zbR zbS (fun F r0 hr hF=>?_)
  have f1:r0 1=.pointer (some ⟨w.heap.size,0,none⟩):=by rw [hr]; rfl
  clear hr
  simp only [zaU,zaV]
  refine Qbb (.agg (ints .i64 la)) (fun ρ W hR hh=>?_) ?_
  · exact Qb6 90 (.tmp _) rfl _ (Eq.trans hh.1 f1) 90 _ (0,0) _ (Qaa (Qaa hA (Qah _)) hR) Tryz.underlying90 rfl (Qcj _ ra)
  refine Qbb (.agg (ints .i64 lp)) (fun ρ W hR hh=>?_) ?_
  · simp only [guarded,Qb4]
    go_simp
    exact ⟨zbR _,(HP.out _).mono fun _ _ h=>h.const⟩
  refine Qbb (.agg #[.int .i64 2,.int .i64 0,.int .i64 0,.int .i64 0,.int .i64 0,.int .i64 0,.int .i64 0,.int .i64 0,.int .i64 0,.int .i64 0,.int .i64 0,.int .i64 0,.int .i64 0,.int .i64 0,.int .i64 0,.int .i64 0]) (fun ρ W hR hh=>?_) ?_
  · simp only [guarded,Qb4]
    go_simp
    exact zbR _
  refine Qbb (.agg (ints .i64 lq)) (fun ρ W hR hh=>?_) ?_
  · have h4:ρ 4=.agg (ints .i64 lp):=hh.1
    have h5:ρ 5=.agg #[.int .i64 2,.int .i64 0,.int .i64 0,.int .i64 0,.int .i64 0,.int .i64 0,.int .i64 0,.int .i64 0,.int .i64 0,.int .i64 0,.int .i64 0,.int .i64 0,.int .i64 0,.int .i64 0,.int .i64 0,.int .i64 0]:=hh.2.1
    simp only [guarded,Qb4]
    go_simp
    exact ⟨zbR _,(HM.out _).mono fun _ _ h=>h.const⟩
  simp only [zaW,zaX]
  refine hF.out fun W hR=>?_
  simp only [zaU,zaV,zba,zbb,fin,forall_eq,Act.put,zbc,zbd,zbe]
  clear hF
  go_wp2_with first
    | (go_at_call 86
       (with_reducible refine (HW.out _).mono ?_)
       rintro e w' ⟨rfl,hw⟩
       have hC':=Qaa (Qaa (Qaa hC (Qah _)) hR) hw
       have he':=zbS (zbS (zbS he (Qah _)) hR) hw)
    | (with_reducible show wpList _ _ _ ((⟨_,.store 90 _ _,_,_,_,_⟩:Oper)::_) _ _
       refine wpList_store_row rfl 90 _ _ rfl (w.heap.size+1) _ rfl rfl 90 _ hC' (Qcj _ rr) (by rw [hbs,QaD,rr]) (ints_one _ _) ?_)
  exact bodyPost_ret (results_cell_row (p:=2) rfl _ _ (w.heap.size+1) 90 _ (0,0) _ rfl (setRow_heap _ _ _ _ _ _ hC') Tryz.underlying90 rfl (Qcj _ rr)) rfl ⟨rfl,Qbs he' (by omega) _⟩
end Field
end
section
namespace Field
open Go Go.RowKit
open Rely
theorem QfL (A k P:Nat):((A:Int)^k)%(P:Int)=((A^k%P:Nat):Int):=by
  rw [Int.natCast_emod,Int.natCast_pow]
theorem Qf5 (x : Int) (hx:isN x) (h0:x≠0) (k:Nat) (hk:k=57896044618658097711785492504343953926634992332820282019728792003956564819949-1):x^k%p=1:=by
  obtain ⟨A,rfl⟩:=za6 hx.1
  have hA:A<57896044618658097711785492504343953926634992332820282019728792003956564819949:=by have:=hx.2; unfold p at this; omega
  have hA0:A≠0:=fun e=>h0 (by rw [e]; rfl)
  have hf:=Prime.p25519.2.1 A (by rw [zb0 hA]; exact hA0)
  rw [←hk] at hf
  have:=QfL A k 57896044618658097711785492504343953926634992332820282019728792003956564819949
  rw [hf] at this
  exact this
theorem Qmi : cnt (Qdi (expo 235 127))+1=57896044618658097711785492504343953926634992332820282019728792003956564819949-1:=by decide +kernel
theorem Qpw (k : Nat) (h:k+1=57896044618658097711785492504343953926634992332820282019728792003956564819949-1) (x:Int) (hx:isN x) (h0:x≠0):x*(x^k%p)%p=1:=by
  have e:x^k*x=x^(k+1):=(zaO x k).symm
  rw [zbG,zbH,←zbG,zaP,e]
  generalize k+1=m at *
  exact Qf5 x hx h0 m h
theorem Qf3 (x : Int) (hx:isN x) (h0:x≠0):x*invN x%p=1:=by
  unfold invN
  rw [Qom]
  exact Qpw _ Qmi x hx h0
theorem QhM (k : Nat) (h:k+1=57896044618658097711785492504343953926634992332820282019728792003956564819949-1):(0:Int)^k%p=0:=by
  have hk:k≠0:=fun e=>by
    subst e
    exact absurd h (by decide)
  rw [Int.zero_pow hk]
  rfl
theorem QnC : invN 0=0:=(Qom 0 (Qdi (expo 235 127))).trans (QhM _ Qmi)
end Field
end
section
namespace Field
open Go Go.RowKit
open Rely
theorem modL (a b:Int):a%p*b%p=a*b%p:=by rw [zbG,zbH,←zbG]
theorem modR (a b:Int):a*(b%p)%p=a*b%p:=by rw [zbG,zbH,←zbG]
end Field
end
section
namespace Field
open Go Go.RowKit
open Rely
end Field
end
section
namespace Field
open Go Go.RowKit Go.Shelf
open Rely
attribute [local go_sem] Oper.semAt_some
def Same (kb : Nat) (A B:World):Prop:=B.heap[kb]? = A.heap[kb]?
theorem Same.refl (kb : Nat) (A:World):Same kb A A:=rfl
theorem Same.trans' {kb : Nat} {A B C:World} (h:Same kb A B) (k:Same kb B C):Same kb A C:=Eq.trans k h
theorem Ql2 {kb : Nat} {w:World} (hk:kb<w.heap.size) (W:World) (l:Nat) (o o':Obj) (hl:w.heap.size≤l) (h:W.heap[l]? = some o) (_:o.isCells=false) (_:o.isWalk=false):Same kb W (W.putObj l o') :=
  World.putObj_heap_other (by omega)
end Field
end
section
namespace Field
open Go Go.RowKit
open Rely
end Field
end
section
namespace Field
open Go Go.RowKit
open Rely
theorem Qe7 (a : Int):∀ n:Nat,(a%p)^n%p=a^n%p
  | 0=>by rw [zbF,zbF]
  | n+1=>by
    rw [zaO,zaO,modR,zbG,Qe7 a n,←zbG]
end Field
end
section
namespace Field
open Go Go.RowKit
open Rely
end Field
end
section
namespace Field
open Go Go.RowKit
open Rely
end Field
end
section
namespace Field
open Go Go.RowKit
open Rely
end Field
end
section
namespace Field
open Go Go.RowKit Go.Shelf
open Rely
attribute [local go_sem] Oper.semAt_some
def encB (b : Bool):Value:=.int .i64 (if b then 1 else 0)
def bitB (es : List Int) (i:Nat):Bool:=Qek es i==1
def QbA (es : List Int):List Bool:=(zav 256).map fun j=>bitB es (255-j)
theorem QnR (es : List Int) (i:Nat):encB (bitB es i)=.int .i64 (Qek es i):=by
  unfold encB bitB
  have:=Qg5 es i
  by_cases h:Qek es i=1
  · simp [h]
  · have h0:Qek es i=0:=by omega
    simp [h0]
theorem QdR (es : List Int):(QbA es).length=256:=by simp [QbA]
theorem QeF (es : List Int) (j:Nat) (hj:j<256):(QbA es).take (256-j)=(QbA es).take (256-(j+1))++[bitB es j]:=by
  have e:256-j=(256-(j+1))+1:=by omega
  rw [e,zbB]
  congr 1
  have h:256-(j+1)<256:=by omega
  simp only [QbA,zal,zbC h,zbD,zbE]
  rw [show 255-(256-(j+1))=j by omega]
set_option maxHeartbeats 2000000 in
theorem QiG (m : Nat) (hm:1≤m) (kb:Nat) (es:List Int) (hel:es.length=32) (hb:Qaf es) (w:World) (hkb:w.heap[kb]? = some (.cells (ints .u8 es) 23)) :
    SeqStopsK Fence.wide m Tryz.prog 108 #[.pointer (some ⟨kb,0,none⟩)] (fun x:Bool=>#[encB x]) (Same kb) (fun ys=>ys=QbA es) (fun pre=>pre <+: QbA es) 256 w:=fun l J Jx W hW hJ hJx hY h0=>by
  refine callsIn_of_wp Tryz.func108 rfl trivial ?_ rfl
  simp only [Tryz.ntmps108,zau,zbI,zbJ,zaS,zaB,zbK,zbL,zbM,zbN,zaX,zaW]
  have hkW:W.heap[kb]? = some (.cells (ints .u8 es) 23):=(hW.block kb (Qa7 hkb)).trans hkb
  gi_wp2
  gi_loopw [3] (fun i wr=>∃ k:Nat,k≤256∧i=.int .i64 ((k:Int)-1)∧J ((QbA es).take (256-k)) wr∧Same kb W wr) (fun i _=>(intOf i+1).toNat)
  case atStart=>exact ⟨256,by omega,rfl,by simpa using h0,Same.refl _ _⟩
  case round =>
    obtain ⟨k,hk256,rfl,hJs,hB⟩:=hrel
    rcases k with _ | j
    · gi_wp2
      go_end0
      exact ⟨⟨_,rfl⟩,.inl ⟨_,rfl,by rwa [zbO (by rw [QdR]; omega)] at hJs⟩⟩
    · have hj:j<256:=by omega
      rw [show ((j+1:Nat):Int)-1=(j:Int) by omega]
      have hkw:wr.heap[kb]? = some (.cells (ints .u8 es) 23):=hB.trans hkW
      have hX:(ints .u8 es)[j/8]? = some (.int .u8 (nth es (j/8))):=Qay _ _ _ (by omega)
      have hcx:=QaO hkw hX
      obtain ⟨fn,tmps,assign,body,hy,hR⟩:=hY _ (bitB es j) wr hJs (by rw [zbP,QdR]; omega)
      have hT:=Lib.hid (QeF es j hj)
      have b1:=hb.nth (j/8)
      rw [QnR,show Qek es j=nth es (j/8)/2^(j%8)%2 from rfl] at hy
      generalize bitB es j=bt at *
      generalize nth es (j/8)=v at *
      have q0:(0:Int)≤(j:Int):=by omega
      have q1:(j:Int)/8<32:=by omega
      have q2:za5.wrap ((j:Int)/8)=(j:Int)/8:=IntWalk.i64_in _ (by omega)
      have qm:(j:Int).tmod 8=(j:Int)%8:=zaT (by omega)
      have q3:za5.wrap ((j:Int)%8)=(j:Int)%8:=IntWalk.i64_in _ (by omega)
      have q4:(0:Int)≤(j:Int)/8:=by omega
      have q5:((j:Int)/8).toNat=j/8:=by omega
      have q6:((j:Int)%8).toNat=j%8:=by omega
      have q7:(0:Int)≤(j:Int)%8:=by omega
      have q8:(j:Int)%8<8:=by omega
      have hp:(1:Int)≤2^(j%8):=by
        have:(0:Int)<2^(j%8):=zbf (by decide)
        omega
      have d1:0≤v/2^(j%8):=zbp b1.1 (by omega)
      have d2:v/2^(j%8)≤v:=zbA _ b1.1
      have w1:za5.wrap (v/2^(j%8))=v/2^(j%8):=IntWalk.i64_in _ (by omega)
      have w2:=QmG (v/2^(j%8)) (by omega)
      gi_wp2
      refine hR.mono ?_
      rintro e W3 (⟨rfl,hJ3,hk3⟩ | ⟨rfl,hJx3⟩)
      · gi_wp2
        go_roundw
        case rel=>exact ⟨j,by omega,rfl,by rw [hT.out]; exact hJ3,hk3.trans hB⟩
        case measure=>simp [intOf]
      · gi_wp2
        refine bodyPost_ret (results_none rfl _ _ _) rfl ?_
        exact ⟨⟨_,rfl⟩,.inr ⟨_,by rw [←hT.out]; exact zbQ _ _,hJx3⟩⟩
end Field
end
end
section
namespace Ladder
open Go Go.RowKit
open Rely
def clamp (xs : List Int):List Int:=(xs.set 0 (nth xs 0/8*8)).set 31 (nth xs 31%64+64)
theorem Qq9 : ∀ a:Fin 256,bits .and .u8 (a.val:Int) 248=(a.val:Int)/8*8:=by decide +kernel
theorem Qrk : ∀ a:Fin 256,bits .or .u8 (bits .and .u8 (a.val:Int) 127) 64=(a.val:Int)%64+64:=by decide +kernel
theorem QpB (a : Int) (h:0≤a∧a≤255):bits .and .u8 a 248=a/8*8:=by
  have:=Qq9 ⟨a.toNat,by omega⟩
  simpa [zaI h.1] using this
theorem Qqn (a : Int) (h:0≤a∧a≤255):bits .or .u8 (bits .and .u8 a 127) 64=a%64+64:=by
  have:=Qrk ⟨a.toNat,by omega⟩
  simpa [zaI h.1] using this
theorem infoKey : (Tryz.prog.info? 23).map (·.size)=some 32:=by kernel_rfl
theorem Qhe (w : World) (a b:Obj):((w.alloc a).alloc b).heap[w.heap.size]? = some a:=by
  rw [Below.heap_alloc _ _ _ (by simp)]
  exact heap_alloc_new w a
theorem QeG (w : World) (a b:Obj):((w.alloc a).alloc b).heap[w.heap.size+1]? = some b:=by
  have:=heap_alloc_new (w.alloc a) b
  simpa using this
theorem ints_one (k : IntKind) (xs:List Int):(ints k xs).all (·.oneCell')=true:=by simp [ints,zaF]
theorem below_setRow {B : Nat} {a w:World} (h:Below B a w) {g:Nat} (hp:B≤g) (cs:Array Value):Below B a (w.setRow g cs) :=
  ⟨h.os,h.tape,h.output,by simpa using h.size,fun k hk=>(setRow_other w g k cs (by omega)).trans (h.block k hk)⟩
theorem nth_set_ne (l : List Int) (i j:Nat) (v:Int) (h:i≠j):nth (l.set i v) j=nth l j:=by simp [nth,h]
theorem Qq2 (xs : List Int) (hl:xs.length=32) (hb:Qaf xs) (w:World) :
    Calls Tryz.prog 92 #[.agg (ints .u8 xs)] w (Ret w (.agg (ints .u8 (clamp xs)))):=by
  have a0:=QpB _ (hb.nth 0)
  have a31:=Qqn _ (hb.nth 31)
  have e0:(ints .u8 xs)[0]? = some (.int .u8 (nth xs 0)):=Qay _ _ _ (by omega)
  have hi:∀ (ys:List Int),ys.length=32→(Tryz.prog.info? 23).map (·.size)=some (ints .u8 ys).size:=fun ys h=>by rw [infoKey,QaD,h]
  have hset:∀ (ys:List Int) (i:Nat) (v:Int),(ints .u8 ys).setIfInBounds i (.int .u8 v)=ints .u8 (ys.set i v):=fun ys i v=>QbP _ _ _ _
  have e31:(ints .u8 (xs.set 0 (nth xs 0/8*8)))[31]? = some (.int .u8 (nth xs 31)):=by rw [Qay _ _ _ (by simp; omega),nth_set_ne _ _ _ _ (by decide)]
  have HE0:=Lib.hid e0
  go_enter Tryz.func92,Tryz.ntmps92
  go_wp2_with first
    | (with_reducible show wpList _ _ _ ((⟨_,.load 23 _,_,_,_,_⟩:Oper)::_) _ _
       refine wpList_load_row rfl 23 _ rfl w.heap.size rfl 23 (ints .u8 (clamp xs)) (0,0) _ (Qhe _ _ _) Tryz.underlying23 rfl (hi _ (by simp [clamp,hl])) ?_)
    | (with_reducible show wpList _ _ _ ((⟨_,.store 23 _ _,_,_,_,_⟩:Oper)::_) _ _
       refine wpList_store_row rfl 23 _ _ rfl (w.heap.size+1) (ints .u8 (clamp xs)) rfl rfl 23 _ (QeG _ _ _) (hi _ (by simp [clamp,hl])) (by simp [ints,clamp,hl]) (ints_one _ _) ?_)
  refine bodyPost_ret (v:=.agg (ints .u8 (clamp xs))) (results_cell_row (p:=2) rfl _ _ (w.heap.size+1) 23 (ints .u8 (clamp xs)) (0,0) _ rfl (setRow_heap _ _ _ _ _ _ (QeG _ _ _)) Tryz.underlying23 rfl (hi _ (by simp [clamp,hl]))) rfl ⟨rfl,?_⟩
  exact below_setRow (((Below.refl _ _).alloc (qR _) _).alloc (by simp) _) (by omega) _
theorem wrap_u8 (a : Int) (h:0≤a) (h2:a<256):zb7.wrap a=a:=by
  have e:zb7.bits=8:=rfl
  have f:zb7.signed=false:=rfl
  simp [IntKind.wrap,e,f]
  omega
theorem Ql7 (xs : List Int) (hl:xs.length=32) (hb:Qaf xs) (w:World) :
    Calls Tryz.prog 57 #[.agg (ints .u8 xs)] w (Ret w (.agg (ints .u8 (clamp xs)))):=by
  have c0:=hb.nth 0
  have c31:=hb.nth 31
  have a0:zb7.wrap (nth xs 0/8*8)=nth xs 0/8*8:=wrap_u8 _ (by omega) (by omega)
  have a31:zb7.wrap (nth xs 31%64+64)=nth xs 31%64+64:=wrap_u8 _ (by omega) (by omega)
  have e0:(ints .u8 xs)[0]? = some (.int .u8 (nth xs 0)):=Qay _ _ _ (by omega)
  have hi:∀ (ys:List Int),ys.length=32→(Tryz.prog.info? 23).map (·.size)=some (ints .u8 ys).size:=fun ys h=>by rw [infoKey,QaD,h]
  have hset:∀ (ys:List Int) (i:Nat) (v:Int),(ints .u8 ys).setIfInBounds i (.int .u8 v)=ints .u8 (ys.set i v):=fun ys i v=>QbP _ _ _ _
  have e31:(ints .u8 (xs.set 0 (nth xs 0/8*8)))[31]? = some (.int .u8 (nth xs 31)):=by rw [Qay _ _ _ (by simp; omega),nth_set_ne _ _ _ _ (by decide)]
  have HE0:=Lib.hid e0
  go_enter Tryz.func57,Tryz.ntmps57
  go_wp2_with first
    | (with_reducible show wpList _ _ _ ((⟨_,.load 23 _,_,_,_,_⟩:Oper)::_) _ _
       refine wpList_load_row rfl 23 _ rfl w.heap.size rfl 23 (ints .u8 (clamp xs)) (0,0) _ (Qhe _ _ _) Tryz.underlying23 rfl (hi _ (by simp [clamp,hl])) ?_)
    | (with_reducible show wpList _ _ _ ((⟨_,.store 23 _ _,_,_,_,_⟩:Oper)::_) _ _
       refine wpList_store_row rfl 23 _ _ rfl (w.heap.size+1) (ints .u8 (clamp xs)) rfl rfl 23 _ (QeG _ _ _) (hi _ (by simp [clamp,hl])) (by simp [ints,clamp,hl]) (ints_one _ _) ?_)
  refine bodyPost_ret (v:=.agg (ints .u8 (clamp xs))) (results_cell_row (p:=2) rfl _ _ (w.heap.size+1) 23 (ints .u8 (clamp xs)) (0,0) _ rfl (setRow_heap _ _ _ _ _ _ (QeG _ _ _)) Tryz.underlying23 rfl (hi _ (by simp [clamp,hl]))) rfl ⟨rfl,?_⟩
  exact below_setRow (((Below.refl _ _).alloc (qR _) _).alloc (by simp) _) (by omega) _
end Ladder
end
end Go.Proofs.YtlcjklafldaemaaGreatDoor
