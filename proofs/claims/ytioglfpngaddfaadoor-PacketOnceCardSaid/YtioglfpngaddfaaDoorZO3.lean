/- Texts of this claim, joined (O3). -/
import Derived.Test.YtioglfpngaddfaaDoorZO2
import Derived.Lib.AppendStr
import Derived.MapKept
import Derived.ChangeMaps4
import Derived.Maps.RangeRun
import Derived.Laws.BitsAll
import Derived.Test.YtioglfpngaddfaaDoorRows
import Derived.Lib.TrailingZeros
import Derived.Laws.Bits64b

set_option linter.unusedVariables false
set_option linter.unusedSimpArgs false
set_option maxHeartbeats 4000000
open List renaming replicate → zaa, mem_map → zaf, map_map → zah, length_append → zai, map_toArray → zaj, map_cons → zak, map_append → zal, length_cons → zaq, length_nil → zar, mem_cons → zas, not_mem_nil → zat, nodup_nil → zax, find?_cons_of_pos → zay, find?_cons_of_neg → zaz, getElem?_cons_succ → za0, nodup_append → za3, nodup_cons → za4, map_singleton → za5, mem_singleton → za6, mem_append → za8, find?_eq_none → za9, filter_cons → zaA, filter_sublist → zaB, mem_filter → zaC, filter_eq_self → zaD, mem_cons_of_mem → zaE, mem_map_of_mem → zaF, mem_cons_self → zaG, getElem?_eq_some_iff → zaH, filter_congr → zaL, take_succ_cons → zaY, take_zero → zaZ, drop_succ_cons → zba, drop_zero → zbb, nil_append → zbc, cons_append → zbd, append_assoc → zbh, mem_replicate → zbi, mem_of_find?_eq_some → zbj, length_take → zbk, append_nil → zbl, reverse_reverse → zbm, reverse_cons → zbn
open Int renaming toNat_natCast → zab, fdiv_eq_ediv_of_nonneg → zan, natCast_ediv → zao, natCast_pow → zaQ, eq_ofNat_of_zero_le → zaV
open Go.Sem renaming run_bind → zac, run_pure → zad
open Go.Result renaming andThen_ok → zae, andThen → za1
open Go.Value renaming int → zag, bool → zau
open Go.IntKind renaming i64 → zam, u8 → zap, u64 → zaP, wrap_u64 → zaR
open Nat renaming zero_le → zav, zero_add → zaw, ne_of_lt → za7, lt_or_ge → zaS, lt_of_le_of_lt → zaT, div_le_self → zaU, mod_lt → zaW, mod_eq_of_lt → zaX, testBit_two_pow → zbo, testBit_mod_two_pow → zbp
open Array renaming toList_push → za2, eraseIdxIfInBounds_eq → zaI, toList_eraseIdx → zaJ, contains_toList → zaK, mem_filter → zaM, mem_toList_iff → zaN, eq_empty_of_size_eq_zero → zaO
open Go.Region renaming ready → zbe, wanted → zbf, binds → zbg
open BitVec renaming ofNat → zbq
namespace Go.Proofs.YtioglfpngaddfaaDoor
open Rely.Ext renaming refl → zbr, trans → zbs
open Auto.Puts renaming row → zbt, ext → zbu
open Auto.Ext renaming tr → zbv
open Own.ExtB renaming row → zbw
open Auto.OwnN renaming base → zbx, rd → zby
open Auto.Qaf renaming refl → zbz, row → zb0, step → zb1, puts → zb2
section
namespace Sha
open Go Go.RowKit
open Rely Auto Own
section
variable {P : Program} {ρ : Operand → Value} {o : Oper} {w : World}
theorem QiI {k : IntKind} (t:TypeId) (x y:Operand) (kl kc:IntKind) (n:Nat) (e:TypeId) (ho:o.op=.makeSlice t x y) (hx:ρ x=.int kl 0) (hy:ρ y=.int kc n)
    (hu:P.underlying t=some (.slice e)) (hi:(P.info? e).map (fun i=>(i.zero,i.size,i.bytes))=some (some (.int k 0),1,1)) (hn:n≤1000000000) :
    (execOp ρ o).run P w=.ok (.value (.slice (some ⟨w.heap.size,0,none⟩) 0 n)) (w.alloc (.cells (ints k (zaa n 0)) e)):=by
  cases hq:P.info? e with
  | none=>simp [hq] at hi
  | some i =>
    have hz:i.zero=some (.int k 0)∧i.size=1∧i.bytes=1:=by simpa [hq] using hi
    have hb:(i.bytes:Int)*(n:Int)≤281474976710656:=by rw [hz.2.2]; omega
    have h:=run_make w t e i (.int k 0) hu hq hz.1 kl kc 0 (n:Int) (by omega) (by omega) hb (by omega)
    rw [hz.2.1,zab,Qfe] at h
    unfold execOp
    simp only [ho,hx,hy,zac,zad,h,zae]
    rfl
end
section
variable {ds : List Deferred} {P : Program} {ops : Array Oper} {Q : Exit → Act → World → Prop} {rest : List Oper} {o : Oper} {N : Nat} {L : Env} {w : World}
theorem QiA (cs : Array Value) (T:TypeId) (n d:Nat) (hd:o.dst=some d) (hg:Qbm ops o N L=some true) (h:(execOp (Rely.look (envN N L)) o).run P w=.ok (.value (.slice (some ⟨w.heap.size,0,none⟩) 0 n)) (w.alloc (.cells cs T)))
    (k:∀ (g:Nat) (W:World),w.heap.size≤g→Ext w W→W.heap[g]? = some (.cells cs T)→WL P ops Q rest (Qaw ds N ((d,.slice (some ⟨g,0,none⟩) 0 n)::L)) W):WL P ops Q (o::rest) (Qaw ds N L) w :=
  Qbz _ _ d hd hg h (k _ _ (qR _) (Qbb _ _) (heap_alloc_new _ _))
end
def strB (s : ByteArray):List Int:=s.data.toList.map fun b=>(b.toNat:Int)
theorem QcD (s : ByteArray):(strB s).length=s.size:=by unfold strB; rw [List.length_map,Array.length_toList]; rfl
theorem Qi6 (s : ByteArray):Qai (strB s):=fun x hx=>by
  unfold strB at hx
  obtain ⟨b,-,rfl⟩:=zaf.1 hx
  have:=b.toNat_lt
  omega
theorem Qi5 (s : ByteArray):Lib.strCells s=(strB s).map (zag .u8):=by unfold Lib.strCells strB; rw [zah]; rfl
theorem QlK {P : Program} {T:TypeId} {ρ:Operand→Value} {o:Oper} {W:World} (s x:Operand) (t u:TypeId) (ho:o.op=.call { callee:=.builtin .append,args:=#[s,x],argTypes:=#[t,u] })
    (ht:P.underlying t=some (.slice T)) (hu:P.underlying u=some .string) (hi:(P.info? T).map (fun i=>(i.zero,i.size,i.bytes))=some (some (.int .u8 0),1,1)) {base:Nat} {v:Value} {xs:List Int} {lab:ByteArray} (hs:ρ s=v) (hx:ρ x=.string lab)
    (h:OwnN .u8 T base xs v W) (hn:xs.length+(strB lab).length≤1000000000) (hbase:base≤W.heap.size) :
    ∃ v' W',(execOp ρ o).run P W=.ok (.value v') W'∧OwnN .u8 T base (xs++strB lab) v' W'∧W.grownBy W' v.ownBlock:=by
  obtain ⟨i,hq,hi1,hi2,hi3⟩:=QmR hi
  rw [QcD] at hn
  obtain ⟨v',W',hr,h2,h3,_⟩:=Lib.run_append_own_string (P:=P) W base t u o.type T i ht hu hq hi1 hi2 hi3 v xs.length (xs.map (zag .u8)) h.1 lab (by simp only [maxLen]; omega) (by omega) hbase
  refine ⟨v',W',?_,⟨?_,by rw [zai,QcD]; simp only [maxLen]; omega⟩,h3⟩
  · unfold execOp
    simp only [ho,resolve,invoke,builtin,zac,zad,zae,zaj,zak,List.map_nil,hs,hx,hr]
  · rw [zai,zal,QcD,←Qi5]; exact h2
section
variable {ds : List Deferred} {P : Program} {ops : Array Oper} {Q : Exit → Act → World → Prop} {rest : List Oper} {o : Oper} {N : Nat} {L : Env} {W : World}
theorem Qhe {T : TypeId} (s x:Operand) (t u:TypeId) (ho:o.op=.call { callee:=.builtin .append,args:=#[s,x],argTypes:=#[t,u] })
    (ht:P.underlying t=some (.slice T)) (hu:P.underlying u=some .string) (hi:(P.info? T).map (fun i=>(i.zero,i.size,i.bytes))=some (some (.int .u8 0),1,1)) (d:Nat) (hd:o.dst=some d) (hg:Qbm ops o N L=some true) {v:Value} {xs:List Int} {lab:ByteArray} {V:World}
    (hs:Rely.look (envN N L) s=v) (hx:Rely.look (envN N L) x=.string lab)
    (h:OwnN .u8 T V.heap.size xs v W) (hn:xs.length+(strB lab).length≤1000000000) (hV:Ext V W)
    (kk:∀ (z:Value) (W':World),OwnN .u8 T V.heap.size (xs++strB lab) z W'→Ext V W'→Below V.heap.size W W'→WL P ops Q rest (Qaw ds N ((d,z)::L)) W'):WL P ops Q (o::rest) (Qaw ds N L) W:=by
  obtain ⟨v',W',h1,h2,h3⟩:=QlK (ρ:=Rely.look (envN N L)) (o:=o) (W:=W) s x t u ho ht hu hi hs hx h hn hV.size
  exact Qbz _ _ d hd hg h1 (kk v' W' h2 (Qky hV h h3) ⟨h3.os,h3.tape,h3.output,h3.size,fun i hi=>h3.block i (qL hi hV.size) (fun q=>by have:=h.ge q.symm; omega)⟩)
end
theorem shrN (a : Nat) (s:Int) (c:Nat) (h:(2:Int)^min s.toNat zam.bits=(c:Int)):((a:Nat):Int).fdiv (2^min s.toNat zam.bits)=((a/c:Nat):Int):=by
  rw [h,zan _ (by omega)]; exact (zao a c).symm
theorem Qh4 (a b:Nat) (h:a%256=b):zap.wrap ((a:Nat):Int)=((b:Nat):Int):=by rw [Qnj,h]
def Qep (lab : List Int) (n:Nat):List Int:=[((n/256:Nat):Int),((n%256:Nat):Int),((lab.length:Nat):Int)]
def QgL (c : Nat):List Int:=[((c/16777216:Nat):Int),((c/65536%256:Nat):Int),((c/256%256:Nat):Int),((c%256:Nat):Int)]
def QcV (lab ctx:List Int) (n:Nat):List Int:=Qep lab n++lab++QgL ctx.length++ctx
theorem Qki (lab ctx:List Int) (n:Nat):(QcV lab ctx n).length=lab.length+ctx.length+7:=by
  unfold QcV Qep QgL
  simp only [zai,zaq,zar]; omega
theorem Qhu (lab ctx:List Int) (n:Nat) (hl:Qai lab) (hc:Qai ctx) (h1:lab.length≤255) (h2:ctx.length≤65536) (h3:n≤8160):Qai (QcV lab ctx n):=by
  unfold QcV Qep QgL
  refine bytes_app (bytes_app (bytes_app ?_ hl) ?_) hc
  · intro x hx
    simp only [zas,zat,or_false] at hx
    omega
  · intro x hx
    simp only [zas,zat,or_false] at hx
    omega
theorem QmQ (sec ctx:List Int) (s:ByteArray) (v2:Value) (B2:Nat) (tc tq:TypeId) (w:World) (hc:w.heap[4]? = some (.cells (ints .u64 QaR) tc)) (hq:w.heap[3]? = some (.cells (ints .u64 Qa9) tq)) (hsl:sec.length=32) (hsb:Qai sec) (hxb:Qai ctx) (hx:RdK .u8 B2 ctx v2 w) (n:Int) (h0:0≤n) (h1:n≤8160) (h:255<(strB s).length):Calls Tryd.prog 61 #[.agg (ints .u8 sec),.string s,v2,.int .i64 n] w (Ret w (.tuple #[.slice none 0 0,.iface 41 (.int .i64 4)])):=by
  obtain ⟨a_ctx,c_ctx,rfl,-⟩:=id hx
  refine enter 75 [(0,.agg (ints .u8 (sec))),(1,.string s),(2,.slice a_ctx ctx.length c_ctx),(3,.int .i64 n)] Tryd.func61 rfl rfl (by kernel_rfl) rfl <| sgC fun K3 hK3=>Qar (ints .u8 (sec)) 29 4 rfl (by kernel_rfl) (by kernel_rfl) fun g4 W1 l4 e1 r4_1=>?_
  have b4:=qT (zbr w).size l4
  refine Qab (.slice none 0 0) 8 rfl (by kernel_rfl) (by kernel_rfl) <| Qab (.nilIface) 9 rfl (by kernel_rfl) (by kernel_rfl) <| sgN hK3 <| wp_seq_k fun K5 hK5=>sgC fun K6 hK6=>Qab (.int .i64 n) 12 rfl (by kernel_rfl) (by kernel_rfl) <| Qab (.bool false) 13 rfl (by kernel_rfl) (Qah (u:=.bool (decide (n<0))) (by kernel_rfl) (congrArg zau (decide_eq_false (by omega)))) <| Qab (.bool false) 14 rfl (by kernel_rfl) (by kernel_rfl) <| Qab (.int .i64 n) 15 rfl (by kernel_rfl) (by kernel_rfl) <| Qab (.bool false) 16 rfl (by kernel_rfl) (Qah (u:=.bool (decide (n>8160))) (by kernel_rfl) (congrArg zau (decide_eq_false (by omega)))) ?_
  refine Qab (.bool false) 17 rfl (by kernel_rfl) (by kernel_rfl) <| Qab (.bool false) 18 rfl (by kernel_rfl) (by kernel_rfl) <| Qab (.string s) 19 rfl (by kernel_rfl) (by kernel_rfl) <| Qab (.int .i64 (((strB s).length:Nat):Int)) 20 rfl (by kernel_rfl) (Qah (u:=.int .i64 ((s.size:Nat):Int)) (by kernel_rfl) (congrArg (fun z:Nat=>zag .i64 (z:Int)) (QcD s).symm)) <| Qab (.bool true) 21 rfl (by kernel_rfl) (Qah (u:=.bool (decide ((((strB s).length:Nat):Int)>255))) (by kernel_rfl) (congrArg zau (decide_eq_true (by omega)))) <| Qab (.bool true) 22 rfl (by kernel_rfl) (by kernel_rfl) <| Qab (.bool true) 23 rfl (by kernel_rfl) (by kernel_rfl) <| Qcd 24 rfl (by kernel_rfl) <| Qcd 25 rfl (by kernel_rfl) <| Qcd 26 rfl (by kernel_rfl) ?_
  refine Qab (.bool true) 27 rfl (by kernel_rfl) (by kernel_rfl) <| sgN hK6 <| cond_true (by kernel_rfl) <| sgC fun K7 hK7=>Qab (.iface 41 (.int .i64 4)) 28 rfl (by kernel_rfl) (by kernel_rfl) <| Qab (.slice none 0 0) 8 rfl (by kernel_rfl) (by kernel_rfl) <| Qab (.iface 41 (.int .i64 4)) 9 rfl (by kernel_rfl) (by kernel_rfl) <| sgN hK7 <| wp_ret ?_
  repeat (first | with_reducible refine goR1 ?_ | with_reducible refine goR2 ?_)
  exact (show bodyPost _ _ _ .ret _ _ from ret2 (.slice none 0 0) (.iface 41 (.int .i64 4)) rfl (Qaz (by kernel_rfl)) (Qaz (by kernel_rfl)) ⟨rfl,(zbv (zbr w) e1)⟩)
theorem Qmh (sec ctx:List Int) (s:ByteArray) (v2:Value) (B2:Nat) (tc tq:TypeId) (w:World) (hc:w.heap[4]? = some (.cells (ints .u64 QaR) tc)) (hq:w.heap[3]? = some (.cells (ints .u64 Qa9) tq)) (hsl:sec.length=32) (hsb:Qai sec) (hxb:Qai ctx) (hx:RdK .u8 B2 ctx v2 w) (n:Nat) (hn:n≤8160) (hl:(strB s).length≤255) (hc2:ctx.length≤65536):Calls Tryd.prog 61 #[.agg (ints .u8 sec),.string s,v2,.int .i64 ((n:Nat):Int)] w (QbF w (fun v W=>∃ u,v=.tuple #[u,.nilIface]∧OwnN .u8 5 w.heap.size (kx sec (QcV (strB s) ctx n) n) u W)):=by
  obtain ⟨a_ctx,c_ctx,rfl,-⟩:=id hx
  refine enter 75 [(0,.agg (ints .u8 (sec))),(1,.string s),(2,.slice a_ctx ctx.length c_ctx),(3,.int .i64 ((n:Nat):Int))] Tryd.func61 rfl rfl (by kernel_rfl) rfl <| sgC fun K3 hK3=>Qar (ints .u8 (sec)) 29 4 rfl (by kernel_rfl) (by kernel_rfl) fun g4 W1 l4 e1 r4_1=>?_
  have x1:=zbv (zbr w) e1
  have b4:=qT (zbr w).size l4
  refine Qab (.slice none 0 0) 8 rfl (by kernel_rfl) (by kernel_rfl) <| Qab (.nilIface) 9 rfl (by kernel_rfl) (by kernel_rfl) <| sgN hK3 <| wp_seq_k fun K5 hK5=>sgC fun K6 hK6=>Qab (.int .i64 ((n:Nat):Int)) 12 rfl (by kernel_rfl) (by kernel_rfl) <| Qab (.bool false) 13 rfl (by kernel_rfl) (Qah (u:=.bool (decide (((n:Nat):Int)<0))) (by kernel_rfl) (congrArg zau (decide_eq_false (by omega)))) <| Qab (.bool false) 14 rfl (by kernel_rfl) (by kernel_rfl) <| Qab (.int .i64 ((n:Nat):Int)) 15 rfl (by kernel_rfl) (by kernel_rfl) <| Qab (.bool false) 16 rfl (by kernel_rfl) (Qah (u:=.bool (decide (((n:Nat):Int)>8160))) (by kernel_rfl) (congrArg zau (decide_eq_false (by omega)))) ?_
  refine Qab (.bool false) 17 rfl (by kernel_rfl) (by kernel_rfl) <| Qab (.bool false) 18 rfl (by kernel_rfl) (by kernel_rfl) <| Qab (.string s) 19 rfl (by kernel_rfl) (by kernel_rfl) <| Qab (.int .i64 (((strB s).length:Nat):Int)) 20 rfl (by kernel_rfl) (Qah (u:=.int .i64 ((s.size:Nat):Int)) (by kernel_rfl) (congrArg (fun z:Nat=>zag .i64 (z:Int)) (QcD s).symm)) <| Qab (.bool false) 21 rfl (by kernel_rfl) (Qah (u:=.bool (decide ((((strB s).length:Nat):Int)>255))) (by kernel_rfl) (congrArg zau (decide_eq_false (by omega)))) <| Qab (.bool false) 22 rfl (by kernel_rfl) (by kernel_rfl) <| Qab (.bool false) 23 rfl (by kernel_rfl) (by kernel_rfl) <| Qab (.slice a_ctx ctx.length c_ctx) 24 rfl (by kernel_rfl) (by kernel_rfl) <| Qab (.int .i64 ((ctx.length:Nat):Int)) 25 rfl (by kernel_rfl) (by kernel_rfl) <| Qab (.bool false) 26 rfl (by kernel_rfl) (Qah (u:=.bool (decide (((ctx.length:Nat):Int)>65536))) (by kernel_rfl) (congrArg zau (decide_eq_false (by omega)))) ?_
  refine Qab (.bool false) 27 rfl (by kernel_rfl) (by kernel_rfl) <| sgN hK6 <| cond_false (by kernel_rfl) <| wp_skip <| hK5 _ _ <| sgC fun K7 hK7=>Qab (.string s) 29 rfl (by kernel_rfl) (by kernel_rfl) <| Qab (.int .i64 (((strB s).length:Nat):Int)) 30 rfl (by kernel_rfl) (Qah (u:=.int .i64 ((s.size:Nat):Int)) (by kernel_rfl) (congrArg (fun z:Nat=>zag .i64 (z:Int)) (QcD s).symm)) <| Qab (.int .i64 ((7+((strB s).length):Nat):Int)) 31 rfl (by kernel_rfl) (Qah (u:=.int .i64 (zam.wrap (7+(((strB s).length:Nat):Int)))) (by kernel_rfl) (congrArg (zag .i64) (i64n _ _ (by omega) (by omega)))) <| Qab (.slice a_ctx ctx.length c_ctx) 32 rfl (by kernel_rfl) (by kernel_rfl) ?_
  refine Qab (.int .i64 ((ctx.length:Nat):Int)) 33 rfl (by kernel_rfl) (by kernel_rfl) <| Qab (.int .i64 (((7+((strB s).length))+ctx.length:Nat):Int)) 34 rfl (by kernel_rfl) (Qah (u:=.int .i64 (zam.wrap (((7+((strB s).length):Nat):Int)+((ctx.length:Nat):Int)))) (by kernel_rfl) (congrArg (zag .i64) (i64n _ _ (by omega) (by omega)))) <| QiA (ints .u8 (zaa (7+(strB s).length+ctx.length) 0)) 5 (7+(strB s).length+ctx.length) 35 rfl (by kernel_rfl) (QiI 33 _ _ .i64 .i64 (7+(strB s).length+ctx.length) 5 rfl (by kernel_rfl) (by kernel_rfl) (by kernel_rfl) (by kernel_rfl) (by omega)) fun g8 W2 l8 e2 r8_2=>?_
  have x2:=zbv x1 e2
  have b8:=qT x1.size l8
  have hz0:OwnN .u8 5 W1.heap.size [] (.slice (some ⟨g8,0,none⟩) 0 (7+(strB s).length+ctx.length)) W2:=Qm7 (n:=0) rfl l8 r8_2 (by rw [Qat,qZ]) (zav _) (by simp only [maxLen]; omega) rfl
  refine Qab (.slice (some ⟨g8,0,none⟩) 0 (7+(strB s).length+ctx.length)) 10 rfl (by kernel_rfl) (by kernel_rfl) <| sgN hK7 <| sgC fun K9 hK9=>Qab (.slice (some ⟨g8,0,none⟩) 0 (7+(strB s).length+ctx.length)) 36 rfl (by kernel_rfl) (by kernel_rfl) <| Qab (.int .i64 ((n:Nat):Int)) 37 rfl (by kernel_rfl) (by kernel_rfl) <| Qab (.int .i64 (((n/256:Nat):Int))) 38 rfl (by kernel_rfl) (QaM .shr _ _ _ _ .i64 .u64 _ _ _ rfl (by kernel_rfl) (by kernel_rfl) (QbW _ _ _ _ _ _ (by decide) (shrN n 8 256 (by decide)))) <| Qab (.int .u8 (((n/256:Nat):Int))) 39 rfl (by kernel_rfl) (Qah (u:=.int .u8 (zap.wrap (((n/256:Nat):Int)))) (by kernel_rfl) (congrArg (zag .u8) (Qh4 (n/256) (n/256) (by omega)))) <| Qab (.int .i64 ((n:Nat):Int)) 40 rfl (by kernel_rfl) (by kernel_rfl) <| Qab (.int .u8 (((n%256:Nat):Int))) 41 rfl (by kernel_rfl) (Qah (u:=.int .u8 (zap.wrap ((n:Nat):Int))) (by kernel_rfl) (congrArg (zag .u8) (Qh4 (n) (n%256) (by omega)))) <| Qab (.string s) 42 rfl (by kernel_rfl) (by kernel_rfl) ?_
  refine Qab (.int .i64 (((strB s).length:Nat):Int)) 43 rfl (by kernel_rfl) (Qah (u:=.int .i64 ((s.size:Nat):Int)) (by kernel_rfl) (congrArg (fun z:Nat=>zag .i64 (z:Int)) (QcD s).symm)) <| Qab (.int .u8 ((((strB s).length:Nat):Int))) 44 rfl (by kernel_rfl) (Qah (u:=.int .u8 (zap.wrap (((strB s).length:Nat):Int))) (by kernel_rfl) (congrArg (zag .u8) (Qh4 ((strB s).length) ((strB s).length) (by omega)))) <| QaU (ints .u8 ([(((n/256:Nat):Int)),(((n%256:Nat):Int)),((((strB s).length:Nat):Int))])) 5 3 45 rfl (by kernel_rfl) (by kernel_rfl) fun g10 W3 l10 e3 r10_3=>?_
  have b10:=qT x2.size l10
  refine Qbk (k:=.u8) (T:=5) (xs:=[]) (ys:=[(((n/256:Nat):Int)),(((n%256:Nat):Int)),((((strB s).length:Nat):Int))]) (V:=W1) 1 (.tmp 36) (.tmp 45) 33 rfl (by kernel_rfl) (by kernel_rfl) (by decide) 46 rfl (by kernel_rfl) (by kernel_rfl) (by kernel_rfl) (hz0.ext e3) (Qbp (xs:=[(((n/256:Nat):Int)),(((n%256:Nat):Int)),((((strB s).length:Nat):Int))]) (n:=3) rfl r10_3 (Qaq r10_3) (show 3≤maxLen from by decide)) (by have:(Qep (strB s) n).length=3:=rfl; have:(QgL ctx.length).length=4:=rfl; simp only [zai,zaq,zar]; omega) (zbs (zbs (zbr W1) e2) e3) fun z1 W4 f12 y4 l4=>?_
  have hu14:OwnN .u8 5 W1.heap.size (Qep (strB s) n) z1 W4:=f12
  refine Qab (z1) 10 rfl (by kernel_rfl) (by kernel_rfl) <| sgN hK9 <| sgC fun K15 hK15=>Qab (z1) 47 rfl (by kernel_rfl) (by kernel_rfl) <| Qab (.string s) 48 rfl (by kernel_rfl) (by kernel_rfl) <| Qhe (T:=5) (xs:=Qep (strB s) n) (lab:=s) (V:=W1) (.tmp 47) (.tmp 48) 33 9 rfl (by kernel_rfl) (by kernel_rfl) (by kernel_rfl) 49 rfl (by kernel_rfl) (by kernel_rfl) (by kernel_rfl) hu14 (by have:(Qep (strB s) n).length=3:=rfl; (try simp only [zai,zaq,zar]); omega) y4 fun z2 W5 f16 y5 l5=>?_
  have x5:=Ext.low (Ext.low (zbv x2 e3) l4 x1.size) l5 x1.size
  have hu17:OwnN .u8 5 W1.heap.size (Qep (strB s) n++strB s) z2 W5:=f16
  refine Qab (z2) 10 rfl (by kernel_rfl) (by kernel_rfl) <| sgN hK15 <| sgC fun K18 hK18=>Qab (.slice a_ctx ctx.length c_ctx) 50 rfl (by kernel_rfl) (by kernel_rfl) <| Qab (.int .i64 ((ctx.length:Nat):Int)) 51 rfl (by kernel_rfl) (by kernel_rfl) <| Qab (.int .i64 ((ctx.length:Nat):Int)) 11 rfl (by kernel_rfl) (by kernel_rfl) <| sgN hK18 <| sgC fun K19 hK19=>Qab (z2) 52 rfl (by kernel_rfl) (by kernel_rfl) <| Qab (.int .i64 ((ctx.length:Nat):Int)) 53 rfl (by kernel_rfl) (by kernel_rfl) ?_
  refine Qab (.int .i64 (((ctx.length/16777216:Nat):Int))) 54 rfl (by kernel_rfl) (QaM .shr _ _ _ _ .i64 .u64 _ _ _ rfl (by kernel_rfl) (by kernel_rfl) (QbW _ _ _ _ _ _ (by decide) (shrN ctx.length 24 16777216 (by decide)))) <| Qab (.int .u8 (((ctx.length/16777216:Nat):Int))) 55 rfl (by kernel_rfl) (Qah (u:=.int .u8 (zap.wrap (((ctx.length/16777216:Nat):Int)))) (by kernel_rfl) (congrArg (zag .u8) (Qh4 (ctx.length/16777216) (ctx.length/16777216) (by omega)))) <| Qab (.int .i64 ((ctx.length:Nat):Int)) 56 rfl (by kernel_rfl) (by kernel_rfl) <| Qab (.int .i64 (((ctx.length/65536:Nat):Int))) 57 rfl (by kernel_rfl) (QaM .shr _ _ _ _ .i64 .u64 _ _ _ rfl (by kernel_rfl) (by kernel_rfl) (QbW _ _ _ _ _ _ (by decide) (shrN ctx.length 16 65536 (by decide)))) <| Qab (.int .u8 (((ctx.length/65536%256:Nat):Int))) 58 rfl (by kernel_rfl) (Qah (u:=.int .u8 (zap.wrap (((ctx.length/65536:Nat):Int)))) (by kernel_rfl) (congrArg (zag .u8) (Qh4 (ctx.length/65536) (ctx.length/65536%256) (by omega)))) <| Qab (.int .i64 ((ctx.length:Nat):Int)) 59 rfl (by kernel_rfl) (by kernel_rfl) <| Qab (.int .i64 (((ctx.length/256:Nat):Int))) 60 rfl (by kernel_rfl) (QaM .shr _ _ _ _ .i64 .u64 _ _ _ rfl (by kernel_rfl) (by kernel_rfl) (QbW _ _ _ _ _ _ (by decide) (shrN ctx.length 8 256 (by decide)))) <| Qab (.int .u8 (((ctx.length/256%256:Nat):Int))) 61 rfl (by kernel_rfl) (Qah (u:=.int .u8 (zap.wrap (((ctx.length/256:Nat):Int)))) (by kernel_rfl) (congrArg (zag .u8) (Qh4 (ctx.length/256) (ctx.length/256%256) (by omega)))) <| Qab (.int .i64 ((ctx.length:Nat):Int)) 62 rfl (by kernel_rfl) (by kernel_rfl) <| Qab (.int .u8 (((ctx.length%256:Nat):Int))) 63 rfl (by kernel_rfl) (Qah (u:=.int .u8 (zap.wrap ((ctx.length:Nat):Int))) (by kernel_rfl) (congrArg (zag .u8) (Qh4 (ctx.length) (ctx.length%256) (by omega)))) ?_
  refine QaU (ints .u8 ([(((ctx.length/16777216:Nat):Int)),(((ctx.length/65536%256:Nat):Int)),(((ctx.length/256%256:Nat):Int)),(((ctx.length%256:Nat):Int))])) 5 4 64 rfl (by kernel_rfl) (by kernel_rfl) fun g20 W6 l20 e6 r20_6=>?_
  have b20:=qT x5.size l20
  refine Qbk (k:=.u8) (T:=5) (xs:=Qep (strB s) n++strB s) (ys:=[(((ctx.length/16777216:Nat):Int)),(((ctx.length/65536%256:Nat):Int)),(((ctx.length/256%256:Nat):Int)),(((ctx.length%256:Nat):Int))]) (V:=W1) 1 (.tmp 52) (.tmp 64) 33 rfl (by kernel_rfl) (by kernel_rfl) (by decide) 65 rfl (by kernel_rfl) (by kernel_rfl) (by kernel_rfl) (hu17.ext e6) (Qbp (xs:=[(((ctx.length/16777216:Nat):Int)),(((ctx.length/65536%256:Nat):Int)),(((ctx.length/256%256:Nat):Int)),(((ctx.length%256:Nat):Int))]) (n:=4) rfl r20_6 (Qaq r20_6) (show 4≤maxLen from by decide)) (by have:(Qep (strB s) n).length=3:=rfl; have:(QgL ctx.length).length=4:=rfl; simp only [zai,zaq,zar]; omega) (zbs y5 e6) fun z3 W7 f22 y7 l7=>?_
  have x7:=Ext.low (zbv x5 e6) l7 x1.size
  have hu24:OwnN .u8 5 W1.heap.size ((Qep (strB s) n++strB s)++QgL ctx.length) z3 W7:=f22
  refine Qab (z3) 10 rfl (by kernel_rfl) (by kernel_rfl) <| sgN hK19 <| sgC fun K25 hK25=>Qab (z3) 66 rfl (by kernel_rfl) (by kernel_rfl) <| Qab (.slice a_ctx ctx.length c_ctx) 67 rfl (by kernel_rfl) (by kernel_rfl) <| Qbk (k:=.u8) (T:=5) (xs:=(Qep (strB s) n++strB s)++QgL ctx.length) (ys:=ctx) (V:=W1) 1 (.tmp 66) (.tmp 67) 33 rfl (by kernel_rfl) (by kernel_rfl) (by decide) 68 rfl (by kernel_rfl) (by kernel_rfl) (by kernel_rfl) hu24 (RdK.ext hx x7) (by have:(Qep (strB s) n).length=3:=rfl; have:(QgL ctx.length).length=4:=rfl; simp only [zai,zaq,zar]; omega) y7 fun z4 W8 f26 y8 l8=>?_
  have x8:=Ext.low x7 l8 x1.size
  have hu28:OwnN .u8 5 W1.heap.size (QcV (strB s) ctx n) z4 W8:=f26
  refine Qab (z4) 10 rfl (by kernel_rfl) (by kernel_rfl) <| sgN hK25 <| sgC fun K29 hK29=>Qab (.slice (some ⟨g4,0,none⟩) 32 32) 69 rfl (by kernel_rfl) (by kernel_rfl) <| Qab (z4) 70 rfl (by kernel_rfl) (by kernel_rfl) <| Qab (.int .i64 ((n:Nat):Int)) 71 rfl (by kernel_rfl) (by kernel_rfl) ?_
  obtain ⟨ai30,ci30,hai30,-⟩:=id (zby hu28)
  have r1_1:=(Qaa hc e1)
  have r2_1:=(Qaa hq e1)
  have r4_8:=(Qb6 l8 (Qb6 l7 (Qaa (Qb6 l5 (Qb6 l4 (Qaa (Qaa r4_1 e2) e3) (Qaq r4_1)) (Qaq r4_1)) e6) (Qaq r4_1)) (Qaq r4_1))
  refine Qav (fun v W'=>(fun v W=>∃ u,v=.tuple #[u,.nilIface]∧OwnN .u8 5 W8.heap.size (kx sec (QcV (strB s) ctx n) n) u W) v W'∧Ext W8 W') 75 #[.slice (some ⟨g4,0,none⟩) 32 32,z4,.int .i64 ((n:Nat):Int)] 72 rfl (by kernel_rfl) (by kernel_rfl) ((Qlv sec (QcV (strB s) ctx n) _ _ _ _ n tc tq _ (Qb6 l8 (Qb6 l7 (Qaa (Qb6 l5 (Qb6 l4 (Qaa (Qaa r1_1 e2) e3) (Qaq r1_1)) (Qaq r1_1)) e6) (Qaq r1_1)) (Qaq r1_1)) (Qb6 l8 (Qb6 l7 (Qaa (Qb6 l5 (Qb6 l4 (Qaa (Qaa r2_1 e2) e3) (Qaq r2_1)) (Qaq r2_1)) e6) (Qaq r2_1)) (Qaq r2_1)) hn (by omega) (by rw [Qki]; omega) hsb (Qhu _ _ _ (Qi6 s) hxb hl hc2 hn) (Qbp (xs:=sec) (n:=32) hsl r4_8 (Qaq r4_8) (show 32≤maxLen from by decide)) (zby hu28)).mono (by rintro e w' ⟨v,rfl,e1,hv⟩; exact ⟨v,rfl,hv,e1⟩)) fun vv31 W9 hh31=>?_
  obtain ⟨hv31,e9⟩:=hh31
  obtain ⟨uu,rfl,huu⟩:=hv31
  refine Qab (uu) 73 rfl (by kernel_rfl) (by kernel_rfl) <| Qab (.nilIface) 74 rfl (by kernel_rfl) (by kernel_rfl) <| Qab (uu) 8 rfl (by kernel_rfl) (by kernel_rfl) <| Qab (.nilIface) 9 rfl (by kernel_rfl) (by kernel_rfl) <| sgN hK29 <| wp_ret ?_
  repeat (first | with_reducible refine goR1 ?_ | with_reducible refine goR2 ?_)
  exact (show bodyPost _ _ _ .ret _ _ from ret2 (uu) (.nilIface) rfl (Qaz (by kernel_rfl)) (Qaz (by kernel_rfl)) ⟨_,rfl,(zbv x8 e9),uu,rfl,zbx x8.size huu⟩)
end Sha
end
section
namespace Sha
open Go Go.RowKit
open Rely Auto Own
theorem run_sap {P : Program} {ρ:Operand→Value} {o:Oper} {w:World} (t:TypeId) (x:Operand) (n:Nat) (e:TypeId) {a:Option Addr} {len cap:Nat} (ho:o.op=.sliceToArrayPointer t x) (hx:ρ x=.slice a len cap) (hu:P.underlying t=some (.array n e)) (h:n≤len) :
    (execOp ρ o).run P w=.ok (.value (.pointer a)) w:=by
  unfold execOp
  simp [ho,hx,Instr.arrayAt,run_underlying hu,Nat.not_lt.2 h]
theorem QgK {k : IntKind} {cur:Array Value} {xs:List Int} (h:cur.toList.take xs.length=xs.map (zag k)):∀ j v,(ints k xs)[j]? = some v→cur[0+j]? = some v:=fun j v hv=>by
  rw [zaw]
  have hj:j<xs.length:=by
    have:=(Array.getElem?_eq_some_iff.1 hv).1
    rwa [Qat] at this
  rw [Qfb h hj,←hv,QaG _ _ _ hj]
def Qcg (sec lab:List Int):List Int:=if lab.length≤255 then kx sec (QcV lab [] 32) 32 else zaa 32 0
theorem QdQ (sec lab:List Int):(Qcg sec lab).length=32:=by
  unfold Qcg
  split
  · exact QcH _ _ _
  · exact qZ
theorem nilrd (W : World):RdK .u8 W.heap.size [] (.slice none 0 0) W:=zby (QeE .u8 0 0 W)
theorem Ql9 (sec : List Int) (s:ByteArray) (tc tq:TypeId) (w:World) (hc:w.heap[4]? = some (.cells (ints .u64 QaR) tc)) (hq:w.heap[3]? = some (.cells (ints .u64 Qa9) tq)) (hsl:sec.length=32) (hsb:Qai sec) (h:(strB s).length≤255):Calls Tryd.prog 43 #[.agg (ints .u8 sec),.string s] w (Ret w (.agg (ints .u8 (Qcg sec (strB s))))):=by
  refine enter 19 [(0,.agg (ints .u8 (sec))),(1,.string s)] Tryd.func43 rfl rfl kj rfl <| sgC fun K3 hK3=>Qar (ints .u8 (sec)) 29 2 rfl kj kj fun g4 W1 l4 e1 r4_1=>?_
  have x1:=zbv (zbr w) e1
  have b4:=qT (zbr w).size l4
  refine Qar (ints .u8 (zaa 32 0)) 29 4 rfl kj kj fun g5 W2 l5 e2 r5_2=>sgN hK3 <| sgC fun K6 hK6=>Qab (.agg (ints .u8 (sec))) 8 rfl kj (Qap 29 _ g4 29 _ _ (Qaa r4_1 e2) rfl kj kj (isz (n:=32) kj (izT hsl))) <| sg 1 kj <| Qav (fun v W'=>(fun v W=>∃ u,v=.tuple #[u,.nilIface]∧OwnN .u8 5 W2.heap.size (kx sec (QcV (strB s) [] 32) 32) u W) v W'∧Ext W2 W') 61 #[.agg (ints .u8 (sec)),.string s,.slice none 0 0,.int .i64 32] 10 rfl kj kj ((Qmh sec [] s (.slice none 0 0) _ tc tq _ (Qaa (Qaa hc e1) e2) (Qaa (Qaa hq e1) e2) hsl hsb (fun x hx=>by cases hx) (nilrd _) 32 (by decide) h (by decide)).mono (by rintro e w' ⟨v,rfl,e1,hv⟩; exact ⟨v,rfl,hv,e1⟩)) fun vv7 W3 hh7=>?_
  obtain ⟨hv7,e3⟩:=hh7
  obtain ⟨uu,rfl,huu⟩:=hv7
  obtain ⟨gu,cu,curu,rfl,-,hru,-,-,-,htu⟩:=Qg4 huu (by rw [QcH]; decide)
  refine sg 5 kj <| sgN hK6 <| wp_seq_k fun K8 hK8=>sgB kj <| cond_false kj <| wp_skip <| hK8 _ _ <| sgC fun K10 hK10=>sg 1 kj <| Qab (.pointer (some ⟨gu,0,none⟩)) 17 rfl kj (run_sap 29 _ 32 5 (a:=some ⟨gu,0,none⟩) (len:=(kx sec (QcV (strB s) [] 32) 32).length) (cap:=cu) rfl kj kj (by rw [QcH]; exact qR _)) ?_
  refine Qab (.agg (ints .u8 (kx sec (QcV (strB s) [] 32) 32))) 18 rfl kj (Qa0 29 _ gu 0 5 _ _ _ (Qaa hru (zbr W3)) rfl kj (QgK htu) kj (isz (n:=32) kj (izT (QcH _ _ _)))) ?_
  have r5_3:=(Qaa r5_2 e3)
  refine Qan g5 _ (ints .u8 (kx sec (QcV (strB s) [] 32) 32)) 29 r5_3 rfl kj (Qao 29 _ _ g5 29 _ _ r5_3 rfl kj kj (isz (n:=32) kj (izT (QcH _ _ _))) (eqsz (n:=32) (izT (qZ (n:=32))) (izT (QcH _ _ _))) (Qay _ _)) fun W4 p4 r5_4=>sgN hK10 <| wp_ret ?_
  repeat (first | with_reducible refine goR1 ?_ | with_reducible refine goR2 ?_)
  exact (show bodyPost _ _ _ .ret _ _ from ret1 (.agg (ints .u8 (kx sec (QcV (strB s) [] 32) 32))) rfl (QaP g5 29 _ r5_4 kj kj (isz (n:=32) kj (izT (QcH _ _ _)))) ⟨congrArg (fun z=>Ending.returned (.agg (ints .u8 z))) (show _=Qcg sec (strB s) by unfold Qcg; rw [if_pos h]),(zbu p4 (zbv (zbv x1 e2) e3) (qT x1.size l5))⟩)
theorem Ql8 (sec : List Int) (s:ByteArray) (tc tq:TypeId) (w:World) (hc:w.heap[4]? = some (.cells (ints .u64 QaR) tc)) (hq:w.heap[3]? = some (.cells (ints .u64 Qa9) tq)) (hsl:sec.length=32) (hsb:Qai sec) (h:255<(strB s).length):Calls Tryd.prog 43 #[.agg (ints .u8 sec),.string s] w (Ret w (.agg (ints .u8 (Qcg sec (strB s))))):=by
  refine enter 19 [(0,.agg (ints .u8 (sec))),(1,.string s)] Tryd.func43 rfl rfl kj rfl <| sgC fun K3 hK3=>Qar (ints .u8 (sec)) 29 2 rfl kj kj fun g4 W1 l4 e1 r4_1=>?_
  have x1:=zbv (zbr w) e1
  have b4:=qT (zbr w).size l4
  refine Qar (ints .u8 (zaa 32 0)) 29 4 rfl kj kj fun g5 W2 l5 e2 r5_2=>sgN hK3 <| sgC fun K6 hK6=>Qab (.agg (ints .u8 (sec))) 8 rfl kj (Qap 29 _ g4 29 _ _ (Qaa r4_1 e2) rfl kj kj (isz (n:=32) kj (izT hsl))) <| sg 1 kj <| Qau (.tuple #[.slice none 0 0,.iface 41 (.int .i64 4)]) 61 #[.agg (ints .u8 (sec)),.string s,.slice none 0 0,.int .i64 32] 10 rfl kj kj ((fun W hc hq=>QmQ sec [] s (.slice none 0 0) _ tc tq W hc hq hsl hsb (fun x hx=>by cases hx) (nilrd W) 32 (by decide) (by decide) h) _ (Qaa (Qaa hc e1) e2) (Qaa (Qaa hq e1) e2)) fun W3 e3=>sg 5 kj <| sgN hK6 <| wp_seq_k fun K7 hK7=>sgB kj ?_
  refine cond_true kj <| sgC fun K9 hK9=>sg 1 kj ?_
  have r5_3:=(Qaa r5_2 e3)
  refine Qan g5 _ (ints .u8 (zaa 32 0)) 29 r5_3 rfl kj (Qao 29 _ _ g5 29 _ _ r5_3 rfl kj kj (isz (n:=32) kj (izT (qZ (n:=32)))) (eqsz (n:=32) (izT (qZ (n:=32))) (izT (qZ (n:=32)))) (Qay _ _)) fun W4 p4 r5_4=>sgN hK9 <| wp_ret ?_
  repeat (first | with_reducible refine goR1 ?_ | with_reducible refine goR2 ?_)
  exact (show bodyPost _ _ _ .ret _ _ from ret1 (.agg (ints .u8 (zaa 32 0))) rfl (QaP g5 29 _ r5_4 kj kj (isz (n:=32) kj (izT (qZ (n:=32))))) ⟨congrArg (fun z=>Ending.returned (.agg (ints .u8 z))) (show _=Qcg sec (strB s) by unfold Qcg; rw [if_neg (by omega)]),(zbu p4 (zbv (zbv x1 e2) e3) (qT x1.size l5))⟩)
theorem Qh1 (sec : List Int) (s:ByteArray) (tc tq:TypeId) (w:World) (hc:w.heap[4]? = some (.cells (ints .u64 QaR) tc)) (hq:w.heap[3]? = some (.cells (ints .u64 Qa9) tq)) (hsl:sec.length=32) (hsb:Qai sec):Calls Tryd.prog 43 #[.agg (ints .u8 sec),.string s] w (Ret w (.agg (ints .u8 (Qcg sec (strB s))))):=by
  by_cases h:(strB s).length≤255
  · exact Ql9 sec s tc tq w hc hq hsl hsb h
  · exact Ql8 sec s tc tq w hc hq hsl hsb (by omega)
end Sha
end
section
namespace Auto
open Go Go.RowKit
open Rely
structure MpW (es : Array MapEntry) (clock : Nat) (m : List (Int × Value)) : Prop where
  ents:es.toList.map (fun e=>(e.key,e.val))=m.map fun p=>(zag .i64 p.1,p.2)
  nod:(m.map Prod.fst).Nodup
  born:(es.toList.map (·.born)).Nodup
  old:∀ e∈es.toList,e.born<clock
def MpAt (g : Nat) (m:List (Int×Value)) (W:World):Prop:=∃ es clock,W.heap[g]? = some (.map es clock)∧MpW es clock m
def mget (m : List (Int×Value)) (k:Int) (z:Value):Value:=((m.find? fun p=>p.1==k).map Prod.snd).getD z
theorem QmH (c : Nat):MpW #[] c []:=⟨rfl,zax,zax,fun e h=>by cases h⟩
theorem MpAt.lt {g : Nat} {m:List (Int×Value)} {W:World} (h:MpAt g m W):g<W.heap.size:=by obtain ⟨es,c,h1,-⟩:=h; exact Qaq h1
theorem MpAt.keep {g : Nat} {m:List (Int×Value)} {W W':World} (h:MpAt g m W) (e:W'.heap[g]? = W.heap[g]?):MpAt g m W':=by obtain ⟨es,c,h1,h2⟩:=h; exact ⟨es,c,e.trans h1,h2⟩
theorem MpAt.ne {g k:Nat} {m:List (Int×Value)} {W:World} {cs:Array Value} {T:TypeId} {fr:Nat×Nat} (h:MpAt g m W) (r:W.heap[k]? = some (.cells cs T fr)):k≠g:=fun e=>by
  obtain ⟨es,c,h1,-⟩:=h
  rw [e,h1] at r
  cases r
theorem Qdh (k : Int):∀ (es:List MapEntry) (m:List (Int×Value)) (i:Nat),es.map (fun e=>(e.key,e.val))=m.map (fun p=>(zag .i64 p.1,p.2)) →
    (Instr.findNow (.int .i64) (.int .i64 k) es i=some none∧m.find? (fun p=>p.1==k)=none∧∀ e∈es,e.key≠.int .i64 k)∨∃ j v e,Instr.findNow (.int .i64) (.int .i64 k) es i=some (some (i+j,v))∧m.find? (fun p=>p.1==k)=some (k,v)∧es[j]? = some e∧e.key=.int .i64 k
  | [],[],i,_=>.inl ⟨rfl,rfl,fun e h=>by cases h⟩
  | [],_::_,i,h=>by cases h
  | _::_,[],i,h=>by cases h
  | e::es,p::m,i,h=>by
    simp only [zak,List.cons.injEq,Prod.mk.injEq] at h
    obtain ⟨⟨h1,h2⟩,h3⟩:=h
    have hs:Instr.sameNow (.int .i64) (.int .i64 k) e.key=some (k==p.1):=by rw [h1]; simp [Instr.sameNow]
    by_cases hk:p.1=k
    · right
      refine ⟨0,p.2,e,?_,?_,rfl,by rw [h1,hk]⟩
      · rw [Instr.findNow,hs,hk,beq_self_eq_true,h2]; rfl
      · rw [zay (by simp [hk])]; congr 1; exact Prod.ext hk rfl
    · have hs':Instr.sameNow (.int .i64) (.int .i64 k) e.key=some false:=by rw [hs]; congr 1; simp; exact fun q=>hk q.symm
      rcases Qdh k es m (i+1) h3 with ⟨q1,q2,q3⟩ | ⟨j,v,e',q1,q2,q3,q4⟩
      · left
        refine ⟨by rw [Instr.findNow,hs']; exact q1,by rw [zaz (by simp [hk])]; exact q2,fun x hx=>?_⟩
        rcases zas.1 hx with rfl | hx
        · rw [h1]; exact fun q=>hk (by injection q)
        · exact q3 x hx
      · right
        exact ⟨j+1,v,e',by rw [Instr.findNow,hs']; show Instr.findNow _ _ es (i+1)=_; rw [q1,show i+1+j=i+(j+1) by omega],by rw [zaz (by simp [hk])]; exact q2,by rw [za0]; exact q3,q4⟩
section
variable {P : Program} {ρ : Operand → Value} {o : Oper} {w : World}
theorem Qj1 (t : TypeId) (m k:Operand) {kt et:TypeId} {g:Nat} {n:Int} {ms:List (Int×Value)} {z:Value} (ho:o.op=.lookup t m k false) (hm:ρ m=.map (some g)) (hk:ρ k=.int .i64 n)
    (ht:P.underlying t=some (.map kt et)) (hkt:P.underlying kt=some (.int .i64)) (h:MpAt g ms w) (hz:(zeroValue et).run P w=.ok z w):(execOp ρ o).run P w=.ok (.value (mget ms n z)) w:=by
  obtain ⟨es,c,hg,hM⟩:=h
  have hl:(Instr.lookup t (.map (some g)) (.int .i64 n) false).run P w=.ok (mget ms n z) w:=by
    unfold Instr.lookup
    rw [zac,run_underlying ht]
    show ((getObj g >>= _) >>= _:Sem Value).run P w=_
    rw [zac,zac,MapKept.run_getObj_map hg]
    show ((Instr.checkKey es.isEmpty 10000 kt (.int .i64 n)) >>= _:Sem Value).run P w=_
    rw [zac,MapKept.run_checkKey hkt (by simp [MapKept.IsKey])]
    rcases Qdh n es.toList ms 0 hM.ents with ⟨q1,q2,-⟩ | ⟨j,v,e,q1,q2,-,-⟩
    · have hf:=MapKept.run_findKey (P:=P) (w:=w) hkt q1
      unfold mget
      rw [q2]
      simp [zac,hf,za1,hz]
    · have hf:=MapKept.run_findKey (P:=P) (w:=w) hkt q1
      unfold mget
      rw [q2]
      simp [zac,hf,za1]
  unfold execOp
  simp only [ho,hm,hk,zac,hl,zae,zad]
theorem Qlr {es : Array MapEntry} {c:Nat} {m:List (Int×Value)} (h:MpW es c m) {n:Int} {v:Value} (hn:n∉m.map Prod.fst):MpW (es.push { key:=.int .i64 n,val:=v,born:=c }) (c+1) (m++[(n,v)]):=by
  refine ⟨?_,?_,?_,?_⟩
  · rw [za2,zal,h.ents,zal]; rfl
  · rw [zal]
    refine za3.2 ⟨h.nod,(za4.2 ⟨zat,zax⟩),fun a ha b hb=>?_⟩
    rw [za5,za6] at hb
    subst hb
    exact fun q=>hn (q▸ha)
  · rw [za2,zal]
    refine za3.2 ⟨h.born,(za4.2 ⟨zat,zax⟩),fun a ha b hb=>?_⟩
    obtain ⟨e,he,rfl⟩:=zaf.1 ha
    rw [za5,za6] at hb
    subst hb
    exact za7 (h.old e he)
  · intro e he
    rw [za2,za8,za6] at he
    rcases he with he | rfl
    · exact Nat.lt_succ_of_lt (h.old e he)
    · exact Nat.lt_succ_self _
theorem QmC {m : List (Int×Value)} {n:Int} (h:n∉m.map Prod.fst):m.find? (fun p=>p.1==n)=none:=by
  rw [za9]
  intro p hp q
  exact h (zaf.2 ⟨p,hp,by simpa using q⟩)
theorem QhG (t : TypeId) (m k x:Operand) {kt et:TypeId} {g:Nat} {n:Int} {ms:List (Int×Value)} {v:Value} (ho:o.op=.mapUpdate t m k x) (hm:ρ m=.map (some g)) (hk:ρ k=.int .i64 n) (hx:ρ x=v)
    (ht:P.underlying t=some (.map kt et)) (hkt:P.underlying kt=some (.int .i64)) (h:MpAt g ms w) (hn:n∉ms.map Prod.fst):∃ W',(execOp ρ o).run P w=.ok .skip W'∧Puts w g W'∧MpAt g (ms++[(n,v)]) W':=by
  obtain ⟨es,c,hg,hM⟩:=h
  rcases Qdh n es.toList ms 0 hM.ents with ⟨q1,-,-⟩ | ⟨j,u,e,q1,q2,-,-⟩
  · have hf:=MapKept.run_findKey (P:=P) (w:=w) hkt q1
    have hi:(Instr.mapUpdate t (.map (some g)) (.int .i64 n) v).run P w=.ok () { w with heap:=w.heap.setIfInBounds g (.map (es.push { key:=.int .i64 n,val:=v,born:=c }) (c+1)) }:=by
      unfold Instr.mapUpdate
      rw [zac,run_underlying ht]
      show ((getObj g) >>= _:Sem Unit).run P w=_
      rw [zac,MapKept.run_getObj_map hg]
      show ((Instr.checkKey false 10000 kt (.int .i64 n)) >>= _:Sem Unit).run P w=_
      rw [zac,MapKept.run_checkKey hkt (by simp [MapKept.IsKey])]
      show ((Instr.findKey kt (.int .i64 n) es.toList) >>= _:Sem Unit).run P w=_
      rw [zac,hf]
      exact MapKept.run_setObj_map _ hg
    have hh:=MapKept.heap_set (o':=.map (es.push { key:=.int .i64 n,val:=v,born:=c }) (c+1)) hg
    refine ⟨{ w with heap:=w.heap.setIfInBounds g (.map (es.push { key:=.int .i64 n,val:=v,born:=c }) (c+1)) },?_,⟨rfl,rfl,rfl,by simp,fun i hi=>hh.2 i hi⟩,_,_,hh.1,Qlr hM hn⟩
    unfold execOp
    rw [ho]
    show ((Instr.mapUpdate t (ρ m) (ρ k) (ρ x)) >>= _).run P w=_
    rw [hm,hk,hx,zac,hi]
    rfl
  · rw [QmC hn] at q2; cases q2
theorem QeI {α β:Type} (f:α→β) (p:β→Bool):∀ l:List α,(l.map f).filter p=(l.filter fun x=>p (f x)).map f
  | []=>rfl
  | x::l=>by
    rw [zak,zaA,zaA,QeI f p l]
    split <;> rfl
theorem Qf7 {es : Array MapEntry} {c:Nat} {m:List (Int×Value)} (h:MpW es c m) (q:Int→Bool) (es':Array MapEntry) (he:es'.toList=es.toList.filter fun e=>match e.key with | .int _ n=>q n | _=>true):MpW es' c (m.filter fun p=>q p.1):=by
  refine ⟨?_,?_,?_,?_⟩
  · rw [he]
    have e1:=QeI (fun e:MapEntry=>(e.key,e.val)) (fun x=>match x.1 with | .int _ n=>q n | _=>true) es.toList
    have e2:=QeI (fun p:Int×Value=>(zag .i64 p.1,p.2)) (fun x=>match x.1 with | .int _ n=>q n | _=>true) m
    rw [←e1,h.ents,e2]
  · exact h.nod.sublist ((zaB).map _)
  · rw [he]; exact h.born.sublist ((zaB).map _)
  · intro e hm; rw [he] at hm; exact h.old e (zaC.1 hm).1
def nk (n : Int) (e:MapEntry):Bool:=match e.key with | .int _ x=>x != n | _=>true
theorem Qf6 {n x:Int} {e:MapEntry} (h:e.key=.int .i64 x):nk n e=(x != n):=by unfold nk; rw [h]
theorem Qdy {n : Int}:∀ (l:List MapEntry) (j:Nat) (e:MapEntry),(l.map (·.key)).Nodup→(∀ x∈l,∃ a,x.key=zag .i64 a)→l[j]? = some e→e.key=.int .i64 n→l.eraseIdx j=l.filter (nk n)
  | [],_,_,_,_,h,_=>by simp at h
  | x::l,0,e,hn,hi,h,hk=>by
    simp only [List.getElem?_cons_zero,Option.some.injEq] at h
    subst h
    rw [List.eraseIdx_cons_zero,List.filter_cons_of_neg (by rw [Qf6 hk]; simp)]
    rw [zak,za4] at hn
    refine (zaD.2 fun y hy=>?_).symm
    obtain ⟨a,ha⟩:=hi y (zaE _ hy)
    rw [Qf6 ha]
    simp only [bne_iff_ne,ne_eq]
    exact fun q=>hn.1 (by rw [hk,←q,←ha]; exact zaF (f:=fun e:MapEntry=>e.key) hy)
  | x::l,j+1,e,hn,hi,h,hk=>by
    rw [za0] at h
    rw [zak,za4] at hn
    obtain ⟨a,ha⟩:=hi x (zaG ..)
    have hx:nk n x=true:=by
      rw [Qf6 ha]
      simp only [bne_iff_ne,ne_eq]
      exact fun q=>hn.1 (by rw [ha,q,←hk]; exact zaF (f:=fun e:MapEntry=>e.key) (List.mem_of_getElem? h))
    rw [List.eraseIdx_cons_succ,List.filter_cons_of_pos hx,Qdy l j e hn.2 (fun y hy=>hi y (zaE _ hy)) h hk]
theorem Qel {es : Array MapEntry} {c:Nat} {m:List (Int×Value)} (h:MpW es c m):(es.toList.map (·.key)).Nodup:=by
  have e:es.toList.map (·.key)=(m.map Prod.fst).map (zag .i64):=by
    have:=congrArg (List.map Prod.fst) h.ents
    rw [zah,zah] at this
    rw [zah]
    exact this
  rw [e]
  exact List.Pairwise.map _ (fun a b q r=>q (by injection r)) h.nod
theorem Qff {es : Array MapEntry} {c:Nat} {m:List (Int×Value)} (h:MpW es c m) {e:MapEntry} (he:e∈es.toList):∃ n,e.key=.int .i64 n:=by
  have:=zaF (f:=fun e:MapEntry=>(e.key,e.val)) he
  rw [h.ents,zaf] at this
  obtain ⟨p,-,hp⟩:=this
  exact ⟨p.1,(congrArg Prod.fst hp).symm⟩
theorem Qh2 {kt et:TypeId} {es:Array MapEntry} {c:Nat} {m:List (Int×Value)} (h:MpW es c m) (hkt:P.underlying kt=some (.int .i64)) {g:Nat} (hg:w.heap[g]? = some (.map es c)) (n:Int) {t:TypeId} {ty:TypeId} (ht:P.underlying t=some (.map kt et)) :
    ∃ es',es'.toList=es.toList.filter (nk n)∧(Builtin.delete_ #[t,kt] ty #[.map (some g),.int .i64 n]).run P w=.ok (.tuple #[]) { w with heap:=w.heap.setIfInBounds g (.map es' c) }:=by
  rcases Qdh n es.toList m 0 h.ents with ⟨q1,-,q3⟩ | ⟨j,v,e,q1,q2,q3,q4⟩
  · refine ⟨es,(zaD.2 fun x hx=>by
      obtain ⟨a,ha⟩:=Qff h hx
      rw [Qf6 ha]; simp only [bne_iff_ne,ne_eq]; exact fun q=>q3 x hx (by rw [ha,q])).symm,?_⟩
    have hf:=MapKept.run_findKey (P:=P) (w:=w) hkt q1
    simp [Builtin.delete_,run_underlying ht,MapKept.run_getObj_map hg,MapKept.run_checkKey hkt (show MapKept.IsKey (.int .i64) (.int .i64 n) by simp [MapKept.IsKey]),hf,MapKept.run_setObj_map _ hg,za1]
  · refine ⟨es.eraseIdxIfInBounds j,?_,?_⟩
    · have hj:j<es.size:=by have:=(zaH.1 q3).1; simpa using this
      rw [zaI,dif_pos hj,zaJ]
      exact Qdy _ j e (Qel h) (fun x hx=>Qff h hx) q3 q4
    · have hf:=MapKept.run_findKey (P:=P) (w:=w) hkt q1
      rw [zaw] at hf
      simp [Builtin.delete_,run_underlying ht,MapKept.run_getObj_map hg,MapKept.run_checkKey hkt (show MapKept.IsKey (.int .i64) (.int .i64 n) by simp [MapKept.IsKey]),hf,MapKept.run_setObj_map _ hg,za1]
theorem Qj2 {w' : World} (m k:Operand) (t kt:TypeId) {g:Nat} {n:Int} (ho:o.op=.call { callee:=.builtin .delete,args:=#[m,k],argTypes:=#[t,kt] }) (hm:ρ m=.map (some g)) (hk:ρ k=.int .i64 n)
    (h:(Builtin.delete_ #[t,kt] o.type #[.map (some g),.int .i64 n]).run P w=.ok (.tuple #[]) w'):(execOp ρ o).run P w=.ok (.value (.tuple #[])) w':=by
  unfold execOp
  simp only [ho,resolve,invoke,builtin,zac,zad,zae,zaj,zak,List.map_nil,hm,hk,h]
theorem QkW (m k:Operand) (t:TypeId) {kt et:TypeId} {g:Nat} {n:Int} {ms:List (Int×Value)} (ho:o.op=.call { callee:=.builtin .delete,args:=#[m,k],argTypes:=#[t,kt] }) (hm:ρ m=.map (some g)) (hk:ρ k=.int .i64 n)
    (ht:P.underlying t=some (.map kt et)) (hkt:P.underlying kt=some (.int .i64)) (h:MpAt g ms w):∃ W',(execOp ρ o).run P w=.ok (.value (.tuple #[])) W'∧Puts w g W'∧MpAt g (ms.filter fun p=>p.1 != n) W':=by
  obtain ⟨es,c,hg,hM⟩:=h
  obtain ⟨es',he,hr⟩:=Qh2 (P:=P) (w:=w) hM hkt hg n (ty:=o.type) ht
  have hh:=MapKept.heap_set (o':=.map es' c) hg
  exact ⟨_,Qj2 m k t kt ho hm hk hr,⟨rfl,rfl,rfl,by simp,fun i hi=>hh.2 i hi⟩,es',c,hh.1,Qf7 hM (fun x=>x != n) es' he⟩
end
def km (lim : Int) (e:MapEntry):Bool:=match e.key with | .int _ x=>decide (lim≤x) | _=>true
theorem Qka {lim x:Int} {e:MapEntry} (h:e.key=.int .i64 x):km lim e=decide (lim≤x):=by unfold km; rw [h]
def rkeep (lim : Int) (sn:Array Nat) (e:MapEntry):Bool:=km lim e || !sn.contains e.born
def Qdp (g r:Nat) (lim:Int) (es0:Array MapEntry) (c:Nat) (sn:Array Nat) (W:World):Prop:=∃ es:Array MapEntry,es.toList=es0.toList.filter (rkeep lim sn)∧W.heap[g]? = some (.map es c)∧W.heap[r]? = some (.mapIter (some g) c sn c)
def Qd2 (g r:Nat) (lim:Int) (es0:Array MapEntry) (c:Nat) (sn:Array Nat) (e:MapEntry) (W:World):Prop:=∃ es:Array MapEntry,es.toList=es0.toList.filter (rkeep lim sn)∧W.heap[g]? = some (.map es c)∧W.heap[r]? = some (.mapIter (some g) c (sn.push e.born) c)∧e∈es.toList∧sn.contains e.born=false
def rmu (es0 : Array MapEntry) (sn:Array Nat):Nat:=(es0.toList.filter fun e=>!sn.contains e.born).length
theorem QdX {α β:Type} (f:α→β):∀ l:List α,(l.map f).Nodup→∀ a∈l,∀ b∈l,f a=f b→a=b
  | [],_,a,ha,_,_,_=>by cases ha
  | x::l,h,a,ha,b,hb,e=>by
    rw [zak,za4] at h
    rcases zas.1 ha with ha' | ha' <;> rcases zas.1 hb with hb' | hb'
    · rw [ha',hb']
    · exact absurd (by rw [←ha',e]; exact zaF (f:=f) hb') h.1
    · exact absurd (by rw [←hb',←e]; exact zaF (f:=f) ha') h.1
    · exact QdX f l h.2 a ha' b hb' e
theorem Qfj {α : Type} (p q:α→Bool):∀ l:List α,(∀ x∈l,q x=true→p x=true)→∀ a∈l,p a=true→q a=false→(l.filter q).length<(l.filter p).length
  | [],_,a,ha,_,_=>by cases ha
  | x::l,h,a,ha,hp,hq=>by
    have hl:(l.filter q).length≤(l.filter p).length:=by
      have:∀ l:List α,(∀ x∈l,q x=true→p x=true)→(l.filter q).length≤(l.filter p).length:=by
        intro l
        induction l with
        | nil=>exact fun _=>qR _
        | cons y l ih =>
          intro h
          have ih:=ih fun x hx=>h x (zaE _ hx)
          rw [zaA,zaA]
          cases hqy:q y with
          | true=>rw [h y (zaG ..) hqy]; simp only [if_true,zaq]; omega
          | false =>
            simp only [Bool.false_eq_true,if_false]
            cases p y
            · simpa using ih
            · simp only [if_true,zaq]; omega
      exact this l fun x hx=>h x (zaE _ hx)
    rw [zaA,zaA]
    rcases zas.1 ha with ha | ha
    · subst ha
      rw [hp,hq]
      simp only [if_true,Bool.false_eq_true,if_false,zaq]; omega
    · have ih:=Qfj p q l (fun x hx=>h x (zaE _ hx)) a ha hp hq
      cases hqx:q x with
      | true=>rw [h x (zaG ..) hqx]; simp only [if_true,zaq]; omega
      | false =>
        simp only [Bool.false_eq_true,if_false]
        cases p x
        · simpa using ih
        · simp only [if_true,zaq]; omega
theorem QeD (sn : Array Nat) (b x:Nat):(sn.push b).contains x=(sn.contains x || x==b):=by
  rw [←zaK,za2,←zaK]
  rw [Bool.eq_iff_iff]
  simp [List.contains_eq_mem,za8]
theorem Qd2.mu {g r:Nat} {lim:Int} {es0:Array MapEntry} {c:Nat} {sn:Array Nat} {e:MapEntry} {W:World} (h:Qd2 g r lim es0 c sn e W):rmu es0 (sn.push e.born)<rmu es0 sn:=by
  obtain ⟨es,he,-,-,hm,hs⟩:=h
  unfold rmu
  rw [he] at hm
  refine Qfj _ _ _ (fun x _ hx=>?_) e (zaC.1 hm).1 (by rw [hs]; rfl) (by rw [QeD,beq_self_eq_true,Bool.or_true]; rfl)
  rw [QeD] at hx
  revert hx
  cases sn.contains x.born <;> simp
section
variable {es0 : Array MapEntry} {c : Nat} {m0 : List (Int × Value)} {g r : Nat} {lim : Int} {sn : Array Nat} {W : World}
theorem Qdp.start (hM : MpW es0 c m0) (hg:W.heap[g]? = some (.map es0 c)) (hr:W.heap[r]? = some (.mapIter (some g) c #[] c)):Qdp g r lim es0 c #[] W :=
  ⟨es0,(zaD.2 fun e _=>by unfold rkeep; simp).symm,hg,hr⟩
theorem Qdp.done (hM : MpW es0 c m0) (h:Qdp g r lim es0 c sn W) (h0:∀ es,W.heap[g]? = some (.map es c)→(leftOf es sn).size=0):MpAt g (m0.filter fun p=>decide (lim≤p.1)) W:=by
  obtain ⟨es,he,hg,hr⟩:=h
  have hl:=h0 es hg
  refine ⟨es,c,hg,Qf7 hM (fun x=>decide (lim≤x)) es ?_⟩
  show _=es0.toList.filter (km lim)
  rw [he]
  refine zaL fun e hm=>?_
  unfold rkeep
  cases hk:km lim e with
  | true=>rfl
  | false =>
    rw [Bool.false_or]
    cases hs:sn.contains e.born with
    | true=>rfl
    | false =>
      exfalso
      have h1:e∈leftOf es sn:=by
        unfold leftOf
        rw [zaM]
        refine ⟨?_,by rw [hs]; rfl⟩
        rw [←zaN,he,zaC]
        exact ⟨hm,by unfold rkeep; rw [hs]; simp⟩
      rw [zaO hl] at h1
      cases h1 with | mk h=>cases h
theorem Qd2.stay (hM : MpW es0 c m0) {e:MapEntry} (h:Qd2 g r lim es0 c sn e W) (hk:km lim e=true):Qdp g r lim es0 c (sn.push e.born) W:=by
  obtain ⟨es,he,hg,hr,hm,hs⟩:=h
  refine ⟨es,he.trans (zaL fun f hf=>?_),hg,hr⟩
  unfold rkeep
  rw [QeD]
  by_cases hb:f.born=e.born
  · have hm':=hm
    rw [he] at hm'
    rw [QdX (·.born) _ hM.born f hf e (zaC.1 hm').1 hb,hk]
    rfl
  · rw [show (f.born==e.born)=false from by simpa using hb,Bool.or_false]
theorem Qd2.drop (hM : MpW es0 c m0) {e:MapEntry} {x:Int} (h:Qd2 g r lim es0 c sn e W) (hx:e.key=.int .i64 x) (hk:x<lim) {P:Program} {t kt et ty:TypeId} (ht:P.underlying t=some (.map kt et)) (hkt:P.underlying kt=some (.int .i64)) :
    ∃ W',(Builtin.delete_ #[t,kt] ty #[.map (some g),.int .i64 x]).run P W=.ok (.tuple #[]) W'∧Puts W g W'∧Qdp g r lim es0 c (sn.push e.born) W':=by
  obtain ⟨es,he,hg,hr,hm,hs⟩:=h
  have hME:MpW es c (m0.filter fun p=>true)∨True:=.inr trivial
  have hnb:(es.toList.map (·.born)).Nodup:=by rw [he]; exact hM.born.sublist ((zaB).map _)
  have hnk:(es.toList.map (·.key)).Nodup:=by rw [he]; exact (Qel hM).sublist ((zaB).map _)
  have hik:∀ y∈es.toList,∃ a,y.key=zag .i64 a:=fun y hy=>by rw [he] at hy; exact Qff hM (zaC.1 hy).1
  have hm':=hm
  rw [he] at hm'
  have he0:=(zaC.1 hm').1
  obtain ⟨j,hj⟩:=List.mem_iff_getElem?.1 hm
  have hgr:g≠r:=fun q=>by rw [q,hr] at hg; cases hg
  have hfn:∀ (l:List MapEntry) (i:Nat),(∀ y∈l,∃ a,y.key=zag .i64 a)→(∃ y∈l,y.key=.int .i64 x)→∃ j v y,Instr.findNow (.int .i64) (.int .i64 x) l i=some (some (i+j,v))∧l[j]? = some y∧y.key=.int .i64 x:=by
    intro l
    induction l with
    | nil=>intro i _ h; obtain ⟨y,hy,-⟩:=h; cases hy
    | cons z l ih =>
      intro i hi hy
      obtain ⟨a,ha⟩:=hi z (zaG ..)
      have hsn:Instr.sameNow (.int .i64) (.int .i64 x) z.key=some (x==a):=by rw [ha]; simp [Instr.sameNow]
      by_cases hxa:a=x
      · exact ⟨0,z.val,z,by rw [Instr.findNow,hsn,hxa,beq_self_eq_true]; rfl,rfl,by rw [ha,hxa]⟩
      · have hsn':Instr.sameNow (.int .i64) (.int .i64 x) z.key=some false:=by rw [hsn]; congr 1; simp; exact fun q=>hxa q.symm
        obtain ⟨y,hy1,hy2⟩:=hy
        have hyl:y∈l:=by
          rcases zas.1 hy1 with rfl | hy1
          · rw [ha] at hy2; exact absurd (by injection hy2) hxa
          · exact hy1
        obtain ⟨j,v,y',q1,q2,q3⟩:=ih (i+1) (fun y hy=>hi y (zaE _ hy)) ⟨y,hyl,hy2⟩
        exact ⟨j+1,v,y',by rw [Instr.findNow,hsn']; show Instr.findNow _ _ l (i+1)=_; rw [q1,show i+1+j=i+(j+1) by omega],by rw [za0]; exact q2,q3⟩
  obtain ⟨j2,v,y,q1,q2,q3⟩:=hfn es.toList 0 hik ⟨e,hm,hx⟩
  have hf:=MapKept.run_findKey (P:=P) (w:=W) hkt q1
  rw [zaw] at hf
  have hj2:j2<es.size:=by have:=(zaH.1 q2).1; simpa using this
  have hE:(es.eraseIdxIfInBounds j2).toList=es.toList.filter (nk x):=by
    rw [zaI,dif_pos hj2,zaJ]
    exact Qdy _ j2 y hnk hik q2 q3
  have hh:=MapKept.heap_set (o':=.map (es.eraseIdxIfInBounds j2) c) hg
  refine ⟨{ W with heap:=W.heap.setIfInBounds g (.map (es.eraseIdxIfInBounds j2) c) },?_,⟨rfl,rfl,rfl,by simp,fun i hi=>hh.2 i hi⟩,es.eraseIdxIfInBounds j2,?_,hh.1,(hh.2 r (fun q=>hgr q.symm)).trans hr⟩
  · simp [Builtin.delete_,run_underlying ht,MapKept.run_getObj_map hg,MapKept.run_checkKey hkt (show MapKept.IsKey (.int .i64) (.int .i64 x) by simp [MapKept.IsKey]),hf,MapKept.run_setObj_map _ hg,za1]
  · rw [hE,he,List.filter_filter]
    refine zaL fun f hfm=>?_
    unfold rkeep
    rw [QeD]
    by_cases hb:f.born=e.born
    · rw [QdX (·.born) _ hM.born f hfm e he0 hb,Qf6 hx,Qka hx,decide_eq_false (by omega)]
      simp
    · have hne:f.key≠e.key:=fun q=>hb (congrArg MapEntry.born (QdX (·.key) _ (Qel hM) f hfm e he0 q))
      obtain ⟨a,ha⟩:=Qff hM hfm
      have hnx:nk x f=true:=by rw [Qf6 ha]; simp only [bne_iff_ne,ne_eq]; exact fun q=>hne (by rw [ha,hx,q])
      rw [hnx,show (f.born==e.born)=false from by simpa using hb,Bool.or_false,Bool.true_and]
theorem Qdp.next (hM : MpW es0 c m0) (h:Qdp g r lim es0 c sn W) {P:Program} (ty:TypeId) :
    ((Instr.next (.pointer (some ⟨r,0,none⟩)) false ty).run P W=.ok (.tuple #[.bool false]) W∧MpAt g (m0.filter fun p=>decide (lim≤p.1)) W) ∨
    ∃ e x W1,e.key=.int .i64 x∧(Instr.next (.pointer (some ⟨r,0,none⟩)) false ty).run P W=.ok (.tuple #[.bool true,.int .i64 x,e.val]) W1∧Puts W r W1∧Qd2 g r lim es0 c sn e W1∧(Instr.entry (.pointer (some ⟨r,0,none⟩))).run P W1=.ok (.tuple #[.int .i64 x,e.val]) W1:=by
  have h':=h
  obtain ⟨es,he,hg,hr⟩:=h
  have hgr:g≠r:=fun q=>by rw [q,hr] at hg; cases hg
  have hsub:∀ y∈es.toList,y∈es0.toList:=fun y hy=>by rw [he] at hy; exact (zaC.1 hy).1
  rcases run_next_at (P:=P) W ty r g c c sn es c hr hg (fun y hy=>hM.old y (hsub y hy)) (qR _) with ⟨h0,hrun⟩ | ⟨e,hm,w1,hw1,hrun⟩
  · left
    refine ⟨hrun,h'.done hM fun es2 hg2=>?_⟩
    rw [hg] at hg2
    injection hg2 with q
    injection q with q1 _
    rw [←q1]; exact h0
  · right
    unfold leftOf at hm
    rw [zaN,zaM] at hm
    obtain ⟨hm1,hs⟩:=hm
    have hm2:e∈es.toList:=by rw [zaN]; exact hm1
    obtain ⟨x,hx⟩:=Qff hM (hsub e hm2)
    have hh:w1.heap=W.heap∧w1.os=W.os∧w1.tape=W.tape∧w1.output=W.output:=by
      rcases hw1 with rfl | rfl
      · exact ⟨rfl,rfl,rfl,rfl⟩
      · exact ⟨rfl,(Qaj W).os,(Qaj W).tape,(Qaj W).output⟩
    have hP:Puts W r (ChangeMaps.setBlock w1 r (.mapIter (some g) c (sn.push e.born) c)):=⟨hh.2.1,hh.2.2.1,hh.2.2.2,by simp [ChangeMaps.setBlock,hh.1],fun i hi=>by simp only [ChangeMaps.setBlock,hh.1]; exact Array.getElem?_setIfInBounds_ne (fun e=>hi e.symm)⟩
    have hr1:(ChangeMaps.setBlock w1 r (.mapIter (some g) c (sn.push e.born) c)).heap[r]? = some (.mapIter (some g) c (sn.push e.born) c):=by simp only [ChangeMaps.setBlock,hh.1]; exact Array.getElem?_setIfInBounds_self_of_lt (Qaq hr)
    have hg1:=(hP.2.2.2.2 g hgr).trans hg
    refine ⟨e,x,_,hx,by rw [hrun,hx],hP,⟨es,he,hg1,hr1,hm2,by simpa using hs⟩,?_⟩
    rw [←hx]
    exact run_entry_at _ r g c sn es c e hr1 hg1 hm2 (by rw [he]; exact hM.born.sublist ((zaB).map _))
end
end Auto
end
section
namespace Cn
open Go Go.RowKit
open Rely Auto Own Sha
theorem QbJ (v : Int) (h:-5000000000≤v∧v≤5000000000):zam.wrap v=v:=IntWalk.i64_in _ (by omega)
theorem shrB (B j:Nat) (hj:j<64):((B:Nat):Int).fdiv (2^min ((j:Nat):Int).toNat zaP.bits)=((B/2^j:Nat):Int):=by
  rw [show min (((j:Nat):Int).toNat) zaP.bits=j by show min (((j:Nat):Int).toNat) 64=j; omega]
  rw [zan _ (Int.le_of_lt (Int.pow_pos (by decide))),zao,zaQ]
  rfl
theorem andB (m : Nat) (h:m<18446744073709551616):bits .and .u64 ((m:Nat):Int) 1=((m%2:Nat):Int):=by
  rw [show (1:Int)=((1:Nat):Int) from rfl,bits_and_u64_nat m 1 h (by omega),Nat.and_one_is_mod]
theorem orB (a b:Nat) (ha:a<18446744073709551616) (hb:b<18446744073709551616):bits .or .u64 ((a:Nat):Int) ((b:Nat):Int)=((a|||b:Nat):Int):=by
  have h:=u64_or (a:Int) b (by omega) (by omega) (by omega) (by omega)
  simpa using h
theorem wrapN (m : Nat):zaP.wrap ((m:Nat):Int)=((m%18446744073709551616:Nat):Int):=by rw [zaR]; omega
theorem QjC (B a:Nat) (h:64≤a):B*2^a%18446744073709551616=0:=by
  obtain ⟨c,rfl⟩:∃ c,a=64+c:=⟨a-64,by omega⟩
  rw [Nat.pow_add,←Nat.mul_assoc,Nat.mul_comm B,Nat.mul_assoc]
  exact Nat.mul_mod_right _ _
theorem shlB (B a:Nat):zaP.wrap (((B:Nat):Int)*2^min ((a:Nat):Int).toNat zaP.bits)=((B*2^a%18446744073709551616:Nat):Int):=by
  have e:∀ c:Nat,((B:Nat):Int)*2^c=((B*2^c:Nat):Int):=fun c=>by rw [Int.natCast_mul,zaQ]; rfl
  rw [e,wrapN]
  have hm:min (((a:Nat):Int).toNat) zaP.bits=min a 64:=by show min (((a:Nat):Int).toNat) 64=min a 64; rw [zab]
  rw [hm]
  rcases zaS a 64 with h | h
  · rw [show min a 64=a by omega]
  · rw [show min a 64=64 by omega,QjC B 64 (by omega),QjC B a h]
def chkW (nx : Int) (B:Nat) (n:Int):Int:=if n<0∨4294967295≤n then 8 else if 64<nx-1-n then 11 else if nx-1-n=0∨(0<nx-1-n∧B/2^(nx-1-n-1).toNat%2=1) then 7 else 0
def errV (e : Int):Value:=if e=0 then .nilIface else .iface 41 (.int .i64 e)
theorem QcJ (g : Nat) (nx:Int) (B:Nat) (hnx:0≤nx∧nx≤4294967295) (hB:B<18446744073709551616) (sec:List Int) (pl mg:Nat) (hsec:sec.length=32) (w:World) (hg:w.heap[g]? = some (.cells (cat [#[.int .i64 nx],#[.int .u64 ((B:Nat):Int)],ints .u8 (sec),#[.int .i64 ((pl:Nat):Int)],#[.map (some mg)]]) 82)):Calls Tryd.prog 73 #[.pointer (some ⟨g,0,none⟩)] w (Ret w (.int .i64 (nx-1))):=by
  refine enter 8 [(0,.pointer (some ⟨g,0,none⟩))] Tryd.func73 rfl rfl kj rfl <| sgB kj <| sgC fun K3 hK3=>sg 3 kj <| Qab (.int .i64 nx) 6 rfl kj (Qad 3 _ g 0 82 _ (.int .i64 nx) _ hg rfl kj (Qam [] [#[.int .i64 nx]] [#[.int .u64 ((B:Nat):Int)],ints .u8 (sec),#[.int .i64 ((pl:Nat):Int)],#[.map (some mg)]] 0 kj 0 _ rfl) kj) <| Qab (.int .i64 (nx-1)) 7 rfl kj (Qah (u:=.int .i64 (zam.wrap (nx-1))) kj (congrArg (zag .i64) (QbJ _ (by omega)))) <| sg 1 kj <| sgN hK3 <| wp_ret ?_
  repeat (first | with_reducible refine goR1 ?_ | with_reducible refine goR2 ?_)
  exact (show bodyPost _ _ _ .ret _ _ from ret1 (.int .i64 (nx-1)) rfl (Qaz kj) ⟨rfl,(zbr w)⟩)
theorem Qiv (g : Nat) (nx:Int) (B:Nat) (hnx:0≤nx∧nx≤4294967295) (hB:B<18446744073709551616) (sec:List Int) (pl mg:Nat) (hsec:sec.length=32) (w:World) (hg:w.heap[g]? = some (.cells (cat [#[.int .i64 nx],#[.int .u64 ((B:Nat):Int)],ints .u8 (sec),#[.int .i64 ((pl:Nat):Int)],#[.map (some mg)]]) 82)):Calls Tryd.prog 59 #[.pointer (some ⟨g,0,none⟩)] w (Ret w (.int .i64 (nx-1))):=by
  refine enter 9 [(0,.pointer (some ⟨g,0,none⟩))] Tryd.func59 rfl rfl kj rfl <| sgB kj <| wp_seq_k fun K3 hK3=>sgB kj <| cond_false kj <| wp_skip <| hK3 _ _ <| sgC fun K5 hK5=>sg 3 kj <| Qau (.int .i64 (nx-1)) 73 #[.pointer (some ⟨g,0,none⟩)] 8 rfl kj kj (QcJ g nx B hnx hB sec pl mg hsec _ hg) fun W1 e1=>?_
  refine sg 1 kj <| sgN hK5 <| wp_ret ?_
  repeat (first | with_reducible refine goR1 ?_ | with_reducible refine goR2 ?_)
  exact (show bodyPost _ _ _ .ret _ _ from ret1 (.int .i64 (nx-1)) rfl (Qaz kj) ⟨rfl,(zbv (zbr w) e1)⟩)
theorem Qni (g : Nat) (nx:Int) (B:Nat) (n:Int) (hnx:0≤nx∧nx≤4294967295) (hB:B<18446744073709551616) (sec:List Int) (pl mg:Nat) (hsec:sec.length=32) (w:World) (hg:w.heap[g]? = some (.cells (cat [#[.int .i64 nx],#[.int .u64 ((B:Nat):Int)],ints .u8 (sec),#[.int .i64 ((pl:Nat):Int)],#[.map (some mg)]]) 82)) (hc:n<0):Calls Tryd.prog 70 #[.pointer (some ⟨g,0,none⟩),.int .i64 n] w (Ret w (.iface 41 (.int .i64 8))):=by
  refine enter 38 [(0,.pointer (some ⟨g,0,none⟩)),(1,.int .i64 n)] Tryd.func70 rfl rfl kj rfl <| sgB kj <| wp_seq_k fun K3 hK3=>sgC fun K4 hK4=>sg 1 kj <| Qab (.bool true) 7 rfl kj (Qah (u:=.bool (decide (n<0))) kj (congrArg zau (decide_eq_true (by omega)))) <| sg 4 kj <| sgN hK4 <| cond_true kj <| sgB kj ?_
  refine wp_ret ?_
  repeat (first | with_reducible refine goR1 ?_ | with_reducible refine goR2 ?_)
  exact (show bodyPost _ _ _ .ret _ _ from ret1 (.iface 41 (.int .i64 8)) rfl (Qaz kj) ⟨rfl,(zbr w)⟩)
theorem Qnh (g : Nat) (nx:Int) (B:Nat) (n:Int) (hnx:0≤nx∧nx≤4294967295) (hB:B<18446744073709551616) (sec:List Int) (pl mg:Nat) (hsec:sec.length=32) (w:World) (hg:w.heap[g]? = some (.cells (cat [#[.int .i64 nx],#[.int .u64 ((B:Nat):Int)],ints .u8 (sec),#[.int .i64 ((pl:Nat):Int)],#[.map (some mg)]]) 82)) (hc:4294967295≤n):Calls Tryd.prog 70 #[.pointer (some ⟨g,0,none⟩),.int .i64 n] w (Ret w (.iface 41 (.int .i64 8))):=by
  refine enter 38 [(0,.pointer (some ⟨g,0,none⟩)),(1,.int .i64 n)] Tryd.func70 rfl rfl kj rfl <| sgB kj <| wp_seq_k fun K3 hK3=>sgC fun K4 hK4=>sg 1 kj <| Qab (.bool false) 7 rfl kj (Qah (u:=.bool (decide (n<0))) kj (congrArg zau (decide_eq_false (by omega)))) <| sg 2 kj <| Qab (.bool true) 10 rfl kj (Qah (u:=.bool (decide (n≥4294967295))) kj (congrArg zau (decide_eq_true (by omega)))) <| sg 1 kj <| sgN hK4 ?_
  refine cond_true kj <| sgB kj <| wp_ret ?_
  repeat (first | with_reducible refine goR1 ?_ | with_reducible refine goR2 ?_)
  exact (show bodyPost _ _ _ .ret _ _ from ret1 (.iface 41 (.int .i64 8)) rfl (Qaz kj) ⟨rfl,(zbr w)⟩)
theorem Qng (g : Nat) (nx:Int) (B:Nat) (n:Int) (hnx:0≤nx∧nx≤4294967295) (hB:B<18446744073709551616) (sec:List Int) (pl mg:Nat) (hsec:sec.length=32) (w:World) (hg:w.heap[g]? = some (.cells (cat [#[.int .i64 nx],#[.int .u64 ((B:Nat):Int)],ints .u8 (sec),#[.int .i64 ((pl:Nat):Int)],#[.map (some mg)]]) 82)) (hn:0≤n∧n<4294967295) (hc:64<nx-1-n):Calls Tryd.prog 70 #[.pointer (some ⟨g,0,none⟩),.int .i64 n] w (Ret w (.iface 41 (.int .i64 11))):=by
  refine enter 38 [(0,.pointer (some ⟨g,0,none⟩)),(1,.int .i64 n)] Tryd.func70 rfl rfl kj rfl <| sgB kj <| wp_seq_k fun K3 hK3=>sgC fun K4 hK4=>sg 1 kj <| Qab (.bool false) 7 rfl kj (Qah (u:=.bool (decide (n<0))) kj (congrArg zau (decide_eq_false (by omega)))) <| sg 2 kj <| Qab (.bool false) 10 rfl kj (Qah (u:=.bool (decide (n≥4294967295))) kj (congrArg zau (decide_eq_false (by omega)))) <| sg 1 kj <| sgN hK4 ?_
  refine cond_false kj <| wp_skip <| hK3 _ _ <| sgC fun K5 hK5=>sg 1 kj <| Qau (.int .i64 (nx-1)) 73 #[.pointer (some ⟨g,0,none⟩)] 14 rfl kj kj (QcJ g nx B hnx hB sec pl mg hsec _ hg) fun W1 e1=>sg 1 kj <| Qab (.int .i64 (nx-1-n)) 16 rfl kj (Qah (u:=.int .i64 (zam.wrap ((nx-1)-n))) kj (congrArg (zag .i64) (QbJ _ (by omega)))) <| sg 1 kj <| sgN hK5 ?_
  refine wp_seq_k fun K6 hK6=>sgC fun K7 hK7=>sg 1 kj <| Qab (.bool true) 18 rfl kj (Qah (u:=.bool (decide ((nx-1-n)>64))) kj (congrArg zau (decide_eq_true (by omega)))) <| sgN hK7 <| cond_true kj <| sgB kj <| wp_ret ?_
  repeat (first | with_reducible refine goR1 ?_ | with_reducible refine goR2 ?_)
  exact (show bodyPost _ _ _ .ret _ _ from ret1 (.iface 41 (.int .i64 11)) rfl (Qaz kj) ⟨rfl,(zbv (zbr w) e1)⟩)
theorem check_D (g : Nat) (nx:Int) (B:Nat) (n:Int) (hnx:0≤nx∧nx≤4294967295) (hB:B<18446744073709551616) (sec:List Int) (pl mg:Nat) (hsec:sec.length=32) (w:World) (hg:w.heap[g]? = some (.cells (cat [#[.int .i64 nx],#[.int .u64 ((B:Nat):Int)],ints .u8 (sec),#[.int .i64 ((pl:Nat):Int)],#[.map (some mg)]]) 82)) (hn:0≤n∧n<4294967295) (hc:nx-1-n=0):Calls Tryd.prog 70 #[.pointer (some ⟨g,0,none⟩),.int .i64 n] w (Ret w (.iface 41 (.int .i64 7))):=by
  refine enter 38 [(0,.pointer (some ⟨g,0,none⟩)),(1,.int .i64 n)] Tryd.func70 rfl rfl kj rfl <| sgB kj <| wp_seq_k fun K3 hK3=>sgC fun K4 hK4=>sg 1 kj <| Qab (.bool false) 7 rfl kj (Qah (u:=.bool (decide (n<0))) kj (congrArg zau (decide_eq_false (by omega)))) <| sg 2 kj <| Qab (.bool false) 10 rfl kj (Qah (u:=.bool (decide (n≥4294967295))) kj (congrArg zau (decide_eq_false (by omega)))) <| sg 1 kj <| sgN hK4 ?_
  refine cond_false kj <| wp_skip <| hK3 _ _ <| sgC fun K5 hK5=>sg 1 kj <| Qau (.int .i64 (nx-1)) 73 #[.pointer (some ⟨g,0,none⟩)] 14 rfl kj kj (QcJ g nx B hnx hB sec pl mg hsec _ hg) fun W1 e1=>sg 1 kj <| Qab (.int .i64 (nx-1-n)) 16 rfl kj (Qah (u:=.int .i64 (zam.wrap ((nx-1)-n))) kj (congrArg (zag .i64) (QbJ _ (by omega)))) <| sg 1 kj <| sgN hK5 ?_
  refine wp_seq_k fun K6 hK6=>sgC fun K7 hK7=>sg 1 kj <| Qab (.bool false) 18 rfl kj (Qah (u:=.bool (decide ((nx-1-n)>64))) kj (congrArg zau (decide_eq_false (by omega)))) <| sgN hK7 <| cond_false kj <| wp_skip <| hK6 _ _ <| wp_seq_k fun K8 hK8=>sgC fun K9 hK9=>?_
  refine sg 1 kj <| Qab (.bool true) 21 rfl kj (Qah (u:=.bool (((nx-1-n)==0))) kj (congrArg zau (by simp; omega))) ?_
  refine sg 15 kj <| sgN hK9 <| cond_true kj <| sgB kj <| wp_ret ?_
  repeat (first | with_reducible refine goR1 ?_ | with_reducible refine goR2 ?_)
  exact (show bodyPost _ _ _ .ret _ _ from ret1 (.iface 41 (.int .i64 7)) rfl (Qaz kj) ⟨rfl,(zbv (zbr w) e1)⟩)
theorem Qnf (g : Nat) (nx:Int) (B:Nat) (n:Int) (hnx:0≤nx∧nx≤4294967295) (hB:B<18446744073709551616) (sec:List Int) (pl mg:Nat) (hsec:sec.length=32) (w:World) (hg:w.heap[g]? = some (.cells (cat [#[.int .i64 nx],#[.int .u64 ((B:Nat):Int)],ints .u8 (sec),#[.int .i64 ((pl:Nat):Int)],#[.map (some mg)]]) 82)) (hn:0≤n∧n<4294967295) (j:Nat) (hj:nx-1-n-1=(j:Int)) (hj2:j<64) (hc:B/2^j%2=1):Calls Tryd.prog 70 #[.pointer (some ⟨g,0,none⟩),.int .i64 n] w (Ret w (.iface 41 (.int .i64 7))):=by
  refine enter 38 [(0,.pointer (some ⟨g,0,none⟩)),(1,.int .i64 n)] Tryd.func70 rfl rfl kj rfl <| sgB kj <| wp_seq_k fun K3 hK3=>sgC fun K4 hK4=>sg 1 kj <| Qab (.bool false) 7 rfl kj (Qah (u:=.bool (decide (n<0))) kj (congrArg zau (decide_eq_false (by omega)))) <| sg 2 kj <| Qab (.bool false) 10 rfl kj (Qah (u:=.bool (decide (n≥4294967295))) kj (congrArg zau (decide_eq_false (by omega)))) <| sg 1 kj <| sgN hK4 ?_
  refine cond_false kj <| wp_skip <| hK3 _ _ <| sgC fun K5 hK5=>sg 1 kj <| Qau (.int .i64 (nx-1)) 73 #[.pointer (some ⟨g,0,none⟩)] 14 rfl kj kj (QcJ g nx B hnx hB sec pl mg hsec _ hg) fun W1 e1=>sg 1 kj <| Qab (.int .i64 (nx-1-n)) 16 rfl kj (Qah (u:=.int .i64 (zam.wrap ((nx-1)-n))) kj (congrArg (zag .i64) (QbJ _ (by omega)))) <| sg 1 kj <| sgN hK5 ?_
  refine wp_seq_k fun K6 hK6=>sgC fun K7 hK7=>sg 1 kj <| Qab (.bool false) 18 rfl kj (Qah (u:=.bool (decide ((nx-1-n)>64))) kj (congrArg zau (decide_eq_false (by omega)))) <| sgN hK7 <| cond_false kj <| wp_skip <| hK6 _ _ <| wp_seq_k fun K8 hK8=>sgC fun K9 hK9=>?_
  refine sg 1 kj <| Qab (.bool false) 21 rfl kj (Qah (u:=.bool (((nx-1-n)==0))) kj (congrArg zau (by simp; omega))) ?_
  refine sg 2 kj <| Qab (.bool true) 24 rfl kj (Qah (u:=.bool (decide ((nx-1-n)>0))) kj (congrArg zau (decide_eq_true (by omega)))) <| sg 4 kj <| Qab (.int .u64 ((B:Nat):Int)) 29 rfl kj (Qad 75 _ g 1 82 _ (.int .u64 ((B:Nat):Int)) _ (Qaa hg e1) rfl kj (Qam [#[.int .i64 nx]] [#[.int .u64 ((B:Nat):Int)]] [ints .u8 (sec),#[.int .i64 ((pl:Nat):Int)],#[.map (some mg)]] 1 kj 0 _ rfl) kj) <| sg 1 kj <| Qab (.int .i64 (((j:Nat):Int))) 31 rfl kj (Qah (u:=.int .i64 (zam.wrap ((nx-1-n)-1))) kj (congrArg (zag .i64) (by rw [hj]; exact QbJ _ (by omega)))) ?_
  refine Qab (.int .u64 (((B/2^j:Nat):Int))) 32 rfl kj (QaM .shr _ _ _ _ .u64 .i64 _ _ _ rfl kj kj (QbW _ _ _ _ _ _ (by omega) (shrB B j hj2))) <| Qab (.int .u64 (((B/2^j%2:Nat):Int))) 33 rfl kj (Qah (u:=.int .u64 (bits .and .u64 (((B/2^j:Nat):Int)) (1))) kj (congrArg (zag .u64) (andB _ (zaT (zaU _ _) hB)))) <| Qab (.bool true) 34 rfl kj (Qah (u:=.bool ((((B/2^j%2:Nat):Int)==1))) kj (congrArg zau (by rw [hc]; rfl))) ?_
  refine sg 2 kj <| sgN hK9 <| cond_true kj <| sgB kj <| wp_ret ?_
  repeat (first | with_reducible refine goR1 ?_ | with_reducible refine goR2 ?_)
  exact (show bodyPost _ _ _ .ret _ _ from ret1 (.iface 41 (.int .i64 7)) rfl (Qaz kj) ⟨rfl,(zbv (zbr w) e1)⟩)
theorem Qne (g : Nat) (nx:Int) (B:Nat) (n:Int) (hnx:0≤nx∧nx≤4294967295) (hB:B<18446744073709551616) (sec:List Int) (pl mg:Nat) (hsec:sec.length=32) (w:World) (hg:w.heap[g]? = some (.cells (cat [#[.int .i64 nx],#[.int .u64 ((B:Nat):Int)],ints .u8 (sec),#[.int .i64 ((pl:Nat):Int)],#[.map (some mg)]]) 82)) (hn:0≤n∧n<4294967295) (j:Nat) (hj:nx-1-n-1=(j:Int)) (hj2:j<64) (hc:B/2^j%2=0):Calls Tryd.prog 70 #[.pointer (some ⟨g,0,none⟩),.int .i64 n] w (Ret w (.nilIface)):=by
  refine enter 38 [(0,.pointer (some ⟨g,0,none⟩)),(1,.int .i64 n)] Tryd.func70 rfl rfl kj rfl <| sgB kj <| wp_seq_k fun K3 hK3=>sgC fun K4 hK4=>sg 1 kj <| Qab (.bool false) 7 rfl kj (Qah (u:=.bool (decide (n<0))) kj (congrArg zau (decide_eq_false (by omega)))) <| sg 2 kj <| Qab (.bool false) 10 rfl kj (Qah (u:=.bool (decide (n≥4294967295))) kj (congrArg zau (decide_eq_false (by omega)))) <| sg 1 kj <| sgN hK4 ?_
  refine cond_false kj <| wp_skip <| hK3 _ _ <| sgC fun K5 hK5=>sg 1 kj <| Qau (.int .i64 (nx-1)) 73 #[.pointer (some ⟨g,0,none⟩)] 14 rfl kj kj (QcJ g nx B hnx hB sec pl mg hsec _ hg) fun W1 e1=>sg 1 kj <| Qab (.int .i64 (nx-1-n)) 16 rfl kj (Qah (u:=.int .i64 (zam.wrap ((nx-1)-n))) kj (congrArg (zag .i64) (QbJ _ (by omega)))) <| sg 1 kj <| sgN hK5 ?_
  refine wp_seq_k fun K6 hK6=>sgC fun K7 hK7=>sg 1 kj <| Qab (.bool false) 18 rfl kj (Qah (u:=.bool (decide ((nx-1-n)>64))) kj (congrArg zau (decide_eq_false (by omega)))) <| sgN hK7 <| cond_false kj <| wp_skip <| hK6 _ _ <| wp_seq_k fun K8 hK8=>sgC fun K9 hK9=>?_
  refine sg 1 kj <| Qab (.bool false) 21 rfl kj (Qah (u:=.bool (((nx-1-n)==0))) kj (congrArg zau (by simp; omega))) ?_
  refine sg 2 kj <| Qab (.bool true) 24 rfl kj (Qah (u:=.bool (decide ((nx-1-n)>0))) kj (congrArg zau (decide_eq_true (by omega)))) <| sg 4 kj <| Qab (.int .u64 ((B:Nat):Int)) 29 rfl kj (Qad 75 _ g 1 82 _ (.int .u64 ((B:Nat):Int)) _ (Qaa hg e1) rfl kj (Qam [#[.int .i64 nx]] [#[.int .u64 ((B:Nat):Int)]] [ints .u8 (sec),#[.int .i64 ((pl:Nat):Int)],#[.map (some mg)]] 1 kj 0 _ rfl) kj) <| sg 1 kj <| Qab (.int .i64 (((j:Nat):Int))) 31 rfl kj (Qah (u:=.int .i64 (zam.wrap ((nx-1-n)-1))) kj (congrArg (zag .i64) (by rw [hj]; exact QbJ _ (by omega)))) ?_
  refine Qab (.int .u64 (((B/2^j:Nat):Int))) 32 rfl kj (QaM .shr _ _ _ _ .u64 .i64 _ _ _ rfl kj kj (QbW _ _ _ _ _ _ (by omega) (shrB B j hj2))) <| Qab (.int .u64 (((B/2^j%2:Nat):Int))) 33 rfl kj (Qah (u:=.int .u64 (bits .and .u64 (((B/2^j:Nat):Int)) (1))) kj (congrArg (zag .u64) (andB _ (zaT (zaU _ _) hB)))) <| Qab (.bool false) 34 rfl kj (Qah (u:=.bool ((((B/2^j%2:Nat):Int)==1))) kj (congrArg zau (by rw [hc]; rfl))) ?_
  refine sg 2 kj <| sgN hK9 <| cond_false kj <| wp_skip <| hK8 _ _ <| sgB kj <| wp_ret ?_
  repeat (first | with_reducible refine goR1 ?_ | with_reducible refine goR2 ?_)
  exact (show bodyPost _ _ _ .ret _ _ from ret1 (.nilIface) rfl (Qaz kj) ⟨rfl,(zbv (zbr w) e1)⟩)
theorem Qnd (g : Nat) (nx:Int) (B:Nat) (n:Int) (hnx:0≤nx∧nx≤4294967295) (hB:B<18446744073709551616) (sec:List Int) (pl mg:Nat) (hsec:sec.length=32) (w:World) (hg:w.heap[g]? = some (.cells (cat [#[.int .i64 nx],#[.int .u64 ((B:Nat):Int)],ints .u8 (sec),#[.int .i64 ((pl:Nat):Int)],#[.map (some mg)]]) 82)) (hn:0≤n∧n<4294967295) (hc:nx-1-n<0):Calls Tryd.prog 70 #[.pointer (some ⟨g,0,none⟩),.int .i64 n] w (Ret w (.nilIface)):=by
  refine enter 38 [(0,.pointer (some ⟨g,0,none⟩)),(1,.int .i64 n)] Tryd.func70 rfl rfl kj rfl <| sgB kj <| wp_seq_k fun K3 hK3=>sgC fun K4 hK4=>sg 1 kj <| Qab (.bool false) 7 rfl kj (Qah (u:=.bool (decide (n<0))) kj (congrArg zau (decide_eq_false (by omega)))) <| sg 2 kj <| Qab (.bool false) 10 rfl kj (Qah (u:=.bool (decide (n≥4294967295))) kj (congrArg zau (decide_eq_false (by omega)))) <| sg 1 kj <| sgN hK4 ?_
  refine cond_false kj <| wp_skip <| hK3 _ _ <| sgC fun K5 hK5=>sg 1 kj <| Qau (.int .i64 (nx-1)) 73 #[.pointer (some ⟨g,0,none⟩)] 14 rfl kj kj (QcJ g nx B hnx hB sec pl mg hsec _ hg) fun W1 e1=>sg 1 kj <| Qab (.int .i64 (nx-1-n)) 16 rfl kj (Qah (u:=.int .i64 (zam.wrap ((nx-1)-n))) kj (congrArg (zag .i64) (QbJ _ (by omega)))) <| sg 1 kj <| sgN hK5 ?_
  refine wp_seq_k fun K6 hK6=>sgC fun K7 hK7=>sg 1 kj <| Qab (.bool false) 18 rfl kj (Qah (u:=.bool (decide ((nx-1-n)>64))) kj (congrArg zau (decide_eq_false (by omega)))) <| sgN hK7 <| cond_false kj <| wp_skip <| hK6 _ _ <| wp_seq_k fun K8 hK8=>sgC fun K9 hK9=>?_
  refine sg 1 kj <| Qab (.bool false) 21 rfl kj (Qah (u:=.bool (((nx-1-n)==0))) kj (congrArg zau (by simp; omega))) ?_
  refine sg 2 kj <| Qab (.bool false) 24 rfl kj (Qah (u:=.bool (decide ((nx-1-n)>0))) kj (congrArg zau (decide_eq_false (by omega)))) <| sg 12 kj <| sgN hK9 <| cond_false kj <| wp_skip <| hK8 _ _ <| sgB kj <| wp_ret ?_
  repeat (first | with_reducible refine goR1 ?_ | with_reducible refine goR2 ?_)
  exact (show bodyPost _ _ _ .ret _ _ from ret1 (.nilIface) rfl (Qaz kj) ⟨rfl,(zbv (zbr w) e1)⟩)
theorem Qk6 (g : Nat) (nx:Int) (B:Nat) (n:Int) (hnx:0≤nx∧nx≤4294967295) (hB:B<18446744073709551616) (sec:List Int) (pl mg:Nat) (hsec:sec.length=32) (w:World) (hg:w.heap[g]? = some (.cells (cat [#[.int .i64 nx],#[.int .u64 ((B:Nat):Int)],ints .u8 (sec),#[.int .i64 ((pl:Nat):Int)],#[.map (some mg)]]) 82)):Calls Tryd.prog 70 #[.pointer (some ⟨g,0,none⟩),.int .i64 n] w (Ret w (errV (chkW nx B n))):=by
  unfold chkW
  by_cases h1:n<0
  · rw [if_pos (.inl h1)]; exact Qni g nx B n hnx hB sec pl mg hsec w hg h1
  by_cases h2:4294967295≤n
  · rw [if_pos (.inr h2)]; exact Qnh g nx B n hnx hB sec pl mg hsec w hg h2
  rw [if_neg (by omega)]
  have hn:0≤n∧n<4294967295:=by omega
  by_cases h3:64<nx-1-n
  · rw [if_pos h3]; exact Qng g nx B n hnx hB sec pl mg hsec w hg hn h3
  rw [if_neg h3]
  by_cases h4:nx-1-n=0
  · rw [if_pos (.inl h4)]; exact check_D g nx B n hnx hB sec pl mg hsec w hg hn h4
  by_cases h5:0<nx-1-n
  · obtain ⟨j,hj⟩:=zaV (show 0≤nx-1-n-1 by omega)
    have hj2:j<64:=by omega
    rw [hj,zab]
    have hm:B/2^j%2<2:=zaW _ (by decide)
    by_cases h6:B/2^j%2=1
    · rw [if_pos (.inr ⟨h5,h6⟩)]; exact Qnf g nx B n hnx hB sec pl mg hsec w hg hn j hj hj2 h6
    · rw [if_neg (by rintro (h | h); exact h4 h; exact h6 h.2)]; exact Qne g nx B n hnx hB sec pl mg hsec w hg hn j hj hj2 (by omega)
  · rw [if_neg (by rintro (h | h); exact h4 h; exact h5 h.1)]; exact Qnd g nx B n hnx hB sec pl mg hsec w hg hn (by omega)
theorem QkG (g : Nat) (nx:Int) (B:Nat) (n:Int) (hnx:0≤nx∧nx≤4294967295) (hB:B<18446744073709551616) (sec:List Int) (pl mg:Nat) (hsec:sec.length=32) (w:World) (hg:w.heap[g]? = some (.cells (cat [#[.int .i64 nx],#[.int .u64 ((B:Nat):Int)],ints .u8 (sec),#[.int .i64 ((pl:Nat):Int)],#[.map (some mg)]]) 82)):Calls Tryd.prog 54 #[.pointer (some ⟨g,0,none⟩),.int .i64 n] w (Ret w (errV (chkW nx B n))):=by
  refine enter 13 [(0,.pointer (some ⟨g,0,none⟩)),(1,.int .i64 n)] Tryd.func54 rfl rfl kj rfl <| sgB kj <| wp_seq_k fun K3 hK3=>sgB kj <| cond_false kj <| wp_skip <| hK3 _ _ <| sgC fun K5 hK5=>sg 4 kj <| Qau (errV (chkW nx B n)) 70 #[.pointer (some ⟨g,0,none⟩),.int .i64 n] 12 rfl kj kj (Qk6 g nx B n hnx hB sec pl mg hsec _ hg) fun W1 e1=>?_
  refine sg 1 kj <| sgN hK5 <| wp_ret ?_
  repeat (first | with_reducible refine goR1 ?_ | with_reducible refine goR2 ?_)
  exact (show bodyPost _ _ _ .ret _ _ from ret1 (errV (chkW nx B n)) rfl (Qaz kj) ⟨rfl,(zbv (zbr w) e1)⟩)
theorem Qhz {e : Int} (h:e≠0):errV e=.iface 41 (.int .i64 e):=by unfold errV; rw [if_neg h]
theorem QdD {e : Int} (h:e=0):errV e=.nilIface:=by unfold errV; rw [if_pos h]
theorem QmU (a b:Int) (h:-5000000000≤a∧a≤5000000000) (e:0-a=b):zam.wrap (0-a)=b:=by rw [e]; exact QbJ _ (by omega)
theorem QhL (j : Nat) (h:j<64):2^j<18446744073709551616:=Nat.pow_lt_pow_right (by decide) h
theorem shl1 (j : Nat) (h:j<64):zaP.wrap (1*2^min ((j:Nat):Int).toNat zaP.bits)=((2^j:Nat):Int):=by
  have:=shlB 1 j
  rw [Nat.one_mul,zaX (QhL j h)] at this
  exact this
theorem QnX (g : Nat) (nx:Int) (B:Nat) (n:Int) (hnx:0≤nx∧nx≤4294967295) (hB:B<18446744073709551616) (sec:List Int) (pl mg:Nat) (hsec:sec.length=32) (w:World) (hg:w.heap[g]? = some (.cells (cat [#[.int .i64 nx],#[.int .u64 ((B:Nat):Int)],ints .u8 (sec),#[.int .i64 ((pl:Nat):Int)],#[.map (some mg)]]) 82)) (hc:chkW nx B n=0) (j:Nat) (hj:nx-1-n-1=(j:Int)) (hj2:j<64):Calls Tryd.prog 72 #[.pointer (some ⟨g,0,none⟩),.int .i64 n] w (fun e w'=>e=.returned .nilIface∧ExtB g w w'∧w'.heap[g]? = some (.cells (cat [#[.int .i64 nx],#[.int .u64 ((B|||2^j:Nat):Int)],ints .u8 (sec),#[.int .i64 ((pl:Nat):Int)],#[.map (some mg)]]) 82)):=by
  refine enter 48 [(0,.pointer (some ⟨g,0,none⟩)),(1,.int .i64 n)] Tryd.func72 rfl rfl kj rfl <| sgB kj <| wp_seq_k fun K3 hK3=>sgC fun K4 hK4=>sg 2 kj <| Qau (.nilIface) 70 #[.pointer (some ⟨g,0,none⟩),.int .i64 n] 9 rfl kj kj (QdD hc▸Qk6 g nx B n hnx hB sec pl mg hsec _ hg) fun W1 e1=>sg 1 kj <| sgN hK4 <| sgB kj <| cond_false kj ?_
  refine wp_skip <| hK3 _ _ <| sgC fun K6 hK6=>sg 2 kj ?_
  have r1_1:=(Qaa hg e1)
  refine Qau (.int .i64 (nx-1)) 73 #[.pointer (some ⟨g,0,none⟩)] 15 rfl kj kj (QcJ g nx B hnx hB sec pl mg hsec _ r1_1) fun W2 e2=>Qab (.int .i64 (n-(nx-1))) 16 rfl kj (Qah (u:=.int .i64 (zam.wrap (n-(nx-1)))) kj (congrArg (zag .i64) (QbJ _ (by omega)))) <| sg 1 kj <| sgN hK6 <| wp_seq_k fun K7 hK7=>sgC fun K8 hK8=>sg 1 kj <| Qab (.bool true) 18 rfl kj (Qah (u:=.bool (decide ((n-(nx-1))<0))) kj (congrArg zau (decide_eq_true (by omega)))) <| sgN hK8 <| cond_true kj ?_
  refine wp_seq_k fun K9 hK9=>QaL 11 [⟨none,[(0,none)]⟩,⟨none,[(19,some 0)]⟩,⟨none,[(20,some 1)]⟩,⟨none,[(21,some 2)]⟩,⟨none,[(6,none)]⟩,⟨none,[(23,some 4)]⟩,⟨none,[(24,some 5)]⟩,⟨none,[(25,some 6)]⟩,⟨none,[(22,some 3),(26,some 7)]⟩,⟨none,[(19,some 0)]⟩,⟨none,[(28,some 9)]⟩] kj kj fun F hF=>Qak (.pointer (some ⟨g,0,none⟩)) kj kj (fun _=>kj) <| Qak (.pointer (some ⟨g,0,none⟩)) kj kj (fun _=>kj) <| Qak (.pointer (some ⟨g,1,none⟩)) kj kj (fun _=>kj) ?_
  have r1_2:=(Qaa r1_1 e2)
  refine Qa7 (.int .u64 ((B:Nat):Int)) kj kj (fun W hR=>(Qad 75 _ g 1 82 _ (.int .u64 ((B:Nat):Int)) _ (Qaa (Qaa r1_2 (Qaj _)) hR) rfl kj (Qam [#[.int .i64 nx]] [#[.int .u64 ((B:Nat):Int)]] [ints .u8 (sec),#[.int .i64 ((pl:Nat):Int)],#[.map (some mg)]] 1 kj 0 _ rfl) kj)) <| Qak (.int .i64 (n-(nx-1))) kj kj (fun _=>kj) <| Qak (.int .i64 (nx-1-n)) kj kj (fun W=>(Qah (u:=.int .i64 (zam.wrap (0-(n-(nx-1))))) kj (congrArg (zag .i64) (QmU _ _ (by omega) (by omega))))) <| Qak (.int .i64 (((j:Nat):Int))) kj kj (fun W=>(Qah (u:=.int .i64 (zam.wrap ((nx-1-n)-1))) kj (congrArg (zag .i64) (by rw [hj]; exact QbJ _ (by omega))))) ?_
  refine Qak (.int .u64 (((2^j:Nat):Int))) kj kj (fun W=>(QaM .shl _ _ _ _ .u64 .i64 _ _ _ rfl kj kj (Qev _ _ _ _ _ _ (by omega) (shl1 j hj2)))) <| Qak (.int .u64 (((B|||2^j:Nat):Int))) kj kj (fun W=>(Qah (u:=.int .u64 (bits .or .u64 (((B:Nat):Int)) (((2^j:Nat):Int)))) kj (congrArg (zag .u64) (orB _ _ hB (QhL j hj2))))) <| Qak (.pointer (some ⟨g,0,none⟩)) kj kj (fun _=>kj) <| Qak (.pointer (some ⟨g,1,none⟩)) kj kj (fun _=>kj) <| QaQ (hF _ kj fun W3 e3=>?_)
  simp only [ups,up,Kn.val,zaY,zaZ,zba,zbb,zbc,zbd]
  clear hF
  have r1_3:=(Qaa r1_2 e3)
  refine Qan g _ (cat [#[.int .i64 nx],#[.int .u64 (((B|||2^j:Nat):Int))],ints .u8 (sec),#[.int .i64 ((pl:Nat):Int)],#[.map (some mg)]]) 82 r1_3 rfl kj (run_storeQ 75 _ _ g 1 82 [#[.int .i64 nx]] [ints .u8 (sec),#[.int .i64 ((pl:Nat):Int)],#[.map (some mg)]] _ (.int .u64 (((B|||2^j:Nat):Int))) r1_3 rfl kj kj kj kj rfl rfl) fun W4 p4 r1_4=>sgN hK9 <| sgB kj <| wp_ret ?_
  repeat (first | with_reducible refine goR1 ?_ | with_reducible refine goR2 ?_)
  exact (show bodyPost _ _ _ .ret _ _ from ret1 (.nilIface) rfl (Qaz kj) ⟨rfl,(ExtB.puts (ExtB.ext (ExtB.ext (ExtB.ext (ExtB.refl g w) e1) e2) e3) p4),r1_4⟩)
theorem QnW (g : Nat) (nx:Int) (B:Nat) (n:Int) (hnx:0≤nx∧nx≤4294967295) (hB:B<18446744073709551616) (sec:List Int) (pl mg:Nat) (hsec:sec.length=32) (w:World) (hg:w.heap[g]? = some (.cells (cat [#[.int .i64 nx],#[.int .u64 ((B:Nat):Int)],ints .u8 (sec),#[.int .i64 ((pl:Nat):Int)],#[.map (some mg)]]) 82)) (hc:chkW nx B n=0) (hn:0≤n∧n<4294967295) (a:Nat) (ha:n-(nx-1)=(a:Int)) (ha1:1≤a):Calls Tryd.prog 72 #[.pointer (some ⟨g,0,none⟩),.int .i64 n] w (fun e w'=>e=.returned .nilIface∧ExtB g w w'∧w'.heap[g]? = some (.cells (cat [#[.int .i64 (n+1)],#[.int .u64 ((B*2^a%18446744073709551616|||1*2^(a-1)%18446744073709551616:Nat):Int)],ints .u8 (sec),#[.int .i64 ((pl:Nat):Int)],#[.map (some mg)]]) 82)):=by
  refine enter 48 [(0,.pointer (some ⟨g,0,none⟩)),(1,.int .i64 n)] Tryd.func72 rfl rfl kj rfl <| sgB kj <| wp_seq_k fun K3 hK3=>sgC fun K4 hK4=>sg 2 kj <| Qau (.nilIface) 70 #[.pointer (some ⟨g,0,none⟩),.int .i64 n] 9 rfl kj kj (QdD hc▸Qk6 g nx B n hnx hB sec pl mg hsec _ hg) fun W1 e1=>sg 1 kj <| sgN hK4 <| sgB kj <| cond_false kj ?_
  refine wp_skip <| hK3 _ _ <| sgC fun K6 hK6=>sg 2 kj ?_
  have r1_1:=(Qaa hg e1)
  refine Qau (.int .i64 (nx-1)) 73 #[.pointer (some ⟨g,0,none⟩)] 15 rfl kj kj (QcJ g nx B hnx hB sec pl mg hsec _ r1_1) fun W2 e2=>Qab (.int .i64 (((a:Nat):Int))) 16 rfl kj (Qah (u:=.int .i64 (zam.wrap (n-(nx-1)))) kj (congrArg (zag .i64) (by rw [ha]; exact QbJ _ (by omega)))) ?_
  refine sg 1 kj <| sgN hK6 <| wp_seq_k fun K7 hK7=>sgC fun K8 hK8=>sg 1 kj <| Qab (.bool false) 18 rfl kj (Qah (u:=.bool (decide (((a:Nat):Int)<0))) kj (congrArg zau (decide_eq_false (by omega)))) <| sgN hK8 <| cond_false kj <| wp_skip <| hK7 _ _ ?_
  refine wp_seq_k fun K9 hK9=>QaL 13 [⟨none,[(0,none)]⟩,⟨none,[(0,none)]⟩,⟨none,[(31,some 1)]⟩,⟨none,[(32,some 2)]⟩,⟨none,[(33,some 3)]⟩,⟨none,[(6,none)]⟩,⟨none,[(34,some 4),(35,some 5)]⟩,⟨none,[(6,none)]⟩,⟨none,[(37,some 7)]⟩,⟨none,[(38,some 8)]⟩,⟨none,[(36,some 6),(39,some 9)]⟩,⟨none,[(30,some 0)]⟩,⟨none,[(41,some 11)]⟩] kj kj fun F hF=>Qak (.pointer (some ⟨g,0,none⟩)) kj kj (fun _=>kj) <| Qak (.pointer (some ⟨g,0,none⟩)) kj kj (fun _=>kj) <| Qak (.pointer (some ⟨g,0,none⟩)) kj kj (fun _=>kj) <| Qak (.pointer (some ⟨g,1,none⟩)) kj kj (fun _=>kj) ?_
  have r1_2:=(Qaa r1_1 e2)
  refine Qa7 (.int .u64 ((B:Nat):Int)) kj kj (fun W hR=>(Qad 75 _ g 1 82 _ (.int .u64 ((B:Nat):Int)) _ (Qaa (Qaa r1_2 (Qaj _)) hR) rfl kj (Qam [#[.int .i64 nx]] [#[.int .u64 ((B:Nat):Int)]] [ints .u8 (sec),#[.int .i64 ((pl:Nat):Int)],#[.map (some mg)]] 1 kj 0 _ rfl) kj)) <| Qak (.int .i64 (((a:Nat):Int))) kj kj (fun _=>kj) <| Qak (.int .u64 (((B*2^a%18446744073709551616:Nat):Int))) kj kj (fun W=>(QaM .shl _ _ _ _ .u64 .i64 _ _ _ rfl kj kj (Qev _ _ _ _ _ _ (by omega) (shlB B a)))) <| Qak (.int .i64 (((a:Nat):Int))) kj kj (fun _=>kj) <| Qak (.int .i64 (((a-1:Nat):Int))) kj kj (fun W=>(Qah (u:=.int .i64 (zam.wrap (((a:Nat):Int)-1))) kj (congrArg (zag .i64) (by rw [show ((a-1:Nat):Int)=(a:Int)-1 by omega]; exact QbJ _ (by omega))))) ?_
  refine Qak (.int .u64 (((1*2^(a-1)%18446744073709551616:Nat):Int))) kj kj (fun W=>(QaM .shl _ _ _ _ .u64 .i64 _ _ _ rfl kj kj (Qev _ _ _ _ _ _ (by omega) (shlB 1 (a-1))))) <| Qak (.int .u64 (((B*2^a%18446744073709551616|||1*2^(a-1)%18446744073709551616:Nat):Int))) kj kj (fun W=>(Qah (u:=.int .u64 (bits .or .u64 (((B*2^a%18446744073709551616:Nat):Int)) (((1*2^(a-1)%18446744073709551616:Nat):Int)))) kj (congrArg (zag .u64) (orB _ _ (zaW _ (by decide)) (zaW _ (by decide)))))) <| Qak (.pointer (some ⟨g,0,none⟩)) kj kj (fun _=>kj) <| Qak (.pointer (some ⟨g,1,none⟩)) kj kj (fun _=>kj) <| QaQ (hF _ kj fun W3 e3=>?_)
  simp only [ups,up,Kn.val,zaY,zaZ,zba,zbb,zbc,zbd]
  clear hF
  have r1_3:=(Qaa r1_2 e3)
  refine Qan g _ (cat [#[.int .i64 nx],#[.int .u64 (((B*2^a%18446744073709551616|||1*2^(a-1)%18446744073709551616:Nat):Int))],ints .u8 (sec),#[.int .i64 ((pl:Nat):Int)],#[.map (some mg)]]) 82 r1_3 rfl kj (run_storeQ 75 _ _ g 1 82 [#[.int .i64 nx]] [ints .u8 (sec),#[.int .i64 ((pl:Nat):Int)],#[.map (some mg)]] _ (.int .u64 (((B*2^a%18446744073709551616|||1*2^(a-1)%18446744073709551616:Nat):Int))) r1_3 rfl kj kj kj kj rfl rfl) fun W4 p4 r1_4=>sgN hK9 <| sgC fun K10 hK10=>sg 2 kj <| Qab (.int .i64 (n+1)) 45 rfl kj (Qah (u:=.int .i64 (zam.wrap (n+1))) kj (congrArg (zag .i64) (QbJ _ (by omega)))) <| sg 2 kj <| Qan g _ (cat [#[.int .i64 (n+1)],#[.int .u64 (((B*2^a%18446744073709551616|||1*2^(a-1)%18446744073709551616:Nat):Int))],ints .u8 (sec),#[.int .i64 ((pl:Nat):Int)],#[.map (some mg)]]) 82 r1_4 rfl kj (run_storeQ 3 _ _ g 0 82 [] [#[.int .u64 (((B*2^a%18446744073709551616|||1*2^(a-1)%18446744073709551616:Nat):Int))],ints .u8 (sec),#[.int .i64 ((pl:Nat):Int)],#[.map (some mg)]] _ (.int .i64 (n+1)) r1_4 rfl kj kj kj kj rfl rfl) fun W5 p5 r1_5=>sgN hK10 <| sgB kj <| wp_ret ?_
  repeat (first | with_reducible refine goR1 ?_ | with_reducible refine goR2 ?_)
  exact (show bodyPost _ _ _ .ret _ _ from ret1 (.nilIface) rfl (Qaz kj) ⟨rfl,(ExtB.puts (ExtB.puts (ExtB.ext (ExtB.ext (ExtB.ext (ExtB.refl g w) e1) e2) e3) p4) p5),r1_5⟩)
theorem extB_trans {g : Nat} {a b c:World} (h:ExtB g a b) (k:ExtB g b c):ExtB g a c:=⟨k.1.trans h.1,k.2.1.trans h.2.1,k.2.2.1.trans h.2.2.1,qT h.2.2.2.1 k.2.2.2.1,fun i hi hn=>(k.2.2.2.2 i (qL hi h.2.2.2.1) hn).trans (h.2.2.2.2 i hi hn)⟩
theorem Qpd (g : Nat) (nx:Int) (B:Nat) (n:Int) (hnx:0≤nx∧nx≤4294967295) (hB:B<18446744073709551616) (sec:List Int) (pl mg:Nat) (hsec:sec.length=32) (w:World) (hg:w.heap[g]? = some (.cells (cat [#[.int .i64 nx],#[.int .u64 ((B:Nat):Int)],ints .u8 (sec),#[.int .i64 ((pl:Nat):Int)],#[.map (some mg)]]) 82)) (hc:chkW nx B n=0) (j:Nat) (hj:nx-1-n-1=(j:Int)) (hj2:j<64):Calls Tryd.prog 58 #[.pointer (some ⟨g,0,none⟩),.int .i64 n] w (fun e w'=>e=.returned .nilIface∧ExtB g w w'∧w'.heap[g]? = some (.cells (cat [#[.int .i64 nx],#[.int .u64 ((B|||2^j:Nat):Int)],ints .u8 (sec),#[.int .i64 ((pl:Nat):Int)],#[.map (some mg)]]) 82)):=by
  refine enter 13 [(0,.pointer (some ⟨g,0,none⟩)),(1,.int .i64 n)] Tryd.func58 rfl rfl kj rfl <| sgB kj <| wp_seq_k fun K3 hK3=>sgB kj <| cond_false kj <| wp_skip <| hK3 _ _ <| sgC fun K5 hK5=>sg 4 kj <| Qav (fun v W'=>v=.nilIface∧ExtB g w W'∧W'.heap[g]? = some (.cells (cat [#[.int .i64 nx],#[.int .u64 ((B|||2^j:Nat):Int)],ints .u8 (sec),#[.int .i64 ((pl:Nat):Int)],#[.map (some mg)]]) 82)) 72 #[.pointer (some ⟨g,0,none⟩),.int .i64 n] 12 rfl kj kj ((QnX g nx B n hnx hB sec pl mg hsec _ hg hc j hj hj2).mono fun e w' ⟨h1,h2,h3⟩=>⟨_,h1,rfl,h2,h3⟩) fun v W1 h=>?_
  obtain ⟨rfl,q1,r1_1⟩:=h
  refine sg 1 kj <| sgN hK5 <| wp_ret ?_
  repeat (first | with_reducible refine goR1 ?_ | with_reducible refine goR2 ?_)
  exact (show bodyPost _ _ _ .ret _ _ from ret1 (.nilIface) rfl (Qaz kj) ⟨rfl,(extB_trans (ExtB.refl g w) q1),r1_1⟩)
theorem Qpc (g : Nat) (nx:Int) (B:Nat) (n:Int) (hnx:0≤nx∧nx≤4294967295) (hB:B<18446744073709551616) (sec:List Int) (pl mg:Nat) (hsec:sec.length=32) (w:World) (hg:w.heap[g]? = some (.cells (cat [#[.int .i64 nx],#[.int .u64 ((B:Nat):Int)],ints .u8 (sec),#[.int .i64 ((pl:Nat):Int)],#[.map (some mg)]]) 82)) (hc:chkW nx B n=0) (hn:0≤n∧n<4294967295) (a:Nat) (ha:n-(nx-1)=(a:Int)) (ha1:1≤a):Calls Tryd.prog 58 #[.pointer (some ⟨g,0,none⟩),.int .i64 n] w (fun e w'=>e=.returned .nilIface∧ExtB g w w'∧w'.heap[g]? = some (.cells (cat [#[.int .i64 (n+1)],#[.int .u64 ((B*2^a%18446744073709551616|||1*2^(a-1)%18446744073709551616:Nat):Int)],ints .u8 (sec),#[.int .i64 ((pl:Nat):Int)],#[.map (some mg)]]) 82)):=by
  refine enter 13 [(0,.pointer (some ⟨g,0,none⟩)),(1,.int .i64 n)] Tryd.func58 rfl rfl kj rfl <| sgB kj <| wp_seq_k fun K3 hK3=>sgB kj <| cond_false kj <| wp_skip <| hK3 _ _ <| sgC fun K5 hK5=>sg 4 kj <| Qav (fun v W'=>v=.nilIface∧ExtB g w W'∧W'.heap[g]? = some (.cells (cat [#[.int .i64 (n+1)],#[.int .u64 ((B*2^a%18446744073709551616|||1*2^(a-1)%18446744073709551616:Nat):Int)],ints .u8 (sec),#[.int .i64 ((pl:Nat):Int)],#[.map (some mg)]]) 82)) 72 #[.pointer (some ⟨g,0,none⟩),.int .i64 n] 12 rfl kj kj ((QnW g nx B n hnx hB sec pl mg hsec _ hg hc hn a ha ha1).mono fun e w' ⟨h1,h2,h3⟩=>⟨_,h1,rfl,h2,h3⟩) fun v W1 h=>?_
  obtain ⟨rfl,q1,r1_1⟩:=h
  refine sg 1 kj <| sgN hK5 <| wp_ret ?_
  repeat (first | with_reducible refine goR1 ?_ | with_reducible refine goR2 ?_)
  exact (show bodyPost _ _ _ .ret _ _ from ret1 (.nilIface) rfl (Qaz kj) ⟨rfl,(extB_trans (ExtB.refl g w) q1),r1_1⟩)
end Cn
end
section
namespace Wm
open Go Go.RowKit
open Rely Auto
variable {P : Program} {ops : Array Oper} {Q : Exit → Act → World → Prop}
def allM (P : Program) (ops:Array Oper) (Q:Exit→Act→World→Prop) (Rd:World→Prop) (m:Nat):Nat→Array Bool→Act→World→Prop
  | 0,listed,a,w=>zbe .any ops listed=[]∧Q .normal a w
  | fuel+1,listed,a,w=>(zbe .any ops listed=[]→Q .normal a w)∧∀ i∈zbe .any ops listed,wpOp P ops Q i (fun a' w'=>(i≠m→Rd w')∧allM P ops Q Rd m fuel (listed.setIfInBounds i true) a' w') a w
theorem allM_any {Rd : World→Prop} {m:Nat}:∀ (fuel:Nat) (listed:Array Bool) (a:Act) (w:World),allM P ops Q Rd m fuel listed a w→wpAny P .any ops Q fuel listed a w
  | 0,_,_,_,h=>h
  | _+1,_,_,_,h=>⟨h.1,fun i hi=>wpOp_mono (fun a w h=>allM_any _ _ a w h.2) (h.2 i hi)⟩
def Qc1 (P : Program) (ops:Array Oper) (Rd:World→Prop) (o:Oper) (v:Value) (a:Act):Prop :=
  (zbf o (yielded ops a.tmps)=true∧∀ w,Rd w→(execOp a.eval o).run P w=.ok (.value v) w)∨(zbf o (yielded ops a.tmps)=false∧v=undef)
theorem Qc1.wpOp {Rd : World→Prop} {i:Nat} {o:Oper} {v:Value} {a:Act} (hi:ops[i]? = some o) (hy:Qc1 P ops Rd o v a) {K:Act→World→Prop} {w:World} (hw:Rd w) (h:K (a.put o.dst v) w):wpOp P ops Q i K a w:=by
  unfold Go.wpOp
  simp only [hi]
  rcases hy with ⟨hw1,hv⟩ | ⟨hw1,rfl⟩
  · simp only [hw1,if_true,Oper.wp,hv w hw,Oper.upon]; exact .inl h
  · simp only [hw1,Bool.false_eq_true,if_false]; exact h
theorem Qc1.same {Rd : World→Prop} {o:Oper} {v:Value} {a a':Act} (hy:Qc1 P ops Rd o v a) (he:execOp a'.eval o=execOp a.eval o) (hw:zbf o (yielded ops a'.tmps)=zbf o (yielded ops a.tmps)):Qc1 P ops Rd o v a':=by
  unfold Qc1 at *
  rw [he,hw]
  exact hy
theorem Qm9 {Rd : World→Prop} {j:Nat} {oi oj:Oper} {v:Value} (hj:ops[j]? = some oj) (hap:oi.apart ops oj=true) (hsi:∀ cs b,oi.op≠.select cs b) (hsj:∀ cs b,oj.op≠.select cs b)
    (hQ:∀ c a w,Q (.panic c) (a.put oi.dst v) w→Q (.panic c) a w) {K:Act→World→Prop} {a:Act} {w:World} (hy:Qc1 P ops Rd oi v a) (h:wpOp P ops Q j K (a.put oi.dst v) w) :
    wpOp P ops Q j (fun a' w'=>Qc1 P ops Rd oi v a'∧K (a'.put oi.dst v) w') a w:=by
  obtain ⟨h1,h2,h3⟩:=Oper.apart_spec hap
  have keep:∀ (a:Act),Qc1 P ops Rd oi v a→∀ u,Qc1 P ops Rd oi v (a.put oj.dst u):=fun a hy u=>hy.same (execOp_put oi hsi a oj.dst u h3) (wanted_put oi a oj.dst u h3)
  have keepD:∀ d,Qc1 P ops Rd oi v { a with defers:=d::a.defers }:=fun d=>hy.same rfl rfl
  unfold wpOp at *
  simp only [hj] at *
  rw [wanted_put oj a oi.dst v h1] at h
  split
  · rename_i hw
    simp only [hw,if_true] at h
    rcases h with h | ⟨hasks,hlets⟩
    case inr=>exact .inr ⟨by unfold Oper.asks at *; rw [execOp_put oj hsj a oi.dst v h1] at hasks; exact hasks,hlets⟩
    refine .inl ?_
    unfold Oper.wp at *
    rw [execOp_put oj hsj a oi.dst v h1] at h
    generalize (execOp a.eval oj).run P w=r at *
    cases r with
    | ok n w' =>
      cases n <;> simp only [Oper.upon] at h ⊢
      case value u=>exact ⟨keep a hy u,by rw [←Act.put_comm a v u h2]; exact h⟩
      case skip=>exact ⟨keep a hy _,by rw [←Act.put_comm a v undef h2]; exact h⟩
      case defer d =>
        refine ⟨keep _ (keepD d) _,?_⟩
        rw [←Act.put_comm _ v undef h2,←Act.put_defers]
        exact h
      case enter f args =>
        refine Calls.mono h fun e w'' he=>?_
        cases e with
        | returned u=>exact ⟨keep a hy u,by rw [←Act.put_comm a v u h2]; exact he⟩
        | panicked c=>exact hQ _ _ _ he
        | outgrown=>exact he
      case row row args=>exact Rows.mono h fun u w'' he=>⟨keep a hy u,by rw [←Act.put_comm a v u h2]; exact he⟩
    | halt x w' =>
      cases x <;> simp only [Oper.upon] at h ⊢
      case panic u=>exact hQ _ _ _ h
  · rename_i hw
    simp only [hw] at h
    exact ⟨keep a hy _,by rw [←Act.put_comm a v undef h2]; exact h⟩
theorem allM_first {Rd : World→Prop} {m:Nat} {i:Nat} {oi:Oper} {v:Value} (hi:ops[i]? = some oi) (hsel:∀ (j:Nat) (o:Oper) cs b,ops[j]? = some o→o.op≠.select cs b) (him:i≠m) (hwait:∃ om e,ops[m]? = some om∧e∈om.after∧zbg .any e=true∧e.on=i) (hQ:∀ c a w,Q (.panic c) (a.put oi.dst v) w→Q (.panic c) a w) :
    ∀ (fuel:Nat) (listed:Array Bool) (a:Act) (w:World),Rd w →
      (∀ j oj,ops[j]? = some oj→j≠i→listed.getD j true=false→(∀ e∈oj.after,zbg .any e=true→e.on≠i)→oi.apart ops oj=true) →
      i∈zbe .any ops listed→Qc1 P ops Rd oi v a→allM P ops Q Rd m fuel (listed.setIfInBounds i true) (a.put oi.dst v) w→allM P ops Q Rd m (fuel+1) listed a w:=by
  intro fuel
  induction fuel with
  | zero =>
    intro listed a w hw _ hr hy H
    refine ⟨fun h=>(by rw [h] at hr; cases hr),fun j hj=>?_⟩
    by_cases hji:j=i
    · subst hji; exact hy.wpOp hi hw ⟨fun _=>hw,H⟩
    · have:=ready_mono hj hji
      rw [H.1] at this
      cases this
  | succ fuel ih =>
    intro listed a w hw hfree hr hy H
    refine ⟨fun h=>(by rw [h] at hr; cases hr),fun j hj=>?_⟩
    by_cases hji:j=i
    · subst hji; exact hy.wpOp hi hw ⟨fun _=>hw,H⟩
    · have h1:=H.2 j (ready_mono hj hji)
      obtain ⟨hjun,oj,hoj,hall⟩:=mem_ready.1 hj
      have hnot:∀ e∈oj.after,zbg .any e=true→e.on≠i:=fun e he hb heq=>by
        have h1:=hall e he hb
        have h0:=(mem_ready.1 hr).1
        rw [heq] at h1
        rcases zaS i listed.size with h' | h'
        · simp [h'] at h0 h1; rw [h0] at h1; cases h1
        · simp [Array.getElem?_eq_none h'] at h1
      have hjm:j≠m:=fun q=>by
        subst q
        obtain ⟨om,e,hom,he,hb,heq⟩:=hwait
        rw [hoj] at hom
        exact hnot e (Option.some.inj hom▸he) hb heq
      have h2:=Qm9 hoj (hfree j oj hoj hji hjun hnot) (fun cs b=>hsel i oi cs b hi) (fun cs b=>hsel j oj cs b hoj) hQ hy h1
      have hfree':∀ k ok,ops[k]? = some ok→k≠i→(listed.setIfInBounds j true).getD k true=false→(∀ e∈ok.after,zbg .any e=true→e.on≠i)→oi.apart ops ok=true:=fun k ok hk hki hun hno=>by
        refine hfree k ok hk hki ?_ hno
        by_cases hjk:j=k
        · subst hjk; exact hjun
        · rw [getD_set_ne true hjk] at hun; exact hun
      refine wpOp_mono (fun a' w' h3=>⟨fun _=>h3.2.1 hjm,ih (listed.setIfInBounds j true) a' w' (h3.2.1 hjm) hfree' (ready_mono hr (Ne.symm hji)) h3.1 ?_⟩) h2
      rw [Array.setIfInBounds_comm _ _ hji]
      exact h3.2.2
structure WM (P : Program) (ops : Array Oper) (Q : Exit → Act → World → Prop) (Rd : World → Prop) (m fuel : Nat) (listed : Array Bool) (a : Act) (w : World) : Prop where
  out:Rd w→allM P ops Q Rd m fuel listed a w
variable {o : Oper} {N : Nat} {L : Env} {w V : World} {ds : List Deferred} {fuel : Nat} {listed : Array Bool} {k m : Nat} {a : Act} {Rd : World → Prop}
theorem region_walkM {id : Nat} {l:List Oper} (Rd:World→Prop) (m:Nat) (hm:P.follows .mixedOrders=true) (h:∀ W,Ext w W→Rd W∧WM P l.toArray Q Rd m l.length (Array.replicate l.length false) (Qaw ds N L) W):(Code.region id l.toArray true).wp P Q (Qaw ds N L) w:=by
  refine wp_region_any hm ?_
  obtain ⟨h1,h2⟩:=h w.drew (Qaj w)
  have:=allM_any _ _ _ _ (h2.out h1)
  simpa using this
def waits (ops : Array Oper) (m k:Nat):Bool:=match ops[m]? with | some om=>om.after.any (fun e=>zbg .any e&&e.on==k) | none=>false
theorem Qiz (h : waits ops m k=true):∃ om e,ops[m]? = some om∧e∈om.after∧zbg .any e=true∧e.on=k:=by
  unfold waits at h
  split at h
  · rename_i om ho
    obtain ⟨i,hi,h1⟩:=Array.any_eq_true.1 h
    simp only [Bool.and_eq_true,beq_iff_eq] at h1
    exact ⟨om,_,ho,Array.getElem_mem hi,h1.1,h1.2⟩
  · cases h
theorem wm_val (k : Nat) (v:Value) (d:Nat) (ho:ops[k]? = some o) (hd:o.dst=some d) (hg:Qbm ops o N L=some true) (hc:(Region.noSelect ops&&Region.free .any ops listed k&&(zbe .any ops listed).contains k)=true) (hkm:k≠m) (hwt:waits ops m k=true)
    (hQ:∀ c a w,Q (.panic c) (a.put o.dst v) w→Q (.panic c) a w) (h:∀ W,Rd W→(execOp (Rely.look (envN N L)) o).run P W=.ok (.value v) W) (kk:WM P ops Q Rd m fuel (listed.setIfInBounds k true) (Qaw ds N ((d,v)::L)) w):WM P ops Q Rd m (fuel+1) listed (Qaw ds N L) w:=by
  simp only [Bool.and_eq_true] at hc
  refine ⟨fun hw=>allM_first ho (Region.noSelect_spec hc.1.1) hkm (Qiz hwt) hQ fuel listed _ w hw (Region.free_spec ho hc.1.2) (by simpa using hc.2) (.inl ⟨Qbh hg,fun W hW=>?_⟩) ?_⟩
  · rw [QaO]; exact h W hW
  · rw [hd,QaN]; exact kk.out hw
theorem wm_call (k : Nat) (hr:zbe .any ops listed=[k]) (ho:ops[k]? = some o) (R:Value→World→Prop) (f:FuncId) (args:Array Value) (d:Nat) (hd:o.dst=some d) (hg:Qbm ops o N L=some true)
    (h:(execOp (Rely.look (envN N L)) o).run P w=.ok (.enter f args) w) (hc:Calls P f args w fun e w'=>∃ v,e=.returned v∧R v w') (hR:∀ v W,R v W→Rd W) (kk:∀ (v:Value) (W:World),R v W→WM P ops Q Rd m fuel (listed.setIfInBounds k true) (Qaw ds N ((d,v)::L)) W):WM P ops Q Rd m (fuel+1) listed (Qaw ds N L) w:=by
  refine ⟨fun _=>⟨fun h0=>(by rw [hr] at h0; cases h0),fun i hi=>?_⟩⟩
  rw [hr] at hi
  obtain rfl:i=k:=by simpa using hi
  unfold wpOp
  rw [ho]
  simp only [Qbh hg,if_true]
  refine .inl ?_
  unfold Oper.wp
  rw [QaO,h]
  refine hc.mono ?_
  rintro e w' ⟨v,rfl,hw⟩
  show _∧allM _ _ _ _ _ _ _ _ _
  rw [hd,QaN]
  exact ⟨fun _=>hR v w' hw,(kk v w' hw).out (hR v w' hw)⟩
theorem wm_run (k : Nat) (hr:zbe .any ops listed=[k]) (ho:ops[k]? = some o) (R:Value→World→Prop) (d:Nat) (hd:o.dst=some d) (hg:Qbm ops o N L=some true) (h:∃ v W,(execOp (Rely.look (envN N L)) o).run P w=.ok (.value v) W∧R v W) (hR:∀ v W,R v W→Rd W)
    (kk:∀ (v:Value) (W:World),R v W→WM P ops Q Rd m fuel (listed.setIfInBounds k true) (Qaw ds N ((d,v)::L)) W):WM P ops Q Rd m (fuel+1) listed (Qaw ds N L) w:=by
  obtain ⟨v,W,h1,h2⟩:=h
  refine ⟨fun _=>⟨fun h0=>(by rw [hr] at h0; cases h0),fun i hi=>?_⟩⟩
  rw [hr] at hi
  obtain rfl:i=k:=by simpa using hi
  unfold wpOp
  rw [ho]
  simp only [Qbh hg,if_true]
  refine .inl ?_
  unfold Oper.wp
  rw [QaO,h1]
  show _∧allM _ _ _ _ _ _ _ _ _
  rw [hd,QaN]
  exact ⟨fun _=>hR v W h2,(kk v W h2).out (hR v W h2)⟩
theorem wm_last (hr : zbe .any ops listed=[m]) (hr2:zbe .any ops (listed.setIfInBounds m true)=[]) (ho:ops[m]? = some o) (R:World→Prop) (hd:o.dst=none) (hg:Qbm ops o N L=some true) (h:∃ W,(execOp (Rely.look (envN N L)) o).run P w=.ok .skip W∧R W)
    (kk:∀ W,R W→Q .normal (Qaw ds N L) W):WM P ops Q Rd m (fuel+1) listed (Qaw ds N L) w:=by
  obtain ⟨W,h1,h2⟩:=h
  refine ⟨fun _=>⟨fun h0=>(by rw [hr] at h0; cases h0),fun i hi=>?_⟩⟩
  rw [hr] at hi
  obtain rfl:i=m:=by simpa using hi
  unfold wpOp
  rw [ho]
  simp only [Qbh hg,if_true]
  refine .inl ?_
  unfold Oper.wp
  rw [QaO,h1]
  show _∧allM _ _ _ _ _ _ _ _ _
  rw [hd,show (Qaw ds N L).put none undef=Qaw ds N L from rfl]
  refine ⟨fun q=>absurd rfl q,?_⟩
  cases fuel with
  | zero=>exact ⟨hr2,kk W h2⟩
  | succ n=>exact ⟨fun _=>kk W h2,by rw [hr2]; simp⟩
theorem wm_store (g : Nat) (old cs:Array Value) (t:TypeId) (hgr:w.heap[g]? = some (.cells old t)) (hr:zbe .any ops listed=[m]) (hr2:zbe .any ops (listed.setIfInBounds m true)=[]) (ho:ops[m]? = some o) (hd:o.dst=none) (hg:Qbm ops o N L=some true) (h:(execOp (Rely.look (envN N L)) o).run P w=.ok .skip (w.setRow g cs))
    (kk:∀ W,Puts w g W→W.heap[g]? = some (.cells cs t)→Q .normal (Qaw ds N L) W):WM P ops Q Rd m (fuel+1) listed (Qaw ds N L) w :=
  wm_last hr hr2 ho (fun W=>Puts w g W∧W.heap[g]? = some (.cells cs t)) hd hg ⟨_,h,QaV _ _ _,setRow_heap _ _ _ _ _ _ hgr⟩ fun W hh=>kk W hh.1 hh.2
end Wm
end
section
namespace Cn
open Go Go.RowKit
open Rely Auto Own Sha
theorem Qgc (pl : Nat→Option (Nat×Nat)):∀ (ps:List (Nat×Nat×Value×Array Value)) (pre:List (Array Value)) (rest:Array Value) (off:Nat),(cat pre).size=off→okPl pl off ps→tot ps=rest.size →
    Instr.fill pl (cat pre++rest) (ps.map fun x=>(x.1,x.2.2.1))=some (cat (pre++ps.map fun x=>x.2.2.2))
  | [],pre,rest,off,_,_,ht=>by
    have:rest=#[]:=zaO ht.symm
    subst this
    simp [Instr.fill]
  | (i,n,v,p)::r,pre,rest,off,hoff,⟨h1,h2,h3,h4⟩,ht=>by
    subst h2
    have hn:n≤rest.size:=by rw [←ht,tot]; omega
    simp only [zak,Instr.fill,h1,h3]
    rw [if_neg (by simp; omega)]
    have hz:(v.cells.zipIdx.foldl (fun cs (x:Value×Nat)=>cs.setIfInBounds (off+x.2) x.1) (cat pre++rest))=cat (pre++[v.cells])++rest.extract n rest.size:=by
      have e1:v.cells.zipIdx=(v.cells.toList.zipIdx 0).toArray:=by
        apply Array.ext'
        simp
      rw [e1,List.foldl_toArray',QcK]
      · have e2:rest=rest.extract 0 n++rest.extract n rest.size:=by
          rw [Array.extract_append_extract,Nat.max_eq_right hn]
          simp
        have e3:(cat pre++rest)=cat (pre++([rest.extract 0 n]++[rest.extract n rest.size])):=by
          rw [QaD]
          congr 1
        rw [Nat.add_zero,e3]
        have:=QdF pre [rest.extract 0 n] [v.cells] [rest.extract n rest.size] off hoff (by show v.cells.size=(rest.extract 0 n).size; simp; omega)
        rw [show (cat [v.cells]).toList=v.cells.toList from rfl] at this
        rw [this,←zbh,QaD (pre++[v.cells])]
        rfl
      · rfl
    have key:=Qgc pl r (pre++[v.cells]) (rest.extract n rest.size) (off+n) (by rw [QaD]; show (cat pre++v.cells).size=_; simp; omega) h4 (by simp; rw [←ht,tot]; omega)
    rw [←hz] at key
    rw [zbh] at key
    exact key
theorem Qfz {P : Program} {ρ:Operand→Value} {o:Oper} {w:World} (t:TypeId) (parts:Array (Nat×Operand)) (z:Value) (places:Array (Nat×Nat)) (ps:List (Nat×Nat×Value×Array Value))
    (ho:o.op=.build t parts) (hv:(parts.map fun (i,x)=>(i,ρ x)).toList=ps.map fun x=>(x.1,x.2.2.1)) (hp:okPl (fun i=>places[i]?) 0 ps) (ht:tot ps=z.cells.size)
    (hz:(zeroValue t).run P w=.ok z w) (hu:P.underlying t=some (.struct (P.fieldsOf t))) (hm:((P.fieldsOf t).mapM fun f=>do pure (f.offset,←sizeOf f.type):Sem (Array (Nat×Nat))).run P w=.ok places w) :
    (execOp ρ o).run P w=.ok (.value (.agg (cat (ps.map fun x=>x.2.2.2)))) w:=by
  have:=Qgc (fun i=>places[i]?) ps [] z.cells 0 rfl hp ht
  rw [show cat []++z.cells=z.cells by simp [cat],zbc] at this
  rw [←hv] at this
  have hB:(Instr.build t (parts.map fun (i,x)=>(i,ρ x))).run P w=.ok (.agg (cat (ps.map fun x=>x.2.2.2))) w:=by
    unfold Instr.build
    rw [zac,hz,zae,zac,run_underlying hu w,zae]
    show (Sem.run P _ w)=_
    rw [zac,hm,zae]
    simp only [this]
    rfl
  unfold execOp
  simp only [ho,zac,hB,zae,zad]
def sKey : ByteArray:=⟨#[107,101,121]⟩
def QkT : ByteArray:=⟨#[110,101,120,116]⟩
def QkU : ByteArray:=⟨#[108,101,102,116]⟩
def QhF : ByteArray:=⟨#[114,105,103,104,116]⟩
theorem strl (s : ByteArray) (h:s.size≤255):(strB s).length≤255:=by rw [QcD]; exact h
theorem QkV : (strB sKey).length≤255:=strl _ (by decide)
@[irreducible] def keyV (sec : List Int) : List Int := kx sec (QcV (strB sKey) [] 44) 44
@[irreducible] def nxtV (sec : List Int) : List Int := Qcg sec (strB QkT)
theorem QaI (sec : List Int):(keyV sec).length=44:=by unfold keyV; exact QcH _ _ _
theorem QiY (sec : List Int):Qai (keyV sec):=by unfold keyV; exact Qia _ _ _
theorem Qdk (sec lab:List Int):Qai (Qcg sec lab):=by
  unfold Qcg
  split
  · exact Qia _ _ _
  · exact fun x hx=>by rw [(zbi.1 hx).2]; decide
theorem QeG (sec : List Int):(nxtV sec).length=32:=by unfold nxtV; exact QdQ _ _
theorem QiO (sec : List Int):Qai (nxtV sec):=by unfold nxtV; exact Qdk _ _
def itV (sec : List Int):Nat→List Int
  | 0=>sec
  | n+1=>nxtV (itV sec n)
theorem Qa4 {sec : List Int} (h:sec.length=32):∀ n,(itV sec n).length=32
  | 0=>h
  | n+1=>QeG _
theorem Qb0 {sec : List Int} (h:Qai sec):∀ n,Qai (itV sec n)
  | 0=>h
  | n+1=>QiO _
theorem Qen (sec : List Int) (a:Nat):∀ b,itV (itV sec a) b=itV sec (a+b)
  | 0=>rfl
  | b+1=>by show nxtV (itV (itV sec a) b)=nxtV (itV sec (a+b)); rw [Qen sec a b]
def QbA (base : Nat) (num:Int) (mv:List Int) (v:Value) (W:World):Prop:=∃ u,v=.agg (cat [#[.int .i64 num],ints .u8 (mv.take 32),#[u]])∧OwnN .u8 5 base (mv.drop 32) u W
theorem Qlx (k : IntKind) (xs:List Int) (n:Nat):ints k xs=cat [ints k (xs.take n),ints k (xs.drop n)]:=by
  apply Array.ext'
  simp [cat,ints,←zal]
def mpv (p : Int×List Int):Int×Value:=(p.1,.agg (ints .u8 p.2))
def lget (ms : List (Int×List Int)) (k:Int):List Int:=((ms.find? fun p=>p.1==k).map Prod.snd).getD (zaa 44 0)
theorem QhX : ∀ (ms:List (Int×List Int)) (k:Int),mget (ms.map mpv) k (.agg (ints .u8 (zaa 44 0)))=.agg (ints .u8 (lget ms k))
  | [],k=>rfl
  | p::ms,k=>by
    unfold mget lget
    rw [zak]
    by_cases h:(p.1==k)=true
    · rw [zay (p:=fun q:Int×Value=>q.1==k) h,zay (p:=fun q:Int×List Int=>q.1==k) h]; rfl
    · rw [zaz (p:=fun q:Int×Value=>q.1==k) h,zaz (p:=fun q:Int×List Int=>q.1==k) h]; exact QhX ms k
def MsOk (ms : List (Int×List Int)):Prop:=∀ p∈ms,p.2.length=44∧Qai p.2
theorem QcM {ms : List (Int×List Int)} (h:MsOk ms) (k:Int):(lget ms k).length=44∧Qai (lget ms k):=by
  unfold lget
  cases hf:ms.find? (fun p=>p.1==k) with
  | none=>exact ⟨qZ,fun x hx=>by rw [(zbi.1 hx).2]; decide⟩
  | some p=>exact h p (zbj hf)
theorem Qkb (sec : List Int) (tc tq:TypeId) (w:World) (hc:w.heap[4]? = some (.cells (ints .u64 QaR) tc)) (hq:w.heap[3]? = some (.cells (ints .u64 Qa9) tq)) (hsl:sec.length=32) (hsb:Qai sec):Calls Tryd.prog 57 #[.agg (ints .u8 sec)] w (Ret w (.agg (ints .u8 (keyV sec)))):=by
  refine enter 16 [(0,.agg (ints .u8 (sec)))] Tryd.func57 rfl rfl kj rfl <| sgC fun K3 hK3=>Qar (ints .u8 (sec)) 29 1 rfl kj kj fun g4 W1 l4 e1 r4_1=>?_
  have x1:=zbv (zbr w) e1
  have b4:=qT (zbr w).size l4
  refine Qar (ints .u8 (zaa 44 0)) 114 2 rfl kj kj fun g5 W2 l5 e2 r5_2=>sgN hK3 <| sgC fun K6 hK6=>Qab (.agg (ints .u8 (sec))) 6 rfl kj (Qap 29 _ g4 29 _ _ (Qaa r4_1 e2) rfl kj kj (isz (n:=32) kj (izT hsl))) <| Qav (fun v W'=>(fun v W=>∃ u,v=.tuple #[u,.nilIface]∧OwnN .u8 5 W2.heap.size (kx sec (QcV (strB sKey) [] 44) 44) u W) v W'∧Ext W2 W') 61 #[.agg (ints .u8 (sec)),.string sKey,.slice none 0 0,.int .i64 44] 7 rfl kj kj ((Qmh sec [] sKey (.slice none 0 0) _ tc tq _ (Qaa (Qaa hc e1) e2) (Qaa (Qaa hq e1) e2) hsl hsb (fun x hx=>by cases hx) (nilrd _) 44 (by decide) QkV (by decide)).mono (by rintro e w' ⟨v,rfl,e1,hv⟩; exact ⟨v,rfl,hv,e1⟩)) fun vv7 W3 hh7=>?_
  obtain ⟨hv7,e3⟩:=hh7
  obtain ⟨uu,rfl,huu⟩:=hv7
  obtain ⟨gu,cu,curu,rfl,-,hru,-,-,-,htu⟩:=Qg4 huu (by rw [QcH]; decide)
  refine sg 5 kj <| sgN hK6 <| wp_seq_k fun K8 hK8=>sgB kj <| cond_false kj <| wp_skip <| hK8 _ _ <| sgC fun K10 hK10=>sg 1 kj <| Qab (.pointer (some ⟨gu,0,none⟩)) 14 rfl kj (run_sap 114 _ 44 5 (a:=some ⟨gu,0,none⟩) (len:=(kx sec (QcV (strB sKey) [] 44) 44).length) (cap:=cu) rfl kj kj (by rw [QcH]; exact qR _)) ?_
  refine Qab (.agg (ints .u8 (kx sec (QcV (strB sKey) [] 44) 44))) 15 rfl kj (Qa0 114 _ gu 0 5 _ _ _ (Qaa hru (zbr W3)) rfl kj (QgK htu) kj (isz (n:=44) kj (izT (QcH _ _ _)))) ?_
  have r5_3:=(Qaa r5_2 e3)
  refine Qan g5 _ (ints .u8 (kx sec (QcV (strB sKey) [] 44) 44)) 114 r5_3 rfl kj (Qao 114 _ _ g5 114 _ _ r5_3 rfl kj kj (isz (n:=44) kj (izT (QcH _ _ _))) (eqsz (n:=44) (izT (qZ (n:=44))) (izT (QcH _ _ _))) (Qay _ _)) fun W4 p4 r5_4=>sgN hK10 <| wp_ret ?_
  repeat (first | with_reducible refine goR1 ?_ | with_reducible refine goR2 ?_)
  exact (show bodyPost _ _ _ .ret _ _ from ret1 (.agg (ints .u8 (kx sec (QcV (strB sKey) [] 44) 44))) rfl (QaP g5 114 _ r5_4 kj kj (isz (n:=44) kj (izT (QcH _ _ _)))) ⟨congrArg (fun z=>Ending.returned (.agg (ints .u8 z))) (show _=keyV sec by unfold keyV; rfl),(zbu p4 (zbv (zbv x1 e2) e3) (qT x1.size l5))⟩)
theorem nxtC (sec : List Int) (tc tq:TypeId) (w:World) (hc:w.heap[4]? = some (.cells (ints .u64 QaR) tc)) (hq:w.heap[3]? = some (.cells (ints .u64 Qa9) tq)) (hsl:sec.length=32) (hsb:Qai sec):Calls Tryd.prog 43 #[.agg (ints .u8 sec),.string QkT] w (Ret w (.agg (ints .u8 (nxtV sec)))):=by
  unfold nxtV
  exact Qh1 sec QkT tc tq w hc hq hsl hsb
theorem Qfo (sec : List Int) (tc tq:TypeId) (w:World) (hc:w.heap[4]? = some (.cells (ints .u64 QaR) tc)) (hq:w.heap[3]? = some (.cells (ints .u64 Qa9) tq)) (hsl:sec.length=32) (hsb:Qai sec):Calls Tryd.prog 56 #[.agg (ints .u8 sec)] w (Ret w (.agg (ints .u8 (nxtV sec)))):=by
  refine enter 5 [(0,.agg (ints .u8 (sec)))] Tryd.func56 rfl rfl kj rfl <| sgC fun K3 hK3=>Qar (ints .u8 (sec)) 29 1 rfl kj kj fun g4 W1 l4 e1 r4_1=>?_
  have x1:=zbv (zbr w) e1
  have b4:=qT (zbr w).size l4
  refine Qar (ints .u8 (zaa 32 0)) 29 2 rfl kj kj fun g5 W2 l5 e2 r5_2=>sgN hK3 <| sgC fun K6 hK6=>Qab (.agg (ints .u8 (sec))) 3 rfl kj (Qap 29 _ g4 29 _ _ (Qaa r4_1 e2) rfl kj kj (isz (n:=32) kj (izT hsl))) <| Qau (.agg (ints .u8 (nxtV sec))) 43 #[.agg (ints .u8 (sec)),.string QkT] 4 rfl kj kj (nxtC sec tc tq _ (Qaa (Qaa hc e1) e2) (Qaa (Qaa hq e1) e2) hsl hsb) fun W3 e3=>?_
  have r5_3:=(Qaa r5_2 e3)
  refine Qan g5 _ (ints .u8 (nxtV sec)) 29 r5_3 rfl kj (Qao 29 _ _ g5 29 _ _ r5_3 rfl kj kj (isz (n:=32) kj (izT (QeG _))) (eqsz (n:=32) (izT (qZ (n:=32))) (izT (QeG _))) (Qay _ _)) fun W4 p4 r5_4=>sgN hK6 <| wp_ret ?_
  repeat (first | with_reducible refine goR1 ?_ | with_reducible refine goR2 ?_)
  exact (show bodyPost _ _ _ .ret _ _ from ret1 (.agg (ints .u8 (nxtV sec))) rfl (QaP g5 29 _ r5_4 kj kj (isz (n:=32) kj (izT (QeG _)))) ⟨rfl,(zbu p4 (zbv (zbv x1 e2) e3) (qT x1.size l5))⟩)
theorem Qnb (w : World):Calls Tryd.prog 71 #[.slice none 0 0] w (QbF w (OwnN .u8 5 w.heap.size [])):=by
  refine enter 8 [(0,.slice none 0 0)] Tryd.func71 rfl rfl kj rfl <| sgB kj <| wp_seq_k fun K2 hK2=>sgB kj <| cond_true kj <| sgB kj <| wp_ret ?_
  repeat (first | with_reducible refine goR1 ?_ | with_reducible refine goR2 ?_)
  exact (show bodyPost _ _ _ .ret _ _ from ret1 (.slice none 0 0) rfl (Qaz kj) ⟨_,rfl,(zbr w),QeE .u8 5 _ _⟩)
theorem Qna (text : List Int) (ad:Addr) (cp B:Nat) (w:World) (htl:text.length≤900000000) (ht:RdK .u8 B text (.slice (some ad) text.length cp) w):Calls Tryd.prog 71 #[.slice (some ad) text.length cp] w (QbF w (OwnN .u8 5 w.heap.size text)):=by
  refine enter 8 [(0,.slice (some ad) text.length cp)] Tryd.func71 rfl rfl kj rfl <| sgB kj <| wp_seq_k fun K2 hK2=>sgB kj <| cond_false kj <| wp_skip <| hK2 _ _ <| sgC fun K4 hK4=>QaU (ints .u8 ([])) 5 0 5 rfl kj kj fun g5 W1 l5 e1 r5_1=>?_
  have x1:=zbv (zbr w) e1
  have b5:=qT (zbr w).size l5
  refine sg 1 kj <| Qbk (k:=.u8) (T:=5) (xs:=[]) (ys:=text) (V:=w) 1 (.tmp 5) (.tmp 6) 33 rfl kj kj (by decide) 7 rfl kj kj kj (Qcu (xs:=[]) rfl l5 r5_1 (by decide)) (RdK.ext ht x1) (by simp; omega) (zbs (zbr w) e1) fun u1 W2 f6 y2 l2=>?_
  refine sg 1 kj <| sgN hK4 <| wp_ret ?_
  repeat (first | with_reducible refine goR1 ?_ | with_reducible refine goR2 ?_)
  exact (show bodyPost _ _ _ .ret _ _ from ret1 (u1) rfl (Qaz kj) ⟨_,rfl,(Ext.low x1 l2 (zbr w).size),f6⟩)
theorem Qok (text : List Int) (v:Value) (B:Nat) (w:World) (htl:text.length≤900000000) (ht:RdK .u8 B text v w):Calls Tryd.prog 71 #[v] w (QbF w (OwnN .u8 5 w.heap.size text)):=by
  obtain ⟨a,c,rfl,h1,h2,h3,h4⟩:=id ht
  cases a with
  | none =>
    obtain rfl:=h3 rfl
    obtain rfl:text=[]:=List.length_eq_zero_iff.1 (by omega)
    exact Qnb w
  | some ad=>exact Qna text ad c B w htl ht
theorem QoE (k1 k2:List Int) (num:Int) (w:World) (h1:k1.length=32) (h2:k2.length=12):Calls Tryd.prog 55 #[.agg (cat [ints .u8 (k1),ints .u8 (k2)]),.int .i64 num] w (QbF w (fun v W=>∃ u,v=.agg (cat [#[.int .i64 num],ints .u8 k1,#[u]])∧OwnN .u8 5 w.heap.size k2 u W)):=by
  refine enter 12 [(0,.agg (cat [ints .u8 (k1),ints .u8 (k2)])),(1,.int .i64 num)] Tryd.func55 rfl rfl kj rfl <| sgC fun K1 hK1=>Qar (cat [ints .u8 (k1),ints .u8 (k2)]) 114 2 rfl kj kj fun g2 W1 l2 e1 r2_1=>?_
  have x1:=zbv (zbr w) e1
  have b2:=qT (zbr w).size l2
  refine Qar (cat [#[.int .i64 0],ints .u8 (zaa 32 0),#[.slice none 0 0]]) 60 4 rfl kj kj fun g3 W2 l3 e2 r3_2=>sgN hK1 <| wp_seq_k fun K4 hK4=>?_
  have r2_2:=(Qaa r2_1 e2)
  refine Wm.region_walkM (fun W=>W.heap[g2]? = some (.cells (cat [ints .u8 (k1),ints .u8 (k2)]) 114)) 7 kj fun W3 e3=>⟨Qaa r2_2 e3,?_⟩
  have x3:=zbv (zbv x1 e2) e3
  refine Wm.wm_val 0 (.int .i64 num) 5 rfl rfl kj kj (by decide) kj (fun _ _ _ h=>h) (fun W hR=>by kernel_rfl) <| Wm.wm_val 1 (.slice (some ⟨g2,0,none⟩) 32 44) 6 rfl rfl kj kj (by decide) kj (fun _ _ _ h=>h) (fun W hR=>(Qb3 114 _ _ _ 0 32 44 g2 0 5 rfl kj kj kj rfl ⟨.i64,by kernel_rfl⟩ (by decide) (by decide) (by decide))) <| Wm.wm_val 2 (.pointer (some ⟨g2,0,none⟩)) 7 rfl rfl kj kj (by decide) kj (fun _ _ _ h=>h) (fun W hR=>(run_sap 58 _ 32 5 (a:=some ⟨g2,0,none⟩) (len:=32) (cap:=44) rfl kj kj (qR _))) <| Wm.wm_val 3 (.agg (ints .u8 (k1))) 8 rfl rfl kj kj (by decide) kj (fun _ _ _ h=>h) (fun W hR=>(Qa0 58 _ g2 0 114 _ _ _ hR rfl kj (Qam [] [ints .u8 (k1)] [ints .u8 (k2)] 0 kj) kj (isz (n:=32) kj (izT h1)))) <| Wm.wm_val 4 (.slice (some ⟨g2,32,none⟩) 12 12) 9 rfl rfl kj kj (by decide) kj (fun _ _ _ h=>h) (fun W hR=>(Qb3 114 _ _ _ 32 44 44 g2 0 5 rfl kj kj kj ⟨.i64,by kernel_rfl⟩ rfl (by decide) (by decide) (by decide))) ?_
  have r2_3:=(Qaa r2_2 e3)
  refine Wm.wm_call 5 kj rfl (fun v W'=>(OwnN .u8 5 W3.heap.size k2) v W'∧Ext W3 W') 71 #[.slice (some ⟨g2,32,none⟩) 12 12] 10 rfl kj kj ((Qok k2 _ _ _ (by rw [h2]; decide) (QdK 32 h2 r2_3 (fun i hi=>QdB [ints .u8 (k1)] [] k2 32 i (32+i) (izT h1) rfl (by rw [h2]; exact hi)) (Qaq r2_3) (qR _) (by decide))).mono (by rintro e w' ⟨v,rfl,e1,hv⟩; exact ⟨v,rfl,hv,e1⟩)) (fun v W h=>Qaa r2_3 h.2) fun vv5 W4 hh5=>?_
  obtain ⟨hv5,e4⟩:=hh5
  obtain ⟨au,cu,rfl,-⟩:=id (zby hv5)
  refine Wm.wm_val 6 (.agg (cat [#[.int .i64 num],ints .u8 (k1),#[.slice au k2.length cu]])) 11 rfl rfl kj kj (by decide) kj (fun _ _ _ h=>h) (fun W hR=>(Qfz 60 _ (.agg (cat [#[.int .i64 0],ints .u8 (zaa 32 0),#[.slice none 0 0]])) #[(0,1),(1,32),(33,1)] [(0,1,.int .i64 num,#[.int .i64 num]),(1,32,.agg (ints .u8 (k1)),ints .u8 (k1)),(2,1,.slice au k2.length cu,#[.slice au k2.length cu])] rfl kj ⟨kj,rfl,kj,kj,rfl,(izT h1),kj,rfl,kj,trivial⟩ kj kj kj kj)) ?_
  have r3_3:=(Qaa r3_2 e3)
  have r3_4:=(Qaa r3_3 e4)
  refine Wm.wm_store g3 _ (cat [#[.int .i64 num],ints .u8 (k1),#[.slice au k2.length cu]]) 60 r3_4 kj kj rfl rfl kj (Qao 60 _ _ g3 60 _ _ r3_4 rfl kj kj (isz (n:=34) kj (by rw [Qac,Qac,Qac]; simp only [qS,cat,(izT h1)]; rfl)) (eqsz (n:=34) (by rw [Qac,Qac,Qac]; simp only [qS,cat,(izT (qZ (n:=32)))]; rfl) (by rw [Qac,Qac,Qac]; simp only [qS,cat,(izT h1)]; rfl)) (Qbn _ (by intro a ha; simp only [zas,zat,or_false] at ha; rcases ha with rfl | rfl | rfl; exact (Qa6 _ rfl); exact (Qay _ _); exact (Qa6 _ rfl)))) fun W5 p5 r3_5=>?_
  refine hK4 _ _ <| wp_ret ?_
  repeat (first | with_reducible refine goR1 ?_ | with_reducible refine goR2 ?_)
  exact (show bodyPost _ _ _ .ret _ _ from ret1 (.agg (cat [#[.int .i64 num],ints .u8 (k1),#[.slice au k2.length cu]])) rfl (QaP g3 60 _ r3_5 kj kj (isz (n:=34) kj (by rw [Qac,Qac,Qac]; simp only [qS,cat,(izT h1)]; rfl))) ⟨_,rfl,(zbu p5 (zbv x3 e4) (qT x1.size l3)),_,rfl,(OwnN.puts hv5 p5 (fun e=>by have h8:=OwnN.ge hv5 e; have h9:=Qaq r3_3; omega)).base x3.size⟩)
theorem QnR (mv : List Int) (num:Int) (w:World) (hl:mv.length=44):Calls Tryd.prog 55 #[.agg (ints .u8 mv),.int .i64 num] w (QbF w (QbA w.heap.size num mv)):=by
  rw [Qlx .u8 mv 32]
  exact QoE (mv.take 32) (mv.drop 32) num w (by rw [zbk]; omega) (by rw [List.length_drop]; omega)
end Cn
end
section
namespace Cn
open Go Go.RowKit
open Rely Auto Own Sha
theorem QbP {k : IntKind} {T:TypeId} {base g:Nat} {xs:List Int} {v:Value} {W:World} (h:OwnN k T base xs v W) (hg:g<base):v.ownBlock≠some g:=fun e=>by
  have:=h.ge e
  omega
theorem ownN_but {k : IntKind} {T:TypeId} {b g:Nat} {xs:List Int} {v:Value} {W W':World} (h:OwnN k T b xs v W) (q:ExtB g W W') (hn:v.ownBlock≠some g):OwnN k T b xs v W':=h.keep fun k hk=>q.2.2.2.2 k (h.lt hk) (fun e=>hn (by rw [hk,e]))
theorem QaX {l : List Int} (h:l.length=44):(l.take 32).length=32:=by rw [zbk,h]; rfl
def chkC (nx : Int) (B pl:Nat) (n:Int):Int:=if chkW nx B n≠0 then chkW nx B n else if ((pl:Nat):Int)+256<n then 12 else 0
theorem QlI (g : Nat) (nx:Int) (B:Nat) (n:Int) (hnx:0≤nx∧nx≤4294967295) (hB:B<18446744073709551616) (sec:List Int) (pl mg:Nat) (hsec:sec.length=32) (w:World) (hg:w.heap[g]? = some (.cells (cat [#[.int .i64 nx],#[.int .u64 ((B:Nat):Int)],ints .u8 (sec),#[.int .i64 ((pl:Nat):Int)],#[.map (some mg)]]) 82)) (hc:chkW nx B n≠0):Calls Tryd.prog 37 #[.pointer (some ⟨g,0,none⟩),.int .i64 n] w (Ret w (.iface 41 (.int .i64 (chkW nx B n)))):=by
  refine enter 22 [(0,.pointer (some ⟨g,0,none⟩)),(1,.int .i64 n)] Tryd.func37 rfl rfl kj rfl <| sgB kj <| wp_seq_k fun K3 hK3=>sgC fun K4 hK4=>sg 4 kj <| Qau (.iface 41 (.int .i64 (chkW nx B n))) 54 #[.pointer (some ⟨g,0,none⟩),.int .i64 n] 10 rfl kj kj (Qhz hc▸QkG g nx B n hnx hB sec pl mg hsec _ hg) fun W1 e1=>sg 1 kj <| sgN hK4 <| sgB kj <| cond_true kj ?_
  refine sgB kj <| wp_ret ?_
  repeat (first | with_reducible refine goR1 ?_ | with_reducible refine goR2 ?_)
  exact (show bodyPost _ _ _ .ret _ _ from ret1 (.iface 41 (.int .i64 (chkW nx B n))) rfl (Qaz kj) ⟨rfl,(zbv (zbr w) e1)⟩)
theorem QlH (g : Nat) (nx:Int) (B:Nat) (n:Int) (hnx:0≤nx∧nx≤4294967295) (hB:B<18446744073709551616) (sec:List Int) (pl mg:Nat) (hsec:sec.length=32) (w:World) (hg:w.heap[g]? = some (.cells (cat [#[.int .i64 nx],#[.int .u64 ((B:Nat):Int)],ints .u8 (sec),#[.int .i64 ((pl:Nat):Int)],#[.map (some mg)]]) 82)) (hc:chkW nx B n=0) (hp:pl≤4294967295) (hf:((pl:Nat):Int)+256<n):Calls Tryd.prog 37 #[.pointer (some ⟨g,0,none⟩),.int .i64 n] w (Ret w (.iface 41 (.int .i64 12))):=by
  refine enter 22 [(0,.pointer (some ⟨g,0,none⟩)),(1,.int .i64 n)] Tryd.func37 rfl rfl kj rfl <| sgB kj <| wp_seq_k fun K3 hK3=>sgC fun K4 hK4=>sg 4 kj <| Qau (.nilIface) 54 #[.pointer (some ⟨g,0,none⟩),.int .i64 n] 10 rfl kj kj (QdD hc▸QkG g nx B n hnx hB sec pl mg hsec _ hg) fun W1 e1=>sg 1 kj <| sgN hK4 <| sgB kj <| cond_false kj ?_
  refine wp_skip <| hK3 _ _ <| wp_seq_k fun K6 hK6=>sgC fun K7 hK7=>sg 4 kj <| Qab (.int .i64 ((pl:Nat):Int)) 18 rfl kj (Qad 3 _ g 34 82 _ (.int .i64 ((pl:Nat):Int)) _ (Qaa hg e1) rfl kj (Qam [#[.int .i64 nx],#[.int .u64 ((B:Nat):Int)],ints .u8 (sec)] [#[.int .i64 ((pl:Nat):Int)]] [#[.map (some mg)]] 34 (by rw [Qac,Qac,Qac]; simp only [qS,cat,(izT hsec)]; rfl) 0 _ rfl) kj) ?_
  refine Qab (.int .i64 (((pl:Nat):Int)+256)) 19 rfl kj (Qah (u:=.int .i64 (zam.wrap (((pl:Nat):Int)+256))) kj (congrArg (zag .i64) (QbJ _ (by omega)))) <| Qab (.bool true) 20 rfl kj (Qah (u:=.bool (decide (n>(((pl:Nat):Int)+256)))) kj (congrArg zau (decide_eq_true (by omega)))) <| sgN hK7 <| cond_true kj <| sgB kj <| wp_ret ?_
  repeat (first | with_reducible refine goR1 ?_ | with_reducible refine goR2 ?_)
  exact (show bodyPost _ _ _ .ret _ _ from ret1 (.iface 41 (.int .i64 12)) rfl (Qaz kj) ⟨rfl,(zbv (zbr w) e1)⟩)
theorem QlG (g : Nat) (nx:Int) (B:Nat) (n:Int) (hnx:0≤nx∧nx≤4294967295) (hB:B<18446744073709551616) (sec:List Int) (pl mg:Nat) (hsec:sec.length=32) (w:World) (hg:w.heap[g]? = some (.cells (cat [#[.int .i64 nx],#[.int .u64 ((B:Nat):Int)],ints .u8 (sec),#[.int .i64 ((pl:Nat):Int)],#[.map (some mg)]]) 82)) (hc:chkW nx B n=0) (hp:pl≤4294967295) (hf:¬ ((pl:Nat):Int)+256<n):Calls Tryd.prog 37 #[.pointer (some ⟨g,0,none⟩),.int .i64 n] w (Ret w (.nilIface)):=by
  refine enter 22 [(0,.pointer (some ⟨g,0,none⟩)),(1,.int .i64 n)] Tryd.func37 rfl rfl kj rfl <| sgB kj <| wp_seq_k fun K3 hK3=>sgC fun K4 hK4=>sg 4 kj <| Qau (.nilIface) 54 #[.pointer (some ⟨g,0,none⟩),.int .i64 n] 10 rfl kj kj (QdD hc▸QkG g nx B n hnx hB sec pl mg hsec _ hg) fun W1 e1=>sg 1 kj <| sgN hK4 <| sgB kj <| cond_false kj ?_
  refine wp_skip <| hK3 _ _ <| wp_seq_k fun K6 hK6=>sgC fun K7 hK7=>sg 4 kj <| Qab (.int .i64 ((pl:Nat):Int)) 18 rfl kj (Qad 3 _ g 34 82 _ (.int .i64 ((pl:Nat):Int)) _ (Qaa hg e1) rfl kj (Qam [#[.int .i64 nx],#[.int .u64 ((B:Nat):Int)],ints .u8 (sec)] [#[.int .i64 ((pl:Nat):Int)]] [#[.map (some mg)]] 34 (by rw [Qac,Qac,Qac]; simp only [qS,cat,(izT hsec)]; rfl) 0 _ rfl) kj) ?_
  refine Qab (.int .i64 (((pl:Nat):Int)+256)) 19 rfl kj (Qah (u:=.int .i64 (zam.wrap (((pl:Nat):Int)+256))) kj (congrArg (zag .i64) (QbJ _ (by omega)))) <| Qab (.bool false) 20 rfl kj (Qah (u:=.bool (decide (n>(((pl:Nat):Int)+256)))) kj (congrArg zau (decide_eq_false (by omega)))) <| sgN hK7 <| cond_false kj <| wp_skip <| hK6 _ _ <| sgB kj <| wp_ret ?_
  repeat (first | with_reducible refine goR1 ?_ | with_reducible refine goR2 ?_)
  exact (show bodyPost _ _ _ .ret _ _ from ret1 (.nilIface) rfl (Qaz kj) ⟨rfl,(zbv (zbr w) e1)⟩)
theorem Qnc (g : Nat) (nx:Int) (B:Nat) (n:Int) (hnx:0≤nx∧nx≤4294967295) (hB:B<18446744073709551616) (sec:List Int) (pl mg:Nat) (hsec:sec.length=32) (w:World) (hg:w.heap[g]? = some (.cells (cat [#[.int .i64 nx],#[.int .u64 ((B:Nat):Int)],ints .u8 (sec),#[.int .i64 ((pl:Nat):Int)],#[.map (some mg)]]) 82)) (hp:pl≤4294967295):Calls Tryd.prog 37 #[.pointer (some ⟨g,0,none⟩),.int .i64 n] w (Ret w (errV (chkC nx B pl n))):=by
  unfold chkC
  by_cases hc:chkW nx B n=0
  · rw [if_neg (fun h=>h hc)]
    by_cases hf:((pl:Nat):Int)+256<n
    · rw [if_pos hf]; exact QlH g nx B n hnx hB sec pl mg hsec w hg hc hp hf
    · rw [if_neg hf]; exact QlG g nx B n hnx hB sec pl mg hsec w hg hc hp hf
  · rw [if_pos hc,Qhz hc]; exact QlI g nx B n hnx hB sec pl mg hsec w hg hc
theorem Qmg (g : Nat) (nx:Int) (B:Nat) (hnx:0≤nx∧nx≤4294967295) (hB:B<18446744073709551616) (sec:List Int) (pl mg:Nat) (hsec:sec.length=32) (w:World) (hg:w.heap[g]? = some (.cells (cat [#[.int .i64 nx],#[.int .u64 ((B:Nat):Int)],ints .u8 (sec),#[.int .i64 ((pl:Nat):Int)],#[.map (some mg)]]) 82)) (ms:List (Int×List Int)) (hmo:MsOk ms) (hmp:MpAt mg (ms.map mpv) w) (tc tq:TypeId) (hc:w.heap[4]? = some (.cells (ints .u64 QaR) tc)) (hq:w.heap[3]? = some (.cells (ints .u64 Qa9) tq)) (hsb:Qai sec) (n:Int) (hn:n<((pl:Nat):Int)):Calls Tryd.prog 38 #[.pointer (some ⟨g,0,none⟩),.int .i64 n] w (QbF w (QbA w.heap.size n (lget ms n))):=by
  obtain ⟨es5,cl5,hes5,hM5⟩:=id hmp
  refine enter 39 [(0,.pointer (some ⟨g,0,none⟩)),(1,.int .i64 n)] Tryd.func38 rfl rfl kj rfl <| sgC fun K6 hK6=>Qar (cat [#[.int .i64 0],ints .u8 (zaa 32 0),#[.slice none 0 0]]) 60 4 rfl kj kj fun g7 W1 l7 e1 r7_1=>?_
  have x1:=zbv (zbr w) e1
  refine sgN hK6 <| wp_seq_k fun K8 hK8=>sgC fun K9 hK9=>sg 4 kj ?_
  have r1_1:=(Qaa hg e1)
  refine Qab (.int .i64 ((pl:Nat):Int)) 10 rfl kj (Qad 3 _ g 34 82 _ (.int .i64 ((pl:Nat):Int)) _ r1_1 rfl kj (Qam [#[.int .i64 nx],#[.int .u64 ((B:Nat):Int)],ints .u8 (sec)] [#[.int .i64 ((pl:Nat):Int)]] [#[.map (some mg)]] 34 (by rw [Qac,Qac,Qac]; simp only [qS,cat,(izT hsec)]; rfl) 0 _ rfl) kj) ?_
  refine Qab (.bool true) 11 rfl kj (Qah (u:=.bool (decide (n<((pl:Nat):Int)))) kj (congrArg zau (decide_eq_true (by omega)))) <| sgN hK9 <| cond_true kj <| sgC fun K10 hK10=>sg 3 kj <| Qab (.map (some mg)) 15 rfl kj (Qad 80 _ g 35 82 _ (.map (some mg)) _ r1_1 rfl kj (Qam [#[.int .i64 nx],#[.int .u64 ((B:Nat):Int)],ints .u8 (sec),#[.int .i64 ((pl:Nat):Int)]] [#[.map (some mg)]] [] 35 (by rw [Qac,Qac,Qac,Qac]; simp only [qS,cat,(izT hsec)]; rfl) 0 _ rfl) kj) ?_
  refine sg 1 kj <| Qab (.agg (ints .u8 (lget ms n))) 17 rfl kj (QhX ms n▸Qj1 (kt:=3) (et:=114) (ms:=ms.map mpv) (n:=n) (z:=.agg (ints .u8 (zaa 44 0))) 80 _ _ rfl kj kj kj kj ⟨_,_,(Qaa hes5 e1),hM5⟩ kj) <| sg 1 kj <| Qav (fun v W'=>(QbA W1.heap.size n (lget ms n)) v W'∧Ext W1 W') 55 #[.agg (ints .u8 (lget ms n)),.int .i64 n] 19 rfl kj kj ((QnR (lget ms n) n _ (QcM hmo n).1).mono (by rintro e w' ⟨v,rfl,e1,hv⟩; exact ⟨v,rfl,hv,e1⟩)) fun vv11 W2 hh11=>?_
  obtain ⟨hv11,e2⟩:=hh11
  obtain ⟨u12,rfl,hu12⟩:=hv11
  obtain ⟨a12_,c12_,rfl,-⟩:=id (zby hu12)
  have r7_2:=(Qaa r7_1 e2)
  refine Qan g7 _ (cat [#[.int .i64 n],ints .u8 ((lget ms n).take 32),#[.slice a12_ (((lget ms n).drop 32).length) c12_]]) 60 r7_2 rfl kj (Qao 60 _ _ g7 60 _ _ r7_2 rfl kj kj (isz (n:=34) kj (by rw [Qac,Qac,Qac]; simp only [qS,cat,(izT (QaX (QcM hmo n).1))]; rfl)) (eqsz (n:=34) (by rw [Qac,Qac,Qac]; simp only [qS,cat,(izT (qZ (n:=32)))]; rfl) (by rw [Qac,Qac,Qac]; simp only [qS,cat,(izT (QaX (QcM hmo n).1))]; rfl)) (Qbn _ (by intro a ha; simp only [zas,zat,or_false] at ha; rcases ha with rfl | rfl | rfl; exact (Qa6 _ rfl); exact (Qay _ _); exact (Qa6 _ rfl)))) fun W3 p3 r7_3=>?_
  refine sgN hK10 <| wp_ret ?_
  repeat (first | with_reducible refine goR1 ?_ | with_reducible refine goR2 ?_)
  exact (show bodyPost _ _ _ .ret _ _ from ret1 (.agg (cat [#[.int .i64 n],ints .u8 ((lget ms n).take 32),#[.slice a12_ (((lget ms n).drop 32).length) c12_]])) rfl (QaP g7 60 _ r7_3 kj kj (isz (n:=34) kj (by rw [Qac,Qac,Qac]; simp only [qS,cat,(izT (QaX (QcM hmo n).1))]; rfl))) ⟨_,rfl,(zbu p3 (zbv x1 e2) (qT (zbr w).size l7)),_,rfl,zbx x1.size (hu12.puts p3 (QbP hu12 (Qaq r7_1)))⟩)
theorem Qmf (g : Nat) (nx:Int) (B:Nat) (hnx:0≤nx∧nx≤4294967295) (hB:B<18446744073709551616) (sec:List Int) (pl mg:Nat) (hsec:sec.length=32) (w:World) (hg:w.heap[g]? = some (.cells (cat [#[.int .i64 nx],#[.int .u64 ((B:Nat):Int)],ints .u8 (sec),#[.int .i64 ((pl:Nat):Int)],#[.map (some mg)]]) 82)) (ms:List (Int×List Int)) (hmo:MsOk ms) (hmp:MpAt mg (ms.map mpv) w) (tc tq:TypeId) (hc:w.heap[4]? = some (.cells (ints .u64 QaR) tc)) (hq:w.heap[3]? = some (.cells (ints .u64 Qa9) tq)) (hsb:Qai sec) (n:Nat) (hp:pl≤4294967295) (hm:n≤4294967294) (hn:pl≤n):Calls Tryd.prog 38 #[.pointer (some ⟨g,0,none⟩),.int .i64 ((n:Nat):Int)] w (QbF w (QbA w.heap.size ((n:Nat):Int) (keyV (itV sec (n-pl))))):=by
 obtain ⟨es5,cl5,hes5,hM5⟩:=id hmp
 refine enter 39 [(0,.pointer (some ⟨g,0,none⟩)),(1,.int .i64 ((n:Nat):Int))] Tryd.func38 rfl rfl kj rfl <| sgC fun K6 hK6=>Qar (cat [#[.int .i64 0],ints .u8 (zaa 32 0),#[.slice none 0 0]]) 60 4 rfl kj kj fun g7 W1 l7 e1 r7_1=>?_
 have x1:=zbv (zbr w) e1
 refine sgN hK6 <| wp_seq_k fun K8 hK8=>sgC fun K9 hK9=>sg 4 kj ?_
 have r1_1:=(Qaa hg e1)
 refine Qab (.int .i64 ((pl:Nat):Int)) 10 rfl kj (Qad 3 _ g 34 82 _ (.int .i64 ((pl:Nat):Int)) _ r1_1 rfl kj (Qam [#[.int .i64 nx],#[.int .u64 ((B:Nat):Int)],ints .u8 (sec)] [#[.int .i64 ((pl:Nat):Int)]] [#[.map (some mg)]] 34 (by rw [Qac,Qac,Qac]; simp only [qS,cat,(izT hsec)]; rfl) 0 _ rfl) kj) ?_
 refine Qab (.bool false) 11 rfl kj (Qah (u:=.bool (decide (((n:Nat):Int)<((pl:Nat):Int)))) kj (congrArg zau (decide_eq_false (by omega)))) <| sgN hK9 <| cond_false kj <| wp_skip <| hK8 _ _ <| sgC fun K10 hK10=>sg 3 kj <| Qab (.agg (ints .u8 (sec))) 23 rfl kj (Qa0 29 _ g 2 82 _ _ _ r1_1 rfl kj (Qam [#[.int .i64 nx],#[.int .u64 ((B:Nat):Int)]] [ints .u8 (sec)] [#[.int .i64 ((pl:Nat):Int)],#[.map (some mg)]] 2 kj) kj (isz (n:=32) kj (izT hsec))) <| Qar (ints .u8 (zaa 32 0)) 29 5 rfl kj kj fun g11 W2 l11 e2 r11_2=>?_
 have b11:=qT x1.size l11
 refine Qan g11 _ (ints .u8 (sec)) 29 r11_2 rfl kj (Qao 29 _ _ g11 29 _ _ r11_2 rfl kj kj (isz (n:=32) kj (izT hsec)) (eqsz (n:=32) (izT (qZ (n:=32))) (izT hsec)) (Qay _ _)) fun W3 p3 r11_3=>sgN hK10 <| wp_seq_k fun K12 hK12=>sgC fun K13 hK13=>sg 4 kj <| Qab (.int .i64 ((pl:Nat):Int)) 28 rfl kj (Qad 3 _ g 34 82 _ (.int .i64 ((pl:Nat):Int)) _ (rpn p3 r1_1 e2 l11) rfl kj (Qam [#[.int .i64 nx],#[.int .u64 ((B:Nat):Int)],ints .u8 (sec)] [#[.int .i64 ((pl:Nat):Int)]] [#[.map (some mg)]] 34 (by rw [Qac,Qac,Qac]; simp only [qS,cat,(izT hsec)]; rfl) 0 _ rfl) kj) ?_
 refine Qab (.int .i64 (((n-pl:Nat):Int))) 29 rfl kj (Qah (u:=.int .i64 (zam.wrap (((n:Nat):Int)-((pl:Nat):Int)))) kj (congrArg (zag .i64) ((QbJ _ (by omega)).trans (by omega)))) <| sg 1 kj <| sgN hK13 <| wp_block <| QaF (fun (s1:Nat)=>[(0,.pointer (some ⟨g,0,none⟩)),(1,.int .i64 ((n:Nat):Int)),(4,.pointer (some ⟨g7,0,none⟩)),(5,.pointer (some ⟨g11,0,none⟩)),(29,.int .i64 (((n-pl:Nat):Int))),(30,.int .i64 ((s1:Nat):Int))]) (fun (s1:Nat) W=>(s1≤n-pl)∧(W.heap[g11]? = some (.cells (ints .u8 (itV sec s1)) 29))∧(Qaf [g11] W3 W)∧(Ext w W)) (fun (s1:Nat)=>n-pl-s1) 0 ⟨kj,kj,kj,kj,kj,kj,trivial⟩ ⟨(zav _),r11_3,(zbz [g11] W3),(zbu p3 (zbv x1 e2) b11)⟩ fun s1 X1 V1 hI1=>?_
 obtain ⟨i,hs1⟩:∃ z,z=s1:=⟨_,rfl⟩
 subst hs1
 obtain ⟨hi,q11_1,kk1,xx1⟩:=hI1
 replace hi:i≤n-pl:=hi
 replace q11_1:V1.heap[g11]? = some (.cells (ints .u8 (itV sec i)) 29):=q11_1
 replace kk1:Qaf [g11] W3 V1:=kk1
 replace xx1:Ext w V1:=xx1
 have q4:=kk1
 refine sgB kj <| wp_seq_k fun K15 hK15=>Qa2 (t:=decide (((i:Nat):Int)<((n-pl:Nat):Int))) kj (fun c16=>?_) (fun c16=>?_)
 ·skip
  have hlt31:i<(n-pl):=by have:=of_decide_eq_true c16; omega
  refine wp_skip <| hK15 _ _ <| wp_seq_k fun K17 hK17=>wp_block <| Qae <| Qab (.agg (ints .u8 (itV sec i))) 32 rfl kj (Qap 29 _ g11 29 _ _ q11_1 rfl kj kj (isz (n:=32) kj (izT (Qa4 hsec i)))) ?_
  have r2_1:=(Qaa hc e1)
  have r2_2:=(Qaa r2_1 e2)
  have r2_3:=(zbt p3 r2_2 (Qag r2_1 l11))
  have r2_4:=(zb0 q4 r2_3 (Qax (Qag r2_1 l11) QaE))
  have r3_1:=(Qaa hq e1)
  have r3_2:=(Qaa r3_1 e2)
  have r3_3:=(zbt p3 r3_2 (Qag r3_1 l11))
  have r3_4:=(zb0 q4 r3_3 (Qax (Qag r3_1 l11) QaE))
  refine Qau (.agg (ints .u8 (itV sec (i+1)))) 56 #[.agg (ints .u8 (itV sec i))] 33 rfl kj kj (Qfo (itV sec i) tc tq _ r2_4 r3_4 (Qa4 hsec _) (Qb0 hsb _)) fun W5 e5=>?_
  have x5:=zbv xx1 e5
  have r11_5:=(Qaa q11_1 e5)
  refine Qan g11 _ (ints .u8 (itV sec (i+1))) 29 r11_5 rfl kj (Qao 29 _ _ g11 29 _ _ r11_5 rfl kj kj (isz (n:=32) kj (izT (Qa4 hsec (i+1)))) (eqsz (n:=32) (izT (Qa4 hsec i)) (izT (Qa4 hsec (i+1)))) (Qay _ _)) fun W6 p6 r11_6=>?_
  have x6:=zbu p6 x5 b11
  refine Qal <| hK17 _ _ <| Qae <| Qab (.int .i64 ((i+1:Nat):Int)) 34 rfl kj (Qah (u:=.int .i64 (zam.wrap (((i:Nat):Int)+1))) kj (congrArg (zag .i64) (i64n _ _ (by omega) (by omega)))) <| sg 1 kj <| Qal ?_
  repeat (first | with_reducible refine goX1 ?_ | with_reducible refine goX2 ?_ | with_reducible refine goX3 ?_)
  exact Qa5 (i+1) ⟨kj,kj,kj,kj,kj,kj,trivial⟩ ⟨(by omega),r11_6,(zb2 (zb1 q4 e5) p6 (.inl (by simp))),x6⟩ (by omega)
 ·skip
  have heq31:i=(n-pl):=by have:=of_decide_eq_false c16; omega
  have r11_4_18:V1.heap[g11]? = some (.cells (ints .u8 (itV sec (n-pl))) 29):=QaH q11_1 (by rw [heq31])
  refine wp_exit <| hK12 _ _ <| sgC fun K19 hK19=>Qab (.agg (ints .u8 (itV sec (n-pl)))) 35 rfl kj (Qap 29 _ g11 29 _ _ r11_4_18 rfl kj kj (isz (n:=32) kj (izT (Qa4 hsec (n-pl))))) ?_
  have r2_1:=(Qaa hc e1)
  have r2_2:=(Qaa r2_1 e2)
  have r2_3:=(zbt p3 r2_2 (Qag r2_1 l11))
  have r2_4:=(zb0 q4 r2_3 (Qax (Qag r2_1 l11) QaE))
  have r3_1:=(Qaa hq e1)
  have r3_2:=(Qaa r3_1 e2)
  have r3_3:=(zbt p3 r3_2 (Qag r3_1 l11))
  have r3_4:=(zb0 q4 r3_3 (Qax (Qag r3_1 l11) QaE))
  refine Qau (.agg (ints .u8 (keyV (itV sec (n-pl))))) 57 #[.agg (ints .u8 (itV sec (n-pl)))] 36 rfl kj kj (Qkb (itV sec (n-pl)) tc tq _ r2_4 r3_4 (Qa4 hsec _) (Qb0 hsb _)) fun W5 e5=>?_
  have x5:=zbv xx1 e5
  refine sg 1 kj <| Qav (fun v W'=>(QbA W5.heap.size ((n:Nat):Int) (keyV (itV sec (n-pl)))) v W'∧Ext W5 W') 55 #[.agg (ints .u8 (keyV (itV sec (n-pl)))),.int .i64 ((n:Nat):Int)] 38 rfl kj kj ((QnR (keyV (itV sec (n-pl))) ((n:Nat):Int) _ (QaI _)).mono (by rintro e w' ⟨v,rfl,e1,hv⟩; exact ⟨v,rfl,hv,e1⟩)) fun vv20 W6 hh20=>?_
  obtain ⟨hv20,e6⟩:=hh20
  have x6:=zbv x5 e6
  obtain ⟨u21,rfl,hu21⟩:=hv20
  obtain ⟨a21_,c21_,rfl,-⟩:=id (zby hu21)
  have r7_5:=(Qaa (zb0 q4 (rpn p3 r7_1 e2 l11) (Qax (Qag r7_1 l11) QaE)) e5)
  have r7_6:=(Qaa r7_5 e6)
  refine Qan g7 _ (cat [#[.int .i64 ((n:Nat):Int)],ints .u8 ((keyV (itV sec (n-pl))).take 32),#[.slice a21_ (((keyV (itV sec (n-pl))).drop 32).length) c21_]]) 60 r7_6 rfl kj (Qao 60 _ _ g7 60 _ _ r7_6 rfl kj kj (isz (n:=34) kj (by rw [Qac,Qac,Qac]; simp only [qS,cat,(izT (QaX (QaI _)))]; rfl)) (eqsz (n:=34) (by rw [Qac,Qac,Qac]; simp only [qS,cat,(izT (qZ (n:=32)))]; rfl) (by rw [Qac,Qac,Qac]; simp only [qS,cat,(izT (QaX (QaI _)))]; rfl)) (Qbn _ (by intro a ha; simp only [zas,zat,or_false] at ha; rcases ha with rfl | rfl | rfl; exact (Qa6 _ rfl); exact (Qay _ _); exact (Qa6 _ rfl)))) fun W7 p7 r7_7=>?_
  refine sgN hK19 <| wp_ret ?_
  repeat (first | with_reducible refine goR1 ?_ | with_reducible refine goR2 ?_)
  exact (show bodyPost _ _ _ .ret _ _ from ret1 (.agg (cat [#[.int .i64 ((n:Nat):Int)],ints .u8 ((keyV (itV sec (n-pl))).take 32),#[.slice a21_ (((keyV (itV sec (n-pl))).drop 32).length) c21_]])) rfl (QaP g7 60 _ r7_7 kj kj (isz (n:=34) kj (by rw [Qac,Qac,Qac]; simp only [qS,cat,(izT (QaX (QaI _)))]; rfl))) ⟨_,rfl,(zbu p7 x6 (qT (zbr w).size l7)),_,rfl,zbx x5.size (hu21.puts p7 (QbP hu21 (Qaq r7_5)))⟩)
end Cn
end
section
namespace Cn
open Go Go.RowKit
open Rely Auto Own Sha
theorem QhT {v : Value}:∀ c∈([]:List Nat),v.ownBlock≠some c:=fun _ h=>by simp at h
theorem Qdv {v : Value} {g:Nat} {gs:List Nat} (h:v.ownBlock≠some g) (h2:∀ c∈gs,v.ownBlock≠some c):∀ c∈g::gs,v.ownBlock≠some c:=fun c hc=>by
  rcases zas.1 hc with e | e
  · rw [e]; exact h
  · exact h2 c e
theorem _root_.Go.Proofs.YtioglfpngaddfaaDoor.Auto.OwnN.keepsL {k : IntKind} {T:TypeId} {base:Nat} {gs:List Nat} {xs:List Int} {v:Value} {V W:World} (h:OwnN k T base xs v V) (q:Qaf gs V W) (hn:∀ c∈gs,v.ownBlock≠some c):OwnN k T base xs v W :=
  h.keep fun g hg=>q.block g (h.lt hg) (fun hm=>hn g hm hg)
theorem run_extractT {P : Program} {ρ:Operand→Value} {o:Oper} {w:World} (x:Operand) (i:Nat) (vs:Array Value) (u:Value) (ho:o.op=.extract x i) (hx:ρ x=.tuple vs) (hi:vs[i]? = some u):(execOp ρ o).run P w=.ok (.value u) w:=by
  unfold execOp
  simp [ho,hx,Instr.extract,hi]
theorem nb_new {k : IntKind} {T:TypeId} {base g:Nat} {xs:List Int} {v:Value} {W:World} (h:OwnN k T base xs v W) (hg:W.heap.size≤g):v.ownBlock≠some g:=fun e=>by have:=h.lt e; omega
section
variable {P : Program} {ρ : Operand → Value} {o : Oper} {w : World}
theorem Qfw (t : TypeId) (x:Operand) {kt et:TypeId} {g:Nat} {es:Array MapEntry} {clock:Nat} (ho:o.op=.range t x) (hx:ρ x=.map (some g)) (ht:P.underlying t=some (.map kt et)) (hg:w.heap[g]? = some (.map es clock)) :
    (execOp ρ o).run P w=.ok (.value (.pointer (some ⟨w.heap.size,0,none⟩))) (w.alloc (.mapIter (some g) clock #[] clock)):=by
  have hgo:(getObj g).run P w=.ok (.map es clock) w:=by simp [getObj,Sem.run,hg]
  unfold execOp
  simp only [ho,hx,Instr.range,zac,run_underlying ht,hgo,zae,zad,run_newObj_alloc]
theorem Qgv (x : Operand) {r:Nat} {v:Value} {w1:World} (ho:o.op=.next x false) (hx:ρ x=.pointer (some ⟨r,0,none⟩)) (h:(Instr.next (.pointer (some ⟨r,0,none⟩)) false o.type).run P w=.ok v w1):(execOp ρ o).run P w=.ok (.value v) w1:=by
  unfold execOp
  simp only [ho,hx,zac,h,zae,zad]
theorem Qfx (x : Operand) {r:Nat} {v:Value} (ho:o.op=.entry x) (hx:ρ x=.pointer (some ⟨r,0,none⟩)) (h:(Instr.entry (.pointer (some ⟨r,0,none⟩))).run P w=.ok v w):(execOp ρ o).run P w=.ok (.value v) w:=by
  unfold execOp
  simp only [ho,hx,zac,h,zae,zad]
end
section
variable {ds : List Deferred} {P : Program} {ops : Array Oper} {Q : Exit → Act → World → Prop} {rest : List Oper} {o : Oper} {N : Nat} {L : Env} {w : World}
theorem QhD (ob : Obj) (mk:Nat→Value) (d:Nat) (hd:o.dst=some d) (hg:Qbm ops o N L=some true) (h:(execOp (Rely.look (envN N L)) o).run P w=.ok (.value (mk w.heap.size)) (w.alloc ob))
    (k:∀ (g:Nat) (W:World),w.heap.size≤g→Ext w W→W.heap[g]? = some ob→WL P ops Q rest (Qaw ds N ((d,mk g)::L)) W):WL P ops Q (o::rest) (Qaw ds N L) w :=
  Qbz _ _ d hd hg h (k _ _ (qR _) (Qbb _ _) (heap_alloc_new _ _))
theorem Qef (v : Value) (w':World) (hd:o.dst=none) (hg:Qbm ops o N L=some true) (h:(execOp (Rely.look (envN N L)) o).run P w=.ok (.value v) w') (k:WL P ops Q rest (Qaw ds N L) w'):WL P ops Q (o::rest) (Qaw ds N L) w :=
  Qfv hg fun K hK=>by
    rw [h]
    show K _ _
    rw [hd,show (Qaw ds N L).put none v=Qaw ds N L from rfl]
    exact hK _ _ k
theorem QhE (m k:Operand) (t:TypeId) {kt et:TypeId} {g:Nat} {n:Int} {ms:List (Int×Value)} (ho:o.op=.call { callee:=.builtin .delete,args:=#[m,k],argTypes:=#[t,kt] }) (hm:Rely.look (envN N L) m=.map (some g)) (hk:Rely.look (envN N L) k=.int .i64 n)
    (ht:P.underlying t=some (.map kt et)) (hkt:P.underlying kt=some (.int .i64)) (h:MpAt g ms w) (hd:o.dst=none) (hg:Qbm ops o N L=some true)
    (kk:∀ W',Puts w g W'→MpAt g (ms.filter fun p=>p.1 != n) W'→WL P ops Q rest (Qaw ds N L) W'):WL P ops Q (o::rest) (Qaw ds N L) w:=by
  obtain ⟨W',h1,h2,h3⟩:=QkW (ρ:=Rely.look (envN N L)) (o:=o) m k t ho hm hk ht hkt h
  exact Qef _ _ hd hg h1 (kk W' h2 h3)
theorem Qgp (m k:Operand) (t:TypeId) {kt et:TypeId} {g r:Nat} {lim x:Int} {es0:Array MapEntry} {c:Nat} {sn:Array Nat} {e:MapEntry} {m0:List (Int×Value)} (hM:MpW es0 c m0) (ho:o.op=.call { callee:=.builtin .delete,args:=#[m,k],argTypes:=#[t,kt] }) (hm:Rely.look (envN N L) m=.map (some g)) (hk:Rely.look (envN N L) k=.int .i64 x)
    (ht:P.underlying t=some (.map kt et)) (hkt:P.underlying kt=some (.int .i64)) (h:Qd2 g r lim es0 c sn e w) (hx:e.key=.int .i64 x) (hl:x<lim) (hd:o.dst=none) (hg:Qbm ops o N L=some true)
    (kk:∀ W',Puts w g W'→Qdp g r lim es0 c (sn.push e.born) W'→WL P ops Q rest (Qaw ds N L) W'):WL P ops Q (o::rest) (Qaw ds N L) w:=by
  obtain ⟨W',h1,h2,h3⟩:=h.drop hM hx hl (P:=P) (ty:=o.type) ht hkt
  have hr:(execOp (Rely.look (envN N L)) o).run P w=.ok (.value (.tuple #[])) W':=Qj2 m k t kt ho hm hk h1
  exact Qef _ _ hd hg hr (kk W' h2 h3)
theorem Qgo (x : Operand) {g r:Nat} {lim:Int} {es0:Array MapEntry} {c:Nat} {sn:Array Nat} {m0:List (Int×Value)} (hM:MpW es0 c m0) (ho:o.op=.next x false) (hx:Rely.look (envN N L) x=.pointer (some ⟨r,0,none⟩)) (h:Qdp g r lim es0 c sn w) (d:Nat) (hd:o.dst=some d) (hg:Qbm ops o N L=some true)
    (k0:MpAt g (m0.filter fun p=>decide (lim≤p.1)) w→WL P ops Q rest (Qaw ds N ((d,.tuple #[.bool false])::L)) w)
    (k1:∀ (e:MapEntry) (y:Int) (W:World),e.key=.int .i64 y→Puts w r W→Qd2 g r lim es0 c sn e W→(Instr.entry (.pointer (some ⟨r,0,none⟩))).run P W=.ok (.tuple #[.int .i64 y,e.val]) W→WL P ops Q rest (Qaw ds N ((d,.tuple #[.bool true,.int .i64 y,e.val])::L)) W):WL P ops Q (o::rest) (Qaw ds N L) w:=by
  rcases h.next hM (P:=P) o.type with ⟨h1,h2⟩ | ⟨e,y,W,h1,h2,h3,h4,h5⟩
  · exact Qbz _ _ d hd hg (Qgv x ho hx h1) (k0 h2)
  · exact Qbz _ _ d hd hg (Qgv x ho hx h2) (k1 e y W h1 h3 h4 h5)
end
theorem retG {P : Program} {f:FuncId} {a:Array Value} {w:World} {v:Value} (h:Calls P f a w (Ret w v)):Calls P f a w (QbF w fun u _=>u=v):=h.mono fun e W hh=>⟨v,hh.1,hh.2,rfl⟩
def msNo (ms : List (Int×List Int)) (n:Int):List (Int×List Int):=ms.filter fun p=>p.1 != n
def QiU (ms : List (Int×List Int)) (lim:Int):List (Int×List Int):=ms.filter fun p=>decide (lim≤p.1)
def Qc0 (sec : List Int) (pl n:Nat):Nat→List (Int×List Int)
  | 0=>[]
  | k+1=>Qc0 sec pl n k++(if pl+k<n∧n≤pl+k+64 then [(((pl+k:Nat):Int),keyV (itV sec k))] else [])
theorem Qit (sec : List Int) (pl n:Nat):∀ k,∀ p∈Qc0 sec pl n k,((pl:Nat):Int)≤p.1∧p.1<((pl+k:Nat):Int)
  | 0,p,h=>by cases h
  | k+1,p,h=>by
    rw [Qc0,za8] at h
    rcases h with h | h
    · have:=Qit sec pl n k p h; omega
    · split at h
      · rw [za6] at h; subst h; simp only; omega
      · cases h
theorem Qis {sec : List Int} {pl n k:Nat} (h:pl+k<n∧n≤pl+k+64):Qc0 sec pl n (k+1)=Qc0 sec pl n k++[(((pl+k:Nat):Int),keyV (itV sec k))]:=by rw [Qc0,if_pos h]
theorem Qgf {sec : List Int} {pl n k:Nat} (h:¬ (pl+k<n∧n≤pl+k+64)):Qc0 sec pl n (k+1)=Qc0 sec pl n k:=by rw [Qc0,if_neg h,zbl]
theorem QdC (q : Int→Bool) (ms:List (Int×List Int)):(ms.map mpv).filter (fun p=>q p.1)=(ms.filter fun p=>q p.1).map mpv:=QeI mpv (fun p=>q p.1) ms
theorem QjM {ms : List (Int×List Int)} {sec:List Int} {pl n k:Nat} (hlt:∀ p∈ms,p.1<((pl:Nat):Int)):((pl+k:Nat):Int)∉((ms++Qc0 sec pl n k).map mpv).map Prod.fst:=fun h=>by
  rw [zah,zaf] at h
  obtain ⟨p,hp,he⟩:=h
  rw [za8] at hp
  have he':p.1=((pl+k:Nat):Int):=he
  rcases hp with hp | hp
  · have:=hlt p hp; omega
  · have:=(Qit sec pl n k p hp).2; omega
theorem QgC {ms : List (Int×List Int)} {pl:Nat} {n:Int} (hlt:∀ p∈ms,p.1<((pl:Nat):Int)):∀ p∈msNo ms n,p.1<((pl:Nat):Int):=fun p hp=>hlt p (zaC.1 hp).1
theorem QfI {g r:Nat} {lim:Int} {es0:Array MapEntry} {c:Nat} {sn:Array Nat} {e:MapEntry} {W W':World} (h:Qd2 g r lim es0 c sn e W) (x:Ext W W'):Qd2 g r lim es0 c sn e W':=by
  obtain ⟨es,h1,h2,h3,h4⟩:=h
  exact ⟨es,h1,Qaa h2 x,Qaa h3 x,h4⟩
theorem QhO (a b:Nat) (ha:a<18446744073709551616) (hb:b<18446744073709551616):a|||b<18446744073709551616:=Nat.or_lt_two_pow (n:=64) ha hb
theorem Qn5 (g : Nat) (nx:Int) (B:Nat) (hnx:0≤nx∧nx≤4294967295) (hB:B<18446744073709551616) (sec:List Int) (pl mg:Nat) (hsec:sec.length=32) (w:World) (hg:w.heap[g]? = some (.cells (cat [#[.int .i64 nx],#[.int .u64 ((B:Nat):Int)],ints .u8 (sec),#[.int .i64 ((pl:Nat):Int)],#[.map (some mg)]]) 82)) (ms:List (Int×List Int)) (hmo:MsOk ms) (hmp:MpAt mg (ms.map mpv) w) (tc tq:TypeId) (hc:w.heap[4]? = some (.cells (ints .u64 QaR) tc)) (hq:w.heap[3]? = some (.cells (ints .u64 Qa9) tq)) (hsb:Qai sec) (n:Nat) (hm:n≤4294967294) (hp:pl≤4294967295) (hlt0:∀ p∈ms,p.1<((pl:Nat):Int)) (hcg:4≠g) (hsg:3≠g) (hc0:chkW nx B ((n:Nat):Int)=0) (hn:n<pl) (j:Nat) (hj:nx-1-((n:Nat):Int)-1=(j:Int)) (hj2:j<64):Calls Tryd.prog 40 #[.pointer (some ⟨g,0,none⟩),.int .i64 ((n:Nat):Int)] w (fun e W=>∃ v,e=.returned (.tuple #[v,.nilIface])∧Qaf [g,mg] w W∧W.heap[g]? = some (.cells (cat [#[.int .i64 nx],#[.int .u64 ((B|||2^j:Nat):Int)],ints .u8 (itV sec (n+1-pl)),#[.int .i64 ((pl+(n+1-pl):Nat):Int)],#[.map (some mg)]]) 82)∧MpAt mg ((QiU ((msNo ms ((n:Nat):Int))++Qc0 sec pl n (n+1-pl)) (nx-1-64)).map mpv) W∧QbA w.heap.size ((n:Nat):Int) (lget ms ((n:Nat):Int)) v W):=by
 have hcm:=MpAt.ne hmp hc
 have hsm:=MpAt.ne hmp hq
 have hgm:=MpAt.ne hmp hg
 have hl_g:=Qaq hg
 have hl_mg:=MpAt.lt hmp
 obtain ⟨es5,cl5,hes5,hM5⟩:=id hmp
 refine enter 97 [(0,.pointer (some ⟨g,0,none⟩)),(1,.int .i64 ((n:Nat):Int))] Tryd.func40 rfl rfl kj rfl <| sgC fun K6 hK6=>Qar (cat [#[.int .i64 0],ints .u8 (zaa 32 0),#[.slice none 0 0]]) 60 4 rfl kj kj fun g7 W1 l7 e1 r7_1=>?_
 have x1:Qaf [g,mg] w W1:=zb1 (zbz [g,mg] w) e1
 have b7:=qT (zbz [g,mg] w).size l7
 refine sg 1 kj <| sgN hK6 <| sgC fun K8 hK8=>sg 2 kj ?_
 have r2_1:=(Qaa hc e1)
 have r3_1:=(Qaa hq e1)
 have r1_1:=(Qaa hg e1)
 have r4_1:=(Qaa hes5 e1)
 refine Qav (fun v W'=>(QbA W1.heap.size ((n:Nat):Int) (lget ms ((n:Nat):Int))) v W'∧Ext W1 W') 38 #[.pointer (some ⟨g,0,none⟩),.int .i64 ((n:Nat):Int)] 11 rfl kj kj ((Qmg g nx B hnx hB sec pl mg hsec _ r1_1 ms hmo ⟨_,_,r4_1,hM5⟩ tc tq r2_1 r3_1 hsb ((n:Nat):Int) (by omega)).mono (by rintro e w' ⟨v,rfl,e1,hv⟩; exact ⟨v,rfl,hv,e1⟩)) fun vv9 W2 hh9=>?_
 obtain ⟨hv9,e2⟩:=hh9
 have x2:Qaf [g,mg] w W2:=zb1 x1 e2
 obtain ⟨u10,rfl,hu10⟩:=hv9
 obtain ⟨a10_,c10_,rfl,-⟩:=id (zby hu10)
 have nbg:=QbP hu10 (Qaq r1_1)
 have nbm:=QbP hu10 (Qaq r4_1)
 refine Qar (cat [#[.int .i64 0],ints .u8 (zaa 32 0),#[.slice none 0 0]]) 60 6 rfl kj kj fun g11 W3 l11 e3 r11_3=>?_
 have x3:Qaf [g,mg] w W3:=zb1 x2 e3
 have b11:=qT x2.size l11
 refine Qan g11 _ (cat [#[.int .i64 ((n:Nat):Int)],ints .u8 ((lget ms ((n:Nat):Int)).take 32),#[.slice a10_ (((lget ms ((n:Nat):Int)).drop 32).length) c10_]]) 60 r11_3 rfl kj (Qao 60 _ _ g11 60 _ _ r11_3 rfl kj kj (isz (n:=34) kj (by rw [Qac,Qac,Qac]; simp only [qS,cat,(izT (QaX (QcM hmo _).1))]; rfl)) (eqsz (n:=34) (by rw [Qac,Qac,Qac]; simp only [qS,cat,(izT (qZ (n:=32)))]; rfl) (by rw [Qac,Qac,Qac]; simp only [qS,cat,(izT (QaX (QcM hmo _).1))]; rfl)) (Qbn _ (by intro a ha; simp only [zas,zat,or_false] at ha; rcases ha with rfl | rfl | rfl; exact (Qa6 _ rfl); exact (Qay _ _); exact (Qa6 _ rfl)))) fun W4 p4 r11_4=>?_
 have x4:Qaf [g,mg] w W4:=zb2 x3 p4 (.inr b11)
 refine sgN hK8 <| wp_seq_k fun K12 hK12=>sgC fun K13 hK13=>sg 4 kj <| Qav (fun v W'=>v=.nilIface∧ExtB g W4 W'∧W'.heap[g]? = some (.cells (cat [#[.int .i64 nx],#[.int .u64 ((B|||2^j:Nat):Int)],ints .u8 (sec),#[.int .i64 ((pl:Nat):Int)],#[.map (some mg)]]) 82)) 58 #[.pointer (some ⟨g,0,none⟩),.int .i64 ((n:Nat):Int)] 16 rfl kj kj ((Qpd g nx B ((n:Nat):Int) hnx hB sec pl mg hsec _ (zbt p4 (Qaa (Qaa r1_1 e2) e3) (za7 (qL hl_g b11))) hc0 j hj hj2).mono fun e w' ⟨h1,h2,h3⟩=>⟨_,h1,rfl,h2,h3⟩) fun v W5 h=>?_
 obtain ⟨rfl,q5,r1_5⟩:=h
 have x5:Qaf [g,mg] w W5:=Qaf.but x4 q5 (.inl (by simp))
 refine sg 1 kj <| sgN hK13 <| sgB kj <| cond_false kj <| wp_skip <| hK12 _ _ <| sgC fun K15 hK15=>sg 3 kj <| Qab (.map (some mg)) 24 rfl kj (Qad 80 _ g 35 82 _ (.map (some mg)) _ r1_5 rfl kj (Qam [#[.int .i64 nx],#[.int .u64 ((B|||2^j:Nat):Int)],ints .u8 (sec),#[.int .i64 ((pl:Nat):Int)]] [#[.map (some mg)]] [] 35 (by rw [Qac,Qac,Qac,Qac]; simp only [qS,cat,(izT hsec)]; rfl) 0 _ rfl) kj) ?_
 refine sg 1 kj <| QhE (n:=((n:Nat):Int)) (.tmp 24) (.tmp 25) 80 (kt:=3) (et:=114) rfl kj kj kj kj ⟨_,_,(zbw q5 (zbt p4 (Qaa (Qaa r4_1 e2) e3) (za7 (qL hl_mg b11))) (Ne.symm hgm)),hM5⟩ rfl kj fun W6 p6 hmp=>?_
 have x6:Qaf [g,mg] w W6:=zb2 x5 p6 (.inl (by simp))
 replace hmp:MpAt mg ((msNo ms ((n:Nat):Int)).map mpv) W6:=by have h9:=hmp; rw [QdC (fun x=>x != ((n:Nat):Int))] at h9; exact h9
 obtain ⟨es16,cl16,hes16,hM16⟩:=id hmp
 refine sgN hK15 <| wp_seq_k fun K17 hK17=>wp_block ?_
 have n_7_1:g7≠g:=(Ne.symm (za7 (qL hl_g b7)))
 have n_7_4:g7≠mg:=(Ne.symm (za7 (qL hl_mg b7)))
 have n_11_1:g11≠g:=(Ne.symm (za7 (qL hl_g b11)))
 have n_11_4:g11≠mg:=(Ne.symm (za7 (qL hl_mg b11)))
 refine QaF (fun (s1:Nat)=>[(0,.pointer (some ⟨g,0,none⟩)),(1,.int .i64 ((n:Nat):Int)),(4,.pointer (some ⟨g7,0,none⟩)),(5,.nilIface),(6,.pointer (some ⟨g11,0,none⟩)),(7,.nilIface)]) (fun (s1:Nat) W=>(s1≤n+1-pl)∧(MpAt mg (((msNo ms ((n:Nat):Int))++Qc0 sec pl n s1).map mpv) W)∧(W.heap[g]? = some (.cells (cat [#[.int .i64 nx],#[.int .u64 ((B|||2^j:Nat):Int)],ints .u8 (itV sec s1),#[.int .i64 ((pl+s1:Nat):Int)],#[.map (some mg)]]) 82))∧(Qaf [g,mg] W6 W)∧(Qaf [g,mg] w W)) (fun (s1:Nat)=>n+1-pl-s1) 0 ⟨kj,kj,kj,kj,kj,kj,trivial⟩ ⟨(zav _),(by show MpAt mg (((msNo ms ((n:Nat):Int))++[]).map mpv) _; rw [zbl]; exact ⟨_,_,hes16,hM16⟩),(zbt p6 r1_5 hgm),(zbz [g,mg] W6),x6⟩ fun s1 X1 V1 hI1=>?_
 obtain ⟨k,hs1⟩:∃ z,z=s1:=⟨_,rfl⟩
 subst hs1
 obtain ⟨hk,hmp,q1_1,kk1,xx1⟩:=hI1
 replace hk:k≤n+1-pl:=hk
 replace hmp:MpAt mg (((msNo ms ((n:Nat):Int))++Qc0 sec pl n k).map mpv) V1:=hmp
 replace q1_1:V1.heap[g]? = some (.cells (cat [#[.int .i64 nx],#[.int .u64 ((B|||2^j:Nat):Int)],ints .u8 (itV sec k),#[.int .i64 ((pl+k:Nat):Int)],#[.map (some mg)]]) 82):=q1_1
 replace kk1:Qaf [g,mg] W6 V1:=kk1
 replace xx1:Qaf [g,mg] w V1:=xx1
 have q7:=kk1
 obtain ⟨es18,cl18,hes18,hM18⟩:=id hmp
 have hkp:pl+k≤4294967295:=by omega
 refine wp_seq_k fun K19 hK19=>sgC fun K20 hK20=>sg 3 kj <| Qab (.int .i64 ((pl+k:Nat):Int)) 29 rfl kj (Qad 3 _ g 34 82 _ (.int .i64 ((pl+k:Nat):Int)) _ q1_1 rfl kj (Qam [#[.int .i64 nx],#[.int .u64 ((B|||2^j:Nat):Int)],ints .u8 (itV sec k)] [#[.int .i64 ((pl+k:Nat):Int)]] [#[.map (some mg)]] 34 (by rw [Qac,Qac,Qac]; simp only [qS,cat,(izT (Qa4 hsec k))]; rfl) 0 _ rfl) kj) ?_
 refine sg 2 kj <| sgN hK20 <| Qa2 (t:=decide (((pl+k:Nat):Int)≤((n:Nat):Int))) kj (fun c21=>?_) (fun c21=>?_)
 ·skip
  have hlt:pl+k≤n:=by have:=of_decide_eq_true c21; omega
  refine wp_skip <| hK19 _ _ <| wp_block <| wp_seq_k fun K22 hK22=>wp_seq_k fun K23 hK23=>?_
  rcases (show (pl+k<n∧n≤pl+k+64)∨(pl+k<n∧pl+k+64<n)∨pl+k=n by omega) with hcc | hcc | hcc
  ·skip
   refine Qae <| sg 3 kj <| Qab (.int .i64 ((pl+k:Nat):Int)) 35 rfl kj (Qad 3 _ g 34 82 _ (.int .i64 ((pl+k:Nat):Int)) _ q1_1 rfl kj (Qam [#[.int .i64 nx],#[.int .u64 ((B|||2^j:Nat):Int)],ints .u8 (itV sec k)] [#[.int .i64 ((pl+k:Nat):Int)]] [#[.map (some mg)]] 34 (by rw [Qac,Qac,Qac]; simp only [qS,cat,(izT (Qa4 hsec k))]; rfl) 0 _ rfl) kj) ?_
   refine sg 1 kj <| Qab (.bool true) 37 rfl kj (Qah (u:=.bool (decide (((pl+k:Nat):Int)<((n:Nat):Int)))) kj (congrArg zau (decide_eq_true (by omega)))) <| sg 4 kj <| Qab (.int .i64 ((pl+k:Nat):Int)) 42 rfl kj (Qad 3 _ g 34 82 _ (.int .i64 ((pl+k:Nat):Int)) _ q1_1 rfl kj (Qam [#[.int .i64 nx],#[.int .u64 ((B|||2^j:Nat):Int)],ints .u8 (itV sec k)] [#[.int .i64 ((pl+k:Nat):Int)]] [#[.map (some mg)]] 34 (by rw [Qac,Qac,Qac]; simp only [qS,cat,(izT (Qa4 hsec k))]; rfl) 0 _ rfl) kj) ?_
   refine sg 1 kj <| Qab (.int .i64 (((n:Nat):Int)-64)) 44 rfl kj (Qah (u:=.int .i64 (zam.wrap (((n:Nat):Int)-64))) kj (congrArg (zag .i64) (QbJ _ (by omega)))) <| Qab (.bool true) 45 rfl kj (Qah (u:=.bool (decide (((pl+k:Nat):Int)≥(((n:Nat):Int)-64)))) kj (congrArg zau (decide_eq_true (by omega)))) <| sg 1 kj <| sgN hK23 <| cond_true kj <| Wm.region_walkM (fun W=>W.heap[g]? = some (.cells (cat [#[.int .i64 nx],#[.int .u64 ((B|||2^j:Nat):Int)],ints .u8 (itV sec k),#[.int .i64 ((pl+k:Nat):Int)],#[.map (some mg)]]) 82)) 13 kj fun W8 e8=>⟨Qaa q1_1 e8,?_⟩
   have x8:Qaf [g,mg] w W8:=zb1 xx1 e8
   refine Wm.wm_val 0 (.pointer (some ⟨g,0,none⟩)) 47 rfl rfl kj kj (by decide) kj (fun _ _ _ h=>h) (fun W hR=>by kernel_rfl) <| Wm.wm_val 1 (.pointer (some ⟨g,0,none⟩)) 48 rfl rfl kj kj (by decide) kj (fun _ _ _ h=>h) (fun W hR=>by kernel_rfl) <| Wm.wm_val 2 (.pointer (some ⟨g,35,none⟩)) 49 rfl rfl kj kj (by decide) kj (fun _ _ _ h=>h) (fun W hR=>by kernel_rfl) <| Wm.wm_val 3 (.map (some mg)) 50 rfl rfl kj kj (by decide) kj (fun _ _ _ h=>h) (fun W hR=>(Qad 80 _ g 35 82 _ (.map (some mg)) _ hR rfl kj (Qam [#[.int .i64 nx],#[.int .u64 ((B|||2^j:Nat):Int)],ints .u8 (itV sec k),#[.int .i64 ((pl+k:Nat):Int)]] [#[.map (some mg)]] [] 35 (by rw [Qac,Qac,Qac,Qac]; simp only [qS,cat,(izT (Qa4 hsec k))]; rfl) 0 _ rfl) kj)) ?_
   refine Wm.wm_val 4 (.pointer (some ⟨g,0,none⟩)) 51 rfl rfl kj kj (by decide) kj (fun _ _ _ h=>h) (fun W hR=>by kernel_rfl) <| Wm.wm_val 5 (.pointer (some ⟨g,0,none⟩)) 52 rfl rfl kj kj (by decide) kj (fun _ _ _ h=>h) (fun W hR=>by kernel_rfl) <| Wm.wm_val 6 (.pointer (some ⟨g,34,none⟩)) 53 rfl rfl kj kj (by decide) kj (fun _ _ _ h=>h) (fun W hR=>by kernel_rfl) <| Wm.wm_val 7 (.int .i64 ((pl+k:Nat):Int)) 54 rfl rfl kj kj (by decide) kj (fun _ _ _ h=>h) (fun W hR=>(Qad 3 _ g 34 82 _ (.int .i64 ((pl+k:Nat):Int)) _ hR rfl kj (Qam [#[.int .i64 nx],#[.int .u64 ((B|||2^j:Nat):Int)],ints .u8 (itV sec k)] [#[.int .i64 ((pl+k:Nat):Int)]] [#[.map (some mg)]] 34 (by rw [Qac,Qac,Qac]; simp only [qS,cat,(izT (Qa4 hsec k))]; rfl) 0 _ rfl) kj)) ?_
   refine Wm.wm_val 8 (.pointer (some ⟨g,0,none⟩)) 55 rfl rfl kj kj (by decide) kj (fun _ _ _ h=>h) (fun W hR=>by kernel_rfl) <| Wm.wm_val 9 (.pointer (some ⟨g,0,none⟩)) 56 rfl rfl kj kj (by decide) kj (fun _ _ _ h=>h) (fun W hR=>by kernel_rfl) <| Wm.wm_val 10 (.pointer (some ⟨g,2,none⟩)) 57 rfl rfl kj kj (by decide) kj (fun _ _ _ h=>h) (fun W hR=>by kernel_rfl) <| Wm.wm_val 11 (.agg (ints .u8 (itV sec k))) 58 rfl rfl kj kj (by decide) kj (fun _ _ _ h=>h) (fun W hR=>(Qa0 29 _ g 2 82 _ _ _ hR rfl kj (Qam [#[.int .i64 nx],#[.int .u64 ((B|||2^j:Nat):Int)]] [ints .u8 (itV sec k)] [#[.int .i64 ((pl+k:Nat):Int)],#[.map (some mg)]] 2 kj) kj (isz (n:=32) kj (izT (Qa4 hsec k))))) ?_
   have r1_8:=(Qaa q1_1 e8)
   have r2_2:=(Qaa r2_1 e2)
   have r2_3:=(Qaa r2_2 e3)
   have r2_4:=(zbt p4 r2_3 (Qag r2_2 l11))
   have r2_5:=(zbw q5 r2_4 hcg)
   have r2_6:=(zbt p6 r2_5 hcm)
   have r2_7:=(zb0 q7 r2_6 (Qax hcg (Qax hcm QaE)))
   have r2_8:=(Qaa r2_7 e8)
   have r3_2:=(Qaa r3_1 e2)
   have r3_3:=(Qaa r3_2 e3)
   have r3_4:=(zbt p4 r3_3 (Qag r3_2 l11))
   have r3_5:=(zbw q5 r3_4 hsg)
   have r3_6:=(zbt p6 r3_5 hsm)
   have r3_7:=(zb0 q7 r3_6 (Qax hsg (Qax hsm QaE)))
   have r3_8:=(Qaa r3_7 e8)
   refine Wm.wm_call 12 kj rfl (fun v W'=>(fun v _=>v=.agg (ints .u8 (keyV (itV sec k)))) v W'∧Ext W8 W') 57 #[.agg (ints .u8 (itV sec k))] 59 rfl kj kj ((retG (Qkb (itV sec k) tc tq _ r2_8 r3_8 (Qa4 hsec k) (Qb0 hsb k))).mono (by rintro e w' ⟨v,rfl,e1,hv⟩; exact ⟨v,rfl,hv,e1⟩)) (fun v W h=>Qaa r1_8 h.2) fun vv24 W9 hh24=>?_
   obtain ⟨hv24,e9⟩:=hh24
   have x9:Qaf [g,mg] w W9:=zb1 x8 e9
   subst hv24
   have r1_9:=(Qaa r1_8 e9)
   have r4_8:=(Qaa hes18 e8)
   have r4_9:=(Qaa r4_8 e9)
   refine Wm.wm_last kj kj rfl (fun W'=>Puts W9 mg W'∧MpAt mg ((((msNo ms ((n:Nat):Int))++Qc0 sec pl n k).map mpv)++[(((pl+k:Nat):Int),.agg (ints .u8 (keyV (itV sec k))))]) W') rfl kj (QhG 80 _ _ _ (kt:=3) (et:=114) rfl kj kj kj kj kj ⟨_,_,r4_9,hM18⟩ (QjM (QgC hlt0))) fun W10 hh=>?_
   obtain ⟨p10,hmp⟩:=hh
   have x10:Qaf [g,mg] w W10:=zb2 x9 p10 (.inl (by simp))
   replace hmp:MpAt mg (((msNo ms ((n:Nat):Int))++Qc0 sec pl n (k+1)).map mpv) W10:=by rw [Qis hcc,←zbh,zal]; exact hmp
   obtain ⟨es25,cl25,hes25,hM25⟩:=id hmp
   refine hK22 _ _ <| sgC fun K26 hK26=>sg 4 kj ?_
   have r1_10:=(zbt p10 r1_9 hgm)
   refine Qab (.agg (ints .u8 (itV sec k))) 64 rfl kj (Qa0 29 _ g 2 82 _ _ _ r1_10 rfl kj (Qam [#[.int .i64 nx],#[.int .u64 ((B|||2^j:Nat):Int)]] [ints .u8 (itV sec k)] [#[.int .i64 ((pl+k:Nat):Int)],#[.map (some mg)]] 2 kj) kj (isz (n:=32) kj (izT (Qa4 hsec k)))) <| Qau (.agg (ints .u8 (itV sec (k+1)))) 56 #[.agg (ints .u8 (itV sec k))] 65 rfl kj kj (Qfo (itV sec k) tc tq _ (zbt p10 (Qaa r2_8 e9) hcm) (zbt p10 (Qaa r3_8 e9) hsm) (Qa4 hsec k) (Qb0 hsb k)) fun W11 e11=>?_
   have x11:Qaf [g,mg] w W11:=zb1 x10 e11
   refine sg 2 kj ?_
   have r1_11:=(Qaa r1_10 e11)
   refine Qan g _ (cat [#[.int .i64 nx],#[.int .u64 ((B|||2^j:Nat):Int)],ints .u8 (itV sec (k+1)),#[.int .i64 ((pl+k:Nat):Int)],#[.map (some mg)]]) 82 r1_11 rfl kj (QbC 29 _ _ g 2 82 [#[.int .i64 nx],#[.int .u64 ((B|||2^j:Nat):Int)]] [ints .u8 (itV sec k)] [ints .u8 (itV sec (k+1))] [#[.int .i64 ((pl+k:Nat):Int)],#[.map (some mg)]] r1_11 rfl kj kj (isz (n:=32) kj (izT (Qa4 hsec (k+1)))) kj (eqsz (n:=32) (izT (Qa4 hsec (k+1))) (izT (Qa4 hsec k))) (Qay _ _)) fun W12 p12 r1_12=>?_
   have x12:Qaf [g,mg] w W12:=zb2 x11 p12 (.inl (by simp))
   refine sgN hK26 <| Qae <| sg 3 kj <| Qab (.int .i64 ((pl+k:Nat):Int)) 71 rfl kj (Qad 3 _ g 34 82 _ (.int .i64 ((pl+k:Nat):Int)) _ r1_12 rfl kj (Qam [#[.int .i64 nx],#[.int .u64 ((B|||2^j:Nat):Int)],ints .u8 (itV sec (k+1))] [#[.int .i64 ((pl+k:Nat):Int)]] [#[.map (some mg)]] 34 (by rw [Qac,Qac,Qac]; simp only [qS,cat,(izT (Qa4 hsec (k+1)))]; rfl) 0 _ rfl) kj) ?_
   refine Qab (.int .i64 (((pl+(k+1):Nat):Int))) 72 rfl kj (Qah (u:=.int .i64 (zam.wrap (((pl+k:Nat):Int)+1))) kj (congrArg (zag .i64) ((QbJ _ (by omega)).trans (by omega)))) <| sg 2 kj <| Qan g _ (cat [#[.int .i64 nx],#[.int .u64 ((B|||2^j:Nat):Int)],ints .u8 (itV sec (k+1)),#[.int .i64 (((pl+(k+1):Nat):Int))],#[.map (some mg)]]) 82 r1_12 rfl kj (run_storeQ 3 _ _ g 34 82 [#[.int .i64 nx],#[.int .u64 ((B|||2^j:Nat):Int)],ints .u8 (itV sec (k+1))] [#[.map (some mg)]] _ (.int .i64 (((pl+(k+1):Nat):Int))) r1_12 rfl kj kj kj (by rw [Qac,Qac,Qac]; simp only [qS,cat,(izT (Qa4 hsec (k+1)))]; rfl) rfl rfl) fun W13 p13 r1_13=>?_
   have x13:Qaf [g,mg] w W13:=zb2 x12 p13 (.inl (by simp))
   refine Qal ?_
   repeat (first | with_reducible refine goX1 ?_ | with_reducible refine goX2 ?_ | with_reducible refine goX3 ?_)
   exact Qa5 (k+1) ⟨kj,kj,kj,kj,kj,kj,trivial⟩ ⟨(by omega),⟨_,_,(zbt p13 (zbt p12 (Qaa hes25 e11) (Ne.symm hgm)) (Ne.symm hgm)),hM25⟩,r1_13,(zb2 (zb2 (zb1 (zb2 (zb1 (zb1 q7 e8) e9) p10 (.inl (by simp))) e11) p12 (.inl (by simp))) p13 (.inl (by simp))),x13⟩ (by omega)
  ·skip
   refine Qae <| sg 3 kj <| Qab (.int .i64 ((pl+k:Nat):Int)) 35 rfl kj (Qad 3 _ g 34 82 _ (.int .i64 ((pl+k:Nat):Int)) _ q1_1 rfl kj (Qam [#[.int .i64 nx],#[.int .u64 ((B|||2^j:Nat):Int)],ints .u8 (itV sec k)] [#[.int .i64 ((pl+k:Nat):Int)]] [#[.map (some mg)]] 34 (by rw [Qac,Qac,Qac]; simp only [qS,cat,(izT (Qa4 hsec k))]; rfl) 0 _ rfl) kj) ?_
   refine sg 1 kj <| Qab (.bool true) 37 rfl kj (Qah (u:=.bool (decide (((pl+k:Nat):Int)<((n:Nat):Int)))) kj (congrArg zau (decide_eq_true (by omega)))) <| sg 4 kj <| Qab (.int .i64 ((pl+k:Nat):Int)) 42 rfl kj (Qad 3 _ g 34 82 _ (.int .i64 ((pl+k:Nat):Int)) _ q1_1 rfl kj (Qam [#[.int .i64 nx],#[.int .u64 ((B|||2^j:Nat):Int)],ints .u8 (itV sec k)] [#[.int .i64 ((pl+k:Nat):Int)]] [#[.map (some mg)]] 34 (by rw [Qac,Qac,Qac]; simp only [qS,cat,(izT (Qa4 hsec k))]; rfl) 0 _ rfl) kj) ?_
   refine sg 1 kj <| Qab (.int .i64 (((n:Nat):Int)-64)) 44 rfl kj (Qah (u:=.int .i64 (zam.wrap (((n:Nat):Int)-64))) kj (congrArg (zag .i64) (QbJ _ (by omega)))) <| Qab (.bool false) 45 rfl kj (Qah (u:=.bool (decide (((pl+k:Nat):Int)≥(((n:Nat):Int)-64)))) kj (congrArg zau (decide_eq_false (by omega)))) <| sg 1 kj <| sgN hK23 <| cond_false kj <| wp_skip <| hK22 _ _ <| sgC fun K27 hK27=>sg 4 kj ?_
   refine Qab (.agg (ints .u8 (itV sec k))) 64 rfl kj (Qa0 29 _ g 2 82 _ _ _ q1_1 rfl kj (Qam [#[.int .i64 nx],#[.int .u64 ((B|||2^j:Nat):Int)]] [ints .u8 (itV sec k)] [#[.int .i64 ((pl+k:Nat):Int)],#[.map (some mg)]] 2 kj) kj (isz (n:=32) kj (izT (Qa4 hsec k)))) ?_
   have r2_2:=(Qaa r2_1 e2)
   have r2_3:=(Qaa r2_2 e3)
   have r2_4:=(zbt p4 r2_3 (Qag r2_2 l11))
   have r2_5:=(zbw q5 r2_4 hcg)
   have r2_6:=(zbt p6 r2_5 hcm)
   have r2_7:=(zb0 q7 r2_6 (Qax hcg (Qax hcm QaE)))
   have r3_2:=(Qaa r3_1 e2)
   have r3_3:=(Qaa r3_2 e3)
   have r3_4:=(zbt p4 r3_3 (Qag r3_2 l11))
   have r3_5:=(zbw q5 r3_4 hsg)
   have r3_6:=(zbt p6 r3_5 hsm)
   have r3_7:=(zb0 q7 r3_6 (Qax hsg (Qax hsm QaE)))
   refine Qau (.agg (ints .u8 (itV sec (k+1)))) 56 #[.agg (ints .u8 (itV sec k))] 65 rfl kj kj (Qfo (itV sec k) tc tq _ r2_7 r3_7 (Qa4 hsec k) (Qb0 hsb k)) fun W8 e8=>?_
   have x8:Qaf [g,mg] w W8:=zb1 xx1 e8
   refine sg 2 kj ?_
   have r1_8:=(Qaa q1_1 e8)
   refine Qan g _ (cat [#[.int .i64 nx],#[.int .u64 ((B|||2^j:Nat):Int)],ints .u8 (itV sec (k+1)),#[.int .i64 ((pl+k:Nat):Int)],#[.map (some mg)]]) 82 r1_8 rfl kj (QbC 29 _ _ g 2 82 [#[.int .i64 nx],#[.int .u64 ((B|||2^j:Nat):Int)]] [ints .u8 (itV sec k)] [ints .u8 (itV sec (k+1))] [#[.int .i64 ((pl+k:Nat):Int)],#[.map (some mg)]] r1_8 rfl kj kj (isz (n:=32) kj (izT (Qa4 hsec (k+1)))) kj (eqsz (n:=32) (izT (Qa4 hsec (k+1))) (izT (Qa4 hsec k))) (Qay _ _)) fun W9 p9 r1_9=>?_
   have x9:Qaf [g,mg] w W9:=zb2 x8 p9 (.inl (by simp))
   refine sgN hK27 <| Qae <| sg 3 kj <| Qab (.int .i64 ((pl+k:Nat):Int)) 71 rfl kj (Qad 3 _ g 34 82 _ (.int .i64 ((pl+k:Nat):Int)) _ r1_9 rfl kj (Qam [#[.int .i64 nx],#[.int .u64 ((B|||2^j:Nat):Int)],ints .u8 (itV sec (k+1))] [#[.int .i64 ((pl+k:Nat):Int)]] [#[.map (some mg)]] 34 (by rw [Qac,Qac,Qac]; simp only [qS,cat,(izT (Qa4 hsec (k+1)))]; rfl) 0 _ rfl) kj) ?_
   refine Qab (.int .i64 (((pl+(k+1):Nat):Int))) 72 rfl kj (Qah (u:=.int .i64 (zam.wrap (((pl+k:Nat):Int)+1))) kj (congrArg (zag .i64) ((QbJ _ (by omega)).trans (by omega)))) <| sg 2 kj <| Qan g _ (cat [#[.int .i64 nx],#[.int .u64 ((B|||2^j:Nat):Int)],ints .u8 (itV sec (k+1)),#[.int .i64 (((pl+(k+1):Nat):Int))],#[.map (some mg)]]) 82 r1_9 rfl kj (run_storeQ 3 _ _ g 34 82 [#[.int .i64 nx],#[.int .u64 ((B|||2^j:Nat):Int)],ints .u8 (itV sec (k+1))] [#[.map (some mg)]] _ (.int .i64 (((pl+(k+1):Nat):Int))) r1_9 rfl kj kj kj (by rw [Qac,Qac,Qac]; simp only [qS,cat,(izT (Qa4 hsec (k+1)))]; rfl) rfl rfl) fun W10 p10 r1_10=>?_
   have x10:Qaf [g,mg] w W10:=zb2 x9 p10 (.inl (by simp))
   refine Qal ?_
   have r4_8:=(Qaa hes18 e8)
   have r4_9:=(zbt p9 r4_8 (Ne.symm hgm))
   have r4_10:=(zbt p10 r4_9 (Ne.symm hgm))
   repeat (first | with_reducible refine goX1 ?_ | with_reducible refine goX2 ?_ | with_reducible refine goX3 ?_)
   exact Qa5 (k+1) ⟨kj,kj,kj,kj,kj,kj,trivial⟩ ⟨(by omega),(by rw [Qgf (by omega)]; exact ⟨_,_,r4_10,hM18⟩),r1_10,(zb2 (zb2 (zb1 q7 e8) p9 (.inl (by simp))) p10 (.inl (by simp))),x10⟩ (by omega)
  ·skip
   refine Qae <| sg 3 kj <| Qab (.int .i64 ((pl+k:Nat):Int)) 35 rfl kj (Qad 3 _ g 34 82 _ (.int .i64 ((pl+k:Nat):Int)) _ q1_1 rfl kj (Qam [#[.int .i64 nx],#[.int .u64 ((B|||2^j:Nat):Int)],ints .u8 (itV sec k)] [#[.int .i64 ((pl+k:Nat):Int)]] [#[.map (some mg)]] 34 (by rw [Qac,Qac,Qac]; simp only [qS,cat,(izT (Qa4 hsec k))]; rfl) 0 _ rfl) kj) ?_
   refine sg 1 kj <| Qab (.bool false) 37 rfl kj (Qah (u:=.bool (decide (((pl+k:Nat):Int)<((n:Nat):Int)))) kj (congrArg zau (decide_eq_false (by omega)))) <| sg 9 kj <| sgN hK23 <| cond_false kj <| wp_skip <| hK22 _ _ <| sgC fun K28 hK28=>sg 4 kj <| Qab (.agg (ints .u8 (itV sec k))) 64 rfl kj (Qa0 29 _ g 2 82 _ _ _ q1_1 rfl kj (Qam [#[.int .i64 nx],#[.int .u64 ((B|||2^j:Nat):Int)]] [ints .u8 (itV sec k)] [#[.int .i64 ((pl+k:Nat):Int)],#[.map (some mg)]] 2 kj) kj (isz (n:=32) kj (izT (Qa4 hsec k)))) ?_
   have r2_2:=(Qaa r2_1 e2)
   have r2_3:=(Qaa r2_2 e3)
   have r2_4:=(zbt p4 r2_3 (Qag r2_2 l11))
   have r2_5:=(zbw q5 r2_4 hcg)
   have r2_6:=(zbt p6 r2_5 hcm)
   have r2_7:=(zb0 q7 r2_6 (Qax hcg (Qax hcm QaE)))
   have r3_2:=(Qaa r3_1 e2)
   have r3_3:=(Qaa r3_2 e3)
   have r3_4:=(zbt p4 r3_3 (Qag r3_2 l11))
   have r3_5:=(zbw q5 r3_4 hsg)
   have r3_6:=(zbt p6 r3_5 hsm)
   have r3_7:=(zb0 q7 r3_6 (Qax hsg (Qax hsm QaE)))
   refine Qau (.agg (ints .u8 (itV sec (k+1)))) 56 #[.agg (ints .u8 (itV sec k))] 65 rfl kj kj (Qfo (itV sec k) tc tq _ r2_7 r3_7 (Qa4 hsec k) (Qb0 hsb k)) fun W8 e8=>?_
   have x8:Qaf [g,mg] w W8:=zb1 xx1 e8
   refine sg 2 kj ?_
   have r1_8:=(Qaa q1_1 e8)
   refine Qan g _ (cat [#[.int .i64 nx],#[.int .u64 ((B|||2^j:Nat):Int)],ints .u8 (itV sec (k+1)),#[.int .i64 ((pl+k:Nat):Int)],#[.map (some mg)]]) 82 r1_8 rfl kj (QbC 29 _ _ g 2 82 [#[.int .i64 nx],#[.int .u64 ((B|||2^j:Nat):Int)]] [ints .u8 (itV sec k)] [ints .u8 (itV sec (k+1))] [#[.int .i64 ((pl+k:Nat):Int)],#[.map (some mg)]] r1_8 rfl kj kj (isz (n:=32) kj (izT (Qa4 hsec (k+1)))) kj (eqsz (n:=32) (izT (Qa4 hsec (k+1))) (izT (Qa4 hsec k))) (Qay _ _)) fun W9 p9 r1_9=>?_
   have x9:Qaf [g,mg] w W9:=zb2 x8 p9 (.inl (by simp))
   refine sgN hK28 <| Qae <| sg 3 kj <| Qab (.int .i64 ((pl+k:Nat):Int)) 71 rfl kj (Qad 3 _ g 34 82 _ (.int .i64 ((pl+k:Nat):Int)) _ r1_9 rfl kj (Qam [#[.int .i64 nx],#[.int .u64 ((B|||2^j:Nat):Int)],ints .u8 (itV sec (k+1))] [#[.int .i64 ((pl+k:Nat):Int)]] [#[.map (some mg)]] 34 (by rw [Qac,Qac,Qac]; simp only [qS,cat,(izT (Qa4 hsec (k+1)))]; rfl) 0 _ rfl) kj) ?_
   refine Qab (.int .i64 (((pl+(k+1):Nat):Int))) 72 rfl kj (Qah (u:=.int .i64 (zam.wrap (((pl+k:Nat):Int)+1))) kj (congrArg (zag .i64) ((QbJ _ (by omega)).trans (by omega)))) <| sg 2 kj <| Qan g _ (cat [#[.int .i64 nx],#[.int .u64 ((B|||2^j:Nat):Int)],ints .u8 (itV sec (k+1)),#[.int .i64 (((pl+(k+1):Nat):Int))],#[.map (some mg)]]) 82 r1_9 rfl kj (run_storeQ 3 _ _ g 34 82 [#[.int .i64 nx],#[.int .u64 ((B|||2^j:Nat):Int)],ints .u8 (itV sec (k+1))] [#[.map (some mg)]] _ (.int .i64 (((pl+(k+1):Nat):Int))) r1_9 rfl kj kj kj (by rw [Qac,Qac,Qac]; simp only [qS,cat,(izT (Qa4 hsec (k+1)))]; rfl) rfl rfl) fun W10 p10 r1_10=>?_
   have x10:Qaf [g,mg] w W10:=zb2 x9 p10 (.inl (by simp))
   refine Qal ?_
   have r4_8:=(Qaa hes18 e8)
   have r4_9:=(zbt p9 r4_8 (Ne.symm hgm))
   have r4_10:=(zbt p10 r4_9 (Ne.symm hgm))
   repeat (first | with_reducible refine goX1 ?_ | with_reducible refine goX2 ?_ | with_reducible refine goX3 ?_)
   exact Qa5 (k+1) ⟨kj,kj,kj,kj,kj,kj,trivial⟩ ⟨(by omega),(by rw [Qgf (by omega)]; exact ⟨_,_,r4_10,hM18⟩),r1_10,(zb2 (zb2 (zb1 q7 e8) p9 (.inl (by simp))) p10 (.inl (by simp))),x10⟩ (by omega)
 ·skip
  have heq:k=n+1-pl:=by have:=of_decide_eq_false c21; omega
  refine wp_exit <| hK17 _ _ <| wp_seq_k fun K29 hK29=>sgC fun K30 hK30=>sg 3 kj <| Qab (.map (some mg)) 78 rfl kj (Qad 80 _ g 35 82 _ (.map (some mg)) _ q1_1 rfl kj (Qam [#[.int .i64 nx],#[.int .u64 ((B|||2^j:Nat):Int)],ints .u8 (itV sec k),#[.int .i64 ((pl+k:Nat):Int)]] [#[.map (some mg)]] [] 35 (by rw [Qac,Qac,Qac,Qac]; simp only [qS,cat,(izT (Qa4 hsec k))]; rfl) 0 _ rfl) kj) ?_
  refine QhD (.mapIter (some mg) cl18 #[] cl18) (fun g=>.pointer (some ⟨g,0,none⟩)) 79 rfl kj (Qfw (kt:=3) (et:=114) 80 _ rfl kj kj hes18) fun g32 W8 l32 e8 r32_8=>?_
  have x8:Qaf [g,mg] w W8:=zb1 xx1 e8
  have b32:=qT xx1.size l32
  have r4_8:=(Qaa hes18 e8)
  have hrg0:Qdp mg g32 (nx-1-64) es18 cl18 #[] W8:=Qdp.start hM18 r4_8 r32_8
  refine sgN hK30 <| wp_block ?_
  have r2_2:=(Qaa r2_1 e2)
  have r2_3:=(Qaa r2_2 e3)
  have r2_4:=(zbt p4 r2_3 (Qag r2_2 l11))
  have r2_5:=(zbw q5 r2_4 hcg)
  have r2_6:=(zbt p6 r2_5 hcm)
  have r2_7:=(zb0 q7 r2_6 (Qax hcg (Qax hcm QaE)))
  have n_2_32:4≠g32:=(Qag r2_7 l32)
  have r3_2:=(Qaa r3_1 e2)
  have r3_3:=(Qaa r3_2 e3)
  have r3_4:=(zbt p4 r3_3 (Qag r3_2 l11))
  have r3_5:=(zbw q5 r3_4 hsg)
  have r3_6:=(zbt p6 r3_5 hsm)
  have r3_7:=(zb0 q7 r3_6 (Qax hsg (Qax hsm QaE)))
  have n_3_32:3≠g32:=(Qag r3_7 l32)
  have r7_2:=(Qaa r7_1 e2)
  have r7_7:=(zb0 q7 (zbt p6 (zbw q5 (rpn p4 r7_2 e3 l11) n_7_1) n_7_4) (Qax n_7_1 (Qax n_7_4 QaE)))
  have n_7_32:g7≠g32:=(Qag r7_7 l32)
  have r11_7:=(zb0 q7 (zbt p6 (zbw q5 r11_4 n_11_1) n_11_4) (Qax n_11_1 (Qax n_11_4 QaE)))
  have n_11_32:g11≠g32:=(Qag r11_7 l32)
  have n_32_1:g32≠g:=(Ne.symm (za7 (qL hl_g b32)))
  have n_32_4:g32≠mg:=(Ne.symm (za7 (qL hl_mg b32)))
  refine QaF (fun (s2:Array Nat)=>[(0,.pointer (some ⟨g,0,none⟩)),(1,.int .i64 ((n:Nat):Int)),(4,.pointer (some ⟨g7,0,none⟩)),(5,.nilIface),(6,.pointer (some ⟨g11,0,none⟩)),(79,.pointer (some ⟨g32,0,none⟩))]) (fun (s2:Array Nat) W=>(Qdp mg g32 (nx-1-64) es18 cl18 s2 W)∧(Qaf [mg,g32] W8 W)∧(Qaf [g,mg] w W)) (fun (s2:Array Nat)=>rmu es18 s2) #[] ⟨kj,kj,kj,kj,kj,kj,trivial⟩ ⟨hrg0,(zbz [mg,g32] W8),x8⟩ fun s2 X2 V2 hI2=>?_
  obtain ⟨sn,hs2⟩:∃ z,z=s2:=⟨_,rfl⟩
  subst hs2
  obtain ⟨hrg,kk2,xx2⟩:=hI2
  replace hrg:Qdp mg g32 (nx-1-64) es18 cl18 sn V2:=hrg
  replace kk2:Qaf [mg,g32] W8 V2:=kk2
  replace xx2:Qaf [g,mg] w V2:=xx2
  have q9:=kk2
  refine sgC fun K33 hK33=>Qgo (.tmp 79) hM18 rfl kj hrg 80 rfl kj (fun hmp=>?_) (fun e y WN hy pN hst hen=>?_)
  ·skip
   obtain ⟨es34,cl34,hes34,hM34⟩:=id hmp
   refine sg 1 kj <| sgN hK33 <| wp_seq_k fun K35 hK35=>cond_false kj <| wp_exit <| hK29 _ _ <| sgC fun K36 hK36=>Qab (.agg (cat [#[.int .i64 ((n:Nat):Int)],ints .u8 ((lget ms ((n:Nat):Int)).take 32),#[.slice a10_ (((lget ms ((n:Nat):Int)).drop 32).length) c10_]])) 96 rfl kj (Qap 60 _ g11 60 _ _ (zb0 q9 (Qaa r11_7 e8) (Qax n_11_4 (Qax n_11_32 QaE))) rfl kj kj (isz (n:=34) kj (by rw [Qac,Qac,Qac]; simp only [qS,cat,(izT (QaX (QcM hmo _).1))]; rfl))) ?_
   have r7_9:=(zb0 q9 (Qaa r7_7 e8) (Qax n_7_4 (Qax n_7_32 QaE)))
   refine Qan g7 _ (cat [#[.int .i64 ((n:Nat):Int)],ints .u8 ((lget ms ((n:Nat):Int)).take 32),#[.slice a10_ (((lget ms ((n:Nat):Int)).drop 32).length) c10_]]) 60 r7_9 rfl kj (Qao 60 _ _ g7 60 _ _ r7_9 rfl kj kj (isz (n:=34) kj (by rw [Qac,Qac,Qac]; simp only [qS,cat,(izT (QaX (QcM hmo _).1))]; rfl)) (eqsz (n:=34) (by rw [Qac,Qac,Qac]; simp only [qS,cat,(izT (qZ (n:=32)))]; rfl) (by rw [Qac,Qac,Qac]; simp only [qS,cat,(izT (QaX (QcM hmo _).1))]; rfl)) (Qbn _ (by intro a ha; simp only [zas,zat,or_false] at ha; rcases ha with rfl | rfl | rfl; exact (Qa6 _ rfl); exact (Qay _ _); exact (Qa6 _ rfl)))) fun W10 p10 r7_10=>?_
   have x10:Qaf [g,mg] w W10:=zb2 xx2 p10 (.inr b7)
   refine sg 1 kj <| sgN hK36 <| wp_ret ?_
   repeat (first | with_reducible refine goR1 ?_ | with_reducible refine goR2 ?_)
   have r1_8:=(Qaa q1_1 e8)
   have r1_9:=(zb0 q9 r1_8 (Qax hgm (Qax (Ne.symm n_32_1) QaE)))
   have r1_10:=(zbt p10 r1_9 (Ne.symm n_7_1))
   have r4_10:=(zbt p10 hes34 (Ne.symm n_7_4))
   have f41_7:=(OwnN.keepsL ((ownN_but ((hu10.ext e3).puts p4 (nb_new hu10 l11)) q5 nbg).puts p6 nbm) q7 (Qdv nbg (Qdv nbm QhT)))
   exact (show bodyPost _ _ _ .ret _ _ from ret2 (.agg (cat [#[.int .i64 ((n:Nat):Int)],ints .u8 ((lget ms ((n:Nat):Int)).take 32),#[.slice a10_ (((lget ms ((n:Nat):Int)).drop 32).length) c10_]])) (.nilIface) rfl (QaP g7 60 _ r7_10 kj kj (isz (n:=34) kj (by rw [Qac,Qac,Qac]; simp only [qS,cat,(izT (QaX (QcM hmo _).1))]; rfl))) (Qaz kj) ⟨_,rfl,x10,(by rw [←heq]; exact r1_10),(by have h9:MpAt mg _ _:=⟨_,_,r4_10,hM34⟩; rw [QdC (fun x=>decide ((nx-1-64)≤x))] at h9; rw [←heq]; exact h9),_,rfl,zbx x1.size ((OwnN.keepsL (f41_7.ext e8) q9 (Qdv nbm (Qdv (nb_new f41_7 l32) QhT))).puts p10 (QbP hu10 (Qaq r7_1)))⟩)
  ·skip
   have p10:=pN
   have x10:Qaf [g,mg] w WN:=zb2 xx2 p10 (.inr b32)
   refine sg 1 kj <| sgN hK33 <| sgT kj <| wp_block <| sgC fun K46 hK46=>Qab (.tuple #[.int .i64 y,e.val]) 82 rfl kj (Qfx _ rfl kj hen) <| sg 2 kj <| sgN hK46 <| sgC fun K47 hK47=>sg 4 kj ?_
   have r1_8:=(Qaa q1_1 e8)
   have r1_9:=(zb0 q9 r1_8 (Qax hgm (Qax (Ne.symm n_32_1) QaE)))
   have r1_10:=(zbt p10 r1_9 (Ne.symm n_32_1))
   refine Qau (.int .i64 (nx-1)) 59 #[.pointer (some ⟨g,0,none⟩)] 88 rfl kj kj (Qiv g (nx) (B|||2^j) hnx (QhO _ _ hB (QhL j hj2)) _ _ mg (Qa4 hsec k) _ r1_10) fun W11 e11=>?_
   have x11:Qaf [g,mg] w W11:=zb1 x10 e11
   refine Qab (.int .i64 (nx-1-64)) 89 rfl kj (Qah (u:=.int .i64 (zam.wrap ((nx-1)-64))) kj (congrArg (zag .i64) (QbJ _ (by omega)))) <| sg 1 kj <| sgN hK47 <| Qa2 (t:=decide (y<(nx-1-64))) kj (fun c48=>?_) (fun c48=>?_)
   ·skip
    have hcut:(y<(nx-1-64)):=of_decide_eq_true c48
    refine Qae <| sg 3 kj ?_
    have r1_11:=(Qaa r1_10 e11)
    refine Qab (.map (some mg)) 94 rfl kj (Qad 80 _ g 35 82 _ (.map (some mg)) _ r1_11 rfl kj (Qam [#[.int .i64 nx],#[.int .u64 ((B|||2^j:Nat):Int)],ints .u8 (itV sec k),#[.int .i64 ((pl+k:Nat):Int)]] [#[.map (some mg)]] [] 35 (by rw [Qac,Qac,Qac,Qac]; simp only [qS,cat,(izT (Qa4 hsec k))]; rfl) 0 _ rfl) kj) ?_
    refine sg 1 kj <| Qgp (kt:=3) (et:=114) (.tmp 94) (.tmp 95) 80 hM18 rfl kj kj kj kj (QfI hst e11) hy hcut rfl kj fun W12 p12 hrg2=>?_
    have x12:Qaf [g,mg] w W12:=zb2 x11 p12 (.inl (by simp))
    refine Qal ?_
    repeat (first | with_reducible refine goX1 ?_ | with_reducible refine goX2 ?_ | with_reducible refine goX3 ?_)
    exact Qa5 (sn.push e.born) ⟨kj,kj,kj,kj,kj,kj,trivial⟩ ⟨hrg2,(zb2 (zb1 (zb2 q9 p10 (.inl (by simp))) e11) p12 (.inl (by simp))),x12⟩ (Qd2.mu hst)
   ·skip
    have hcut:¬ (y<(nx-1-64)):=of_decide_eq_false c48
    refine wp_skip ?_
    repeat (first | with_reducible refine goX1 ?_ | with_reducible refine goX2 ?_ | with_reducible refine goX3 ?_)
    exact Qa5 (sn.push e.born) ⟨kj,kj,kj,kj,kj,kj,trivial⟩ ⟨(Qd2.stay hM18 (QfI hst e11) (by rw [Qka hy]; exact decide_eq_true (Int.not_lt.1 hcut))),(zb1 (zb2 q9 p10 (.inl (by simp))) e11),x11⟩ (Qd2.mu hst)
theorem Qn4 (g : Nat) (nx:Int) (B:Nat) (hnx:0≤nx∧nx≤4294967295) (hB:B<18446744073709551616) (sec:List Int) (pl mg:Nat) (hsec:sec.length=32) (w:World) (hg:w.heap[g]? = some (.cells (cat [#[.int .i64 nx],#[.int .u64 ((B:Nat):Int)],ints .u8 (sec),#[.int .i64 ((pl:Nat):Int)],#[.map (some mg)]]) 82)) (ms:List (Int×List Int)) (hmo:MsOk ms) (hmp:MpAt mg (ms.map mpv) w) (tc tq:TypeId) (hc:w.heap[4]? = some (.cells (ints .u64 QaR) tc)) (hq:w.heap[3]? = some (.cells (ints .u64 Qa9) tq)) (hsb:Qai sec) (n:Nat) (hm:n≤4294967294) (hp:pl≤4294967295) (hlt0:∀ p∈ms,p.1<((pl:Nat):Int)) (hcg:4≠g) (hsg:3≠g) (hc0:chkW nx B ((n:Nat):Int)=0) (hn:pl≤n) (a:Nat) (ha:((n:Nat):Int)-(nx-1)=(a:Int)) (ha1:1≤a):Calls Tryd.prog 40 #[.pointer (some ⟨g,0,none⟩),.int .i64 ((n:Nat):Int)] w (fun e W=>∃ v,e=.returned (.tuple #[v,.nilIface])∧Qaf [g,mg] w W∧W.heap[g]? = some (.cells (cat [#[.int .i64 (((n:Nat):Int)+1)],#[.int .u64 ((B*2^a%18446744073709551616|||1*2^(a-1)%18446744073709551616:Nat):Int)],ints .u8 (itV sec (n+1-pl)),#[.int .i64 ((pl+(n+1-pl):Nat):Int)],#[.map (some mg)]]) 82)∧MpAt mg ((QiU ((msNo ms ((n:Nat):Int))++Qc0 sec pl n (n+1-pl)) (((n:Nat):Int)+1-1-64)).map mpv) W∧QbA w.heap.size ((n:Nat):Int) (keyV (itV sec (n-pl))) v W):=by
 have hcm:=MpAt.ne hmp hc
 have hsm:=MpAt.ne hmp hq
 have hgm:=MpAt.ne hmp hg
 have hl_g:=Qaq hg
 have hl_mg:=MpAt.lt hmp
 obtain ⟨es5,cl5,hes5,hM5⟩:=id hmp
 refine enter 97 [(0,.pointer (some ⟨g,0,none⟩)),(1,.int .i64 ((n:Nat):Int))] Tryd.func40 rfl rfl kj rfl <| sgC fun K6 hK6=>Qar (cat [#[.int .i64 0],ints .u8 (zaa 32 0),#[.slice none 0 0]]) 60 4 rfl kj kj fun g7 W1 l7 e1 r7_1=>?_
 have x1:Qaf [g,mg] w W1:=zb1 (zbz [g,mg] w) e1
 have b7:=qT (zbz [g,mg] w).size l7
 refine sg 1 kj <| sgN hK6 <| sgC fun K8 hK8=>sg 2 kj ?_
 have r2_1:=(Qaa hc e1)
 have r3_1:=(Qaa hq e1)
 have r1_1:=(Qaa hg e1)
 have r4_1:=(Qaa hes5 e1)
 refine Qav (fun v W'=>(QbA W1.heap.size ((n:Nat):Int) (keyV (itV sec (n-pl)))) v W'∧Ext W1 W') 38 #[.pointer (some ⟨g,0,none⟩),.int .i64 ((n:Nat):Int)] 11 rfl kj kj ((Qmf g nx B hnx hB sec pl mg hsec _ r1_1 ms hmo ⟨_,_,r4_1,hM5⟩ tc tq r2_1 r3_1 hsb n hp hm (by omega)).mono (by rintro e w' ⟨v,rfl,e1,hv⟩; exact ⟨v,rfl,hv,e1⟩)) fun vv9 W2 hh9=>?_
 obtain ⟨hv9,e2⟩:=hh9
 have x2:Qaf [g,mg] w W2:=zb1 x1 e2
 obtain ⟨u10,rfl,hu10⟩:=hv9
 obtain ⟨a10_,c10_,rfl,-⟩:=id (zby hu10)
 have nbg:=QbP hu10 (Qaq r1_1)
 have nbm:=QbP hu10 (Qaq r4_1)
 refine Qar (cat [#[.int .i64 0],ints .u8 (zaa 32 0),#[.slice none 0 0]]) 60 6 rfl kj kj fun g11 W3 l11 e3 r11_3=>?_
 have x3:Qaf [g,mg] w W3:=zb1 x2 e3
 have b11:=qT x2.size l11
 refine Qan g11 _ (cat [#[.int .i64 ((n:Nat):Int)],ints .u8 ((keyV (itV sec (n-pl))).take 32),#[.slice a10_ (((keyV (itV sec (n-pl))).drop 32).length) c10_]]) 60 r11_3 rfl kj (Qao 60 _ _ g11 60 _ _ r11_3 rfl kj kj (isz (n:=34) kj (by rw [Qac,Qac,Qac]; simp only [qS,cat,(izT (QaX (QaI _)))]; rfl)) (eqsz (n:=34) (by rw [Qac,Qac,Qac]; simp only [qS,cat,(izT (qZ (n:=32)))]; rfl) (by rw [Qac,Qac,Qac]; simp only [qS,cat,(izT (QaX (QaI _)))]; rfl)) (Qbn _ (by intro a ha; simp only [zas,zat,or_false] at ha; rcases ha with rfl | rfl | rfl; exact (Qa6 _ rfl); exact (Qay _ _); exact (Qa6 _ rfl)))) fun W4 p4 r11_4=>?_
 have x4:Qaf [g,mg] w W4:=zb2 x3 p4 (.inr b11)
 refine sgN hK8 <| wp_seq_k fun K12 hK12=>sgC fun K13 hK13=>sg 4 kj <| Qav (fun v W'=>v=.nilIface∧ExtB g W4 W'∧W'.heap[g]? = some (.cells (cat [#[.int .i64 (((n:Nat):Int)+1)],#[.int .u64 ((B*2^a%18446744073709551616|||1*2^(a-1)%18446744073709551616:Nat):Int)],ints .u8 (sec),#[.int .i64 ((pl:Nat):Int)],#[.map (some mg)]]) 82)) 58 #[.pointer (some ⟨g,0,none⟩),.int .i64 ((n:Nat):Int)] 16 rfl kj kj ((Qpc g nx B ((n:Nat):Int) hnx hB sec pl mg hsec _ (zbt p4 (Qaa (Qaa r1_1 e2) e3) (za7 (qL hl_g b11))) hc0 (by omega) a ha ha1).mono fun e w' ⟨h1,h2,h3⟩=>⟨_,h1,rfl,h2,h3⟩) fun v W5 h=>?_
 obtain ⟨rfl,q5,r1_5⟩:=h
 have x5:Qaf [g,mg] w W5:=Qaf.but x4 q5 (.inl (by simp))
 refine sg 1 kj <| sgN hK13 <| sgB kj <| cond_false kj <| wp_skip <| hK12 _ _ <| sgC fun K15 hK15=>sg 3 kj <| Qab (.map (some mg)) 24 rfl kj (Qad 80 _ g 35 82 _ (.map (some mg)) _ r1_5 rfl kj (Qam [#[.int .i64 (((n:Nat):Int)+1)],#[.int .u64 ((B*2^a%18446744073709551616|||1*2^(a-1)%18446744073709551616:Nat):Int)],ints .u8 (sec),#[.int .i64 ((pl:Nat):Int)]] [#[.map (some mg)]] [] 35 (by rw [Qac,Qac,Qac,Qac]; simp only [qS,cat,(izT hsec)]; rfl) 0 _ rfl) kj) ?_
 refine sg 1 kj <| QhE (n:=((n:Nat):Int)) (.tmp 24) (.tmp 25) 80 (kt:=3) (et:=114) rfl kj kj kj kj ⟨_,_,(zbw q5 (zbt p4 (Qaa (Qaa r4_1 e2) e3) (za7 (qL hl_mg b11))) (Ne.symm hgm)),hM5⟩ rfl kj fun W6 p6 hmp=>?_
 have x6:Qaf [g,mg] w W6:=zb2 x5 p6 (.inl (by simp))
 replace hmp:MpAt mg ((msNo ms ((n:Nat):Int)).map mpv) W6:=by have h9:=hmp; rw [QdC (fun x=>x != ((n:Nat):Int))] at h9; exact h9
 obtain ⟨es16,cl16,hes16,hM16⟩:=id hmp
 refine sgN hK15 <| wp_seq_k fun K17 hK17=>wp_block ?_
 have n_7_1:g7≠g:=(Ne.symm (za7 (qL hl_g b7)))
 have n_7_4:g7≠mg:=(Ne.symm (za7 (qL hl_mg b7)))
 have n_11_1:g11≠g:=(Ne.symm (za7 (qL hl_g b11)))
 have n_11_4:g11≠mg:=(Ne.symm (za7 (qL hl_mg b11)))
 refine QaF (fun (s1:Nat)=>[(0,.pointer (some ⟨g,0,none⟩)),(1,.int .i64 ((n:Nat):Int)),(4,.pointer (some ⟨g7,0,none⟩)),(5,.nilIface),(6,.pointer (some ⟨g11,0,none⟩)),(7,.nilIface)]) (fun (s1:Nat) W=>(s1≤n+1-pl)∧(MpAt mg (((msNo ms ((n:Nat):Int))++Qc0 sec pl n s1).map mpv) W)∧(W.heap[g]? = some (.cells (cat [#[.int .i64 (((n:Nat):Int)+1)],#[.int .u64 ((B*2^a%18446744073709551616|||1*2^(a-1)%18446744073709551616:Nat):Int)],ints .u8 (itV sec s1),#[.int .i64 ((pl+s1:Nat):Int)],#[.map (some mg)]]) 82))∧(Qaf [g,mg] W6 W)∧(Qaf [g,mg] w W)) (fun (s1:Nat)=>n+1-pl-s1) 0 ⟨kj,kj,kj,kj,kj,kj,trivial⟩ ⟨(zav _),(by show MpAt mg (((msNo ms ((n:Nat):Int))++[]).map mpv) _; rw [zbl]; exact ⟨_,_,hes16,hM16⟩),(zbt p6 r1_5 hgm),(zbz [g,mg] W6),x6⟩ fun s1 X1 V1 hI1=>?_
 obtain ⟨k,hs1⟩:∃ z,z=s1:=⟨_,rfl⟩
 subst hs1
 obtain ⟨hk,hmp,q1_1,kk1,xx1⟩:=hI1
 replace hk:k≤n+1-pl:=hk
 replace hmp:MpAt mg (((msNo ms ((n:Nat):Int))++Qc0 sec pl n k).map mpv) V1:=hmp
 replace q1_1:V1.heap[g]? = some (.cells (cat [#[.int .i64 (((n:Nat):Int)+1)],#[.int .u64 ((B*2^a%18446744073709551616|||1*2^(a-1)%18446744073709551616:Nat):Int)],ints .u8 (itV sec k),#[.int .i64 ((pl+k:Nat):Int)],#[.map (some mg)]]) 82):=q1_1
 replace kk1:Qaf [g,mg] W6 V1:=kk1
 replace xx1:Qaf [g,mg] w V1:=xx1
 have q7:=kk1
 obtain ⟨es18,cl18,hes18,hM18⟩:=id hmp
 have hkp:pl+k≤4294967295:=by omega
 refine wp_seq_k fun K19 hK19=>sgC fun K20 hK20=>sg 3 kj <| Qab (.int .i64 ((pl+k:Nat):Int)) 29 rfl kj (Qad 3 _ g 34 82 _ (.int .i64 ((pl+k:Nat):Int)) _ q1_1 rfl kj (Qam [#[.int .i64 (((n:Nat):Int)+1)],#[.int .u64 ((B*2^a%18446744073709551616|||1*2^(a-1)%18446744073709551616:Nat):Int)],ints .u8 (itV sec k)] [#[.int .i64 ((pl+k:Nat):Int)]] [#[.map (some mg)]] 34 (by rw [Qac,Qac,Qac]; simp only [qS,cat,(izT (Qa4 hsec k))]; rfl) 0 _ rfl) kj) ?_
 refine sg 2 kj <| sgN hK20 <| Qa2 (t:=decide (((pl+k:Nat):Int)≤((n:Nat):Int))) kj (fun c21=>?_) (fun c21=>?_)
 ·skip
  have hlt:pl+k≤n:=by have:=of_decide_eq_true c21; omega
  refine wp_skip <| hK19 _ _ <| wp_block <| wp_seq_k fun K22 hK22=>wp_seq_k fun K23 hK23=>?_
  rcases (show (pl+k<n∧n≤pl+k+64)∨(pl+k<n∧pl+k+64<n)∨pl+k=n by omega) with hcc | hcc | hcc
  ·skip
   refine Qae <| sg 3 kj <| Qab (.int .i64 ((pl+k:Nat):Int)) 35 rfl kj (Qad 3 _ g 34 82 _ (.int .i64 ((pl+k:Nat):Int)) _ q1_1 rfl kj (Qam [#[.int .i64 (((n:Nat):Int)+1)],#[.int .u64 ((B*2^a%18446744073709551616|||1*2^(a-1)%18446744073709551616:Nat):Int)],ints .u8 (itV sec k)] [#[.int .i64 ((pl+k:Nat):Int)]] [#[.map (some mg)]] 34 (by rw [Qac,Qac,Qac]; simp only [qS,cat,(izT (Qa4 hsec k))]; rfl) 0 _ rfl) kj) ?_
   refine sg 1 kj <| Qab (.bool true) 37 rfl kj (Qah (u:=.bool (decide (((pl+k:Nat):Int)<((n:Nat):Int)))) kj (congrArg zau (decide_eq_true (by omega)))) <| sg 4 kj <| Qab (.int .i64 ((pl+k:Nat):Int)) 42 rfl kj (Qad 3 _ g 34 82 _ (.int .i64 ((pl+k:Nat):Int)) _ q1_1 rfl kj (Qam [#[.int .i64 (((n:Nat):Int)+1)],#[.int .u64 ((B*2^a%18446744073709551616|||1*2^(a-1)%18446744073709551616:Nat):Int)],ints .u8 (itV sec k)] [#[.int .i64 ((pl+k:Nat):Int)]] [#[.map (some mg)]] 34 (by rw [Qac,Qac,Qac]; simp only [qS,cat,(izT (Qa4 hsec k))]; rfl) 0 _ rfl) kj) ?_
   refine sg 1 kj <| Qab (.int .i64 (((n:Nat):Int)-64)) 44 rfl kj (Qah (u:=.int .i64 (zam.wrap (((n:Nat):Int)-64))) kj (congrArg (zag .i64) (QbJ _ (by omega)))) <| Qab (.bool true) 45 rfl kj (Qah (u:=.bool (decide (((pl+k:Nat):Int)≥(((n:Nat):Int)-64)))) kj (congrArg zau (decide_eq_true (by omega)))) <| sg 1 kj <| sgN hK23 <| cond_true kj <| Wm.region_walkM (fun W=>W.heap[g]? = some (.cells (cat [#[.int .i64 (((n:Nat):Int)+1)],#[.int .u64 ((B*2^a%18446744073709551616|||1*2^(a-1)%18446744073709551616:Nat):Int)],ints .u8 (itV sec k),#[.int .i64 ((pl+k:Nat):Int)],#[.map (some mg)]]) 82)) 13 kj fun W8 e8=>⟨Qaa q1_1 e8,?_⟩
   have x8:Qaf [g,mg] w W8:=zb1 xx1 e8
   refine Wm.wm_val 0 (.pointer (some ⟨g,0,none⟩)) 47 rfl rfl kj kj (by decide) kj (fun _ _ _ h=>h) (fun W hR=>by kernel_rfl) <| Wm.wm_val 1 (.pointer (some ⟨g,0,none⟩)) 48 rfl rfl kj kj (by decide) kj (fun _ _ _ h=>h) (fun W hR=>by kernel_rfl) <| Wm.wm_val 2 (.pointer (some ⟨g,35,none⟩)) 49 rfl rfl kj kj (by decide) kj (fun _ _ _ h=>h) (fun W hR=>by kernel_rfl) <| Wm.wm_val 3 (.map (some mg)) 50 rfl rfl kj kj (by decide) kj (fun _ _ _ h=>h) (fun W hR=>(Qad 80 _ g 35 82 _ (.map (some mg)) _ hR rfl kj (Qam [#[.int .i64 (((n:Nat):Int)+1)],#[.int .u64 ((B*2^a%18446744073709551616|||1*2^(a-1)%18446744073709551616:Nat):Int)],ints .u8 (itV sec k),#[.int .i64 ((pl+k:Nat):Int)]] [#[.map (some mg)]] [] 35 (by rw [Qac,Qac,Qac,Qac]; simp only [qS,cat,(izT (Qa4 hsec k))]; rfl) 0 _ rfl) kj)) ?_
   refine Wm.wm_val 4 (.pointer (some ⟨g,0,none⟩)) 51 rfl rfl kj kj (by decide) kj (fun _ _ _ h=>h) (fun W hR=>by kernel_rfl) <| Wm.wm_val 5 (.pointer (some ⟨g,0,none⟩)) 52 rfl rfl kj kj (by decide) kj (fun _ _ _ h=>h) (fun W hR=>by kernel_rfl) <| Wm.wm_val 6 (.pointer (some ⟨g,34,none⟩)) 53 rfl rfl kj kj (by decide) kj (fun _ _ _ h=>h) (fun W hR=>by kernel_rfl) <| Wm.wm_val 7 (.int .i64 ((pl+k:Nat):Int)) 54 rfl rfl kj kj (by decide) kj (fun _ _ _ h=>h) (fun W hR=>(Qad 3 _ g 34 82 _ (.int .i64 ((pl+k:Nat):Int)) _ hR rfl kj (Qam [#[.int .i64 (((n:Nat):Int)+1)],#[.int .u64 ((B*2^a%18446744073709551616|||1*2^(a-1)%18446744073709551616:Nat):Int)],ints .u8 (itV sec k)] [#[.int .i64 ((pl+k:Nat):Int)]] [#[.map (some mg)]] 34 (by rw [Qac,Qac,Qac]; simp only [qS,cat,(izT (Qa4 hsec k))]; rfl) 0 _ rfl) kj)) ?_
   refine Wm.wm_val 8 (.pointer (some ⟨g,0,none⟩)) 55 rfl rfl kj kj (by decide) kj (fun _ _ _ h=>h) (fun W hR=>by kernel_rfl) <| Wm.wm_val 9 (.pointer (some ⟨g,0,none⟩)) 56 rfl rfl kj kj (by decide) kj (fun _ _ _ h=>h) (fun W hR=>by kernel_rfl) <| Wm.wm_val 10 (.pointer (some ⟨g,2,none⟩)) 57 rfl rfl kj kj (by decide) kj (fun _ _ _ h=>h) (fun W hR=>by kernel_rfl) <| Wm.wm_val 11 (.agg (ints .u8 (itV sec k))) 58 rfl rfl kj kj (by decide) kj (fun _ _ _ h=>h) (fun W hR=>(Qa0 29 _ g 2 82 _ _ _ hR rfl kj (Qam [#[.int .i64 (((n:Nat):Int)+1)],#[.int .u64 ((B*2^a%18446744073709551616|||1*2^(a-1)%18446744073709551616:Nat):Int)]] [ints .u8 (itV sec k)] [#[.int .i64 ((pl+k:Nat):Int)],#[.map (some mg)]] 2 kj) kj (isz (n:=32) kj (izT (Qa4 hsec k))))) ?_
   have r1_8:=(Qaa q1_1 e8)
   have r2_2:=(Qaa r2_1 e2)
   have r2_3:=(Qaa r2_2 e3)
   have r2_4:=(zbt p4 r2_3 (Qag r2_2 l11))
   have r2_5:=(zbw q5 r2_4 hcg)
   have r2_6:=(zbt p6 r2_5 hcm)
   have r2_7:=(zb0 q7 r2_6 (Qax hcg (Qax hcm QaE)))
   have r2_8:=(Qaa r2_7 e8)
   have r3_2:=(Qaa r3_1 e2)
   have r3_3:=(Qaa r3_2 e3)
   have r3_4:=(zbt p4 r3_3 (Qag r3_2 l11))
   have r3_5:=(zbw q5 r3_4 hsg)
   have r3_6:=(zbt p6 r3_5 hsm)
   have r3_7:=(zb0 q7 r3_6 (Qax hsg (Qax hsm QaE)))
   have r3_8:=(Qaa r3_7 e8)
   refine Wm.wm_call 12 kj rfl (fun v W'=>(fun v _=>v=.agg (ints .u8 (keyV (itV sec k)))) v W'∧Ext W8 W') 57 #[.agg (ints .u8 (itV sec k))] 59 rfl kj kj ((retG (Qkb (itV sec k) tc tq _ r2_8 r3_8 (Qa4 hsec k) (Qb0 hsb k))).mono (by rintro e w' ⟨v,rfl,e1,hv⟩; exact ⟨v,rfl,hv,e1⟩)) (fun v W h=>Qaa r1_8 h.2) fun vv24 W9 hh24=>?_
   obtain ⟨hv24,e9⟩:=hh24
   have x9:Qaf [g,mg] w W9:=zb1 x8 e9
   subst hv24
   have r1_9:=(Qaa r1_8 e9)
   have r4_8:=(Qaa hes18 e8)
   have r4_9:=(Qaa r4_8 e9)
   refine Wm.wm_last kj kj rfl (fun W'=>Puts W9 mg W'∧MpAt mg ((((msNo ms ((n:Nat):Int))++Qc0 sec pl n k).map mpv)++[(((pl+k:Nat):Int),.agg (ints .u8 (keyV (itV sec k))))]) W') rfl kj (QhG 80 _ _ _ (kt:=3) (et:=114) rfl kj kj kj kj kj ⟨_,_,r4_9,hM18⟩ (QjM (QgC hlt0))) fun W10 hh=>?_
   obtain ⟨p10,hmp⟩:=hh
   have x10:Qaf [g,mg] w W10:=zb2 x9 p10 (.inl (by simp))
   replace hmp:MpAt mg (((msNo ms ((n:Nat):Int))++Qc0 sec pl n (k+1)).map mpv) W10:=by rw [Qis hcc,←zbh,zal]; exact hmp
   obtain ⟨es25,cl25,hes25,hM25⟩:=id hmp
   refine hK22 _ _ <| sgC fun K26 hK26=>sg 4 kj ?_
   have r1_10:=(zbt p10 r1_9 hgm)
   refine Qab (.agg (ints .u8 (itV sec k))) 64 rfl kj (Qa0 29 _ g 2 82 _ _ _ r1_10 rfl kj (Qam [#[.int .i64 (((n:Nat):Int)+1)],#[.int .u64 ((B*2^a%18446744073709551616|||1*2^(a-1)%18446744073709551616:Nat):Int)]] [ints .u8 (itV sec k)] [#[.int .i64 ((pl+k:Nat):Int)],#[.map (some mg)]] 2 kj) kj (isz (n:=32) kj (izT (Qa4 hsec k)))) <| Qau (.agg (ints .u8 (itV sec (k+1)))) 56 #[.agg (ints .u8 (itV sec k))] 65 rfl kj kj (Qfo (itV sec k) tc tq _ (zbt p10 (Qaa r2_8 e9) hcm) (zbt p10 (Qaa r3_8 e9) hsm) (Qa4 hsec k) (Qb0 hsb k)) fun W11 e11=>?_
   have x11:Qaf [g,mg] w W11:=zb1 x10 e11
   refine sg 2 kj ?_
   have r1_11:=(Qaa r1_10 e11)
   refine Qan g _ (cat [#[.int .i64 (((n:Nat):Int)+1)],#[.int .u64 ((B*2^a%18446744073709551616|||1*2^(a-1)%18446744073709551616:Nat):Int)],ints .u8 (itV sec (k+1)),#[.int .i64 ((pl+k:Nat):Int)],#[.map (some mg)]]) 82 r1_11 rfl kj (QbC 29 _ _ g 2 82 [#[.int .i64 (((n:Nat):Int)+1)],#[.int .u64 ((B*2^a%18446744073709551616|||1*2^(a-1)%18446744073709551616:Nat):Int)]] [ints .u8 (itV sec k)] [ints .u8 (itV sec (k+1))] [#[.int .i64 ((pl+k:Nat):Int)],#[.map (some mg)]] r1_11 rfl kj kj (isz (n:=32) kj (izT (Qa4 hsec (k+1)))) kj (eqsz (n:=32) (izT (Qa4 hsec (k+1))) (izT (Qa4 hsec k))) (Qay _ _)) fun W12 p12 r1_12=>?_
   have x12:Qaf [g,mg] w W12:=zb2 x11 p12 (.inl (by simp))
   refine sgN hK26 <| Qae <| sg 3 kj <| Qab (.int .i64 ((pl+k:Nat):Int)) 71 rfl kj (Qad 3 _ g 34 82 _ (.int .i64 ((pl+k:Nat):Int)) _ r1_12 rfl kj (Qam [#[.int .i64 (((n:Nat):Int)+1)],#[.int .u64 ((B*2^a%18446744073709551616|||1*2^(a-1)%18446744073709551616:Nat):Int)],ints .u8 (itV sec (k+1))] [#[.int .i64 ((pl+k:Nat):Int)]] [#[.map (some mg)]] 34 (by rw [Qac,Qac,Qac]; simp only [qS,cat,(izT (Qa4 hsec (k+1)))]; rfl) 0 _ rfl) kj) ?_
   refine Qab (.int .i64 (((pl+(k+1):Nat):Int))) 72 rfl kj (Qah (u:=.int .i64 (zam.wrap (((pl+k:Nat):Int)+1))) kj (congrArg (zag .i64) ((QbJ _ (by omega)).trans (by omega)))) <| sg 2 kj <| Qan g _ (cat [#[.int .i64 (((n:Nat):Int)+1)],#[.int .u64 ((B*2^a%18446744073709551616|||1*2^(a-1)%18446744073709551616:Nat):Int)],ints .u8 (itV sec (k+1)),#[.int .i64 (((pl+(k+1):Nat):Int))],#[.map (some mg)]]) 82 r1_12 rfl kj (run_storeQ 3 _ _ g 34 82 [#[.int .i64 (((n:Nat):Int)+1)],#[.int .u64 ((B*2^a%18446744073709551616|||1*2^(a-1)%18446744073709551616:Nat):Int)],ints .u8 (itV sec (k+1))] [#[.map (some mg)]] _ (.int .i64 (((pl+(k+1):Nat):Int))) r1_12 rfl kj kj kj (by rw [Qac,Qac,Qac]; simp only [qS,cat,(izT (Qa4 hsec (k+1)))]; rfl) rfl rfl) fun W13 p13 r1_13=>?_
   have x13:Qaf [g,mg] w W13:=zb2 x12 p13 (.inl (by simp))
   refine Qal ?_
   repeat (first | with_reducible refine goX1 ?_ | with_reducible refine goX2 ?_ | with_reducible refine goX3 ?_)
   exact Qa5 (k+1) ⟨kj,kj,kj,kj,kj,kj,trivial⟩ ⟨(by omega),⟨_,_,(zbt p13 (zbt p12 (Qaa hes25 e11) (Ne.symm hgm)) (Ne.symm hgm)),hM25⟩,r1_13,(zb2 (zb2 (zb1 (zb2 (zb1 (zb1 q7 e8) e9) p10 (.inl (by simp))) e11) p12 (.inl (by simp))) p13 (.inl (by simp))),x13⟩ (by omega)
  ·skip
   refine Qae <| sg 3 kj <| Qab (.int .i64 ((pl+k:Nat):Int)) 35 rfl kj (Qad 3 _ g 34 82 _ (.int .i64 ((pl+k:Nat):Int)) _ q1_1 rfl kj (Qam [#[.int .i64 (((n:Nat):Int)+1)],#[.int .u64 ((B*2^a%18446744073709551616|||1*2^(a-1)%18446744073709551616:Nat):Int)],ints .u8 (itV sec k)] [#[.int .i64 ((pl+k:Nat):Int)]] [#[.map (some mg)]] 34 (by rw [Qac,Qac,Qac]; simp only [qS,cat,(izT (Qa4 hsec k))]; rfl) 0 _ rfl) kj) ?_
   refine sg 1 kj <| Qab (.bool true) 37 rfl kj (Qah (u:=.bool (decide (((pl+k:Nat):Int)<((n:Nat):Int)))) kj (congrArg zau (decide_eq_true (by omega)))) <| sg 4 kj <| Qab (.int .i64 ((pl+k:Nat):Int)) 42 rfl kj (Qad 3 _ g 34 82 _ (.int .i64 ((pl+k:Nat):Int)) _ q1_1 rfl kj (Qam [#[.int .i64 (((n:Nat):Int)+1)],#[.int .u64 ((B*2^a%18446744073709551616|||1*2^(a-1)%18446744073709551616:Nat):Int)],ints .u8 (itV sec k)] [#[.int .i64 ((pl+k:Nat):Int)]] [#[.map (some mg)]] 34 (by rw [Qac,Qac,Qac]; simp only [qS,cat,(izT (Qa4 hsec k))]; rfl) 0 _ rfl) kj) ?_
   refine sg 1 kj <| Qab (.int .i64 (((n:Nat):Int)-64)) 44 rfl kj (Qah (u:=.int .i64 (zam.wrap (((n:Nat):Int)-64))) kj (congrArg (zag .i64) (QbJ _ (by omega)))) <| Qab (.bool false) 45 rfl kj (Qah (u:=.bool (decide (((pl+k:Nat):Int)≥(((n:Nat):Int)-64)))) kj (congrArg zau (decide_eq_false (by omega)))) <| sg 1 kj <| sgN hK23 <| cond_false kj <| wp_skip <| hK22 _ _ <| sgC fun K27 hK27=>sg 4 kj ?_
   refine Qab (.agg (ints .u8 (itV sec k))) 64 rfl kj (Qa0 29 _ g 2 82 _ _ _ q1_1 rfl kj (Qam [#[.int .i64 (((n:Nat):Int)+1)],#[.int .u64 ((B*2^a%18446744073709551616|||1*2^(a-1)%18446744073709551616:Nat):Int)]] [ints .u8 (itV sec k)] [#[.int .i64 ((pl+k:Nat):Int)],#[.map (some mg)]] 2 kj) kj (isz (n:=32) kj (izT (Qa4 hsec k)))) ?_
   have r2_2:=(Qaa r2_1 e2)
   have r2_3:=(Qaa r2_2 e3)
   have r2_4:=(zbt p4 r2_3 (Qag r2_2 l11))
   have r2_5:=(zbw q5 r2_4 hcg)
   have r2_6:=(zbt p6 r2_5 hcm)
   have r2_7:=(zb0 q7 r2_6 (Qax hcg (Qax hcm QaE)))
   have r3_2:=(Qaa r3_1 e2)
   have r3_3:=(Qaa r3_2 e3)
   have r3_4:=(zbt p4 r3_3 (Qag r3_2 l11))
   have r3_5:=(zbw q5 r3_4 hsg)
   have r3_6:=(zbt p6 r3_5 hsm)
   have r3_7:=(zb0 q7 r3_6 (Qax hsg (Qax hsm QaE)))
   refine Qau (.agg (ints .u8 (itV sec (k+1)))) 56 #[.agg (ints .u8 (itV sec k))] 65 rfl kj kj (Qfo (itV sec k) tc tq _ r2_7 r3_7 (Qa4 hsec k) (Qb0 hsb k)) fun W8 e8=>?_
   have x8:Qaf [g,mg] w W8:=zb1 xx1 e8
   refine sg 2 kj ?_
   have r1_8:=(Qaa q1_1 e8)
   refine Qan g _ (cat [#[.int .i64 (((n:Nat):Int)+1)],#[.int .u64 ((B*2^a%18446744073709551616|||1*2^(a-1)%18446744073709551616:Nat):Int)],ints .u8 (itV sec (k+1)),#[.int .i64 ((pl+k:Nat):Int)],#[.map (some mg)]]) 82 r1_8 rfl kj (QbC 29 _ _ g 2 82 [#[.int .i64 (((n:Nat):Int)+1)],#[.int .u64 ((B*2^a%18446744073709551616|||1*2^(a-1)%18446744073709551616:Nat):Int)]] [ints .u8 (itV sec k)] [ints .u8 (itV sec (k+1))] [#[.int .i64 ((pl+k:Nat):Int)],#[.map (some mg)]] r1_8 rfl kj kj (isz (n:=32) kj (izT (Qa4 hsec (k+1)))) kj (eqsz (n:=32) (izT (Qa4 hsec (k+1))) (izT (Qa4 hsec k))) (Qay _ _)) fun W9 p9 r1_9=>?_
   have x9:Qaf [g,mg] w W9:=zb2 x8 p9 (.inl (by simp))
   refine sgN hK27 <| Qae <| sg 3 kj <| Qab (.int .i64 ((pl+k:Nat):Int)) 71 rfl kj (Qad 3 _ g 34 82 _ (.int .i64 ((pl+k:Nat):Int)) _ r1_9 rfl kj (Qam [#[.int .i64 (((n:Nat):Int)+1)],#[.int .u64 ((B*2^a%18446744073709551616|||1*2^(a-1)%18446744073709551616:Nat):Int)],ints .u8 (itV sec (k+1))] [#[.int .i64 ((pl+k:Nat):Int)]] [#[.map (some mg)]] 34 (by rw [Qac,Qac,Qac]; simp only [qS,cat,(izT (Qa4 hsec (k+1)))]; rfl) 0 _ rfl) kj) ?_
   refine Qab (.int .i64 (((pl+(k+1):Nat):Int))) 72 rfl kj (Qah (u:=.int .i64 (zam.wrap (((pl+k:Nat):Int)+1))) kj (congrArg (zag .i64) ((QbJ _ (by omega)).trans (by omega)))) <| sg 2 kj <| Qan g _ (cat [#[.int .i64 (((n:Nat):Int)+1)],#[.int .u64 ((B*2^a%18446744073709551616|||1*2^(a-1)%18446744073709551616:Nat):Int)],ints .u8 (itV sec (k+1)),#[.int .i64 (((pl+(k+1):Nat):Int))],#[.map (some mg)]]) 82 r1_9 rfl kj (run_storeQ 3 _ _ g 34 82 [#[.int .i64 (((n:Nat):Int)+1)],#[.int .u64 ((B*2^a%18446744073709551616|||1*2^(a-1)%18446744073709551616:Nat):Int)],ints .u8 (itV sec (k+1))] [#[.map (some mg)]] _ (.int .i64 (((pl+(k+1):Nat):Int))) r1_9 rfl kj kj kj (by rw [Qac,Qac,Qac]; simp only [qS,cat,(izT (Qa4 hsec (k+1)))]; rfl) rfl rfl) fun W10 p10 r1_10=>?_
   have x10:Qaf [g,mg] w W10:=zb2 x9 p10 (.inl (by simp))
   refine Qal ?_
   have r4_8:=(Qaa hes18 e8)
   have r4_9:=(zbt p9 r4_8 (Ne.symm hgm))
   have r4_10:=(zbt p10 r4_9 (Ne.symm hgm))
   repeat (first | with_reducible refine goX1 ?_ | with_reducible refine goX2 ?_ | with_reducible refine goX3 ?_)
   exact Qa5 (k+1) ⟨kj,kj,kj,kj,kj,kj,trivial⟩ ⟨(by omega),(by rw [Qgf (by omega)]; exact ⟨_,_,r4_10,hM18⟩),r1_10,(zb2 (zb2 (zb1 q7 e8) p9 (.inl (by simp))) p10 (.inl (by simp))),x10⟩ (by omega)
  ·skip
   refine Qae <| sg 3 kj <| Qab (.int .i64 ((pl+k:Nat):Int)) 35 rfl kj (Qad 3 _ g 34 82 _ (.int .i64 ((pl+k:Nat):Int)) _ q1_1 rfl kj (Qam [#[.int .i64 (((n:Nat):Int)+1)],#[.int .u64 ((B*2^a%18446744073709551616|||1*2^(a-1)%18446744073709551616:Nat):Int)],ints .u8 (itV sec k)] [#[.int .i64 ((pl+k:Nat):Int)]] [#[.map (some mg)]] 34 (by rw [Qac,Qac,Qac]; simp only [qS,cat,(izT (Qa4 hsec k))]; rfl) 0 _ rfl) kj) ?_
   refine sg 1 kj <| Qab (.bool false) 37 rfl kj (Qah (u:=.bool (decide (((pl+k:Nat):Int)<((n:Nat):Int)))) kj (congrArg zau (decide_eq_false (by omega)))) <| sg 9 kj <| sgN hK23 <| cond_false kj <| wp_skip <| hK22 _ _ <| sgC fun K28 hK28=>sg 4 kj <| Qab (.agg (ints .u8 (itV sec k))) 64 rfl kj (Qa0 29 _ g 2 82 _ _ _ q1_1 rfl kj (Qam [#[.int .i64 (((n:Nat):Int)+1)],#[.int .u64 ((B*2^a%18446744073709551616|||1*2^(a-1)%18446744073709551616:Nat):Int)]] [ints .u8 (itV sec k)] [#[.int .i64 ((pl+k:Nat):Int)],#[.map (some mg)]] 2 kj) kj (isz (n:=32) kj (izT (Qa4 hsec k)))) ?_
   have r2_2:=(Qaa r2_1 e2)
   have r2_3:=(Qaa r2_2 e3)
   have r2_4:=(zbt p4 r2_3 (Qag r2_2 l11))
   have r2_5:=(zbw q5 r2_4 hcg)
   have r2_6:=(zbt p6 r2_5 hcm)
   have r2_7:=(zb0 q7 r2_6 (Qax hcg (Qax hcm QaE)))
   have r3_2:=(Qaa r3_1 e2)
   have r3_3:=(Qaa r3_2 e3)
   have r3_4:=(zbt p4 r3_3 (Qag r3_2 l11))
   have r3_5:=(zbw q5 r3_4 hsg)
   have r3_6:=(zbt p6 r3_5 hsm)
   have r3_7:=(zb0 q7 r3_6 (Qax hsg (Qax hsm QaE)))
   refine Qau (.agg (ints .u8 (itV sec (k+1)))) 56 #[.agg (ints .u8 (itV sec k))] 65 rfl kj kj (Qfo (itV sec k) tc tq _ r2_7 r3_7 (Qa4 hsec k) (Qb0 hsb k)) fun W8 e8=>?_
   have x8:Qaf [g,mg] w W8:=zb1 xx1 e8
   refine sg 2 kj ?_
   have r1_8:=(Qaa q1_1 e8)
   refine Qan g _ (cat [#[.int .i64 (((n:Nat):Int)+1)],#[.int .u64 ((B*2^a%18446744073709551616|||1*2^(a-1)%18446744073709551616:Nat):Int)],ints .u8 (itV sec (k+1)),#[.int .i64 ((pl+k:Nat):Int)],#[.map (some mg)]]) 82 r1_8 rfl kj (QbC 29 _ _ g 2 82 [#[.int .i64 (((n:Nat):Int)+1)],#[.int .u64 ((B*2^a%18446744073709551616|||1*2^(a-1)%18446744073709551616:Nat):Int)]] [ints .u8 (itV sec k)] [ints .u8 (itV sec (k+1))] [#[.int .i64 ((pl+k:Nat):Int)],#[.map (some mg)]] r1_8 rfl kj kj (isz (n:=32) kj (izT (Qa4 hsec (k+1)))) kj (eqsz (n:=32) (izT (Qa4 hsec (k+1))) (izT (Qa4 hsec k))) (Qay _ _)) fun W9 p9 r1_9=>?_
   have x9:Qaf [g,mg] w W9:=zb2 x8 p9 (.inl (by simp))
   refine sgN hK28 <| Qae <| sg 3 kj <| Qab (.int .i64 ((pl+k:Nat):Int)) 71 rfl kj (Qad 3 _ g 34 82 _ (.int .i64 ((pl+k:Nat):Int)) _ r1_9 rfl kj (Qam [#[.int .i64 (((n:Nat):Int)+1)],#[.int .u64 ((B*2^a%18446744073709551616|||1*2^(a-1)%18446744073709551616:Nat):Int)],ints .u8 (itV sec (k+1))] [#[.int .i64 ((pl+k:Nat):Int)]] [#[.map (some mg)]] 34 (by rw [Qac,Qac,Qac]; simp only [qS,cat,(izT (Qa4 hsec (k+1)))]; rfl) 0 _ rfl) kj) ?_
   refine Qab (.int .i64 (((pl+(k+1):Nat):Int))) 72 rfl kj (Qah (u:=.int .i64 (zam.wrap (((pl+k:Nat):Int)+1))) kj (congrArg (zag .i64) ((QbJ _ (by omega)).trans (by omega)))) <| sg 2 kj <| Qan g _ (cat [#[.int .i64 (((n:Nat):Int)+1)],#[.int .u64 ((B*2^a%18446744073709551616|||1*2^(a-1)%18446744073709551616:Nat):Int)],ints .u8 (itV sec (k+1)),#[.int .i64 (((pl+(k+1):Nat):Int))],#[.map (some mg)]]) 82 r1_9 rfl kj (run_storeQ 3 _ _ g 34 82 [#[.int .i64 (((n:Nat):Int)+1)],#[.int .u64 ((B*2^a%18446744073709551616|||1*2^(a-1)%18446744073709551616:Nat):Int)],ints .u8 (itV sec (k+1))] [#[.map (some mg)]] _ (.int .i64 (((pl+(k+1):Nat):Int))) r1_9 rfl kj kj kj (by rw [Qac,Qac,Qac]; simp only [qS,cat,(izT (Qa4 hsec (k+1)))]; rfl) rfl rfl) fun W10 p10 r1_10=>?_
   have x10:Qaf [g,mg] w W10:=zb2 x9 p10 (.inl (by simp))
   refine Qal ?_
   have r4_8:=(Qaa hes18 e8)
   have r4_9:=(zbt p9 r4_8 (Ne.symm hgm))
   have r4_10:=(zbt p10 r4_9 (Ne.symm hgm))
   repeat (first | with_reducible refine goX1 ?_ | with_reducible refine goX2 ?_ | with_reducible refine goX3 ?_)
   exact Qa5 (k+1) ⟨kj,kj,kj,kj,kj,kj,trivial⟩ ⟨(by omega),(by rw [Qgf (by omega)]; exact ⟨_,_,r4_10,hM18⟩),r1_10,(zb2 (zb2 (zb1 q7 e8) p9 (.inl (by simp))) p10 (.inl (by simp))),x10⟩ (by omega)
 ·skip
  have heq:k=n+1-pl:=by have:=of_decide_eq_false c21; omega
  refine wp_exit <| hK17 _ _ <| wp_seq_k fun K29 hK29=>sgC fun K30 hK30=>sg 3 kj <| Qab (.map (some mg)) 78 rfl kj (Qad 80 _ g 35 82 _ (.map (some mg)) _ q1_1 rfl kj (Qam [#[.int .i64 (((n:Nat):Int)+1)],#[.int .u64 ((B*2^a%18446744073709551616|||1*2^(a-1)%18446744073709551616:Nat):Int)],ints .u8 (itV sec k),#[.int .i64 ((pl+k:Nat):Int)]] [#[.map (some mg)]] [] 35 (by rw [Qac,Qac,Qac,Qac]; simp only [qS,cat,(izT (Qa4 hsec k))]; rfl) 0 _ rfl) kj) ?_
  refine QhD (.mapIter (some mg) cl18 #[] cl18) (fun g=>.pointer (some ⟨g,0,none⟩)) 79 rfl kj (Qfw (kt:=3) (et:=114) 80 _ rfl kj kj hes18) fun g32 W8 l32 e8 r32_8=>?_
  have x8:Qaf [g,mg] w W8:=zb1 xx1 e8
  have b32:=qT xx1.size l32
  have r4_8:=(Qaa hes18 e8)
  have hrg0:Qdp mg g32 (((n:Nat):Int)+1-1-64) es18 cl18 #[] W8:=Qdp.start hM18 r4_8 r32_8
  refine sgN hK30 <| wp_block ?_
  have r2_2:=(Qaa r2_1 e2)
  have r2_3:=(Qaa r2_2 e3)
  have r2_4:=(zbt p4 r2_3 (Qag r2_2 l11))
  have r2_5:=(zbw q5 r2_4 hcg)
  have r2_6:=(zbt p6 r2_5 hcm)
  have r2_7:=(zb0 q7 r2_6 (Qax hcg (Qax hcm QaE)))
  have n_2_32:4≠g32:=(Qag r2_7 l32)
  have r3_2:=(Qaa r3_1 e2)
  have r3_3:=(Qaa r3_2 e3)
  have r3_4:=(zbt p4 r3_3 (Qag r3_2 l11))
  have r3_5:=(zbw q5 r3_4 hsg)
  have r3_6:=(zbt p6 r3_5 hsm)
  have r3_7:=(zb0 q7 r3_6 (Qax hsg (Qax hsm QaE)))
  have n_3_32:3≠g32:=(Qag r3_7 l32)
  have r7_2:=(Qaa r7_1 e2)
  have r7_7:=(zb0 q7 (zbt p6 (zbw q5 (rpn p4 r7_2 e3 l11) n_7_1) n_7_4) (Qax n_7_1 (Qax n_7_4 QaE)))
  have n_7_32:g7≠g32:=(Qag r7_7 l32)
  have r11_7:=(zb0 q7 (zbt p6 (zbw q5 r11_4 n_11_1) n_11_4) (Qax n_11_1 (Qax n_11_4 QaE)))
  have n_11_32:g11≠g32:=(Qag r11_7 l32)
  have n_32_1:g32≠g:=(Ne.symm (za7 (qL hl_g b32)))
  have n_32_4:g32≠mg:=(Ne.symm (za7 (qL hl_mg b32)))
  refine QaF (fun (s2:Array Nat)=>[(0,.pointer (some ⟨g,0,none⟩)),(1,.int .i64 ((n:Nat):Int)),(4,.pointer (some ⟨g7,0,none⟩)),(5,.nilIface),(6,.pointer (some ⟨g11,0,none⟩)),(79,.pointer (some ⟨g32,0,none⟩))]) (fun (s2:Array Nat) W=>(Qdp mg g32 (((n:Nat):Int)+1-1-64) es18 cl18 s2 W)∧(Qaf [mg,g32] W8 W)∧(Qaf [g,mg] w W)) (fun (s2:Array Nat)=>rmu es18 s2) #[] ⟨kj,kj,kj,kj,kj,kj,trivial⟩ ⟨hrg0,(zbz [mg,g32] W8),x8⟩ fun s2 X2 V2 hI2=>?_
  obtain ⟨sn,hs2⟩:∃ z,z=s2:=⟨_,rfl⟩
  subst hs2
  obtain ⟨hrg,kk2,xx2⟩:=hI2
  replace hrg:Qdp mg g32 (((n:Nat):Int)+1-1-64) es18 cl18 sn V2:=hrg
  replace kk2:Qaf [mg,g32] W8 V2:=kk2
  replace xx2:Qaf [g,mg] w V2:=xx2
  have q9:=kk2
  refine sgC fun K33 hK33=>Qgo (.tmp 79) hM18 rfl kj hrg 80 rfl kj (fun hmp=>?_) (fun e y WN hy pN hst hen=>?_)
  ·skip
   obtain ⟨es34,cl34,hes34,hM34⟩:=id hmp
   refine sg 1 kj <| sgN hK33 <| wp_seq_k fun K35 hK35=>cond_false kj <| wp_exit <| hK29 _ _ <| sgC fun K36 hK36=>Qab (.agg (cat [#[.int .i64 ((n:Nat):Int)],ints .u8 ((keyV (itV sec (n-pl))).take 32),#[.slice a10_ (((keyV (itV sec (n-pl))).drop 32).length) c10_]])) 96 rfl kj (Qap 60 _ g11 60 _ _ (zb0 q9 (Qaa r11_7 e8) (Qax n_11_4 (Qax n_11_32 QaE))) rfl kj kj (isz (n:=34) kj (by rw [Qac,Qac,Qac]; simp only [qS,cat,(izT (QaX (QaI _)))]; rfl))) ?_
   have r7_9:=(zb0 q9 (Qaa r7_7 e8) (Qax n_7_4 (Qax n_7_32 QaE)))
   refine Qan g7 _ (cat [#[.int .i64 ((n:Nat):Int)],ints .u8 ((keyV (itV sec (n-pl))).take 32),#[.slice a10_ (((keyV (itV sec (n-pl))).drop 32).length) c10_]]) 60 r7_9 rfl kj (Qao 60 _ _ g7 60 _ _ r7_9 rfl kj kj (isz (n:=34) kj (by rw [Qac,Qac,Qac]; simp only [qS,cat,(izT (QaX (QaI _)))]; rfl)) (eqsz (n:=34) (by rw [Qac,Qac,Qac]; simp only [qS,cat,(izT (qZ (n:=32)))]; rfl) (by rw [Qac,Qac,Qac]; simp only [qS,cat,(izT (QaX (QaI _)))]; rfl)) (Qbn _ (by intro a ha; simp only [zas,zat,or_false] at ha; rcases ha with rfl | rfl | rfl; exact (Qa6 _ rfl); exact (Qay _ _); exact (Qa6 _ rfl)))) fun W10 p10 r7_10=>?_
   have x10:Qaf [g,mg] w W10:=zb2 xx2 p10 (.inr b7)
   refine sg 1 kj <| sgN hK36 <| wp_ret ?_
   repeat (first | with_reducible refine goR1 ?_ | with_reducible refine goR2 ?_)
   have r1_8:=(Qaa q1_1 e8)
   have r1_9:=(zb0 q9 r1_8 (Qax hgm (Qax (Ne.symm n_32_1) QaE)))
   have r1_10:=(zbt p10 r1_9 (Ne.symm n_7_1))
   have r4_10:=(zbt p10 hes34 (Ne.symm n_7_4))
   have f41_7:=(OwnN.keepsL ((ownN_but ((hu10.ext e3).puts p4 (nb_new hu10 l11)) q5 nbg).puts p6 nbm) q7 (Qdv nbg (Qdv nbm QhT)))
   exact (show bodyPost _ _ _ .ret _ _ from ret2 (.agg (cat [#[.int .i64 ((n:Nat):Int)],ints .u8 ((keyV (itV sec (n-pl))).take 32),#[.slice a10_ (((keyV (itV sec (n-pl))).drop 32).length) c10_]])) (.nilIface) rfl (QaP g7 60 _ r7_10 kj kj (isz (n:=34) kj (by rw [Qac,Qac,Qac]; simp only [qS,cat,(izT (QaX (QaI _)))]; rfl))) (Qaz kj) ⟨_,rfl,x10,(by rw [←heq]; exact r1_10),(by have h9:MpAt mg _ _:=⟨_,_,r4_10,hM34⟩; rw [QdC (fun x=>decide ((((n:Nat):Int)+1-1-64)≤x))] at h9; rw [←heq]; exact h9),_,rfl,zbx x1.size ((OwnN.keepsL (f41_7.ext e8) q9 (Qdv nbm (Qdv (nb_new f41_7 l32) QhT))).puts p10 (QbP hu10 (Qaq r7_1)))⟩)
  ·skip
   have p10:=pN
   have x10:Qaf [g,mg] w WN:=zb2 xx2 p10 (.inr b32)
   refine sg 1 kj <| sgN hK33 <| sgT kj <| wp_block <| sgC fun K46 hK46=>Qab (.tuple #[.int .i64 y,e.val]) 82 rfl kj (Qfx _ rfl kj hen) <| sg 2 kj <| sgN hK46 <| sgC fun K47 hK47=>sg 4 kj ?_
   have r1_8:=(Qaa q1_1 e8)
   have r1_9:=(zb0 q9 r1_8 (Qax hgm (Qax (Ne.symm n_32_1) QaE)))
   have r1_10:=(zbt p10 r1_9 (Ne.symm n_32_1))
   refine Qau (.int .i64 (((n:Nat):Int)+1-1)) 59 #[.pointer (some ⟨g,0,none⟩)] 88 rfl kj kj (Qiv g (((n:Nat):Int)+1) (B*2^a%18446744073709551616|||1*2^(a-1)%18446744073709551616) (by omega) (QhO _ _ (zaW _ (by decide)) (zaW _ (by decide))) _ _ mg (Qa4 hsec k) _ r1_10) fun W11 e11=>?_
   have x11:Qaf [g,mg] w W11:=zb1 x10 e11
   refine Qab (.int .i64 (((n:Nat):Int)+1-1-64)) 89 rfl kj (Qah (u:=.int .i64 (zam.wrap ((((n:Nat):Int)+1-1)-64))) kj (congrArg (zag .i64) (QbJ _ (by omega)))) <| sg 1 kj <| sgN hK47 <| Qa2 (t:=decide (y<(((n:Nat):Int)+1-1-64))) kj (fun c48=>?_) (fun c48=>?_)
   ·skip
    have hcut:(y<(((n:Nat):Int)+1-1-64)):=of_decide_eq_true c48
    refine Qae <| sg 3 kj ?_
    have r1_11:=(Qaa r1_10 e11)
    refine Qab (.map (some mg)) 94 rfl kj (Qad 80 _ g 35 82 _ (.map (some mg)) _ r1_11 rfl kj (Qam [#[.int .i64 (((n:Nat):Int)+1)],#[.int .u64 ((B*2^a%18446744073709551616|||1*2^(a-1)%18446744073709551616:Nat):Int)],ints .u8 (itV sec k),#[.int .i64 ((pl+k:Nat):Int)]] [#[.map (some mg)]] [] 35 (by rw [Qac,Qac,Qac,Qac]; simp only [qS,cat,(izT (Qa4 hsec k))]; rfl) 0 _ rfl) kj) ?_
    refine sg 1 kj <| Qgp (kt:=3) (et:=114) (.tmp 94) (.tmp 95) 80 hM18 rfl kj kj kj kj (QfI hst e11) hy hcut rfl kj fun W12 p12 hrg2=>?_
    have x12:Qaf [g,mg] w W12:=zb2 x11 p12 (.inl (by simp))
    refine Qal ?_
    repeat (first | with_reducible refine goX1 ?_ | with_reducible refine goX2 ?_ | with_reducible refine goX3 ?_)
    exact Qa5 (sn.push e.born) ⟨kj,kj,kj,kj,kj,kj,trivial⟩ ⟨hrg2,(zb2 (zb1 (zb2 q9 p10 (.inl (by simp))) e11) p12 (.inl (by simp))),x12⟩ (Qd2.mu hst)
   ·skip
    have hcut:¬ (y<(((n:Nat):Int)+1-1-64)):=of_decide_eq_false c48
    refine wp_skip ?_
    repeat (first | with_reducible refine goX1 ?_ | with_reducible refine goX2 ?_ | with_reducible refine goX3 ?_)
    exact Qa5 (sn.push e.born) ⟨kj,kj,kj,kj,kj,kj,trivial⟩ ⟨(Qd2.stay hM18 (QfI hst e11) (by rw [Qka hy]; exact decide_eq_true (Int.not_lt.1 hcut))),(zb1 (zb2 q9 p10 (.inl (by simp))) e11),x11⟩ (Qd2.mu hst)
end Cn
end
section
namespace Cn
open Go Go.RowKit
open Rely Auto Own Sha
def hiT (ts : List Int):Int:=ts.foldl (fun a x=>if x>a then x else a) (-1)
theorem QeM (ts : List Int) (m:Int):hiT (ts++[m])=if m>hiT ts then m else hiT ts:=by unfold hiT; rw [List.foldl_append]; rfl
theorem Qkm (ts : List Int):∀ m∈ts,m≤hiT ts:=by
  suffices h:∀ (r:List Int),(∀ m∈r.reverse,m≤hiT r.reverse) by have:=h ts.reverse; rwa [zbm] at this
  intro r
  induction r with
  | nil=>intro m h; cases h
  | cons x r ih =>
    intro m h
    rw [zbn] at h ⊢
    rw [QeM]
    rcases za8.1 h with h | h
    · have:=ih m h; split <;> omega
    · have:m=x:=by simpa using h
      subst this; split <;> omega
theorem Qif (ts : List Int):hiT ts=-1∨hiT ts∈ts:=by
  suffices h:∀ (r:List Int),(hiT r.reverse=-1∨hiT r.reverse∈r.reverse) by have:=h ts.reverse; rwa [zbm] at this
  intro r
  induction r with
  | nil=>exact .inl rfl
  | cons x r ih =>
    rw [zbn,QeM]
    split
    · exact .inr (by simp)
    · rcases ih with h | h
      · exact .inl h
      · exact .inr (List.mem_append_left _ h)
def chkT (ts : List Int) (n:Int):Int:=if n<0∨4294967294<n then 8 else if n<hiT ts-64 then 11 else if n∈ts then 7 else 0
structure WInv (nx : Int) (B : Nat) (ts : List Int) : Prop where
  hnx:0≤nx∧nx≤4294967295
  hB:B<18446744073709551616
  hhi:hiT ts=nx-1
  hrng:∀ m∈ts,0≤m∧m<4294967295
  hbits:∀ k:Nat,k<64→0≤nx-2-k→(B.testBit k=true↔(nx-2-k)∈ts)
theorem Qkf : WInv 0 0 []:=⟨by omega,by decide,rfl,(fun m h=>by cases h),(fun k hk h=>by omega)⟩
theorem Qmn (B k:Nat):B/2^k%2=1↔B.testBit k=true:=by rw [Nat.testBit_eq_decide_div_mod_eq]; simp
theorem Qin {nx : Int} {B:Nat} {ts:List Int} (h:WInv nx B ts) (n:Int):chkW nx B n=chkT ts n:=by
  have hh:=h.hhi
  unfold chkW chkT
  by_cases h1:n<0∨4294967295≤n
  · rw [if_pos h1,if_pos (by omega)]
  · rw [if_neg h1,if_neg (show ¬ (n<0∨4294967294<n) by omega),hh]
    by_cases h2:64<nx-1-n
    · rw [if_pos h2,if_pos (by omega)]
    · rw [if_neg h2,if_neg (show ¬ n<nx-1-64 by omega)]
      by_cases h3:n∈ts
      · have hle:=Qkm ts n h3
        rw [if_pos h3,if_pos ?_]
        by_cases h4:nx-1-n=0
        · exact .inl h4
        · refine .inr ⟨by omega,?_⟩
          obtain ⟨j,hj⟩:=zaV (show 0≤nx-1-n-1 by omega)
          rw [hj,zab,Qmn,h.hbits j (by omega) (by omega),show nx-2-(j:Int)=n by omega]
          exact h3
      · rw [if_neg h3,if_neg ?_]
        rintro (h4 | ⟨h4,h5⟩)
        · rcases Qif ts with h6 | h6
          · omega
          · exact h3 (by rw [show n=hiT ts by omega]; exact h6)
        · obtain ⟨j,hj⟩:=zaV (show 0≤nx-1-n-1 by omega)
          rw [hj,zab,Qmn,h.hbits j (by omega) (by omega),show nx-2-(j:Int)=n by omega] at h5
          exact h3 h5
theorem QeP {ts : List Int} {n:Int} (h:chkT ts n=0):0≤n∧n<4294967295∧hiT ts-64≤n∧n∉ts:=by
  unfold chkT at h
  split at h
  · omega
  · split at h
    · omega
    · split at h
      · omega
      · exact ⟨by omega,by omega,by omega,by assumption⟩
theorem QoQ {nx : Int} {B:Nat} {ts:List Int} (h:WInv nx B ts) {n:Int} (hc:chkT ts n=0) (j:Nat) (hj:nx-1-n-1=(j:Int)) (hj2:j<64):WInv nx (B|||2^j) (ts++[n]):=by
  obtain ⟨h0,h1,h2,h3⟩:=QeP hc
  have hh:=h.hhi
  refine ⟨h.hnx,QhO _ _ h.hB (QhL j hj2),by rw [QeM,if_neg (by omega)]; exact hh,fun m hm=>?_,fun k hk hp=>?_⟩
  · rcases za8.1 hm with hm | hm
    · exact h.hrng m hm
    · have:m=n:=by simpa using hm
      omega
  · rw [Nat.testBit_or,zbo,Bool.or_eq_true,h.hbits k hk hp,za8]
    constructor
    · rintro (e | e)
      · exact .inl e
      · have:j=k:=by simpa using e
        exact .inr (by simp; omega)
    · rintro (e | e)
      · exact .inl e
      · have:nx-2-(k:Int)=n:=by simpa using e
        exact .inr (by simp; omega)
theorem QoP {nx : Int} {B:Nat} {ts:List Int} (h:WInv nx B ts) {n:Int} (hc:chkT ts n=0) (a:Nat) (ha:n-(nx-1)=(a:Int)) (ha1:1≤a) :
    WInv (n+1) (B*2^a%18446744073709551616|||1*2^(a-1)%18446744073709551616) (ts++[n]):=by
  obtain ⟨h0,h1,h2,h3⟩:=QeP hc
  have hh:=h.hhi
  have hn:=h.hnx
  refine ⟨by omega,QhO _ _ (zaW _ (by decide)) (zaW _ (by decide)),by rw [QeM,if_pos (by omega)]; omega,fun m hm=>?_,fun k hk hp=>?_⟩
  · rcases za8.1 hm with hm | hm
    · exact h.hrng m hm
    · have:m=n:=by simpa using hm
      omega
  · have e64:(18446744073709551616:Nat)=2^64:=by decide
    rw [Nat.testBit_or,e64,zbp,zbp,Nat.one_mul,zbo,Nat.mul_comm B,Nat.testBit_two_pow_mul,za8]
    simp only [hk,decide_true,Bool.true_and,Bool.or_eq_true,Bool.and_eq_true,decide_eq_true_eq,za6,ge_iff_le]
    have hne:¬ (n+1-2-(k:Int)=n):=by omega
    constructor
    · rintro (⟨e1,e2⟩ | e)
      · left
        rw [h.hbits (k-a) (by omega) (by omega)] at e2
        rwa [show n+1-2-(k:Int)=nx-2-((k-a:Nat):Int) by omega]
      · left
        have:n+1-2-(k:Int)=hiT ts:=by omega
        rw [this]
        exact (Qif ts).resolve_left (by omega)
    · rintro (e | e)
      · have hle:=Qkm ts _ e
        by_cases hk2:a≤k
        · left
          refine ⟨hk2,?_⟩
          rw [h.hbits (k-a) (by omega) (by omega)]
          rwa [show nx-2-((k-a:Nat):Int)=n+1-2-(k:Int) by omega]
        · right; omega
      · exact absurd e hne
structure MsIs (s0 : List Int) (pl : Nat) (ts : List Int) (ms : List (Int × List Int)) : Prop where
  all:∀ p∈ms,∃ k:Nat,k<pl∧p=(((k:Nat):Int),keyV (itV s0 k))∧((k:Nat):Int)∉ts∧pl≤k+65
  each:∀ k:Nat,k<pl→((k:Nat):Int)∉ts→pl≤k+65→(((k:Nat):Int),keyV (itV s0 k))∈ms
structure ChSt (g mg : Nat) (s0 ts : List Int) (pl : Nat) (ms : List (Int × List Int)) (W : World) : Prop where
  len:s0.length=32
  byt:Qai s0
  row:∃ B,WInv ((pl:Nat):Int) B ts∧W.heap[g]? = some (.cells (cat [#[.int .i64 ((pl:Nat):Int)],#[.int .u64 ((B:Nat):Int)],ints .u8 (itV s0 pl),#[.int .i64 ((pl:Nat):Int)],#[.map (some mg)]]) 82)
  mp:MpAt mg (ms.map mpv) W
  is:MsIs s0 pl ts ms
theorem ChSt.keep {g mg:Nat} {s0 ts:List Int} {pl:Nat} {ms:List (Int×List Int)} {W W':World} (h:ChSt g mg s0 ts pl ms W) (e1:W'.heap[g]? = W.heap[g]?) (e2:W'.heap[mg]? = W.heap[mg]?):ChSt g mg s0 ts pl ms W':=by
  obtain ⟨B,h1,h2⟩:=h.row
  exact ⟨h.len,h.byt,⟨B,h1,e1.trans h2⟩,h.mp.keep e2,h.is⟩
theorem ChSt.glt {g mg:Nat} {s0 ts:List Int} {pl:Nat} {ms:List (Int×List Int)} {W:World} (h:ChSt g mg s0 ts pl ms W):g<W.heap.size:=by obtain ⟨B,h1,h2⟩:=h.row; exact Qaq h2
theorem ChSt.ext {g mg:Nat} {s0 ts:List Int} {pl:Nat} {ms:List (Int×List Int)} {W W':World} (h:ChSt g mg s0 ts pl ms W) (e:Ext W W'):ChSt g mg s0 ts pl ms W':=h.keep (e.block g h.glt) (e.block mg h.mp.lt)
def QcG (ms : List (Int×List Int)) (s0:List Int) (pl n:Nat):List (Int×List Int):=QiU (msNo ms ((n:Nat):Int)++Qc0 (itV s0 pl) pl n (n+1-pl)) ((((max pl (n+1)):Nat):Int)-1-64)
def chkN (ts : List Int) (pl:Nat) (n:Int):Int:=if chkT ts n≠0 then chkT ts n else if ((pl:Nat):Int)+256<n then 12 else 0
theorem Qk4 {pl B:Nat} {ts:List Int} (h:WInv ((pl:Nat):Int) B ts) (n:Int):chkC ((pl:Nat):Int) B pl n=chkN ts pl n:=by unfold chkC chkN; rw [Qin h]
theorem QgT {pl : Nat} {ts:List Int} {n:Int} (h:chkN ts pl n=0):chkT ts n=0∧n≤((pl:Nat):Int)+256:=by
  unfold chkN at h
  split at h
  · rename_i h1; exact absurd h h1
  · rename_i h1
    split at h
    · cases h
    · exact ⟨by simpa using h1,by omega⟩
theorem MsIs.lt {s0 : List Int} {pl:Nat} {ts:List Int} {ms:List (Int×List Int)} (h:MsIs s0 pl ts ms):∀ p∈ms,p.1<((pl:Nat):Int):=fun p hp=>by
  obtain ⟨k,h1,h2,-⟩:=h.all p hp
  rw [h2]; show ((k:Nat):Int)<_; omega
theorem MsIs.ok {s0 : List Int} {pl:Nat} {ts:List Int} {ms:List (Int×List Int)} (h:MsIs s0 pl ts ms):MsOk ms:=fun p hp=>by
  obtain ⟨k,h1,h2,-⟩:=h.all p hp
  rw [h2]; show (keyV (itV s0 k)).length=44∧Qai (keyV (itV s0 k)); exact ⟨QaI _,QiY _⟩
theorem MsIs.get {s0 : List Int} {pl:Nat} {ts:List Int} {ms:List (Int×List Int)} (h:MsIs s0 pl ts ms) {k:Nat} (h1:k<pl) (h2:((k:Nat):Int)∉ts) (h3:pl≤k+65):lget ms ((k:Nat):Int)=keyV (itV s0 k):=by
  have hm:=h.each k h1 h2 h3
  unfold lget
  cases hf:ms.find? (fun p=>p.1==((k:Nat):Int)) with
  | none =>
    rw [za9] at hf
    exact absurd (by simp) (hf _ hm)
  | some p =>
    obtain ⟨j,q1,q2,-⟩:=h.all p (zbj hf)
    have hk:=List.find?_some hf
    rw [q2] at hk
    have hjk:((j:Nat):Int)=((k:Nat):Int):=by simpa using hk
    have:j=k:=by omega
    subst this
    rw [q2]; rfl
theorem QhY (sec : List Int) (pl n:Nat) (p:Int×List Int):∀ k,p∈Qc0 sec pl n k↔∃ j,j<k∧pl+j<n∧n≤pl+j+64∧p=(((pl+j:Nat):Int),keyV (itV sec j))
  | 0=>⟨fun h=>absurd h zat,fun ⟨j,h,_⟩=>absurd h (Nat.not_lt_zero _)⟩
  | k+1=>by
    rw [Qc0,za8,QhY sec pl n p k]
    constructor
    · rintro (⟨j,h1,h2⟩ | h)
      · exact ⟨j,by omega,h2⟩
      · split at h
        · rename_i hc; rw [za6] at h; exact ⟨k,by omega,hc.1,hc.2,h⟩
        · cases h
    · rintro ⟨j,h1,h2,h3,h4⟩
      rcases zaS j k with h | h
      · exact .inl ⟨j,h,h2,h3,h4⟩
      · obtain rfl:j=k:=by omega
        right; rw [if_pos ⟨h2,h3⟩,za6]; exact h4
theorem MsIs.take {s0 : List Int} {pl:Nat} {ts:List Int} {ms:List (Int×List Int)} (h:MsIs s0 pl ts ms) (n:Nat) (lim:Int) (hl:lim=(((max pl (n+1)):Nat):Int)-1-64) (hn:((n:Nat):Int)∉ts) (hts:∀ m∈ts,m<((pl:Nat):Int)):MsIs s0 (max pl (n+1)) (ts++[((n:Nat):Int)]) (QiU (msNo ms ((n:Nat):Int)++Qc0 (itV s0 pl) pl n (n+1-pl)) lim):=by
  have key:∀ p,p∈QiU (msNo ms ((n:Nat):Int)++Qc0 (itV s0 pl) pl n (n+1-pl)) lim↔((p∈ms∧p.1≠((n:Nat):Int))∨∃ j,j<n+1-pl∧pl+j<n∧n≤pl+j+64∧p=(((pl+j:Nat):Int),keyV (itV (itV s0 pl) j)))∧lim≤p.1:=fun p=>by
    unfold QiU msNo
    rw [zaC,za8,zaC,QhY]
    simp only [bne_iff_ne,ne_eq,decide_eq_true_eq]
  refine ⟨fun p hp=>?_,fun k h1 h2 h3=>?_⟩
  · obtain ⟨hp1,hp2⟩:=(key p).1 hp
    rcases hp1 with ⟨q1,q2⟩ | ⟨j,q1,q2,q3,q4⟩
    · obtain ⟨k,r1,r2,r3,r4⟩:=h.all p q1
      have e1:p.1=((k:Nat):Int):=by rw [r2]
      refine ⟨k,by omega,r2,fun hm=>?_,by omega⟩
      rcases za8.1 hm with hm | hm
      · exact r3 hm
      · rw [za6] at hm; exact q2 (e1.trans hm)
    · have e1:p.1=((pl+j:Nat):Int):=by rw [q4]
      refine ⟨pl+j,by omega,by rw [q4,Qen],fun hm=>?_,by omega⟩
      rcases za8.1 hm with hm | hm
      · have:=hts _ hm; omega
      · rw [za6] at hm; omega
  · refine (key _).2 ⟨?_,show lim≤((k:Nat):Int) by omega⟩
    have hk1:((k:Nat):Int)∉ts:=fun hm=>h2 (za8.2 (.inl hm))
    have hk2:k≠n:=fun e=>h2 (za8.2 (.inr (by rw [e]; exact za6.2 rfl)))
    rcases zaS k pl with hkp | hkp
    · exact .inl ⟨h.each k hkp hk1 (by omega),show ((k:Nat):Int)≠_ by omega⟩
    · right
      refine ⟨k-pl,by omega,by omega,by omega,?_⟩
      rw [Qen,show pl+(k-pl)=k by omega]
theorem Qk5 {g mg:Nat} {s0 ts:List Int} {pl:Nat} {ms:List (Int×List Int)} {w:World} (h:ChSt g mg s0 ts pl ms w) (n:Int):Calls Tryd.prog 37 #[.pointer (some ⟨g,0,none⟩),.int .i64 n] w (Ret w (errV (chkN ts pl n))):=by
  obtain ⟨B,h1,h2⟩:=h.row
  have:=Qnc g _ B n h1.hnx h1.hB (itV s0 pl) pl mg (Qa4 h.len pl) w h2 (by have:=h1.hnx; omega)
  rw [Qk4 h1] at this
  exact this
section
variable {g mg : Nat} {s0 ts : List Int} {pl : Nat} {ms : List (Int × List Int)} {w : World} (tc tq : TypeId)
theorem Qoc {B : Nat} (h1:WInv ((pl:Nat):Int) B ts):∀ m∈ts,m<((pl:Nat):Int):=fun m hm=>by
  have:=Qkm ts m hm
  have:=h1.hhi
  omega
theorem QoJ (hc : w.heap[4]? = some (.cells (ints .u64 QaR) tc)) (hq:w.heap[3]? = some (.cells (ints .u64 Qa9) tq)) (h:ChSt g mg s0 ts pl ms w) (n:Nat) (hc0:chkN ts pl ((n:Nat):Int)=0):Calls Tryd.prog 38 #[.pointer (some ⟨g,0,none⟩),.int .i64 ((n:Nat):Int)] w (QbF w (QbA w.heap.size ((n:Nat):Int) (keyV (itV s0 n)))):=by
  obtain ⟨B,h1,h2⟩:=h.row
  obtain ⟨k1,k2⟩:=QgT hc0
  obtain ⟨k3,k4,k5,k6⟩:=QeP k1
  have hhi:=h1.hhi
  have hnx:=h1.hnx
  rcases zaS n pl with hn | hn
  · have:=Qmg g _ B h1.hnx h1.hB (itV s0 pl) pl mg (Qa4 h.len pl) w h2 ms h.is.ok h.mp tc tq hc hq (Qb0 h.byt pl) ((n:Nat):Int) (by omega)
    rw [h.is.get hn k6 (by omega)] at this
    exact this
  · have:=Qmf g _ B h1.hnx h1.hB (itV s0 pl) pl mg (Qa4 h.len pl) w h2 ms h.is.ok h.mp tc tq hc hq (Qb0 h.byt pl) n (by omega) (by omega) hn
    rw [Qen,show pl+(n-pl)=n by omega] at this
    exact this
theorem Qoy (hc : w.heap[4]? = some (.cells (ints .u64 QaR) tc)) (hq:w.heap[3]? = some (.cells (ints .u64 Qa9) tq)) (h:ChSt g mg s0 ts pl ms w) (n:Nat) (hc0:chkN ts pl ((n:Nat):Int)=0) (hcg:4≠g) (hsg:3≠g):Calls Tryd.prog 40 #[.pointer (some ⟨g,0,none⟩),.int .i64 ((n:Nat):Int)] w (fun e W=>∃ v,e=.returned (.tuple #[v,.nilIface])∧Qaf [g,mg] w W∧ChSt g mg s0 (ts++[((n:Nat):Int)]) (max pl (n+1)) (QcG ms s0 pl n) W∧QbA w.heap.size ((n:Nat):Int) (keyV (itV s0 n)) v W):=by
  obtain ⟨B,h1,h2⟩:=h.row
  obtain ⟨k1,k2⟩:=QgT hc0
  obtain ⟨k3,k4,k5,k6⟩:=QeP k1
  have hhi:=h1.hhi
  have hnx:=h1.hnx
  have hw0:chkW ((pl:Nat):Int) B ((n:Nat):Int)=0:=by rw [Qin h1]; exact k1
  rcases zaS n pl with hn | hn
  · have hne:((n:Nat):Int)≠((pl:Nat):Int)-1:=fun e=>by
      rcases Qif ts with q | q
      · omega
      · rw [hhi,←e] at q; exact k6 q
    obtain ⟨j,hj⟩:∃ j:Nat,((pl:Nat):Int)-1-((n:Nat):Int)-1=((j:Nat):Int):=⟨pl-1-n-1,by omega⟩
    refine (Qn5 g _ B h1.hnx h1.hB (itV s0 pl) pl mg (Qa4 h.len pl) w h2 ms h.is.ok h.mp tc tq hc hq (Qb0 h.byt pl) n (by omega) (by omega) h.is.lt hcg hsg hw0 hn j hj (by omega)).mono ?_
    rintro e W ⟨v,rfl,q1,q2,q3,q4⟩
    have ek:n+1-pl=0:=by omega
    have em:max pl (n+1)=pl:=by omega
    have hI:=h.is.take n _ rfl k6 (Qoc h1)
    rw [h.is.get hn k6 (by omega)] at q4
    rw [ek] at q2
    rw [show ((pl:Nat):Int)-1-64=(((max pl (n+1)):Nat):Int)-1-64 by rw [em]] at q3
    refine ⟨v,rfl,q1,⟨h.len,h.byt,?_,q3,hI⟩,q4⟩
    rw [em]
    exact ⟨_,QoQ h1 k1 j hj (by omega),q2⟩
  · obtain ⟨a,ha⟩:∃ a:Nat,((n:Nat):Int)-(((pl:Nat):Int)-1)=((a:Nat):Int):=⟨n+1-pl,by omega⟩
    refine (Qn4 g _ B h1.hnx h1.hB (itV s0 pl) pl mg (Qa4 h.len pl) w h2 ms h.is.ok h.mp tc tq hc hq (Qb0 h.byt pl) n (by omega) (by omega) h.is.lt hcg hsg hw0 hn a ha (by omega)).mono ?_
    rintro e W ⟨v,rfl,q1,q2,q3,q4⟩
    have em:max pl (n+1)=n+1:=by omega
    have hI:=h.is.take n _ rfl k6 (Qoc h1)
    rw [Qen,show pl+(n-pl)=n by omega] at q4
    rw [Qen,show pl+(n+1-pl)=n+1 by omega] at q2
    have hW:=QoP h1 k1 a ha (by omega)
    rw [show ((n:Nat):Int)+1=((n+1:Nat):Int) by omega] at q2 hW
    rw [show ((n:Nat):Int)+1-1-64=(((max pl (n+1)):Nat):Int)-1-64 by rw [em]; omega] at q3
    refine ⟨v,rfl,q1,⟨h.len,h.byt,?_,q3,hI⟩,q4⟩
    rw [em]
    exact ⟨_,hW,q2⟩
end
end Cn
end
section
namespace Cn
open Go Go.RowKit
open Rely Auto Own Sha
theorem Qhg {P : Program} {ρ:Operand→Value} {o:Oper} {w:World} (ty:TypeId) (x:Operand) (g off:Nat) (t:TypeId) (cs:Array Value) (v:Value) (hg:w.heap[g]? = some (.cells cs t)) (hv:cs[off]? = some v)
    (ho:o.op=.load ty x) (hx:ρ x=.pointer (some ⟨g,off,none⟩)) (hu:aggD P ty=some false):(execOp ρ o).run P w=.ok (.value v) w:=Qad ty x g off t cs v _ hg ho hx hv hu
theorem at_I (gc gl len cap:Nat) (lp:Array Value) (w:World) (hgc:w.heap[gc]? = some (.cells #[.slice (some ⟨gl,0,none⟩) len cap] 71)) (hgl:w.heap[gl]? = some (.cells lp 73)) (g i:Nat) (hi:i<len) (hli:lp[i]? = some (.pointer (some ⟨g,0,none⟩))):Calls Tryd.prog 32 #[.pointer (some ⟨gc,0,none⟩),.int .i64 ((i:Nat):Int)] w (Ret w (.pointer (some ⟨g,0,none⟩))):=by
  refine enter 27 [(0,.pointer (some ⟨gc,0,none⟩)),(1,.int .i64 ((i:Nat):Int))] Tryd.func32 rfl rfl kj rfl <| sgB kj <| wp_seq_k fun K4 hK4=>sgC fun K5 hK5=>sg 4 kj <| Qab (.bool false) 9 rfl kj (Qah (u:=.bool (decide (((i:Nat):Int)<0))) kj (congrArg zau (decide_eq_false (by omega)))) <| sg 6 kj <| Qab (.slice (some ⟨gl,0,none⟩) len cap) 16 rfl kj (Qad 69 _ gc 0 71 _ (.slice (some ⟨gl,0,none⟩) len cap) _ hgc rfl kj kj kj) <| sg 1 kj <| Qab (.bool false) 18 rfl kj (Qah (u:=.bool (decide (((i:Nat):Int)≥((len:Nat):Int)))) kj (congrArg zau (decide_eq_false (by omega)))) ?_
  refine sg 1 kj <| sgN hK5 <| cond_false kj <| wp_skip <| hK4 _ _ <| sgC fun K6 hK6=>sg 3 kj <| Qab (.slice (some ⟨gl,0,none⟩) len cap) 23 rfl kj (Qad 69 _ gc 0 71 _ (.slice (some ⟨gl,0,none⟩) len cap) _ hgc rfl kj kj kj) <| sg 1 kj <| Qab (.pointer (some ⟨gl,i,none⟩)) 25 rfl kj (Qbf 69 _ _ .i64 i gl len cap 73 rfl kj kj kj kj hi) ?_
  refine Qab (.pointer (some ⟨g,0,none⟩)) 26 rfl kj (Qhg 73 _ gl i 73 lp (.pointer (some ⟨g,0,none⟩)) hgl hli rfl kj kj) <| sg 1 kj <| sgN hK6 <| wp_ret ?_
  repeat (first | with_reducible refine goR1 ?_ | with_reducible refine goR2 ?_)
  exact (show bodyPost _ _ _ .ret _ _ from ret1 (.pointer (some ⟨g,0,none⟩)) rfl (Qaz kj) ⟨rfl,(zbr w)⟩)
theorem Qme (gc gl len cap:Nat) (lp:Array Value) (w:World) (hgc:w.heap[gc]? = some (.cells #[.slice (some ⟨gl,0,none⟩) len cap] 71)) (hgl:w.heap[gl]? = some (.cells lp 73)) (g i:Nat) (hi:i<len) (hli:lp[i]? = some (.pointer (some ⟨g,0,none⟩))) (tc tq:TypeId) (hc:w.heap[4]? = some (.cells (ints .u64 QaR) tc)) (hq:w.heap[3]? = some (.cells (ints .u64 Qa9) tq)) {mg pl:Nat} {s0 ts:List Int} {ms:List (Int×List Int)} (hch:ChSt g mg s0 ts pl ms w) (m:Int) (he:chkN ts pl m≠0):Calls Tryd.prog 24 #[.pointer (some ⟨gc,0,none⟩),.int .i64 ((i:Nat):Int),.int .i64 m] w (Ret w (.tuple #[.agg (cat [#[.int .i64 0],ints .u8 (zaa 32 0),#[.slice none 0 0]]),.iface 41 (.int .i64 (chkN ts pl m))])):=by
  refine enter 27 [(0,.pointer (some ⟨gc,0,none⟩)),(1,.int .i64 ((i:Nat):Int)),(2,.int .i64 m)] Tryd.func24 rfl rfl kj rfl <| sgC fun K5 hK5=>Qar (cat [#[.int .i64 0],ints .u8 (zaa 32 0),#[.slice none 0 0]]) 60 6 rfl kj kj fun g6 W1 l6 e1 r6_1=>sg 1 kj <| sgN hK5 <| sgC fun K7 hK7=>sg 2 kj <| Qau (.pointer (some ⟨g,0,none⟩)) 32 #[.pointer (some ⟨gc,0,none⟩),.int .i64 ((i:Nat):Int)] 12 rfl kj kj (at_I gc gl len cap lp _ (Qaa hgc e1) (Qaa hgl e1) g i hi hli) fun W2 e2=>?_
  have x2:=zbv (zbv (zbr w) e1) e2
  refine sg 1 kj <| sgN hK7 <| wp_seq_k fun K8 hK8=>sgB kj <| cond_false kj <| wp_skip <| hK8 _ _ <| wp_seq_k fun K10 hK10=>sgC fun K11 hK11=>sg 2 kj ?_
  refine Qau (.iface 41 (.int .i64 (chkN ts pl m))) 37 #[.pointer (some ⟨g,0,none⟩),.int .i64 m] 19 rfl kj kj (Qhz he▸Qk5 (hch.ext x2) m) fun W3 e3=>sg 1 kj <| sgN hK11 <| sgB kj <| cond_true kj <| sgC fun K13 hK13=>sg 2 kj ?_
  have r6_3:=(Qaa (Qaa r6_1 e2) e3)
  refine Qan g6 _ (cat [#[.int .i64 0],ints .u8 (zaa 32 0),#[.slice none 0 0]]) 60 r6_3 rfl kj (Qao 60 _ _ g6 60 _ _ r6_3 rfl kj kj (isz (n:=34) kj (by rw [Qac,Qac,Qac]; simp only [qS,cat,(izT (qZ (n:=32)))]; rfl)) (eqsz (n:=34) (by rw [Qac,Qac,Qac]; simp only [qS,cat,(izT (qZ (n:=32)))]; rfl) (by rw [Qac,Qac,Qac]; simp only [qS,cat,(izT (qZ (n:=32)))]; rfl)) (Qbn _ (by intro a ha; simp only [zas,zat,or_false] at ha; rcases ha with rfl | rfl | rfl; exact (Qa6 _ rfl); exact (Qay _ _); exact (Qa6 _ rfl)))) fun W4 p4 r6_4=>?_
  refine sg 1 kj <| sgN hK13 <| wp_ret ?_
  repeat (first | with_reducible refine goR1 ?_ | with_reducible refine goR2 ?_)
  exact (show bodyPost _ _ _ .ret _ _ from ret2 (.agg (cat [#[.int .i64 0],ints .u8 (zaa 32 0),#[.slice none 0 0]])) (.iface 41 (.int .i64 (chkN ts pl m))) rfl (QaP g6 60 _ r6_4 kj kj (isz (n:=34) kj (by rw [Qac,Qac,Qac]; simp only [qS,cat,(izT (qZ (n:=32)))]; rfl))) (Qaz kj) ⟨rfl,(zbu p4 (zbv x2 e3) (qT (zbr w).size l6))⟩)
theorem Qmd (gc gl len cap:Nat) (lp:Array Value) (w:World) (hgc:w.heap[gc]? = some (.cells #[.slice (some ⟨gl,0,none⟩) len cap] 71)) (hgl:w.heap[gl]? = some (.cells lp 73)) (g i:Nat) (hi:i<len) (hli:lp[i]? = some (.pointer (some ⟨g,0,none⟩))) (tc tq:TypeId) (hc:w.heap[4]? = some (.cells (ints .u64 QaR) tc)) (hq:w.heap[3]? = some (.cells (ints .u64 Qa9) tq)) {mg pl:Nat} {s0 ts:List Int} {ms:List (Int×List Int)} (hch:ChSt g mg s0 ts pl ms w) (m:Nat) (he:chkN ts pl ((m:Nat):Int)=0):Calls Tryd.prog 24 #[.pointer (some ⟨gc,0,none⟩),.int .i64 ((i:Nat):Int),.int .i64 ((m:Nat):Int)] w (QbF w (fun v W=>∃ u,v=.tuple #[u,.nilIface]∧QbA w.heap.size ((m:Nat):Int) (keyV (itV s0 m)) u W)):=by
  refine enter 27 [(0,.pointer (some ⟨gc,0,none⟩)),(1,.int .i64 ((i:Nat):Int)),(2,.int .i64 ((m:Nat):Int))] Tryd.func24 rfl rfl kj rfl <| sgC fun K5 hK5=>Qar (cat [#[.int .i64 0],ints .u8 (zaa 32 0),#[.slice none 0 0]]) 60 6 rfl kj kj fun g6 W1 l6 e1 r6_1=>sg 1 kj <| sgN hK5 <| sgC fun K7 hK7=>sg 2 kj <| Qau (.pointer (some ⟨g,0,none⟩)) 32 #[.pointer (some ⟨gc,0,none⟩),.int .i64 ((i:Nat):Int)] 12 rfl kj kj (at_I gc gl len cap lp _ (Qaa hgc e1) (Qaa hgl e1) g i hi hli) fun W2 e2=>?_
  have x2:=zbv (zbv (zbr w) e1) e2
  refine sg 1 kj <| sgN hK7 <| wp_seq_k fun K8 hK8=>sgB kj <| cond_false kj <| wp_skip <| hK8 _ _ <| wp_seq_k fun K10 hK10=>sgC fun K11 hK11=>sg 2 kj ?_
  refine Qau (.nilIface) 37 #[.pointer (some ⟨g,0,none⟩),.int .i64 ((m:Nat):Int)] 19 rfl kj kj (QdD he▸Qk5 (hch.ext x2) ((m:Nat):Int)) fun W3 e3=>?_
  have x3:=zbv x2 e3
  refine sg 1 kj <| sgN hK11 <| sgB kj <| cond_false kj <| wp_skip <| hK10 _ _ <| sgC fun K13 hK13=>sg 2 kj <| Qav (fun v W'=>(QbA W3.heap.size ((m:Nat):Int) (keyV (itV s0 m))) v W'∧Ext W3 W') 38 #[.pointer (some ⟨g,0,none⟩),.int .i64 ((m:Nat):Int)] 26 rfl kj kj ((QoJ tc tq (Qaa (Qaa (Qaa hc e1) e2) e3) (Qaa (Qaa (Qaa hq e1) e2) e3) (hch.ext x3) m he).mono (by rintro e w' ⟨v,rfl,e1,hv⟩; exact ⟨v,rfl,hv,e1⟩)) fun vv14 W4 hh14=>?_
  obtain ⟨hv14,e4⟩:=hh14
  obtain ⟨u15,rfl,hu15⟩:=hv14
  obtain ⟨a15_,c15_,rfl,-⟩:=id (zby hu15)
  have r6_3:=(Qaa (Qaa r6_1 e2) e3)
  have r6_4:=(Qaa r6_3 e4)
  refine Qan g6 _ (cat [#[.int .i64 ((m:Nat):Int)],ints .u8 ((keyV (itV s0 m)).take 32),#[.slice a15_ (((keyV (itV s0 m)).drop 32).length) c15_]]) 60 r6_4 rfl kj (Qao 60 _ _ g6 60 _ _ r6_4 rfl kj kj (isz (n:=34) kj (by rw [Qac,Qac,Qac]; simp only [qS,cat,(izT (QaX (QaI _)))]; rfl)) (eqsz (n:=34) (by rw [Qac,Qac,Qac]; simp only [qS,cat,(izT (qZ (n:=32)))]; rfl) (by rw [Qac,Qac,Qac]; simp only [qS,cat,(izT (QaX (QaI _)))]; rfl)) (Qbn _ (by intro a ha; simp only [zas,zat,or_false] at ha; rcases ha with rfl | rfl | rfl; exact (Qa6 _ rfl); exact (Qay _ _); exact (Qa6 _ rfl)))) fun W5 p5 r6_5=>?_
  refine sg 1 kj <| sgN hK13 <| wp_ret ?_
  repeat (first | with_reducible refine goR1 ?_ | with_reducible refine goR2 ?_)
  exact (show bodyPost _ _ _ .ret _ _ from ret2 (.agg (cat [#[.int .i64 ((m:Nat):Int)],ints .u8 ((keyV (itV s0 m)).take 32),#[.slice a15_ (((keyV (itV s0 m)).drop 32).length) c15_]])) (.nilIface) rfl (QaP g6 60 _ r6_5 kj kj (isz (n:=34) kj (by rw [Qac,Qac,Qac]; simp only [qS,cat,(izT (QaX (QaI _)))]; rfl))) (Qaz kj) ⟨_,rfl,(zbu p5 (zbv x3 e4) (qT (zbr w).size l6)),_,rfl,_,rfl,zbx x3.size (hu15.puts p5 (QbP hu15 (Qaq r6_3)))⟩)
theorem Qjr (gc gl len cap:Nat) (lp:Array Value) (w:World) (hgc:w.heap[gc]? = some (.cells #[.slice (some ⟨gl,0,none⟩) len cap] 71)) (hgl:w.heap[gl]? = some (.cells lp 73)) (g i:Nat) (hi:i<len) (hli:lp[i]? = some (.pointer (some ⟨g,0,none⟩))) (tc tq:TypeId) (hc:w.heap[4]? = some (.cells (ints .u64 QaR) tc)) (hq:w.heap[3]? = some (.cells (ints .u64 Qa9) tq)) {mg pl:Nat} {s0 ts:List Int} {ms:List (Int×List Int)} (hch:ChSt g mg s0 ts pl ms w) (m:Nat) (he:chkN ts pl ((m:Nat):Int)=0) (hcg:4≠g) (hsg:3≠g):Calls Tryd.prog 26 #[.pointer (some ⟨gc,0,none⟩),.int .i64 ((i:Nat):Int),.int .i64 ((m:Nat):Int)] w (fun e W=>∃ v,e=.returned (.tuple #[v,.nilIface])∧Qaf [g,mg] w W∧ChSt g mg s0 (ts++[((m:Nat):Int)]) (max pl (m+1)) (QcG ms s0 pl m) W∧QbA w.heap.size ((m:Nat):Int) (keyV (itV s0 m)) v W):=by
  refine enter 29 [(0,.pointer (some ⟨gc,0,none⟩)),(1,.int .i64 ((i:Nat):Int)),(2,.int .i64 ((m:Nat):Int))] Tryd.func26 rfl rfl kj rfl <| sgC fun K7 hK7=>Qar (cat [#[.int .i64 0],ints .u8 (zaa 32 0),#[.slice none 0 0]]) 60 6 rfl kj kj fun g8 W1 l8 e1 r8_1=>?_
  have b8:=qT (zbr w).size l8
  refine sg 1 kj <| sgN hK7 <| sgC fun K9 hK9=>sg 2 kj <| Qau (.pointer (some ⟨g,0,none⟩)) 32 #[.pointer (some ⟨gc,0,none⟩),.int .i64 ((i:Nat):Int)] 12 rfl kj kj (at_I gc gl len cap lp _ (Qaa hgc e1) (Qaa hgl e1) g i hi hli) fun W2 e2=>?_
  have x2:=zbv (zbv (zbr w) e1) e2
  refine sg 1 kj <| sgN hK9 <| wp_seq_k fun K10 hK10=>sgB kj <| cond_false kj <| wp_skip <| hK10 _ _ <| wp_seq_k fun K12 hK12=>sgC fun K13 hK13=>sg 2 kj ?_
  refine Qau (.nilIface) 37 #[.pointer (some ⟨g,0,none⟩),.int .i64 ((m:Nat):Int)] 19 rfl kj kj (QdD he▸Qk5 (hch.ext x2) ((m:Nat):Int)) fun W3 e3=>?_
  have x3:=zbv x2 e3
  refine sg 1 kj <| sgN hK13 <| sgB kj <| cond_false kj <| wp_skip <| hK12 _ _ <| sgC fun K15 hK15=>sg 2 kj <| Qav (fun v W'=>∃ u,v=.tuple #[u,.nilIface]∧Qaf [g,mg] W3 W'∧ChSt g mg s0 (ts++[((m:Nat):Int)]) (max pl (m+1)) (QcG ms s0 pl m) W'∧QbA W3.heap.size ((m:Nat):Int) (keyV (itV s0 m)) u W') 40 #[.pointer (some ⟨g,0,none⟩),.int .i64 ((m:Nat):Int)] 26 rfl kj kj ((Qoy tc tq (Qaa (Qaa (Qaa hc e1) e2) e3) (Qaa (Qaa (Qaa hq e1) e2) e3) (hch.ext x3) m he hcg hsg).mono (by rintro e w' ⟨v,rfl,q1,q2,q3⟩; exact ⟨_,rfl,_,rfl,q1,q2,q3⟩)) fun vv16 W4 hh16=>?_
  obtain ⟨uu16,rfl,q4,hch2,u16,rfl,hu16⟩:=hh16
  obtain ⟨a16_,c16_,rfl,-⟩:=id (zby hu16)
  have x4:Qaf [g,mg] w W4:=Qaf.keeps (zb1 (zbz [g,mg] w) x3) q4 (fun c hc=>.inl hc)
  refine sg 2 kj ?_
  have r8_3:=(Qaa (Qaa r8_1 e2) e3)
  have r8_4:=(zb0 q4 r8_3 (Qax (Ne.symm (za7 (qL hch.glt b8))) (Qax (Ne.symm (za7 (qL hch.mp.lt b8))) QaE)))
  refine Qan g8 _ (cat [#[.int .i64 ((m:Nat):Int)],ints .u8 ((keyV (itV s0 m)).take 32),#[.slice a16_ (((keyV (itV s0 m)).drop 32).length) c16_]]) 60 r8_4 rfl kj (Qao 60 _ _ g8 60 _ _ r8_4 rfl kj kj (isz (n:=34) kj (by rw [Qac,Qac,Qac]; simp only [qS,cat,(izT (QaX (QaI _)))]; rfl)) (eqsz (n:=34) (by rw [Qac,Qac,Qac]; simp only [qS,cat,(izT (qZ (n:=32)))]; rfl) (by rw [Qac,Qac,Qac]; simp only [qS,cat,(izT (QaX (QaI _)))]; rfl)) (Qbn _ (by intro a ha; simp only [zas,zat,or_false] at ha; rcases ha with rfl | rfl | rfl; exact (Qa6 _ rfl); exact (Qay _ _); exact (Qa6 _ rfl)))) fun W5 p5 r8_5=>?_
  have x5:Qaf [g,mg] w W5:=zb2 x4 p5 (.inr b8)
  refine sg 1 kj <| sgN hK15 <| wp_ret ?_
  repeat (first | with_reducible refine goR1 ?_ | with_reducible refine goR2 ?_)
  exact (show bodyPost _ _ _ .ret _ _ from ret2 (.agg (cat [#[.int .i64 ((m:Nat):Int)],ints .u8 ((keyV (itV s0 m)).take 32),#[.slice a16_ (((keyV (itV s0 m)).drop 32).length) c16_]])) (.nilIface) rfl (QaP g8 60 _ r8_5 kj kj (isz (n:=34) kj (by rw [Qac,Qac,Qac]; simp only [qS,cat,(izT (QaX (QaI _)))]; rfl))) (Qaz kj) ⟨_,rfl,x5,(hch2.keep (p5.2.2.2.2 g (Ne.symm (Ne.symm (za7 (qL hch.glt b8))))) (p5.2.2.2.2 mg (Ne.symm (Ne.symm (za7 (qL hch.mp.lt b8)))))),_,rfl,zbx x3.size (hu16.puts p5 (QbP hu16 (Qaq r8_3)))⟩)
end Cn
end
section
namespace Seat
open Go Go.RowKit
open Rely
def TabAt (w : World):Prop:=2<w.heap.size∧∀ j,j<64→w.cell? ⟨2,j,none⟩=some (.int .u8 (Lib.deBruijn64tab.getD j 0))
theorem TabAt.ext {w w':World} (h:TabAt w) (e:Ext w w'):TabAt w':=⟨qL h.1 e.size,fun j hj=>by rw [e.cell h.1]; exact h.2 j hj⟩
theorem Qjq (x k idx:Nat) (w:World) (hx0:((x:Int)==0)=false)
    (key:zaP.wrap (bits BinOp.and zaP (x:Int) (zaP.wrap (-(x:Int)))*285870213051353865)/288230376151711744=(idx:Int))
    (hi:idx<64) (hk:k<64) (hcell:w.cell? ⟨2,idx,none⟩=some (.int .u8 k)) :
    Calls Tryd.prog 74 #[.int .u64 x] w fun e w'=>e=.returned (.int .i64 k)∧w=w':=by
  go_enter Tryd.func74,Tryd.ntmps74
  go_wp2_with (simp only [key])
  go_ret
  exact ⟨rfl,rfl⟩
theorem QkL (x a:Nat) (hx:x<18446744073709551616) (hx0:x≠0) (hlow:x&&&(18446744073709551616-x)=a) :
    zaP.wrap (bits BinOp.and zaP (x:Int) (zaP.wrap (-(x:Int)))*285870213051353865)/288230376151711744=((a*285870213051353865%18446744073709551616/288230376151711744:Nat):Int):=by
  have e1:zaP.wrap (-(x:Int))=((18446744073709551616-x:Nat):Int):=by rw [zaR]; omega
  rw [e1,bits_and_u64_nat x _ hx (by omega),hlow,zaR]
  omega
theorem tz64 (x : Nat) (hx:x<18446744073709551616) (hx0:x≠0) (w:World) (hT:TabAt w) :
    Calls Tryd.prog 74 #[.int .u64 x] w fun e w'=>e=.returned (.int .i64 (Lib.ctz 64 x))∧w=w':=by
  obtain ⟨hlow,hk⟩:=Lib.lowest_bit 64 x hx0 hx
  obtain ⟨hi,htab⟩:=Lib.deBruijn64_at _ hk
  have hcell:=hT.2 _ hi
  rw [htab] at hcell
  exact Qjq x _ _ w (by simp; omega) (QkL x _ hx hx0 hlow) hi hk hcell
def isTree (n : Int):Bool:=n==1 || n==2 || n==4 || n==8 || n==16 || n==32
theorem Qe4 {n : Int} (h:isTree n=true):n=1∨n=2∨n=4∨n=8∨n=16∨n=32:=by
  simp only [isTree,Bool.or_eq_true,beq_iff_eq] at h; omega
theorem QkM (n : Int) (h:n<1∨32<n) (w:World):Calls Tryd.prog 30 #[.int .i64 n] w fun e w'=>e=.returned (.bool (isTree n))∧w=w':=by
  have e:isTree n=false:=by
    rw [Bool.eq_false_iff]; intro h'; have:=Qe4 h'; omega
  rw [e]
  rcases h with h | h
  · have h1:decide (1≤n)=false:=decide_eq_false (by omega)
    go_enter Tryd.func30,Tryd.ntmps30
    go_wp2
    all_goals first | omega | (go_ret; exact ⟨rfl,rfl⟩)
  · have h1:decide (1≤n)=true:=decide_eq_true (by omega)
    have h2:decide (n≤32)=false:=decide_eq_false (by omega)
    go_enter Tryd.func30,Tryd.ntmps30
    go_wp2
    all_goals first | omega | (go_ret; exact ⟨rfl,rfl⟩)
theorem Qnn : ∀ k:Fin 33,(bits .and .i64 (k.val:Int) ((k.val:Int)-1)==0)=(k.val==0 || isTree (k.val:Int)):=by decide +kernel
theorem Qms (n : Int) (h1:1≤n) (h2:n≤32) (w:World):Calls Tryd.prog 30 #[.int .i64 n] w fun e w'=>e=.returned (.bool (isTree n))∧w=w':=by
  have key:(bits .and .i64 n (n-1)==0)=isTree n:=by
    have:=Qnn ⟨n.toNat,by omega⟩
    have e:((n.toNat:Nat):Int)=n:=by omega
    simp only [e] at this
    rw [this]
    have:(n.toNat==0)=false:=by rw [beq_eq_false_iff_ne]; omega
    rw [this]; rfl
  have h3:decide (1≤n)=true:=decide_eq_true h1
  have h4:decide (n≤32)=true:=decide_eq_true h2
  go_enter Tryd.func30,Tryd.ntmps30
  go_wp2
  all_goals first | omega | (go_ret; exact ⟨rfl,rfl⟩)
theorem tree (n : Int) (w:World):Calls Tryd.prog 30 #[.int .i64 n] w fun e w'=>e=.returned (.bool (isTree n))∧w=w':=by
  by_cases h:1≤n∧n≤32
  · exact Qms n h.1 h.2 w
  · exact QkM n (by omega) w
def i64 (n : Int):Prop:=-9223372036854775808≤n∧n≤9223372036854775807
def lvN (x : Nat):Nat:=Lib.ctz 64 (18446744073709551615-x)
def lv (x : Int):Int:=if x<0 then -1 else lvN x.toNat
theorem Qoa (x : Nat) (h:x≤9223372036854775807):lvN x<64:=(Lib.lowest_bit 64 _ (by omega) (by omega)).2
theorem QmB (n : Nat) (h:n<18446744073709551616):bits .xor .u64 zaP.max (n:Int)=18446744073709551615-(n:Int):=by
  have e:zaP.max=((18446744073709551615:Nat):Int):=by decide
  rw [e,u64_xor_nat _ n (by omega) h]
  have e2:(18446744073709551615:Nat)^^^n=18446744073709551615-n:=by
    have:=BitVec.toNat_not (x:=zbq 64 n)
    have h1:(BitVec.allOnes 64^^^zbq 64 n) = ~~~ (zbq 64 n):=BitVec.allOnes_xor
    have h2:=congrArg BitVec.toNat h1
    rw [BitVec.toNat_xor,this,BitVec.toNat_allOnes,BitVec.toNat_ofNat,zaX (by omega:n<2^64)] at h2
    exact h2
  rw [e2]
  omega
theorem level (x : Int) (hx:i64 x) (w:World) (hT:TabAt w):Calls Tryd.prog 60 #[.int .i64 x] w fun e w'=>e=.returned (.int .i64 (lv x))∧w=w':=by
  unfold i64 at hx
  by_cases h:x<0
  · have e:lv x=-1:=by simp [lv,h]
    rw [e]
    go_enter Tryd.func60,Tryd.ntmps60
    go_wp2
    go_ret
    exact ⟨rfl,rfl⟩
  · have e:lv x=(lvN x.toNat:Int):=by simp [lv,h]
    rw [e]
    obtain ⟨n,rfl⟩:=zaV (by omega:0≤x)
    have hz:=tz64 (18446744073709551615-n) (by omega) (by omega) w hT
    have e2:((18446744073709551615-n:Nat):Int)=18446744073709551615-(n:Int):=by omega
    rw [e2,←QmB n (by omega)] at hz
    rw [zab]
    have e3:lvN n=Lib.ctz 64 (18446744073709551615-n):=rfl
    rw [←e3] at hz
    generalize lvN n=c at *
    clear e e2 e3
    go_enter Tryd.func60,Tryd.ntmps60
    go_wp2_with (go_at_call 74; refine hz.mono ?_; rintro e w' ⟨rfl,rfl⟩)
    go_ret
    exact ⟨rfl,rfl⟩
def half (k : Int):Int:=wrap64 (2^(k.toNat-1))
def kidL (x : Int):Int:=if lv x≤0 then -1 else wrap64 (x-half (lv x))
def kidR (x : Int):Int:=if lv x≤0 then -1 else wrap64 (x+half (lv x))
theorem QoI (x : Int) (hx:i64 x):-1≤lv x∧lv x≤63:=by
  unfold lv
  split
  · omega
  · have:=Qoa x.toNat (by unfold i64 at hx; omega)
    omega
theorem children (x : Int) (hx:i64 x) (w:World) (hT:TabAt w):Calls Tryd.prog 42 #[.int .i64 x] w fun e w'=>e=.returned (.tuple #[.int .i64 (kidL x),.int .i64 (kidR x)])∧w=w':=by
  have hl:=level x hx w hT
  have hb:=QoI x hx
  by_cases h:lv x≤0
  · have e1:kidL x=-1:=by simp [kidL,h]
    have e2:kidR x=-1:=by simp [kidR,h]
    rw [e1,e2]
    generalize lv x=k at *
    clear e1 e2
    go_enter Tryd.func42,Tryd.ntmps42
    go_wp2_with (go_at_call 60; refine hl.mono ?_; rintro e w' ⟨rfl,rfl⟩)
    go_ret2
    exact ⟨rfl,rfl⟩
  · have e1:kidL x=wrap64 (x-half (lv x)):=by simp [kidL,h]
    have e2:kidR x=wrap64 (x+half (lv x)):=by simp [kidR,h]
    rw [e1,e2]
    generalize lv x=k at *
    clear e1 e2
    go_enter Tryd.func42,Tryd.ntmps42
    go_wp2_with (go_at_call 60; refine hl.mono ?_; rintro e w' ⟨rfl,rfl⟩)
    go_ret2
    exact ⟨rfl,rfl⟩
theorem root (n : Int) (w:World):Calls Tryd.prog 15 #[.int .i64 n] w fun e w'=>e=.returned (.int .i64 (if isTree n then n-1 else -1))∧w=w':=by
  have hn:=tree n w
  cases ht:isTree n with
  | false =>
    rw [ht] at hn
    clear ht
    go_enter Tryd.func15,Tryd.ntmps15
    go_wp2_with (go_at_call 30; refine hn.mono ?_; rintro e w' ⟨rfl,rfl⟩)
    go_ret
    exact ⟨rfl,rfl⟩
  | true =>
    rw [ht] at hn
    have hc:=Qe4 ht
    have hb:1≤n∧n≤32:=by omega
    clear hc ht
    go_enter Tryd.func15,Tryd.ntmps15
    go_wp2_with (go_at_call 30; refine hn.mono ?_; rintro e w' ⟨rfl,rfl⟩)
    go_ret
    exact ⟨rfl,rfl⟩
end Seat
end
end Go.Proofs.YtioglfpngaddfaaDoor
