/- Texts of this claim, joined (T2). -/
import Derived.Test.YtfelfmchachljaaZT1
import Derived.Lib.SmallJoins
import Derived.Lib.LaidTab
import Derived.Deep.Strs

section
namespace Go.Proofs.Ytfelfmchachljaa.Wr
open Go Go.RowKit
open Rely Auto Own Sha
set_option linter.unusedVariables false
set_option linter.unusedSimpArgs false
open Wk
section
variable {P : Program} {ops : Array Oper} {Q : Exit → Act → World → Prop} {o : Oper} {N : Nat} {L : Env} {w V : World} {ds : List Deferred} {fuel : Nat} {listed : Array Bool}
theorem Qbk {k : IntKind} {T : TypeId} (b : Nat) (s x : Operand) (t : TypeId) (ho2 : o.op = .call { callee := .builtin .append, args := #[s, x], argTypes := #[t, t] })
    (ht : P.underlying t = some (.slice T)) (hi : (P.info? T).map (fun i => (i.zero, i.size, i.bytes)) = some (some (.int k 0), 1, b)) (hb8 : b ≤ 8) (d : Nat) (hd : o.dst = some d) (j : Nat) (ho : ops[j]? = some o) (hg : Qbo ops o N L = some true) {B : Nat} {v y : Value} {xs ys : List Int}
    (hs : Rely.look (envN N L) s = v) (hx : Rely.look (envN N L) x = y)
    (h : OwnN k T V.heap.size xs v w) (hy : RdK k B ys y w) (hn : xs.length + ys.length ≤ 1000000000) (hV : Ext V w)
    (kk : ∀ (u : Value) (W' : World), OwnN k T V.heap.size (xs ++ ys) u W' → Ext V W' → Below V.heap.size w W' → WB P ops Q (fun _ => True) fuel (listed.setIfInBounds j true) (Qa4 ds N ((d, u) :: L)) W') : WO P ops Q (fun _ => True) j fuel listed (Qa4 ds N L) w := by
  obtain ⟨v', W', h1, h2, h3, h4⟩ := Qcc (ρ := Rely.look (envN N L)) (o := o) (W := w) s x t ho2 ht hi hb8 hs hx h hy hn hV.size
  exact QeY ho (fun u W' => OwnN k T V.heap.size (xs ++ ys) u W' ∧ Ext V W' ∧ Below V.heap.size w W') d hd hg ⟨v', W', h1, h2, Qeu hV h h3, ⟨h3.os, h3.tape, h3.output, h3.size, fun i hi => h3.block i (Nat.lt_of_lt_of_le hi hV.size) (fun q => by have := h.ge q.symm; omega)⟩⟩ (fun _ _ _ => trivial) fun u W' h => kk u W' h.1 h.2.1 h.2.2
end
def Qbp (us : Bool) (nm : Int) (key sg pa : List Int) (n : Nat) : List Int := [bif us then 1 else 0, byV nm 0] ++ key ++ sg ++ pa ++ [byV ((n : Nat) : Int) 0]
def Qb7 (us : Bool) (nm : Int) (key sg pa ms : List Int) : List Int := Qbp us nm key sg pa ms.length ++ ms.map fun m => byV m 0
theorem Qc1 (H ms : List Int) (i : Nat) (h : i < ms.length) : H ++ (ms.take (i + 1)).map (fun m => byV m 0) = H ++ (ms.take i).map (fun m => byV m 0) ++ [byV (nth ms i) 0] := by
  have e : ms.take (i + 1) = ms.take i ++ [nth ms i] := by
    rw [List.take_add_one, List.getElem?_eq_getElem h]
    unfold nth
    rw [List.getD_eq_getElem?_getD, List.getElem?_eq_getElem h]
    rfl
  rw [e, List.map_append, ← List.append_assoc]
  rfl
set_option maxHeartbeats 4000000 in
theorem QdJ (nm : Int) (key sg pa ms : List Int) (a_m : Option Addr) (c_m : Nat) (w : World) (hkl : key.length = 32) (hgl : sg.length = 32) (hpl : pa.length = 32) (hml : ms.length ≤ 1000000) (hm : RdK .i64 w.heap.size ms (.slice a_m ms.length c_m) w) : Calls Try.prog 97 #[.agg (cat [#[.bool true], #[.int .i64 nm], ints .u8 (key), ints .u8 (sg), ints .u8 (pa), #[.slice a_m ms.length c_m]])] w (Qbv w (OwnN .u8 5 w.heap.size (Qb7 true nm key sg pa ms))) := by
 refine enter 47 [(0, .agg (cat [#[.bool true], #[.int .i64 nm], ints .u8 (key), ints .u8 (sg), ints .u8 (pa), #[.slice a_m ms.length c_m]]))] Try.func97 rfl rfl kj rfl ?_
 refine wp_seq_k fun K1 hK1 => ?_
 refine Qab ?_
 refine Qas (cat [#[.bool true], #[.int .i64 nm], ints .u8 (key), ints .u8 (sg), ints .u8 (pa), #[.slice a_m ms.length c_m]]) 43 1 rfl kj kj fun g2 W1 l2 e1 r2_1 => ?_
 have x1 : Ext w W1 := Ext.tr (Rely.Ext.refl w) e1
 have b2 : w.heap.size ≤ g2 := Nat.le_trans (Rely.Ext.refl w).size l2
 refine Qaa (.slice none 0 0) 2 rfl kj kj ?_
 refine Qae ?_
 refine hK1 _ _ ?_
 refine wp_seq_k fun K3 hK3 => ?_
 refine Qab ?_
 refine Qaa (.pointer (some ⟨g2, 1, none⟩)) 5 rfl kj kj ?_
 refine Qaa (.int .i64 nm) 6 rfl kj (Qah 3 _ g2 1 43 _ (.int .i64 nm) _ r2_1 rfl kj (Qak [#[.bool true]] [#[.int .i64 nm]] [ints .u8 (key), ints .u8 (sg), ints .u8 (pa), #[.slice a_m ms.length c_m]] 1 kj 0 _ rfl) kj) ?_
 refine Qaa (.int .u8 (byV nm 0)) 7 rfl kj (Qar (u := .int .u8 (IntKind.u8.wrap (nm))) kj (congrArg (Value.int .u8) (byV0 nm))) ?_
 refine QaJ (ints .u8 ([0, (byV nm 0)])) 5 2 8 rfl kj kj fun g4 W2 l4 e2 r4_2 => ?_
 have x2 : Ext w W2 := Ext.tr x1 e2
 have b4 : w.heap.size ≤ g4 := Nat.le_trans x1.size l4
 refine Qaa (.slice (some ⟨g4, 0, none⟩) 2 2) 3 rfl kj kj ?_
 refine Qae ?_
 refine hK3 _ _ ?_
 refine wp_seq_k fun K5 hK5 => ?_
 refine wp_seq_k fun K6 hK6 => ?_
 refine Qab ?_
 refine Qaa (.pointer (some ⟨g2, 0, none⟩)) 9 rfl kj kj ?_
 have r2_2 := (Qat r2_1 e2)
 refine Qaa (.bool true) 10 rfl kj (Qah 4 _ g2 0 43 _ (.bool true) _ r2_2 rfl kj (Qak [] [#[.bool true]] [#[.int .i64 nm], ints .u8 (key), ints .u8 (sg), ints .u8 (pa), #[.slice a_m ms.length c_m]] 0 kj 0 _ rfl) kj) ?_
 refine Qae ?_
 refine hK6 _ _ ?_
 refine cond_true kj ?_
 refine Qab ?_
 refine Qaa (.slice (some ⟨g4, 0, none⟩) 2 2) 11 rfl kj kj ?_
 refine Qaa (.pointer (some ⟨g4, 0, none⟩)) 12 rfl kj (QbG 26 _ _ .i64 (0) g4 2 2 5 rfl kj kj kj kj (by decide)) ?_
 refine Qa2 g4 _ (ints .u8 (([0, (byV nm 0)]).set 0 1)) 5 r4_2 rfl kj (QdH 5 _ _ g4 0 5 _ _ r4_2 rfl kj kj kj (Nat.lt_of_lt_of_eq (show 0 < 2 by decide) rfl.symm)) fun W3 p3 r4_3 => ?_
 have x3 : Ext w W3 := Puts.ext p3 x2 b4
 refine Qae ?_
 refine hK5 _ _ ?_
 refine wp_seq_k fun K7 hK7 => ?_
 refine Qb5 (fun _ => True) kj fun W4 e4 => ⟨trivial, ?_⟩
 have x4 : Ext w W4 := Ext.tr x3 e4
 refine Qam 0 (.slice (some ⟨g4, 0, none⟩) 2 2) 13 rfl rfl kj kj (fun _ _ _ h => h) (fun W hR => by kernel_rfl) ?_
 refine Qam 1 (.pointer (some ⟨g2, 2, none⟩)) 14 rfl rfl kj kj (fun _ _ _ h => h) (fun W hR => by kernel_rfl) ?_
 refine Qam 2 (.slice (some ⟨g2, 2, none⟩) 32 32) 15 rfl rfl kj kj (fun _ _ _ h => h) (fun W hR => by kernel_rfl) ?_
 refine Qam 4 (.pointer (some ⟨g2, 34, none⟩)) 17 rfl rfl kj kj (fun _ _ _ h => h) (fun W hR => by kernel_rfl) ?_
 refine Qam 5 (.slice (some ⟨g2, 34, none⟩) 32 32) 18 rfl rfl kj kj (fun _ _ _ h => h) (fun W hR => by kernel_rfl) ?_
 refine Qam 7 (.pointer (some ⟨g2, 66, none⟩)) 20 rfl rfl kj kj (fun _ _ _ h => h) (fun W hR => by kernel_rfl) ?_
 refine Qam 8 (.slice (some ⟨g2, 66, none⟩) 32 32) 21 rfl rfl kj kj (fun _ _ _ h => h) (fun W hR => by kernel_rfl) ?_
 refine Qbi 3 kj ?_
 have r4_4 := (Qat r4_3 e4)
 have r2_3 := (Puts.row p3 r2_2 (QaF r2_1 l4))
 have r2_4 := (Qat r2_3 e4)
 have y1_2 : Ext W1 W2 := (Rely.Ext.trans (Rely.Ext.refl W1) e2)
 have y1_3 : Ext W1 W3 := (Puts.ext p3 y1_2 l4)
 have y1_4 : Ext W1 W4 := (Rely.Ext.trans y1_3 e4)
 refine Qbk (k := .u8) (T := 5) (xs := ([0, (byV nm 0)]).set 0 1) (ys := key) (V := W1) 1 (.tmp 13) (.tmp 15) 26 rfl kj kj (by decide) 16 rfl 3 rfl kj kj kj (QbZ (xs := ([0, (byV nm 0)]).set 0 1) rfl l4 r4_4 (show 2 ≤ maxLen by decide)) (QaS 2 hkl r2_4 (fun i hi => QaN [#[.bool true], #[.int .i64 nm]] [ints .u8 (sg), ints .u8 (pa), #[.slice a_m ms.length c_m]] key 2 i (2 + i) kj rfl (by rw [hkl]; exact hi)) (Qa3 r2_4) (Nat.le_refl _) (by decide)) (by simp only [List.length_append, List.length_cons, List.length_nil, List.length_map, List.length_take, List.length_set, Qbp, hkl, hgl, hpl]; omega) y1_4 fun z1 W5 f8 y5 l5 => ?_
 have x5 : Ext w W5 := Ext.low x4 l5 x1.size
 refine Qbi 6 kj ?_
 have r2_5 := (Qbt l5 r2_4 (Qa3 r2_1))
 refine Qbk (k := .u8) (T := 5) (xs := ([0, (byV nm 0)]).set 0 1 ++ key) (ys := sg) (V := W1) 1 (.tmp 16) (.tmp 18) 26 rfl kj kj (by decide) 19 rfl 6 rfl kj kj kj f8 (QaS 34 hgl r2_5 (fun i hi => QaN [#[.bool true], #[.int .i64 nm], ints .u8 (key)] [ints .u8 (pa), #[.slice a_m ms.length c_m]] sg 34 i (34 + i) (by rw [Qac, Qac, Qac]; simp only [Array.size_append, cat, ((Qaf _ _).trans hkl)]; rfl) rfl (by rw [hgl]; exact hi)) (Qa3 r2_5) (Nat.le_refl _) (by decide)) (by simp only [List.length_append, List.length_cons, List.length_nil, List.length_map, List.length_take, List.length_set, Qbp, hkl, hgl, hpl]; omega) y5 fun z2 W6 f10 y6 l6 => ?_
 have x6 : Ext w W6 := Ext.low x5 l6 x1.size
 refine Qbi 9 kj ?_
 have r2_6 := (Qbt l6 r2_5 (Qa3 r2_1))
 refine Qbk (k := .u8) (T := 5) (xs := ([0, (byV nm 0)]).set 0 1 ++ key ++ sg) (ys := pa) (V := W1) 1 (.tmp 19) (.tmp 21) 26 rfl kj kj (by decide) 22 rfl 9 rfl kj kj kj f10 (QaS 66 hpl r2_6 (fun i hi => QaN [#[.bool true], #[.int .i64 nm], ints .u8 (key), ints .u8 (sg)] [#[.slice a_m ms.length c_m]] pa 66 i (66 + i) (by rw [Qac, Qac, Qac, Qac]; simp only [Array.size_append, cat, ((Qaf _ _).trans hgl), ((Qaf _ _).trans hkl)]; rfl) rfl (by rw [hpl]; exact hi)) (Qa3 r2_6) (Nat.le_refl _) (by decide)) (by simp only [List.length_append, List.length_cons, List.length_nil, List.length_map, List.length_take, List.length_set, Qbp, hkl, hgl, hpl]; omega) y6 fun z3 W7 f12 y7 l7 => ?_
 have x7 : Ext w W7 := Ext.low x6 l7 x1.size
 refine Qam 10 (z3) 3 rfl rfl kj kj (fun _ _ _ h => h) (fun W hR => by kernel_rfl) ?_
 refine Qb2 kj ?_
 refine hK7 _ _ ?_
 refine wp_seq_k fun K14 hK14 => ?_
 refine Qab ?_
 refine Qaa (z3) 23 rfl kj kj ?_
 refine Qaa (.pointer (some ⟨g2, 98, none⟩)) 24 rfl kj kj ?_
 have r2_7 := (Qbt l7 r2_6 (Qa3 r2_1))
 refine Qaa (.slice a_m ms.length c_m) 25 rfl kj (Qah 41 _ g2 98 43 _ (.slice a_m ms.length c_m) _ r2_7 rfl kj (Qak [#[.bool true], #[.int .i64 nm], ints .u8 (key), ints .u8 (sg), ints .u8 (pa)] [#[.slice a_m ms.length c_m]] [] 98 (by rw [Qac, Qac, Qac, Qac, Qac]; simp only [Array.size_append, cat, ((Qaf _ _).trans hgl), ((Qaf _ _).trans hkl), ((Qaf _ _).trans hpl)]; rfl) 0 _ rfl) kj) ?_
 refine Qaa (.int .i64 ((ms.length : Nat) : Int)) 26 rfl kj kj ?_
 refine Qaa (.int .u8 (byV ((ms.length : Nat) : Int) 0)) 27 rfl kj (Qar (u := .int .u8 (IntKind.u8.wrap ((ms.length : Nat) : Int))) kj (congrArg (Value.int .u8) (byV0 _))) ?_
 refine QaJ (ints .u8 ([(byV ((ms.length : Nat) : Int) 0)])) 5 1 28 rfl kj kj fun g15 W8 l15 e8 r15_8 => ?_
 have x8 : Ext w W8 := Ext.tr x7 e8
 have b15 : w.heap.size ≤ g15 := Nat.le_trans x7.size l15
 have f16_8 := (f12.ext e8)
 have y1_8 : Ext W1 W8 := (Rely.Ext.trans y7 e8)
 refine Qba (k := .u8) (T := 5) (xs := ([0, (byV nm 0)]).set 0 1 ++ key ++ sg ++ pa) (ys := [(byV ((ms.length : Nat) : Int) 0)]) (V := W1) 1 (.tmp 23) (.tmp 28) 26 rfl kj kj (by decide) 29 rfl kj kj kj f16_8 (Qb1 (xs := [(byV ((ms.length : Nat) : Int) 0)]) (n := 1) rfl r15_8 (Qa3 r15_8) (show 1 ≤ maxLen from by decide)) (by simp only [List.length_append, List.length_cons, List.length_nil, List.length_map, List.length_take, List.length_set, Qbp, hkl, hgl, hpl]; omega) y1_8 fun z4 W9 f17 y9 l9 => ?_
 have x9 : Ext w W9 := Ext.low x8 l9 x1.size
 refine Qaa (z4) 3 rfl kj kj ?_
 refine Qae ?_
 refine hK14 _ _ ?_
 refine wp_seq_k fun K19 hK19 => ?_
 refine wp_seq_k fun K20 hK20 => ?_
 refine Qab ?_
 refine Qaa (.int .i64 0) 4 rfl kj kj ?_
 refine Qae ?_
 refine hK20 _ _ ?_
 refine wp_block ?_
 refine QaB (fun (s1 : Nat × Value) => [(1, .pointer (some ⟨g2, 0, none⟩)), (3, s1.2), (4, .int .i64 ((s1.1 : Nat) : Int))]) (fun (s1 : Nat × Value) W => (s1.1 ≤ ms.length) ∧ (OwnN .u8 5 W1.heap.size (Qbp true nm key sg pa ms.length ++ (ms.take s1.1).map (fun m => byV m 0)) s1.2 W) ∧ (Below W1.heap.size W9 W) ∧ (Ext w W)) (fun (s1 : Nat × Value) => ms.length - s1.1) (0, z4) ⟨rfl, rfl, rfl, trivial⟩ ⟨(Nat.zero_le _), (by rw [List.take_zero, List.map_nil, List.append_nil]; exact f17), (RowKit.Below.refl _ W9), x9⟩ fun s1 X1 V1 hI1 => ?_
 obtain ⟨i, u⟩ := s1
 obtain ⟨hi, hu, kk1, xx1⟩ := hI1
 replace hi : i ≤ ms.length := hi
 replace hu : OwnN .u8 5 W1.heap.size (Qbp true nm key sg pa ms.length ++ (ms.take i).map (fun m => byV m 0)) u V1 := hu
 replace kk1 : Below W1.heap.size W9 V1 := kk1
 replace xx1 : Ext w V1 := xx1
 have l10 := kk1
 refine wp_seq_k fun K21 hK21 => ?_
 refine wp_seq_k fun K22 hK22 => ?_
 refine Qab ?_
 refine Qaa (.int .i64 ((i : Nat) : Int)) 30 rfl kj kj ?_
 refine Qaa (.pointer (some ⟨g2, 98, none⟩)) 31 rfl kj kj ?_
 have r2_8 := (Qat r2_7 e8)
 have r2_9 := (Qbt l9 r2_8 (Qa3 r2_1))
 have r2_10 := (Qbt l10 r2_9 (Qa3 r2_1))
 refine Qaa (.slice a_m ms.length c_m) 32 rfl kj (Qah 41 _ g2 98 43 _ (.slice a_m ms.length c_m) _ r2_10 rfl kj (Qak [#[.bool true], #[.int .i64 nm], ints .u8 (key), ints .u8 (sg), ints .u8 (pa)] [#[.slice a_m ms.length c_m]] [] 98 (by rw [Qac, Qac, Qac, Qac, Qac]; simp only [Array.size_append, cat, ((Qaf _ _).trans hgl), ((Qaf _ _).trans hkl), ((Qaf _ _).trans hpl)]; rfl) 0 _ rfl) kj) ?_
 refine Qaa (.int .i64 ((ms.length : Nat) : Int)) 33 rfl kj kj ?_
 refine Qaa (.bool (decide (((i : Nat) : Int) < ((ms.length : Nat) : Int)))) 34 rfl kj kj ?_
 refine Qae ?_
 refine hK22 _ _ ?_
 refine Qaz (t := decide (((i : Nat) : Int) < ((ms.length : Nat) : Int))) kj (fun c23 => ?_) (fun c23 => ?_)
 ·skip
  have hlt34 : i < ms.length := by have := of_decide_eq_true c23; omega
  have hnm_24 : (ms).length = ms.length := rfl
  obtain ⟨gcm_24, ocm_24, ham_24, hlm_24, hcm_24⟩ := Qb0 (RdK.here (RdK.ext hm xx1)) (by rw [hnm_24]; omega)
  refine wp_skip ?_
  refine hK21 _ _ ?_
  refine wp_seq_k fun K25 hK25 => ?_
  refine wp_block ?_
  refine Qab ?_
  refine Qaa (u) 37 rfl kj kj ?_
  refine Qaa (.pointer (some ⟨g2, 98, none⟩)) 38 rfl kj kj ?_
  refine Qaa (.slice a_m ms.length c_m) 39 rfl kj (Qah 41 _ g2 98 43 _ (.slice a_m ms.length c_m) _ r2_10 rfl kj (Qak [#[.bool true], #[.int .i64 nm], ints .u8 (key), ints .u8 (sg), ints .u8 (pa)] [#[.slice a_m ms.length c_m]] [] 98 (by rw [Qac, Qac, Qac, Qac, Qac]; simp only [Array.size_append, cat, ((Qaf _ _).trans hgl), ((Qaf _ _).trans hkl), ((Qaf _ _).trans hpl)]; rfl) 0 _ rfl) kj) ?_
  refine Qaa (.int .i64 ((i : Nat) : Int)) 40 rfl kj kj ?_
  refine Qaa (.pointer (some ⟨gcm_24, ocm_24 + i, none⟩)) 41 rfl kj (Qa6 41 _ _ .i64 i gcm_24 ocm_24 ms.length c_m 3 a_m _ ham_24 rfl rfl kj kj kj kj (Nat.lt_of_lt_of_eq (show i < ms.length by omega) hnm_24.symm)) ?_
  refine Qaa (.int .i64 (nth (ms) (i))) 42 rfl kj (Qa0 3 _ _ (.int .i64 (nth (ms) (i))) (hcm_24 i (Nat.lt_of_lt_of_eq (show i < ms.length by omega) hnm_24.symm)) rfl kj kj) ?_
  refine Qaa (.int .u8 (byV (nth ms i) 0)) 43 rfl kj (Qar (u := .int .u8 (IntKind.u8.wrap (nth (ms) (i)))) kj (congrArg (Value.int .u8) (byV0 _))) ?_
  refine QaJ (ints .u8 ([(byV (nth ms i) 0)])) 5 1 44 rfl kj kj fun g26 W11 l26 e11 r26_11 => ?_
  have x11 : Ext w W11 := Ext.tr xx1 e11
  have b26 : w.heap.size ≤ g26 := Nat.le_trans xx1.size l26
  have f27_11 := (hu.ext e11)
  have y1_10 : Ext W1 V1 := (Ext.low y9 l10 (Rely.Ext.refl W1).size)
  have y1_11 : Ext W1 W11 := (Rely.Ext.trans y1_10 e11)
  refine Qba (k := .u8) (T := 5) (xs := Qbp true nm key sg pa ms.length ++ (ms.take i).map (fun m => byV m 0)) (ys := [(byV (nth ms i) 0)]) (V := W1) 1 (.tmp 37) (.tmp 44) 26 rfl kj kj (by decide) 45 rfl kj kj kj f27_11 (Qb1 (xs := [(byV (nth ms i) 0)]) (n := 1) rfl r26_11 (Qa3 r26_11) (show 1 ≤ maxLen from by decide)) (by simp only [List.length_append, List.length_cons, List.length_nil, List.length_map, List.length_take, List.length_set, Qbp, hkl, hgl, hpl]; omega) y1_11 fun z5 W12 f28 y12 l12 => ?_
  have x12 : Ext w W12 := Ext.low x11 l12 x1.size
  refine Qaa (z5) 3 rfl kj kj ?_
  refine Qae ?_
  refine hK25 _ _ ?_
  refine Qab ?_
  refine Qaa (.int .i64 ((i : Nat) : Int)) 35 rfl kj kj ?_
  refine Qaa (.int .i64 ((i + 1 : Nat) : Int)) 36 rfl kj (Qar (u := .int .i64 (IntKind.i64.wrap (((i : Nat) : Int) + 1))) kj (congrArg (Value.int .i64) (i64n _ _ (by omega) (by omega)))) ?_
  refine Qaa (.int .i64 ((i + 1 : Nat) : Int)) 4 rfl kj kj ?_
  refine Qae ?_
  repeat (first | with_reducible refine goX1 ?_ | with_reducible refine goX2 ?_ | with_reducible refine goX3 ?_)
  exact Qa9 ((i + 1), z5) ⟨rfl, rfl, rfl, trivial⟩ ⟨(by omega), (by rw [Qc1 _ ms i hlt34]; exact f28), (RowKit.Below.trans (RowKit.Below.trans l10 (RowKit.Below.mono e11 y1_10.size)) l12), x12⟩ (by omega)
 ·skip
  have heq34 : i = ms.length := by have := of_decide_eq_false c23; omega
  refine wp_exit ?_
  refine hK19 _ _ ?_
  refine wp_seq_k fun K30 hK30 => ?_
  refine Qab ?_
  refine Qaa (u) 46 rfl kj kj ?_
  refine Qaa (u) 2 rfl kj kj ?_
  refine Qae ?_
  refine hK30 _ _ ?_
  refine wp_ret ?_
  repeat (first | with_reducible refine goR1 ?_ | with_reducible refine goR2 ?_)
  exact (show bodyPost _ _ _ .ret _ _ from ret1 (u) rfl (Qaq kj) ⟨_, rfl, xx1, OwnN.base x1.size (show OwnN .u8 5 _ (Qb7 true nm key sg pa ms) _ _ by have h7 := hu; rw [heq34, List.take_length] at h7; exact h7)⟩)
set_option maxHeartbeats 4000000 in
theorem Qdl (nm : Int) (key sg pa ms : List Int) (a_m : Option Addr) (c_m : Nat) (w : World) (hkl : key.length = 32) (hgl : sg.length = 32) (hpl : pa.length = 32) (hml : ms.length ≤ 1000000) (hm : RdK .i64 w.heap.size ms (.slice a_m ms.length c_m) w) : Calls Try.prog 97 #[.agg (cat [#[.bool false], #[.int .i64 nm], ints .u8 (key), ints .u8 (sg), ints .u8 (pa), #[.slice a_m ms.length c_m]])] w (Qbv w (OwnN .u8 5 w.heap.size (Qb7 false nm key sg pa ms))) := by
 refine enter 47 [(0, .agg (cat [#[.bool false], #[.int .i64 nm], ints .u8 (key), ints .u8 (sg), ints .u8 (pa), #[.slice a_m ms.length c_m]]))] Try.func97 rfl rfl kj rfl ?_
 refine wp_seq_k fun K1 hK1 => ?_
 refine Qab ?_
 refine Qas (cat [#[.bool false], #[.int .i64 nm], ints .u8 (key), ints .u8 (sg), ints .u8 (pa), #[.slice a_m ms.length c_m]]) 43 1 rfl kj kj fun g2 W1 l2 e1 r2_1 => ?_
 have x1 : Ext w W1 := Ext.tr (Rely.Ext.refl w) e1
 have b2 : w.heap.size ≤ g2 := Nat.le_trans (Rely.Ext.refl w).size l2
 refine Qaa (.slice none 0 0) 2 rfl kj kj ?_
 refine Qae ?_
 refine hK1 _ _ ?_
 refine wp_seq_k fun K3 hK3 => ?_
 refine Qab ?_
 refine Qaa (.pointer (some ⟨g2, 1, none⟩)) 5 rfl kj kj ?_
 refine Qaa (.int .i64 nm) 6 rfl kj (Qah 3 _ g2 1 43 _ (.int .i64 nm) _ r2_1 rfl kj (Qak [#[.bool false]] [#[.int .i64 nm]] [ints .u8 (key), ints .u8 (sg), ints .u8 (pa), #[.slice a_m ms.length c_m]] 1 kj 0 _ rfl) kj) ?_
 refine Qaa (.int .u8 (byV nm 0)) 7 rfl kj (Qar (u := .int .u8 (IntKind.u8.wrap (nm))) kj (congrArg (Value.int .u8) (byV0 nm))) ?_
 refine QaJ (ints .u8 ([0, (byV nm 0)])) 5 2 8 rfl kj kj fun g4 W2 l4 e2 r4_2 => ?_
 have x2 : Ext w W2 := Ext.tr x1 e2
 have b4 : w.heap.size ≤ g4 := Nat.le_trans x1.size l4
 refine Qaa (.slice (some ⟨g4, 0, none⟩) 2 2) 3 rfl kj kj ?_
 refine Qae ?_
 refine hK3 _ _ ?_
 refine wp_seq_k fun K5 hK5 => ?_
 refine wp_seq_k fun K6 hK6 => ?_
 refine Qab ?_
 refine Qaa (.pointer (some ⟨g2, 0, none⟩)) 9 rfl kj kj ?_
 have r2_2 := (Qat r2_1 e2)
 refine Qaa (.bool false) 10 rfl kj (Qah 4 _ g2 0 43 _ (.bool false) _ r2_2 rfl kj (Qak [] [#[.bool false]] [#[.int .i64 nm], ints .u8 (key), ints .u8 (sg), ints .u8 (pa), #[.slice a_m ms.length c_m]] 0 kj 0 _ rfl) kj) ?_
 refine Qae ?_
 refine hK6 _ _ ?_
 refine cond_false kj ?_
 refine wp_skip ?_
 refine hK5 _ _ ?_
 refine wp_seq_k fun K7 hK7 => ?_
 refine Qb5 (fun _ => True) kj fun W3 e3 => ⟨trivial, ?_⟩
 have x3 : Ext w W3 := Ext.tr x2 e3
 refine Qam 0 (.slice (some ⟨g4, 0, none⟩) 2 2) 13 rfl rfl kj kj (fun _ _ _ h => h) (fun W hR => by kernel_rfl) ?_
 refine Qam 1 (.pointer (some ⟨g2, 2, none⟩)) 14 rfl rfl kj kj (fun _ _ _ h => h) (fun W hR => by kernel_rfl) ?_
 refine Qam 2 (.slice (some ⟨g2, 2, none⟩) 32 32) 15 rfl rfl kj kj (fun _ _ _ h => h) (fun W hR => by kernel_rfl) ?_
 refine Qam 4 (.pointer (some ⟨g2, 34, none⟩)) 17 rfl rfl kj kj (fun _ _ _ h => h) (fun W hR => by kernel_rfl) ?_
 refine Qam 5 (.slice (some ⟨g2, 34, none⟩) 32 32) 18 rfl rfl kj kj (fun _ _ _ h => h) (fun W hR => by kernel_rfl) ?_
 refine Qam 7 (.pointer (some ⟨g2, 66, none⟩)) 20 rfl rfl kj kj (fun _ _ _ h => h) (fun W hR => by kernel_rfl) ?_
 refine Qam 8 (.slice (some ⟨g2, 66, none⟩) 32 32) 21 rfl rfl kj kj (fun _ _ _ h => h) (fun W hR => by kernel_rfl) ?_
 refine Qbi 3 kj ?_
 have r4_3 := (Qat r4_2 e3)
 have r2_3 := (Qat r2_2 e3)
 have y1_2 : Ext W1 W2 := (Rely.Ext.trans (Rely.Ext.refl W1) e2)
 have y1_3 : Ext W1 W3 := (Rely.Ext.trans y1_2 e3)
 refine Qbk (k := .u8) (T := 5) (xs := [0, (byV nm 0)]) (ys := key) (V := W1) 1 (.tmp 13) (.tmp 15) 26 rfl kj kj (by decide) 16 rfl 3 rfl kj kj kj (QbZ (xs := [0, (byV nm 0)]) rfl l4 r4_3 (show 2 ≤ maxLen by decide)) (QaS 2 hkl r2_3 (fun i hi => QaN [#[.bool false], #[.int .i64 nm]] [ints .u8 (sg), ints .u8 (pa), #[.slice a_m ms.length c_m]] key 2 i (2 + i) kj rfl (by rw [hkl]; exact hi)) (Qa3 r2_3) (Nat.le_refl _) (by decide)) (by simp only [List.length_append, List.length_cons, List.length_nil, List.length_map, List.length_take, List.length_set, Qbp, hkl, hgl, hpl]; omega) y1_3 fun z1 W4 f8 y4 l4 => ?_
 have x4 : Ext w W4 := Ext.low x3 l4 x1.size
 refine Qbi 6 kj ?_
 have r2_4 := (Qbt l4 r2_3 (Qa3 r2_1))
 refine Qbk (k := .u8) (T := 5) (xs := [0, (byV nm 0)] ++ key) (ys := sg) (V := W1) 1 (.tmp 16) (.tmp 18) 26 rfl kj kj (by decide) 19 rfl 6 rfl kj kj kj f8 (QaS 34 hgl r2_4 (fun i hi => QaN [#[.bool false], #[.int .i64 nm], ints .u8 (key)] [ints .u8 (pa), #[.slice a_m ms.length c_m]] sg 34 i (34 + i) (by rw [Qac, Qac, Qac]; simp only [Array.size_append, cat, ((Qaf _ _).trans hkl)]; rfl) rfl (by rw [hgl]; exact hi)) (Qa3 r2_4) (Nat.le_refl _) (by decide)) (by simp only [List.length_append, List.length_cons, List.length_nil, List.length_map, List.length_take, List.length_set, Qbp, hkl, hgl, hpl]; omega) y4 fun z2 W5 f10 y5 l5 => ?_
 have x5 : Ext w W5 := Ext.low x4 l5 x1.size
 refine Qbi 9 kj ?_
 have r2_5 := (Qbt l5 r2_4 (Qa3 r2_1))
 refine Qbk (k := .u8) (T := 5) (xs := [0, (byV nm 0)] ++ key ++ sg) (ys := pa) (V := W1) 1 (.tmp 19) (.tmp 21) 26 rfl kj kj (by decide) 22 rfl 9 rfl kj kj kj f10 (QaS 66 hpl r2_5 (fun i hi => QaN [#[.bool false], #[.int .i64 nm], ints .u8 (key), ints .u8 (sg)] [#[.slice a_m ms.length c_m]] pa 66 i (66 + i) (by rw [Qac, Qac, Qac, Qac]; simp only [Array.size_append, cat, ((Qaf _ _).trans hgl), ((Qaf _ _).trans hkl)]; rfl) rfl (by rw [hpl]; exact hi)) (Qa3 r2_5) (Nat.le_refl _) (by decide)) (by simp only [List.length_append, List.length_cons, List.length_nil, List.length_map, List.length_take, List.length_set, Qbp, hkl, hgl, hpl]; omega) y5 fun z3 W6 f12 y6 l6 => ?_
 have x6 : Ext w W6 := Ext.low x5 l6 x1.size
 refine Qam 10 (z3) 3 rfl rfl kj kj (fun _ _ _ h => h) (fun W hR => by kernel_rfl) ?_
 refine Qb2 kj ?_
 refine hK7 _ _ ?_
 refine wp_seq_k fun K14 hK14 => ?_
 refine Qab ?_
 refine Qaa (z3) 23 rfl kj kj ?_
 refine Qaa (.pointer (some ⟨g2, 98, none⟩)) 24 rfl kj kj ?_
 have r2_6 := (Qbt l6 r2_5 (Qa3 r2_1))
 refine Qaa (.slice a_m ms.length c_m) 25 rfl kj (Qah 41 _ g2 98 43 _ (.slice a_m ms.length c_m) _ r2_6 rfl kj (Qak [#[.bool false], #[.int .i64 nm], ints .u8 (key), ints .u8 (sg), ints .u8 (pa)] [#[.slice a_m ms.length c_m]] [] 98 (by rw [Qac, Qac, Qac, Qac, Qac]; simp only [Array.size_append, cat, ((Qaf _ _).trans hgl), ((Qaf _ _).trans hkl), ((Qaf _ _).trans hpl)]; rfl) 0 _ rfl) kj) ?_
 refine Qaa (.int .i64 ((ms.length : Nat) : Int)) 26 rfl kj kj ?_
 refine Qaa (.int .u8 (byV ((ms.length : Nat) : Int) 0)) 27 rfl kj (Qar (u := .int .u8 (IntKind.u8.wrap ((ms.length : Nat) : Int))) kj (congrArg (Value.int .u8) (byV0 _))) ?_
 refine QaJ (ints .u8 ([(byV ((ms.length : Nat) : Int) 0)])) 5 1 28 rfl kj kj fun g15 W7 l15 e7 r15_7 => ?_
 have x7 : Ext w W7 := Ext.tr x6 e7
 have b15 : w.heap.size ≤ g15 := Nat.le_trans x6.size l15
 have f16_7 := (f12.ext e7)
 have y1_7 : Ext W1 W7 := (Rely.Ext.trans y6 e7)
 refine Qba (k := .u8) (T := 5) (xs := [0, (byV nm 0)] ++ key ++ sg ++ pa) (ys := [(byV ((ms.length : Nat) : Int) 0)]) (V := W1) 1 (.tmp 23) (.tmp 28) 26 rfl kj kj (by decide) 29 rfl kj kj kj f16_7 (Qb1 (xs := [(byV ((ms.length : Nat) : Int) 0)]) (n := 1) rfl r15_7 (Qa3 r15_7) (show 1 ≤ maxLen from by decide)) (by simp only [List.length_append, List.length_cons, List.length_nil, List.length_map, List.length_take, List.length_set, Qbp, hkl, hgl, hpl]; omega) y1_7 fun z4 W8 f17 y8 l8 => ?_
 have x8 : Ext w W8 := Ext.low x7 l8 x1.size
 refine Qaa (z4) 3 rfl kj kj ?_
 refine Qae ?_
 refine hK14 _ _ ?_
 refine wp_seq_k fun K19 hK19 => ?_
 refine wp_seq_k fun K20 hK20 => ?_
 refine Qab ?_
 refine Qaa (.int .i64 0) 4 rfl kj kj ?_
 refine Qae ?_
 refine hK20 _ _ ?_
 refine wp_block ?_
 refine QaB (fun (s1 : Nat × Value) => [(1, .pointer (some ⟨g2, 0, none⟩)), (3, s1.2), (4, .int .i64 ((s1.1 : Nat) : Int))]) (fun (s1 : Nat × Value) W => (s1.1 ≤ ms.length) ∧ (OwnN .u8 5 W1.heap.size (Qbp false nm key sg pa ms.length ++ (ms.take s1.1).map (fun m => byV m 0)) s1.2 W) ∧ (Below W1.heap.size W8 W) ∧ (Ext w W)) (fun (s1 : Nat × Value) => ms.length - s1.1) (0, z4) ⟨rfl, rfl, rfl, trivial⟩ ⟨(Nat.zero_le _), (by rw [List.take_zero, List.map_nil, List.append_nil]; exact f17), (RowKit.Below.refl _ W8), x8⟩ fun s1 X1 V1 hI1 => ?_
 obtain ⟨i, u⟩ := s1
 obtain ⟨hi, hu, kk1, xx1⟩ := hI1
 replace hi : i ≤ ms.length := hi
 replace hu : OwnN .u8 5 W1.heap.size (Qbp false nm key sg pa ms.length ++ (ms.take i).map (fun m => byV m 0)) u V1 := hu
 replace kk1 : Below W1.heap.size W8 V1 := kk1
 replace xx1 : Ext w V1 := xx1
 have l9 := kk1
 refine wp_seq_k fun K21 hK21 => ?_
 refine wp_seq_k fun K22 hK22 => ?_
 refine Qab ?_
 refine Qaa (.int .i64 ((i : Nat) : Int)) 30 rfl kj kj ?_
 refine Qaa (.pointer (some ⟨g2, 98, none⟩)) 31 rfl kj kj ?_
 have r2_7 := (Qat r2_6 e7)
 have r2_8 := (Qbt l8 r2_7 (Qa3 r2_1))
 have r2_9 := (Qbt l9 r2_8 (Qa3 r2_1))
 refine Qaa (.slice a_m ms.length c_m) 32 rfl kj (Qah 41 _ g2 98 43 _ (.slice a_m ms.length c_m) _ r2_9 rfl kj (Qak [#[.bool false], #[.int .i64 nm], ints .u8 (key), ints .u8 (sg), ints .u8 (pa)] [#[.slice a_m ms.length c_m]] [] 98 (by rw [Qac, Qac, Qac, Qac, Qac]; simp only [Array.size_append, cat, ((Qaf _ _).trans hgl), ((Qaf _ _).trans hkl), ((Qaf _ _).trans hpl)]; rfl) 0 _ rfl) kj) ?_
 refine Qaa (.int .i64 ((ms.length : Nat) : Int)) 33 rfl kj kj ?_
 refine Qaa (.bool (decide (((i : Nat) : Int) < ((ms.length : Nat) : Int)))) 34 rfl kj kj ?_
 refine Qae ?_
 refine hK22 _ _ ?_
 refine Qaz (t := decide (((i : Nat) : Int) < ((ms.length : Nat) : Int))) kj (fun c23 => ?_) (fun c23 => ?_)
 ·skip
  have hlt34 : i < ms.length := by have := of_decide_eq_true c23; omega
  have hnm_24 : (ms).length = ms.length := rfl
  obtain ⟨gcm_24, ocm_24, ham_24, hlm_24, hcm_24⟩ := Qb0 (RdK.here (RdK.ext hm xx1)) (by rw [hnm_24]; omega)
  refine wp_skip ?_
  refine hK21 _ _ ?_
  refine wp_seq_k fun K25 hK25 => ?_
  refine wp_block ?_
  refine Qab ?_
  refine Qaa (u) 37 rfl kj kj ?_
  refine Qaa (.pointer (some ⟨g2, 98, none⟩)) 38 rfl kj kj ?_
  refine Qaa (.slice a_m ms.length c_m) 39 rfl kj (Qah 41 _ g2 98 43 _ (.slice a_m ms.length c_m) _ r2_9 rfl kj (Qak [#[.bool false], #[.int .i64 nm], ints .u8 (key), ints .u8 (sg), ints .u8 (pa)] [#[.slice a_m ms.length c_m]] [] 98 (by rw [Qac, Qac, Qac, Qac, Qac]; simp only [Array.size_append, cat, ((Qaf _ _).trans hgl), ((Qaf _ _).trans hkl), ((Qaf _ _).trans hpl)]; rfl) 0 _ rfl) kj) ?_
  refine Qaa (.int .i64 ((i : Nat) : Int)) 40 rfl kj kj ?_
  refine Qaa (.pointer (some ⟨gcm_24, ocm_24 + i, none⟩)) 41 rfl kj (Qa6 41 _ _ .i64 i gcm_24 ocm_24 ms.length c_m 3 a_m _ ham_24 rfl rfl kj kj kj kj (Nat.lt_of_lt_of_eq (show i < ms.length by omega) hnm_24.symm)) ?_
  refine Qaa (.int .i64 (nth (ms) (i))) 42 rfl kj (Qa0 3 _ _ (.int .i64 (nth (ms) (i))) (hcm_24 i (Nat.lt_of_lt_of_eq (show i < ms.length by omega) hnm_24.symm)) rfl kj kj) ?_
  refine Qaa (.int .u8 (byV (nth ms i) 0)) 43 rfl kj (Qar (u := .int .u8 (IntKind.u8.wrap (nth (ms) (i)))) kj (congrArg (Value.int .u8) (byV0 _))) ?_
  refine QaJ (ints .u8 ([(byV (nth ms i) 0)])) 5 1 44 rfl kj kj fun g26 W10 l26 e10 r26_10 => ?_
  have x10 : Ext w W10 := Ext.tr xx1 e10
  have b26 : w.heap.size ≤ g26 := Nat.le_trans xx1.size l26
  have f27_10 := (hu.ext e10)
  have y1_9 : Ext W1 V1 := (Ext.low y8 l9 (Rely.Ext.refl W1).size)
  have y1_10 : Ext W1 W10 := (Rely.Ext.trans y1_9 e10)
  refine Qba (k := .u8) (T := 5) (xs := Qbp false nm key sg pa ms.length ++ (ms.take i).map (fun m => byV m 0)) (ys := [(byV (nth ms i) 0)]) (V := W1) 1 (.tmp 37) (.tmp 44) 26 rfl kj kj (by decide) 45 rfl kj kj kj f27_10 (Qb1 (xs := [(byV (nth ms i) 0)]) (n := 1) rfl r26_10 (Qa3 r26_10) (show 1 ≤ maxLen from by decide)) (by simp only [List.length_append, List.length_cons, List.length_nil, List.length_map, List.length_take, List.length_set, Qbp, hkl, hgl, hpl]; omega) y1_10 fun z5 W11 f28 y11 l11 => ?_
  have x11 : Ext w W11 := Ext.low x10 l11 x1.size
  refine Qaa (z5) 3 rfl kj kj ?_
  refine Qae ?_
  refine hK25 _ _ ?_
  refine Qab ?_
  refine Qaa (.int .i64 ((i : Nat) : Int)) 35 rfl kj kj ?_
  refine Qaa (.int .i64 ((i + 1 : Nat) : Int)) 36 rfl kj (Qar (u := .int .i64 (IntKind.i64.wrap (((i : Nat) : Int) + 1))) kj (congrArg (Value.int .i64) (i64n _ _ (by omega) (by omega)))) ?_
  refine Qaa (.int .i64 ((i + 1 : Nat) : Int)) 4 rfl kj kj ?_
  refine Qae ?_
  repeat (first | with_reducible refine goX1 ?_ | with_reducible refine goX2 ?_ | with_reducible refine goX3 ?_)
  exact Qa9 ((i + 1), z5) ⟨rfl, rfl, rfl, trivial⟩ ⟨(by omega), (by rw [Qc1 _ ms i hlt34]; exact f28), (RowKit.Below.trans (RowKit.Below.trans l9 (RowKit.Below.mono e10 y1_9.size)) l11), x11⟩ (by omega)
 ·skip
  have heq34 : i = ms.length := by have := of_decide_eq_false c23; omega
  refine wp_exit ?_
  refine hK19 _ _ ?_
  refine wp_seq_k fun K30 hK30 => ?_
  refine Qab ?_
  refine Qaa (u) 46 rfl kj kj ?_
  refine Qaa (u) 2 rfl kj kj ?_
  refine Qae ?_
  refine hK30 _ _ ?_
  refine wp_ret ?_
  repeat (first | with_reducible refine goR1 ?_ | with_reducible refine goR2 ?_)
  exact (show bodyPost _ _ _ .ret _ _ from ret1 (u) rfl (Qaq kj) ⟨_, rfl, xx1, OwnN.base x1.size (show OwnN .u8 5 _ (Qb7 false nm key sg pa ms) _ _ by have h7 := hu; rw [heq34, List.take_length] at h7; exact h7)⟩)
theorem QfR (us : Bool) (nm : Int) (key sg pa ms : List Int) (a_m : Option Addr) (c_m : Nat) (w : World) (hkl : key.length = 32) (hgl : sg.length = 32) (hpl : pa.length = 32) (hml : ms.length ≤ 1000000) (hm : RdK .i64 w.heap.size ms (.slice a_m ms.length c_m) w) : Calls Try.prog 97 #[.agg (cat [#[.bool us], #[.int .i64 nm], ints .u8 (key), ints .u8 (sg), ints .u8 (pa), #[.slice a_m ms.length c_m]])] w (Qbv w (OwnN .u8 5 w.heap.size (Qb7 us nm key sg pa ms))) := by
  cases us with
  | true => exact QdJ nm key sg pa ms a_m c_m w hkl hgl hpl hml hm
  | false => exact Qdl nm key sg pa ms a_m c_m w hkl hgl hpl hml hm
end Go.Proofs.Ytfelfmchachljaa.Wr
end
section
namespace Go.Proofs.Ytfelfmchachljaa.Wr
open Go Go.RowKit
open Rely Auto Own Sha
set_option linter.unusedVariables false
set_option linter.unusedSimpArgs false
def allN (ms : List Int) : Nat → Bool
  | 0 => true
  | n + 1 => allN ms n && inB (nth ms n) 31
theorem Qcb (ms : List Int) : ∀ n, QaM ms n = (risN ms n && allN ms n)
  | 0 => rfl
  | n + 1 => by
    show (QaM ms n && (inB (nth ms n) 31 && ((n == 0) || decide (nth ms (n - 1) < nth ms n)))) = ((risN ms n && ((n == 0) || decide (nth ms (n - 1) < nth ms n))) && (allN ms n && inB (nth ms n) 31))
    rw [Qcb ms n]
    cases risN ms n <;> cases allN ms n <;> cases inB (nth ms n) 31 <;> cases ((n == 0) || decide (nth ms (n - 1) < nth ms n)) <;> rfl
theorem Qe0 (ms : List Int) : ∀ n, allN ms n = true → ∀ i, i < n → inB (nth ms i) 31 = true
  | 0, _, i, hi => absurd hi (Nat.not_lt_zero _)
  | n + 1, h, i, hi => by
    have h' : (allN ms n && inB (nth ms n) 31) = true := h
    rw [Bool.and_eq_true] at h'
    rcases Nat.lt_or_ge i n with h2 | h2
    · exact Qe0 ms n h'.1 i h2
    · obtain rfl : i = n := by omega
      exact h'.2
theorem Qee (ms : List Int) : ∀ n, risN ms n = true → allN ms n = true → ∀ i, i < n → ((i : Nat) : Int) ≤ nth ms i
  | 0, _, _, i, hi => absurd hi (Nat.not_lt_zero _)
  | n + 1, hr, ha, i, hi => by
    have hr' : (risN ms n && ((n == 0) || decide (nth ms (n - 1) < nth ms n))) = true := hr
    have ha' : (allN ms n && inB (nth ms n) 31) = true := ha
    rw [Bool.and_eq_true] at hr' ha'
    rcases Nat.lt_or_ge i n with h2 | h2
    · exact Qee ms n hr'.1 ha'.1 i h2
    · obtain rfl : i = n := by omega
      have h0 := QcI ha'.2
      by_cases hz : i = 0
      · subst hz; exact h0.1
      · have h3 := hr'.2
        rw [beq_eq_false_iff_ne.2 hz, Bool.false_or, decide_eq_true_eq] at h3
        have h4 := Qee ms i hr'.1 ha'.1 (i - 1) (by omega)
        omega
theorem Qg2 (ms : List Int) (hr : risV ms = true) (ha : allN ms ms.length = true) : ms.length ≤ 32 := by
  rcases Nat.lt_or_ge 32 ms.length with h | h
  · have h1 := Qee ms ms.length hr ha 32 h
    have h2 := QcI (Qe0 ms ms.length ha 32 h)
    omega
  · exact h
theorem QdE (ms : List Int) : ∀ n, n ≤ ms.length → allN ms n = (ms.take n).all fun m => inB m 31
  | 0, _ => rfl
  | n + 1, h => by
    have e : ms.take (n + 1) = ms.take n ++ [nth ms n] := by
      rw [List.take_add_one, List.getElem?_eq_getElem (show n < ms.length by omega)]
      unfold nth
      rw [List.getD_eq_getElem?_getD, List.getElem?_eq_getElem (show n < ms.length by omega)]
      rfl
    rw [e, List.all_append, ← QdE ms n (by omega)]
    show (allN ms n && inB (nth ms n) 31) = (allN ms n && (inB (nth ms n) 31 && true))
    rw [Bool.and_true]
theorem Qcn (s : Option (List Int)) : ∀ (ms a : List Int), ms.foldl Qbg (rawS s a) = bif (ms.all fun m => inB m 31) then rawS s (a ++ ms.map fun m => byV m 0) else none
  | [], a => by show rawS s a = rawS s (a ++ []); rw [List.append_nil]
  | m :: r, a => by
    show r.foldl Qbg (Qbg (rawS s a) m) = bif (inB m 31 && (r.all fun m => inB m 31)) then rawS s (a ++ byV m 0 :: r.map fun m => byV m 0) else none
    rw [Qd7]
    cases inB m 31 with
    | false => exact QaL r
    | true =>
      show r.foldl Qbg (rawS (rawS s a) (beV m 1)) = _
      rw [Qbq, Qcn s r]
      show _ = bif (r.all fun m => inB m 31) then _ else none
      rw [List.append_assoc]
      rfl
theorem QdK (us : Bool) (nm : Int) (key sg pa ms : List Int) (hkb : Qap key) (hgb : Qap sg) (hpb : Qap pa) : Qap (Qb7 us nm key sg pa ms) := by
  unfold Qb7 Qbp
  refine Qbf (Qbf (Qbf (Qbf (Qbf ?_ hkb) hgb) hpb) (Qb9 _ 1)) ?_
  · intro x hx
    rcases List.mem_cons.1 hx with h | h
    · rw [h]; cases us <;> decide
    · exact Qb9 nm 1 x h
  · intro x hx
    obtain ⟨m, _, rfl⟩ := List.mem_map.1 hx
    exact Qb9 m 1 _ List.mem_cons_self
end Go.Proofs.Ytfelfmchachljaa.Wr
end
section
namespace Go.Proofs.Ytfelfmchachljaa.Wr
open Go Go.RowKit
open Rely Auto Own Sha
set_option linter.unusedVariables false
set_option linter.unusedSimpArgs false
theorem Qco (ms r : List Int) (ha : allN ms ms.length = true) : ∀ i, i ≤ ms.length → itR (some ((ms.map fun m => byV m 0) ++ r)) i = some ((ms.drop i).map (fun m => byV m 0) ++ r) ∧ itL (some ((ms.map fun m => byV m 0) ++ r)) i = ms.take i
  | 0, _ => ⟨by rw [List.drop_zero]; rfl, by rw [List.take_zero]; rfl⟩
  | i + 1, h => by
    obtain ⟨h1, h2⟩ := Qco ms r ha i (by omega)
    have hm := QcI (Qe0 ms ms.length ha i (by omega))
    have e : (ms.drop i).map (fun m => byV m 0) ++ r = beV (nth ms i) 1 ++ ((ms.drop (i + 1)).map (fun m => byV m 0) ++ r) := by rw [QdA ms i (by omega)]; rfl
    have q : ((bigN (beV (nth ms i) 1) : Nat) : Int) = nth ms i := Qfe _ 1 hm.1 (by omega)
    constructor
    · show Qbd (itR _ i) = _
      rw [h1, e]
      unfold Qbd
      rw [QaP _ _ 1 (QaY _ 1), q, QaV _ _ 1 (QaY _ 1), decide_eq_true (by omega)]
      rfl
    · show itL _ i ++ [((bigN (Qaj (itR _ i) 1) : Nat) : Int)] = _
      rw [h1, h2, e, QaP _ _ 1 (QaY _ 1), q, List.take_add_one, List.getElem?_eq_getElem (show i < ms.length by omega)]
      congr 1
      unfold nth
      rw [List.getD_eq_getElem?_getD, List.getElem?_eq_getElem (show i < ms.length by omega)]
      rfl
theorem Qeq (us : Bool) (nm : Int) (key sg pa ms r : List Int) (hkl : key.length = 32) (hgl : sg.length = 32) (hpl : pa.length = 32) (hg : Qbe us nm key sg pa ms = true) (s : Option (List Int)) (hs : s = some (Qb7 us nm key sg pa ms ++ r)) :
    bigN (Qaj s 1) = (bif us then 1 else 0) ∧ nNm s = nm ∧ nKy s = key ∧ nSg s = sg ∧ nPa s = pa ∧ nR6 s = some r ∧ nL s = ms := by
  unfold Qbe at hg
  rw [Qcb] at hg
  simp only [Bool.and_eq_true, decide_eq_true_eq] at hg
  obtain ⟨⟨h1, h2⟩, ⟨h3, h4⟩, h5⟩ := hg
  have hn := QcI h1
  have e : Qb7 us nm key sg pa ms ++ r = [bif us then 1 else 0] ++ (beV nm 1 ++ (key ++ (sg ++ (pa ++ (beV ((ms.length : Nat) : Int) 1 ++ ((ms.map fun m => byV m 0) ++ r)))))) := by
    unfold Qb7 Qbp
    simp only [List.append_assoc]
    rfl
  rw [e] at hs
  have s1 : nR1 s = some (beV nm 1 ++ (key ++ (sg ++ (pa ++ (beV ((ms.length : Nat) : Int) 1 ++ ((ms.map fun m => byV m 0) ++ r)))))) := by unfold nR1; rw [hs]; exact QaV _ _ 1 rfl
  have s2 : nR2 s = some (key ++ (sg ++ (pa ++ (beV ((ms.length : Nat) : Int) 1 ++ ((ms.map fun m => byV m 0) ++ r))))) := by unfold nR2; rw [s1]; exact QaV _ _ 1 (QaY _ 1)
  have s3 : nR3 s = some (sg ++ (pa ++ (beV ((ms.length : Nat) : Int) 1 ++ ((ms.map fun m => byV m 0) ++ r)))) := by unfold nR3; rw [s2]; exact QaV _ _ 32 hkl
  have s4 : nR4 s = some (pa ++ (beV ((ms.length : Nat) : Int) 1 ++ ((ms.map fun m => byV m 0) ++ r))) := by unfold nR4; rw [s3]; exact QaV _ _ 32 hgl
  have s5 : nR5 s = some (beV ((ms.length : Nat) : Int) 1 ++ ((ms.map fun m => byV m 0) ++ r)) := by unfold nR5; rw [s4]; exact QaV _ _ 32 hpl
  have q : bigN (beV ((ms.length : Nat) : Int) 1) = ms.length := by rw [QdD, Nat.mod_eq_of_lt (by omega)]
  have lb := Qco ms r h4 ms.length (Nat.le_refl _)
  refine ⟨?_, ?_, ?_, ?_, ?_, ?_, ?_⟩
  · rw [hs, QaP _ _ 1 rfl]; cases us <;> rfl
  · unfold nNm; rw [s1, QaP _ _ 1 (QaY _ 1), Qfe nm 1 hn.1 (by omega)]
  · unfold nKy; rw [s2, QaP _ _ 32 hkl, Qcp _ hkl]
  · unfold nSg; rw [s3, QaP _ _ 32 hgl, Qcp _ hgl]
  · unfold nPa; rw [s4, QaP _ _ 32 hpl, Qcp _ hpl]
  · unfold nR6; rw [s5, QaP _ _ 1 (QaY _ 1), QaV _ _ 1 (QaY _ 1), q, lb.1, List.drop_length]; rfl
  · unfold nL; rw [s5, QaP _ _ 1 (QaY _ 1), QaV _ _ 1 (QaY _ 1), q, lb.2, List.take_length]
end Go.Proofs.Ytfelfmchachljaa.Wr
end
section
namespace Go.Proofs.Ytfelfmchachljaa.Wr
open Go Go.RowKit
open Rely Auto Own Sha
set_option linter.unusedVariables false
set_option linter.unusedSimpArgs false
theorem QdC : ∀ ls : List (List Value), cat (ls.map List.toArray) = ls.flatten.toArray
  | [] => rfl
  | a :: r => by rw [List.map_cons, Qac, QdC r, List.flatten_cons, List.append_toArray]
theorem Qcw {P : Program} {ρ : Operand → Value} {o : Oper} {w : World} (t : TypeId) (cs : Array Value) (ho : o.op = .alloc t) (hz : (zeroValue t).run P w = .ok (.agg cs) w) :
    (execOp ρ o).run P w = .ok (.value (.pointer (some ⟨w.heap.size, 0, none⟩))) (w.alloc (.cells cs t)) := by
  have h : (Instr.alloc t true (.tuple #[])).run P w = .ok (.pointer (some ⟨w.heap.size, 0, none⟩)) (w.alloc (.cells cs t)) := by
    unfold Instr.alloc
    rw [Sem.run_bind, hz, Result.andThen_ok]
    rfl
  unfold execOp
  simp only [ho, Sem.run_bind, h, Result.andThen_ok, Sem.run_pure]
theorem QeX (w : World) : (zeroValue 43).run Try.prog w = .ok (.agg (cat [#[.bool false], #[.int .i64 0], ints .u8 (List.replicate 32 0), ints .u8 (List.replicate 32 0), ints .u8 (List.replicate 32 0), #[.slice none 0 0]])) w := by
  have h := QdC [[.bool false], [.int .i64 0], (List.replicate 32 0).map (Value.int .u8), (List.replicate 32 0).map (Value.int .u8), (List.replicate 32 0).map (Value.int .u8), [.slice none 0 0]]
  refine Eq.trans ?_ (congrArg (fun z => Result.ok (Value.agg z) w) h.symm)
  kernel_rfl
def nUs (s : Option (List Int)) : Bool := bigN (Qaj s 1) == 1
def nOk (s : Option (List Int)) : Bool := nUs s || (bigN (Qaj s 1) == 0 && QaD false (nNm s) (nKy s) (nSg s) (nPa s) (nL s))
def QbY (s : Option (List Int)) : Option (List Int) := QaA (QaA (nR6 s) (nOk s)) (risV (nL s))
theorem QaI (b : Bool) : QaA none b = none := by cases b <;> rfl
theorem Qfx (s : Option (List Int)) : (nKy s).length = 32 := Qao _ (Qan _ 32)
theorem Qfv (s : Option (List Int)) : (nSg s).length = 32 := Qao _ (Qan _ 32)
theorem Qfw (s : Option (List Int)) : (nPa s).length = 32 := Qao _ (Qan _ 32)
theorem Qcf {B gr : Nat} {s : Option (List Int)} {w : World} {us : Bool} {okx : List Int → Bool} (hu : nUs s = us) (ho : okx (nL s) = nOk s) (e : Ending) (W : World) (h : ∃ v xs, e = .returned v ∧ ExtB gr w W ∧ RSt B gr (QaA (QaA (nR6 s) (okx xs)) (risV xs)) W ∧ (∃ (a : Option Addr) (c : Nat), v = .agg (cat [#[.bool us], #[.int .i64 (nNm s)], ints .u8 (nKy s), ints .u8 (nSg s), ints .u8 (nPa s), #[.slice a xs.length c]]) ∧ OwnN .i64 3 w.heap.size xs (.slice a xs.length c) W) ∧ xs.length ≤ 255 ∧ (nR6 s ≠ none → xs = nL s)) : Qb4 B gr w (QbY s) (fun v W => ∃ (xz : List Int) (a : Option Addr) (c : Nat), v = .agg (cat [#[.bool (nUs s)], #[.int .i64 (nNm s)], ints .u8 (nKy s), ints .u8 (nSg s), ints .u8 (nPa s), #[.slice a xz.length c]]) ∧ OwnN .i64 3 w.heap.size xz (.slice a xz.length c) W ∧ xz.length ≤ 255 ∧ (QbY s ≠ none → xz = nL s)) e W := by
  obtain ⟨v, xs, e1, e2, e3, ⟨a, c, hv, hown⟩, hl, hx⟩ := h
  refine ⟨v, e1, e2, ?_, xs, a, c, by rw [hu]; exact hv, hown, hl, fun hne => hx (fun h6 => hne (by unfold QbY; rw [h6, QaI, QaI]))⟩
  by_cases h6 : nR6 s = none
  · unfold QbY; rw [h6, QaI, QaI] at e3 ⊢; exact e3
  · obtain rfl := hx h6
    rw [ho] at e3; exact e3
theorem QfQ (B gr : Nat) (s : Option (List Int)) (w : World) (hB : B ≤ gr) (h : RSt B gr s w) : Calls Try.prog 102 #[.pointer (some ⟨gr, 0, none⟩)] w (Qb4 B gr w (QbY s) fun v W => ∃ (xz : List Int) (a : Option Addr) (c : Nat), v = .agg (cat [#[.bool (nUs s)], #[.int .i64 (nNm s)], ints .u8 (nKy s), ints .u8 (nSg s), ints .u8 (nPa s), #[.slice a xz.length c]]) ∧ OwnN .i64 3 w.heap.size xz (.slice a xz.length c) W ∧ xz.length ≤ 255 ∧ (QbY s ≠ none → xz = nL s)) := by
  rcases (show bigN (Qaj s 1) = 1 ∨ bigN (Qaj s 1) = 0 ∨ 1 < bigN (Qaj s 1) by omega) with hU | hU | hU
  · have e : nUs s = true := by unfold nUs; rw [hU]; rfl
    exact (QeH B gr s w hB h hU).mono fun e' W hh => Qcf (okx := fun _ => true) e (by unfold nOk; rw [e]; rfl) e' W hh
  · have e : nUs s = false := by unfold nUs; rw [hU]; rfl
    exact (QeG B gr s w hB h hU).mono fun e' W hh => Qcf (okx := fun xs => QaD false (nNm s) (nKy s) (nSg s) (nPa s) xs) e (by unfold nOk; rw [e, hU]; rfl) e' W hh
  · have e : nUs s = false := by unfold nUs; exact beq_eq_false_iff_ne.2 (by omega)
    exact (QeF B gr s w hB h hU).mono fun e' W hh => Qcf (okx := fun _ => false) e (by unfold nOk; rw [e, beq_eq_false_iff_ne.2 (show bigN (Qaj s 1) ≠ 0 by omega)]; rfl) e' W hh
end Go.Proofs.Ytfelfmchachljaa.Wr
end
section
namespace Go.Proofs.Ytfelfmchachljaa.Wr
open Go Go.RowKit
open Rely Auto Own Sha
set_option linter.unusedVariables false
set_option linter.unusedSimpArgs false
theorem Qdk {w : World} {g k : Nat} {v : Value} (h : w.cell? ⟨g, k, none⟩ = some v) : ∃ cs t fr, w.heap[g]? = some (.cells cs t fr) := by
  unfold World.cell? at h
  split at h
  · next c t f e => exact ⟨c, t, f, e⟩
  · cases h
theorem Qdi {P : Program} {ρ : Operand → Value} {o : Oper} {w : World} (t : TypeId) (x y : Operand) (k : IntKind) (n g off len cap : Nat) (e : TypeId) (sz : Nat) (ho : o.op = .indexAddr t x y) (hx : ρ x = .slice (some ⟨g, off, none⟩) len cap) (hy : ρ y = .int k n)
    (hu : P.underlying t = some (.slice e)) (hs : (P.info? e).map (·.size) = some sz) (hn : n < len) : (execOp ρ o).run P w = .ok (.value (.pointer (some ⟨g, off + n * sz, none⟩))) w := by
  cases hq : P.info? e with
  | none => simp [hq] at hs
  | some i =>
    have hs' : i.size = sz := by simpa [hq] using hs
    have hadd : (⟨g, off, none⟩ : Addr).add (n * sz) = ⟨g, off + n * sz, none⟩ := by unfold Addr.add; split <;> simp_all
    have h0 : (0 : Int) ≤ (n : Int) := by omega
    have h1 : (n : Int) < (len : Int) := by omega
    unfold execOp
    simp only [ho, hx, hy]
    simp [Instr.indexAt, asIntOf, run_underlying hu, sizeOf, typeInfo, hq, hs', h0, hn, hadd]
theorem QaE {P : Program} {ρ : Operand → Value} {o : Oper} {w : World} (t : TypeId) (x y : Operand) (k : IntKind) (n g off len cap : Nat) (e : TypeId) (sz : Nat) (ad : Option Addr) (ha : ad = some ⟨g, off, none⟩) (ho : o.op = .indexAddr t x y) (hx : ρ x = .slice ad len cap) (hy : ρ y = .int k n)
    (hu : P.underlying t = some (.slice e)) (hs : (P.info? e).map (·.size) = some sz) (hn : n < len) : (execOp ρ o).run P w = .ok (.value (.pointer (some ⟨g, off + n * sz, none⟩))) w := by
  subst ha
  exact Qdi t x y k n g off len cap e sz ho hx hy hu hs hn
structure NdC where
  us : Bool
  nm : Int
  key : List Int
  sg : List Int
  pa : List Int
  ms : List Int
structure NdV where
  n : NdC
  a : Option Addr
  c : Nat
def nd0 : NdV := ⟨⟨false, 0, [], [], [], []⟩, none, 0⟩
def ndi (ts : List NdV) (i : Nat) : NdV := ts.getD i nd0
structure NdOk (n : NdC) : Prop where
  kl : n.key.length = 32
  gl : n.sg.length = 32
  pl : n.pa.length = 32
  kb : Qap n.key
  gb : Qap n.sg
  pb : Qap n.pa
def ndP (n : NdV) : List (Array Value) := [#[.bool n.n.us], #[.int .i64 n.n.nm], ints .u8 n.n.key, ints .u8 n.n.sg, ints .u8 n.n.pa, #[.slice n.a n.n.ms.length n.c]]
theorem Qca (n : NdV) (h : NdOk n.n) : (cat (ndP n)).size = 99 := by
  unfold ndP
  simp only [cat, Array.size_append, Qaf, h.kl, h.gl, h.pl]
  rfl
structure NdAt (B : Nat) (w : World) (g off : Nat) (n : NdV) : Prop where
  lt : g < B
  lt2 : g < w.heap.size
  cell : ∀ j u, (cat (ndP n))[j]? = some u → w.cell? ⟨g, off + j, none⟩ = some u
  rd : RdK .i64 B n.n.ms (.slice n.a n.n.ms.length n.c) w
  ok : NdOk n.n
theorem NdAt.keep {B g off : Nat} {w W : World} {n : NdV} (h : NdAt B w g off n) (hs : w.heap.size ≤ W.heap.size) (hk : ∀ k, k < B → k < w.heap.size → W.heap[k]? = w.heap[k]?) : NdAt B W g off n :=
  ⟨h.lt, Nat.lt_of_lt_of_le h.lt2 hs, fun j u hu => by rw [← h.cell j u hu]; exact World.cell?_of_block (hk g h.lt h.lt2), h.rd.keep hs hk, h.ok⟩
def TrAt (B : Nat) (w : World) (a : Option Addr) (ts : List NdV) : Prop := ∃ g o, (0 < ts.length → a = some ⟨g, o, none⟩) ∧ ∀ i, i < ts.length → NdAt B w g (o + i * 99) (ndi ts i)
theorem TrAt.keep {B : Nat} {w W : World} {a : Option Addr} {ts : List NdV} (h : TrAt B w a ts) (hs : w.heap.size ≤ W.heap.size) (hk : ∀ k, k < B → k < w.heap.size → W.heap[k]? = w.heap[k]?) : TrAt B W a ts := by
  obtain ⟨g, o, h1, h2⟩ := h
  exact ⟨g, o, h1, fun i hi => (h2 i hi).keep hs hk⟩
theorem TrAt.ext {B : Nat} {w W : World} {a : Option Addr} {ts : List NdV} (h : TrAt B w a ts) (e : Ext w W) : TrAt B W a ts := h.keep e.size fun k _ hl => e.block k hl
theorem TrAt.gw {base gw : Nat} {w W : World} {a : Option Addr} {ts : List NdV} (h : TrAt base w a ts) (q : GW base gw w W) (hb : base ≤ gw) : TrAt base W a ts := h.keep q.size fun k hk hl => q.block k hl (by omega) (.inl hk)
theorem TrAt.here {B : Nat} {w : World} {a : Option Addr} {ts : List NdV} (h : TrAt B w a ts) : TrAt w.heap.size w a ts := by
  obtain ⟨g, o, h1, h2⟩ := h
  exact ⟨g, o, h1, fun i hi => ⟨(h2 i hi).lt2, (h2 i hi).lt2, (h2 i hi).cell, RdK.here (h2 i hi).rd, (h2 i hi).ok⟩⟩
theorem TrAt.more {B B' : Nat} {w : World} {a : Option Addr} {ts : List NdV} (h : TrAt B w a ts) (hb : B ≤ B') : TrAt B' w a ts := by
  obtain ⟨g, o, h1, h2⟩ := h
  exact ⟨g, o, h1, fun i hi => ⟨Nat.lt_of_lt_of_le (h2 i hi).lt hb, (h2 i hi).lt2, (h2 i hi).cell, RdK.more (h2 i hi).rd hb, (h2 i hi).ok⟩⟩
theorem QaC {P : Program} {ρ : Operand → Value} {o : Oper} {w : World} (ty : TypeId) (x : Operand) {B : Nat} (g off : Nat) (n : NdV) (h : NdAt B w g off n)
    (ho : o.op = .load ty x) (hx : ρ x = .pointer (some ⟨g, off, none⟩)) (hu : aggD P ty = some true) (hi : (P.info? ty).map (·.size) = some 99) : (execOp ρ o).run P w = .ok (.value (.agg (cat [#[.bool n.n.us], #[.int .i64 n.n.nm], ints .u8 n.n.key, ints .u8 n.n.sg, ints .u8 n.n.pa, #[.slice n.a n.n.ms.length n.c]]))) w := by
  have h0 : (cat (ndP n))[0]? = some (.bool n.n.us) := by
    unfold ndP
    show (#[Value.bool n.n.us] ++ cat _)[0]? = _
    rw [Array.getElem?_append_left (show 0 < 1 by decide)]
    rfl
  obtain ⟨cs, t, fr, hg⟩ := Qdk (h.cell 0 _ h0)
  refine Qau ty x g off t cs (cat (ndP n)) fr hg ho hx (fun j v hv => ?_) hu (by rw [hi, Qca n h.ok])
  have h1 := h.cell j v hv
  unfold World.cell? at h1
  simp only [hg] at h1
  rw [← h1]; rfl
end Go.Proofs.Ytfelfmchachljaa.Wr
end
section
namespace Go.Proofs.Ytfelfmchachljaa.Wr
open Go Go.RowKit
open Rely Auto Own Sha
set_option linter.unusedVariables false
set_option linter.unusedSimpArgs false
def szOk (n : Nat) : Bool := n == 1 || n == 3 || n == 7 || n == 15 || n == 31 || n == 63
def Qcl (s : Option (List Int)) (n : NdC) : Option (List Int) := Qdr s n.us n.nm n.key n.sg n.pa n.ms
def Qdt (s : Option (List Int)) (ts : List NdV) : Option (List Int) := ts.foldl (fun s n => Qcl s n.n) (numS s ((ts.length : Nat) : Int) 1)
def Qcs (s : Option (List Int)) (ts : List NdV) : Option (List Int) := Qdt (QaA s (szOk ts.length)) ts
theorem Qcj (n : Int) (k : Nat) : numS none n k = none := by unfold numS; rw [show QaA none (okN n k) = none by cases okN n k <;> rfl, Qck]
theorem QdN (n : NdC) : Qcl none n = none := by
  unfold Qcl Qdr Qbu
  have e : (bif n.us then numS none 1 1 else numS (QaA none (QaD n.us n.nm n.key n.sg n.pa n.ms)) 0 1) = none := by
    rw [QaI, Qcj, Qcj]; cases n.us <;> rfl
  rw [e, Qcj]
  show n.ms.foldl Qbg (numS (QaA none _) _ 1) = none
  rw [QaI, Qcj]
  exact QaL _
theorem QbB : ∀ ts : List NdV, ts.foldl (fun s n => Qcl s n.n) none = none
  | [] => rfl
  | n :: r => by rw [List.foldl_cons, QdN]; exact QbB r
theorem QdB (ts : List NdV) (i : Nat) (h : i < ts.length) : ts.drop i = ndi ts i :: ts.drop (i + 1) := by
  rw [List.drop_eq_getElem_cons h]
  congr 1
  unfold ndi
  rw [List.getD_eq_getElem?_getD, List.getElem?_eq_getElem h]
  rfl
set_option maxHeartbeats 4000000 in
theorem Qgs (w : World)  : Calls Try.prog 99 #[.int .i64 1] w (Ret w (.bool true)) := by
  refine enter 11 [(0, .int .i64 1)] Try.func99 rfl rfl kj rfl ?_
  refine wp_seq_k fun K1 hK1 => ?_
  refine Qab ?_
  refine Qaa (.bool false) 2 rfl kj kj ?_
  refine Qae ?_
  refine hK1 _ _ ?_
  refine wp_seq_k fun K2 hK2 => ?_
  refine wp_seq_k fun K3 hK3 => ?_
  refine Qab ?_
  refine Qaa (.int .i64 1) 3 rfl kj kj ?_
  refine Qae ?_
  refine hK3 _ _ ?_
  refine wp_block ?_
  refine wp_seq_k fun K4 hK4 => ?_
  refine wp_seq_k fun K5 hK5 => ?_
  refine Qab ?_
  refine Qaa (.bool true) 5 rfl kj kj ?_
  refine Qaa (.bool true) 4 rfl kj kj ?_
  refine Qae ?_
  refine hK5 _ _ ?_
  refine cond_true kj ?_
  refine wp_skip ?_
  refine hK4 _ _ ?_
  refine cond_true kj ?_
  refine wp_seq_k fun K6 hK6 => ?_
  refine Qab ?_
  refine Qaa (.bool true) 2 rfl kj kj ?_
  refine Qae ?_
  refine hK6 _ _ ?_
  refine wp_ret ?_
  repeat (first | with_reducible refine goR1 ?_ | with_reducible refine goR2 ?_)
  exact (show bodyPost _ _ _ .ret _ _ from ret1 (.bool true) rfl (Qaq kj) ⟨rfl, (Rely.Ext.refl w)⟩)
set_option maxHeartbeats 4000000 in
theorem Qgr (w : World)  : Calls Try.prog 99 #[.int .i64 3] w (Ret w (.bool true)) := by
  refine enter 11 [(0, .int .i64 3)] Try.func99 rfl rfl kj rfl ?_
  refine wp_seq_k fun K1 hK1 => ?_
  refine Qab ?_
  refine Qaa (.bool false) 2 rfl kj kj ?_
  refine Qae ?_
  refine hK1 _ _ ?_
  refine wp_seq_k fun K2 hK2 => ?_
  refine wp_seq_k fun K3 hK3 => ?_
  refine Qab ?_
  refine Qaa (.int .i64 3) 3 rfl kj kj ?_
  refine Qae ?_
  refine hK3 _ _ ?_
  refine wp_block ?_
  refine wp_seq_k fun K4 hK4 => ?_
  refine wp_seq_k fun K5 hK5 => ?_
  refine Qab ?_
  refine Qaa (.bool false) 5 rfl kj kj ?_
  refine Qaa (.bool false) 4 rfl kj kj ?_
  refine Qae ?_
  refine hK5 _ _ ?_
  refine cond_false kj ?_
  refine wp_seq_k fun K6 hK6 => ?_
  refine Qab ?_
  refine Qaa (.bool true) 6 rfl kj kj ?_
  refine Qaa (.bool true) 4 rfl kj kj ?_
  refine Qae ?_
  refine hK6 _ _ ?_
  refine cond_true kj ?_
  refine wp_skip ?_
  refine hK4 _ _ ?_
  refine cond_true kj ?_
  refine wp_seq_k fun K7 hK7 => ?_
  refine Qab ?_
  refine Qaa (.bool true) 2 rfl kj kj ?_
  refine Qae ?_
  refine hK7 _ _ ?_
  refine wp_ret ?_
  repeat (first | with_reducible refine goR1 ?_ | with_reducible refine goR2 ?_)
  exact (show bodyPost _ _ _ .ret _ _ from ret1 (.bool true) rfl (Qaq kj) ⟨rfl, (Rely.Ext.refl w)⟩)
set_option maxHeartbeats 4000000 in
theorem Qgq (w : World)  : Calls Try.prog 99 #[.int .i64 7] w (Ret w (.bool true)) := by
  refine enter 11 [(0, .int .i64 7)] Try.func99 rfl rfl kj rfl ?_
  refine wp_seq_k fun K1 hK1 => ?_
  refine Qab ?_
  refine Qaa (.bool false) 2 rfl kj kj ?_
  refine Qae ?_
  refine hK1 _ _ ?_
  refine wp_seq_k fun K2 hK2 => ?_
  refine wp_seq_k fun K3 hK3 => ?_
  refine Qab ?_
  refine Qaa (.int .i64 7) 3 rfl kj kj ?_
  refine Qae ?_
  refine hK3 _ _ ?_
  refine wp_block ?_
  refine wp_seq_k fun K4 hK4 => ?_
  refine wp_seq_k fun K5 hK5 => ?_
  refine Qab ?_
  refine Qaa (.bool false) 5 rfl kj kj ?_
  refine Qaa (.bool false) 4 rfl kj kj ?_
  refine Qae ?_
  refine hK5 _ _ ?_
  refine cond_false kj ?_
  refine wp_seq_k fun K6 hK6 => ?_
  refine Qab ?_
  refine Qaa (.bool false) 6 rfl kj kj ?_
  refine Qaa (.bool false) 4 rfl kj kj ?_
  refine Qae ?_
  refine hK6 _ _ ?_
  refine cond_false kj ?_
  refine wp_seq_k fun K7 hK7 => ?_
  refine Qab ?_
  refine Qaa (.bool true) 7 rfl kj kj ?_
  refine Qaa (.bool true) 4 rfl kj kj ?_
  refine Qae ?_
  refine hK7 _ _ ?_
  refine cond_true kj ?_
  refine wp_skip ?_
  refine hK4 _ _ ?_
  refine cond_true kj ?_
  refine wp_seq_k fun K8 hK8 => ?_
  refine Qab ?_
  refine Qaa (.bool true) 2 rfl kj kj ?_
  refine Qae ?_
  refine hK8 _ _ ?_
  refine wp_ret ?_
  repeat (first | with_reducible refine goR1 ?_ | with_reducible refine goR2 ?_)
  exact (show bodyPost _ _ _ .ret _ _ from ret1 (.bool true) rfl (Qaq kj) ⟨rfl, (Rely.Ext.refl w)⟩)
set_option maxHeartbeats 4000000 in
theorem QfK (w : World)  : Calls Try.prog 99 #[.int .i64 15] w (Ret w (.bool true)) := by
  refine enter 11 [(0, .int .i64 15)] Try.func99 rfl rfl kj rfl ?_
  refine wp_seq_k fun K1 hK1 => ?_
  refine Qab ?_
  refine Qaa (.bool false) 2 rfl kj kj ?_
  refine Qae ?_
  refine hK1 _ _ ?_
  refine wp_seq_k fun K2 hK2 => ?_
  refine wp_seq_k fun K3 hK3 => ?_
  refine Qab ?_
  refine Qaa (.int .i64 15) 3 rfl kj kj ?_
  refine Qae ?_
  refine hK3 _ _ ?_
  refine wp_block ?_
  refine wp_seq_k fun K4 hK4 => ?_
  refine wp_seq_k fun K5 hK5 => ?_
  refine Qab ?_
  refine Qaa (.bool false) 5 rfl kj kj ?_
  refine Qaa (.bool false) 4 rfl kj kj ?_
  refine Qae ?_
  refine hK5 _ _ ?_
  refine cond_false kj ?_
  refine wp_seq_k fun K6 hK6 => ?_
  refine Qab ?_
  refine Qaa (.bool false) 6 rfl kj kj ?_
  refine Qaa (.bool false) 4 rfl kj kj ?_
  refine Qae ?_
  refine hK6 _ _ ?_
  refine cond_false kj ?_
  refine wp_seq_k fun K7 hK7 => ?_
  refine Qab ?_
  refine Qaa (.bool false) 7 rfl kj kj ?_
  refine Qaa (.bool false) 4 rfl kj kj ?_
  refine Qae ?_
  refine hK7 _ _ ?_
  refine cond_false kj ?_
  refine wp_seq_k fun K8 hK8 => ?_
  refine Qab ?_
  refine Qaa (.bool true) 8 rfl kj kj ?_
  refine Qaa (.bool true) 4 rfl kj kj ?_
  refine Qae ?_
  refine hK8 _ _ ?_
  refine cond_true kj ?_
  refine wp_skip ?_
  refine hK4 _ _ ?_
  refine cond_true kj ?_
  refine wp_seq_k fun K9 hK9 => ?_
  refine Qab ?_
  refine Qaa (.bool true) 2 rfl kj kj ?_
  refine Qae ?_
  refine hK9 _ _ ?_
  refine wp_ret ?_
  repeat (first | with_reducible refine goR1 ?_ | with_reducible refine goR2 ?_)
  exact (show bodyPost _ _ _ .ret _ _ from ret1 (.bool true) rfl (Qaq kj) ⟨rfl, (Rely.Ext.refl w)⟩)
set_option maxHeartbeats 4000000 in
theorem QfJ (w : World)  : Calls Try.prog 99 #[.int .i64 31] w (Ret w (.bool true)) := by
  refine enter 11 [(0, .int .i64 31)] Try.func99 rfl rfl kj rfl ?_
  refine wp_seq_k fun K1 hK1 => ?_
  refine Qab ?_
  refine Qaa (.bool false) 2 rfl kj kj ?_
  refine Qae ?_
  refine hK1 _ _ ?_
  refine wp_seq_k fun K2 hK2 => ?_
  refine wp_seq_k fun K3 hK3 => ?_
  refine Qab ?_
  refine Qaa (.int .i64 31) 3 rfl kj kj ?_
  refine Qae ?_
  refine hK3 _ _ ?_
  refine wp_block ?_
  refine wp_seq_k fun K4 hK4 => ?_
  refine wp_seq_k fun K5 hK5 => ?_
  refine Qab ?_
  refine Qaa (.bool false) 5 rfl kj kj ?_
  refine Qaa (.bool false) 4 rfl kj kj ?_
  refine Qae ?_
  refine hK5 _ _ ?_
  refine cond_false kj ?_
  refine wp_seq_k fun K6 hK6 => ?_
  refine Qab ?_
  refine Qaa (.bool false) 6 rfl kj kj ?_
  refine Qaa (.bool false) 4 rfl kj kj ?_
  refine Qae ?_
  refine hK6 _ _ ?_
  refine cond_false kj ?_
  refine wp_seq_k fun K7 hK7 => ?_
  refine Qab ?_
  refine Qaa (.bool false) 7 rfl kj kj ?_
  refine Qaa (.bool false) 4 rfl kj kj ?_
  refine Qae ?_
  refine hK7 _ _ ?_
  refine cond_false kj ?_
  refine wp_seq_k fun K8 hK8 => ?_
  refine Qab ?_
  refine Qaa (.bool false) 8 rfl kj kj ?_
  refine Qaa (.bool false) 4 rfl kj kj ?_
  refine Qae ?_
  refine hK8 _ _ ?_
  refine cond_false kj ?_
  refine wp_seq_k fun K9 hK9 => ?_
  refine Qab ?_
  refine Qaa (.bool true) 9 rfl kj kj ?_
  refine Qaa (.bool true) 4 rfl kj kj ?_
  refine Qae ?_
  refine hK9 _ _ ?_
  refine cond_true kj ?_
  refine wp_skip ?_
  refine hK4 _ _ ?_
  refine cond_true kj ?_
  refine wp_seq_k fun K10 hK10 => ?_
  refine Qab ?_
  refine Qaa (.bool true) 2 rfl kj kj ?_
  refine Qae ?_
  refine hK10 _ _ ?_
  refine wp_ret ?_
  repeat (first | with_reducible refine goR1 ?_ | with_reducible refine goR2 ?_)
  exact (show bodyPost _ _ _ .ret _ _ from ret1 (.bool true) rfl (Qaq kj) ⟨rfl, (Rely.Ext.refl w)⟩)
set_option maxHeartbeats 4000000 in
theorem QfI (w : World)  : Calls Try.prog 99 #[.int .i64 63] w (Ret w (.bool true)) := by
  refine enter 11 [(0, .int .i64 63)] Try.func99 rfl rfl kj rfl ?_
  refine wp_seq_k fun K1 hK1 => ?_
  refine Qab ?_
  refine Qaa (.bool false) 2 rfl kj kj ?_
  refine Qae ?_
  refine hK1 _ _ ?_
  refine wp_seq_k fun K2 hK2 => ?_
  refine wp_seq_k fun K3 hK3 => ?_
  refine Qab ?_
  refine Qaa (.int .i64 63) 3 rfl kj kj ?_
  refine Qae ?_
  refine hK3 _ _ ?_
  refine wp_block ?_
  refine wp_seq_k fun K4 hK4 => ?_
  refine wp_seq_k fun K5 hK5 => ?_
  refine Qab ?_
  refine Qaa (.bool false) 5 rfl kj kj ?_
  refine Qaa (.bool false) 4 rfl kj kj ?_
  refine Qae ?_
  refine hK5 _ _ ?_
  refine cond_false kj ?_
  refine wp_seq_k fun K6 hK6 => ?_
  refine Qab ?_
  refine Qaa (.bool false) 6 rfl kj kj ?_
  refine Qaa (.bool false) 4 rfl kj kj ?_
  refine Qae ?_
  refine hK6 _ _ ?_
  refine cond_false kj ?_
  refine wp_seq_k fun K7 hK7 => ?_
  refine Qab ?_
  refine Qaa (.bool false) 7 rfl kj kj ?_
  refine Qaa (.bool false) 4 rfl kj kj ?_
  refine Qae ?_
  refine hK7 _ _ ?_
  refine cond_false kj ?_
  refine wp_seq_k fun K8 hK8 => ?_
  refine Qab ?_
  refine Qaa (.bool false) 8 rfl kj kj ?_
  refine Qaa (.bool false) 4 rfl kj kj ?_
  refine Qae ?_
  refine hK8 _ _ ?_
  refine cond_false kj ?_
  refine wp_seq_k fun K9 hK9 => ?_
  refine Qab ?_
  refine Qaa (.bool false) 9 rfl kj kj ?_
  refine Qaa (.bool false) 4 rfl kj kj ?_
  refine Qae ?_
  refine hK9 _ _ ?_
  refine cond_false kj ?_
  refine Qab ?_
  refine Qaa (.bool true) 10 rfl kj kj ?_
  refine Qaa (.bool true) 4 rfl kj kj ?_
  refine Qae ?_
  refine hK4 _ _ ?_
  refine cond_true kj ?_
  refine wp_seq_k fun K10 hK10 => ?_
  refine Qab ?_
  refine Qaa (.bool true) 2 rfl kj kj ?_
  refine Qae ?_
  refine hK10 _ _ ?_
  refine wp_ret ?_
  repeat (first | with_reducible refine goR1 ?_ | with_reducible refine goR2 ?_)
  exact (show bodyPost _ _ _ .ret _ _ from ret1 (.bool true) rfl (Qaq kj) ⟨rfl, (Rely.Ext.refl w)⟩)
set_option maxHeartbeats 4000000 in
theorem Qgp (n : Nat) (w : World) (h1 : n ≠ 1) (h3 : n ≠ 3) (h7 : n ≠ 7) (h15 : n ≠ 15) (h31 : n ≠ 31) (h63 : n ≠ 63) : Calls Try.prog 99 #[.int .i64 ((n : Nat) : Int)] w (Ret w (.bool false)) := by
  refine enter 11 [(0, .int .i64 ((n : Nat) : Int))] Try.func99 rfl rfl kj rfl ?_
  refine wp_seq_k fun K1 hK1 => ?_
  refine Qab ?_
  refine Qaa (.bool false) 2 rfl kj kj ?_
  refine Qae ?_
  refine hK1 _ _ ?_
  refine wp_seq_k fun K2 hK2 => ?_
  refine wp_seq_k fun K3 hK3 => ?_
  refine Qab ?_
  refine Qaa (.int .i64 ((n : Nat) : Int)) 3 rfl kj kj ?_
  refine Qae ?_
  refine hK3 _ _ ?_
  refine wp_block ?_
  refine wp_seq_k fun K4 hK4 => ?_
  refine wp_seq_k fun K5 hK5 => ?_
  refine Qab ?_
  refine Qaa (.bool false) 5 rfl kj (Qar (u := .bool ((((n : Nat) : Int) == 1))) kj (congrArg Value.bool (beq_eq_false_iff_ne.2 (by omega)))) ?_
  refine Qaa (.bool false) 4 rfl kj kj ?_
  refine Qae ?_
  refine hK5 _ _ ?_
  refine cond_false kj ?_
  refine wp_seq_k fun K6 hK6 => ?_
  refine Qab ?_
  refine Qaa (.bool false) 6 rfl kj (Qar (u := .bool ((((n : Nat) : Int) == 3))) kj (congrArg Value.bool (beq_eq_false_iff_ne.2 (by omega)))) ?_
  refine Qaa (.bool false) 4 rfl kj kj ?_
  refine Qae ?_
  refine hK6 _ _ ?_
  refine cond_false kj ?_
  refine wp_seq_k fun K7 hK7 => ?_
  refine Qab ?_
  refine Qaa (.bool false) 7 rfl kj (Qar (u := .bool ((((n : Nat) : Int) == 7))) kj (congrArg Value.bool (beq_eq_false_iff_ne.2 (by omega)))) ?_
  refine Qaa (.bool false) 4 rfl kj kj ?_
  refine Qae ?_
  refine hK7 _ _ ?_
  refine cond_false kj ?_
  refine wp_seq_k fun K8 hK8 => ?_
  refine Qab ?_
  refine Qaa (.bool false) 8 rfl kj (Qar (u := .bool ((((n : Nat) : Int) == 15))) kj (congrArg Value.bool (beq_eq_false_iff_ne.2 (by omega)))) ?_
  refine Qaa (.bool false) 4 rfl kj kj ?_
  refine Qae ?_
  refine hK8 _ _ ?_
  refine cond_false kj ?_
  refine wp_seq_k fun K9 hK9 => ?_
  refine Qab ?_
  refine Qaa (.bool false) 9 rfl kj (Qar (u := .bool ((((n : Nat) : Int) == 31))) kj (congrArg Value.bool (beq_eq_false_iff_ne.2 (by omega)))) ?_
  refine Qaa (.bool false) 4 rfl kj kj ?_
  refine Qae ?_
  refine hK9 _ _ ?_
  refine cond_false kj ?_
  refine Qab ?_
  refine Qaa (.bool false) 10 rfl kj (Qar (u := .bool ((((n : Nat) : Int) == 63))) kj (congrArg Value.bool (beq_eq_false_iff_ne.2 (by omega)))) ?_
  refine Qaa (.bool false) 4 rfl kj kj ?_
  refine Qae ?_
  refine hK4 _ _ ?_
  refine cond_false kj ?_
  refine wp_skip ?_
  refine hK2 _ _ ?_
  refine wp_seq_k fun K10 hK10 => ?_
  refine Qab ?_
  refine Qaa (.bool false) 2 rfl kj kj ?_
  refine Qae ?_
  refine hK10 _ _ ?_
  refine wp_ret ?_
  repeat (first | with_reducible refine goR1 ?_ | with_reducible refine goR2 ?_)
  exact (show bodyPost _ _ _ .ret _ _ from ret1 (.bool false) rfl (Qaq kj) ⟨rfl, (Rely.Ext.refl w)⟩)
theorem tszC (n : Nat) (w : World) : Calls Try.prog 99 #[.int .i64 ((n : Nat) : Int)] w (Ret w (.bool (szOk n))) := by
  by_cases h1 : n = 1
  · subst h1; exact Qgs w
  by_cases h3 : n = 3
  · subst h3; exact Qgr w
  by_cases h7 : n = 7
  · subst h7; exact Qgq w
  by_cases h15 : n = 15
  · subst h15; exact QfK w
  by_cases h31 : n = 31
  · subst h31; exact QfJ w
  by_cases h63 : n = 63
  · subst h63; exact QfI w
  have e : szOk n = false := by unfold szOk; simp only [beq_eq_false_iff_ne.2 h1, beq_eq_false_iff_ne.2 h3, beq_eq_false_iff_ne.2 h7, beq_eq_false_iff_ne.2 h15, beq_eq_false_iff_ne.2 h31, beq_eq_false_iff_ne.2 h63]; rfl
  rw [e]; exact Qgp n w h1 h3 h7 h15 h31 h63
set_option maxHeartbeats 4000000 in
theorem QeK (base gw : Nat) (s : Option (List Int)) (ts : List NdV) (a_t : Option Addr) (c_t : Nat) (w : World) (hbw : base ≤ w.heap.size) (hbg : base ≤ gw) (h : WSt base gw s w) (htl : ts.length ≤ 1000000) (hms : ∀ i, i < ts.length → (ndi ts i).n.ms.length ≤ 1000000) (htr : TrAt base w a_t ts) : Calls Try.prog 100 #[.pointer (some ⟨gw, 0, none⟩), .slice a_t ts.length c_t, .func (.func 95) #[] #[]] w (fun e W => e = .returned (.tuple #[]) ∧ GW base gw w W ∧ WSt base gw (Qdt s ts) W) := by
 have hgw := h.lt
 refine enter 27 [(0, .pointer (some ⟨gw, 0, none⟩)), (1, .slice a_t ts.length c_t), (2, .func (.func 95) #[] #[])] Try.func100 rfl rfl kj rfl ?_
 refine wp_seq_k fun K1 hK1 => ?_
 refine Qab ?_
 refine Qaa (.pointer (some ⟨gw, 0, none⟩)) 8 rfl kj kj ?_
 refine Qaa (.slice a_t ts.length c_t) 9 rfl kj kj ?_
 refine Qaa (.int .i64 ((ts.length : Nat) : Int)) 10 rfl kj kj ?_
 refine Qai (fun v W' => v = .tuple #[] ∧ GW base gw w W' ∧ WSt base gw (numS s ((ts.length : Nat) : Int) 1) W') 105 #[.pointer (some ⟨gw, 0, none⟩), .int .i64 ((ts.length : Nat) : Int), .int .i64 1] 11 rfl kj kj ((Qbs base gw s ((ts.length : Nat) : Int) 1 _ (Nat.le_trans hbw (GW.refl base gw w).size) h (by decide)).mono (by rintro e w' ⟨rfl, h1, h2⟩; exact ⟨_, rfl, rfl, h1, h2⟩)) fun v2 W1 h2 => ?_
 obtain ⟨rfl, q1, ws2⟩ := h2
 have x1 : GW base gw w W1 := GW.trans (GW.refl base gw w) q1
 refine Qae ?_
 refine hK1 _ _ ?_
 refine wp_seq_k fun K3 hK3 => ?_
 refine Qab ?_
 refine Qaa (.slice a_t ts.length c_t) 12 rfl kj kj ?_
 refine Qaa (.int .i64 ((ts.length : Nat) : Int)) 13 rfl kj kj ?_
 refine Qaa (.int .i64 0) 14 rfl kj kj ?_
 refine Qae ?_
 refine hK3 _ _ ?_
 refine wp_block ?_
 refine QaB (fun (s1 : Nat × Option (List Int)) => [(0, .pointer (some ⟨gw, 0, none⟩)), (2, .func (.func 95) #[] #[]), (12, .slice a_t ts.length c_t), (13, .int .i64 ((ts.length : Nat) : Int)), (14, .int .i64 ((s1.1 : Nat) : Int))]) (fun (s1 : Nat × Option (List Int)) W => (s1.1 ≤ ts.length) ∧ (WSt base gw s1.2 W) ∧ ((ts.drop s1.1).foldl (fun s n => Qcl s n.n) s1.2 = Qdt s ts) ∧ (GW base gw w W)) (fun (s1 : Nat × Option (List Int)) => ts.length - s1.1) (0, numS s ((ts.length : Nat) : Int) 1) ⟨rfl, rfl, rfl, rfl, rfl, trivial⟩ ⟨(Nat.zero_le _), ws2, rfl, x1⟩ fun s1 X1 V1 hI1 => ?_
 obtain ⟨i, sc⟩ := s1
 obtain ⟨hi, hws, hnum, xx1⟩ := hI1
 replace hi : i ≤ ts.length := hi
 replace hws : WSt base gw sc V1 := hws
 replace hnum : (ts.drop i).foldl (fun s n => Qcl s n.n) sc = Qdt s ts := hnum
 replace xx1 : GW base gw w V1 := xx1
 refine wp_seq_k fun K4 hK4 => ?_
 refine Qab ?_
 refine Qaa (.bool (decide (((i : Nat) : Int) < ((ts.length : Nat) : Int)))) 15 rfl kj kj ?_
 refine Qae ?_
 refine hK4 _ _ ?_
 refine wp_seq_k fun K5 hK5 => ?_
 refine Qaz (t := decide (((i : Nat) : Int) < ((ts.length : Nat) : Int))) kj (fun c6 => ?_) (fun c6 => ?_)
 ·skip
  have hlt15 : i < ts.length := by have := of_decide_eq_true c6; omega
  refine wp_skip ?_
  refine hK5 _ _ ?_
  refine wp_seq_k fun K7 hK7 => ?_
  refine wp_block ?_
  refine wp_seq_k fun K8 hK8 => ?_
  refine Qab ?_
  obtain ⟨gT, oT, hat, hnds⟩ := (TrAt.gw htr xx1 hbg)
  have hnd := hnds i (by omega)
  obtain ⟨_, _, -, hnds0⟩ := id htr
  have hrd0 := (hnds0 i (by omega)).rd
  obtain ⟨nd, hndi⟩ : ∃ z, z = ndi ts i := ⟨_, rfl⟩
  rw [← hndi] at hnd hrd0
  have hok := hnd.ok
  refine Qaa (.pointer (some ⟨gT, oT + i * 99, none⟩)) 16 rfl kj (QaE 22 _ _ .i64 i gT oT ts.length c_t 43 99 a_t (hat (by omega)) rfl kj kj kj kj (by omega)) ?_
  refine Qaa (.agg (cat [#[.bool nd.n.us], #[.int .i64 nd.n.nm], ints .u8 (nd.n.key), ints .u8 (nd.n.sg), ints .u8 (nd.n.pa), #[.slice nd.a nd.n.ms.length nd.c]])) 17 rfl kj (QaC 43 _ gT (oT + i * 99) nd hnd rfl kj kj kj) ?_
  refine Qas (cat [#[.bool false], #[.int .i64 0], ints .u8 (List.replicate 32 0), ints .u8 (List.replicate 32 0), ints .u8 (List.replicate 32 0), #[.slice none 0 0]]) 43 7 rfl kj (Qcw 43 _ rfl (QeX _)) fun g9 W3 l9 e3 r9_3 => ?_
  have x3 : GW base gw w W3 := GW.ext xx1 e3
  have ws10 := WSt.ext hws e3
  have b9 : w.heap.size ≤ g9 := Nat.le_trans xx1.size l9
  refine Qa2 g9 _ (cat [#[.bool nd.n.us], #[.int .i64 nd.n.nm], ints .u8 (nd.n.key), ints .u8 (nd.n.sg), ints .u8 (nd.n.pa), #[.slice nd.a nd.n.ms.length nd.c]]) 43 r9_3 rfl kj (Qay 43 _ _ g9 43 _ _ r9_3 rfl kj kj (isz (n := 99) kj (by rw [Qac, Qac, Qac, Qac, Qac, Qac]; simp only [Array.size_append, cat, ((Qaf _ _).trans hok.gl), ((Qaf _ _).trans hok.kl), ((Qaf _ _).trans hok.pl)]; rfl)) (eqsz (n := 99) (by rw [Qac, Qac, Qac, Qac, Qac, Qac]; simp only [Array.size_append, cat, ((Qaf _ _).trans (List.length_replicate (n := 32)))]; rfl) (by rw [Qac, Qac, Qac, Qac, Qac, Qac]; simp only [Array.size_append, cat, ((Qaf _ _).trans hok.gl), ((Qaf _ _).trans hok.kl), ((Qaf _ _).trans hok.pl)]; rfl)) (QaO _ (by intro a ha; simp only [List.mem_cons, List.not_mem_nil, or_false] at ha; rcases ha with rfl | rfl | rfl | rfl | rfl | rfl; exact (Qav _ rfl); exact (Qav _ rfl); exact (Qa5 _ _); exact (Qa5 _ _); exact (Qa5 _ _); exact (Qav _ rfl)))) fun W4 p4 r9_4 => ?_
  have x4 : GW base gw w W4 := GW.put x3 p4 b9
  have ws11 := WSt.put ws10 p4 r9_3 (by decide) (Nat.ne_of_lt (Nat.lt_of_lt_of_le hgw b9))
  refine Qae ?_
  refine hK8 _ _ ?_
  refine wp_seq_k fun K12 hK12 => ?_
  refine wp_seq_k fun K13 hK13 => ?_
  refine Qab ?_
  obtain ⟨u14, xs14, bad, rb14, -, -, -, hsc⟩ := id ws11
  refine Qaa (.pointer (some ⟨gw, 0, none⟩)) 18 rfl kj kj ?_
  refine Qaa (.pointer (some ⟨gw, 0, none⟩)) 19 rfl kj kj ?_
  refine Qaa (.pointer (some ⟨gw, 1, none⟩)) 20 rfl kj kj ?_
  refine Qaa (.bool bad) 21 rfl kj (Qah 4 _ gw 1 174 _ (.bool bad) _ rb14 rfl kj kj kj) ?_
  refine Qae ?_
  refine hK13 _ _ ?_
  refine Qaz (t := bad) kj (fun c16 => ?_) (fun c16 => ?_)
  ·skip
   have hbad : bad = true := c16
   have h9 : sc = none := by rw [hsc, hbad]; rfl
   have h8 : Qdt s ts = none := by rw [← hnum, h9]; exact QbB _
   refine wp_ret ?_
   repeat (first | with_reducible refine goR1 ?_ | with_reducible refine goR2 ?_)
   exact (show bodyPost _ _ _ .ret _ _ from ret0 rfl ⟨rfl, x4, by rw [h8, ← h9]; exact ws11⟩)
  ·skip
   refine wp_skip ?_
   refine hK12 _ _ ?_
   refine Qab ?_
   refine Qaa (.func (.func 95) #[] #[]) 22 rfl kj kj ?_
   refine Qaa (.pointer (some ⟨gw, 0, none⟩)) 23 rfl kj kj ?_
   refine Qaa (.agg (cat [#[.bool nd.n.us], #[.int .i64 nd.n.nm], ints .u8 (nd.n.key), ints .u8 (nd.n.sg), ints .u8 (nd.n.pa), #[.slice nd.a nd.n.ms.length nd.c]])) 24 rfl kj (Qa8 43 _ g9 43 _ _ r9_4 rfl kj kj (isz (n := 99) kj (by rw [Qac, Qac, Qac, Qac, Qac, Qac]; simp only [Array.size_append, cat, ((Qaf _ _).trans hok.gl), ((Qaf _ _).trans hok.kl), ((Qaf _ _).trans hok.pl)]; rfl))) ?_
   refine Qai (fun v W' => v = .tuple #[] ∧ GW base gw W4 W' ∧ WSt base gw (Qcl sc nd.n) W') 95 #[.pointer (some ⟨gw, 0, none⟩), .agg (cat [#[.bool nd.n.us], #[.int .i64 nd.n.nm], ints .u8 (nd.n.key), ints .u8 (nd.n.sg), ints .u8 (nd.n.pa), #[.slice nd.a nd.n.ms.length nd.c]])] 25 rfl kj kj ((Qg0 base gw sc nd.n.us nd.n.nm nd.n.key nd.n.sg nd.n.pa nd.n.ms nd.a nd.c _ (Nat.le_trans hbw x4.size) hbg ws11 hok.kl hok.gl hok.pl hok.kb hok.gb hok.pb (by rw [hndi]; exact hms i hlt15) (Qcy hrd0 x4 hbg)).mono (by rintro e w' ⟨rfl, h1, h2⟩; exact ⟨_, rfl, rfl, h1, h2⟩)) fun v17 W5 h17 => ?_
   obtain ⟨rfl, q5, ws17⟩ := h17
   have x5 : GW base gw w W5 := GW.trans x4 q5
   refine Qae ?_
   refine hK7 _ _ ?_
   refine Qab ?_
   refine Qaa (.int .i64 ((i + 1 : Nat) : Int)) 26 rfl kj (Qar (u := .int .i64 (IntKind.i64.wrap (((i : Nat) : Int) + 1))) kj (congrArg (Value.int .i64) (i64n _ _ (by omega) (by omega)))) ?_
   refine Qaa (.int .i64 ((i + 1 : Nat) : Int)) 14 rfl kj kj ?_
   refine Qae ?_
   repeat (first | with_reducible refine goX1 ?_ | with_reducible refine goX2 ?_ | with_reducible refine goX3 ?_)
   exact Qa9 ((i + 1), Qcl sc nd.n) ⟨rfl, rfl, rfl, rfl, rfl, trivial⟩ ⟨(by omega), ws17, (by rw [← hnum, QdB ts i hlt15, ← hndi]; rfl), x5⟩ (by omega)
 ·skip
  have heq15 : i = ts.length := by have := of_decide_eq_false c6; omega
  refine wp_exit ?_
  repeat (first | with_reducible refine goX1 ?_ | with_reducible refine goX2 ?_ | with_reducible refine goX3 ?_)
  exact (show bodyPost _ _ _ .normal _ _ from end0 rfl ⟨rfl, xx1, by have h9 : sc = Qdt s ts := (by have h7 := hnum; rw [heq15, List.drop_length] at h7; exact h7); rw [← h9]; exact hws⟩)
set_option maxHeartbeats 4000000 in
theorem Qgt (base gw : Nat) (s : Option (List Int)) (ts : List NdV) (a_t : Option Addr) (c_t : Nat) (w : World) (hbw : base ≤ w.heap.size) (hbg : base ≤ gw) (h : WSt base gw s w) (htl : ts.length ≤ 1000000) (hms : ∀ i, i < ts.length → (ndi ts i).n.ms.length ≤ 1000000) (htr : TrAt base w a_t ts) : Calls Try.prog 50 #[.pointer (some ⟨gw, 0, none⟩), .slice a_t ts.length c_t] w (fun e W => e = .returned (.tuple #[]) ∧ GW base gw w W ∧ WSt base gw (Qcs s ts) W) := by
  have hgw := h.lt
  refine enter 12 [(0, .pointer (some ⟨gw, 0, none⟩)), (1, .slice a_t ts.length c_t)] Try.func50 rfl rfl kj rfl ?_
  refine wp_seq_k fun K1 hK1 => ?_
  refine Qab ?_
  refine Qaa (.pointer (some ⟨gw, 0, none⟩)) 4 rfl kj kj ?_
  refine Qaa (.slice a_t ts.length c_t) 5 rfl kj kj ?_
  refine Qaa (.int .i64 ((ts.length : Nat) : Int)) 6 rfl kj kj ?_
  refine Qax (.bool (szOk ts.length)) 99 #[.int .i64 ((ts.length : Nat) : Int)] 7 rfl kj kj ((tszC ts.length) _) fun W1 e1 => ?_
  have x1 : GW base gw w W1 := GW.ext (GW.refl base gw w) e1
  have ws2 := WSt.ext h e1
  refine Qai (fun v W' => v = .tuple #[] ∧ GW base gw W1 W' ∧ WSt base gw (QaA s (szOk ts.length)) W') 98 #[.pointer (some ⟨gw, 0, none⟩), .bool (szOk ts.length)] 8 rfl kj kj ((Qds base gw _ (szOk ts.length) _ ws2).mono (by rintro e w' ⟨rfl, h1, h2⟩; exact ⟨_, rfl, rfl, h1, h2⟩)) fun v3 W2 h3 => ?_
  obtain ⟨rfl, q2, ws3⟩ := h3
  have x2 : GW base gw w W2 := GW.trans x1 q2
  refine Qae ?_
  refine hK1 _ _ ?_
  refine Qab ?_
  refine Qaa (.pointer (some ⟨gw, 0, none⟩)) 9 rfl kj kj ?_
  refine Qaa (.slice a_t ts.length c_t) 10 rfl kj kj ?_
  refine Qai (fun v W' => v = .tuple #[] ∧ GW base gw W2 W' ∧ WSt base gw (Qcs s ts) W') 100 #[.pointer (some ⟨gw, 0, none⟩), .slice a_t ts.length c_t, .func (.func 95) #[] #[]] 11 rfl kj kj ((QeK base gw (QaA s (szOk ts.length)) ts _ _ _ (Nat.le_trans hbw x2.size) hbg ws3 htl hms (TrAt.gw htr x2 hbg)).mono (by rintro e w' ⟨rfl, h1, h2⟩; exact ⟨_, rfl, rfl, h1, h2⟩)) fun v4 W3 h4 => ?_
  obtain ⟨rfl, q3, ws4⟩ := h4
  have x3 : GW base gw w W3 := GW.trans x2 q3
  refine Qae ?_
  repeat (first | with_reducible refine goX1 ?_ | with_reducible refine goX2 ?_ | with_reducible refine goX3 ?_)
  exact (show bodyPost _ _ _ .normal _ _ from end0 rfl ⟨rfl, x3, ws4⟩)
set_option maxHeartbeats 4000000 in
theorem Qek (ts : List NdV) (a_t : Option Addr) (c_t : Nat) (w : World) (htl : ts.length ≤ 1000000) (hms : ∀ i, i < ts.length → (ndi ts i).n.ms.length ≤ 1000000) (htr : TrAt w.heap.size w a_t ts) : Calls Try.prog 49 #[.slice a_t ts.length c_t, .func (.func 50) #[] #[]] w (Qbv w (PutR w.heap.size (Qcs (some []) ts))) := by
 refine enter 22 [(0, .slice a_t ts.length c_t), (1, .func (.func 50) #[] #[])] Try.func49 rfl rfl kj rfl ?_
 refine wp_seq_k fun K1 hK1 => ?_
 refine Qab ?_
 refine Qaa (.slice none 0 0) 4 rfl kj kj ?_
 refine Qaa (.nilIface) 5 rfl kj kj ?_
 refine Qae ?_
 refine hK1 _ _ ?_
 refine wp_seq_k fun K2 hK2 => ?_
 refine Qab ?_
 refine Qaa (.agg (cat [#[.slice none 0 0], #[.bool false]])) 7 rfl kj kj ?_
 refine Qas (cat [#[.slice none 0 0], #[.bool false]]) 174 8 rfl kj kj fun g3 W1 l3 e1 r3_1 => ?_
 have x1 : Ext w W1 := Ext.tr (Rely.Ext.refl w) e1
 have b3 : w.heap.size ≤ g3 := Nat.le_trans (Rely.Ext.refl w).size l3
 refine Qaa (.pointer (some ⟨g3, 0, none⟩)) 6 rfl kj kj ?_
 refine Qae ?_
 refine hK2 _ _ ?_
 refine wp_seq_k fun K4 hK4 => ?_
 refine Qab ?_
 refine Qaa (.func (.func 50) #[] #[]) 9 rfl kj kj ?_
 refine Qaa (.pointer (some ⟨g3, 0, none⟩)) 10 rfl kj kj ?_
 refine Qaa (.slice a_t ts.length c_t) 11 rfl kj kj ?_
 refine Qai (fun v W' => v = .tuple #[] ∧ GW w.heap.size g3 W1 W' ∧ WSt w.heap.size g3 (Qcs (some []) ts) W') 50 #[.pointer (some ⟨g3, 0, none⟩), .slice a_t ts.length c_t] 12 rfl kj kj ((Qgt w.heap.size g3 (some []) ts _ _ _ (Nat.le_trans (Nat.le_refl _) e1.size) l3 ⟨_, [], false, r3_1, QbJ .u8 5 _ _, Nat.zero_le _, (fun x hx => by cases hx), rfl⟩ htl hms (TrAt.more (TrAt.ext htr x1) (Nat.le_refl _))).mono (by rintro e w' ⟨rfl, h1, h2⟩; exact ⟨_, rfl, rfl, h1, h2⟩)) fun v5 W2 h5 => ?_
 obtain ⟨rfl, q2, u, xs, bad, rb2, ho, -, -, hS⟩ := h5
 have x2 : Ext w W2 := GW.back x1 q2 (Nat.le_refl _) b3
 obtain ⟨au, cu, rfl, -⟩ := id (OwnN.rd ho)
 refine Qae ?_
 refine hK4 _ _ ?_
 refine wp_seq_k fun K6 hK6 => ?_
 refine wp_seq_k fun K7 hK7 => ?_
 refine Qab ?_
 refine Qaa (.pointer (some ⟨g3, 0, none⟩)) 13 rfl kj kj ?_
 refine Qaa (.pointer (some ⟨g3, 0, none⟩)) 14 rfl kj kj ?_
 refine Qaa (.pointer (some ⟨g3, 1, none⟩)) 15 rfl kj kj ?_
 refine Qaa (.bool bad) 16 rfl kj (Qah 4 _ g3 1 174 _ (.bool bad) _ rb2 rfl kj kj kj) ?_
 refine Qae ?_
 refine hK7 _ _ ?_
 refine Qaz (t := bad) kj (fun c8 => ?_) (fun c8 => ?_)
 ·skip
  refine wp_seq_k fun K9 hK9 => ?_
  refine Qab ?_
  refine Qaa (.iface 102 (.int .i64 3)) 17 rfl kj kj ?_
  refine Qaa (.slice none 0 0) 4 rfl kj kj ?_
  refine Qaa (.iface 102 (.int .i64 3)) 5 rfl kj kj ?_
  refine Qae ?_
  refine hK9 _ _ ?_
  refine wp_ret ?_
  repeat (first | with_reducible refine goR1 ?_ | with_reducible refine goR2 ?_)
  exact (show bodyPost _ _ _ .ret _ _ from ret2 (.slice none 0 0) (.iface 102 (.int .i64 3)) rfl (Qaq kj) (Qaq kj) ⟨_, rfl, x2, by rw [hS, c8]; exact rfl⟩)
 ·skip
  refine wp_skip ?_
  refine hK6 _ _ ?_
  refine wp_seq_k fun K10 hK10 => ?_
  refine Qab ?_
  refine Qaa (.pointer (some ⟨g3, 0, none⟩)) 18 rfl kj kj ?_
  refine Qaa (.pointer (some ⟨g3, 0, none⟩)) 19 rfl kj kj ?_
  refine Qaa (.pointer (some ⟨g3, 0, none⟩)) 20 rfl kj kj ?_
  refine Qaa (.slice au xs.length cu) 21 rfl kj (Qah 26 _ g3 0 174 _ (.slice au xs.length cu) _ rb2 rfl kj kj kj) ?_
  refine Qaa (.slice au xs.length cu) 4 rfl kj kj ?_
  refine Qaa (.nilIface) 5 rfl kj kj ?_
  refine Qae ?_
  refine hK10 _ _ ?_
  refine wp_ret ?_
  repeat (first | with_reducible refine goR1 ?_ | with_reducible refine goR2 ?_)
  exact (show bodyPost _ _ _ .ret _ _ from ret2 (.slice au xs.length cu) (.nilIface) rfl (Qaq kj) (Qaq kj) ⟨_, rfl, x2, by rw [hS, c8]; exact ⟨_, rfl, OwnN.base (Nat.le_refl _) ho⟩⟩)
set_option maxHeartbeats 4000000 in
theorem Qe3 (ts : List NdV) (a_t : Option Addr) (c_t : Nat) (w : World) (htl : ts.length ≤ 1000000) (hms : ∀ i, i < ts.length → (ndi ts i).n.ms.length ≤ 1000000) (htr : TrAt w.heap.size w a_t ts) (hS : Qcs (some []) ts = none) : Calls Try.prog 14 #[.slice a_t ts.length c_t] w (Qbv w (PutR w.heap.size (none))) := by
  refine enter 8 [(0, .slice a_t ts.length c_t)] Try.func14 rfl rfl kj rfl ?_
  refine wp_seq_k fun K1 hK1 => ?_
  refine Qab ?_
  refine Qaa (.slice none 0 0) 2 rfl kj kj ?_
  refine Qaa (.nilIface) 3 rfl kj kj ?_
  refine Qae ?_
  refine hK1 _ _ ?_
  refine wp_seq_k fun K2 hK2 => ?_
  refine Qab ?_
  refine Qaa (.slice a_t ts.length c_t) 4 rfl kj kj ?_
  refine Qai (fun v W' => (PutR w.heap.size (Qcs (some []) ts)) v W' ∧ Ext w W') 49 #[.slice a_t ts.length c_t, .func (.func 50) #[] #[]] 5 rfl kj kj ((Qek ts _ _ _ htl hms (TrAt.here (TrAt.ext htr (Rely.Ext.refl w)))).mono (by rintro e w' ⟨v, rfl, e1, hv⟩; exact ⟨v, rfl, hv, e1⟩)) fun vv3 W1 hh3 => ?_
  obtain ⟨hv3, e1⟩ := hh3
  have x1 : Ext w W1 := Ext.tr (Rely.Ext.refl w) e1
  rw [hS] at hv3
  have hv1 : vv3 = .tuple #[.slice none 0 0, .iface 102 (.int .i64 3)] := hv3
  subst hv1
  refine Qaa (.slice none 0 0) 6 rfl kj kj ?_
  refine Qaa (.iface 102 (.int .i64 3)) 7 rfl kj kj ?_
  refine Qaa (.slice none 0 0) 2 rfl kj kj ?_
  refine Qaa (.iface 102 (.int .i64 3)) 3 rfl kj kj ?_
  refine Qae ?_
  refine hK2 _ _ ?_
  refine wp_ret ?_
  repeat (first | with_reducible refine goR1 ?_ | with_reducible refine goR2 ?_)
  exact (show bodyPost _ _ _ .ret _ _ from ret2 (.slice none 0 0) (.iface 102 (.int .i64 3)) rfl (Qaq kj) (Qaq kj) ⟨_, rfl, x1, rfl⟩)
set_option maxHeartbeats 4000000 in
theorem Qe2 (ts : List NdV) (a_t : Option Addr) (c_t : Nat) (w : World) (htl : ts.length ≤ 1000000) (hms : ∀ i, i < ts.length → (ndi ts i).n.ms.length ≤ 1000000) (htr : TrAt w.heap.size w a_t ts) (xs : List Int) (hS : Qcs (some []) ts = some xs) : Calls Try.prog 14 #[.slice a_t ts.length c_t] w (Qbv w (PutR w.heap.size (some xs))) := by
  refine enter 8 [(0, .slice a_t ts.length c_t)] Try.func14 rfl rfl kj rfl ?_
  refine wp_seq_k fun K1 hK1 => ?_
  refine Qab ?_
  refine Qaa (.slice none 0 0) 2 rfl kj kj ?_
  refine Qaa (.nilIface) 3 rfl kj kj ?_
  refine Qae ?_
  refine hK1 _ _ ?_
  refine wp_seq_k fun K2 hK2 => ?_
  refine Qab ?_
  refine Qaa (.slice a_t ts.length c_t) 4 rfl kj kj ?_
  refine Qai (fun v W' => (PutR w.heap.size (Qcs (some []) ts)) v W' ∧ Ext w W') 49 #[.slice a_t ts.length c_t, .func (.func 50) #[] #[]] 5 rfl kj kj ((Qek ts _ _ _ htl hms (TrAt.here (TrAt.ext htr (Rely.Ext.refl w)))).mono (by rintro e w' ⟨v, rfl, e1, hv⟩; exact ⟨v, rfl, hv, e1⟩)) fun vv3 W1 hh3 => ?_
  obtain ⟨hv3, e1⟩ := hh3
  have x1 : Ext w W1 := Ext.tr (Rely.Ext.refl w) e1
  rw [hS] at hv3
  obtain ⟨u4_, rfl, hu4_⟩ := hv3
  obtain ⟨a4_, c4_, rfl, -⟩ := id (OwnN.rd hu4_)
  refine Qaa (.slice a4_ ((xs).length) c4_) 6 rfl kj kj ?_
  refine Qaa (.nilIface) 7 rfl kj kj ?_
  refine Qaa (.slice a4_ ((xs).length) c4_) 2 rfl kj kj ?_
  refine Qaa (.nilIface) 3 rfl kj kj ?_
  refine Qae ?_
  refine hK2 _ _ ?_
  refine wp_ret ?_
  repeat (first | with_reducible refine goR1 ?_ | with_reducible refine goR2 ?_)
  exact (show bodyPost _ _ _ .ret _ _ from ret2 (.slice a4_ ((xs).length) c4_) (.nilIface) rfl (Qaq kj) (Qaq kj) ⟨_, rfl, x1, _, rfl, OwnN.base (Rely.Ext.refl w).size hu4_⟩)
end Go.Proofs.Ytfelfmchachljaa.Wr
end
section
namespace Go.Proofs.Ytfelfmchachljaa.Wr
open Go Go.RowKit
open Rely Auto Own Sha
set_option linter.unusedVariables false
set_option linter.unusedSimpArgs false
def okN_ (n : NdC) : Bool := Qbe n.us n.nm n.key n.sg n.pa n.ms
def Qbb (n : NdC) : List Int := Qb7 n.us n.nm n.key n.sg n.pa n.ms
def Qbl (ts : List NdV) : Bool := szOk ts.length && ts.all fun n => okN_ n.n
def Qbr (ts : List NdV) : List Int := [byV ((ts.length : Nat) : Int) 0] ++ (ts.map fun n => Qbb n.n).flatten
def refT (ts : List NdV) : Option (List Int) := if Qbl ts = true then some (Qbr ts) else none
theorem Qb3 (us : Bool) (nm : Int) (key sg pa ms : List Int) (a_m : Option Addr) (c_m : Nat) (b : Bool) (hb : Qbe us nm key sg pa ms = b) (w : World) (hkl : key.length = 32) (hgl : sg.length = 32) (hpl : pa.length = 32) (hm : RdK .i64 w.heap.size ms (.slice a_m ms.length c_m) w) : Calls Try.prog 96 #[.agg (cat [#[.bool us], #[.int .i64 nm], ints .u8 (key), ints .u8 (sg), ints .u8 (pa), #[.slice a_m ms.length c_m]])] w (Ret w (.bool b)) := hb ▸ Qg4 us nm key sg pa ms a_m c_m w hkl hgl hpl hm
theorem QbN (ts : List NdV) (i : Nat) (h : i < ts.length) : ndi ts i ∈ ts := by
  unfold ndi
  rw [List.getD_eq_getElem?_getD, List.getElem?_eq_getElem h]
  exact List.getElem_mem h
theorem Qby (ts : List NdV) (i : Nat) (h : i < ts.length) : ts.take (i + 1) = ts.take i ++ [ndi ts i] := by
  rw [List.take_add_one, List.getElem?_eq_getElem h]
  unfold ndi
  rw [List.getD_eq_getElem?_getD, List.getElem?_eq_getElem h]
  rfl
theorem QbR (ts : List NdV) (i : Nat) (h : i < ts.length) (hf : okN_ (ndi ts i).n = false) : (ts.all fun n => okN_ n.n) = false := by
  rw [List.all_eq_false]
  exact ⟨_, QbN ts i h, by rw [hf]; decide⟩
theorem Qes (n : NdC) (ho : NdOk n) (h : okN_ n = true) : (Qbb n).length ≤ 131 := by
  unfold okN_ Qbe at h
  simp only [Bool.and_eq_true, decide_eq_true_eq] at h
  unfold Qbb Qb7 Qbp
  simp only [List.length_append, List.length_cons, List.length_nil, List.length_map, ho.kl, ho.gl, ho.pl]
  omega
theorem Qdx {α : Type} (f : α → List Int) (m : Nat) : ∀ ts : List α, (∀ n ∈ ts, (f n).length ≤ m) → (ts.map f).flatten.length ≤ ts.length * m
  | [], _ => Nat.zero_le _
  | n :: r, h => by
    rw [List.map_cons, List.flatten_cons, List.length_append, List.length_cons, Nat.add_mul]
    have h1 := h n List.mem_cons_self
    have h2 := Qdx f m r fun x hx => h x (List.mem_cons_of_mem _ hx)
    omega
theorem Qc6 {n : Nat} (h : szOk n = true) : n ≤ 63 := by
  unfold szOk at h
  simp only [Bool.or_eq_true, beq_iff_eq] at h
  omega
theorem Qce (ts : List NdV) (hok : ∀ n ∈ ts, NdOk n.n) (h : Qbl ts = true) : (Qbr ts).length ≤ 8400 := by
  unfold Qbl at h
  rw [Bool.and_eq_true, List.all_eq_true] at h
  have h1 := Qc6 h.1
  have h2 := Qdx (fun n : NdV => Qbb n.n) 131 ts fun n hn => Qes n.n (hok n hn) (h.2 n hn)
  unfold Qbr
  rw [List.length_append, List.length_cons, List.length_nil]
  omega
theorem QdF (ts : List NdV) (i : Nat) (h : i < ts.length) (H : List Int) : H ++ ((ts.take (i + 1)).map fun n => Qbb n.n).flatten = H ++ ((ts.take i).map fun n => Qbb n.n).flatten ++ Qbb (ndi ts i).n := by
  rw [Qby ts i h, List.map_append, List.flatten_append, ← List.append_assoc]
  simp
set_option maxHeartbeats 4000000 in
theorem QeC (ts : List NdV) (a_t : Option Addr) (c_t : Nat) (w : World) (htl : ts.length ≤ 1000000) (htr : TrAt w.heap.size w a_t ts) (hv : ts.length = 1) : Calls Try.prog 51 #[.slice a_t ts.length c_t] w (Ret w (.bool (ts.all fun n => okN_ n.n))) := by
 refine enter 40 [(0, .slice a_t ts.length c_t)] Try.func51 rfl rfl kj rfl ?_
 refine wp_seq_k fun K1 hK1 => ?_
 refine Qab ?_
 refine Qaa (.bool false) 2 rfl kj kj ?_
 refine Qae ?_
 refine hK1 _ _ ?_
 refine wp_seq_k fun K2 hK2 => ?_
 refine Qab ?_
 refine Qaa (.slice a_t ts.length c_t) 5 rfl kj kj ?_
 refine Qaa (.int .i64 ((ts.length : Nat) : Int)) 6 rfl kj kj ?_
 refine Qaa (.int .i64 ((ts.length : Nat) : Int)) 3 rfl kj kj ?_
 refine Qae ?_
 refine hK2 _ _ ?_
 refine wp_seq_k fun K3 hK3 => ?_
 refine wp_seq_k fun K4 hK4 => ?_
 refine Qab ?_
 refine Qaa (.int .i64 ((ts.length : Nat) : Int)) 7 rfl kj kj ?_
 refine Qaa (.bool false) 8 rfl kj (Qar (u := .bool ((((ts.length : Nat) : Int) != 1))) kj (congrArg Value.bool (bne_eq_false_iff_eq.2 (by omega)))) ?_
 refine Qaa (.bool false) 9 rfl kj kj ?_
 refine Qag 10 rfl kj ?_
 refine Qag 11 rfl kj ?_
 refine Qaa (.bool false) 12 rfl kj kj ?_
 refine Qaa (.bool false) 13 rfl kj kj ?_
 refine Qag 14 rfl kj ?_
 refine Qag 15 rfl kj ?_
 refine Qaa (.bool false) 16 rfl kj kj ?_
 refine Qaa (.bool false) 17 rfl kj kj ?_
 refine Qag 18 rfl kj ?_
 refine Qag 19 rfl kj ?_
 refine Qaa (.bool false) 20 rfl kj kj ?_
 refine Qaa (.bool false) 21 rfl kj kj ?_
 refine Qag 22 rfl kj ?_
 refine Qag 23 rfl kj ?_
 refine Qaa (.bool false) 24 rfl kj kj ?_
 refine Qaa (.bool false) 25 rfl kj kj ?_
 refine Qag 26 rfl kj ?_
 refine Qag 27 rfl kj ?_
 refine Qaa (.bool false) 28 rfl kj kj ?_
 refine Qae ?_
 refine hK4 _ _ ?_
 refine cond_false kj ?_
 refine wp_skip ?_
 refine hK3 _ _ ?_
 refine wp_seq_k fun K5 hK5 => ?_
 refine wp_seq_k fun K6 hK6 => ?_
 refine Qab ?_
 refine Qaa (.int .i64 0) 4 rfl kj kj ?_
 refine Qae ?_
 refine hK6 _ _ ?_
 refine wp_block ?_
 refine QaB (fun (s1 : Nat) => [(0, .slice a_t ts.length c_t), (3, .int .i64 ((ts.length : Nat) : Int)), (4, .int .i64 ((s1 : Nat) : Int))]) (fun (s1 : Nat) W => (s1 ≤ ts.length) ∧ (((ts.take s1).all fun n => okN_ n.n) = true) ∧ (Ext w W) ∧ (Ext w W)) (fun (s1 : Nat) => ts.length - s1) 0 ⟨rfl, rfl, rfl, trivial⟩ ⟨(Nat.zero_le _), rfl, (Rely.Ext.refl w), (Rely.Ext.refl w)⟩ fun s1 X1 V1 hI1 => ?_
 obtain ⟨i, hs1⟩ : ∃ z, z = s1 := ⟨_, rfl⟩
 subst hs1
 obtain ⟨hi, hr, kk1, xx1⟩ := hI1
 replace hi : i ≤ ts.length := hi
 replace hr : ((ts.take i).all fun n => okN_ n.n) = true := hr
 replace kk1 : Ext w V1 := kk1
 replace xx1 : Ext w V1 := xx1
 have e1 := kk1
 refine wp_seq_k fun K7 hK7 => ?_
 refine wp_seq_k fun K8 hK8 => ?_
 refine Qab ?_
 refine Qaa (.int .i64 ((i : Nat) : Int)) 29 rfl kj kj ?_
 refine Qaa (.int .i64 ((ts.length : Nat) : Int)) 30 rfl kj kj ?_
 refine Qaa (.bool (decide (((i : Nat) : Int) < ((ts.length : Nat) : Int)))) 31 rfl kj kj ?_
 refine Qae ?_
 refine hK8 _ _ ?_
 refine Qaz (t := decide (((i : Nat) : Int) < ((ts.length : Nat) : Int))) kj (fun c9 => ?_) (fun c9 => ?_)
 ·skip
  have hlt31 : i < ts.length := by have := of_decide_eq_true c9; omega
  refine wp_skip ?_
  refine hK7 _ _ ?_
  refine wp_seq_k fun K10 hK10 => ?_
  refine wp_block ?_
  refine wp_seq_k fun K11 hK11 => ?_
  obtain ⟨_, _, -, hnds_⟩ := id htr
  have hrd_ := (hnds_ i (by omega)).rd
  have hok_ := (hnds_ i (by omega)).ok
  rcases (show okN_ (ndi ts i).n = false ∨ okN_ (ndi ts i).n = true by cases okN_ (ndi ts i).n <;> simp) with hgi | hgi
  ·skip
   have hV : (ts.all fun n => okN_ n.n) = false := QbR ts i hlt31 hgi
   refine Qab ?_
   refine Qaa (.slice a_t ts.length c_t) 34 rfl kj kj ?_
   refine Qaa (.int .i64 ((i : Nat) : Int)) 35 rfl kj kj ?_
   obtain ⟨gT, oT, hat, hnds⟩ := (TrAt.ext htr xx1)
   have hnd := hnds i (by omega)
   obtain ⟨_, _, -, hnds0⟩ := id htr
   have hrd0 := (hnds0 i (by omega)).rd
   obtain ⟨nd, hndi⟩ : ∃ z, z = ndi ts i := ⟨_, rfl⟩
   rw [← hndi] at hnd hrd0 hok_ hrd_ hgi; have hgd : Qbe nd.n.us nd.n.nm nd.n.key nd.n.sg nd.n.pa nd.n.ms = _ := hgi
   have hok := hnd.ok
   refine Qaa (.pointer (some ⟨gT, oT + i * 99, none⟩)) 36 rfl kj (QaE 23 _ _ .i64 i gT oT ts.length c_t 43 99 a_t (hat (by omega)) rfl kj kj kj kj (by omega)) ?_
   refine Qaa (.agg (cat [#[.bool nd.n.us], #[.int .i64 nd.n.nm], ints .u8 (nd.n.key), ints .u8 (nd.n.sg), ints .u8 (nd.n.pa), #[.slice nd.a nd.n.ms.length nd.c]])) 37 rfl kj (QaC 43 _ gT (oT + i * 99) nd hnd rfl kj kj kj) ?_
   refine Qax (.bool false) 96 #[.agg (cat [#[.bool nd.n.us], #[.int .i64 nd.n.nm], ints .u8 (nd.n.key), ints .u8 (nd.n.sg), ints .u8 (nd.n.pa), #[.slice nd.a nd.n.ms.length nd.c]])] 38 rfl kj kj (Qb3 nd.n.us nd.n.nm nd.n.key nd.n.sg nd.n.pa nd.n.ms _ _ _ hgd _ hok_.kl hok_.gl hok_.pl (RdK.here (RdK.ext hrd_ xx1))) fun W2 e2 => ?_
   have x2 : Ext w W2 := Ext.tr xx1 e2
   refine Qaa (.bool true) 39 rfl kj kj ?_
   refine Qae ?_
   refine hK11 _ _ ?_
   refine cond_true kj ?_
   refine wp_seq_k fun K12 hK12 => ?_
   refine Qab ?_
   refine Qaa (.bool false) 2 rfl kj kj ?_
   refine Qae ?_
   refine hK12 _ _ ?_
   refine wp_ret ?_
   repeat (first | with_reducible refine goR1 ?_ | with_reducible refine goR2 ?_)
   exact (show bodyPost _ _ _ .ret _ _ from ret1 (.bool false) rfl (Qaq kj) ⟨by rw [hV], x2⟩)
  ·skip
   refine Qab ?_
   refine Qaa (.slice a_t ts.length c_t) 34 rfl kj kj ?_
   refine Qaa (.int .i64 ((i : Nat) : Int)) 35 rfl kj kj ?_
   obtain ⟨gT, oT, hat, hnds⟩ := (TrAt.ext htr xx1)
   have hnd := hnds i (by omega)
   obtain ⟨_, _, -, hnds0⟩ := id htr
   have hrd0 := (hnds0 i (by omega)).rd
   obtain ⟨nd, hndi⟩ : ∃ z, z = ndi ts i := ⟨_, rfl⟩
   rw [← hndi] at hnd hrd0 hok_ hrd_ hgi; have hgd : Qbe nd.n.us nd.n.nm nd.n.key nd.n.sg nd.n.pa nd.n.ms = _ := hgi
   have hok := hnd.ok
   refine Qaa (.pointer (some ⟨gT, oT + i * 99, none⟩)) 36 rfl kj (QaE 23 _ _ .i64 i gT oT ts.length c_t 43 99 a_t (hat (by omega)) rfl kj kj kj kj (by omega)) ?_
   refine Qaa (.agg (cat [#[.bool nd.n.us], #[.int .i64 nd.n.nm], ints .u8 (nd.n.key), ints .u8 (nd.n.sg), ints .u8 (nd.n.pa), #[.slice nd.a nd.n.ms.length nd.c]])) 37 rfl kj (QaC 43 _ gT (oT + i * 99) nd hnd rfl kj kj kj) ?_
   refine Qax (.bool true) 96 #[.agg (cat [#[.bool nd.n.us], #[.int .i64 nd.n.nm], ints .u8 (nd.n.key), ints .u8 (nd.n.sg), ints .u8 (nd.n.pa), #[.slice nd.a nd.n.ms.length nd.c]])] 38 rfl kj kj (Qb3 nd.n.us nd.n.nm nd.n.key nd.n.sg nd.n.pa nd.n.ms _ _ _ hgd _ hok_.kl hok_.gl hok_.pl (RdK.here (RdK.ext hrd_ xx1))) fun W2 e2 => ?_
   have x2 : Ext w W2 := Ext.tr xx1 e2
   refine Qaa (.bool false) 39 rfl kj kj ?_
   refine Qae ?_
   refine hK11 _ _ ?_
   refine cond_false kj ?_
   refine wp_skip ?_
   refine hK10 _ _ ?_
   refine Qab ?_
   refine Qaa (.int .i64 ((i : Nat) : Int)) 32 rfl kj kj ?_
   refine Qaa (.int .i64 ((i + 1 : Nat) : Int)) 33 rfl kj (Qar (u := .int .i64 (IntKind.i64.wrap (((i : Nat) : Int) + 1))) kj (congrArg (Value.int .i64) (i64n _ _ (by omega) (by omega)))) ?_
   refine Qaa (.int .i64 ((i + 1 : Nat) : Int)) 4 rfl kj kj ?_
   refine Qae ?_
   have y0_2 : Ext w W2 := (Rely.Ext.trans e1 e2)
   repeat (first | with_reducible refine goX1 ?_ | with_reducible refine goX2 ?_ | with_reducible refine goX3 ?_)
   exact Qa9 (i + 1) ⟨rfl, rfl, rfl, trivial⟩ ⟨(by omega), (by rw [Qby ts i hlt31, List.all_append, hr, ← hndi]; simp only [List.all_cons, List.all_nil, hgi]; rfl), y0_2, x2⟩ (by omega)
 ·skip
  have heq31 : i = ts.length := by have := of_decide_eq_false c9; omega
  have hV : (ts.all fun n => okN_ n.n) = true := by rw [heq31, List.take_length] at hr; exact hr
  refine wp_exit ?_
  refine hK5 _ _ ?_
  refine wp_seq_k fun K13 hK13 => ?_
  refine Qab ?_
  refine Qaa (.bool true) 2 rfl kj kj ?_
  refine Qae ?_
  refine hK13 _ _ ?_
  refine wp_ret ?_
  repeat (first | with_reducible refine goR1 ?_ | with_reducible refine goR2 ?_)
  exact (show bodyPost _ _ _ .ret _ _ from ret1 (.bool true) rfl (Qaq kj) ⟨by rw [hV], xx1⟩)
set_option maxHeartbeats 4000000 in
theorem QeB (ts : List NdV) (a_t : Option Addr) (c_t : Nat) (w : World) (htl : ts.length ≤ 1000000) (htr : TrAt w.heap.size w a_t ts) (hv : ts.length = 3) : Calls Try.prog 51 #[.slice a_t ts.length c_t] w (Ret w (.bool (ts.all fun n => okN_ n.n))) := by
 refine enter 40 [(0, .slice a_t ts.length c_t)] Try.func51 rfl rfl kj rfl ?_
 refine wp_seq_k fun K1 hK1 => ?_
 refine Qab ?_
 refine Qaa (.bool false) 2 rfl kj kj ?_
 refine Qae ?_
 refine hK1 _ _ ?_
 refine wp_seq_k fun K2 hK2 => ?_
 refine Qab ?_
 refine Qaa (.slice a_t ts.length c_t) 5 rfl kj kj ?_
 refine Qaa (.int .i64 ((ts.length : Nat) : Int)) 6 rfl kj kj ?_
 refine Qaa (.int .i64 ((ts.length : Nat) : Int)) 3 rfl kj kj ?_
 refine Qae ?_
 refine hK2 _ _ ?_
 refine wp_seq_k fun K3 hK3 => ?_
 refine wp_seq_k fun K4 hK4 => ?_
 refine Qab ?_
 refine Qaa (.int .i64 ((ts.length : Nat) : Int)) 7 rfl kj kj ?_
 refine Qaa (.bool true) 8 rfl kj (Qar (u := .bool ((((ts.length : Nat) : Int) != 1))) kj (congrArg Value.bool (bne_iff_ne.2 (by omega)))) ?_
 refine Qaa (.bool true) 9 rfl kj kj ?_
 refine Qaa (.int .i64 ((ts.length : Nat) : Int)) 10 rfl kj kj ?_
 refine Qaa (.bool false) 11 rfl kj (Qar (u := .bool ((((ts.length : Nat) : Int) != 3))) kj (congrArg Value.bool (bne_eq_false_iff_eq.2 (by omega)))) ?_
 refine Qaa (.bool false) 12 rfl kj kj ?_
 refine Qaa (.bool false) 13 rfl kj kj ?_
 refine Qag 14 rfl kj ?_
 refine Qag 15 rfl kj ?_
 refine Qaa (.bool false) 16 rfl kj kj ?_
 refine Qaa (.bool false) 17 rfl kj kj ?_
 refine Qag 18 rfl kj ?_
 refine Qag 19 rfl kj ?_
 refine Qaa (.bool false) 20 rfl kj kj ?_
 refine Qaa (.bool false) 21 rfl kj kj ?_
 refine Qag 22 rfl kj ?_
 refine Qag 23 rfl kj ?_
 refine Qaa (.bool false) 24 rfl kj kj ?_
 refine Qaa (.bool false) 25 rfl kj kj ?_
 refine Qag 26 rfl kj ?_
 refine Qag 27 rfl kj ?_
 refine Qaa (.bool false) 28 rfl kj kj ?_
 refine Qae ?_
 refine hK4 _ _ ?_
 refine cond_false kj ?_
 refine wp_skip ?_
 refine hK3 _ _ ?_
 refine wp_seq_k fun K5 hK5 => ?_
 refine wp_seq_k fun K6 hK6 => ?_
 refine Qab ?_
 refine Qaa (.int .i64 0) 4 rfl kj kj ?_
 refine Qae ?_
 refine hK6 _ _ ?_
 refine wp_block ?_
 refine QaB (fun (s1 : Nat) => [(0, .slice a_t ts.length c_t), (3, .int .i64 ((ts.length : Nat) : Int)), (4, .int .i64 ((s1 : Nat) : Int))]) (fun (s1 : Nat) W => (s1 ≤ ts.length) ∧ (((ts.take s1).all fun n => okN_ n.n) = true) ∧ (Ext w W) ∧ (Ext w W)) (fun (s1 : Nat) => ts.length - s1) 0 ⟨rfl, rfl, rfl, trivial⟩ ⟨(Nat.zero_le _), rfl, (Rely.Ext.refl w), (Rely.Ext.refl w)⟩ fun s1 X1 V1 hI1 => ?_
 obtain ⟨i, hs1⟩ : ∃ z, z = s1 := ⟨_, rfl⟩
 subst hs1
 obtain ⟨hi, hr, kk1, xx1⟩ := hI1
 replace hi : i ≤ ts.length := hi
 replace hr : ((ts.take i).all fun n => okN_ n.n) = true := hr
 replace kk1 : Ext w V1 := kk1
 replace xx1 : Ext w V1 := xx1
 have e1 := kk1
 refine wp_seq_k fun K7 hK7 => ?_
 refine wp_seq_k fun K8 hK8 => ?_
 refine Qab ?_
 refine Qaa (.int .i64 ((i : Nat) : Int)) 29 rfl kj kj ?_
 refine Qaa (.int .i64 ((ts.length : Nat) : Int)) 30 rfl kj kj ?_
 refine Qaa (.bool (decide (((i : Nat) : Int) < ((ts.length : Nat) : Int)))) 31 rfl kj kj ?_
 refine Qae ?_
 refine hK8 _ _ ?_
 refine Qaz (t := decide (((i : Nat) : Int) < ((ts.length : Nat) : Int))) kj (fun c9 => ?_) (fun c9 => ?_)
 ·skip
  have hlt31 : i < ts.length := by have := of_decide_eq_true c9; omega
  refine wp_skip ?_
  refine hK7 _ _ ?_
  refine wp_seq_k fun K10 hK10 => ?_
  refine wp_block ?_
  refine wp_seq_k fun K11 hK11 => ?_
  obtain ⟨_, _, -, hnds_⟩ := id htr
  have hrd_ := (hnds_ i (by omega)).rd
  have hok_ := (hnds_ i (by omega)).ok
  rcases (show okN_ (ndi ts i).n = false ∨ okN_ (ndi ts i).n = true by cases okN_ (ndi ts i).n <;> simp) with hgi | hgi
  ·skip
   have hV : (ts.all fun n => okN_ n.n) = false := QbR ts i hlt31 hgi
   refine Qab ?_
   refine Qaa (.slice a_t ts.length c_t) 34 rfl kj kj ?_
   refine Qaa (.int .i64 ((i : Nat) : Int)) 35 rfl kj kj ?_
   obtain ⟨gT, oT, hat, hnds⟩ := (TrAt.ext htr xx1)
   have hnd := hnds i (by omega)
   obtain ⟨_, _, -, hnds0⟩ := id htr
   have hrd0 := (hnds0 i (by omega)).rd
   obtain ⟨nd, hndi⟩ : ∃ z, z = ndi ts i := ⟨_, rfl⟩
   rw [← hndi] at hnd hrd0 hok_ hrd_ hgi; have hgd : Qbe nd.n.us nd.n.nm nd.n.key nd.n.sg nd.n.pa nd.n.ms = _ := hgi
   have hok := hnd.ok
   refine Qaa (.pointer (some ⟨gT, oT + i * 99, none⟩)) 36 rfl kj (QaE 23 _ _ .i64 i gT oT ts.length c_t 43 99 a_t (hat (by omega)) rfl kj kj kj kj (by omega)) ?_
   refine Qaa (.agg (cat [#[.bool nd.n.us], #[.int .i64 nd.n.nm], ints .u8 (nd.n.key), ints .u8 (nd.n.sg), ints .u8 (nd.n.pa), #[.slice nd.a nd.n.ms.length nd.c]])) 37 rfl kj (QaC 43 _ gT (oT + i * 99) nd hnd rfl kj kj kj) ?_
   refine Qax (.bool false) 96 #[.agg (cat [#[.bool nd.n.us], #[.int .i64 nd.n.nm], ints .u8 (nd.n.key), ints .u8 (nd.n.sg), ints .u8 (nd.n.pa), #[.slice nd.a nd.n.ms.length nd.c]])] 38 rfl kj kj (Qb3 nd.n.us nd.n.nm nd.n.key nd.n.sg nd.n.pa nd.n.ms _ _ _ hgd _ hok_.kl hok_.gl hok_.pl (RdK.here (RdK.ext hrd_ xx1))) fun W2 e2 => ?_
   have x2 : Ext w W2 := Ext.tr xx1 e2
   refine Qaa (.bool true) 39 rfl kj kj ?_
   refine Qae ?_
   refine hK11 _ _ ?_
   refine cond_true kj ?_
   refine wp_seq_k fun K12 hK12 => ?_
   refine Qab ?_
   refine Qaa (.bool false) 2 rfl kj kj ?_
   refine Qae ?_
   refine hK12 _ _ ?_
   refine wp_ret ?_
   repeat (first | with_reducible refine goR1 ?_ | with_reducible refine goR2 ?_)
   exact (show bodyPost _ _ _ .ret _ _ from ret1 (.bool false) rfl (Qaq kj) ⟨by rw [hV], x2⟩)
  ·skip
   refine Qab ?_
   refine Qaa (.slice a_t ts.length c_t) 34 rfl kj kj ?_
   refine Qaa (.int .i64 ((i : Nat) : Int)) 35 rfl kj kj ?_
   obtain ⟨gT, oT, hat, hnds⟩ := (TrAt.ext htr xx1)
   have hnd := hnds i (by omega)
   obtain ⟨_, _, -, hnds0⟩ := id htr
   have hrd0 := (hnds0 i (by omega)).rd
   obtain ⟨nd, hndi⟩ : ∃ z, z = ndi ts i := ⟨_, rfl⟩
   rw [← hndi] at hnd hrd0 hok_ hrd_ hgi; have hgd : Qbe nd.n.us nd.n.nm nd.n.key nd.n.sg nd.n.pa nd.n.ms = _ := hgi
   have hok := hnd.ok
   refine Qaa (.pointer (some ⟨gT, oT + i * 99, none⟩)) 36 rfl kj (QaE 23 _ _ .i64 i gT oT ts.length c_t 43 99 a_t (hat (by omega)) rfl kj kj kj kj (by omega)) ?_
   refine Qaa (.agg (cat [#[.bool nd.n.us], #[.int .i64 nd.n.nm], ints .u8 (nd.n.key), ints .u8 (nd.n.sg), ints .u8 (nd.n.pa), #[.slice nd.a nd.n.ms.length nd.c]])) 37 rfl kj (QaC 43 _ gT (oT + i * 99) nd hnd rfl kj kj kj) ?_
   refine Qax (.bool true) 96 #[.agg (cat [#[.bool nd.n.us], #[.int .i64 nd.n.nm], ints .u8 (nd.n.key), ints .u8 (nd.n.sg), ints .u8 (nd.n.pa), #[.slice nd.a nd.n.ms.length nd.c]])] 38 rfl kj kj (Qb3 nd.n.us nd.n.nm nd.n.key nd.n.sg nd.n.pa nd.n.ms _ _ _ hgd _ hok_.kl hok_.gl hok_.pl (RdK.here (RdK.ext hrd_ xx1))) fun W2 e2 => ?_
   have x2 : Ext w W2 := Ext.tr xx1 e2
   refine Qaa (.bool false) 39 rfl kj kj ?_
   refine Qae ?_
   refine hK11 _ _ ?_
   refine cond_false kj ?_
   refine wp_skip ?_
   refine hK10 _ _ ?_
   refine Qab ?_
   refine Qaa (.int .i64 ((i : Nat) : Int)) 32 rfl kj kj ?_
   refine Qaa (.int .i64 ((i + 1 : Nat) : Int)) 33 rfl kj (Qar (u := .int .i64 (IntKind.i64.wrap (((i : Nat) : Int) + 1))) kj (congrArg (Value.int .i64) (i64n _ _ (by omega) (by omega)))) ?_
   refine Qaa (.int .i64 ((i + 1 : Nat) : Int)) 4 rfl kj kj ?_
   refine Qae ?_
   have y0_2 : Ext w W2 := (Rely.Ext.trans e1 e2)
   repeat (first | with_reducible refine goX1 ?_ | with_reducible refine goX2 ?_ | with_reducible refine goX3 ?_)
   exact Qa9 (i + 1) ⟨rfl, rfl, rfl, trivial⟩ ⟨(by omega), (by rw [Qby ts i hlt31, List.all_append, hr, ← hndi]; simp only [List.all_cons, List.all_nil, hgi]; rfl), y0_2, x2⟩ (by omega)
 ·skip
  have heq31 : i = ts.length := by have := of_decide_eq_false c9; omega
  have hV : (ts.all fun n => okN_ n.n) = true := by rw [heq31, List.take_length] at hr; exact hr
  refine wp_exit ?_
  refine hK5 _ _ ?_
  refine wp_seq_k fun K13 hK13 => ?_
  refine Qab ?_
  refine Qaa (.bool true) 2 rfl kj kj ?_
  refine Qae ?_
  refine hK13 _ _ ?_
  refine wp_ret ?_
  repeat (first | with_reducible refine goR1 ?_ | with_reducible refine goR2 ?_)
  exact (show bodyPost _ _ _ .ret _ _ from ret1 (.bool true) rfl (Qaq kj) ⟨by rw [hV], xx1⟩)
set_option maxHeartbeats 4000000 in
theorem QeA (ts : List NdV) (a_t : Option Addr) (c_t : Nat) (w : World) (htl : ts.length ≤ 1000000) (htr : TrAt w.heap.size w a_t ts) (hv : ts.length = 7) : Calls Try.prog 51 #[.slice a_t ts.length c_t] w (Ret w (.bool (ts.all fun n => okN_ n.n))) := by
 refine enter 40 [(0, .slice a_t ts.length c_t)] Try.func51 rfl rfl kj rfl ?_
 refine wp_seq_k fun K1 hK1 => ?_
 refine Qab ?_
 refine Qaa (.bool false) 2 rfl kj kj ?_
 refine Qae ?_
 refine hK1 _ _ ?_
 refine wp_seq_k fun K2 hK2 => ?_
 refine Qab ?_
 refine Qaa (.slice a_t ts.length c_t) 5 rfl kj kj ?_
 refine Qaa (.int .i64 ((ts.length : Nat) : Int)) 6 rfl kj kj ?_
 refine Qaa (.int .i64 ((ts.length : Nat) : Int)) 3 rfl kj kj ?_
 refine Qae ?_
 refine hK2 _ _ ?_
 refine wp_seq_k fun K3 hK3 => ?_
 refine wp_seq_k fun K4 hK4 => ?_
 refine Qab ?_
 refine Qaa (.int .i64 ((ts.length : Nat) : Int)) 7 rfl kj kj ?_
 refine Qaa (.bool true) 8 rfl kj (Qar (u := .bool ((((ts.length : Nat) : Int) != 1))) kj (congrArg Value.bool (bne_iff_ne.2 (by omega)))) ?_
 refine Qaa (.bool true) 9 rfl kj kj ?_
 refine Qaa (.int .i64 ((ts.length : Nat) : Int)) 10 rfl kj kj ?_
 refine Qaa (.bool true) 11 rfl kj (Qar (u := .bool ((((ts.length : Nat) : Int) != 3))) kj (congrArg Value.bool (bne_iff_ne.2 (by omega)))) ?_
 refine Qaa (.bool true) 12 rfl kj kj ?_
 refine Qaa (.bool true) 13 rfl kj kj ?_
 refine Qaa (.int .i64 ((ts.length : Nat) : Int)) 14 rfl kj kj ?_
 refine Qaa (.bool false) 15 rfl kj (Qar (u := .bool ((((ts.length : Nat) : Int) != 7))) kj (congrArg Value.bool (bne_eq_false_iff_eq.2 (by omega)))) ?_
 refine Qaa (.bool false) 16 rfl kj kj ?_
 refine Qaa (.bool false) 17 rfl kj kj ?_
 refine Qag 18 rfl kj ?_
 refine Qag 19 rfl kj ?_
 refine Qaa (.bool false) 20 rfl kj kj ?_
 refine Qaa (.bool false) 21 rfl kj kj ?_
 refine Qag 22 rfl kj ?_
 refine Qag 23 rfl kj ?_
 refine Qaa (.bool false) 24 rfl kj kj ?_
 refine Qaa (.bool false) 25 rfl kj kj ?_
 refine Qag 26 rfl kj ?_
 refine Qag 27 rfl kj ?_
 refine Qaa (.bool false) 28 rfl kj kj ?_
 refine Qae ?_
 refine hK4 _ _ ?_
 refine cond_false kj ?_
 refine wp_skip ?_
 refine hK3 _ _ ?_
 refine wp_seq_k fun K5 hK5 => ?_
 refine wp_seq_k fun K6 hK6 => ?_
 refine Qab ?_
 refine Qaa (.int .i64 0) 4 rfl kj kj ?_
 refine Qae ?_
 refine hK6 _ _ ?_
 refine wp_block ?_
 refine QaB (fun (s1 : Nat) => [(0, .slice a_t ts.length c_t), (3, .int .i64 ((ts.length : Nat) : Int)), (4, .int .i64 ((s1 : Nat) : Int))]) (fun (s1 : Nat) W => (s1 ≤ ts.length) ∧ (((ts.take s1).all fun n => okN_ n.n) = true) ∧ (Ext w W) ∧ (Ext w W)) (fun (s1 : Nat) => ts.length - s1) 0 ⟨rfl, rfl, rfl, trivial⟩ ⟨(Nat.zero_le _), rfl, (Rely.Ext.refl w), (Rely.Ext.refl w)⟩ fun s1 X1 V1 hI1 => ?_
 obtain ⟨i, hs1⟩ : ∃ z, z = s1 := ⟨_, rfl⟩
 subst hs1
 obtain ⟨hi, hr, kk1, xx1⟩ := hI1
 replace hi : i ≤ ts.length := hi
 replace hr : ((ts.take i).all fun n => okN_ n.n) = true := hr
 replace kk1 : Ext w V1 := kk1
 replace xx1 : Ext w V1 := xx1
 have e1 := kk1
 refine wp_seq_k fun K7 hK7 => ?_
 refine wp_seq_k fun K8 hK8 => ?_
 refine Qab ?_
 refine Qaa (.int .i64 ((i : Nat) : Int)) 29 rfl kj kj ?_
 refine Qaa (.int .i64 ((ts.length : Nat) : Int)) 30 rfl kj kj ?_
 refine Qaa (.bool (decide (((i : Nat) : Int) < ((ts.length : Nat) : Int)))) 31 rfl kj kj ?_
 refine Qae ?_
 refine hK8 _ _ ?_
 refine Qaz (t := decide (((i : Nat) : Int) < ((ts.length : Nat) : Int))) kj (fun c9 => ?_) (fun c9 => ?_)
 ·skip
  have hlt31 : i < ts.length := by have := of_decide_eq_true c9; omega
  refine wp_skip ?_
  refine hK7 _ _ ?_
  refine wp_seq_k fun K10 hK10 => ?_
  refine wp_block ?_
  refine wp_seq_k fun K11 hK11 => ?_
  obtain ⟨_, _, -, hnds_⟩ := id htr
  have hrd_ := (hnds_ i (by omega)).rd
  have hok_ := (hnds_ i (by omega)).ok
  rcases (show okN_ (ndi ts i).n = false ∨ okN_ (ndi ts i).n = true by cases okN_ (ndi ts i).n <;> simp) with hgi | hgi
  ·skip
   have hV : (ts.all fun n => okN_ n.n) = false := QbR ts i hlt31 hgi
   refine Qab ?_
   refine Qaa (.slice a_t ts.length c_t) 34 rfl kj kj ?_
   refine Qaa (.int .i64 ((i : Nat) : Int)) 35 rfl kj kj ?_
   obtain ⟨gT, oT, hat, hnds⟩ := (TrAt.ext htr xx1)
   have hnd := hnds i (by omega)
   obtain ⟨_, _, -, hnds0⟩ := id htr
   have hrd0 := (hnds0 i (by omega)).rd
   obtain ⟨nd, hndi⟩ : ∃ z, z = ndi ts i := ⟨_, rfl⟩
   rw [← hndi] at hnd hrd0 hok_ hrd_ hgi; have hgd : Qbe nd.n.us nd.n.nm nd.n.key nd.n.sg nd.n.pa nd.n.ms = _ := hgi
   have hok := hnd.ok
   refine Qaa (.pointer (some ⟨gT, oT + i * 99, none⟩)) 36 rfl kj (QaE 23 _ _ .i64 i gT oT ts.length c_t 43 99 a_t (hat (by omega)) rfl kj kj kj kj (by omega)) ?_
   refine Qaa (.agg (cat [#[.bool nd.n.us], #[.int .i64 nd.n.nm], ints .u8 (nd.n.key), ints .u8 (nd.n.sg), ints .u8 (nd.n.pa), #[.slice nd.a nd.n.ms.length nd.c]])) 37 rfl kj (QaC 43 _ gT (oT + i * 99) nd hnd rfl kj kj kj) ?_
   refine Qax (.bool false) 96 #[.agg (cat [#[.bool nd.n.us], #[.int .i64 nd.n.nm], ints .u8 (nd.n.key), ints .u8 (nd.n.sg), ints .u8 (nd.n.pa), #[.slice nd.a nd.n.ms.length nd.c]])] 38 rfl kj kj (Qb3 nd.n.us nd.n.nm nd.n.key nd.n.sg nd.n.pa nd.n.ms _ _ _ hgd _ hok_.kl hok_.gl hok_.pl (RdK.here (RdK.ext hrd_ xx1))) fun W2 e2 => ?_
   have x2 : Ext w W2 := Ext.tr xx1 e2
   refine Qaa (.bool true) 39 rfl kj kj ?_
   refine Qae ?_
   refine hK11 _ _ ?_
   refine cond_true kj ?_
   refine wp_seq_k fun K12 hK12 => ?_
   refine Qab ?_
   refine Qaa (.bool false) 2 rfl kj kj ?_
   refine Qae ?_
   refine hK12 _ _ ?_
   refine wp_ret ?_
   repeat (first | with_reducible refine goR1 ?_ | with_reducible refine goR2 ?_)
   exact (show bodyPost _ _ _ .ret _ _ from ret1 (.bool false) rfl (Qaq kj) ⟨by rw [hV], x2⟩)
  ·skip
   refine Qab ?_
   refine Qaa (.slice a_t ts.length c_t) 34 rfl kj kj ?_
   refine Qaa (.int .i64 ((i : Nat) : Int)) 35 rfl kj kj ?_
   obtain ⟨gT, oT, hat, hnds⟩ := (TrAt.ext htr xx1)
   have hnd := hnds i (by omega)
   obtain ⟨_, _, -, hnds0⟩ := id htr
   have hrd0 := (hnds0 i (by omega)).rd
   obtain ⟨nd, hndi⟩ : ∃ z, z = ndi ts i := ⟨_, rfl⟩
   rw [← hndi] at hnd hrd0 hok_ hrd_ hgi; have hgd : Qbe nd.n.us nd.n.nm nd.n.key nd.n.sg nd.n.pa nd.n.ms = _ := hgi
   have hok := hnd.ok
   refine Qaa (.pointer (some ⟨gT, oT + i * 99, none⟩)) 36 rfl kj (QaE 23 _ _ .i64 i gT oT ts.length c_t 43 99 a_t (hat (by omega)) rfl kj kj kj kj (by omega)) ?_
   refine Qaa (.agg (cat [#[.bool nd.n.us], #[.int .i64 nd.n.nm], ints .u8 (nd.n.key), ints .u8 (nd.n.sg), ints .u8 (nd.n.pa), #[.slice nd.a nd.n.ms.length nd.c]])) 37 rfl kj (QaC 43 _ gT (oT + i * 99) nd hnd rfl kj kj kj) ?_
   refine Qax (.bool true) 96 #[.agg (cat [#[.bool nd.n.us], #[.int .i64 nd.n.nm], ints .u8 (nd.n.key), ints .u8 (nd.n.sg), ints .u8 (nd.n.pa), #[.slice nd.a nd.n.ms.length nd.c]])] 38 rfl kj kj (Qb3 nd.n.us nd.n.nm nd.n.key nd.n.sg nd.n.pa nd.n.ms _ _ _ hgd _ hok_.kl hok_.gl hok_.pl (RdK.here (RdK.ext hrd_ xx1))) fun W2 e2 => ?_
   have x2 : Ext w W2 := Ext.tr xx1 e2
   refine Qaa (.bool false) 39 rfl kj kj ?_
   refine Qae ?_
   refine hK11 _ _ ?_
   refine cond_false kj ?_
   refine wp_skip ?_
   refine hK10 _ _ ?_
   refine Qab ?_
   refine Qaa (.int .i64 ((i : Nat) : Int)) 32 rfl kj kj ?_
   refine Qaa (.int .i64 ((i + 1 : Nat) : Int)) 33 rfl kj (Qar (u := .int .i64 (IntKind.i64.wrap (((i : Nat) : Int) + 1))) kj (congrArg (Value.int .i64) (i64n _ _ (by omega) (by omega)))) ?_
   refine Qaa (.int .i64 ((i + 1 : Nat) : Int)) 4 rfl kj kj ?_
   refine Qae ?_
   have y0_2 : Ext w W2 := (Rely.Ext.trans e1 e2)
   repeat (first | with_reducible refine goX1 ?_ | with_reducible refine goX2 ?_ | with_reducible refine goX3 ?_)
   exact Qa9 (i + 1) ⟨rfl, rfl, rfl, trivial⟩ ⟨(by omega), (by rw [Qby ts i hlt31, List.all_append, hr, ← hndi]; simp only [List.all_cons, List.all_nil, hgi]; rfl), y0_2, x2⟩ (by omega)
 ·skip
  have heq31 : i = ts.length := by have := of_decide_eq_false c9; omega
  have hV : (ts.all fun n => okN_ n.n) = true := by rw [heq31, List.take_length] at hr; exact hr
  refine wp_exit ?_
  refine hK5 _ _ ?_
  refine wp_seq_k fun K13 hK13 => ?_
  refine Qab ?_
  refine Qaa (.bool true) 2 rfl kj kj ?_
  refine Qae ?_
  refine hK13 _ _ ?_
  refine wp_ret ?_
  repeat (first | with_reducible refine goR1 ?_ | with_reducible refine goR2 ?_)
  exact (show bodyPost _ _ _ .ret _ _ from ret1 (.bool true) rfl (Qaq kj) ⟨by rw [hV], xx1⟩)
set_option maxHeartbeats 4000000 in
theorem Qeh (ts : List NdV) (a_t : Option Addr) (c_t : Nat) (w : World) (htl : ts.length ≤ 1000000) (htr : TrAt w.heap.size w a_t ts) (hv : ts.length = 15) : Calls Try.prog 51 #[.slice a_t ts.length c_t] w (Ret w (.bool (ts.all fun n => okN_ n.n))) := by
 refine enter 40 [(0, .slice a_t ts.length c_t)] Try.func51 rfl rfl kj rfl ?_
 refine wp_seq_k fun K1 hK1 => ?_
 refine Qab ?_
 refine Qaa (.bool false) 2 rfl kj kj ?_
 refine Qae ?_
 refine hK1 _ _ ?_
 refine wp_seq_k fun K2 hK2 => ?_
 refine Qab ?_
 refine Qaa (.slice a_t ts.length c_t) 5 rfl kj kj ?_
 refine Qaa (.int .i64 ((ts.length : Nat) : Int)) 6 rfl kj kj ?_
 refine Qaa (.int .i64 ((ts.length : Nat) : Int)) 3 rfl kj kj ?_
 refine Qae ?_
 refine hK2 _ _ ?_
 refine wp_seq_k fun K3 hK3 => ?_
 refine wp_seq_k fun K4 hK4 => ?_
 refine Qab ?_
 refine Qaa (.int .i64 ((ts.length : Nat) : Int)) 7 rfl kj kj ?_
 refine Qaa (.bool true) 8 rfl kj (Qar (u := .bool ((((ts.length : Nat) : Int) != 1))) kj (congrArg Value.bool (bne_iff_ne.2 (by omega)))) ?_
 refine Qaa (.bool true) 9 rfl kj kj ?_
 refine Qaa (.int .i64 ((ts.length : Nat) : Int)) 10 rfl kj kj ?_
 refine Qaa (.bool true) 11 rfl kj (Qar (u := .bool ((((ts.length : Nat) : Int) != 3))) kj (congrArg Value.bool (bne_iff_ne.2 (by omega)))) ?_
 refine Qaa (.bool true) 12 rfl kj kj ?_
 refine Qaa (.bool true) 13 rfl kj kj ?_
 refine Qaa (.int .i64 ((ts.length : Nat) : Int)) 14 rfl kj kj ?_
 refine Qaa (.bool true) 15 rfl kj (Qar (u := .bool ((((ts.length : Nat) : Int) != 7))) kj (congrArg Value.bool (bne_iff_ne.2 (by omega)))) ?_
 refine Qaa (.bool true) 16 rfl kj kj ?_
 refine Qaa (.bool true) 17 rfl kj kj ?_
 refine Qaa (.int .i64 ((ts.length : Nat) : Int)) 18 rfl kj kj ?_
 refine Qaa (.bool false) 19 rfl kj (Qar (u := .bool ((((ts.length : Nat) : Int) != 15))) kj (congrArg Value.bool (bne_eq_false_iff_eq.2 (by omega)))) ?_
 refine Qaa (.bool false) 20 rfl kj kj ?_
 refine Qaa (.bool false) 21 rfl kj kj ?_
 refine Qag 22 rfl kj ?_
 refine Qag 23 rfl kj ?_
 refine Qaa (.bool false) 24 rfl kj kj ?_
 refine Qaa (.bool false) 25 rfl kj kj ?_
 refine Qag 26 rfl kj ?_
 refine Qag 27 rfl kj ?_
 refine Qaa (.bool false) 28 rfl kj kj ?_
 refine Qae ?_
 refine hK4 _ _ ?_
 refine cond_false kj ?_
 refine wp_skip ?_
 refine hK3 _ _ ?_
 refine wp_seq_k fun K5 hK5 => ?_
 refine wp_seq_k fun K6 hK6 => ?_
 refine Qab ?_
 refine Qaa (.int .i64 0) 4 rfl kj kj ?_
 refine Qae ?_
 refine hK6 _ _ ?_
 refine wp_block ?_
 refine QaB (fun (s1 : Nat) => [(0, .slice a_t ts.length c_t), (3, .int .i64 ((ts.length : Nat) : Int)), (4, .int .i64 ((s1 : Nat) : Int))]) (fun (s1 : Nat) W => (s1 ≤ ts.length) ∧ (((ts.take s1).all fun n => okN_ n.n) = true) ∧ (Ext w W) ∧ (Ext w W)) (fun (s1 : Nat) => ts.length - s1) 0 ⟨rfl, rfl, rfl, trivial⟩ ⟨(Nat.zero_le _), rfl, (Rely.Ext.refl w), (Rely.Ext.refl w)⟩ fun s1 X1 V1 hI1 => ?_
 obtain ⟨i, hs1⟩ : ∃ z, z = s1 := ⟨_, rfl⟩
 subst hs1
 obtain ⟨hi, hr, kk1, xx1⟩ := hI1
 replace hi : i ≤ ts.length := hi
 replace hr : ((ts.take i).all fun n => okN_ n.n) = true := hr
 replace kk1 : Ext w V1 := kk1
 replace xx1 : Ext w V1 := xx1
 have e1 := kk1
 refine wp_seq_k fun K7 hK7 => ?_
 refine wp_seq_k fun K8 hK8 => ?_
 refine Qab ?_
 refine Qaa (.int .i64 ((i : Nat) : Int)) 29 rfl kj kj ?_
 refine Qaa (.int .i64 ((ts.length : Nat) : Int)) 30 rfl kj kj ?_
 refine Qaa (.bool (decide (((i : Nat) : Int) < ((ts.length : Nat) : Int)))) 31 rfl kj kj ?_
 refine Qae ?_
 refine hK8 _ _ ?_
 refine Qaz (t := decide (((i : Nat) : Int) < ((ts.length : Nat) : Int))) kj (fun c9 => ?_) (fun c9 => ?_)
 ·skip
  have hlt31 : i < ts.length := by have := of_decide_eq_true c9; omega
  refine wp_skip ?_
  refine hK7 _ _ ?_
  refine wp_seq_k fun K10 hK10 => ?_
  refine wp_block ?_
  refine wp_seq_k fun K11 hK11 => ?_
  obtain ⟨_, _, -, hnds_⟩ := id htr
  have hrd_ := (hnds_ i (by omega)).rd
  have hok_ := (hnds_ i (by omega)).ok
  rcases (show okN_ (ndi ts i).n = false ∨ okN_ (ndi ts i).n = true by cases okN_ (ndi ts i).n <;> simp) with hgi | hgi
  ·skip
   have hV : (ts.all fun n => okN_ n.n) = false := QbR ts i hlt31 hgi
   refine Qab ?_
   refine Qaa (.slice a_t ts.length c_t) 34 rfl kj kj ?_
   refine Qaa (.int .i64 ((i : Nat) : Int)) 35 rfl kj kj ?_
   obtain ⟨gT, oT, hat, hnds⟩ := (TrAt.ext htr xx1)
   have hnd := hnds i (by omega)
   obtain ⟨_, _, -, hnds0⟩ := id htr
   have hrd0 := (hnds0 i (by omega)).rd
   obtain ⟨nd, hndi⟩ : ∃ z, z = ndi ts i := ⟨_, rfl⟩
   rw [← hndi] at hnd hrd0 hok_ hrd_ hgi; have hgd : Qbe nd.n.us nd.n.nm nd.n.key nd.n.sg nd.n.pa nd.n.ms = _ := hgi
   have hok := hnd.ok
   refine Qaa (.pointer (some ⟨gT, oT + i * 99, none⟩)) 36 rfl kj (QaE 23 _ _ .i64 i gT oT ts.length c_t 43 99 a_t (hat (by omega)) rfl kj kj kj kj (by omega)) ?_
   refine Qaa (.agg (cat [#[.bool nd.n.us], #[.int .i64 nd.n.nm], ints .u8 (nd.n.key), ints .u8 (nd.n.sg), ints .u8 (nd.n.pa), #[.slice nd.a nd.n.ms.length nd.c]])) 37 rfl kj (QaC 43 _ gT (oT + i * 99) nd hnd rfl kj kj kj) ?_
   refine Qax (.bool false) 96 #[.agg (cat [#[.bool nd.n.us], #[.int .i64 nd.n.nm], ints .u8 (nd.n.key), ints .u8 (nd.n.sg), ints .u8 (nd.n.pa), #[.slice nd.a nd.n.ms.length nd.c]])] 38 rfl kj kj (Qb3 nd.n.us nd.n.nm nd.n.key nd.n.sg nd.n.pa nd.n.ms _ _ _ hgd _ hok_.kl hok_.gl hok_.pl (RdK.here (RdK.ext hrd_ xx1))) fun W2 e2 => ?_
   have x2 : Ext w W2 := Ext.tr xx1 e2
   refine Qaa (.bool true) 39 rfl kj kj ?_
   refine Qae ?_
   refine hK11 _ _ ?_
   refine cond_true kj ?_
   refine wp_seq_k fun K12 hK12 => ?_
   refine Qab ?_
   refine Qaa (.bool false) 2 rfl kj kj ?_
   refine Qae ?_
   refine hK12 _ _ ?_
   refine wp_ret ?_
   repeat (first | with_reducible refine goR1 ?_ | with_reducible refine goR2 ?_)
   exact (show bodyPost _ _ _ .ret _ _ from ret1 (.bool false) rfl (Qaq kj) ⟨by rw [hV], x2⟩)
  ·skip
   refine Qab ?_
   refine Qaa (.slice a_t ts.length c_t) 34 rfl kj kj ?_
   refine Qaa (.int .i64 ((i : Nat) : Int)) 35 rfl kj kj ?_
   obtain ⟨gT, oT, hat, hnds⟩ := (TrAt.ext htr xx1)
   have hnd := hnds i (by omega)
   obtain ⟨_, _, -, hnds0⟩ := id htr
   have hrd0 := (hnds0 i (by omega)).rd
   obtain ⟨nd, hndi⟩ : ∃ z, z = ndi ts i := ⟨_, rfl⟩
   rw [← hndi] at hnd hrd0 hok_ hrd_ hgi; have hgd : Qbe nd.n.us nd.n.nm nd.n.key nd.n.sg nd.n.pa nd.n.ms = _ := hgi
   have hok := hnd.ok
   refine Qaa (.pointer (some ⟨gT, oT + i * 99, none⟩)) 36 rfl kj (QaE 23 _ _ .i64 i gT oT ts.length c_t 43 99 a_t (hat (by omega)) rfl kj kj kj kj (by omega)) ?_
   refine Qaa (.agg (cat [#[.bool nd.n.us], #[.int .i64 nd.n.nm], ints .u8 (nd.n.key), ints .u8 (nd.n.sg), ints .u8 (nd.n.pa), #[.slice nd.a nd.n.ms.length nd.c]])) 37 rfl kj (QaC 43 _ gT (oT + i * 99) nd hnd rfl kj kj kj) ?_
   refine Qax (.bool true) 96 #[.agg (cat [#[.bool nd.n.us], #[.int .i64 nd.n.nm], ints .u8 (nd.n.key), ints .u8 (nd.n.sg), ints .u8 (nd.n.pa), #[.slice nd.a nd.n.ms.length nd.c]])] 38 rfl kj kj (Qb3 nd.n.us nd.n.nm nd.n.key nd.n.sg nd.n.pa nd.n.ms _ _ _ hgd _ hok_.kl hok_.gl hok_.pl (RdK.here (RdK.ext hrd_ xx1))) fun W2 e2 => ?_
   have x2 : Ext w W2 := Ext.tr xx1 e2
   refine Qaa (.bool false) 39 rfl kj kj ?_
   refine Qae ?_
   refine hK11 _ _ ?_
   refine cond_false kj ?_
   refine wp_skip ?_
   refine hK10 _ _ ?_
   refine Qab ?_
   refine Qaa (.int .i64 ((i : Nat) : Int)) 32 rfl kj kj ?_
   refine Qaa (.int .i64 ((i + 1 : Nat) : Int)) 33 rfl kj (Qar (u := .int .i64 (IntKind.i64.wrap (((i : Nat) : Int) + 1))) kj (congrArg (Value.int .i64) (i64n _ _ (by omega) (by omega)))) ?_
   refine Qaa (.int .i64 ((i + 1 : Nat) : Int)) 4 rfl kj kj ?_
   refine Qae ?_
   have y0_2 : Ext w W2 := (Rely.Ext.trans e1 e2)
   repeat (first | with_reducible refine goX1 ?_ | with_reducible refine goX2 ?_ | with_reducible refine goX3 ?_)
   exact Qa9 (i + 1) ⟨rfl, rfl, rfl, trivial⟩ ⟨(by omega), (by rw [Qby ts i hlt31, List.all_append, hr, ← hndi]; simp only [List.all_cons, List.all_nil, hgi]; rfl), y0_2, x2⟩ (by omega)
 ·skip
  have heq31 : i = ts.length := by have := of_decide_eq_false c9; omega
  have hV : (ts.all fun n => okN_ n.n) = true := by rw [heq31, List.take_length] at hr; exact hr
  refine wp_exit ?_
  refine hK5 _ _ ?_
  refine wp_seq_k fun K13 hK13 => ?_
  refine Qab ?_
  refine Qaa (.bool true) 2 rfl kj kj ?_
  refine Qae ?_
  refine hK13 _ _ ?_
  refine wp_ret ?_
  repeat (first | with_reducible refine goR1 ?_ | with_reducible refine goR2 ?_)
  exact (show bodyPost _ _ _ .ret _ _ from ret1 (.bool true) rfl (Qaq kj) ⟨by rw [hV], xx1⟩)
set_option maxHeartbeats 4000000 in
theorem Qeg (ts : List NdV) (a_t : Option Addr) (c_t : Nat) (w : World) (htl : ts.length ≤ 1000000) (htr : TrAt w.heap.size w a_t ts) (hv : ts.length = 31) : Calls Try.prog 51 #[.slice a_t ts.length c_t] w (Ret w (.bool (ts.all fun n => okN_ n.n))) := by
 refine enter 40 [(0, .slice a_t ts.length c_t)] Try.func51 rfl rfl kj rfl ?_
 refine wp_seq_k fun K1 hK1 => ?_
 refine Qab ?_
 refine Qaa (.bool false) 2 rfl kj kj ?_
 refine Qae ?_
 refine hK1 _ _ ?_
 refine wp_seq_k fun K2 hK2 => ?_
 refine Qab ?_
 refine Qaa (.slice a_t ts.length c_t) 5 rfl kj kj ?_
 refine Qaa (.int .i64 ((ts.length : Nat) : Int)) 6 rfl kj kj ?_
 refine Qaa (.int .i64 ((ts.length : Nat) : Int)) 3 rfl kj kj ?_
 refine Qae ?_
 refine hK2 _ _ ?_
 refine wp_seq_k fun K3 hK3 => ?_
 refine wp_seq_k fun K4 hK4 => ?_
 refine Qab ?_
 refine Qaa (.int .i64 ((ts.length : Nat) : Int)) 7 rfl kj kj ?_
 refine Qaa (.bool true) 8 rfl kj (Qar (u := .bool ((((ts.length : Nat) : Int) != 1))) kj (congrArg Value.bool (bne_iff_ne.2 (by omega)))) ?_
 refine Qaa (.bool true) 9 rfl kj kj ?_
 refine Qaa (.int .i64 ((ts.length : Nat) : Int)) 10 rfl kj kj ?_
 refine Qaa (.bool true) 11 rfl kj (Qar (u := .bool ((((ts.length : Nat) : Int) != 3))) kj (congrArg Value.bool (bne_iff_ne.2 (by omega)))) ?_
 refine Qaa (.bool true) 12 rfl kj kj ?_
 refine Qaa (.bool true) 13 rfl kj kj ?_
 refine Qaa (.int .i64 ((ts.length : Nat) : Int)) 14 rfl kj kj ?_
 refine Qaa (.bool true) 15 rfl kj (Qar (u := .bool ((((ts.length : Nat) : Int) != 7))) kj (congrArg Value.bool (bne_iff_ne.2 (by omega)))) ?_
 refine Qaa (.bool true) 16 rfl kj kj ?_
 refine Qaa (.bool true) 17 rfl kj kj ?_
 refine Qaa (.int .i64 ((ts.length : Nat) : Int)) 18 rfl kj kj ?_
 refine Qaa (.bool true) 19 rfl kj (Qar (u := .bool ((((ts.length : Nat) : Int) != 15))) kj (congrArg Value.bool (bne_iff_ne.2 (by omega)))) ?_
 refine Qaa (.bool true) 20 rfl kj kj ?_
 refine Qaa (.bool true) 21 rfl kj kj ?_
 refine Qaa (.int .i64 ((ts.length : Nat) : Int)) 22 rfl kj kj ?_
 refine Qaa (.bool false) 23 rfl kj (Qar (u := .bool ((((ts.length : Nat) : Int) != 31))) kj (congrArg Value.bool (bne_eq_false_iff_eq.2 (by omega)))) ?_
 refine Qaa (.bool false) 24 rfl kj kj ?_
 refine Qaa (.bool false) 25 rfl kj kj ?_
 refine Qag 26 rfl kj ?_
 refine Qag 27 rfl kj ?_
 refine Qaa (.bool false) 28 rfl kj kj ?_
 refine Qae ?_
 refine hK4 _ _ ?_
 refine cond_false kj ?_
 refine wp_skip ?_
 refine hK3 _ _ ?_
 refine wp_seq_k fun K5 hK5 => ?_
 refine wp_seq_k fun K6 hK6 => ?_
 refine Qab ?_
 refine Qaa (.int .i64 0) 4 rfl kj kj ?_
 refine Qae ?_
 refine hK6 _ _ ?_
 refine wp_block ?_
 refine QaB (fun (s1 : Nat) => [(0, .slice a_t ts.length c_t), (3, .int .i64 ((ts.length : Nat) : Int)), (4, .int .i64 ((s1 : Nat) : Int))]) (fun (s1 : Nat) W => (s1 ≤ ts.length) ∧ (((ts.take s1).all fun n => okN_ n.n) = true) ∧ (Ext w W) ∧ (Ext w W)) (fun (s1 : Nat) => ts.length - s1) 0 ⟨rfl, rfl, rfl, trivial⟩ ⟨(Nat.zero_le _), rfl, (Rely.Ext.refl w), (Rely.Ext.refl w)⟩ fun s1 X1 V1 hI1 => ?_
 obtain ⟨i, hs1⟩ : ∃ z, z = s1 := ⟨_, rfl⟩
 subst hs1
 obtain ⟨hi, hr, kk1, xx1⟩ := hI1
 replace hi : i ≤ ts.length := hi
 replace hr : ((ts.take i).all fun n => okN_ n.n) = true := hr
 replace kk1 : Ext w V1 := kk1
 replace xx1 : Ext w V1 := xx1
 have e1 := kk1
 refine wp_seq_k fun K7 hK7 => ?_
 refine wp_seq_k fun K8 hK8 => ?_
 refine Qab ?_
 refine Qaa (.int .i64 ((i : Nat) : Int)) 29 rfl kj kj ?_
 refine Qaa (.int .i64 ((ts.length : Nat) : Int)) 30 rfl kj kj ?_
 refine Qaa (.bool (decide (((i : Nat) : Int) < ((ts.length : Nat) : Int)))) 31 rfl kj kj ?_
 refine Qae ?_
 refine hK8 _ _ ?_
 refine Qaz (t := decide (((i : Nat) : Int) < ((ts.length : Nat) : Int))) kj (fun c9 => ?_) (fun c9 => ?_)
 ·skip
  have hlt31 : i < ts.length := by have := of_decide_eq_true c9; omega
  refine wp_skip ?_
  refine hK7 _ _ ?_
  refine wp_seq_k fun K10 hK10 => ?_
  refine wp_block ?_
  refine wp_seq_k fun K11 hK11 => ?_
  obtain ⟨_, _, -, hnds_⟩ := id htr
  have hrd_ := (hnds_ i (by omega)).rd
  have hok_ := (hnds_ i (by omega)).ok
  rcases (show okN_ (ndi ts i).n = false ∨ okN_ (ndi ts i).n = true by cases okN_ (ndi ts i).n <;> simp) with hgi | hgi
  ·skip
   have hV : (ts.all fun n => okN_ n.n) = false := QbR ts i hlt31 hgi
   refine Qab ?_
   refine Qaa (.slice a_t ts.length c_t) 34 rfl kj kj ?_
   refine Qaa (.int .i64 ((i : Nat) : Int)) 35 rfl kj kj ?_
   obtain ⟨gT, oT, hat, hnds⟩ := (TrAt.ext htr xx1)
   have hnd := hnds i (by omega)
   obtain ⟨_, _, -, hnds0⟩ := id htr
   have hrd0 := (hnds0 i (by omega)).rd
   obtain ⟨nd, hndi⟩ : ∃ z, z = ndi ts i := ⟨_, rfl⟩
   rw [← hndi] at hnd hrd0 hok_ hrd_ hgi; have hgd : Qbe nd.n.us nd.n.nm nd.n.key nd.n.sg nd.n.pa nd.n.ms = _ := hgi
   have hok := hnd.ok
   refine Qaa (.pointer (some ⟨gT, oT + i * 99, none⟩)) 36 rfl kj (QaE 23 _ _ .i64 i gT oT ts.length c_t 43 99 a_t (hat (by omega)) rfl kj kj kj kj (by omega)) ?_
   refine Qaa (.agg (cat [#[.bool nd.n.us], #[.int .i64 nd.n.nm], ints .u8 (nd.n.key), ints .u8 (nd.n.sg), ints .u8 (nd.n.pa), #[.slice nd.a nd.n.ms.length nd.c]])) 37 rfl kj (QaC 43 _ gT (oT + i * 99) nd hnd rfl kj kj kj) ?_
   refine Qax (.bool false) 96 #[.agg (cat [#[.bool nd.n.us], #[.int .i64 nd.n.nm], ints .u8 (nd.n.key), ints .u8 (nd.n.sg), ints .u8 (nd.n.pa), #[.slice nd.a nd.n.ms.length nd.c]])] 38 rfl kj kj (Qb3 nd.n.us nd.n.nm nd.n.key nd.n.sg nd.n.pa nd.n.ms _ _ _ hgd _ hok_.kl hok_.gl hok_.pl (RdK.here (RdK.ext hrd_ xx1))) fun W2 e2 => ?_
   have x2 : Ext w W2 := Ext.tr xx1 e2
   refine Qaa (.bool true) 39 rfl kj kj ?_
   refine Qae ?_
   refine hK11 _ _ ?_
   refine cond_true kj ?_
   refine wp_seq_k fun K12 hK12 => ?_
   refine Qab ?_
   refine Qaa (.bool false) 2 rfl kj kj ?_
   refine Qae ?_
   refine hK12 _ _ ?_
   refine wp_ret ?_
   repeat (first | with_reducible refine goR1 ?_ | with_reducible refine goR2 ?_)
   exact (show bodyPost _ _ _ .ret _ _ from ret1 (.bool false) rfl (Qaq kj) ⟨by rw [hV], x2⟩)
  ·skip
   refine Qab ?_
   refine Qaa (.slice a_t ts.length c_t) 34 rfl kj kj ?_
   refine Qaa (.int .i64 ((i : Nat) : Int)) 35 rfl kj kj ?_
   obtain ⟨gT, oT, hat, hnds⟩ := (TrAt.ext htr xx1)
   have hnd := hnds i (by omega)
   obtain ⟨_, _, -, hnds0⟩ := id htr
   have hrd0 := (hnds0 i (by omega)).rd
   obtain ⟨nd, hndi⟩ : ∃ z, z = ndi ts i := ⟨_, rfl⟩
   rw [← hndi] at hnd hrd0 hok_ hrd_ hgi; have hgd : Qbe nd.n.us nd.n.nm nd.n.key nd.n.sg nd.n.pa nd.n.ms = _ := hgi
   have hok := hnd.ok
   refine Qaa (.pointer (some ⟨gT, oT + i * 99, none⟩)) 36 rfl kj (QaE 23 _ _ .i64 i gT oT ts.length c_t 43 99 a_t (hat (by omega)) rfl kj kj kj kj (by omega)) ?_
   refine Qaa (.agg (cat [#[.bool nd.n.us], #[.int .i64 nd.n.nm], ints .u8 (nd.n.key), ints .u8 (nd.n.sg), ints .u8 (nd.n.pa), #[.slice nd.a nd.n.ms.length nd.c]])) 37 rfl kj (QaC 43 _ gT (oT + i * 99) nd hnd rfl kj kj kj) ?_
   refine Qax (.bool true) 96 #[.agg (cat [#[.bool nd.n.us], #[.int .i64 nd.n.nm], ints .u8 (nd.n.key), ints .u8 (nd.n.sg), ints .u8 (nd.n.pa), #[.slice nd.a nd.n.ms.length nd.c]])] 38 rfl kj kj (Qb3 nd.n.us nd.n.nm nd.n.key nd.n.sg nd.n.pa nd.n.ms _ _ _ hgd _ hok_.kl hok_.gl hok_.pl (RdK.here (RdK.ext hrd_ xx1))) fun W2 e2 => ?_
   have x2 : Ext w W2 := Ext.tr xx1 e2
   refine Qaa (.bool false) 39 rfl kj kj ?_
   refine Qae ?_
   refine hK11 _ _ ?_
   refine cond_false kj ?_
   refine wp_skip ?_
   refine hK10 _ _ ?_
   refine Qab ?_
   refine Qaa (.int .i64 ((i : Nat) : Int)) 32 rfl kj kj ?_
   refine Qaa (.int .i64 ((i + 1 : Nat) : Int)) 33 rfl kj (Qar (u := .int .i64 (IntKind.i64.wrap (((i : Nat) : Int) + 1))) kj (congrArg (Value.int .i64) (i64n _ _ (by omega) (by omega)))) ?_
   refine Qaa (.int .i64 ((i + 1 : Nat) : Int)) 4 rfl kj kj ?_
   refine Qae ?_
   have y0_2 : Ext w W2 := (Rely.Ext.trans e1 e2)
   repeat (first | with_reducible refine goX1 ?_ | with_reducible refine goX2 ?_ | with_reducible refine goX3 ?_)
   exact Qa9 (i + 1) ⟨rfl, rfl, rfl, trivial⟩ ⟨(by omega), (by rw [Qby ts i hlt31, List.all_append, hr, ← hndi]; simp only [List.all_cons, List.all_nil, hgi]; rfl), y0_2, x2⟩ (by omega)
 ·skip
  have heq31 : i = ts.length := by have := of_decide_eq_false c9; omega
  have hV : (ts.all fun n => okN_ n.n) = true := by rw [heq31, List.take_length] at hr; exact hr
  refine wp_exit ?_
  refine hK5 _ _ ?_
  refine wp_seq_k fun K13 hK13 => ?_
  refine Qab ?_
  refine Qaa (.bool true) 2 rfl kj kj ?_
  refine Qae ?_
  refine hK13 _ _ ?_
  refine wp_ret ?_
  repeat (first | with_reducible refine goR1 ?_ | with_reducible refine goR2 ?_)
  exact (show bodyPost _ _ _ .ret _ _ from ret1 (.bool true) rfl (Qaq kj) ⟨by rw [hV], xx1⟩)
set_option maxHeartbeats 4000000 in
theorem Qef (ts : List NdV) (a_t : Option Addr) (c_t : Nat) (w : World) (htl : ts.length ≤ 1000000) (htr : TrAt w.heap.size w a_t ts) (hv : ts.length = 63) : Calls Try.prog 51 #[.slice a_t ts.length c_t] w (Ret w (.bool (ts.all fun n => okN_ n.n))) := by
 refine enter 40 [(0, .slice a_t ts.length c_t)] Try.func51 rfl rfl kj rfl ?_
 refine wp_seq_k fun K1 hK1 => ?_
 refine Qab ?_
 refine Qaa (.bool false) 2 rfl kj kj ?_
 refine Qae ?_
 refine hK1 _ _ ?_
 refine wp_seq_k fun K2 hK2 => ?_
 refine Qab ?_
 refine Qaa (.slice a_t ts.length c_t) 5 rfl kj kj ?_
 refine Qaa (.int .i64 ((ts.length : Nat) : Int)) 6 rfl kj kj ?_
 refine Qaa (.int .i64 ((ts.length : Nat) : Int)) 3 rfl kj kj ?_
 refine Qae ?_
 refine hK2 _ _ ?_
 refine wp_seq_k fun K3 hK3 => ?_
 refine wp_seq_k fun K4 hK4 => ?_
 refine Qab ?_
 refine Qaa (.int .i64 ((ts.length : Nat) : Int)) 7 rfl kj kj ?_
 refine Qaa (.bool true) 8 rfl kj (Qar (u := .bool ((((ts.length : Nat) : Int) != 1))) kj (congrArg Value.bool (bne_iff_ne.2 (by omega)))) ?_
 refine Qaa (.bool true) 9 rfl kj kj ?_
 refine Qaa (.int .i64 ((ts.length : Nat) : Int)) 10 rfl kj kj ?_
 refine Qaa (.bool true) 11 rfl kj (Qar (u := .bool ((((ts.length : Nat) : Int) != 3))) kj (congrArg Value.bool (bne_iff_ne.2 (by omega)))) ?_
 refine Qaa (.bool true) 12 rfl kj kj ?_
 refine Qaa (.bool true) 13 rfl kj kj ?_
 refine Qaa (.int .i64 ((ts.length : Nat) : Int)) 14 rfl kj kj ?_
 refine Qaa (.bool true) 15 rfl kj (Qar (u := .bool ((((ts.length : Nat) : Int) != 7))) kj (congrArg Value.bool (bne_iff_ne.2 (by omega)))) ?_
 refine Qaa (.bool true) 16 rfl kj kj ?_
 refine Qaa (.bool true) 17 rfl kj kj ?_
 refine Qaa (.int .i64 ((ts.length : Nat) : Int)) 18 rfl kj kj ?_
 refine Qaa (.bool true) 19 rfl kj (Qar (u := .bool ((((ts.length : Nat) : Int) != 15))) kj (congrArg Value.bool (bne_iff_ne.2 (by omega)))) ?_
 refine Qaa (.bool true) 20 rfl kj kj ?_
 refine Qaa (.bool true) 21 rfl kj kj ?_
 refine Qaa (.int .i64 ((ts.length : Nat) : Int)) 22 rfl kj kj ?_
 refine Qaa (.bool true) 23 rfl kj (Qar (u := .bool ((((ts.length : Nat) : Int) != 31))) kj (congrArg Value.bool (bne_iff_ne.2 (by omega)))) ?_
 refine Qaa (.bool true) 24 rfl kj kj ?_
 refine Qaa (.bool true) 25 rfl kj kj ?_
 refine Qaa (.int .i64 ((ts.length : Nat) : Int)) 26 rfl kj kj ?_
 refine Qaa (.bool false) 27 rfl kj (Qar (u := .bool ((((ts.length : Nat) : Int) != 63))) kj (congrArg Value.bool (bne_eq_false_iff_eq.2 (by omega)))) ?_
 refine Qaa (.bool false) 28 rfl kj kj ?_
 refine Qae ?_
 refine hK4 _ _ ?_
 refine cond_false kj ?_
 refine wp_skip ?_
 refine hK3 _ _ ?_
 refine wp_seq_k fun K5 hK5 => ?_
 refine wp_seq_k fun K6 hK6 => ?_
 refine Qab ?_
 refine Qaa (.int .i64 0) 4 rfl kj kj ?_
 refine Qae ?_
 refine hK6 _ _ ?_
 refine wp_block ?_
 refine QaB (fun (s1 : Nat) => [(0, .slice a_t ts.length c_t), (3, .int .i64 ((ts.length : Nat) : Int)), (4, .int .i64 ((s1 : Nat) : Int))]) (fun (s1 : Nat) W => (s1 ≤ ts.length) ∧ (((ts.take s1).all fun n => okN_ n.n) = true) ∧ (Ext w W) ∧ (Ext w W)) (fun (s1 : Nat) => ts.length - s1) 0 ⟨rfl, rfl, rfl, trivial⟩ ⟨(Nat.zero_le _), rfl, (Rely.Ext.refl w), (Rely.Ext.refl w)⟩ fun s1 X1 V1 hI1 => ?_
 obtain ⟨i, hs1⟩ : ∃ z, z = s1 := ⟨_, rfl⟩
 subst hs1
 obtain ⟨hi, hr, kk1, xx1⟩ := hI1
 replace hi : i ≤ ts.length := hi
 replace hr : ((ts.take i).all fun n => okN_ n.n) = true := hr
 replace kk1 : Ext w V1 := kk1
 replace xx1 : Ext w V1 := xx1
 have e1 := kk1
 refine wp_seq_k fun K7 hK7 => ?_
 refine wp_seq_k fun K8 hK8 => ?_
 refine Qab ?_
 refine Qaa (.int .i64 ((i : Nat) : Int)) 29 rfl kj kj ?_
 refine Qaa (.int .i64 ((ts.length : Nat) : Int)) 30 rfl kj kj ?_
 refine Qaa (.bool (decide (((i : Nat) : Int) < ((ts.length : Nat) : Int)))) 31 rfl kj kj ?_
 refine Qae ?_
 refine hK8 _ _ ?_
 refine Qaz (t := decide (((i : Nat) : Int) < ((ts.length : Nat) : Int))) kj (fun c9 => ?_) (fun c9 => ?_)
 ·skip
  have hlt31 : i < ts.length := by have := of_decide_eq_true c9; omega
  refine wp_skip ?_
  refine hK7 _ _ ?_
  refine wp_seq_k fun K10 hK10 => ?_
  refine wp_block ?_
  refine wp_seq_k fun K11 hK11 => ?_
  obtain ⟨_, _, -, hnds_⟩ := id htr
  have hrd_ := (hnds_ i (by omega)).rd
  have hok_ := (hnds_ i (by omega)).ok
  rcases (show okN_ (ndi ts i).n = false ∨ okN_ (ndi ts i).n = true by cases okN_ (ndi ts i).n <;> simp) with hgi | hgi
  ·skip
   have hV : (ts.all fun n => okN_ n.n) = false := QbR ts i hlt31 hgi
   refine Qab ?_
   refine Qaa (.slice a_t ts.length c_t) 34 rfl kj kj ?_
   refine Qaa (.int .i64 ((i : Nat) : Int)) 35 rfl kj kj ?_
   obtain ⟨gT, oT, hat, hnds⟩ := (TrAt.ext htr xx1)
   have hnd := hnds i (by omega)
   obtain ⟨_, _, -, hnds0⟩ := id htr
   have hrd0 := (hnds0 i (by omega)).rd
   obtain ⟨nd, hndi⟩ : ∃ z, z = ndi ts i := ⟨_, rfl⟩
   rw [← hndi] at hnd hrd0 hok_ hrd_ hgi; have hgd : Qbe nd.n.us nd.n.nm nd.n.key nd.n.sg nd.n.pa nd.n.ms = _ := hgi
   have hok := hnd.ok
   refine Qaa (.pointer (some ⟨gT, oT + i * 99, none⟩)) 36 rfl kj (QaE 23 _ _ .i64 i gT oT ts.length c_t 43 99 a_t (hat (by omega)) rfl kj kj kj kj (by omega)) ?_
   refine Qaa (.agg (cat [#[.bool nd.n.us], #[.int .i64 nd.n.nm], ints .u8 (nd.n.key), ints .u8 (nd.n.sg), ints .u8 (nd.n.pa), #[.slice nd.a nd.n.ms.length nd.c]])) 37 rfl kj (QaC 43 _ gT (oT + i * 99) nd hnd rfl kj kj kj) ?_
   refine Qax (.bool false) 96 #[.agg (cat [#[.bool nd.n.us], #[.int .i64 nd.n.nm], ints .u8 (nd.n.key), ints .u8 (nd.n.sg), ints .u8 (nd.n.pa), #[.slice nd.a nd.n.ms.length nd.c]])] 38 rfl kj kj (Qb3 nd.n.us nd.n.nm nd.n.key nd.n.sg nd.n.pa nd.n.ms _ _ _ hgd _ hok_.kl hok_.gl hok_.pl (RdK.here (RdK.ext hrd_ xx1))) fun W2 e2 => ?_
   have x2 : Ext w W2 := Ext.tr xx1 e2
   refine Qaa (.bool true) 39 rfl kj kj ?_
   refine Qae ?_
   refine hK11 _ _ ?_
   refine cond_true kj ?_
   refine wp_seq_k fun K12 hK12 => ?_
   refine Qab ?_
   refine Qaa (.bool false) 2 rfl kj kj ?_
   refine Qae ?_
   refine hK12 _ _ ?_
   refine wp_ret ?_
   repeat (first | with_reducible refine goR1 ?_ | with_reducible refine goR2 ?_)
   exact (show bodyPost _ _ _ .ret _ _ from ret1 (.bool false) rfl (Qaq kj) ⟨by rw [hV], x2⟩)
  ·skip
   refine Qab ?_
   refine Qaa (.slice a_t ts.length c_t) 34 rfl kj kj ?_
   refine Qaa (.int .i64 ((i : Nat) : Int)) 35 rfl kj kj ?_
   obtain ⟨gT, oT, hat, hnds⟩ := (TrAt.ext htr xx1)
   have hnd := hnds i (by omega)
   obtain ⟨_, _, -, hnds0⟩ := id htr
   have hrd0 := (hnds0 i (by omega)).rd
   obtain ⟨nd, hndi⟩ : ∃ z, z = ndi ts i := ⟨_, rfl⟩
   rw [← hndi] at hnd hrd0 hok_ hrd_ hgi; have hgd : Qbe nd.n.us nd.n.nm nd.n.key nd.n.sg nd.n.pa nd.n.ms = _ := hgi
   have hok := hnd.ok
   refine Qaa (.pointer (some ⟨gT, oT + i * 99, none⟩)) 36 rfl kj (QaE 23 _ _ .i64 i gT oT ts.length c_t 43 99 a_t (hat (by omega)) rfl kj kj kj kj (by omega)) ?_
   refine Qaa (.agg (cat [#[.bool nd.n.us], #[.int .i64 nd.n.nm], ints .u8 (nd.n.key), ints .u8 (nd.n.sg), ints .u8 (nd.n.pa), #[.slice nd.a nd.n.ms.length nd.c]])) 37 rfl kj (QaC 43 _ gT (oT + i * 99) nd hnd rfl kj kj kj) ?_
   refine Qax (.bool true) 96 #[.agg (cat [#[.bool nd.n.us], #[.int .i64 nd.n.nm], ints .u8 (nd.n.key), ints .u8 (nd.n.sg), ints .u8 (nd.n.pa), #[.slice nd.a nd.n.ms.length nd.c]])] 38 rfl kj kj (Qb3 nd.n.us nd.n.nm nd.n.key nd.n.sg nd.n.pa nd.n.ms _ _ _ hgd _ hok_.kl hok_.gl hok_.pl (RdK.here (RdK.ext hrd_ xx1))) fun W2 e2 => ?_
   have x2 : Ext w W2 := Ext.tr xx1 e2
   refine Qaa (.bool false) 39 rfl kj kj ?_
   refine Qae ?_
   refine hK11 _ _ ?_
   refine cond_false kj ?_
   refine wp_skip ?_
   refine hK10 _ _ ?_
   refine Qab ?_
   refine Qaa (.int .i64 ((i : Nat) : Int)) 32 rfl kj kj ?_
   refine Qaa (.int .i64 ((i + 1 : Nat) : Int)) 33 rfl kj (Qar (u := .int .i64 (IntKind.i64.wrap (((i : Nat) : Int) + 1))) kj (congrArg (Value.int .i64) (i64n _ _ (by omega) (by omega)))) ?_
   refine Qaa (.int .i64 ((i + 1 : Nat) : Int)) 4 rfl kj kj ?_
   refine Qae ?_
   have y0_2 : Ext w W2 := (Rely.Ext.trans e1 e2)
   repeat (first | with_reducible refine goX1 ?_ | with_reducible refine goX2 ?_ | with_reducible refine goX3 ?_)
   exact Qa9 (i + 1) ⟨rfl, rfl, rfl, trivial⟩ ⟨(by omega), (by rw [Qby ts i hlt31, List.all_append, hr, ← hndi]; simp only [List.all_cons, List.all_nil, hgi]; rfl), y0_2, x2⟩ (by omega)
 ·skip
  have heq31 : i = ts.length := by have := of_decide_eq_false c9; omega
  have hV : (ts.all fun n => okN_ n.n) = true := by rw [heq31, List.take_length] at hr; exact hr
  refine wp_exit ?_
  refine hK5 _ _ ?_
  refine wp_seq_k fun K13 hK13 => ?_
  refine Qab ?_
  refine Qaa (.bool true) 2 rfl kj kj ?_
  refine Qae ?_
  refine hK13 _ _ ?_
  refine wp_ret ?_
  repeat (first | with_reducible refine goR1 ?_ | with_reducible refine goR2 ?_)
  exact (show bodyPost _ _ _ .ret _ _ from ret1 (.bool true) rfl (Qaq kj) ⟨by rw [hV], xx1⟩)
set_option maxHeartbeats 4000000 in
theorem Qe9 (ts : List NdV) (a_t : Option Addr) (c_t : Nat) (w : World) (htl : ts.length ≤ 1000000) (htr : TrAt w.heap.size w a_t ts) (h1 : ts.length ≠ 1) (h3 : ts.length ≠ 3) (h7 : ts.length ≠ 7) (h15 : ts.length ≠ 15) (h31 : ts.length ≠ 31) (h63 : ts.length ≠ 63) : Calls Try.prog 51 #[.slice a_t ts.length c_t] w (Ret w (.bool false)) := by
  refine enter 40 [(0, .slice a_t ts.length c_t)] Try.func51 rfl rfl kj rfl ?_
  refine wp_seq_k fun K1 hK1 => ?_
  refine Qab ?_
  refine Qaa (.bool false) 2 rfl kj kj ?_
  refine Qae ?_
  refine hK1 _ _ ?_
  refine wp_seq_k fun K2 hK2 => ?_
  refine Qab ?_
  refine Qaa (.slice a_t ts.length c_t) 5 rfl kj kj ?_
  refine Qaa (.int .i64 ((ts.length : Nat) : Int)) 6 rfl kj kj ?_
  refine Qaa (.int .i64 ((ts.length : Nat) : Int)) 3 rfl kj kj ?_
  refine Qae ?_
  refine hK2 _ _ ?_
  refine wp_seq_k fun K3 hK3 => ?_
  refine wp_seq_k fun K4 hK4 => ?_
  refine Qab ?_
  refine Qaa (.int .i64 ((ts.length : Nat) : Int)) 7 rfl kj kj ?_
  refine Qaa (.bool true) 8 rfl kj (Qar (u := .bool ((((ts.length : Nat) : Int) != 1))) kj (congrArg Value.bool (bne_iff_ne.2 (by omega)))) ?_
  refine Qaa (.bool true) 9 rfl kj kj ?_
  refine Qaa (.int .i64 ((ts.length : Nat) : Int)) 10 rfl kj kj ?_
  refine Qaa (.bool true) 11 rfl kj (Qar (u := .bool ((((ts.length : Nat) : Int) != 3))) kj (congrArg Value.bool (bne_iff_ne.2 (by omega)))) ?_
  refine Qaa (.bool true) 12 rfl kj kj ?_
  refine Qaa (.bool true) 13 rfl kj kj ?_
  refine Qaa (.int .i64 ((ts.length : Nat) : Int)) 14 rfl kj kj ?_
  refine Qaa (.bool true) 15 rfl kj (Qar (u := .bool ((((ts.length : Nat) : Int) != 7))) kj (congrArg Value.bool (bne_iff_ne.2 (by omega)))) ?_
  refine Qaa (.bool true) 16 rfl kj kj ?_
  refine Qaa (.bool true) 17 rfl kj kj ?_
  refine Qaa (.int .i64 ((ts.length : Nat) : Int)) 18 rfl kj kj ?_
  refine Qaa (.bool true) 19 rfl kj (Qar (u := .bool ((((ts.length : Nat) : Int) != 15))) kj (congrArg Value.bool (bne_iff_ne.2 (by omega)))) ?_
  refine Qaa (.bool true) 20 rfl kj kj ?_
  refine Qaa (.bool true) 21 rfl kj kj ?_
  refine Qaa (.int .i64 ((ts.length : Nat) : Int)) 22 rfl kj kj ?_
  refine Qaa (.bool true) 23 rfl kj (Qar (u := .bool ((((ts.length : Nat) : Int) != 31))) kj (congrArg Value.bool (bne_iff_ne.2 (by omega)))) ?_
  refine Qaa (.bool true) 24 rfl kj kj ?_
  refine Qaa (.bool true) 25 rfl kj kj ?_
  refine Qaa (.int .i64 ((ts.length : Nat) : Int)) 26 rfl kj kj ?_
  refine Qaa (.bool true) 27 rfl kj (Qar (u := .bool ((((ts.length : Nat) : Int) != 63))) kj (congrArg Value.bool (bne_iff_ne.2 (by omega)))) ?_
  refine Qaa (.bool true) 28 rfl kj kj ?_
  refine Qae ?_
  refine hK4 _ _ ?_
  refine cond_true kj ?_
  refine wp_seq_k fun K5 hK5 => ?_
  refine Qab ?_
  refine Qaa (.bool false) 2 rfl kj kj ?_
  refine Qae ?_
  refine hK5 _ _ ?_
  refine wp_ret ?_
  repeat (first | with_reducible refine goR1 ?_ | with_reducible refine goR2 ?_)
  exact (show bodyPost _ _ _ .ret _ _ from ret1 (.bool false) rfl (Qaq kj) ⟨rfl, (Rely.Ext.refl w)⟩)
theorem Qei (ts : List NdV) (a_t : Option Addr) (c_t : Nat) (b : Bool) (hb : Qbl ts = b) (w : World) (htl : ts.length ≤ 1000000) (htr : TrAt w.heap.size w a_t ts) : Calls Try.prog 51 #[.slice a_t ts.length c_t] w (Ret w (.bool b)) := by
  subst hb
  unfold Qbl
  by_cases h1 : ts.length = 1
  · rw [show szOk ts.length = true by rw [h1]; rfl, Bool.true_and]; exact QeC ts a_t c_t w htl htr h1
  by_cases h3 : ts.length = 3
  · rw [show szOk ts.length = true by rw [h3]; rfl, Bool.true_and]; exact QeB ts a_t c_t w htl htr h3
  by_cases h7 : ts.length = 7
  · rw [show szOk ts.length = true by rw [h7]; rfl, Bool.true_and]; exact QeA ts a_t c_t w htl htr h7
  by_cases h15 : ts.length = 15
  · rw [show szOk ts.length = true by rw [h15]; rfl, Bool.true_and]; exact Qeh ts a_t c_t w htl htr h15
  by_cases h31 : ts.length = 31
  · rw [show szOk ts.length = true by rw [h31]; rfl, Bool.true_and]; exact Qeg ts a_t c_t w htl htr h31
  by_cases h63 : ts.length = 63
  · rw [show szOk ts.length = true by rw [h63]; rfl, Bool.true_and]; exact Qef ts a_t c_t w htl htr h63
  rw [show szOk ts.length = false by unfold szOk; simp only [beq_eq_false_iff_ne.2 h1, beq_eq_false_iff_ne.2 h3, beq_eq_false_iff_ne.2 h7, beq_eq_false_iff_ne.2 h15, beq_eq_false_iff_ne.2 h31, beq_eq_false_iff_ne.2 h63]; rfl, Bool.false_and]
  exact Qe9 ts a_t c_t w htl htr h1 h3 h7 h15 h31 h63
set_option maxHeartbeats 4000000 in
theorem Qfi (ts : List NdV) (a_t : Option Addr) (c_t : Nat) (w : World) (htl : ts.length ≤ 63) (hms : ∀ i, i < ts.length → (ndi ts i).n.ms.length ≤ 1000000) (hok : ∀ n ∈ ts, NdOk n.n) (htr : TrAt w.heap.size w a_t ts) : Calls Try.prog 53 #[.slice a_t ts.length c_t] w (Qbv w (OwnN .u8 5 w.heap.size (Qbr ts))) := by
 have hnl : ∀ i, i < ts.length → (Qbb (ndi ts i).n).length ≤ 2000000 := fun i hi => by
  have ho := hok _ (QbN ts i hi)
  have := hms i hi
  unfold Qbb Qb7 Qbp
  simp only [List.length_append, List.length_cons, List.length_nil, List.length_map, ho.kl, ho.gl, ho.pl]
  omega
 have hlen : ∀ i, i ≤ ts.length → ((ts.take i).map fun n => Qbb n.n).flatten.length ≤ 63 * 2000000 := fun i hi => by
  have h1 := Qdx (fun n : NdV => Qbb n.n) 2000000 (ts.take i) fun n hn => by
   obtain ⟨j, hj, e⟩ := List.mem_iff_getElem.1 (List.mem_of_mem_take hn)
   have h2 := hnl j hj
   unfold ndi at h2
   rw [List.getD_eq_getElem?_getD, List.getElem?_eq_getElem hj] at h2
   rw [← e]; exact h2
  have h3 : (ts.take i).length ≤ 63 := by rw [List.length_take]; omega
  exact Nat.le_trans h1 (Nat.mul_le_mul_right _ h3)
 refine enter 23 [(0, .slice a_t ts.length c_t)] Try.func53 rfl rfl kj rfl ?_
 refine wp_seq_k fun K1 hK1 => ?_
 refine Qab ?_
 refine Qaa (.slice none 0 0) 2 rfl kj kj ?_
 refine Qae ?_
 refine hK1 _ _ ?_
 refine wp_seq_k fun K2 hK2 => ?_
 refine Qab ?_
 refine Qaa (.slice a_t ts.length c_t) 5 rfl kj kj ?_
 refine Qaa (.int .i64 ((ts.length : Nat) : Int)) 6 rfl kj kj ?_
 refine Qaa (.int .u8 (byV ((ts.length : Nat) : Int) 0)) 7 rfl kj (Qar (u := .int .u8 (IntKind.u8.wrap ((ts.length : Nat) : Int))) kj (congrArg (Value.int .u8) (byV0 _))) ?_
 refine QaJ (ints .u8 ([(byV ((ts.length : Nat) : Int) 0)])) 5 1 8 rfl kj kj fun g3 W1 l3 e1 r3_1 => ?_
 have x1 : Ext w W1 := Ext.tr (Rely.Ext.refl w) e1
 have b3 : w.heap.size ≤ g3 := Nat.le_trans (Rely.Ext.refl w).size l3
 refine Qaa (.slice (some ⟨g3, 0, none⟩) 1 1) 3 rfl kj kj ?_
 refine Qae ?_
 refine hK2 _ _ ?_
 refine wp_seq_k fun K4 hK4 => ?_
 refine wp_seq_k fun K5 hK5 => ?_
 refine Qab ?_
 refine Qaa (.int .i64 0) 4 rfl kj kj ?_
 refine Qae ?_
 refine hK5 _ _ ?_
 refine wp_block ?_
 refine QaB (fun (s1 : Nat × Value) => [(0, .slice a_t ts.length c_t), (3, s1.2), (4, .int .i64 ((s1.1 : Nat) : Int))]) (fun (s1 : Nat × Value) W => (s1.1 ≤ ts.length) ∧ (OwnN .u8 5 w.heap.size ([byV ((ts.length : Nat) : Int) 0] ++ ((ts.take s1.1).map fun n => Qbb n.n).flatten) s1.2 W) ∧ (Below w.heap.size W1 W) ∧ (Ext w W)) (fun (s1 : Nat × Value) => ts.length - s1.1) (0, .slice (some ⟨g3, 0, none⟩) 1 1) ⟨rfl, rfl, rfl, trivial⟩ ⟨(Nat.zero_le _), (by rw [List.take_zero, List.map_nil, List.flatten_nil, List.append_nil]; exact (QbZ (xs := [byV ((ts.length : Nat) : Int) 0]) rfl l3 r3_1 (show 1 ≤ maxLen by decide))), (RowKit.Below.refl _ W1), x1⟩ fun s1 X1 V1 hI1 => ?_
 obtain ⟨i, u⟩ := s1
 obtain ⟨hi, hu, kk1, xx1⟩ := hI1
 replace hi : i ≤ ts.length := hi
 replace hu : OwnN .u8 5 w.heap.size ([byV ((ts.length : Nat) : Int) 0] ++ ((ts.take i).map fun n => Qbb n.n).flatten) u V1 := hu
 replace kk1 : Below w.heap.size W1 V1 := kk1
 replace xx1 : Ext w V1 := xx1
 have l2 := kk1
 refine wp_seq_k fun K6 hK6 => ?_
 refine wp_seq_k fun K7 hK7 => ?_
 refine Qab ?_
 refine Qaa (.int .i64 ((i : Nat) : Int)) 9 rfl kj kj ?_
 refine Qaa (.slice a_t ts.length c_t) 10 rfl kj kj ?_
 refine Qaa (.int .i64 ((ts.length : Nat) : Int)) 11 rfl kj kj ?_
 refine Qaa (.bool (decide (((i : Nat) : Int) < ((ts.length : Nat) : Int)))) 12 rfl kj kj ?_
 refine Qae ?_
 refine hK7 _ _ ?_
 refine Qaz (t := decide (((i : Nat) : Int) < ((ts.length : Nat) : Int))) kj (fun c8 => ?_) (fun c8 => ?_)
 ·skip
  have hlt12 : i < ts.length := by have := of_decide_eq_true c8; omega
  refine wp_skip ?_
  refine hK6 _ _ ?_
  refine wp_seq_k fun K9 hK9 => ?_
  refine wp_block ?_
  refine Qab ?_
  refine Qaa (u) 15 rfl kj kj ?_
  refine Qaa (.slice a_t ts.length c_t) 16 rfl kj kj ?_
  refine Qaa (.int .i64 ((i : Nat) : Int)) 17 rfl kj kj ?_
  obtain ⟨gT, oT, hat, hnds⟩ := (TrAt.ext htr xx1)
  have hnd := hnds i (by omega)
  obtain ⟨_, _, -, hnds0⟩ := id htr
  have hrd0 := (hnds0 i (by omega)).rd
  obtain ⟨nd, hndi⟩ : ∃ z, z = ndi ts i := ⟨_, rfl⟩
  rw [← hndi] at hnd hrd0
  have hok := hnd.ok
  refine Qaa (.pointer (some ⟨gT, oT + i * 99, none⟩)) 18 rfl kj (QaE 23 _ _ .i64 i gT oT ts.length c_t 43 99 a_t (hat (by omega)) rfl kj kj kj kj (by omega)) ?_
  refine Qaa (.agg (cat [#[.bool nd.n.us], #[.int .i64 nd.n.nm], ints .u8 (nd.n.key), ints .u8 (nd.n.sg), ints .u8 (nd.n.pa), #[.slice nd.a nd.n.ms.length nd.c]])) 19 rfl kj (QaC 43 _ gT (oT + i * 99) nd hnd rfl kj kj kj) ?_
  refine Qai (fun v W' => (OwnN .u8 5 V1.heap.size (Qbb nd.n)) v W' ∧ Ext V1 W') 97 #[.agg (cat [#[.bool nd.n.us], #[.int .i64 nd.n.nm], ints .u8 (nd.n.key), ints .u8 (nd.n.sg), ints .u8 (nd.n.pa), #[.slice nd.a nd.n.ms.length nd.c]])] 20 rfl kj kj ((QfR nd.n.us nd.n.nm nd.n.key nd.n.sg nd.n.pa nd.n.ms _ _ _ hok.kl hok.gl hok.pl (by rw [hndi]; exact hms i hlt12) (RdK.here (RdK.ext hrd0 xx1))).mono (by rintro e w' ⟨v, rfl, e1, hv⟩; exact ⟨v, rfl, hv, e1⟩)) fun vv10 W3 hh10 => ?_
  obtain ⟨hv10, e3⟩ := hh10
  have x3 : Ext w W3 := Ext.tr xx1 e3
  obtain ⟨anb_, cnb_, rfl, -⟩ := id (OwnN.rd hv10)
  have f11_3 := (hu.ext e3)
  have y0_1 : Ext w W1 := (Rely.Ext.trans (Rely.Ext.refl w) e1)
  have y0_2 : Ext w V1 := (Ext.low y0_1 l2 (Rely.Ext.refl w).size)
  have y0_3 : Ext w W3 := (Rely.Ext.trans y0_2 e3)
  refine Qba (k := .u8) (T := 5) (xs := [byV ((ts.length : Nat) : Int) 0] ++ ((ts.take i).map fun n => Qbb n.n).flatten) (ys := Qbb nd.n) (V := w) 1 (.tmp 15) (.tmp 20) 26 rfl kj kj (by decide) 21 rfl kj kj kj f11_3 (OwnN.rd hv10) (by simp only [List.length_append, List.length_cons, List.length_nil]; have h8 := hlen i (by omega); have h9 : (Qbb nd.n).length ≤ 2000000 := (by rw [hndi]; exact hnl i hlt12); omega) y0_3 fun z1 W4 f12 y4 l4 => ?_
  have x4 : Ext w W4 := Ext.low x3 l4 (Rely.Ext.refl w).size
  refine Qaa (z1) 3 rfl kj kj ?_
  refine Qae ?_
  refine hK9 _ _ ?_
  refine Qab ?_
  refine Qaa (.int .i64 ((i : Nat) : Int)) 13 rfl kj kj ?_
  refine Qaa (.int .i64 ((i + 1 : Nat) : Int)) 14 rfl kj (Qar (u := .int .i64 (IntKind.i64.wrap (((i : Nat) : Int) + 1))) kj (congrArg (Value.int .i64) (i64n _ _ (by omega) (by omega)))) ?_
  refine Qaa (.int .i64 ((i + 1 : Nat) : Int)) 4 rfl kj kj ?_
  refine Qae ?_
  repeat (first | with_reducible refine goX1 ?_ | with_reducible refine goX2 ?_ | with_reducible refine goX3 ?_)
  exact Qa9 ((i + 1), z1) ⟨rfl, rfl, rfl, trivial⟩ ⟨(by omega), (by rw [QdF ts i hlt12, ← hndi]; exact f12), (RowKit.Below.trans (RowKit.Below.trans l2 (RowKit.Below.mono e3 y0_2.size)) l4), x4⟩ (by omega)
 ·skip
  have heq12 : i = ts.length := by have := of_decide_eq_false c8; omega
  refine wp_exit ?_
  refine hK4 _ _ ?_
  refine wp_seq_k fun K14 hK14 => ?_
  refine Qab ?_
  refine Qaa (u) 22 rfl kj kj ?_
  refine Qaa (u) 2 rfl kj kj ?_
  refine Qae ?_
  refine hK14 _ _ ?_
  refine wp_ret ?_
  repeat (first | with_reducible refine goR1 ?_ | with_reducible refine goR2 ?_)
  exact (show bodyPost _ _ _ .ret _ _ from ret1 (u) rfl (Qaq kj) ⟨_, rfl, xx1, OwnN.base (Rely.Ext.refl w).size (show OwnN .u8 5 _ (Qbr ts) _ _ by have h7 := hu; rw [heq12, List.take_length] at h7; exact h7)⟩)
set_option maxHeartbeats 4000000 in
theorem Qfo (ts : List NdV) (a_t : Option Addr) (c_t : Nat) (w : World) (htl : ts.length ≤ 1000000) (hms : ∀ i, i < ts.length → (ndi ts i).n.ms.length ≤ 1000000) (hok : ∀ n ∈ ts, NdOk n.n) (htr : TrAt w.heap.size w a_t ts) (hG : Qbl ts = false) : Calls Try.prog 15 #[.slice a_t ts.length c_t] w (Qbv w (Qdy w.heap.size (none))) := by
  refine enter 12 [(0, .slice a_t ts.length c_t)] Try.func15 rfl rfl kj rfl ?_
  refine wp_seq_k fun K1 hK1 => ?_
  refine Qab ?_
  refine Qaa (.slice none 0 0) 2 rfl kj kj ?_
  refine Qaa (.bool false) 3 rfl kj kj ?_
  refine Qae ?_
  refine hK1 _ _ ?_
  refine wp_seq_k fun K2 hK2 => ?_
  refine wp_seq_k fun K3 hK3 => ?_
  refine Qab ?_
  refine Qaa (.slice a_t ts.length c_t) 4 rfl kj kj ?_
  refine Qax (.bool false) 51 #[.slice a_t ts.length c_t] 5 rfl kj kj (Qei ts _ _ _ hG _ htl (TrAt.here (TrAt.ext htr (Rely.Ext.refl w)))) fun W1 e1 => ?_
  have x1 : Ext w W1 := Ext.tr (Rely.Ext.refl w) e1
  refine Qaa (.bool true) 6 rfl kj kj ?_
  refine Qae ?_
  refine hK3 _ _ ?_
  refine cond_true kj ?_
  refine wp_seq_k fun K4 hK4 => ?_
  refine Qab ?_
  refine Qaa (.slice none 0 0) 2 rfl kj kj ?_
  refine Qaa (.bool false) 3 rfl kj kj ?_
  refine Qae ?_
  refine hK4 _ _ ?_
  refine wp_ret ?_
  repeat (first | with_reducible refine goR1 ?_ | with_reducible refine goR2 ?_)
  exact (show bodyPost _ _ _ .ret _ _ from ret2 (.slice none 0 0) (.bool false) rfl (Qaq kj) (Qaq kj) ⟨_, rfl, x1, rfl⟩)
set_option maxHeartbeats 4000000 in
theorem Qfn (ts : List NdV) (a_t : Option Addr) (c_t : Nat) (w : World) (htl : ts.length ≤ 1000000) (hms : ∀ i, i < ts.length → (ndi ts i).n.ms.length ≤ 1000000) (hok : ∀ n ∈ ts, NdOk n.n) (htr : TrAt w.heap.size w a_t ts) (hG : Qbl ts = true) : Calls Try.prog 15 #[.slice a_t ts.length c_t] w (Qbv w (Qdy w.heap.size (some (Qbr ts)))) := by
  have hsz : ts.length ≤ 63 := by have h9 := hG; unfold Qbl at h9; rw [Bool.and_eq_true] at h9; exact Qc6 h9.1
  have hf : (Qbr ts).length ≤ 65536 := by have := Qce ts hok hG; omega
  refine enter 12 [(0, .slice a_t ts.length c_t)] Try.func15 rfl rfl kj rfl ?_
  refine wp_seq_k fun K1 hK1 => ?_
  refine Qab ?_
  refine Qaa (.slice none 0 0) 2 rfl kj kj ?_
  refine Qaa (.bool false) 3 rfl kj kj ?_
  refine Qae ?_
  refine hK1 _ _ ?_
  refine wp_seq_k fun K2 hK2 => ?_
  refine wp_seq_k fun K3 hK3 => ?_
  refine Qab ?_
  refine Qaa (.slice a_t ts.length c_t) 4 rfl kj kj ?_
  refine Qax (.bool true) 51 #[.slice a_t ts.length c_t] 5 rfl kj kj (Qei ts _ _ _ hG _ htl (TrAt.here (TrAt.ext htr (Rely.Ext.refl w)))) fun W1 e1 => ?_
  have x1 : Ext w W1 := Ext.tr (Rely.Ext.refl w) e1
  refine Qaa (.bool false) 6 rfl kj kj ?_
  refine Qae ?_
  refine hK3 _ _ ?_
  refine cond_false kj ?_
  refine wp_skip ?_
  refine hK2 _ _ ?_
  refine wp_seq_k fun K4 hK4 => ?_
  refine Qab ?_
  refine Qaa (.slice a_t ts.length c_t) 7 rfl kj kj ?_
  refine Qai (fun v W' => (OwnN .u8 5 W1.heap.size (Qbr ts)) v W' ∧ Ext W1 W') 53 #[.slice a_t ts.length c_t] 8 rfl kj kj ((Qfi ts _ _ _ hsz hms hok (TrAt.here (TrAt.ext htr x1))).mono (by rintro e w' ⟨v, rfl, e1, hv⟩; exact ⟨v, rfl, hv, e1⟩)) fun vv5 W2 hh5 => ?_
  obtain ⟨hv5, e2⟩ := hh5
  have x2 : Ext w W2 := Ext.tr x1 e2
  obtain ⟨ab_, cb_, rfl, -⟩ := id (OwnN.rd hv5)
  refine Qax (.tuple #[.slice ab_ ((Qbr ts).length) cb_, .bool true]) 52 #[.slice ab_ ((Qbr ts).length) cb_] 9 rfl kj kj ((fun w => Qgh (Qbr ts) _ _ w hf) _) fun W3 e3 => ?_
  have x3 : Ext w W3 := Ext.tr x2 e3
  refine Qaa (.slice ab_ ((Qbr ts).length) cb_) 10 rfl kj kj ?_
  refine Qaa (.bool true) 11 rfl kj kj ?_
  refine Qaa (.slice ab_ ((Qbr ts).length) cb_) 2 rfl kj kj ?_
  refine Qaa (.bool true) 3 rfl kj kj ?_
  refine Qae ?_
  refine hK4 _ _ ?_
  refine wp_ret ?_
  repeat (first | with_reducible refine goR1 ?_ | with_reducible refine goR2 ?_)
  have f6_3 := (hv5.ext e3)
  exact (show bodyPost _ _ _ .ret _ _ from ret2 (.slice ab_ ((Qbr ts).length) cb_) (.bool true) rfl (Qaq kj) (Qaq kj) ⟨_, rfl, x3, _, rfl, OwnN.base x1.size f6_3⟩)
theorem QbI (ts : List NdV) (a_t : Option Addr) (c_t : Nat) (w : World) (htl : ts.length ≤ 1000000) (hms : ∀ i, i < ts.length → (ndi ts i).n.ms.length ≤ 1000000) (hok : ∀ n ∈ ts, NdOk n.n) (htr : TrAt w.heap.size w a_t ts) : Calls Try.prog 15 #[.slice a_t ts.length c_t] w (Qbv w (Qdy w.heap.size (refT ts))) := by
  unfold refT
  cases hG : Qbl ts with
  | false => exact Qfo ts a_t c_t w htl hms hok htr hG
  | true => exact Qfn ts a_t c_t w htl hms hok htr hG
end Go.Proofs.Ytfelfmchachljaa.Wr
end
section
namespace Go.Proofs.Ytfelfmchachljaa.Wr
open Go Go.RowKit
open Rely Auto Own Sha
set_option linter.unusedVariables false
set_option linter.unusedSimpArgs false
def putN (s : Option (List Int)) (us : Bool) (nm : Int) (key sg pa ms : List Int) : Option (List Int) := if Qbe us nm key sg pa ms = true then rawS s (Qb7 us nm key sg pa ms) else none
theorem Qer (s : Option (List Int)) (us : Bool) (nm : Int) (key sg pa ms : List Int) (hkl : key.length = 32) (hgl : sg.length = 32) (hpl : pa.length = 32) : Qdr s us nm key sg pa ms = putN s us nm key sg pa ms := by
  have hall := QdE ms ms.length (Nat.le_refl _)
  rw [List.take_length] at hall
  unfold Qdr putN Qbe Qbu
  rw [Qcb]
  change _ = if (inB nm 255 && decide (ms.length ≤ 32) && (risV ms && allN ms ms.length && (us || QaD us nm key sg pa ms))) = true then _ else _
  have hs1 : (bif us then numS s 1 1 else numS (QaA s (QaD us nm key sg pa ms)) 0 1) = bif (us || QaD us nm key sg pa ms) then rawS s [bif us then 1 else 0] else none := by
    cases us with
    | true => rfl
    | false =>
      cases QaD false nm key sg pa ms with
      | true => rfl
      | false => rfl
  rw [hs1]
  cases hb : (us || QaD us nm key sg pa ms) with
  | false =>
    rw [if_neg (by rw [Bool.and_false, Bool.and_false]; decide)]
    show ms.foldl Qbg (numS (QaA (rawS (rawS (rawS (numS none nm 1) key) sg) pa) (risV ms)) _ 1) = none
    have e1 : numS none nm 1 = none := by rw [Qb6 _ nm 0 255 (by decide) (by decide)]; cases inB nm 255 <;> rfl
    rw [e1]
    have e2 : QaA (rawS (rawS (rawS none key) sg) pa) (risV ms) = none := by cases risV ms <;> rfl
    rw [e2, Qb6 _ _ 0 255 (by decide) (by decide)]
    cases inB ((ms.length : Nat) : Int) 255 <;> exact QaL ms
  | true =>
    rw [Bool.and_true]
    show ms.foldl Qbg (numS (QaA (rawS (rawS (rawS (numS (rawS s [bif us then 1 else 0]) nm 1) key) sg) pa) (risV ms)) _ 1) = _
    rw [Qb6 _ nm 0 255 (by decide) (by decide)]
    cases hn : inB nm 255 with
    | false =>
      rw [if_neg (by rw [Bool.false_and, Bool.false_and]; decide)]
      have e2 : QaA (rawS (rawS (rawS (bif false then rawS (rawS s [bif us then 1 else 0]) (beV nm (0 + 1)) else none) key) sg) pa) (risV ms) = none := by cases risV ms <;> rfl
      rw [e2, Qb6 _ _ 0 255 (by decide) (by decide)]
      cases inB ((ms.length : Nat) : Int) 255 <;> exact QaL ms
    | true =>
      rw [Bool.true_and]
      cases hr : risV ms with
      | false =>
        rw [if_neg (by rw [Bool.false_and, Bool.and_false]; decide)]
        show ms.foldl Qbg (numS none _ 1) = none
        rw [Qb6 _ _ 0 255 (by decide) (by decide)]
        cases inB ((ms.length : Nat) : Int) 255 <;> exact QaL ms
      | true =>
        rw [Bool.true_and]
        show ms.foldl Qbg (numS (rawS (rawS (rawS (rawS (rawS s [bif us then 1 else 0]) (beV nm 1)) key) sg) pa) ((ms.length : Nat) : Int) (0 + 1)) = _
        rw [Qb6 _ _ 0 255 (by decide) (by decide)]
        cases ha : allN ms ms.length with
        | false =>
          rw [if_neg (by rw [Bool.and_false]; decide)]
          cases inB ((ms.length : Nat) : Int) 255 with
          | false => exact QaL ms
          | true =>
            show ms.foldl Qbg (rawS _ (beV _ (0 + 1))) = none
            rw [Qcn, ← hall, ha]
            rfl
        | true =>
          have hl := Qg2 ms hr ha
          rw [decide_eq_true hl, if_pos (by rfl), show inB ((ms.length : Nat) : Int) 255 = true by unfold inB; simp; omega]
          show ms.foldl Qbg (rawS _ (beV _ (0 + 1))) = _
          rw [Qcn, ← hall, ha]
          show rawS (rawS (rawS (rawS (rawS (rawS s [bif us then 1 else 0]) (beV nm 1)) key) sg) pa) (beV ((ms.length : Nat) : Int) 1 ++ ms.map fun m => byV m 0) = _
          rw [Qbq, Qbq, Qbq, Qbq, Qbq]
          have e : [bif us then 1 else 0] ++ (beV nm 1 ++ (key ++ (sg ++ (pa ++ (beV ((ms.length : Nat) : Int) 1 ++ ms.map fun m => byV m 0))))) = Qb7 us nm key sg pa ms := by
            unfold Qb7 Qbp
            simp only [List.append_assoc]
            rfl
          rw [e]
theorem QdL (us : Bool) (nm : Int) (key sg pa ms r : List Int) (hkl : key.length = 32) (hgl : sg.length = 32) (hpl : pa.length = 32) (hg : Qbe us nm key sg pa ms = true) (s : Option (List Int)) (hs : s = some (Qb7 us nm key sg pa ms ++ r)) :
    nUs s = us ∧ nNm s = nm ∧ nKy s = key ∧ nSg s = sg ∧ nPa s = pa ∧ QbY s = some r ∧ nL s = ms := by
  obtain ⟨h1, h2, h3, h4, h5, h6, h7⟩ := Qeq us nm key sg pa ms r hkl hgl hpl hg s hs
  have hu : nUs s = us := by unfold nUs; rw [h1]; cases us <;> rfl
  refine ⟨hu, h2, h3, h4, h5, ?_, h7⟩
  unfold Qbe at hg
  rw [Qcb] at hg
  simp only [Bool.and_eq_true] at hg
  obtain ⟨-, ⟨hr, -⟩, hb⟩ := hg
  have ho : nOk s = true := by
    unfold nOk
    rw [hu, h1, h2, h3, h4, h5, h7]
    cases us with
    | true => rfl
    | false => exact hb
  unfold QbY
  rw [ho, h6, h7, show risV ms = true from hr]
  rfl
theorem Qd6 : ∀ (ts : List NdV) (hok : ∀ n ∈ ts, NdOk n.n) (s : Option (List Int)) (a : List Int), ts.foldl (fun s n => Qcl s n.n) (rawS s a) = bif (ts.all fun n => okN_ n.n) then rawS s (a ++ (ts.map fun n => Qbb n.n).flatten) else none
  | [], _, s, a => by show rawS s a = rawS s (a ++ []); rw [List.append_nil]
  | n :: r, hok, s, a => by
    have ho := hok n List.mem_cons_self
    have e : Qcl (rawS s a) n.n = putN (rawS s a) n.n.us n.n.nm n.n.key n.n.sg n.n.pa n.n.ms := Qer _ _ _ _ _ _ _ ho.kl ho.gl ho.pl
    rw [List.foldl_cons, e, List.all_cons]
    unfold putN
    cases hg : okN_ n.n with
    | false =>
      rw [if_neg (show ¬ Qbe n.n.us n.n.nm n.n.key n.n.sg n.n.pa n.n.ms = true from fun h => by rw [show Qbe n.n.us n.n.nm n.n.key n.n.sg n.n.pa n.n.ms = false from hg] at h; cases h), QbB]; rfl
    | true =>
      rw [if_pos (show Qbe n.n.us n.n.nm n.n.key n.n.sg n.n.pa n.n.ms = true from hg), Qbq, Qd6 r fun x hx => hok x (List.mem_cons_of_mem _ hx)]
      rw [Bool.true_and, List.map_cons, List.flatten_cons, List.append_assoc]
      rfl
theorem Qd1 (ts : List NdV) (hok : ∀ n ∈ ts, NdOk n.n) : Qcs (some []) ts = refT ts := by
  unfold Qcs Qdt refT
  cases hz : szOk ts.length with
  | false =>
    rw [if_neg (by unfold Qbl; rw [hz, Bool.false_and]; decide)]
    show ts.foldl _ (numS none _ 1) = none
    rw [Qcj]; exact QbB ts
  | true =>
    have h1 := Qc6 hz
    show ts.foldl _ (numS (some []) ((ts.length : Nat) : Int) (0 + 1)) = _
    rw [Qb6 _ _ 0 255 (by decide) (by decide), show inB ((ts.length : Nat) : Int) 255 = true by unfold inB; simp; omega]
    show ts.foldl (fun s n => Qcl s n.n) (rawS (some []) (beV ((ts.length : Nat) : Int) 1)) = _
    rw [Qd6 ts hok]
    cases ha : (ts.all fun n => okN_ n.n) with
    | false => rw [if_neg (by unfold Qbl; rw [hz, ha]; decide)]; rfl
    | true =>
      have ho : Qbl ts = true := by unfold Qbl; rw [hz, ha]; rfl
      have hl := Qce ts hok ho
      rw [if_pos ho]
      show rawS (some []) (Qbr ts) = _
      rw [QeJ]
      unfold fitV
      rw [if_pos (by omega)]
theorem Qde (ts : List NdV) (hok : ∀ n ∈ ts, NdOk n.n) : Qap (Qbr ts) := by
  unfold Qbr
  refine Qbf (Qb9 _ 1) ?_
  intro x hx
  obtain ⟨l, hl, hxl⟩ := List.mem_flatten.1 hx
  obtain ⟨n, hn, rfl⟩ := List.mem_map.1 hl
  have ho := hok n hn
  exact QdK _ _ _ _ _ _ ho.kb ho.gb ho.pb x hxl
def itT (s : Option (List Int)) : Nat → Option (List Int)
  | 0 => s
  | i + 1 => QbY (itT s i)
def Qbx (s : Option (List Int)) : Nat := bigN (Qaj s 1)
def Qcd (s : Option (List Int)) : Option (List Int) := QaA (itT (Qad s 1) (Qbx s)) (szOk (Qbx s))
structure NdIs (s : Option (List Int)) (n : NdC) : Prop where
  us : n.us = nUs s
  nm : n.nm = nNm s
  key : n.key = nKy s
  sg : n.sg = nSg s
  pa : n.pa = nPa s
  ms : n.ms = nL s
theorem NdIs.eq {s : Option (List Int)} {n m : NdC} (h : NdIs s n) (k : NdIs s m) : n = m := by
  cases n; cases m
  obtain ⟨rfl, rfl, rfl, rfl, rfl, rfl⟩ := h
  obtain ⟨h1, h2, h3, h4, h5, h6⟩ := k
  simp only at h1 h2 h3 h4 h5 h6
  rw [h1, h2, h3, h4, h5, h6]
theorem Qc0 (ts : List NdV) (hok : ∀ n ∈ ts, NdOk n.n) (hg : (ts.all fun n => okN_ n.n) = true) : ∀ j, j ≤ ts.length → itT (some (ts.map fun n => Qbb n.n).flatten) j = some ((ts.drop j).map fun n => Qbb n.n).flatten ∧ ∀ i, i < j → NdIs (itT (some (ts.map fun n => Qbb n.n).flatten) i) (ndi ts i).n
  | 0, _ => ⟨rfl, fun i hi => absurd hi (Nat.not_lt_zero _)⟩
  | j + 1, hj => by
    obtain ⟨h1, h2⟩ := Qc0 ts hok hg j (by omega)
    have hm := QbN ts j (by omega)
    have ho := hok _ hm
    have hgj : okN_ (ndi ts j).n = true := (List.all_eq_true.1 hg) _ hm
    rw [QdB ts j (by omega), List.map_cons, List.flatten_cons] at h1
    obtain ⟨n1, n2, n3, n4, n5, n6, n7⟩ := QdL _ _ _ _ _ _ _ ho.kl ho.gl ho.pl hgj _ h1
    refine ⟨n6, fun i hi => ?_⟩
    rcases Nat.lt_or_ge i j with h3 | h3
    · exact h2 i h3
    · obtain rfl : i = j := by omega
      exact ⟨n1.symm, n2.symm, n3.symm, n4.symm, n5.symm, n7.symm⟩
theorem QdW (ts : List NdV) (bs : List Int) (hok : ∀ n ∈ ts, NdOk n.n) (h : refT ts = some bs) : Qcd (Qal bs) = some [] ∧ Qbx (Qal bs) = ts.length ∧ (∀ j, j < ts.length → NdIs (itT (Qad (Qal bs) 1) j) (ndi ts j).n) ∧ bs.length ≤ 65536 ∧ 0 < bs.length := by
  unfold refT at h
  split at h
  · rename_i hT
    obtain rfl := Option.some.inj h
    have hl := Qce ts hok hT
    have hT' := hT
    unfold Qbl at hT'
    rw [Bool.and_eq_true] at hT'
    have hz := Qc6 hT'.1
    have e : Qbr ts = beV ((ts.length : Nat) : Int) 1 ++ (ts.map fun n => Qbb n.n).flatten := rfl
    rw [Qdf _ (by omega)]
    have s1 : Qad (some (Qbr ts)) 1 = some (ts.map fun n => Qbb n.n).flatten := by rw [e]; exact QaV _ _ 1 (QaY _ 1)
    have q : Qbx (some (Qbr ts)) = ts.length := by unfold Qbx; rw [e, QaP _ _ 1 (QaY _ 1), QdD, Nat.mod_eq_of_lt (by omega)]
    obtain ⟨h1, h2⟩ := Qc0 ts hok hT'.2 ts.length (Nat.le_refl _)
    refine ⟨?_, q, fun j hj => by rw [s1]; exact h2 j hj, by omega, by rw [e, List.length_append, QaY]; omega⟩
    unfold Qcd
    rw [q, s1, h1, List.drop_length, hT'.1]
    rfl
  · cases h
theorem Qet (ts : List NdV) (i : Nat) (h : i < ts.length) : (ts.map NdV.n)[i]? = some (ndi ts i).n := by
  rw [List.getElem?_map, List.getElem?_eq_getElem h]
  unfold ndi
  rw [List.getD_eq_getElem?_getD, List.getElem?_eq_getElem h]
  rfl
theorem Qej (ts us : List NdV) (hl : us.length = ts.length) (S : Nat → Option (List Int)) (h : ∀ j, j < ts.length → NdIs (S j) (ndi ts j).n) (k : ∀ j, j < us.length → NdIs (S j) (ndi us j).n) : refT us = refT ts := by
  have e : us.map NdV.n = ts.map NdV.n := by
    apply List.ext_getElem?
    intro i
    rcases Nat.lt_or_ge i ts.length with h1 | h1
    · rw [Qet ts i h1, Qet us i (by omega), (k i (by omega)).eq (h i h1)]
    · rw [List.getElem?_eq_none (by rw [List.length_map]; omega), List.getElem?_eq_none (by rw [List.length_map]; omega)]
  have e1 : (us.all fun n => okN_ n.n) = ts.all fun n => okN_ n.n := by
    have h1 : ∀ l : List NdV, (l.all fun n => okN_ n.n) = (l.map NdV.n).all okN_ := fun l => by rw [List.all_map]; rfl
    rw [h1, h1, e]
  have e2 : (us.map fun n => Qbb n.n) = ts.map fun n => Qbb n.n := by
    have h1 : ∀ l : List NdV, (l.map fun n => Qbb n.n) = (l.map NdV.n).map Qbb := fun l => by rw [List.map_map]; rfl
    rw [h1, h1, e]
  unfold refT Qbl Qbr
  rw [hl, e1, e2]
end Go.Proofs.Ytfelfmchachljaa.Wr
end
section
namespace Go.Proofs.Ytfelfmchachljaa.Wr
open Go Go.RowKit
open Rely Auto Own Sha
set_option linter.unusedVariables false
set_option linter.unusedSimpArgs false
section
variable {ds : List Deferred} {P : Program} {ops : Array Oper} {Q : Exit → Act → World → Prop} {rest : List Oper} {o : Oper} {N : Nat} {L : Env} {w : World}
theorem Qe7 (ob : Obj) (mk : Nat → Value) (d : Nat) (hd : o.dst = some d) (hg : Qbo ops o N L = some true) (h : (execOp (Rely.look (envN N L)) o).run P w = .ok (.value (mk w.heap.size)) (w.alloc ob))
    (k : ∀ (g : Nat) (W : World), w.heap.size ≤ g → Ext w W → W.heap[g]? = some ob → WL P ops Q rest (Qa4 ds N ((d, mk g) :: L)) W) : WL P ops Q (o :: rest) (Qa4 ds N L) w :=
  Qbz _ _ d hd hg h (k _ _ (Nat.le_refl _) (Qcq _ _) (heap_alloc_new _ _))
end
theorem Qfh {P : Program} {ρ : Operand → Value} {o : Oper} {w : World} (t e : TypeId) (sz : Nat) (x : Operand) (v : Value) (ho : o.op = .buildSlice t 1 #[(0, x)]) (hx : ρ x = v) (hu : P.underlying t = some (.slice e)) (hs : (P.info? e).map (·.size) = some sz) (hz : ((P.info? e).bind (·.zero)).isSome = true) (hv : v.cells.size = sz) (h0 : 0 < sz) (hl : sz ≤ 2 ^ 24) :
    (execOp ρ o).run P w = .ok (.value (.slice (some ⟨w.heap.size, 0, none⟩) 1 1)) (w.alloc (.cells v.cells e)) := by
  cases hie : P.info? e with
  | none => simp [hie] at hs
  | some ie =>
    simp only [hie, Option.map_some, Option.some.injEq, Option.bind_some] at hs hz
    obtain ⟨z, hzz⟩ := Option.isSome_iff_exists.1 hz
    subst hx
    have hf : Instr.fill (fun i => some (i * ie.size, ie.size)) ((Array.range (1 * ie.size)).map (z.cells[· % z.cells.size]!)) (Array.map (fun p : Nat × Operand => (p.1, ρ p.2)) #[(0, x)]).toList = some (ρ x).cells := by
      have := QcK (fun i => some (i * ie.size, ie.size)) [(0, ie.size, ρ x, (ρ x).cells)] [] ((Array.range (1 * ie.size)).map (z.cells[· % z.cells.size]!)) 0 rfl ⟨by simp, rfl, by rw [hv, hs], trivial⟩ (by simp [tot])
      simpa [cat] using this
    have hr := run_buildSlice w t e 1 (Array.map (fun p : Nat × Operand => (p.1, ρ p.2)) #[(0, x)]) (ρ x).cells ie z hu hie hzz (by rw [hs]; omega) (by rw [hs]; omega) hf
    unfold execOp
    simp only [ho, Sem.run_bind]
    rw [hr]
    rfl
def ByS (s : Option (List Int)) : Prop := ∀ xs, s = some xs → Qap xs
theorem RSt.byS {B gr : Nat} {s : Option (List Int)} {W : World} (h : RSt B gr s W) : ByS s := by
  obtain ⟨u, xs, bad, -, -, h3, rfl⟩ := h
  intro ys hy
  cases bad with
  | true => cases hy
  | false => exact Option.some.inj hy ▸ h3
theorem ByS.take {s : Option (List Int)} (h : ByS s) (n : Nat) : ByS (Qad s n) := by
  intro ys hy
  cases s with
  | none => cases hy
  | some xs =>
    have h1 : (if n ≤ xs.length then some (xs.drop n) else none) = some ys := hy
    split at h1
    · exact Option.some.inj h1 ▸ QbC (h xs rfl) n
    · cases h1
theorem ByS.bytes {s : Option (List Int)} (h : ByS s) (n : Nat) : Qap (Qaj s n) := by
  cases s with
  | none => exact Qb8
  | some xs =>
    show Qap (if n ≤ xs.length then xs.take n else [])
    split
    · exact QbP (h xs rfl) n
    · exact Qb8
theorem QfY {s : Option (List Int)} (h : ByS s) (us : Bool) (nm : Int) (ms : List Int) : NdOk ⟨us, nm, nKy s, nSg s, nPa s, ms⟩ := by
  have h2 : ByS (nR2 s) := (h.take 1).take 1
  have h3 : ByS (nR3 s) := h2.take 32
  have h4 : ByS (nR4 s) := h3.take 32
  exact ⟨Qfx s, Qfv s, Qfw s, QbO _ (h2.bytes 32), QbO _ (h3.bytes 32), QbO _ (h4.bytes 32)⟩
structure OwT (base : Nat) (ts : List NdV) (v : Value) (W : World) : Prop where
  row : W.ownsRow base 43 99 v ts.length (ts.flatMap fun n => (cat (ndP n)).toList)
  nd : ∀ n ∈ ts, NdOk n.n ∧ n.n.ms.length ≤ 255 ∧ OwnN .i64 3 base n.n.ms (.slice n.a n.n.ms.length n.c) W
theorem OwT.nil (base : Nat) (W : World) : OwT base [] (.slice none 0 0) W := ⟨World.ownsRow_nil W base 43 99, fun n hn => by cases hn⟩
theorem Qdo {base : Nat} {e : TypeId} {size n : Nat} {v : Value} {xs : List Value} {W : World} (h : W.ownsRow base e size v n xs) {g : Nat} (hg : v.ownBlock = some g) : base ≤ g ∧ ∃ cur, W.heap[g]? = some (.cells cur e) := by
  rcases h.2 with ⟨rfl, _⟩ | ⟨g', c, cur, rfl, q2, q3, _⟩
  · cases hg
  · obtain rfl : g' = g := Option.some.inj hg
    exact ⟨q2, cur, q3⟩
theorem OwT.grown {base : Nat} {ts : List NdV} {v : Value} {W W' : World} {g : Nat} (h : OwT base ts v W) (q : W.grownBy W' (some g)) (hg : g < base) : OwT base ts v W' :=
  ⟨h.row.kept q (by
    cases e : v.ownBlock with
    | none => exact .inl rfl
    | some k => exact .inr fun e2 => by have := (Qdo h.row e).1; obtain rfl := Option.some.inj e2; omega), fun n hn => by
    obtain ⟨h1, h2, h3⟩ := h.nd n hn
    exact ⟨h1, h2, h3.keep fun k hk => q.block k (h3.lt hk) fun e => by have := h3.ge hk; obtain rfl := Option.some.inj e; omega⟩⟩
theorem OwT.extB {base g : Nat} {ts : List NdV} {v : Value} {W W' : World} (h : OwT base ts v W) (q : ExtB g W W') (hg : g < base) : OwT base ts v W' :=
  h.grown (g := g) ⟨q.1, q.2.1, q.2.2.1, q.2.2.2.1, fun k hk hn => q.2.2.2.2 k hk fun e => hn (by rw [e])⟩ hg
theorem OwT.ext {base : Nat} {ts : List NdV} {v : Value} {W W' : World} (h : OwT base ts v W) (e : Ext W W') : OwT base ts v W' :=
  ⟨h.row.kept (row := none) ⟨e.os, e.tape, e.output, e.size, fun k hk _ => e.block k hk⟩ (by cases e : v.ownBlock with
    | none => exact .inl rfl
    | some k => exact .inr fun e2 => by cases e2), fun n hn => ⟨(h.nd n hn).1, (h.nd n hn).2.1, (h.nd n hn).2.2.ext e⟩⟩
theorem Qfu (n : NdV) : ∀ u ∈ (cat (ndP n)).toList, u.oneCell' = true := by
  intro u hu
  unfold ndP at hu
  simp only [cat, Array.toList_append, ints, List.mem_append, List.mem_map, List.mem_cons, List.not_mem_nil, or_false] at hu
  rcases hu with rfl | rfl | ⟨x, -, rfl⟩ | ⟨x, -, rfl⟩ | ⟨x, -, rfl⟩ | rfl <;> rfl
theorem OwT.app {P : Program} {ρ : Operand → Value} {o : Oper} {W : World} (b : Nat) (s x : Operand) (t : TypeId) (ho : o.op = .call { callee := .builtin .append, args := #[s, x], argTypes := #[t, t] }) (ht : P.underlying t = some (.slice 43))
    (hi : (P.info? 43).map (fun i => (i.zero.map (·.cells.size), i.size, i.bytes)) = some (some 99, 99, b)) (hb8 : b ≤ 1000) {base g : Nat} {v : Value} {ts : List NdV} {n : NdV} (hs : ρ s = v) (hx : ρ x = .slice (some ⟨g, 0, none⟩) 1 1)
    (h : OwT base ts v W) (hn : NdOk n.n) (hnl : n.n.ms.length ≤ 255) (hno : OwnN .i64 3 base n.n.ms (.slice n.a n.n.ms.length n.c) W) (hrow : W.heap[g]? = some (.cells (cat (ndP n)) 43)) (htl : ts.length ≤ 1000000) (hbase : base ≤ W.heap.size) :
    ∃ v' W', (execOp ρ o).run P W = .ok (.value v') W' ∧ OwT base (ts ++ [n]) v' W' ∧ RowKit.Below base W W' := by
  obtain ⟨i, hq, z, hz, hzs, hi2, hi3⟩ : ∃ i, P.info? 43 = some i ∧ ∃ z, i.zero = some z ∧ z.cells.size = 99 ∧ i.size = 99 ∧ i.bytes = b := by
    cases hq : P.info? 43 with
    | none => rw [hq] at hi; cases hi
    | some i =>
      rw [hq] at hi
      simp only [Option.map_some, Option.some.injEq, Prod.mk.injEq] at hi
      obtain ⟨z, hz, hzs⟩ := Option.map_eq_some_iff.1 hi.1
      exact ⟨i, rfl, z, hz, hzs, hi.2.1, hi.2.2⟩
  have hsz := Qca n hn
  obtain ⟨v', W', hr, h2, h3, -, -⟩ := run_append_own_at (P := P) W base t o.type 43 i z 99 b ht hq hz hi2 hi3 hzs (by decide) v ts.length _ h.row ⟨g, 0, none⟩ 1 1 (cat (ndP n)).toList (by rw [Array.length_toList, hsz])
    (fun j u hu => by
      rw [WideShapes.add_plain, Nat.zero_add]
      unfold World.cell?
      simp only [hrow]
      rw [Array.getElem?_toList] at hu
      rw [← hu]; rfl) (Qfu n) (by simp only [maxLen]; omega) (by
        have : (ts.length + 1) * b ≤ 1000001 * 1000 := Nat.mul_le_mul (by omega) hb8
        omega) hbase
  refine ⟨v', W', ?_, ⟨?_, ?_⟩, ⟨h3.os, h3.tape, h3.output, h3.size, fun k hk => h3.block k (Nat.lt_of_lt_of_le hk hbase) fun q => by have := (Qdo h.row q.symm).1; omega⟩⟩
  · unfold execOp
    simp only [ho, resolve, invoke, builtin, Sem.run_bind, Sem.run_pure, Result.andThen_ok, List.map_toArray, List.map_cons, List.map_nil, hs, hx, hr]
  · rw [List.length_append, List.flatMap_append]
    simpa using h2
  · intro m hm
    have keep : ∀ m : NdV, OwnN .i64 3 base m.n.ms (.slice m.a m.n.ms.length m.c) W → OwnN .i64 3 base m.n.ms (.slice m.a m.n.ms.length m.c) W' := fun m hmo => hmo.keep fun k hk => h3.block k (hmo.lt hk) fun q => by
      obtain ⟨cur, e1⟩ := Qdn hmo hk
      obtain ⟨-, cur2, e2⟩ := Qdo h.row q.symm
      exact typW e1 e2 (by decide) rfl
    rcases List.mem_append.1 hm with h1 | h1
    · obtain ⟨a1, a2, a3⟩ := h.nd m h1
      exact ⟨a1, a2, keep m a3⟩
    · obtain rfl : m = n := by simpa using h1
      exact ⟨hn, hnl, keep m hno⟩
section
variable {ds : List Deferred} {P : Program} {ops : Array Oper} {Q : Exit → Act → World → Prop} {rest : List Oper} {o : Oper} {N : Nat} {L : Env} {W : World}
theorem Qe8 (b : Nat) (s x : Operand) (t : TypeId) (ho : o.op = .call { callee := .builtin .append, args := #[s, x], argTypes := #[t, t] }) (ht : P.underlying t = some (.slice 43))
    (hi : (P.info? 43).map (fun i => (i.zero.map (·.cells.size), i.size, i.bytes)) = some (some 99, 99, b)) (hb8 : b ≤ 1000) (d : Nat) (hd : o.dst = some d) (hg : Qbo ops o N L = some true) {base g : Nat} {v : Value} {ts : List NdV} {n : NdV} (hs : Rely.look (envN N L) s = v) (hx : Rely.look (envN N L) x = .slice (some ⟨g, 0, none⟩) 1 1)
    (h : OwT base ts v W) (hn : NdOk n.n) (hnl : n.n.ms.length ≤ 255) (hno : OwnN .i64 3 base n.n.ms (.slice n.a n.n.ms.length n.c) W) (hrow : W.heap[g]? = some (.cells (cat (ndP n)) 43)) (htl : ts.length ≤ 1000000) (hbase : base ≤ W.heap.size)
    (kk : ∀ (u : Value) (W' : World), OwT base (ts ++ [n]) u W' → RowKit.Below base W W' → WL P ops Q rest (Qa4 ds N ((d, u) :: L)) W') : WL P ops Q (o :: rest) (Qa4 ds N L) W := by
  obtain ⟨v', W', h1, h2, h3⟩ := OwT.app (ρ := Rely.look (envN N L)) b s x t ho ht hi hb8 hs hx h hn hnl hno hrow htl hbase
  exact Qbz _ _ d hd hg h1 (kk v' W' h2 h3)
end
theorem QeR (ts : List NdV) (ho : ∀ n ∈ ts, NdOk n.n) : ∀ i, i < ts.length → ∀ j u, (cat (ndP (ndi ts i)))[j]? = some u → (ts.flatMap fun n => (cat (ndP n)).toList)[i * 99 + j]? = some u := by
  induction ts with
  | nil => intro i hi; exact absurd hi (Nat.not_lt_zero _)
  | cons n r ih =>
    intro i hi j u hu
    have hsz : (cat (ndP n)).toList.length = 99 := by rw [Array.length_toList]; exact Qca n (ho n List.mem_cons_self)
    rw [List.flatMap_cons]
    cases i with
    | zero =>
      have hu' : (cat (ndP n))[j]? = some u := hu
      have hj : j < 99 := by have := (Array.getElem?_eq_some_iff.1 hu').1; rw [← Array.length_toList, hsz] at this; exact this
      rw [List.getElem?_append_left (by omega), Nat.zero_mul, Nat.zero_add, Array.getElem?_toList]; exact hu'
    | succ i =>
      rw [List.getElem?_append_right (by omega), hsz, show (i + 1) * 99 + j - 99 = i * 99 + j by omega]
      exact ih (fun x hx => ho x (List.mem_cons_of_mem _ hx)) i (by simpa using hi) j u hu
theorem OwT.tr {base : Nat} {ts : List NdV} {a : Option Addr} {c : Nat} {W : World} (h : OwT base ts (.slice a ts.length c) W) : TrAt W.heap.size W a ts := by
  rcases h.row.2 with ⟨e, -⟩ | ⟨g, cap, cur, e, q2, q3, -⟩
  · have h0 : ts.length = 0 := by simp only [Value.slice.injEq] at e; exact e.2.1
    exact ⟨0, 0, fun h1 => absurd h1 (by omega), fun i hi => absurd hi (by omega)⟩
  · simp only [Value.slice.injEq] at e
    obtain ⟨rfl, -, rfl⟩ := e
    refine ⟨g, 0, fun _ => rfl, fun i hi => ?_⟩
    have hm := QbN ts i hi
    obtain ⟨h1, h2, h3⟩ := h.nd _ hm
    refine ⟨Qa3 q3, Qa3 q3, fun j u hu => ?_, RdK.here (OwnN.rd h3), h1⟩
    have := h.row.cells (g := g) rfl (i * 99 + j) u (QeR ts (fun n hn => (h.nd n hn).1) i hi j u hu)
    rw [WideShapes.add_plain] at this
    rw [Nat.zero_add] at this
    rw [Nat.zero_add]; exact this
theorem OwT.sl {base : Nat} {ts : List NdV} {v : Value} {W : World} (h : OwT base ts v W) : ∃ a c, v = .slice a ts.length c := by
  rcases h.row.2 with ⟨e, e2⟩ | ⟨g, cap, cur, e, -⟩
  · exact ⟨none, 0, by rw [e, e2]⟩
  · exact ⟨_, _, e⟩
theorem OwT.base {a b : Nat} {ts : List NdV} {v : Value} {W : World} (h : OwT b ts v W) (hab : a ≤ b) : OwT a ts v W :=
  ⟨⟨h.row.1, h.row.2.imp id fun ⟨g, c, cur, q1, q2, q3⟩ => ⟨g, c, cur, q1, Nat.le_trans hab q2, q3⟩⟩, fun n hn => ⟨(h.nd n hn).1, (h.nd n hn).2.1, OwnN.base hab (h.nd n hn).2.2⟩⟩
theorem QcH (s : Option (List Int)) (i : Nat) (h : itT s i = none) : ∀ n, i ≤ n → itT s n = none
  | 0, hn => by obtain rfl : i = 0 := by omega
                exact h
  | n + 1, hn => by
    by_cases e : i = n + 1
    · rw [← e]; exact h
    · show QbY (itT s n) = none
      rw [QcH s i h n (by omega)]
      show QaA (QaA (nR6 none) _) _ = none
      have e6 : nR6 none = none := Qdu (Qad (nR5 none) 1) 0 rfl _ (Nat.zero_le _)
      rw [e6, QaI, QaI]
theorem Qft (ts : List NdV) (n : NdV) (j : Nat) : ndi (ts ++ [n]) j = if j < ts.length then ndi ts j else if j = ts.length then n else nd0 := by
  unfold ndi
  rw [List.getD_eq_getElem?_getD, List.getD_eq_getElem?_getD]
  split
  · rename_i h; rw [List.getElem?_append_left h]
  · rename_i h
    rw [List.getElem?_append_right (by omega)]
    split
    · rename_i h2; rw [h2, Nat.sub_self]; rfl
    · rw [List.getElem?_eq_none (by simp; omega)]; rfl
set_option maxHeartbeats 4000000 in
theorem QdX (B gr : Nat) (s : Option (List Int)) (w : World) (hB : B ≤ gr) (h : RSt B gr s w) : Calls Try.prog 101 #[.pointer (some ⟨gr, 0, none⟩), .func (.func 102) #[] #[]] w (Qb4 B gr w (itT (Qad s 1) (Qbx s)) fun v W => ∃ ts, OwT w.heap.size ts v W ∧ ts.length ≤ 255 ∧ (itT (Qad s 1) (Qbx s) ≠ none → ts.length = (Qbx s) ∧ ∀ j, j < ts.length → NdIs (itT (Qad s 1) j) (ndi ts j).n)) := by
 have hgr := h.lt
 have hN : bigN (Qaj s 1) < 256 := QcL _ (h.bytes 1) 1 (Qan s 1)
 refine enter 22 [(0, .pointer (some ⟨gr, 0, none⟩)), (1, .func (.func 102) #[] #[])] Try.func101 rfl rfl kj rfl ?_
 refine wp_seq_k fun K1 hK1 => ?_
 refine Qab ?_
 refine Qaa (.slice none 0 0) 4 rfl kj kj ?_
 refine Qae ?_
 refine hK1 _ _ ?_
 refine wp_seq_k fun K2 hK2 => ?_
 refine Qab ?_
 refine Qaa (.slice none 0 0) 5 rfl kj kj ?_
 refine Qae ?_
 refine hK2 _ _ ?_
 refine wp_seq_k fun K3 hK3 => ?_
 refine wp_seq_k fun K4 hK4 => ?_
 refine Qab ?_
 refine Qaa (.pointer (some ⟨gr, 0, none⟩)) 6 rfl kj kj ?_
 refine Qai (fun v W' => ExtB gr w W' ∧ RSt B gr (Qad (s) 1) W' ∧ (fun (v : Value) (_ : World) => v = .int .i64 ((bigN (Qaj (s) 1) : Nat) : Int)) v W') 110 #[.pointer (some ⟨gr, 0, none⟩), .int .i64 1] 7 rfl kj kj (QaQ B gr _ 1 _ hB h (by decide)) fun vv5 W1 hh5 => ?_
 obtain ⟨q1, rs5, hv5⟩ := hh5
 have x1 : ExtB gr w W1 := ExtB.tr (ExtB.refl gr w) q1
 subst hv5
 refine Qaa (.int .i64 0) 8 rfl kj kj ?_
 refine Qae ?_
 refine hK4 _ _ ?_
 refine wp_block ?_
 refine QaB (fun (s1 : Nat × Value × List NdV) => [(0, .pointer (some ⟨gr, 0, none⟩)), (1, .func (.func 102) #[] #[]), (5, s1.2.1), (7, .int .i64 ((bigN (Qaj (s) 1) : Nat) : Int)), (8, .int .i64 ((s1.1 : Nat) : Int))]) (fun (s1 : Nat × Value × List NdV) W => (s1.1 ≤ bigN (Qaj s 1)) ∧ (RSt B gr (itT (Qad s 1) s1.1) W) ∧ (OwT w.heap.size s1.2.2 s1.2.1 W) ∧ (s1.2.2.length = s1.1) ∧ (itT (Qad s 1) s1.1 ≠ none → ∀ j, j < s1.2.2.length → NdIs (itT (Qad s 1) j) (ndi s1.2.2 j).n) ∧ (ExtB gr w W)) (fun (s1 : Nat × Value × List NdV) => bigN (Qaj s 1) - s1.1) (0, (.slice none 0 0), []) ⟨rfl, rfl, rfl, rfl, rfl, trivial⟩ ⟨(Nat.zero_le _), rs5, (OwT.nil _ _), rfl, (fun _ j hj => absurd hj (Nat.not_lt_zero _)), x1⟩ fun s1 X1 V1 hI1 => ?_
 obtain ⟨i, u, ts⟩ := s1
 obtain ⟨hi, hrs, hu, htl, hnd, xx1⟩ := hI1
 replace hi : i ≤ bigN (Qaj s 1) := hi
 replace hrs : RSt B gr (itT (Qad s 1) i) V1 := hrs
 replace hu : OwT w.heap.size ts u V1 := hu
 replace htl : ts.length = i := htl
 replace hnd : itT (Qad s 1) i ≠ none → ∀ j, j < ts.length → NdIs (itT (Qad s 1) j) (ndi ts j).n := hnd
 replace xx1 : ExtB gr w V1 := xx1
 refine wp_seq_k fun K6 hK6 => ?_
 refine Qab ?_
 refine Qaa (.bool (decide (((i : Nat) : Int) < ((bigN (Qaj (s) 1) : Nat) : Int)))) 9 rfl kj kj ?_
 refine Qae ?_
 refine hK6 _ _ ?_
 refine wp_seq_k fun K7 hK7 => ?_
 refine Qaz (t := decide (((i : Nat) : Int) < ((bigN (Qaj (s) 1) : Nat) : Int))) kj (fun c8 => ?_) (fun c8 => ?_)
 ·skip
  have hlt9 : i < bigN (Qaj s 1) := by have := of_decide_eq_true c8; omega
  refine wp_skip ?_
  refine hK7 _ _ ?_
  refine wp_seq_k fun K9 hK9 => ?_
  refine wp_block ?_
  refine wp_seq_k fun K10 hK10 => ?_
  refine wp_seq_k fun K11 hK11 => ?_
  refine Qab ?_
  obtain ⟨u12, xs12, bad, rb12, -, -, hsc⟩ := id hrs
  refine Qaa (.pointer (some ⟨gr, 0, none⟩)) 10 rfl kj kj ?_
  refine Qaa (.pointer (some ⟨gr, 0, none⟩)) 11 rfl kj kj ?_
  refine Qaa (.pointer (some ⟨gr, 1, none⟩)) 12 rfl kj kj ?_
  refine Qaa (.bool bad) 13 rfl kj (Qah 4 _ gr 1 179 _ (.bool bad) _ rb12 rfl kj kj kj) ?_
  refine Qae ?_
  refine hK11 _ _ ?_
  refine Qaz (t := bad) kj (fun c14 => ?_) (fun c14 => ?_)
  ·skip
   have hbad : bad = true := c14
   have h9 : itT (Qad s 1) i = none := by rw [hsc, hbad]; rfl
   have h8 : itT (Qad s 1) (bigN (Qaj s 1)) = none := QcH _ i h9 _ hi
   have hrs3 : RSt B gr (itT (Qad s 1) (bigN (Qaj s 1))) V1 := by rw [h8, ← h9]; exact hrs
   refine wp_seq_k fun K15 hK15 => ?_
   refine Qab ?_
   refine Qaa (.slice none 0 0) 4 rfl kj kj ?_
   refine Qae ?_
   refine hK15 _ _ ?_
   refine wp_ret ?_
   repeat (first | with_reducible refine goR1 ?_ | with_reducible refine goR2 ?_)
   exact (show bodyPost _ _ _ .ret _ _ from ret1 (.slice none 0 0) rfl (Qaq kj) ⟨_, rfl, xx1, hrs3, [], OwT.nil _ _, by decide, fun hne => absurd h8 hne⟩)
  ·skip
   refine wp_skip ?_
   refine hK10 _ _ ?_
   refine Qab ?_
   refine Qaa (u) 14 rfl kj kj ?_
   refine Qaa (.func (.func 102) #[] #[]) 15 rfl kj kj ?_
   refine Qaa (.pointer (some ⟨gr, 0, none⟩)) 16 rfl kj kj ?_
   refine Qai (fun v W' => ExtB gr V1 W' ∧ RSt B gr (QbY (itT (Qad s 1) i)) W' ∧ (fun (v : Value) (W : World) => ∃ (xz : List Int) (a : Option Addr) (c : Nat), v = .agg (cat [#[.bool (nUs (itT (Qad s 1) i))], #[.int .i64 (nNm (itT (Qad s 1) i))], ints .u8 (nKy (itT (Qad s 1) i)), ints .u8 (nSg (itT (Qad s 1) i)), ints .u8 (nPa (itT (Qad s 1) i)), #[.slice a xz.length c]]) ∧ OwnN .i64 3 V1.heap.size xz (.slice a xz.length c) W ∧ xz.length ≤ 255 ∧ (QbY (itT (Qad s 1) i) ≠ none → xz = nL (itT (Qad s 1) i))) v W') 102 #[.pointer (some ⟨gr, 0, none⟩)] 17 rfl kj kj (QfQ B gr _ _ hB hrs) fun vv16 W3 hh16 => ?_
   obtain ⟨q3, rs16, hv16⟩ := hh16
   have x3 : ExtB gr w W3 := ExtB.tr xx1 q3
   obtain ⟨xs17, ax17, cx17, rfl, hox17, hlx17, hxx17⟩ := hv16
   have hby : ByS (itT (Qad s 1) i) := hrs.byS
   obtain ⟨nd, hnd0⟩ : ∃ z : NdV, z = ⟨⟨nUs (itT (Qad s 1) i), nNm (itT (Qad s 1) i), nKy (itT (Qad s 1) i), nSg (itT (Qad s 1) i), nPa (itT (Qad s 1) i), xs17⟩, ax17, cx17⟩ := ⟨_, rfl⟩
   refine Qe7 (.cells (cat [#[.bool (nUs (itT (Qad s 1) i))], #[.int .i64 (nNm (itT (Qad s 1) i))], ints .u8 (nKy (itT (Qad s 1) i)), ints .u8 (nSg (itT (Qad s 1) i)), ints .u8 (nPa (itT (Qad s 1) i)), #[.slice ax17 xs17.length cx17]]) 43) (fun g => .slice (some ⟨g, 0, none⟩) 1 1) 18 rfl kj (Qfh 22 43 99 _ (.agg (cat [#[.bool (nUs (itT (Qad s 1) i))], #[.int .i64 (nNm (itT (Qad s 1) i))], ints .u8 (nKy (itT (Qad s 1) i)), ints .u8 (nSg (itT (Qad s 1) i)), ints .u8 (nPa (itT (Qad s 1) i)), #[.slice ax17 xs17.length cx17]])) rfl kj kj kj kj (by have h9 := Qca nd (by rw [hnd0]; exact QfY hby _ _ _); rw [hnd0] at h9; exact h9) (by decide) (by decide)) fun gz W4 lz e4 rz => ?_
   have x4 : ExtB gr w W4 := ExtB.ext x3 e4
   have f19_4 := (hox17.ext e4)
   refine Qe8 136 (.tmp 14) (.tmp 18) 22 rfl kj kj (by decide) 19 rfl kj kj kj (OwT.ext (OwT.extB hu q3 hgr) e4) (n := nd) (by rw [hnd0]; exact QfY hby _ _ _) (by rw [hnd0]; exact hlx17) (by rw [hnd0]; exact OwnN.base xx1.2.2.2.1 f19_4) (by rw [hnd0]; exact rz) (by omega) x4.2.2.2.1 fun u2 W5 hu2 l5 => ?_
   have x5 : ExtB gr w W5 := ExtB.low x4 l5 (Nat.le_refl _)
   refine Qaa (u2) 5 rfl kj kj ?_
   refine Qae ?_
   refine hK9 _ _ ?_
   refine Qab ?_
   refine Qaa (.int .i64 ((i + 1 : Nat) : Int)) 20 rfl kj (Qar (u := .int .i64 (IntKind.i64.wrap (((i : Nat) : Int) + 1))) kj (congrArg (Value.int .i64) (i64n _ _ (by omega) (by omega)))) ?_
   refine Qaa (.int .i64 ((i + 1 : Nat) : Int)) 8 rfl kj kj ?_
   refine Qae ?_
   have hts2 : (ts ++ [nd]).length = i + 1 := by rw [List.length_append, List.length_singleton]; omega
   have hnd2 : itT (Qad s 1) (i + 1) ≠ none → ∀ j, j < (ts ++ [nd]).length → NdIs (itT (Qad s 1) j) (ndi (ts ++ [nd]) j).n := by
    intro hne j hj
    rw [Qft]
    split
    ·rename_i h5
     exact hnd (fun h6 => hne (QcH _ i h6 _ (by omega))) j h5
    ·rename_i h5
     obtain rfl : j = ts.length := by omega
     rw [if_pos rfl, htl, hnd0]
     exact ⟨rfl, rfl, rfl, rfl, rfl, hxx17 hne⟩
   have rs20 := (RSt.low (RSt.ext rs16 hB e4) hB l5 hgr)
   repeat (first | with_reducible refine goX1 ?_ | with_reducible refine goX2 ?_ | with_reducible refine goX3 ?_)
   exact Qa9 ((i + 1), u2, (ts ++ [nd])) ⟨rfl, rfl, rfl, rfl, rfl, trivial⟩ ⟨(by omega), rs20, hu2, hts2, hnd2, x5⟩ (by omega)
 ·skip
  have heq9 : i = bigN (Qaj s 1) := by have := of_decide_eq_false c8; omega
  have hrs2 := hrs
  rw [heq9] at hrs2
  refine wp_exit ?_
  refine hK3 _ _ ?_
  refine wp_seq_k fun K21 hK21 => ?_
  refine Qab ?_
  refine Qaa (u) 21 rfl kj kj ?_
  refine Qaa (u) 4 rfl kj kj ?_
  refine Qae ?_
  refine hK21 _ _ ?_
  refine wp_ret ?_
  repeat (first | with_reducible refine goR1 ?_ | with_reducible refine goR2 ?_)
  exact (show bodyPost _ _ _ .ret _ _ from ret1 (u) rfl (Qaq kj) ⟨_, rfl, xx1, hrs2, ts, hu, by omega, fun hne => ⟨(show ts.length = bigN (Qaj s 1) by omega), fun j hj => hnd (by rw [heq9]; exact hne) j hj⟩⟩)
set_option maxHeartbeats 4000000 in
theorem QfM (B gr : Nat) (s : Option (List Int)) (w : World) (hB : B ≤ gr) (h : RSt B gr s w) : Calls Try.prog 55 #[.pointer (some ⟨gr, 0, none⟩)] w (Qb4 B gr w (Qcd s) fun v W => ∃ ts, OwT w.heap.size ts v W ∧ ts.length ≤ 255 ∧ (Qcd s ≠ none → ts.length = (Qbx s) ∧ ∀ j, j < ts.length → NdIs (itT (Qad s 1) j) (ndi ts j).n)) := by
  have hgr := h.lt
  refine enter 12 [(0, .pointer (some ⟨gr, 0, none⟩))] Try.func55 rfl rfl kj rfl ?_
  refine wp_seq_k fun K1 hK1 => ?_
  refine Qab ?_
  refine Qaa (.slice none 0 0) 2 rfl kj kj ?_
  refine Qae ?_
  refine hK1 _ _ ?_
  refine wp_seq_k fun K2 hK2 => ?_
  refine Qab ?_
  refine Qaa (.pointer (some ⟨gr, 0, none⟩)) 4 rfl kj kj ?_
  refine Qai (fun v W' => ExtB gr w W' ∧ RSt B gr (itT (Qad s 1) (Qbx s)) W' ∧ (fun (v : Value) (W : World) => ∃ ts, OwT w.heap.size ts v W ∧ ts.length ≤ 255 ∧ (itT (Qad s 1) (Qbx s) ≠ none → ts.length = (Qbx s) ∧ ∀ j, j < ts.length → NdIs (itT (Qad s 1) j) (ndi ts j).n)) v W') 101 #[.pointer (some ⟨gr, 0, none⟩), .func (.func 102) #[] #[]] 5 rfl kj kj (QdX B gr _ _ hB h) fun vv3 W1 hh3 => ?_
  obtain ⟨q1, rs3, hv3⟩ := hh3
  have x1 : ExtB gr w W1 := ExtB.tr (ExtB.refl gr w) q1
  obtain ⟨ts, hot, htl, hts⟩ := hv3
  obtain ⟨at_, ct_, rfl⟩ := hot.sl
  refine Qaa (.slice at_ ts.length ct_) 3 rfl kj kj ?_
  refine Qae ?_
  refine hK2 _ _ ?_
  refine wp_seq_k fun K4 hK4 => ?_
  refine Qab ?_
  refine Qaa (.pointer (some ⟨gr, 0, none⟩)) 6 rfl kj kj ?_
  refine Qaa (.slice at_ ts.length ct_) 7 rfl kj kj ?_
  refine Qaa (.int .i64 ((ts.length : Nat) : Int)) 8 rfl kj kj ?_
  refine Qax (.bool (szOk ts.length)) 99 #[.int .i64 ((ts.length : Nat) : Int)] 9 rfl kj kj ((tszC ts.length) _) fun W2 e2 => ?_
  have x2 : ExtB gr w W2 := ExtB.ext x1 e2
  have rs5 := (RSt.ext rs3 hB e2)
  refine Qai (fun v W' => ExtB gr W2 W' ∧ RSt B gr (QaA (itT (Qad s 1) (Qbx s)) (szOk ts.length)) W' ∧ (fun (v : Value) (_ : World) => v = .tuple #[]) v W') 103 #[.pointer (some ⟨gr, 0, none⟩), .bool (szOk ts.length)] 10 rfl kj kj (QbT B gr _ (szOk ts.length) _ hB rs5) fun vv6 W3 hh6 => ?_
  obtain ⟨q3, rs6, hv6⟩ := hh6
  have x3 : ExtB gr w W3 := ExtB.tr x2 q3
  subst hv6
  refine Qae ?_
  refine hK4 _ _ ?_
  refine wp_seq_k fun K7 hK7 => ?_
  refine Qab ?_
  refine Qaa (.slice at_ ts.length ct_) 11 rfl kj kj ?_
  refine Qaa (.slice at_ ts.length ct_) 2 rfl kj kj ?_
  refine Qae ?_
  refine hK7 _ _ ?_
  refine wp_ret ?_
  repeat (first | with_reducible refine goR1 ?_ | with_reducible refine goR2 ?_)
  exact (show bodyPost _ _ _ .ret _ _ from ret1 (.slice at_ ts.length ct_) rfl (Qaq kj) ⟨_, rfl, x3, (show RSt B gr (Qcd s) _ by
      have h9 := rs6
      unfold Qcd
      by_cases h0 : itT (Qad s 1) (Qbx s) = none
      · rw [h0, QaI] at h9 ⊢; exact h9
      · rw [(hts h0).1] at h9; exact h9), ts, OwT.base (OwT.extB (OwT.ext hot e2) q3 (Nat.lt_of_lt_of_le hgr (ExtB.refl gr w).2.2.2.1)) (ExtB.refl gr w).2.2.2.1, htl, fun hne => hts (fun h0 => hne (by unfold Qcd; rw [h0, QaI]))⟩)
end Go.Proofs.Ytfelfmchachljaa.Wr
end
section
namespace Go.Proofs.Ytfelfmchachljaa.Wr
open Go Go.RowKit
open Rely Auto Own Sha
set_option linter.unusedVariables false
set_option linter.unusedSimpArgs false
set_option maxHeartbeats 4000000 in
theorem Qdj (xs : List Int) (a_y : Option Addr) (c_y : Nat) (w : World) (hyb : Qap xs) (hy : RdK .u8 w.heap.size xs (.slice a_y xs.length c_y) w) (hS : Qcd (Qal xs) = some []) : Calls Try.prog 54 #[.slice a_y xs.length c_y, .func (.func 55) #[] #[]] w (Qbv w (fun v W => ∃ (ts : List NdV) (a : Option Addr) (c : Nat), v = .tuple #[.slice a ts.length c, .nilIface] ∧ OwT w.heap.size ts (.slice a ts.length c) W ∧ ts.length ≤ 255 ∧ ts.length = Qbx (Qal xs) ∧ ∀ j, j < ts.length → NdIs (itT (Qad (Qal xs) 1) j) (ndi ts j).n)) := by
  refine enter 33 [(0, .slice a_y xs.length c_y), (1, .func (.func 55) #[] #[])] Try.func54 rfl rfl kj rfl ?_
  refine wp_seq_k fun K1 hK1 => ?_
  refine Qab ?_
  refine Qaa (.slice none 0 0) 4 rfl kj kj ?_
  refine Qaa (.nilIface) 5 rfl kj kj ?_
  refine Qae ?_
  refine hK1 _ _ ?_
  refine wp_seq_k fun K2 hK2 => ?_
  refine Qab ?_
  refine Qaa (.slice a_y xs.length c_y) 9 rfl kj kj ?_
  refine Qaa (.slice a_y xs.length c_y) 10 rfl kj kj ?_
  refine Qaa (.int .i64 ((xs.length : Nat) : Int)) 11 rfl kj kj ?_
  refine Qaa (.bool (decide (((xs.length : Nat) : Int) > 65536))) 12 rfl kj kj ?_
  refine Qaa (.agg (cat [#[.slice a_y xs.length c_y], #[.bool (decide (((xs.length : Nat) : Int) > 65536))]])) 13 rfl kj kj ?_
  refine Qas (cat [#[.slice a_y xs.length c_y], #[.bool (decide (((xs.length : Nat) : Int) > 65536))]]) 179 14 rfl kj kj fun g3 W1 l3 e1 r3_1 => ?_
  have x1 : Ext w W1 := Ext.tr (Rely.Ext.refl w) e1
  have b3 : w.heap.size ≤ g3 := Nat.le_trans (Rely.Ext.refl w).size l3
  refine Qaa (.pointer (some ⟨g3, 0, none⟩)) 6 rfl kj kj ?_
  refine Qae ?_
  refine hK2 _ _ ?_
  refine wp_seq_k fun K4 hK4 => ?_
  refine Qab ?_
  refine Qaa (.func (.func 55) #[] #[]) 15 rfl kj kj ?_
  refine Qaa (.pointer (some ⟨g3, 0, none⟩)) 16 rfl kj kj ?_
  refine Qai (fun v W' => ExtB g3 W1 W' ∧ RSt w.heap.size g3 (Qcd (Qal xs)) W' ∧ ∃ ts, OwT W1.heap.size ts v W' ∧ ts.length ≤ 255 ∧ (Qcd (Qal xs) ≠ none → ts.length = Qbx (Qal xs) ∧ ∀ j, j < ts.length → NdIs (itT (Qad (Qal xs) 1) j) (ndi ts j).n)) 55 #[.pointer (some ⟨g3, 0, none⟩)] 17 rfl kj kj (QfM w.heap.size g3 (Qal xs) _ b3 ⟨_, xs, _, r3_1, RdK.ext hy x1, hyb, rfl⟩) fun vv5 W2 hh5 => ?_
  obtain ⟨q2, ⟨u5, xs2, bad, rb2, hu5, -, hS2⟩, ts, hot, htl, hts⟩ := hh5
  rw [hS] at hS2
  obtain ⟨au_, cu_, rfl, -⟩ := id hu5
  obtain ⟨at_, ct_, rfl⟩ := hot.sl
  obtain ⟨rfl, rfl⟩ : bad = false ∧ xs2 = [] := by cases bad with | true => cases hS2 | false => exact ⟨rfl, (Option.some.inj hS2).symm⟩
  have rc2 : W2.heap[g3]? = some (.cells (cat [#[.slice au_ 0 cu_], #[.bool false]]) 179) := rb2
  have x2 : Ext w W2 := ExtB.toExt x1 q2 b3
  refine Qaa (.slice at_ ts.length ct_) 7 rfl kj kj ?_
  refine Qae ?_
  refine hK4 _ _ ?_
  refine wp_seq_k fun K6 hK6 => ?_
  refine wp_seq_k fun K7 hK7 => ?_
  refine Qab ?_
  refine Qaa (.pointer (some ⟨g3, 0, none⟩)) 18 rfl kj kj ?_
  refine Qaa (.pointer (some ⟨g3, 0, none⟩)) 19 rfl kj kj ?_
  refine Qaa (.pointer (some ⟨g3, 1, none⟩)) 20 rfl kj kj ?_
  refine Qaa (.bool false) 21 rfl kj (Qah 4 _ g3 1 179 _ (.bool false) _ rc2 rfl kj kj kj) ?_
  refine Qaa (.bool false) 22 rfl kj kj ?_
  refine Qaa (.pointer (some ⟨g3, 0, none⟩)) 23 rfl kj kj ?_
  refine Qaa (.pointer (some ⟨g3, 0, none⟩)) 24 rfl kj kj ?_
  refine Qaa (.pointer (some ⟨g3, 0, none⟩)) 25 rfl kj kj ?_
  refine Qaa (.slice au_ 0 cu_) 26 rfl kj (Qah 26 _ g3 0 179 _ (.slice au_ 0 cu_) _ rc2 rfl kj kj kj) ?_
  refine Qaa (.int .i64 0) 27 rfl kj kj ?_
  refine Qaa (.bool false) 28 rfl kj kj ?_
  refine Qaa (.bool false) 29 rfl kj kj ?_
  refine Qae ?_
  refine hK7 _ _ ?_
  refine cond_false kj ?_
  refine wp_skip ?_
  refine hK6 _ _ ?_
  refine wp_seq_k fun K8 hK8 => ?_
  refine Qab ?_
  refine Qaa (.slice at_ ts.length ct_) 32 rfl kj kj ?_
  refine Qaa (.slice at_ ts.length ct_) 4 rfl kj kj ?_
  refine Qaa (.nilIface) 5 rfl kj kj ?_
  refine Qae ?_
  refine hK8 _ _ ?_
  refine wp_ret ?_
  repeat (first | with_reducible refine goR1 ?_ | with_reducible refine goR2 ?_)
  exact (show bodyPost _ _ _ .ret _ _ from ret2 (.slice at_ ts.length ct_) (.nilIface) rfl (Qaq kj) (Qaq kj) ⟨_, rfl, x2, ts, _, _, rfl, OwT.base hot x1.size, htl, hts (by rw [hS]; exact fun h => by cases h)⟩)
set_option maxHeartbeats 4000000 in
theorem Qdm (xs : List Int) (a_y : Option Addr) (c_y : Nat) (w : World) (hyb : Qap xs) (hy : RdK .u8 w.heap.size xs (.slice a_y xs.length c_y) w) (hS : Qcd (Qal xs) = some []) : Calls Try.prog 17 #[.slice a_y xs.length c_y] w (Qbv w (fun v W => ∃ (ts : List NdV) (a : Option Addr) (c : Nat), v = .tuple #[.slice a ts.length c, .nilIface] ∧ OwT w.heap.size ts (.slice a ts.length c) W ∧ ts.length ≤ 255 ∧ ts.length = Qbx (Qal xs) ∧ ∀ j, j < ts.length → NdIs (itT (Qad (Qal xs) 1) j) (ndi ts j).n)) := by
  refine enter 8 [(0, .slice a_y xs.length c_y)] Try.func17 rfl rfl kj rfl ?_
  refine wp_seq_k fun K1 hK1 => ?_
  refine Qab ?_
  refine Qaa (.slice none 0 0) 2 rfl kj kj ?_
  refine Qaa (.nilIface) 3 rfl kj kj ?_
  refine Qae ?_
  refine hK1 _ _ ?_
  refine wp_seq_k fun K2 hK2 => ?_
  refine Qab ?_
  refine Qaa (.slice a_y xs.length c_y) 4 rfl kj kj ?_
  refine Qai (fun v W' => (fun v W => ∃ (ts : List NdV) (a : Option Addr) (c : Nat), v = .tuple #[.slice a ts.length c, .nilIface] ∧ OwT w.heap.size ts (.slice a ts.length c) W ∧ ts.length ≤ 255 ∧ ts.length = Qbx (Qal xs) ∧ ∀ j, j < ts.length → NdIs (itT (Qad (Qal xs) 1) j) (ndi ts j).n) v W' ∧ Ext w W') 54 #[.slice a_y xs.length c_y, .func (.func 55) #[] #[]] 5 rfl kj kj ((Qdj xs _ _ _ hyb (RdK.here (RdK.ext hy (Rely.Ext.refl w))) hS).mono (by rintro e w' ⟨v, rfl, e1, hv⟩; exact ⟨v, rfl, hv, e1⟩)) fun vv3 W1 hh3 => ?_
  obtain ⟨hv3, e1⟩ := hh3
  have x1 : Ext w W1 := Ext.tr (Rely.Ext.refl w) e1
  obtain ⟨ts, at_, ct_, rfl, hot, htl, hts⟩ := hv3
  refine Qaa (.slice at_ ts.length ct_) 6 rfl kj kj ?_
  refine Qaa (.nilIface) 7 rfl kj kj ?_
  refine Qaa (.slice at_ ts.length ct_) 2 rfl kj kj ?_
  refine Qaa (.nilIface) 3 rfl kj kj ?_
  refine Qae ?_
  refine hK2 _ _ ?_
  refine wp_ret ?_
  repeat (first | with_reducible refine goR1 ?_ | with_reducible refine goR2 ?_)
  exact (show bodyPost _ _ _ .ret _ _ from ret2 (.slice at_ ts.length ct_) (.nilIface) rfl (Qaq kj) (Qaq kj) ⟨_, rfl, x1, ts, _, _, rfl, OwT.base hot (Rely.Ext.refl w).size, htl, hts⟩)
end Go.Proofs.Ytfelfmchachljaa.Wr
end
section
namespace Go.Proofs.Ytfelfmchachljaa.Wr
open Go Go.RowKit
open Rely Auto Own Sha
set_option linter.unusedVariables false
set_option linter.unusedSimpArgs false
set_option maxHeartbeats 4000000 in
theorem Qff (w : World) : Calls Try.prog 12 #[] w (Ret w (.bool true)) := by
  refine enter 40 [] Try.func12 rfl rfl kj rfl ?_
  refine wp_seq_k fun K1 hK1 => ?_
  refine Qab ?_
  refine Qaa (.bool false) 0 rfl kj kj ?_
  refine Qae ?_
  refine hK1 _ _ ?_
  refine wp_seq_k fun K2 hK2 => ?_
  refine Qab ?_
  refine Qaa (.agg (cat [(Array.replicate 32 (.int .u8 0)), #[.int .i64 0], #[.int .i64 0], #[.int .i64 0], #[.slice none 0 0]])) 7 rfl kj kj ?_
  refine Qai (fun v W' => (PutR w.heap.size (some (List.replicate 43 (0 : Int)))) v W' ∧ Ext w W') 34 #[.agg (cat [(Array.replicate 32 (.int .u8 0)), #[.int .i64 0], #[.int .i64 0], #[.int .i64 0], #[.slice none 0 0]])] 8 rfl kj kj ((Qdz (List.replicate 32 0) 0 0 0 [] none 0 _ rfl (fun x hx => by rw [(List.mem_replicate.1 hx).2]; decide) (by decide) Qb8 (Qfs _ _) (List.replicate 43 (0 : Int)) (by decide +kernel)).mono (by rintro e w' ⟨v, rfl, e1, hv⟩; exact ⟨v, rfl, hv, e1⟩)) fun vv3 W1 hh3 => ?_
  obtain ⟨hv3, e1⟩ := hh3
  have x1 : Ext w W1 := Ext.tr (Rely.Ext.refl w) e1
  obtain ⟨ub, rfl, hub⟩ := hv3
  obtain ⟨ab, cb, rfl, hcb, -⟩ := id (OwnN.rd hub)
  have hb43 : OwnN .u8 5 w.heap.size (List.replicate 43 (0 : Int)) (.slice ab 43 cb) W1 := hub
  replace hcb : 43 ≤ cb := hcb
  refine Qaa (.tuple #[.slice ab 43 cb, .nilIface]) 6 rfl kj kj ?_
  refine Qaa (.slice ab 43 cb) 9 rfl kj kj ?_
  refine Qaa (.nilIface) 10 rfl kj kj ?_
  refine Qaa (.slice ab 43 cb) 1 rfl kj kj ?_
  refine Qaa (.nilIface) 2 rfl kj kj ?_
  refine Qae ?_
  refine hK2 _ _ ?_
  refine wp_seq_k fun K4 hK4 => ?_
  refine wp_seq_k fun K5 hK5 => ?_
  refine Qab ?_
  refine Qaa (.nilIface) 11 rfl kj kj ?_
  refine Qaa (.bool false) 12 rfl kj kj ?_
  refine Qaa (.bool false) 13 rfl kj kj ?_
  refine Qaa (.slice ab 43 cb) 14 rfl kj kj ?_
  refine Qaa (.int .i64 43) 15 rfl kj kj ?_
  refine Qaa (.bool false) 16 rfl kj kj ?_
  refine Qaa (.bool false) 17 rfl kj kj ?_
  refine Qae ?_
  refine hK5 _ _ ?_
  refine cond_false kj ?_
  refine wp_skip ?_
  refine hK4 _ _ ?_
  refine wp_seq_k fun K6 hK6 => ?_
  refine Qab ?_
  refine Qaa (.slice ab 43 cb) 19 rfl kj kj ?_
  refine Qai (fun v W' => (fun v W => ∃ (a_s : Option Addr) (c_s : Nat), v = .tuple #[.agg (cat [ints .u8 (pGrp (Qal (List.replicate 43 (0 : Int)))), #[.int .i64 (pEp (Qal (List.replicate 43 (0 : Int))))], #[.int .i64 (pFr (Qal (List.replicate 43 (0 : Int))))], #[.int .i64 (pNo (Qal (List.replicate 43 (0 : Int))))], #[.slice a_s (pSe (Qal (List.replicate 43 (0 : Int)))).length c_s]]), .nilIface] ∧ OwnN .u8 5 W1.heap.size (pSe (Qal (List.replicate 43 (0 : Int)))) (.slice a_s (pSe (Qal (List.replicate 43 (0 : Int)))).length c_s) W ∧ Qap (pSe (Qal (List.replicate 43 (0 : Int)))) ∧ (pSe (Qal (List.replicate 43 (0 : Int)))).length ≤ 65535) v W' ∧ Ext W1 W') 36 #[.slice ab 43 cb] 20 rfl kj kj ((QcF (List.replicate 43 (0 : Int)) _ _ _ (fun x hx => by rw [(List.mem_replicate.1 hx).2]; decide) (RdK.here (OwnN.rd hb43)) (by decide +kernel)).mono (by rintro e w' ⟨v, rfl, e1, hv⟩; exact ⟨v, rfl, hv, e1⟩)) fun vv7 W2 hh7 => ?_
  obtain ⟨hv7, e2⟩ := hh7
  have x2 : Ext w W2 := Ext.tr x1 e2
  obtain ⟨as1, cs1, rfl, hs1, -, -⟩ := hv7
  refine Qaa (.tuple #[.agg (cat [ints .u8 (pGrp (Qal (List.replicate 43 (0 : Int)))), #[.int .i64 (pEp (Qal (List.replicate 43 (0 : Int))))], #[.int .i64 (pFr (Qal (List.replicate 43 (0 : Int))))], #[.int .i64 (pNo (Qal (List.replicate 43 (0 : Int))))], #[.slice as1 ((pSe (Qal (List.replicate 43 (0 : Int)))).length) cs1]]), .nilIface]) 18 rfl kj kj ?_
  refine Qaa (.agg (cat [ints .u8 (pGrp (Qal (List.replicate 43 (0 : Int)))), #[.int .i64 (pEp (Qal (List.replicate 43 (0 : Int))))], #[.int .i64 (pFr (Qal (List.replicate 43 (0 : Int))))], #[.int .i64 (pNo (Qal (List.replicate 43 (0 : Int))))], #[.slice as1 ((pSe (Qal (List.replicate 43 (0 : Int)))).length) cs1]])) 21 rfl kj kj ?_
  refine Qaa (.nilIface) 22 rfl kj kj ?_
  refine Qas (cat [(Array.replicate 32 (.int .u8 0)), #[.int .i64 0], #[.int .i64 0], #[.int .i64 0], #[.slice none 0 0]]) 81 3 rfl kj kj fun g8 W3 l8 e3 r8_3 => ?_
  have x3 : Ext w W3 := Ext.tr x2 e3
  have b8 : w.heap.size ≤ g8 := Nat.le_trans x2.size l8
  refine Qa2 g8 _ (cat [ints .u8 (pGrp (Qal (List.replicate 43 (0 : Int)))), #[.int .i64 (pEp (Qal (List.replicate 43 (0 : Int))))], #[.int .i64 (pFr (Qal (List.replicate 43 (0 : Int))))], #[.int .i64 (pNo (Qal (List.replicate 43 (0 : Int))))], #[.slice as1 ((pSe (Qal (List.replicate 43 (0 : Int)))).length) cs1]]) 81 r8_3 rfl kj (Qay 81 _ _ g8 81 _ _ r8_3 rfl kj kj (isz (n := 36) kj (by rw [Qac, Qac, Qac, Qac, Qac]; simp only [Array.size_append, cat, ((Qaf _ _).trans (QaH (Qal (List.replicate 43 (0 : Int)))))]; rfl)) (eqsz (n := 36) kj (by rw [Qac, Qac, Qac, Qac, Qac]; simp only [Array.size_append, cat, ((Qaf _ _).trans (QaH (Qal (List.replicate 43 (0 : Int)))))]; rfl)) (QaO _ (by intro a ha; simp only [List.mem_cons, List.not_mem_nil, or_false] at ha; rcases ha with rfl | rfl | rfl | rfl | rfl; exact (Qa5 _ _); exact (Qav _ rfl); exact (Qav _ rfl); exact (Qav _ rfl); exact (Qav _ rfl)))) fun W4 p4 r8_4 => ?_
  have x4 : Ext w W4 := Puts.ext p4 x3 b8
  refine Qaa (.nilIface) 2 rfl kj kj ?_
  refine Qae ?_
  refine hK6 _ _ ?_
  refine wp_seq_k fun K9 hK9 => ?_
  refine Qab ?_
  refine Qaa (.slice ab 43 cb) 24 rfl kj kj ?_
  refine Qaa (.slice (Qch ab cb 1) (43 - 1) (cb - 1)) 25 rfl kj (Qcu 26 _ _ 1 5 rfl (a := ab) (len := 43) (cap := cb) kj kj kj .i64 kj (by decide) hcb) ?_
  have f10_2 := (hb43.ext e2)
  have f11_3 := (f10_2.ext e3)
  have f12_4 := (f11_3.puts p4 (QcX f10_2 l8))
  refine Qax (.tuple #[.agg (cat [(Array.replicate 32 (.int .u8 0)), #[.int .i64 0], #[.int .i64 0], #[.int .i64 0], #[.slice none 0 0]]), .iface 102 (.int .i64 3)]) 36 #[.slice (Qch ab cb 1) (43 - 1) (cb - 1)] 26 rfl kj kj (QcW ((List.replicate 43 (0 : Int)).drop 1) _ _ _ (QbC (fun x hx => by rw [(List.mem_replicate.1 hx).2]; decide) 1) (RdK.here (Qd5 (OwnN.rd f12_4) 1 (by decide))) (by decide +kernel)) fun W5 e5 => ?_
  have x5 : Ext w W5 := Ext.tr x4 e5
  refine Qaa (.tuple #[.agg (cat [(Array.replicate 32 (.int .u8 0)), #[.int .i64 0], #[.int .i64 0], #[.int .i64 0], #[.slice none 0 0]]), .iface 102 (.int .i64 3)]) 23 rfl kj kj ?_
  refine Qaa (.agg (cat [(Array.replicate 32 (.int .u8 0)), #[.int .i64 0], #[.int .i64 0], #[.int .i64 0], #[.slice none 0 0]])) 27 rfl kj kj ?_
  refine Qaa (.iface 102 (.int .i64 3)) 28 rfl kj kj ?_
  refine Qas (cat [(Array.replicate 32 (.int .u8 0)), #[.int .i64 0], #[.int .i64 0], #[.int .i64 0], #[.slice none 0 0]]) 81 4 rfl kj kj fun g13 W6 l13 e6 r13_6 => ?_
  have x6 : Ext w W6 := Ext.tr x5 e6
  have b13 : w.heap.size ≤ g13 := Nat.le_trans x5.size l13
  refine Qa2 g13 _ (cat [(Array.replicate 32 (.int .u8 0)), #[.int .i64 0], #[.int .i64 0], #[.int .i64 0], #[.slice none 0 0]]) 81 r13_6 rfl kj (Qay 81 _ _ g13 81 _ _ r13_6 rfl kj kj (isz (n := 36) kj kj) (eqsz (n := 36) kj kj) kj) fun W7 p7 r13_7 => ?_
  have x7 : Ext w W7 := Puts.ext p7 x6 b13
  refine Qaa (.iface 102 (.int .i64 3)) 5 rfl kj kj ?_
  refine Qae ?_
  refine hK9 _ _ ?_
  refine wp_seq_k fun K14 hK14 => ?_
  refine Qab ?_
  refine Qaa (.nilIface) 29 rfl kj kj ?_
  refine Qaa (.bool true) 30 rfl kj kj ?_
  refine Qaa (.bool true) 31 rfl kj kj ?_
  refine Qaa (.pointer (some ⟨g8, 32, none⟩)) 32 rfl kj kj ?_
  have r8_5 := (Qat r8_4 e5)
  have r8_6 := (Qat r8_5 e6)
  have r8_7 := (Puts.row p7 r8_6 (QaF r8_5 l13))
  refine Qaa (.int .i64 (pEp (Qal (List.replicate 43 (0 : Int))))) 33 rfl kj (Qah 3 _ g8 32 81 _ (.int .i64 (pEp (Qal (List.replicate 43 (0 : Int))))) _ r8_7 rfl kj (Qak [ints .u8 (pGrp (Qal (List.replicate 43 (0 : Int))))] [#[.int .i64 (pEp (Qal (List.replicate 43 (0 : Int))))]] [#[.int .i64 (pFr (Qal (List.replicate 43 (0 : Int))))], #[.int .i64 (pNo (Qal (List.replicate 43 (0 : Int))))], #[.slice as1 ((pSe (Qal (List.replicate 43 (0 : Int)))).length) cs1]] 32 ((Qaf _ _).trans (QaH (Qal (List.replicate 43 (0 : Int))))) 0 _ rfl) kj) ?_
  refine Qaa (.bool true) 34 rfl kj kj ?_
  refine Qaa (.bool true) 35 rfl kj kj ?_
  refine Qaa (.bool true) 36 rfl kj kj ?_
  refine Qaa (.iface 102 (.int .i64 3)) 37 rfl kj kj ?_
  refine Qax (.bool true) 45 #[.iface 102 (.int .i64 3), .int .i64 3] 38 rfl kj kj ((is3) _) fun W8 e8 => ?_
  have x8 : Ext w W8 := Ext.tr x7 e8
  refine Qaa (.bool true) 39 rfl kj kj ?_
  refine Qaa (.bool true) 0 rfl kj kj ?_
  refine Qae ?_
  refine hK14 _ _ ?_
  refine wp_ret ?_
  repeat (first | with_reducible refine goR1 ?_ | with_reducible refine goR2 ?_)
  exact (show bodyPost _ _ _ .ret _ _ from ret1 (.bool true) rfl (Qaq kj) ⟨rfl, x8⟩)
end Go.Proofs.Ytfelfmchachljaa.Wr
end
section
namespace Go.Proofs.Ytfelfmchachljaa.Wr
open Go Go.RowKit
open Rely Auto Own Sha
set_option linter.unusedVariables false
set_option linter.unusedSimpArgs false
set_option maxHeartbeats 4000000 in
theorem QeO (us : Bool) (nm : Int) (key sg pa ms : List Int) (a_m : Option Addr) (c_m : Nat) (w : World) (hkl : key.length = 32) (hgl : sg.length = 32) (hpl : pa.length = 32) (h : ms.length < 100) : Calls Try.prog 20 #[.agg (cat [#[.bool us], #[.int .i64 nm], ints .u8 (key), ints .u8 (sg), ints .u8 (pa), #[.slice a_m ms.length c_m]])] w (Ret w (.bool true)) := by
  refine enter 7 [(0, .agg (cat [#[.bool us], #[.int .i64 nm], ints .u8 (key), ints .u8 (sg), ints .u8 (pa), #[.slice a_m ms.length c_m]]))] Try.func20 rfl rfl kj rfl ?_
  refine wp_seq_k fun K1 hK1 => ?_
  refine Qab ?_
  refine Qas (cat [#[.bool us], #[.int .i64 nm], ints .u8 (key), ints .u8 (sg), ints .u8 (pa), #[.slice a_m ms.length c_m]]) 43 1 rfl kj kj fun g2 W1 l2 e1 r2_1 => ?_
  have x1 : Ext w W1 := Ext.tr (Rely.Ext.refl w) e1
  have b2 : w.heap.size ≤ g2 := Nat.le_trans (Rely.Ext.refl w).size l2
  refine Qaa (.bool false) 2 rfl kj kj ?_
  refine Qae ?_
  refine hK1 _ _ ?_
  refine wp_seq_k fun K3 hK3 => ?_
  refine Qab ?_
  refine Qaa (.pointer (some ⟨g2, 98, none⟩)) 3 rfl kj kj ?_
  refine Qaa (.slice a_m ms.length c_m) 4 rfl kj (Qah 41 _ g2 98 43 _ (.slice a_m ms.length c_m) _ r2_1 rfl kj (Qak [#[.bool us], #[.int .i64 nm], ints .u8 (key), ints .u8 (sg), ints .u8 (pa)] [#[.slice a_m ms.length c_m]] [] 98 (by rw [Qac, Qac, Qac, Qac, Qac]; simp only [Array.size_append, cat, ((Qaf _ _).trans hgl), ((Qaf _ _).trans hkl), ((Qaf _ _).trans hpl)]; rfl) 0 _ rfl) kj) ?_
  refine Qaa (.int .i64 ((ms.length : Nat) : Int)) 5 rfl kj kj ?_
  refine Qaa (.bool true) 6 rfl kj (Qar (u := .bool (decide (((ms.length : Nat) : Int) < 100))) kj (congrArg Value.bool (decide_eq_true (by omega)))) ?_
  refine Qaa (.bool true) 2 rfl kj kj ?_
  refine Qae ?_
  refine hK3 _ _ ?_
  refine wp_ret ?_
  repeat (first | with_reducible refine goR1 ?_ | with_reducible refine goR2 ?_)
  exact (show bodyPost _ _ _ .ret _ _ from ret1 (.bool true) rfl (Qaq kj) ⟨rfl, x1⟩)
set_option maxHeartbeats 4000000 in
theorem QeP (us : Bool) (nm : Int) (key sg pa ms : List Int) (a_m : Option Addr) (c_m : Nat) (w : World) (hkl : key.length = 32) (hgl : sg.length = 32) (hpl : pa.length = 32) (h : 100 ≤ ms.length) : Calls Try.prog 20 #[.agg (cat [#[.bool us], #[.int .i64 nm], ints .u8 (key), ints .u8 (sg), ints .u8 (pa), #[.slice a_m ms.length c_m]])] w (Ret w (.bool false)) := by
  refine enter 7 [(0, .agg (cat [#[.bool us], #[.int .i64 nm], ints .u8 (key), ints .u8 (sg), ints .u8 (pa), #[.slice a_m ms.length c_m]]))] Try.func20 rfl rfl kj rfl ?_
  refine wp_seq_k fun K1 hK1 => ?_
  refine Qab ?_
  refine Qas (cat [#[.bool us], #[.int .i64 nm], ints .u8 (key), ints .u8 (sg), ints .u8 (pa), #[.slice a_m ms.length c_m]]) 43 1 rfl kj kj fun g2 W1 l2 e1 r2_1 => ?_
  have x1 : Ext w W1 := Ext.tr (Rely.Ext.refl w) e1
  have b2 : w.heap.size ≤ g2 := Nat.le_trans (Rely.Ext.refl w).size l2
  refine Qaa (.bool false) 2 rfl kj kj ?_
  refine Qae ?_
  refine hK1 _ _ ?_
  refine wp_seq_k fun K3 hK3 => ?_
  refine Qab ?_
  refine Qaa (.pointer (some ⟨g2, 98, none⟩)) 3 rfl kj kj ?_
  refine Qaa (.slice a_m ms.length c_m) 4 rfl kj (Qah 41 _ g2 98 43 _ (.slice a_m ms.length c_m) _ r2_1 rfl kj (Qak [#[.bool us], #[.int .i64 nm], ints .u8 (key), ints .u8 (sg), ints .u8 (pa)] [#[.slice a_m ms.length c_m]] [] 98 (by rw [Qac, Qac, Qac, Qac, Qac]; simp only [Array.size_append, cat, ((Qaf _ _).trans hgl), ((Qaf _ _).trans hkl), ((Qaf _ _).trans hpl)]; rfl) 0 _ rfl) kj) ?_
  refine Qaa (.int .i64 ((ms.length : Nat) : Int)) 5 rfl kj kj ?_
  refine Qaa (.bool false) 6 rfl kj (Qar (u := .bool (decide (((ms.length : Nat) : Int) < 100))) kj (congrArg Value.bool (decide_eq_false (by omega)))) ?_
  refine Qaa (.bool false) 2 rfl kj kj ?_
  refine Qae ?_
  refine hK3 _ _ ?_
  refine wp_ret ?_
  repeat (first | with_reducible refine goR1 ?_ | with_reducible refine goR2 ?_)
  exact (show bodyPost _ _ _ .ret _ _ from ret1 (.bool false) rfl (Qaq kj) ⟨rfl, x1⟩)
set_option maxHeartbeats 4000000 in
theorem chkT (ts : List NdV) (a_t : Option Addr) (c_t : Nat) (w : World) (htr : TrAt w.heap.size w a_t ts) : Calls Try.prog 13 #[.slice a_t ts.length c_t] w (fun e W => ∃ v, e = .returned v ∧ Ext w W ∧ ∃ b, v = .bool b ∧ (b = true → ts.length ≤ 101 ∧ ∀ i, i < ts.length → (ndi ts i).n.ms.length < 100)) := by
 refine enter 20 [(0, .slice a_t ts.length c_t)] Try.func13 rfl rfl kj rfl ?_
 refine wp_seq_k fun K1 hK1 => ?_
 refine Qab ?_
 refine Qaa (.bool false) 2 rfl kj kj ?_
 refine Qae ?_
 refine hK1 _ _ ?_
 refine wp_seq_k fun K2 hK2 => ?_
 refine wp_seq_k fun K3 hK3 => ?_
 refine Qab ?_
 refine Qaa (.slice a_t ts.length c_t) 5 rfl kj kj ?_
 refine Qaa (.int .i64 ((ts.length : Nat) : Int)) 6 rfl kj kj ?_
 refine Qaa (.int .i64 0) 7 rfl kj kj ?_
 refine Qae ?_
 refine hK3 _ _ ?_
 refine wp_block ?_
 refine QaB (fun (s1 : Nat) => [(0, .slice a_t ts.length c_t), (5, .slice a_t ts.length c_t), (6, .int .i64 ((ts.length : Nat) : Int)), (7, .int .i64 ((s1 : Nat) : Int))]) (fun (s1 : Nat) W => (s1 ≤ ts.length ∧ s1 ≤ 101) ∧ (∀ j, j < s1 → (ndi ts j).n.ms.length < 100) ∧ (Ext w W) ∧ (Ext w W)) (fun (s1 : Nat) => ts.length - s1) 0 ⟨rfl, rfl, rfl, rfl, trivial⟩ ⟨⟨Nat.zero_le _, Nat.zero_le _⟩, (fun j hj => absurd hj (Nat.not_lt_zero _)), (Rely.Ext.refl w), (Rely.Ext.refl w)⟩ fun s1 X1 V1 hI1 => ?_
 obtain ⟨i, hs1⟩ : ∃ z, z = s1 := ⟨_, rfl⟩
 subst hs1
 obtain ⟨hi, hr, kk1, xx1⟩ := hI1
 replace hi : i ≤ ts.length ∧ i ≤ 101 := hi
 replace hr : ∀ j, j < i → (ndi ts j).n.ms.length < 100 := hr
 replace kk1 : Ext w V1 := kk1
 replace xx1 : Ext w V1 := xx1
 have e1 := kk1
 refine wp_seq_k fun K4 hK4 => ?_
 refine Qab ?_
 refine Qaa (.bool (decide (((i : Nat) : Int) < ((ts.length : Nat) : Int)))) 8 rfl kj kj ?_
 refine Qae ?_
 refine hK4 _ _ ?_
 refine wp_seq_k fun K5 hK5 => ?_
 refine Qaz (t := decide (((i : Nat) : Int) < ((ts.length : Nat) : Int))) kj (fun c6 => ?_) (fun c6 => ?_)
 ·skip
  have hlt8 : i < ts.length := by have := of_decide_eq_true c6; omega
  refine wp_skip ?_
  refine hK5 _ _ ?_
  refine wp_seq_k fun K7 hK7 => ?_
  refine wp_block ?_
  refine wp_seq_k fun K8 hK8 => ?_
  refine Qab ?_
  refine Qaa (.int .i64 ((i : Nat) : Int)) 9 rfl kj kj ?_
  obtain ⟨gT, oT, hat, hnds⟩ := (TrAt.ext htr xx1)
  have hnd := hnds i (by omega)
  obtain ⟨_, _, -, hnds0⟩ := id htr
  have hrd0 := (hnds0 i (by omega)).rd
  obtain ⟨nd, hndi⟩ : ∃ z, z = ndi ts i := ⟨_, rfl⟩
  rw [← hndi] at hnd hrd0
  have hok := hnd.ok
  refine Qaa (.pointer (some ⟨gT, oT + i * 99, none⟩)) 10 rfl kj (QaE 23 _ _ .i64 i gT oT ts.length c_t 43 99 a_t (hat (by omega)) rfl kj kj kj kj (by omega)) ?_
  refine Qaa (.agg (cat [#[.bool nd.n.us], #[.int .i64 nd.n.nm], ints .u8 (nd.n.key), ints .u8 (nd.n.sg), ints .u8 (nd.n.pa), #[.slice nd.a nd.n.ms.length nd.c]])) 11 rfl kj (QaC 43 _ gT (oT + i * 99) nd hnd rfl kj kj kj) ?_
  refine Qas (cat [#[.bool false], #[.int .i64 0], ints .u8 (List.replicate 32 0), ints .u8 (List.replicate 32 0), ints .u8 (List.replicate 32 0), #[.slice none 0 0]]) 43 4 rfl kj (Qcw 43 _ rfl (QeX _)) fun g9 W2 l9 e2 r9_2 => ?_
  have x2 : Ext w W2 := Ext.tr xx1 e2
  have b9 : w.heap.size ≤ g9 := Nat.le_trans xx1.size l9
  refine Qaa (.int .i64 ((i : Nat) : Int)) 3 rfl kj kj ?_
  refine Qa2 g9 _ (cat [#[.bool nd.n.us], #[.int .i64 nd.n.nm], ints .u8 (nd.n.key), ints .u8 (nd.n.sg), ints .u8 (nd.n.pa), #[.slice nd.a nd.n.ms.length nd.c]]) 43 r9_2 rfl kj (Qay 43 _ _ g9 43 _ _ r9_2 rfl kj kj (isz (n := 99) kj (by rw [Qac, Qac, Qac, Qac, Qac, Qac]; simp only [Array.size_append, cat, ((Qaf _ _).trans hok.gl), ((Qaf _ _).trans hok.kl), ((Qaf _ _).trans hok.pl)]; rfl)) (eqsz (n := 99) (by rw [Qac, Qac, Qac, Qac, Qac, Qac]; simp only [Array.size_append, cat, ((Qaf _ _).trans (List.length_replicate (n := 32)))]; rfl) (by rw [Qac, Qac, Qac, Qac, Qac, Qac]; simp only [Array.size_append, cat, ((Qaf _ _).trans hok.gl), ((Qaf _ _).trans hok.kl), ((Qaf _ _).trans hok.pl)]; rfl)) (QaO _ (by intro a ha; simp only [List.mem_cons, List.not_mem_nil, or_false] at ha; rcases ha with rfl | rfl | rfl | rfl | rfl | rfl; exact (Qav _ rfl); exact (Qav _ rfl); exact (Qa5 _ _); exact (Qa5 _ _); exact (Qa5 _ _); exact (Qav _ rfl)))) fun W3 p3 r9_3 => ?_
  have x3 : Ext w W3 := Puts.ext p3 x2 b9
  refine Qae ?_
  refine hK8 _ _ ?_
  refine wp_seq_k fun K10 hK10 => ?_
  rcases (show 100 < i ∨ (i ≤ 100 ∧ nd.n.ms.length < 100) ∨ (i ≤ 100 ∧ 100 ≤ nd.n.ms.length) by omega) with hc1 | ⟨hc1, hc2⟩ | ⟨hc1, hc2⟩
  ·skip
   refine Qab ?_
   refine Qaa (.int .i64 ((i : Nat) : Int)) 12 rfl kj kj ?_
   refine Qaa (.bool true) 13 rfl kj (Qar (u := .bool (decide (((i : Nat) : Int) > 100))) kj (congrArg Value.bool (decide_eq_true (by omega)))) ?_
   refine Qaa (.bool true) 14 rfl kj kj ?_
   refine Qag 15 rfl kj ?_
   refine Qag 16 rfl kj ?_
   refine Qag 17 rfl kj ?_
   refine Qaa (.bool true) 18 rfl kj kj ?_
   refine Qae ?_
   refine hK10 _ _ ?_
   refine cond_true kj ?_
   refine wp_seq_k fun K11 hK11 => ?_
   refine Qab ?_
   refine Qaa (.bool false) 2 rfl kj kj ?_
   refine Qae ?_
   refine hK11 _ _ ?_
   refine wp_ret ?_
   repeat (first | with_reducible refine goR1 ?_ | with_reducible refine goR2 ?_)
   exact (show bodyPost _ _ _ .ret _ _ from ret1 (.bool false) rfl (Qaq kj) ⟨_, rfl, x3, _, rfl, fun h => by cases h⟩)
  ·skip
   refine Qab ?_
   refine Qaa (.int .i64 ((i : Nat) : Int)) 12 rfl kj kj ?_
   refine Qaa (.bool false) 13 rfl kj (Qar (u := .bool (decide (((i : Nat) : Int) > 100))) kj (congrArg Value.bool (decide_eq_false (by omega)))) ?_
   refine Qaa (.bool false) 14 rfl kj kj ?_
   refine Qaa (.agg (cat [#[.bool nd.n.us], #[.int .i64 nd.n.nm], ints .u8 (nd.n.key), ints .u8 (nd.n.sg), ints .u8 (nd.n.pa), #[.slice nd.a nd.n.ms.length nd.c]])) 15 rfl kj (Qa8 43 _ g9 43 _ _ r9_3 rfl kj kj (isz (n := 99) kj (by rw [Qac, Qac, Qac, Qac, Qac, Qac]; simp only [Array.size_append, cat, ((Qaf _ _).trans hok.gl), ((Qaf _ _).trans hok.kl), ((Qaf _ _).trans hok.pl)]; rfl))) ?_
   refine Qax (.bool true) 20 #[.agg (cat [#[.bool nd.n.us], #[.int .i64 nd.n.nm], ints .u8 (nd.n.key), ints .u8 (nd.n.sg), ints .u8 (nd.n.pa), #[.slice nd.a nd.n.ms.length nd.c]])] 16 rfl kj kj (QeO nd.n.us nd.n.nm nd.n.key nd.n.sg nd.n.pa nd.n.ms _ _ _ hok.kl hok.gl hok.pl hc2) fun W4 e4 => ?_
   have x4 : Ext w W4 := Ext.tr x3 e4
   refine Qaa (.bool false) 17 rfl kj kj ?_
   refine Qaa (.bool false) 18 rfl kj kj ?_
   refine Qae ?_
   refine hK10 _ _ ?_
   refine cond_false kj ?_
   refine wp_skip ?_
   refine hK7 _ _ ?_
   refine Qab ?_
   refine Qaa (.int .i64 ((i + 1 : Nat) : Int)) 19 rfl kj (Qar (u := .int .i64 (IntKind.i64.wrap (((i : Nat) : Int) + 1))) kj (congrArg (Value.int .i64) (i64n _ _ (by omega) (by omega)))) ?_
   refine Qaa (.int .i64 ((i + 1 : Nat) : Int)) 7 rfl kj kj ?_
   refine Qae ?_
   have y0_2 : Ext w W2 := (Rely.Ext.trans e1 e2)
   have y0_3 : Ext w W3 := (Puts.ext p3 y0_2 (Nat.le_trans e1.size l9))
   have y0_4 : Ext w W4 := (Rely.Ext.trans y0_3 e4)
   repeat (first | with_reducible refine goX1 ?_ | with_reducible refine goX2 ?_ | with_reducible refine goX3 ?_)
   exact Qa9 (i + 1) ⟨rfl, rfl, rfl, rfl, trivial⟩ ⟨(by omega), (fun j hj => (Nat.lt_or_ge j i).elim (hr j) fun h => by have e : j = i := (by omega); rw [e, ← hndi]; exact hc2), y0_4, x4⟩ (by omega)
  ·skip
   refine Qab ?_
   refine Qaa (.int .i64 ((i : Nat) : Int)) 12 rfl kj kj ?_
   refine Qaa (.bool false) 13 rfl kj (Qar (u := .bool (decide (((i : Nat) : Int) > 100))) kj (congrArg Value.bool (decide_eq_false (by omega)))) ?_
   refine Qaa (.bool false) 14 rfl kj kj ?_
   refine Qaa (.agg (cat [#[.bool nd.n.us], #[.int .i64 nd.n.nm], ints .u8 (nd.n.key), ints .u8 (nd.n.sg), ints .u8 (nd.n.pa), #[.slice nd.a nd.n.ms.length nd.c]])) 15 rfl kj (Qa8 43 _ g9 43 _ _ r9_3 rfl kj kj (isz (n := 99) kj (by rw [Qac, Qac, Qac, Qac, Qac, Qac]; simp only [Array.size_append, cat, ((Qaf _ _).trans hok.gl), ((Qaf _ _).trans hok.kl), ((Qaf _ _).trans hok.pl)]; rfl))) ?_
   refine Qax (.bool false) 20 #[.agg (cat [#[.bool nd.n.us], #[.int .i64 nd.n.nm], ints .u8 (nd.n.key), ints .u8 (nd.n.sg), ints .u8 (nd.n.pa), #[.slice nd.a nd.n.ms.length nd.c]])] 16 rfl kj kj (QeP nd.n.us nd.n.nm nd.n.key nd.n.sg nd.n.pa nd.n.ms _ _ _ hok.kl hok.gl hok.pl hc2) fun W4 e4 => ?_
   have x4 : Ext w W4 := Ext.tr x3 e4
   refine Qaa (.bool true) 17 rfl kj kj ?_
   refine Qaa (.bool true) 18 rfl kj kj ?_
   refine Qae ?_
   refine hK10 _ _ ?_
   refine cond_true kj ?_
   refine wp_seq_k fun K12 hK12 => ?_
   refine Qab ?_
   refine Qaa (.bool false) 2 rfl kj kj ?_
   refine Qae ?_
   refine hK12 _ _ ?_
   refine wp_ret ?_
   repeat (first | with_reducible refine goR1 ?_ | with_reducible refine goR2 ?_)
   exact (show bodyPost _ _ _ .ret _ _ from ret1 (.bool false) rfl (Qaq kj) ⟨_, rfl, x4, _, rfl, fun h => by cases h⟩)
 ·skip
  have heq8 : i = ts.length := by have := of_decide_eq_false c6; omega
  refine wp_exit ?_
  refine hK2 _ _ ?_
  refine wp_seq_k fun K13 hK13 => ?_
  refine Qab ?_
  refine Qaa (.bool true) 2 rfl kj kj ?_
  refine Qae ?_
  refine hK13 _ _ ?_
  refine wp_ret ?_
  repeat (first | with_reducible refine goR1 ?_ | with_reducible refine goR2 ?_)
  exact (show bodyPost _ _ _ .ret _ _ from ret1 (.bool true) rfl (Qaq kj) ⟨_, rfl, xx1, _, rfl, fun _ => ⟨by omega, fun j hj => hr j (by omega)⟩⟩)
set_option maxHeartbeats 4000000 in
theorem Qge (ts : List NdV) (a_t : Option Addr) (c_t : Nat) (w : World) (hok : ∀ n ∈ ts, NdOk n.n) (htr : TrAt w.heap.size w a_t ts) (hS : refT ts = none) : Calls Try.prog 3 #[.slice a_t ts.length c_t] w (Ret w (.bool true)) := by
 refine enter 70 [(0, .slice a_t ts.length c_t)] Try.func3 rfl rfl kj rfl ?_
 refine wp_seq_k fun K1 hK1 => ?_
 refine Qab ?_
 refine Qaa (.bool false) 2 rfl kj kj ?_
 refine Qae ?_
 refine hK1 _ _ ?_
 refine wp_seq_k fun K2 hK2 => ?_
 refine wp_seq_k fun K3 hK3 => ?_
 refine Qab ?_
 refine Qax (.bool true) 12 #[] 12 rfl kj kj ((Qff) _) fun W1 e1 => ?_
 have x1 : Ext w W1 := Ext.tr (Rely.Ext.refl w) e1
 refine Qaa (.bool false) 13 rfl kj kj ?_
 refine Qae ?_
 refine hK3 _ _ ?_
 refine cond_false kj ?_
 refine wp_skip ?_
 refine hK2 _ _ ?_
 refine wp_seq_k fun K4 hK4 => ?_
 refine wp_seq_k fun K5 hK5 => ?_
 refine Qab ?_
 refine Qaa (.slice a_t ts.length c_t) 14 rfl kj kj ?_
 refine Qai (fun v W' => (fun (v : Value) (_ : World) => ∃ b, v = .bool b ∧ (b = true → ts.length ≤ 101 ∧ ∀ i, i < ts.length → (ndi ts i).n.ms.length < 100)) v W' ∧ Ext W1 W') 13 #[.slice a_t ts.length c_t] 15 rfl kj kj ((chkT ts _ _ _ (TrAt.here (TrAt.ext htr x1))).mono (by rintro e w' ⟨v, rfl, e1, hv⟩; exact ⟨v, rfl, hv, e1⟩)) fun vv6 W2 hh6 => ?_
 obtain ⟨hv6, e2⟩ := hh6
 have x2 : Ext w W2 := Ext.tr x1 e2
 obtain ⟨bk, rfl, hbk⟩ := hv6
 refine Qaa (.bool (!bk)) 16 rfl kj kj ?_
 refine Qae ?_
 refine hK5 _ _ ?_
 refine Qaz (t := !bk) kj (fun c7 => ?_) (fun c7 => ?_)
 ·skip
  refine wp_seq_k fun K8 hK8 => ?_
  refine Qab ?_
  refine Qaa (.bool true) 2 rfl kj kj ?_
  refine Qae ?_
  refine hK8 _ _ ?_
  refine wp_ret ?_
  repeat (first | with_reducible refine goR1 ?_ | with_reducible refine goR2 ?_)
  exact (show bodyPost _ _ _ .ret _ _ from ret1 (.bool true) rfl (Qaq kj) ⟨rfl, x2⟩)
 ·skip
  obtain ⟨hb1, hb2⟩ := hbk (by have h9 := c7; cases bk with | true => rfl | false => cases h9)
  refine wp_skip ?_
  refine hK4 _ _ ?_
  refine wp_seq_k fun K9 hK9 => ?_
  refine Qab ?_
  refine Qaa (.slice a_t ts.length c_t) 18 rfl kj kj ?_
  refine Qai (fun v W' => (PutR W2.heap.size none) v W' ∧ Ext W2 W') 14 #[.slice a_t ts.length c_t] 19 rfl kj kj ((Qe3 ts _ _ _ (by omega) (fun i hi => by have := hb2 i hi; omega) (TrAt.here (TrAt.ext htr x2)) ((Qd1 ts hok).trans hS)).mono (by rintro e w' ⟨v, rfl, e1, hv⟩; exact ⟨v, rfl, hv, e1⟩)) fun vv10 W3 hh10 => ?_
  obtain ⟨hv10, e3⟩ := hh10
  have x3 : Ext w W3 := Ext.tr x2 e3
  have hv3 : vv10 = .tuple #[.slice none 0 0, .iface 102 (.int .i64 3)] := hv10
  subst hv3
  refine Qaa (.tuple #[.slice none 0 0, .iface 102 (.int .i64 3)]) 17 rfl kj kj ?_
  refine Qaa (.slice none 0 0) 20 rfl kj kj ?_
  refine Qaa (.iface 102 (.int .i64 3)) 21 rfl kj kj ?_
  refine Qaa (.slice none 0 0) 3 rfl kj kj ?_
  refine Qaa (.iface 102 (.int .i64 3)) 4 rfl kj kj ?_
  refine Qae ?_
  refine hK9 _ _ ?_
  refine wp_seq_k fun K11 hK11 => ?_
  refine Qab ?_
  refine Qaa (.slice a_t ts.length c_t) 23 rfl kj kj ?_
  refine Qai (fun v W' => (Qdy W3.heap.size (refT ts)) v W' ∧ Ext W3 W') 15 #[.slice a_t ts.length c_t] 24 rfl kj kj ((QbI ts _ _ _ (by omega) (fun i hi => by have := hb2 i hi; omega) hok (TrAt.here (TrAt.ext htr x3))).mono (by rintro e w' ⟨v, rfl, e1, hv⟩; exact ⟨v, rfl, hv, e1⟩)) fun vv12 W4 hh12 => ?_
  obtain ⟨hv12, e4⟩ := hh12
  have x4 : Ext w W4 := Ext.tr x3 e4
  rw [hS] at hv12
  have hv4 : vv12 = .tuple #[.slice none 0 0, .bool false] := hv12
  subst hv4
  refine Qaa (.tuple #[.slice none 0 0, .bool false]) 22 rfl kj kj ?_
  refine Qaa (.slice none 0 0) 25 rfl kj kj ?_
  refine Qaa (.bool false) 26 rfl kj kj ?_
  refine Qaa (.slice none 0 0) 5 rfl kj kj ?_
  refine Qaa (.bool false) 6 rfl kj kj ?_
  refine Qae ?_
  refine hK11 _ _ ?_
  refine wp_seq_k fun K14 hK14 => ?_
  refine wp_seq_k fun K15 hK15 => ?_
  refine Qab ?_
  refine Qaa (.slice none 0 0) 27 rfl kj kj ?_
  refine Qaa (.iface 102 (.int .i64 3)) 28 rfl kj kj ?_
  refine Qaa (.slice none 0 0) 29 rfl kj kj ?_
  refine Qaa (.bool false) 30 rfl kj kj ?_
  refine Qax (.bool true) 16 #[.slice none 0 0, .iface 102 (.int .i64 3), .slice none 0 0, .bool false] 31 rfl kj kj ((QeV _) _) fun W5 e5 => ?_
  have x5 : Ext w W5 := Ext.tr x4 e5
  refine Qaa (.bool false) 32 rfl kj kj ?_
  refine Qae ?_
  refine hK15 _ _ ?_
  refine cond_false kj ?_
  refine wp_skip ?_
  refine hK14 _ _ ?_
  refine wp_seq_k fun K16 hK16 => ?_
  refine wp_seq_k fun K17 hK17 => ?_
  refine Qab ?_
  refine Qaa (.bool false) 33 rfl kj kj ?_
  refine Qaa (.bool true) 34 rfl kj kj ?_
  refine Qae ?_
  refine hK17 _ _ ?_
  refine cond_true kj ?_
  refine wp_seq_k fun K18 hK18 => ?_
  refine Qab ?_
  refine Qaa (.bool true) 2 rfl kj kj ?_
  refine Qae ?_
  refine hK18 _ _ ?_
  refine wp_ret ?_
  repeat (first | with_reducible refine goR1 ?_ | with_reducible refine goR2 ?_)
  exact (show bodyPost _ _ _ .ret _ _ from ret1 (.bool true) rfl (Qaq kj) ⟨rfl, x5⟩)
set_option maxHeartbeats 4000000 in
theorem Qgd (ts : List NdV) (a_t : Option Addr) (c_t : Nat) (w : World) (hok : ∀ n ∈ ts, NdOk n.n) (htr : TrAt w.heap.size w a_t ts) (bs : List Int) (hS : refT ts = some bs) : Calls Try.prog 3 #[.slice a_t ts.length c_t] w (Ret w (.bool true)) := by
 obtain ⟨hR0, hN, hnd, hbl, hpos⟩ := QdW ts bs hok hS
 have hbb : Qap bs := by
  have h9 := hS
  unfold refT at h9
  split at h9
  ·obtain rfl := Option.some.inj h9
   exact Qde ts hok
  ·cases h9
 refine enter 70 [(0, .slice a_t ts.length c_t)] Try.func3 rfl rfl kj rfl ?_
 refine wp_seq_k fun K1 hK1 => ?_
 refine Qab ?_
 refine Qaa (.bool false) 2 rfl kj kj ?_
 refine Qae ?_
 refine hK1 _ _ ?_
 refine wp_seq_k fun K2 hK2 => ?_
 refine wp_seq_k fun K3 hK3 => ?_
 refine Qab ?_
 refine Qax (.bool true) 12 #[] 12 rfl kj kj ((Qff) _) fun W1 e1 => ?_
 have x1 : Ext w W1 := Ext.tr (Rely.Ext.refl w) e1
 refine Qaa (.bool false) 13 rfl kj kj ?_
 refine Qae ?_
 refine hK3 _ _ ?_
 refine cond_false kj ?_
 refine wp_skip ?_
 refine hK2 _ _ ?_
 refine wp_seq_k fun K4 hK4 => ?_
 refine wp_seq_k fun K5 hK5 => ?_
 refine Qab ?_
 refine Qaa (.slice a_t ts.length c_t) 14 rfl kj kj ?_
 refine Qai (fun v W' => (fun (v : Value) (_ : World) => ∃ b, v = .bool b ∧ (b = true → ts.length ≤ 101 ∧ ∀ i, i < ts.length → (ndi ts i).n.ms.length < 100)) v W' ∧ Ext W1 W') 13 #[.slice a_t ts.length c_t] 15 rfl kj kj ((chkT ts _ _ _ (TrAt.here (TrAt.ext htr x1))).mono (by rintro e w' ⟨v, rfl, e1, hv⟩; exact ⟨v, rfl, hv, e1⟩)) fun vv6 W2 hh6 => ?_
 obtain ⟨hv6, e2⟩ := hh6
 have x2 : Ext w W2 := Ext.tr x1 e2
 obtain ⟨bk, rfl, hbk⟩ := hv6
 refine Qaa (.bool (!bk)) 16 rfl kj kj ?_
 refine Qae ?_
 refine hK5 _ _ ?_
 refine Qaz (t := !bk) kj (fun c7 => ?_) (fun c7 => ?_)
 ·skip
  refine wp_seq_k fun K8 hK8 => ?_
  refine Qab ?_
  refine Qaa (.bool true) 2 rfl kj kj ?_
  refine Qae ?_
  refine hK8 _ _ ?_
  refine wp_ret ?_
  repeat (first | with_reducible refine goR1 ?_ | with_reducible refine goR2 ?_)
  exact (show bodyPost _ _ _ .ret _ _ from ret1 (.bool true) rfl (Qaq kj) ⟨rfl, x2⟩)
 ·skip
  obtain ⟨hb1, hb2⟩ := hbk (by have h9 := c7; cases bk with | true => rfl | false => cases h9)
  refine wp_skip ?_
  refine hK4 _ _ ?_
  refine wp_seq_k fun K9 hK9 => ?_
  refine Qab ?_
  refine Qaa (.slice a_t ts.length c_t) 18 rfl kj kj ?_
  refine Qai (fun v W' => (PutR W2.heap.size (some bs)) v W' ∧ Ext W2 W') 14 #[.slice a_t ts.length c_t] 19 rfl kj kj ((Qe2 ts _ _ _ (by omega) (fun i hi => by have := hb2 i hi; omega) (TrAt.here (TrAt.ext htr x2)) bs ((Qd1 ts hok).trans hS)).mono (by rintro e w' ⟨v, rfl, e1, hv⟩; exact ⟨v, rfl, hv, e1⟩)) fun vv10 W3 hh10 => ?_
  obtain ⟨hv10, e3⟩ := hh10
  have x3 : Ext w W3 := Ext.tr x2 e3
  obtain ⟨ub, rfl, hub⟩ := hv10
  obtain ⟨gb, cb, rb_, rfl, lb, rowb, hcb⟩ := Qen hub rfl hpos
  have lo0b : w.heap.size ≤ gb := Nat.le_trans x2.size lb
  refine Qaa (.tuple #[.slice (some ⟨gb, 0, none⟩) bs.length cb, .nilIface]) 17 rfl kj kj ?_
  refine Qaa (.slice (some ⟨gb, 0, none⟩) bs.length cb) 20 rfl kj kj ?_
  refine Qaa (.nilIface) 21 rfl kj kj ?_
  refine Qaa (.slice (some ⟨gb, 0, none⟩) bs.length cb) 3 rfl kj kj ?_
  refine Qaa (.nilIface) 4 rfl kj kj ?_
  refine Qae ?_
  refine hK9 _ _ ?_
  refine wp_seq_k fun K12 hK12 => ?_
  refine Qab ?_
  refine Qaa (.slice a_t ts.length c_t) 23 rfl kj kj ?_
  refine Qai (fun v W' => (Qdy W3.heap.size (refT ts)) v W' ∧ Ext W3 W') 15 #[.slice a_t ts.length c_t] 24 rfl kj kj ((QbI ts _ _ _ (by omega) (fun i hi => by have := hb2 i hi; omega) hok (TrAt.here (TrAt.ext htr x3))).mono (by rintro e w' ⟨v, rfl, e1, hv⟩; exact ⟨v, rfl, hv, e1⟩)) fun vv13 W4 hh13 => ?_
  obtain ⟨hv13, e4⟩ := hh13
  have x4 : Ext w W4 := Ext.tr x3 e4
  rw [hS] at hv13
  obtain ⟨u14_, rfl, hu14_⟩ := hv13
  obtain ⟨ar14_, cr14_, rfl, -⟩ := id (OwnN.rd hu14_)
  refine Qaa (.tuple #[.slice ar14_ ((bs).length) cr14_, .bool true]) 22 rfl kj kj ?_
  refine Qaa (.slice ar14_ ((bs).length) cr14_) 25 rfl kj kj ?_
  refine Qaa (.bool true) 26 rfl kj kj ?_
  refine Qaa (.slice ar14_ ((bs).length) cr14_) 5 rfl kj kj ?_
  refine Qaa (.bool true) 6 rfl kj kj ?_
  refine Qae ?_
  refine hK12 _ _ ?_
  refine wp_seq_k fun K15 hK15 => ?_
  refine wp_seq_k fun K16 hK16 => ?_
  refine Qab ?_
  refine Qaa (.slice (some ⟨gb, 0, none⟩) bs.length cb) 27 rfl kj kj ?_
  refine Qaa (.nilIface) 28 rfl kj kj ?_
  refine Qaa (.slice ar14_ ((bs).length) cr14_) 29 rfl kj kj ?_
  refine Qaa (.bool true) 30 rfl kj kj ?_
  have r11_4 := (Qat rowb e4)
  refine Qax (.bool true) 16 #[.slice (some ⟨gb, 0, none⟩) bs.length cb, .nilIface, .slice ar14_ ((bs).length) cr14_, .bool true] 31 rfl kj kj (QeU _ _ bs _ (RdK.bytes (Qd4 (rfl) r11_4 hcb) hbb) (RdK.bytes (OwnN.rd hu14_) hbb)) fun W5 e5 => ?_
  have x5 : Ext w W5 := Ext.tr x4 e5
  refine Qaa (.bool false) 32 rfl kj kj ?_
  refine Qae ?_
  refine hK16 _ _ ?_
  refine cond_false kj ?_
  refine wp_skip ?_
  refine hK15 _ _ ?_
  refine wp_seq_k fun K17 hK17 => ?_
  refine wp_seq_k fun K18 hK18 => ?_
  refine Qab ?_
  refine Qaa (.bool true) 33 rfl kj kj ?_
  refine Qaa (.bool false) 34 rfl kj kj ?_
  refine Qae ?_
  refine hK18 _ _ ?_
  refine cond_false kj ?_
  refine wp_skip ?_
  refine hK17 _ _ ?_
  refine wp_seq_k fun K19 hK19 => ?_
  refine Qab ?_
  refine Qaa (.slice (some ⟨gb, 0, none⟩) bs.length cb) 36 rfl kj kj ?_
  have r11_5 := (Qat r11_4 e5)
  refine Qai (fun v W' => (fun v W => ∃ (ts : List NdV) (a : Option Addr) (c : Nat), v = .tuple #[.slice a ts.length c, .nilIface] ∧ OwT W5.heap.size ts (.slice a ts.length c) W ∧ ts.length ≤ 255 ∧ ts.length = Qbx (Qal bs) ∧ ∀ j, j < ts.length → NdIs (itT (Qad (Qal bs) 1) j) (ndi ts j).n) v W' ∧ Ext W5 W') 17 #[.slice (some ⟨gb, 0, none⟩) bs.length cb] 37 rfl kj kj ((Qdm bs _ _ _ hbb (RdK.here (Qd4 (rfl) r11_5 hcb)) hR0).mono (by rintro e w' ⟨v, rfl, e1, hv⟩; exact ⟨v, rfl, hv, e1⟩)) fun vv20 W6 hh20 => ?_
  obtain ⟨hv20, e6⟩ := hh20
  have x6 : Ext w W6 := Ext.tr x5 e6
  replace hv20 : ∃ (ts : List NdV) (a : Option Addr) (c : Nat), vv20 = .tuple #[.slice a ts.length c, .nilIface] ∧ OwT W5.heap.size ts (.slice a ts.length c) W6 ∧ ts.length ≤ 255 ∧ ts.length = Qbx (Qal bs) ∧ ∀ j, j < ts.length → NdIs (itT (Qad (Qal bs) 1) j) (ndi ts j).n := hv20
  obtain ⟨us, at_, ct_, rfl, hot, hul, hun, huis⟩ := hv20
  have hus : refT us = refT ts := Qej ts us (hun.trans hN) _ hnd huis
  refine Qaa (.tuple #[.slice at_ us.length ct_, .nilIface]) 35 rfl kj kj ?_
  refine Qaa (.slice at_ us.length ct_) 38 rfl kj kj ?_
  refine Qaa (.nilIface) 39 rfl kj kj ?_
  refine Qaa (.slice at_ us.length ct_) 7 rfl kj kj ?_
  refine Qaa (.nilIface) 4 rfl kj kj ?_
  refine Qae ?_
  refine hK19 _ _ ?_
  refine wp_seq_k fun K21 hK21 => ?_
  refine Qab ?_
  refine Qaa (.slice at_ us.length ct_) 41 rfl kj kj ?_
  refine Qai (fun v W' => (Qdy W6.heap.size (refT us)) v W' ∧ Ext W6 W') 15 #[.slice at_ us.length ct_] 42 rfl kj kj ((QbI us _ _ _ (by omega) (fun i hi => by have := (hot.nd _ (QbN us i hi)).2.1; omega) (fun n hn => (hot.nd n hn).1) (OwT.tr hot)).mono (by rintro e w' ⟨v, rfl, e1, hv⟩; exact ⟨v, rfl, hv, e1⟩)) fun vv22 W7 hh22 => ?_
  obtain ⟨hv22, e7⟩ := hh22
  have x7 : Ext w W7 := Ext.tr x6 e7
  rw [hus, hS] at hv22
  obtain ⟨u23_, rfl, hu23_⟩ := hv22
  obtain ⟨ar23_, cr23_, rfl, -⟩ := id (OwnN.rd hu23_)
  refine Qaa (.tuple #[.slice ar23_ ((bs).length) cr23_, .bool true]) 40 rfl kj kj ?_
  refine Qaa (.slice ar23_ ((bs).length) cr23_) 43 rfl kj kj ?_
  refine Qaa (.bool true) 44 rfl kj kj ?_
  refine Qaa (.slice ar23_ ((bs).length) cr23_) 8 rfl kj kj ?_
  refine Qaa (.bool true) 9 rfl kj kj ?_
  refine Qae ?_
  refine hK21 _ _ ?_
  refine wp_seq_k fun K24 hK24 => ?_
  refine Qab ?_
  refine Qaa (.slice (some ⟨gb, 0, none⟩) bs.length cb) 45 rfl kj kj ?_
  have r11_6 := (Qat r11_5 e6)
  have r11_7 := (Qat r11_6 e7)
  refine Qai (fun v W' => v = .tuple #[] ∧ ExtB gb W7 W') 18 #[.slice (some ⟨gb, 0, none⟩) bs.length cb] 46 rfl kj kj ((Qgz gb bs.length cb bs rb_ _ (by omega) rfl r11_7).mono fun e w' h => ⟨_, h.1, rfl, h.2⟩) fun v25 W8 h25 => ?_
  obtain ⟨rfl, q8⟩ := h25
  have x8 : Ext w W8 := ExtB.toExt x7 q8 lo0b
  refine Qae ?_
  refine hK24 _ _ ?_
  refine wp_seq_k fun K26 hK26 => ?_
  refine Qab ?_
  refine Qaa (.slice at_ us.length ct_) 48 rfl kj kj ?_
  refine Qai (fun v W' => (Qdy W8.heap.size (refT us)) v W' ∧ Ext W8 W') 15 #[.slice at_ us.length ct_] 49 rfl kj kj ((QbI us _ _ _ (by omega) (fun i hi => by have := (hot.nd _ (QbN us i hi)).2.1; omega) (fun n hn => (hot.nd n hn).1) (OwT.tr (OwT.extB (OwT.ext hot e7) q8 (Nat.lt_of_lt_of_le (Qa3 rowb) (Nat.le_trans (Nat.le_trans (Nat.le_refl _) e4.size) e5.size))))).mono (by rintro e w' ⟨v, rfl, e1, hv⟩; exact ⟨v, rfl, hv, e1⟩)) fun vv27 W9 hh27 => ?_
  obtain ⟨hv27, e9⟩ := hh27
  have x9 : Ext w W9 := Ext.tr x8 e9
  rw [hus, hS] at hv27
  obtain ⟨u28_, rfl, hu28_⟩ := hv27
  obtain ⟨ar28_, cr28_, rfl, -⟩ := id (OwnN.rd hu28_)
  refine Qaa (.tuple #[.slice ar28_ ((bs).length) cr28_, .bool true]) 47 rfl kj kj ?_
  refine Qaa (.slice ar28_ ((bs).length) cr28_) 50 rfl kj kj ?_
  refine Qaa (.bool true) 51 rfl kj kj ?_
  refine Qaa (.slice ar28_ ((bs).length) cr28_) 10 rfl kj kj ?_
  refine Qaa (.bool true) 11 rfl kj kj ?_
  refine Qae ?_
  refine hK26 _ _ ?_
  refine wp_seq_k fun K29 hK29 => ?_
  refine Qab ?_
  refine Qaa (.nilIface) 52 rfl kj kj ?_
  refine Qaa (.bool true) 53 rfl kj kj ?_
  refine Qaa (.bool true) 54 rfl kj kj ?_
  refine Qaa (.bool true) 55 rfl kj kj ?_
  refine Qaa (.bool true) 56 rfl kj kj ?_
  refine Qaa (.bool true) 57 rfl kj kj ?_
  refine Qaa (.bool true) 58 rfl kj kj ?_
  refine Qaa (.bool true) 59 rfl kj kj ?_
  refine Qaa (.bool true) 60 rfl kj kj ?_
  refine Qaa (.slice ar23_ ((bs).length) cr23_) 61 rfl kj kj ?_
  refine Qaa (.slice ar14_ ((bs).length) cr14_) 62 rfl kj kj ?_
  have f30_8 := (QaR hu23_ q8 (Qbm hu23_ (Qa3 r11_6)))
  have f31_9 := (f30_8.ext e9)
  have f32_5 := (hu14_.ext e5)
  have f33_6 := (f32_5.ext e6)
  have f34_7 := (f33_6.ext e7)
  have f35_8 := (QaR f34_7 q8 (Qbm hu14_ (Qa3 rowb)))
  have f36_9 := (f35_8.ext e9)
  refine Qax (.bool true) 19 #[.slice ar23_ ((bs).length) cr23_, .slice ar14_ ((bs).length) cr14_] 63 rfl kj kj (Qfg _ _ _ _ _ rfl (RdK.bytes (OwnN.rd f31_9) hbb) (RdK.bytes (OwnN.rd f36_9) hbb)) fun W10 e10 => ?_
  have x10 : Ext w W10 := Ext.tr x9 e10
  refine Qaa (.bool true) 64 rfl kj kj ?_
  refine Qaa (.bool true) 65 rfl kj kj ?_
  refine Qaa (.slice ar28_ ((bs).length) cr28_) 66 rfl kj kj ?_
  refine Qaa (.slice ar14_ ((bs).length) cr14_) 67 rfl kj kj ?_
  have f37_10 := (hu28_.ext e10)
  have f38_10 := (f36_9.ext e10)
  refine Qax (.bool true) 19 #[.slice ar28_ ((bs).length) cr28_, .slice ar14_ ((bs).length) cr14_] 68 rfl kj kj (Qfg _ _ _ _ _ rfl (RdK.bytes (OwnN.rd f37_10) hbb) (RdK.bytes (OwnN.rd f38_10) hbb)) fun W11 e11 => ?_
  have x11 : Ext w W11 := Ext.tr x10 e11
  refine Qaa (.bool true) 69 rfl kj kj ?_
  refine Qaa (.bool true) 2 rfl kj kj ?_
  refine Qae ?_
  refine hK29 _ _ ?_
  refine wp_ret ?_
  repeat (first | with_reducible refine goR1 ?_ | with_reducible refine goR2 ?_)
  exact (show bodyPost _ _ _ .ret _ _ from ret1 (.bool true) rfl (Qaq kj) ⟨rfl, x11⟩)
theorem lawT (ts : List NdV) (a_t : Option Addr) (c_t : Nat) (w : World) (hok : ∀ n ∈ ts, NdOk n.n) (htr : TrAt w.heap.size w a_t ts) : Calls Try.prog 3 #[.slice a_t ts.length c_t] w (Ret w (.bool true)) := by
  cases hS : refT ts with
  | none => exact Qge ts a_t c_t w hok htr hS
  | some bs => exact Qgd ts a_t c_t w hok htr bs hS
end Go.Proofs.Ytfelfmchachljaa.Wr
end
section
namespace Go.Proofs.Ytfelfmchachljaa.Auto
open Go Go.RowKit Go.WideShapes
open Rely
set_option linter.unusedVariables false
section
variable {H : Type} {enc : TypeId × Value → H} {P : Program} {W w : World} {r : Reach} {base b0 : Nat} {sp : Nat → Bool} {held : Bool}
theorem open_raw {n : Nat} {t e : TypeId} {cs : List Value} {fuel : Nat} {x : DataW H × List MemPlace} (ht : P.underlying t = some (.array n e)) (he : P.underlying e = some (.int .u8)) (hce : P.cellsOf e = 1) (hct : P.cellsOf t = n)
    (hf : DataW.trod enc P w b0 sp held fuel t cs = some x) : ∃ xs : List Int, cs = xs.map (Value.int .u8) ∧ xs.length = n ∧ Qap xs := by
  obtain ⟨xs, m, -, -, hl, hn, hx⟩ := DataW.trod_array ht hf
  have hcs : cs.length = n := by simpa [hct] using hl
  have each : ∀ i, i < n → ∃ z : Int, cs[i]? = some (.int .u8 z) ∧ (0 ≤ z ∧ z ≤ 255) := by
    intro i hi
    have h1 := hx i hi
    rw [hce, Nat.mul_one] at h1
    have hlt : i < cs.length := by omega
    have h2 : cs.drop i = cs[i] :: cs.drop (i + 1) := List.drop_eq_getElem_cons hlt
    have h1 : DataW.trod enc P w b0 sp held m e ((cs.drop i).take 1) = xs[i]? := h1
    rw [h2] at h1
    simp only [List.take_succ_cons, List.take_zero] at h1
    obtain ⟨y, hy⟩ : ∃ y, xs[i]? = some y := ⟨xs[i], by simp [hn, hi]⟩
    rw [hy] at h1
    obtain ⟨z, hc, -, hw⟩ := DataW.trod_int he h1
    refine ⟨z, ?_, ?_⟩
    · rw [List.getElem?_eq_getElem hlt]
      simp only [List.cons.injEq] at hc
      rw [hc.1]
    · simpa [Lit.wf, IntKind.min, IntKind.max, IntKind.signed, IntKind.bits] using hw
  have all : ∀ (l : List Value), (∀ i, i < l.length → ∃ z : Int, l[i]? = some (.int .u8 z) ∧ (0 ≤ z ∧ z ≤ 255)) → ∃ zs : List Int, l = zs.map (Value.int .u8) ∧ Qap zs := by
    intro l
    induction l with
    | nil => exact fun _ => ⟨[], rfl, fun x hx => by simp at hx⟩
    | cons a l ih =>
      intro h
      obtain ⟨zs, h1, h2⟩ := ih fun i hi => by simpa using h (i + 1) (by simp; omega)
      obtain ⟨z, h3, h4⟩ := h 0 (by simp)
      simp only [List.getElem?_cons_zero, Option.some.injEq] at h3
      refine ⟨z :: zs, by rw [h3, h1]; rfl, fun x hx => ?_⟩
      rcases List.mem_cons.1 hx with e | e
      · rw [e]; exact h4
      · exact h2 x e
  obtain ⟨zs, h1, h2⟩ := all cs fun i hi => each i (by omega)
  exact ⟨zs, h1, by rw [← hcs, h1, List.length_map], h2⟩
end
end Go.Proofs.Ytfelfmchachljaa.Auto
end
section
namespace Go.Proofs.Ytfelfmchachljaa.Auto
open Go Go.RowKit Go.WideShapes
open Rely
set_option linter.unusedVariables false
section
variable {H : Type} {enc : TypeId × Value → H} {P : Program} {W w : World} {r : Reach} {base b0 : Nat} {sp : Nat → Bool} {held : Bool}
theorem Qe6 {t : TypeId} {f0 f1 f2 f3 f4 f5 : Field} {fuel : Nat} {cs : List Value} {x : DataW H × List MemPlace} (ht : P.underlying t = some (.struct #[f0, f1, f2, f3, f4, f5])) (h : DataW.trod enc P w b0 sp held fuel t cs = some x) :
    ∃ y0 y1 y2 y3 y4 y5 n, cs.length = P.cellsOf t ∧ DataW.trod enc P w b0 sp held n f0.type ((cs.drop f0.offset).take (P.cellsOf f0.type)) = some y0 ∧ DataW.trod enc P w b0 sp held n f1.type ((cs.drop f1.offset).take (P.cellsOf f1.type)) = some y1 ∧ DataW.trod enc P w b0 sp held n f2.type ((cs.drop f2.offset).take (P.cellsOf f2.type)) = some y2 ∧ DataW.trod enc P w b0 sp held n f3.type ((cs.drop f3.offset).take (P.cellsOf f3.type)) = some y3 ∧ DataW.trod enc P w b0 sp held n f4.type ((cs.drop f4.offset).take (P.cellsOf f4.type)) = some y4 ∧ DataW.trod enc P w b0 sp held n f5.type ((cs.drop f5.offset).take (P.cellsOf f5.type)) = some y5 := by
  obtain ⟨xs, n, _, rfl, hl, hlen, hf⟩ := DataW.trod_struct ht h
  match xs, hlen with
  | [y0, y1, y2, y3, y4, y5], _ => exact ⟨y0, y1, y2, y3, y4, y5, n, hl, by simpa using hf 0 f0 rfl, by simpa using hf 1 f1 rfl, by simpa using hf 2 f2 rfl, by simpa using hf 3 f3 rfl, by simpa using hf 4 f4 rfl, by simpa using hf 5 f5 rfl⟩
theorem sub_st6 {t : TypeId} {f0 f1 f2 f3 f4 f5 : Field} {fuel : Nat} {cs : List Value} {x : DataW H × List MemPlace} {n0 n1 n2 n3 n4 n5 : Nat} (ht : P.underlying t = some (.struct #[f0, f1, f2, f3, f4, f5]))
    (ho : f0.offset = 0 ∧ f1.offset = n0 ∧ f2.offset = n0 + n1 ∧ f3.offset = n0 + n1 + n2 ∧ f4.offset = n0 + n1 + n2 + n3 ∧ f5.offset = n0 + n1 + n2 + n3 + n4) (hc : P.cellsOf f0.type = n0 ∧ P.cellsOf f1.type = n1 ∧ P.cellsOf f2.type = n2 ∧ P.cellsOf f3.type = n3 ∧ P.cellsOf f4.type = n4 ∧ P.cellsOf f5.type = n5) (hC : P.cellsOf t = n0 + n1 + n2 + n3 + n4 + n5) (h : DataW.trod enc P w b0 sp held fuel t cs = some x) :
    ∃ (X0 X1 X2 X3 X4 X5 : List Value) (y0 y1 y2 y3 y4 y5 : DataW H × List MemPlace) (n : Nat), cs = X0 ++ X1 ++ X2 ++ X3 ++ X4 ++ X5 ∧ DataW.trod enc P w b0 sp held n f0.type X0 = some y0 ∧ DataW.trod enc P w b0 sp held n f1.type X1 = some y1 ∧ DataW.trod enc P w b0 sp held n f2.type X2 = some y2 ∧ DataW.trod enc P w b0 sp held n f3.type X3 = some y3 ∧ DataW.trod enc P w b0 sp held n f4.type X4 = some y4 ∧ DataW.trod enc P w b0 sp held n f5.type X5 = some y5 := by
  obtain ⟨y0, y1, y2, y3, y4, y5, n, hl, h0, h1, h2, h3, h4, h5⟩ := Qe6 ht h
  obtain ⟨o0, o1, o2, o3, o4, o5⟩ := ho
  obtain ⟨c0, c1, c2, c3, c4, c5⟩ := hc
  rw [o0, c0] at h0
  rw [o1, c1] at h1
  rw [o2, c2] at h2
  rw [o3, c3] at h3
  rw [o4, c4] at h4
  rw [o5, c5] at h5
  refine ⟨_, _, _, _, _, _, y0, y1, y2, y3, y4, y5, n, ?_, h0, h1, h2, h3, h4, h5⟩
  rw [hC] at hl
  simp only [List.drop_zero]
  have e1 : cs.take (n0) ++ (cs.drop (n0)).take n1 = cs.take (n0 + n1) := by rw [List.take_add (i := n0)]
  have e2 : cs.take (n0 + n1) ++ (cs.drop (n0 + n1)).take n2 = cs.take (n0 + n1 + n2) := by rw [List.take_add (i := n0 + n1)]
  have e3 : cs.take (n0 + n1 + n2) ++ (cs.drop (n0 + n1 + n2)).take n3 = cs.take (n0 + n1 + n2 + n3) := by rw [List.take_add (i := n0 + n1 + n2)]
  have e4 : cs.take (n0 + n1 + n2 + n3) ++ (cs.drop (n0 + n1 + n2 + n3)).take n4 = cs.take (n0 + n1 + n2 + n3 + n4) := by rw [List.take_add (i := n0 + n1 + n2 + n3)]
  have e5 : cs.take (n0 + n1 + n2 + n3 + n4) ++ (cs.drop (n0 + n1 + n2 + n3 + n4)).take n5 = cs.take (n0 + n1 + n2 + n3 + n4 + n5) := by rw [List.take_add (i := n0 + n1 + n2 + n3 + n4)]
  rw [e1, e2, e3, e4, e5, List.take_of_length_le (by omega)]
end
end Go.Proofs.Ytfelfmchachljaa.Auto
end
section
namespace Go.Proofs.Ytfelfmchachljaa.Auto
open Go Go.RowKit
open Rely
set_option linter.unusedVariables false
end Go.Proofs.Ytfelfmchachljaa.Auto
end
section
namespace Go.Proofs.Ytfelfmchachljaa.Wr
open Go Go.RowKit
open Rely Auto Own Sha
set_option linter.unusedVariables false
set_option linter.unusedSimpArgs false
open Go.WideShapes Go.ChangeShapes Go.ChangeAt Go.Deep
open Go.Proofs.Ytfelfmchachljaa
section
variable {H : Type} {enc : TypeId × Value → H} {P : Program} {w : World} {b0 : Nat} {held : Bool}
theorem QeW (x : Addr) (i j : Nat) : (x.add i).add j = x.add (i + j) := by
  by_cases hi : i = 0 <;> by_cases hj : j = 0 <;> simp [Addr.add, hi, hj, Nat.add_assoc]
theorem open_tree {t s e5 e3 : TypeId} {f0 f1 f2 f3 f4 f5 : Field} {ad : Option Addr} {len cap : Nat} {d : DataW H} {p : List MemPlace} (hs : P.underlying t = some (.slice s)) (hss : P.underlying s = some (.struct #[f0, f1, f2, f3, f4, f5]))
    (ho : f0.offset = 0 ∧ f1.offset = 1 ∧ f2.offset = 1 + 1 ∧ f3.offset = 1 + 1 + 32 ∧ f4.offset = 1 + 1 + 32 + 32 ∧ f5.offset = 1 + 1 + 32 + 32 + 32) (hc : P.cellsOf f0.type = 1 ∧ P.cellsOf f1.type = 1 ∧ P.cellsOf f2.type = 32 ∧ P.cellsOf f3.type = 32 ∧ P.cellsOf f4.type = 32 ∧ P.cellsOf f5.type = 1) (hC : P.cellsOf s = 1 + 1 + 32 + 32 + 32 + 1)
    (h0 : P.underlying f0.type = some .bool) (h1 : P.underlying f1.type = some (.int .i64)) (h2 : P.underlying f2.type = some (.array 32 e5)) (h3 : P.underlying f3.type = some (.array 32 e5)) (h4 : P.underlying f4.type = some (.array 32 e5)) (h5 : P.underlying f5.type = some (.slice e3))
    (he5 : P.underlying e5 = some (.int .u8)) (hc5 : P.cellsOf e5 = 1) (he3 : P.underlying e3 = some (.int .i64)) (hc3 : P.cellsOf e3 = 1)
    (h : DataW.Trod enc P w b0 (fun _ => true) held t (.slice ad len cap) d p) :
    ∃ ts : List NdV, ts.length = len ∧ TrAt w.heap.size w ad ts ∧ ∀ n ∈ ts, NdOk n.n := by
  obtain ⟨fuel, hf⟩ := h
  rcases DataW.trod_slice hs hf with ⟨hcs', -⟩ | ⟨x, l, c, elems, rest, n, -, hcs', -, hb, hl, hmx, hlen, hel, -, -⟩
  · simp [Value.cells] at hcs'
    obtain ⟨rfl, rfl, rfl⟩ := hcs'
    exact ⟨[], rfl, ⟨0, 0, fun h => absurd h (by decide), fun i hi => absurd hi (Nat.not_lt_zero _)⟩, fun n hn => by cases hn⟩
  · simp [Value.cells] at hcs'
    obtain ⟨rfl, rfl, rfl⟩ := hcs'
    have key : ∀ i, i < len → ∃ n : NdV, (∀ j u, (cat (ndP n))[j]? = some u → w.cell? (x.add (i * 99 + j)) = some u) ∧ RdK .i64 w.heap.size n.n.ms (.slice n.a n.n.ms.length n.c) w ∧ NdOk n.n := fun i hi => by
      have h9 := hel i hi
      rw [hC, List.getElem?_eq_getElem (by omega)] at h9
      obtain ⟨cs, hc1, hc2⟩ := Option.bind_eq_some_iff.1 h9
      obtain ⟨hn, q1, q2⟩ := World.cells?_some hc1
      obtain ⟨X0, X1, X2, X3, X4, X5, y0, y1, y2, y3, y4, y5, m, hcs, t0, t1, t2, t3, t4, t5⟩ := Auto.sub_st6 hss ho hc hC hc2
      obtain ⟨us, rfl, -⟩ := DataW.trod_bool h0 t0
      obtain ⟨nm, rfl, -, -⟩ := DataW.trod_int h1 t1
      obtain ⟨key, rfl, hkl, hkb⟩ := Auto.open_raw h2 he5 hc5 hc.2.2.1 t2
      obtain ⟨sg, rfl, hgl, hgb⟩ := Auto.open_raw h3 he5 hc5 hc.2.2.2.1 t3
      obtain ⟨pa, rfl, hpl, hpb⟩ := Auto.open_raw h4 he5 hc5 hc.2.2.2.2.1 t4
      have fin : ∀ (a : Option Addr) (ms : List Int) (c : Nat), X5 = [.slice a ms.length c] → RdK .i64 w.heap.size ms (.slice a ms.length c) w → ∃ n : NdV, (∀ j u, (cat (ndP n))[j]? = some u → w.cell? (x.add (i * 99 + j)) = some u) ∧ RdK .i64 w.heap.size n.n.ms (.slice n.a n.n.ms.length n.c) w ∧ NdOk n.n := fun a ms c e r => by
        refine ⟨⟨⟨us, nm, key, sg, pa, ms⟩, a, c⟩, fun j u hu => ?_, r, ⟨hkl, hgl, hpl, hkb, hgb, hpb⟩⟩
        have e9 : (cat (ndP ⟨⟨us, nm, key, sg, pa, ms⟩, a, c⟩)).toList = cs := by
          rw [hcs, e]
          unfold ndP
          simp [cat, Rely.ints]
        rw [← Array.getElem?_toList, e9] at hu
        have hj : j < 99 := by have := (List.getElem?_eq_some_iff.1 hu).1; omega
        have := q2 j hj
        rw [QeW] at this
        rw [this]; exact hu
      rcases open_ints h5 he3 hc3 t5 with ⟨hcv, -⟩ | ⟨y, l, cc, zs, hcv, -, hl2, hm2, hz2, -, hcell, hwz⟩
      · exact fin none [] 0 hcv ⟨none, 0, rfl, Nat.le_refl _, Nat.zero_le _, fun _ => rfl, .inl rfl⟩
      · obtain ⟨r, rl, rf⟩ := Auto.rdK_of_row (k := .i64) (w := w) (a := some y) (len := l) (cap := cc) (zs := zs) (.inr ⟨y, rfl, hl2, hm2, by simpa using hz2, hcell, hwz⟩)
        refine fin (some y) (zs.take l) cc (by rw [rl]; exact hcv) ?_
        rw [rl]; exact r
    rcases Nat.eq_zero_or_pos len with h0' | h0'
    · subst h0'
      exact ⟨[], rfl, ⟨0, 0, fun h => absurd h (by decide), fun i hi => absurd hi (Nat.not_lt_zero _)⟩, fun n hn => by cases hn⟩
    obtain ⟨b, off, spot⟩ := x
    have first : ∀ n : NdV, (cat (ndP n))[0]? = some (.bool n.n.us) := fun n => by
      unfold ndP
      show (#[Value.bool n.n.us] ++ cat _)[0]? = _
      rw [Array.getElem?_append_left (show 0 < 1 by decide)]
      rfl
    obtain ⟨n0, hq, -⟩ := key 0 h0'
    have hq0 := hq 0 _ (first n0)
    have hspot : spot = none := by simpa [Addr.add] using World.cell?_spot hq0
    subst hspot
    rw [WideShapes.add_plain] at hq0
    have hlt : b < w.heap.size := Qc2 hq0
    have all : ∀ m, m ≤ len → ∃ ts : List NdV, ts.length = m ∧ ∀ i, i < m → NdAt w.heap.size w b (off + i * 99) (ndi ts i) := by
      intro m
      induction m with
      | zero => exact fun _ => ⟨[], rfl, fun i hi => absurd hi (Nat.not_lt_zero _)⟩
      | succ m ih =>
        intro hm
        obtain ⟨ts, htl, hts⟩ := ih (by omega)
        obtain ⟨n, k1, k2, k3⟩ := key m (by omega)
        refine ⟨ts ++ [n], by rw [List.length_append, htl]; rfl, fun i hi => ?_⟩
        have e : ndi (ts ++ [n]) i = if i < m then ndi ts i else n := by
          unfold ndi
          rw [List.getD_eq_getElem?_getD, List.getD_eq_getElem?_getD]
          split
          · rename_i h; rw [List.getElem?_append_left (by omega)]
          · rename_i h
            rw [List.getElem?_append_right (by omega), show i - ts.length = 0 by omega]; rfl
        rw [e]
        split
        · rename_i h; exact hts i h
        · rename_i h
          obtain rfl : i = m := by omega
          exact ⟨hlt, hlt, fun j u hu => by have := k1 j u hu; rw [WideShapes.add_plain] at this; rw [Nat.add_assoc]; exact this, k2, k3⟩
    obtain ⟨ts, htl, hts⟩ := all len (Nat.le_refl _)
    refine ⟨ts, htl, ⟨b, off, fun _ => rfl, fun i hi => hts i (by omega)⟩, fun n hn => ?_⟩
    obtain ⟨i, hi, e⟩ := List.mem_iff_getElem.1 hn
    have := (hts i (by omega)).ok
    unfold ndi at this
    rw [List.getD_eq_getElem?_getD, List.getElem?_eq_getElem hi] at this
    rw [← e]; exact this
end
end Go.Proofs.Ytfelfmchachljaa.Wr
end
