/- Texts of this claim, joined (I2). -/
import Derived.Test.YtfelfmchachljaaZI1

section
namespace Go.Proofs.Ytfelfmchachljaa.Wr
open Go Go.RowKit
open Rely Auto Own Sha
set_option linter.unusedVariables false
set_option linter.unusedSimpArgs false
open Wk
section
variable {P : Program} {ops : Array Oper} {Q : Exit → Act → World → Prop} {o : Oper} {N : Nat} {L : Env} {w V : World} {ds : List Deferred} {fuel : Nat} {listed : Array Bool}
theorem Qby {k : IntKind} {T : TypeId} (b : Nat) (s x : Operand) (t : TypeId) (ho2 : o.op = .call { callee := .builtin .append, args := #[s, x], argTypes := #[t, t] })
    (ht : P.underlying t = some (.slice T)) (hi : (P.info? T).map (fun i => (i.zero, i.size, i.bytes)) = some (some (.int k 0), 1, b)) (hb8 : b ≤ 8) (d : Nat) (hd : o.dst = some d) (j : Nat) (ho : ops[j]? = some o) (hg : Qbz ops o N L = some true) {B : Nat} {v y : Value} {xs ys : List Int}
    (hs : Rely.look (envN N L) s = v) (hx : Rely.look (envN N L) x = y)
    (h : OwnN k T V.heap.size xs v w) (hy : RdK k B ys y w) (hn : xs.length + ys.length ≤ 1000000000) (hV : Ext V w)
    (kk : ∀ (u : Value) (W' : World), OwnN k T V.heap.size (xs ++ ys) u W' → Ext V W' → Below V.heap.size w W' → WB P ops Q (fun _ => True) fuel (listed.setIfInBounds j true) (Qa6 ds N ((d, u) :: L)) W') : WO P ops Q (fun _ => True) j fuel listed (Qa6 ds N L) w := by
  obtain ⟨v', W', h1, h2, h3, h4⟩ := Qcb (ρ := Rely.look (envN N L)) (o := o) (W := w) s x t ho2 ht hi hb8 hs hx h hy hn hV.size
  exact Qc8 ho (fun u W' => OwnN k T V.heap.size (xs ++ ys) u W' ∧ Ext V W' ∧ Below V.heap.size w W') d hd hg ⟨v', W', h1, h2, QdJ hV h h3, ⟨h3.os, h3.tape, h3.output, h3.size, fun i hi => h3.block i (Nat.lt_of_lt_of_le hi hV.size) (fun q => by have := h.ge q.symm; omega)⟩⟩ (fun _ _ _ => trivial) fun u W' h => kk u W' h.1 h.2.1 h.2.2
end
def Qb6 (us : Bool) (nm : Int) (key sg pa : List Int) (n : Nat) : List Int := [bif us then 1 else 0, byV nm 0] ++ key ++ sg ++ pa ++ [byV ((n : Nat) : Int) 0]
def QbJ (us : Bool) (nm : Int) (key sg pa ms : List Int) : List Int := Qb6 us nm key sg pa ms.length ++ ms.map fun m => byV m 0
theorem QcE (H ms : List Int) (i : Nat) (h : i < ms.length) : H ++ (ms.take (i + 1)).map (fun m => byV m 0) = H ++ (ms.take i).map (fun m => byV m 0) ++ [byV (nth ms i) 0] := by
  have e : ms.take (i + 1) = ms.take i ++ [nth ms i] := by
    rw [List.take_add_one, List.getElem?_eq_getElem h]
    unfold nth
    rw [List.getD_eq_getElem?_getD, List.getElem?_eq_getElem h]
    rfl
  rw [e, List.map_append, ← List.append_assoc]
  rfl
set_option maxHeartbeats 4000000 in
theorem Qeh (nm : Int) (key sg pa ms : List Int) (a_m : Option Addr) (c_m : Nat) (w : World) (hkl : key.length = 32) (hgl : sg.length = 32) (hpl : pa.length = 32) (hml : ms.length ≤ 1000000) (hm : RdK .i64 w.heap.size ms (.slice a_m ms.length c_m) w) : Calls Try.prog 97 #[.agg (cat [#[.bool true], #[.int .i64 nm], ints .u8 (key), ints .u8 (sg), ints .u8 (pa), #[.slice a_m ms.length c_m]])] w (Qb4 w (OwnN .u8 5 w.heap.size (QbJ true nm key sg pa ms))) := by
 refine enter 47 [(0, .agg (cat [#[.bool true], #[.int .i64 nm], ints .u8 (key), ints .u8 (sg), ints .u8 (pa), #[.slice a_m ms.length c_m]]))] Try.func97 rfl rfl kj rfl ?_
 refine wp_seq_k fun K1 hK1 => ?_
 refine Qac ?_
 refine Qaq (cat [#[.bool true], #[.int .i64 nm], ints .u8 (key), ints .u8 (sg), ints .u8 (pa), #[.slice a_m ms.length c_m]]) 43 1 rfl kj kj fun g2 W1 l2 e1 r2_1 => ?_
 have x1 : Ext w W1 := Ext.tr (Rely.Ext.refl w) e1
 have b2 : w.heap.size ≤ g2 := Nat.le_trans (Rely.Ext.refl w).size l2
 refine Qaa (.slice none 0 0) 2 rfl kj kj ?_
 refine Qaf ?_
 refine hK1 _ _ ?_
 refine wp_seq_k fun K3 hK3 => ?_
 refine Qac ?_
 refine Qaa (.pointer (some ⟨g2, 1, none⟩)) 5 rfl kj kj ?_
 refine Qaa (.int .i64 nm) 6 rfl kj (Qag 3 _ g2 1 43 _ (.int .i64 nm) _ r2_1 rfl kj (Qam [#[.bool true]] [#[.int .i64 nm]] [ints .u8 (key), ints .u8 (sg), ints .u8 (pa), #[.slice a_m ms.length c_m]] 1 kj 0 _ rfl) kj) ?_
 refine Qaa (.int .u8 (byV nm 0)) 7 rfl kj (Qat (u := .int .u8 (IntKind.u8.wrap (nm))) kj (congrArg (Value.int .u8) (byV0 nm))) ?_
 refine QaU (ints .u8 ([0, (byV nm 0)])) 5 2 8 rfl kj kj fun g4 W2 l4 e2 r4_2 => ?_
 have x2 : Ext w W2 := Ext.tr x1 e2
 have b4 : w.heap.size ≤ g4 := Nat.le_trans x1.size l4
 refine Qaa (.slice (some ⟨g4, 0, none⟩) 2 2) 3 rfl kj kj ?_
 refine Qaf ?_
 refine hK3 _ _ ?_
 refine wp_seq_k fun K5 hK5 => ?_
 refine wp_seq_k fun K6 hK6 => ?_
 refine Qac ?_
 refine Qaa (.pointer (some ⟨g2, 0, none⟩)) 9 rfl kj kj ?_
 have r2_2 := (Qas r2_1 e2)
 refine Qaa (.bool true) 10 rfl kj (Qag 4 _ g2 0 43 _ (.bool true) _ r2_2 rfl kj (Qam [] [#[.bool true]] [#[.int .i64 nm], ints .u8 (key), ints .u8 (sg), ints .u8 (pa), #[.slice a_m ms.length c_m]] 0 kj 0 _ rfl) kj) ?_
 refine Qaf ?_
 refine hK6 _ _ ?_
 refine cond_true kj ?_
 refine Qac ?_
 refine Qaa (.slice (some ⟨g4, 0, none⟩) 2 2) 11 rfl kj kj ?_
 refine Qaa (.pointer (some ⟨g4, 0, none⟩)) 12 rfl kj (QbW 26 _ _ .i64 (0) g4 2 2 5 rfl kj kj kj kj (by decide)) ?_
 refine Qa3 g4 _ (ints .u8 (([0, (byV nm 0)]).set 0 1)) 5 r4_2 rfl kj (Qed 5 _ _ g4 0 5 _ _ r4_2 rfl kj kj kj (Nat.lt_of_lt_of_eq (show 0 < 2 by decide) rfl.symm)) fun W3 p3 r4_3 => ?_
 have x3 : Ext w W3 := Puts.ext p3 x2 b4
 refine Qaf ?_
 refine hK5 _ _ ?_
 refine wp_seq_k fun K7 hK7 => ?_
 refine QaY (fun _ => True) kj fun W4 e4 => ⟨trivial, ?_⟩
 have x4 : Ext w W4 := Ext.tr x3 e4
 refine Qao 0 (.slice (some ⟨g4, 0, none⟩) 2 2) 13 rfl rfl kj kj (fun _ _ _ h => h) (fun W hR => by kernel_rfl) ?_
 refine Qao 1 (.pointer (some ⟨g2, 2, none⟩)) 14 rfl rfl kj kj (fun _ _ _ h => h) (fun W hR => by kernel_rfl) ?_
 refine Qao 2 (.slice (some ⟨g2, 2, none⟩) 32 32) 15 rfl rfl kj kj (fun _ _ _ h => h) (fun W hR => by kernel_rfl) ?_
 refine Qao 4 (.pointer (some ⟨g2, 34, none⟩)) 17 rfl rfl kj kj (fun _ _ _ h => h) (fun W hR => by kernel_rfl) ?_
 refine Qao 5 (.slice (some ⟨g2, 34, none⟩) 32 32) 18 rfl rfl kj kj (fun _ _ _ h => h) (fun W hR => by kernel_rfl) ?_
 refine Qao 7 (.pointer (some ⟨g2, 66, none⟩)) 20 rfl rfl kj kj (fun _ _ _ h => h) (fun W hR => by kernel_rfl) ?_
 refine Qao 8 (.slice (some ⟨g2, 66, none⟩) 32 32) 21 rfl rfl kj kj (fun _ _ _ h => h) (fun W hR => by kernel_rfl) ?_
 refine QaN 3 kj ?_
 have r4_4 := (Qas r4_3 e4)
 have r2_3 := (Puts.row p3 r2_2 (QaD r2_1 l4))
 have r2_4 := (Qas r2_3 e4)
 have y1_2 : Ext W1 W2 := (Rely.Ext.trans (Rely.Ext.refl W1) e2)
 have y1_3 : Ext W1 W3 := (Puts.ext p3 y1_2 l4)
 have y1_4 : Ext W1 W4 := (Rely.Ext.trans y1_3 e4)
 refine Qby (k := .u8) (T := 5) (xs := ([0, (byV nm 0)]).set 0 1) (ys := key) (V := W1) 1 (.tmp 13) (.tmp 15) 26 rfl kj kj (by decide) 16 rfl 3 rfl kj kj kj (QbO (xs := ([0, (byV nm 0)]).set 0 1) rfl l4 r4_4 (show 2 ≤ maxLen by decide)) (QaM 2 hkl r2_4 (fun i hi => QaH [#[.bool true], #[.int .i64 nm]] [ints .u8 (sg), ints .u8 (pa), #[.slice a_m ms.length c_m]] key 2 i (2 + i) kj rfl (by rw [hkl]; exact hi)) (Qa1 r2_4) (Nat.le_refl _) (by decide)) (by simp only [List.length_append, List.length_cons, List.length_nil, List.length_map, List.length_take, List.length_set, Qb6, hkl, hgl, hpl]; omega) y1_4 fun z1 W5 f8 y5 l5 => ?_
 have x5 : Ext w W5 := Ext.low x4 l5 x1.size
 refine QaN 6 kj ?_
 have r2_5 := (Qbd l5 r2_4 (Qa1 r2_1))
 refine Qby (k := .u8) (T := 5) (xs := ([0, (byV nm 0)]).set 0 1 ++ key) (ys := sg) (V := W1) 1 (.tmp 16) (.tmp 18) 26 rfl kj kj (by decide) 19 rfl 6 rfl kj kj kj f8 (QaM 34 hgl r2_5 (fun i hi => QaH [#[.bool true], #[.int .i64 nm], ints .u8 (key)] [ints .u8 (pa), #[.slice a_m ms.length c_m]] sg 34 i (34 + i) (by rw [Qab, Qab, Qab]; simp only [Array.size_append, cat, ((Qad _ _).trans hkl)]; rfl) rfl (by rw [hgl]; exact hi)) (Qa1 r2_5) (Nat.le_refl _) (by decide)) (by simp only [List.length_append, List.length_cons, List.length_nil, List.length_map, List.length_take, List.length_set, Qb6, hkl, hgl, hpl]; omega) y5 fun z2 W6 f10 y6 l6 => ?_
 have x6 : Ext w W6 := Ext.low x5 l6 x1.size
 refine QaN 9 kj ?_
 have r2_6 := (Qbd l6 r2_5 (Qa1 r2_1))
 refine Qby (k := .u8) (T := 5) (xs := ([0, (byV nm 0)]).set 0 1 ++ key ++ sg) (ys := pa) (V := W1) 1 (.tmp 19) (.tmp 21) 26 rfl kj kj (by decide) 22 rfl 9 rfl kj kj kj f10 (QaM 66 hpl r2_6 (fun i hi => QaH [#[.bool true], #[.int .i64 nm], ints .u8 (key), ints .u8 (sg)] [#[.slice a_m ms.length c_m]] pa 66 i (66 + i) (by rw [Qab, Qab, Qab, Qab]; simp only [Array.size_append, cat, ((Qad _ _).trans hgl), ((Qad _ _).trans hkl)]; rfl) rfl (by rw [hpl]; exact hi)) (Qa1 r2_6) (Nat.le_refl _) (by decide)) (by simp only [List.length_append, List.length_cons, List.length_nil, List.length_map, List.length_take, List.length_set, Qb6, hkl, hgl, hpl]; omega) y6 fun z3 W7 f12 y7 l7 => ?_
 have x7 : Ext w W7 := Ext.low x6 l7 x1.size
 refine Qao 10 (z3) 3 rfl rfl kj kj (fun _ _ _ h => h) (fun W hR => by kernel_rfl) ?_
 refine Qbt kj ?_
 refine hK7 _ _ ?_
 refine wp_seq_k fun K14 hK14 => ?_
 refine Qac ?_
 refine Qaa (z3) 23 rfl kj kj ?_
 refine Qaa (.pointer (some ⟨g2, 98, none⟩)) 24 rfl kj kj ?_
 have r2_7 := (Qbd l7 r2_6 (Qa1 r2_1))
 refine Qaa (.slice a_m ms.length c_m) 25 rfl kj (Qag 41 _ g2 98 43 _ (.slice a_m ms.length c_m) _ r2_7 rfl kj (Qam [#[.bool true], #[.int .i64 nm], ints .u8 (key), ints .u8 (sg), ints .u8 (pa)] [#[.slice a_m ms.length c_m]] [] 98 (by rw [Qab, Qab, Qab, Qab, Qab]; simp only [Array.size_append, cat, ((Qad _ _).trans hgl), ((Qad _ _).trans hkl), ((Qad _ _).trans hpl)]; rfl) 0 _ rfl) kj) ?_
 refine Qaa (.int .i64 ((ms.length : Nat) : Int)) 26 rfl kj kj ?_
 refine Qaa (.int .u8 (byV ((ms.length : Nat) : Int) 0)) 27 rfl kj (Qat (u := .int .u8 (IntKind.u8.wrap ((ms.length : Nat) : Int))) kj (congrArg (Value.int .u8) (byV0 _))) ?_
 refine QaU (ints .u8 ([(byV ((ms.length : Nat) : Int) 0)])) 5 1 28 rfl kj kj fun g15 W8 l15 e8 r15_8 => ?_
 have x8 : Ext w W8 := Ext.tr x7 e8
 have b15 : w.heap.size ≤ g15 := Nat.le_trans x7.size l15
 have f16_8 := (f12.ext e8)
 have y1_8 : Ext W1 W8 := (Rely.Ext.trans y7 e8)
 refine Qbg (k := .u8) (T := 5) (xs := ([0, (byV nm 0)]).set 0 1 ++ key ++ sg ++ pa) (ys := [(byV ((ms.length : Nat) : Int) 0)]) (V := W1) 1 (.tmp 23) (.tmp 28) 26 rfl kj kj (by decide) 29 rfl kj kj kj f16_8 (Qb7 (xs := [(byV ((ms.length : Nat) : Int) 0)]) (n := 1) rfl r15_8 (Qa1 r15_8) (show 1 ≤ maxLen from by decide)) (by simp only [List.length_append, List.length_cons, List.length_nil, List.length_map, List.length_take, List.length_set, Qb6, hkl, hgl, hpl]; omega) y1_8 fun z4 W9 f17 y9 l9 => ?_
 have x9 : Ext w W9 := Ext.low x8 l9 x1.size
 refine Qaa (z4) 3 rfl kj kj ?_
 refine Qaf ?_
 refine hK14 _ _ ?_
 refine wp_seq_k fun K19 hK19 => ?_
 refine wp_seq_k fun K20 hK20 => ?_
 refine Qac ?_
 refine Qaa (.int .i64 0) 4 rfl kj kj ?_
 refine Qaf ?_
 refine hK20 _ _ ?_
 refine wp_block ?_
 refine QaB (fun (s1 : Nat × Value) => [(1, .pointer (some ⟨g2, 0, none⟩)), (3, s1.2), (4, .int .i64 ((s1.1 : Nat) : Int))]) (fun (s1 : Nat × Value) W => (s1.1 ≤ ms.length) ∧ (OwnN .u8 5 W1.heap.size (Qb6 true nm key sg pa ms.length ++ (ms.take s1.1).map (fun m => byV m 0)) s1.2 W) ∧ (Below W1.heap.size W9 W) ∧ (Ext w W)) (fun (s1 : Nat × Value) => ms.length - s1.1) (0, z4) ⟨rfl, rfl, rfl, trivial⟩ ⟨(Nat.zero_le _), (by rw [List.take_zero, List.map_nil, List.append_nil]; exact f17), (RowKit.Below.refl _ W9), x9⟩ fun s1 X1 V1 hI1 => ?_
 obtain ⟨i, u⟩ := s1
 obtain ⟨hi, hu, kk1, xx1⟩ := hI1
 replace hi : i ≤ ms.length := hi
 replace hu : OwnN .u8 5 W1.heap.size (Qb6 true nm key sg pa ms.length ++ (ms.take i).map (fun m => byV m 0)) u V1 := hu
 replace kk1 : Below W1.heap.size W9 V1 := kk1
 replace xx1 : Ext w V1 := xx1
 have l10 := kk1
 refine wp_seq_k fun K21 hK21 => ?_
 refine wp_seq_k fun K22 hK22 => ?_
 refine Qac ?_
 refine Qaa (.int .i64 ((i : Nat) : Int)) 30 rfl kj kj ?_
 refine Qaa (.pointer (some ⟨g2, 98, none⟩)) 31 rfl kj kj ?_
 have r2_8 := (Qas r2_7 e8)
 have r2_9 := (Qbd l9 r2_8 (Qa1 r2_1))
 have r2_10 := (Qbd l10 r2_9 (Qa1 r2_1))
 refine Qaa (.slice a_m ms.length c_m) 32 rfl kj (Qag 41 _ g2 98 43 _ (.slice a_m ms.length c_m) _ r2_10 rfl kj (Qam [#[.bool true], #[.int .i64 nm], ints .u8 (key), ints .u8 (sg), ints .u8 (pa)] [#[.slice a_m ms.length c_m]] [] 98 (by rw [Qab, Qab, Qab, Qab, Qab]; simp only [Array.size_append, cat, ((Qad _ _).trans hgl), ((Qad _ _).trans hkl), ((Qad _ _).trans hpl)]; rfl) 0 _ rfl) kj) ?_
 refine Qaa (.int .i64 ((ms.length : Nat) : Int)) 33 rfl kj kj ?_
 refine Qaa (.bool (decide (((i : Nat) : Int) < ((ms.length : Nat) : Int)))) 34 rfl kj kj ?_
 refine Qaf ?_
 refine hK22 _ _ ?_
 refine Qa2 (t := decide (((i : Nat) : Int) < ((ms.length : Nat) : Int))) kj (fun c23 => ?_) (fun c23 => ?_)
 ·skip
  have hlt34 : i < ms.length := by have := of_decide_eq_true c23; omega
  have hnm_24 : (ms).length = ms.length := rfl
  obtain ⟨gcm_24, ocm_24, ham_24, hlm_24, hcm_24⟩ := QbE (RdK.here (RdK.ext hm xx1)) (by rw [hnm_24]; omega)
  refine wp_skip ?_
  refine hK21 _ _ ?_
  refine wp_seq_k fun K25 hK25 => ?_
  refine wp_block ?_
  refine Qac ?_
  refine Qaa (u) 37 rfl kj kj ?_
  refine Qaa (.pointer (some ⟨g2, 98, none⟩)) 38 rfl kj kj ?_
  refine Qaa (.slice a_m ms.length c_m) 39 rfl kj (Qag 41 _ g2 98 43 _ (.slice a_m ms.length c_m) _ r2_10 rfl kj (Qam [#[.bool true], #[.int .i64 nm], ints .u8 (key), ints .u8 (sg), ints .u8 (pa)] [#[.slice a_m ms.length c_m]] [] 98 (by rw [Qab, Qab, Qab, Qab, Qab]; simp only [Array.size_append, cat, ((Qad _ _).trans hgl), ((Qad _ _).trans hkl), ((Qad _ _).trans hpl)]; rfl) 0 _ rfl) kj) ?_
  refine Qaa (.int .i64 ((i : Nat) : Int)) 40 rfl kj kj ?_
  refine Qaa (.pointer (some ⟨gcm_24, ocm_24 + i, none⟩)) 41 rfl kj (Qa7 41 _ _ .i64 i gcm_24 ocm_24 ms.length c_m 3 a_m _ ham_24 rfl rfl kj kj kj kj (Nat.lt_of_lt_of_eq (show i < ms.length by omega) hnm_24.symm)) ?_
  refine Qaa (.int .i64 (nth (ms) (i))) 42 rfl kj (Qa4 3 _ _ (.int .i64 (nth (ms) (i))) (hcm_24 i (Nat.lt_of_lt_of_eq (show i < ms.length by omega) hnm_24.symm)) rfl kj kj) ?_
  refine Qaa (.int .u8 (byV (nth ms i) 0)) 43 rfl kj (Qat (u := .int .u8 (IntKind.u8.wrap (nth (ms) (i)))) kj (congrArg (Value.int .u8) (byV0 _))) ?_
  refine QaU (ints .u8 ([(byV (nth ms i) 0)])) 5 1 44 rfl kj kj fun g26 W11 l26 e11 r26_11 => ?_
  have x11 : Ext w W11 := Ext.tr xx1 e11
  have b26 : w.heap.size ≤ g26 := Nat.le_trans xx1.size l26
  have f27_11 := (hu.ext e11)
  have y1_10 : Ext W1 V1 := (Ext.low y9 l10 (Rely.Ext.refl W1).size)
  have y1_11 : Ext W1 W11 := (Rely.Ext.trans y1_10 e11)
  refine Qbg (k := .u8) (T := 5) (xs := Qb6 true nm key sg pa ms.length ++ (ms.take i).map (fun m => byV m 0)) (ys := [(byV (nth ms i) 0)]) (V := W1) 1 (.tmp 37) (.tmp 44) 26 rfl kj kj (by decide) 45 rfl kj kj kj f27_11 (Qb7 (xs := [(byV (nth ms i) 0)]) (n := 1) rfl r26_11 (Qa1 r26_11) (show 1 ≤ maxLen from by decide)) (by simp only [List.length_append, List.length_cons, List.length_nil, List.length_map, List.length_take, List.length_set, Qb6, hkl, hgl, hpl]; omega) y1_11 fun z5 W12 f28 y12 l12 => ?_
  have x12 : Ext w W12 := Ext.low x11 l12 x1.size
  refine Qaa (z5) 3 rfl kj kj ?_
  refine Qaf ?_
  refine hK25 _ _ ?_
  refine Qac ?_
  refine Qaa (.int .i64 ((i : Nat) : Int)) 35 rfl kj kj ?_
  refine Qaa (.int .i64 ((i + 1 : Nat) : Int)) 36 rfl kj (Qat (u := .int .i64 (IntKind.i64.wrap (((i : Nat) : Int) + 1))) kj (congrArg (Value.int .i64) (i64n _ _ (by omega) (by omega)))) ?_
  refine Qaa (.int .i64 ((i + 1 : Nat) : Int)) 4 rfl kj kj ?_
  refine Qaf ?_
  repeat (first | with_reducible refine goX1 ?_ | with_reducible refine goX2 ?_ | with_reducible refine goX3 ?_)
  exact Qa8 ((i + 1), z5) ⟨rfl, rfl, rfl, trivial⟩ ⟨(by omega), (by rw [QcE _ ms i hlt34]; exact f28), (RowKit.Below.trans (RowKit.Below.trans l10 (RowKit.Below.mono e11 y1_10.size)) l12), x12⟩ (by omega)
 ·skip
  have heq34 : i = ms.length := by have := of_decide_eq_false c23; omega
  refine wp_exit ?_
  refine hK19 _ _ ?_
  refine wp_seq_k fun K30 hK30 => ?_
  refine Qac ?_
  refine Qaa (u) 46 rfl kj kj ?_
  refine Qaa (u) 2 rfl kj kj ?_
  refine Qaf ?_
  refine hK30 _ _ ?_
  refine wp_ret ?_
  repeat (first | with_reducible refine goR1 ?_ | with_reducible refine goR2 ?_)
  exact (show bodyPost _ _ _ .ret _ _ from ret1 (u) rfl (Qar kj) ⟨_, rfl, xx1, OwnN.base x1.size (show OwnN .u8 5 _ (QbJ true nm key sg pa ms) _ _ by have h7 := hu; rw [heq34, List.take_length] at h7; exact h7)⟩)
set_option maxHeartbeats 4000000 in
theorem Qd7 (nm : Int) (key sg pa ms : List Int) (a_m : Option Addr) (c_m : Nat) (w : World) (hkl : key.length = 32) (hgl : sg.length = 32) (hpl : pa.length = 32) (hml : ms.length ≤ 1000000) (hm : RdK .i64 w.heap.size ms (.slice a_m ms.length c_m) w) : Calls Try.prog 97 #[.agg (cat [#[.bool false], #[.int .i64 nm], ints .u8 (key), ints .u8 (sg), ints .u8 (pa), #[.slice a_m ms.length c_m]])] w (Qb4 w (OwnN .u8 5 w.heap.size (QbJ false nm key sg pa ms))) := by
 refine enter 47 [(0, .agg (cat [#[.bool false], #[.int .i64 nm], ints .u8 (key), ints .u8 (sg), ints .u8 (pa), #[.slice a_m ms.length c_m]]))] Try.func97 rfl rfl kj rfl ?_
 refine wp_seq_k fun K1 hK1 => ?_
 refine Qac ?_
 refine Qaq (cat [#[.bool false], #[.int .i64 nm], ints .u8 (key), ints .u8 (sg), ints .u8 (pa), #[.slice a_m ms.length c_m]]) 43 1 rfl kj kj fun g2 W1 l2 e1 r2_1 => ?_
 have x1 : Ext w W1 := Ext.tr (Rely.Ext.refl w) e1
 have b2 : w.heap.size ≤ g2 := Nat.le_trans (Rely.Ext.refl w).size l2
 refine Qaa (.slice none 0 0) 2 rfl kj kj ?_
 refine Qaf ?_
 refine hK1 _ _ ?_
 refine wp_seq_k fun K3 hK3 => ?_
 refine Qac ?_
 refine Qaa (.pointer (some ⟨g2, 1, none⟩)) 5 rfl kj kj ?_
 refine Qaa (.int .i64 nm) 6 rfl kj (Qag 3 _ g2 1 43 _ (.int .i64 nm) _ r2_1 rfl kj (Qam [#[.bool false]] [#[.int .i64 nm]] [ints .u8 (key), ints .u8 (sg), ints .u8 (pa), #[.slice a_m ms.length c_m]] 1 kj 0 _ rfl) kj) ?_
 refine Qaa (.int .u8 (byV nm 0)) 7 rfl kj (Qat (u := .int .u8 (IntKind.u8.wrap (nm))) kj (congrArg (Value.int .u8) (byV0 nm))) ?_
 refine QaU (ints .u8 ([0, (byV nm 0)])) 5 2 8 rfl kj kj fun g4 W2 l4 e2 r4_2 => ?_
 have x2 : Ext w W2 := Ext.tr x1 e2
 have b4 : w.heap.size ≤ g4 := Nat.le_trans x1.size l4
 refine Qaa (.slice (some ⟨g4, 0, none⟩) 2 2) 3 rfl kj kj ?_
 refine Qaf ?_
 refine hK3 _ _ ?_
 refine wp_seq_k fun K5 hK5 => ?_
 refine wp_seq_k fun K6 hK6 => ?_
 refine Qac ?_
 refine Qaa (.pointer (some ⟨g2, 0, none⟩)) 9 rfl kj kj ?_
 have r2_2 := (Qas r2_1 e2)
 refine Qaa (.bool false) 10 rfl kj (Qag 4 _ g2 0 43 _ (.bool false) _ r2_2 rfl kj (Qam [] [#[.bool false]] [#[.int .i64 nm], ints .u8 (key), ints .u8 (sg), ints .u8 (pa), #[.slice a_m ms.length c_m]] 0 kj 0 _ rfl) kj) ?_
 refine Qaf ?_
 refine hK6 _ _ ?_
 refine cond_false kj ?_
 refine wp_skip ?_
 refine hK5 _ _ ?_
 refine wp_seq_k fun K7 hK7 => ?_
 refine QaY (fun _ => True) kj fun W3 e3 => ⟨trivial, ?_⟩
 have x3 : Ext w W3 := Ext.tr x2 e3
 refine Qao 0 (.slice (some ⟨g4, 0, none⟩) 2 2) 13 rfl rfl kj kj (fun _ _ _ h => h) (fun W hR => by kernel_rfl) ?_
 refine Qao 1 (.pointer (some ⟨g2, 2, none⟩)) 14 rfl rfl kj kj (fun _ _ _ h => h) (fun W hR => by kernel_rfl) ?_
 refine Qao 2 (.slice (some ⟨g2, 2, none⟩) 32 32) 15 rfl rfl kj kj (fun _ _ _ h => h) (fun W hR => by kernel_rfl) ?_
 refine Qao 4 (.pointer (some ⟨g2, 34, none⟩)) 17 rfl rfl kj kj (fun _ _ _ h => h) (fun W hR => by kernel_rfl) ?_
 refine Qao 5 (.slice (some ⟨g2, 34, none⟩) 32 32) 18 rfl rfl kj kj (fun _ _ _ h => h) (fun W hR => by kernel_rfl) ?_
 refine Qao 7 (.pointer (some ⟨g2, 66, none⟩)) 20 rfl rfl kj kj (fun _ _ _ h => h) (fun W hR => by kernel_rfl) ?_
 refine Qao 8 (.slice (some ⟨g2, 66, none⟩) 32 32) 21 rfl rfl kj kj (fun _ _ _ h => h) (fun W hR => by kernel_rfl) ?_
 refine QaN 3 kj ?_
 have r4_3 := (Qas r4_2 e3)
 have r2_3 := (Qas r2_2 e3)
 have y1_2 : Ext W1 W2 := (Rely.Ext.trans (Rely.Ext.refl W1) e2)
 have y1_3 : Ext W1 W3 := (Rely.Ext.trans y1_2 e3)
 refine Qby (k := .u8) (T := 5) (xs := [0, (byV nm 0)]) (ys := key) (V := W1) 1 (.tmp 13) (.tmp 15) 26 rfl kj kj (by decide) 16 rfl 3 rfl kj kj kj (QbO (xs := [0, (byV nm 0)]) rfl l4 r4_3 (show 2 ≤ maxLen by decide)) (QaM 2 hkl r2_3 (fun i hi => QaH [#[.bool false], #[.int .i64 nm]] [ints .u8 (sg), ints .u8 (pa), #[.slice a_m ms.length c_m]] key 2 i (2 + i) kj rfl (by rw [hkl]; exact hi)) (Qa1 r2_3) (Nat.le_refl _) (by decide)) (by simp only [List.length_append, List.length_cons, List.length_nil, List.length_map, List.length_take, List.length_set, Qb6, hkl, hgl, hpl]; omega) y1_3 fun z1 W4 f8 y4 l4 => ?_
 have x4 : Ext w W4 := Ext.low x3 l4 x1.size
 refine QaN 6 kj ?_
 have r2_4 := (Qbd l4 r2_3 (Qa1 r2_1))
 refine Qby (k := .u8) (T := 5) (xs := [0, (byV nm 0)] ++ key) (ys := sg) (V := W1) 1 (.tmp 16) (.tmp 18) 26 rfl kj kj (by decide) 19 rfl 6 rfl kj kj kj f8 (QaM 34 hgl r2_4 (fun i hi => QaH [#[.bool false], #[.int .i64 nm], ints .u8 (key)] [ints .u8 (pa), #[.slice a_m ms.length c_m]] sg 34 i (34 + i) (by rw [Qab, Qab, Qab]; simp only [Array.size_append, cat, ((Qad _ _).trans hkl)]; rfl) rfl (by rw [hgl]; exact hi)) (Qa1 r2_4) (Nat.le_refl _) (by decide)) (by simp only [List.length_append, List.length_cons, List.length_nil, List.length_map, List.length_take, List.length_set, Qb6, hkl, hgl, hpl]; omega) y4 fun z2 W5 f10 y5 l5 => ?_
 have x5 : Ext w W5 := Ext.low x4 l5 x1.size
 refine QaN 9 kj ?_
 have r2_5 := (Qbd l5 r2_4 (Qa1 r2_1))
 refine Qby (k := .u8) (T := 5) (xs := [0, (byV nm 0)] ++ key ++ sg) (ys := pa) (V := W1) 1 (.tmp 19) (.tmp 21) 26 rfl kj kj (by decide) 22 rfl 9 rfl kj kj kj f10 (QaM 66 hpl r2_5 (fun i hi => QaH [#[.bool false], #[.int .i64 nm], ints .u8 (key), ints .u8 (sg)] [#[.slice a_m ms.length c_m]] pa 66 i (66 + i) (by rw [Qab, Qab, Qab, Qab]; simp only [Array.size_append, cat, ((Qad _ _).trans hgl), ((Qad _ _).trans hkl)]; rfl) rfl (by rw [hpl]; exact hi)) (Qa1 r2_5) (Nat.le_refl _) (by decide)) (by simp only [List.length_append, List.length_cons, List.length_nil, List.length_map, List.length_take, List.length_set, Qb6, hkl, hgl, hpl]; omega) y5 fun z3 W6 f12 y6 l6 => ?_
 have x6 : Ext w W6 := Ext.low x5 l6 x1.size
 refine Qao 10 (z3) 3 rfl rfl kj kj (fun _ _ _ h => h) (fun W hR => by kernel_rfl) ?_
 refine Qbt kj ?_
 refine hK7 _ _ ?_
 refine wp_seq_k fun K14 hK14 => ?_
 refine Qac ?_
 refine Qaa (z3) 23 rfl kj kj ?_
 refine Qaa (.pointer (some ⟨g2, 98, none⟩)) 24 rfl kj kj ?_
 have r2_6 := (Qbd l6 r2_5 (Qa1 r2_1))
 refine Qaa (.slice a_m ms.length c_m) 25 rfl kj (Qag 41 _ g2 98 43 _ (.slice a_m ms.length c_m) _ r2_6 rfl kj (Qam [#[.bool false], #[.int .i64 nm], ints .u8 (key), ints .u8 (sg), ints .u8 (pa)] [#[.slice a_m ms.length c_m]] [] 98 (by rw [Qab, Qab, Qab, Qab, Qab]; simp only [Array.size_append, cat, ((Qad _ _).trans hgl), ((Qad _ _).trans hkl), ((Qad _ _).trans hpl)]; rfl) 0 _ rfl) kj) ?_
 refine Qaa (.int .i64 ((ms.length : Nat) : Int)) 26 rfl kj kj ?_
 refine Qaa (.int .u8 (byV ((ms.length : Nat) : Int) 0)) 27 rfl kj (Qat (u := .int .u8 (IntKind.u8.wrap ((ms.length : Nat) : Int))) kj (congrArg (Value.int .u8) (byV0 _))) ?_
 refine QaU (ints .u8 ([(byV ((ms.length : Nat) : Int) 0)])) 5 1 28 rfl kj kj fun g15 W7 l15 e7 r15_7 => ?_
 have x7 : Ext w W7 := Ext.tr x6 e7
 have b15 : w.heap.size ≤ g15 := Nat.le_trans x6.size l15
 have f16_7 := (f12.ext e7)
 have y1_7 : Ext W1 W7 := (Rely.Ext.trans y6 e7)
 refine Qbg (k := .u8) (T := 5) (xs := [0, (byV nm 0)] ++ key ++ sg ++ pa) (ys := [(byV ((ms.length : Nat) : Int) 0)]) (V := W1) 1 (.tmp 23) (.tmp 28) 26 rfl kj kj (by decide) 29 rfl kj kj kj f16_7 (Qb7 (xs := [(byV ((ms.length : Nat) : Int) 0)]) (n := 1) rfl r15_7 (Qa1 r15_7) (show 1 ≤ maxLen from by decide)) (by simp only [List.length_append, List.length_cons, List.length_nil, List.length_map, List.length_take, List.length_set, Qb6, hkl, hgl, hpl]; omega) y1_7 fun z4 W8 f17 y8 l8 => ?_
 have x8 : Ext w W8 := Ext.low x7 l8 x1.size
 refine Qaa (z4) 3 rfl kj kj ?_
 refine Qaf ?_
 refine hK14 _ _ ?_
 refine wp_seq_k fun K19 hK19 => ?_
 refine wp_seq_k fun K20 hK20 => ?_
 refine Qac ?_
 refine Qaa (.int .i64 0) 4 rfl kj kj ?_
 refine Qaf ?_
 refine hK20 _ _ ?_
 refine wp_block ?_
 refine QaB (fun (s1 : Nat × Value) => [(1, .pointer (some ⟨g2, 0, none⟩)), (3, s1.2), (4, .int .i64 ((s1.1 : Nat) : Int))]) (fun (s1 : Nat × Value) W => (s1.1 ≤ ms.length) ∧ (OwnN .u8 5 W1.heap.size (Qb6 false nm key sg pa ms.length ++ (ms.take s1.1).map (fun m => byV m 0)) s1.2 W) ∧ (Below W1.heap.size W8 W) ∧ (Ext w W)) (fun (s1 : Nat × Value) => ms.length - s1.1) (0, z4) ⟨rfl, rfl, rfl, trivial⟩ ⟨(Nat.zero_le _), (by rw [List.take_zero, List.map_nil, List.append_nil]; exact f17), (RowKit.Below.refl _ W8), x8⟩ fun s1 X1 V1 hI1 => ?_
 obtain ⟨i, u⟩ := s1
 obtain ⟨hi, hu, kk1, xx1⟩ := hI1
 replace hi : i ≤ ms.length := hi
 replace hu : OwnN .u8 5 W1.heap.size (Qb6 false nm key sg pa ms.length ++ (ms.take i).map (fun m => byV m 0)) u V1 := hu
 replace kk1 : Below W1.heap.size W8 V1 := kk1
 replace xx1 : Ext w V1 := xx1
 have l9 := kk1
 refine wp_seq_k fun K21 hK21 => ?_
 refine wp_seq_k fun K22 hK22 => ?_
 refine Qac ?_
 refine Qaa (.int .i64 ((i : Nat) : Int)) 30 rfl kj kj ?_
 refine Qaa (.pointer (some ⟨g2, 98, none⟩)) 31 rfl kj kj ?_
 have r2_7 := (Qas r2_6 e7)
 have r2_8 := (Qbd l8 r2_7 (Qa1 r2_1))
 have r2_9 := (Qbd l9 r2_8 (Qa1 r2_1))
 refine Qaa (.slice a_m ms.length c_m) 32 rfl kj (Qag 41 _ g2 98 43 _ (.slice a_m ms.length c_m) _ r2_9 rfl kj (Qam [#[.bool false], #[.int .i64 nm], ints .u8 (key), ints .u8 (sg), ints .u8 (pa)] [#[.slice a_m ms.length c_m]] [] 98 (by rw [Qab, Qab, Qab, Qab, Qab]; simp only [Array.size_append, cat, ((Qad _ _).trans hgl), ((Qad _ _).trans hkl), ((Qad _ _).trans hpl)]; rfl) 0 _ rfl) kj) ?_
 refine Qaa (.int .i64 ((ms.length : Nat) : Int)) 33 rfl kj kj ?_
 refine Qaa (.bool (decide (((i : Nat) : Int) < ((ms.length : Nat) : Int)))) 34 rfl kj kj ?_
 refine Qaf ?_
 refine hK22 _ _ ?_
 refine Qa2 (t := decide (((i : Nat) : Int) < ((ms.length : Nat) : Int))) kj (fun c23 => ?_) (fun c23 => ?_)
 ·skip
  have hlt34 : i < ms.length := by have := of_decide_eq_true c23; omega
  have hnm_24 : (ms).length = ms.length := rfl
  obtain ⟨gcm_24, ocm_24, ham_24, hlm_24, hcm_24⟩ := QbE (RdK.here (RdK.ext hm xx1)) (by rw [hnm_24]; omega)
  refine wp_skip ?_
  refine hK21 _ _ ?_
  refine wp_seq_k fun K25 hK25 => ?_
  refine wp_block ?_
  refine Qac ?_
  refine Qaa (u) 37 rfl kj kj ?_
  refine Qaa (.pointer (some ⟨g2, 98, none⟩)) 38 rfl kj kj ?_
  refine Qaa (.slice a_m ms.length c_m) 39 rfl kj (Qag 41 _ g2 98 43 _ (.slice a_m ms.length c_m) _ r2_9 rfl kj (Qam [#[.bool false], #[.int .i64 nm], ints .u8 (key), ints .u8 (sg), ints .u8 (pa)] [#[.slice a_m ms.length c_m]] [] 98 (by rw [Qab, Qab, Qab, Qab, Qab]; simp only [Array.size_append, cat, ((Qad _ _).trans hgl), ((Qad _ _).trans hkl), ((Qad _ _).trans hpl)]; rfl) 0 _ rfl) kj) ?_
  refine Qaa (.int .i64 ((i : Nat) : Int)) 40 rfl kj kj ?_
  refine Qaa (.pointer (some ⟨gcm_24, ocm_24 + i, none⟩)) 41 rfl kj (Qa7 41 _ _ .i64 i gcm_24 ocm_24 ms.length c_m 3 a_m _ ham_24 rfl rfl kj kj kj kj (Nat.lt_of_lt_of_eq (show i < ms.length by omega) hnm_24.symm)) ?_
  refine Qaa (.int .i64 (nth (ms) (i))) 42 rfl kj (Qa4 3 _ _ (.int .i64 (nth (ms) (i))) (hcm_24 i (Nat.lt_of_lt_of_eq (show i < ms.length by omega) hnm_24.symm)) rfl kj kj) ?_
  refine Qaa (.int .u8 (byV (nth ms i) 0)) 43 rfl kj (Qat (u := .int .u8 (IntKind.u8.wrap (nth (ms) (i)))) kj (congrArg (Value.int .u8) (byV0 _))) ?_
  refine QaU (ints .u8 ([(byV (nth ms i) 0)])) 5 1 44 rfl kj kj fun g26 W10 l26 e10 r26_10 => ?_
  have x10 : Ext w W10 := Ext.tr xx1 e10
  have b26 : w.heap.size ≤ g26 := Nat.le_trans xx1.size l26
  have f27_10 := (hu.ext e10)
  have y1_9 : Ext W1 V1 := (Ext.low y8 l9 (Rely.Ext.refl W1).size)
  have y1_10 : Ext W1 W10 := (Rely.Ext.trans y1_9 e10)
  refine Qbg (k := .u8) (T := 5) (xs := Qb6 false nm key sg pa ms.length ++ (ms.take i).map (fun m => byV m 0)) (ys := [(byV (nth ms i) 0)]) (V := W1) 1 (.tmp 37) (.tmp 44) 26 rfl kj kj (by decide) 45 rfl kj kj kj f27_10 (Qb7 (xs := [(byV (nth ms i) 0)]) (n := 1) rfl r26_10 (Qa1 r26_10) (show 1 ≤ maxLen from by decide)) (by simp only [List.length_append, List.length_cons, List.length_nil, List.length_map, List.length_take, List.length_set, Qb6, hkl, hgl, hpl]; omega) y1_10 fun z5 W11 f28 y11 l11 => ?_
  have x11 : Ext w W11 := Ext.low x10 l11 x1.size
  refine Qaa (z5) 3 rfl kj kj ?_
  refine Qaf ?_
  refine hK25 _ _ ?_
  refine Qac ?_
  refine Qaa (.int .i64 ((i : Nat) : Int)) 35 rfl kj kj ?_
  refine Qaa (.int .i64 ((i + 1 : Nat) : Int)) 36 rfl kj (Qat (u := .int .i64 (IntKind.i64.wrap (((i : Nat) : Int) + 1))) kj (congrArg (Value.int .i64) (i64n _ _ (by omega) (by omega)))) ?_
  refine Qaa (.int .i64 ((i + 1 : Nat) : Int)) 4 rfl kj kj ?_
  refine Qaf ?_
  repeat (first | with_reducible refine goX1 ?_ | with_reducible refine goX2 ?_ | with_reducible refine goX3 ?_)
  exact Qa8 ((i + 1), z5) ⟨rfl, rfl, rfl, trivial⟩ ⟨(by omega), (by rw [QcE _ ms i hlt34]; exact f28), (RowKit.Below.trans (RowKit.Below.trans l9 (RowKit.Below.mono e10 y1_9.size)) l11), x11⟩ (by omega)
 ·skip
  have heq34 : i = ms.length := by have := of_decide_eq_false c23; omega
  refine wp_exit ?_
  refine hK19 _ _ ?_
  refine wp_seq_k fun K30 hK30 => ?_
  refine Qac ?_
  refine Qaa (u) 46 rfl kj kj ?_
  refine Qaa (u) 2 rfl kj kj ?_
  refine Qaf ?_
  refine hK30 _ _ ?_
  refine wp_ret ?_
  repeat (first | with_reducible refine goR1 ?_ | with_reducible refine goR2 ?_)
  exact (show bodyPost _ _ _ .ret _ _ from ret1 (u) rfl (Qar kj) ⟨_, rfl, xx1, OwnN.base x1.size (show OwnN .u8 5 _ (QbJ false nm key sg pa ms) _ _ by have h7 := hu; rw [heq34, List.take_length] at h7; exact h7)⟩)
theorem Qgw (us : Bool) (nm : Int) (key sg pa ms : List Int) (a_m : Option Addr) (c_m : Nat) (w : World) (hkl : key.length = 32) (hgl : sg.length = 32) (hpl : pa.length = 32) (hml : ms.length ≤ 1000000) (hm : RdK .i64 w.heap.size ms (.slice a_m ms.length c_m) w) : Calls Try.prog 97 #[.agg (cat [#[.bool us], #[.int .i64 nm], ints .u8 (key), ints .u8 (sg), ints .u8 (pa), #[.slice a_m ms.length c_m]])] w (Qb4 w (OwnN .u8 5 w.heap.size (QbJ us nm key sg pa ms))) := by
  cases us with
  | true => exact Qeh nm key sg pa ms a_m c_m w hkl hgl hpl hml hm
  | false => exact Qd7 nm key sg pa ms a_m c_m w hkl hgl hpl hml hm
end Go.Proofs.Ytfelfmchachljaa.Wr
end
section
namespace Go.Proofs.Ytfelfmchachljaa.Wr
open Go Go.RowKit
open Rely Auto Own Sha
set_option linter.unusedVariables false
set_option linter.unusedSimpArgs false
def allN (ms : List Int) : Nat → Bool
  | 0 => true
  | n + 1 => allN ms n && inB (nth ms n) 31
theorem Qcs (ms : List Int) : ∀ n, Qba ms n = (risN ms n && allN ms n)
  | 0 => rfl
  | n + 1 => by
    show (Qba ms n && (inB (nth ms n) 31 && ((n == 0) || decide (nth ms (n - 1) < nth ms n)))) = ((risN ms n && ((n == 0) || decide (nth ms (n - 1) < nth ms n))) && (allN ms n && inB (nth ms n) 31))
    rw [Qcs ms n]
    cases risN ms n <;> cases allN ms n <;> cases inB (nth ms n) 31 <;> cases ((n == 0) || decide (nth ms (n - 1) < nth ms n)) <;> rfl
theorem QeS (ms : List Int) : ∀ n, allN ms n = true → ∀ i, i < n → inB (nth ms i) 31 = true
  | 0, _, i, hi => absurd hi (Nat.not_lt_zero _)
  | n + 1, h, i, hi => by
    have h' : (allN ms n && inB (nth ms n) 31) = true := h
    rw [Bool.and_eq_true] at h'
    rcases Nat.lt_or_ge i n with h2 | h2
    · exact QeS ms n h'.1 i h2
    · obtain rfl : i = n := by omega
      exact h'.2
theorem Qe3 (ms : List Int) : ∀ n, risN ms n = true → allN ms n = true → ∀ i, i < n → ((i : Nat) : Int) ≤ nth ms i
  | 0, _, _, i, hi => absurd hi (Nat.not_lt_zero _)
  | n + 1, hr, ha, i, hi => by
    have hr' : (risN ms n && ((n == 0) || decide (nth ms (n - 1) < nth ms n))) = true := hr
    have ha' : (allN ms n && inB (nth ms n) 31) = true := ha
    rw [Bool.and_eq_true] at hr' ha'
    rcases Nat.lt_or_ge i n with h2 | h2
    · exact Qe3 ms n hr'.1 ha'.1 i h2
    · obtain rfl : i = n := by omega
      have h0 := QbX ha'.2
      by_cases hz : i = 0
      · subst hz; exact h0.1
      · have h3 := hr'.2
        rw [beq_eq_false_iff_ne.2 hz, Bool.false_or, decide_eq_true_eq] at h3
        have h4 := Qe3 ms i hr'.1 ha'.1 (i - 1) (by omega)
        omega
theorem QgX (ms : List Int) (hr : risV ms = true) (ha : allN ms ms.length = true) : ms.length ≤ 32 := by
  rcases Nat.lt_or_ge 32 ms.length with h | h
  · have h1 := Qe3 ms ms.length hr ha 32 h
    have h2 := QbX (QeS ms ms.length ha 32 h)
    omega
  · exact h
theorem Qea (ms : List Int) : ∀ n, n ≤ ms.length → allN ms n = (ms.take n).all fun m => inB m 31
  | 0, _ => rfl
  | n + 1, h => by
    have e : ms.take (n + 1) = ms.take n ++ [nth ms n] := by
      rw [List.take_add_one, List.getElem?_eq_getElem (show n < ms.length by omega)]
      unfold nth
      rw [List.getD_eq_getElem?_getD, List.getElem?_eq_getElem (show n < ms.length by omega)]
      rfl
    rw [e, List.all_append, ← Qea ms n (by omega)]
    show (allN ms n && inB (nth ms n) 31) = (allN ms n && (inB (nth ms n) 31 && true))
    rw [Bool.and_true]
theorem Qc1 (s : Option (List Int)) : ∀ (ms a : List Int), ms.foldl Qbl (rawS s a) = bif (ms.all fun m => inB m 31) then rawS s (a ++ ms.map fun m => byV m 0) else none
  | [], a => by show rawS s a = rawS s (a ++ []); rw [List.append_nil]
  | m :: r, a => by
    show r.foldl Qbl (Qbl (rawS s a) m) = bif (inB m 31 && (r.all fun m => inB m 31)) then rawS s (a ++ byV m 0 :: r.map fun m => byV m 0) else none
    rw [QcY]
    cases inB m 31 with
    | false => exact QaZ r
    | true =>
      show r.foldl Qbl (rawS (rawS s a) (beV m 1)) = _
      rw [QaW, Qc1 s r]
      show _ = bif (r.all fun m => inB m 31) then _ else none
      rw [List.append_assoc]
      rfl
theorem Qei (us : Bool) (nm : Int) (key sg pa ms : List Int) (hkb : Qal key) (hgb : Qal sg) (hpb : Qal pa) : Qal (QbJ us nm key sg pa ms) := by
  unfold QbJ Qb6
  refine QaP (QaP (QaP (QaP (QaP ?_ hkb) hgb) hpb) (Qb3 _ 1)) ?_
  · intro x hx
    rcases List.mem_cons.1 hx with h | h
    · rw [h]; cases us <;> decide
    · exact Qb3 nm 1 x h
  · intro x hx
    obtain ⟨m, _, rfl⟩ := List.mem_map.1 hx
    exact Qb3 m 1 _ List.mem_cons_self
end Go.Proofs.Ytfelfmchachljaa.Wr
end
section
namespace Go.Proofs.Ytfelfmchachljaa.Wr
open Go Go.RowKit
open Rely Auto Own Sha
set_option linter.unusedVariables false
set_option linter.unusedSimpArgs false
theorem Qc2 (ms r : List Int) (ha : allN ms ms.length = true) : ∀ i, i ≤ ms.length → itR (some ((ms.map fun m => byV m 0) ++ r)) i = some ((ms.drop i).map (fun m => byV m 0) ++ r) ∧ itL (some ((ms.map fun m => byV m 0) ++ r)) i = ms.take i
  | 0, _ => ⟨by rw [List.drop_zero]; rfl, by rw [List.take_zero]; rfl⟩
  | i + 1, h => by
    obtain ⟨h1, h2⟩ := Qc2 ms r ha i (by omega)
    have hm := QbX (QeS ms ms.length ha i (by omega))
    have e : (ms.drop i).map (fun m => byV m 0) ++ r = beV (nth ms i) 1 ++ ((ms.drop (i + 1)).map (fun m => byV m 0) ++ r) := by rw [QdW ms i (by omega)]; rfl
    have q : ((bigN (beV (nth ms i) 1) : Nat) : Int) = nth ms i := QdY _ 1 hm.1 (by omega)
    constructor
    · show QaS (itR _ i) = _
      rw [h1, e]
      unfold QaS
      rw [QaI _ _ 1 (QaG _ 1), q, QaL _ _ 1 (QaG _ 1), decide_eq_true (by omega)]
      rfl
    · show itL _ i ++ [((bigN (Qak (itR _ i) 1) : Nat) : Int)] = _
      rw [h1, h2, e, QaI _ _ 1 (QaG _ 1), q, List.take_add_one, List.getElem?_eq_getElem (show i < ms.length by omega)]
      congr 1
      unfold nth
      rw [List.getD_eq_getElem?_getD, List.getElem?_eq_getElem (show i < ms.length by omega)]
      rfl
theorem QeH (us : Bool) (nm : Int) (key sg pa ms r : List Int) (hkl : key.length = 32) (hgl : sg.length = 32) (hpl : pa.length = 32) (hg : Qbr us nm key sg pa ms = true) (s : Option (List Int)) (hs : s = some (QbJ us nm key sg pa ms ++ r)) :
    bigN (Qak s 1) = (bif us then 1 else 0) ∧ nNm s = nm ∧ nKy s = key ∧ nSg s = sg ∧ nPa s = pa ∧ nR6 s = some r ∧ nL s = ms := by
  unfold Qbr at hg
  rw [Qcs] at hg
  simp only [Bool.and_eq_true, decide_eq_true_eq] at hg
  obtain ⟨⟨h1, h2⟩, ⟨h3, h4⟩, h5⟩ := hg
  have hn := QbX h1
  have e : QbJ us nm key sg pa ms ++ r = [bif us then 1 else 0] ++ (beV nm 1 ++ (key ++ (sg ++ (pa ++ (beV ((ms.length : Nat) : Int) 1 ++ ((ms.map fun m => byV m 0) ++ r)))))) := by
    unfold QbJ Qb6
    simp only [List.append_assoc]
    rfl
  rw [e] at hs
  have s1 : nR1 s = some (beV nm 1 ++ (key ++ (sg ++ (pa ++ (beV ((ms.length : Nat) : Int) 1 ++ ((ms.map fun m => byV m 0) ++ r)))))) := by unfold nR1; rw [hs]; exact QaL _ _ 1 rfl
  have s2 : nR2 s = some (key ++ (sg ++ (pa ++ (beV ((ms.length : Nat) : Int) 1 ++ ((ms.map fun m => byV m 0) ++ r))))) := by unfold nR2; rw [s1]; exact QaL _ _ 1 (QaG _ 1)
  have s3 : nR3 s = some (sg ++ (pa ++ (beV ((ms.length : Nat) : Int) 1 ++ ((ms.map fun m => byV m 0) ++ r)))) := by unfold nR3; rw [s2]; exact QaL _ _ 32 hkl
  have s4 : nR4 s = some (pa ++ (beV ((ms.length : Nat) : Int) 1 ++ ((ms.map fun m => byV m 0) ++ r))) := by unfold nR4; rw [s3]; exact QaL _ _ 32 hgl
  have s5 : nR5 s = some (beV ((ms.length : Nat) : Int) 1 ++ ((ms.map fun m => byV m 0) ++ r)) := by unfold nR5; rw [s4]; exact QaL _ _ 32 hpl
  have q : bigN (beV ((ms.length : Nat) : Int) 1) = ms.length := by rw [QdZ, Nat.mod_eq_of_lt (by omega)]
  have lb := Qc2 ms r h4 ms.length (Nat.le_refl _)
  refine ⟨?_, ?_, ?_, ?_, ?_, ?_, ?_⟩
  · rw [hs, QaI _ _ 1 rfl]; cases us <;> rfl
  · unfold nNm; rw [s1, QaI _ _ 1 (QaG _ 1), QdY nm 1 hn.1 (by omega)]
  · unfold nKy; rw [s2, QaI _ _ 32 hkl, QbB _ hkl]
  · unfold nSg; rw [s3, QaI _ _ 32 hgl, QbB _ hgl]
  · unfold nPa; rw [s4, QaI _ _ 32 hpl, QbB _ hpl]
  · unfold nR6; rw [s5, QaI _ _ 1 (QaG _ 1), QaL _ _ 1 (QaG _ 1), q, lb.1, List.drop_length]; rfl
  · unfold nL; rw [s5, QaI _ _ 1 (QaG _ 1), QaL _ _ 1 (QaG _ 1), q, lb.2, List.take_length]
end Go.Proofs.Ytfelfmchachljaa.Wr
end
section
namespace Go.Proofs.Ytfelfmchachljaa.Wr
open Go Go.RowKit
open Rely Auto Own Sha
set_option linter.unusedVariables false
set_option linter.unusedSimpArgs false
theorem QdT (pl : Nat → Option (Nat × Nat)) : ∀ (ps : List (Nat × Nat × Value × Array Value)) (pre : List (Array Value)) (rest : Array Value) (off : Nat), (cat pre).size = off → okPl pl off ps → tot ps ≤ rest.size →
    Instr.fill pl (cat pre ++ rest) (ps.map fun x => (x.1, x.2.2.1)) = some (cat (pre ++ ps.map fun x => x.2.2.2) ++ rest.extract (tot ps) rest.size)
  | [], pre, rest, off, _, _, ht => by
    simp [Instr.fill, tot]
  | (i, n, v, p) :: r, pre, rest, off, hoff, ⟨h1, h2, h3, h4⟩, ht => by
    subst h2
    have hn : n ≤ rest.size := by rw [tot] at ht; omega
    simp only [List.map_cons, Instr.fill, h1, h3]
    rw [if_neg (by simp; omega)]
    have hz : (v.cells.zipIdx.foldl (fun cs (x : Value × Nat) => cs.setIfInBounds (off + x.2) x.1) (cat pre ++ rest)) = cat (pre ++ [v.cells]) ++ rest.extract n rest.size := by
      have e1 : v.cells.zipIdx = (v.cells.toList.zipIdx 0).toArray := by
        apply Array.ext'
        simp
      rw [e1, List.foldl_toArray', QbK]
      · have e2 : rest = rest.extract 0 n ++ rest.extract n rest.size := by
          rw [Array.extract_append_extract, Nat.max_eq_right hn]
          simp
        have e3 : (cat pre ++ rest) = cat (pre ++ ([rest.extract 0 n] ++ [rest.extract n rest.size])) := by
          rw [QaJ]
          congr 1
        rw [Nat.add_zero, e3]
        have := QcJ pre [rest.extract 0 n] [v.cells] [rest.extract n rest.size] off hoff (by show v.cells.size = (rest.extract 0 n).size; simp; omega)
        rw [show (cat [v.cells]).toList = v.cells.toList from rfl] at this
        rw [this, ← List.append_assoc, QaJ (pre ++ [v.cells])]
        rfl
      · rfl
    have key := QdT pl r (pre ++ [v.cells]) (rest.extract n rest.size) (off + n) (by rw [QaJ]; show (cat pre ++ v.cells).size = _; simp; omega) h4 (by rw [tot] at ht; simp; omega)
    rw [← hz] at key
    rw [List.append_assoc] at key
    rw [key, tot]
    congr 2
    rw [Array.extract_extract]
    simp
    congr 1
    rw [tot] at ht
    omega
theorem Qeg {P : Program} {ρ : Operand → Value} {o : Oper} {w : World} (t : TypeId) (parts : Array (Nat × Operand)) (z : Value) (places : Array (Nat × Nat)) (ps : List (Nat × Nat × Value × Array Value)) (rest : List (Array Value))
    (ho : o.op = .build t parts) (hv : (parts.map fun (i, x) => (i, ρ x)).toList = ps.map fun x => (x.1, x.2.2.1)) (hp : okPl (fun i => places[i]?) 0 ps) (ht : tot ps ≤ z.cells.size) (hr : z.cells.extract (tot ps) z.cells.size = cat rest)
    (hz : (zeroValue t).run P w = .ok z w) (hu : P.underlying t = some (.struct (P.fieldsOf t))) (hm : ((P.fieldsOf t).mapM fun f => do pure (f.offset, ← sizeOf f.type) : Sem (Array (Nat × Nat))).run P w = .ok places w) :
    (execOp ρ o).run P w = .ok (.value (.agg (cat ((ps.map fun x => x.2.2.2) ++ rest)))) w := by
  have := QdT (fun i => places[i]?) ps [] z.cells 0 rfl hp ht
  rw [show cat [] ++ z.cells = z.cells by simp [cat], List.nil_append, hr, ← QaJ] at this
  rw [← hv] at this
  have hB : (Instr.build t (parts.map fun (i, x) => (i, ρ x))).run P w = .ok (.agg (cat ((ps.map fun x => x.2.2.2) ++ rest))) w := by
    unfold Instr.build
    rw [Sem.run_bind, hz, Result.andThen_ok, Sem.run_bind, run_underlying hu w, Result.andThen_ok]
    show (Sem.run P _ w) = _
    rw [Sem.run_bind, hm, Result.andThen_ok]
    simp only [this]
    rfl
  unfold execOp
  simp only [ho, Sem.run_bind, hB, Result.andThen_ok, Sem.run_pure]
theorem Qdd : ∀ ls : List (List Value), cat (ls.map List.toArray) = ls.flatten.toArray
  | [] => rfl
  | a :: r => by rw [List.map_cons, Qab, Qdd r, List.flatten_cons, List.append_toArray]
theorem Qef {P : Program} {ρ : Operand → Value} {o : Oper} {w : World} (t : TypeId) (parts : Array (Nat × Operand)) (pre rest : List (Array Value)) (places : Array (Nat × Nat)) (ps : List (Nat × Nat × Value × Array Value))
    (ho : o.op = .build t parts) (hv : (parts.map fun (i, x) => (i, ρ x)).toList = ps.map fun x => (x.1, x.2.2.1)) (hp : okPl (fun i => places[i]?) 0 ps) (ht : tot ps = (cat pre).size)
    (hz : (zeroValue t).run P w = .ok (.agg (cat (pre ++ rest))) w) (hu : P.underlying t = some (.struct (P.fieldsOf t))) (hm : ((P.fieldsOf t).mapM fun f => do pure (f.offset, ← sizeOf f.type) : Sem (Array (Nat × Nat))).run P w = .ok places w) :
    (execOp ρ o).run P w = .ok (.value (.agg (cat ((ps.map fun x => x.2.2.2) ++ rest)))) w :=
  Qeg t parts _ places ps rest ho hv hp (by rw [ht]; show _ ≤ (cat (pre ++ rest)).size; rw [QaJ, Array.size_append]; omega) (by show (cat (pre ++ rest)).extract _ (cat (pre ++ rest)).size = _; rw [QaJ, ht]; simp) hz hu hm
theorem Qbo {P : Program} {ρ : Operand → Value} {o : Oper} {w : World} (t : TypeId) (cs : Array Value) (ho : o.op = .alloc t) (hz : (zeroValue t).run P w = .ok (.agg cs) w) :
    (execOp ρ o).run P w = .ok (.value (.pointer (some ⟨w.heap.size, 0, none⟩))) (w.alloc (.cells cs t)) := by
  have h : (Instr.alloc t true (.tuple #[])).run P w = .ok (.pointer (some ⟨w.heap.size, 0, none⟩)) (w.alloc (.cells cs t)) := by
    unfold Instr.alloc
    rw [Sem.run_bind, hz, Result.andThen_ok]
    rfl
  unfold execOp
  simp only [ho, Sem.run_bind, h, Result.andThen_ok, Sem.run_pure]
theorem Qf2 (w : World) : (zeroValue 43).run Try.prog w = .ok (.agg (cat [#[.bool false], #[.int .i64 0], ints .u8 (List.replicate 32 0), ints .u8 (List.replicate 32 0), ints .u8 (List.replicate 32 0), #[.slice none 0 0]])) w := by
  have h := Qdd [[.bool false], [.int .i64 0], (List.replicate 32 0).map (Value.int .u8), (List.replicate 32 0).map (Value.int .u8), (List.replicate 32 0).map (Value.int .u8), [.slice none 0 0]]
  refine Eq.trans ?_ (congrArg (fun z => Result.ok (Value.agg z) w) h.symm)
  kernel_rfl
def nUs (s : Option (List Int)) : Bool := bigN (Qak s 1) == 1
def nOk (s : Option (List Int)) : Bool := nUs s || (bigN (Qak s 1) == 0 && QaE false (nNm s) (nKy s) (nSg s) (nPa s) (nL s))
def Qcq (s : Option (List Int)) : Option (List Int) := QaA (QaA (nR6 s) (nOk s)) (risV (nL s))
theorem QaV (b : Bool) : QaA none b = none := by cases b <;> rfl
theorem QfQ (s : Option (List Int)) : (nKy s).length = 32 := Qap _ (Qan _ 32)
theorem QfO (s : Option (List Int)) : (nSg s).length = 32 := Qap _ (Qan _ 32)
theorem QfP (s : Option (List Int)) : (nPa s).length = 32 := Qap _ (Qan _ 32)
theorem Qct {B gr : Nat} {s : Option (List Int)} {w : World} {us : Bool} {okx : List Int → Bool} (hu : nUs s = us) (ho : okx (nL s) = nOk s) (e : Ending) (W : World) (h : ∃ v xs, e = .returned v ∧ ExtB gr w W ∧ RSt B gr (QaA (QaA (nR6 s) (okx xs)) (risV xs)) W ∧ (∃ (a : Option Addr) (c : Nat), v = .agg (cat [#[.bool us], #[.int .i64 (nNm s)], ints .u8 (nKy s), ints .u8 (nSg s), ints .u8 (nPa s), #[.slice a xs.length c]]) ∧ OwnN .i64 3 w.heap.size xs (.slice a xs.length c) W) ∧ xs.length ≤ 255 ∧ (nR6 s ≠ none → xs = nL s)) : Qb8 B gr w (Qcq s) (fun v W => ∃ (xz : List Int) (a : Option Addr) (c : Nat), v = .agg (cat [#[.bool (nUs s)], #[.int .i64 (nNm s)], ints .u8 (nKy s), ints .u8 (nSg s), ints .u8 (nPa s), #[.slice a xz.length c]]) ∧ OwnN .i64 3 w.heap.size xz (.slice a xz.length c) W ∧ xz.length ≤ 255 ∧ (Qcq s ≠ none → xz = nL s)) e W := by
  obtain ⟨v, xs, e1, e2, e3, ⟨a, c, hv, hown⟩, hl, hx⟩ := h
  refine ⟨v, e1, e2, ?_, xs, a, c, by rw [hu]; exact hv, hown, hl, fun hne => hx (fun h6 => hne (by unfold Qcq; rw [h6, QaV, QaV]))⟩
  by_cases h6 : nR6 s = none
  · unfold Qcq; rw [h6, QaV, QaV] at e3 ⊢; exact e3
  · obtain rfl := hx h6
    rw [ho] at e3; exact e3
theorem Qgv (B gr : Nat) (s : Option (List Int)) (w : World) (hB : B ≤ gr) (h : RSt B gr s w) : Calls Try.prog 102 #[.pointer (some ⟨gr, 0, none⟩)] w (Qb8 B gr w (Qcq s) fun v W => ∃ (xz : List Int) (a : Option Addr) (c : Nat), v = .agg (cat [#[.bool (nUs s)], #[.int .i64 (nNm s)], ints .u8 (nKy s), ints .u8 (nSg s), ints .u8 (nPa s), #[.slice a xz.length c]]) ∧ OwnN .i64 3 w.heap.size xz (.slice a xz.length c) W ∧ xz.length ≤ 255 ∧ (Qcq s ≠ none → xz = nL s)) := by
  rcases (show bigN (Qak s 1) = 1 ∨ bigN (Qak s 1) = 0 ∨ 1 < bigN (Qak s 1) by omega) with hU | hU | hU
  · have e : nUs s = true := by unfold nUs; rw [hU]; rfl
    exact (Qfl B gr s w hB h hU).mono fun e' W hh => Qct (okx := fun _ => true) e (by unfold nOk; rw [e]; rfl) e' W hh
  · have e : nUs s = false := by unfold nUs; rw [hU]; rfl
    exact (Qfk B gr s w hB h hU).mono fun e' W hh => Qct (okx := fun xs => QaE false (nNm s) (nKy s) (nSg s) (nPa s) xs) e (by unfold nOk; rw [e, hU]; rfl) e' W hh
  · have e : nUs s = false := by unfold nUs; exact beq_eq_false_iff_ne.2 (by omega)
    exact (Qfj B gr s w hB h hU).mono fun e' W hh => Qct (okx := fun _ => false) e (by unfold nOk; rw [e, beq_eq_false_iff_ne.2 (show bigN (Qak s 1) ≠ 0 by omega)]; rfl) e' W hh
end Go.Proofs.Ytfelfmchachljaa.Wr
end
section
namespace Go.Proofs.Ytfelfmchachljaa.Wr
open Go Go.RowKit
open Rely Auto Own Sha
set_option linter.unusedVariables false
set_option linter.unusedSimpArgs false
theorem Qd6 {w : World} {g k : Nat} {v : Value} (h : w.cell? ⟨g, k, none⟩ = some v) : ∃ cs t fr, w.heap[g]? = some (.cells cs t fr) := by
  unfold World.cell? at h
  split at h
  · next c t f e => exact ⟨c, t, f, e⟩
  · cases h
theorem Qd4 {P : Program} {ρ : Operand → Value} {o : Oper} {w : World} (t : TypeId) (x y : Operand) (k : IntKind) (n g off len cap : Nat) (e : TypeId) (sz : Nat) (ho : o.op = .indexAddr t x y) (hx : ρ x = .slice (some ⟨g, off, none⟩) len cap) (hy : ρ y = .int k n)
    (hu : P.underlying t = some (.slice e)) (hs : (P.info? e).map (·.size) = some sz) (hn : n < len) : (execOp ρ o).run P w = .ok (.value (.pointer (some ⟨g, off + n * sz, none⟩))) w := by
  cases hq : P.info? e with
  | none => simp [hq] at hs
  | some i =>
    have hs' : i.size = sz := by simpa [hq] using hs
    have hadd : (⟨g, off, none⟩ : Addr).add (n * sz) = ⟨g, off + n * sz, none⟩ := by unfold Addr.add; split <;> simp_all
    have h0 : (0 : Int) ≤ (n : Int) := by omega
    have h1 : (n : Int) < (len : Int) := by omega
    unfold execOp
    simp only [ho, hx, hy]
    simp [Instr.indexAt, asIntOf, run_underlying hu, sizeOf, typeInfo, hq, hs', h0, hn, hadd]
theorem QaF {P : Program} {ρ : Operand → Value} {o : Oper} {w : World} (t : TypeId) (x y : Operand) (k : IntKind) (n g off len cap : Nat) (e : TypeId) (sz : Nat) (ad : Option Addr) (ha : ad = some ⟨g, off, none⟩) (ho : o.op = .indexAddr t x y) (hx : ρ x = .slice ad len cap) (hy : ρ y = .int k n)
    (hu : P.underlying t = some (.slice e)) (hs : (P.info? e).map (·.size) = some sz) (hn : n < len) : (execOp ρ o).run P w = .ok (.value (.pointer (some ⟨g, off + n * sz, none⟩))) w := by
  subst ha
  exact Qd4 t x y k n g off len cap e sz ho hx hy hu hs hn
structure NdC where
  us : Bool
  nm : Int
  key : List Int
  sg : List Int
  pa : List Int
  ms : List Int
structure NdV where
  n : NdC
  a : Option Addr
  c : Nat
def nd0 : NdV := ⟨⟨false, 0, [], [], [], []⟩, none, 0⟩
def ndi (ts : List NdV) (i : Nat) : NdV := ts.getD i nd0
structure NdOk (n : NdC) : Prop where
  kl : n.key.length = 32
  gl : n.sg.length = 32
  pl : n.pa.length = 32
  kb : Qal n.key
  gb : Qal n.sg
  pb : Qal n.pa
def ndP (n : NdV) : List (Array Value) := [#[.bool n.n.us], #[.int .i64 n.n.nm], ints .u8 n.n.key, ints .u8 n.n.sg, ints .u8 n.n.pa, #[.slice n.a n.n.ms.length n.c]]
theorem Qcr (n : NdV) (h : NdOk n.n) : (cat (ndP n)).size = 99 := by
  unfold ndP
  simp only [cat, Array.size_append, Qad, h.kl, h.gl, h.pl]
  rfl
structure NdAt (B : Nat) (w : World) (g off : Nat) (n : NdV) : Prop where
  lt : g < B
  lt2 : g < w.heap.size
  cell : ∀ j u, (cat (ndP n))[j]? = some u → w.cell? ⟨g, off + j, none⟩ = some u
  rd : RdK .i64 B n.n.ms (.slice n.a n.n.ms.length n.c) w
  ok : NdOk n.n
theorem NdAt.keep {B g off : Nat} {w W : World} {n : NdV} (h : NdAt B w g off n) (hs : w.heap.size ≤ W.heap.size) (hk : ∀ k, k < B → k < w.heap.size → W.heap[k]? = w.heap[k]?) : NdAt B W g off n :=
  ⟨h.lt, Nat.lt_of_lt_of_le h.lt2 hs, fun j u hu => by rw [← h.cell j u hu]; exact World.cell?_of_block (hk g h.lt h.lt2), h.rd.keep hs hk, h.ok⟩
def TrAt (B : Nat) (w : World) (a : Option Addr) (ts : List NdV) : Prop := ∃ g o, (0 < ts.length → a = some ⟨g, o, none⟩) ∧ ∀ i, i < ts.length → NdAt B w g (o + i * 99) (ndi ts i)
theorem TrAt.keep {B : Nat} {w W : World} {a : Option Addr} {ts : List NdV} (h : TrAt B w a ts) (hs : w.heap.size ≤ W.heap.size) (hk : ∀ k, k < B → k < w.heap.size → W.heap[k]? = w.heap[k]?) : TrAt B W a ts := by
  obtain ⟨g, o, h1, h2⟩ := h
  exact ⟨g, o, h1, fun i hi => (h2 i hi).keep hs hk⟩
theorem TrAt.ext {B : Nat} {w W : World} {a : Option Addr} {ts : List NdV} (h : TrAt B w a ts) (e : Ext w W) : TrAt B W a ts := h.keep e.size fun k _ hl => e.block k hl
theorem TrAt.gw {base gw : Nat} {w W : World} {a : Option Addr} {ts : List NdV} (h : TrAt base w a ts) (q : GW base gw w W) (hb : base ≤ gw) : TrAt base W a ts := h.keep q.size fun k hk hl => q.block k hl (by omega) (.inl hk)
theorem TrAt.here {B : Nat} {w : World} {a : Option Addr} {ts : List NdV} (h : TrAt B w a ts) : TrAt w.heap.size w a ts := by
  obtain ⟨g, o, h1, h2⟩ := h
  exact ⟨g, o, h1, fun i hi => ⟨(h2 i hi).lt2, (h2 i hi).lt2, (h2 i hi).cell, RdK.here (h2 i hi).rd, (h2 i hi).ok⟩⟩
theorem TrAt.more {B B' : Nat} {w : World} {a : Option Addr} {ts : List NdV} (h : TrAt B w a ts) (hb : B ≤ B') : TrAt B' w a ts := by
  obtain ⟨g, o, h1, h2⟩ := h
  exact ⟨g, o, h1, fun i hi => ⟨Nat.lt_of_lt_of_le (h2 i hi).lt hb, (h2 i hi).lt2, (h2 i hi).cell, RdK.more (h2 i hi).rd hb, (h2 i hi).ok⟩⟩
theorem QaC {P : Program} {ρ : Operand → Value} {o : Oper} {w : World} (ty : TypeId) (x : Operand) {B : Nat} (g off : Nat) (n : NdV) (h : NdAt B w g off n)
    (ho : o.op = .load ty x) (hx : ρ x = .pointer (some ⟨g, off, none⟩)) (hu : aggD P ty = some true) (hi : (P.info? ty).map (·.size) = some 99) : (execOp ρ o).run P w = .ok (.value (.agg (cat [#[.bool n.n.us], #[.int .i64 n.n.nm], ints .u8 n.n.key, ints .u8 n.n.sg, ints .u8 n.n.pa, #[.slice n.a n.n.ms.length n.c]]))) w := by
  have h0 : (cat (ndP n))[0]? = some (.bool n.n.us) := by
    unfold ndP
    show (#[Value.bool n.n.us] ++ cat _)[0]? = _
    rw [Array.getElem?_append_left (show 0 < 1 by decide)]
    rfl
  obtain ⟨cs, t, fr, hg⟩ := Qd6 (h.cell 0 _ h0)
  refine Qaw ty x g off t cs (cat (ndP n)) fr hg ho hx (fun j v hv => ?_) hu (by rw [hi, Qcr n h.ok])
  have h1 := h.cell j v hv
  unfold World.cell? at h1
  simp only [hg] at h1
  rw [← h1]; rfl
end Go.Proofs.Ytfelfmchachljaa.Wr
end
section
namespace Go.Proofs.Ytfelfmchachljaa.Wr
open Go Go.RowKit
open Rely Auto Own Sha
set_option linter.unusedVariables false
set_option linter.unusedSimpArgs false
def szOk (n : Nat) : Bool := n == 1 || n == 3 || n == 7 || n == 15 || n == 31 || n == 63
def Qc0 (s : Option (List Int)) (n : NdC) : Option (List Int) := QdC s n.us n.nm n.key n.sg n.pa n.ms
def QdE (s : Option (List Int)) (ts : List NdV) : Option (List Int) := ts.foldl (fun s n => Qc0 s n.n) (numS s ((ts.length : Nat) : Int) 1)
def Qc6 (s : Option (List Int)) (ts : List NdV) : Option (List Int) := QdE (QaA s (szOk ts.length)) ts
theorem Qcx (n : Int) (k : Nat) : numS none n k = none := by unfold numS; rw [show QaA none (okN n k) = none by cases okN n k <;> rfl, Qcy]
theorem Qel (n : NdC) : Qc0 none n = none := by
  unfold Qc0 QdC Qb9
  have e : (bif n.us then numS none 1 1 else numS (QaA none (QaE n.us n.nm n.key n.sg n.pa n.ms)) 0 1) = none := by
    rw [QaV, Qcx, Qcx]; cases n.us <;> rfl
  rw [e, Qcx]
  show n.ms.foldl Qbl (numS (QaA none _) _ 1) = none
  rw [QaV, Qcx]
  exact QaZ _
theorem QbQ : ∀ ts : List NdV, ts.foldl (fun s n => Qc0 s n.n) none = none
  | [] => rfl
  | n :: r => by rw [List.foldl_cons, Qel]; exact QbQ r
theorem QdX (ts : List NdV) (i : Nat) (h : i < ts.length) : ts.drop i = ndi ts i :: ts.drop (i + 1) := by
  rw [List.drop_eq_getElem_cons h]
  congr 1
  unfold ndi
  rw [List.getD_eq_getElem?_getD, List.getElem?_eq_getElem h]
  rfl
set_option maxHeartbeats 4000000 in
theorem QgM (w : World)  : Calls Try.prog 99 #[.int .i64 1] w (Ret w (.bool true)) := by
  refine enter 11 [(0, .int .i64 1)] Try.func99 rfl rfl kj rfl ?_
  refine wp_seq_k fun K1 hK1 => ?_
  refine Qac ?_
  refine Qaa (.bool false) 2 rfl kj kj ?_
  refine Qaf ?_
  refine hK1 _ _ ?_
  refine wp_seq_k fun K2 hK2 => ?_
  refine wp_seq_k fun K3 hK3 => ?_
  refine Qac ?_
  refine Qaa (.int .i64 1) 3 rfl kj kj ?_
  refine Qaf ?_
  refine hK3 _ _ ?_
  refine wp_block ?_
  refine wp_seq_k fun K4 hK4 => ?_
  refine wp_seq_k fun K5 hK5 => ?_
  refine Qac ?_
  refine Qaa (.bool true) 5 rfl kj kj ?_
  refine Qaa (.bool true) 4 rfl kj kj ?_
  refine Qaf ?_
  refine hK5 _ _ ?_
  refine cond_true kj ?_
  refine wp_skip ?_
  refine hK4 _ _ ?_
  refine cond_true kj ?_
  refine wp_seq_k fun K6 hK6 => ?_
  refine Qac ?_
  refine Qaa (.bool true) 2 rfl kj kj ?_
  refine Qaf ?_
  refine hK6 _ _ ?_
  refine wp_ret ?_
  repeat (first | with_reducible refine goR1 ?_ | with_reducible refine goR2 ?_)
  exact (show bodyPost _ _ _ .ret _ _ from ret1 (.bool true) rfl (Qar kj) ⟨rfl, (Rely.Ext.refl w)⟩)
set_option maxHeartbeats 4000000 in
theorem QgL (w : World)  : Calls Try.prog 99 #[.int .i64 3] w (Ret w (.bool true)) := by
  refine enter 11 [(0, .int .i64 3)] Try.func99 rfl rfl kj rfl ?_
  refine wp_seq_k fun K1 hK1 => ?_
  refine Qac ?_
  refine Qaa (.bool false) 2 rfl kj kj ?_
  refine Qaf ?_
  refine hK1 _ _ ?_
  refine wp_seq_k fun K2 hK2 => ?_
  refine wp_seq_k fun K3 hK3 => ?_
  refine Qac ?_
  refine Qaa (.int .i64 3) 3 rfl kj kj ?_
  refine Qaf ?_
  refine hK3 _ _ ?_
  refine wp_block ?_
  refine wp_seq_k fun K4 hK4 => ?_
  refine wp_seq_k fun K5 hK5 => ?_
  refine Qac ?_
  refine Qaa (.bool false) 5 rfl kj kj ?_
  refine Qaa (.bool false) 4 rfl kj kj ?_
  refine Qaf ?_
  refine hK5 _ _ ?_
  refine cond_false kj ?_
  refine wp_seq_k fun K6 hK6 => ?_
  refine Qac ?_
  refine Qaa (.bool true) 6 rfl kj kj ?_
  refine Qaa (.bool true) 4 rfl kj kj ?_
  refine Qaf ?_
  refine hK6 _ _ ?_
  refine cond_true kj ?_
  refine wp_skip ?_
  refine hK4 _ _ ?_
  refine cond_true kj ?_
  refine wp_seq_k fun K7 hK7 => ?_
  refine Qac ?_
  refine Qaa (.bool true) 2 rfl kj kj ?_
  refine Qaf ?_
  refine hK7 _ _ ?_
  refine wp_ret ?_
  repeat (first | with_reducible refine goR1 ?_ | with_reducible refine goR2 ?_)
  exact (show bodyPost _ _ _ .ret _ _ from ret1 (.bool true) rfl (Qar kj) ⟨rfl, (Rely.Ext.refl w)⟩)
set_option maxHeartbeats 4000000 in
theorem QgK (w : World)  : Calls Try.prog 99 #[.int .i64 7] w (Ret w (.bool true)) := by
  refine enter 11 [(0, .int .i64 7)] Try.func99 rfl rfl kj rfl ?_
  refine wp_seq_k fun K1 hK1 => ?_
  refine Qac ?_
  refine Qaa (.bool false) 2 rfl kj kj ?_
  refine Qaf ?_
  refine hK1 _ _ ?_
  refine wp_seq_k fun K2 hK2 => ?_
  refine wp_seq_k fun K3 hK3 => ?_
  refine Qac ?_
  refine Qaa (.int .i64 7) 3 rfl kj kj ?_
  refine Qaf ?_
  refine hK3 _ _ ?_
  refine wp_block ?_
  refine wp_seq_k fun K4 hK4 => ?_
  refine wp_seq_k fun K5 hK5 => ?_
  refine Qac ?_
  refine Qaa (.bool false) 5 rfl kj kj ?_
  refine Qaa (.bool false) 4 rfl kj kj ?_
  refine Qaf ?_
  refine hK5 _ _ ?_
  refine cond_false kj ?_
  refine wp_seq_k fun K6 hK6 => ?_
  refine Qac ?_
  refine Qaa (.bool false) 6 rfl kj kj ?_
  refine Qaa (.bool false) 4 rfl kj kj ?_
  refine Qaf ?_
  refine hK6 _ _ ?_
  refine cond_false kj ?_
  refine wp_seq_k fun K7 hK7 => ?_
  refine Qac ?_
  refine Qaa (.bool true) 7 rfl kj kj ?_
  refine Qaa (.bool true) 4 rfl kj kj ?_
  refine Qaf ?_
  refine hK7 _ _ ?_
  refine cond_true kj ?_
  refine wp_skip ?_
  refine hK4 _ _ ?_
  refine cond_true kj ?_
  refine wp_seq_k fun K8 hK8 => ?_
  refine Qac ?_
  refine Qaa (.bool true) 2 rfl kj kj ?_
  refine Qaf ?_
  refine hK8 _ _ ?_
  refine wp_ret ?_
  repeat (first | with_reducible refine goR1 ?_ | with_reducible refine goR2 ?_)
  exact (show bodyPost _ _ _ .ret _ _ from ret1 (.bool true) rfl (Qar kj) ⟨rfl, (Rely.Ext.refl w)⟩)
set_option maxHeartbeats 4000000 in
theorem Qgo (w : World)  : Calls Try.prog 99 #[.int .i64 15] w (Ret w (.bool true)) := by
  refine enter 11 [(0, .int .i64 15)] Try.func99 rfl rfl kj rfl ?_
  refine wp_seq_k fun K1 hK1 => ?_
  refine Qac ?_
  refine Qaa (.bool false) 2 rfl kj kj ?_
  refine Qaf ?_
  refine hK1 _ _ ?_
  refine wp_seq_k fun K2 hK2 => ?_
  refine wp_seq_k fun K3 hK3 => ?_
  refine Qac ?_
  refine Qaa (.int .i64 15) 3 rfl kj kj ?_
  refine Qaf ?_
  refine hK3 _ _ ?_
  refine wp_block ?_
  refine wp_seq_k fun K4 hK4 => ?_
  refine wp_seq_k fun K5 hK5 => ?_
  refine Qac ?_
  refine Qaa (.bool false) 5 rfl kj kj ?_
  refine Qaa (.bool false) 4 rfl kj kj ?_
  refine Qaf ?_
  refine hK5 _ _ ?_
  refine cond_false kj ?_
  refine wp_seq_k fun K6 hK6 => ?_
  refine Qac ?_
  refine Qaa (.bool false) 6 rfl kj kj ?_
  refine Qaa (.bool false) 4 rfl kj kj ?_
  refine Qaf ?_
  refine hK6 _ _ ?_
  refine cond_false kj ?_
  refine wp_seq_k fun K7 hK7 => ?_
  refine Qac ?_
  refine Qaa (.bool false) 7 rfl kj kj ?_
  refine Qaa (.bool false) 4 rfl kj kj ?_
  refine Qaf ?_
  refine hK7 _ _ ?_
  refine cond_false kj ?_
  refine wp_seq_k fun K8 hK8 => ?_
  refine Qac ?_
  refine Qaa (.bool true) 8 rfl kj kj ?_
  refine Qaa (.bool true) 4 rfl kj kj ?_
  refine Qaf ?_
  refine hK8 _ _ ?_
  refine cond_true kj ?_
  refine wp_skip ?_
  refine hK4 _ _ ?_
  refine cond_true kj ?_
  refine wp_seq_k fun K9 hK9 => ?_
  refine Qac ?_
  refine Qaa (.bool true) 2 rfl kj kj ?_
  refine Qaf ?_
  refine hK9 _ _ ?_
  refine wp_ret ?_
  repeat (first | with_reducible refine goR1 ?_ | with_reducible refine goR2 ?_)
  exact (show bodyPost _ _ _ .ret _ _ from ret1 (.bool true) rfl (Qar kj) ⟨rfl, (Rely.Ext.refl w)⟩)
set_option maxHeartbeats 4000000 in
theorem Qgn (w : World)  : Calls Try.prog 99 #[.int .i64 31] w (Ret w (.bool true)) := by
  refine enter 11 [(0, .int .i64 31)] Try.func99 rfl rfl kj rfl ?_
  refine wp_seq_k fun K1 hK1 => ?_
  refine Qac ?_
  refine Qaa (.bool false) 2 rfl kj kj ?_
  refine Qaf ?_
  refine hK1 _ _ ?_
  refine wp_seq_k fun K2 hK2 => ?_
  refine wp_seq_k fun K3 hK3 => ?_
  refine Qac ?_
  refine Qaa (.int .i64 31) 3 rfl kj kj ?_
  refine Qaf ?_
  refine hK3 _ _ ?_
  refine wp_block ?_
  refine wp_seq_k fun K4 hK4 => ?_
  refine wp_seq_k fun K5 hK5 => ?_
  refine Qac ?_
  refine Qaa (.bool false) 5 rfl kj kj ?_
  refine Qaa (.bool false) 4 rfl kj kj ?_
  refine Qaf ?_
  refine hK5 _ _ ?_
  refine cond_false kj ?_
  refine wp_seq_k fun K6 hK6 => ?_
  refine Qac ?_
  refine Qaa (.bool false) 6 rfl kj kj ?_
  refine Qaa (.bool false) 4 rfl kj kj ?_
  refine Qaf ?_
  refine hK6 _ _ ?_
  refine cond_false kj ?_
  refine wp_seq_k fun K7 hK7 => ?_
  refine Qac ?_
  refine Qaa (.bool false) 7 rfl kj kj ?_
  refine Qaa (.bool false) 4 rfl kj kj ?_
  refine Qaf ?_
  refine hK7 _ _ ?_
  refine cond_false kj ?_
  refine wp_seq_k fun K8 hK8 => ?_
  refine Qac ?_
  refine Qaa (.bool false) 8 rfl kj kj ?_
  refine Qaa (.bool false) 4 rfl kj kj ?_
  refine Qaf ?_
  refine hK8 _ _ ?_
  refine cond_false kj ?_
  refine wp_seq_k fun K9 hK9 => ?_
  refine Qac ?_
  refine Qaa (.bool true) 9 rfl kj kj ?_
  refine Qaa (.bool true) 4 rfl kj kj ?_
  refine Qaf ?_
  refine hK9 _ _ ?_
  refine cond_true kj ?_
  refine wp_skip ?_
  refine hK4 _ _ ?_
  refine cond_true kj ?_
  refine wp_seq_k fun K10 hK10 => ?_
  refine Qac ?_
  refine Qaa (.bool true) 2 rfl kj kj ?_
  refine Qaf ?_
  refine hK10 _ _ ?_
  refine wp_ret ?_
  repeat (first | with_reducible refine goR1 ?_ | with_reducible refine goR2 ?_)
  exact (show bodyPost _ _ _ .ret _ _ from ret1 (.bool true) rfl (Qar kj) ⟨rfl, (Rely.Ext.refl w)⟩)
set_option maxHeartbeats 4000000 in
theorem Qgm (w : World)  : Calls Try.prog 99 #[.int .i64 63] w (Ret w (.bool true)) := by
  refine enter 11 [(0, .int .i64 63)] Try.func99 rfl rfl kj rfl ?_
  refine wp_seq_k fun K1 hK1 => ?_
  refine Qac ?_
  refine Qaa (.bool false) 2 rfl kj kj ?_
  refine Qaf ?_
  refine hK1 _ _ ?_
  refine wp_seq_k fun K2 hK2 => ?_
  refine wp_seq_k fun K3 hK3 => ?_
  refine Qac ?_
  refine Qaa (.int .i64 63) 3 rfl kj kj ?_
  refine Qaf ?_
  refine hK3 _ _ ?_
  refine wp_block ?_
  refine wp_seq_k fun K4 hK4 => ?_
  refine wp_seq_k fun K5 hK5 => ?_
  refine Qac ?_
  refine Qaa (.bool false) 5 rfl kj kj ?_
  refine Qaa (.bool false) 4 rfl kj kj ?_
  refine Qaf ?_
  refine hK5 _ _ ?_
  refine cond_false kj ?_
  refine wp_seq_k fun K6 hK6 => ?_
  refine Qac ?_
  refine Qaa (.bool false) 6 rfl kj kj ?_
  refine Qaa (.bool false) 4 rfl kj kj ?_
  refine Qaf ?_
  refine hK6 _ _ ?_
  refine cond_false kj ?_
  refine wp_seq_k fun K7 hK7 => ?_
  refine Qac ?_
  refine Qaa (.bool false) 7 rfl kj kj ?_
  refine Qaa (.bool false) 4 rfl kj kj ?_
  refine Qaf ?_
  refine hK7 _ _ ?_
  refine cond_false kj ?_
  refine wp_seq_k fun K8 hK8 => ?_
  refine Qac ?_
  refine Qaa (.bool false) 8 rfl kj kj ?_
  refine Qaa (.bool false) 4 rfl kj kj ?_
  refine Qaf ?_
  refine hK8 _ _ ?_
  refine cond_false kj ?_
  refine wp_seq_k fun K9 hK9 => ?_
  refine Qac ?_
  refine Qaa (.bool false) 9 rfl kj kj ?_
  refine Qaa (.bool false) 4 rfl kj kj ?_
  refine Qaf ?_
  refine hK9 _ _ ?_
  refine cond_false kj ?_
  refine Qac ?_
  refine Qaa (.bool true) 10 rfl kj kj ?_
  refine Qaa (.bool true) 4 rfl kj kj ?_
  refine Qaf ?_
  refine hK4 _ _ ?_
  refine cond_true kj ?_
  refine wp_seq_k fun K10 hK10 => ?_
  refine Qac ?_
  refine Qaa (.bool true) 2 rfl kj kj ?_
  refine Qaf ?_
  refine hK10 _ _ ?_
  refine wp_ret ?_
  repeat (first | with_reducible refine goR1 ?_ | with_reducible refine goR2 ?_)
  exact (show bodyPost _ _ _ .ret _ _ from ret1 (.bool true) rfl (Qar kj) ⟨rfl, (Rely.Ext.refl w)⟩)
set_option maxHeartbeats 4000000 in
theorem QgJ (n : Nat) (w : World) (h1 : n ≠ 1) (h3 : n ≠ 3) (h7 : n ≠ 7) (h15 : n ≠ 15) (h31 : n ≠ 31) (h63 : n ≠ 63) : Calls Try.prog 99 #[.int .i64 ((n : Nat) : Int)] w (Ret w (.bool false)) := by
  refine enter 11 [(0, .int .i64 ((n : Nat) : Int))] Try.func99 rfl rfl kj rfl ?_
  refine wp_seq_k fun K1 hK1 => ?_
  refine Qac ?_
  refine Qaa (.bool false) 2 rfl kj kj ?_
  refine Qaf ?_
  refine hK1 _ _ ?_
  refine wp_seq_k fun K2 hK2 => ?_
  refine wp_seq_k fun K3 hK3 => ?_
  refine Qac ?_
  refine Qaa (.int .i64 ((n : Nat) : Int)) 3 rfl kj kj ?_
  refine Qaf ?_
  refine hK3 _ _ ?_
  refine wp_block ?_
  refine wp_seq_k fun K4 hK4 => ?_
  refine wp_seq_k fun K5 hK5 => ?_
  refine Qac ?_
  refine Qaa (.bool false) 5 rfl kj (Qat (u := .bool ((((n : Nat) : Int) == 1))) kj (congrArg Value.bool (beq_eq_false_iff_ne.2 (by omega)))) ?_
  refine Qaa (.bool false) 4 rfl kj kj ?_
  refine Qaf ?_
  refine hK5 _ _ ?_
  refine cond_false kj ?_
  refine wp_seq_k fun K6 hK6 => ?_
  refine Qac ?_
  refine Qaa (.bool false) 6 rfl kj (Qat (u := .bool ((((n : Nat) : Int) == 3))) kj (congrArg Value.bool (beq_eq_false_iff_ne.2 (by omega)))) ?_
  refine Qaa (.bool false) 4 rfl kj kj ?_
  refine Qaf ?_
  refine hK6 _ _ ?_
  refine cond_false kj ?_
  refine wp_seq_k fun K7 hK7 => ?_
  refine Qac ?_
  refine Qaa (.bool false) 7 rfl kj (Qat (u := .bool ((((n : Nat) : Int) == 7))) kj (congrArg Value.bool (beq_eq_false_iff_ne.2 (by omega)))) ?_
  refine Qaa (.bool false) 4 rfl kj kj ?_
  refine Qaf ?_
  refine hK7 _ _ ?_
  refine cond_false kj ?_
  refine wp_seq_k fun K8 hK8 => ?_
  refine Qac ?_
  refine Qaa (.bool false) 8 rfl kj (Qat (u := .bool ((((n : Nat) : Int) == 15))) kj (congrArg Value.bool (beq_eq_false_iff_ne.2 (by omega)))) ?_
  refine Qaa (.bool false) 4 rfl kj kj ?_
  refine Qaf ?_
  refine hK8 _ _ ?_
  refine cond_false kj ?_
  refine wp_seq_k fun K9 hK9 => ?_
  refine Qac ?_
  refine Qaa (.bool false) 9 rfl kj (Qat (u := .bool ((((n : Nat) : Int) == 31))) kj (congrArg Value.bool (beq_eq_false_iff_ne.2 (by omega)))) ?_
  refine Qaa (.bool false) 4 rfl kj kj ?_
  refine Qaf ?_
  refine hK9 _ _ ?_
  refine cond_false kj ?_
  refine Qac ?_
  refine Qaa (.bool false) 10 rfl kj (Qat (u := .bool ((((n : Nat) : Int) == 63))) kj (congrArg Value.bool (beq_eq_false_iff_ne.2 (by omega)))) ?_
  refine Qaa (.bool false) 4 rfl kj kj ?_
  refine Qaf ?_
  refine hK4 _ _ ?_
  refine cond_false kj ?_
  refine wp_skip ?_
  refine hK2 _ _ ?_
  refine wp_seq_k fun K10 hK10 => ?_
  refine Qac ?_
  refine Qaa (.bool false) 2 rfl kj kj ?_
  refine Qaf ?_
  refine hK10 _ _ ?_
  refine wp_ret ?_
  repeat (first | with_reducible refine goR1 ?_ | with_reducible refine goR2 ?_)
  exact (show bodyPost _ _ _ .ret _ _ from ret1 (.bool false) rfl (Qar kj) ⟨rfl, (Rely.Ext.refl w)⟩)
theorem tszC (n : Nat) (w : World) : Calls Try.prog 99 #[.int .i64 ((n : Nat) : Int)] w (Ret w (.bool (szOk n))) := by
  by_cases h1 : n = 1
  · subst h1; exact QgM w
  by_cases h3 : n = 3
  · subst h3; exact QgL w
  by_cases h7 : n = 7
  · subst h7; exact QgK w
  by_cases h15 : n = 15
  · subst h15; exact Qgo w
  by_cases h31 : n = 31
  · subst h31; exact Qgn w
  by_cases h63 : n = 63
  · subst h63; exact Qgm w
  have e : szOk n = false := by unfold szOk; simp only [beq_eq_false_iff_ne.2 h1, beq_eq_false_iff_ne.2 h3, beq_eq_false_iff_ne.2 h7, beq_eq_false_iff_ne.2 h15, beq_eq_false_iff_ne.2 h31, beq_eq_false_iff_ne.2 h63]; rfl
  rw [e]; exact QgJ n w h1 h3 h7 h15 h31 h63
set_option maxHeartbeats 4000000 in
theorem Qfo (base gw : Nat) (s : Option (List Int)) (ts : List NdV) (a_t : Option Addr) (c_t : Nat) (w : World) (hbw : base ≤ w.heap.size) (hbg : base ≤ gw) (h : WSt base gw s w) (htl : ts.length ≤ 1000000) (hms : ∀ i, i < ts.length → (ndi ts i).n.ms.length ≤ 1000000) (htr : TrAt base w a_t ts) : Calls Try.prog 100 #[.pointer (some ⟨gw, 0, none⟩), .slice a_t ts.length c_t, .func (.func 95) #[] #[]] w (fun e W => e = .returned (.tuple #[]) ∧ GW base gw w W ∧ WSt base gw (QdE s ts) W) := by
 have hgw := h.lt
 refine enter 27 [(0, .pointer (some ⟨gw, 0, none⟩)), (1, .slice a_t ts.length c_t), (2, .func (.func 95) #[] #[])] Try.func100 rfl rfl kj rfl ?_
 refine wp_seq_k fun K1 hK1 => ?_
 refine Qac ?_
 refine Qaa (.pointer (some ⟨gw, 0, none⟩)) 8 rfl kj kj ?_
 refine Qaa (.slice a_t ts.length c_t) 9 rfl kj kj ?_
 refine Qaa (.int .i64 ((ts.length : Nat) : Int)) 10 rfl kj kj ?_
 refine Qaj (fun v W' => v = .tuple #[] ∧ GW base gw w W' ∧ WSt base gw (numS s ((ts.length : Nat) : Int) 1) W') 105 #[.pointer (some ⟨gw, 0, none⟩), .int .i64 ((ts.length : Nat) : Int), .int .i64 1] 11 rfl kj kj ((Qb0 base gw s ((ts.length : Nat) : Int) 1 _ (Nat.le_trans hbw (GW.refl base gw w).size) h (by decide)).mono (by rintro e w' ⟨rfl, h1, h2⟩; exact ⟨_, rfl, rfl, h1, h2⟩)) fun v2 W1 h2 => ?_
 obtain ⟨rfl, q1, ws2⟩ := h2
 have x1 : GW base gw w W1 := GW.trans (GW.refl base gw w) q1
 refine Qaf ?_
 refine hK1 _ _ ?_
 refine wp_seq_k fun K3 hK3 => ?_
 refine Qac ?_
 refine Qaa (.slice a_t ts.length c_t) 12 rfl kj kj ?_
 refine Qaa (.int .i64 ((ts.length : Nat) : Int)) 13 rfl kj kj ?_
 refine Qaa (.int .i64 0) 14 rfl kj kj ?_
 refine Qaf ?_
 refine hK3 _ _ ?_
 refine wp_block ?_
 refine QaB (fun (s1 : Nat × Option (List Int)) => [(0, .pointer (some ⟨gw, 0, none⟩)), (2, .func (.func 95) #[] #[]), (12, .slice a_t ts.length c_t), (13, .int .i64 ((ts.length : Nat) : Int)), (14, .int .i64 ((s1.1 : Nat) : Int))]) (fun (s1 : Nat × Option (List Int)) W => (s1.1 ≤ ts.length) ∧ (WSt base gw s1.2 W) ∧ ((ts.drop s1.1).foldl (fun s n => Qc0 s n.n) s1.2 = QdE s ts) ∧ (GW base gw w W)) (fun (s1 : Nat × Option (List Int)) => ts.length - s1.1) (0, numS s ((ts.length : Nat) : Int) 1) ⟨rfl, rfl, rfl, rfl, rfl, trivial⟩ ⟨(Nat.zero_le _), ws2, rfl, x1⟩ fun s1 X1 V1 hI1 => ?_
 obtain ⟨i, sc⟩ := s1
 obtain ⟨hi, hws, hnum, xx1⟩ := hI1
 replace hi : i ≤ ts.length := hi
 replace hws : WSt base gw sc V1 := hws
 replace hnum : (ts.drop i).foldl (fun s n => Qc0 s n.n) sc = QdE s ts := hnum
 replace xx1 : GW base gw w V1 := xx1
 refine wp_seq_k fun K4 hK4 => ?_
 refine Qac ?_
 refine Qaa (.bool (decide (((i : Nat) : Int) < ((ts.length : Nat) : Int)))) 15 rfl kj kj ?_
 refine Qaf ?_
 refine hK4 _ _ ?_
 refine wp_seq_k fun K5 hK5 => ?_
 refine Qa2 (t := decide (((i : Nat) : Int) < ((ts.length : Nat) : Int))) kj (fun c6 => ?_) (fun c6 => ?_)
 ·skip
  have hlt15 : i < ts.length := by have := of_decide_eq_true c6; omega
  refine wp_skip ?_
  refine hK5 _ _ ?_
  refine wp_seq_k fun K7 hK7 => ?_
  refine wp_block ?_
  refine wp_seq_k fun K8 hK8 => ?_
  refine Qac ?_
  obtain ⟨gT, oT, hat, hnds⟩ := (TrAt.gw htr xx1 hbg)
  have hnd := hnds i (by omega)
  obtain ⟨_, _, -, hnds0⟩ := id htr
  have hrd0 := (hnds0 i (by omega)).rd
  obtain ⟨nd, hndi⟩ : ∃ z, z = ndi ts i := ⟨_, rfl⟩
  rw [← hndi] at hnd hrd0
  have hok := hnd.ok
  refine Qaa (.pointer (some ⟨gT, oT + i * 99, none⟩)) 16 rfl kj (QaF 22 _ _ .i64 i gT oT ts.length c_t 43 99 a_t (hat (by omega)) rfl kj kj kj kj (by omega)) ?_
  refine Qaa (.agg (cat [#[.bool nd.n.us], #[.int .i64 nd.n.nm], ints .u8 (nd.n.key), ints .u8 (nd.n.sg), ints .u8 (nd.n.pa), #[.slice nd.a nd.n.ms.length nd.c]])) 17 rfl kj (QaC 43 _ gT (oT + i * 99) nd hnd rfl kj kj kj) ?_
  refine Qaq (cat [#[.bool false], #[.int .i64 0], ints .u8 (List.replicate 32 0), ints .u8 (List.replicate 32 0), ints .u8 (List.replicate 32 0), #[.slice none 0 0]]) 43 7 rfl kj (Qbo 43 _ rfl (Qf2 _)) fun g9 W3 l9 e3 r9_3 => ?_
  have x3 : GW base gw w W3 := GW.ext xx1 e3
  have ws10 := WSt.ext hws e3
  have b9 : w.heap.size ≤ g9 := Nat.le_trans xx1.size l9
  refine Qa3 g9 _ (cat [#[.bool nd.n.us], #[.int .i64 nd.n.nm], ints .u8 (nd.n.key), ints .u8 (nd.n.sg), ints .u8 (nd.n.pa), #[.slice nd.a nd.n.ms.length nd.c]]) 43 r9_3 rfl kj (Qav 43 _ _ g9 43 _ _ r9_3 rfl kj kj (isz (n := 99) kj (by rw [Qab, Qab, Qab, Qab, Qab, Qab]; simp only [Array.size_append, cat, ((Qad _ _).trans hok.gl), ((Qad _ _).trans hok.kl), ((Qad _ _).trans hok.pl)]; rfl)) (eqsz (n := 99) (by rw [Qab, Qab, Qab, Qab, Qab, Qab]; simp only [Array.size_append, cat, ((Qad _ _).trans (List.length_replicate (n := 32)))]; rfl) (by rw [Qab, Qab, Qab, Qab, Qab, Qab]; simp only [Array.size_append, cat, ((Qad _ _).trans hok.gl), ((Qad _ _).trans hok.kl), ((Qad _ _).trans hok.pl)]; rfl)) (QaQ _ (by intro a ha; simp only [List.mem_cons, List.not_mem_nil, or_false] at ha; rcases ha with rfl | rfl | rfl | rfl | rfl | rfl; exact (Qau _ rfl); exact (Qau _ rfl); exact (Qax _ _); exact (Qax _ _); exact (Qax _ _); exact (Qau _ rfl)))) fun W4 p4 r9_4 => ?_
  have x4 : GW base gw w W4 := GW.put x3 p4 b9
  have ws11 := WSt.put ws10 p4 r9_3 (by decide) (Nat.ne_of_lt (Nat.lt_of_lt_of_le hgw b9))
  refine Qaf ?_
  refine hK8 _ _ ?_
  refine wp_seq_k fun K12 hK12 => ?_
  refine wp_seq_k fun K13 hK13 => ?_
  refine Qac ?_
  obtain ⟨u14, xs14, bad, rb14, -, -, -, hsc⟩ := id ws11
  refine Qaa (.pointer (some ⟨gw, 0, none⟩)) 18 rfl kj kj ?_
  refine Qaa (.pointer (some ⟨gw, 0, none⟩)) 19 rfl kj kj ?_
  refine Qaa (.pointer (some ⟨gw, 1, none⟩)) 20 rfl kj kj ?_
  refine Qaa (.bool bad) 21 rfl kj (Qag 4 _ gw 1 174 _ (.bool bad) _ rb14 rfl kj kj kj) ?_
  refine Qaf ?_
  refine hK13 _ _ ?_
  refine Qa2 (t := bad) kj (fun c16 => ?_) (fun c16 => ?_)
  ·skip
   have hbad : bad = true := c16
   have h9 : sc = none := by rw [hsc, hbad]; rfl
   have h8 : QdE s ts = none := by rw [← hnum, h9]; exact QbQ _
   refine wp_ret ?_
   repeat (first | with_reducible refine goR1 ?_ | with_reducible refine goR2 ?_)
   exact (show bodyPost _ _ _ .ret _ _ from ret0 rfl ⟨rfl, x4, by rw [h8, ← h9]; exact ws11⟩)
  ·skip
   refine wp_skip ?_
   refine hK12 _ _ ?_
   refine Qac ?_
   refine Qaa (.func (.func 95) #[] #[]) 22 rfl kj kj ?_
   refine Qaa (.pointer (some ⟨gw, 0, none⟩)) 23 rfl kj kj ?_
   refine Qaa (.agg (cat [#[.bool nd.n.us], #[.int .i64 nd.n.nm], ints .u8 (nd.n.key), ints .u8 (nd.n.sg), ints .u8 (nd.n.pa), #[.slice nd.a nd.n.ms.length nd.c]])) 24 rfl kj (Qaz 43 _ g9 43 _ _ r9_4 rfl kj kj (isz (n := 99) kj (by rw [Qab, Qab, Qab, Qab, Qab, Qab]; simp only [Array.size_append, cat, ((Qad _ _).trans hok.gl), ((Qad _ _).trans hok.kl), ((Qad _ _).trans hok.pl)]; rfl))) ?_
   refine Qaj (fun v W' => v = .tuple #[] ∧ GW base gw W4 W' ∧ WSt base gw (Qc0 sc nd.n) W') 95 #[.pointer (some ⟨gw, 0, none⟩), .agg (cat [#[.bool nd.n.us], #[.int .i64 nd.n.nm], ints .u8 (nd.n.key), ints .u8 (nd.n.sg), ints .u8 (nd.n.pa), #[.slice nd.a nd.n.ms.length nd.c]])] 25 rfl kj kj ((QgV base gw sc nd.n.us nd.n.nm nd.n.key nd.n.sg nd.n.pa nd.n.ms nd.a nd.c _ (Nat.le_trans hbw x4.size) hbg ws11 hok.kl hok.gl hok.pl hok.kb hok.gb hok.pb (by rw [hndi]; exact hms i hlt15) (QcC hrd0 x4 hbg)).mono (by rintro e w' ⟨rfl, h1, h2⟩; exact ⟨_, rfl, rfl, h1, h2⟩)) fun v17 W5 h17 => ?_
   obtain ⟨rfl, q5, ws17⟩ := h17
   have x5 : GW base gw w W5 := GW.trans x4 q5
   refine Qaf ?_
   refine hK7 _ _ ?_
   refine Qac ?_
   refine Qaa (.int .i64 ((i + 1 : Nat) : Int)) 26 rfl kj (Qat (u := .int .i64 (IntKind.i64.wrap (((i : Nat) : Int) + 1))) kj (congrArg (Value.int .i64) (i64n _ _ (by omega) (by omega)))) ?_
   refine Qaa (.int .i64 ((i + 1 : Nat) : Int)) 14 rfl kj kj ?_
   refine Qaf ?_
   repeat (first | with_reducible refine goX1 ?_ | with_reducible refine goX2 ?_ | with_reducible refine goX3 ?_)
   exact Qa8 ((i + 1), Qc0 sc nd.n) ⟨rfl, rfl, rfl, rfl, rfl, trivial⟩ ⟨(by omega), ws17, (by rw [← hnum, QdX ts i hlt15, ← hndi]; rfl), x5⟩ (by omega)
 ·skip
  have heq15 : i = ts.length := by have := of_decide_eq_false c6; omega
  refine wp_exit ?_
  repeat (first | with_reducible refine goX1 ?_ | with_reducible refine goX2 ?_ | with_reducible refine goX3 ?_)
  exact (show bodyPost _ _ _ .normal _ _ from end0 rfl ⟨rfl, xx1, by have h9 : sc = QdE s ts := (by have h7 := hnum; rw [heq15, List.drop_length] at h7; exact h7); rw [← h9]; exact hws⟩)
set_option maxHeartbeats 4000000 in
theorem QgN (base gw : Nat) (s : Option (List Int)) (ts : List NdV) (a_t : Option Addr) (c_t : Nat) (w : World) (hbw : base ≤ w.heap.size) (hbg : base ≤ gw) (h : WSt base gw s w) (htl : ts.length ≤ 1000000) (hms : ∀ i, i < ts.length → (ndi ts i).n.ms.length ≤ 1000000) (htr : TrAt base w a_t ts) : Calls Try.prog 50 #[.pointer (some ⟨gw, 0, none⟩), .slice a_t ts.length c_t] w (fun e W => e = .returned (.tuple #[]) ∧ GW base gw w W ∧ WSt base gw (Qc6 s ts) W) := by
  have hgw := h.lt
  refine enter 12 [(0, .pointer (some ⟨gw, 0, none⟩)), (1, .slice a_t ts.length c_t)] Try.func50 rfl rfl kj rfl ?_
  refine wp_seq_k fun K1 hK1 => ?_
  refine Qac ?_
  refine Qaa (.pointer (some ⟨gw, 0, none⟩)) 4 rfl kj kj ?_
  refine Qaa (.slice a_t ts.length c_t) 5 rfl kj kj ?_
  refine Qaa (.int .i64 ((ts.length : Nat) : Int)) 6 rfl kj kj ?_
  refine Qay (.bool (szOk ts.length)) 99 #[.int .i64 ((ts.length : Nat) : Int)] 7 rfl kj kj ((tszC ts.length) _) fun W1 e1 => ?_
  have x1 : GW base gw w W1 := GW.ext (GW.refl base gw w) e1
  have ws2 := WSt.ext h e1
  refine Qaj (fun v W' => v = .tuple #[] ∧ GW base gw W1 W' ∧ WSt base gw (QaA s (szOk ts.length)) W') 98 #[.pointer (some ⟨gw, 0, none⟩), .bool (szOk ts.length)] 8 rfl kj kj ((QdD base gw _ (szOk ts.length) _ ws2).mono (by rintro e w' ⟨rfl, h1, h2⟩; exact ⟨_, rfl, rfl, h1, h2⟩)) fun v3 W2 h3 => ?_
  obtain ⟨rfl, q2, ws3⟩ := h3
  have x2 : GW base gw w W2 := GW.trans x1 q2
  refine Qaf ?_
  refine hK1 _ _ ?_
  refine Qac ?_
  refine Qaa (.pointer (some ⟨gw, 0, none⟩)) 9 rfl kj kj ?_
  refine Qaa (.slice a_t ts.length c_t) 10 rfl kj kj ?_
  refine Qaj (fun v W' => v = .tuple #[] ∧ GW base gw W2 W' ∧ WSt base gw (Qc6 s ts) W') 100 #[.pointer (some ⟨gw, 0, none⟩), .slice a_t ts.length c_t, .func (.func 95) #[] #[]] 11 rfl kj kj ((Qfo base gw (QaA s (szOk ts.length)) ts _ _ _ (Nat.le_trans hbw x2.size) hbg ws3 htl hms (TrAt.gw htr x2 hbg)).mono (by rintro e w' ⟨rfl, h1, h2⟩; exact ⟨_, rfl, rfl, h1, h2⟩)) fun v4 W3 h4 => ?_
  obtain ⟨rfl, q3, ws4⟩ := h4
  have x3 : GW base gw w W3 := GW.trans x2 q3
  refine Qaf ?_
  repeat (first | with_reducible refine goX1 ?_ | with_reducible refine goX2 ?_ | with_reducible refine goX3 ?_)
  exact (show bodyPost _ _ _ .normal _ _ from end0 rfl ⟨rfl, x3, ws4⟩)
end Go.Proofs.Ytfelfmchachljaa.Wr
end
section
namespace Go.Proofs.Ytfelfmchachljaa.Wr
open Go Go.RowKit
open Rely Auto Own Sha
set_option linter.unusedVariables false
set_option linter.unusedSimpArgs false
def okN_ (n : NdC) : Bool := Qbr n.us n.nm n.key n.sg n.pa n.ms
def Qbp (n : NdC) : List Int := QbJ n.us n.nm n.key n.sg n.pa n.ms
def Qbe (ts : List NdV) : Bool := szOk ts.length && ts.all fun n => okN_ n.n
def Qbk (ts : List NdV) : List Int := [byV ((ts.length : Nat) : Int) 0] ++ (ts.map fun n => Qbp n.n).flatten
def refT (ts : List NdV) : Option (List Int) := if Qbe ts = true then some (Qbk ts) else none
theorem QbH (us : Bool) (nm : Int) (key sg pa ms : List Int) (a_m : Option Addr) (c_m : Nat) (b : Bool) (hb : Qbr us nm key sg pa ms = b) (w : World) (hkl : key.length = 32) (hgl : sg.length = 32) (hpl : pa.length = 32) (hm : RdK .i64 w.heap.size ms (.slice a_m ms.length c_m) w) : Calls Try.prog 96 #[.agg (cat [#[.bool us], #[.int .i64 nm], ints .u8 (key), ints .u8 (sg), ints .u8 (pa), #[.slice a_m ms.length c_m]])] w (Ret w (.bool b)) := hb ▸ Qha us nm key sg pa ms a_m c_m w hkl hgl hpl hm
theorem Qcf (ts : List NdV) (i : Nat) (h : i < ts.length) : ndi ts i ∈ ts := by
  unfold ndi
  rw [List.getD_eq_getElem?_getD, List.getElem?_eq_getElem h]
  exact List.getElem_mem h
theorem QbC (ts : List NdV) (i : Nat) (h : i < ts.length) : ts.take (i + 1) = ts.take i ++ [ndi ts i] := by
  rw [List.take_add_one, List.getElem?_eq_getElem h]
  unfold ndi
  rw [List.getD_eq_getElem?_getD, List.getElem?_eq_getElem h]
  rfl
theorem Qcj (ts : List NdV) (i : Nat) (h : i < ts.length) (hf : okN_ (ndi ts i).n = false) : (ts.all fun n => okN_ n.n) = false := by
  rw [List.all_eq_false]
  exact ⟨_, Qcf ts i h, by rw [hf]; decide⟩
theorem QeJ (n : NdC) (ho : NdOk n) (h : okN_ n = true) : (Qbp n).length ≤ 131 := by
  unfold okN_ Qbr at h
  simp only [Bool.and_eq_true, decide_eq_true_eq] at h
  unfold Qbp QbJ Qb6
  simp only [List.length_append, List.length_cons, List.length_nil, List.length_map, ho.kl, ho.gl, ho.pl]
  omega
theorem QdI {α : Type} (f : α → List Int) (m : Nat) : ∀ ts : List α, (∀ n ∈ ts, (f n).length ≤ m) → (ts.map f).flatten.length ≤ ts.length * m
  | [], _ => Nat.zero_le _
  | n :: r, h => by
    rw [List.map_cons, List.flatten_cons, List.length_append, List.length_cons, Nat.add_mul]
    have h1 := h n List.mem_cons_self
    have h2 := QdI f m r fun x hx => h x (List.mem_cons_of_mem _ hx)
    omega
theorem QcM {n : Nat} (h : szOk n = true) : n ≤ 63 := by
  unfold szOk at h
  simp only [Bool.or_eq_true, beq_iff_eq] at h
  omega
theorem Qdk (ts : List NdV) (hok : ∀ n ∈ ts, NdOk n.n) (h : Qbe ts = true) : (Qbk ts).length ≤ 8400 := by
  unfold Qbe at h
  rw [Bool.and_eq_true, List.all_eq_true] at h
  have h1 := QcM h.1
  have h2 := QdI (fun n : NdV => Qbp n.n) 131 ts fun n hn => QeJ n.n (hok n hn) (h.2 n hn)
  unfold Qbk
  rw [List.length_append, List.length_cons, List.length_nil]
  omega
theorem Qeb (ts : List NdV) (i : Nat) (h : i < ts.length) (H : List Int) : H ++ ((ts.take (i + 1)).map fun n => Qbp n.n).flatten = H ++ ((ts.take i).map fun n => Qbp n.n).flatten ++ Qbp (ndi ts i).n := by
  rw [QbC ts i h, List.map_append, List.flatten_append, ← List.append_assoc]
  simp
set_option maxHeartbeats 4000000 in
theorem Qfg (ts : List NdV) (a_t : Option Addr) (c_t : Nat) (w : World) (htl : ts.length ≤ 1000000) (htr : TrAt w.heap.size w a_t ts) (hv : ts.length = 1) : Calls Try.prog 51 #[.slice a_t ts.length c_t] w (Ret w (.bool (ts.all fun n => okN_ n.n))) := by
 refine enter 40 [(0, .slice a_t ts.length c_t)] Try.func51 rfl rfl kj rfl ?_
 refine wp_seq_k fun K1 hK1 => ?_
 refine Qac ?_
 refine Qaa (.bool false) 2 rfl kj kj ?_
 refine Qaf ?_
 refine hK1 _ _ ?_
 refine wp_seq_k fun K2 hK2 => ?_
 refine Qac ?_
 refine Qaa (.slice a_t ts.length c_t) 5 rfl kj kj ?_
 refine Qaa (.int .i64 ((ts.length : Nat) : Int)) 6 rfl kj kj ?_
 refine Qaa (.int .i64 ((ts.length : Nat) : Int)) 3 rfl kj kj ?_
 refine Qaf ?_
 refine hK2 _ _ ?_
 refine wp_seq_k fun K3 hK3 => ?_
 refine wp_seq_k fun K4 hK4 => ?_
 refine Qac ?_
 refine Qaa (.int .i64 ((ts.length : Nat) : Int)) 7 rfl kj kj ?_
 refine Qaa (.bool false) 8 rfl kj (Qat (u := .bool ((((ts.length : Nat) : Int) != 1))) kj (congrArg Value.bool (bne_eq_false_iff_eq.2 (by omega)))) ?_
 refine Qaa (.bool false) 9 rfl kj kj ?_
 refine Qah 10 rfl kj ?_
 refine Qah 11 rfl kj ?_
 refine Qaa (.bool false) 12 rfl kj kj ?_
 refine Qaa (.bool false) 13 rfl kj kj ?_
 refine Qah 14 rfl kj ?_
 refine Qah 15 rfl kj ?_
 refine Qaa (.bool false) 16 rfl kj kj ?_
 refine Qaa (.bool false) 17 rfl kj kj ?_
 refine Qah 18 rfl kj ?_
 refine Qah 19 rfl kj ?_
 refine Qaa (.bool false) 20 rfl kj kj ?_
 refine Qaa (.bool false) 21 rfl kj kj ?_
 refine Qah 22 rfl kj ?_
 refine Qah 23 rfl kj ?_
 refine Qaa (.bool false) 24 rfl kj kj ?_
 refine Qaa (.bool false) 25 rfl kj kj ?_
 refine Qah 26 rfl kj ?_
 refine Qah 27 rfl kj ?_
 refine Qaa (.bool false) 28 rfl kj kj ?_
 refine Qaf ?_
 refine hK4 _ _ ?_
 refine cond_false kj ?_
 refine wp_skip ?_
 refine hK3 _ _ ?_
 refine wp_seq_k fun K5 hK5 => ?_
 refine wp_seq_k fun K6 hK6 => ?_
 refine Qac ?_
 refine Qaa (.int .i64 0) 4 rfl kj kj ?_
 refine Qaf ?_
 refine hK6 _ _ ?_
 refine wp_block ?_
 refine QaB (fun (s1 : Nat) => [(0, .slice a_t ts.length c_t), (3, .int .i64 ((ts.length : Nat) : Int)), (4, .int .i64 ((s1 : Nat) : Int))]) (fun (s1 : Nat) W => (s1 ≤ ts.length) ∧ (((ts.take s1).all fun n => okN_ n.n) = true) ∧ (Ext w W) ∧ (Ext w W)) (fun (s1 : Nat) => ts.length - s1) 0 ⟨rfl, rfl, rfl, trivial⟩ ⟨(Nat.zero_le _), rfl, (Rely.Ext.refl w), (Rely.Ext.refl w)⟩ fun s1 X1 V1 hI1 => ?_
 obtain ⟨i, hs1⟩ : ∃ z, z = s1 := ⟨_, rfl⟩
 subst hs1
 obtain ⟨hi, hr, kk1, xx1⟩ := hI1
 replace hi : i ≤ ts.length := hi
 replace hr : ((ts.take i).all fun n => okN_ n.n) = true := hr
 replace kk1 : Ext w V1 := kk1
 replace xx1 : Ext w V1 := xx1
 have e1 := kk1
 refine wp_seq_k fun K7 hK7 => ?_
 refine wp_seq_k fun K8 hK8 => ?_
 refine Qac ?_
 refine Qaa (.int .i64 ((i : Nat) : Int)) 29 rfl kj kj ?_
 refine Qaa (.int .i64 ((ts.length : Nat) : Int)) 30 rfl kj kj ?_
 refine Qaa (.bool (decide (((i : Nat) : Int) < ((ts.length : Nat) : Int)))) 31 rfl kj kj ?_
 refine Qaf ?_
 refine hK8 _ _ ?_
 refine Qa2 (t := decide (((i : Nat) : Int) < ((ts.length : Nat) : Int))) kj (fun c9 => ?_) (fun c9 => ?_)
 ·skip
  have hlt31 : i < ts.length := by have := of_decide_eq_true c9; omega
  refine wp_skip ?_
  refine hK7 _ _ ?_
  refine wp_seq_k fun K10 hK10 => ?_
  refine wp_block ?_
  refine wp_seq_k fun K11 hK11 => ?_
  obtain ⟨_, _, -, hnds_⟩ := id htr
  have hrd_ := (hnds_ i (by omega)).rd
  have hok_ := (hnds_ i (by omega)).ok
  rcases (show okN_ (ndi ts i).n = false ∨ okN_ (ndi ts i).n = true by cases okN_ (ndi ts i).n <;> simp) with hgi | hgi
  ·skip
   have hV : (ts.all fun n => okN_ n.n) = false := Qcj ts i hlt31 hgi
   refine Qac ?_
   refine Qaa (.slice a_t ts.length c_t) 34 rfl kj kj ?_
   refine Qaa (.int .i64 ((i : Nat) : Int)) 35 rfl kj kj ?_
   obtain ⟨gT, oT, hat, hnds⟩ := (TrAt.ext htr xx1)
   have hnd := hnds i (by omega)
   obtain ⟨_, _, -, hnds0⟩ := id htr
   have hrd0 := (hnds0 i (by omega)).rd
   obtain ⟨nd, hndi⟩ : ∃ z, z = ndi ts i := ⟨_, rfl⟩
   rw [← hndi] at hnd hrd0 hok_ hrd_ hgi; have hgd : Qbr nd.n.us nd.n.nm nd.n.key nd.n.sg nd.n.pa nd.n.ms = _ := hgi
   have hok := hnd.ok
   refine Qaa (.pointer (some ⟨gT, oT + i * 99, none⟩)) 36 rfl kj (QaF 23 _ _ .i64 i gT oT ts.length c_t 43 99 a_t (hat (by omega)) rfl kj kj kj kj (by omega)) ?_
   refine Qaa (.agg (cat [#[.bool nd.n.us], #[.int .i64 nd.n.nm], ints .u8 (nd.n.key), ints .u8 (nd.n.sg), ints .u8 (nd.n.pa), #[.slice nd.a nd.n.ms.length nd.c]])) 37 rfl kj (QaC 43 _ gT (oT + i * 99) nd hnd rfl kj kj kj) ?_
   refine Qay (.bool false) 96 #[.agg (cat [#[.bool nd.n.us], #[.int .i64 nd.n.nm], ints .u8 (nd.n.key), ints .u8 (nd.n.sg), ints .u8 (nd.n.pa), #[.slice nd.a nd.n.ms.length nd.c]])] 38 rfl kj kj (QbH nd.n.us nd.n.nm nd.n.key nd.n.sg nd.n.pa nd.n.ms _ _ _ hgd _ hok_.kl hok_.gl hok_.pl (RdK.here (RdK.ext hrd_ xx1))) fun W2 e2 => ?_
   have x2 : Ext w W2 := Ext.tr xx1 e2
   refine Qaa (.bool true) 39 rfl kj kj ?_
   refine Qaf ?_
   refine hK11 _ _ ?_
   refine cond_true kj ?_
   refine wp_seq_k fun K12 hK12 => ?_
   refine Qac ?_
   refine Qaa (.bool false) 2 rfl kj kj ?_
   refine Qaf ?_
   refine hK12 _ _ ?_
   refine wp_ret ?_
   repeat (first | with_reducible refine goR1 ?_ | with_reducible refine goR2 ?_)
   exact (show bodyPost _ _ _ .ret _ _ from ret1 (.bool false) rfl (Qar kj) ⟨by rw [hV], x2⟩)
  ·skip
   refine Qac ?_
   refine Qaa (.slice a_t ts.length c_t) 34 rfl kj kj ?_
   refine Qaa (.int .i64 ((i : Nat) : Int)) 35 rfl kj kj ?_
   obtain ⟨gT, oT, hat, hnds⟩ := (TrAt.ext htr xx1)
   have hnd := hnds i (by omega)
   obtain ⟨_, _, -, hnds0⟩ := id htr
   have hrd0 := (hnds0 i (by omega)).rd
   obtain ⟨nd, hndi⟩ : ∃ z, z = ndi ts i := ⟨_, rfl⟩
   rw [← hndi] at hnd hrd0 hok_ hrd_ hgi; have hgd : Qbr nd.n.us nd.n.nm nd.n.key nd.n.sg nd.n.pa nd.n.ms = _ := hgi
   have hok := hnd.ok
   refine Qaa (.pointer (some ⟨gT, oT + i * 99, none⟩)) 36 rfl kj (QaF 23 _ _ .i64 i gT oT ts.length c_t 43 99 a_t (hat (by omega)) rfl kj kj kj kj (by omega)) ?_
   refine Qaa (.agg (cat [#[.bool nd.n.us], #[.int .i64 nd.n.nm], ints .u8 (nd.n.key), ints .u8 (nd.n.sg), ints .u8 (nd.n.pa), #[.slice nd.a nd.n.ms.length nd.c]])) 37 rfl kj (QaC 43 _ gT (oT + i * 99) nd hnd rfl kj kj kj) ?_
   refine Qay (.bool true) 96 #[.agg (cat [#[.bool nd.n.us], #[.int .i64 nd.n.nm], ints .u8 (nd.n.key), ints .u8 (nd.n.sg), ints .u8 (nd.n.pa), #[.slice nd.a nd.n.ms.length nd.c]])] 38 rfl kj kj (QbH nd.n.us nd.n.nm nd.n.key nd.n.sg nd.n.pa nd.n.ms _ _ _ hgd _ hok_.kl hok_.gl hok_.pl (RdK.here (RdK.ext hrd_ xx1))) fun W2 e2 => ?_
   have x2 : Ext w W2 := Ext.tr xx1 e2
   refine Qaa (.bool false) 39 rfl kj kj ?_
   refine Qaf ?_
   refine hK11 _ _ ?_
   refine cond_false kj ?_
   refine wp_skip ?_
   refine hK10 _ _ ?_
   refine Qac ?_
   refine Qaa (.int .i64 ((i : Nat) : Int)) 32 rfl kj kj ?_
   refine Qaa (.int .i64 ((i + 1 : Nat) : Int)) 33 rfl kj (Qat (u := .int .i64 (IntKind.i64.wrap (((i : Nat) : Int) + 1))) kj (congrArg (Value.int .i64) (i64n _ _ (by omega) (by omega)))) ?_
   refine Qaa (.int .i64 ((i + 1 : Nat) : Int)) 4 rfl kj kj ?_
   refine Qaf ?_
   have y0_2 : Ext w W2 := (Rely.Ext.trans e1 e2)
   repeat (first | with_reducible refine goX1 ?_ | with_reducible refine goX2 ?_ | with_reducible refine goX3 ?_)
   exact Qa8 (i + 1) ⟨rfl, rfl, rfl, trivial⟩ ⟨(by omega), (by rw [QbC ts i hlt31, List.all_append, hr, ← hndi]; simp only [List.all_cons, List.all_nil, hgi]; rfl), y0_2, x2⟩ (by omega)
 ·skip
  have heq31 : i = ts.length := by have := of_decide_eq_false c9; omega
  have hV : (ts.all fun n => okN_ n.n) = true := by rw [heq31, List.take_length] at hr; exact hr
  refine wp_exit ?_
  refine hK5 _ _ ?_
  refine wp_seq_k fun K13 hK13 => ?_
  refine Qac ?_
  refine Qaa (.bool true) 2 rfl kj kj ?_
  refine Qaf ?_
  refine hK13 _ _ ?_
  refine wp_ret ?_
  repeat (first | with_reducible refine goR1 ?_ | with_reducible refine goR2 ?_)
  exact (show bodyPost _ _ _ .ret _ _ from ret1 (.bool true) rfl (Qar kj) ⟨by rw [hV], xx1⟩)
set_option maxHeartbeats 4000000 in
theorem Qff (ts : List NdV) (a_t : Option Addr) (c_t : Nat) (w : World) (htl : ts.length ≤ 1000000) (htr : TrAt w.heap.size w a_t ts) (hv : ts.length = 3) : Calls Try.prog 51 #[.slice a_t ts.length c_t] w (Ret w (.bool (ts.all fun n => okN_ n.n))) := by
 refine enter 40 [(0, .slice a_t ts.length c_t)] Try.func51 rfl rfl kj rfl ?_
 refine wp_seq_k fun K1 hK1 => ?_
 refine Qac ?_
 refine Qaa (.bool false) 2 rfl kj kj ?_
 refine Qaf ?_
 refine hK1 _ _ ?_
 refine wp_seq_k fun K2 hK2 => ?_
 refine Qac ?_
 refine Qaa (.slice a_t ts.length c_t) 5 rfl kj kj ?_
 refine Qaa (.int .i64 ((ts.length : Nat) : Int)) 6 rfl kj kj ?_
 refine Qaa (.int .i64 ((ts.length : Nat) : Int)) 3 rfl kj kj ?_
 refine Qaf ?_
 refine hK2 _ _ ?_
 refine wp_seq_k fun K3 hK3 => ?_
 refine wp_seq_k fun K4 hK4 => ?_
 refine Qac ?_
 refine Qaa (.int .i64 ((ts.length : Nat) : Int)) 7 rfl kj kj ?_
 refine Qaa (.bool true) 8 rfl kj (Qat (u := .bool ((((ts.length : Nat) : Int) != 1))) kj (congrArg Value.bool (bne_iff_ne.2 (by omega)))) ?_
 refine Qaa (.bool true) 9 rfl kj kj ?_
 refine Qaa (.int .i64 ((ts.length : Nat) : Int)) 10 rfl kj kj ?_
 refine Qaa (.bool false) 11 rfl kj (Qat (u := .bool ((((ts.length : Nat) : Int) != 3))) kj (congrArg Value.bool (bne_eq_false_iff_eq.2 (by omega)))) ?_
 refine Qaa (.bool false) 12 rfl kj kj ?_
 refine Qaa (.bool false) 13 rfl kj kj ?_
 refine Qah 14 rfl kj ?_
 refine Qah 15 rfl kj ?_
 refine Qaa (.bool false) 16 rfl kj kj ?_
 refine Qaa (.bool false) 17 rfl kj kj ?_
 refine Qah 18 rfl kj ?_
 refine Qah 19 rfl kj ?_
 refine Qaa (.bool false) 20 rfl kj kj ?_
 refine Qaa (.bool false) 21 rfl kj kj ?_
 refine Qah 22 rfl kj ?_
 refine Qah 23 rfl kj ?_
 refine Qaa (.bool false) 24 rfl kj kj ?_
 refine Qaa (.bool false) 25 rfl kj kj ?_
 refine Qah 26 rfl kj ?_
 refine Qah 27 rfl kj ?_
 refine Qaa (.bool false) 28 rfl kj kj ?_
 refine Qaf ?_
 refine hK4 _ _ ?_
 refine cond_false kj ?_
 refine wp_skip ?_
 refine hK3 _ _ ?_
 refine wp_seq_k fun K5 hK5 => ?_
 refine wp_seq_k fun K6 hK6 => ?_
 refine Qac ?_
 refine Qaa (.int .i64 0) 4 rfl kj kj ?_
 refine Qaf ?_
 refine hK6 _ _ ?_
 refine wp_block ?_
 refine QaB (fun (s1 : Nat) => [(0, .slice a_t ts.length c_t), (3, .int .i64 ((ts.length : Nat) : Int)), (4, .int .i64 ((s1 : Nat) : Int))]) (fun (s1 : Nat) W => (s1 ≤ ts.length) ∧ (((ts.take s1).all fun n => okN_ n.n) = true) ∧ (Ext w W) ∧ (Ext w W)) (fun (s1 : Nat) => ts.length - s1) 0 ⟨rfl, rfl, rfl, trivial⟩ ⟨(Nat.zero_le _), rfl, (Rely.Ext.refl w), (Rely.Ext.refl w)⟩ fun s1 X1 V1 hI1 => ?_
 obtain ⟨i, hs1⟩ : ∃ z, z = s1 := ⟨_, rfl⟩
 subst hs1
 obtain ⟨hi, hr, kk1, xx1⟩ := hI1
 replace hi : i ≤ ts.length := hi
 replace hr : ((ts.take i).all fun n => okN_ n.n) = true := hr
 replace kk1 : Ext w V1 := kk1
 replace xx1 : Ext w V1 := xx1
 have e1 := kk1
 refine wp_seq_k fun K7 hK7 => ?_
 refine wp_seq_k fun K8 hK8 => ?_
 refine Qac ?_
 refine Qaa (.int .i64 ((i : Nat) : Int)) 29 rfl kj kj ?_
 refine Qaa (.int .i64 ((ts.length : Nat) : Int)) 30 rfl kj kj ?_
 refine Qaa (.bool (decide (((i : Nat) : Int) < ((ts.length : Nat) : Int)))) 31 rfl kj kj ?_
 refine Qaf ?_
 refine hK8 _ _ ?_
 refine Qa2 (t := decide (((i : Nat) : Int) < ((ts.length : Nat) : Int))) kj (fun c9 => ?_) (fun c9 => ?_)
 ·skip
  have hlt31 : i < ts.length := by have := of_decide_eq_true c9; omega
  refine wp_skip ?_
  refine hK7 _ _ ?_
  refine wp_seq_k fun K10 hK10 => ?_
  refine wp_block ?_
  refine wp_seq_k fun K11 hK11 => ?_
  obtain ⟨_, _, -, hnds_⟩ := id htr
  have hrd_ := (hnds_ i (by omega)).rd
  have hok_ := (hnds_ i (by omega)).ok
  rcases (show okN_ (ndi ts i).n = false ∨ okN_ (ndi ts i).n = true by cases okN_ (ndi ts i).n <;> simp) with hgi | hgi
  ·skip
   have hV : (ts.all fun n => okN_ n.n) = false := Qcj ts i hlt31 hgi
   refine Qac ?_
   refine Qaa (.slice a_t ts.length c_t) 34 rfl kj kj ?_
   refine Qaa (.int .i64 ((i : Nat) : Int)) 35 rfl kj kj ?_
   obtain ⟨gT, oT, hat, hnds⟩ := (TrAt.ext htr xx1)
   have hnd := hnds i (by omega)
   obtain ⟨_, _, -, hnds0⟩ := id htr
   have hrd0 := (hnds0 i (by omega)).rd
   obtain ⟨nd, hndi⟩ : ∃ z, z = ndi ts i := ⟨_, rfl⟩
   rw [← hndi] at hnd hrd0 hok_ hrd_ hgi; have hgd : Qbr nd.n.us nd.n.nm nd.n.key nd.n.sg nd.n.pa nd.n.ms = _ := hgi
   have hok := hnd.ok
   refine Qaa (.pointer (some ⟨gT, oT + i * 99, none⟩)) 36 rfl kj (QaF 23 _ _ .i64 i gT oT ts.length c_t 43 99 a_t (hat (by omega)) rfl kj kj kj kj (by omega)) ?_
   refine Qaa (.agg (cat [#[.bool nd.n.us], #[.int .i64 nd.n.nm], ints .u8 (nd.n.key), ints .u8 (nd.n.sg), ints .u8 (nd.n.pa), #[.slice nd.a nd.n.ms.length nd.c]])) 37 rfl kj (QaC 43 _ gT (oT + i * 99) nd hnd rfl kj kj kj) ?_
   refine Qay (.bool false) 96 #[.agg (cat [#[.bool nd.n.us], #[.int .i64 nd.n.nm], ints .u8 (nd.n.key), ints .u8 (nd.n.sg), ints .u8 (nd.n.pa), #[.slice nd.a nd.n.ms.length nd.c]])] 38 rfl kj kj (QbH nd.n.us nd.n.nm nd.n.key nd.n.sg nd.n.pa nd.n.ms _ _ _ hgd _ hok_.kl hok_.gl hok_.pl (RdK.here (RdK.ext hrd_ xx1))) fun W2 e2 => ?_
   have x2 : Ext w W2 := Ext.tr xx1 e2
   refine Qaa (.bool true) 39 rfl kj kj ?_
   refine Qaf ?_
   refine hK11 _ _ ?_
   refine cond_true kj ?_
   refine wp_seq_k fun K12 hK12 => ?_
   refine Qac ?_
   refine Qaa (.bool false) 2 rfl kj kj ?_
   refine Qaf ?_
   refine hK12 _ _ ?_
   refine wp_ret ?_
   repeat (first | with_reducible refine goR1 ?_ | with_reducible refine goR2 ?_)
   exact (show bodyPost _ _ _ .ret _ _ from ret1 (.bool false) rfl (Qar kj) ⟨by rw [hV], x2⟩)
  ·skip
   refine Qac ?_
   refine Qaa (.slice a_t ts.length c_t) 34 rfl kj kj ?_
   refine Qaa (.int .i64 ((i : Nat) : Int)) 35 rfl kj kj ?_
   obtain ⟨gT, oT, hat, hnds⟩ := (TrAt.ext htr xx1)
   have hnd := hnds i (by omega)
   obtain ⟨_, _, -, hnds0⟩ := id htr
   have hrd0 := (hnds0 i (by omega)).rd
   obtain ⟨nd, hndi⟩ : ∃ z, z = ndi ts i := ⟨_, rfl⟩
   rw [← hndi] at hnd hrd0 hok_ hrd_ hgi; have hgd : Qbr nd.n.us nd.n.nm nd.n.key nd.n.sg nd.n.pa nd.n.ms = _ := hgi
   have hok := hnd.ok
   refine Qaa (.pointer (some ⟨gT, oT + i * 99, none⟩)) 36 rfl kj (QaF 23 _ _ .i64 i gT oT ts.length c_t 43 99 a_t (hat (by omega)) rfl kj kj kj kj (by omega)) ?_
   refine Qaa (.agg (cat [#[.bool nd.n.us], #[.int .i64 nd.n.nm], ints .u8 (nd.n.key), ints .u8 (nd.n.sg), ints .u8 (nd.n.pa), #[.slice nd.a nd.n.ms.length nd.c]])) 37 rfl kj (QaC 43 _ gT (oT + i * 99) nd hnd rfl kj kj kj) ?_
   refine Qay (.bool true) 96 #[.agg (cat [#[.bool nd.n.us], #[.int .i64 nd.n.nm], ints .u8 (nd.n.key), ints .u8 (nd.n.sg), ints .u8 (nd.n.pa), #[.slice nd.a nd.n.ms.length nd.c]])] 38 rfl kj kj (QbH nd.n.us nd.n.nm nd.n.key nd.n.sg nd.n.pa nd.n.ms _ _ _ hgd _ hok_.kl hok_.gl hok_.pl (RdK.here (RdK.ext hrd_ xx1))) fun W2 e2 => ?_
   have x2 : Ext w W2 := Ext.tr xx1 e2
   refine Qaa (.bool false) 39 rfl kj kj ?_
   refine Qaf ?_
   refine hK11 _ _ ?_
   refine cond_false kj ?_
   refine wp_skip ?_
   refine hK10 _ _ ?_
   refine Qac ?_
   refine Qaa (.int .i64 ((i : Nat) : Int)) 32 rfl kj kj ?_
   refine Qaa (.int .i64 ((i + 1 : Nat) : Int)) 33 rfl kj (Qat (u := .int .i64 (IntKind.i64.wrap (((i : Nat) : Int) + 1))) kj (congrArg (Value.int .i64) (i64n _ _ (by omega) (by omega)))) ?_
   refine Qaa (.int .i64 ((i + 1 : Nat) : Int)) 4 rfl kj kj ?_
   refine Qaf ?_
   have y0_2 : Ext w W2 := (Rely.Ext.trans e1 e2)
   repeat (first | with_reducible refine goX1 ?_ | with_reducible refine goX2 ?_ | with_reducible refine goX3 ?_)
   exact Qa8 (i + 1) ⟨rfl, rfl, rfl, trivial⟩ ⟨(by omega), (by rw [QbC ts i hlt31, List.all_append, hr, ← hndi]; simp only [List.all_cons, List.all_nil, hgi]; rfl), y0_2, x2⟩ (by omega)
 ·skip
  have heq31 : i = ts.length := by have := of_decide_eq_false c9; omega
  have hV : (ts.all fun n => okN_ n.n) = true := by rw [heq31, List.take_length] at hr; exact hr
  refine wp_exit ?_
  refine hK5 _ _ ?_
  refine wp_seq_k fun K13 hK13 => ?_
  refine Qac ?_
  refine Qaa (.bool true) 2 rfl kj kj ?_
  refine Qaf ?_
  refine hK13 _ _ ?_
  refine wp_ret ?_
  repeat (first | with_reducible refine goR1 ?_ | with_reducible refine goR2 ?_)
  exact (show bodyPost _ _ _ .ret _ _ from ret1 (.bool true) rfl (Qar kj) ⟨by rw [hV], xx1⟩)
set_option maxHeartbeats 4000000 in
theorem Qfe (ts : List NdV) (a_t : Option Addr) (c_t : Nat) (w : World) (htl : ts.length ≤ 1000000) (htr : TrAt w.heap.size w a_t ts) (hv : ts.length = 7) : Calls Try.prog 51 #[.slice a_t ts.length c_t] w (Ret w (.bool (ts.all fun n => okN_ n.n))) := by
 refine enter 40 [(0, .slice a_t ts.length c_t)] Try.func51 rfl rfl kj rfl ?_
 refine wp_seq_k fun K1 hK1 => ?_
 refine Qac ?_
 refine Qaa (.bool false) 2 rfl kj kj ?_
 refine Qaf ?_
 refine hK1 _ _ ?_
 refine wp_seq_k fun K2 hK2 => ?_
 refine Qac ?_
 refine Qaa (.slice a_t ts.length c_t) 5 rfl kj kj ?_
 refine Qaa (.int .i64 ((ts.length : Nat) : Int)) 6 rfl kj kj ?_
 refine Qaa (.int .i64 ((ts.length : Nat) : Int)) 3 rfl kj kj ?_
 refine Qaf ?_
 refine hK2 _ _ ?_
 refine wp_seq_k fun K3 hK3 => ?_
 refine wp_seq_k fun K4 hK4 => ?_
 refine Qac ?_
 refine Qaa (.int .i64 ((ts.length : Nat) : Int)) 7 rfl kj kj ?_
 refine Qaa (.bool true) 8 rfl kj (Qat (u := .bool ((((ts.length : Nat) : Int) != 1))) kj (congrArg Value.bool (bne_iff_ne.2 (by omega)))) ?_
 refine Qaa (.bool true) 9 rfl kj kj ?_
 refine Qaa (.int .i64 ((ts.length : Nat) : Int)) 10 rfl kj kj ?_
 refine Qaa (.bool true) 11 rfl kj (Qat (u := .bool ((((ts.length : Nat) : Int) != 3))) kj (congrArg Value.bool (bne_iff_ne.2 (by omega)))) ?_
 refine Qaa (.bool true) 12 rfl kj kj ?_
 refine Qaa (.bool true) 13 rfl kj kj ?_
 refine Qaa (.int .i64 ((ts.length : Nat) : Int)) 14 rfl kj kj ?_
 refine Qaa (.bool false) 15 rfl kj (Qat (u := .bool ((((ts.length : Nat) : Int) != 7))) kj (congrArg Value.bool (bne_eq_false_iff_eq.2 (by omega)))) ?_
 refine Qaa (.bool false) 16 rfl kj kj ?_
 refine Qaa (.bool false) 17 rfl kj kj ?_
 refine Qah 18 rfl kj ?_
 refine Qah 19 rfl kj ?_
 refine Qaa (.bool false) 20 rfl kj kj ?_
 refine Qaa (.bool false) 21 rfl kj kj ?_
 refine Qah 22 rfl kj ?_
 refine Qah 23 rfl kj ?_
 refine Qaa (.bool false) 24 rfl kj kj ?_
 refine Qaa (.bool false) 25 rfl kj kj ?_
 refine Qah 26 rfl kj ?_
 refine Qah 27 rfl kj ?_
 refine Qaa (.bool false) 28 rfl kj kj ?_
 refine Qaf ?_
 refine hK4 _ _ ?_
 refine cond_false kj ?_
 refine wp_skip ?_
 refine hK3 _ _ ?_
 refine wp_seq_k fun K5 hK5 => ?_
 refine wp_seq_k fun K6 hK6 => ?_
 refine Qac ?_
 refine Qaa (.int .i64 0) 4 rfl kj kj ?_
 refine Qaf ?_
 refine hK6 _ _ ?_
 refine wp_block ?_
 refine QaB (fun (s1 : Nat) => [(0, .slice a_t ts.length c_t), (3, .int .i64 ((ts.length : Nat) : Int)), (4, .int .i64 ((s1 : Nat) : Int))]) (fun (s1 : Nat) W => (s1 ≤ ts.length) ∧ (((ts.take s1).all fun n => okN_ n.n) = true) ∧ (Ext w W) ∧ (Ext w W)) (fun (s1 : Nat) => ts.length - s1) 0 ⟨rfl, rfl, rfl, trivial⟩ ⟨(Nat.zero_le _), rfl, (Rely.Ext.refl w), (Rely.Ext.refl w)⟩ fun s1 X1 V1 hI1 => ?_
 obtain ⟨i, hs1⟩ : ∃ z, z = s1 := ⟨_, rfl⟩
 subst hs1
 obtain ⟨hi, hr, kk1, xx1⟩ := hI1
 replace hi : i ≤ ts.length := hi
 replace hr : ((ts.take i).all fun n => okN_ n.n) = true := hr
 replace kk1 : Ext w V1 := kk1
 replace xx1 : Ext w V1 := xx1
 have e1 := kk1
 refine wp_seq_k fun K7 hK7 => ?_
 refine wp_seq_k fun K8 hK8 => ?_
 refine Qac ?_
 refine Qaa (.int .i64 ((i : Nat) : Int)) 29 rfl kj kj ?_
 refine Qaa (.int .i64 ((ts.length : Nat) : Int)) 30 rfl kj kj ?_
 refine Qaa (.bool (decide (((i : Nat) : Int) < ((ts.length : Nat) : Int)))) 31 rfl kj kj ?_
 refine Qaf ?_
 refine hK8 _ _ ?_
 refine Qa2 (t := decide (((i : Nat) : Int) < ((ts.length : Nat) : Int))) kj (fun c9 => ?_) (fun c9 => ?_)
 ·skip
  have hlt31 : i < ts.length := by have := of_decide_eq_true c9; omega
  refine wp_skip ?_
  refine hK7 _ _ ?_
  refine wp_seq_k fun K10 hK10 => ?_
  refine wp_block ?_
  refine wp_seq_k fun K11 hK11 => ?_
  obtain ⟨_, _, -, hnds_⟩ := id htr
  have hrd_ := (hnds_ i (by omega)).rd
  have hok_ := (hnds_ i (by omega)).ok
  rcases (show okN_ (ndi ts i).n = false ∨ okN_ (ndi ts i).n = true by cases okN_ (ndi ts i).n <;> simp) with hgi | hgi
  ·skip
   have hV : (ts.all fun n => okN_ n.n) = false := Qcj ts i hlt31 hgi
   refine Qac ?_
   refine Qaa (.slice a_t ts.length c_t) 34 rfl kj kj ?_
   refine Qaa (.int .i64 ((i : Nat) : Int)) 35 rfl kj kj ?_
   obtain ⟨gT, oT, hat, hnds⟩ := (TrAt.ext htr xx1)
   have hnd := hnds i (by omega)
   obtain ⟨_, _, -, hnds0⟩ := id htr
   have hrd0 := (hnds0 i (by omega)).rd
   obtain ⟨nd, hndi⟩ : ∃ z, z = ndi ts i := ⟨_, rfl⟩
   rw [← hndi] at hnd hrd0 hok_ hrd_ hgi; have hgd : Qbr nd.n.us nd.n.nm nd.n.key nd.n.sg nd.n.pa nd.n.ms = _ := hgi
   have hok := hnd.ok
   refine Qaa (.pointer (some ⟨gT, oT + i * 99, none⟩)) 36 rfl kj (QaF 23 _ _ .i64 i gT oT ts.length c_t 43 99 a_t (hat (by omega)) rfl kj kj kj kj (by omega)) ?_
   refine Qaa (.agg (cat [#[.bool nd.n.us], #[.int .i64 nd.n.nm], ints .u8 (nd.n.key), ints .u8 (nd.n.sg), ints .u8 (nd.n.pa), #[.slice nd.a nd.n.ms.length nd.c]])) 37 rfl kj (QaC 43 _ gT (oT + i * 99) nd hnd rfl kj kj kj) ?_
   refine Qay (.bool false) 96 #[.agg (cat [#[.bool nd.n.us], #[.int .i64 nd.n.nm], ints .u8 (nd.n.key), ints .u8 (nd.n.sg), ints .u8 (nd.n.pa), #[.slice nd.a nd.n.ms.length nd.c]])] 38 rfl kj kj (QbH nd.n.us nd.n.nm nd.n.key nd.n.sg nd.n.pa nd.n.ms _ _ _ hgd _ hok_.kl hok_.gl hok_.pl (RdK.here (RdK.ext hrd_ xx1))) fun W2 e2 => ?_
   have x2 : Ext w W2 := Ext.tr xx1 e2
   refine Qaa (.bool true) 39 rfl kj kj ?_
   refine Qaf ?_
   refine hK11 _ _ ?_
   refine cond_true kj ?_
   refine wp_seq_k fun K12 hK12 => ?_
   refine Qac ?_
   refine Qaa (.bool false) 2 rfl kj kj ?_
   refine Qaf ?_
   refine hK12 _ _ ?_
   refine wp_ret ?_
   repeat (first | with_reducible refine goR1 ?_ | with_reducible refine goR2 ?_)
   exact (show bodyPost _ _ _ .ret _ _ from ret1 (.bool false) rfl (Qar kj) ⟨by rw [hV], x2⟩)
  ·skip
   refine Qac ?_
   refine Qaa (.slice a_t ts.length c_t) 34 rfl kj kj ?_
   refine Qaa (.int .i64 ((i : Nat) : Int)) 35 rfl kj kj ?_
   obtain ⟨gT, oT, hat, hnds⟩ := (TrAt.ext htr xx1)
   have hnd := hnds i (by omega)
   obtain ⟨_, _, -, hnds0⟩ := id htr
   have hrd0 := (hnds0 i (by omega)).rd
   obtain ⟨nd, hndi⟩ : ∃ z, z = ndi ts i := ⟨_, rfl⟩
   rw [← hndi] at hnd hrd0 hok_ hrd_ hgi; have hgd : Qbr nd.n.us nd.n.nm nd.n.key nd.n.sg nd.n.pa nd.n.ms = _ := hgi
   have hok := hnd.ok
   refine Qaa (.pointer (some ⟨gT, oT + i * 99, none⟩)) 36 rfl kj (QaF 23 _ _ .i64 i gT oT ts.length c_t 43 99 a_t (hat (by omega)) rfl kj kj kj kj (by omega)) ?_
   refine Qaa (.agg (cat [#[.bool nd.n.us], #[.int .i64 nd.n.nm], ints .u8 (nd.n.key), ints .u8 (nd.n.sg), ints .u8 (nd.n.pa), #[.slice nd.a nd.n.ms.length nd.c]])) 37 rfl kj (QaC 43 _ gT (oT + i * 99) nd hnd rfl kj kj kj) ?_
   refine Qay (.bool true) 96 #[.agg (cat [#[.bool nd.n.us], #[.int .i64 nd.n.nm], ints .u8 (nd.n.key), ints .u8 (nd.n.sg), ints .u8 (nd.n.pa), #[.slice nd.a nd.n.ms.length nd.c]])] 38 rfl kj kj (QbH nd.n.us nd.n.nm nd.n.key nd.n.sg nd.n.pa nd.n.ms _ _ _ hgd _ hok_.kl hok_.gl hok_.pl (RdK.here (RdK.ext hrd_ xx1))) fun W2 e2 => ?_
   have x2 : Ext w W2 := Ext.tr xx1 e2
   refine Qaa (.bool false) 39 rfl kj kj ?_
   refine Qaf ?_
   refine hK11 _ _ ?_
   refine cond_false kj ?_
   refine wp_skip ?_
   refine hK10 _ _ ?_
   refine Qac ?_
   refine Qaa (.int .i64 ((i : Nat) : Int)) 32 rfl kj kj ?_
   refine Qaa (.int .i64 ((i + 1 : Nat) : Int)) 33 rfl kj (Qat (u := .int .i64 (IntKind.i64.wrap (((i : Nat) : Int) + 1))) kj (congrArg (Value.int .i64) (i64n _ _ (by omega) (by omega)))) ?_
   refine Qaa (.int .i64 ((i + 1 : Nat) : Int)) 4 rfl kj kj ?_
   refine Qaf ?_
   have y0_2 : Ext w W2 := (Rely.Ext.trans e1 e2)
   repeat (first | with_reducible refine goX1 ?_ | with_reducible refine goX2 ?_ | with_reducible refine goX3 ?_)
   exact Qa8 (i + 1) ⟨rfl, rfl, rfl, trivial⟩ ⟨(by omega), (by rw [QbC ts i hlt31, List.all_append, hr, ← hndi]; simp only [List.all_cons, List.all_nil, hgi]; rfl), y0_2, x2⟩ (by omega)
 ·skip
  have heq31 : i = ts.length := by have := of_decide_eq_false c9; omega
  have hV : (ts.all fun n => okN_ n.n) = true := by rw [heq31, List.take_length] at hr; exact hr
  refine wp_exit ?_
  refine hK5 _ _ ?_
  refine wp_seq_k fun K13 hK13 => ?_
  refine Qac ?_
  refine Qaa (.bool true) 2 rfl kj kj ?_
  refine Qaf ?_
  refine hK13 _ _ ?_
  refine wp_ret ?_
  repeat (first | with_reducible refine goR1 ?_ | with_reducible refine goR2 ?_)
  exact (show bodyPost _ _ _ .ret _ _ from ret1 (.bool true) rfl (Qar kj) ⟨by rw [hV], xx1⟩)
set_option maxHeartbeats 4000000 in
theorem Qe6 (ts : List NdV) (a_t : Option Addr) (c_t : Nat) (w : World) (htl : ts.length ≤ 1000000) (htr : TrAt w.heap.size w a_t ts) (hv : ts.length = 15) : Calls Try.prog 51 #[.slice a_t ts.length c_t] w (Ret w (.bool (ts.all fun n => okN_ n.n))) := by
 refine enter 40 [(0, .slice a_t ts.length c_t)] Try.func51 rfl rfl kj rfl ?_
 refine wp_seq_k fun K1 hK1 => ?_
 refine Qac ?_
 refine Qaa (.bool false) 2 rfl kj kj ?_
 refine Qaf ?_
 refine hK1 _ _ ?_
 refine wp_seq_k fun K2 hK2 => ?_
 refine Qac ?_
 refine Qaa (.slice a_t ts.length c_t) 5 rfl kj kj ?_
 refine Qaa (.int .i64 ((ts.length : Nat) : Int)) 6 rfl kj kj ?_
 refine Qaa (.int .i64 ((ts.length : Nat) : Int)) 3 rfl kj kj ?_
 refine Qaf ?_
 refine hK2 _ _ ?_
 refine wp_seq_k fun K3 hK3 => ?_
 refine wp_seq_k fun K4 hK4 => ?_
 refine Qac ?_
 refine Qaa (.int .i64 ((ts.length : Nat) : Int)) 7 rfl kj kj ?_
 refine Qaa (.bool true) 8 rfl kj (Qat (u := .bool ((((ts.length : Nat) : Int) != 1))) kj (congrArg Value.bool (bne_iff_ne.2 (by omega)))) ?_
 refine Qaa (.bool true) 9 rfl kj kj ?_
 refine Qaa (.int .i64 ((ts.length : Nat) : Int)) 10 rfl kj kj ?_
 refine Qaa (.bool true) 11 rfl kj (Qat (u := .bool ((((ts.length : Nat) : Int) != 3))) kj (congrArg Value.bool (bne_iff_ne.2 (by omega)))) ?_
 refine Qaa (.bool true) 12 rfl kj kj ?_
 refine Qaa (.bool true) 13 rfl kj kj ?_
 refine Qaa (.int .i64 ((ts.length : Nat) : Int)) 14 rfl kj kj ?_
 refine Qaa (.bool true) 15 rfl kj (Qat (u := .bool ((((ts.length : Nat) : Int) != 7))) kj (congrArg Value.bool (bne_iff_ne.2 (by omega)))) ?_
 refine Qaa (.bool true) 16 rfl kj kj ?_
 refine Qaa (.bool true) 17 rfl kj kj ?_
 refine Qaa (.int .i64 ((ts.length : Nat) : Int)) 18 rfl kj kj ?_
 refine Qaa (.bool false) 19 rfl kj (Qat (u := .bool ((((ts.length : Nat) : Int) != 15))) kj (congrArg Value.bool (bne_eq_false_iff_eq.2 (by omega)))) ?_
 refine Qaa (.bool false) 20 rfl kj kj ?_
 refine Qaa (.bool false) 21 rfl kj kj ?_
 refine Qah 22 rfl kj ?_
 refine Qah 23 rfl kj ?_
 refine Qaa (.bool false) 24 rfl kj kj ?_
 refine Qaa (.bool false) 25 rfl kj kj ?_
 refine Qah 26 rfl kj ?_
 refine Qah 27 rfl kj ?_
 refine Qaa (.bool false) 28 rfl kj kj ?_
 refine Qaf ?_
 refine hK4 _ _ ?_
 refine cond_false kj ?_
 refine wp_skip ?_
 refine hK3 _ _ ?_
 refine wp_seq_k fun K5 hK5 => ?_
 refine wp_seq_k fun K6 hK6 => ?_
 refine Qac ?_
 refine Qaa (.int .i64 0) 4 rfl kj kj ?_
 refine Qaf ?_
 refine hK6 _ _ ?_
 refine wp_block ?_
 refine QaB (fun (s1 : Nat) => [(0, .slice a_t ts.length c_t), (3, .int .i64 ((ts.length : Nat) : Int)), (4, .int .i64 ((s1 : Nat) : Int))]) (fun (s1 : Nat) W => (s1 ≤ ts.length) ∧ (((ts.take s1).all fun n => okN_ n.n) = true) ∧ (Ext w W) ∧ (Ext w W)) (fun (s1 : Nat) => ts.length - s1) 0 ⟨rfl, rfl, rfl, trivial⟩ ⟨(Nat.zero_le _), rfl, (Rely.Ext.refl w), (Rely.Ext.refl w)⟩ fun s1 X1 V1 hI1 => ?_
 obtain ⟨i, hs1⟩ : ∃ z, z = s1 := ⟨_, rfl⟩
 subst hs1
 obtain ⟨hi, hr, kk1, xx1⟩ := hI1
 replace hi : i ≤ ts.length := hi
 replace hr : ((ts.take i).all fun n => okN_ n.n) = true := hr
 replace kk1 : Ext w V1 := kk1
 replace xx1 : Ext w V1 := xx1
 have e1 := kk1
 refine wp_seq_k fun K7 hK7 => ?_
 refine wp_seq_k fun K8 hK8 => ?_
 refine Qac ?_
 refine Qaa (.int .i64 ((i : Nat) : Int)) 29 rfl kj kj ?_
 refine Qaa (.int .i64 ((ts.length : Nat) : Int)) 30 rfl kj kj ?_
 refine Qaa (.bool (decide (((i : Nat) : Int) < ((ts.length : Nat) : Int)))) 31 rfl kj kj ?_
 refine Qaf ?_
 refine hK8 _ _ ?_
 refine Qa2 (t := decide (((i : Nat) : Int) < ((ts.length : Nat) : Int))) kj (fun c9 => ?_) (fun c9 => ?_)
 ·skip
  have hlt31 : i < ts.length := by have := of_decide_eq_true c9; omega
  refine wp_skip ?_
  refine hK7 _ _ ?_
  refine wp_seq_k fun K10 hK10 => ?_
  refine wp_block ?_
  refine wp_seq_k fun K11 hK11 => ?_
  obtain ⟨_, _, -, hnds_⟩ := id htr
  have hrd_ := (hnds_ i (by omega)).rd
  have hok_ := (hnds_ i (by omega)).ok
  rcases (show okN_ (ndi ts i).n = false ∨ okN_ (ndi ts i).n = true by cases okN_ (ndi ts i).n <;> simp) with hgi | hgi
  ·skip
   have hV : (ts.all fun n => okN_ n.n) = false := Qcj ts i hlt31 hgi
   refine Qac ?_
   refine Qaa (.slice a_t ts.length c_t) 34 rfl kj kj ?_
   refine Qaa (.int .i64 ((i : Nat) : Int)) 35 rfl kj kj ?_
   obtain ⟨gT, oT, hat, hnds⟩ := (TrAt.ext htr xx1)
   have hnd := hnds i (by omega)
   obtain ⟨_, _, -, hnds0⟩ := id htr
   have hrd0 := (hnds0 i (by omega)).rd
   obtain ⟨nd, hndi⟩ : ∃ z, z = ndi ts i := ⟨_, rfl⟩
   rw [← hndi] at hnd hrd0 hok_ hrd_ hgi; have hgd : Qbr nd.n.us nd.n.nm nd.n.key nd.n.sg nd.n.pa nd.n.ms = _ := hgi
   have hok := hnd.ok
   refine Qaa (.pointer (some ⟨gT, oT + i * 99, none⟩)) 36 rfl kj (QaF 23 _ _ .i64 i gT oT ts.length c_t 43 99 a_t (hat (by omega)) rfl kj kj kj kj (by omega)) ?_
   refine Qaa (.agg (cat [#[.bool nd.n.us], #[.int .i64 nd.n.nm], ints .u8 (nd.n.key), ints .u8 (nd.n.sg), ints .u8 (nd.n.pa), #[.slice nd.a nd.n.ms.length nd.c]])) 37 rfl kj (QaC 43 _ gT (oT + i * 99) nd hnd rfl kj kj kj) ?_
   refine Qay (.bool false) 96 #[.agg (cat [#[.bool nd.n.us], #[.int .i64 nd.n.nm], ints .u8 (nd.n.key), ints .u8 (nd.n.sg), ints .u8 (nd.n.pa), #[.slice nd.a nd.n.ms.length nd.c]])] 38 rfl kj kj (QbH nd.n.us nd.n.nm nd.n.key nd.n.sg nd.n.pa nd.n.ms _ _ _ hgd _ hok_.kl hok_.gl hok_.pl (RdK.here (RdK.ext hrd_ xx1))) fun W2 e2 => ?_
   have x2 : Ext w W2 := Ext.tr xx1 e2
   refine Qaa (.bool true) 39 rfl kj kj ?_
   refine Qaf ?_
   refine hK11 _ _ ?_
   refine cond_true kj ?_
   refine wp_seq_k fun K12 hK12 => ?_
   refine Qac ?_
   refine Qaa (.bool false) 2 rfl kj kj ?_
   refine Qaf ?_
   refine hK12 _ _ ?_
   refine wp_ret ?_
   repeat (first | with_reducible refine goR1 ?_ | with_reducible refine goR2 ?_)
   exact (show bodyPost _ _ _ .ret _ _ from ret1 (.bool false) rfl (Qar kj) ⟨by rw [hV], x2⟩)
  ·skip
   refine Qac ?_
   refine Qaa (.slice a_t ts.length c_t) 34 rfl kj kj ?_
   refine Qaa (.int .i64 ((i : Nat) : Int)) 35 rfl kj kj ?_
   obtain ⟨gT, oT, hat, hnds⟩ := (TrAt.ext htr xx1)
   have hnd := hnds i (by omega)
   obtain ⟨_, _, -, hnds0⟩ := id htr
   have hrd0 := (hnds0 i (by omega)).rd
   obtain ⟨nd, hndi⟩ : ∃ z, z = ndi ts i := ⟨_, rfl⟩
   rw [← hndi] at hnd hrd0 hok_ hrd_ hgi; have hgd : Qbr nd.n.us nd.n.nm nd.n.key nd.n.sg nd.n.pa nd.n.ms = _ := hgi
   have hok := hnd.ok
   refine Qaa (.pointer (some ⟨gT, oT + i * 99, none⟩)) 36 rfl kj (QaF 23 _ _ .i64 i gT oT ts.length c_t 43 99 a_t (hat (by omega)) rfl kj kj kj kj (by omega)) ?_
   refine Qaa (.agg (cat [#[.bool nd.n.us], #[.int .i64 nd.n.nm], ints .u8 (nd.n.key), ints .u8 (nd.n.sg), ints .u8 (nd.n.pa), #[.slice nd.a nd.n.ms.length nd.c]])) 37 rfl kj (QaC 43 _ gT (oT + i * 99) nd hnd rfl kj kj kj) ?_
   refine Qay (.bool true) 96 #[.agg (cat [#[.bool nd.n.us], #[.int .i64 nd.n.nm], ints .u8 (nd.n.key), ints .u8 (nd.n.sg), ints .u8 (nd.n.pa), #[.slice nd.a nd.n.ms.length nd.c]])] 38 rfl kj kj (QbH nd.n.us nd.n.nm nd.n.key nd.n.sg nd.n.pa nd.n.ms _ _ _ hgd _ hok_.kl hok_.gl hok_.pl (RdK.here (RdK.ext hrd_ xx1))) fun W2 e2 => ?_
   have x2 : Ext w W2 := Ext.tr xx1 e2
   refine Qaa (.bool false) 39 rfl kj kj ?_
   refine Qaf ?_
   refine hK11 _ _ ?_
   refine cond_false kj ?_
   refine wp_skip ?_
   refine hK10 _ _ ?_
   refine Qac ?_
   refine Qaa (.int .i64 ((i : Nat) : Int)) 32 rfl kj kj ?_
   refine Qaa (.int .i64 ((i + 1 : Nat) : Int)) 33 rfl kj (Qat (u := .int .i64 (IntKind.i64.wrap (((i : Nat) : Int) + 1))) kj (congrArg (Value.int .i64) (i64n _ _ (by omega) (by omega)))) ?_
   refine Qaa (.int .i64 ((i + 1 : Nat) : Int)) 4 rfl kj kj ?_
   refine Qaf ?_
   have y0_2 : Ext w W2 := (Rely.Ext.trans e1 e2)
   repeat (first | with_reducible refine goX1 ?_ | with_reducible refine goX2 ?_ | with_reducible refine goX3 ?_)
   exact Qa8 (i + 1) ⟨rfl, rfl, rfl, trivial⟩ ⟨(by omega), (by rw [QbC ts i hlt31, List.all_append, hr, ← hndi]; simp only [List.all_cons, List.all_nil, hgi]; rfl), y0_2, x2⟩ (by omega)
 ·skip
  have heq31 : i = ts.length := by have := of_decide_eq_false c9; omega
  have hV : (ts.all fun n => okN_ n.n) = true := by rw [heq31, List.take_length] at hr; exact hr
  refine wp_exit ?_
  refine hK5 _ _ ?_
  refine wp_seq_k fun K13 hK13 => ?_
  refine Qac ?_
  refine Qaa (.bool true) 2 rfl kj kj ?_
  refine Qaf ?_
  refine hK13 _ _ ?_
  refine wp_ret ?_
  repeat (first | with_reducible refine goR1 ?_ | with_reducible refine goR2 ?_)
  exact (show bodyPost _ _ _ .ret _ _ from ret1 (.bool true) rfl (Qar kj) ⟨by rw [hV], xx1⟩)
set_option maxHeartbeats 4000000 in
theorem Qe5 (ts : List NdV) (a_t : Option Addr) (c_t : Nat) (w : World) (htl : ts.length ≤ 1000000) (htr : TrAt w.heap.size w a_t ts) (hv : ts.length = 31) : Calls Try.prog 51 #[.slice a_t ts.length c_t] w (Ret w (.bool (ts.all fun n => okN_ n.n))) := by
 refine enter 40 [(0, .slice a_t ts.length c_t)] Try.func51 rfl rfl kj rfl ?_
 refine wp_seq_k fun K1 hK1 => ?_
 refine Qac ?_
 refine Qaa (.bool false) 2 rfl kj kj ?_
 refine Qaf ?_
 refine hK1 _ _ ?_
 refine wp_seq_k fun K2 hK2 => ?_
 refine Qac ?_
 refine Qaa (.slice a_t ts.length c_t) 5 rfl kj kj ?_
 refine Qaa (.int .i64 ((ts.length : Nat) : Int)) 6 rfl kj kj ?_
 refine Qaa (.int .i64 ((ts.length : Nat) : Int)) 3 rfl kj kj ?_
 refine Qaf ?_
 refine hK2 _ _ ?_
 refine wp_seq_k fun K3 hK3 => ?_
 refine wp_seq_k fun K4 hK4 => ?_
 refine Qac ?_
 refine Qaa (.int .i64 ((ts.length : Nat) : Int)) 7 rfl kj kj ?_
 refine Qaa (.bool true) 8 rfl kj (Qat (u := .bool ((((ts.length : Nat) : Int) != 1))) kj (congrArg Value.bool (bne_iff_ne.2 (by omega)))) ?_
 refine Qaa (.bool true) 9 rfl kj kj ?_
 refine Qaa (.int .i64 ((ts.length : Nat) : Int)) 10 rfl kj kj ?_
 refine Qaa (.bool true) 11 rfl kj (Qat (u := .bool ((((ts.length : Nat) : Int) != 3))) kj (congrArg Value.bool (bne_iff_ne.2 (by omega)))) ?_
 refine Qaa (.bool true) 12 rfl kj kj ?_
 refine Qaa (.bool true) 13 rfl kj kj ?_
 refine Qaa (.int .i64 ((ts.length : Nat) : Int)) 14 rfl kj kj ?_
 refine Qaa (.bool true) 15 rfl kj (Qat (u := .bool ((((ts.length : Nat) : Int) != 7))) kj (congrArg Value.bool (bne_iff_ne.2 (by omega)))) ?_
 refine Qaa (.bool true) 16 rfl kj kj ?_
 refine Qaa (.bool true) 17 rfl kj kj ?_
 refine Qaa (.int .i64 ((ts.length : Nat) : Int)) 18 rfl kj kj ?_
 refine Qaa (.bool true) 19 rfl kj (Qat (u := .bool ((((ts.length : Nat) : Int) != 15))) kj (congrArg Value.bool (bne_iff_ne.2 (by omega)))) ?_
 refine Qaa (.bool true) 20 rfl kj kj ?_
 refine Qaa (.bool true) 21 rfl kj kj ?_
 refine Qaa (.int .i64 ((ts.length : Nat) : Int)) 22 rfl kj kj ?_
 refine Qaa (.bool false) 23 rfl kj (Qat (u := .bool ((((ts.length : Nat) : Int) != 31))) kj (congrArg Value.bool (bne_eq_false_iff_eq.2 (by omega)))) ?_
 refine Qaa (.bool false) 24 rfl kj kj ?_
 refine Qaa (.bool false) 25 rfl kj kj ?_
 refine Qah 26 rfl kj ?_
 refine Qah 27 rfl kj ?_
 refine Qaa (.bool false) 28 rfl kj kj ?_
 refine Qaf ?_
 refine hK4 _ _ ?_
 refine cond_false kj ?_
 refine wp_skip ?_
 refine hK3 _ _ ?_
 refine wp_seq_k fun K5 hK5 => ?_
 refine wp_seq_k fun K6 hK6 => ?_
 refine Qac ?_
 refine Qaa (.int .i64 0) 4 rfl kj kj ?_
 refine Qaf ?_
 refine hK6 _ _ ?_
 refine wp_block ?_
 refine QaB (fun (s1 : Nat) => [(0, .slice a_t ts.length c_t), (3, .int .i64 ((ts.length : Nat) : Int)), (4, .int .i64 ((s1 : Nat) : Int))]) (fun (s1 : Nat) W => (s1 ≤ ts.length) ∧ (((ts.take s1).all fun n => okN_ n.n) = true) ∧ (Ext w W) ∧ (Ext w W)) (fun (s1 : Nat) => ts.length - s1) 0 ⟨rfl, rfl, rfl, trivial⟩ ⟨(Nat.zero_le _), rfl, (Rely.Ext.refl w), (Rely.Ext.refl w)⟩ fun s1 X1 V1 hI1 => ?_
 obtain ⟨i, hs1⟩ : ∃ z, z = s1 := ⟨_, rfl⟩
 subst hs1
 obtain ⟨hi, hr, kk1, xx1⟩ := hI1
 replace hi : i ≤ ts.length := hi
 replace hr : ((ts.take i).all fun n => okN_ n.n) = true := hr
 replace kk1 : Ext w V1 := kk1
 replace xx1 : Ext w V1 := xx1
 have e1 := kk1
 refine wp_seq_k fun K7 hK7 => ?_
 refine wp_seq_k fun K8 hK8 => ?_
 refine Qac ?_
 refine Qaa (.int .i64 ((i : Nat) : Int)) 29 rfl kj kj ?_
 refine Qaa (.int .i64 ((ts.length : Nat) : Int)) 30 rfl kj kj ?_
 refine Qaa (.bool (decide (((i : Nat) : Int) < ((ts.length : Nat) : Int)))) 31 rfl kj kj ?_
 refine Qaf ?_
 refine hK8 _ _ ?_
 refine Qa2 (t := decide (((i : Nat) : Int) < ((ts.length : Nat) : Int))) kj (fun c9 => ?_) (fun c9 => ?_)
 ·skip
  have hlt31 : i < ts.length := by have := of_decide_eq_true c9; omega
  refine wp_skip ?_
  refine hK7 _ _ ?_
  refine wp_seq_k fun K10 hK10 => ?_
  refine wp_block ?_
  refine wp_seq_k fun K11 hK11 => ?_
  obtain ⟨_, _, -, hnds_⟩ := id htr
  have hrd_ := (hnds_ i (by omega)).rd
  have hok_ := (hnds_ i (by omega)).ok
  rcases (show okN_ (ndi ts i).n = false ∨ okN_ (ndi ts i).n = true by cases okN_ (ndi ts i).n <;> simp) with hgi | hgi
  ·skip
   have hV : (ts.all fun n => okN_ n.n) = false := Qcj ts i hlt31 hgi
   refine Qac ?_
   refine Qaa (.slice a_t ts.length c_t) 34 rfl kj kj ?_
   refine Qaa (.int .i64 ((i : Nat) : Int)) 35 rfl kj kj ?_
   obtain ⟨gT, oT, hat, hnds⟩ := (TrAt.ext htr xx1)
   have hnd := hnds i (by omega)
   obtain ⟨_, _, -, hnds0⟩ := id htr
   have hrd0 := (hnds0 i (by omega)).rd
   obtain ⟨nd, hndi⟩ : ∃ z, z = ndi ts i := ⟨_, rfl⟩
   rw [← hndi] at hnd hrd0 hok_ hrd_ hgi; have hgd : Qbr nd.n.us nd.n.nm nd.n.key nd.n.sg nd.n.pa nd.n.ms = _ := hgi
   have hok := hnd.ok
   refine Qaa (.pointer (some ⟨gT, oT + i * 99, none⟩)) 36 rfl kj (QaF 23 _ _ .i64 i gT oT ts.length c_t 43 99 a_t (hat (by omega)) rfl kj kj kj kj (by omega)) ?_
   refine Qaa (.agg (cat [#[.bool nd.n.us], #[.int .i64 nd.n.nm], ints .u8 (nd.n.key), ints .u8 (nd.n.sg), ints .u8 (nd.n.pa), #[.slice nd.a nd.n.ms.length nd.c]])) 37 rfl kj (QaC 43 _ gT (oT + i * 99) nd hnd rfl kj kj kj) ?_
   refine Qay (.bool false) 96 #[.agg (cat [#[.bool nd.n.us], #[.int .i64 nd.n.nm], ints .u8 (nd.n.key), ints .u8 (nd.n.sg), ints .u8 (nd.n.pa), #[.slice nd.a nd.n.ms.length nd.c]])] 38 rfl kj kj (QbH nd.n.us nd.n.nm nd.n.key nd.n.sg nd.n.pa nd.n.ms _ _ _ hgd _ hok_.kl hok_.gl hok_.pl (RdK.here (RdK.ext hrd_ xx1))) fun W2 e2 => ?_
   have x2 : Ext w W2 := Ext.tr xx1 e2
   refine Qaa (.bool true) 39 rfl kj kj ?_
   refine Qaf ?_
   refine hK11 _ _ ?_
   refine cond_true kj ?_
   refine wp_seq_k fun K12 hK12 => ?_
   refine Qac ?_
   refine Qaa (.bool false) 2 rfl kj kj ?_
   refine Qaf ?_
   refine hK12 _ _ ?_
   refine wp_ret ?_
   repeat (first | with_reducible refine goR1 ?_ | with_reducible refine goR2 ?_)
   exact (show bodyPost _ _ _ .ret _ _ from ret1 (.bool false) rfl (Qar kj) ⟨by rw [hV], x2⟩)
  ·skip
   refine Qac ?_
   refine Qaa (.slice a_t ts.length c_t) 34 rfl kj kj ?_
   refine Qaa (.int .i64 ((i : Nat) : Int)) 35 rfl kj kj ?_
   obtain ⟨gT, oT, hat, hnds⟩ := (TrAt.ext htr xx1)
   have hnd := hnds i (by omega)
   obtain ⟨_, _, -, hnds0⟩ := id htr
   have hrd0 := (hnds0 i (by omega)).rd
   obtain ⟨nd, hndi⟩ : ∃ z, z = ndi ts i := ⟨_, rfl⟩
   rw [← hndi] at hnd hrd0 hok_ hrd_ hgi; have hgd : Qbr nd.n.us nd.n.nm nd.n.key nd.n.sg nd.n.pa nd.n.ms = _ := hgi
   have hok := hnd.ok
   refine Qaa (.pointer (some ⟨gT, oT + i * 99, none⟩)) 36 rfl kj (QaF 23 _ _ .i64 i gT oT ts.length c_t 43 99 a_t (hat (by omega)) rfl kj kj kj kj (by omega)) ?_
   refine Qaa (.agg (cat [#[.bool nd.n.us], #[.int .i64 nd.n.nm], ints .u8 (nd.n.key), ints .u8 (nd.n.sg), ints .u8 (nd.n.pa), #[.slice nd.a nd.n.ms.length nd.c]])) 37 rfl kj (QaC 43 _ gT (oT + i * 99) nd hnd rfl kj kj kj) ?_
   refine Qay (.bool true) 96 #[.agg (cat [#[.bool nd.n.us], #[.int .i64 nd.n.nm], ints .u8 (nd.n.key), ints .u8 (nd.n.sg), ints .u8 (nd.n.pa), #[.slice nd.a nd.n.ms.length nd.c]])] 38 rfl kj kj (QbH nd.n.us nd.n.nm nd.n.key nd.n.sg nd.n.pa nd.n.ms _ _ _ hgd _ hok_.kl hok_.gl hok_.pl (RdK.here (RdK.ext hrd_ xx1))) fun W2 e2 => ?_
   have x2 : Ext w W2 := Ext.tr xx1 e2
   refine Qaa (.bool false) 39 rfl kj kj ?_
   refine Qaf ?_
   refine hK11 _ _ ?_
   refine cond_false kj ?_
   refine wp_skip ?_
   refine hK10 _ _ ?_
   refine Qac ?_
   refine Qaa (.int .i64 ((i : Nat) : Int)) 32 rfl kj kj ?_
   refine Qaa (.int .i64 ((i + 1 : Nat) : Int)) 33 rfl kj (Qat (u := .int .i64 (IntKind.i64.wrap (((i : Nat) : Int) + 1))) kj (congrArg (Value.int .i64) (i64n _ _ (by omega) (by omega)))) ?_
   refine Qaa (.int .i64 ((i + 1 : Nat) : Int)) 4 rfl kj kj ?_
   refine Qaf ?_
   have y0_2 : Ext w W2 := (Rely.Ext.trans e1 e2)
   repeat (first | with_reducible refine goX1 ?_ | with_reducible refine goX2 ?_ | with_reducible refine goX3 ?_)
   exact Qa8 (i + 1) ⟨rfl, rfl, rfl, trivial⟩ ⟨(by omega), (by rw [QbC ts i hlt31, List.all_append, hr, ← hndi]; simp only [List.all_cons, List.all_nil, hgi]; rfl), y0_2, x2⟩ (by omega)
 ·skip
  have heq31 : i = ts.length := by have := of_decide_eq_false c9; omega
  have hV : (ts.all fun n => okN_ n.n) = true := by rw [heq31, List.take_length] at hr; exact hr
  refine wp_exit ?_
  refine hK5 _ _ ?_
  refine wp_seq_k fun K13 hK13 => ?_
  refine Qac ?_
  refine Qaa (.bool true) 2 rfl kj kj ?_
  refine Qaf ?_
  refine hK13 _ _ ?_
  refine wp_ret ?_
  repeat (first | with_reducible refine goR1 ?_ | with_reducible refine goR2 ?_)
  exact (show bodyPost _ _ _ .ret _ _ from ret1 (.bool true) rfl (Qar kj) ⟨by rw [hV], xx1⟩)
set_option maxHeartbeats 4000000 in
theorem Qe4 (ts : List NdV) (a_t : Option Addr) (c_t : Nat) (w : World) (htl : ts.length ≤ 1000000) (htr : TrAt w.heap.size w a_t ts) (hv : ts.length = 63) : Calls Try.prog 51 #[.slice a_t ts.length c_t] w (Ret w (.bool (ts.all fun n => okN_ n.n))) := by
 refine enter 40 [(0, .slice a_t ts.length c_t)] Try.func51 rfl rfl kj rfl ?_
 refine wp_seq_k fun K1 hK1 => ?_
 refine Qac ?_
 refine Qaa (.bool false) 2 rfl kj kj ?_
 refine Qaf ?_
 refine hK1 _ _ ?_
 refine wp_seq_k fun K2 hK2 => ?_
 refine Qac ?_
 refine Qaa (.slice a_t ts.length c_t) 5 rfl kj kj ?_
 refine Qaa (.int .i64 ((ts.length : Nat) : Int)) 6 rfl kj kj ?_
 refine Qaa (.int .i64 ((ts.length : Nat) : Int)) 3 rfl kj kj ?_
 refine Qaf ?_
 refine hK2 _ _ ?_
 refine wp_seq_k fun K3 hK3 => ?_
 refine wp_seq_k fun K4 hK4 => ?_
 refine Qac ?_
 refine Qaa (.int .i64 ((ts.length : Nat) : Int)) 7 rfl kj kj ?_
 refine Qaa (.bool true) 8 rfl kj (Qat (u := .bool ((((ts.length : Nat) : Int) != 1))) kj (congrArg Value.bool (bne_iff_ne.2 (by omega)))) ?_
 refine Qaa (.bool true) 9 rfl kj kj ?_
 refine Qaa (.int .i64 ((ts.length : Nat) : Int)) 10 rfl kj kj ?_
 refine Qaa (.bool true) 11 rfl kj (Qat (u := .bool ((((ts.length : Nat) : Int) != 3))) kj (congrArg Value.bool (bne_iff_ne.2 (by omega)))) ?_
 refine Qaa (.bool true) 12 rfl kj kj ?_
 refine Qaa (.bool true) 13 rfl kj kj ?_
 refine Qaa (.int .i64 ((ts.length : Nat) : Int)) 14 rfl kj kj ?_
 refine Qaa (.bool true) 15 rfl kj (Qat (u := .bool ((((ts.length : Nat) : Int) != 7))) kj (congrArg Value.bool (bne_iff_ne.2 (by omega)))) ?_
 refine Qaa (.bool true) 16 rfl kj kj ?_
 refine Qaa (.bool true) 17 rfl kj kj ?_
 refine Qaa (.int .i64 ((ts.length : Nat) : Int)) 18 rfl kj kj ?_
 refine Qaa (.bool true) 19 rfl kj (Qat (u := .bool ((((ts.length : Nat) : Int) != 15))) kj (congrArg Value.bool (bne_iff_ne.2 (by omega)))) ?_
 refine Qaa (.bool true) 20 rfl kj kj ?_
 refine Qaa (.bool true) 21 rfl kj kj ?_
 refine Qaa (.int .i64 ((ts.length : Nat) : Int)) 22 rfl kj kj ?_
 refine Qaa (.bool true) 23 rfl kj (Qat (u := .bool ((((ts.length : Nat) : Int) != 31))) kj (congrArg Value.bool (bne_iff_ne.2 (by omega)))) ?_
 refine Qaa (.bool true) 24 rfl kj kj ?_
 refine Qaa (.bool true) 25 rfl kj kj ?_
 refine Qaa (.int .i64 ((ts.length : Nat) : Int)) 26 rfl kj kj ?_
 refine Qaa (.bool false) 27 rfl kj (Qat (u := .bool ((((ts.length : Nat) : Int) != 63))) kj (congrArg Value.bool (bne_eq_false_iff_eq.2 (by omega)))) ?_
 refine Qaa (.bool false) 28 rfl kj kj ?_
 refine Qaf ?_
 refine hK4 _ _ ?_
 refine cond_false kj ?_
 refine wp_skip ?_
 refine hK3 _ _ ?_
 refine wp_seq_k fun K5 hK5 => ?_
 refine wp_seq_k fun K6 hK6 => ?_
 refine Qac ?_
 refine Qaa (.int .i64 0) 4 rfl kj kj ?_
 refine Qaf ?_
 refine hK6 _ _ ?_
 refine wp_block ?_
 refine QaB (fun (s1 : Nat) => [(0, .slice a_t ts.length c_t), (3, .int .i64 ((ts.length : Nat) : Int)), (4, .int .i64 ((s1 : Nat) : Int))]) (fun (s1 : Nat) W => (s1 ≤ ts.length) ∧ (((ts.take s1).all fun n => okN_ n.n) = true) ∧ (Ext w W) ∧ (Ext w W)) (fun (s1 : Nat) => ts.length - s1) 0 ⟨rfl, rfl, rfl, trivial⟩ ⟨(Nat.zero_le _), rfl, (Rely.Ext.refl w), (Rely.Ext.refl w)⟩ fun s1 X1 V1 hI1 => ?_
 obtain ⟨i, hs1⟩ : ∃ z, z = s1 := ⟨_, rfl⟩
 subst hs1
 obtain ⟨hi, hr, kk1, xx1⟩ := hI1
 replace hi : i ≤ ts.length := hi
 replace hr : ((ts.take i).all fun n => okN_ n.n) = true := hr
 replace kk1 : Ext w V1 := kk1
 replace xx1 : Ext w V1 := xx1
 have e1 := kk1
 refine wp_seq_k fun K7 hK7 => ?_
 refine wp_seq_k fun K8 hK8 => ?_
 refine Qac ?_
 refine Qaa (.int .i64 ((i : Nat) : Int)) 29 rfl kj kj ?_
 refine Qaa (.int .i64 ((ts.length : Nat) : Int)) 30 rfl kj kj ?_
 refine Qaa (.bool (decide (((i : Nat) : Int) < ((ts.length : Nat) : Int)))) 31 rfl kj kj ?_
 refine Qaf ?_
 refine hK8 _ _ ?_
 refine Qa2 (t := decide (((i : Nat) : Int) < ((ts.length : Nat) : Int))) kj (fun c9 => ?_) (fun c9 => ?_)
 ·skip
  have hlt31 : i < ts.length := by have := of_decide_eq_true c9; omega
  refine wp_skip ?_
  refine hK7 _ _ ?_
  refine wp_seq_k fun K10 hK10 => ?_
  refine wp_block ?_
  refine wp_seq_k fun K11 hK11 => ?_
  obtain ⟨_, _, -, hnds_⟩ := id htr
  have hrd_ := (hnds_ i (by omega)).rd
  have hok_ := (hnds_ i (by omega)).ok
  rcases (show okN_ (ndi ts i).n = false ∨ okN_ (ndi ts i).n = true by cases okN_ (ndi ts i).n <;> simp) with hgi | hgi
  ·skip
   have hV : (ts.all fun n => okN_ n.n) = false := Qcj ts i hlt31 hgi
   refine Qac ?_
   refine Qaa (.slice a_t ts.length c_t) 34 rfl kj kj ?_
   refine Qaa (.int .i64 ((i : Nat) : Int)) 35 rfl kj kj ?_
   obtain ⟨gT, oT, hat, hnds⟩ := (TrAt.ext htr xx1)
   have hnd := hnds i (by omega)
   obtain ⟨_, _, -, hnds0⟩ := id htr
   have hrd0 := (hnds0 i (by omega)).rd
   obtain ⟨nd, hndi⟩ : ∃ z, z = ndi ts i := ⟨_, rfl⟩
   rw [← hndi] at hnd hrd0 hok_ hrd_ hgi; have hgd : Qbr nd.n.us nd.n.nm nd.n.key nd.n.sg nd.n.pa nd.n.ms = _ := hgi
   have hok := hnd.ok
   refine Qaa (.pointer (some ⟨gT, oT + i * 99, none⟩)) 36 rfl kj (QaF 23 _ _ .i64 i gT oT ts.length c_t 43 99 a_t (hat (by omega)) rfl kj kj kj kj (by omega)) ?_
   refine Qaa (.agg (cat [#[.bool nd.n.us], #[.int .i64 nd.n.nm], ints .u8 (nd.n.key), ints .u8 (nd.n.sg), ints .u8 (nd.n.pa), #[.slice nd.a nd.n.ms.length nd.c]])) 37 rfl kj (QaC 43 _ gT (oT + i * 99) nd hnd rfl kj kj kj) ?_
   refine Qay (.bool false) 96 #[.agg (cat [#[.bool nd.n.us], #[.int .i64 nd.n.nm], ints .u8 (nd.n.key), ints .u8 (nd.n.sg), ints .u8 (nd.n.pa), #[.slice nd.a nd.n.ms.length nd.c]])] 38 rfl kj kj (QbH nd.n.us nd.n.nm nd.n.key nd.n.sg nd.n.pa nd.n.ms _ _ _ hgd _ hok_.kl hok_.gl hok_.pl (RdK.here (RdK.ext hrd_ xx1))) fun W2 e2 => ?_
   have x2 : Ext w W2 := Ext.tr xx1 e2
   refine Qaa (.bool true) 39 rfl kj kj ?_
   refine Qaf ?_
   refine hK11 _ _ ?_
   refine cond_true kj ?_
   refine wp_seq_k fun K12 hK12 => ?_
   refine Qac ?_
   refine Qaa (.bool false) 2 rfl kj kj ?_
   refine Qaf ?_
   refine hK12 _ _ ?_
   refine wp_ret ?_
   repeat (first | with_reducible refine goR1 ?_ | with_reducible refine goR2 ?_)
   exact (show bodyPost _ _ _ .ret _ _ from ret1 (.bool false) rfl (Qar kj) ⟨by rw [hV], x2⟩)
  ·skip
   refine Qac ?_
   refine Qaa (.slice a_t ts.length c_t) 34 rfl kj kj ?_
   refine Qaa (.int .i64 ((i : Nat) : Int)) 35 rfl kj kj ?_
   obtain ⟨gT, oT, hat, hnds⟩ := (TrAt.ext htr xx1)
   have hnd := hnds i (by omega)
   obtain ⟨_, _, -, hnds0⟩ := id htr
   have hrd0 := (hnds0 i (by omega)).rd
   obtain ⟨nd, hndi⟩ : ∃ z, z = ndi ts i := ⟨_, rfl⟩
   rw [← hndi] at hnd hrd0 hok_ hrd_ hgi; have hgd : Qbr nd.n.us nd.n.nm nd.n.key nd.n.sg nd.n.pa nd.n.ms = _ := hgi
   have hok := hnd.ok
   refine Qaa (.pointer (some ⟨gT, oT + i * 99, none⟩)) 36 rfl kj (QaF 23 _ _ .i64 i gT oT ts.length c_t 43 99 a_t (hat (by omega)) rfl kj kj kj kj (by omega)) ?_
   refine Qaa (.agg (cat [#[.bool nd.n.us], #[.int .i64 nd.n.nm], ints .u8 (nd.n.key), ints .u8 (nd.n.sg), ints .u8 (nd.n.pa), #[.slice nd.a nd.n.ms.length nd.c]])) 37 rfl kj (QaC 43 _ gT (oT + i * 99) nd hnd rfl kj kj kj) ?_
   refine Qay (.bool true) 96 #[.agg (cat [#[.bool nd.n.us], #[.int .i64 nd.n.nm], ints .u8 (nd.n.key), ints .u8 (nd.n.sg), ints .u8 (nd.n.pa), #[.slice nd.a nd.n.ms.length nd.c]])] 38 rfl kj kj (QbH nd.n.us nd.n.nm nd.n.key nd.n.sg nd.n.pa nd.n.ms _ _ _ hgd _ hok_.kl hok_.gl hok_.pl (RdK.here (RdK.ext hrd_ xx1))) fun W2 e2 => ?_
   have x2 : Ext w W2 := Ext.tr xx1 e2
   refine Qaa (.bool false) 39 rfl kj kj ?_
   refine Qaf ?_
   refine hK11 _ _ ?_
   refine cond_false kj ?_
   refine wp_skip ?_
   refine hK10 _ _ ?_
   refine Qac ?_
   refine Qaa (.int .i64 ((i : Nat) : Int)) 32 rfl kj kj ?_
   refine Qaa (.int .i64 ((i + 1 : Nat) : Int)) 33 rfl kj (Qat (u := .int .i64 (IntKind.i64.wrap (((i : Nat) : Int) + 1))) kj (congrArg (Value.int .i64) (i64n _ _ (by omega) (by omega)))) ?_
   refine Qaa (.int .i64 ((i + 1 : Nat) : Int)) 4 rfl kj kj ?_
   refine Qaf ?_
   have y0_2 : Ext w W2 := (Rely.Ext.trans e1 e2)
   repeat (first | with_reducible refine goX1 ?_ | with_reducible refine goX2 ?_ | with_reducible refine goX3 ?_)
   exact Qa8 (i + 1) ⟨rfl, rfl, rfl, trivial⟩ ⟨(by omega), (by rw [QbC ts i hlt31, List.all_append, hr, ← hndi]; simp only [List.all_cons, List.all_nil, hgi]; rfl), y0_2, x2⟩ (by omega)
 ·skip
  have heq31 : i = ts.length := by have := of_decide_eq_false c9; omega
  have hV : (ts.all fun n => okN_ n.n) = true := by rw [heq31, List.take_length] at hr; exact hr
  refine wp_exit ?_
  refine hK5 _ _ ?_
  refine wp_seq_k fun K13 hK13 => ?_
  refine Qac ?_
  refine Qaa (.bool true) 2 rfl kj kj ?_
  refine Qaf ?_
  refine hK13 _ _ ?_
  refine wp_ret ?_
  repeat (first | with_reducible refine goR1 ?_ | with_reducible refine goR2 ?_)
  exact (show bodyPost _ _ _ .ret _ _ from ret1 (.bool true) rfl (Qar kj) ⟨by rw [hV], xx1⟩)
set_option maxHeartbeats 4000000 in
theorem Qfd (ts : List NdV) (a_t : Option Addr) (c_t : Nat) (w : World) (htl : ts.length ≤ 1000000) (htr : TrAt w.heap.size w a_t ts) (h1 : ts.length ≠ 1) (h3 : ts.length ≠ 3) (h7 : ts.length ≠ 7) (h15 : ts.length ≠ 15) (h31 : ts.length ≠ 31) (h63 : ts.length ≠ 63) : Calls Try.prog 51 #[.slice a_t ts.length c_t] w (Ret w (.bool false)) := by
  refine enter 40 [(0, .slice a_t ts.length c_t)] Try.func51 rfl rfl kj rfl ?_
  refine wp_seq_k fun K1 hK1 => ?_
  refine Qac ?_
  refine Qaa (.bool false) 2 rfl kj kj ?_
  refine Qaf ?_
  refine hK1 _ _ ?_
  refine wp_seq_k fun K2 hK2 => ?_
  refine Qac ?_
  refine Qaa (.slice a_t ts.length c_t) 5 rfl kj kj ?_
  refine Qaa (.int .i64 ((ts.length : Nat) : Int)) 6 rfl kj kj ?_
  refine Qaa (.int .i64 ((ts.length : Nat) : Int)) 3 rfl kj kj ?_
  refine Qaf ?_
  refine hK2 _ _ ?_
  refine wp_seq_k fun K3 hK3 => ?_
  refine wp_seq_k fun K4 hK4 => ?_
  refine Qac ?_
  refine Qaa (.int .i64 ((ts.length : Nat) : Int)) 7 rfl kj kj ?_
  refine Qaa (.bool true) 8 rfl kj (Qat (u := .bool ((((ts.length : Nat) : Int) != 1))) kj (congrArg Value.bool (bne_iff_ne.2 (by omega)))) ?_
  refine Qaa (.bool true) 9 rfl kj kj ?_
  refine Qaa (.int .i64 ((ts.length : Nat) : Int)) 10 rfl kj kj ?_
  refine Qaa (.bool true) 11 rfl kj (Qat (u := .bool ((((ts.length : Nat) : Int) != 3))) kj (congrArg Value.bool (bne_iff_ne.2 (by omega)))) ?_
  refine Qaa (.bool true) 12 rfl kj kj ?_
  refine Qaa (.bool true) 13 rfl kj kj ?_
  refine Qaa (.int .i64 ((ts.length : Nat) : Int)) 14 rfl kj kj ?_
  refine Qaa (.bool true) 15 rfl kj (Qat (u := .bool ((((ts.length : Nat) : Int) != 7))) kj (congrArg Value.bool (bne_iff_ne.2 (by omega)))) ?_
  refine Qaa (.bool true) 16 rfl kj kj ?_
  refine Qaa (.bool true) 17 rfl kj kj ?_
  refine Qaa (.int .i64 ((ts.length : Nat) : Int)) 18 rfl kj kj ?_
  refine Qaa (.bool true) 19 rfl kj (Qat (u := .bool ((((ts.length : Nat) : Int) != 15))) kj (congrArg Value.bool (bne_iff_ne.2 (by omega)))) ?_
  refine Qaa (.bool true) 20 rfl kj kj ?_
  refine Qaa (.bool true) 21 rfl kj kj ?_
  refine Qaa (.int .i64 ((ts.length : Nat) : Int)) 22 rfl kj kj ?_
  refine Qaa (.bool true) 23 rfl kj (Qat (u := .bool ((((ts.length : Nat) : Int) != 31))) kj (congrArg Value.bool (bne_iff_ne.2 (by omega)))) ?_
  refine Qaa (.bool true) 24 rfl kj kj ?_
  refine Qaa (.bool true) 25 rfl kj kj ?_
  refine Qaa (.int .i64 ((ts.length : Nat) : Int)) 26 rfl kj kj ?_
  refine Qaa (.bool true) 27 rfl kj (Qat (u := .bool ((((ts.length : Nat) : Int) != 63))) kj (congrArg Value.bool (bne_iff_ne.2 (by omega)))) ?_
  refine Qaa (.bool true) 28 rfl kj kj ?_
  refine Qaf ?_
  refine hK4 _ _ ?_
  refine cond_true kj ?_
  refine wp_seq_k fun K5 hK5 => ?_
  refine Qac ?_
  refine Qaa (.bool false) 2 rfl kj kj ?_
  refine Qaf ?_
  refine hK5 _ _ ?_
  refine wp_ret ?_
  repeat (first | with_reducible refine goR1 ?_ | with_reducible refine goR2 ?_)
  exact (show bodyPost _ _ _ .ret _ _ from ret1 (.bool false) rfl (Qar kj) ⟨rfl, (Rely.Ext.refl w)⟩)
theorem Qe7 (ts : List NdV) (a_t : Option Addr) (c_t : Nat) (b : Bool) (hb : Qbe ts = b) (w : World) (htl : ts.length ≤ 1000000) (htr : TrAt w.heap.size w a_t ts) : Calls Try.prog 51 #[.slice a_t ts.length c_t] w (Ret w (.bool b)) := by
  subst hb
  unfold Qbe
  by_cases h1 : ts.length = 1
  · rw [show szOk ts.length = true by rw [h1]; rfl, Bool.true_and]; exact Qfg ts a_t c_t w htl htr h1
  by_cases h3 : ts.length = 3
  · rw [show szOk ts.length = true by rw [h3]; rfl, Bool.true_and]; exact Qff ts a_t c_t w htl htr h3
  by_cases h7 : ts.length = 7
  · rw [show szOk ts.length = true by rw [h7]; rfl, Bool.true_and]; exact Qfe ts a_t c_t w htl htr h7
  by_cases h15 : ts.length = 15
  · rw [show szOk ts.length = true by rw [h15]; rfl, Bool.true_and]; exact Qe6 ts a_t c_t w htl htr h15
  by_cases h31 : ts.length = 31
  · rw [show szOk ts.length = true by rw [h31]; rfl, Bool.true_and]; exact Qe5 ts a_t c_t w htl htr h31
  by_cases h63 : ts.length = 63
  · rw [show szOk ts.length = true by rw [h63]; rfl, Bool.true_and]; exact Qe4 ts a_t c_t w htl htr h63
  rw [show szOk ts.length = false by unfold szOk; simp only [beq_eq_false_iff_ne.2 h1, beq_eq_false_iff_ne.2 h3, beq_eq_false_iff_ne.2 h7, beq_eq_false_iff_ne.2 h15, beq_eq_false_iff_ne.2 h31, beq_eq_false_iff_ne.2 h63]; rfl, Bool.false_and]
  exact Qfd ts a_t c_t w htl htr h1 h3 h7 h15 h31 h63
set_option maxHeartbeats 4000000 in
theorem QfB (ts : List NdV) (a_t : Option Addr) (c_t : Nat) (w : World) (htl : ts.length ≤ 63) (hms : ∀ i, i < ts.length → (ndi ts i).n.ms.length ≤ 1000000) (hok : ∀ n ∈ ts, NdOk n.n) (htr : TrAt w.heap.size w a_t ts) : Calls Try.prog 53 #[.slice a_t ts.length c_t] w (Qb4 w (OwnN .u8 5 w.heap.size (Qbk ts))) := by
 have hnl : ∀ i, i < ts.length → (Qbp (ndi ts i).n).length ≤ 2000000 := fun i hi => by
  have ho := hok _ (Qcf ts i hi)
  have := hms i hi
  unfold Qbp QbJ Qb6
  simp only [List.length_append, List.length_cons, List.length_nil, List.length_map, ho.kl, ho.gl, ho.pl]
  omega
 have hlen : ∀ i, i ≤ ts.length → ((ts.take i).map fun n => Qbp n.n).flatten.length ≤ 63 * 2000000 := fun i hi => by
  have h1 := QdI (fun n : NdV => Qbp n.n) 2000000 (ts.take i) fun n hn => by
   obtain ⟨j, hj, e⟩ := List.mem_iff_getElem.1 (List.mem_of_mem_take hn)
   have h2 := hnl j hj
   unfold ndi at h2
   rw [List.getD_eq_getElem?_getD, List.getElem?_eq_getElem hj] at h2
   rw [← e]; exact h2
  have h3 : (ts.take i).length ≤ 63 := by rw [List.length_take]; omega
  exact Nat.le_trans h1 (Nat.mul_le_mul_right _ h3)
 refine enter 23 [(0, .slice a_t ts.length c_t)] Try.func53 rfl rfl kj rfl ?_
 refine wp_seq_k fun K1 hK1 => ?_
 refine Qac ?_
 refine Qaa (.slice none 0 0) 2 rfl kj kj ?_
 refine Qaf ?_
 refine hK1 _ _ ?_
 refine wp_seq_k fun K2 hK2 => ?_
 refine Qac ?_
 refine Qaa (.slice a_t ts.length c_t) 5 rfl kj kj ?_
 refine Qaa (.int .i64 ((ts.length : Nat) : Int)) 6 rfl kj kj ?_
 refine Qaa (.int .u8 (byV ((ts.length : Nat) : Int) 0)) 7 rfl kj (Qat (u := .int .u8 (IntKind.u8.wrap ((ts.length : Nat) : Int))) kj (congrArg (Value.int .u8) (byV0 _))) ?_
 refine QaU (ints .u8 ([(byV ((ts.length : Nat) : Int) 0)])) 5 1 8 rfl kj kj fun g3 W1 l3 e1 r3_1 => ?_
 have x1 : Ext w W1 := Ext.tr (Rely.Ext.refl w) e1
 have b3 : w.heap.size ≤ g3 := Nat.le_trans (Rely.Ext.refl w).size l3
 refine Qaa (.slice (some ⟨g3, 0, none⟩) 1 1) 3 rfl kj kj ?_
 refine Qaf ?_
 refine hK2 _ _ ?_
 refine wp_seq_k fun K4 hK4 => ?_
 refine wp_seq_k fun K5 hK5 => ?_
 refine Qac ?_
 refine Qaa (.int .i64 0) 4 rfl kj kj ?_
 refine Qaf ?_
 refine hK5 _ _ ?_
 refine wp_block ?_
 refine QaB (fun (s1 : Nat × Value) => [(0, .slice a_t ts.length c_t), (3, s1.2), (4, .int .i64 ((s1.1 : Nat) : Int))]) (fun (s1 : Nat × Value) W => (s1.1 ≤ ts.length) ∧ (OwnN .u8 5 w.heap.size ([byV ((ts.length : Nat) : Int) 0] ++ ((ts.take s1.1).map fun n => Qbp n.n).flatten) s1.2 W) ∧ (Below w.heap.size W1 W) ∧ (Ext w W)) (fun (s1 : Nat × Value) => ts.length - s1.1) (0, .slice (some ⟨g3, 0, none⟩) 1 1) ⟨rfl, rfl, rfl, trivial⟩ ⟨(Nat.zero_le _), (by rw [List.take_zero, List.map_nil, List.flatten_nil, List.append_nil]; exact (QbO (xs := [byV ((ts.length : Nat) : Int) 0]) rfl l3 r3_1 (show 1 ≤ maxLen by decide))), (RowKit.Below.refl _ W1), x1⟩ fun s1 X1 V1 hI1 => ?_
 obtain ⟨i, u⟩ := s1
 obtain ⟨hi, hu, kk1, xx1⟩ := hI1
 replace hi : i ≤ ts.length := hi
 replace hu : OwnN .u8 5 w.heap.size ([byV ((ts.length : Nat) : Int) 0] ++ ((ts.take i).map fun n => Qbp n.n).flatten) u V1 := hu
 replace kk1 : Below w.heap.size W1 V1 := kk1
 replace xx1 : Ext w V1 := xx1
 have l2 := kk1
 refine wp_seq_k fun K6 hK6 => ?_
 refine wp_seq_k fun K7 hK7 => ?_
 refine Qac ?_
 refine Qaa (.int .i64 ((i : Nat) : Int)) 9 rfl kj kj ?_
 refine Qaa (.slice a_t ts.length c_t) 10 rfl kj kj ?_
 refine Qaa (.int .i64 ((ts.length : Nat) : Int)) 11 rfl kj kj ?_
 refine Qaa (.bool (decide (((i : Nat) : Int) < ((ts.length : Nat) : Int)))) 12 rfl kj kj ?_
 refine Qaf ?_
 refine hK7 _ _ ?_
 refine Qa2 (t := decide (((i : Nat) : Int) < ((ts.length : Nat) : Int))) kj (fun c8 => ?_) (fun c8 => ?_)
 ·skip
  have hlt12 : i < ts.length := by have := of_decide_eq_true c8; omega
  refine wp_skip ?_
  refine hK6 _ _ ?_
  refine wp_seq_k fun K9 hK9 => ?_
  refine wp_block ?_
  refine Qac ?_
  refine Qaa (u) 15 rfl kj kj ?_
  refine Qaa (.slice a_t ts.length c_t) 16 rfl kj kj ?_
  refine Qaa (.int .i64 ((i : Nat) : Int)) 17 rfl kj kj ?_
  obtain ⟨gT, oT, hat, hnds⟩ := (TrAt.ext htr xx1)
  have hnd := hnds i (by omega)
  obtain ⟨_, _, -, hnds0⟩ := id htr
  have hrd0 := (hnds0 i (by omega)).rd
  obtain ⟨nd, hndi⟩ : ∃ z, z = ndi ts i := ⟨_, rfl⟩
  rw [← hndi] at hnd hrd0
  have hok := hnd.ok
  refine Qaa (.pointer (some ⟨gT, oT + i * 99, none⟩)) 18 rfl kj (QaF 23 _ _ .i64 i gT oT ts.length c_t 43 99 a_t (hat (by omega)) rfl kj kj kj kj (by omega)) ?_
  refine Qaa (.agg (cat [#[.bool nd.n.us], #[.int .i64 nd.n.nm], ints .u8 (nd.n.key), ints .u8 (nd.n.sg), ints .u8 (nd.n.pa), #[.slice nd.a nd.n.ms.length nd.c]])) 19 rfl kj (QaC 43 _ gT (oT + i * 99) nd hnd rfl kj kj kj) ?_
  refine Qaj (fun v W' => (OwnN .u8 5 V1.heap.size (Qbp nd.n)) v W' ∧ Ext V1 W') 97 #[.agg (cat [#[.bool nd.n.us], #[.int .i64 nd.n.nm], ints .u8 (nd.n.key), ints .u8 (nd.n.sg), ints .u8 (nd.n.pa), #[.slice nd.a nd.n.ms.length nd.c]])] 20 rfl kj kj ((Qgw nd.n.us nd.n.nm nd.n.key nd.n.sg nd.n.pa nd.n.ms _ _ _ hok.kl hok.gl hok.pl (by rw [hndi]; exact hms i hlt12) (RdK.here (RdK.ext hrd0 xx1))).mono (by rintro e w' ⟨v, rfl, e1, hv⟩; exact ⟨v, rfl, hv, e1⟩)) fun vv10 W3 hh10 => ?_
  obtain ⟨hv10, e3⟩ := hh10
  have x3 : Ext w W3 := Ext.tr xx1 e3
  obtain ⟨anb_, cnb_, rfl, -⟩ := id (OwnN.rd hv10)
  have f11_3 := (hu.ext e3)
  have y0_1 : Ext w W1 := (Rely.Ext.trans (Rely.Ext.refl w) e1)
  have y0_2 : Ext w V1 := (Ext.low y0_1 l2 (Rely.Ext.refl w).size)
  have y0_3 : Ext w W3 := (Rely.Ext.trans y0_2 e3)
  refine Qbg (k := .u8) (T := 5) (xs := [byV ((ts.length : Nat) : Int) 0] ++ ((ts.take i).map fun n => Qbp n.n).flatten) (ys := Qbp nd.n) (V := w) 1 (.tmp 15) (.tmp 20) 26 rfl kj kj (by decide) 21 rfl kj kj kj f11_3 (OwnN.rd hv10) (by simp only [List.length_append, List.length_cons, List.length_nil]; have h8 := hlen i (by omega); have h9 : (Qbp nd.n).length ≤ 2000000 := (by rw [hndi]; exact hnl i hlt12); omega) y0_3 fun z1 W4 f12 y4 l4 => ?_
  have x4 : Ext w W4 := Ext.low x3 l4 (Rely.Ext.refl w).size
  refine Qaa (z1) 3 rfl kj kj ?_
  refine Qaf ?_
  refine hK9 _ _ ?_
  refine Qac ?_
  refine Qaa (.int .i64 ((i : Nat) : Int)) 13 rfl kj kj ?_
  refine Qaa (.int .i64 ((i + 1 : Nat) : Int)) 14 rfl kj (Qat (u := .int .i64 (IntKind.i64.wrap (((i : Nat) : Int) + 1))) kj (congrArg (Value.int .i64) (i64n _ _ (by omega) (by omega)))) ?_
  refine Qaa (.int .i64 ((i + 1 : Nat) : Int)) 4 rfl kj kj ?_
  refine Qaf ?_
  repeat (first | with_reducible refine goX1 ?_ | with_reducible refine goX2 ?_ | with_reducible refine goX3 ?_)
  exact Qa8 ((i + 1), z1) ⟨rfl, rfl, rfl, trivial⟩ ⟨(by omega), (by rw [Qeb ts i hlt12, ← hndi]; exact f12), (RowKit.Below.trans (RowKit.Below.trans l2 (RowKit.Below.mono e3 y0_2.size)) l4), x4⟩ (by omega)
 ·skip
  have heq12 : i = ts.length := by have := of_decide_eq_false c8; omega
  refine wp_exit ?_
  refine hK4 _ _ ?_
  refine wp_seq_k fun K14 hK14 => ?_
  refine Qac ?_
  refine Qaa (u) 22 rfl kj kj ?_
  refine Qaa (u) 2 rfl kj kj ?_
  refine Qaf ?_
  refine hK14 _ _ ?_
  refine wp_ret ?_
  repeat (first | with_reducible refine goR1 ?_ | with_reducible refine goR2 ?_)
  exact (show bodyPost _ _ _ .ret _ _ from ret1 (u) rfl (Qar kj) ⟨_, rfl, xx1, OwnN.base (Rely.Ext.refl w).size (show OwnN .u8 5 _ (Qbk ts) _ _ by have h7 := hu; rw [heq12, List.take_length] at h7; exact h7)⟩)
end Go.Proofs.Ytfelfmchachljaa.Wr
end
section
namespace Go.Proofs.Ytfelfmchachljaa.Wr
open Go Go.RowKit
open Rely Auto Own Sha
set_option linter.unusedVariables false
set_option linter.unusedSimpArgs false
def Qda (s : Option (List Int)) (grp : List Int) (ep : Int) (ts : List NdV) (con tag : List Int) (fr : Int) (sig : List Int) : Option (List Int) := rawS (Qbl (rawS (rawS (Qc6 (numS (rawS s grp) ep 4) ts) con) tag) fr) sig
set_option maxHeartbeats 4000000 in
theorem QgY (base gw : Nat) (s : Option (List Int)) (grp : List Int) (ep : Int) (ts : List NdV) (con tag : List Int) (fr : Int) (sig : List Int) (a_t : Option Addr) (c_t : Nat) (w : World) (hbw : base ≤ w.heap.size) (hbg : base ≤ gw) (h : WSt base gw s w) (hrl : grp.length = 32) (hrb : Qal grp) (hcl : con.length = 32) (hcb : Qal con) (hgl : tag.length = 32) (hgb : Qal tag) (hil : sig.length = 64) (hib : Qal sig) (htl : ts.length ≤ 1000000) (hms : ∀ i, i < ts.length → (ndi ts i).n.ms.length ≤ 1000000) (htr : TrAt base w a_t ts) : Calls Try.prog 71 #[.pointer (some ⟨gw, 0, none⟩), .agg (cat [ints .u8 (grp), #[.int .i64 ep], #[.slice a_t ts.length c_t], ints .u8 (con), ints .u8 (tag), #[.int .i64 fr], ints .u8 (sig)])] w (fun e W => e = .returned (.tuple #[]) ∧ GW base gw w W ∧ WSt base gw (Qda s grp ep ts con tag fr sig) W) := by
  have hgw := h.lt
  refine enter 32 [(0, .pointer (some ⟨gw, 0, none⟩)), (1, .agg (cat [ints .u8 (grp), #[.int .i64 ep], #[.slice a_t ts.length c_t], ints .u8 (con), ints .u8 (tag), #[.int .i64 fr], ints .u8 (sig)]))] Try.func71 rfl rfl kj rfl ?_
  refine wp_seq_k fun K1 hK1 => ?_
  refine Qac ?_
  refine Qaq (cat [ints .u8 (grp), #[.int .i64 ep], #[.slice a_t ts.length c_t], ints .u8 (con), ints .u8 (tag), #[.int .i64 fr], ints .u8 (sig)]) 67 3 rfl kj kj fun g2 W1 l2 e1 r2_1 => ?_
  have x1 : GW base gw w W1 := GW.ext (GW.refl base gw w) e1
  have ws3 := WSt.ext h e1
  have b2 : w.heap.size ≤ g2 := Nat.le_trans (GW.refl base gw w).size l2
  refine Qaf ?_
  refine hK1 _ _ ?_
  refine wp_seq_k fun K4 hK4 => ?_
  refine Qac ?_
  refine Qaa (.pointer (some ⟨gw, 0, none⟩)) 4 rfl kj kj ?_
  refine Qaa (.pointer (some ⟨g2, 0, none⟩)) 5 rfl kj kj ?_
  refine Qaa (.slice (some ⟨g2, 0, none⟩) 32 32) 6 rfl kj kj ?_
  refine Qaj (fun v W' => v = .tuple #[] ∧ GW base gw W1 W' ∧ WSt base gw (rawS (s) grp) W') 104 #[.pointer (some ⟨gw, 0, none⟩), .slice (some ⟨g2, 0, none⟩) 32 32] 7 rfl kj kj ((rawW base gw _ grp _ _ (Nat.le_trans hbw x1.size) ws3 (by omega) hrb (fun W e => (QaM 0 hrl (ExtB.row e r2_1 (Ne.symm (Nat.ne_of_lt (Nat.lt_of_lt_of_le hgw b2)))) (fun i hi => QaH [] [#[.int .i64 ep], #[.slice a_t ts.length c_t], ints .u8 (con), ints .u8 (tag), #[.int .i64 fr], ints .u8 (sig)] grp 0 i (0 + i) kj rfl (by rw [hrl]; exact hi)) (Qa1 (ExtB.row e r2_1 (Ne.symm (Nat.ne_of_lt (Nat.lt_of_lt_of_le hgw b2))))) (Nat.le_refl _) (by decide)))).mono (by rintro e w' ⟨rfl, h1, h2⟩; exact ⟨_, rfl, rfl, h1, h2⟩)) fun v5 W2 h5 => ?_
  obtain ⟨rfl, q2, ws5⟩ := h5
  have x2 : GW base gw w W2 := GW.trans x1 q2
  refine Qaf ?_
  refine hK4 _ _ ?_
  refine wp_seq_k fun K6 hK6 => ?_
  refine Qac ?_
  refine Qaa (.pointer (some ⟨gw, 0, none⟩)) 8 rfl kj kj ?_
  refine Qaa (.pointer (some ⟨g2, 32, none⟩)) 9 rfl kj kj ?_
  have r2_2 := (GW.row q2 r2_1 (by decide) (Ne.symm (Nat.ne_of_lt (Nat.lt_of_lt_of_le hgw b2))))
  refine Qaa (.int .i64 ep) 10 rfl kj (Qag 3 _ g2 32 67 _ (.int .i64 ep) _ r2_2 rfl kj (Qam [ints .u8 (grp)] [#[.int .i64 ep]] [#[.slice a_t ts.length c_t], ints .u8 (con), ints .u8 (tag), #[.int .i64 fr], ints .u8 (sig)] 32 ((Qad _ _).trans hrl) 0 _ rfl) kj) ?_
  refine Qaj (fun v W' => v = .tuple #[] ∧ GW base gw W2 W' ∧ WSt base gw (numS (rawS (s) grp) ep 4) W') 105 #[.pointer (some ⟨gw, 0, none⟩), .int .i64 ep, .int .i64 4] 11 rfl kj kj ((Qb0 base gw _ ep 4 _ (Nat.le_trans hbw x2.size) ws5 (by decide)).mono (by rintro e w' ⟨rfl, h1, h2⟩; exact ⟨_, rfl, rfl, h1, h2⟩)) fun v7 W3 h7 => ?_
  obtain ⟨rfl, q3, ws7⟩ := h7
  have x3 : GW base gw w W3 := GW.trans x2 q3
  refine Qaf ?_
  refine hK6 _ _ ?_
  refine wp_seq_k fun K8 hK8 => ?_
  refine Qac ?_
  refine Qaa (.pointer (some ⟨gw, 0, none⟩)) 12 rfl kj kj ?_
  refine Qaa (.pointer (some ⟨g2, 33, none⟩)) 13 rfl kj kj ?_
  have r2_3 := (GW.row q3 r2_2 (by decide) (Ne.symm (Nat.ne_of_lt (Nat.lt_of_lt_of_le hgw b2))))
  refine Qaa (.slice a_t ts.length c_t) 14 rfl kj (Qag 23 _ g2 33 67 _ (.slice a_t ts.length c_t) _ r2_3 rfl kj (Qam [ints .u8 (grp), #[.int .i64 ep]] [#[.slice a_t ts.length c_t]] [ints .u8 (con), ints .u8 (tag), #[.int .i64 fr], ints .u8 (sig)] 33 (by rw [Qab, Qab]; simp only [Array.size_append, cat, ((Qad _ _).trans hrl)]; rfl) 0 _ rfl) kj) ?_
  refine Qaj (fun v W' => v = .tuple #[] ∧ GW base gw W3 W' ∧ WSt base gw (Qc6 (numS (rawS (s) grp) ep 4) ts) W') 50 #[.pointer (some ⟨gw, 0, none⟩), .slice a_t ts.length c_t] 15 rfl kj kj ((QgN base gw _ ts _ _ _ (Nat.le_trans hbw x3.size) hbg ws7 htl hms (TrAt.gw htr x3 hbg)).mono (by rintro e w' ⟨rfl, h1, h2⟩; exact ⟨_, rfl, rfl, h1, h2⟩)) fun v9 W4 h9 => ?_
  obtain ⟨rfl, q4, ws9⟩ := h9
  have x4 : GW base gw w W4 := GW.trans x3 q4
  refine Qaf ?_
  refine hK8 _ _ ?_
  refine wp_seq_k fun K10 hK10 => ?_
  refine Qac ?_
  refine Qaa (.pointer (some ⟨gw, 0, none⟩)) 16 rfl kj kj ?_
  refine Qaa (.pointer (some ⟨g2, 34, none⟩)) 17 rfl kj kj ?_
  refine Qaa (.slice (some ⟨g2, 34, none⟩) 32 32) 18 rfl kj kj ?_
  have r2_4 := (GW.row q4 r2_3 (by decide) (Ne.symm (Nat.ne_of_lt (Nat.lt_of_lt_of_le hgw b2))))
  refine Qaj (fun v W' => v = .tuple #[] ∧ GW base gw W4 W' ∧ WSt base gw (rawS (Qc6 (numS (rawS (s) grp) ep 4) ts) con) W') 104 #[.pointer (some ⟨gw, 0, none⟩), .slice (some ⟨g2, 34, none⟩) 32 32] 19 rfl kj kj ((rawW base gw _ con _ _ (Nat.le_trans hbw x4.size) ws9 (by omega) hcb (fun W e => (QaM 34 hcl (ExtB.row e r2_4 (Ne.symm (Nat.ne_of_lt (Nat.lt_of_lt_of_le hgw b2)))) (fun i hi => QaH [ints .u8 (grp), #[.int .i64 ep], #[.slice a_t ts.length c_t]] [ints .u8 (tag), #[.int .i64 fr], ints .u8 (sig)] con 34 i (34 + i) (by rw [Qab, Qab, Qab]; simp only [Array.size_append, cat, ((Qad _ _).trans hrl)]; rfl) rfl (by rw [hcl]; exact hi)) (Qa1 (ExtB.row e r2_4 (Ne.symm (Nat.ne_of_lt (Nat.lt_of_lt_of_le hgw b2))))) (Nat.le_refl _) (by decide)))).mono (by rintro e w' ⟨rfl, h1, h2⟩; exact ⟨_, rfl, rfl, h1, h2⟩)) fun v11 W5 h11 => ?_
  obtain ⟨rfl, q5, ws11⟩ := h11
  have x5 : GW base gw w W5 := GW.trans x4 q5
  refine Qaf ?_
  refine hK10 _ _ ?_
  refine wp_seq_k fun K12 hK12 => ?_
  refine Qac ?_
  refine Qaa (.pointer (some ⟨gw, 0, none⟩)) 20 rfl kj kj ?_
  refine Qaa (.pointer (some ⟨g2, 66, none⟩)) 21 rfl kj kj ?_
  refine Qaa (.slice (some ⟨g2, 66, none⟩) 32 32) 22 rfl kj kj ?_
  have r2_5 := (GW.row q5 r2_4 (by decide) (Ne.symm (Nat.ne_of_lt (Nat.lt_of_lt_of_le hgw b2))))
  refine Qaj (fun v W' => v = .tuple #[] ∧ GW base gw W5 W' ∧ WSt base gw (rawS (rawS (Qc6 (numS (rawS (s) grp) ep 4) ts) con) tag) W') 104 #[.pointer (some ⟨gw, 0, none⟩), .slice (some ⟨g2, 66, none⟩) 32 32] 23 rfl kj kj ((rawW base gw _ tag _ _ (Nat.le_trans hbw x5.size) ws11 (by omega) hgb (fun W e => (QaM 66 hgl (ExtB.row e r2_5 (Ne.symm (Nat.ne_of_lt (Nat.lt_of_lt_of_le hgw b2)))) (fun i hi => QaH [ints .u8 (grp), #[.int .i64 ep], #[.slice a_t ts.length c_t], ints .u8 (con)] [#[.int .i64 fr], ints .u8 (sig)] tag 66 i (66 + i) (by rw [Qab, Qab, Qab, Qab]; simp only [Array.size_append, cat, ((Qad _ _).trans hcl), ((Qad _ _).trans hrl)]; rfl) rfl (by rw [hgl]; exact hi)) (Qa1 (ExtB.row e r2_5 (Ne.symm (Nat.ne_of_lt (Nat.lt_of_lt_of_le hgw b2))))) (Nat.le_refl _) (by decide)))).mono (by rintro e w' ⟨rfl, h1, h2⟩; exact ⟨_, rfl, rfl, h1, h2⟩)) fun v13 W6 h13 => ?_
  obtain ⟨rfl, q6, ws13⟩ := h13
  have x6 : GW base gw w W6 := GW.trans x5 q6
  refine Qaf ?_
  refine hK12 _ _ ?_
  refine wp_seq_k fun K14 hK14 => ?_
  refine Qac ?_
  refine Qaa (.pointer (some ⟨gw, 0, none⟩)) 24 rfl kj kj ?_
  refine Qaa (.pointer (some ⟨g2, 98, none⟩)) 25 rfl kj kj ?_
  have r2_6 := (GW.row q6 r2_5 (by decide) (Ne.symm (Nat.ne_of_lt (Nat.lt_of_lt_of_le hgw b2))))
  refine Qaa (.int .i64 fr) 26 rfl kj (Qag 3 _ g2 98 67 _ (.int .i64 fr) _ r2_6 rfl kj (Qam [ints .u8 (grp), #[.int .i64 ep], #[.slice a_t ts.length c_t], ints .u8 (con), ints .u8 (tag)] [#[.int .i64 fr]] [ints .u8 (sig)] 98 (by rw [Qab, Qab, Qab, Qab, Qab]; simp only [Array.size_append, cat, ((Qad _ _).trans hcl), ((Qad _ _).trans hgl), ((Qad _ _).trans hrl)]; rfl) 0 _ rfl) kj) ?_
  refine Qaj (fun v W' => v = .tuple #[] ∧ GW base gw W6 W' ∧ WSt base gw (Qbl (rawS (rawS (Qc6 (numS (rawS (s) grp) ep 4) ts) con) tag) fr) W') 106 #[.pointer (some ⟨gw, 0, none⟩), .int .i64 fr] 27 rfl kj kj ((QfS base gw _ fr _ (Nat.le_trans hbw x6.size) ws13).mono (by rintro e w' ⟨rfl, h1, h2⟩; exact ⟨_, rfl, rfl, h1, h2⟩)) fun v15 W7 h15 => ?_
  obtain ⟨rfl, q7, ws15⟩ := h15
  have x7 : GW base gw w W7 := GW.trans x6 q7
  refine Qaf ?_
  refine hK14 _ _ ?_
  refine Qac ?_
  refine Qaa (.pointer (some ⟨gw, 0, none⟩)) 28 rfl kj kj ?_
  refine Qaa (.pointer (some ⟨g2, 99, none⟩)) 29 rfl kj kj ?_
  refine Qaa (.slice (some ⟨g2, 99, none⟩) 64 64) 30 rfl kj kj ?_
  have r2_7 := (GW.row q7 r2_6 (by decide) (Ne.symm (Nat.ne_of_lt (Nat.lt_of_lt_of_le hgw b2))))
  refine Qaj (fun v W' => v = .tuple #[] ∧ GW base gw W7 W' ∧ WSt base gw (rawS (Qbl (rawS (rawS (Qc6 (numS (rawS (s) grp) ep 4) ts) con) tag) fr) sig) W') 104 #[.pointer (some ⟨gw, 0, none⟩), .slice (some ⟨g2, 99, none⟩) 64 64] 31 rfl kj kj ((rawW base gw _ sig _ _ (Nat.le_trans hbw x7.size) ws15 (by omega) hib (fun W e => (QaM 99 hil (ExtB.row e r2_7 (Ne.symm (Nat.ne_of_lt (Nat.lt_of_lt_of_le hgw b2)))) (fun i hi => QaH [ints .u8 (grp), #[.int .i64 ep], #[.slice a_t ts.length c_t], ints .u8 (con), ints .u8 (tag), #[.int .i64 fr]] [] sig 99 i (99 + i) (by rw [Qab, Qab, Qab, Qab, Qab, Qab]; simp only [Array.size_append, cat, ((Qad _ _).trans hcl), ((Qad _ _).trans hgl), ((Qad _ _).trans hrl)]; rfl) rfl (by rw [hil]; exact hi)) (Qa1 (ExtB.row e r2_7 (Ne.symm (Nat.ne_of_lt (Nat.lt_of_lt_of_le hgw b2))))) (Nat.le_refl _) (by decide)))).mono (by rintro e w' ⟨rfl, h1, h2⟩; exact ⟨_, rfl, rfl, h1, h2⟩)) fun v16 W8 h16 => ?_
  obtain ⟨rfl, q8, ws16⟩ := h16
  have x8 : GW base gw w W8 := GW.trans x7 q8
  refine Qaf ?_
  repeat (first | with_reducible refine goX1 ?_ | with_reducible refine goX2 ?_ | with_reducible refine goX3 ?_)
  exact (show bodyPost _ _ _ .normal _ _ from end0 rfl ⟨rfl, x8, ws16⟩)
set_option maxHeartbeats 4000000 in
theorem QeB (grp : List Int) (ep : Int) (ts : List NdV) (con tag : List Int) (fr : Int) (sig : List Int) (a_t : Option Addr) (c_t : Nat) (w : World) (hrl : grp.length = 32) (hrb : Qal grp) (hcl : con.length = 32) (hcb : Qal con) (hgl : tag.length = 32) (hgb : Qal tag) (hil : sig.length = 64) (hib : Qal sig) (htl : ts.length ≤ 1000000) (hms : ∀ i, i < ts.length → (ndi ts i).n.ms.length ≤ 1000000) (htr : TrAt w.heap.size w a_t ts) : Calls Try.prog 70 #[.agg (cat [ints .u8 (grp), #[.int .i64 ep], #[.slice a_t ts.length c_t], ints .u8 (con), ints .u8 (tag), #[.int .i64 fr], ints .u8 (sig)]), .func (.func 71) #[] #[]] w (Qb4 w (PutR w.heap.size (Qda (some []) grp ep ts con tag fr sig))) := by
 refine enter 22 [(0, .agg (cat [ints .u8 (grp), #[.int .i64 ep], #[.slice a_t ts.length c_t], ints .u8 (con), ints .u8 (tag), #[.int .i64 fr], ints .u8 (sig)])), (1, .func (.func 71) #[] #[])] Try.func70 rfl rfl kj rfl ?_
 refine wp_seq_k fun K1 hK1 => ?_
 refine Qac ?_
 refine Qaq (cat [ints .u8 (grp), #[.int .i64 ep], #[.slice a_t ts.length c_t], ints .u8 (con), ints .u8 (tag), #[.int .i64 fr], ints .u8 (sig)]) 67 2 rfl kj kj fun g2 W1 l2 e1 r2_1 => ?_
 have x1 : Ext w W1 := Ext.tr (Rely.Ext.refl w) e1
 have b2 : w.heap.size ≤ g2 := Nat.le_trans (Rely.Ext.refl w).size l2
 refine Qaa (.slice none 0 0) 4 rfl kj kj ?_
 refine Qaa (.nilIface) 5 rfl kj kj ?_
 refine Qaf ?_
 refine hK1 _ _ ?_
 refine wp_seq_k fun K3 hK3 => ?_
 refine Qac ?_
 refine Qaa (.agg (cat [#[.slice none 0 0], #[.bool false]])) 7 rfl kj kj ?_
 refine Qaq (cat [#[.slice none 0 0], #[.bool false]]) 174 8 rfl kj kj fun g4 W2 l4 e2 r4_2 => ?_
 have x2 : Ext w W2 := Ext.tr x1 e2
 have b4 : w.heap.size ≤ g4 := Nat.le_trans x1.size l4
 refine Qaa (.pointer (some ⟨g4, 0, none⟩)) 6 rfl kj kj ?_
 refine Qaf ?_
 refine hK3 _ _ ?_
 refine wp_seq_k fun K5 hK5 => ?_
 refine Qac ?_
 refine Qaa (.func (.func 71) #[] #[]) 9 rfl kj kj ?_
 refine Qaa (.pointer (some ⟨g4, 0, none⟩)) 10 rfl kj kj ?_
 have r2_2 := (Qas r2_1 e2)
 refine Qaa (.agg (cat [ints .u8 (grp), #[.int .i64 ep], #[.slice a_t ts.length c_t], ints .u8 (con), ints .u8 (tag), #[.int .i64 fr], ints .u8 (sig)])) 11 rfl kj (Qaz 67 _ g2 67 _ _ r2_2 rfl kj kj (isz (n := 163) kj (by rw [Qab, Qab, Qab, Qab, Qab, Qab, Qab]; simp only [Array.size_append, cat, ((Qad _ _).trans hcl), ((Qad _ _).trans hgl), ((Qad _ _).trans hil), ((Qad _ _).trans hrl)]; rfl))) ?_
 refine Qaj (fun v W' => v = .tuple #[] ∧ GW W1.heap.size g4 W2 W' ∧ WSt W1.heap.size g4 (Qda (some []) grp ep ts con tag fr sig) W') 71 #[.pointer (some ⟨g4, 0, none⟩), .agg (cat [ints .u8 (grp), #[.int .i64 ep], #[.slice a_t ts.length c_t], ints .u8 (con), ints .u8 (tag), #[.int .i64 fr], ints .u8 (sig)])] 12 rfl kj kj ((QgY W1.heap.size g4 (some []) grp ep ts con tag fr sig _ _ _ (Nat.le_trans (Nat.le_refl _) e2.size) l4 ⟨_, [], false, r4_2, QbP .u8 5 _ _, Nat.zero_le _, (fun x hx => by cases hx), rfl⟩ hrl hrb hcl hcb hgl hgb hil hib htl hms (TrAt.more (TrAt.ext htr x2) (Nat.le_trans (Nat.le_refl _) e1.size))).mono (by rintro e w' ⟨rfl, h1, h2⟩; exact ⟨_, rfl, rfl, h1, h2⟩)) fun v6 W3 h6 => ?_
 obtain ⟨rfl, q3, u, xs, bad, rb3, ho, -, -, hS⟩ := h6
 have x3 : Ext w W3 := GW.back x2 q3 (Nat.le_trans (Nat.le_refl _) e1.size) b4
 obtain ⟨au, cu, rfl, -⟩ := id (OwnN.rd ho)
 refine Qaf ?_
 refine hK5 _ _ ?_
 refine wp_seq_k fun K7 hK7 => ?_
 refine wp_seq_k fun K8 hK8 => ?_
 refine Qac ?_
 refine Qaa (.pointer (some ⟨g4, 0, none⟩)) 13 rfl kj kj ?_
 refine Qaa (.pointer (some ⟨g4, 0, none⟩)) 14 rfl kj kj ?_
 refine Qaa (.pointer (some ⟨g4, 1, none⟩)) 15 rfl kj kj ?_
 refine Qaa (.bool bad) 16 rfl kj (Qag 4 _ g4 1 174 _ (.bool bad) _ rb3 rfl kj kj kj) ?_
 refine Qaf ?_
 refine hK8 _ _ ?_
 refine Qa2 (t := bad) kj (fun c9 => ?_) (fun c9 => ?_)
 ·skip
  refine wp_seq_k fun K10 hK10 => ?_
  refine Qac ?_
  refine Qaa (.iface 102 (.int .i64 3)) 17 rfl kj kj ?_
  refine Qaa (.slice none 0 0) 4 rfl kj kj ?_
  refine Qaa (.iface 102 (.int .i64 3)) 5 rfl kj kj ?_
  refine Qaf ?_
  refine hK10 _ _ ?_
  refine wp_ret ?_
  repeat (first | with_reducible refine goR1 ?_ | with_reducible refine goR2 ?_)
  exact (show bodyPost _ _ _ .ret _ _ from ret2 (.slice none 0 0) (.iface 102 (.int .i64 3)) rfl (Qar kj) (Qar kj) ⟨_, rfl, x3, by rw [hS, c9]; exact rfl⟩)
 ·skip
  refine wp_skip ?_
  refine hK7 _ _ ?_
  refine wp_seq_k fun K11 hK11 => ?_
  refine Qac ?_
  refine Qaa (.pointer (some ⟨g4, 0, none⟩)) 18 rfl kj kj ?_
  refine Qaa (.pointer (some ⟨g4, 0, none⟩)) 19 rfl kj kj ?_
  refine Qaa (.pointer (some ⟨g4, 0, none⟩)) 20 rfl kj kj ?_
  refine Qaa (.slice au xs.length cu) 21 rfl kj (Qag 26 _ g4 0 174 _ (.slice au xs.length cu) _ rb3 rfl kj kj kj) ?_
  refine Qaa (.slice au xs.length cu) 4 rfl kj kj ?_
  refine Qaa (.nilIface) 5 rfl kj kj ?_
  refine Qaf ?_
  refine hK11 _ _ ?_
  refine wp_ret ?_
  repeat (first | with_reducible refine goR1 ?_ | with_reducible refine goR2 ?_)
  exact (show bodyPost _ _ _ .ret _ _ from ret2 (.slice au xs.length cu) (.nilIface) rfl (Qar kj) (Qar kj) ⟨_, rfl, x3, by rw [hS, c9]; exact ⟨_, rfl, OwnN.base (Nat.le_trans (Nat.le_refl _) e1.size) ho⟩⟩)
set_option maxHeartbeats 4000000 in
theorem QeV (grp : List Int) (ep : Int) (ts : List NdV) (con tag : List Int) (fr : Int) (sig : List Int) (a_t : Option Addr) (c_t : Nat) (w : World) (hrl : grp.length = 32) (hrb : Qal grp) (hcl : con.length = 32) (hcb : Qal con) (hgl : tag.length = 32) (hgb : Qal tag) (hil : sig.length = 64) (hib : Qal sig) (htl : ts.length ≤ 1000000) (hms : ∀ i, i < ts.length → (ndi ts i).n.ms.length ≤ 1000000) (htr : TrAt w.heap.size w a_t ts) (hS : Qda (some []) grp ep ts con tag fr sig = none) : Calls Try.prog 28 #[.agg (cat [ints .u8 (grp), #[.int .i64 ep], #[.slice a_t ts.length c_t], ints .u8 (con), ints .u8 (tag), #[.int .i64 fr], ints .u8 (sig)])] w (Qb4 w (PutR w.heap.size (none))) := by
  refine enter 8 [(0, .agg (cat [ints .u8 (grp), #[.int .i64 ep], #[.slice a_t ts.length c_t], ints .u8 (con), ints .u8 (tag), #[.int .i64 fr], ints .u8 (sig)]))] Try.func28 rfl rfl kj rfl ?_
  refine wp_seq_k fun K1 hK1 => ?_
  refine Qac ?_
  refine Qaq (cat [ints .u8 (grp), #[.int .i64 ep], #[.slice a_t ts.length c_t], ints .u8 (con), ints .u8 (tag), #[.int .i64 fr], ints .u8 (sig)]) 67 1 rfl kj kj fun g2 W1 l2 e1 r2_1 => ?_
  have x1 : Ext w W1 := Ext.tr (Rely.Ext.refl w) e1
  have b2 : w.heap.size ≤ g2 := Nat.le_trans (Rely.Ext.refl w).size l2
  refine Qaa (.slice none 0 0) 2 rfl kj kj ?_
  refine Qaa (.nilIface) 3 rfl kj kj ?_
  refine Qaf ?_
  refine hK1 _ _ ?_
  refine wp_seq_k fun K3 hK3 => ?_
  refine Qac ?_
  refine Qaa (.agg (cat [ints .u8 (grp), #[.int .i64 ep], #[.slice a_t ts.length c_t], ints .u8 (con), ints .u8 (tag), #[.int .i64 fr], ints .u8 (sig)])) 4 rfl kj (Qaz 67 _ g2 67 _ _ r2_1 rfl kj kj (isz (n := 163) kj (by rw [Qab, Qab, Qab, Qab, Qab, Qab, Qab]; simp only [Array.size_append, cat, ((Qad _ _).trans hcl), ((Qad _ _).trans hgl), ((Qad _ _).trans hil), ((Qad _ _).trans hrl)]; rfl))) ?_
  refine Qaj (fun v W' => (PutR W1.heap.size (Qda (some []) grp ep ts con tag fr sig)) v W' ∧ Ext W1 W') 70 #[.agg (cat [ints .u8 (grp), #[.int .i64 ep], #[.slice a_t ts.length c_t], ints .u8 (con), ints .u8 (tag), #[.int .i64 fr], ints .u8 (sig)]), .func (.func 71) #[] #[]] 5 rfl kj kj ((QeB grp ep ts con tag fr sig _ _ _ hrl hrb hcl hcb hgl hgb hil hib htl hms (TrAt.here (TrAt.ext htr x1))).mono (by rintro e w' ⟨v, rfl, e1, hv⟩; exact ⟨v, rfl, hv, e1⟩)) fun vv4 W2 hh4 => ?_
  obtain ⟨hv4, e2⟩ := hh4
  have x2 : Ext w W2 := Ext.tr x1 e2
  rw [hS] at hv4
  have hv2 : vv4 = .tuple #[.slice none 0 0, .iface 102 (.int .i64 3)] := hv4
  subst hv2
  refine Qaa (.slice none 0 0) 6 rfl kj kj ?_
  refine Qaa (.iface 102 (.int .i64 3)) 7 rfl kj kj ?_
  refine Qaa (.slice none 0 0) 2 rfl kj kj ?_
  refine Qaa (.iface 102 (.int .i64 3)) 3 rfl kj kj ?_
  refine Qaf ?_
  refine hK3 _ _ ?_
  refine wp_ret ?_
  repeat (first | with_reducible refine goR1 ?_ | with_reducible refine goR2 ?_)
  exact (show bodyPost _ _ _ .ret _ _ from ret2 (.slice none 0 0) (.iface 102 (.int .i64 3)) rfl (Qar kj) (Qar kj) ⟨_, rfl, x2, rfl⟩)
set_option maxHeartbeats 4000000 in
theorem QeU (grp : List Int) (ep : Int) (ts : List NdV) (con tag : List Int) (fr : Int) (sig : List Int) (a_t : Option Addr) (c_t : Nat) (w : World) (hrl : grp.length = 32) (hrb : Qal grp) (hcl : con.length = 32) (hcb : Qal con) (hgl : tag.length = 32) (hgb : Qal tag) (hil : sig.length = 64) (hib : Qal sig) (htl : ts.length ≤ 1000000) (hms : ∀ i, i < ts.length → (ndi ts i).n.ms.length ≤ 1000000) (htr : TrAt w.heap.size w a_t ts) (xs : List Int) (hS : Qda (some []) grp ep ts con tag fr sig = some xs) : Calls Try.prog 28 #[.agg (cat [ints .u8 (grp), #[.int .i64 ep], #[.slice a_t ts.length c_t], ints .u8 (con), ints .u8 (tag), #[.int .i64 fr], ints .u8 (sig)])] w (Qb4 w (PutR w.heap.size (some xs))) := by
  refine enter 8 [(0, .agg (cat [ints .u8 (grp), #[.int .i64 ep], #[.slice a_t ts.length c_t], ints .u8 (con), ints .u8 (tag), #[.int .i64 fr], ints .u8 (sig)]))] Try.func28 rfl rfl kj rfl ?_
  refine wp_seq_k fun K1 hK1 => ?_
  refine Qac ?_
  refine Qaq (cat [ints .u8 (grp), #[.int .i64 ep], #[.slice a_t ts.length c_t], ints .u8 (con), ints .u8 (tag), #[.int .i64 fr], ints .u8 (sig)]) 67 1 rfl kj kj fun g2 W1 l2 e1 r2_1 => ?_
  have x1 : Ext w W1 := Ext.tr (Rely.Ext.refl w) e1
  have b2 : w.heap.size ≤ g2 := Nat.le_trans (Rely.Ext.refl w).size l2
  refine Qaa (.slice none 0 0) 2 rfl kj kj ?_
  refine Qaa (.nilIface) 3 rfl kj kj ?_
  refine Qaf ?_
  refine hK1 _ _ ?_
  refine wp_seq_k fun K3 hK3 => ?_
  refine Qac ?_
  refine Qaa (.agg (cat [ints .u8 (grp), #[.int .i64 ep], #[.slice a_t ts.length c_t], ints .u8 (con), ints .u8 (tag), #[.int .i64 fr], ints .u8 (sig)])) 4 rfl kj (Qaz 67 _ g2 67 _ _ r2_1 rfl kj kj (isz (n := 163) kj (by rw [Qab, Qab, Qab, Qab, Qab, Qab, Qab]; simp only [Array.size_append, cat, ((Qad _ _).trans hcl), ((Qad _ _).trans hgl), ((Qad _ _).trans hil), ((Qad _ _).trans hrl)]; rfl))) ?_
  refine Qaj (fun v W' => (PutR W1.heap.size (Qda (some []) grp ep ts con tag fr sig)) v W' ∧ Ext W1 W') 70 #[.agg (cat [ints .u8 (grp), #[.int .i64 ep], #[.slice a_t ts.length c_t], ints .u8 (con), ints .u8 (tag), #[.int .i64 fr], ints .u8 (sig)]), .func (.func 71) #[] #[]] 5 rfl kj kj ((QeB grp ep ts con tag fr sig _ _ _ hrl hrb hcl hcb hgl hgb hil hib htl hms (TrAt.here (TrAt.ext htr x1))).mono (by rintro e w' ⟨v, rfl, e1, hv⟩; exact ⟨v, rfl, hv, e1⟩)) fun vv4 W2 hh4 => ?_
  obtain ⟨hv4, e2⟩ := hh4
  have x2 : Ext w W2 := Ext.tr x1 e2
  rw [hS] at hv4
  obtain ⟨u5_, rfl, hu5_⟩ := hv4
  obtain ⟨a5_, c5_, rfl, -⟩ := id (OwnN.rd hu5_)
  refine Qaa (.slice a5_ ((xs).length) c5_) 6 rfl kj kj ?_
  refine Qaa (.nilIface) 7 rfl kj kj ?_
  refine Qaa (.slice a5_ ((xs).length) c5_) 2 rfl kj kj ?_
  refine Qaa (.nilIface) 3 rfl kj kj ?_
  refine Qaf ?_
  refine hK3 _ _ ?_
  refine wp_ret ?_
  repeat (first | with_reducible refine goR1 ?_ | with_reducible refine goR2 ?_)
  exact (show bodyPost _ _ _ .ret _ _ from ret2 (.slice a5_ ((xs).length) c5_) (.nilIface) rfl (Qar kj) (Qar kj) ⟨_, rfl, x2, _, rfl, OwnN.base x1.size hu5_⟩)
end Go.Proofs.Ytfelfmchachljaa.Wr
end
section
namespace Go.Proofs.Ytfelfmchachljaa.Wr
open Go Go.RowKit
open Rely Auto Own Sha
set_option linter.unusedVariables false
set_option linter.unusedSimpArgs false
open Wk
def QbG (ep : Int) (ts : List NdV) (fr : Int) : Bool := hgB ep fr && Qbe ts
def QbS (grp : List Int) (ep : Int) (ts : List NdV) (con tag : List Int) (fr : Int) (sig : List Int) : List Int := grp ++ beV ep 4 ++ Qbk ts ++ con ++ tag ++ [byV fr 0] ++ sig
def refI (grp : List Int) (ep : Int) (ts : List NdV) (con tag : List Int) (fr : Int) (sig : List Int) : Option (List Int) := if QbG ep ts fr = true then some (QbS grp ep ts con tag fr sig) else none
theorem Qc3 (grp : List Int) (ep : Int) (ts : List NdV) (con tag : List Int) (fr : Int) (sig : List Int) (hrl : grp.length = 32) (hcl : con.length = 32) (hgl : tag.length = 32) (hil : sig.length = 64) (hok : ∀ n ∈ ts, NdOk n.n) (h : QbG ep ts fr = true) : (QbS grp ep ts con tag fr sig).length ≤ 9000 ∧ 0 < (QbS grp ep ts con tag fr sig).length := by
  unfold QbG at h
  rw [Bool.and_eq_true] at h
  have := Qdk ts hok h.2
  unfold QbS
  simp only [List.length_append, QaG, hrl, hcl, hgl, hil, List.length_cons, List.length_nil]
  omega
set_option maxHeartbeats 4000000 in
set_option maxRecDepth 100000 in
theorem QfH (grp : List Int) (ep : Int) (ts : List NdV) (con tag : List Int) (fr : Int) (sig : List Int) (a_t : Option Addr) (c_t : Nat) (w : World) (hrl : grp.length = 32) (hrb : Qal grp) (hcl : con.length = 32) (hcb : Qal con) (hgl : tag.length = 32) (hgb : Qal tag) (hil : sig.length = 64) (hib : Qal sig) (htl : ts.length ≤ 1000000) (hms : ∀ i, i < ts.length → (ndi ts i).n.ms.length ≤ 1000000) (hok : ∀ n ∈ ts, NdOk n.n) (htr : TrAt w.heap.size w a_t ts) (h0 : hgB ep fr = false) : Calls Try.prog 29 #[.agg (cat [ints .u8 (grp), #[.int .i64 ep], #[.slice a_t ts.length c_t], ints .u8 (con), ints .u8 (tag), #[.int .i64 fr], ints .u8 (sig)])] w (Qb4 w (Qdw w.heap.size (none))) := by
  refine enter 48 [(0, .agg (cat [ints .u8 (grp), #[.int .i64 ep], #[.slice a_t ts.length c_t], ints .u8 (con), ints .u8 (tag), #[.int .i64 fr], ints .u8 (sig)]))] Try.func29 rfl rfl kj rfl ?_
  refine wp_seq_k fun K1 hK1 => ?_
  refine Qac ?_
  refine Qaq (cat [ints .u8 (grp), #[.int .i64 ep], #[.slice a_t ts.length c_t], ints .u8 (con), ints .u8 (tag), #[.int .i64 fr], ints .u8 (sig)]) 67 1 rfl kj kj fun g2 W1 l2 e1 r2_1 => ?_
  have x1 : Ext w W1 := Ext.tr (Rely.Ext.refl w) e1
  have b2 : w.heap.size ≤ g2 := Nat.le_trans (Rely.Ext.refl w).size l2
  refine Qaa (.slice none 0 0) 2 rfl kj kj ?_
  refine Qaa (.bool false) 3 rfl kj kj ?_
  refine Qaf ?_
  refine hK1 _ _ ?_
  refine wp_seq_k fun K3 hK3 => ?_
  refine wp_seq_k fun K4 hK4 => ?_
  refine Qac ?_
  refine Qaa (.pointer (some ⟨g2, 32, none⟩)) 5 rfl kj kj ?_
  refine Qaa (.int .i64 ep) 6 rfl kj (Qag 3 _ g2 32 67 _ (.int .i64 ep) _ r2_1 rfl kj (Qam [ints .u8 (grp)] [#[.int .i64 ep]] [#[.slice a_t ts.length c_t], ints .u8 (con), ints .u8 (tag), #[.int .i64 fr], ints .u8 (sig)] 32 ((Qad _ _).trans hrl) 0 _ rfl) kj) ?_
  refine Qaa (.pointer (some ⟨g2, 98, none⟩)) 7 rfl kj kj ?_
  refine Qaa (.int .i64 fr) 8 rfl kj (Qag 3 _ g2 98 67 _ (.int .i64 fr) _ r2_1 rfl kj (Qam [ints .u8 (grp), #[.int .i64 ep], #[.slice a_t ts.length c_t], ints .u8 (con), ints .u8 (tag)] [#[.int .i64 fr]] [ints .u8 (sig)] 98 (by rw [Qab, Qab, Qab, Qab, Qab]; simp only [Array.size_append, cat, ((Qad _ _).trans hcl), ((Qad _ _).trans hgl), ((Qad _ _).trans hrl)]; rfl) 0 _ rfl) kj) ?_
  refine Qay (.bool false) 64 #[.int .i64 ep, .int .i64 fr] 9 rfl kj kj ((hgE ep fr _ h0) _) fun W2 e2 => ?_
  have x2 : Ext w W2 := Ext.tr x1 e2
  refine Qaa (.bool true) 10 rfl kj kj ?_
  refine Qaa (.bool true) 11 rfl kj kj ?_
  refine Qah 12 rfl kj ?_
  refine Qah 13 rfl kj ?_
  refine Qah 14 rfl kj ?_
  refine Qah 15 rfl kj ?_
  refine Qaa (.bool true) 16 rfl kj kj ?_
  refine Qaf ?_
  refine hK4 _ _ ?_
  refine cond_true kj ?_
  refine wp_seq_k fun K5 hK5 => ?_
  refine Qac ?_
  refine Qaa (.slice none 0 0) 2 rfl kj kj ?_
  refine Qaa (.bool false) 3 rfl kj kj ?_
  refine Qaf ?_
  refine hK5 _ _ ?_
  refine wp_ret ?_
  repeat (first | with_reducible refine goR1 ?_ | with_reducible refine goR2 ?_)
  exact (show bodyPost _ _ _ .ret _ _ from ret2 (.slice none 0 0) (.bool false) rfl (Qar kj) (Qar kj) ⟨_, rfl, x2, rfl⟩)
set_option maxHeartbeats 4000000 in
set_option maxRecDepth 100000 in
theorem QfG (grp : List Int) (ep : Int) (ts : List NdV) (con tag : List Int) (fr : Int) (sig : List Int) (a_t : Option Addr) (c_t : Nat) (w : World) (hrl : grp.length = 32) (hrb : Qal grp) (hcl : con.length = 32) (hcb : Qal con) (hgl : tag.length = 32) (hgb : Qal tag) (hil : sig.length = 64) (hib : Qal sig) (htl : ts.length ≤ 1000000) (hms : ∀ i, i < ts.length → (ndi ts i).n.ms.length ≤ 1000000) (hok : ∀ n ∈ ts, NdOk n.n) (htr : TrAt w.heap.size w a_t ts) (h0 : hgB ep fr = true) (h1 : Qbe ts = false) : Calls Try.prog 29 #[.agg (cat [ints .u8 (grp), #[.int .i64 ep], #[.slice a_t ts.length c_t], ints .u8 (con), ints .u8 (tag), #[.int .i64 fr], ints .u8 (sig)])] w (Qb4 w (Qdw w.heap.size (none))) := by
  refine enter 48 [(0, .agg (cat [ints .u8 (grp), #[.int .i64 ep], #[.slice a_t ts.length c_t], ints .u8 (con), ints .u8 (tag), #[.int .i64 fr], ints .u8 (sig)]))] Try.func29 rfl rfl kj rfl ?_
  refine wp_seq_k fun K1 hK1 => ?_
  refine Qac ?_
  refine Qaq (cat [ints .u8 (grp), #[.int .i64 ep], #[.slice a_t ts.length c_t], ints .u8 (con), ints .u8 (tag), #[.int .i64 fr], ints .u8 (sig)]) 67 1 rfl kj kj fun g2 W1 l2 e1 r2_1 => ?_
  have x1 : Ext w W1 := Ext.tr (Rely.Ext.refl w) e1
  have b2 : w.heap.size ≤ g2 := Nat.le_trans (Rely.Ext.refl w).size l2
  refine Qaa (.slice none 0 0) 2 rfl kj kj ?_
  refine Qaa (.bool false) 3 rfl kj kj ?_
  refine Qaf ?_
  refine hK1 _ _ ?_
  refine wp_seq_k fun K3 hK3 => ?_
  refine wp_seq_k fun K4 hK4 => ?_
  refine Qac ?_
  refine Qaa (.pointer (some ⟨g2, 32, none⟩)) 5 rfl kj kj ?_
  refine Qaa (.int .i64 ep) 6 rfl kj (Qag 3 _ g2 32 67 _ (.int .i64 ep) _ r2_1 rfl kj (Qam [ints .u8 (grp)] [#[.int .i64 ep]] [#[.slice a_t ts.length c_t], ints .u8 (con), ints .u8 (tag), #[.int .i64 fr], ints .u8 (sig)] 32 ((Qad _ _).trans hrl) 0 _ rfl) kj) ?_
  refine Qaa (.pointer (some ⟨g2, 98, none⟩)) 7 rfl kj kj ?_
  refine Qaa (.int .i64 fr) 8 rfl kj (Qag 3 _ g2 98 67 _ (.int .i64 fr) _ r2_1 rfl kj (Qam [ints .u8 (grp), #[.int .i64 ep], #[.slice a_t ts.length c_t], ints .u8 (con), ints .u8 (tag)] [#[.int .i64 fr]] [ints .u8 (sig)] 98 (by rw [Qab, Qab, Qab, Qab, Qab]; simp only [Array.size_append, cat, ((Qad _ _).trans hcl), ((Qad _ _).trans hgl), ((Qad _ _).trans hrl)]; rfl) 0 _ rfl) kj) ?_
  refine Qay (.bool true) 64 #[.int .i64 ep, .int .i64 fr] 9 rfl kj kj ((hgE ep fr _ h0) _) fun W2 e2 => ?_
  have x2 : Ext w W2 := Ext.tr x1 e2
  refine Qaa (.bool false) 10 rfl kj kj ?_
  refine Qaa (.bool false) 11 rfl kj kj ?_
  refine Qaa (.pointer (some ⟨g2, 33, none⟩)) 12 rfl kj kj ?_
  have r2_2 := (Qas r2_1 e2)
  refine Qaa (.slice a_t ts.length c_t) 13 rfl kj (Qag 23 _ g2 33 67 _ (.slice a_t ts.length c_t) _ r2_2 rfl kj (Qam [ints .u8 (grp), #[.int .i64 ep]] [#[.slice a_t ts.length c_t]] [ints .u8 (con), ints .u8 (tag), #[.int .i64 fr], ints .u8 (sig)] 33 (by rw [Qab, Qab]; simp only [Array.size_append, cat, ((Qad _ _).trans hrl)]; rfl) 0 _ rfl) kj) ?_
  refine Qay (.bool false) 51 #[.slice a_t ts.length c_t] 14 rfl kj kj (Qe7 ts _ _ _ h1 _ htl (TrAt.here (TrAt.ext htr x2))) fun W3 e3 => ?_
  have x3 : Ext w W3 := Ext.tr x2 e3
  refine Qaa (.bool true) 15 rfl kj kj ?_
  refine Qaa (.bool true) 16 rfl kj kj ?_
  refine Qaf ?_
  refine hK4 _ _ ?_
  refine cond_true kj ?_
  refine wp_seq_k fun K5 hK5 => ?_
  refine Qac ?_
  refine Qaa (.slice none 0 0) 2 rfl kj kj ?_
  refine Qaa (.bool false) 3 rfl kj kj ?_
  refine Qaf ?_
  refine hK5 _ _ ?_
  refine wp_ret ?_
  repeat (first | with_reducible refine goR1 ?_ | with_reducible refine goR2 ?_)
  exact (show bodyPost _ _ _ .ret _ _ from ret2 (.slice none 0 0) (.bool false) rfl (Qar kj) (Qar kj) ⟨_, rfl, x3, rfl⟩)
set_option maxHeartbeats 4000000 in
set_option maxRecDepth 100000 in
theorem QfF (grp : List Int) (ep : Int) (ts : List NdV) (con tag : List Int) (fr : Int) (sig : List Int) (a_t : Option Addr) (c_t : Nat) (w : World) (hrl : grp.length = 32) (hrb : Qal grp) (hcl : con.length = 32) (hcb : Qal con) (hgl : tag.length = 32) (hgb : Qal tag) (hil : sig.length = 64) (hib : Qal sig) (htl : ts.length ≤ 1000000) (hms : ∀ i, i < ts.length → (ndi ts i).n.ms.length ≤ 1000000) (hok : ∀ n ∈ ts, NdOk n.n) (htr : TrAt w.heap.size w a_t ts) (h0 : hgB ep fr = true) (h1 : Qbe ts = true) : Calls Try.prog 29 #[.agg (cat [ints .u8 (grp), #[.int .i64 ep], #[.slice a_t ts.length c_t], ints .u8 (con), ints .u8 (tag), #[.int .i64 fr], ints .u8 (sig)])] w (Qb4 w (Qdw w.heap.size (some (QbS grp ep ts con tag fr sig)))) := by
  have hsz : ts.length ≤ 63 := by have h9 := h1; unfold Qbe at h9; rw [Bool.and_eq_true] at h9; exact QcM h9.1
  have hep := QbX (show inB ep 4294967295 = true by unfold hgB at h0; simp only [Bool.and_eq_true] at h0; exact h0.1)
  have htb := Qdk ts hok h1
  have hX : [] ++ grp ++ beV ep 4 ++ Qbk ts ++ con ++ tag ++ [byV fr 0] ++ sig = QbS grp ep ts con tag fr sig := by unfold QbS; rw [List.nil_append]
  have hf : ([] ++ grp ++ beV ep 4 ++ Qbk ts ++ con ++ tag ++ [byV fr 0] ++ sig).length ≤ 65536 := by rw [hX]; have := (Qc3 grp ep ts con tag fr sig hrl hcl hgl hil hok (by unfold QbG; rw [h0, h1]; rfl)).1; omega
  refine enter 48 [(0, .agg (cat [ints .u8 (grp), #[.int .i64 ep], #[.slice a_t ts.length c_t], ints .u8 (con), ints .u8 (tag), #[.int .i64 fr], ints .u8 (sig)]))] Try.func29 rfl rfl kj rfl ?_
  refine wp_seq_k fun K1 hK1 => ?_
  refine Qac ?_
  refine Qaq (cat [ints .u8 (grp), #[.int .i64 ep], #[.slice a_t ts.length c_t], ints .u8 (con), ints .u8 (tag), #[.int .i64 fr], ints .u8 (sig)]) 67 1 rfl kj kj fun g2 W1 l2 e1 r2_1 => ?_
  have x1 : Ext w W1 := Ext.tr (Rely.Ext.refl w) e1
  have b2 : w.heap.size ≤ g2 := Nat.le_trans (Rely.Ext.refl w).size l2
  refine Qaa (.slice none 0 0) 2 rfl kj kj ?_
  refine Qaa (.bool false) 3 rfl kj kj ?_
  refine Qaf ?_
  refine hK1 _ _ ?_
  refine wp_seq_k fun K3 hK3 => ?_
  refine wp_seq_k fun K4 hK4 => ?_
  refine Qac ?_
  refine Qaa (.pointer (some ⟨g2, 32, none⟩)) 5 rfl kj kj ?_
  refine Qaa (.int .i64 ep) 6 rfl kj (Qag 3 _ g2 32 67 _ (.int .i64 ep) _ r2_1 rfl kj (Qam [ints .u8 (grp)] [#[.int .i64 ep]] [#[.slice a_t ts.length c_t], ints .u8 (con), ints .u8 (tag), #[.int .i64 fr], ints .u8 (sig)] 32 ((Qad _ _).trans hrl) 0 _ rfl) kj) ?_
  refine Qaa (.pointer (some ⟨g2, 98, none⟩)) 7 rfl kj kj ?_
  refine Qaa (.int .i64 fr) 8 rfl kj (Qag 3 _ g2 98 67 _ (.int .i64 fr) _ r2_1 rfl kj (Qam [ints .u8 (grp), #[.int .i64 ep], #[.slice a_t ts.length c_t], ints .u8 (con), ints .u8 (tag)] [#[.int .i64 fr]] [ints .u8 (sig)] 98 (by rw [Qab, Qab, Qab, Qab, Qab]; simp only [Array.size_append, cat, ((Qad _ _).trans hcl), ((Qad _ _).trans hgl), ((Qad _ _).trans hrl)]; rfl) 0 _ rfl) kj) ?_
  refine Qay (.bool true) 64 #[.int .i64 ep, .int .i64 fr] 9 rfl kj kj ((hgE ep fr _ h0) _) fun W2 e2 => ?_
  have x2 : Ext w W2 := Ext.tr x1 e2
  refine Qaa (.bool false) 10 rfl kj kj ?_
  refine Qaa (.bool false) 11 rfl kj kj ?_
  refine Qaa (.pointer (some ⟨g2, 33, none⟩)) 12 rfl kj kj ?_
  have r2_2 := (Qas r2_1 e2)
  refine Qaa (.slice a_t ts.length c_t) 13 rfl kj (Qag 23 _ g2 33 67 _ (.slice a_t ts.length c_t) _ r2_2 rfl kj (Qam [ints .u8 (grp), #[.int .i64 ep]] [#[.slice a_t ts.length c_t]] [ints .u8 (con), ints .u8 (tag), #[.int .i64 fr], ints .u8 (sig)] 33 (by rw [Qab, Qab]; simp only [Array.size_append, cat, ((Qad _ _).trans hrl)]; rfl) 0 _ rfl) kj) ?_
  refine Qay (.bool true) 51 #[.slice a_t ts.length c_t] 14 rfl kj kj (Qe7 ts _ _ _ h1 _ htl (TrAt.here (TrAt.ext htr x2))) fun W3 e3 => ?_
  have x3 : Ext w W3 := Ext.tr x2 e3
  refine Qaa (.bool false) 15 rfl kj kj ?_
  refine Qaa (.bool false) 16 rfl kj kj ?_
  refine Qaf ?_
  refine hK4 _ _ ?_
  refine cond_false kj ?_
  refine wp_skip ?_
  refine hK3 _ _ ?_
  refine wp_seq_k fun K5 hK5 => ?_
  refine QaY (Ext W3) kj fun W4 e4 => ⟨Rely.Ext.trans (Rely.Ext.refl W3) e4, ?_⟩
  have x4 : Ext w W4 := Ext.tr x3 e4
  refine Qao 1 (.pointer (some ⟨g2, 0, none⟩)) 18 rfl rfl kj kj (fun _ _ _ h => h) (fun W hR => by kernel_rfl) ?_
  refine Qao 2 (.slice (some ⟨g2, 0, none⟩) 32 32) 19 rfl rfl kj kj (fun _ _ _ h => h) (fun W hR => by kernel_rfl) ?_
  refine Qao 4 (.pointer (some ⟨g2, 32, none⟩)) 21 rfl rfl kj kj (fun _ _ _ h => h) (fun W hR => by kernel_rfl) ?_
  have r2_3 := (Qas r2_2 e3)
  refine Qao 5 (.int .i64 ep) 22 rfl rfl kj kj (fun _ _ _ h => h) (fun W hR => (Qag 3 _ g2 32 67 _ (.int .i64 ep) _ (Qas r2_3 hR) rfl kj (Qam [ints .u8 (grp)] [#[.int .i64 ep]] [#[.slice a_t ts.length c_t], ints .u8 (con), ints .u8 (tag), #[.int .i64 fr], ints .u8 (sig)] 32 ((Qad _ _).trans hrl) 0 _ rfl) kj)) ?_
  refine QaN 0 kj ?_
  have y3_4 : Ext W3 W4 := (Rely.Ext.trans (Rely.Ext.refl W3) e4)
  refine Qc8 rfl (fun v W' => NewS W4.heap.size (ints .u8 ([])) 5 0 v W' ∧ Ext W4 W') 17 rfl kj ⟨_, _, (by kernel_rfl : _ = Result.ok (Next.value (.slice (some ⟨W4.heap.size, 0, none⟩) 0 0)) (W4.alloc (.cells (ints .u8 ([])) 5))), ⟨_, rfl, Nat.le_refl _, heap_alloc_new _ _⟩, QbL _ _⟩ (fun _ _ h => Rely.Ext.trans y3_4 h.2) fun vv6 W5 hh6 => ?_
  obtain ⟨⟨g7, rfl, l7, r7_5⟩, e5⟩ := hh6
  have x5 : Ext w W5 := Ext.tr x4 e5
  have b7 : w.heap.size ≤ g7 := Nat.le_trans x4.size l7
  refine QaN 3 kj ?_
  have r2_4 := (Qas r2_3 e4)
  have r2_5 := (Qas r2_4 e5)
  have y3_5 : Ext W3 W5 := (Rely.Ext.trans y3_4 e5)
  refine Qbn (k := .u8) (T := 5) (xs := []) (ys := grp) (V := W3) 1 (.tmp 17) (.tmp 19) 26 rfl kj kj (by decide) 20 rfl 3 rfl kj kj kj (OwnN.base y3_4.size (QbO (xs := []) rfl l7 r7_5 (by decide))) (QaM 0 hrl r2_5 (fun i hi => QaH [] [#[.int .i64 ep], #[.slice a_t ts.length c_t], ints .u8 (con), ints .u8 (tag), #[.int .i64 fr], ints .u8 (sig)] grp 0 i (0 + i) kj rfl (by rw [hrl]; exact hi)) (Qa1 r2_5) (Nat.le_refl _) (by decide)) (by simp only [List.length_append, List.length_cons, List.length_nil, QaG, hrl, hcl, hgl, hil]; omega) y3_5 fun zz1 W6 f8 y6 l6 => ?_
  have x6 : Ext w W6 := Ext.low x5 l6 x3.size
  obtain ⟨ap1_, cp1_, rfl, -⟩ := id (OwnN.rd f8)
  refine QaN 6 kj ?_
  refine Qbb rfl (fun v W' => (OwnN .u8 5 W6.heap.size (beV ep 4)) v W' ∧ Ext W6 W') 72 #[.int .i64 ep, .int .i64 4] 23 rfl kj kj ((QgQ ep 4 _ hep.1 (by omega) (by decide)).mono (by rintro e w' ⟨v, rfl, e1, hv⟩; exact ⟨v, rfl, hv, e1⟩)) (fun _ _ h => Rely.Ext.trans y6 h.2) fun vv10 W7 hh10 => ?_
  obtain ⟨hv10, e7⟩ := hh10
  have x7 : Ext w W7 := Ext.tr x6 e7
  obtain ⟨a23_, c23_, rfl, -⟩ := id (OwnN.rd hv10)
  refine QaN 7 kj ?_
  have f11_7 := (f8.ext e7)
  have y3_7 : Ext W3 W7 := (Rely.Ext.trans y6 e7)
  refine Qbn (k := .u8) (T := 5) (xs := [] ++ grp) (ys := beV ep 4) (V := W3) 1 (.tmp 20) (.tmp 23) 26 rfl kj kj (by decide) 24 rfl 7 rfl kj kj kj f11_7 (OwnN.rd hv10) (by simp only [List.length_append, List.length_cons, List.length_nil, QaG, hrl, hcl, hgl, hil]; omega) y3_7 fun zz2 W8 f12 y8 l8 => ?_
  have x8 : Ext w W8 := Ext.low x7 l8 x3.size
  obtain ⟨ap2_, cp2_, rfl, -⟩ := id (OwnN.rd f12)
  refine Qao 8 (.slice ap2_ (([] ++ grp ++ beV ep 4).length) cp2_) 4 rfl rfl kj kj (fun _ _ _ h => h) (fun W hR => by kernel_rfl) ?_
  refine Qbt kj ?_
  refine hK5 _ _ ?_
  refine wp_seq_k fun K14 hK14 => ?_
  refine QaY (Ext W3) kj fun W9 e9 => ⟨Rely.Ext.trans y8 e9, ?_⟩
  have x9 : Ext w W9 := Ext.tr x8 e9
  refine Qao 0 (.slice ap2_ (([] ++ grp ++ beV ep 4).length) cp2_) 25 rfl rfl kj kj (fun _ _ _ h => h) (fun W hR => by kernel_rfl) ?_
  refine Qao 1 (.pointer (some ⟨g2, 33, none⟩)) 26 rfl rfl kj kj (fun _ _ _ h => h) (fun W hR => by kernel_rfl) ?_
  refine Qao 2 (.slice a_t ts.length c_t) 27 rfl rfl kj kj (fun _ _ _ h => h) (fun W hR => (Qag 23 _ g2 33 67 _ (.slice a_t ts.length c_t) _ (Qas r2_3 hR) rfl kj (Qam [ints .u8 (grp), #[.int .i64 ep]] [#[.slice a_t ts.length c_t]] [ints .u8 (con), ints .u8 (tag), #[.int .i64 fr], ints .u8 (sig)] 33 (by rw [Qab, Qab]; simp only [Array.size_append, cat, ((Qad _ _).trans hrl)]; rfl) 0 _ rfl) kj)) ?_
  refine Qao 5 (.pointer (some ⟨g2, 34, none⟩)) 30 rfl rfl kj kj (fun _ _ _ h => h) (fun W hR => by kernel_rfl) ?_
  refine Qao 6 (.slice (some ⟨g2, 34, none⟩) 32 32) 31 rfl rfl kj kj (fun _ _ _ h => h) (fun W hR => by kernel_rfl) ?_
  refine Qao 8 (.pointer (some ⟨g2, 66, none⟩)) 33 rfl rfl kj kj (fun _ _ _ h => h) (fun W hR => by kernel_rfl) ?_
  refine Qao 9 (.slice (some ⟨g2, 66, none⟩) 32 32) 34 rfl rfl kj kj (fun _ _ _ h => h) (fun W hR => by kernel_rfl) ?_
  refine QaN 3 kj ?_
  have y3_9 : Ext W3 W9 := (Rely.Ext.trans y8 e9)
  refine Qbb rfl (fun v W' => (OwnN .u8 5 W9.heap.size (Qbk ts)) v W' ∧ Ext W9 W') 53 #[.slice a_t ts.length c_t] 28 rfl kj kj ((QfB ts _ _ _ hsz hms hok (TrAt.here (TrAt.ext htr x9))).mono (by rintro e w' ⟨v, rfl, e1, hv⟩; exact ⟨v, rfl, hv, e1⟩)) (fun _ _ h => Rely.Ext.trans y3_9 h.2) fun vv15 W10 hh15 => ?_
  obtain ⟨hv15, e10⟩ := hh15
  have x10 : Ext w W10 := Ext.tr x9 e10
  obtain ⟨atb_, ctb_, rfl, -⟩ := id (OwnN.rd hv15)
  refine QaN 4 kj ?_
  have f16_9 := (f12.ext e9)
  have f17_10 := (f16_9.ext e10)
  have y3_10 : Ext W3 W10 := (Rely.Ext.trans y3_9 e10)
  refine Qbn (k := .u8) (T := 5) (xs := [] ++ grp ++ beV ep 4) (ys := Qbk ts) (V := W3) 1 (.tmp 25) (.tmp 28) 26 rfl kj kj (by decide) 29 rfl 4 rfl kj kj kj f17_10 (OwnN.rd hv15) (by simp only [List.length_append, List.length_cons, List.length_nil, QaG, hrl, hcl, hgl, hil]; omega) y3_10 fun zz3 W11 f18 y11 l11 => ?_
  have x11 : Ext w W11 := Ext.low x10 l11 x3.size
  obtain ⟨ap3_, cp3_, rfl, -⟩ := id (OwnN.rd f18)
  refine QaN 7 kj ?_
  have r2_6 := (Qbd l6 r2_5 (Qa1 r2_3))
  have r2_7 := (Qas r2_6 e7)
  have r2_8 := (Qbd l8 r2_7 (Qa1 r2_3))
  have r2_9 := (Qas r2_8 e9)
  have r2_10 := (Qas r2_9 e10)
  have r2_11 := (Qbd l11 r2_10 (Qa1 r2_3))
  refine Qbn (k := .u8) (T := 5) (xs := [] ++ grp ++ beV ep 4 ++ Qbk ts) (ys := con) (V := W3) 1 (.tmp 29) (.tmp 31) 26 rfl kj kj (by decide) 32 rfl 7 rfl kj kj kj f18 (QaM 34 hcl r2_11 (fun i hi => QaH [ints .u8 (grp), #[.int .i64 ep], #[.slice a_t ts.length c_t]] [ints .u8 (tag), #[.int .i64 fr], ints .u8 (sig)] con 34 i (34 + i) (by rw [Qab, Qab, Qab]; simp only [Array.size_append, cat, ((Qad _ _).trans hrl)]; rfl) rfl (by rw [hcl]; exact hi)) (Qa1 r2_11) (Nat.le_refl _) (by decide)) (by simp only [List.length_append, List.length_cons, List.length_nil, QaG, hrl, hcl, hgl, hil]; omega) y11 fun zz4 W12 f20 y12 l12 => ?_
  have x12 : Ext w W12 := Ext.low x11 l12 x3.size
  obtain ⟨ap4_, cp4_, rfl, -⟩ := id (OwnN.rd f20)
  refine QaN 10 kj ?_
  have r2_12 := (Qbd l12 r2_11 (Qa1 r2_3))
  refine Qbn (k := .u8) (T := 5) (xs := [] ++ grp ++ beV ep 4 ++ Qbk ts ++ con) (ys := tag) (V := W3) 1 (.tmp 32) (.tmp 34) 26 rfl kj kj (by decide) 35 rfl 10 rfl kj kj kj f20 (QaM 66 hgl r2_12 (fun i hi => QaH [ints .u8 (grp), #[.int .i64 ep], #[.slice a_t ts.length c_t], ints .u8 (con)] [#[.int .i64 fr], ints .u8 (sig)] tag 66 i (66 + i) (by rw [Qab, Qab, Qab, Qab]; simp only [Array.size_append, cat, ((Qad _ _).trans hcl), ((Qad _ _).trans hrl)]; rfl) rfl (by rw [hgl]; exact hi)) (Qa1 r2_12) (Nat.le_refl _) (by decide)) (by simp only [List.length_append, List.length_cons, List.length_nil, QaG, hrl, hcl, hgl, hil]; omega) y12 fun zz5 W13 f22 y13 l13 => ?_
  have x13 : Ext w W13 := Ext.low x12 l13 x3.size
  obtain ⟨ap5_, cp5_, rfl, -⟩ := id (OwnN.rd f22)
  refine Qao 11 (.slice ap5_ (([] ++ grp ++ beV ep 4 ++ Qbk ts ++ con ++ tag).length) cp5_) 4 rfl rfl kj kj (fun _ _ _ h => h) (fun W hR => by kernel_rfl) ?_
  refine Qbt kj ?_
  refine hK14 _ _ ?_
  refine wp_seq_k fun K24 hK24 => ?_
  refine QaY (Ext W3) kj fun W14 e14 => ⟨Rely.Ext.trans y13 e14, ?_⟩
  have x14 : Ext w W14 := Ext.tr x13 e14
  refine Qao 0 (.slice ap5_ (([] ++ grp ++ beV ep 4 ++ Qbk ts ++ con ++ tag).length) cp5_) 36 rfl rfl kj kj (fun _ _ _ h => h) (fun W hR => by kernel_rfl) ?_
  refine Qao 1 (.pointer (some ⟨g2, 98, none⟩)) 37 rfl rfl kj kj (fun _ _ _ h => h) (fun W hR => by kernel_rfl) ?_
  refine Qao 2 (.int .i64 fr) 38 rfl rfl kj kj (fun _ _ _ h => h) (fun W hR => (Qag 3 _ g2 98 67 _ (.int .i64 fr) _ (Qas r2_3 hR) rfl kj (Qam [ints .u8 (grp), #[.int .i64 ep], #[.slice a_t ts.length c_t], ints .u8 (con), ints .u8 (tag)] [#[.int .i64 fr]] [ints .u8 (sig)] 98 (by rw [Qab, Qab, Qab, Qab, Qab]; simp only [Array.size_append, cat, ((Qad _ _).trans hcl), ((Qad _ _).trans hgl), ((Qad _ _).trans hrl)]; rfl) 0 _ rfl) kj)) ?_
  refine Qao 3 (.int .u8 (byV fr 0)) 39 rfl rfl kj kj (fun _ _ _ h => h) (fun W hR => (Qat (u := .int .u8 (IntKind.u8.wrap (fr))) kj (congrArg (Value.int .u8) (byV0 fr)))) ?_
  refine Qao 6 (.pointer (some ⟨g2, 99, none⟩)) 42 rfl rfl kj kj (fun _ _ _ h => h) (fun W hR => by kernel_rfl) ?_
  refine Qao 7 (.slice (some ⟨g2, 99, none⟩) 64 64) 43 rfl rfl kj kj (fun _ _ _ h => h) (fun W hR => by kernel_rfl) ?_
  refine QaN 4 kj ?_
  have y3_14 : Ext W3 W14 := (Rely.Ext.trans y13 e14)
  refine Qc8 rfl (fun v W' => NewS W14.heap.size (ints .u8 ([(byV fr 0)])) 5 1 v W' ∧ Ext W14 W') 40 rfl kj ⟨_, _, (by kernel_rfl : _ = Result.ok (Next.value (.slice (some ⟨W14.heap.size, 0, none⟩) 1 1)) (W14.alloc (.cells (ints .u8 ([(byV fr 0)])) 5))), ⟨_, rfl, Nat.le_refl _, heap_alloc_new _ _⟩, QbL _ _⟩ (fun _ _ h => Rely.Ext.trans y3_14 h.2) fun vv25 W15 hh25 => ?_
  obtain ⟨⟨g26, rfl, l26, r26_15⟩, e15⟩ := hh25
  have x15 : Ext w W15 := Ext.tr x14 e15
  have b26 : w.heap.size ≤ g26 := Nat.le_trans x14.size l26
  refine QaN 5 kj ?_
  have f27_14 := (f22.ext e14)
  have f28_15 := (f27_14.ext e15)
  have y3_15 : Ext W3 W15 := (Rely.Ext.trans y3_14 e15)
  refine Qbn (k := .u8) (T := 5) (xs := [] ++ grp ++ beV ep 4 ++ Qbk ts ++ con ++ tag) (ys := [(byV fr 0)]) (V := W3) 1 (.tmp 36) (.tmp 40) 26 rfl kj kj (by decide) 41 rfl 5 rfl kj kj kj f28_15 (Qb7 (xs := [(byV fr 0)]) (n := 1) rfl r26_15 (Qa1 r26_15) (show 1 ≤ maxLen from by decide)) (by simp only [List.length_append, List.length_cons, List.length_nil, QaG, hrl, hcl, hgl, hil]; omega) y3_15 fun zz6 W16 f29 y16 l16 => ?_
  have x16 : Ext w W16 := Ext.low x15 l16 x3.size
  obtain ⟨ap6_, cp6_, rfl, -⟩ := id (OwnN.rd f29)
  refine QaN 8 kj ?_
  have r2_13 := (Qbd l13 r2_12 (Qa1 r2_3))
  have r2_14 := (Qas r2_13 e14)
  have r2_15 := (Qas r2_14 e15)
  have r2_16 := (Qbd l16 r2_15 (Qa1 r2_3))
  refine Qbn (k := .u8) (T := 5) (xs := [] ++ grp ++ beV ep 4 ++ Qbk ts ++ con ++ tag ++ [(byV fr 0)]) (ys := sig) (V := W3) 1 (.tmp 41) (.tmp 43) 26 rfl kj kj (by decide) 44 rfl 8 rfl kj kj kj f29 (QaM 99 hil r2_16 (fun i hi => QaH [ints .u8 (grp), #[.int .i64 ep], #[.slice a_t ts.length c_t], ints .u8 (con), ints .u8 (tag), #[.int .i64 fr]] [] sig 99 i (99 + i) (by rw [Qab, Qab, Qab, Qab, Qab, Qab]; simp only [Array.size_append, cat, ((Qad _ _).trans hcl), ((Qad _ _).trans hgl), ((Qad _ _).trans hrl)]; rfl) rfl (by rw [hil]; exact hi)) (Qa1 r2_16) (Nat.le_refl _) (by decide)) (by simp only [List.length_append, List.length_cons, List.length_nil, QaG, hrl, hcl, hgl, hil]; omega) y16 fun zz7 W17 f31 y17 l17 => ?_
  have x17 : Ext w W17 := Ext.low x16 l17 x3.size
  obtain ⟨xz, hxz⟩ : ∃ z, z = [] ++ grp ++ beV ep 4 ++ Qbk ts ++ con ++ tag ++ [(byV fr 0)] ++ sig := ⟨_, rfl⟩
  rw [← hxz] at f31
  obtain ⟨ap7_, cp7_, rfl, -⟩ := id (OwnN.rd f31)
  refine QaN 9 kj ?_
  refine Qbb rfl (fun v W' => v = (.tuple #[.slice ap7_ ((xz).length) cp7_, .bool true]) ∧ Ext W17 W') 52 #[.slice ap7_ ((xz).length) cp7_] 45 rfl kj kj (((QgB (xz) ap7_ cp7_ _ (by rw [hxz]; exact hf))).mono fun e w' h => ⟨_, h.1, rfl, h.2⟩) (fun _ _ h => Rely.Ext.trans y17 h.2) fun vv33 W18 hh33 => ?_
  obtain ⟨rfl, e18⟩ := hh33
  have x18 : Ext w W18 := Ext.tr x17 e18
  refine Qao 10 (.slice ap7_ ((xz).length) cp7_) 46 rfl rfl kj kj (fun _ _ _ h => h) (fun W hR => by kernel_rfl) ?_
  refine Qao 11 (.bool true) 47 rfl rfl kj kj (fun _ _ _ h => h) (fun W hR => by kernel_rfl) ?_
  refine Qao 12 (.slice ap7_ ((xz).length) cp7_) 2 rfl rfl kj kj (fun _ _ _ h => h) (fun W hR => by kernel_rfl) ?_
  refine Qao 13 (.bool true) 3 rfl rfl kj kj (fun _ _ _ h => h) (fun W hR => by kernel_rfl) ?_
  refine Qbt kj ?_
  refine hK24 _ _ ?_
  refine wp_ret ?_
  repeat (first | with_reducible refine goR1 ?_ | with_reducible refine goR2 ?_)
  have f34_18 := (f31.ext e18)
  exact (show bodyPost _ _ _ .ret _ _ from ret2 (.slice ap7_ ((xz).length) cp7_) (.bool true) rfl (Qar kj) (Qar kj) ⟨_, rfl, x18, _, rfl, OwnN.base x3.size (show OwnN .u8 5 _ (QbS grp ep ts con tag fr sig) _ _ from by rw [← hX, ← hxz]; exact f34_18)⟩)
theorem QbZ (grp : List Int) (ep : Int) (ts : List NdV) (con tag : List Int) (fr : Int) (sig : List Int) (a_t : Option Addr) (c_t : Nat) (w : World) (hrl : grp.length = 32) (hrb : Qal grp) (hcl : con.length = 32) (hcb : Qal con) (hgl : tag.length = 32) (hgb : Qal tag) (hil : sig.length = 64) (hib : Qal sig) (htl : ts.length ≤ 1000000) (hms : ∀ i, i < ts.length → (ndi ts i).n.ms.length ≤ 1000000) (hok : ∀ n ∈ ts, NdOk n.n) (htr : TrAt w.heap.size w a_t ts) : Calls Try.prog 29 #[.agg (cat [ints .u8 (grp), #[.int .i64 ep], #[.slice a_t ts.length c_t], ints .u8 (con), ints .u8 (tag), #[.int .i64 fr], ints .u8 (sig)])] w (Qb4 w (Qdw w.heap.size (refI grp ep ts con tag fr sig))) := by
  unfold refI QbG
  cases h0 : hgB ep fr with
  | false => exact QfH grp ep ts con tag fr sig a_t c_t w hrl hrb hcl hcb hgl hgb hil hib htl hms hok htr h0
  | true =>
    cases h1 : Qbe ts with
    | false => exact QfG grp ep ts con tag fr sig a_t c_t w hrl hrb hcl hcb hgl hgb hil hib htl hms hok htr h0 h1
    | true => exact QfF grp ep ts con tag fr sig a_t c_t w hrl hrb hcl hcb hgl hgb hil hib htl hms hok htr h0 h1
end Go.Proofs.Ytfelfmchachljaa.Wr
end
section
namespace Go.Proofs.Ytfelfmchachljaa.Wr
open Go Go.RowKit
open Rely Auto Own Sha
set_option linter.unusedVariables false
set_option linter.unusedSimpArgs false
def putN (s : Option (List Int)) (us : Bool) (nm : Int) (key sg pa ms : List Int) : Option (List Int) := if Qbr us nm key sg pa ms = true then rawS s (QbJ us nm key sg pa ms) else none
theorem QeI (s : Option (List Int)) (us : Bool) (nm : Int) (key sg pa ms : List Int) (hkl : key.length = 32) (hgl : sg.length = 32) (hpl : pa.length = 32) : QdC s us nm key sg pa ms = putN s us nm key sg pa ms := by
  have hall := Qea ms ms.length (Nat.le_refl _)
  rw [List.take_length] at hall
  unfold QdC putN Qbr Qb9
  rw [Qcs]
  change _ = if (inB nm 255 && decide (ms.length ≤ 32) && (risV ms && allN ms ms.length && (us || QaE us nm key sg pa ms))) = true then _ else _
  have hs1 : (bif us then numS s 1 1 else numS (QaA s (QaE us nm key sg pa ms)) 0 1) = bif (us || QaE us nm key sg pa ms) then rawS s [bif us then 1 else 0] else none := by
    cases us with
    | true => rfl
    | false =>
      cases QaE false nm key sg pa ms with
      | true => rfl
      | false => rfl
  rw [hs1]
  cases hb : (us || QaE us nm key sg pa ms) with
  | false =>
    rw [if_neg (by rw [Bool.and_false, Bool.and_false]; decide)]
    show ms.foldl Qbl (numS (QaA (rawS (rawS (rawS (numS none nm 1) key) sg) pa) (risV ms)) _ 1) = none
    have e1 : numS none nm 1 = none := by rw [QbF _ nm 0 255 (by decide) (by decide)]; cases inB nm 255 <;> rfl
    rw [e1]
    have e2 : QaA (rawS (rawS (rawS none key) sg) pa) (risV ms) = none := by cases risV ms <;> rfl
    rw [e2, QbF _ _ 0 255 (by decide) (by decide)]
    cases inB ((ms.length : Nat) : Int) 255 <;> exact QaZ ms
  | true =>
    rw [Bool.and_true]
    show ms.foldl Qbl (numS (QaA (rawS (rawS (rawS (numS (rawS s [bif us then 1 else 0]) nm 1) key) sg) pa) (risV ms)) _ 1) = _
    rw [QbF _ nm 0 255 (by decide) (by decide)]
    cases hn : inB nm 255 with
    | false =>
      rw [if_neg (by rw [Bool.false_and, Bool.false_and]; decide)]
      have e2 : QaA (rawS (rawS (rawS (bif false then rawS (rawS s [bif us then 1 else 0]) (beV nm (0 + 1)) else none) key) sg) pa) (risV ms) = none := by cases risV ms <;> rfl
      rw [e2, QbF _ _ 0 255 (by decide) (by decide)]
      cases inB ((ms.length : Nat) : Int) 255 <;> exact QaZ ms
    | true =>
      rw [Bool.true_and]
      cases hr : risV ms with
      | false =>
        rw [if_neg (by rw [Bool.false_and, Bool.and_false]; decide)]
        show ms.foldl Qbl (numS none _ 1) = none
        rw [QbF _ _ 0 255 (by decide) (by decide)]
        cases inB ((ms.length : Nat) : Int) 255 <;> exact QaZ ms
      | true =>
        rw [Bool.true_and]
        show ms.foldl Qbl (numS (rawS (rawS (rawS (rawS (rawS s [bif us then 1 else 0]) (beV nm 1)) key) sg) pa) ((ms.length : Nat) : Int) (0 + 1)) = _
        rw [QbF _ _ 0 255 (by decide) (by decide)]
        cases ha : allN ms ms.length with
        | false =>
          rw [if_neg (by rw [Bool.and_false]; decide)]
          cases inB ((ms.length : Nat) : Int) 255 with
          | false => exact QaZ ms
          | true =>
            show ms.foldl Qbl (rawS _ (beV _ (0 + 1))) = none
            rw [Qc1, ← hall, ha]
            rfl
        | true =>
          have hl := QgX ms hr ha
          rw [decide_eq_true hl, if_pos (by rfl), show inB ((ms.length : Nat) : Int) 255 = true by unfold inB; simp; omega]
          show ms.foldl Qbl (rawS _ (beV _ (0 + 1))) = _
          rw [Qc1, ← hall, ha]
          show rawS (rawS (rawS (rawS (rawS (rawS s [bif us then 1 else 0]) (beV nm 1)) key) sg) pa) (beV ((ms.length : Nat) : Int) 1 ++ ms.map fun m => byV m 0) = _
          rw [QaW, QaW, QaW, QaW, QaW]
          have e : [bif us then 1 else 0] ++ (beV nm 1 ++ (key ++ (sg ++ (pa ++ (beV ((ms.length : Nat) : Int) 1 ++ ms.map fun m => byV m 0))))) = QbJ us nm key sg pa ms := by
            unfold QbJ Qb6
            simp only [List.append_assoc]
            rfl
          rw [e]
theorem Qej (us : Bool) (nm : Int) (key sg pa ms r : List Int) (hkl : key.length = 32) (hgl : sg.length = 32) (hpl : pa.length = 32) (hg : Qbr us nm key sg pa ms = true) (s : Option (List Int)) (hs : s = some (QbJ us nm key sg pa ms ++ r)) :
    nUs s = us ∧ nNm s = nm ∧ nKy s = key ∧ nSg s = sg ∧ nPa s = pa ∧ Qcq s = some r ∧ nL s = ms := by
  obtain ⟨h1, h2, h3, h4, h5, h6, h7⟩ := QeH us nm key sg pa ms r hkl hgl hpl hg s hs
  have hu : nUs s = us := by unfold nUs; rw [h1]; cases us <;> rfl
  refine ⟨hu, h2, h3, h4, h5, ?_, h7⟩
  unfold Qbr at hg
  rw [Qcs] at hg
  simp only [Bool.and_eq_true] at hg
  obtain ⟨-, ⟨hr, -⟩, hb⟩ := hg
  have ho : nOk s = true := by
    unfold nOk
    rw [hu, h1, h2, h3, h4, h5, h7]
    cases us with
    | true => rfl
    | false => exact hb
  unfold Qcq
  rw [ho, h6, h7, show risV ms = true from hr]
  rfl
theorem QdQ : ∀ (ts : List NdV) (hok : ∀ n ∈ ts, NdOk n.n) (s : Option (List Int)) (a : List Int), ts.foldl (fun s n => Qc0 s n.n) (rawS s a) = bif (ts.all fun n => okN_ n.n) then rawS s (a ++ (ts.map fun n => Qbp n.n).flatten) else none
  | [], _, s, a => by show rawS s a = rawS s (a ++ []); rw [List.append_nil]
  | n :: r, hok, s, a => by
    have ho := hok n List.mem_cons_self
    have e : Qc0 (rawS s a) n.n = putN (rawS s a) n.n.us n.n.nm n.n.key n.n.sg n.n.pa n.n.ms := QeI _ _ _ _ _ _ _ ho.kl ho.gl ho.pl
    rw [List.foldl_cons, e, List.all_cons]
    unfold putN
    cases hg : okN_ n.n with
    | false =>
      rw [if_neg (show ¬ Qbr n.n.us n.n.nm n.n.key n.n.sg n.n.pa n.n.ms = true from fun h => by rw [show Qbr n.n.us n.n.nm n.n.key n.n.sg n.n.pa n.n.ms = false from hg] at h; cases h), QbQ]; rfl
    | true =>
      rw [if_pos (show Qbr n.n.us n.n.nm n.n.key n.n.sg n.n.pa n.n.ms = true from hg), QaW, QdQ r fun x hx => hok x (List.mem_cons_of_mem _ hx)]
      rw [Bool.true_and, List.map_cons, List.flatten_cons, List.append_assoc]
      rfl
theorem Qd0 (ts : List NdV) (hok : ∀ n ∈ ts, NdOk n.n) : Qal (Qbk ts) := by
  unfold Qbk
  refine QaP (Qb3 _ 1) ?_
  intro x hx
  obtain ⟨l, hl, hxl⟩ := List.mem_flatten.1 hx
  obtain ⟨n, hn, rfl⟩ := List.mem_map.1 hl
  have ho := hok n hn
  exact Qei _ _ _ _ _ _ ho.kb ho.gb ho.pb x hxl
def itT (s : Option (List Int)) : Nat → Option (List Int)
  | 0 => s
  | i + 1 => Qcq (itT s i)
def Qb5 (s : Option (List Int)) : Nat := bigN (Qak s 1)
def QaK (s : Option (List Int)) : Option (List Int) := QaA (itT (Qae s 1) (Qb5 s)) (szOk (Qb5 s))
structure NdIs (s : Option (List Int)) (n : NdC) : Prop where
  us : n.us = nUs s
  nm : n.nm = nNm s
  key : n.key = nKy s
  sg : n.sg = nSg s
  pa : n.pa = nPa s
  ms : n.ms = nL s
theorem NdIs.eq {s : Option (List Int)} {n m : NdC} (h : NdIs s n) (k : NdIs s m) : n = m := by
  cases n; cases m
  obtain ⟨rfl, rfl, rfl, rfl, rfl, rfl⟩ := h
  obtain ⟨h1, h2, h3, h4, h5, h6⟩ := k
  simp only at h1 h2 h3 h4 h5 h6
  rw [h1, h2, h3, h4, h5, h6]
theorem QeL (ts : List NdV) (i : Nat) (h : i < ts.length) : (ts.map NdV.n)[i]? = some (ndi ts i).n := by
  rw [List.getElem?_map, List.getElem?_eq_getElem h]
  unfold ndi
  rw [List.getD_eq_getElem?_getD, List.getElem?_eq_getElem h]
  rfl
theorem Qe8 (ts us : List NdV) (hl : us.length = ts.length) (S : Nat → Option (List Int)) (h : ∀ j, j < ts.length → NdIs (S j) (ndi ts j).n) (k : ∀ j, j < us.length → NdIs (S j) (ndi us j).n) : refT us = refT ts := by
  have e : us.map NdV.n = ts.map NdV.n := by
    apply List.ext_getElem?
    intro i
    rcases Nat.lt_or_ge i ts.length with h1 | h1
    · rw [QeL ts i h1, QeL us i (by omega), (k i (by omega)).eq (h i h1)]
    · rw [List.getElem?_eq_none (by rw [List.length_map]; omega), List.getElem?_eq_none (by rw [List.length_map]; omega)]
  have e1 : (us.all fun n => okN_ n.n) = ts.all fun n => okN_ n.n := by
    have h1 : ∀ l : List NdV, (l.all fun n => okN_ n.n) = (l.map NdV.n).all okN_ := fun l => by rw [List.all_map]; rfl
    rw [h1, h1, e]
  have e2 : (us.map fun n => Qbp n.n) = ts.map fun n => Qbp n.n := by
    have h1 : ∀ l : List NdV, (l.map fun n => Qbp n.n) = (l.map NdV.n).map Qbp := fun l => by rw [List.map_map]; rfl
    rw [h1, h1, e]
  unfold refT Qbe Qbk
  rw [hl, e1, e2]
end Go.Proofs.Ytfelfmchachljaa.Wr
end
section
namespace Go.Proofs.Ytfelfmchachljaa.Wr
open Go Go.RowKit
open Rely Auto Own Sha
set_option linter.unusedVariables false
set_option linter.unusedSimpArgs false
section
variable {ds : List Deferred} {P : Program} {ops : Array Oper} {Q : Exit → Act → World → Prop} {rest : List Oper} {o : Oper} {N : Nat} {L : Env} {w : World}
theorem Qfa (ob : Obj) (mk : Nat → Value) (d : Nat) (hd : o.dst = some d) (hg : Qbz ops o N L = some true) (h : (execOp (Rely.look (envN N L)) o).run P w = .ok (.value (mk w.heap.size)) (w.alloc ob))
    (k : ∀ (g : Nat) (W : World), w.heap.size ≤ g → Ext w W → W.heap[g]? = some ob → WL P ops Q rest (Qa6 ds N ((d, mk g) :: L)) W) : WL P ops Q (o :: rest) (Qa6 ds N L) w :=
  QbD _ _ d hd hg h (k _ _ (Nat.le_refl _) (QbL _ _) (heap_alloc_new _ _))
end
theorem QfA {P : Program} {ρ : Operand → Value} {o : Oper} {w : World} (t e : TypeId) (sz : Nat) (x : Operand) (v : Value) (ho : o.op = .buildSlice t 1 #[(0, x)]) (hx : ρ x = v) (hu : P.underlying t = some (.slice e)) (hs : (P.info? e).map (·.size) = some sz) (hz : ((P.info? e).bind (·.zero)).isSome = true) (hv : v.cells.size = sz) (h0 : 0 < sz) (hl : sz ≤ 2 ^ 24) :
    (execOp ρ o).run P w = .ok (.value (.slice (some ⟨w.heap.size, 0, none⟩) 1 1)) (w.alloc (.cells v.cells e)) := by
  cases hie : P.info? e with
  | none => simp [hie] at hs
  | some ie =>
    simp only [hie, Option.map_some, Option.some.injEq, Option.bind_some] at hs hz
    obtain ⟨z, hzz⟩ := Option.isSome_iff_exists.1 hz
    subst hx
    have hf : Instr.fill (fun i => some (i * ie.size, ie.size)) ((Array.range (1 * ie.size)).map (z.cells[· % z.cells.size]!)) (Array.map (fun p : Nat × Operand => (p.1, ρ p.2)) #[(0, x)]).toList = some (ρ x).cells := by
      have := Qdc (fun i => some (i * ie.size, ie.size)) [(0, ie.size, ρ x, (ρ x).cells)] [] ((Array.range (1 * ie.size)).map (z.cells[· % z.cells.size]!)) 0 rfl ⟨by simp, rfl, by rw [hv, hs], trivial⟩ (by simp [tot])
      simpa [cat] using this
    have hr := run_buildSlice w t e 1 (Array.map (fun p : Nat × Operand => (p.1, ρ p.2)) #[(0, x)]) (ρ x).cells ie z hu hie hzz (by rw [hs]; omega) (by rw [hs]; omega) hf
    unfold execOp
    simp only [ho, Sem.run_bind]
    rw [hr]
    rfl
def ByS (s : Option (List Int)) : Prop := ∀ xs, s = some xs → Qal xs
theorem RSt.byS {B gr : Nat} {s : Option (List Int)} {W : World} (h : RSt B gr s W) : ByS s := by
  obtain ⟨u, xs, bad, -, -, h3, rfl⟩ := h
  intro ys hy
  cases bad with
  | true => cases hy
  | false => exact Option.some.inj hy ▸ h3
theorem ByS.take {s : Option (List Int)} (h : ByS s) (n : Nat) : ByS (Qae s n) := by
  intro ys hy
  cases s with
  | none => cases hy
  | some xs =>
    have h1 : (if n ≤ xs.length then some (xs.drop n) else none) = some ys := hy
    split at h1
    · exact Option.some.inj h1 ▸ QbR (h xs rfl) n
    · cases h1
theorem ByS.bytes {s : Option (List Int)} (h : ByS s) (n : Nat) : Qal (Qak s n) := by
  cases s with
  | none => exact QbM
  | some xs =>
    show Qal (if n ≤ xs.length then xs.take n else [])
    split
    · exact Qch (h xs rfl) n
    · exact QbM
theorem Qg3 {s : Option (List Int)} (h : ByS s) (us : Bool) (nm : Int) (ms : List Int) : NdOk ⟨us, nm, nKy s, nSg s, nPa s, ms⟩ := by
  have h2 : ByS (nR2 s) := (h.take 1).take 1
  have h3 : ByS (nR3 s) := h2.take 32
  have h4 : ByS (nR4 s) := h3.take 32
  exact ⟨QfQ s, QfO s, QfP s, Qcg _ (h2.bytes 32), Qcg _ (h3.bytes 32), Qcg _ (h4.bytes 32)⟩
structure OwT (base : Nat) (ts : List NdV) (v : Value) (W : World) : Prop where
  row : W.ownsRow base 43 99 v ts.length (ts.flatMap fun n => (cat (ndP n)).toList)
  nd : ∀ n ∈ ts, NdOk n.n ∧ n.n.ms.length ≤ 255 ∧ OwnN .i64 3 base n.n.ms (.slice n.a n.n.ms.length n.c) W
theorem OwT.nil (base : Nat) (W : World) : OwT base [] (.slice none 0 0) W := ⟨World.ownsRow_nil W base 43 99, fun n hn => by cases hn⟩
theorem QcX {base : Nat} {e : TypeId} {size n : Nat} {v : Value} {xs : List Value} {W : World} (h : W.ownsRow base e size v n xs) {g : Nat} (hg : v.ownBlock = some g) : base ≤ g ∧ ∃ cur, W.heap[g]? = some (.cells cur e) := by
  rcases h.2 with ⟨rfl, _⟩ | ⟨g', c, cur, rfl, q2, q3, _⟩
  · cases hg
  · obtain rfl : g' = g := Option.some.inj hg
    exact ⟨q2, cur, q3⟩
theorem OwT.grown {base : Nat} {ts : List NdV} {v : Value} {W W' : World} {g : Nat} (h : OwT base ts v W) (q : W.grownBy W' (some g)) (hg : g < base) : OwT base ts v W' :=
  ⟨h.row.kept q (by
    cases e : v.ownBlock with
    | none => exact .inl rfl
    | some k => exact .inr fun e2 => by have := (QcX h.row e).1; obtain rfl := Option.some.inj e2; omega), fun n hn => by
    obtain ⟨h1, h2, h3⟩ := h.nd n hn
    exact ⟨h1, h2, h3.keep fun k hk => q.block k (h3.lt hk) fun e => by have := h3.ge hk; obtain rfl := Option.some.inj e; omega⟩⟩
theorem OwT.extB {base g : Nat} {ts : List NdV} {v : Value} {W W' : World} (h : OwT base ts v W) (q : ExtB g W W') (hg : g < base) : OwT base ts v W' :=
  h.grown (g := g) ⟨q.1, q.2.1, q.2.2.1, q.2.2.2.1, fun k hk hn => q.2.2.2.2 k hk fun e => hn (by rw [e])⟩ hg
theorem OwT.ext {base : Nat} {ts : List NdV} {v : Value} {W W' : World} (h : OwT base ts v W) (e : Ext W W') : OwT base ts v W' :=
  ⟨h.row.kept (row := none) ⟨e.os, e.tape, e.output, e.size, fun k hk _ => e.block k hk⟩ (by cases e : v.ownBlock with
    | none => exact .inl rfl
    | some k => exact .inr fun e2 => by cases e2), fun n hn => ⟨(h.nd n hn).1, (h.nd n hn).2.1, (h.nd n hn).2.2.ext e⟩⟩
theorem QfN (n : NdV) : ∀ u ∈ (cat (ndP n)).toList, u.oneCell' = true := by
  intro u hu
  unfold ndP at hu
  simp only [cat, Array.toList_append, ints, List.mem_append, List.mem_map, List.mem_cons, List.not_mem_nil, or_false] at hu
  rcases hu with rfl | rfl | ⟨x, -, rfl⟩ | ⟨x, -, rfl⟩ | ⟨x, -, rfl⟩ | rfl <;> rfl
theorem OwT.app {P : Program} {ρ : Operand → Value} {o : Oper} {W : World} (b : Nat) (s x : Operand) (t : TypeId) (ho : o.op = .call { callee := .builtin .append, args := #[s, x], argTypes := #[t, t] }) (ht : P.underlying t = some (.slice 43))
    (hi : (P.info? 43).map (fun i => (i.zero.map (·.cells.size), i.size, i.bytes)) = some (some 99, 99, b)) (hb8 : b ≤ 1000) {base g : Nat} {v : Value} {ts : List NdV} {n : NdV} (hs : ρ s = v) (hx : ρ x = .slice (some ⟨g, 0, none⟩) 1 1)
    (h : OwT base ts v W) (hn : NdOk n.n) (hnl : n.n.ms.length ≤ 255) (hno : OwnN .i64 3 base n.n.ms (.slice n.a n.n.ms.length n.c) W) (hrow : W.heap[g]? = some (.cells (cat (ndP n)) 43)) (htl : ts.length ≤ 1000000) (hbase : base ≤ W.heap.size) :
    ∃ v' W', (execOp ρ o).run P W = .ok (.value v') W' ∧ OwT base (ts ++ [n]) v' W' ∧ RowKit.Below base W W' := by
  obtain ⟨i, hq, z, hz, hzs, hi2, hi3⟩ : ∃ i, P.info? 43 = some i ∧ ∃ z, i.zero = some z ∧ z.cells.size = 99 ∧ i.size = 99 ∧ i.bytes = b := by
    cases hq : P.info? 43 with
    | none => rw [hq] at hi; cases hi
    | some i =>
      rw [hq] at hi
      simp only [Option.map_some, Option.some.injEq, Prod.mk.injEq] at hi
      obtain ⟨z, hz, hzs⟩ := Option.map_eq_some_iff.1 hi.1
      exact ⟨i, rfl, z, hz, hzs, hi.2.1, hi.2.2⟩
  have hsz := Qcr n hn
  obtain ⟨v', W', hr, h2, h3, -, -⟩ := run_append_own_at (P := P) W base t o.type 43 i z 99 b ht hq hz hi2 hi3 hzs (by decide) v ts.length _ h.row ⟨g, 0, none⟩ 1 1 (cat (ndP n)).toList (by rw [Array.length_toList, hsz])
    (fun j u hu => by
      rw [WideShapes.add_plain, Nat.zero_add]
      unfold World.cell?
      simp only [hrow]
      rw [Array.getElem?_toList] at hu
      rw [← hu]; rfl) (QfN n) (by simp only [maxLen]; omega) (by
        have : (ts.length + 1) * b ≤ 1000001 * 1000 := Nat.mul_le_mul (by omega) hb8
        omega) hbase
  refine ⟨v', W', ?_, ⟨?_, ?_⟩, ⟨h3.os, h3.tape, h3.output, h3.size, fun k hk => h3.block k (Nat.lt_of_lt_of_le hk hbase) fun q => by have := (QcX h.row q.symm).1; omega⟩⟩
  · unfold execOp
    simp only [ho, resolve, invoke, builtin, Sem.run_bind, Sem.run_pure, Result.andThen_ok, List.map_toArray, List.map_cons, List.map_nil, hs, hx, hr]
  · rw [List.length_append, List.flatMap_append]
    simpa using h2
  · intro m hm
    have keep : ∀ m : NdV, OwnN .i64 3 base m.n.ms (.slice m.a m.n.ms.length m.c) W → OwnN .i64 3 base m.n.ms (.slice m.a m.n.ms.length m.c) W' := fun m hmo => hmo.keep fun k hk => h3.block k (hmo.lt hk) fun q => by
      obtain ⟨cur, e1⟩ := Qd9 hmo hk
      obtain ⟨-, cur2, e2⟩ := QcX h.row q.symm
      exact typW e1 e2 (by decide) rfl
    rcases List.mem_append.1 hm with h1 | h1
    · obtain ⟨a1, a2, a3⟩ := h.nd m h1
      exact ⟨a1, a2, keep m a3⟩
    · obtain rfl : m = n := by simpa using h1
      exact ⟨hn, hnl, keep m hno⟩
section
variable {ds : List Deferred} {P : Program} {ops : Array Oper} {Q : Exit → Act → World → Prop} {rest : List Oper} {o : Oper} {N : Nat} {L : Env} {W : World}
theorem Qfb (b : Nat) (s x : Operand) (t : TypeId) (ho : o.op = .call { callee := .builtin .append, args := #[s, x], argTypes := #[t, t] }) (ht : P.underlying t = some (.slice 43))
    (hi : (P.info? 43).map (fun i => (i.zero.map (·.cells.size), i.size, i.bytes)) = some (some 99, 99, b)) (hb8 : b ≤ 1000) (d : Nat) (hd : o.dst = some d) (hg : Qbz ops o N L = some true) {base g : Nat} {v : Value} {ts : List NdV} {n : NdV} (hs : Rely.look (envN N L) s = v) (hx : Rely.look (envN N L) x = .slice (some ⟨g, 0, none⟩) 1 1)
    (h : OwT base ts v W) (hn : NdOk n.n) (hnl : n.n.ms.length ≤ 255) (hno : OwnN .i64 3 base n.n.ms (.slice n.a n.n.ms.length n.c) W) (hrow : W.heap[g]? = some (.cells (cat (ndP n)) 43)) (htl : ts.length ≤ 1000000) (hbase : base ≤ W.heap.size)
    (kk : ∀ (u : Value) (W' : World), OwT base (ts ++ [n]) u W' → RowKit.Below base W W' → WL P ops Q rest (Qa6 ds N ((d, u) :: L)) W') : WL P ops Q (o :: rest) (Qa6 ds N L) W := by
  obtain ⟨v', W', h1, h2, h3⟩ := OwT.app (ρ := Rely.look (envN N L)) b s x t ho ht hi hb8 hs hx h hn hnl hno hrow htl hbase
  exact QbD _ _ d hd hg h1 (kk v' W' h2 h3)
end
theorem Qfv (ts : List NdV) (ho : ∀ n ∈ ts, NdOk n.n) : ∀ i, i < ts.length → ∀ j u, (cat (ndP (ndi ts i)))[j]? = some u → (ts.flatMap fun n => (cat (ndP n)).toList)[i * 99 + j]? = some u := by
  induction ts with
  | nil => intro i hi; exact absurd hi (Nat.not_lt_zero _)
  | cons n r ih =>
    intro i hi j u hu
    have hsz : (cat (ndP n)).toList.length = 99 := by rw [Array.length_toList]; exact Qcr n (ho n List.mem_cons_self)
    rw [List.flatMap_cons]
    cases i with
    | zero =>
      have hu' : (cat (ndP n))[j]? = some u := hu
      have hj : j < 99 := by have := (Array.getElem?_eq_some_iff.1 hu').1; rw [← Array.length_toList, hsz] at this; exact this
      rw [List.getElem?_append_left (by omega), Nat.zero_mul, Nat.zero_add, Array.getElem?_toList]; exact hu'
    | succ i =>
      rw [List.getElem?_append_right (by omega), hsz, show (i + 1) * 99 + j - 99 = i * 99 + j by omega]
      exact ih (fun x hx => ho x (List.mem_cons_of_mem _ hx)) i (by simpa using hi) j u hu
theorem OwT.tr {base : Nat} {ts : List NdV} {a : Option Addr} {c : Nat} {W : World} (h : OwT base ts (.slice a ts.length c) W) : TrAt W.heap.size W a ts := by
  rcases h.row.2 with ⟨e, -⟩ | ⟨g, cap, cur, e, q2, q3, -⟩
  · have h0 : ts.length = 0 := by simp only [Value.slice.injEq] at e; exact e.2.1
    exact ⟨0, 0, fun h1 => absurd h1 (by omega), fun i hi => absurd hi (by omega)⟩
  · simp only [Value.slice.injEq] at e
    obtain ⟨rfl, -, rfl⟩ := e
    refine ⟨g, 0, fun _ => rfl, fun i hi => ?_⟩
    have hm := Qcf ts i hi
    obtain ⟨h1, h2, h3⟩ := h.nd _ hm
    refine ⟨Qa1 q3, Qa1 q3, fun j u hu => ?_, RdK.here (OwnN.rd h3), h1⟩
    have := h.row.cells (g := g) rfl (i * 99 + j) u (Qfv ts (fun n hn => (h.nd n hn).1) i hi j u hu)
    rw [WideShapes.add_plain] at this
    rw [Nat.zero_add] at this
    rw [Nat.zero_add]; exact this
theorem OwT.sl {base : Nat} {ts : List NdV} {v : Value} {W : World} (h : OwT base ts v W) : ∃ a c, v = .slice a ts.length c := by
  rcases h.row.2 with ⟨e, e2⟩ | ⟨g, cap, cur, e, -⟩
  · exact ⟨none, 0, by rw [e, e2]⟩
  · exact ⟨_, _, e⟩
theorem OwT.base {a b : Nat} {ts : List NdV} {v : Value} {W : World} (h : OwT b ts v W) (hab : a ≤ b) : OwT a ts v W :=
  ⟨⟨h.row.1, h.row.2.imp id fun ⟨g, c, cur, q1, q2, q3⟩ => ⟨g, c, cur, q1, Nat.le_trans hab q2, q3⟩⟩, fun n hn => ⟨(h.nd n hn).1, (h.nd n hn).2.1, OwnN.base hab (h.nd n hn).2.2⟩⟩
theorem QcZ (s : Option (List Int)) (i : Nat) (h : itT s i = none) : ∀ n, i ≤ n → itT s n = none
  | 0, hn => by obtain rfl : i = 0 := by omega
                exact h
  | n + 1, hn => by
    by_cases e : i = n + 1
    · rw [← e]; exact h
    · show Qcq (itT s n) = none
      rw [QcZ s i h n (by omega)]
      show QaA (QaA (nR6 none) _) _ = none
      have e6 : nR6 none = none := QdF (Qae (nR5 none) 1) 0 rfl _ (Nat.zero_le _)
      rw [e6, QaV, QaV]
theorem QfM (ts : List NdV) (n : NdV) (j : Nat) : ndi (ts ++ [n]) j = if j < ts.length then ndi ts j else if j = ts.length then n else nd0 := by
  unfold ndi
  rw [List.getD_eq_getElem?_getD, List.getD_eq_getElem?_getD]
  split
  · rename_i h; rw [List.getElem?_append_left h]
  · rename_i h
    rw [List.getElem?_append_right (by omega)]
    split
    · rename_i h2; rw [h2, Nat.sub_self]; rfl
    · rw [List.getElem?_eq_none (by simp; omega)]; rfl
set_option maxHeartbeats 4000000 in
theorem Qew (B gr : Nat) (s : Option (List Int)) (w : World) (hB : B ≤ gr) (h : RSt B gr s w) : Calls Try.prog 101 #[.pointer (some ⟨gr, 0, none⟩), .func (.func 102) #[] #[]] w (Qb8 B gr w (itT (Qae s 1) (Qb5 s)) fun v W => ∃ ts, OwT w.heap.size ts v W ∧ ts.length ≤ 255 ∧ (itT (Qae s 1) (Qb5 s) ≠ none → ts.length = (Qb5 s) ∧ ∀ j, j < ts.length → NdIs (itT (Qae s 1) j) (ndi ts j).n)) := by
 have hgr := h.lt
 have hN : bigN (Qak s 1) < 256 := Qde _ (h.bytes 1) 1 (Qan s 1)
 refine enter 22 [(0, .pointer (some ⟨gr, 0, none⟩)), (1, .func (.func 102) #[] #[])] Try.func101 rfl rfl kj rfl ?_
 refine wp_seq_k fun K1 hK1 => ?_
 refine Qac ?_
 refine Qaa (.slice none 0 0) 4 rfl kj kj ?_
 refine Qaf ?_
 refine hK1 _ _ ?_
 refine wp_seq_k fun K2 hK2 => ?_
 refine Qac ?_
 refine Qaa (.slice none 0 0) 5 rfl kj kj ?_
 refine Qaf ?_
 refine hK2 _ _ ?_
 refine wp_seq_k fun K3 hK3 => ?_
 refine wp_seq_k fun K4 hK4 => ?_
 refine Qac ?_
 refine Qaa (.pointer (some ⟨gr, 0, none⟩)) 6 rfl kj kj ?_
 refine Qaj (fun v W' => ExtB gr w W' ∧ RSt B gr (Qae (s) 1) W' ∧ (fun (v : Value) (_ : World) => v = .int .i64 ((bigN (Qak (s) 1) : Nat) : Int)) v W') 110 #[.pointer (some ⟨gr, 0, none⟩), .int .i64 1] 7 rfl kj kj (Qbc B gr _ 1 _ hB h (by decide)) fun vv5 W1 hh5 => ?_
 obtain ⟨q1, rs5, hv5⟩ := hh5
 have x1 : ExtB gr w W1 := ExtB.tr (ExtB.refl gr w) q1
 subst hv5
 refine Qaa (.int .i64 0) 8 rfl kj kj ?_
 refine Qaf ?_
 refine hK4 _ _ ?_
 refine wp_block ?_
 refine QaB (fun (s1 : Nat × Value × List NdV) => [(0, .pointer (some ⟨gr, 0, none⟩)), (1, .func (.func 102) #[] #[]), (5, s1.2.1), (7, .int .i64 ((bigN (Qak (s) 1) : Nat) : Int)), (8, .int .i64 ((s1.1 : Nat) : Int))]) (fun (s1 : Nat × Value × List NdV) W => (s1.1 ≤ bigN (Qak s 1)) ∧ (RSt B gr (itT (Qae s 1) s1.1) W) ∧ (OwT w.heap.size s1.2.2 s1.2.1 W) ∧ (s1.2.2.length = s1.1) ∧ (itT (Qae s 1) s1.1 ≠ none → ∀ j, j < s1.2.2.length → NdIs (itT (Qae s 1) j) (ndi s1.2.2 j).n) ∧ (ExtB gr w W)) (fun (s1 : Nat × Value × List NdV) => bigN (Qak s 1) - s1.1) (0, (.slice none 0 0), []) ⟨rfl, rfl, rfl, rfl, rfl, trivial⟩ ⟨(Nat.zero_le _), rs5, (OwT.nil _ _), rfl, (fun _ j hj => absurd hj (Nat.not_lt_zero _)), x1⟩ fun s1 X1 V1 hI1 => ?_
 obtain ⟨i, u, ts⟩ := s1
 obtain ⟨hi, hrs, hu, htl, hnd, xx1⟩ := hI1
 replace hi : i ≤ bigN (Qak s 1) := hi
 replace hrs : RSt B gr (itT (Qae s 1) i) V1 := hrs
 replace hu : OwT w.heap.size ts u V1 := hu
 replace htl : ts.length = i := htl
 replace hnd : itT (Qae s 1) i ≠ none → ∀ j, j < ts.length → NdIs (itT (Qae s 1) j) (ndi ts j).n := hnd
 replace xx1 : ExtB gr w V1 := xx1
 refine wp_seq_k fun K6 hK6 => ?_
 refine Qac ?_
 refine Qaa (.bool (decide (((i : Nat) : Int) < ((bigN (Qak (s) 1) : Nat) : Int)))) 9 rfl kj kj ?_
 refine Qaf ?_
 refine hK6 _ _ ?_
 refine wp_seq_k fun K7 hK7 => ?_
 refine Qa2 (t := decide (((i : Nat) : Int) < ((bigN (Qak (s) 1) : Nat) : Int))) kj (fun c8 => ?_) (fun c8 => ?_)
 ·skip
  have hlt9 : i < bigN (Qak s 1) := by have := of_decide_eq_true c8; omega
  refine wp_skip ?_
  refine hK7 _ _ ?_
  refine wp_seq_k fun K9 hK9 => ?_
  refine wp_block ?_
  refine wp_seq_k fun K10 hK10 => ?_
  refine wp_seq_k fun K11 hK11 => ?_
  refine Qac ?_
  obtain ⟨u12, xs12, bad, rb12, -, -, hsc⟩ := id hrs
  refine Qaa (.pointer (some ⟨gr, 0, none⟩)) 10 rfl kj kj ?_
  refine Qaa (.pointer (some ⟨gr, 0, none⟩)) 11 rfl kj kj ?_
  refine Qaa (.pointer (some ⟨gr, 1, none⟩)) 12 rfl kj kj ?_
  refine Qaa (.bool bad) 13 rfl kj (Qag 4 _ gr 1 179 _ (.bool bad) _ rb12 rfl kj kj kj) ?_
  refine Qaf ?_
  refine hK11 _ _ ?_
  refine Qa2 (t := bad) kj (fun c14 => ?_) (fun c14 => ?_)
  ·skip
   have hbad : bad = true := c14
   have h9 : itT (Qae s 1) i = none := by rw [hsc, hbad]; rfl
   have h8 : itT (Qae s 1) (bigN (Qak s 1)) = none := QcZ _ i h9 _ hi
   have hrs3 : RSt B gr (itT (Qae s 1) (bigN (Qak s 1))) V1 := by rw [h8, ← h9]; exact hrs
   refine wp_seq_k fun K15 hK15 => ?_
   refine Qac ?_
   refine Qaa (.slice none 0 0) 4 rfl kj kj ?_
   refine Qaf ?_
   refine hK15 _ _ ?_
   refine wp_ret ?_
   repeat (first | with_reducible refine goR1 ?_ | with_reducible refine goR2 ?_)
   exact (show bodyPost _ _ _ .ret _ _ from ret1 (.slice none 0 0) rfl (Qar kj) ⟨_, rfl, xx1, hrs3, [], OwT.nil _ _, by decide, fun hne => absurd h8 hne⟩)
  ·skip
   refine wp_skip ?_
   refine hK10 _ _ ?_
   refine Qac ?_
   refine Qaa (u) 14 rfl kj kj ?_
   refine Qaa (.func (.func 102) #[] #[]) 15 rfl kj kj ?_
   refine Qaa (.pointer (some ⟨gr, 0, none⟩)) 16 rfl kj kj ?_
   refine Qaj (fun v W' => ExtB gr V1 W' ∧ RSt B gr (Qcq (itT (Qae s 1) i)) W' ∧ (fun (v : Value) (W : World) => ∃ (xz : List Int) (a : Option Addr) (c : Nat), v = .agg (cat [#[.bool (nUs (itT (Qae s 1) i))], #[.int .i64 (nNm (itT (Qae s 1) i))], ints .u8 (nKy (itT (Qae s 1) i)), ints .u8 (nSg (itT (Qae s 1) i)), ints .u8 (nPa (itT (Qae s 1) i)), #[.slice a xz.length c]]) ∧ OwnN .i64 3 V1.heap.size xz (.slice a xz.length c) W ∧ xz.length ≤ 255 ∧ (Qcq (itT (Qae s 1) i) ≠ none → xz = nL (itT (Qae s 1) i))) v W') 102 #[.pointer (some ⟨gr, 0, none⟩)] 17 rfl kj kj (Qgv B gr _ _ hB hrs) fun vv16 W3 hh16 => ?_
   obtain ⟨q3, rs16, hv16⟩ := hh16
   have x3 : ExtB gr w W3 := ExtB.tr xx1 q3
   obtain ⟨xs17, ax17, cx17, rfl, hox17, hlx17, hxx17⟩ := hv16
   have hby : ByS (itT (Qae s 1) i) := hrs.byS
   obtain ⟨nd, hnd0⟩ : ∃ z : NdV, z = ⟨⟨nUs (itT (Qae s 1) i), nNm (itT (Qae s 1) i), nKy (itT (Qae s 1) i), nSg (itT (Qae s 1) i), nPa (itT (Qae s 1) i), xs17⟩, ax17, cx17⟩ := ⟨_, rfl⟩
   refine Qfa (.cells (cat [#[.bool (nUs (itT (Qae s 1) i))], #[.int .i64 (nNm (itT (Qae s 1) i))], ints .u8 (nKy (itT (Qae s 1) i)), ints .u8 (nSg (itT (Qae s 1) i)), ints .u8 (nPa (itT (Qae s 1) i)), #[.slice ax17 xs17.length cx17]]) 43) (fun g => .slice (some ⟨g, 0, none⟩) 1 1) 18 rfl kj (QfA 22 43 99 _ (.agg (cat [#[.bool (nUs (itT (Qae s 1) i))], #[.int .i64 (nNm (itT (Qae s 1) i))], ints .u8 (nKy (itT (Qae s 1) i)), ints .u8 (nSg (itT (Qae s 1) i)), ints .u8 (nPa (itT (Qae s 1) i)), #[.slice ax17 xs17.length cx17]])) rfl kj kj kj kj (by have h9 := Qcr nd (by rw [hnd0]; exact Qg3 hby _ _ _); rw [hnd0] at h9; exact h9) (by decide) (by decide)) fun gz W4 lz e4 rz => ?_
   have x4 : ExtB gr w W4 := ExtB.ext x3 e4
   have f19_4 := (hox17.ext e4)
   refine Qfb 136 (.tmp 14) (.tmp 18) 22 rfl kj kj (by decide) 19 rfl kj kj kj (OwT.ext (OwT.extB hu q3 hgr) e4) (n := nd) (by rw [hnd0]; exact Qg3 hby _ _ _) (by rw [hnd0]; exact hlx17) (by rw [hnd0]; exact OwnN.base xx1.2.2.2.1 f19_4) (by rw [hnd0]; exact rz) (by omega) x4.2.2.2.1 fun u2 W5 hu2 l5 => ?_
   have x5 : ExtB gr w W5 := ExtB.low x4 l5 (Nat.le_refl _)
   refine Qaa (u2) 5 rfl kj kj ?_
   refine Qaf ?_
   refine hK9 _ _ ?_
   refine Qac ?_
   refine Qaa (.int .i64 ((i + 1 : Nat) : Int)) 20 rfl kj (Qat (u := .int .i64 (IntKind.i64.wrap (((i : Nat) : Int) + 1))) kj (congrArg (Value.int .i64) (i64n _ _ (by omega) (by omega)))) ?_
   refine Qaa (.int .i64 ((i + 1 : Nat) : Int)) 8 rfl kj kj ?_
   refine Qaf ?_
   have hts2 : (ts ++ [nd]).length = i + 1 := by rw [List.length_append, List.length_singleton]; omega
   have hnd2 : itT (Qae s 1) (i + 1) ≠ none → ∀ j, j < (ts ++ [nd]).length → NdIs (itT (Qae s 1) j) (ndi (ts ++ [nd]) j).n := by
    intro hne j hj
    rw [QfM]
    split
    ·rename_i h5
     exact hnd (fun h6 => hne (QcZ _ i h6 _ (by omega))) j h5
    ·rename_i h5
     obtain rfl : j = ts.length := by omega
     rw [if_pos rfl, htl, hnd0]
     exact ⟨rfl, rfl, rfl, rfl, rfl, hxx17 hne⟩
   have rs20 := (RSt.low (RSt.ext rs16 hB e4) hB l5 hgr)
   repeat (first | with_reducible refine goX1 ?_ | with_reducible refine goX2 ?_ | with_reducible refine goX3 ?_)
   exact Qa8 ((i + 1), u2, (ts ++ [nd])) ⟨rfl, rfl, rfl, rfl, rfl, trivial⟩ ⟨(by omega), rs20, hu2, hts2, hnd2, x5⟩ (by omega)
 ·skip
  have heq9 : i = bigN (Qak s 1) := by have := of_decide_eq_false c8; omega
  have hrs2 := hrs
  rw [heq9] at hrs2
  refine wp_exit ?_
  refine hK3 _ _ ?_
  refine wp_seq_k fun K21 hK21 => ?_
  refine Qac ?_
  refine Qaa (u) 21 rfl kj kj ?_
  refine Qaa (u) 4 rfl kj kj ?_
  refine Qaf ?_
  refine hK21 _ _ ?_
  refine wp_ret ?_
  repeat (first | with_reducible refine goR1 ?_ | with_reducible refine goR2 ?_)
  exact (show bodyPost _ _ _ .ret _ _ from ret1 (u) rfl (Qar kj) ⟨_, rfl, xx1, hrs2, ts, hu, by omega, fun hne => ⟨(show ts.length = bigN (Qak s 1) by omega), fun j hj => hnd (by rw [heq9]; exact hne) j hj⟩⟩)
set_option maxHeartbeats 4000000 in
theorem Qgr (B gr : Nat) (s : Option (List Int)) (w : World) (hB : B ≤ gr) (h : RSt B gr s w) : Calls Try.prog 55 #[.pointer (some ⟨gr, 0, none⟩)] w (Qb8 B gr w (QaK s) fun v W => ∃ ts, OwT w.heap.size ts v W ∧ ts.length ≤ 255 ∧ (QaK s ≠ none → ts.length = (Qb5 s) ∧ ∀ j, j < ts.length → NdIs (itT (Qae s 1) j) (ndi ts j).n)) := by
  have hgr := h.lt
  refine enter 12 [(0, .pointer (some ⟨gr, 0, none⟩))] Try.func55 rfl rfl kj rfl ?_
  refine wp_seq_k fun K1 hK1 => ?_
  refine Qac ?_
  refine Qaa (.slice none 0 0) 2 rfl kj kj ?_
  refine Qaf ?_
  refine hK1 _ _ ?_
  refine wp_seq_k fun K2 hK2 => ?_
  refine Qac ?_
  refine Qaa (.pointer (some ⟨gr, 0, none⟩)) 4 rfl kj kj ?_
  refine Qaj (fun v W' => ExtB gr w W' ∧ RSt B gr (itT (Qae s 1) (Qb5 s)) W' ∧ (fun (v : Value) (W : World) => ∃ ts, OwT w.heap.size ts v W ∧ ts.length ≤ 255 ∧ (itT (Qae s 1) (Qb5 s) ≠ none → ts.length = (Qb5 s) ∧ ∀ j, j < ts.length → NdIs (itT (Qae s 1) j) (ndi ts j).n)) v W') 101 #[.pointer (some ⟨gr, 0, none⟩), .func (.func 102) #[] #[]] 5 rfl kj kj (Qew B gr _ _ hB h) fun vv3 W1 hh3 => ?_
  obtain ⟨q1, rs3, hv3⟩ := hh3
  have x1 : ExtB gr w W1 := ExtB.tr (ExtB.refl gr w) q1
  obtain ⟨ts, hot, htl, hts⟩ := hv3
  obtain ⟨at_, ct_, rfl⟩ := hot.sl
  refine Qaa (.slice at_ ts.length ct_) 3 rfl kj kj ?_
  refine Qaf ?_
  refine hK2 _ _ ?_
  refine wp_seq_k fun K4 hK4 => ?_
  refine Qac ?_
  refine Qaa (.pointer (some ⟨gr, 0, none⟩)) 6 rfl kj kj ?_
  refine Qaa (.slice at_ ts.length ct_) 7 rfl kj kj ?_
  refine Qaa (.int .i64 ((ts.length : Nat) : Int)) 8 rfl kj kj ?_
  refine Qay (.bool (szOk ts.length)) 99 #[.int .i64 ((ts.length : Nat) : Int)] 9 rfl kj kj ((tszC ts.length) _) fun W2 e2 => ?_
  have x2 : ExtB gr w W2 := ExtB.ext x1 e2
  have rs5 := (RSt.ext rs3 hB e2)
  refine Qaj (fun v W' => ExtB gr W2 W' ∧ RSt B gr (QaA (itT (Qae s 1) (Qb5 s)) (szOk ts.length)) W' ∧ (fun (v : Value) (_ : World) => v = .tuple #[]) v W') 103 #[.pointer (some ⟨gr, 0, none⟩), .bool (szOk ts.length)] 10 rfl kj kj (Qcl B gr _ (szOk ts.length) _ hB rs5) fun vv6 W3 hh6 => ?_
  obtain ⟨q3, rs6, hv6⟩ := hh6
  have x3 : ExtB gr w W3 := ExtB.tr x2 q3
  subst hv6
  refine Qaf ?_
  refine hK4 _ _ ?_
  refine wp_seq_k fun K7 hK7 => ?_
  refine Qac ?_
  refine Qaa (.slice at_ ts.length ct_) 11 rfl kj kj ?_
  refine Qaa (.slice at_ ts.length ct_) 2 rfl kj kj ?_
  refine Qaf ?_
  refine hK7 _ _ ?_
  refine wp_ret ?_
  repeat (first | with_reducible refine goR1 ?_ | with_reducible refine goR2 ?_)
  exact (show bodyPost _ _ _ .ret _ _ from ret1 (.slice at_ ts.length ct_) rfl (Qar kj) ⟨_, rfl, x3, (show RSt B gr (QaK s) _ by
      have h9 := rs6
      unfold QaK
      by_cases h0 : itT (Qae s 1) (Qb5 s) = none
      · rw [h0, QaV] at h9 ⊢; exact h9
      · rw [(hts h0).1] at h9; exact h9), ts, OwT.base (OwT.extB (OwT.ext hot e2) q3 (Nat.lt_of_lt_of_le hgr (ExtB.refl gr w).2.2.2.1)) (ExtB.refl gr w).2.2.2.1, htl, fun hne => hts (fun h0 => hne (by unfold QaK; rw [h0, QaV]))⟩)
end Go.Proofs.Ytfelfmchachljaa.Wr
end
section
namespace Go.Proofs.Ytfelfmchachljaa.Wr
open Go Go.RowKit
open Rely Auto Own Sha
set_option linter.unusedVariables false
set_option linter.unusedSimpArgs false
end Go.Proofs.Ytfelfmchachljaa.Wr
end
section
namespace Go.Proofs.Ytfelfmchachljaa.Wr
open Go Go.RowKit
open Rely Auto Own Sha
set_option linter.unusedVariables false
set_option linter.unusedSimpArgs false
theorem Qc7 (w : World) : (zeroValue 67).run Try.prog w = .ok (.agg (cat [ints .u8 (List.replicate 32 0), #[.int .i64 0], #[.slice none 0 0], ints .u8 (List.replicate 32 0), ints .u8 (List.replicate 32 0), #[.int .i64 0], ints .u8 (List.replicate 64 0)])) w := by
  have h := Qdd [(List.replicate 32 0).map (Value.int .u8), [.int .i64 0], [.slice none 0 0], (List.replicate 32 0).map (Value.int .u8), (List.replicate 32 0).map (Value.int .u8), [.int .i64 0], (List.replicate 64 0).map (Value.int .u8)]
  refine Eq.trans ?_ (congrArg (fun z => Result.ok (Value.agg z) w) h.symm)
  kernel_rfl
def iS1 (s : Option (List Int)) : Option (List Int) := Qae s 32
def iS2 (s : Option (List Int)) : Option (List Int) := Qae (iS1 s) 4
def iS3 (s : Option (List Int)) : Option (List Int) := QaK (iS2 s)
def iS4 (s : Option (List Int)) : Option (List Int) := Qae (iS3 s) 32
def iS5 (s : Option (List Int)) : Option (List Int) := Qae (iS4 s) 32
def iS6 (s : Option (List Int)) : Option (List Int) := QaS (iS5 s)
def Qc4 (s : Option (List Int)) : Option (List Int) := Qae (iS6 s) 64
def iGrp (s : Option (List Int)) : List Int := keyV (Qak s 32)
def iEp (s : Option (List Int)) : Int := ((bigN (Qak (iS1 s) 4) : Nat) : Int)
def iCon (s : Option (List Int)) : List Int := keyV (Qak (iS3 s) 32)
def iTag (s : Option (List Int)) : List Int := keyV (Qak (iS4 s) 32)
def iFr (s : Option (List Int)) : Int := ((bigN (Qak (iS5 s) 1) : Nat) : Int)
def iSig (s : Option (List Int)) : List Int := QbI (Qak (iS6 s) 64)
theorem Qbw (s : Option (List Int)) : (iGrp s).length = 32 := Qap _ (Qan _ 32)
theorem Qbx (s : Option (List Int)) : (iCon s).length = 32 := Qap _ (Qan _ 32)
theorem Qbu (s : Option (List Int)) : (iTag s).length = 32 := Qap _ (Qan _ 32)
theorem Qbv (s : Option (List Int)) : (iSig s).length = 64 := Qbi _ (Qan _ 64)
theorem Qep (s : Option (List Int)) (h : Qc4 s ≠ none) : QaK (iS2 s) ≠ none := fun h0 => h (by
  unfold Qc4 iS6 iS5 iS4 iS3
  rw [h0]
  show Qae (QaS none) 64 = none
  rw [QcH]; rfl)
theorem OwT.puts {base g : Nat} {ts : List NdV} {v : Value} {W W' : World} {c : Array Value} {T' : TypeId} (h : OwT base ts v W) (p : Puts W g W') (r : W.heap[g]? = some (.cells c T')) (h1 : T' ≠ 43) (h2 : T' ≠ 3) : OwT base ts v W' := by
  have q : W.grownBy W' (some g) := ⟨p.1, p.2.1, p.2.2.1, Nat.le_of_eq p.2.2.2.1.symm, fun k hk hn => p.2.2.2.2 k fun e => hn (by rw [e])⟩
  refine ⟨h.row.kept q ?_, fun n hn => ?_⟩
  · cases e : v.ownBlock with
    | none => exact .inl rfl
    | some k =>
      refine .inr fun e2 => ?_
      obtain ⟨-, cur, e3⟩ := QcX h.row e
      obtain rfl := Option.some.inj e2
      exact typW r e3 h1 rfl
  · obtain ⟨a1, a2, a3⟩ := h.nd n hn
    exact ⟨a1, a2, a3.puts p (Qcm a3 r (Ne.symm h2))⟩
set_option maxHeartbeats 4000000 in
theorem Qgx (B gr : Nat) (s : Option (List Int)) (w : World) (hB : B ≤ gr) (h : RSt B gr s w) : Calls Try.prog 74 #[.pointer (some ⟨gr, 0, none⟩)] w (Qb8 B gr w (Qc4 s) fun v W => ∃ (ts : List NdV) (a : Option Addr) (c : Nat), v = .agg (cat [ints .u8 (iGrp s), #[.int .i64 (iEp s)], #[.slice a ts.length c], ints .u8 (iCon s), ints .u8 (iTag s), #[.int .i64 (iFr s)], ints .u8 (iSig s)]) ∧ OwT w.heap.size ts (.slice a ts.length c) W ∧ ts.length ≤ 255 ∧ (Qc4 s ≠ none → ts.length = Qb5 (iS2 s) ∧ ∀ j, j < ts.length → NdIs (itT (Qae (iS2 s) 1) j) (ndi ts j).n)) := by
  have hgr := h.lt
  refine enter 18 [(0, .pointer (some ⟨gr, 0, none⟩))] Try.func74 rfl rfl kj rfl ?_
  refine wp_seq_k fun K1 hK1 => ?_
  refine Qac ?_
  refine Qaq (cat [ints .u8 (List.replicate 32 0), #[.int .i64 0], #[.slice none 0 0], ints .u8 (List.replicate 32 0), ints .u8 (List.replicate 32 0), #[.int .i64 0], ints .u8 (List.replicate 64 0)]) 67 2 rfl kj (Qbo 67 _ rfl (Qc7 _)) fun g2 W1 l2 e1 r2_1 => ?_
  have x1 : ExtB gr w W1 := ExtB.ext (ExtB.refl gr w) e1
  have b2 : w.heap.size ≤ g2 := Nat.le_trans (ExtB.refl gr w).size l2
  refine Qaf ?_
  refine hK1 _ _ ?_
  refine wp_seq_k fun K3 hK3 => ?_
  refine Qac ?_
  refine Qaa (.pointer (some ⟨gr, 0, none⟩)) 3 rfl kj kj ?_
  have rs4 := (RSt.ext h hB e1)
  refine Qaj (fun v W' => ExtB gr W1 W' ∧ RSt B gr (Qae (s) 32) W' ∧ (fun (v : Value) (_ : World) => v = .agg (ints .u8 (keyV (Qak (s) 32)))) v W') 109 #[.pointer (some ⟨gr, 0, none⟩)] 4 rfl kj kj (Qcd B gr _ _ hB rs4) fun vv5 W2 hh5 => ?_
  obtain ⟨q2, rs5, hv5⟩ := hh5
  have x2 : ExtB gr w W2 := ExtB.tr x1 q2
  subst hv5
  refine Qaa (.pointer (some ⟨gr, 0, none⟩)) 5 rfl kj kj ?_
  refine Qaj (fun v W' => ExtB gr W2 W' ∧ RSt B gr (Qae (Qae (s) 32) 4) W' ∧ (fun (v : Value) (_ : World) => v = .int .i64 ((bigN (Qak (Qae (s) 32) 4) : Nat) : Int)) v W') 110 #[.pointer (some ⟨gr, 0, none⟩), .int .i64 4] 6 rfl kj kj (Qbc B gr _ 4 _ hB rs5 (by decide)) fun vv6 W3 hh6 => ?_
  obtain ⟨q3, rs6, hv6⟩ := hh6
  have x3 : ExtB gr w W3 := ExtB.tr x2 q3
  subst hv6
  refine Qaa (.pointer (some ⟨gr, 0, none⟩)) 7 rfl kj kj ?_
  refine Qaj (fun v W' => ExtB gr W3 W' ∧ RSt B gr (QaK (Qae (Qae (s) 32) 4)) W' ∧ (fun (v : Value) (W : World) => ∃ ts, OwT W3.heap.size ts v W ∧ ts.length ≤ 255 ∧ (QaK (Qae (Qae (s) 32) 4) ≠ none → ts.length = Qb5 (Qae (Qae (s) 32) 4) ∧ ∀ j, j < ts.length → NdIs (itT (Qae (Qae (Qae (s) 32) 4) 1) j) (ndi ts j).n)) v W') 55 #[.pointer (some ⟨gr, 0, none⟩)] 8 rfl kj kj (Qgr B gr _ _ hB rs6) fun vv7 W4 hh7 => ?_
  obtain ⟨q4, rs7, hv7⟩ := hh7
  have x4 : ExtB gr w W4 := ExtB.tr x3 q4
  obtain ⟨ts, hot, htl, hts⟩ := hv7
  obtain ⟨at_, ct_, rfl⟩ := hot.sl
  refine Qaa (.pointer (some ⟨gr, 0, none⟩)) 9 rfl kj kj ?_
  refine Qaj (fun v W' => ExtB gr W4 W' ∧ RSt B gr (Qae (QaK (Qae (Qae (s) 32) 4)) 32) W' ∧ (fun (v : Value) (_ : World) => v = .agg (ints .u8 (keyV (Qak (QaK (Qae (Qae (s) 32) 4)) 32)))) v W') 109 #[.pointer (some ⟨gr, 0, none⟩)] 10 rfl kj kj (Qcd B gr _ _ hB rs7) fun vv8 W5 hh8 => ?_
  obtain ⟨q5, rs8, hv8⟩ := hh8
  have x5 : ExtB gr w W5 := ExtB.tr x4 q5
  subst hv8
  refine Qaa (.pointer (some ⟨gr, 0, none⟩)) 11 rfl kj kj ?_
  refine Qaj (fun v W' => ExtB gr W5 W' ∧ RSt B gr (Qae (Qae (QaK (Qae (Qae (s) 32) 4)) 32) 32) W' ∧ (fun (v : Value) (_ : World) => v = .agg (ints .u8 (keyV (Qak (Qae (QaK (Qae (Qae (s) 32) 4)) 32) 32)))) v W') 109 #[.pointer (some ⟨gr, 0, none⟩)] 12 rfl kj kj (Qcd B gr _ _ hB rs8) fun vv9 W6 hh9 => ?_
  obtain ⟨q6, rs9, hv9⟩ := hh9
  have x6 : ExtB gr w W6 := ExtB.tr x5 q6
  subst hv9
  refine Qaa (.pointer (some ⟨gr, 0, none⟩)) 13 rfl kj kj ?_
  refine Qaj (fun v W' => ExtB gr W6 W' ∧ RSt B gr (QaS (Qae (Qae (QaK (Qae (Qae (s) 32) 4)) 32) 32)) W' ∧ (fun (v : Value) (_ : World) => v = .int .i64 ((bigN (Qak (Qae (Qae (QaK (Qae (Qae (s) 32) 4)) 32) 32) 1) : Nat) : Int)) v W') 111 #[.pointer (some ⟨gr, 0, none⟩)] 14 rfl kj kj (Qe2 B gr _ _ hB rs9) fun vv10 W7 hh10 => ?_
  obtain ⟨q7, rs10, hv10⟩ := hh10
  have x7 : ExtB gr w W7 := ExtB.tr x6 q7
  subst hv10
  refine Qaa (.pointer (some ⟨gr, 0, none⟩)) 15 rfl kj kj ?_
  refine Qaj (fun v W' => ExtB gr W7 W' ∧ RSt B gr (Qae (QaS (Qae (Qae (QaK (Qae (Qae (s) 32) 4)) 32) 32)) 64) W' ∧ (fun (v : Value) (_ : World) => v = .agg (ints .u8 (QbI (Qak (QaS (Qae (Qae (QaK (Qae (Qae (s) 32) 4)) 32) 32)) 64)))) v W') 112 #[.pointer (some ⟨gr, 0, none⟩)] 16 rfl kj kj (Qgq B gr _ _ hB rs10) fun vv11 W8 hh11 => ?_
  obtain ⟨q8, rs11, hv11⟩ := hh11
  have x8 : ExtB gr w W8 := ExtB.tr x7 q8
  subst hv11
  refine Qaa (.agg (cat [ints .u8 (keyV (Qak (s) 32)), #[.int .i64 ((bigN (Qak (Qae (s) 32) 4) : Nat) : Int)], #[.slice at_ ts.length ct_], ints .u8 (keyV (Qak (QaK (Qae (Qae (s) 32) 4)) 32)), ints .u8 (keyV (Qak (Qae (QaK (Qae (Qae (s) 32) 4)) 32) 32)), #[.int .i64 ((bigN (Qak (Qae (Qae (QaK (Qae (Qae (s) 32) 4)) 32) 32) 1) : Nat) : Int)], ints .u8 (QbI (Qak (QaS (Qae (Qae (QaK (Qae (Qae (s) 32) 4)) 32) 32)) 64))])) 17 rfl kj (Qef 67 _ [ints .u8 (List.replicate 32 0), #[.int .i64 0], #[.slice none 0 0], ints .u8 (List.replicate 32 0), ints .u8 (List.replicate 32 0), #[.int .i64 0], ints .u8 (List.replicate 64 0)] [] #[(0, 32), (32, 1), (33, 1), (34, 32), (66, 32), (98, 1), (99, 64)] [(0, 32, .agg (ints .u8 (keyV (Qak (s) 32))), ints .u8 (keyV (Qak (s) 32))), (1, 1, .int .i64 ((bigN (Qak (Qae (s) 32) 4) : Nat) : Int), #[.int .i64 ((bigN (Qak (Qae (s) 32) 4) : Nat) : Int)]), (2, 1, .slice at_ ts.length ct_, #[.slice at_ ts.length ct_]), (3, 32, .agg (ints .u8 (keyV (Qak (QaK (Qae (Qae (s) 32) 4)) 32))), ints .u8 (keyV (Qak (QaK (Qae (Qae (s) 32) 4)) 32))), (4, 32, .agg (ints .u8 (keyV (Qak (Qae (QaK (Qae (Qae (s) 32) 4)) 32) 32))), ints .u8 (keyV (Qak (Qae (QaK (Qae (Qae (s) 32) 4)) 32) 32))), (5, 1, .int .i64 ((bigN (Qak (Qae (Qae (QaK (Qae (Qae (s) 32) 4)) 32) 32) 1) : Nat) : Int), #[.int .i64 ((bigN (Qak (Qae (Qae (QaK (Qae (Qae (s) 32) 4)) 32) 32) 1) : Nat) : Int)]), (6, 64, .agg (ints .u8 (QbI (Qak (QaS (Qae (Qae (QaK (Qae (Qae (s) 32) 4)) 32) 32)) 64))), ints .u8 (QbI (Qak (QaS (Qae (Qae (QaK (Qae (Qae (s) 32) 4)) 32) 32)) 64)))] rfl kj ⟨kj, rfl, ((Qad _ _).trans (Qap _ (Qan (s) 32))), kj, rfl, kj, kj, rfl, kj, kj, rfl, ((Qad _ _).trans (Qap _ (Qan (QaK (Qae (Qae (s) 32) 4)) 32))), kj, rfl, ((Qad _ _).trans (Qap _ (Qan (Qae (QaK (Qae (Qae (s) 32) 4)) 32) 32))), kj, rfl, kj, kj, rfl, ((Qad _ _).trans (Qbi _ (Qan (QaS (Qae (Qae (QaK (Qae (Qae (s) 32) 4)) 32) 32)) 64))), trivial⟩ kj (Qc7 _) kj kj) ?_
  have r2_2 := (ExtB.row q2 r2_1 (Ne.symm (Nat.ne_of_lt (Nat.lt_of_lt_of_le hgr b2))))
  have r2_3 := (ExtB.row q3 r2_2 (Ne.symm (Nat.ne_of_lt (Nat.lt_of_lt_of_le hgr b2))))
  have r2_4 := (ExtB.row q4 r2_3 (Ne.symm (Nat.ne_of_lt (Nat.lt_of_lt_of_le hgr b2))))
  have r2_5 := (ExtB.row q5 r2_4 (Ne.symm (Nat.ne_of_lt (Nat.lt_of_lt_of_le hgr b2))))
  have r2_6 := (ExtB.row q6 r2_5 (Ne.symm (Nat.ne_of_lt (Nat.lt_of_lt_of_le hgr b2))))
  have r2_7 := (ExtB.row q7 r2_6 (Ne.symm (Nat.ne_of_lt (Nat.lt_of_lt_of_le hgr b2))))
  have r2_8 := (ExtB.row q8 r2_7 (Ne.symm (Nat.ne_of_lt (Nat.lt_of_lt_of_le hgr b2))))
  refine Qa3 g2 _ (cat [ints .u8 (keyV (Qak (s) 32)), #[.int .i64 ((bigN (Qak (Qae (s) 32) 4) : Nat) : Int)], #[.slice at_ ts.length ct_], ints .u8 (keyV (Qak (QaK (Qae (Qae (s) 32) 4)) 32)), ints .u8 (keyV (Qak (Qae (QaK (Qae (Qae (s) 32) 4)) 32) 32)), #[.int .i64 ((bigN (Qak (Qae (Qae (QaK (Qae (Qae (s) 32) 4)) 32) 32) 1) : Nat) : Int)], ints .u8 (QbI (Qak (QaS (Qae (Qae (QaK (Qae (Qae (s) 32) 4)) 32) 32)) 64))]) 67 r2_8 rfl kj (Qav 67 _ _ g2 67 _ _ r2_8 rfl kj kj (isz (n := 163) kj (by rw [Qab, Qab, Qab, Qab, Qab, Qab, Qab]; simp only [Array.size_append, cat, ((Qad _ _).trans (Qap _ (Qan (s) 32))), ((Qad _ _).trans (Qap _ (Qan (Qae (QaK (Qae (Qae (s) 32) 4)) 32) 32))), ((Qad _ _).trans (Qap _ (Qan (QaK (Qae (Qae (s) 32) 4)) 32))), ((Qad _ _).trans (Qbi _ (Qan (QaS (Qae (Qae (QaK (Qae (Qae (s) 32) 4)) 32) 32)) 64)))]; rfl)) (eqsz (n := 163) (by rw [Qab, Qab, Qab, Qab, Qab, Qab, Qab]; simp only [Array.size_append, cat, ((Qad _ _).trans (List.length_replicate (n := 32))), ((Qad _ _).trans (List.length_replicate (n := 64)))]; rfl) (by rw [Qab, Qab, Qab, Qab, Qab, Qab, Qab]; simp only [Array.size_append, cat, ((Qad _ _).trans (Qap _ (Qan (s) 32))), ((Qad _ _).trans (Qap _ (Qan (Qae (QaK (Qae (Qae (s) 32) 4)) 32) 32))), ((Qad _ _).trans (Qap _ (Qan (QaK (Qae (Qae (s) 32) 4)) 32))), ((Qad _ _).trans (Qbi _ (Qan (QaS (Qae (Qae (QaK (Qae (Qae (s) 32) 4)) 32) 32)) 64)))]; rfl)) (QaQ _ (by intro a ha; simp only [List.mem_cons, List.not_mem_nil, or_false] at ha; rcases ha with rfl | rfl | rfl | rfl | rfl | rfl | rfl; exact (Qax _ _); exact (Qau _ rfl); exact (Qau _ rfl); exact (Qax _ _); exact (Qax _ _); exact (Qau _ rfl); exact (Qax _ _)))) fun W9 p9 r2_9 => ?_
  have x9 : ExtB gr w W9 := ExtB.putsN x8 p9 b2
  refine Qaf ?_
  refine hK3 _ _ ?_
  refine wp_ret ?_
  repeat (first | with_reducible refine goR1 ?_ | with_reducible refine goR2 ?_)
  have rs12 := (RSt.put rs11 hB p9 (Nat.lt_of_lt_of_le hgr b2))
  exact (show bodyPost _ _ _ .ret _ _ from ret1 (.agg (cat [ints .u8 (keyV (Qak (s) 32)), #[.int .i64 ((bigN (Qak (Qae (s) 32) 4) : Nat) : Int)], #[.slice at_ ts.length ct_], ints .u8 (keyV (Qak (QaK (Qae (Qae (s) 32) 4)) 32)), ints .u8 (keyV (Qak (Qae (QaK (Qae (Qae (s) 32) 4)) 32) 32)), #[.int .i64 ((bigN (Qak (Qae (Qae (QaK (Qae (Qae (s) 32) 4)) 32) 32) 1) : Nat) : Int)], ints .u8 (QbI (Qak (QaS (Qae (Qae (QaK (Qae (Qae (s) 32) 4)) 32) 32)) 64))])) rfl (QaT g2 67 _ r2_9 kj kj (isz (n := 163) kj (by rw [Qab, Qab, Qab, Qab, Qab, Qab, Qab]; simp only [Array.size_append, cat, ((Qad _ _).trans (Qap _ (Qan (s) 32))), ((Qad _ _).trans (Qap _ (Qan (Qae (QaK (Qae (Qae (s) 32) 4)) 32) 32))), ((Qad _ _).trans (Qap _ (Qan (QaK (Qae (Qae (s) 32) 4)) 32))), ((Qad _ _).trans (Qbi _ (Qan (QaS (Qae (Qae (QaK (Qae (Qae (s) 32) 4)) 32) 32)) 64)))]; rfl))) ⟨_, rfl, x9, (show RSt B gr (Qc4 s) _ from rs12), ts, _, _, rfl, OwT.base (OwT.puts (OwT.extB (OwT.extB (OwT.extB (OwT.extB hot q5 (Nat.lt_of_lt_of_le hgr x3.2.2.2.1)) q6 (Nat.lt_of_lt_of_le hgr x3.2.2.2.1)) q7 (Nat.lt_of_lt_of_le hgr x3.2.2.2.1)) q8 (Nat.lt_of_lt_of_le hgr x3.2.2.2.1)) p9 r2_8 (by decide) (by decide)) x3.2.2.2.1, htl, fun hne => hts (Qep s hne)⟩)
set_option maxHeartbeats 4000000 in
set_option maxRecDepth 100000 in
theorem Qd5 (xs : List Int) (a_y : Option Addr) (c_y : Nat) (w : World) (hyb : Qal xs) (hy : RdK .u8 w.heap.size xs (.slice a_y xs.length c_y) w) (hS : Qc4 (Qai xs) = some []) : Calls Try.prog 73 #[.slice a_y xs.length c_y, .func (.func 74) #[] #[]] w (Qb4 w (fun v W => ∃ (ts : List NdV) (a : Option Addr) (c : Nat), v = .tuple #[.agg (cat [ints .u8 (iGrp (Qai xs)), #[.int .i64 (iEp (Qai xs))], #[.slice a ts.length c], ints .u8 (iCon (Qai xs)), ints .u8 (iTag (Qai xs)), #[.int .i64 (iFr (Qai xs))], ints .u8 (iSig (Qai xs))]), .nilIface] ∧ OwT w.heap.size ts (.slice a ts.length c) W ∧ ts.length ≤ 255 ∧ ts.length = Qb5 (iS2 (Qai xs)) ∧ ∀ j, j < ts.length → NdIs (itT (Qae (iS2 (Qai xs)) 1) j) (ndi ts j).n)) := by
  refine enter 33 [(0, .slice a_y xs.length c_y), (1, .func (.func 74) #[] #[])] Try.func73 rfl rfl kj rfl ?_
  refine wp_seq_k fun K1 hK1 => ?_
  refine Qac ?_
  refine Qaq (cat [ints .u8 (List.replicate 32 0), #[.int .i64 0], #[.slice none 0 0], ints .u8 (List.replicate 32 0), ints .u8 (List.replicate 32 0), #[.int .i64 0], ints .u8 (List.replicate 64 0)]) 67 4 rfl kj (Qbo 67 _ rfl (Qc7 _)) fun g2 W1 l2 e1 r2_1 => ?_
  have x1 : Ext w W1 := Ext.tr (Rely.Ext.refl w) e1
  have b2 : w.heap.size ≤ g2 := Nat.le_trans (Rely.Ext.refl w).size l2
  refine Qaa (.nilIface) 5 rfl kj kj ?_
  refine Qaf ?_
  refine hK1 _ _ ?_
  refine wp_seq_k fun K3 hK3 => ?_
  refine Qac ?_
  refine Qaa (.slice a_y xs.length c_y) 9 rfl kj kj ?_
  refine Qaa (.slice a_y xs.length c_y) 10 rfl kj kj ?_
  refine Qaa (.int .i64 ((xs.length : Nat) : Int)) 11 rfl kj kj ?_
  refine Qaa (.bool (decide (((xs.length : Nat) : Int) > 65536))) 12 rfl kj kj ?_
  refine Qaa (.agg (cat [#[.slice a_y xs.length c_y], #[.bool (decide (((xs.length : Nat) : Int) > 65536))]])) 13 rfl kj kj ?_
  refine Qaq (cat [#[.slice a_y xs.length c_y], #[.bool (decide (((xs.length : Nat) : Int) > 65536))]]) 179 14 rfl kj kj fun g4 W2 l4 e2 r4_2 => ?_
  have x2 : Ext w W2 := Ext.tr x1 e2
  have b4 : w.heap.size ≤ g4 := Nat.le_trans x1.size l4
  refine Qaa (.pointer (some ⟨g4, 0, none⟩)) 6 rfl kj kj ?_
  refine Qaf ?_
  refine hK3 _ _ ?_
  refine wp_seq_k fun K5 hK5 => ?_
  refine Qac ?_
  refine Qaa (.func (.func 74) #[] #[]) 15 rfl kj kj ?_
  refine Qaa (.pointer (some ⟨g4, 0, none⟩)) 16 rfl kj kj ?_
  refine Qaj (fun v W' => ExtB g4 W2 W' ∧ RSt w.heap.size g4 (Qc4 (Qai xs)) W' ∧ ∃ (ts : List NdV) (a : Option Addr) (c : Nat), v = .agg (cat [ints .u8 (iGrp (Qai xs)), #[.int .i64 (iEp (Qai xs))], #[.slice a ts.length c], ints .u8 (iCon (Qai xs)), ints .u8 (iTag (Qai xs)), #[.int .i64 (iFr (Qai xs))], ints .u8 (iSig (Qai xs))]) ∧ OwT W2.heap.size ts (.slice a ts.length c) W' ∧ ts.length ≤ 255 ∧ (Qc4 (Qai xs) ≠ none → ts.length = Qb5 (iS2 (Qai xs)) ∧ ∀ j, j < ts.length → NdIs (itT (Qae (iS2 (Qai xs)) 1) j) (ndi ts j).n)) 74 #[.pointer (some ⟨g4, 0, none⟩)] 17 rfl kj kj (Qgx w.heap.size g4 (Qai xs) _ b4 ⟨_, xs, _, r4_2, RdK.ext hy x2, hyb, rfl⟩) fun vv6 W3 hh6 => ?_
  obtain ⟨q3, ⟨u6, xs2, bad, rb3, hu6, -, hS2⟩, ts, at_, ct_, rfl, hot, htl, hts⟩ := hh6
  rw [hS] at hS2
  obtain ⟨au_, cu_, rfl, -⟩ := id hu6
  obtain ⟨rfl, rfl⟩ : bad = false ∧ xs2 = [] := by cases bad with | true => cases hS2 | false => exact ⟨rfl, (Option.some.inj hS2).symm⟩
  have rc3 : W3.heap[g4]? = some (.cells (cat [#[.slice au_ 0 cu_], #[.bool false]]) 179) := rb3
  have x3 : Ext w W3 := ExtB.toExt x2 q3 b4
  refine Qaq (cat [ints .u8 (List.replicate 32 0), #[.int .i64 0], #[.slice none 0 0], ints .u8 (List.replicate 32 0), ints .u8 (List.replicate 32 0), #[.int .i64 0], ints .u8 (List.replicate 64 0)]) 67 7 rfl kj (Qbo 67 _ rfl (Qc7 _)) fun g7 W4 l7 e4 r7_4 => ?_
  have x4 : Ext w W4 := Ext.tr x3 e4
  have b7 : w.heap.size ≤ g7 := Nat.le_trans x3.size l7
  refine Qa3 g7 _ (cat [ints .u8 (iGrp (Qai xs)), #[.int .i64 (iEp (Qai xs))], #[.slice at_ ts.length ct_], ints .u8 (iCon (Qai xs)), ints .u8 (iTag (Qai xs)), #[.int .i64 (iFr (Qai xs))], ints .u8 (iSig (Qai xs))]) 67 r7_4 rfl kj (Qav 67 _ _ g7 67 _ _ r7_4 rfl kj kj (isz (n := 163) kj (by rw [Qab, Qab, Qab, Qab, Qab, Qab, Qab]; simp only [Array.size_append, cat, ((Qad _ _).trans (Qbx (Qai xs))), ((Qad _ _).trans (Qbw (Qai xs))), ((Qad _ _).trans (Qbv (Qai xs))), ((Qad _ _).trans (Qbu (Qai xs)))]; rfl)) (eqsz (n := 163) (by rw [Qab, Qab, Qab, Qab, Qab, Qab, Qab]; simp only [Array.size_append, cat, ((Qad _ _).trans (List.length_replicate (n := 32))), ((Qad _ _).trans (List.length_replicate (n := 64)))]; rfl) (by rw [Qab, Qab, Qab, Qab, Qab, Qab, Qab]; simp only [Array.size_append, cat, ((Qad _ _).trans (Qbx (Qai xs))), ((Qad _ _).trans (Qbw (Qai xs))), ((Qad _ _).trans (Qbv (Qai xs))), ((Qad _ _).trans (Qbu (Qai xs)))]; rfl)) (QaQ _ (by intro a ha; simp only [List.mem_cons, List.not_mem_nil, or_false] at ha; rcases ha with rfl | rfl | rfl | rfl | rfl | rfl | rfl; exact (Qax _ _); exact (Qau _ rfl); exact (Qau _ rfl); exact (Qax _ _); exact (Qax _ _); exact (Qau _ rfl); exact (Qax _ _)))) fun W5 p5 r7_5 => ?_
  have x5 : Ext w W5 := Puts.ext p5 x4 b7
  refine Qaf ?_
  refine hK5 _ _ ?_
  refine wp_seq_k fun K8 hK8 => ?_
  refine wp_seq_k fun K9 hK9 => ?_
  refine Qac ?_
  refine Qaa (.pointer (some ⟨g4, 0, none⟩)) 18 rfl kj kj ?_
  refine Qaa (.pointer (some ⟨g4, 0, none⟩)) 19 rfl kj kj ?_
  refine Qaa (.pointer (some ⟨g4, 1, none⟩)) 20 rfl kj kj ?_
  have r4_4 := (Qas rc3 e4)
  have r4_5 := (Puts.row p5 r4_4 (QaD rc3 l7))
  refine Qaa (.bool false) 21 rfl kj (Qag 4 _ g4 1 179 _ (.bool false) _ r4_5 rfl kj kj kj) ?_
  refine Qaa (.bool false) 22 rfl kj kj ?_
  refine Qaa (.pointer (some ⟨g4, 0, none⟩)) 23 rfl kj kj ?_
  refine Qaa (.pointer (some ⟨g4, 0, none⟩)) 24 rfl kj kj ?_
  refine Qaa (.pointer (some ⟨g4, 0, none⟩)) 25 rfl kj kj ?_
  refine Qaa (.slice au_ 0 cu_) 26 rfl kj (Qag 26 _ g4 0 179 _ (.slice au_ 0 cu_) _ r4_5 rfl kj kj kj) ?_
  refine Qaa (.int .i64 0) 27 rfl kj kj ?_
  refine Qaa (.bool false) 28 rfl kj kj ?_
  refine Qaa (.bool false) 29 rfl kj kj ?_
  refine Qaf ?_
  refine hK9 _ _ ?_
  refine cond_false kj ?_
  refine wp_skip ?_
  refine hK8 _ _ ?_
  refine wp_seq_k fun K10 hK10 => ?_
  refine Qac ?_
  refine Qaa (.agg (cat [ints .u8 (iGrp (Qai xs)), #[.int .i64 (iEp (Qai xs))], #[.slice at_ ts.length ct_], ints .u8 (iCon (Qai xs)), ints .u8 (iTag (Qai xs)), #[.int .i64 (iFr (Qai xs))], ints .u8 (iSig (Qai xs))])) 32 rfl kj (Qaz 67 _ g7 67 _ _ r7_5 rfl kj kj (isz (n := 163) kj (by rw [Qab, Qab, Qab, Qab, Qab, Qab, Qab]; simp only [Array.size_append, cat, ((Qad _ _).trans (Qbx (Qai xs))), ((Qad _ _).trans (Qbw (Qai xs))), ((Qad _ _).trans (Qbv (Qai xs))), ((Qad _ _).trans (Qbu (Qai xs)))]; rfl))) ?_
  have r2_2 := (Qas r2_1 e2)
  have r2_3 := (ExtB.row q3 r2_2 (QaD r2_1 l4))
  have r2_4 := (Qas r2_3 e4)
  have r2_5 := (Puts.row p5 r2_4 (QaD r2_3 l7))
  refine Qa3 g2 _ (cat [ints .u8 (iGrp (Qai xs)), #[.int .i64 (iEp (Qai xs))], #[.slice at_ ts.length ct_], ints .u8 (iCon (Qai xs)), ints .u8 (iTag (Qai xs)), #[.int .i64 (iFr (Qai xs))], ints .u8 (iSig (Qai xs))]) 67 r2_5 rfl kj (Qav 67 _ _ g2 67 _ _ r2_5 rfl kj kj (isz (n := 163) kj (by rw [Qab, Qab, Qab, Qab, Qab, Qab, Qab]; simp only [Array.size_append, cat, ((Qad _ _).trans (Qbx (Qai xs))), ((Qad _ _).trans (Qbw (Qai xs))), ((Qad _ _).trans (Qbv (Qai xs))), ((Qad _ _).trans (Qbu (Qai xs)))]; rfl)) (eqsz (n := 163) (by rw [Qab, Qab, Qab, Qab, Qab, Qab, Qab]; simp only [Array.size_append, cat, ((Qad _ _).trans (List.length_replicate (n := 32))), ((Qad _ _).trans (List.length_replicate (n := 64)))]; rfl) (by rw [Qab, Qab, Qab, Qab, Qab, Qab, Qab]; simp only [Array.size_append, cat, ((Qad _ _).trans (Qbx (Qai xs))), ((Qad _ _).trans (Qbw (Qai xs))), ((Qad _ _).trans (Qbv (Qai xs))), ((Qad _ _).trans (Qbu (Qai xs)))]; rfl)) (QaQ _ (by intro a ha; simp only [List.mem_cons, List.not_mem_nil, or_false] at ha; rcases ha with rfl | rfl | rfl | rfl | rfl | rfl | rfl; exact (Qax _ _); exact (Qau _ rfl); exact (Qau _ rfl); exact (Qax _ _); exact (Qax _ _); exact (Qau _ rfl); exact (Qax _ _)))) fun W6 p6 r2_6 => ?_
  have x6 : Ext w W6 := Puts.ext p6 x5 b2
  refine Qaa (.nilIface) 5 rfl kj kj ?_
  refine Qaf ?_
  refine hK10 _ _ ?_
  refine wp_ret ?_
  repeat (first | with_reducible refine goR1 ?_ | with_reducible refine goR2 ?_)
  exact (show bodyPost _ _ _ .ret _ _ from ret2 (.agg (cat [ints .u8 (iGrp (Qai xs)), #[.int .i64 (iEp (Qai xs))], #[.slice at_ ts.length ct_], ints .u8 (iCon (Qai xs)), ints .u8 (iTag (Qai xs)), #[.int .i64 (iFr (Qai xs))], ints .u8 (iSig (Qai xs))])) (.nilIface) rfl (QaT g2 67 _ r2_6 kj kj (isz (n := 163) kj (by rw [Qab, Qab, Qab, Qab, Qab, Qab, Qab]; simp only [Array.size_append, cat, ((Qad _ _).trans (Qbx (Qai xs))), ((Qad _ _).trans (Qbw (Qai xs))), ((Qad _ _).trans (Qbv (Qai xs))), ((Qad _ _).trans (Qbu (Qai xs)))]; rfl))) (Qar kj) ⟨_, rfl, x6, ts, _, _, rfl, OwT.base (OwT.puts (OwT.puts (OwT.ext hot e4) p5 r7_4 (by decide) (by decide)) p6 r2_5 (by decide) (by decide)) x2.size, htl, hts (by rw [hS]; exact fun h => by cases h)⟩)
set_option maxHeartbeats 4000000 in
set_option maxRecDepth 100000 in
theorem Qd8 (xs : List Int) (a_y : Option Addr) (c_y : Nat) (w : World) (hyb : Qal xs) (hy : RdK .u8 w.heap.size xs (.slice a_y xs.length c_y) w) (hS : Qc4 (Qai xs) = some []) : Calls Try.prog 30 #[.slice a_y xs.length c_y] w (Qb4 w (fun v W => ∃ (ts : List NdV) (a : Option Addr) (c : Nat), v = .tuple #[.agg (cat [ints .u8 (iGrp (Qai xs)), #[.int .i64 (iEp (Qai xs))], #[.slice a ts.length c], ints .u8 (iCon (Qai xs)), ints .u8 (iTag (Qai xs)), #[.int .i64 (iFr (Qai xs))], ints .u8 (iSig (Qai xs))]), .nilIface] ∧ OwT w.heap.size ts (.slice a ts.length c) W ∧ ts.length ≤ 255 ∧ ts.length = Qb5 (iS2 (Qai xs)) ∧ ∀ j, j < ts.length → NdIs (itT (Qae (iS2 (Qai xs)) 1) j) (ndi ts j).n)) := by
  refine enter 8 [(0, .slice a_y xs.length c_y)] Try.func30 rfl rfl kj rfl ?_
  refine wp_seq_k fun K1 hK1 => ?_
  refine Qac ?_
  refine Qaq (cat [ints .u8 (List.replicate 32 0), #[.int .i64 0], #[.slice none 0 0], ints .u8 (List.replicate 32 0), ints .u8 (List.replicate 32 0), #[.int .i64 0], ints .u8 (List.replicate 64 0)]) 67 2 rfl kj (Qbo 67 _ rfl (Qc7 _)) fun g2 W1 l2 e1 r2_1 => ?_
  have x1 : Ext w W1 := Ext.tr (Rely.Ext.refl w) e1
  have b2 : w.heap.size ≤ g2 := Nat.le_trans (Rely.Ext.refl w).size l2
  refine Qaa (.nilIface) 3 rfl kj kj ?_
  refine Qaf ?_
  refine hK1 _ _ ?_
  refine wp_seq_k fun K3 hK3 => ?_
  refine Qac ?_
  refine Qaa (.slice a_y xs.length c_y) 4 rfl kj kj ?_
  refine Qaj (fun v W' => (fun v W => ∃ (ts : List NdV) (a : Option Addr) (c : Nat), v = .tuple #[.agg (cat [ints .u8 (iGrp (Qai xs)), #[.int .i64 (iEp (Qai xs))], #[.slice a ts.length c], ints .u8 (iCon (Qai xs)), ints .u8 (iTag (Qai xs)), #[.int .i64 (iFr (Qai xs))], ints .u8 (iSig (Qai xs))]), .nilIface] ∧ OwT W1.heap.size ts (.slice a ts.length c) W ∧ ts.length ≤ 255 ∧ ts.length = Qb5 (iS2 (Qai xs)) ∧ ∀ j, j < ts.length → NdIs (itT (Qae (iS2 (Qai xs)) 1) j) (ndi ts j).n) v W' ∧ Ext W1 W') 73 #[.slice a_y xs.length c_y, .func (.func 74) #[] #[]] 5 rfl kj kj ((Qd5 xs _ _ _ hyb (RdK.here (RdK.ext hy x1)) hS).mono (by rintro e w' ⟨v, rfl, e1, hv⟩; exact ⟨v, rfl, hv, e1⟩)) fun vv4 W2 hh4 => ?_
  obtain ⟨hv4, e2⟩ := hh4
  have x2 : Ext w W2 := Ext.tr x1 e2
  obtain ⟨ts, at_, ct_, rfl, hot, htl, hts⟩ := hv4
  refine Qaa (.agg (cat [ints .u8 (iGrp (Qai xs)), #[.int .i64 (iEp (Qai xs))], #[.slice at_ ts.length ct_], ints .u8 (iCon (Qai xs)), ints .u8 (iTag (Qai xs)), #[.int .i64 (iFr (Qai xs))], ints .u8 (iSig (Qai xs))])) 6 rfl kj kj ?_
  refine Qaa (.nilIface) 7 rfl kj kj ?_
  have r2_2 := (Qas r2_1 e2)
  refine Qa3 g2 _ (cat [ints .u8 (iGrp (Qai xs)), #[.int .i64 (iEp (Qai xs))], #[.slice at_ ts.length ct_], ints .u8 (iCon (Qai xs)), ints .u8 (iTag (Qai xs)), #[.int .i64 (iFr (Qai xs))], ints .u8 (iSig (Qai xs))]) 67 r2_2 rfl kj (Qav 67 _ _ g2 67 _ _ r2_2 rfl kj kj (isz (n := 163) kj (by rw [Qab, Qab, Qab, Qab, Qab, Qab, Qab]; simp only [Array.size_append, cat, ((Qad _ _).trans (Qbx (Qai xs))), ((Qad _ _).trans (Qbw (Qai xs))), ((Qad _ _).trans (Qbv (Qai xs))), ((Qad _ _).trans (Qbu (Qai xs)))]; rfl)) (eqsz (n := 163) (by rw [Qab, Qab, Qab, Qab, Qab, Qab, Qab]; simp only [Array.size_append, cat, ((Qad _ _).trans (List.length_replicate (n := 32))), ((Qad _ _).trans (List.length_replicate (n := 64)))]; rfl) (by rw [Qab, Qab, Qab, Qab, Qab, Qab, Qab]; simp only [Array.size_append, cat, ((Qad _ _).trans (Qbx (Qai xs))), ((Qad _ _).trans (Qbw (Qai xs))), ((Qad _ _).trans (Qbv (Qai xs))), ((Qad _ _).trans (Qbu (Qai xs)))]; rfl)) (QaQ _ (by intro a ha; simp only [List.mem_cons, List.not_mem_nil, or_false] at ha; rcases ha with rfl | rfl | rfl | rfl | rfl | rfl | rfl; exact (Qax _ _); exact (Qau _ rfl); exact (Qau _ rfl); exact (Qax _ _); exact (Qax _ _); exact (Qau _ rfl); exact (Qax _ _)))) fun W3 p3 r2_3 => ?_
  have x3 : Ext w W3 := Puts.ext p3 x2 b2
  refine Qaa (.nilIface) 3 rfl kj kj ?_
  refine Qaf ?_
  refine hK3 _ _ ?_
  refine wp_ret ?_
  repeat (first | with_reducible refine goR1 ?_ | with_reducible refine goR2 ?_)
  exact (show bodyPost _ _ _ .ret _ _ from ret2 (.agg (cat [ints .u8 (iGrp (Qai xs)), #[.int .i64 (iEp (Qai xs))], #[.slice at_ ts.length ct_], ints .u8 (iCon (Qai xs)), ints .u8 (iTag (Qai xs)), #[.int .i64 (iFr (Qai xs))], ints .u8 (iSig (Qai xs))])) (.nilIface) rfl (QaT g2 67 _ r2_3 kj kj (isz (n := 163) kj (by rw [Qab, Qab, Qab, Qab, Qab, Qab, Qab]; simp only [Array.size_append, cat, ((Qad _ _).trans (Qbx (Qai xs))), ((Qad _ _).trans (Qbw (Qai xs))), ((Qad _ _).trans (Qbv (Qai xs))), ((Qad _ _).trans (Qbu (Qai xs)))]; rfl))) (Qar kj) ⟨_, rfl, x3, ts, _, _, rfl, OwT.base (OwT.puts hot p3 r2_2 (by decide) (by decide)) x1.size, htl, hts⟩)
end Go.Proofs.Ytfelfmchachljaa.Wr
end
section
namespace Go.Proofs.Ytfelfmchachljaa.Wr
open Go Go.RowKit
open Rely Auto Own Sha
set_option linter.unusedVariables false
set_option linter.unusedSimpArgs false
theorem Qev (s : Option (List Int)) (ts : List NdV) (hok : ∀ n ∈ ts, NdOk n.n) : Qc6 s ts = if Qbe ts = true then rawS s (Qbk ts) else none := by
  unfold Qc6 QdE
  cases hz : szOk ts.length with
  | false =>
    rw [if_neg (by unfold Qbe; rw [hz, Bool.false_and]; decide)]
    show ts.foldl _ (numS none _ 1) = none
    rw [Qcx]; exact QbQ ts
  | true =>
    have h1 := QcM hz
    show ts.foldl _ (numS s ((ts.length : Nat) : Int) (0 + 1)) = _
    rw [QbF _ _ 0 255 (by decide) (by decide), show inB ((ts.length : Nat) : Int) 255 = true by unfold inB; simp; omega]
    show ts.foldl (fun s n => Qc0 s n.n) (rawS s (beV ((ts.length : Nat) : Int) 1)) = _
    rw [QdQ ts hok]
    cases ha : (ts.all fun n => okN_ n.n) with
    | false => rw [if_neg (by unfold Qbe; rw [hz, ha]; decide)]; rfl
    | true =>
      have ho : Qbe ts = true := by unfold Qbe; rw [hz, ha]; rfl
      rw [if_pos ho]
      rfl
theorem Qcz (ts : List NdV) (r : List Int) (hok : ∀ n ∈ ts, NdOk n.n) (hg : (ts.all fun n => okN_ n.n) = true) : ∀ j, j ≤ ts.length → itT (some ((ts.map fun n => Qbp n.n).flatten ++ r)) j = some (((ts.drop j).map fun n => Qbp n.n).flatten ++ r) ∧ ∀ i, i < j → NdIs (itT (some ((ts.map fun n => Qbp n.n).flatten ++ r)) i) (ndi ts i).n
  | 0, _ => ⟨rfl, fun i hi => absurd hi (Nat.not_lt_zero _)⟩
  | j + 1, hj => by
    obtain ⟨h1, h2⟩ := Qcz ts r hok hg j (by omega)
    have hm := Qcf ts j (by omega)
    have ho := hok _ hm
    have hgj : okN_ (ndi ts j).n = true := (List.all_eq_true.1 hg) _ hm
    rw [QdX ts j (by omega), List.map_cons, List.flatten_cons, List.append_assoc] at h1
    obtain ⟨n1, n2, n3, n4, n5, n6, n7⟩ := Qej _ _ _ _ _ _ _ ho.kl ho.gl ho.pl hgj _ h1
    refine ⟨n6, fun i hi => ?_⟩
    rcases Nat.lt_or_ge i j with h3 | h3
    · exact h2 i h3
    · obtain rfl : i = j := by omega
      exact ⟨n1.symm, n2.symm, n3.symm, n4.symm, n5.symm, n7.symm⟩
theorem QdR (grp : List Int) (ep : Int) (ts : List NdV) (con tag : List Int) (fr : Int) (sig : List Int) (hrl : grp.length = 32) (hcl : con.length = 32) (hgl : tag.length = 32) (hil : sig.length = 64) (hok : ∀ n ∈ ts, NdOk n.n) : Qda (some []) grp ep ts con tag fr sig = refI grp ep ts con tag fr sig := by
  unfold Qda refI
  rw [Qev _ ts hok, QcY, QbF _ ep 3 4294967295 (by decide) (by decide)]
  cases h1 : Qbe ts with
  | false =>
    rw [if_neg (by decide), if_neg (by unfold QbG; rw [h1, Bool.and_false]; decide)]
    cases inB fr 31 <;> rfl
  | true =>
    rw [if_pos rfl]
    cases h2 : inB ep 4294967295 with
    | false =>
      rw [if_neg (by unfold QbG hgB; rw [h2, Bool.false_and, Bool.false_and]; decide)]
      cases inB fr 31 <;> rfl
    | true =>
      cases h3 : inB fr 31 with
      | false => rw [if_neg (by unfold QbG hgB; rw [h3, Bool.and_false, Bool.false_and]; decide)]; rfl
      | true =>
        have ho : QbG ep ts fr = true := by unfold QbG hgB; rw [h1, h2, h3]; rfl
        rw [if_pos ho]
        show rawS (rawS (rawS (rawS (rawS (rawS (rawS (some []) grp) (beV ep 4)) (Qbk ts)) con) tag) (beV fr 1)) sig = _
        rw [QaW, QaW, QaW, QaW, QaW, QaW, Qfn]
        have e : grp ++ (beV ep 4 ++ (Qbk ts ++ (con ++ (tag ++ (beV fr 1 ++ sig))))) = QbS grp ep ts con tag fr sig := by unfold QbS; simp only [List.append_assoc]; rfl
        rw [e]
        unfold fitV
        rw [if_pos (by have := (Qc3 grp ep ts con tag fr sig hrl hcl hgl hil hok ho).1; omega)]
theorem Qeo (grp : List Int) (ep : Int) (ts : List NdV) (con tag : List Int) (fr : Int) (sig : List Int) (hrb : Qal grp) (hcb : Qal con) (hgb : Qal tag) (hib : Qal sig) (hok : ∀ n ∈ ts, NdOk n.n) : Qal (QbS grp ep ts con tag fr sig) := by
  unfold QbS
  exact QaP (QaP (QaP (QaP (QaP (QaP hrb (Qb3 ep 4)) (Qd0 ts hok)) hcb) hgb) (Qb3 fr 1)) hib
theorem Qdz (ys : List Int) (h : ys.length = 64) : QbI ys = ys := by
  unfold QbI
  rw [h, show (List.replicate 64 (0 : Int)).drop 64 = [] from rfl, List.append_nil]
theorem QeM (grp : List Int) (ep : Int) (ts : List NdV) (con tag : List Int) (fr : Int) (sig : List Int) (bs : List Int) (hrl : grp.length = 32) (hcl : con.length = 32) (hgl : tag.length = 32) (hil : sig.length = 64) (hok : ∀ n ∈ ts, NdOk n.n) (h : refI grp ep ts con tag fr sig = some bs) :
    Qc4 (Qai bs) = some [] ∧ iGrp (Qai bs) = grp ∧ iEp (Qai bs) = ep ∧ iCon (Qai bs) = con ∧ iTag (Qai bs) = tag ∧ iFr (Qai bs) = fr ∧ iSig (Qai bs) = sig ∧ Qb5 (iS2 (Qai bs)) = ts.length ∧ (∀ j, j < ts.length → NdIs (itT (Qae (iS2 (Qai bs)) 1) j) (ndi ts j).n) ∧ bs.length ≤ 65536 ∧ 0 < bs.length := by
  unfold refI at h
  split at h
  · rename_i ho
    obtain rfl := Option.some.inj h
    have hlen := Qc3 grp ep ts con tag fr sig hrl hcl hgl hil hok ho
    have ho' := ho
    unfold QbG hgB at ho'
    simp only [Bool.and_eq_true] at ho'
    obtain ⟨⟨h1, h2⟩, hT⟩ := ho'
    have b1 := QbX h1
    have b2 := QbX h2
    have hT' := hT
    unfold Qbe at hT'
    rw [Bool.and_eq_true] at hT'
    have hz := QcM hT'.1
    rw [Qd1 _ (by omega)]
    have e : QbS grp ep ts con tag fr sig = grp ++ (beV ep 4 ++ (Qbk ts ++ (con ++ (tag ++ (beV fr 1 ++ sig))))) := by unfold QbS; simp only [List.append_assoc]; rfl
    obtain ⟨s, hs⟩ : ∃ s, s = some (QbS grp ep ts con tag fr sig) := ⟨_, rfl⟩
    rw [← hs]
    rw [e] at hs
    have s1 : iS1 s = some (beV ep 4 ++ (Qbk ts ++ (con ++ (tag ++ (beV fr 1 ++ sig))))) := by unfold iS1; rw [hs]; exact QaL _ _ 32 hrl
    have s2 : iS2 s = some (Qbk ts ++ (con ++ (tag ++ (beV fr 1 ++ sig)))) := by unfold iS2; rw [s1]; exact QaL _ _ 4 (QaG _ 4)
    have eT : Qbk ts ++ (con ++ (tag ++ (beV fr 1 ++ sig))) = beV ((ts.length : Nat) : Int) 1 ++ ((ts.map fun n => Qbp n.n).flatten ++ (con ++ (tag ++ (beV fr 1 ++ sig)))) := by unfold Qbk; rw [List.append_assoc]; rfl
    have q : Qb5 (iS2 s) = ts.length := by unfold Qb5; rw [s2, eT, QaI _ _ 1 (QaG _ 1), QdZ, Nat.mod_eq_of_lt (by omega)]
    have sT : Qae (iS2 s) 1 = some ((ts.map fun n => Qbp n.n).flatten ++ (con ++ (tag ++ (beV fr 1 ++ sig)))) := by rw [s2, eT]; exact QaL _ _ 1 (QaG _ 1)
    obtain ⟨n1, n2⟩ := Qcz ts (con ++ (tag ++ (beV fr 1 ++ sig))) hok hT'.2 ts.length (Nat.le_refl _)
    have s3 : iS3 s = some (con ++ (tag ++ (beV fr 1 ++ sig))) := by
      unfold iS3 QaK
      rw [q, sT, n1, List.drop_length, hT'.1]; rfl
    have s4 : iS4 s = some (tag ++ (beV fr 1 ++ sig)) := by unfold iS4; rw [s3]; exact QaL _ _ 32 hcl
    have s5 : iS5 s = some (beV fr 1 ++ sig) := by unfold iS5; rw [s4]; exact QaL _ _ 32 hgl
    have qf : ((bigN (beV fr 1) : Nat) : Int) = fr := QdY fr 1 b2.1 (by omega)
    have s6 : iS6 s = some sig := by unfold iS6 QaS; rw [s5, QaI _ _ 1 (QaG _ 1), qf, QaL _ _ 1 (QaG _ 1), decide_eq_true (by omega)]; rfl
    have w0 : Qak (some sig) 64 = sig := by have := QaI sig [] 64 hil; rwa [List.append_nil] at this
    have w1 : Qae (some sig) 64 = some [] := by have := QaL sig [] 64 hil; rwa [List.append_nil] at this
    refine ⟨by unfold Qc4; rw [s6]; exact w1, ?_, ?_, ?_, ?_, ?_, ?_, q, fun j hj => by rw [sT]; exact n2 j hj, by omega, hlen.2⟩
    · unfold iGrp; rw [hs, QaI _ _ 32 hrl, QbB _ hrl]
    · unfold iEp; rw [s1, QaI _ _ 4 (QaG _ 4), QdY ep 4 b1.1 (by omega)]
    · unfold iCon; rw [s3, QaI _ _ 32 hcl, QbB _ hcl]
    · unfold iTag; rw [s4, QaI _ _ 32 hgl, QbB _ hgl]
    · unfold iFr; rw [s5, QaI _ _ 1 (QaG _ 1), qf]
    · unfold iSig; rw [s6, w0]; exact Qdz _ hil
  · cases h
end Go.Proofs.Ytfelfmchachljaa.Wr
end
section
namespace Go.Proofs.Ytfelfmchachljaa.Wr
open Go Go.RowKit
open Rely Auto Own Sha
set_option linter.unusedVariables false
set_option linter.unusedSimpArgs false
set_option maxHeartbeats 4000000 in
theorem Qf8 (w : World) : Calls Try.prog 12 #[] w (Ret w (.bool true)) := by
  refine enter 40 [] Try.func12 rfl rfl kj rfl ?_
  refine wp_seq_k fun K1 hK1 => ?_
  refine Qac ?_
  refine Qaa (.bool false) 0 rfl kj kj ?_
  refine Qaf ?_
  refine hK1 _ _ ?_
  refine wp_seq_k fun K2 hK2 => ?_
  refine Qac ?_
  refine Qaa (.agg (cat [(Array.replicate 32 (.int .u8 0)), #[.int .i64 0], #[.int .i64 0], #[.int .i64 0], #[.slice none 0 0]])) 7 rfl kj kj ?_
  refine Qaj (fun v W' => (PutR w.heap.size (some (List.replicate 43 (0 : Int)))) v W' ∧ Ext w W') 34 #[.agg (cat [(Array.replicate 32 (.int .u8 0)), #[.int .i64 0], #[.int .i64 0], #[.int .i64 0], #[.slice none 0 0]])] 8 rfl kj kj ((QdK (List.replicate 32 0) 0 0 0 [] none 0 _ rfl (fun x hx => by rw [(List.mem_replicate.1 hx).2]; decide) (by decide) QbM (QfL _ _) (List.replicate 43 (0 : Int)) (by decide +kernel)).mono (by rintro e w' ⟨v, rfl, e1, hv⟩; exact ⟨v, rfl, hv, e1⟩)) fun vv3 W1 hh3 => ?_
  obtain ⟨hv3, e1⟩ := hh3
  have x1 : Ext w W1 := Ext.tr (Rely.Ext.refl w) e1
  obtain ⟨ub, rfl, hub⟩ := hv3
  obtain ⟨ab, cb, rfl, hcb, -⟩ := id (OwnN.rd hub)
  have hb43 : OwnN .u8 5 w.heap.size (List.replicate 43 (0 : Int)) (.slice ab 43 cb) W1 := hub
  replace hcb : 43 ≤ cb := hcb
  refine Qaa (.tuple #[.slice ab 43 cb, .nilIface]) 6 rfl kj kj ?_
  refine Qaa (.slice ab 43 cb) 9 rfl kj kj ?_
  refine Qaa (.nilIface) 10 rfl kj kj ?_
  refine Qaa (.slice ab 43 cb) 1 rfl kj kj ?_
  refine Qaa (.nilIface) 2 rfl kj kj ?_
  refine Qaf ?_
  refine hK2 _ _ ?_
  refine wp_seq_k fun K4 hK4 => ?_
  refine wp_seq_k fun K5 hK5 => ?_
  refine Qac ?_
  refine Qaa (.nilIface) 11 rfl kj kj ?_
  refine Qaa (.bool false) 12 rfl kj kj ?_
  refine Qaa (.bool false) 13 rfl kj kj ?_
  refine Qaa (.slice ab 43 cb) 14 rfl kj kj ?_
  refine Qaa (.int .i64 43) 15 rfl kj kj ?_
  refine Qaa (.bool false) 16 rfl kj kj ?_
  refine Qaa (.bool false) 17 rfl kj kj ?_
  refine Qaf ?_
  refine hK5 _ _ ?_
  refine cond_false kj ?_
  refine wp_skip ?_
  refine hK4 _ _ ?_
  refine wp_seq_k fun K6 hK6 => ?_
  refine Qac ?_
  refine Qaa (.slice ab 43 cb) 19 rfl kj kj ?_
  refine Qaj (fun v W' => (fun v W => ∃ (a_s : Option Addr) (c_s : Nat), v = .tuple #[.agg (cat [ints .u8 (pGrp (Qai (List.replicate 43 (0 : Int)))), #[.int .i64 (pEp (Qai (List.replicate 43 (0 : Int))))], #[.int .i64 (pFr (Qai (List.replicate 43 (0 : Int))))], #[.int .i64 (pNo (Qai (List.replicate 43 (0 : Int))))], #[.slice a_s (pSe (Qai (List.replicate 43 (0 : Int)))).length c_s]]), .nilIface] ∧ OwnN .u8 5 W1.heap.size (pSe (Qai (List.replicate 43 (0 : Int)))) (.slice a_s (pSe (Qai (List.replicate 43 (0 : Int)))).length c_s) W ∧ Qal (pSe (Qai (List.replicate 43 (0 : Int)))) ∧ (pSe (Qai (List.replicate 43 (0 : Int)))).length ≤ 65535) v W' ∧ Ext W1 W') 36 #[.slice ab 43 cb] 20 rfl kj kj ((QcV (List.replicate 43 (0 : Int)) _ _ _ (fun x hx => by rw [(List.mem_replicate.1 hx).2]; decide) (RdK.here (OwnN.rd hb43)) (by decide +kernel)).mono (by rintro e w' ⟨v, rfl, e1, hv⟩; exact ⟨v, rfl, hv, e1⟩)) fun vv7 W2 hh7 => ?_
  obtain ⟨hv7, e2⟩ := hh7
  have x2 : Ext w W2 := Ext.tr x1 e2
  obtain ⟨as1, cs1, rfl, hs1, -, -⟩ := hv7
  refine Qaa (.tuple #[.agg (cat [ints .u8 (pGrp (Qai (List.replicate 43 (0 : Int)))), #[.int .i64 (pEp (Qai (List.replicate 43 (0 : Int))))], #[.int .i64 (pFr (Qai (List.replicate 43 (0 : Int))))], #[.int .i64 (pNo (Qai (List.replicate 43 (0 : Int))))], #[.slice as1 ((pSe (Qai (List.replicate 43 (0 : Int)))).length) cs1]]), .nilIface]) 18 rfl kj kj ?_
  refine Qaa (.agg (cat [ints .u8 (pGrp (Qai (List.replicate 43 (0 : Int)))), #[.int .i64 (pEp (Qai (List.replicate 43 (0 : Int))))], #[.int .i64 (pFr (Qai (List.replicate 43 (0 : Int))))], #[.int .i64 (pNo (Qai (List.replicate 43 (0 : Int))))], #[.slice as1 ((pSe (Qai (List.replicate 43 (0 : Int)))).length) cs1]])) 21 rfl kj kj ?_
  refine Qaa (.nilIface) 22 rfl kj kj ?_
  refine Qaq (cat [(Array.replicate 32 (.int .u8 0)), #[.int .i64 0], #[.int .i64 0], #[.int .i64 0], #[.slice none 0 0]]) 81 3 rfl kj kj fun g8 W3 l8 e3 r8_3 => ?_
  have x3 : Ext w W3 := Ext.tr x2 e3
  have b8 : w.heap.size ≤ g8 := Nat.le_trans x2.size l8
  refine Qa3 g8 _ (cat [ints .u8 (pGrp (Qai (List.replicate 43 (0 : Int)))), #[.int .i64 (pEp (Qai (List.replicate 43 (0 : Int))))], #[.int .i64 (pFr (Qai (List.replicate 43 (0 : Int))))], #[.int .i64 (pNo (Qai (List.replicate 43 (0 : Int))))], #[.slice as1 ((pSe (Qai (List.replicate 43 (0 : Int)))).length) cs1]]) 81 r8_3 rfl kj (Qav 81 _ _ g8 81 _ _ r8_3 rfl kj kj (isz (n := 36) kj (by rw [Qab, Qab, Qab, Qab, Qab]; simp only [Array.size_append, cat, ((Qad _ _).trans (QaR (Qai (List.replicate 43 (0 : Int)))))]; rfl)) (eqsz (n := 36) kj (by rw [Qab, Qab, Qab, Qab, Qab]; simp only [Array.size_append, cat, ((Qad _ _).trans (QaR (Qai (List.replicate 43 (0 : Int)))))]; rfl)) (QaQ _ (by intro a ha; simp only [List.mem_cons, List.not_mem_nil, or_false] at ha; rcases ha with rfl | rfl | rfl | rfl | rfl; exact (Qax _ _); exact (Qau _ rfl); exact (Qau _ rfl); exact (Qau _ rfl); exact (Qau _ rfl)))) fun W4 p4 r8_4 => ?_
  have x4 : Ext w W4 := Puts.ext p4 x3 b8
  refine Qaa (.nilIface) 2 rfl kj kj ?_
  refine Qaf ?_
  refine hK6 _ _ ?_
  refine wp_seq_k fun K9 hK9 => ?_
  refine Qac ?_
  refine Qaa (.slice ab 43 cb) 24 rfl kj kj ?_
  refine Qaa (.slice (Qcv ab cb 1) (43 - 1) (cb - 1)) 25 rfl kj (Qc9 26 _ _ 1 5 rfl (a := ab) (len := 43) (cap := cb) kj kj kj .i64 kj (by decide) hcb) ?_
  have f10_2 := (hb43.ext e2)
  have f11_3 := (f10_2.ext e3)
  have f12_4 := (f11_3.puts p4 (QcF f10_2 l8))
  refine Qay (.tuple #[.agg (cat [(Array.replicate 32 (.int .u8 0)), #[.int .i64 0], #[.int .i64 0], #[.int .i64 0], #[.slice none 0 0]]), .iface 102 (.int .i64 3)]) 36 #[.slice (Qcv ab cb 1) (43 - 1) (cb - 1)] 26 rfl kj kj (Qdr ((List.replicate 43 (0 : Int)).drop 1) _ _ _ (QbR (fun x hx => by rw [(List.mem_replicate.1 hx).2]; decide) 1) (RdK.here (QdP (OwnN.rd f12_4) 1 (by decide))) (by decide +kernel)) fun W5 e5 => ?_
  have x5 : Ext w W5 := Ext.tr x4 e5
  refine Qaa (.tuple #[.agg (cat [(Array.replicate 32 (.int .u8 0)), #[.int .i64 0], #[.int .i64 0], #[.int .i64 0], #[.slice none 0 0]]), .iface 102 (.int .i64 3)]) 23 rfl kj kj ?_
  refine Qaa (.agg (cat [(Array.replicate 32 (.int .u8 0)), #[.int .i64 0], #[.int .i64 0], #[.int .i64 0], #[.slice none 0 0]])) 27 rfl kj kj ?_
  refine Qaa (.iface 102 (.int .i64 3)) 28 rfl kj kj ?_
  refine Qaq (cat [(Array.replicate 32 (.int .u8 0)), #[.int .i64 0], #[.int .i64 0], #[.int .i64 0], #[.slice none 0 0]]) 81 4 rfl kj kj fun g13 W6 l13 e6 r13_6 => ?_
  have x6 : Ext w W6 := Ext.tr x5 e6
  have b13 : w.heap.size ≤ g13 := Nat.le_trans x5.size l13
  refine Qa3 g13 _ (cat [(Array.replicate 32 (.int .u8 0)), #[.int .i64 0], #[.int .i64 0], #[.int .i64 0], #[.slice none 0 0]]) 81 r13_6 rfl kj (Qav 81 _ _ g13 81 _ _ r13_6 rfl kj kj (isz (n := 36) kj kj) (eqsz (n := 36) kj kj) kj) fun W7 p7 r13_7 => ?_
  have x7 : Ext w W7 := Puts.ext p7 x6 b13
  refine Qaa (.iface 102 (.int .i64 3)) 5 rfl kj kj ?_
  refine Qaf ?_
  refine hK9 _ _ ?_
  refine wp_seq_k fun K14 hK14 => ?_
  refine Qac ?_
  refine Qaa (.nilIface) 29 rfl kj kj ?_
  refine Qaa (.bool true) 30 rfl kj kj ?_
  refine Qaa (.bool true) 31 rfl kj kj ?_
  refine Qaa (.pointer (some ⟨g8, 32, none⟩)) 32 rfl kj kj ?_
  have r8_5 := (Qas r8_4 e5)
  have r8_6 := (Qas r8_5 e6)
  have r8_7 := (Puts.row p7 r8_6 (QaD r8_5 l13))
  refine Qaa (.int .i64 (pEp (Qai (List.replicate 43 (0 : Int))))) 33 rfl kj (Qag 3 _ g8 32 81 _ (.int .i64 (pEp (Qai (List.replicate 43 (0 : Int))))) _ r8_7 rfl kj (Qam [ints .u8 (pGrp (Qai (List.replicate 43 (0 : Int))))] [#[.int .i64 (pEp (Qai (List.replicate 43 (0 : Int))))]] [#[.int .i64 (pFr (Qai (List.replicate 43 (0 : Int))))], #[.int .i64 (pNo (Qai (List.replicate 43 (0 : Int))))], #[.slice as1 ((pSe (Qai (List.replicate 43 (0 : Int)))).length) cs1]] 32 ((Qad _ _).trans (QaR (Qai (List.replicate 43 (0 : Int))))) 0 _ rfl) kj) ?_
  refine Qaa (.bool true) 34 rfl kj kj ?_
  refine Qaa (.bool true) 35 rfl kj kj ?_
  refine Qaa (.bool true) 36 rfl kj kj ?_
  refine Qaa (.iface 102 (.int .i64 3)) 37 rfl kj kj ?_
  refine Qay (.bool true) 45 #[.iface 102 (.int .i64 3), .int .i64 3] 38 rfl kj kj ((is3) _) fun W8 e8 => ?_
  have x8 : Ext w W8 := Ext.tr x7 e8
  refine Qaa (.bool true) 39 rfl kj kj ?_
  refine Qaa (.bool true) 0 rfl kj kj ?_
  refine Qaf ?_
  refine hK14 _ _ ?_
  refine wp_ret ?_
  repeat (first | with_reducible refine goR1 ?_ | with_reducible refine goR2 ?_)
  exact (show bodyPost _ _ _ .ret _ _ from ret1 (.bool true) rfl (Qar kj) ⟨rfl, x8⟩)
end Go.Proofs.Ytfelfmchachljaa.Wr
end
