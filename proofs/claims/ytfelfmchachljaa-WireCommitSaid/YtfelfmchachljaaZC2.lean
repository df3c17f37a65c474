/- Texts of this claim, joined (C2). -/
import Derived.Test.YtfelfmchachljaaZC1

section
namespace Go.Proofs.Ytfelfmchachljaa.Wr
open Go Go.RowKit
open Rely Auto Own Sha
set_option linter.unusedVariables false
set_option linter.unusedSimpArgs false
open Wk
section
variable {P : Program} {ops : Array Oper} {Q : Exit → Act → World → Prop} {o : Oper} {N : Nat} {L : Env} {w V : World} {ds : List Deferred} {fuel : Nat} {listed : Array Bool}
theorem Qca {k : IntKind} {T : TypeId} (b : Nat) (s x : Operand) (t : TypeId) (ho2 : o.op = .call { callee := .builtin .append, args := #[s, x], argTypes := #[t, t] })
    (ht : P.underlying t = some (.slice T)) (hi : (P.info? T).map (fun i => (i.zero, i.size, i.bytes)) = some (some (.int k 0), 1, b)) (hb8 : b ≤ 8) (d : Nat) (hd : o.dst = some d) (j : Nat) (ho : ops[j]? = some o) (hg : QbL ops o N L = some true) {B : Nat} {v y : Value} {xs ys : List Int}
    (hs : Rely.look (envN N L) s = v) (hx : Rely.look (envN N L) x = y)
    (h : OwnN k T V.heap.size xs v w) (hy : RdK k B ys y w) (hn : xs.length + ys.length ≤ 1000000000) (hV : Ext V w)
    (kk : ∀ (u : Value) (W' : World), OwnN k T V.heap.size (xs ++ ys) u W' → Ext V W' → Below V.heap.size w W' → WB P ops Q (fun _ => True) fuel (listed.setIfInBounds j true) (QaG ds N ((d, u) :: L)) W') : WO P ops Q (fun _ => True) j fuel listed (QaG ds N L) w := by
  obtain ⟨v', W', h1, h2, h3, h4⟩ := Qc1 (ρ := Rely.look (envN N L)) (o := o) (W := w) s x t ho2 ht hi hb8 hs hx h hy hn hV.size
  exact wo_run ho (fun u W' => OwnN k T V.heap.size (xs ++ ys) u W' ∧ Ext V W' ∧ Below V.heap.size w W') d hd hg ⟨v', W', h1, h2, Qd6 hV h h3, ⟨h3.os, h3.tape, h3.output, h3.size, fun i hi => h3.block i (Nat.lt_of_lt_of_le hi hV.size) (fun q => by have := h.ge q.symm; omega)⟩⟩ (fun _ _ _ => trivial) fun u W' h => kk u W' h.1 h.2.1 h.2.2
end
def Qch (us : Bool) (nm : Int) (key sg pa : List Int) (n : Nat) : List Int := [bif us then 1 else 0, byV nm 0] ++ key ++ sg ++ pa ++ [byV ((n : Nat) : Int) 0]
def Qbo (us : Bool) (nm : Int) (key sg pa ms : List Int) : List Int := Qch us nm key sg pa ms.length ++ ms.map fun m => byV m 0
theorem QdN (H ms : List Int) (i : Nat) (h : i < ms.length) : H ++ (ms.take (i + 1)).map (fun m => byV m 0) = H ++ (ms.take i).map (fun m => byV m 0) ++ [byV (nth ms i) 0] := by
  have e : ms.take (i + 1) = ms.take i ++ [nth ms i] := by
    rw [List.take_add_one, List.getElem?_eq_getElem h]
    unfold nth
    rw [List.getD_eq_getElem?_getD, List.getElem?_eq_getElem h]
    rfl
  rw [e, List.map_append, ← List.append_assoc]
  rfl
set_option maxHeartbeats 4000000 in
theorem Qf7 (nm : Int) (key sg pa ms : List Int) (a_m : Option Addr) (c_m : Nat) (w : World) (hkl : key.length = 32) (hgl : sg.length = 32) (hpl : pa.length = 32) (hml : ms.length ≤ 1000000) (hm : RdK .i64 w.heap.size ms (.slice a_m ms.length c_m) w) : Calls Try.prog 97 #[.agg (cat [#[.bool true], #[.int .i64 nm], ints .u8 (key), ints .u8 (sg), ints .u8 (pa), #[.slice a_m ms.length c_m]])] w (QbE w (OwnN .u8 5 w.heap.size (Qbo true nm key sg pa ms))) := by
 refine enter 47 [(0, .agg (cat [#[.bool true], #[.int .i64 nm], ints .u8 (key), ints .u8 (sg), ints .u8 (pa), #[.slice a_m ms.length c_m]]))] Try.func97 rfl rfl kj rfl ?_
 refine wp_seq_k fun K1 hK1 => ?_
 refine Qae ?_
 refine Qav (cat [#[.bool true], #[.int .i64 nm], ints .u8 (key), ints .u8 (sg), ints .u8 (pa), #[.slice a_m ms.length c_m]]) 43 1 rfl kj kj fun g2 W1 l2 e1 r2_1 => ?_
 have x1 : Ext w W1 := Ext.tr (Rely.Ext.refl w) e1
 have b2 : w.heap.size ≤ g2 := Nat.le_trans (Rely.Ext.refl w).size l2
 refine Qab (.slice none 0 0) 2 rfl kj kj ?_
 refine Qaf ?_
 refine hK1 _ _ ?_
 refine wp_seq_k fun K3 hK3 => ?_
 refine Qae ?_
 refine Qab (.pointer (some ⟨g2, 1, none⟩)) 5 rfl kj kj ?_
 refine Qab (.int .i64 nm) 6 rfl kj (Qag 3 _ g2 1 43 _ (.int .i64 nm) _ r2_1 rfl kj (Qah [#[.bool true]] [#[.int .i64 nm]] [ints .u8 (key), ints .u8 (sg), ints .u8 (pa), #[.slice a_m ms.length c_m]] 1 kj 0 _ rfl) kj) ?_
 refine Qab (.int .u8 (byV nm 0)) 7 rfl kj (Qax (u := .int .u8 (IntKind.u8.wrap (nm))) kj (congrArg (Value.int .u8) (byV0 nm))) ?_
 refine Qbs (ints .u8 ([0, (byV nm 0)])) 5 2 8 rfl kj kj fun g4 W2 l4 e2 r4_2 => ?_
 have x2 : Ext w W2 := Ext.tr x1 e2
 have b4 : w.heap.size ≤ g4 := Nat.le_trans x1.size l4
 refine Qab (.slice (some ⟨g4, 0, none⟩) 2 2) 3 rfl kj kj ?_
 refine Qaf ?_
 refine hK3 _ _ ?_
 refine wp_seq_k fun K5 hK5 => ?_
 refine wp_seq_k fun K6 hK6 => ?_
 refine Qae ?_
 refine Qab (.pointer (some ⟨g2, 0, none⟩)) 9 rfl kj kj ?_
 have r2_2 := (Qar r2_1 e2)
 refine Qab (.bool true) 10 rfl kj (Qag 4 _ g2 0 43 _ (.bool true) _ r2_2 rfl kj (Qah [] [#[.bool true]] [#[.int .i64 nm], ints .u8 (key), ints .u8 (sg), ints .u8 (pa), #[.slice a_m ms.length c_m]] 0 kj 0 _ rfl) kj) ?_
 refine Qaf ?_
 refine hK6 _ _ ?_
 refine cond_true kj ?_
 refine Qae ?_
 refine Qab (.slice (some ⟨g4, 0, none⟩) 2 2) 11 rfl kj kj ?_
 refine Qab (.pointer (some ⟨g4, 0, none⟩)) 12 rfl kj (QcI 26 _ _ .i64 (0) g4 2 2 5 rfl kj kj kj kj (by decide)) ?_
 refine Qa3 g4 _ (ints .u8 (([0, (byV nm 0)]).set 0 1)) 5 r4_2 rfl kj (Qf4 5 _ _ g4 0 5 _ _ r4_2 rfl kj kj kj (Nat.lt_of_lt_of_eq (show 0 < 2 by decide) rfl.symm)) fun W3 p3 r4_3 => ?_
 have x3 : Ext w W3 := Puts.ext p3 x2 b4
 refine Qaf ?_
 refine hK5 _ _ ?_
 refine wp_seq_k fun K7 hK7 => ?_
 refine region_walkG (fun _ => True) kj fun W4 e4 => ⟨trivial, ?_⟩
 have x4 : Ext w W4 := Ext.tr x3 e4
 refine Qat 0 (.slice (some ⟨g4, 0, none⟩) 2 2) 13 rfl rfl kj kj (fun _ _ _ h => h) (fun W hR => by kernel_rfl) ?_
 refine Qat 1 (.pointer (some ⟨g2, 2, none⟩)) 14 rfl rfl kj kj (fun _ _ _ h => h) (fun W hR => by kernel_rfl) ?_
 refine Qat 2 (.slice (some ⟨g2, 2, none⟩) 32 32) 15 rfl rfl kj kj (fun _ _ _ h => h) (fun W hR => by kernel_rfl) ?_
 refine Qat 4 (.pointer (some ⟨g2, 34, none⟩)) 17 rfl rfl kj kj (fun _ _ _ h => h) (fun W hR => by kernel_rfl) ?_
 refine Qat 5 (.slice (some ⟨g2, 34, none⟩) 32 32) 18 rfl rfl kj kj (fun _ _ _ h => h) (fun W hR => by kernel_rfl) ?_
 refine Qat 7 (.pointer (some ⟨g2, 66, none⟩)) 20 rfl rfl kj kj (fun _ _ _ h => h) (fun W hR => by kernel_rfl) ?_
 refine Qat 8 (.slice (some ⟨g2, 66, none⟩) 32 32) 21 rfl rfl kj kj (fun _ _ _ h => h) (fun W hR => by kernel_rfl) ?_
 refine QaJ 3 kj ?_
 have r4_4 := (Qar r4_3 e4)
 have r2_3 := (Puts.row p3 r2_2 (QaI r2_1 l4))
 have r2_4 := (Qar r2_3 e4)
 have y1_2 : Ext W1 W2 := (Rely.Ext.trans (Rely.Ext.refl W1) e2)
 have y1_3 : Ext W1 W3 := (Puts.ext p3 y1_2 l4)
 have y1_4 : Ext W1 W4 := (Rely.Ext.trans y1_3 e4)
 refine Qca (k := .u8) (T := 5) (xs := ([0, (byV nm 0)]).set 0 1) (ys := key) (V := W1) 1 (.tmp 13) (.tmp 15) 26 rfl kj kj (by decide) 16 rfl 3 rfl kj kj kj (QcA (xs := ([0, (byV nm 0)]).set 0 1) rfl l4 r4_4 (show 2 ≤ maxLen by decide)) (QaB 2 hkl r2_4 (fun i hi => Qa8 [#[.bool true], #[.int .i64 nm]] [ints .u8 (sg), ints .u8 (pa), #[.slice a_m ms.length c_m]] key 2 i (2 + i) kj rfl (by rw [hkl]; exact hi)) (Qay r2_4) (Nat.le_refl _) (by decide)) (by simp only [List.length_append, List.length_cons, List.length_nil, List.length_map, List.length_take, List.length_set, Qch, hkl, hgl, hpl]; omega) y1_4 fun z1 W5 f8 y5 l5 => ?_
 have x5 : Ext w W5 := Ext.low x4 l5 x1.size
 refine QaJ 6 kj ?_
 have r2_5 := (QbJ l5 r2_4 (Qay r2_1))
 refine Qca (k := .u8) (T := 5) (xs := ([0, (byV nm 0)]).set 0 1 ++ key) (ys := sg) (V := W1) 1 (.tmp 16) (.tmp 18) 26 rfl kj kj (by decide) 19 rfl 6 rfl kj kj kj f8 (QaB 34 hgl r2_5 (fun i hi => Qa8 [#[.bool true], #[.int .i64 nm], ints .u8 (key)] [ints .u8 (pa), #[.slice a_m ms.length c_m]] sg 34 i (34 + i) (by rw [Qaa, Qaa, Qaa]; simp only [Array.size_append, cat, ((Qac _ _).trans hkl)]; rfl) rfl (by rw [hgl]; exact hi)) (Qay r2_5) (Nat.le_refl _) (by decide)) (by simp only [List.length_append, List.length_cons, List.length_nil, List.length_map, List.length_take, List.length_set, Qch, hkl, hgl, hpl]; omega) y5 fun z2 W6 f10 y6 l6 => ?_
 have x6 : Ext w W6 := Ext.low x5 l6 x1.size
 refine QaJ 9 kj ?_
 have r2_6 := (QbJ l6 r2_5 (Qay r2_1))
 refine Qca (k := .u8) (T := 5) (xs := ([0, (byV nm 0)]).set 0 1 ++ key ++ sg) (ys := pa) (V := W1) 1 (.tmp 19) (.tmp 21) 26 rfl kj kj (by decide) 22 rfl 9 rfl kj kj kj f10 (QaB 66 hpl r2_6 (fun i hi => Qa8 [#[.bool true], #[.int .i64 nm], ints .u8 (key), ints .u8 (sg)] [#[.slice a_m ms.length c_m]] pa 66 i (66 + i) (by rw [Qaa, Qaa, Qaa, Qaa]; simp only [Array.size_append, cat, ((Qac _ _).trans hgl), ((Qac _ _).trans hkl)]; rfl) rfl (by rw [hpl]; exact hi)) (Qay r2_6) (Nat.le_refl _) (by decide)) (by simp only [List.length_append, List.length_cons, List.length_nil, List.length_map, List.length_take, List.length_set, Qch, hkl, hgl, hpl]; omega) y6 fun z3 W7 f12 y7 l7 => ?_
 have x7 : Ext w W7 := Ext.low x6 l7 x1.size
 refine Qat 10 (z3) 3 rfl rfl kj kj (fun _ _ _ h => h) (fun W hR => by kernel_rfl) ?_
 refine wb_nil kj ?_
 refine hK7 _ _ ?_
 refine wp_seq_k fun K14 hK14 => ?_
 refine Qae ?_
 refine Qab (z3) 23 rfl kj kj ?_
 refine Qab (.pointer (some ⟨g2, 98, none⟩)) 24 rfl kj kj ?_
 have r2_7 := (QbJ l7 r2_6 (Qay r2_1))
 refine Qab (.slice a_m ms.length c_m) 25 rfl kj (Qag 41 _ g2 98 43 _ (.slice a_m ms.length c_m) _ r2_7 rfl kj (Qah [#[.bool true], #[.int .i64 nm], ints .u8 (key), ints .u8 (sg), ints .u8 (pa)] [#[.slice a_m ms.length c_m]] [] 98 (by rw [Qaa, Qaa, Qaa, Qaa, Qaa]; simp only [Array.size_append, cat, ((Qac _ _).trans hgl), ((Qac _ _).trans hkl), ((Qac _ _).trans hpl)]; rfl) 0 _ rfl) kj) ?_
 refine Qab (.int .i64 ((ms.length : Nat) : Int)) 26 rfl kj kj ?_
 refine Qab (.int .u8 (byV ((ms.length : Nat) : Int) 0)) 27 rfl kj (Qax (u := .int .u8 (IntKind.u8.wrap ((ms.length : Nat) : Int))) kj (congrArg (Value.int .u8) (byV0 _))) ?_
 refine Qbs (ints .u8 ([(byV ((ms.length : Nat) : Int) 0)])) 5 1 28 rfl kj kj fun g15 W8 l15 e8 r15_8 => ?_
 have x8 : Ext w W8 := Ext.tr x7 e8
 have b15 : w.heap.size ≤ g15 := Nat.le_trans x7.size l15
 have f16_8 := (f12.ext e8)
 have y1_8 : Ext W1 W8 := (Rely.Ext.trans y7 e8)
 refine Qbb (k := .u8) (T := 5) (xs := ([0, (byV nm 0)]).set 0 1 ++ key ++ sg ++ pa) (ys := [(byV ((ms.length : Nat) : Int) 0)]) (V := W1) 1 (.tmp 23) (.tmp 28) 26 rfl kj kj (by decide) 29 rfl kj kj kj f16_8 (Qbd (xs := [(byV ((ms.length : Nat) : Int) 0)]) (n := 1) rfl r15_8 (Qay r15_8) (show 1 ≤ maxLen from by decide)) (by simp only [List.length_append, List.length_cons, List.length_nil, List.length_map, List.length_take, List.length_set, Qch, hkl, hgl, hpl]; omega) y1_8 fun z4 W9 f17 y9 l9 => ?_
 have x9 : Ext w W9 := Ext.low x8 l9 x1.size
 refine Qab (z4) 3 rfl kj kj ?_
 refine Qaf ?_
 refine hK14 _ _ ?_
 refine wp_seq_k fun K19 hK19 => ?_
 refine wp_seq_k fun K20 hK20 => ?_
 refine Qae ?_
 refine Qab (.int .i64 0) 4 rfl kj kj ?_
 refine Qaf ?_
 refine hK20 _ _ ?_
 refine wp_block ?_
 refine QaP (fun (s1 : Nat × Value) => [(1, .pointer (some ⟨g2, 0, none⟩)), (3, s1.2), (4, .int .i64 ((s1.1 : Nat) : Int))]) (fun (s1 : Nat × Value) W => (s1.1 ≤ ms.length) ∧ (OwnN .u8 5 W1.heap.size (Qch true nm key sg pa ms.length ++ (ms.take s1.1).map (fun m => byV m 0)) s1.2 W) ∧ (Below W1.heap.size W9 W) ∧ (Ext w W)) (fun (s1 : Nat × Value) => ms.length - s1.1) (0, z4) ⟨rfl, rfl, rfl, trivial⟩ ⟨(Nat.zero_le _), (by rw [List.take_zero, List.map_nil, List.append_nil]; exact f17), (RowKit.Below.refl _ W9), x9⟩ fun s1 X1 V1 hI1 => ?_
 obtain ⟨i, u⟩ := s1
 obtain ⟨hi, hu, kk1, xx1⟩ := hI1
 replace hi : i ≤ ms.length := hi
 replace hu : OwnN .u8 5 W1.heap.size (Qch true nm key sg pa ms.length ++ (ms.take i).map (fun m => byV m 0)) u V1 := hu
 replace kk1 : Below W1.heap.size W9 V1 := kk1
 replace xx1 : Ext w V1 := xx1
 have l10 := kk1
 refine wp_seq_k fun K21 hK21 => ?_
 refine wp_seq_k fun K22 hK22 => ?_
 refine Qae ?_
 refine Qab (.int .i64 ((i : Nat) : Int)) 30 rfl kj kj ?_
 refine Qab (.pointer (some ⟨g2, 98, none⟩)) 31 rfl kj kj ?_
 have r2_8 := (Qar r2_7 e8)
 have r2_9 := (QbJ l9 r2_8 (Qay r2_1))
 have r2_10 := (QbJ l10 r2_9 (Qay r2_1))
 refine Qab (.slice a_m ms.length c_m) 32 rfl kj (Qag 41 _ g2 98 43 _ (.slice a_m ms.length c_m) _ r2_10 rfl kj (Qah [#[.bool true], #[.int .i64 nm], ints .u8 (key), ints .u8 (sg), ints .u8 (pa)] [#[.slice a_m ms.length c_m]] [] 98 (by rw [Qaa, Qaa, Qaa, Qaa, Qaa]; simp only [Array.size_append, cat, ((Qac _ _).trans hgl), ((Qac _ _).trans hkl), ((Qac _ _).trans hpl)]; rfl) 0 _ rfl) kj) ?_
 refine Qab (.int .i64 ((ms.length : Nat) : Int)) 33 rfl kj kj ?_
 refine Qab (.bool (decide (((i : Nat) : Int) < ((ms.length : Nat) : Int)))) 34 rfl kj kj ?_
 refine Qaf ?_
 refine hK22 _ _ ?_
 refine Qa5 (t := decide (((i : Nat) : Int) < ((ms.length : Nat) : Int))) kj (fun c23 => ?_) (fun c23 => ?_)
 ·skip
  have hlt34 : i < ms.length := by have := of_decide_eq_true c23; omega
  have hnm_24 : (ms).length = ms.length := rfl
  obtain ⟨gcm_24, ocm_24, ham_24, hlm_24, hcm_24⟩ := Qcy (RdK.here (RdK.ext hm xx1)) (by rw [hnm_24]; omega)
  refine wp_skip ?_
  refine hK21 _ _ ?_
  refine wp_seq_k fun K25 hK25 => ?_
  refine wp_block ?_
  refine Qae ?_
  refine Qab (u) 37 rfl kj kj ?_
  refine Qab (.pointer (some ⟨g2, 98, none⟩)) 38 rfl kj kj ?_
  refine Qab (.slice a_m ms.length c_m) 39 rfl kj (Qag 41 _ g2 98 43 _ (.slice a_m ms.length c_m) _ r2_10 rfl kj (Qah [#[.bool true], #[.int .i64 nm], ints .u8 (key), ints .u8 (sg), ints .u8 (pa)] [#[.slice a_m ms.length c_m]] [] 98 (by rw [Qaa, Qaa, Qaa, Qaa, Qaa]; simp only [Array.size_append, cat, ((Qac _ _).trans hgl), ((Qac _ _).trans hkl), ((Qac _ _).trans hpl)]; rfl) 0 _ rfl) kj) ?_
  refine Qab (.int .i64 ((i : Nat) : Int)) 40 rfl kj kj ?_
  refine Qab (.pointer (some ⟨gcm_24, ocm_24 + i, none⟩)) 41 rfl kj (QaT 41 _ _ .i64 i gcm_24 ocm_24 ms.length c_m 3 a_m _ ham_24 rfl rfl kj kj kj kj (Nat.lt_of_lt_of_eq (show i < ms.length by omega) hnm_24.symm)) ?_
  refine Qab (.int .i64 (nth (ms) (i))) 42 rfl kj (QaH 3 _ _ (.int .i64 (nth (ms) (i))) (hcm_24 i (Nat.lt_of_lt_of_eq (show i < ms.length by omega) hnm_24.symm)) rfl kj kj) ?_
  refine Qab (.int .u8 (byV (nth ms i) 0)) 43 rfl kj (Qax (u := .int .u8 (IntKind.u8.wrap (nth (ms) (i)))) kj (congrArg (Value.int .u8) (byV0 _))) ?_
  refine Qbs (ints .u8 ([(byV (nth ms i) 0)])) 5 1 44 rfl kj kj fun g26 W11 l26 e11 r26_11 => ?_
  have x11 : Ext w W11 := Ext.tr xx1 e11
  have b26 : w.heap.size ≤ g26 := Nat.le_trans xx1.size l26
  have f27_11 := (hu.ext e11)
  have y1_10 : Ext W1 V1 := (Ext.low y9 l10 (Rely.Ext.refl W1).size)
  have y1_11 : Ext W1 W11 := (Rely.Ext.trans y1_10 e11)
  refine Qbb (k := .u8) (T := 5) (xs := Qch true nm key sg pa ms.length ++ (ms.take i).map (fun m => byV m 0)) (ys := [(byV (nth ms i) 0)]) (V := W1) 1 (.tmp 37) (.tmp 44) 26 rfl kj kj (by decide) 45 rfl kj kj kj f27_11 (Qbd (xs := [(byV (nth ms i) 0)]) (n := 1) rfl r26_11 (Qay r26_11) (show 1 ≤ maxLen from by decide)) (by simp only [List.length_append, List.length_cons, List.length_nil, List.length_map, List.length_take, List.length_set, Qch, hkl, hgl, hpl]; omega) y1_11 fun z5 W12 f28 y12 l12 => ?_
  have x12 : Ext w W12 := Ext.low x11 l12 x1.size
  refine Qab (z5) 3 rfl kj kj ?_
  refine Qaf ?_
  refine hK25 _ _ ?_
  refine Qae ?_
  refine Qab (.int .i64 ((i : Nat) : Int)) 35 rfl kj kj ?_
  refine Qab (.int .i64 ((i + 1 : Nat) : Int)) 36 rfl kj (Qax (u := .int .i64 (IntKind.i64.wrap (((i : Nat) : Int) + 1))) kj (congrArg (Value.int .i64) (i64n _ _ (by omega) (by omega)))) ?_
  refine Qab (.int .i64 ((i + 1 : Nat) : Int)) 4 rfl kj kj ?_
  refine Qaf ?_
  repeat (first | with_reducible refine goX1 ?_ | with_reducible refine goX2 ?_ | with_reducible refine goX3 ?_)
  exact QaK ((i + 1), z5) ⟨rfl, rfl, rfl, trivial⟩ ⟨(by omega), (by rw [QdN _ ms i hlt34]; exact f28), (RowKit.Below.trans (RowKit.Below.trans l10 (RowKit.Below.mono e11 y1_10.size)) l12), x12⟩ (by omega)
 ·skip
  have heq34 : i = ms.length := by have := of_decide_eq_false c23; omega
  refine wp_exit ?_
  refine hK19 _ _ ?_
  refine wp_seq_k fun K30 hK30 => ?_
  refine Qae ?_
  refine Qab (u) 46 rfl kj kj ?_
  refine Qab (u) 2 rfl kj kj ?_
  refine Qaf ?_
  refine hK30 _ _ ?_
  refine wp_ret ?_
  repeat (first | with_reducible refine goR1 ?_ | with_reducible refine goR2 ?_)
  exact (show bodyPost _ _ _ .ret _ _ from ret1 (u) rfl (Qaw kj) ⟨_, rfl, xx1, OwnN.base x1.size (show OwnN .u8 5 _ (Qbo true nm key sg pa ms) _ _ by have h7 := hu; rw [heq34, List.take_length] at h7; exact h7)⟩)
set_option maxHeartbeats 4000000 in
theorem QeS (nm : Int) (key sg pa ms : List Int) (a_m : Option Addr) (c_m : Nat) (w : World) (hkl : key.length = 32) (hgl : sg.length = 32) (hpl : pa.length = 32) (hml : ms.length ≤ 1000000) (hm : RdK .i64 w.heap.size ms (.slice a_m ms.length c_m) w) : Calls Try.prog 97 #[.agg (cat [#[.bool false], #[.int .i64 nm], ints .u8 (key), ints .u8 (sg), ints .u8 (pa), #[.slice a_m ms.length c_m]])] w (QbE w (OwnN .u8 5 w.heap.size (Qbo false nm key sg pa ms))) := by
 refine enter 47 [(0, .agg (cat [#[.bool false], #[.int .i64 nm], ints .u8 (key), ints .u8 (sg), ints .u8 (pa), #[.slice a_m ms.length c_m]]))] Try.func97 rfl rfl kj rfl ?_
 refine wp_seq_k fun K1 hK1 => ?_
 refine Qae ?_
 refine Qav (cat [#[.bool false], #[.int .i64 nm], ints .u8 (key), ints .u8 (sg), ints .u8 (pa), #[.slice a_m ms.length c_m]]) 43 1 rfl kj kj fun g2 W1 l2 e1 r2_1 => ?_
 have x1 : Ext w W1 := Ext.tr (Rely.Ext.refl w) e1
 have b2 : w.heap.size ≤ g2 := Nat.le_trans (Rely.Ext.refl w).size l2
 refine Qab (.slice none 0 0) 2 rfl kj kj ?_
 refine Qaf ?_
 refine hK1 _ _ ?_
 refine wp_seq_k fun K3 hK3 => ?_
 refine Qae ?_
 refine Qab (.pointer (some ⟨g2, 1, none⟩)) 5 rfl kj kj ?_
 refine Qab (.int .i64 nm) 6 rfl kj (Qag 3 _ g2 1 43 _ (.int .i64 nm) _ r2_1 rfl kj (Qah [#[.bool false]] [#[.int .i64 nm]] [ints .u8 (key), ints .u8 (sg), ints .u8 (pa), #[.slice a_m ms.length c_m]] 1 kj 0 _ rfl) kj) ?_
 refine Qab (.int .u8 (byV nm 0)) 7 rfl kj (Qax (u := .int .u8 (IntKind.u8.wrap (nm))) kj (congrArg (Value.int .u8) (byV0 nm))) ?_
 refine Qbs (ints .u8 ([0, (byV nm 0)])) 5 2 8 rfl kj kj fun g4 W2 l4 e2 r4_2 => ?_
 have x2 : Ext w W2 := Ext.tr x1 e2
 have b4 : w.heap.size ≤ g4 := Nat.le_trans x1.size l4
 refine Qab (.slice (some ⟨g4, 0, none⟩) 2 2) 3 rfl kj kj ?_
 refine Qaf ?_
 refine hK3 _ _ ?_
 refine wp_seq_k fun K5 hK5 => ?_
 refine wp_seq_k fun K6 hK6 => ?_
 refine Qae ?_
 refine Qab (.pointer (some ⟨g2, 0, none⟩)) 9 rfl kj kj ?_
 have r2_2 := (Qar r2_1 e2)
 refine Qab (.bool false) 10 rfl kj (Qag 4 _ g2 0 43 _ (.bool false) _ r2_2 rfl kj (Qah [] [#[.bool false]] [#[.int .i64 nm], ints .u8 (key), ints .u8 (sg), ints .u8 (pa), #[.slice a_m ms.length c_m]] 0 kj 0 _ rfl) kj) ?_
 refine Qaf ?_
 refine hK6 _ _ ?_
 refine cond_false kj ?_
 refine wp_skip ?_
 refine hK5 _ _ ?_
 refine wp_seq_k fun K7 hK7 => ?_
 refine region_walkG (fun _ => True) kj fun W3 e3 => ⟨trivial, ?_⟩
 have x3 : Ext w W3 := Ext.tr x2 e3
 refine Qat 0 (.slice (some ⟨g4, 0, none⟩) 2 2) 13 rfl rfl kj kj (fun _ _ _ h => h) (fun W hR => by kernel_rfl) ?_
 refine Qat 1 (.pointer (some ⟨g2, 2, none⟩)) 14 rfl rfl kj kj (fun _ _ _ h => h) (fun W hR => by kernel_rfl) ?_
 refine Qat 2 (.slice (some ⟨g2, 2, none⟩) 32 32) 15 rfl rfl kj kj (fun _ _ _ h => h) (fun W hR => by kernel_rfl) ?_
 refine Qat 4 (.pointer (some ⟨g2, 34, none⟩)) 17 rfl rfl kj kj (fun _ _ _ h => h) (fun W hR => by kernel_rfl) ?_
 refine Qat 5 (.slice (some ⟨g2, 34, none⟩) 32 32) 18 rfl rfl kj kj (fun _ _ _ h => h) (fun W hR => by kernel_rfl) ?_
 refine Qat 7 (.pointer (some ⟨g2, 66, none⟩)) 20 rfl rfl kj kj (fun _ _ _ h => h) (fun W hR => by kernel_rfl) ?_
 refine Qat 8 (.slice (some ⟨g2, 66, none⟩) 32 32) 21 rfl rfl kj kj (fun _ _ _ h => h) (fun W hR => by kernel_rfl) ?_
 refine QaJ 3 kj ?_
 have r4_3 := (Qar r4_2 e3)
 have r2_3 := (Qar r2_2 e3)
 have y1_2 : Ext W1 W2 := (Rely.Ext.trans (Rely.Ext.refl W1) e2)
 have y1_3 : Ext W1 W3 := (Rely.Ext.trans y1_2 e3)
 refine Qca (k := .u8) (T := 5) (xs := [0, (byV nm 0)]) (ys := key) (V := W1) 1 (.tmp 13) (.tmp 15) 26 rfl kj kj (by decide) 16 rfl 3 rfl kj kj kj (QcA (xs := [0, (byV nm 0)]) rfl l4 r4_3 (show 2 ≤ maxLen by decide)) (QaB 2 hkl r2_3 (fun i hi => Qa8 [#[.bool false], #[.int .i64 nm]] [ints .u8 (sg), ints .u8 (pa), #[.slice a_m ms.length c_m]] key 2 i (2 + i) kj rfl (by rw [hkl]; exact hi)) (Qay r2_3) (Nat.le_refl _) (by decide)) (by simp only [List.length_append, List.length_cons, List.length_nil, List.length_map, List.length_take, List.length_set, Qch, hkl, hgl, hpl]; omega) y1_3 fun z1 W4 f8 y4 l4 => ?_
 have x4 : Ext w W4 := Ext.low x3 l4 x1.size
 refine QaJ 6 kj ?_
 have r2_4 := (QbJ l4 r2_3 (Qay r2_1))
 refine Qca (k := .u8) (T := 5) (xs := [0, (byV nm 0)] ++ key) (ys := sg) (V := W1) 1 (.tmp 16) (.tmp 18) 26 rfl kj kj (by decide) 19 rfl 6 rfl kj kj kj f8 (QaB 34 hgl r2_4 (fun i hi => Qa8 [#[.bool false], #[.int .i64 nm], ints .u8 (key)] [ints .u8 (pa), #[.slice a_m ms.length c_m]] sg 34 i (34 + i) (by rw [Qaa, Qaa, Qaa]; simp only [Array.size_append, cat, ((Qac _ _).trans hkl)]; rfl) rfl (by rw [hgl]; exact hi)) (Qay r2_4) (Nat.le_refl _) (by decide)) (by simp only [List.length_append, List.length_cons, List.length_nil, List.length_map, List.length_take, List.length_set, Qch, hkl, hgl, hpl]; omega) y4 fun z2 W5 f10 y5 l5 => ?_
 have x5 : Ext w W5 := Ext.low x4 l5 x1.size
 refine QaJ 9 kj ?_
 have r2_5 := (QbJ l5 r2_4 (Qay r2_1))
 refine Qca (k := .u8) (T := 5) (xs := [0, (byV nm 0)] ++ key ++ sg) (ys := pa) (V := W1) 1 (.tmp 19) (.tmp 21) 26 rfl kj kj (by decide) 22 rfl 9 rfl kj kj kj f10 (QaB 66 hpl r2_5 (fun i hi => Qa8 [#[.bool false], #[.int .i64 nm], ints .u8 (key), ints .u8 (sg)] [#[.slice a_m ms.length c_m]] pa 66 i (66 + i) (by rw [Qaa, Qaa, Qaa, Qaa]; simp only [Array.size_append, cat, ((Qac _ _).trans hgl), ((Qac _ _).trans hkl)]; rfl) rfl (by rw [hpl]; exact hi)) (Qay r2_5) (Nat.le_refl _) (by decide)) (by simp only [List.length_append, List.length_cons, List.length_nil, List.length_map, List.length_take, List.length_set, Qch, hkl, hgl, hpl]; omega) y5 fun z3 W6 f12 y6 l6 => ?_
 have x6 : Ext w W6 := Ext.low x5 l6 x1.size
 refine Qat 10 (z3) 3 rfl rfl kj kj (fun _ _ _ h => h) (fun W hR => by kernel_rfl) ?_
 refine wb_nil kj ?_
 refine hK7 _ _ ?_
 refine wp_seq_k fun K14 hK14 => ?_
 refine Qae ?_
 refine Qab (z3) 23 rfl kj kj ?_
 refine Qab (.pointer (some ⟨g2, 98, none⟩)) 24 rfl kj kj ?_
 have r2_6 := (QbJ l6 r2_5 (Qay r2_1))
 refine Qab (.slice a_m ms.length c_m) 25 rfl kj (Qag 41 _ g2 98 43 _ (.slice a_m ms.length c_m) _ r2_6 rfl kj (Qah [#[.bool false], #[.int .i64 nm], ints .u8 (key), ints .u8 (sg), ints .u8 (pa)] [#[.slice a_m ms.length c_m]] [] 98 (by rw [Qaa, Qaa, Qaa, Qaa, Qaa]; simp only [Array.size_append, cat, ((Qac _ _).trans hgl), ((Qac _ _).trans hkl), ((Qac _ _).trans hpl)]; rfl) 0 _ rfl) kj) ?_
 refine Qab (.int .i64 ((ms.length : Nat) : Int)) 26 rfl kj kj ?_
 refine Qab (.int .u8 (byV ((ms.length : Nat) : Int) 0)) 27 rfl kj (Qax (u := .int .u8 (IntKind.u8.wrap ((ms.length : Nat) : Int))) kj (congrArg (Value.int .u8) (byV0 _))) ?_
 refine Qbs (ints .u8 ([(byV ((ms.length : Nat) : Int) 0)])) 5 1 28 rfl kj kj fun g15 W7 l15 e7 r15_7 => ?_
 have x7 : Ext w W7 := Ext.tr x6 e7
 have b15 : w.heap.size ≤ g15 := Nat.le_trans x6.size l15
 have f16_7 := (f12.ext e7)
 have y1_7 : Ext W1 W7 := (Rely.Ext.trans y6 e7)
 refine Qbb (k := .u8) (T := 5) (xs := [0, (byV nm 0)] ++ key ++ sg ++ pa) (ys := [(byV ((ms.length : Nat) : Int) 0)]) (V := W1) 1 (.tmp 23) (.tmp 28) 26 rfl kj kj (by decide) 29 rfl kj kj kj f16_7 (Qbd (xs := [(byV ((ms.length : Nat) : Int) 0)]) (n := 1) rfl r15_7 (Qay r15_7) (show 1 ≤ maxLen from by decide)) (by simp only [List.length_append, List.length_cons, List.length_nil, List.length_map, List.length_take, List.length_set, Qch, hkl, hgl, hpl]; omega) y1_7 fun z4 W8 f17 y8 l8 => ?_
 have x8 : Ext w W8 := Ext.low x7 l8 x1.size
 refine Qab (z4) 3 rfl kj kj ?_
 refine Qaf ?_
 refine hK14 _ _ ?_
 refine wp_seq_k fun K19 hK19 => ?_
 refine wp_seq_k fun K20 hK20 => ?_
 refine Qae ?_
 refine Qab (.int .i64 0) 4 rfl kj kj ?_
 refine Qaf ?_
 refine hK20 _ _ ?_
 refine wp_block ?_
 refine QaP (fun (s1 : Nat × Value) => [(1, .pointer (some ⟨g2, 0, none⟩)), (3, s1.2), (4, .int .i64 ((s1.1 : Nat) : Int))]) (fun (s1 : Nat × Value) W => (s1.1 ≤ ms.length) ∧ (OwnN .u8 5 W1.heap.size (Qch false nm key sg pa ms.length ++ (ms.take s1.1).map (fun m => byV m 0)) s1.2 W) ∧ (Below W1.heap.size W8 W) ∧ (Ext w W)) (fun (s1 : Nat × Value) => ms.length - s1.1) (0, z4) ⟨rfl, rfl, rfl, trivial⟩ ⟨(Nat.zero_le _), (by rw [List.take_zero, List.map_nil, List.append_nil]; exact f17), (RowKit.Below.refl _ W8), x8⟩ fun s1 X1 V1 hI1 => ?_
 obtain ⟨i, u⟩ := s1
 obtain ⟨hi, hu, kk1, xx1⟩ := hI1
 replace hi : i ≤ ms.length := hi
 replace hu : OwnN .u8 5 W1.heap.size (Qch false nm key sg pa ms.length ++ (ms.take i).map (fun m => byV m 0)) u V1 := hu
 replace kk1 : Below W1.heap.size W8 V1 := kk1
 replace xx1 : Ext w V1 := xx1
 have l9 := kk1
 refine wp_seq_k fun K21 hK21 => ?_
 refine wp_seq_k fun K22 hK22 => ?_
 refine Qae ?_
 refine Qab (.int .i64 ((i : Nat) : Int)) 30 rfl kj kj ?_
 refine Qab (.pointer (some ⟨g2, 98, none⟩)) 31 rfl kj kj ?_
 have r2_7 := (Qar r2_6 e7)
 have r2_8 := (QbJ l8 r2_7 (Qay r2_1))
 have r2_9 := (QbJ l9 r2_8 (Qay r2_1))
 refine Qab (.slice a_m ms.length c_m) 32 rfl kj (Qag 41 _ g2 98 43 _ (.slice a_m ms.length c_m) _ r2_9 rfl kj (Qah [#[.bool false], #[.int .i64 nm], ints .u8 (key), ints .u8 (sg), ints .u8 (pa)] [#[.slice a_m ms.length c_m]] [] 98 (by rw [Qaa, Qaa, Qaa, Qaa, Qaa]; simp only [Array.size_append, cat, ((Qac _ _).trans hgl), ((Qac _ _).trans hkl), ((Qac _ _).trans hpl)]; rfl) 0 _ rfl) kj) ?_
 refine Qab (.int .i64 ((ms.length : Nat) : Int)) 33 rfl kj kj ?_
 refine Qab (.bool (decide (((i : Nat) : Int) < ((ms.length : Nat) : Int)))) 34 rfl kj kj ?_
 refine Qaf ?_
 refine hK22 _ _ ?_
 refine Qa5 (t := decide (((i : Nat) : Int) < ((ms.length : Nat) : Int))) kj (fun c23 => ?_) (fun c23 => ?_)
 ·skip
  have hlt34 : i < ms.length := by have := of_decide_eq_true c23; omega
  have hnm_24 : (ms).length = ms.length := rfl
  obtain ⟨gcm_24, ocm_24, ham_24, hlm_24, hcm_24⟩ := Qcy (RdK.here (RdK.ext hm xx1)) (by rw [hnm_24]; omega)
  refine wp_skip ?_
  refine hK21 _ _ ?_
  refine wp_seq_k fun K25 hK25 => ?_
  refine wp_block ?_
  refine Qae ?_
  refine Qab (u) 37 rfl kj kj ?_
  refine Qab (.pointer (some ⟨g2, 98, none⟩)) 38 rfl kj kj ?_
  refine Qab (.slice a_m ms.length c_m) 39 rfl kj (Qag 41 _ g2 98 43 _ (.slice a_m ms.length c_m) _ r2_9 rfl kj (Qah [#[.bool false], #[.int .i64 nm], ints .u8 (key), ints .u8 (sg), ints .u8 (pa)] [#[.slice a_m ms.length c_m]] [] 98 (by rw [Qaa, Qaa, Qaa, Qaa, Qaa]; simp only [Array.size_append, cat, ((Qac _ _).trans hgl), ((Qac _ _).trans hkl), ((Qac _ _).trans hpl)]; rfl) 0 _ rfl) kj) ?_
  refine Qab (.int .i64 ((i : Nat) : Int)) 40 rfl kj kj ?_
  refine Qab (.pointer (some ⟨gcm_24, ocm_24 + i, none⟩)) 41 rfl kj (QaT 41 _ _ .i64 i gcm_24 ocm_24 ms.length c_m 3 a_m _ ham_24 rfl rfl kj kj kj kj (Nat.lt_of_lt_of_eq (show i < ms.length by omega) hnm_24.symm)) ?_
  refine Qab (.int .i64 (nth (ms) (i))) 42 rfl kj (QaH 3 _ _ (.int .i64 (nth (ms) (i))) (hcm_24 i (Nat.lt_of_lt_of_eq (show i < ms.length by omega) hnm_24.symm)) rfl kj kj) ?_
  refine Qab (.int .u8 (byV (nth ms i) 0)) 43 rfl kj (Qax (u := .int .u8 (IntKind.u8.wrap (nth (ms) (i)))) kj (congrArg (Value.int .u8) (byV0 _))) ?_
  refine Qbs (ints .u8 ([(byV (nth ms i) 0)])) 5 1 44 rfl kj kj fun g26 W10 l26 e10 r26_10 => ?_
  have x10 : Ext w W10 := Ext.tr xx1 e10
  have b26 : w.heap.size ≤ g26 := Nat.le_trans xx1.size l26
  have f27_10 := (hu.ext e10)
  have y1_9 : Ext W1 V1 := (Ext.low y8 l9 (Rely.Ext.refl W1).size)
  have y1_10 : Ext W1 W10 := (Rely.Ext.trans y1_9 e10)
  refine Qbb (k := .u8) (T := 5) (xs := Qch false nm key sg pa ms.length ++ (ms.take i).map (fun m => byV m 0)) (ys := [(byV (nth ms i) 0)]) (V := W1) 1 (.tmp 37) (.tmp 44) 26 rfl kj kj (by decide) 45 rfl kj kj kj f27_10 (Qbd (xs := [(byV (nth ms i) 0)]) (n := 1) rfl r26_10 (Qay r26_10) (show 1 ≤ maxLen from by decide)) (by simp only [List.length_append, List.length_cons, List.length_nil, List.length_map, List.length_take, List.length_set, Qch, hkl, hgl, hpl]; omega) y1_10 fun z5 W11 f28 y11 l11 => ?_
  have x11 : Ext w W11 := Ext.low x10 l11 x1.size
  refine Qab (z5) 3 rfl kj kj ?_
  refine Qaf ?_
  refine hK25 _ _ ?_
  refine Qae ?_
  refine Qab (.int .i64 ((i : Nat) : Int)) 35 rfl kj kj ?_
  refine Qab (.int .i64 ((i + 1 : Nat) : Int)) 36 rfl kj (Qax (u := .int .i64 (IntKind.i64.wrap (((i : Nat) : Int) + 1))) kj (congrArg (Value.int .i64) (i64n _ _ (by omega) (by omega)))) ?_
  refine Qab (.int .i64 ((i + 1 : Nat) : Int)) 4 rfl kj kj ?_
  refine Qaf ?_
  repeat (first | with_reducible refine goX1 ?_ | with_reducible refine goX2 ?_ | with_reducible refine goX3 ?_)
  exact QaK ((i + 1), z5) ⟨rfl, rfl, rfl, trivial⟩ ⟨(by omega), (by rw [QdN _ ms i hlt34]; exact f28), (RowKit.Below.trans (RowKit.Below.trans l9 (RowKit.Below.mono e10 y1_9.size)) l11), x11⟩ (by omega)
 ·skip
  have heq34 : i = ms.length := by have := of_decide_eq_false c23; omega
  refine wp_exit ?_
  refine hK19 _ _ ?_
  refine wp_seq_k fun K30 hK30 => ?_
  refine Qae ?_
  refine Qab (u) 46 rfl kj kj ?_
  refine Qab (u) 2 rfl kj kj ?_
  refine Qaf ?_
  refine hK30 _ _ ?_
  refine wp_ret ?_
  repeat (first | with_reducible refine goR1 ?_ | with_reducible refine goR2 ?_)
  exact (show bodyPost _ _ _ .ret _ _ from ret1 (u) rfl (Qaw kj) ⟨_, rfl, xx1, OwnN.base x1.size (show OwnN .u8 5 _ (Qbo false nm key sg pa ms) _ _ by have h7 := hu; rw [heq34, List.take_length] at h7; exact h7)⟩)
theorem QfY (us : Bool) (nm : Int) (key sg pa ms : List Int) (a_m : Option Addr) (c_m : Nat) (w : World) (hkl : key.length = 32) (hgl : sg.length = 32) (hpl : pa.length = 32) (hml : ms.length ≤ 1000000) (hm : RdK .i64 w.heap.size ms (.slice a_m ms.length c_m) w) : Calls Try.prog 97 #[.agg (cat [#[.bool us], #[.int .i64 nm], ints .u8 (key), ints .u8 (sg), ints .u8 (pa), #[.slice a_m ms.length c_m]])] w (QbE w (OwnN .u8 5 w.heap.size (Qbo us nm key sg pa ms))) := by
  cases us with
  | true => exact Qf7 nm key sg pa ms a_m c_m w hkl hgl hpl hml hm
  | false => exact QeS nm key sg pa ms a_m c_m w hkl hgl hpl hml hm
end Go.Proofs.Ytfelfmchachljaa.Wr
end
section
namespace Go.Proofs.Ytfelfmchachljaa.Wr
open Go Go.RowKit
open Rely Auto Own Sha
set_option linter.unusedVariables false
set_option linter.unusedSimpArgs false
def allN (ms : List Int) : Nat → Bool
  | 0 => true
  | n + 1 => allN ms n && inB (nth ms n) 31
theorem Qds (ms : List Int) : ∀ n, Qb7 ms n = (risN ms n && allN ms n)
  | 0 => rfl
  | n + 1 => by
    show (Qb7 ms n && (inB (nth ms n) 31 && ((n == 0) || decide (nth ms (n - 1) < nth ms n)))) = ((risN ms n && ((n == 0) || decide (nth ms (n - 1) < nth ms n))) && (allN ms n && inB (nth ms n) 31))
    rw [Qds ms n]
    cases risN ms n <;> cases allN ms n <;> cases inB (nth ms n) 31 <;> cases ((n == 0) || decide (nth ms (n - 1) < nth ms n)) <;> rfl
theorem QgB (ms : List Int) : ∀ n, allN ms n = true → ∀ i, i < n → inB (nth ms i) 31 = true
  | 0, _, i, hi => absurd hi (Nat.not_lt_zero _)
  | n + 1, h, i, hi => by
    have h' : (allN ms n && inB (nth ms n) 31) = true := h
    rw [Bool.and_eq_true] at h'
    rcases Nat.lt_or_ge i n with h2 | h2
    · exact QgB ms n h'.1 i h2
    · obtain rfl : i = n := by omega
      exact h'.2
theorem QfZ (ms : List Int) : ∀ n, risN ms n = true → allN ms n = true → ∀ i, i < n → ((i : Nat) : Int) ≤ nth ms i
  | 0, _, _, i, hi => absurd hi (Nat.not_lt_zero _)
  | n + 1, hr, ha, i, hi => by
    have hr' : (risN ms n && ((n == 0) || decide (nth ms (n - 1) < nth ms n))) = true := hr
    have ha' : (allN ms n && inB (nth ms n) 31) = true := ha
    rw [Bool.and_eq_true] at hr' ha'
    rcases Nat.lt_or_ge i n with h2 | h2
    · exact QfZ ms n hr'.1 ha'.1 i h2
    · obtain rfl : i = n := by omega
      have h0 := QbR ha'.2
      by_cases hz : i = 0
      · subst hz; exact h0.1
      · have h3 := hr'.2
        rw [beq_eq_false_iff_ne.2 hz, Bool.false_or, decide_eq_true_eq] at h3
        have h4 := QfZ ms i hr'.1 ha'.1 (i - 1) (by omega)
        omega
theorem Qjx (ms : List Int) (hr : risV ms = true) (ha : allN ms ms.length = true) : ms.length ≤ 32 := by
  rcases Nat.lt_or_ge 32 ms.length with h | h
  · have h1 := QfZ ms ms.length hr ha 32 h
    have h2 := QbR (QgB ms ms.length ha 32 h)
    omega
  · exact h
theorem Qf1 (ms : List Int) : ∀ n, n ≤ ms.length → allN ms n = (ms.take n).all fun m => inB m 31
  | 0, _ => rfl
  | n + 1, h => by
    have e : ms.take (n + 1) = ms.take n ++ [nth ms n] := by
      rw [List.take_add_one, List.getElem?_eq_getElem (show n < ms.length by omega)]
      unfold nth
      rw [List.getD_eq_getElem?_getD, List.getElem?_eq_getElem (show n < ms.length by omega)]
      rfl
    rw [e, List.all_append, ← Qf1 ms n (by omega)]
    show (allN ms n && inB (nth ms n) 31) = (allN ms n && (inB (nth ms n) 31 && true))
    rw [Bool.and_true]
theorem Qd4 (s : Option (List Int)) : ∀ (ms a : List Int), ms.foldl QaQ (rawS s a) = bif (ms.all fun m => inB m 31) then rawS s (a ++ ms.map fun m => byV m 0) else none
  | [], a => by show rawS s a = rawS s (a ++ []); rw [List.append_nil]
  | m :: r, a => by
    show r.foldl QaQ (QaQ (rawS s a) m) = bif (inB m 31 && (r.all fun m => inB m 31)) then rawS s (a ++ byV m 0 :: r.map fun m => byV m 0) else none
    rw [QcB]
    cases inB m 31 with
    | false => exact Qb6 r
    | true =>
      show r.foldl QaQ (rawS (rawS s a) (beV m 1)) = _
      rw [Qba, Qd4 s r]
      show _ = bif (r.all fun m => inB m 31) then _ else none
      rw [List.append_assoc]
      rfl
theorem QdM (us : Bool) (nm : Int) (key sg pa ms : List Int) (hkb : Qaj key) (hgb : Qaj sg) (hpb : Qaj pa) : Qaj (Qbo us nm key sg pa ms) := by
  unfold Qbo Qch
  refine QaM (QaM (QaM (QaM (QaM ?_ hkb) hgb) hpb) (Qbu _ 1)) ?_
  · intro x hx
    rcases List.mem_cons.1 hx with h | h
    · rw [h]; cases us <;> decide
    · exact Qbu nm 1 x h
  · intro x hx
    obtain ⟨m, _, rfl⟩ := List.mem_map.1 hx
    exact Qbu m 1 _ List.mem_cons_self
end Go.Proofs.Ytfelfmchachljaa.Wr
end
section
namespace Go.Proofs.Ytfelfmchachljaa.Wr
open Go Go.RowKit
open Rely Auto Own Sha
set_option linter.unusedVariables false
set_option linter.unusedSimpArgs false
theorem Qd5 (ms r : List Int) (ha : allN ms ms.length = true) : ∀ i, i ≤ ms.length → itR (some ((ms.map fun m => byV m 0) ++ r)) i = some ((ms.drop i).map (fun m => byV m 0) ++ r) ∧ itL (some ((ms.map fun m => byV m 0) ++ r)) i = ms.take i
  | 0, _ => ⟨by rw [List.drop_zero]; rfl, by rw [List.take_zero]; rfl⟩
  | i + 1, h => by
    obtain ⟨h1, h2⟩ := Qd5 ms r ha i (by omega)
    have hm := QbR (QgB ms ms.length ha i (by omega))
    have e : (ms.drop i).map (fun m => byV m 0) ++ r = beV (nth ms i) 1 ++ ((ms.drop (i + 1)).map (fun m => byV m 0) ++ r) := by rw [Qfy ms i (by omega)]; rfl
    have q : ((bigN (beV (nth ms i) 1) : Nat) : Int) = nth ms i := Qdn _ 1 hm.1 (by omega)
    constructor
    · show Qan (itR _ i) = _
      rw [h1, e]
      unfold Qan
      rw [QaL _ _ 1 (QaZ _ 1), q, QaR _ _ 1 (QaZ _ 1), decide_eq_true (by omega)]
      rfl
    · show itL _ i ++ [((bigN (Qai (itR _ i) 1) : Nat) : Int)] = _
      rw [h1, h2, e, QaL _ _ 1 (QaZ _ 1), q, List.take_add_one, List.getElem?_eq_getElem (show i < ms.length by omega)]
      congr 1
      unfold nth
      rw [List.getD_eq_getElem?_getD, List.getElem?_eq_getElem (show i < ms.length by omega)]
      rfl
theorem Qgw (us : Bool) (nm : Int) (key sg pa ms r : List Int) (hkl : key.length = 32) (hgl : sg.length = 32) (hpl : pa.length = 32) (hg : QbN us nm key sg pa ms = true) (s : Option (List Int)) (hs : s = some (Qbo us nm key sg pa ms ++ r)) :
    bigN (Qai s 1) = (bif us then 1 else 0) ∧ nNm s = nm ∧ nKy s = key ∧ nSg s = sg ∧ nPa s = pa ∧ nR6 s = some r ∧ nL s = ms := by
  unfold QbN at hg
  rw [Qds] at hg
  simp only [Bool.and_eq_true, decide_eq_true_eq] at hg
  obtain ⟨⟨h1, h2⟩, ⟨h3, h4⟩, h5⟩ := hg
  have hn := QbR h1
  have e : Qbo us nm key sg pa ms ++ r = [bif us then 1 else 0] ++ (beV nm 1 ++ (key ++ (sg ++ (pa ++ (beV ((ms.length : Nat) : Int) 1 ++ ((ms.map fun m => byV m 0) ++ r)))))) := by
    unfold Qbo Qch
    simp only [List.append_assoc]
    rfl
  rw [e] at hs
  have s1 : nR1 s = some (beV nm 1 ++ (key ++ (sg ++ (pa ++ (beV ((ms.length : Nat) : Int) 1 ++ ((ms.map fun m => byV m 0) ++ r)))))) := by unfold nR1; rw [hs]; exact QaR _ _ 1 rfl
  have s2 : nR2 s = some (key ++ (sg ++ (pa ++ (beV ((ms.length : Nat) : Int) 1 ++ ((ms.map fun m => byV m 0) ++ r))))) := by unfold nR2; rw [s1]; exact QaR _ _ 1 (QaZ _ 1)
  have s3 : nR3 s = some (sg ++ (pa ++ (beV ((ms.length : Nat) : Int) 1 ++ ((ms.map fun m => byV m 0) ++ r)))) := by unfold nR3; rw [s2]; exact QaR _ _ 32 hkl
  have s4 : nR4 s = some (pa ++ (beV ((ms.length : Nat) : Int) 1 ++ ((ms.map fun m => byV m 0) ++ r))) := by unfold nR4; rw [s3]; exact QaR _ _ 32 hgl
  have s5 : nR5 s = some (beV ((ms.length : Nat) : Int) 1 ++ ((ms.map fun m => byV m 0) ++ r)) := by unfold nR5; rw [s4]; exact QaR _ _ 32 hpl
  have q : bigN (beV ((ms.length : Nat) : Int) 1) = ms.length := by rw [QeD, Nat.mod_eq_of_lt (by omega)]
  have lb := Qd5 ms r h4 ms.length (Nat.le_refl _)
  refine ⟨?_, ?_, ?_, ?_, ?_, ?_, ?_⟩
  · rw [hs, QaL _ _ 1 rfl]; cases us <;> rfl
  · unfold nNm; rw [s1, QaL _ _ 1 (QaZ _ 1), Qdn nm 1 hn.1 (by omega)]
  · unfold nKy; rw [s2, QaL _ _ 32 hkl, QbD _ hkl]
  · unfold nSg; rw [s3, QaL _ _ 32 hgl, QbD _ hgl]
  · unfold nPa; rw [s4, QaL _ _ 32 hpl, QbD _ hpl]
  · unfold nR6; rw [s5, QaL _ _ 1 (QaZ _ 1), QaR _ _ 1 (QaZ _ 1), q, lb.1, List.drop_length]; rfl
  · unfold nL; rw [s5, QaL _ _ 1 (QaZ _ 1), QaR _ _ 1 (QaZ _ 1), q, lb.2, List.take_length]
end Go.Proofs.Ytfelfmchachljaa.Wr
end
section
namespace Go.Proofs.Ytfelfmchachljaa.Wr
open Go Go.RowKit
open Rely Auto Own Sha
set_option linter.unusedVariables false
set_option linter.unusedSimpArgs false
theorem Qfv (pl : Nat → Option (Nat × Nat)) : ∀ (ps : List (Nat × Nat × Value × Array Value)) (pre : List (Array Value)) (rest : Array Value) (off : Nat), (cat pre).size = off → okPl pl off ps → tot ps ≤ rest.size →
    Instr.fill pl (cat pre ++ rest) (ps.map fun x => (x.1, x.2.2.1)) = some (cat (pre ++ ps.map fun x => x.2.2.2) ++ rest.extract (tot ps) rest.size)
  | [], pre, rest, off, _, _, ht => by
    simp [Instr.fill, tot]
  | (i, n, v, p) :: r, pre, rest, off, hoff, ⟨h1, h2, h3, h4⟩, ht => by
    subst h2
    have hn : n ≤ rest.size := by rw [tot] at ht; omega
    simp only [List.map_cons, Instr.fill, h1, h3]
    rw [if_neg (by simp; omega)]
    have hz : (v.cells.zipIdx.foldl (fun cs (x : Value × Nat) => cs.setIfInBounds (off + x.2) x.1) (cat pre ++ rest)) = cat (pre ++ [v.cells]) ++ rest.extract n rest.size := by
      have e1 : v.cells.zipIdx = (v.cells.toList.zipIdx 0).toArray := by
        apply Array.ext'
        simp
      rw [e1, List.foldl_toArray', Qc6]
      · have e2 : rest = rest.extract 0 n ++ rest.extract n rest.size := by
          rw [Array.extract_append_extract, Nat.max_eq_right hn]
          simp
        have e3 : (cat pre ++ rest) = cat (pre ++ ([rest.extract 0 n] ++ [rest.extract n rest.size])) := by
          rw [QaO]
          congr 1
        rw [Nat.add_zero, e3]
        have := Qdf pre [rest.extract 0 n] [v.cells] [rest.extract n rest.size] off hoff (by show v.cells.size = (rest.extract 0 n).size; simp; omega)
        rw [show (cat [v.cells]).toList = v.cells.toList from rfl] at this
        rw [this, ← List.append_assoc, QaO (pre ++ [v.cells])]
        rfl
      · rfl
    have key := Qfv pl r (pre ++ [v.cells]) (rest.extract n rest.size) (off + n) (by rw [QaO]; show (cat pre ++ v.cells).size = _; simp; omega) h4 (by rw [tot] at ht; simp; omega)
    rw [← hz] at key
    rw [List.append_assoc] at key
    rw [key, tot]
    congr 2
    rw [Array.extract_extract]
    simp
    congr 1
    rw [tot] at ht
    omega
theorem Qf6 {P : Program} {ρ : Operand → Value} {o : Oper} {w : World} (t : TypeId) (parts : Array (Nat × Operand)) (z : Value) (places : Array (Nat × Nat)) (ps : List (Nat × Nat × Value × Array Value)) (rest : List (Array Value))
    (ho : o.op = .build t parts) (hv : (parts.map fun (i, x) => (i, ρ x)).toList = ps.map fun x => (x.1, x.2.2.1)) (hp : okPl (fun i => places[i]?) 0 ps) (ht : tot ps ≤ z.cells.size) (hr : z.cells.extract (tot ps) z.cells.size = cat rest)
    (hz : (zeroValue t).run P w = .ok z w) (hu : P.underlying t = some (.struct (P.fieldsOf t))) (hm : ((P.fieldsOf t).mapM fun f => do pure (f.offset, ← sizeOf f.type) : Sem (Array (Nat × Nat))).run P w = .ok places w) :
    (execOp ρ o).run P w = .ok (.value (.agg (cat ((ps.map fun x => x.2.2.2) ++ rest)))) w := by
  have := Qfv (fun i => places[i]?) ps [] z.cells 0 rfl hp ht
  rw [show cat [] ++ z.cells = z.cells by simp [cat], List.nil_append, hr, ← QaO] at this
  rw [← hv] at this
  have hB : (Instr.build t (parts.map fun (i, x) => (i, ρ x))).run P w = .ok (.agg (cat ((ps.map fun x => x.2.2.2) ++ rest))) w := by
    unfold Instr.build
    rw [Sem.run_bind, hz, Result.andThen_ok, Sem.run_bind, run_underlying hu w, Result.andThen_ok]
    show (Sem.run P _ w) = _
    rw [Sem.run_bind, hm, Result.andThen_ok]
    simp only [this]
    rfl
  unfold execOp
  simp only [ho, Sem.run_bind, hB, Result.andThen_ok, Sem.run_pure]
theorem Qdt : ∀ ls : List (List Value), cat (ls.map List.toArray) = ls.flatten.toArray
  | [] => rfl
  | a :: r => by rw [List.map_cons, Qaa, Qdt r, List.flatten_cons, List.append_toArray]
theorem Qcc {P : Program} {ρ : Operand → Value} {o : Oper} {w : World} (t : TypeId) (parts : Array (Nat × Operand)) (pre rest : List (Array Value)) (places : Array (Nat × Nat)) (ps : List (Nat × Nat × Value × Array Value))
    (ho : o.op = .build t parts) (hv : (parts.map fun (i, x) => (i, ρ x)).toList = ps.map fun x => (x.1, x.2.2.1)) (hp : okPl (fun i => places[i]?) 0 ps) (ht : tot ps = (cat pre).size)
    (hz : (zeroValue t).run P w = .ok (.agg (cat (pre ++ rest))) w) (hu : P.underlying t = some (.struct (P.fieldsOf t))) (hm : ((P.fieldsOf t).mapM fun f => do pure (f.offset, ← sizeOf f.type) : Sem (Array (Nat × Nat))).run P w = .ok places w) :
    (execOp ρ o).run P w = .ok (.value (.agg (cat ((ps.map fun x => x.2.2.2) ++ rest)))) w :=
  Qf6 t parts _ places ps rest ho hv hp (by rw [ht]; show _ ≤ (cat (pre ++ rest)).size; rw [QaO, Array.size_append]; omega) (by show (cat (pre ++ rest)).extract _ (cat (pre ++ rest)).size = _; rw [QaO, ht]; simp) hz hu hm
theorem Qbe {P : Program} {ρ : Operand → Value} {o : Oper} {w : World} (t : TypeId) (cs : Array Value) (ho : o.op = .alloc t) (hz : (zeroValue t).run P w = .ok (.agg cs) w) :
    (execOp ρ o).run P w = .ok (.value (.pointer (some ⟨w.heap.size, 0, none⟩))) (w.alloc (.cells cs t)) := by
  have h : (Instr.alloc t true (.tuple #[])).run P w = .ok (.pointer (some ⟨w.heap.size, 0, none⟩)) (w.alloc (.cells cs t)) := by
    unfold Instr.alloc
    rw [Sem.run_bind, hz, Result.andThen_ok]
    rfl
  unfold execOp
  simp only [ho, Sem.run_bind, h, Result.andThen_ok, Sem.run_pure]
theorem Qf3 {P : Program} {ρ : Operand → Value} {o : Oper} {w : World} (ty : TypeId) (x y : Operand) (g off : Nat) (t : TypeId) (pre post : List (Array Value)) (u v : Value) (hg : w.heap[g]? = some (.cells (cat (pre ++ ([#[u]] ++ post))) t))
    (ho : o.op = .store ty x y) (hx : ρ x = .pointer (some ⟨g, off, none⟩)) (hy : ρ y = v) (hi : (P.info? ty).map (·.size) = some 1) (hp : (cat pre).size = off) (h1 : v.oneCell' = true) (hcs : v.cells = #[v]) :
    (execOp ρ o).run P w = .ok .skip (w.setRow g (cat (pre ++ ([#[v]] ++ post)))) := by
  subst hp
  have hs : Nat.blt (cat pre).size (cat (pre ++ ([#[u]] ++ post))).size = true := by
    have : (cat pre).size < (cat (pre ++ ([#[u]] ++ post))).size := by
      rw [QaO, QaO, Array.size_append, Array.size_append]
      have e1 : (cat [#[u]]).size = 1 := rfl
      omega
    simpa using this
  have e : (cat (pre ++ ([#[u]] ++ post))).setIfInBounds (cat pre).size v = cat (pre ++ ([#[v]] ++ post)) := by
    rw [QaO, QaO, QaO, QaO]
    have e1 : ∀ z, cat [#[z]] = #[z] := fun z => rfl
    rw [e1, e1, Array.setIfInBounds_append_right (Nat.le_refl _), Nat.sub_self, Array.setIfInBounds_append_left (by simp)]
    rfl
  rw [← e]
  exact Qb2 ty x y g _ t _ v hg ho hx hy hi hs h1 hcs
theorem Qcd (w : World) : (zeroValue 47).run Try.prog w = .ok (.agg (cat [ints .u8 (List.replicate 32 0), #[.int .i64 0], #[.int .i64 0], ints .u8 (List.replicate 32 0), #[.int .i64 0], #[.bool false], #[.int .i64 0], ints .u8 (List.replicate 32 0), ints .u8 (List.replicate 32 0), ints .u8 (List.replicate 32 0), #[.slice none 0 0], ints .u8 (List.replicate 32 0), #[.int .i64 0], ints .u8 (List.replicate 64 0)])) w := by
  have h := Qdt [(List.replicate 32 0).map (Value.int .u8), [.int .i64 0], [.int .i64 0], (List.replicate 32 0).map (Value.int .u8), [.int .i64 0], [.bool false], [.int .i64 0], (List.replicate 32 0).map (Value.int .u8), (List.replicate 32 0).map (Value.int .u8), (List.replicate 32 0).map (Value.int .u8), [.slice none 0 0], (List.replicate 32 0).map (Value.int .u8), [.int .i64 0], (List.replicate 64 0).map (Value.int .u8)]
  refine Eq.trans ?_ (congrArg (fun z => Result.ok (Value.agg z) w) h.symm)
  kernel_rfl
def nUs (s : Option (List Int)) : Bool := bigN (Qai s 1) == 1
def nOk (s : Option (List Int)) : Bool := nUs s || (bigN (Qai s 1) == 0 && QaE false (nNm s) (nKy s) (nSg s) (nPa s) (nL s))
def QaN (s : Option (List Int)) : Option (List Int) := Qa4 (Qa4 (nR6 s) (nOk s)) (risV (nL s))
theorem Qbj (b : Bool) : Qa4 none b = none := by cases b <;> rfl
theorem QaW (s : Option (List Int)) : (nKy s).length = 32 := Qap _ (Qal _ 32)
theorem QaU (s : Option (List Int)) : (nSg s).length = 32 := Qap _ (Qal _ 32)
theorem QaV (s : Option (List Int)) : (nPa s).length = 32 := Qap _ (Qal _ 32)
theorem Qdz {B gr : Nat} {s : Option (List Int)} {w : World} {us : Bool} {okx : List Int → Bool} (hu : nUs s = us) (ho : okx (nL s) = nOk s) (e : Ending) (W : World) (h : ∃ v xs, e = .returned v ∧ ExtB gr w W ∧ RSt B gr (Qa4 (Qa4 (nR6 s) (okx xs)) (risV xs)) W ∧ (∃ (a : Option Addr) (c : Nat), v = .agg (cat [#[.bool us], #[.int .i64 (nNm s)], ints .u8 (nKy s), ints .u8 (nSg s), ints .u8 (nPa s), #[.slice a xs.length c]]) ∧ OwnN .i64 3 w.heap.size xs (.slice a xs.length c) W) ∧ xs.length ≤ 255 ∧ (nR6 s ≠ none → xs = nL s)) : QbB B gr w (QaN s) (fun v W => ∃ (xz : List Int) (a : Option Addr) (c : Nat), v = .agg (cat [#[.bool (nUs s)], #[.int .i64 (nNm s)], ints .u8 (nKy s), ints .u8 (nSg s), ints .u8 (nPa s), #[.slice a xz.length c]]) ∧ OwnN .i64 3 w.heap.size xz (.slice a xz.length c) W ∧ xz.length ≤ 255 ∧ (QaN s ≠ none → xz = nL s)) e W := by
  obtain ⟨v, xs, e1, e2, e3, ⟨a, c, hv, hown⟩, hl, hx⟩ := h
  refine ⟨v, e1, e2, ?_, xs, a, c, by rw [hu]; exact hv, hown, hl, fun hne => hx (fun h6 => hne (by unfold QaN; rw [h6, Qbj, Qbj]))⟩
  by_cases h6 : nR6 s = none
  · unfold QaN; rw [h6, Qbj, Qbj] at e3 ⊢; exact e3
  · obtain rfl := hx h6
    rw [ho] at e3; exact e3
theorem QfX (B gr : Nat) (s : Option (List Int)) (w : World) (hB : B ≤ gr) (h : RSt B gr s w) : Calls Try.prog 102 #[.pointer (some ⟨gr, 0, none⟩)] w (QbB B gr w (QaN s) fun v W => ∃ (xz : List Int) (a : Option Addr) (c : Nat), v = .agg (cat [#[.bool (nUs s)], #[.int .i64 (nNm s)], ints .u8 (nKy s), ints .u8 (nSg s), ints .u8 (nPa s), #[.slice a xz.length c]]) ∧ OwnN .i64 3 w.heap.size xz (.slice a xz.length c) W ∧ xz.length ≤ 255 ∧ (QaN s ≠ none → xz = nL s)) := by
  rcases (show bigN (Qai s 1) = 1 ∨ bigN (Qai s 1) = 0 ∨ 1 < bigN (Qai s 1) by omega) with hU | hU | hU
  · have e : nUs s = true := by unfold nUs; rw [hU]; rfl
    exact (Qha B gr s w hB h hU).mono fun e' W hh => Qdz (okx := fun _ => true) e (by unfold nOk; rw [e]; rfl) e' W hh
  · have e : nUs s = false := by unfold nUs; rw [hU]; rfl
    exact (QgZ B gr s w hB h hU).mono fun e' W hh => Qdz (okx := fun xs => QaE false (nNm s) (nKy s) (nSg s) (nPa s) xs) e (by unfold nOk; rw [e, hU]; rfl) e' W hh
  · have e : nUs s = false := by unfold nUs; exact beq_eq_false_iff_ne.2 (by omega)
    exact (QgY B gr s w hB h hU).mono fun e' W hh => Qdz (okx := fun _ => false) e (by unfold nOk; rw [e, beq_eq_false_iff_ne.2 (show bigN (Qai s 1) ≠ 0 by omega)]; rfl) e' W hh
end Go.Proofs.Ytfelfmchachljaa.Wr
end
section
namespace Go.Proofs.Ytfelfmchachljaa.Wr
open Go Go.RowKit
open Rely Auto Own Sha
set_option linter.unusedVariables false
set_option linter.unusedSimpArgs false
theorem Qdx {w : World} {g k : Nat} {v : Value} (h : w.cell? ⟨g, k, none⟩ = some v) : ∃ cs t fr, w.heap[g]? = some (.cells cs t fr) := by
  unfold World.cell? at h
  split at h
  · next c t f e => exact ⟨c, t, f, e⟩
  · cases h
theorem QeN {P : Program} {ρ : Operand → Value} {o : Oper} {w : World} (t : TypeId) (x y : Operand) (k : IntKind) (n g off len cap : Nat) (e : TypeId) (sz : Nat) (ho : o.op = .indexAddr t x y) (hx : ρ x = .slice (some ⟨g, off, none⟩) len cap) (hy : ρ y = .int k n)
    (hu : P.underlying t = some (.slice e)) (hs : (P.info? e).map (·.size) = some sz) (hn : n < len) : (execOp ρ o).run P w = .ok (.value (.pointer (some ⟨g, off + n * sz, none⟩))) w := by
  cases hq : P.info? e with
  | none => simp [hq] at hs
  | some i =>
    have hs' : i.size = sz := by simpa [hq] using hs
    have hadd : (⟨g, off, none⟩ : Addr).add (n * sz) = ⟨g, off + n * sz, none⟩ := by unfold Addr.add; split <;> simp_all
    have h0 : (0 : Int) ≤ (n : Int) := by omega
    have h1 : (n : Int) < (len : Int) := by omega
    unfold execOp
    simp only [ho, hx, hy]
    simp [Instr.indexAt, asIntOf, run_underlying hu, sizeOf, typeInfo, hq, hs', h0, hn, hadd]
theorem Qbc {P : Program} {ρ : Operand → Value} {o : Oper} {w : World} (t : TypeId) (x y : Operand) (k : IntKind) (n g off len cap : Nat) (e : TypeId) (sz : Nat) (ad : Option Addr) (ha : ad = some ⟨g, off, none⟩) (ho : o.op = .indexAddr t x y) (hx : ρ x = .slice ad len cap) (hy : ρ y = .int k n)
    (hu : P.underlying t = some (.slice e)) (hs : (P.info? e).map (·.size) = some sz) (hn : n < len) : (execOp ρ o).run P w = .ok (.value (.pointer (some ⟨g, off + n * sz, none⟩))) w := by
  subst ha
  exact QeN t x y k n g off len cap e sz ho hx hy hu hs hn
structure NdC where
  us : Bool
  nm : Int
  key : List Int
  sg : List Int
  pa : List Int
  ms : List Int
structure NdV where
  n : NdC
  a : Option Addr
  c : Nat
def nd0 : NdV := ⟨⟨false, 0, [], [], [], []⟩, none, 0⟩
def ndi (ts : List NdV) (i : Nat) : NdV := ts.getD i nd0
structure NdOk (n : NdC) : Prop where
  kl : n.key.length = 32
  gl : n.sg.length = 32
  pl : n.pa.length = 32
  kb : Qaj n.key
  gb : Qaj n.sg
  pb : Qaj n.pa
def ndP (n : NdV) : List (Array Value) := [#[.bool n.n.us], #[.int .i64 n.n.nm], ints .u8 n.n.key, ints .u8 n.n.sg, ints .u8 n.n.pa, #[.slice n.a n.n.ms.length n.c]]
theorem Qfs (n : NdV) (h : NdOk n.n) : (cat (ndP n)).size = 99 := by
  unfold ndP
  simp only [cat, Array.size_append, Qac, h.kl, h.gl, h.pl]
  rfl
structure NdAt (B : Nat) (w : World) (g off : Nat) (n : NdV) : Prop where
  lt : g < B
  lt2 : g < w.heap.size
  cell : ∀ j u, (cat (ndP n))[j]? = some u → w.cell? ⟨g, off + j, none⟩ = some u
  rd : RdK .i64 B n.n.ms (.slice n.a n.n.ms.length n.c) w
  ok : NdOk n.n
theorem NdAt.keep {B g off : Nat} {w W : World} {n : NdV} (h : NdAt B w g off n) (hs : w.heap.size ≤ W.heap.size) (hk : ∀ k, k < B → k < w.heap.size → W.heap[k]? = w.heap[k]?) : NdAt B W g off n :=
  ⟨h.lt, Nat.lt_of_lt_of_le h.lt2 hs, fun j u hu => by rw [← h.cell j u hu]; exact World.cell?_of_block (hk g h.lt h.lt2), h.rd.keep hs hk, h.ok⟩
def TrAt (B : Nat) (w : World) (a : Option Addr) (ts : List NdV) : Prop := ∃ g o, (0 < ts.length → a = some ⟨g, o, none⟩) ∧ ∀ i, i < ts.length → NdAt B w g (o + i * 99) (ndi ts i)
theorem TrAt.keep {B : Nat} {w W : World} {a : Option Addr} {ts : List NdV} (h : TrAt B w a ts) (hs : w.heap.size ≤ W.heap.size) (hk : ∀ k, k < B → k < w.heap.size → W.heap[k]? = w.heap[k]?) : TrAt B W a ts := by
  obtain ⟨g, o, h1, h2⟩ := h
  exact ⟨g, o, h1, fun i hi => (h2 i hi).keep hs hk⟩
theorem TrAt.ext {B : Nat} {w W : World} {a : Option Addr} {ts : List NdV} (h : TrAt B w a ts) (e : Ext w W) : TrAt B W a ts := h.keep e.size fun k _ hl => e.block k hl
theorem TrAt.gw {base gw : Nat} {w W : World} {a : Option Addr} {ts : List NdV} (h : TrAt base w a ts) (q : GW base gw w W) (hb : base ≤ gw) : TrAt base W a ts := h.keep q.size fun k hk hl => q.block k hl (by omega) (.inl hk)
theorem TrAt.here {B : Nat} {w : World} {a : Option Addr} {ts : List NdV} (h : TrAt B w a ts) : TrAt w.heap.size w a ts := by
  obtain ⟨g, o, h1, h2⟩ := h
  exact ⟨g, o, h1, fun i hi => ⟨(h2 i hi).lt2, (h2 i hi).lt2, (h2 i hi).cell, RdK.here (h2 i hi).rd, (h2 i hi).ok⟩⟩
theorem TrAt.more {B B' : Nat} {w : World} {a : Option Addr} {ts : List NdV} (h : TrAt B w a ts) (hb : B ≤ B') : TrAt B' w a ts := by
  obtain ⟨g, o, h1, h2⟩ := h
  exact ⟨g, o, h1, fun i hi => ⟨Nat.lt_of_lt_of_le (h2 i hi).lt hb, (h2 i hi).lt2, (h2 i hi).cell, RdK.more (h2 i hi).rd hb, (h2 i hi).ok⟩⟩
end Go.Proofs.Ytfelfmchachljaa.Wr
end
section
namespace Go.Proofs.Ytfelfmchachljaa.Wr
open Go Go.RowKit
open Rely Auto Own Sha
set_option linter.unusedVariables false
set_option linter.unusedSimpArgs false
def Qfb (s : Option (List Int)) (n : NdC) : Option (List Int) := Qcs s n.us n.nm n.key n.sg n.pa n.ms
theorem QcK (n : Int) (k : Nat) : numS none n k = none := by unfold numS; rw [show Qa4 none (okN n k) = none by cases okN n k <;> rfl, QcP]
theorem QfC (n : NdC) : Qfb none n = none := by
  unfold Qfb Qcs Qcq
  have e : (bif n.us then numS none 1 1 else numS (Qa4 none (QaE n.us n.nm n.key n.sg n.pa n.ms)) 0 1) = none := by
    rw [Qbj, QcK, QcK]; cases n.us <;> rfl
  rw [e, QcK]
  show n.ms.foldl QaQ (numS (Qa4 none _) _ 1) = none
  rw [Qbj, QcK]
  exact Qb6 _
end Go.Proofs.Ytfelfmchachljaa.Wr
end
section
namespace Go.Proofs.Ytfelfmchachljaa.Wr
open Go Go.RowKit
open Rely Auto Own Sha
set_option linter.unusedVariables false
set_option linter.unusedSimpArgs false
def okN_ (n : NdC) : Bool := QbN n.us n.nm n.key n.sg n.pa n.ms
def QbM (n : NdC) : List Int := Qbo n.us n.nm n.key n.sg n.pa n.ms
theorem Qg1 (us : Bool) (nm : Int) (key sg pa ms : List Int) (a_m : Option Addr) (c_m : Nat) (b : Bool) (hb : QbN us nm key sg pa ms = b) (w : World) (hkl : key.length = 32) (hgl : sg.length = 32) (hpl : pa.length = 32) (hm : RdK .i64 w.heap.size ms (.slice a_m ms.length c_m) w) : Calls Try.prog 96 #[.agg (cat [#[.bool us], #[.int .i64 nm], ints .u8 (key), ints .u8 (sg), ints .u8 (pa), #[.slice a_m ms.length c_m]])] w (Ret w (.bool b)) := hb ▸ QiV us nm key sg pa ms a_m c_m w hkl hgl hpl hm
theorem Qih (ts : List NdV) (i : Nat) (h : i < ts.length) : ndi ts i ∈ ts := by
  unfold ndi
  rw [List.getD_eq_getElem?_getD, List.getElem?_eq_getElem h]
  exact List.getElem_mem h
theorem Qep {α : Type} (f : α → List Int) (m : Nat) : ∀ ts : List α, (∀ n ∈ ts, (f n).length ≤ m) → (ts.map f).flatten.length ≤ ts.length * m
  | [], _ => Nat.zero_le _
  | n :: r, h => by
    rw [List.map_cons, List.flatten_cons, List.length_append, List.length_cons, Nat.add_mul]
    have h1 := h n List.mem_cons_self
    have h2 := Qep f m r fun x hx => h x (List.mem_cons_of_mem _ hx)
    omega
end Go.Proofs.Ytfelfmchachljaa.Wr
end
section
namespace Go.Proofs.Ytfelfmchachljaa.Wr
open Go Go.RowKit
open Rely Auto Own Sha
set_option linter.unusedVariables false
set_option linter.unusedSimpArgs false
def putN (s : Option (List Int)) (us : Bool) (nm : Int) (key sg pa ms : List Int) : Option (List Int) := if QbN us nm key sg pa ms = true then rawS s (Qbo us nm key sg pa ms) else none
theorem QcQ (s : Option (List Int)) (us : Bool) (nm : Int) (key sg pa ms : List Int) (hkl : key.length = 32) (hgl : sg.length = 32) (hpl : pa.length = 32) : Qcs s us nm key sg pa ms = putN s us nm key sg pa ms := by
  have hall := Qf1 ms ms.length (Nat.le_refl _)
  rw [List.take_length] at hall
  unfold Qcs putN QbN Qcq
  rw [Qds]
  change _ = if (inB nm 255 && decide (ms.length ≤ 32) && (risV ms && allN ms ms.length && (us || QaE us nm key sg pa ms))) = true then _ else _
  have hs1 : (bif us then numS s 1 1 else numS (Qa4 s (QaE us nm key sg pa ms)) 0 1) = bif (us || QaE us nm key sg pa ms) then rawS s [bif us then 1 else 0] else none := by
    cases us with
    | true => rfl
    | false =>
      cases QaE false nm key sg pa ms with
      | true => rfl
      | false => rfl
  rw [hs1]
  cases hb : (us || QaE us nm key sg pa ms) with
  | false =>
    rw [if_neg (by rw [Bool.and_false, Bool.and_false]; decide)]
    show ms.foldl QaQ (numS (Qa4 (rawS (rawS (rawS (numS none nm 1) key) sg) pa) (risV ms)) _ 1) = none
    have e1 : numS none nm 1 = none := by rw [QbP _ nm 0 255 (by decide) (by decide)]; cases inB nm 255 <;> rfl
    rw [e1]
    have e2 : Qa4 (rawS (rawS (rawS none key) sg) pa) (risV ms) = none := by cases risV ms <;> rfl
    rw [e2, QbP _ _ 0 255 (by decide) (by decide)]
    cases inB ((ms.length : Nat) : Int) 255 <;> exact Qb6 ms
  | true =>
    rw [Bool.and_true]
    show ms.foldl QaQ (numS (Qa4 (rawS (rawS (rawS (numS (rawS s [bif us then 1 else 0]) nm 1) key) sg) pa) (risV ms)) _ 1) = _
    rw [QbP _ nm 0 255 (by decide) (by decide)]
    cases hn : inB nm 255 with
    | false =>
      rw [if_neg (by rw [Bool.false_and, Bool.false_and]; decide)]
      have e2 : Qa4 (rawS (rawS (rawS (bif false then rawS (rawS s [bif us then 1 else 0]) (beV nm (0 + 1)) else none) key) sg) pa) (risV ms) = none := by cases risV ms <;> rfl
      rw [e2, QbP _ _ 0 255 (by decide) (by decide)]
      cases inB ((ms.length : Nat) : Int) 255 <;> exact Qb6 ms
    | true =>
      rw [Bool.true_and]
      cases hr : risV ms with
      | false =>
        rw [if_neg (by rw [Bool.false_and, Bool.and_false]; decide)]
        show ms.foldl QaQ (numS none _ 1) = none
        rw [QbP _ _ 0 255 (by decide) (by decide)]
        cases inB ((ms.length : Nat) : Int) 255 <;> exact Qb6 ms
      | true =>
        rw [Bool.true_and]
        show ms.foldl QaQ (numS (rawS (rawS (rawS (rawS (rawS s [bif us then 1 else 0]) (beV nm 1)) key) sg) pa) ((ms.length : Nat) : Int) (0 + 1)) = _
        rw [QbP _ _ 0 255 (by decide) (by decide)]
        cases ha : allN ms ms.length with
        | false =>
          rw [if_neg (by rw [Bool.and_false]; decide)]
          cases inB ((ms.length : Nat) : Int) 255 with
          | false => exact Qb6 ms
          | true =>
            show ms.foldl QaQ (rawS _ (beV _ (0 + 1))) = none
            rw [Qd4, ← hall, ha]
            rfl
        | true =>
          have hl := Qjx ms hr ha
          rw [decide_eq_true hl, if_pos (by rfl), show inB ((ms.length : Nat) : Int) 255 = true by unfold inB; simp; omega]
          show ms.foldl QaQ (rawS _ (beV _ (0 + 1))) = _
          rw [Qd4, ← hall, ha]
          show rawS (rawS (rawS (rawS (rawS (rawS s [bif us then 1 else 0]) (beV nm 1)) key) sg) pa) (beV ((ms.length : Nat) : Int) 1 ++ ms.map fun m => byV m 0) = _
          rw [Qba, Qba, Qba, Qba, Qba]
          have e : [bif us then 1 else 0] ++ (beV nm 1 ++ (key ++ (sg ++ (pa ++ (beV ((ms.length : Nat) : Int) 1 ++ ms.map fun m => byV m 0))))) = Qbo us nm key sg pa ms := by
            unfold Qbo Qch
            simp only [List.append_assoc]
            rfl
          rw [e]
theorem Qdb (us : Bool) (nm : Int) (key sg pa ms r : List Int) (hkl : key.length = 32) (hgl : sg.length = 32) (hpl : pa.length = 32) (hg : QbN us nm key sg pa ms = true) (s : Option (List Int)) (hs : s = some (Qbo us nm key sg pa ms ++ r)) :
    nUs s = us ∧ nNm s = nm ∧ nKy s = key ∧ nSg s = sg ∧ nPa s = pa ∧ QaN s = some r ∧ nL s = ms := by
  obtain ⟨h1, h2, h3, h4, h5, h6, h7⟩ := Qgw us nm key sg pa ms r hkl hgl hpl hg s hs
  have hu : nUs s = us := by unfold nUs; rw [h1]; cases us <;> rfl
  refine ⟨hu, h2, h3, h4, h5, ?_, h7⟩
  unfold QbN at hg
  rw [Qds] at hg
  simp only [Bool.and_eq_true] at hg
  obtain ⟨-, ⟨hr, -⟩, hb⟩ := hg
  have ho : nOk s = true := by
    unfold nOk
    rw [hu, h1, h2, h3, h4, h5, h7]
    cases us with
    | true => rfl
    | false => exact hb
  unfold QaN
  rw [ho, h6, h7, show risV ms = true from hr]
  rfl
structure NdIs (s : Option (List Int)) (n : NdC) : Prop where
  us : n.us = nUs s
  nm : n.nm = nNm s
  key : n.key = nKy s
  sg : n.sg = nSg s
  pa : n.pa = nPa s
  ms : n.ms = nL s
theorem NdIs.eq {s : Option (List Int)} {n m : NdC} (h : NdIs s n) (k : NdIs s m) : n = m := by
  cases n; cases m
  obtain ⟨rfl, rfl, rfl, rfl, rfl, rfl⟩ := h
  obtain ⟨h1, h2, h3, h4, h5, h6⟩ := k
  simp only at h1 h2 h3 h4 h5 h6
  rw [h1, h2, h3, h4, h5, h6]
end Go.Proofs.Ytfelfmchachljaa.Wr
end
section
namespace Go.Proofs.Ytfelfmchachljaa.Wr
open Go Go.RowKit
open Rely Auto Own Sha
set_option linter.unusedVariables false
set_option linter.unusedSimpArgs false
section
variable {ds : List Deferred} {P : Program} {ops : Array Oper} {Q : Exit → Act → World → Prop} {rest : List Oper} {o : Oper} {N : Nat} {L : Env} {w : World}
theorem QdV (ob : Obj) (mk : Nat → Value) (d : Nat) (hd : o.dst = some d) (hg : QbL ops o N L = some true) (h : (execOp (Rely.look (envN N L)) o).run P w = .ok (.value (mk w.heap.size)) (w.alloc ob))
    (k : ∀ (g : Nat) (W : World), w.heap.size ≤ g → Ext w W → W.heap[g]? = some ob → WL P ops Q rest (QaG ds N ((d, mk g) :: L)) W) : WL P ops Q (o :: rest) (QaG ds N L) w :=
  Qcn _ _ d hd hg h (k _ _ (Nat.le_refl _) (Qbf _ _) (heap_alloc_new _ _))
end
theorem QeO {P : Program} {ρ : Operand → Value} {o : Oper} {w : World} (t e : TypeId) (sz : Nat) (x : Operand) (v : Value) (ho : o.op = .buildSlice t 1 #[(0, x)]) (hx : ρ x = v) (hu : P.underlying t = some (.slice e)) (hs : (P.info? e).map (·.size) = some sz) (hz : ((P.info? e).bind (·.zero)).isSome = true) (hv : v.cells.size = sz) (h0 : 0 < sz) (hl : sz ≤ 2 ^ 24) :
    (execOp ρ o).run P w = .ok (.value (.slice (some ⟨w.heap.size, 0, none⟩) 1 1)) (w.alloc (.cells v.cells e)) := by
  cases hie : P.info? e with
  | none => simp [hie] at hs
  | some ie =>
    simp only [hie, Option.map_some, Option.some.injEq, Option.bind_some] at hs hz
    obtain ⟨z, hzz⟩ := Option.isSome_iff_exists.1 hz
    subst hx
    have hf : Instr.fill (fun i => some (i * ie.size, ie.size)) ((Array.range (1 * ie.size)).map (z.cells[· % z.cells.size]!)) (Array.map (fun p : Nat × Operand => (p.1, ρ p.2)) #[(0, x)]).toList = some (ρ x).cells := by
      have := Qeq (fun i => some (i * ie.size, ie.size)) [(0, ie.size, ρ x, (ρ x).cells)] [] ((Array.range (1 * ie.size)).map (z.cells[· % z.cells.size]!)) 0 rfl ⟨by simp, rfl, by rw [hv, hs], trivial⟩ (by simp [tot])
      simpa [cat] using this
    have hr := run_buildSlice w t e 1 (Array.map (fun p : Nat × Operand => (p.1, ρ p.2)) #[(0, x)]) (ρ x).cells ie z hu hie hzz (by rw [hs]; omega) (by rw [hs]; omega) hf
    unfold execOp
    simp only [ho, Sem.run_bind]
    rw [hr]
    rfl
def ByS (s : Option (List Int)) : Prop := ∀ xs, s = some xs → Qaj xs
theorem RSt.byS {B gr : Nat} {s : Option (List Int)} {W : World} (h : RSt B gr s W) : ByS s := by
  obtain ⟨u, xs, bad, -, -, h3, rfl⟩ := h
  intro ys hy
  cases bad with
  | true => cases hy
  | false => exact Option.some.inj hy ▸ h3
theorem ByS.take {s : Option (List Int)} (h : ByS s) (n : Nat) : ByS (Qad s n) := by
  intro ys hy
  cases s with
  | none => cases hy
  | some xs =>
    have h1 : (if n ≤ xs.length then some (xs.drop n) else none) = some ys := hy
    split at h1
    · exact Option.some.inj h1 ▸ Qct (h xs rfl) n
    · cases h1
theorem ByS.bytes {s : Option (List Int)} (h : ByS s) (n : Nat) : Qaj (Qai s n) := by
  cases s with
  | none => exact Qc7
  | some xs =>
    show Qaj (if n ≤ xs.length then xs.take n else [])
    split
    · exact Qdg (h xs rfl) n
    · exact Qc7
theorem Qjv {s : Option (List Int)} (h : ByS s) (us : Bool) (nm : Int) (ms : List Int) : NdOk ⟨us, nm, nKy s, nSg s, nPa s, ms⟩ := by
  have h2 : ByS (nR2 s) := (h.take 1).take 1
  have h3 : ByS (nR3 s) := h2.take 32
  have h4 : ByS (nR4 s) := h3.take 32
  exact ⟨QaW s, QaU s, QaV s, QbQ _ (h2.bytes 32), QbQ _ (h3.bytes 32), QbQ _ (h4.bytes 32)⟩
structure OwT (base : Nat) (ts : List NdV) (v : Value) (W : World) : Prop where
  row : W.ownsRow base 43 99 v ts.length (ts.flatMap fun n => (cat (ndP n)).toList)
  nd : ∀ n ∈ ts, NdOk n.n ∧ n.n.ms.length ≤ 255 ∧ OwnN .i64 3 base n.n.ms (.slice n.a n.n.ms.length n.c) W
theorem OwT.nil (base : Nat) (W : World) : OwT base [] (.slice none 0 0) W := ⟨World.ownsRow_nil W base 43 99, fun n hn => by cases hn⟩
theorem Qda {base : Nat} {e : TypeId} {size n : Nat} {v : Value} {xs : List Value} {W : World} (h : W.ownsRow base e size v n xs) {g : Nat} (hg : v.ownBlock = some g) : base ≤ g ∧ ∃ cur, W.heap[g]? = some (.cells cur e) := by
  rcases h.2 with ⟨rfl, _⟩ | ⟨g', c, cur, rfl, q2, q3, _⟩
  · cases hg
  · obtain rfl : g' = g := Option.some.inj hg
    exact ⟨q2, cur, q3⟩
theorem OwT.grown {base : Nat} {ts : List NdV} {v : Value} {W W' : World} {g : Nat} (h : OwT base ts v W) (q : W.grownBy W' (some g)) (hg : g < base) : OwT base ts v W' :=
  ⟨h.row.kept q (by
    cases e : v.ownBlock with
    | none => exact .inl rfl
    | some k => exact .inr fun e2 => by have := (Qda h.row e).1; obtain rfl := Option.some.inj e2; omega), fun n hn => by
    obtain ⟨h1, h2, h3⟩ := h.nd n hn
    exact ⟨h1, h2, h3.keep fun k hk => q.block k (h3.lt hk) fun e => by have := h3.ge hk; obtain rfl := Option.some.inj e; omega⟩⟩
theorem OwT.extB {base g : Nat} {ts : List NdV} {v : Value} {W W' : World} (h : OwT base ts v W) (q : ExtB g W W') (hg : g < base) : OwT base ts v W' :=
  h.grown (g := g) ⟨q.1, q.2.1, q.2.2.1, q.2.2.2.1, fun k hk hn => q.2.2.2.2 k hk fun e => hn (by rw [e])⟩ hg
theorem OwT.ext {base : Nat} {ts : List NdV} {v : Value} {W W' : World} (h : OwT base ts v W) (e : Ext W W') : OwT base ts v W' :=
  ⟨h.row.kept (row := none) ⟨e.os, e.tape, e.output, e.size, fun k hk _ => e.block k hk⟩ (by cases e : v.ownBlock with
    | none => exact .inl rfl
    | some k => exact .inr fun e2 => by cases e2), fun n hn => ⟨(h.nd n hn).1, (h.nd n hn).2.1, (h.nd n hn).2.2.ext e⟩⟩
theorem Qii (n : NdV) : ∀ u ∈ (cat (ndP n)).toList, u.oneCell' = true := by
  intro u hu
  unfold ndP at hu
  simp only [cat, Array.toList_append, ints, List.mem_append, List.mem_map, List.mem_cons, List.not_mem_nil, or_false] at hu
  rcases hu with rfl | rfl | ⟨x, -, rfl⟩ | ⟨x, -, rfl⟩ | ⟨x, -, rfl⟩ | rfl <;> rfl
theorem OwT.app {P : Program} {ρ : Operand → Value} {o : Oper} {W : World} (b : Nat) (s x : Operand) (t : TypeId) (ho : o.op = .call { callee := .builtin .append, args := #[s, x], argTypes := #[t, t] }) (ht : P.underlying t = some (.slice 43))
    (hi : (P.info? 43).map (fun i => (i.zero.map (·.cells.size), i.size, i.bytes)) = some (some 99, 99, b)) (hb8 : b ≤ 1000) {base g : Nat} {v : Value} {ts : List NdV} {n : NdV} (hs : ρ s = v) (hx : ρ x = .slice (some ⟨g, 0, none⟩) 1 1)
    (h : OwT base ts v W) (hn : NdOk n.n) (hnl : n.n.ms.length ≤ 255) (hno : OwnN .i64 3 base n.n.ms (.slice n.a n.n.ms.length n.c) W) (hrow : W.heap[g]? = some (.cells (cat (ndP n)) 43)) (htl : ts.length ≤ 1000000) (hbase : base ≤ W.heap.size) :
    ∃ v' W', (execOp ρ o).run P W = .ok (.value v') W' ∧ OwT base (ts ++ [n]) v' W' ∧ RowKit.Below base W W' := by
  obtain ⟨i, hq, z, hz, hzs, hi2, hi3⟩ : ∃ i, P.info? 43 = some i ∧ ∃ z, i.zero = some z ∧ z.cells.size = 99 ∧ i.size = 99 ∧ i.bytes = b := by
    cases hq : P.info? 43 with
    | none => rw [hq] at hi; cases hi
    | some i =>
      rw [hq] at hi
      simp only [Option.map_some, Option.some.injEq, Prod.mk.injEq] at hi
      obtain ⟨z, hz, hzs⟩ := Option.map_eq_some_iff.1 hi.1
      exact ⟨i, rfl, z, hz, hzs, hi.2.1, hi.2.2⟩
  have hsz := Qfs n hn
  obtain ⟨v', W', hr, h2, h3, -, -⟩ := run_append_own_at (P := P) W base t o.type 43 i z 99 b ht hq hz hi2 hi3 hzs (by decide) v ts.length _ h.row ⟨g, 0, none⟩ 1 1 (cat (ndP n)).toList (by rw [Array.length_toList, hsz])
    (fun j u hu => by
      rw [WideShapes.add_plain, Nat.zero_add]
      unfold World.cell?
      simp only [hrow]
      rw [Array.getElem?_toList] at hu
      rw [← hu]; rfl) (Qii n) (by simp only [maxLen]; omega) (by
        have : (ts.length + 1) * b ≤ 1000001 * 1000 := Nat.mul_le_mul (by omega) hb8
        omega) hbase
  refine ⟨v', W', ?_, ⟨?_, ?_⟩, ⟨h3.os, h3.tape, h3.output, h3.size, fun k hk => h3.block k (Nat.lt_of_lt_of_le hk hbase) fun q => by have := (Qda h.row q.symm).1; omega⟩⟩
  · unfold execOp
    simp only [ho, resolve, invoke, builtin, Sem.run_bind, Sem.run_pure, Result.andThen_ok, List.map_toArray, List.map_cons, List.map_nil, hs, hx, hr]
  · rw [List.length_append, List.flatMap_append]
    simpa using h2
  · intro m hm
    have keep : ∀ m : NdV, OwnN .i64 3 base m.n.ms (.slice m.a m.n.ms.length m.c) W → OwnN .i64 3 base m.n.ms (.slice m.a m.n.ms.length m.c) W' := fun m hmo => hmo.keep fun k hk => h3.block k (hmo.lt hk) fun q => by
      obtain ⟨cur, e1⟩ := Qd3 hmo hk
      obtain ⟨-, cur2, e2⟩ := Qda h.row q.symm
      exact typW e1 e2 (by decide) rfl
    rcases List.mem_append.1 hm with h1 | h1
    · obtain ⟨a1, a2, a3⟩ := h.nd m h1
      exact ⟨a1, a2, keep m a3⟩
    · obtain rfl : m = n := by simpa using h1
      exact ⟨hn, hnl, keep m hno⟩
section
variable {ds : List Deferred} {P : Program} {ops : Array Oper} {Q : Exit → Act → World → Prop} {rest : List Oper} {o : Oper} {N : Nat} {L : Env} {W : World}
end
theorem Qho (ts : List NdV) (ho : ∀ n ∈ ts, NdOk n.n) : ∀ i, i < ts.length → ∀ j u, (cat (ndP (ndi ts i)))[j]? = some u → (ts.flatMap fun n => (cat (ndP n)).toList)[i * 99 + j]? = some u := by
  induction ts with
  | nil => intro i hi; exact absurd hi (Nat.not_lt_zero _)
  | cons n r ih =>
    intro i hi j u hu
    have hsz : (cat (ndP n)).toList.length = 99 := by rw [Array.length_toList]; exact Qfs n (ho n List.mem_cons_self)
    rw [List.flatMap_cons]
    cases i with
    | zero =>
      have hu' : (cat (ndP n))[j]? = some u := hu
      have hj : j < 99 := by have := (Array.getElem?_eq_some_iff.1 hu').1; rw [← Array.length_toList, hsz] at this; exact this
      rw [List.getElem?_append_left (by omega), Nat.zero_mul, Nat.zero_add, Array.getElem?_toList]; exact hu'
    | succ i =>
      rw [List.getElem?_append_right (by omega), hsz, show (i + 1) * 99 + j - 99 = i * 99 + j by omega]
      exact ih (fun x hx => ho x (List.mem_cons_of_mem _ hx)) i (by simpa using hi) j u hu
theorem OwT.tr {base : Nat} {ts : List NdV} {a : Option Addr} {c : Nat} {W : World} (h : OwT base ts (.slice a ts.length c) W) : TrAt W.heap.size W a ts := by
  rcases h.row.2 with ⟨e, -⟩ | ⟨g, cap, cur, e, q2, q3, -⟩
  · have h0 : ts.length = 0 := by simp only [Value.slice.injEq] at e; exact e.2.1
    exact ⟨0, 0, fun h1 => absurd h1 (by omega), fun i hi => absurd hi (by omega)⟩
  · simp only [Value.slice.injEq] at e
    obtain ⟨rfl, -, rfl⟩ := e
    refine ⟨g, 0, fun _ => rfl, fun i hi => ?_⟩
    have hm := Qih ts i hi
    obtain ⟨h1, h2, h3⟩ := h.nd _ hm
    refine ⟨Qay q3, Qay q3, fun j u hu => ?_, RdK.here (OwnN.rd h3), h1⟩
    have := h.row.cells (g := g) rfl (i * 99 + j) u (Qho ts (fun n hn => (h.nd n hn).1) i hi j u hu)
    rw [WideShapes.add_plain] at this
    rw [Nat.zero_add] at this
    rw [Nat.zero_add]; exact this
theorem OwT.sl {base : Nat} {ts : List NdV} {v : Value} {W : World} (h : OwT base ts v W) : ∃ a c, v = .slice a ts.length c := by
  rcases h.row.2 with ⟨e, e2⟩ | ⟨g, cap, cur, e, -⟩
  · exact ⟨none, 0, by rw [e, e2]⟩
  · exact ⟨_, _, e⟩
theorem OwT.base {a b : Nat} {ts : List NdV} {v : Value} {W : World} (h : OwT b ts v W) (hab : a ≤ b) : OwT a ts v W :=
  ⟨⟨h.row.1, h.row.2.imp id fun ⟨g, c, cur, q1, q2, q3⟩ => ⟨g, c, cur, q1, Nat.le_trans hab q2, q3⟩⟩, fun n hn => ⟨(h.nd n hn).1, (h.nd n hn).2.1, OwnN.base hab (h.nd n hn).2.2⟩⟩
end Go.Proofs.Ytfelfmchachljaa.Wr
end
section
namespace Go.Proofs.Ytfelfmchachljaa.Wr
open Go Go.RowKit
open Rely Auto Own Sha
set_option linter.unusedVariables false
set_option linter.unusedSimpArgs false
end Go.Proofs.Ytfelfmchachljaa.Wr
end
section
namespace Go.Proofs.Ytfelfmchachljaa.Wr
open Go Go.RowKit
open Rely Auto Own Sha
set_option linter.unusedVariables false
set_option linter.unusedSimpArgs false
theorem OwT.puts {base g : Nat} {ts : List NdV} {v : Value} {W W' : World} {c : Array Value} {T' : TypeId} (h : OwT base ts v W) (p : Puts W g W') (r : W.heap[g]? = some (.cells c T')) (h1 : T' ≠ 43) (h2 : T' ≠ 3) : OwT base ts v W' := by
  have q : W.grownBy W' (some g) := ⟨p.1, p.2.1, p.2.2.1, Nat.le_of_eq p.2.2.2.1.symm, fun k hk hn => p.2.2.2.2 k fun e => hn (by rw [e])⟩
  refine ⟨h.row.kept q ?_, fun n hn => ?_⟩
  · cases e : v.ownBlock with
    | none => exact .inl rfl
    | some k =>
      refine .inr fun e2 => ?_
      obtain ⟨-, cur, e3⟩ := Qda h.row e
      obtain rfl := Option.some.inj e2
      exact typW r e3 h1 rfl
  · obtain ⟨a1, a2, a3⟩ := h.nd n hn
    exact ⟨a1, a2, a3.puts p (QcR a3 r (Ne.symm h2))⟩
end Go.Proofs.Ytfelfmchachljaa.Wr
end
section
namespace Go.Proofs.Ytfelfmchachljaa.Wr
open Go Go.RowKit
open Rely Auto Own Sha
set_option linter.unusedVariables false
set_option linter.unusedSimpArgs false
def LsAt {α : Type} (El : Nat → World → Nat → Nat → α → Prop) (sz : Nat) (d : α) (B : Nat) (w : World) (a : Option Addr) (ts : List α) : Prop :=
  ∃ g o, (0 < ts.length → a = some ⟨g, o, none⟩) ∧ ∀ i, i < ts.length → El B w g (o + i * sz) (ts.getD i d)
structure ElK {α : Type} (El : Nat → World → Nat → Nat → α → Prop) : Prop where
  keep : ∀ {B g off : Nat} {w W : World} {x : α}, El B w g off x → w.heap.size ≤ W.heap.size → (∀ k, k < B → k < w.heap.size → W.heap[k]? = w.heap[k]?) → El B W g off x
  here : ∀ {B g off : Nat} {w : World} {x : α}, El B w g off x → El w.heap.size w g off x
  more : ∀ {B B' g off : Nat} {w : World} {x : α}, El B w g off x → B ≤ B' → El B' w g off x
section
variable {α : Type} {El : Nat → World → Nat → Nat → α → Prop} {sz : Nat} {d : α} {B : Nat} {w W : World} {a : Option Addr} {ts : List α}
theorem LsAt.keep (K : ElK El) (h : LsAt El sz d B w a ts) (hs : w.heap.size ≤ W.heap.size) (hk : ∀ k, k < B → k < w.heap.size → W.heap[k]? = w.heap[k]?) : LsAt El sz d B W a ts := by
  obtain ⟨g, o, h1, h2⟩ := h
  exact ⟨g, o, h1, fun i hi => K.keep (h2 i hi) hs hk⟩
theorem LsAt.ext (K : ElK El) (h : LsAt El sz d B w a ts) (e : Ext w W) : LsAt El sz d B W a ts := h.keep K e.size fun k _ hl => e.block k hl
theorem LsAt.gw {gw : Nat} (K : ElK El) (h : LsAt El sz d B w a ts) (q : GW B gw w W) (hb : B ≤ gw) : LsAt El sz d B W a ts := h.keep K q.size fun k hk hl => q.block k hl (by omega) (.inl hk)
theorem LsAt.here (K : ElK El) (h : LsAt El sz d B w a ts) : LsAt El sz d w.heap.size w a ts := by
  obtain ⟨g, o, h1, h2⟩ := h
  exact ⟨g, o, h1, fun i hi => K.here (h2 i hi)⟩
theorem LsAt.more {B' : Nat} (K : ElK El) (h : LsAt El sz d B w a ts) (hb : B ≤ B') : LsAt El sz d B' w a ts := by
  obtain ⟨g, o, h1, h2⟩ := h
  exact ⟨g, o, h1, fun i hi => K.more (h2 i hi) hb⟩
theorem QcU (ts : List α) (d : α) (i : Nat) (h : i < ts.length) : ts.drop i = ts.getD i d :: ts.drop (i + 1) := by
  rw [List.drop_eq_getElem_cons h]
  congr 1
  rw [List.getD_eq_getElem?_getD, List.getElem?_eq_getElem h]
  rfl
theorem Qc3 (ts : List α) (d : α) (i : Nat) (h : i < ts.length) : ts.take (i + 1) = ts.take i ++ [ts.getD i d] := by
  rw [List.take_add_one, List.getElem?_eq_getElem h, List.getD_eq_getElem?_getD, List.getElem?_eq_getElem h]
  rfl
theorem Qb3 (ts : List α) (d : α) (i : Nat) (h : i < ts.length) : ts.getD i d ∈ ts := by
  rw [List.getD_eq_getElem?_getD, List.getElem?_eq_getElem h]
  exact List.getElem_mem h
theorem QcL {F : Option (List Int) → α → Option (List Int)} (hF : ∀ x, F none x = none) : ∀ ts : List α, ts.foldl F none = none
  | [] => rfl
  | x :: r => by rw [List.foldl_cons, hF]; exact QcL hF r
end
structure RwV where
  xs : List Int
  a : Option Addr
  c : Nat
def rw0 : RwV := ⟨[], none, 0⟩
structure RwAt (B : Nat) (w : World) (g off : Nat) (r : RwV) : Prop where
  lt : g < B
  lt2 : g < w.heap.size
  cell : w.cell? ⟨g, off, none⟩ = some (.slice r.a r.xs.length r.c)
  rd : RdK .u8 B r.xs (.slice r.a r.xs.length r.c) w
  by_ : Qaj r.xs
theorem rwK : ElK RwAt :=
  ⟨fun h hs hk => ⟨h.lt, Nat.lt_of_lt_of_le h.lt2 hs, by rw [← h.cell]; exact World.cell?_of_block (hk _ h.lt h.lt2), h.rd.keep hs hk, h.by_⟩, fun h => ⟨h.lt2, h.lt2, h.cell, RdK.here h.rd, h.by_⟩, fun h hb => ⟨Nat.lt_of_lt_of_le h.lt hb, h.lt2, h.cell, RdK.more h.rd hb, h.by_⟩⟩
theorem QbG {P : Program} {ρ : Operand → Value} {o : Oper} {w : World} (ty : TypeId) (x : Operand) (g off : Nat) (v : Value) (h : w.cell? ⟨g, off, none⟩ = some v) (ho : o.op = .load ty x) (hx : ρ x = .pointer (some ⟨g, off, none⟩)) (hu : aggD P ty = some false) : (execOp ρ o).run P w = .ok (.value v) w := by
  obtain ⟨cs, t, fr, hg⟩ := Qdx h
  refine Qag ty x g off t cs v fr hg ho hx ?_ hu
  unfold World.cell? at h
  simp only [hg] at h
  rw [← h]; rfl
theorem Qbm {P : Program} {ρ : Operand → Value} {o : Oper} {w : World} (ty : TypeId) (x : Operand) (g off sz : Nat) (cs : Array Value) (u : Value) (h0 : cs[0]? = some u) (hsz : cs.size = sz) (h : ∀ j v, cs[j]? = some v → w.cell? ⟨g, off + j, none⟩ = some v)
    (ho : o.op = .load ty x) (hx : ρ x = .pointer (some ⟨g, off, none⟩)) (hu : aggD P ty = some true) (hi : (P.info? ty).map (·.size) = some sz) : (execOp ρ o).run P w = .ok (.value (.agg cs)) w := by
  obtain ⟨ds, t, fr, hg⟩ := Qdx (h 0 _ h0)
  refine Qau ty x g off t ds cs fr hg ho hx (fun j v hv => ?_) hu (by rw [hi, hsz])
  have h1 := h j v hv
  unfold World.cell? at h1
  simp only [hg] at h1
  rw [← h1]; rfl
structure StV where
  key : List Int
  rows : List RwV
  a : Option Addr
  c : Nat
def st0 : StV := ⟨[], [], none, 0⟩
def stP (s : StV) : List (Array Value) := [ints .u8 s.key, #[.slice s.a s.rows.length s.c]]
structure StAt (B : Nat) (w : World) (g off : Nat) (s : StV) : Prop where
  lt : g < B
  lt2 : g < w.heap.size
  cell : ∀ j u, (cat (stP s))[j]? = some u → w.cell? ⟨g, off + j, none⟩ = some u
  rows : LsAt RwAt 1 rw0 B w s.a s.rows
  kl : s.key.length = 32
  kb : Qaj s.key
theorem stK : ElK StAt :=
  ⟨fun h hs hk => ⟨h.lt, Nat.lt_of_lt_of_le h.lt2 hs, fun j u hu => by rw [← h.cell j u hu]; exact World.cell?_of_block (hk _ h.lt h.lt2), h.rows.keep rwK hs hk, h.kl, h.kb⟩, fun h => ⟨h.lt2, h.lt2, h.cell, h.rows.here rwK, h.kl, h.kb⟩, fun h hb => ⟨Nat.lt_of_lt_of_le h.lt hb, h.lt2, h.cell, h.rows.more rwK hb, h.kl, h.kb⟩⟩
theorem Qcm (s : StV) (h : s.key.length = 32) : (cat (stP s)).size = 33 := by
  unfold stP
  simp only [cat, Array.size_append, Qac, h]
  rfl
theorem QhB (s : StV) (h : s.key.length = 32) : ∃ u, (cat (stP s))[0]? = some u := ⟨_, Array.getElem?_eq_getElem (by rw [Qcm s h]; decide)⟩
structure PrC where
  grp : List Int
  ep : Int
  fr : Int
  bas : List Int
  kd : Int
  n : NdC
  start : List Int
  at_ : Int
  sig : List Int
structure PrV where
  p : PrC
  a : Option Addr
  c : Nat
def pr0 : PrV := ⟨⟨[], 0, 0, [], 0, ⟨false, 0, [], [], [], []⟩, [], 0, []⟩, none, 0⟩
structure PrOk (p : PrC) : Prop where
  rl : p.grp.length = 32
  rb : Qaj p.grp
  al : p.bas.length = 32
  ab : Qaj p.bas
  n : NdOk p.n
  tl : p.start.length = 32
  tb : Qaj p.start
  il : p.sig.length = 64
  ib : Qaj p.sig
def prP (p : PrV) : List (Array Value) := [ints .u8 p.p.grp, #[.int .i64 p.p.ep], #[.int .i64 p.p.fr], ints .u8 p.p.bas, #[.int .i64 p.p.kd], #[.bool p.p.n.us], #[.int .i64 p.p.n.nm], ints .u8 p.p.n.key, ints .u8 p.p.n.sg, ints .u8 p.p.n.pa, #[.slice p.a p.p.n.ms.length p.c], ints .u8 p.p.start, #[.int .i64 p.p.at_], ints .u8 p.p.sig]
theorem Qb5 (p : PrV) (h : PrOk p.p) : (cat (prP p)).size = 263 := by
  unfold prP
  simp only [cat, Array.size_append, Qac, h.rl, h.al, h.n.kl, h.n.gl, h.n.pl, h.tl, h.il]
  rfl
theorem Qek (p : PrV) (h : PrOk p.p) : ∃ u, (cat (prP p))[0]? = some u := ⟨_, Array.getElem?_eq_getElem (by rw [Qb5 p h]; decide)⟩
structure PrAt (B : Nat) (w : World) (g off : Nat) (p : PrV) : Prop where
  lt : g < B
  lt2 : g < w.heap.size
  cell : ∀ j u, (cat (prP p))[j]? = some u → w.cell? ⟨g, off + j, none⟩ = some u
  rd : RdK .i64 B p.p.n.ms (.slice p.a p.p.n.ms.length p.c) w
  ok : PrOk p.p
theorem prK : ElK PrAt :=
  ⟨fun h hs hk => ⟨h.lt, Nat.lt_of_lt_of_le h.lt2 hs, fun j u hu => by rw [← h.cell j u hu]; exact World.cell?_of_block (hk _ h.lt h.lt2), h.rd.keep hs hk, h.ok⟩, fun h => ⟨h.lt2, h.lt2, h.cell, RdK.here h.rd, h.ok⟩, fun h hb => ⟨Nat.lt_of_lt_of_le h.lt hb, h.lt2, h.cell, RdK.more h.rd hb, h.ok⟩⟩
end Go.Proofs.Ytfelfmchachljaa.Wr
end
section
namespace Go.Proofs.Ytfelfmchachljaa.Wr
open Go Go.RowKit
open Rely Auto Own Sha
set_option linter.unusedVariables false
set_option linter.unusedSimpArgs false
set_option maxHeartbeats 4000000 in
theorem Qia (base gw : Nat) (s : Option (List Int)) (grp : List Int) (ep fr : Int) (bas : List Int) (us : Bool) (nm : Int) (key sg pa ms start : List Int) (at_ : Int) (sig : List Int) (a_m : Option Addr) (c_m : Nat) (w : World) (hbw : base ≤ w.heap.size) (hbg : base ≤ gw) (h : WSt base gw s w) (hrl : grp.length = 32) (hrb : Qaj grp) (hal : bas.length = 32) (hab : Qaj bas) (hkl : key.length = 32) (hgl : sg.length = 32) (hpl : pa.length = 32) (hkb : Qaj key) (hgb : Qaj sg) (hpb : Qaj pa) (hml : ms.length ≤ 1000000) (htl : start.length = 32) (htb : Qaj start) (hil : sig.length = 64) (hib : Qaj sig) (hm : RdK .i64 base ms (.slice a_m ms.length c_m) w) : Calls Try.prog 57 #[.pointer (some ⟨gw, 0, none⟩), .agg (cat [ints .u8 (grp), #[.int .i64 ep], #[.int .i64 fr], ints .u8 (bas), #[.int .i64 1], #[.bool us], #[.int .i64 nm], ints .u8 (key), ints .u8 (sg), ints .u8 (pa), #[.slice a_m ms.length c_m], ints .u8 (start), #[.int .i64 at_], ints .u8 (sig)])] w (fun e W => e = .returned (.tuple #[]) ∧ GW base gw w W ∧ WSt base gw (rawS (Qa4 (rawS (Qcs (numS (Qa4 (rawS (QaQ (numS (rawS (s) grp) ep 4) fr) bas) true) 1 1) us nm key sg pa ms) start) ((at_ == 0))) sig) W) := by
  have hgw := h.lt
  refine enter 80 [(0, .pointer (some ⟨gw, 0, none⟩)), (1, .agg (cat [ints .u8 (grp), #[.int .i64 ep], #[.int .i64 fr], ints .u8 (bas), #[.int .i64 1], #[.bool us], #[.int .i64 nm], ints .u8 (key), ints .u8 (sg), ints .u8 (pa), #[.slice a_m ms.length c_m], ints .u8 (start), #[.int .i64 at_], ints .u8 (sig)]))] Try.func57 rfl rfl kj rfl ?_
  refine wp_seq_k fun K1 hK1 => ?_
  refine Qae ?_
  refine Qav (cat [ints .u8 (grp), #[.int .i64 ep], #[.int .i64 fr], ints .u8 (bas), #[.int .i64 1], #[.bool us], #[.int .i64 nm], ints .u8 (key), ints .u8 (sg), ints .u8 (pa), #[.slice a_m ms.length c_m], ints .u8 (start), #[.int .i64 at_], ints .u8 (sig)]) 47 3 rfl kj kj fun g2 W1 l2 e1 r2_1 => ?_
  have x1 : GW base gw w W1 := GW.ext (GW.refl base gw w) e1
  have ws3 := WSt.ext h e1
  have b2 : w.heap.size ≤ g2 := Nat.le_trans (GW.refl base gw w).size l2
  refine Qaf ?_
  refine hK1 _ _ ?_
  refine wp_seq_k fun K4 hK4 => ?_
  refine Qae ?_
  refine Qab (.pointer (some ⟨gw, 0, none⟩)) 4 rfl kj kj ?_
  refine Qab (.pointer (some ⟨g2, 0, none⟩)) 5 rfl kj kj ?_
  refine Qab (.slice (some ⟨g2, 0, none⟩) 32 32) 6 rfl kj kj ?_
  refine Qak (fun v W' => v = .tuple #[] ∧ GW base gw W1 W' ∧ WSt base gw (rawS (s) grp) W') 104 #[.pointer (some ⟨gw, 0, none⟩), .slice (some ⟨g2, 0, none⟩) 32 32] 7 rfl kj kj ((rawW base gw _ grp _ _ (Nat.le_trans hbw x1.size) ws3 (by omega) hrb (fun W e => (QaB 0 hrl (ExtB.row e r2_1 (Ne.symm (Nat.ne_of_lt (Nat.lt_of_lt_of_le hgw b2)))) (fun i hi => Qa8 [] [#[.int .i64 ep], #[.int .i64 fr], ints .u8 (bas), #[.int .i64 1], #[.bool us], #[.int .i64 nm], ints .u8 (key), ints .u8 (sg), ints .u8 (pa), #[.slice a_m ms.length c_m], ints .u8 (start), #[.int .i64 at_], ints .u8 (sig)] grp 0 i (0 + i) kj rfl (by rw [hrl]; exact hi)) (Qay (ExtB.row e r2_1 (Ne.symm (Nat.ne_of_lt (Nat.lt_of_lt_of_le hgw b2))))) (Nat.le_refl _) (by decide)))).mono (by rintro e w' ⟨rfl, h1, h2⟩; exact ⟨_, rfl, rfl, h1, h2⟩)) fun v5 W2 h5 => ?_
  obtain ⟨rfl, q2, ws5⟩ := h5
  have x2 : GW base gw w W2 := GW.trans x1 q2
  refine Qaf ?_
  refine hK4 _ _ ?_
  refine wp_seq_k fun K6 hK6 => ?_
  refine Qae ?_
  refine Qab (.pointer (some ⟨gw, 0, none⟩)) 8 rfl kj kj ?_
  refine Qab (.pointer (some ⟨g2, 32, none⟩)) 9 rfl kj kj ?_
  have r2_2 := (GW.row q2 r2_1 (by decide) (Ne.symm (Nat.ne_of_lt (Nat.lt_of_lt_of_le hgw b2))))
  refine Qab (.int .i64 ep) 10 rfl kj (Qag 3 _ g2 32 47 _ (.int .i64 ep) _ r2_2 rfl kj (Qah [ints .u8 (grp)] [#[.int .i64 ep]] [#[.int .i64 fr], ints .u8 (bas), #[.int .i64 1], #[.bool us], #[.int .i64 nm], ints .u8 (key), ints .u8 (sg), ints .u8 (pa), #[.slice a_m ms.length c_m], ints .u8 (start), #[.int .i64 at_], ints .u8 (sig)] 32 ((Qac _ _).trans hrl) 0 _ rfl) kj) ?_
  refine Qak (fun v W' => v = .tuple #[] ∧ GW base gw W2 W' ∧ WSt base gw (numS (rawS (s) grp) ep 4) W') 105 #[.pointer (some ⟨gw, 0, none⟩), .int .i64 ep, .int .i64 4] 11 rfl kj kj ((Qbn base gw _ ep 4 _ (Nat.le_trans hbw x2.size) ws5 (by decide)).mono (by rintro e w' ⟨rfl, h1, h2⟩; exact ⟨_, rfl, rfl, h1, h2⟩)) fun v7 W3 h7 => ?_
  obtain ⟨rfl, q3, ws7⟩ := h7
  have x3 : GW base gw w W3 := GW.trans x2 q3
  refine Qaf ?_
  refine hK6 _ _ ?_
  refine wp_seq_k fun K8 hK8 => ?_
  refine Qae ?_
  refine Qab (.pointer (some ⟨gw, 0, none⟩)) 12 rfl kj kj ?_
  refine Qab (.pointer (some ⟨g2, 33, none⟩)) 13 rfl kj kj ?_
  have r2_3 := (GW.row q3 r2_2 (by decide) (Ne.symm (Nat.ne_of_lt (Nat.lt_of_lt_of_le hgw b2))))
  refine Qab (.int .i64 fr) 14 rfl kj (Qag 3 _ g2 33 47 _ (.int .i64 fr) _ r2_3 rfl kj (Qah [ints .u8 (grp), #[.int .i64 ep]] [#[.int .i64 fr]] [ints .u8 (bas), #[.int .i64 1], #[.bool us], #[.int .i64 nm], ints .u8 (key), ints .u8 (sg), ints .u8 (pa), #[.slice a_m ms.length c_m], ints .u8 (start), #[.int .i64 at_], ints .u8 (sig)] 33 (by rw [Qaa, Qaa]; simp only [Array.size_append, cat, ((Qac _ _).trans hrl)]; rfl) 0 _ rfl) kj) ?_
  refine Qak (fun v W' => v = .tuple #[] ∧ GW base gw W3 W' ∧ WSt base gw (QaQ (numS (rawS (s) grp) ep 4) fr) W') 106 #[.pointer (some ⟨gw, 0, none⟩), .int .i64 fr] 15 rfl kj kj ((Qen base gw _ fr _ (Nat.le_trans hbw x3.size) ws7).mono (by rintro e w' ⟨rfl, h1, h2⟩; exact ⟨_, rfl, rfl, h1, h2⟩)) fun v9 W4 h9 => ?_
  obtain ⟨rfl, q4, ws9⟩ := h9
  have x4 : GW base gw w W4 := GW.trans x3 q4
  refine Qaf ?_
  refine hK8 _ _ ?_
  refine wp_seq_k fun K10 hK10 => ?_
  refine Qae ?_
  refine Qab (.pointer (some ⟨gw, 0, none⟩)) 16 rfl kj kj ?_
  refine Qab (.pointer (some ⟨g2, 34, none⟩)) 17 rfl kj kj ?_
  refine Qab (.slice (some ⟨g2, 34, none⟩) 32 32) 18 rfl kj kj ?_
  have r2_4 := (GW.row q4 r2_3 (by decide) (Ne.symm (Nat.ne_of_lt (Nat.lt_of_lt_of_le hgw b2))))
  refine Qak (fun v W' => v = .tuple #[] ∧ GW base gw W4 W' ∧ WSt base gw (rawS (QaQ (numS (rawS (s) grp) ep 4) fr) bas) W') 104 #[.pointer (some ⟨gw, 0, none⟩), .slice (some ⟨g2, 34, none⟩) 32 32] 19 rfl kj kj ((rawW base gw _ bas _ _ (Nat.le_trans hbw x4.size) ws9 (by omega) hab (fun W e => (QaB 34 hal (ExtB.row e r2_4 (Ne.symm (Nat.ne_of_lt (Nat.lt_of_lt_of_le hgw b2)))) (fun i hi => Qa8 [ints .u8 (grp), #[.int .i64 ep], #[.int .i64 fr]] [#[.int .i64 1], #[.bool us], #[.int .i64 nm], ints .u8 (key), ints .u8 (sg), ints .u8 (pa), #[.slice a_m ms.length c_m], ints .u8 (start), #[.int .i64 at_], ints .u8 (sig)] bas 34 i (34 + i) (by rw [Qaa, Qaa, Qaa]; simp only [Array.size_append, cat, ((Qac _ _).trans hrl)]; rfl) rfl (by rw [hal]; exact hi)) (Qay (ExtB.row e r2_4 (Ne.symm (Nat.ne_of_lt (Nat.lt_of_lt_of_le hgw b2))))) (Nat.le_refl _) (by decide)))).mono (by rintro e w' ⟨rfl, h1, h2⟩; exact ⟨_, rfl, rfl, h1, h2⟩)) fun v11 W5 h11 => ?_
  obtain ⟨rfl, q5, ws11⟩ := h11
  have x5 : GW base gw w W5 := GW.trans x4 q5
  refine Qaf ?_
  refine hK10 _ _ ?_
  refine wp_seq_k fun K12 hK12 => ?_
  refine Qae ?_
  refine Qab (.pointer (some ⟨gw, 0, none⟩)) 20 rfl kj kj ?_
  refine Qab (.pointer (some ⟨g2, 66, none⟩)) 21 rfl kj kj ?_
  have r2_5 := (GW.row q5 r2_4 (by decide) (Ne.symm (Nat.ne_of_lt (Nat.lt_of_lt_of_le hgw b2))))
  refine Qab (.int .i64 1) 22 rfl kj (Qag 3 _ g2 66 47 _ (.int .i64 1) _ r2_5 rfl kj (Qah [ints .u8 (grp), #[.int .i64 ep], #[.int .i64 fr], ints .u8 (bas)] [#[.int .i64 1]] [#[.bool us], #[.int .i64 nm], ints .u8 (key), ints .u8 (sg), ints .u8 (pa), #[.slice a_m ms.length c_m], ints .u8 (start), #[.int .i64 at_], ints .u8 (sig)] 66 (by rw [Qaa, Qaa, Qaa, Qaa]; simp only [Array.size_append, cat, ((Qac _ _).trans hal), ((Qac _ _).trans hrl)]; rfl) 0 _ rfl) kj) ?_
  refine Qab (.bool true) 23 rfl kj kj ?_
  refine Qab (.bool true) 24 rfl kj kj ?_
  refine Qab (.pointer (some ⟨g2, 66, none⟩)) 25 rfl kj kj ?_
  refine Qab (.int .i64 1) 26 rfl kj (Qag 3 _ g2 66 47 _ (.int .i64 1) _ r2_5 rfl kj (Qah [ints .u8 (grp), #[.int .i64 ep], #[.int .i64 fr], ints .u8 (bas)] [#[.int .i64 1]] [#[.bool us], #[.int .i64 nm], ints .u8 (key), ints .u8 (sg), ints .u8 (pa), #[.slice a_m ms.length c_m], ints .u8 (start), #[.int .i64 at_], ints .u8 (sig)] 66 (by rw [Qaa, Qaa, Qaa, Qaa]; simp only [Array.size_append, cat, ((Qac _ _).trans hal), ((Qac _ _).trans hrl)]; rfl) 0 _ rfl) kj) ?_
  refine Qab (.bool true) 27 rfl kj kj ?_
  refine Qab (.bool true) 28 rfl kj kj ?_
  refine Qak (fun v W' => v = .tuple #[] ∧ GW base gw W5 W' ∧ WSt base gw (Qa4 (rawS (QaQ (numS (rawS (s) grp) ep 4) fr) bas) true) W') 98 #[.pointer (some ⟨gw, 0, none⟩), .bool true] 29 rfl kj kj ((Qcj base gw _ true _ ws11).mono (by rintro e w' ⟨rfl, h1, h2⟩; exact ⟨_, rfl, rfl, h1, h2⟩)) fun v13 W6 h13 => ?_
  obtain ⟨rfl, q6, ws13⟩ := h13
  have x6 : GW base gw w W6 := GW.trans x5 q6
  refine Qaf ?_
  refine hK12 _ _ ?_
  refine wp_seq_k fun K14 hK14 => ?_
  refine Qae ?_
  refine Qab (.pointer (some ⟨gw, 0, none⟩)) 30 rfl kj kj ?_
  refine Qab (.pointer (some ⟨g2, 66, none⟩)) 31 rfl kj kj ?_
  have r2_6 := (GW.row q6 r2_5 (by decide) (Ne.symm (Nat.ne_of_lt (Nat.lt_of_lt_of_le hgw b2))))
  refine Qab (.int .i64 1) 32 rfl kj (Qag 3 _ g2 66 47 _ (.int .i64 1) _ r2_6 rfl kj (Qah [ints .u8 (grp), #[.int .i64 ep], #[.int .i64 fr], ints .u8 (bas)] [#[.int .i64 1]] [#[.bool us], #[.int .i64 nm], ints .u8 (key), ints .u8 (sg), ints .u8 (pa), #[.slice a_m ms.length c_m], ints .u8 (start), #[.int .i64 at_], ints .u8 (sig)] 66 (by rw [Qaa, Qaa, Qaa, Qaa]; simp only [Array.size_append, cat, ((Qac _ _).trans hal), ((Qac _ _).trans hrl)]; rfl) 0 _ rfl) kj) ?_
  refine Qak (fun v W' => v = .tuple #[] ∧ GW base gw W6 W' ∧ WSt base gw (numS (Qa4 (rawS (QaQ (numS (rawS (s) grp) ep 4) fr) bas) true) 1 1) W') 105 #[.pointer (some ⟨gw, 0, none⟩), .int .i64 1, .int .i64 1] 33 rfl kj kj ((Qbn base gw _ 1 1 _ (Nat.le_trans hbw x6.size) ws13 (by decide)).mono (by rintro e w' ⟨rfl, h1, h2⟩; exact ⟨_, rfl, rfl, h1, h2⟩)) fun v15 W7 h15 => ?_
  obtain ⟨rfl, q7, ws15⟩ := h15
  have x7 : GW base gw w W7 := GW.trans x6 q7
  refine Qaf ?_
  refine hK14 _ _ ?_
  refine wp_seq_k fun K16 hK16 => ?_
  refine wp_seq_k fun K17 hK17 => ?_
  refine Qae ?_
  refine Qab (.pointer (some ⟨g2, 66, none⟩)) 34 rfl kj kj ?_
  have r2_7 := (GW.row q7 r2_6 (by decide) (Ne.symm (Nat.ne_of_lt (Nat.lt_of_lt_of_le hgw b2))))
  refine Qab (.int .i64 1) 35 rfl kj (Qag 3 _ g2 66 47 _ (.int .i64 1) _ r2_7 rfl kj (Qah [ints .u8 (grp), #[.int .i64 ep], #[.int .i64 fr], ints .u8 (bas)] [#[.int .i64 1]] [#[.bool us], #[.int .i64 nm], ints .u8 (key), ints .u8 (sg), ints .u8 (pa), #[.slice a_m ms.length c_m], ints .u8 (start), #[.int .i64 at_], ints .u8 (sig)] 66 (by rw [Qaa, Qaa, Qaa, Qaa]; simp only [Array.size_append, cat, ((Qac _ _).trans hal), ((Qac _ _).trans hrl)]; rfl) 0 _ rfl) kj) ?_
  refine Qab (.bool true) 36 rfl kj kj ?_
  refine Qab (.bool true) 37 rfl kj kj ?_
  refine Qao 38 rfl kj ?_
  refine Qao 39 rfl kj ?_
  refine Qao 40 rfl kj ?_
  refine Qab (.bool true) 41 rfl kj kj ?_
  refine Qaf ?_
  refine hK17 _ _ ?_
  refine cond_true kj ?_
  refine Qae ?_
  refine Qab (.pointer (some ⟨gw, 0, none⟩)) 42 rfl kj kj ?_
  refine Qab (.pointer (some ⟨g2, 67, none⟩)) 43 rfl kj kj ?_
  refine Qab (.agg (cat [#[.bool us], #[.int .i64 nm], ints .u8 (key), ints .u8 (sg), ints .u8 (pa), #[.slice a_m ms.length c_m]])) 44 rfl kj (Qau 43 _ g2 67 47 _ _ _ r2_7 rfl kj (Qah [ints .u8 (grp), #[.int .i64 ep], #[.int .i64 fr], ints .u8 (bas), #[.int .i64 1]] [#[.bool us], #[.int .i64 nm], ints .u8 (key), ints .u8 (sg), ints .u8 (pa), #[.slice a_m ms.length c_m]] [ints .u8 (start), #[.int .i64 at_], ints .u8 (sig)] 67 (by rw [Qaa, Qaa, Qaa, Qaa, Qaa]; simp only [Array.size_append, cat, ((Qac _ _).trans hal), ((Qac _ _).trans hrl)]; rfl)) kj (isz (n := 99) kj (by rw [Qaa, Qaa, Qaa, Qaa, Qaa, Qaa]; simp only [Array.size_append, cat, ((Qac _ _).trans hgl), ((Qac _ _).trans hkl), ((Qac _ _).trans hpl)]; rfl))) ?_
  refine Qak (fun v W' => v = .tuple #[] ∧ GW base gw W7 W' ∧ WSt base gw (Qcs (numS (Qa4 (rawS (QaQ (numS (rawS (s) grp) ep 4) fr) bas) true) 1 1) us nm key sg pa ms) W') 95 #[.pointer (some ⟨gw, 0, none⟩), .agg (cat [#[.bool us], #[.int .i64 nm], ints .u8 (key), ints .u8 (sg), ints .u8 (pa), #[.slice a_m ms.length c_m]])] 45 rfl kj kj ((Qif base gw _ us nm key sg pa ms _ _ _ (Nat.le_trans hbw x7.size) hbg ws15 hkl hgl hpl hkb hgb hpb hml (QcE hm x7 hbg)).mono (by rintro e w' ⟨rfl, h1, h2⟩; exact ⟨_, rfl, rfl, h1, h2⟩)) fun v18 W8 h18 => ?_
  obtain ⟨rfl, q8, ws18⟩ := h18
  have x8 : GW base gw w W8 := GW.trans x7 q8
  refine Qaf ?_
  refine hK16 _ _ ?_
  refine wp_seq_k fun K19 hK19 => ?_
  refine wp_seq_k fun K20 hK20 => ?_
  refine Qae ?_
  refine Qab (.pointer (some ⟨g2, 66, none⟩)) 51 rfl kj kj ?_
  have r2_8 := (GW.row q8 r2_7 (by decide) (Ne.symm (Nat.ne_of_lt (Nat.lt_of_lt_of_le hgw b2))))
  refine Qab (.int .i64 1) 52 rfl kj (Qag 3 _ g2 66 47 _ (.int .i64 1) _ r2_8 rfl kj (Qah [ints .u8 (grp), #[.int .i64 ep], #[.int .i64 fr], ints .u8 (bas)] [#[.int .i64 1]] [#[.bool us], #[.int .i64 nm], ints .u8 (key), ints .u8 (sg), ints .u8 (pa), #[.slice a_m ms.length c_m], ints .u8 (start), #[.int .i64 at_], ints .u8 (sig)] 66 (by rw [Qaa, Qaa, Qaa, Qaa]; simp only [Array.size_append, cat, ((Qac _ _).trans hal), ((Qac _ _).trans hrl)]; rfl) 0 _ rfl) kj) ?_
  refine Qab (.bool true) 53 rfl kj kj ?_
  refine Qaf ?_
  refine hK20 _ _ ?_
  refine cond_true kj ?_
  refine Qae ?_
  refine Qab (.pointer (some ⟨gw, 0, none⟩)) 54 rfl kj kj ?_
  refine Qab (.pointer (some ⟨g2, 166, none⟩)) 55 rfl kj kj ?_
  refine Qab (.slice (some ⟨g2, 166, none⟩) 32 32) 56 rfl kj kj ?_
  refine Qak (fun v W' => v = .tuple #[] ∧ GW base gw W8 W' ∧ WSt base gw (rawS (Qcs (numS (Qa4 (rawS (QaQ (numS (rawS (s) grp) ep 4) fr) bas) true) 1 1) us nm key sg pa ms) start) W') 104 #[.pointer (some ⟨gw, 0, none⟩), .slice (some ⟨g2, 166, none⟩) 32 32] 57 rfl kj kj ((rawW base gw _ start _ _ (Nat.le_trans hbw x8.size) ws18 (by omega) htb (fun W e => (QaB 166 htl (ExtB.row e r2_8 (Ne.symm (Nat.ne_of_lt (Nat.lt_of_lt_of_le hgw b2)))) (fun i hi => Qa8 [ints .u8 (grp), #[.int .i64 ep], #[.int .i64 fr], ints .u8 (bas), #[.int .i64 1], #[.bool us], #[.int .i64 nm], ints .u8 (key), ints .u8 (sg), ints .u8 (pa), #[.slice a_m ms.length c_m]] [#[.int .i64 at_], ints .u8 (sig)] start 166 i (166 + i) (by rw [Qaa, Qaa, Qaa, Qaa, Qaa, Qaa, Qaa, Qaa, Qaa, Qaa, Qaa]; simp only [Array.size_append, cat, ((Qac _ _).trans hal), ((Qac _ _).trans hgl), ((Qac _ _).trans hkl), ((Qac _ _).trans hpl), ((Qac _ _).trans hrl)]; rfl) rfl (by rw [htl]; exact hi)) (Qay (ExtB.row e r2_8 (Ne.symm (Nat.ne_of_lt (Nat.lt_of_lt_of_le hgw b2))))) (Nat.le_refl _) (by decide)))).mono (by rintro e w' ⟨rfl, h1, h2⟩; exact ⟨_, rfl, rfl, h1, h2⟩)) fun v21 W9 h21 => ?_
  obtain ⟨rfl, q9, ws21⟩ := h21
  have x9 : GW base gw w W9 := GW.trans x8 q9
  refine Qaf ?_
  refine hK19 _ _ ?_
  refine wp_seq_k fun K22 hK22 => ?_
  refine wp_seq_k fun K23 hK23 => ?_
  refine Qae ?_
  refine Qab (.pointer (some ⟨g2, 66, none⟩)) 64 rfl kj kj ?_
  have r2_9 := (GW.row q9 r2_8 (by decide) (Ne.symm (Nat.ne_of_lt (Nat.lt_of_lt_of_le hgw b2))))
  refine Qab (.int .i64 1) 65 rfl kj (Qag 3 _ g2 66 47 _ (.int .i64 1) _ r2_9 rfl kj (Qah [ints .u8 (grp), #[.int .i64 ep], #[.int .i64 fr], ints .u8 (bas)] [#[.int .i64 1]] [#[.bool us], #[.int .i64 nm], ints .u8 (key), ints .u8 (sg), ints .u8 (pa), #[.slice a_m ms.length c_m], ints .u8 (start), #[.int .i64 at_], ints .u8 (sig)] 66 (by rw [Qaa, Qaa, Qaa, Qaa]; simp only [Array.size_append, cat, ((Qac _ _).trans hal), ((Qac _ _).trans hrl)]; rfl) 0 _ rfl) kj) ?_
  refine Qab (.bool false) 66 rfl kj kj ?_
  refine Qaf ?_
  refine hK23 _ _ ?_
  refine cond_false kj ?_
  refine Qae ?_
  refine Qab (.pointer (some ⟨gw, 0, none⟩)) 71 rfl kj kj ?_
  refine Qab (.pointer (some ⟨g2, 198, none⟩)) 72 rfl kj kj ?_
  refine Qab (.int .i64 at_) 73 rfl kj (Qag 3 _ g2 198 47 _ (.int .i64 at_) _ r2_9 rfl kj (Qah [ints .u8 (grp), #[.int .i64 ep], #[.int .i64 fr], ints .u8 (bas), #[.int .i64 1], #[.bool us], #[.int .i64 nm], ints .u8 (key), ints .u8 (sg), ints .u8 (pa), #[.slice a_m ms.length c_m], ints .u8 (start)] [#[.int .i64 at_]] [ints .u8 (sig)] 198 (by rw [Qaa, Qaa, Qaa, Qaa, Qaa, Qaa, Qaa, Qaa, Qaa, Qaa, Qaa, Qaa]; simp only [Array.size_append, cat, ((Qac _ _).trans hal), ((Qac _ _).trans hgl), ((Qac _ _).trans hkl), ((Qac _ _).trans hpl), ((Qac _ _).trans hrl), ((Qac _ _).trans htl)]; rfl) 0 _ rfl) kj) ?_
  refine Qab (.bool ((at_ == 0))) 74 rfl kj kj ?_
  refine Qak (fun v W' => v = .tuple #[] ∧ GW base gw W9 W' ∧ WSt base gw (Qa4 (rawS (Qcs (numS (Qa4 (rawS (QaQ (numS (rawS (s) grp) ep 4) fr) bas) true) 1 1) us nm key sg pa ms) start) ((at_ == 0))) W') 98 #[.pointer (some ⟨gw, 0, none⟩), .bool ((at_ == 0))] 75 rfl kj kj ((Qcj base gw _ ((at_ == 0)) _ ws21).mono (by rintro e w' ⟨rfl, h1, h2⟩; exact ⟨_, rfl, rfl, h1, h2⟩)) fun v24 W10 h24 => ?_
  obtain ⟨rfl, q10, ws24⟩ := h24
  have x10 : GW base gw w W10 := GW.trans x9 q10
  refine Qaf ?_
  refine hK22 _ _ ?_
  refine Qae ?_
  refine Qab (.pointer (some ⟨gw, 0, none⟩)) 76 rfl kj kj ?_
  refine Qab (.pointer (some ⟨g2, 199, none⟩)) 77 rfl kj kj ?_
  refine Qab (.slice (some ⟨g2, 199, none⟩) 64 64) 78 rfl kj kj ?_
  have r2_10 := (GW.row q10 r2_9 (by decide) (Ne.symm (Nat.ne_of_lt (Nat.lt_of_lt_of_le hgw b2))))
  refine Qak (fun v W' => v = .tuple #[] ∧ GW base gw W10 W' ∧ WSt base gw (rawS (Qa4 (rawS (Qcs (numS (Qa4 (rawS (QaQ (numS (rawS (s) grp) ep 4) fr) bas) true) 1 1) us nm key sg pa ms) start) ((at_ == 0))) sig) W') 104 #[.pointer (some ⟨gw, 0, none⟩), .slice (some ⟨g2, 199, none⟩) 64 64] 79 rfl kj kj ((rawW base gw _ sig _ _ (Nat.le_trans hbw x10.size) ws24 (by omega) hib (fun W e => (QaB 199 hil (ExtB.row e r2_10 (Ne.symm (Nat.ne_of_lt (Nat.lt_of_lt_of_le hgw b2)))) (fun i hi => Qa8 [ints .u8 (grp), #[.int .i64 ep], #[.int .i64 fr], ints .u8 (bas), #[.int .i64 1], #[.bool us], #[.int .i64 nm], ints .u8 (key), ints .u8 (sg), ints .u8 (pa), #[.slice a_m ms.length c_m], ints .u8 (start), #[.int .i64 at_]] [] sig 199 i (199 + i) (by rw [Qaa, Qaa, Qaa, Qaa, Qaa, Qaa, Qaa, Qaa, Qaa, Qaa, Qaa, Qaa, Qaa]; simp only [Array.size_append, cat, ((Qac _ _).trans hal), ((Qac _ _).trans hgl), ((Qac _ _).trans hkl), ((Qac _ _).trans hpl), ((Qac _ _).trans hrl), ((Qac _ _).trans htl)]; rfl) rfl (by rw [hil]; exact hi)) (Qay (ExtB.row e r2_10 (Ne.symm (Nat.ne_of_lt (Nat.lt_of_lt_of_le hgw b2))))) (Nat.le_refl _) (by decide)))).mono (by rintro e w' ⟨rfl, h1, h2⟩; exact ⟨_, rfl, rfl, h1, h2⟩)) fun v25 W11 h25 => ?_
  obtain ⟨rfl, q11, ws25⟩ := h25
  have x11 : GW base gw w W11 := GW.trans x10 q11
  refine Qaf ?_
  repeat (first | with_reducible refine goX1 ?_ | with_reducible refine goX2 ?_ | with_reducible refine goX3 ?_)
  exact (show bodyPost _ _ _ .normal _ _ from end0 rfl ⟨rfl, x11, ws25⟩)
set_option maxHeartbeats 4000000 in
theorem QhZ (base gw : Nat) (s : Option (List Int)) (grp : List Int) (ep fr : Int) (bas : List Int) (us : Bool) (nm : Int) (key sg pa ms start : List Int) (at_ : Int) (sig : List Int) (a_m : Option Addr) (c_m : Nat) (w : World) (hbw : base ≤ w.heap.size) (hbg : base ≤ gw) (h : WSt base gw s w) (hrl : grp.length = 32) (hrb : Qaj grp) (hal : bas.length = 32) (hab : Qaj bas) (hkl : key.length = 32) (hgl : sg.length = 32) (hpl : pa.length = 32) (hkb : Qaj key) (hgb : Qaj sg) (hpb : Qaj pa) (hml : ms.length ≤ 1000000) (htl : start.length = 32) (htb : Qaj start) (hil : sig.length = 64) (hib : Qaj sig) (hm : RdK .i64 base ms (.slice a_m ms.length c_m) w) : Calls Try.prog 57 #[.pointer (some ⟨gw, 0, none⟩), .agg (cat [ints .u8 (grp), #[.int .i64 ep], #[.int .i64 fr], ints .u8 (bas), #[.int .i64 2], #[.bool us], #[.int .i64 nm], ints .u8 (key), ints .u8 (sg), ints .u8 (pa), #[.slice a_m ms.length c_m], ints .u8 (start), #[.int .i64 at_], ints .u8 (sig)])] w (fun e W => e = .returned (.tuple #[]) ∧ GW base gw w W ∧ WSt base gw (rawS (Qa4 (Qa4 (Qcs (numS (Qa4 (rawS (QaQ (numS (rawS (s) grp) ep 4) fr) bas) true) 2 1) us nm key sg pa ms) (decide (start = List.replicate 32 0))) ((at_ == 0))) sig) W) := by
  have hgw := h.lt
  refine enter 80 [(0, .pointer (some ⟨gw, 0, none⟩)), (1, .agg (cat [ints .u8 (grp), #[.int .i64 ep], #[.int .i64 fr], ints .u8 (bas), #[.int .i64 2], #[.bool us], #[.int .i64 nm], ints .u8 (key), ints .u8 (sg), ints .u8 (pa), #[.slice a_m ms.length c_m], ints .u8 (start), #[.int .i64 at_], ints .u8 (sig)]))] Try.func57 rfl rfl kj rfl ?_
  refine wp_seq_k fun K1 hK1 => ?_
  refine Qae ?_
  refine Qav (cat [ints .u8 (grp), #[.int .i64 ep], #[.int .i64 fr], ints .u8 (bas), #[.int .i64 2], #[.bool us], #[.int .i64 nm], ints .u8 (key), ints .u8 (sg), ints .u8 (pa), #[.slice a_m ms.length c_m], ints .u8 (start), #[.int .i64 at_], ints .u8 (sig)]) 47 3 rfl kj kj fun g2 W1 l2 e1 r2_1 => ?_
  have x1 : GW base gw w W1 := GW.ext (GW.refl base gw w) e1
  have ws3 := WSt.ext h e1
  have b2 : w.heap.size ≤ g2 := Nat.le_trans (GW.refl base gw w).size l2
  refine Qaf ?_
  refine hK1 _ _ ?_
  refine wp_seq_k fun K4 hK4 => ?_
  refine Qae ?_
  refine Qab (.pointer (some ⟨gw, 0, none⟩)) 4 rfl kj kj ?_
  refine Qab (.pointer (some ⟨g2, 0, none⟩)) 5 rfl kj kj ?_
  refine Qab (.slice (some ⟨g2, 0, none⟩) 32 32) 6 rfl kj kj ?_
  refine Qak (fun v W' => v = .tuple #[] ∧ GW base gw W1 W' ∧ WSt base gw (rawS (s) grp) W') 104 #[.pointer (some ⟨gw, 0, none⟩), .slice (some ⟨g2, 0, none⟩) 32 32] 7 rfl kj kj ((rawW base gw _ grp _ _ (Nat.le_trans hbw x1.size) ws3 (by omega) hrb (fun W e => (QaB 0 hrl (ExtB.row e r2_1 (Ne.symm (Nat.ne_of_lt (Nat.lt_of_lt_of_le hgw b2)))) (fun i hi => Qa8 [] [#[.int .i64 ep], #[.int .i64 fr], ints .u8 (bas), #[.int .i64 2], #[.bool us], #[.int .i64 nm], ints .u8 (key), ints .u8 (sg), ints .u8 (pa), #[.slice a_m ms.length c_m], ints .u8 (start), #[.int .i64 at_], ints .u8 (sig)] grp 0 i (0 + i) kj rfl (by rw [hrl]; exact hi)) (Qay (ExtB.row e r2_1 (Ne.symm (Nat.ne_of_lt (Nat.lt_of_lt_of_le hgw b2))))) (Nat.le_refl _) (by decide)))).mono (by rintro e w' ⟨rfl, h1, h2⟩; exact ⟨_, rfl, rfl, h1, h2⟩)) fun v5 W2 h5 => ?_
  obtain ⟨rfl, q2, ws5⟩ := h5
  have x2 : GW base gw w W2 := GW.trans x1 q2
  refine Qaf ?_
  refine hK4 _ _ ?_
  refine wp_seq_k fun K6 hK6 => ?_
  refine Qae ?_
  refine Qab (.pointer (some ⟨gw, 0, none⟩)) 8 rfl kj kj ?_
  refine Qab (.pointer (some ⟨g2, 32, none⟩)) 9 rfl kj kj ?_
  have r2_2 := (GW.row q2 r2_1 (by decide) (Ne.symm (Nat.ne_of_lt (Nat.lt_of_lt_of_le hgw b2))))
  refine Qab (.int .i64 ep) 10 rfl kj (Qag 3 _ g2 32 47 _ (.int .i64 ep) _ r2_2 rfl kj (Qah [ints .u8 (grp)] [#[.int .i64 ep]] [#[.int .i64 fr], ints .u8 (bas), #[.int .i64 2], #[.bool us], #[.int .i64 nm], ints .u8 (key), ints .u8 (sg), ints .u8 (pa), #[.slice a_m ms.length c_m], ints .u8 (start), #[.int .i64 at_], ints .u8 (sig)] 32 ((Qac _ _).trans hrl) 0 _ rfl) kj) ?_
  refine Qak (fun v W' => v = .tuple #[] ∧ GW base gw W2 W' ∧ WSt base gw (numS (rawS (s) grp) ep 4) W') 105 #[.pointer (some ⟨gw, 0, none⟩), .int .i64 ep, .int .i64 4] 11 rfl kj kj ((Qbn base gw _ ep 4 _ (Nat.le_trans hbw x2.size) ws5 (by decide)).mono (by rintro e w' ⟨rfl, h1, h2⟩; exact ⟨_, rfl, rfl, h1, h2⟩)) fun v7 W3 h7 => ?_
  obtain ⟨rfl, q3, ws7⟩ := h7
  have x3 : GW base gw w W3 := GW.trans x2 q3
  refine Qaf ?_
  refine hK6 _ _ ?_
  refine wp_seq_k fun K8 hK8 => ?_
  refine Qae ?_
  refine Qab (.pointer (some ⟨gw, 0, none⟩)) 12 rfl kj kj ?_
  refine Qab (.pointer (some ⟨g2, 33, none⟩)) 13 rfl kj kj ?_
  have r2_3 := (GW.row q3 r2_2 (by decide) (Ne.symm (Nat.ne_of_lt (Nat.lt_of_lt_of_le hgw b2))))
  refine Qab (.int .i64 fr) 14 rfl kj (Qag 3 _ g2 33 47 _ (.int .i64 fr) _ r2_3 rfl kj (Qah [ints .u8 (grp), #[.int .i64 ep]] [#[.int .i64 fr]] [ints .u8 (bas), #[.int .i64 2], #[.bool us], #[.int .i64 nm], ints .u8 (key), ints .u8 (sg), ints .u8 (pa), #[.slice a_m ms.length c_m], ints .u8 (start), #[.int .i64 at_], ints .u8 (sig)] 33 (by rw [Qaa, Qaa]; simp only [Array.size_append, cat, ((Qac _ _).trans hrl)]; rfl) 0 _ rfl) kj) ?_
  refine Qak (fun v W' => v = .tuple #[] ∧ GW base gw W3 W' ∧ WSt base gw (QaQ (numS (rawS (s) grp) ep 4) fr) W') 106 #[.pointer (some ⟨gw, 0, none⟩), .int .i64 fr] 15 rfl kj kj ((Qen base gw _ fr _ (Nat.le_trans hbw x3.size) ws7).mono (by rintro e w' ⟨rfl, h1, h2⟩; exact ⟨_, rfl, rfl, h1, h2⟩)) fun v9 W4 h9 => ?_
  obtain ⟨rfl, q4, ws9⟩ := h9
  have x4 : GW base gw w W4 := GW.trans x3 q4
  refine Qaf ?_
  refine hK8 _ _ ?_
  refine wp_seq_k fun K10 hK10 => ?_
  refine Qae ?_
  refine Qab (.pointer (some ⟨gw, 0, none⟩)) 16 rfl kj kj ?_
  refine Qab (.pointer (some ⟨g2, 34, none⟩)) 17 rfl kj kj ?_
  refine Qab (.slice (some ⟨g2, 34, none⟩) 32 32) 18 rfl kj kj ?_
  have r2_4 := (GW.row q4 r2_3 (by decide) (Ne.symm (Nat.ne_of_lt (Nat.lt_of_lt_of_le hgw b2))))
  refine Qak (fun v W' => v = .tuple #[] ∧ GW base gw W4 W' ∧ WSt base gw (rawS (QaQ (numS (rawS (s) grp) ep 4) fr) bas) W') 104 #[.pointer (some ⟨gw, 0, none⟩), .slice (some ⟨g2, 34, none⟩) 32 32] 19 rfl kj kj ((rawW base gw _ bas _ _ (Nat.le_trans hbw x4.size) ws9 (by omega) hab (fun W e => (QaB 34 hal (ExtB.row e r2_4 (Ne.symm (Nat.ne_of_lt (Nat.lt_of_lt_of_le hgw b2)))) (fun i hi => Qa8 [ints .u8 (grp), #[.int .i64 ep], #[.int .i64 fr]] [#[.int .i64 2], #[.bool us], #[.int .i64 nm], ints .u8 (key), ints .u8 (sg), ints .u8 (pa), #[.slice a_m ms.length c_m], ints .u8 (start), #[.int .i64 at_], ints .u8 (sig)] bas 34 i (34 + i) (by rw [Qaa, Qaa, Qaa]; simp only [Array.size_append, cat, ((Qac _ _).trans hrl)]; rfl) rfl (by rw [hal]; exact hi)) (Qay (ExtB.row e r2_4 (Ne.symm (Nat.ne_of_lt (Nat.lt_of_lt_of_le hgw b2))))) (Nat.le_refl _) (by decide)))).mono (by rintro e w' ⟨rfl, h1, h2⟩; exact ⟨_, rfl, rfl, h1, h2⟩)) fun v11 W5 h11 => ?_
  obtain ⟨rfl, q5, ws11⟩ := h11
  have x5 : GW base gw w W5 := GW.trans x4 q5
  refine Qaf ?_
  refine hK10 _ _ ?_
  refine wp_seq_k fun K12 hK12 => ?_
  refine Qae ?_
  refine Qab (.pointer (some ⟨gw, 0, none⟩)) 20 rfl kj kj ?_
  refine Qab (.pointer (some ⟨g2, 66, none⟩)) 21 rfl kj kj ?_
  have r2_5 := (GW.row q5 r2_4 (by decide) (Ne.symm (Nat.ne_of_lt (Nat.lt_of_lt_of_le hgw b2))))
  refine Qab (.int .i64 2) 22 rfl kj (Qag 3 _ g2 66 47 _ (.int .i64 2) _ r2_5 rfl kj (Qah [ints .u8 (grp), #[.int .i64 ep], #[.int .i64 fr], ints .u8 (bas)] [#[.int .i64 2]] [#[.bool us], #[.int .i64 nm], ints .u8 (key), ints .u8 (sg), ints .u8 (pa), #[.slice a_m ms.length c_m], ints .u8 (start), #[.int .i64 at_], ints .u8 (sig)] 66 (by rw [Qaa, Qaa, Qaa, Qaa]; simp only [Array.size_append, cat, ((Qac _ _).trans hal), ((Qac _ _).trans hrl)]; rfl) 0 _ rfl) kj) ?_
  refine Qab (.bool true) 23 rfl kj kj ?_
  refine Qab (.bool true) 24 rfl kj kj ?_
  refine Qab (.pointer (some ⟨g2, 66, none⟩)) 25 rfl kj kj ?_
  refine Qab (.int .i64 2) 26 rfl kj (Qag 3 _ g2 66 47 _ (.int .i64 2) _ r2_5 rfl kj (Qah [ints .u8 (grp), #[.int .i64 ep], #[.int .i64 fr], ints .u8 (bas)] [#[.int .i64 2]] [#[.bool us], #[.int .i64 nm], ints .u8 (key), ints .u8 (sg), ints .u8 (pa), #[.slice a_m ms.length c_m], ints .u8 (start), #[.int .i64 at_], ints .u8 (sig)] 66 (by rw [Qaa, Qaa, Qaa, Qaa]; simp only [Array.size_append, cat, ((Qac _ _).trans hal), ((Qac _ _).trans hrl)]; rfl) 0 _ rfl) kj) ?_
  refine Qab (.bool true) 27 rfl kj kj ?_
  refine Qab (.bool true) 28 rfl kj kj ?_
  refine Qak (fun v W' => v = .tuple #[] ∧ GW base gw W5 W' ∧ WSt base gw (Qa4 (rawS (QaQ (numS (rawS (s) grp) ep 4) fr) bas) true) W') 98 #[.pointer (some ⟨gw, 0, none⟩), .bool true] 29 rfl kj kj ((Qcj base gw _ true _ ws11).mono (by rintro e w' ⟨rfl, h1, h2⟩; exact ⟨_, rfl, rfl, h1, h2⟩)) fun v13 W6 h13 => ?_
  obtain ⟨rfl, q6, ws13⟩ := h13
  have x6 : GW base gw w W6 := GW.trans x5 q6
  refine Qaf ?_
  refine hK12 _ _ ?_
  refine wp_seq_k fun K14 hK14 => ?_
  refine Qae ?_
  refine Qab (.pointer (some ⟨gw, 0, none⟩)) 30 rfl kj kj ?_
  refine Qab (.pointer (some ⟨g2, 66, none⟩)) 31 rfl kj kj ?_
  have r2_6 := (GW.row q6 r2_5 (by decide) (Ne.symm (Nat.ne_of_lt (Nat.lt_of_lt_of_le hgw b2))))
  refine Qab (.int .i64 2) 32 rfl kj (Qag 3 _ g2 66 47 _ (.int .i64 2) _ r2_6 rfl kj (Qah [ints .u8 (grp), #[.int .i64 ep], #[.int .i64 fr], ints .u8 (bas)] [#[.int .i64 2]] [#[.bool us], #[.int .i64 nm], ints .u8 (key), ints .u8 (sg), ints .u8 (pa), #[.slice a_m ms.length c_m], ints .u8 (start), #[.int .i64 at_], ints .u8 (sig)] 66 (by rw [Qaa, Qaa, Qaa, Qaa]; simp only [Array.size_append, cat, ((Qac _ _).trans hal), ((Qac _ _).trans hrl)]; rfl) 0 _ rfl) kj) ?_
  refine Qak (fun v W' => v = .tuple #[] ∧ GW base gw W6 W' ∧ WSt base gw (numS (Qa4 (rawS (QaQ (numS (rawS (s) grp) ep 4) fr) bas) true) 2 1) W') 105 #[.pointer (some ⟨gw, 0, none⟩), .int .i64 2, .int .i64 1] 33 rfl kj kj ((Qbn base gw _ 2 1 _ (Nat.le_trans hbw x6.size) ws13 (by decide)).mono (by rintro e w' ⟨rfl, h1, h2⟩; exact ⟨_, rfl, rfl, h1, h2⟩)) fun v15 W7 h15 => ?_
  obtain ⟨rfl, q7, ws15⟩ := h15
  have x7 : GW base gw w W7 := GW.trans x6 q7
  refine Qaf ?_
  refine hK14 _ _ ?_
  refine wp_seq_k fun K16 hK16 => ?_
  refine wp_seq_k fun K17 hK17 => ?_
  refine Qae ?_
  refine Qab (.pointer (some ⟨g2, 66, none⟩)) 34 rfl kj kj ?_
  have r2_7 := (GW.row q7 r2_6 (by decide) (Ne.symm (Nat.ne_of_lt (Nat.lt_of_lt_of_le hgw b2))))
  refine Qab (.int .i64 2) 35 rfl kj (Qag 3 _ g2 66 47 _ (.int .i64 2) _ r2_7 rfl kj (Qah [ints .u8 (grp), #[.int .i64 ep], #[.int .i64 fr], ints .u8 (bas)] [#[.int .i64 2]] [#[.bool us], #[.int .i64 nm], ints .u8 (key), ints .u8 (sg), ints .u8 (pa), #[.slice a_m ms.length c_m], ints .u8 (start), #[.int .i64 at_], ints .u8 (sig)] 66 (by rw [Qaa, Qaa, Qaa, Qaa]; simp only [Array.size_append, cat, ((Qac _ _).trans hal), ((Qac _ _).trans hrl)]; rfl) 0 _ rfl) kj) ?_
  refine Qab (.bool false) 36 rfl kj kj ?_
  refine Qab (.bool false) 37 rfl kj kj ?_
  refine Qab (.pointer (some ⟨g2, 66, none⟩)) 38 rfl kj kj ?_
  refine Qab (.int .i64 2) 39 rfl kj (Qag 3 _ g2 66 47 _ (.int .i64 2) _ r2_7 rfl kj (Qah [ints .u8 (grp), #[.int .i64 ep], #[.int .i64 fr], ints .u8 (bas)] [#[.int .i64 2]] [#[.bool us], #[.int .i64 nm], ints .u8 (key), ints .u8 (sg), ints .u8 (pa), #[.slice a_m ms.length c_m], ints .u8 (start), #[.int .i64 at_], ints .u8 (sig)] 66 (by rw [Qaa, Qaa, Qaa, Qaa]; simp only [Array.size_append, cat, ((Qac _ _).trans hal), ((Qac _ _).trans hrl)]; rfl) 0 _ rfl) kj) ?_
  refine Qab (.bool true) 40 rfl kj kj ?_
  refine Qab (.bool true) 41 rfl kj kj ?_
  refine Qaf ?_
  refine hK17 _ _ ?_
  refine cond_true kj ?_
  refine Qae ?_
  refine Qab (.pointer (some ⟨gw, 0, none⟩)) 42 rfl kj kj ?_
  refine Qab (.pointer (some ⟨g2, 67, none⟩)) 43 rfl kj kj ?_
  refine Qab (.agg (cat [#[.bool us], #[.int .i64 nm], ints .u8 (key), ints .u8 (sg), ints .u8 (pa), #[.slice a_m ms.length c_m]])) 44 rfl kj (Qau 43 _ g2 67 47 _ _ _ r2_7 rfl kj (Qah [ints .u8 (grp), #[.int .i64 ep], #[.int .i64 fr], ints .u8 (bas), #[.int .i64 2]] [#[.bool us], #[.int .i64 nm], ints .u8 (key), ints .u8 (sg), ints .u8 (pa), #[.slice a_m ms.length c_m]] [ints .u8 (start), #[.int .i64 at_], ints .u8 (sig)] 67 (by rw [Qaa, Qaa, Qaa, Qaa, Qaa]; simp only [Array.size_append, cat, ((Qac _ _).trans hal), ((Qac _ _).trans hrl)]; rfl)) kj (isz (n := 99) kj (by rw [Qaa, Qaa, Qaa, Qaa, Qaa, Qaa]; simp only [Array.size_append, cat, ((Qac _ _).trans hgl), ((Qac _ _).trans hkl), ((Qac _ _).trans hpl)]; rfl))) ?_
  refine Qak (fun v W' => v = .tuple #[] ∧ GW base gw W7 W' ∧ WSt base gw (Qcs (numS (Qa4 (rawS (QaQ (numS (rawS (s) grp) ep 4) fr) bas) true) 2 1) us nm key sg pa ms) W') 95 #[.pointer (some ⟨gw, 0, none⟩), .agg (cat [#[.bool us], #[.int .i64 nm], ints .u8 (key), ints .u8 (sg), ints .u8 (pa), #[.slice a_m ms.length c_m]])] 45 rfl kj kj ((Qif base gw _ us nm key sg pa ms _ _ _ (Nat.le_trans hbw x7.size) hbg ws15 hkl hgl hpl hkb hgb hpb hml (QcE hm x7 hbg)).mono (by rintro e w' ⟨rfl, h1, h2⟩; exact ⟨_, rfl, rfl, h1, h2⟩)) fun v18 W8 h18 => ?_
  obtain ⟨rfl, q8, ws18⟩ := h18
  have x8 : GW base gw w W8 := GW.trans x7 q8
  refine Qaf ?_
  refine hK16 _ _ ?_
  refine wp_seq_k fun K19 hK19 => ?_
  refine wp_seq_k fun K20 hK20 => ?_
  refine Qae ?_
  refine Qab (.pointer (some ⟨g2, 66, none⟩)) 51 rfl kj kj ?_
  have r2_8 := (GW.row q8 r2_7 (by decide) (Ne.symm (Nat.ne_of_lt (Nat.lt_of_lt_of_le hgw b2))))
  refine Qab (.int .i64 2) 52 rfl kj (Qag 3 _ g2 66 47 _ (.int .i64 2) _ r2_8 rfl kj (Qah [ints .u8 (grp), #[.int .i64 ep], #[.int .i64 fr], ints .u8 (bas)] [#[.int .i64 2]] [#[.bool us], #[.int .i64 nm], ints .u8 (key), ints .u8 (sg), ints .u8 (pa), #[.slice a_m ms.length c_m], ints .u8 (start), #[.int .i64 at_], ints .u8 (sig)] 66 (by rw [Qaa, Qaa, Qaa, Qaa]; simp only [Array.size_append, cat, ((Qac _ _).trans hal), ((Qac _ _).trans hrl)]; rfl) 0 _ rfl) kj) ?_
  refine Qab (.bool false) 53 rfl kj kj ?_
  refine Qaf ?_
  refine hK20 _ _ ?_
  refine cond_false kj ?_
  refine Qae ?_
  refine Qab (.pointer (some ⟨gw, 0, none⟩)) 58 rfl kj kj ?_
  refine Qab (.pointer (some ⟨g2, 166, none⟩)) 59 rfl kj kj ?_
  refine Qab (.agg (ints .u8 (start))) 60 rfl kj (Qau 40 _ g2 166 47 _ _ _ r2_8 rfl kj (Qah [ints .u8 (grp), #[.int .i64 ep], #[.int .i64 fr], ints .u8 (bas), #[.int .i64 2], #[.bool us], #[.int .i64 nm], ints .u8 (key), ints .u8 (sg), ints .u8 (pa), #[.slice a_m ms.length c_m]] [ints .u8 (start)] [#[.int .i64 at_], ints .u8 (sig)] 166 (by rw [Qaa, Qaa, Qaa, Qaa, Qaa, Qaa, Qaa, Qaa, Qaa, Qaa, Qaa]; simp only [Array.size_append, cat, ((Qac _ _).trans hal), ((Qac _ _).trans hgl), ((Qac _ _).trans hkl), ((Qac _ _).trans hpl), ((Qac _ _).trans hrl)]; rfl)) kj (isz (n := 32) kj ((Qac _ _).trans htl))) ?_
  refine Qab (.agg (ints .u8 (List.replicate 32 0))) 61 rfl kj kj ?_
  refine Qab (.bool (decide (start = List.replicate 32 0))) 62 rfl kj (Qa7 40 _ _ _ _ _ (.bool (decide (start = List.replicate 32 0))) rfl kj kj kj (QaD 40 (e := 5) (k := .u8) (start) (List.replicate 32 0) rfl htl (List.length_replicate (n := 32)) kj kj kj _)) ?_
  refine Qak (fun v W' => v = .tuple #[] ∧ GW base gw W8 W' ∧ WSt base gw (Qa4 (Qcs (numS (Qa4 (rawS (QaQ (numS (rawS (s) grp) ep 4) fr) bas) true) 2 1) us nm key sg pa ms) (decide (start = List.replicate 32 0))) W') 98 #[.pointer (some ⟨gw, 0, none⟩), .bool (decide (start = List.replicate 32 0))] 63 rfl kj kj ((Qcj base gw _ (decide (start = List.replicate 32 0)) _ ws18).mono (by rintro e w' ⟨rfl, h1, h2⟩; exact ⟨_, rfl, rfl, h1, h2⟩)) fun v21 W9 h21 => ?_
  obtain ⟨rfl, q9, ws21⟩ := h21
  have x9 : GW base gw w W9 := GW.trans x8 q9
  refine Qaf ?_
  refine hK19 _ _ ?_
  refine wp_seq_k fun K22 hK22 => ?_
  refine wp_seq_k fun K23 hK23 => ?_
  refine Qae ?_
  refine Qab (.pointer (some ⟨g2, 66, none⟩)) 64 rfl kj kj ?_
  have r2_9 := (GW.row q9 r2_8 (by decide) (Ne.symm (Nat.ne_of_lt (Nat.lt_of_lt_of_le hgw b2))))
  refine Qab (.int .i64 2) 65 rfl kj (Qag 3 _ g2 66 47 _ (.int .i64 2) _ r2_9 rfl kj (Qah [ints .u8 (grp), #[.int .i64 ep], #[.int .i64 fr], ints .u8 (bas)] [#[.int .i64 2]] [#[.bool us], #[.int .i64 nm], ints .u8 (key), ints .u8 (sg), ints .u8 (pa), #[.slice a_m ms.length c_m], ints .u8 (start), #[.int .i64 at_], ints .u8 (sig)] 66 (by rw [Qaa, Qaa, Qaa, Qaa]; simp only [Array.size_append, cat, ((Qac _ _).trans hal), ((Qac _ _).trans hrl)]; rfl) 0 _ rfl) kj) ?_
  refine Qab (.bool false) 66 rfl kj kj ?_
  refine Qaf ?_
  refine hK23 _ _ ?_
  refine cond_false kj ?_
  refine Qae ?_
  refine Qab (.pointer (some ⟨gw, 0, none⟩)) 71 rfl kj kj ?_
  refine Qab (.pointer (some ⟨g2, 198, none⟩)) 72 rfl kj kj ?_
  refine Qab (.int .i64 at_) 73 rfl kj (Qag 3 _ g2 198 47 _ (.int .i64 at_) _ r2_9 rfl kj (Qah [ints .u8 (grp), #[.int .i64 ep], #[.int .i64 fr], ints .u8 (bas), #[.int .i64 2], #[.bool us], #[.int .i64 nm], ints .u8 (key), ints .u8 (sg), ints .u8 (pa), #[.slice a_m ms.length c_m], ints .u8 (start)] [#[.int .i64 at_]] [ints .u8 (sig)] 198 (by rw [Qaa, Qaa, Qaa, Qaa, Qaa, Qaa, Qaa, Qaa, Qaa, Qaa, Qaa, Qaa]; simp only [Array.size_append, cat, ((Qac _ _).trans hal), ((Qac _ _).trans hgl), ((Qac _ _).trans hkl), ((Qac _ _).trans hpl), ((Qac _ _).trans hrl), ((Qac _ _).trans htl)]; rfl) 0 _ rfl) kj) ?_
  refine Qab (.bool ((at_ == 0))) 74 rfl kj kj ?_
  refine Qak (fun v W' => v = .tuple #[] ∧ GW base gw W9 W' ∧ WSt base gw (Qa4 (Qa4 (Qcs (numS (Qa4 (rawS (QaQ (numS (rawS (s) grp) ep 4) fr) bas) true) 2 1) us nm key sg pa ms) (decide (start = List.replicate 32 0))) ((at_ == 0))) W') 98 #[.pointer (some ⟨gw, 0, none⟩), .bool ((at_ == 0))] 75 rfl kj kj ((Qcj base gw _ ((at_ == 0)) _ ws21).mono (by rintro e w' ⟨rfl, h1, h2⟩; exact ⟨_, rfl, rfl, h1, h2⟩)) fun v24 W10 h24 => ?_
  obtain ⟨rfl, q10, ws24⟩ := h24
  have x10 : GW base gw w W10 := GW.trans x9 q10
  refine Qaf ?_
  refine hK22 _ _ ?_
  refine Qae ?_
  refine Qab (.pointer (some ⟨gw, 0, none⟩)) 76 rfl kj kj ?_
  refine Qab (.pointer (some ⟨g2, 199, none⟩)) 77 rfl kj kj ?_
  refine Qab (.slice (some ⟨g2, 199, none⟩) 64 64) 78 rfl kj kj ?_
  have r2_10 := (GW.row q10 r2_9 (by decide) (Ne.symm (Nat.ne_of_lt (Nat.lt_of_lt_of_le hgw b2))))
  refine Qak (fun v W' => v = .tuple #[] ∧ GW base gw W10 W' ∧ WSt base gw (rawS (Qa4 (Qa4 (Qcs (numS (Qa4 (rawS (QaQ (numS (rawS (s) grp) ep 4) fr) bas) true) 2 1) us nm key sg pa ms) (decide (start = List.replicate 32 0))) ((at_ == 0))) sig) W') 104 #[.pointer (some ⟨gw, 0, none⟩), .slice (some ⟨g2, 199, none⟩) 64 64] 79 rfl kj kj ((rawW base gw _ sig _ _ (Nat.le_trans hbw x10.size) ws24 (by omega) hib (fun W e => (QaB 199 hil (ExtB.row e r2_10 (Ne.symm (Nat.ne_of_lt (Nat.lt_of_lt_of_le hgw b2)))) (fun i hi => Qa8 [ints .u8 (grp), #[.int .i64 ep], #[.int .i64 fr], ints .u8 (bas), #[.int .i64 2], #[.bool us], #[.int .i64 nm], ints .u8 (key), ints .u8 (sg), ints .u8 (pa), #[.slice a_m ms.length c_m], ints .u8 (start), #[.int .i64 at_]] [] sig 199 i (199 + i) (by rw [Qaa, Qaa, Qaa, Qaa, Qaa, Qaa, Qaa, Qaa, Qaa, Qaa, Qaa, Qaa, Qaa]; simp only [Array.size_append, cat, ((Qac _ _).trans hal), ((Qac _ _).trans hgl), ((Qac _ _).trans hkl), ((Qac _ _).trans hpl), ((Qac _ _).trans hrl), ((Qac _ _).trans htl)]; rfl) rfl (by rw [hil]; exact hi)) (Qay (ExtB.row e r2_10 (Ne.symm (Nat.ne_of_lt (Nat.lt_of_lt_of_le hgw b2))))) (Nat.le_refl _) (by decide)))).mono (by rintro e w' ⟨rfl, h1, h2⟩; exact ⟨_, rfl, rfl, h1, h2⟩)) fun v25 W11 h25 => ?_
  obtain ⟨rfl, q11, ws25⟩ := h25
  have x11 : GW base gw w W11 := GW.trans x10 q11
  refine Qaf ?_
  repeat (first | with_reducible refine goX1 ?_ | with_reducible refine goX2 ?_ | with_reducible refine goX3 ?_)
  exact (show bodyPost _ _ _ .normal _ _ from end0 rfl ⟨rfl, x11, ws25⟩)
set_option maxHeartbeats 4000000 in
theorem QhY (base gw : Nat) (s : Option (List Int)) (grp : List Int) (ep fr : Int) (bas : List Int) (us : Bool) (nm : Int) (key sg pa ms start : List Int) (at_ : Int) (sig : List Int) (a_m : Option Addr) (c_m : Nat) (w : World) (hbw : base ≤ w.heap.size) (hbg : base ≤ gw) (h : WSt base gw s w) (hrl : grp.length = 32) (hrb : Qaj grp) (hal : bas.length = 32) (hab : Qaj bas) (hkl : key.length = 32) (hgl : sg.length = 32) (hpl : pa.length = 32) (hkb : Qaj key) (hgb : Qaj sg) (hpb : Qaj pa) (hml : ms.length ≤ 1000000) (htl : start.length = 32) (htb : Qaj start) (hil : sig.length = 64) (hib : Qaj sig) (hm : RdK .i64 base ms (.slice a_m ms.length c_m) w) : Calls Try.prog 57 #[.pointer (some ⟨gw, 0, none⟩), .agg (cat [ints .u8 (grp), #[.int .i64 ep], #[.int .i64 fr], ints .u8 (bas), #[.int .i64 3], #[.bool us], #[.int .i64 nm], ints .u8 (key), ints .u8 (sg), ints .u8 (pa), #[.slice a_m ms.length c_m], ints .u8 (start), #[.int .i64 at_], ints .u8 (sig)])] w (fun e W => e = .returned (.tuple #[]) ∧ GW base gw w W ∧ WSt base gw (rawS (QaQ (Qa4 (Qa4 (numS (Qa4 (rawS (QaQ (numS (rawS (s) grp) ep 4) fr) bas) true) 3 1) (QaE us nm key sg pa ms)) (decide (start = List.replicate 32 0))) at_) sig) W) := by
  have hgw := h.lt
  refine enter 80 [(0, .pointer (some ⟨gw, 0, none⟩)), (1, .agg (cat [ints .u8 (grp), #[.int .i64 ep], #[.int .i64 fr], ints .u8 (bas), #[.int .i64 3], #[.bool us], #[.int .i64 nm], ints .u8 (key), ints .u8 (sg), ints .u8 (pa), #[.slice a_m ms.length c_m], ints .u8 (start), #[.int .i64 at_], ints .u8 (sig)]))] Try.func57 rfl rfl kj rfl ?_
  refine wp_seq_k fun K1 hK1 => ?_
  refine Qae ?_
  refine Qav (cat [ints .u8 (grp), #[.int .i64 ep], #[.int .i64 fr], ints .u8 (bas), #[.int .i64 3], #[.bool us], #[.int .i64 nm], ints .u8 (key), ints .u8 (sg), ints .u8 (pa), #[.slice a_m ms.length c_m], ints .u8 (start), #[.int .i64 at_], ints .u8 (sig)]) 47 3 rfl kj kj fun g2 W1 l2 e1 r2_1 => ?_
  have x1 : GW base gw w W1 := GW.ext (GW.refl base gw w) e1
  have ws3 := WSt.ext h e1
  have b2 : w.heap.size ≤ g2 := Nat.le_trans (GW.refl base gw w).size l2
  refine Qaf ?_
  refine hK1 _ _ ?_
  refine wp_seq_k fun K4 hK4 => ?_
  refine Qae ?_
  refine Qab (.pointer (some ⟨gw, 0, none⟩)) 4 rfl kj kj ?_
  refine Qab (.pointer (some ⟨g2, 0, none⟩)) 5 rfl kj kj ?_
  refine Qab (.slice (some ⟨g2, 0, none⟩) 32 32) 6 rfl kj kj ?_
  refine Qak (fun v W' => v = .tuple #[] ∧ GW base gw W1 W' ∧ WSt base gw (rawS (s) grp) W') 104 #[.pointer (some ⟨gw, 0, none⟩), .slice (some ⟨g2, 0, none⟩) 32 32] 7 rfl kj kj ((rawW base gw _ grp _ _ (Nat.le_trans hbw x1.size) ws3 (by omega) hrb (fun W e => (QaB 0 hrl (ExtB.row e r2_1 (Ne.symm (Nat.ne_of_lt (Nat.lt_of_lt_of_le hgw b2)))) (fun i hi => Qa8 [] [#[.int .i64 ep], #[.int .i64 fr], ints .u8 (bas), #[.int .i64 3], #[.bool us], #[.int .i64 nm], ints .u8 (key), ints .u8 (sg), ints .u8 (pa), #[.slice a_m ms.length c_m], ints .u8 (start), #[.int .i64 at_], ints .u8 (sig)] grp 0 i (0 + i) kj rfl (by rw [hrl]; exact hi)) (Qay (ExtB.row e r2_1 (Ne.symm (Nat.ne_of_lt (Nat.lt_of_lt_of_le hgw b2))))) (Nat.le_refl _) (by decide)))).mono (by rintro e w' ⟨rfl, h1, h2⟩; exact ⟨_, rfl, rfl, h1, h2⟩)) fun v5 W2 h5 => ?_
  obtain ⟨rfl, q2, ws5⟩ := h5
  have x2 : GW base gw w W2 := GW.trans x1 q2
  refine Qaf ?_
  refine hK4 _ _ ?_
  refine wp_seq_k fun K6 hK6 => ?_
  refine Qae ?_
  refine Qab (.pointer (some ⟨gw, 0, none⟩)) 8 rfl kj kj ?_
  refine Qab (.pointer (some ⟨g2, 32, none⟩)) 9 rfl kj kj ?_
  have r2_2 := (GW.row q2 r2_1 (by decide) (Ne.symm (Nat.ne_of_lt (Nat.lt_of_lt_of_le hgw b2))))
  refine Qab (.int .i64 ep) 10 rfl kj (Qag 3 _ g2 32 47 _ (.int .i64 ep) _ r2_2 rfl kj (Qah [ints .u8 (grp)] [#[.int .i64 ep]] [#[.int .i64 fr], ints .u8 (bas), #[.int .i64 3], #[.bool us], #[.int .i64 nm], ints .u8 (key), ints .u8 (sg), ints .u8 (pa), #[.slice a_m ms.length c_m], ints .u8 (start), #[.int .i64 at_], ints .u8 (sig)] 32 ((Qac _ _).trans hrl) 0 _ rfl) kj) ?_
  refine Qak (fun v W' => v = .tuple #[] ∧ GW base gw W2 W' ∧ WSt base gw (numS (rawS (s) grp) ep 4) W') 105 #[.pointer (some ⟨gw, 0, none⟩), .int .i64 ep, .int .i64 4] 11 rfl kj kj ((Qbn base gw _ ep 4 _ (Nat.le_trans hbw x2.size) ws5 (by decide)).mono (by rintro e w' ⟨rfl, h1, h2⟩; exact ⟨_, rfl, rfl, h1, h2⟩)) fun v7 W3 h7 => ?_
  obtain ⟨rfl, q3, ws7⟩ := h7
  have x3 : GW base gw w W3 := GW.trans x2 q3
  refine Qaf ?_
  refine hK6 _ _ ?_
  refine wp_seq_k fun K8 hK8 => ?_
  refine Qae ?_
  refine Qab (.pointer (some ⟨gw, 0, none⟩)) 12 rfl kj kj ?_
  refine Qab (.pointer (some ⟨g2, 33, none⟩)) 13 rfl kj kj ?_
  have r2_3 := (GW.row q3 r2_2 (by decide) (Ne.symm (Nat.ne_of_lt (Nat.lt_of_lt_of_le hgw b2))))
  refine Qab (.int .i64 fr) 14 rfl kj (Qag 3 _ g2 33 47 _ (.int .i64 fr) _ r2_3 rfl kj (Qah [ints .u8 (grp), #[.int .i64 ep]] [#[.int .i64 fr]] [ints .u8 (bas), #[.int .i64 3], #[.bool us], #[.int .i64 nm], ints .u8 (key), ints .u8 (sg), ints .u8 (pa), #[.slice a_m ms.length c_m], ints .u8 (start), #[.int .i64 at_], ints .u8 (sig)] 33 (by rw [Qaa, Qaa]; simp only [Array.size_append, cat, ((Qac _ _).trans hrl)]; rfl) 0 _ rfl) kj) ?_
  refine Qak (fun v W' => v = .tuple #[] ∧ GW base gw W3 W' ∧ WSt base gw (QaQ (numS (rawS (s) grp) ep 4) fr) W') 106 #[.pointer (some ⟨gw, 0, none⟩), .int .i64 fr] 15 rfl kj kj ((Qen base gw _ fr _ (Nat.le_trans hbw x3.size) ws7).mono (by rintro e w' ⟨rfl, h1, h2⟩; exact ⟨_, rfl, rfl, h1, h2⟩)) fun v9 W4 h9 => ?_
  obtain ⟨rfl, q4, ws9⟩ := h9
  have x4 : GW base gw w W4 := GW.trans x3 q4
  refine Qaf ?_
  refine hK8 _ _ ?_
  refine wp_seq_k fun K10 hK10 => ?_
  refine Qae ?_
  refine Qab (.pointer (some ⟨gw, 0, none⟩)) 16 rfl kj kj ?_
  refine Qab (.pointer (some ⟨g2, 34, none⟩)) 17 rfl kj kj ?_
  refine Qab (.slice (some ⟨g2, 34, none⟩) 32 32) 18 rfl kj kj ?_
  have r2_4 := (GW.row q4 r2_3 (by decide) (Ne.symm (Nat.ne_of_lt (Nat.lt_of_lt_of_le hgw b2))))
  refine Qak (fun v W' => v = .tuple #[] ∧ GW base gw W4 W' ∧ WSt base gw (rawS (QaQ (numS (rawS (s) grp) ep 4) fr) bas) W') 104 #[.pointer (some ⟨gw, 0, none⟩), .slice (some ⟨g2, 34, none⟩) 32 32] 19 rfl kj kj ((rawW base gw _ bas _ _ (Nat.le_trans hbw x4.size) ws9 (by omega) hab (fun W e => (QaB 34 hal (ExtB.row e r2_4 (Ne.symm (Nat.ne_of_lt (Nat.lt_of_lt_of_le hgw b2)))) (fun i hi => Qa8 [ints .u8 (grp), #[.int .i64 ep], #[.int .i64 fr]] [#[.int .i64 3], #[.bool us], #[.int .i64 nm], ints .u8 (key), ints .u8 (sg), ints .u8 (pa), #[.slice a_m ms.length c_m], ints .u8 (start), #[.int .i64 at_], ints .u8 (sig)] bas 34 i (34 + i) (by rw [Qaa, Qaa, Qaa]; simp only [Array.size_append, cat, ((Qac _ _).trans hrl)]; rfl) rfl (by rw [hal]; exact hi)) (Qay (ExtB.row e r2_4 (Ne.symm (Nat.ne_of_lt (Nat.lt_of_lt_of_le hgw b2))))) (Nat.le_refl _) (by decide)))).mono (by rintro e w' ⟨rfl, h1, h2⟩; exact ⟨_, rfl, rfl, h1, h2⟩)) fun v11 W5 h11 => ?_
  obtain ⟨rfl, q5, ws11⟩ := h11
  have x5 : GW base gw w W5 := GW.trans x4 q5
  refine Qaf ?_
  refine hK10 _ _ ?_
  refine wp_seq_k fun K12 hK12 => ?_
  refine Qae ?_
  refine Qab (.pointer (some ⟨gw, 0, none⟩)) 20 rfl kj kj ?_
  refine Qab (.pointer (some ⟨g2, 66, none⟩)) 21 rfl kj kj ?_
  have r2_5 := (GW.row q5 r2_4 (by decide) (Ne.symm (Nat.ne_of_lt (Nat.lt_of_lt_of_le hgw b2))))
  refine Qab (.int .i64 3) 22 rfl kj (Qag 3 _ g2 66 47 _ (.int .i64 3) _ r2_5 rfl kj (Qah [ints .u8 (grp), #[.int .i64 ep], #[.int .i64 fr], ints .u8 (bas)] [#[.int .i64 3]] [#[.bool us], #[.int .i64 nm], ints .u8 (key), ints .u8 (sg), ints .u8 (pa), #[.slice a_m ms.length c_m], ints .u8 (start), #[.int .i64 at_], ints .u8 (sig)] 66 (by rw [Qaa, Qaa, Qaa, Qaa]; simp only [Array.size_append, cat, ((Qac _ _).trans hal), ((Qac _ _).trans hrl)]; rfl) 0 _ rfl) kj) ?_
  refine Qab (.bool true) 23 rfl kj kj ?_
  refine Qab (.bool true) 24 rfl kj kj ?_
  refine Qab (.pointer (some ⟨g2, 66, none⟩)) 25 rfl kj kj ?_
  refine Qab (.int .i64 3) 26 rfl kj (Qag 3 _ g2 66 47 _ (.int .i64 3) _ r2_5 rfl kj (Qah [ints .u8 (grp), #[.int .i64 ep], #[.int .i64 fr], ints .u8 (bas)] [#[.int .i64 3]] [#[.bool us], #[.int .i64 nm], ints .u8 (key), ints .u8 (sg), ints .u8 (pa), #[.slice a_m ms.length c_m], ints .u8 (start), #[.int .i64 at_], ints .u8 (sig)] 66 (by rw [Qaa, Qaa, Qaa, Qaa]; simp only [Array.size_append, cat, ((Qac _ _).trans hal), ((Qac _ _).trans hrl)]; rfl) 0 _ rfl) kj) ?_
  refine Qab (.bool true) 27 rfl kj kj ?_
  refine Qab (.bool true) 28 rfl kj kj ?_
  refine Qak (fun v W' => v = .tuple #[] ∧ GW base gw W5 W' ∧ WSt base gw (Qa4 (rawS (QaQ (numS (rawS (s) grp) ep 4) fr) bas) true) W') 98 #[.pointer (some ⟨gw, 0, none⟩), .bool true] 29 rfl kj kj ((Qcj base gw _ true _ ws11).mono (by rintro e w' ⟨rfl, h1, h2⟩; exact ⟨_, rfl, rfl, h1, h2⟩)) fun v13 W6 h13 => ?_
  obtain ⟨rfl, q6, ws13⟩ := h13
  have x6 : GW base gw w W6 := GW.trans x5 q6
  refine Qaf ?_
  refine hK12 _ _ ?_
  refine wp_seq_k fun K14 hK14 => ?_
  refine Qae ?_
  refine Qab (.pointer (some ⟨gw, 0, none⟩)) 30 rfl kj kj ?_
  refine Qab (.pointer (some ⟨g2, 66, none⟩)) 31 rfl kj kj ?_
  have r2_6 := (GW.row q6 r2_5 (by decide) (Ne.symm (Nat.ne_of_lt (Nat.lt_of_lt_of_le hgw b2))))
  refine Qab (.int .i64 3) 32 rfl kj (Qag 3 _ g2 66 47 _ (.int .i64 3) _ r2_6 rfl kj (Qah [ints .u8 (grp), #[.int .i64 ep], #[.int .i64 fr], ints .u8 (bas)] [#[.int .i64 3]] [#[.bool us], #[.int .i64 nm], ints .u8 (key), ints .u8 (sg), ints .u8 (pa), #[.slice a_m ms.length c_m], ints .u8 (start), #[.int .i64 at_], ints .u8 (sig)] 66 (by rw [Qaa, Qaa, Qaa, Qaa]; simp only [Array.size_append, cat, ((Qac _ _).trans hal), ((Qac _ _).trans hrl)]; rfl) 0 _ rfl) kj) ?_
  refine Qak (fun v W' => v = .tuple #[] ∧ GW base gw W6 W' ∧ WSt base gw (numS (Qa4 (rawS (QaQ (numS (rawS (s) grp) ep 4) fr) bas) true) 3 1) W') 105 #[.pointer (some ⟨gw, 0, none⟩), .int .i64 3, .int .i64 1] 33 rfl kj kj ((Qbn base gw _ 3 1 _ (Nat.le_trans hbw x6.size) ws13 (by decide)).mono (by rintro e w' ⟨rfl, h1, h2⟩; exact ⟨_, rfl, rfl, h1, h2⟩)) fun v15 W7 h15 => ?_
  obtain ⟨rfl, q7, ws15⟩ := h15
  have x7 : GW base gw w W7 := GW.trans x6 q7
  refine Qaf ?_
  refine hK14 _ _ ?_
  refine wp_seq_k fun K16 hK16 => ?_
  refine wp_seq_k fun K17 hK17 => ?_
  refine Qae ?_
  refine Qab (.pointer (some ⟨g2, 66, none⟩)) 34 rfl kj kj ?_
  have r2_7 := (GW.row q7 r2_6 (by decide) (Ne.symm (Nat.ne_of_lt (Nat.lt_of_lt_of_le hgw b2))))
  refine Qab (.int .i64 3) 35 rfl kj (Qag 3 _ g2 66 47 _ (.int .i64 3) _ r2_7 rfl kj (Qah [ints .u8 (grp), #[.int .i64 ep], #[.int .i64 fr], ints .u8 (bas)] [#[.int .i64 3]] [#[.bool us], #[.int .i64 nm], ints .u8 (key), ints .u8 (sg), ints .u8 (pa), #[.slice a_m ms.length c_m], ints .u8 (start), #[.int .i64 at_], ints .u8 (sig)] 66 (by rw [Qaa, Qaa, Qaa, Qaa]; simp only [Array.size_append, cat, ((Qac _ _).trans hal), ((Qac _ _).trans hrl)]; rfl) 0 _ rfl) kj) ?_
  refine Qab (.bool false) 36 rfl kj kj ?_
  refine Qab (.bool false) 37 rfl kj kj ?_
  refine Qab (.pointer (some ⟨g2, 66, none⟩)) 38 rfl kj kj ?_
  refine Qab (.int .i64 3) 39 rfl kj (Qag 3 _ g2 66 47 _ (.int .i64 3) _ r2_7 rfl kj (Qah [ints .u8 (grp), #[.int .i64 ep], #[.int .i64 fr], ints .u8 (bas)] [#[.int .i64 3]] [#[.bool us], #[.int .i64 nm], ints .u8 (key), ints .u8 (sg), ints .u8 (pa), #[.slice a_m ms.length c_m], ints .u8 (start), #[.int .i64 at_], ints .u8 (sig)] 66 (by rw [Qaa, Qaa, Qaa, Qaa]; simp only [Array.size_append, cat, ((Qac _ _).trans hal), ((Qac _ _).trans hrl)]; rfl) 0 _ rfl) kj) ?_
  refine Qab (.bool false) 40 rfl kj kj ?_
  refine Qab (.bool false) 41 rfl kj kj ?_
  refine Qaf ?_
  refine hK17 _ _ ?_
  refine cond_false kj ?_
  refine Qae ?_
  refine Qab (.pointer (some ⟨gw, 0, none⟩)) 46 rfl kj kj ?_
  refine Qab (.pointer (some ⟨g2, 67, none⟩)) 47 rfl kj kj ?_
  refine Qab (.agg (cat [#[.bool us], #[.int .i64 nm], ints .u8 (key), ints .u8 (sg), ints .u8 (pa), #[.slice a_m ms.length c_m]])) 48 rfl kj (Qau 43 _ g2 67 47 _ _ _ r2_7 rfl kj (Qah [ints .u8 (grp), #[.int .i64 ep], #[.int .i64 fr], ints .u8 (bas), #[.int .i64 3]] [#[.bool us], #[.int .i64 nm], ints .u8 (key), ints .u8 (sg), ints .u8 (pa), #[.slice a_m ms.length c_m]] [ints .u8 (start), #[.int .i64 at_], ints .u8 (sig)] 67 (by rw [Qaa, Qaa, Qaa, Qaa, Qaa]; simp only [Array.size_append, cat, ((Qac _ _).trans hal), ((Qac _ _).trans hrl)]; rfl)) kj (isz (n := 99) kj (by rw [Qaa, Qaa, Qaa, Qaa, Qaa, Qaa]; simp only [Array.size_append, cat, ((Qac _ _).trans hgl), ((Qac _ _).trans hkl), ((Qac _ _).trans hpl)]; rfl))) ?_
  refine Qa1 (.bool (QaE us nm key sg pa ms)) 107 #[.agg (cat [#[.bool us], #[.int .i64 nm], ints .u8 (key), ints .u8 (sg), ints .u8 (pa), #[.slice a_m ms.length c_m]])] 49 rfl kj kj (QeC us nm key sg pa ms _ _ _ hkl hgl hpl) fun W8 e8 => ?_
  have x8 : GW base gw w W8 := GW.ext x7 e8
  have ws18 := WSt.ext ws15 e8
  refine Qak (fun v W' => v = .tuple #[] ∧ GW base gw W8 W' ∧ WSt base gw (Qa4 (numS (Qa4 (rawS (QaQ (numS (rawS (s) grp) ep 4) fr) bas) true) 3 1) (QaE us nm key sg pa ms)) W') 98 #[.pointer (some ⟨gw, 0, none⟩), .bool (QaE us nm key sg pa ms)] 50 rfl kj kj ((Qcj base gw _ (QaE us nm key sg pa ms) _ ws18).mono (by rintro e w' ⟨rfl, h1, h2⟩; exact ⟨_, rfl, rfl, h1, h2⟩)) fun v19 W9 h19 => ?_
  obtain ⟨rfl, q9, ws19⟩ := h19
  have x9 : GW base gw w W9 := GW.trans x8 q9
  refine Qaf ?_
  refine hK16 _ _ ?_
  refine wp_seq_k fun K20 hK20 => ?_
  refine wp_seq_k fun K21 hK21 => ?_
  refine Qae ?_
  refine Qab (.pointer (some ⟨g2, 66, none⟩)) 51 rfl kj kj ?_
  have r2_8 := (Qar r2_7 e8)
  have r2_9 := (GW.row q9 r2_8 (by decide) (Ne.symm (Nat.ne_of_lt (Nat.lt_of_lt_of_le hgw b2))))
  refine Qab (.int .i64 3) 52 rfl kj (Qag 3 _ g2 66 47 _ (.int .i64 3) _ r2_9 rfl kj (Qah [ints .u8 (grp), #[.int .i64 ep], #[.int .i64 fr], ints .u8 (bas)] [#[.int .i64 3]] [#[.bool us], #[.int .i64 nm], ints .u8 (key), ints .u8 (sg), ints .u8 (pa), #[.slice a_m ms.length c_m], ints .u8 (start), #[.int .i64 at_], ints .u8 (sig)] 66 (by rw [Qaa, Qaa, Qaa, Qaa]; simp only [Array.size_append, cat, ((Qac _ _).trans hal), ((Qac _ _).trans hrl)]; rfl) 0 _ rfl) kj) ?_
  refine Qab (.bool false) 53 rfl kj kj ?_
  refine Qaf ?_
  refine hK21 _ _ ?_
  refine cond_false kj ?_
  refine Qae ?_
  refine Qab (.pointer (some ⟨gw, 0, none⟩)) 58 rfl kj kj ?_
  refine Qab (.pointer (some ⟨g2, 166, none⟩)) 59 rfl kj kj ?_
  refine Qab (.agg (ints .u8 (start))) 60 rfl kj (Qau 40 _ g2 166 47 _ _ _ r2_9 rfl kj (Qah [ints .u8 (grp), #[.int .i64 ep], #[.int .i64 fr], ints .u8 (bas), #[.int .i64 3], #[.bool us], #[.int .i64 nm], ints .u8 (key), ints .u8 (sg), ints .u8 (pa), #[.slice a_m ms.length c_m]] [ints .u8 (start)] [#[.int .i64 at_], ints .u8 (sig)] 166 (by rw [Qaa, Qaa, Qaa, Qaa, Qaa, Qaa, Qaa, Qaa, Qaa, Qaa, Qaa]; simp only [Array.size_append, cat, ((Qac _ _).trans hal), ((Qac _ _).trans hgl), ((Qac _ _).trans hkl), ((Qac _ _).trans hpl), ((Qac _ _).trans hrl)]; rfl)) kj (isz (n := 32) kj ((Qac _ _).trans htl))) ?_
  refine Qab (.agg (ints .u8 (List.replicate 32 0))) 61 rfl kj kj ?_
  refine Qab (.bool (decide (start = List.replicate 32 0))) 62 rfl kj (Qa7 40 _ _ _ _ _ (.bool (decide (start = List.replicate 32 0))) rfl kj kj kj (QaD 40 (e := 5) (k := .u8) (start) (List.replicate 32 0) rfl htl (List.length_replicate (n := 32)) kj kj kj _)) ?_
  refine Qak (fun v W' => v = .tuple #[] ∧ GW base gw W9 W' ∧ WSt base gw (Qa4 (Qa4 (numS (Qa4 (rawS (QaQ (numS (rawS (s) grp) ep 4) fr) bas) true) 3 1) (QaE us nm key sg pa ms)) (decide (start = List.replicate 32 0))) W') 98 #[.pointer (some ⟨gw, 0, none⟩), .bool (decide (start = List.replicate 32 0))] 63 rfl kj kj ((Qcj base gw _ (decide (start = List.replicate 32 0)) _ ws19).mono (by rintro e w' ⟨rfl, h1, h2⟩; exact ⟨_, rfl, rfl, h1, h2⟩)) fun v22 W10 h22 => ?_
  obtain ⟨rfl, q10, ws22⟩ := h22
  have x10 : GW base gw w W10 := GW.trans x9 q10
  refine Qaf ?_
  refine hK20 _ _ ?_
  refine wp_seq_k fun K23 hK23 => ?_
  refine wp_seq_k fun K24 hK24 => ?_
  refine Qae ?_
  refine Qab (.pointer (some ⟨g2, 66, none⟩)) 64 rfl kj kj ?_
  have r2_10 := (GW.row q10 r2_9 (by decide) (Ne.symm (Nat.ne_of_lt (Nat.lt_of_lt_of_le hgw b2))))
  refine Qab (.int .i64 3) 65 rfl kj (Qag 3 _ g2 66 47 _ (.int .i64 3) _ r2_10 rfl kj (Qah [ints .u8 (grp), #[.int .i64 ep], #[.int .i64 fr], ints .u8 (bas)] [#[.int .i64 3]] [#[.bool us], #[.int .i64 nm], ints .u8 (key), ints .u8 (sg), ints .u8 (pa), #[.slice a_m ms.length c_m], ints .u8 (start), #[.int .i64 at_], ints .u8 (sig)] 66 (by rw [Qaa, Qaa, Qaa, Qaa]; simp only [Array.size_append, cat, ((Qac _ _).trans hal), ((Qac _ _).trans hrl)]; rfl) 0 _ rfl) kj) ?_
  refine Qab (.bool true) 66 rfl kj kj ?_
  refine Qaf ?_
  refine hK24 _ _ ?_
  refine cond_true kj ?_
  refine Qae ?_
  refine Qab (.pointer (some ⟨gw, 0, none⟩)) 67 rfl kj kj ?_
  refine Qab (.pointer (some ⟨g2, 198, none⟩)) 68 rfl kj kj ?_
  refine Qab (.int .i64 at_) 69 rfl kj (Qag 3 _ g2 198 47 _ (.int .i64 at_) _ r2_10 rfl kj (Qah [ints .u8 (grp), #[.int .i64 ep], #[.int .i64 fr], ints .u8 (bas), #[.int .i64 3], #[.bool us], #[.int .i64 nm], ints .u8 (key), ints .u8 (sg), ints .u8 (pa), #[.slice a_m ms.length c_m], ints .u8 (start)] [#[.int .i64 at_]] [ints .u8 (sig)] 198 (by rw [Qaa, Qaa, Qaa, Qaa, Qaa, Qaa, Qaa, Qaa, Qaa, Qaa, Qaa, Qaa]; simp only [Array.size_append, cat, ((Qac _ _).trans hal), ((Qac _ _).trans hgl), ((Qac _ _).trans hkl), ((Qac _ _).trans hpl), ((Qac _ _).trans hrl), ((Qac _ _).trans htl)]; rfl) 0 _ rfl) kj) ?_
  refine Qak (fun v W' => v = .tuple #[] ∧ GW base gw W10 W' ∧ WSt base gw (QaQ (Qa4 (Qa4 (numS (Qa4 (rawS (QaQ (numS (rawS (s) grp) ep 4) fr) bas) true) 3 1) (QaE us nm key sg pa ms)) (decide (start = List.replicate 32 0))) at_) W') 106 #[.pointer (some ⟨gw, 0, none⟩), .int .i64 at_] 70 rfl kj kj ((Qen base gw _ at_ _ (Nat.le_trans hbw x10.size) ws22).mono (by rintro e w' ⟨rfl, h1, h2⟩; exact ⟨_, rfl, rfl, h1, h2⟩)) fun v25 W11 h25 => ?_
  obtain ⟨rfl, q11, ws25⟩ := h25
  have x11 : GW base gw w W11 := GW.trans x10 q11
  refine Qaf ?_
  refine hK23 _ _ ?_
  refine Qae ?_
  refine Qab (.pointer (some ⟨gw, 0, none⟩)) 76 rfl kj kj ?_
  refine Qab (.pointer (some ⟨g2, 199, none⟩)) 77 rfl kj kj ?_
  refine Qab (.slice (some ⟨g2, 199, none⟩) 64 64) 78 rfl kj kj ?_
  have r2_11 := (GW.row q11 r2_10 (by decide) (Ne.symm (Nat.ne_of_lt (Nat.lt_of_lt_of_le hgw b2))))
  refine Qak (fun v W' => v = .tuple #[] ∧ GW base gw W11 W' ∧ WSt base gw (rawS (QaQ (Qa4 (Qa4 (numS (Qa4 (rawS (QaQ (numS (rawS (s) grp) ep 4) fr) bas) true) 3 1) (QaE us nm key sg pa ms)) (decide (start = List.replicate 32 0))) at_) sig) W') 104 #[.pointer (some ⟨gw, 0, none⟩), .slice (some ⟨g2, 199, none⟩) 64 64] 79 rfl kj kj ((rawW base gw _ sig _ _ (Nat.le_trans hbw x11.size) ws25 (by omega) hib (fun W e => (QaB 199 hil (ExtB.row e r2_11 (Ne.symm (Nat.ne_of_lt (Nat.lt_of_lt_of_le hgw b2)))) (fun i hi => Qa8 [ints .u8 (grp), #[.int .i64 ep], #[.int .i64 fr], ints .u8 (bas), #[.int .i64 3], #[.bool us], #[.int .i64 nm], ints .u8 (key), ints .u8 (sg), ints .u8 (pa), #[.slice a_m ms.length c_m], ints .u8 (start), #[.int .i64 at_]] [] sig 199 i (199 + i) (by rw [Qaa, Qaa, Qaa, Qaa, Qaa, Qaa, Qaa, Qaa, Qaa, Qaa, Qaa, Qaa, Qaa]; simp only [Array.size_append, cat, ((Qac _ _).trans hal), ((Qac _ _).trans hgl), ((Qac _ _).trans hkl), ((Qac _ _).trans hpl), ((Qac _ _).trans hrl), ((Qac _ _).trans htl)]; rfl) rfl (by rw [hil]; exact hi)) (Qay (ExtB.row e r2_11 (Ne.symm (Nat.ne_of_lt (Nat.lt_of_lt_of_le hgw b2))))) (Nat.le_refl _) (by decide)))).mono (by rintro e w' ⟨rfl, h1, h2⟩; exact ⟨_, rfl, rfl, h1, h2⟩)) fun v26 W12 h26 => ?_
  obtain ⟨rfl, q12, ws26⟩ := h26
  have x12 : GW base gw w W12 := GW.trans x11 q12
  refine Qaf ?_
  repeat (first | with_reducible refine goX1 ?_ | with_reducible refine goX2 ?_ | with_reducible refine goX3 ?_)
  exact (show bodyPost _ _ _ .normal _ _ from end0 rfl ⟨rfl, x12, ws26⟩)
set_option maxHeartbeats 4000000 in
theorem QhW (base gw : Nat) (s : Option (List Int)) (kd : Int) (hkd : kd < 1) (grp : List Int) (ep fr : Int) (bas : List Int) (us : Bool) (nm : Int) (key sg pa ms start : List Int) (at_ : Int) (sig : List Int) (a_m : Option Addr) (c_m : Nat) (w : World) (hbw : base ≤ w.heap.size) (hbg : base ≤ gw) (h : WSt base gw s w) (hrl : grp.length = 32) (hrb : Qaj grp) (hal : bas.length = 32) (hab : Qaj bas) (hkl : key.length = 32) (hgl : sg.length = 32) (hpl : pa.length = 32) (hkb : Qaj key) (hgb : Qaj sg) (hpb : Qaj pa) (hml : ms.length ≤ 1000000) (htl : start.length = 32) (htb : Qaj start) (hil : sig.length = 64) (hib : Qaj sig) (hm : RdK .i64 base ms (.slice a_m ms.length c_m) w) : Calls Try.prog 57 #[.pointer (some ⟨gw, 0, none⟩), .agg (cat [ints .u8 (grp), #[.int .i64 ep], #[.int .i64 fr], ints .u8 (bas), #[.int .i64 kd], #[.bool us], #[.int .i64 nm], ints .u8 (key), ints .u8 (sg), ints .u8 (pa), #[.slice a_m ms.length c_m], ints .u8 (start), #[.int .i64 at_], ints .u8 (sig)])] w (fun e W => e = .returned (.tuple #[]) ∧ GW base gw w W ∧ WSt base gw (rawS (Qa4 (Qa4 (Qa4 (numS (Qa4 (rawS (QaQ (numS (rawS (s) grp) ep 4) fr) bas) false) kd 1) (QaE us nm key sg pa ms)) (decide (start = List.replicate 32 0))) ((at_ == 0))) sig) W) := by
  have hgw := h.lt
  refine enter 80 [(0, .pointer (some ⟨gw, 0, none⟩)), (1, .agg (cat [ints .u8 (grp), #[.int .i64 ep], #[.int .i64 fr], ints .u8 (bas), #[.int .i64 kd], #[.bool us], #[.int .i64 nm], ints .u8 (key), ints .u8 (sg), ints .u8 (pa), #[.slice a_m ms.length c_m], ints .u8 (start), #[.int .i64 at_], ints .u8 (sig)]))] Try.func57 rfl rfl kj rfl ?_
  refine wp_seq_k fun K1 hK1 => ?_
  refine Qae ?_
  refine Qav (cat [ints .u8 (grp), #[.int .i64 ep], #[.int .i64 fr], ints .u8 (bas), #[.int .i64 kd], #[.bool us], #[.int .i64 nm], ints .u8 (key), ints .u8 (sg), ints .u8 (pa), #[.slice a_m ms.length c_m], ints .u8 (start), #[.int .i64 at_], ints .u8 (sig)]) 47 3 rfl kj kj fun g2 W1 l2 e1 r2_1 => ?_
  have x1 : GW base gw w W1 := GW.ext (GW.refl base gw w) e1
  have ws3 := WSt.ext h e1
  have b2 : w.heap.size ≤ g2 := Nat.le_trans (GW.refl base gw w).size l2
  refine Qaf ?_
  refine hK1 _ _ ?_
  refine wp_seq_k fun K4 hK4 => ?_
  refine Qae ?_
  refine Qab (.pointer (some ⟨gw, 0, none⟩)) 4 rfl kj kj ?_
  refine Qab (.pointer (some ⟨g2, 0, none⟩)) 5 rfl kj kj ?_
  refine Qab (.slice (some ⟨g2, 0, none⟩) 32 32) 6 rfl kj kj ?_
  refine Qak (fun v W' => v = .tuple #[] ∧ GW base gw W1 W' ∧ WSt base gw (rawS (s) grp) W') 104 #[.pointer (some ⟨gw, 0, none⟩), .slice (some ⟨g2, 0, none⟩) 32 32] 7 rfl kj kj ((rawW base gw _ grp _ _ (Nat.le_trans hbw x1.size) ws3 (by omega) hrb (fun W e => (QaB 0 hrl (ExtB.row e r2_1 (Ne.symm (Nat.ne_of_lt (Nat.lt_of_lt_of_le hgw b2)))) (fun i hi => Qa8 [] [#[.int .i64 ep], #[.int .i64 fr], ints .u8 (bas), #[.int .i64 kd], #[.bool us], #[.int .i64 nm], ints .u8 (key), ints .u8 (sg), ints .u8 (pa), #[.slice a_m ms.length c_m], ints .u8 (start), #[.int .i64 at_], ints .u8 (sig)] grp 0 i (0 + i) kj rfl (by rw [hrl]; exact hi)) (Qay (ExtB.row e r2_1 (Ne.symm (Nat.ne_of_lt (Nat.lt_of_lt_of_le hgw b2))))) (Nat.le_refl _) (by decide)))).mono (by rintro e w' ⟨rfl, h1, h2⟩; exact ⟨_, rfl, rfl, h1, h2⟩)) fun v5 W2 h5 => ?_
  obtain ⟨rfl, q2, ws5⟩ := h5
  have x2 : GW base gw w W2 := GW.trans x1 q2
  refine Qaf ?_
  refine hK4 _ _ ?_
  refine wp_seq_k fun K6 hK6 => ?_
  refine Qae ?_
  refine Qab (.pointer (some ⟨gw, 0, none⟩)) 8 rfl kj kj ?_
  refine Qab (.pointer (some ⟨g2, 32, none⟩)) 9 rfl kj kj ?_
  have r2_2 := (GW.row q2 r2_1 (by decide) (Ne.symm (Nat.ne_of_lt (Nat.lt_of_lt_of_le hgw b2))))
  refine Qab (.int .i64 ep) 10 rfl kj (Qag 3 _ g2 32 47 _ (.int .i64 ep) _ r2_2 rfl kj (Qah [ints .u8 (grp)] [#[.int .i64 ep]] [#[.int .i64 fr], ints .u8 (bas), #[.int .i64 kd], #[.bool us], #[.int .i64 nm], ints .u8 (key), ints .u8 (sg), ints .u8 (pa), #[.slice a_m ms.length c_m], ints .u8 (start), #[.int .i64 at_], ints .u8 (sig)] 32 ((Qac _ _).trans hrl) 0 _ rfl) kj) ?_
  refine Qak (fun v W' => v = .tuple #[] ∧ GW base gw W2 W' ∧ WSt base gw (numS (rawS (s) grp) ep 4) W') 105 #[.pointer (some ⟨gw, 0, none⟩), .int .i64 ep, .int .i64 4] 11 rfl kj kj ((Qbn base gw _ ep 4 _ (Nat.le_trans hbw x2.size) ws5 (by decide)).mono (by rintro e w' ⟨rfl, h1, h2⟩; exact ⟨_, rfl, rfl, h1, h2⟩)) fun v7 W3 h7 => ?_
  obtain ⟨rfl, q3, ws7⟩ := h7
  have x3 : GW base gw w W3 := GW.trans x2 q3
  refine Qaf ?_
  refine hK6 _ _ ?_
  refine wp_seq_k fun K8 hK8 => ?_
  refine Qae ?_
  refine Qab (.pointer (some ⟨gw, 0, none⟩)) 12 rfl kj kj ?_
  refine Qab (.pointer (some ⟨g2, 33, none⟩)) 13 rfl kj kj ?_
  have r2_3 := (GW.row q3 r2_2 (by decide) (Ne.symm (Nat.ne_of_lt (Nat.lt_of_lt_of_le hgw b2))))
  refine Qab (.int .i64 fr) 14 rfl kj (Qag 3 _ g2 33 47 _ (.int .i64 fr) _ r2_3 rfl kj (Qah [ints .u8 (grp), #[.int .i64 ep]] [#[.int .i64 fr]] [ints .u8 (bas), #[.int .i64 kd], #[.bool us], #[.int .i64 nm], ints .u8 (key), ints .u8 (sg), ints .u8 (pa), #[.slice a_m ms.length c_m], ints .u8 (start), #[.int .i64 at_], ints .u8 (sig)] 33 (by rw [Qaa, Qaa]; simp only [Array.size_append, cat, ((Qac _ _).trans hrl)]; rfl) 0 _ rfl) kj) ?_
  refine Qak (fun v W' => v = .tuple #[] ∧ GW base gw W3 W' ∧ WSt base gw (QaQ (numS (rawS (s) grp) ep 4) fr) W') 106 #[.pointer (some ⟨gw, 0, none⟩), .int .i64 fr] 15 rfl kj kj ((Qen base gw _ fr _ (Nat.le_trans hbw x3.size) ws7).mono (by rintro e w' ⟨rfl, h1, h2⟩; exact ⟨_, rfl, rfl, h1, h2⟩)) fun v9 W4 h9 => ?_
  obtain ⟨rfl, q4, ws9⟩ := h9
  have x4 : GW base gw w W4 := GW.trans x3 q4
  refine Qaf ?_
  refine hK8 _ _ ?_
  refine wp_seq_k fun K10 hK10 => ?_
  refine Qae ?_
  refine Qab (.pointer (some ⟨gw, 0, none⟩)) 16 rfl kj kj ?_
  refine Qab (.pointer (some ⟨g2, 34, none⟩)) 17 rfl kj kj ?_
  refine Qab (.slice (some ⟨g2, 34, none⟩) 32 32) 18 rfl kj kj ?_
  have r2_4 := (GW.row q4 r2_3 (by decide) (Ne.symm (Nat.ne_of_lt (Nat.lt_of_lt_of_le hgw b2))))
  refine Qak (fun v W' => v = .tuple #[] ∧ GW base gw W4 W' ∧ WSt base gw (rawS (QaQ (numS (rawS (s) grp) ep 4) fr) bas) W') 104 #[.pointer (some ⟨gw, 0, none⟩), .slice (some ⟨g2, 34, none⟩) 32 32] 19 rfl kj kj ((rawW base gw _ bas _ _ (Nat.le_trans hbw x4.size) ws9 (by omega) hab (fun W e => (QaB 34 hal (ExtB.row e r2_4 (Ne.symm (Nat.ne_of_lt (Nat.lt_of_lt_of_le hgw b2)))) (fun i hi => Qa8 [ints .u8 (grp), #[.int .i64 ep], #[.int .i64 fr]] [#[.int .i64 kd], #[.bool us], #[.int .i64 nm], ints .u8 (key), ints .u8 (sg), ints .u8 (pa), #[.slice a_m ms.length c_m], ints .u8 (start), #[.int .i64 at_], ints .u8 (sig)] bas 34 i (34 + i) (by rw [Qaa, Qaa, Qaa]; simp only [Array.size_append, cat, ((Qac _ _).trans hrl)]; rfl) rfl (by rw [hal]; exact hi)) (Qay (ExtB.row e r2_4 (Ne.symm (Nat.ne_of_lt (Nat.lt_of_lt_of_le hgw b2))))) (Nat.le_refl _) (by decide)))).mono (by rintro e w' ⟨rfl, h1, h2⟩; exact ⟨_, rfl, rfl, h1, h2⟩)) fun v11 W5 h11 => ?_
  obtain ⟨rfl, q5, ws11⟩ := h11
  have x5 : GW base gw w W5 := GW.trans x4 q5
  refine Qaf ?_
  refine hK10 _ _ ?_
  refine wp_seq_k fun K12 hK12 => ?_
  refine Qae ?_
  refine Qab (.pointer (some ⟨gw, 0, none⟩)) 20 rfl kj kj ?_
  refine Qab (.pointer (some ⟨g2, 66, none⟩)) 21 rfl kj kj ?_
  have r2_5 := (GW.row q5 r2_4 (by decide) (Ne.symm (Nat.ne_of_lt (Nat.lt_of_lt_of_le hgw b2))))
  refine Qab (.int .i64 kd) 22 rfl kj (Qag 3 _ g2 66 47 _ (.int .i64 kd) _ r2_5 rfl kj (Qah [ints .u8 (grp), #[.int .i64 ep], #[.int .i64 fr], ints .u8 (bas)] [#[.int .i64 kd]] [#[.bool us], #[.int .i64 nm], ints .u8 (key), ints .u8 (sg), ints .u8 (pa), #[.slice a_m ms.length c_m], ints .u8 (start), #[.int .i64 at_], ints .u8 (sig)] 66 (by rw [Qaa, Qaa, Qaa, Qaa]; simp only [Array.size_append, cat, ((Qac _ _).trans hal), ((Qac _ _).trans hrl)]; rfl) 0 _ rfl) kj) ?_
  refine Qab (.bool false) 23 rfl kj (Qax (u := .bool (decide (kd ≥ 1))) kj (congrArg Value.bool (decide_eq_false (by omega)))) ?_
  refine Qab (.bool false) 24 rfl kj kj ?_
  refine Qao 25 rfl kj ?_
  refine Qao 26 rfl kj ?_
  refine Qao 27 rfl kj ?_
  refine Qab (.bool false) 28 rfl kj kj ?_
  refine Qak (fun v W' => v = .tuple #[] ∧ GW base gw W5 W' ∧ WSt base gw (Qa4 (rawS (QaQ (numS (rawS (s) grp) ep 4) fr) bas) false) W') 98 #[.pointer (some ⟨gw, 0, none⟩), .bool false] 29 rfl kj kj ((Qcj base gw _ false _ ws11).mono (by rintro e w' ⟨rfl, h1, h2⟩; exact ⟨_, rfl, rfl, h1, h2⟩)) fun v13 W6 h13 => ?_
  obtain ⟨rfl, q6, ws13⟩ := h13
  have x6 : GW base gw w W6 := GW.trans x5 q6
  refine Qaf ?_
  refine hK12 _ _ ?_
  refine wp_seq_k fun K14 hK14 => ?_
  refine Qae ?_
  refine Qab (.pointer (some ⟨gw, 0, none⟩)) 30 rfl kj kj ?_
  refine Qab (.pointer (some ⟨g2, 66, none⟩)) 31 rfl kj kj ?_
  have r2_6 := (GW.row q6 r2_5 (by decide) (Ne.symm (Nat.ne_of_lt (Nat.lt_of_lt_of_le hgw b2))))
  refine Qab (.int .i64 kd) 32 rfl kj (Qag 3 _ g2 66 47 _ (.int .i64 kd) _ r2_6 rfl kj (Qah [ints .u8 (grp), #[.int .i64 ep], #[.int .i64 fr], ints .u8 (bas)] [#[.int .i64 kd]] [#[.bool us], #[.int .i64 nm], ints .u8 (key), ints .u8 (sg), ints .u8 (pa), #[.slice a_m ms.length c_m], ints .u8 (start), #[.int .i64 at_], ints .u8 (sig)] 66 (by rw [Qaa, Qaa, Qaa, Qaa]; simp only [Array.size_append, cat, ((Qac _ _).trans hal), ((Qac _ _).trans hrl)]; rfl) 0 _ rfl) kj) ?_
  refine Qak (fun v W' => v = .tuple #[] ∧ GW base gw W6 W' ∧ WSt base gw (numS (Qa4 (rawS (QaQ (numS (rawS (s) grp) ep 4) fr) bas) false) kd 1) W') 105 #[.pointer (some ⟨gw, 0, none⟩), .int .i64 kd, .int .i64 1] 33 rfl kj kj ((Qbn base gw _ kd 1 _ (Nat.le_trans hbw x6.size) ws13 (by decide)).mono (by rintro e w' ⟨rfl, h1, h2⟩; exact ⟨_, rfl, rfl, h1, h2⟩)) fun v15 W7 h15 => ?_
  obtain ⟨rfl, q7, ws15⟩ := h15
  have x7 : GW base gw w W7 := GW.trans x6 q7
  refine Qaf ?_
  refine hK14 _ _ ?_
  refine wp_seq_k fun K16 hK16 => ?_
  refine wp_seq_k fun K17 hK17 => ?_
  refine Qae ?_
  refine Qab (.pointer (some ⟨g2, 66, none⟩)) 34 rfl kj kj ?_
  have r2_7 := (GW.row q7 r2_6 (by decide) (Ne.symm (Nat.ne_of_lt (Nat.lt_of_lt_of_le hgw b2))))
  refine Qab (.int .i64 kd) 35 rfl kj (Qag 3 _ g2 66 47 _ (.int .i64 kd) _ r2_7 rfl kj (Qah [ints .u8 (grp), #[.int .i64 ep], #[.int .i64 fr], ints .u8 (bas)] [#[.int .i64 kd]] [#[.bool us], #[.int .i64 nm], ints .u8 (key), ints .u8 (sg), ints .u8 (pa), #[.slice a_m ms.length c_m], ints .u8 (start), #[.int .i64 at_], ints .u8 (sig)] 66 (by rw [Qaa, Qaa, Qaa, Qaa]; simp only [Array.size_append, cat, ((Qac _ _).trans hal), ((Qac _ _).trans hrl)]; rfl) 0 _ rfl) kj) ?_
  refine Qab (.bool false) 36 rfl kj (Qax (u := .bool ((kd == 1))) kj (congrArg Value.bool (beq_eq_false_iff_ne.2 (by omega)))) ?_
  refine Qab (.bool false) 37 rfl kj kj ?_
  refine Qab (.pointer (some ⟨g2, 66, none⟩)) 38 rfl kj kj ?_
  refine Qab (.int .i64 kd) 39 rfl kj (Qag 3 _ g2 66 47 _ (.int .i64 kd) _ r2_7 rfl kj (Qah [ints .u8 (grp), #[.int .i64 ep], #[.int .i64 fr], ints .u8 (bas)] [#[.int .i64 kd]] [#[.bool us], #[.int .i64 nm], ints .u8 (key), ints .u8 (sg), ints .u8 (pa), #[.slice a_m ms.length c_m], ints .u8 (start), #[.int .i64 at_], ints .u8 (sig)] 66 (by rw [Qaa, Qaa, Qaa, Qaa]; simp only [Array.size_append, cat, ((Qac _ _).trans hal), ((Qac _ _).trans hrl)]; rfl) 0 _ rfl) kj) ?_
  refine Qab (.bool false) 40 rfl kj (Qax (u := .bool ((kd == 2))) kj (congrArg Value.bool (beq_eq_false_iff_ne.2 (by omega)))) ?_
  refine Qab (.bool false) 41 rfl kj kj ?_
  refine Qaf ?_
  refine hK17 _ _ ?_
  refine cond_false kj ?_
  refine Qae ?_
  refine Qab (.pointer (some ⟨gw, 0, none⟩)) 46 rfl kj kj ?_
  refine Qab (.pointer (some ⟨g2, 67, none⟩)) 47 rfl kj kj ?_
  refine Qab (.agg (cat [#[.bool us], #[.int .i64 nm], ints .u8 (key), ints .u8 (sg), ints .u8 (pa), #[.slice a_m ms.length c_m]])) 48 rfl kj (Qau 43 _ g2 67 47 _ _ _ r2_7 rfl kj (Qah [ints .u8 (grp), #[.int .i64 ep], #[.int .i64 fr], ints .u8 (bas), #[.int .i64 kd]] [#[.bool us], #[.int .i64 nm], ints .u8 (key), ints .u8 (sg), ints .u8 (pa), #[.slice a_m ms.length c_m]] [ints .u8 (start), #[.int .i64 at_], ints .u8 (sig)] 67 (by rw [Qaa, Qaa, Qaa, Qaa, Qaa]; simp only [Array.size_append, cat, ((Qac _ _).trans hal), ((Qac _ _).trans hrl)]; rfl)) kj (isz (n := 99) kj (by rw [Qaa, Qaa, Qaa, Qaa, Qaa, Qaa]; simp only [Array.size_append, cat, ((Qac _ _).trans hgl), ((Qac _ _).trans hkl), ((Qac _ _).trans hpl)]; rfl))) ?_
  refine Qa1 (.bool (QaE us nm key sg pa ms)) 107 #[.agg (cat [#[.bool us], #[.int .i64 nm], ints .u8 (key), ints .u8 (sg), ints .u8 (pa), #[.slice a_m ms.length c_m]])] 49 rfl kj kj (QeC us nm key sg pa ms _ _ _ hkl hgl hpl) fun W8 e8 => ?_
  have x8 : GW base gw w W8 := GW.ext x7 e8
  have ws18 := WSt.ext ws15 e8
  refine Qak (fun v W' => v = .tuple #[] ∧ GW base gw W8 W' ∧ WSt base gw (Qa4 (numS (Qa4 (rawS (QaQ (numS (rawS (s) grp) ep 4) fr) bas) false) kd 1) (QaE us nm key sg pa ms)) W') 98 #[.pointer (some ⟨gw, 0, none⟩), .bool (QaE us nm key sg pa ms)] 50 rfl kj kj ((Qcj base gw _ (QaE us nm key sg pa ms) _ ws18).mono (by rintro e w' ⟨rfl, h1, h2⟩; exact ⟨_, rfl, rfl, h1, h2⟩)) fun v19 W9 h19 => ?_
  obtain ⟨rfl, q9, ws19⟩ := h19
  have x9 : GW base gw w W9 := GW.trans x8 q9
  refine Qaf ?_
  refine hK16 _ _ ?_
  refine wp_seq_k fun K20 hK20 => ?_
  refine wp_seq_k fun K21 hK21 => ?_
  refine Qae ?_
  refine Qab (.pointer (some ⟨g2, 66, none⟩)) 51 rfl kj kj ?_
  have r2_8 := (Qar r2_7 e8)
  have r2_9 := (GW.row q9 r2_8 (by decide) (Ne.symm (Nat.ne_of_lt (Nat.lt_of_lt_of_le hgw b2))))
  refine Qab (.int .i64 kd) 52 rfl kj (Qag 3 _ g2 66 47 _ (.int .i64 kd) _ r2_9 rfl kj (Qah [ints .u8 (grp), #[.int .i64 ep], #[.int .i64 fr], ints .u8 (bas)] [#[.int .i64 kd]] [#[.bool us], #[.int .i64 nm], ints .u8 (key), ints .u8 (sg), ints .u8 (pa), #[.slice a_m ms.length c_m], ints .u8 (start), #[.int .i64 at_], ints .u8 (sig)] 66 (by rw [Qaa, Qaa, Qaa, Qaa]; simp only [Array.size_append, cat, ((Qac _ _).trans hal), ((Qac _ _).trans hrl)]; rfl) 0 _ rfl) kj) ?_
  refine Qab (.bool false) 53 rfl kj (Qax (u := .bool ((kd == 1))) kj (congrArg Value.bool (beq_eq_false_iff_ne.2 (by omega)))) ?_
  refine Qaf ?_
  refine hK21 _ _ ?_
  refine cond_false kj ?_
  refine Qae ?_
  refine Qab (.pointer (some ⟨gw, 0, none⟩)) 58 rfl kj kj ?_
  refine Qab (.pointer (some ⟨g2, 166, none⟩)) 59 rfl kj kj ?_
  refine Qab (.agg (ints .u8 (start))) 60 rfl kj (Qau 40 _ g2 166 47 _ _ _ r2_9 rfl kj (Qah [ints .u8 (grp), #[.int .i64 ep], #[.int .i64 fr], ints .u8 (bas), #[.int .i64 kd], #[.bool us], #[.int .i64 nm], ints .u8 (key), ints .u8 (sg), ints .u8 (pa), #[.slice a_m ms.length c_m]] [ints .u8 (start)] [#[.int .i64 at_], ints .u8 (sig)] 166 (by rw [Qaa, Qaa, Qaa, Qaa, Qaa, Qaa, Qaa, Qaa, Qaa, Qaa, Qaa]; simp only [Array.size_append, cat, ((Qac _ _).trans hal), ((Qac _ _).trans hgl), ((Qac _ _).trans hkl), ((Qac _ _).trans hpl), ((Qac _ _).trans hrl)]; rfl)) kj (isz (n := 32) kj ((Qac _ _).trans htl))) ?_
  refine Qab (.agg (ints .u8 (List.replicate 32 0))) 61 rfl kj kj ?_
  refine Qab (.bool (decide (start = List.replicate 32 0))) 62 rfl kj (Qa7 40 _ _ _ _ _ (.bool (decide (start = List.replicate 32 0))) rfl kj kj kj (QaD 40 (e := 5) (k := .u8) (start) (List.replicate 32 0) rfl htl (List.length_replicate (n := 32)) kj kj kj _)) ?_
  refine Qak (fun v W' => v = .tuple #[] ∧ GW base gw W9 W' ∧ WSt base gw (Qa4 (Qa4 (numS (Qa4 (rawS (QaQ (numS (rawS (s) grp) ep 4) fr) bas) false) kd 1) (QaE us nm key sg pa ms)) (decide (start = List.replicate 32 0))) W') 98 #[.pointer (some ⟨gw, 0, none⟩), .bool (decide (start = List.replicate 32 0))] 63 rfl kj kj ((Qcj base gw _ (decide (start = List.replicate 32 0)) _ ws19).mono (by rintro e w' ⟨rfl, h1, h2⟩; exact ⟨_, rfl, rfl, h1, h2⟩)) fun v22 W10 h22 => ?_
  obtain ⟨rfl, q10, ws22⟩ := h22
  have x10 : GW base gw w W10 := GW.trans x9 q10
  refine Qaf ?_
  refine hK20 _ _ ?_
  refine wp_seq_k fun K23 hK23 => ?_
  refine wp_seq_k fun K24 hK24 => ?_
  refine Qae ?_
  refine Qab (.pointer (some ⟨g2, 66, none⟩)) 64 rfl kj kj ?_
  have r2_10 := (GW.row q10 r2_9 (by decide) (Ne.symm (Nat.ne_of_lt (Nat.lt_of_lt_of_le hgw b2))))
  refine Qab (.int .i64 kd) 65 rfl kj (Qag 3 _ g2 66 47 _ (.int .i64 kd) _ r2_10 rfl kj (Qah [ints .u8 (grp), #[.int .i64 ep], #[.int .i64 fr], ints .u8 (bas)] [#[.int .i64 kd]] [#[.bool us], #[.int .i64 nm], ints .u8 (key), ints .u8 (sg), ints .u8 (pa), #[.slice a_m ms.length c_m], ints .u8 (start), #[.int .i64 at_], ints .u8 (sig)] 66 (by rw [Qaa, Qaa, Qaa, Qaa]; simp only [Array.size_append, cat, ((Qac _ _).trans hal), ((Qac _ _).trans hrl)]; rfl) 0 _ rfl) kj) ?_
  refine Qab (.bool false) 66 rfl kj (Qax (u := .bool ((kd == 3))) kj (congrArg Value.bool (beq_eq_false_iff_ne.2 (by omega)))) ?_
  refine Qaf ?_
  refine hK24 _ _ ?_
  refine cond_false kj ?_
  refine Qae ?_
  refine Qab (.pointer (some ⟨gw, 0, none⟩)) 71 rfl kj kj ?_
  refine Qab (.pointer (some ⟨g2, 198, none⟩)) 72 rfl kj kj ?_
  refine Qab (.int .i64 at_) 73 rfl kj (Qag 3 _ g2 198 47 _ (.int .i64 at_) _ r2_10 rfl kj (Qah [ints .u8 (grp), #[.int .i64 ep], #[.int .i64 fr], ints .u8 (bas), #[.int .i64 kd], #[.bool us], #[.int .i64 nm], ints .u8 (key), ints .u8 (sg), ints .u8 (pa), #[.slice a_m ms.length c_m], ints .u8 (start)] [#[.int .i64 at_]] [ints .u8 (sig)] 198 (by rw [Qaa, Qaa, Qaa, Qaa, Qaa, Qaa, Qaa, Qaa, Qaa, Qaa, Qaa, Qaa]; simp only [Array.size_append, cat, ((Qac _ _).trans hal), ((Qac _ _).trans hgl), ((Qac _ _).trans hkl), ((Qac _ _).trans hpl), ((Qac _ _).trans hrl), ((Qac _ _).trans htl)]; rfl) 0 _ rfl) kj) ?_
  refine Qab (.bool ((at_ == 0))) 74 rfl kj kj ?_
  refine Qak (fun v W' => v = .tuple #[] ∧ GW base gw W10 W' ∧ WSt base gw (Qa4 (Qa4 (Qa4 (numS (Qa4 (rawS (QaQ (numS (rawS (s) grp) ep 4) fr) bas) false) kd 1) (QaE us nm key sg pa ms)) (decide (start = List.replicate 32 0))) ((at_ == 0))) W') 98 #[.pointer (some ⟨gw, 0, none⟩), .bool ((at_ == 0))] 75 rfl kj kj ((Qcj base gw _ ((at_ == 0)) _ ws22).mono (by rintro e w' ⟨rfl, h1, h2⟩; exact ⟨_, rfl, rfl, h1, h2⟩)) fun v25 W11 h25 => ?_
  obtain ⟨rfl, q11, ws25⟩ := h25
  have x11 : GW base gw w W11 := GW.trans x10 q11
  refine Qaf ?_
  refine hK23 _ _ ?_
  refine Qae ?_
  refine Qab (.pointer (some ⟨gw, 0, none⟩)) 76 rfl kj kj ?_
  refine Qab (.pointer (some ⟨g2, 199, none⟩)) 77 rfl kj kj ?_
  refine Qab (.slice (some ⟨g2, 199, none⟩) 64 64) 78 rfl kj kj ?_
  have r2_11 := (GW.row q11 r2_10 (by decide) (Ne.symm (Nat.ne_of_lt (Nat.lt_of_lt_of_le hgw b2))))
  refine Qak (fun v W' => v = .tuple #[] ∧ GW base gw W11 W' ∧ WSt base gw (rawS (Qa4 (Qa4 (Qa4 (numS (Qa4 (rawS (QaQ (numS (rawS (s) grp) ep 4) fr) bas) false) kd 1) (QaE us nm key sg pa ms)) (decide (start = List.replicate 32 0))) ((at_ == 0))) sig) W') 104 #[.pointer (some ⟨gw, 0, none⟩), .slice (some ⟨g2, 199, none⟩) 64 64] 79 rfl kj kj ((rawW base gw _ sig _ _ (Nat.le_trans hbw x11.size) ws25 (by omega) hib (fun W e => (QaB 199 hil (ExtB.row e r2_11 (Ne.symm (Nat.ne_of_lt (Nat.lt_of_lt_of_le hgw b2)))) (fun i hi => Qa8 [ints .u8 (grp), #[.int .i64 ep], #[.int .i64 fr], ints .u8 (bas), #[.int .i64 kd], #[.bool us], #[.int .i64 nm], ints .u8 (key), ints .u8 (sg), ints .u8 (pa), #[.slice a_m ms.length c_m], ints .u8 (start), #[.int .i64 at_]] [] sig 199 i (199 + i) (by rw [Qaa, Qaa, Qaa, Qaa, Qaa, Qaa, Qaa, Qaa, Qaa, Qaa, Qaa, Qaa, Qaa]; simp only [Array.size_append, cat, ((Qac _ _).trans hal), ((Qac _ _).trans hgl), ((Qac _ _).trans hkl), ((Qac _ _).trans hpl), ((Qac _ _).trans hrl), ((Qac _ _).trans htl)]; rfl) rfl (by rw [hil]; exact hi)) (Qay (ExtB.row e r2_11 (Ne.symm (Nat.ne_of_lt (Nat.lt_of_lt_of_le hgw b2))))) (Nat.le_refl _) (by decide)))).mono (by rintro e w' ⟨rfl, h1, h2⟩; exact ⟨_, rfl, rfl, h1, h2⟩)) fun v26 W12 h26 => ?_
  obtain ⟨rfl, q12, ws26⟩ := h26
  have x12 : GW base gw w W12 := GW.trans x11 q12
  refine Qaf ?_
  repeat (first | with_reducible refine goX1 ?_ | with_reducible refine goX2 ?_ | with_reducible refine goX3 ?_)
  exact (show bodyPost _ _ _ .normal _ _ from end0 rfl ⟨rfl, x12, ws26⟩)
set_option maxHeartbeats 4000000 in
theorem QhX (base gw : Nat) (s : Option (List Int)) (kd : Int) (hkd : 3 < kd) (grp : List Int) (ep fr : Int) (bas : List Int) (us : Bool) (nm : Int) (key sg pa ms start : List Int) (at_ : Int) (sig : List Int) (a_m : Option Addr) (c_m : Nat) (w : World) (hbw : base ≤ w.heap.size) (hbg : base ≤ gw) (h : WSt base gw s w) (hrl : grp.length = 32) (hrb : Qaj grp) (hal : bas.length = 32) (hab : Qaj bas) (hkl : key.length = 32) (hgl : sg.length = 32) (hpl : pa.length = 32) (hkb : Qaj key) (hgb : Qaj sg) (hpb : Qaj pa) (hml : ms.length ≤ 1000000) (htl : start.length = 32) (htb : Qaj start) (hil : sig.length = 64) (hib : Qaj sig) (hm : RdK .i64 base ms (.slice a_m ms.length c_m) w) : Calls Try.prog 57 #[.pointer (some ⟨gw, 0, none⟩), .agg (cat [ints .u8 (grp), #[.int .i64 ep], #[.int .i64 fr], ints .u8 (bas), #[.int .i64 kd], #[.bool us], #[.int .i64 nm], ints .u8 (key), ints .u8 (sg), ints .u8 (pa), #[.slice a_m ms.length c_m], ints .u8 (start), #[.int .i64 at_], ints .u8 (sig)])] w (fun e W => e = .returned (.tuple #[]) ∧ GW base gw w W ∧ WSt base gw (rawS (Qa4 (Qa4 (Qa4 (numS (Qa4 (rawS (QaQ (numS (rawS (s) grp) ep 4) fr) bas) false) kd 1) (QaE us nm key sg pa ms)) (decide (start = List.replicate 32 0))) ((at_ == 0))) sig) W) := by
  have hgw := h.lt
  refine enter 80 [(0, .pointer (some ⟨gw, 0, none⟩)), (1, .agg (cat [ints .u8 (grp), #[.int .i64 ep], #[.int .i64 fr], ints .u8 (bas), #[.int .i64 kd], #[.bool us], #[.int .i64 nm], ints .u8 (key), ints .u8 (sg), ints .u8 (pa), #[.slice a_m ms.length c_m], ints .u8 (start), #[.int .i64 at_], ints .u8 (sig)]))] Try.func57 rfl rfl kj rfl ?_
  refine wp_seq_k fun K1 hK1 => ?_
  refine Qae ?_
  refine Qav (cat [ints .u8 (grp), #[.int .i64 ep], #[.int .i64 fr], ints .u8 (bas), #[.int .i64 kd], #[.bool us], #[.int .i64 nm], ints .u8 (key), ints .u8 (sg), ints .u8 (pa), #[.slice a_m ms.length c_m], ints .u8 (start), #[.int .i64 at_], ints .u8 (sig)]) 47 3 rfl kj kj fun g2 W1 l2 e1 r2_1 => ?_
  have x1 : GW base gw w W1 := GW.ext (GW.refl base gw w) e1
  have ws3 := WSt.ext h e1
  have b2 : w.heap.size ≤ g2 := Nat.le_trans (GW.refl base gw w).size l2
  refine Qaf ?_
  refine hK1 _ _ ?_
  refine wp_seq_k fun K4 hK4 => ?_
  refine Qae ?_
  refine Qab (.pointer (some ⟨gw, 0, none⟩)) 4 rfl kj kj ?_
  refine Qab (.pointer (some ⟨g2, 0, none⟩)) 5 rfl kj kj ?_
  refine Qab (.slice (some ⟨g2, 0, none⟩) 32 32) 6 rfl kj kj ?_
  refine Qak (fun v W' => v = .tuple #[] ∧ GW base gw W1 W' ∧ WSt base gw (rawS (s) grp) W') 104 #[.pointer (some ⟨gw, 0, none⟩), .slice (some ⟨g2, 0, none⟩) 32 32] 7 rfl kj kj ((rawW base gw _ grp _ _ (Nat.le_trans hbw x1.size) ws3 (by omega) hrb (fun W e => (QaB 0 hrl (ExtB.row e r2_1 (Ne.symm (Nat.ne_of_lt (Nat.lt_of_lt_of_le hgw b2)))) (fun i hi => Qa8 [] [#[.int .i64 ep], #[.int .i64 fr], ints .u8 (bas), #[.int .i64 kd], #[.bool us], #[.int .i64 nm], ints .u8 (key), ints .u8 (sg), ints .u8 (pa), #[.slice a_m ms.length c_m], ints .u8 (start), #[.int .i64 at_], ints .u8 (sig)] grp 0 i (0 + i) kj rfl (by rw [hrl]; exact hi)) (Qay (ExtB.row e r2_1 (Ne.symm (Nat.ne_of_lt (Nat.lt_of_lt_of_le hgw b2))))) (Nat.le_refl _) (by decide)))).mono (by rintro e w' ⟨rfl, h1, h2⟩; exact ⟨_, rfl, rfl, h1, h2⟩)) fun v5 W2 h5 => ?_
  obtain ⟨rfl, q2, ws5⟩ := h5
  have x2 : GW base gw w W2 := GW.trans x1 q2
  refine Qaf ?_
  refine hK4 _ _ ?_
  refine wp_seq_k fun K6 hK6 => ?_
  refine Qae ?_
  refine Qab (.pointer (some ⟨gw, 0, none⟩)) 8 rfl kj kj ?_
  refine Qab (.pointer (some ⟨g2, 32, none⟩)) 9 rfl kj kj ?_
  have r2_2 := (GW.row q2 r2_1 (by decide) (Ne.symm (Nat.ne_of_lt (Nat.lt_of_lt_of_le hgw b2))))
  refine Qab (.int .i64 ep) 10 rfl kj (Qag 3 _ g2 32 47 _ (.int .i64 ep) _ r2_2 rfl kj (Qah [ints .u8 (grp)] [#[.int .i64 ep]] [#[.int .i64 fr], ints .u8 (bas), #[.int .i64 kd], #[.bool us], #[.int .i64 nm], ints .u8 (key), ints .u8 (sg), ints .u8 (pa), #[.slice a_m ms.length c_m], ints .u8 (start), #[.int .i64 at_], ints .u8 (sig)] 32 ((Qac _ _).trans hrl) 0 _ rfl) kj) ?_
  refine Qak (fun v W' => v = .tuple #[] ∧ GW base gw W2 W' ∧ WSt base gw (numS (rawS (s) grp) ep 4) W') 105 #[.pointer (some ⟨gw, 0, none⟩), .int .i64 ep, .int .i64 4] 11 rfl kj kj ((Qbn base gw _ ep 4 _ (Nat.le_trans hbw x2.size) ws5 (by decide)).mono (by rintro e w' ⟨rfl, h1, h2⟩; exact ⟨_, rfl, rfl, h1, h2⟩)) fun v7 W3 h7 => ?_
  obtain ⟨rfl, q3, ws7⟩ := h7
  have x3 : GW base gw w W3 := GW.trans x2 q3
  refine Qaf ?_
  refine hK6 _ _ ?_
  refine wp_seq_k fun K8 hK8 => ?_
  refine Qae ?_
  refine Qab (.pointer (some ⟨gw, 0, none⟩)) 12 rfl kj kj ?_
  refine Qab (.pointer (some ⟨g2, 33, none⟩)) 13 rfl kj kj ?_
  have r2_3 := (GW.row q3 r2_2 (by decide) (Ne.symm (Nat.ne_of_lt (Nat.lt_of_lt_of_le hgw b2))))
  refine Qab (.int .i64 fr) 14 rfl kj (Qag 3 _ g2 33 47 _ (.int .i64 fr) _ r2_3 rfl kj (Qah [ints .u8 (grp), #[.int .i64 ep]] [#[.int .i64 fr]] [ints .u8 (bas), #[.int .i64 kd], #[.bool us], #[.int .i64 nm], ints .u8 (key), ints .u8 (sg), ints .u8 (pa), #[.slice a_m ms.length c_m], ints .u8 (start), #[.int .i64 at_], ints .u8 (sig)] 33 (by rw [Qaa, Qaa]; simp only [Array.size_append, cat, ((Qac _ _).trans hrl)]; rfl) 0 _ rfl) kj) ?_
  refine Qak (fun v W' => v = .tuple #[] ∧ GW base gw W3 W' ∧ WSt base gw (QaQ (numS (rawS (s) grp) ep 4) fr) W') 106 #[.pointer (some ⟨gw, 0, none⟩), .int .i64 fr] 15 rfl kj kj ((Qen base gw _ fr _ (Nat.le_trans hbw x3.size) ws7).mono (by rintro e w' ⟨rfl, h1, h2⟩; exact ⟨_, rfl, rfl, h1, h2⟩)) fun v9 W4 h9 => ?_
  obtain ⟨rfl, q4, ws9⟩ := h9
  have x4 : GW base gw w W4 := GW.trans x3 q4
  refine Qaf ?_
  refine hK8 _ _ ?_
  refine wp_seq_k fun K10 hK10 => ?_
  refine Qae ?_
  refine Qab (.pointer (some ⟨gw, 0, none⟩)) 16 rfl kj kj ?_
  refine Qab (.pointer (some ⟨g2, 34, none⟩)) 17 rfl kj kj ?_
  refine Qab (.slice (some ⟨g2, 34, none⟩) 32 32) 18 rfl kj kj ?_
  have r2_4 := (GW.row q4 r2_3 (by decide) (Ne.symm (Nat.ne_of_lt (Nat.lt_of_lt_of_le hgw b2))))
  refine Qak (fun v W' => v = .tuple #[] ∧ GW base gw W4 W' ∧ WSt base gw (rawS (QaQ (numS (rawS (s) grp) ep 4) fr) bas) W') 104 #[.pointer (some ⟨gw, 0, none⟩), .slice (some ⟨g2, 34, none⟩) 32 32] 19 rfl kj kj ((rawW base gw _ bas _ _ (Nat.le_trans hbw x4.size) ws9 (by omega) hab (fun W e => (QaB 34 hal (ExtB.row e r2_4 (Ne.symm (Nat.ne_of_lt (Nat.lt_of_lt_of_le hgw b2)))) (fun i hi => Qa8 [ints .u8 (grp), #[.int .i64 ep], #[.int .i64 fr]] [#[.int .i64 kd], #[.bool us], #[.int .i64 nm], ints .u8 (key), ints .u8 (sg), ints .u8 (pa), #[.slice a_m ms.length c_m], ints .u8 (start), #[.int .i64 at_], ints .u8 (sig)] bas 34 i (34 + i) (by rw [Qaa, Qaa, Qaa]; simp only [Array.size_append, cat, ((Qac _ _).trans hrl)]; rfl) rfl (by rw [hal]; exact hi)) (Qay (ExtB.row e r2_4 (Ne.symm (Nat.ne_of_lt (Nat.lt_of_lt_of_le hgw b2))))) (Nat.le_refl _) (by decide)))).mono (by rintro e w' ⟨rfl, h1, h2⟩; exact ⟨_, rfl, rfl, h1, h2⟩)) fun v11 W5 h11 => ?_
  obtain ⟨rfl, q5, ws11⟩ := h11
  have x5 : GW base gw w W5 := GW.trans x4 q5
  refine Qaf ?_
  refine hK10 _ _ ?_
  refine wp_seq_k fun K12 hK12 => ?_
  refine Qae ?_
  refine Qab (.pointer (some ⟨gw, 0, none⟩)) 20 rfl kj kj ?_
  refine Qab (.pointer (some ⟨g2, 66, none⟩)) 21 rfl kj kj ?_
  have r2_5 := (GW.row q5 r2_4 (by decide) (Ne.symm (Nat.ne_of_lt (Nat.lt_of_lt_of_le hgw b2))))
  refine Qab (.int .i64 kd) 22 rfl kj (Qag 3 _ g2 66 47 _ (.int .i64 kd) _ r2_5 rfl kj (Qah [ints .u8 (grp), #[.int .i64 ep], #[.int .i64 fr], ints .u8 (bas)] [#[.int .i64 kd]] [#[.bool us], #[.int .i64 nm], ints .u8 (key), ints .u8 (sg), ints .u8 (pa), #[.slice a_m ms.length c_m], ints .u8 (start), #[.int .i64 at_], ints .u8 (sig)] 66 (by rw [Qaa, Qaa, Qaa, Qaa]; simp only [Array.size_append, cat, ((Qac _ _).trans hal), ((Qac _ _).trans hrl)]; rfl) 0 _ rfl) kj) ?_
  refine Qab (.bool true) 23 rfl kj (Qax (u := .bool (decide (kd ≥ 1))) kj (congrArg Value.bool (decide_eq_true (by omega)))) ?_
  refine Qab (.bool true) 24 rfl kj kj ?_
  refine Qab (.pointer (some ⟨g2, 66, none⟩)) 25 rfl kj kj ?_
  refine Qab (.int .i64 kd) 26 rfl kj (Qag 3 _ g2 66 47 _ (.int .i64 kd) _ r2_5 rfl kj (Qah [ints .u8 (grp), #[.int .i64 ep], #[.int .i64 fr], ints .u8 (bas)] [#[.int .i64 kd]] [#[.bool us], #[.int .i64 nm], ints .u8 (key), ints .u8 (sg), ints .u8 (pa), #[.slice a_m ms.length c_m], ints .u8 (start), #[.int .i64 at_], ints .u8 (sig)] 66 (by rw [Qaa, Qaa, Qaa, Qaa]; simp only [Array.size_append, cat, ((Qac _ _).trans hal), ((Qac _ _).trans hrl)]; rfl) 0 _ rfl) kj) ?_
  refine Qab (.bool false) 27 rfl kj (Qax (u := .bool (decide (kd ≤ 3))) kj (congrArg Value.bool (decide_eq_false (by omega)))) ?_
  refine Qab (.bool false) 28 rfl kj kj ?_
  refine Qak (fun v W' => v = .tuple #[] ∧ GW base gw W5 W' ∧ WSt base gw (Qa4 (rawS (QaQ (numS (rawS (s) grp) ep 4) fr) bas) false) W') 98 #[.pointer (some ⟨gw, 0, none⟩), .bool false] 29 rfl kj kj ((Qcj base gw _ false _ ws11).mono (by rintro e w' ⟨rfl, h1, h2⟩; exact ⟨_, rfl, rfl, h1, h2⟩)) fun v13 W6 h13 => ?_
  obtain ⟨rfl, q6, ws13⟩ := h13
  have x6 : GW base gw w W6 := GW.trans x5 q6
  refine Qaf ?_
  refine hK12 _ _ ?_
  refine wp_seq_k fun K14 hK14 => ?_
  refine Qae ?_
  refine Qab (.pointer (some ⟨gw, 0, none⟩)) 30 rfl kj kj ?_
  refine Qab (.pointer (some ⟨g2, 66, none⟩)) 31 rfl kj kj ?_
  have r2_6 := (GW.row q6 r2_5 (by decide) (Ne.symm (Nat.ne_of_lt (Nat.lt_of_lt_of_le hgw b2))))
  refine Qab (.int .i64 kd) 32 rfl kj (Qag 3 _ g2 66 47 _ (.int .i64 kd) _ r2_6 rfl kj (Qah [ints .u8 (grp), #[.int .i64 ep], #[.int .i64 fr], ints .u8 (bas)] [#[.int .i64 kd]] [#[.bool us], #[.int .i64 nm], ints .u8 (key), ints .u8 (sg), ints .u8 (pa), #[.slice a_m ms.length c_m], ints .u8 (start), #[.int .i64 at_], ints .u8 (sig)] 66 (by rw [Qaa, Qaa, Qaa, Qaa]; simp only [Array.size_append, cat, ((Qac _ _).trans hal), ((Qac _ _).trans hrl)]; rfl) 0 _ rfl) kj) ?_
  refine Qak (fun v W' => v = .tuple #[] ∧ GW base gw W6 W' ∧ WSt base gw (numS (Qa4 (rawS (QaQ (numS (rawS (s) grp) ep 4) fr) bas) false) kd 1) W') 105 #[.pointer (some ⟨gw, 0, none⟩), .int .i64 kd, .int .i64 1] 33 rfl kj kj ((Qbn base gw _ kd 1 _ (Nat.le_trans hbw x6.size) ws13 (by decide)).mono (by rintro e w' ⟨rfl, h1, h2⟩; exact ⟨_, rfl, rfl, h1, h2⟩)) fun v15 W7 h15 => ?_
  obtain ⟨rfl, q7, ws15⟩ := h15
  have x7 : GW base gw w W7 := GW.trans x6 q7
  refine Qaf ?_
  refine hK14 _ _ ?_
  refine wp_seq_k fun K16 hK16 => ?_
  refine wp_seq_k fun K17 hK17 => ?_
  refine Qae ?_
  refine Qab (.pointer (some ⟨g2, 66, none⟩)) 34 rfl kj kj ?_
  have r2_7 := (GW.row q7 r2_6 (by decide) (Ne.symm (Nat.ne_of_lt (Nat.lt_of_lt_of_le hgw b2))))
  refine Qab (.int .i64 kd) 35 rfl kj (Qag 3 _ g2 66 47 _ (.int .i64 kd) _ r2_7 rfl kj (Qah [ints .u8 (grp), #[.int .i64 ep], #[.int .i64 fr], ints .u8 (bas)] [#[.int .i64 kd]] [#[.bool us], #[.int .i64 nm], ints .u8 (key), ints .u8 (sg), ints .u8 (pa), #[.slice a_m ms.length c_m], ints .u8 (start), #[.int .i64 at_], ints .u8 (sig)] 66 (by rw [Qaa, Qaa, Qaa, Qaa]; simp only [Array.size_append, cat, ((Qac _ _).trans hal), ((Qac _ _).trans hrl)]; rfl) 0 _ rfl) kj) ?_
  refine Qab (.bool false) 36 rfl kj (Qax (u := .bool ((kd == 1))) kj (congrArg Value.bool (beq_eq_false_iff_ne.2 (by omega)))) ?_
  refine Qab (.bool false) 37 rfl kj kj ?_
  refine Qab (.pointer (some ⟨g2, 66, none⟩)) 38 rfl kj kj ?_
  refine Qab (.int .i64 kd) 39 rfl kj (Qag 3 _ g2 66 47 _ (.int .i64 kd) _ r2_7 rfl kj (Qah [ints .u8 (grp), #[.int .i64 ep], #[.int .i64 fr], ints .u8 (bas)] [#[.int .i64 kd]] [#[.bool us], #[.int .i64 nm], ints .u8 (key), ints .u8 (sg), ints .u8 (pa), #[.slice a_m ms.length c_m], ints .u8 (start), #[.int .i64 at_], ints .u8 (sig)] 66 (by rw [Qaa, Qaa, Qaa, Qaa]; simp only [Array.size_append, cat, ((Qac _ _).trans hal), ((Qac _ _).trans hrl)]; rfl) 0 _ rfl) kj) ?_
  refine Qab (.bool false) 40 rfl kj (Qax (u := .bool ((kd == 2))) kj (congrArg Value.bool (beq_eq_false_iff_ne.2 (by omega)))) ?_
  refine Qab (.bool false) 41 rfl kj kj ?_
  refine Qaf ?_
  refine hK17 _ _ ?_
  refine cond_false kj ?_
  refine Qae ?_
  refine Qab (.pointer (some ⟨gw, 0, none⟩)) 46 rfl kj kj ?_
  refine Qab (.pointer (some ⟨g2, 67, none⟩)) 47 rfl kj kj ?_
  refine Qab (.agg (cat [#[.bool us], #[.int .i64 nm], ints .u8 (key), ints .u8 (sg), ints .u8 (pa), #[.slice a_m ms.length c_m]])) 48 rfl kj (Qau 43 _ g2 67 47 _ _ _ r2_7 rfl kj (Qah [ints .u8 (grp), #[.int .i64 ep], #[.int .i64 fr], ints .u8 (bas), #[.int .i64 kd]] [#[.bool us], #[.int .i64 nm], ints .u8 (key), ints .u8 (sg), ints .u8 (pa), #[.slice a_m ms.length c_m]] [ints .u8 (start), #[.int .i64 at_], ints .u8 (sig)] 67 (by rw [Qaa, Qaa, Qaa, Qaa, Qaa]; simp only [Array.size_append, cat, ((Qac _ _).trans hal), ((Qac _ _).trans hrl)]; rfl)) kj (isz (n := 99) kj (by rw [Qaa, Qaa, Qaa, Qaa, Qaa, Qaa]; simp only [Array.size_append, cat, ((Qac _ _).trans hgl), ((Qac _ _).trans hkl), ((Qac _ _).trans hpl)]; rfl))) ?_
  refine Qa1 (.bool (QaE us nm key sg pa ms)) 107 #[.agg (cat [#[.bool us], #[.int .i64 nm], ints .u8 (key), ints .u8 (sg), ints .u8 (pa), #[.slice a_m ms.length c_m]])] 49 rfl kj kj (QeC us nm key sg pa ms _ _ _ hkl hgl hpl) fun W8 e8 => ?_
  have x8 : GW base gw w W8 := GW.ext x7 e8
  have ws18 := WSt.ext ws15 e8
  refine Qak (fun v W' => v = .tuple #[] ∧ GW base gw W8 W' ∧ WSt base gw (Qa4 (numS (Qa4 (rawS (QaQ (numS (rawS (s) grp) ep 4) fr) bas) false) kd 1) (QaE us nm key sg pa ms)) W') 98 #[.pointer (some ⟨gw, 0, none⟩), .bool (QaE us nm key sg pa ms)] 50 rfl kj kj ((Qcj base gw _ (QaE us nm key sg pa ms) _ ws18).mono (by rintro e w' ⟨rfl, h1, h2⟩; exact ⟨_, rfl, rfl, h1, h2⟩)) fun v19 W9 h19 => ?_
  obtain ⟨rfl, q9, ws19⟩ := h19
  have x9 : GW base gw w W9 := GW.trans x8 q9
  refine Qaf ?_
  refine hK16 _ _ ?_
  refine wp_seq_k fun K20 hK20 => ?_
  refine wp_seq_k fun K21 hK21 => ?_
  refine Qae ?_
  refine Qab (.pointer (some ⟨g2, 66, none⟩)) 51 rfl kj kj ?_
  have r2_8 := (Qar r2_7 e8)
  have r2_9 := (GW.row q9 r2_8 (by decide) (Ne.symm (Nat.ne_of_lt (Nat.lt_of_lt_of_le hgw b2))))
  refine Qab (.int .i64 kd) 52 rfl kj (Qag 3 _ g2 66 47 _ (.int .i64 kd) _ r2_9 rfl kj (Qah [ints .u8 (grp), #[.int .i64 ep], #[.int .i64 fr], ints .u8 (bas)] [#[.int .i64 kd]] [#[.bool us], #[.int .i64 nm], ints .u8 (key), ints .u8 (sg), ints .u8 (pa), #[.slice a_m ms.length c_m], ints .u8 (start), #[.int .i64 at_], ints .u8 (sig)] 66 (by rw [Qaa, Qaa, Qaa, Qaa]; simp only [Array.size_append, cat, ((Qac _ _).trans hal), ((Qac _ _).trans hrl)]; rfl) 0 _ rfl) kj) ?_
  refine Qab (.bool false) 53 rfl kj (Qax (u := .bool ((kd == 1))) kj (congrArg Value.bool (beq_eq_false_iff_ne.2 (by omega)))) ?_
  refine Qaf ?_
  refine hK21 _ _ ?_
  refine cond_false kj ?_
  refine Qae ?_
  refine Qab (.pointer (some ⟨gw, 0, none⟩)) 58 rfl kj kj ?_
  refine Qab (.pointer (some ⟨g2, 166, none⟩)) 59 rfl kj kj ?_
  refine Qab (.agg (ints .u8 (start))) 60 rfl kj (Qau 40 _ g2 166 47 _ _ _ r2_9 rfl kj (Qah [ints .u8 (grp), #[.int .i64 ep], #[.int .i64 fr], ints .u8 (bas), #[.int .i64 kd], #[.bool us], #[.int .i64 nm], ints .u8 (key), ints .u8 (sg), ints .u8 (pa), #[.slice a_m ms.length c_m]] [ints .u8 (start)] [#[.int .i64 at_], ints .u8 (sig)] 166 (by rw [Qaa, Qaa, Qaa, Qaa, Qaa, Qaa, Qaa, Qaa, Qaa, Qaa, Qaa]; simp only [Array.size_append, cat, ((Qac _ _).trans hal), ((Qac _ _).trans hgl), ((Qac _ _).trans hkl), ((Qac _ _).trans hpl), ((Qac _ _).trans hrl)]; rfl)) kj (isz (n := 32) kj ((Qac _ _).trans htl))) ?_
  refine Qab (.agg (ints .u8 (List.replicate 32 0))) 61 rfl kj kj ?_
  refine Qab (.bool (decide (start = List.replicate 32 0))) 62 rfl kj (Qa7 40 _ _ _ _ _ (.bool (decide (start = List.replicate 32 0))) rfl kj kj kj (QaD 40 (e := 5) (k := .u8) (start) (List.replicate 32 0) rfl htl (List.length_replicate (n := 32)) kj kj kj _)) ?_
  refine Qak (fun v W' => v = .tuple #[] ∧ GW base gw W9 W' ∧ WSt base gw (Qa4 (Qa4 (numS (Qa4 (rawS (QaQ (numS (rawS (s) grp) ep 4) fr) bas) false) kd 1) (QaE us nm key sg pa ms)) (decide (start = List.replicate 32 0))) W') 98 #[.pointer (some ⟨gw, 0, none⟩), .bool (decide (start = List.replicate 32 0))] 63 rfl kj kj ((Qcj base gw _ (decide (start = List.replicate 32 0)) _ ws19).mono (by rintro e w' ⟨rfl, h1, h2⟩; exact ⟨_, rfl, rfl, h1, h2⟩)) fun v22 W10 h22 => ?_
  obtain ⟨rfl, q10, ws22⟩ := h22
  have x10 : GW base gw w W10 := GW.trans x9 q10
  refine Qaf ?_
  refine hK20 _ _ ?_
  refine wp_seq_k fun K23 hK23 => ?_
  refine wp_seq_k fun K24 hK24 => ?_
  refine Qae ?_
  refine Qab (.pointer (some ⟨g2, 66, none⟩)) 64 rfl kj kj ?_
  have r2_10 := (GW.row q10 r2_9 (by decide) (Ne.symm (Nat.ne_of_lt (Nat.lt_of_lt_of_le hgw b2))))
  refine Qab (.int .i64 kd) 65 rfl kj (Qag 3 _ g2 66 47 _ (.int .i64 kd) _ r2_10 rfl kj (Qah [ints .u8 (grp), #[.int .i64 ep], #[.int .i64 fr], ints .u8 (bas)] [#[.int .i64 kd]] [#[.bool us], #[.int .i64 nm], ints .u8 (key), ints .u8 (sg), ints .u8 (pa), #[.slice a_m ms.length c_m], ints .u8 (start), #[.int .i64 at_], ints .u8 (sig)] 66 (by rw [Qaa, Qaa, Qaa, Qaa]; simp only [Array.size_append, cat, ((Qac _ _).trans hal), ((Qac _ _).trans hrl)]; rfl) 0 _ rfl) kj) ?_
  refine Qab (.bool false) 66 rfl kj (Qax (u := .bool ((kd == 3))) kj (congrArg Value.bool (beq_eq_false_iff_ne.2 (by omega)))) ?_
  refine Qaf ?_
  refine hK24 _ _ ?_
  refine cond_false kj ?_
  refine Qae ?_
  refine Qab (.pointer (some ⟨gw, 0, none⟩)) 71 rfl kj kj ?_
  refine Qab (.pointer (some ⟨g2, 198, none⟩)) 72 rfl kj kj ?_
  refine Qab (.int .i64 at_) 73 rfl kj (Qag 3 _ g2 198 47 _ (.int .i64 at_) _ r2_10 rfl kj (Qah [ints .u8 (grp), #[.int .i64 ep], #[.int .i64 fr], ints .u8 (bas), #[.int .i64 kd], #[.bool us], #[.int .i64 nm], ints .u8 (key), ints .u8 (sg), ints .u8 (pa), #[.slice a_m ms.length c_m], ints .u8 (start)] [#[.int .i64 at_]] [ints .u8 (sig)] 198 (by rw [Qaa, Qaa, Qaa, Qaa, Qaa, Qaa, Qaa, Qaa, Qaa, Qaa, Qaa, Qaa]; simp only [Array.size_append, cat, ((Qac _ _).trans hal), ((Qac _ _).trans hgl), ((Qac _ _).trans hkl), ((Qac _ _).trans hpl), ((Qac _ _).trans hrl), ((Qac _ _).trans htl)]; rfl) 0 _ rfl) kj) ?_
  refine Qab (.bool ((at_ == 0))) 74 rfl kj kj ?_
  refine Qak (fun v W' => v = .tuple #[] ∧ GW base gw W10 W' ∧ WSt base gw (Qa4 (Qa4 (Qa4 (numS (Qa4 (rawS (QaQ (numS (rawS (s) grp) ep 4) fr) bas) false) kd 1) (QaE us nm key sg pa ms)) (decide (start = List.replicate 32 0))) ((at_ == 0))) W') 98 #[.pointer (some ⟨gw, 0, none⟩), .bool ((at_ == 0))] 75 rfl kj kj ((Qcj base gw _ ((at_ == 0)) _ ws22).mono (by rintro e w' ⟨rfl, h1, h2⟩; exact ⟨_, rfl, rfl, h1, h2⟩)) fun v25 W11 h25 => ?_
  obtain ⟨rfl, q11, ws25⟩ := h25
  have x11 : GW base gw w W11 := GW.trans x10 q11
  refine Qaf ?_
  refine hK23 _ _ ?_
  refine Qae ?_
  refine Qab (.pointer (some ⟨gw, 0, none⟩)) 76 rfl kj kj ?_
  refine Qab (.pointer (some ⟨g2, 199, none⟩)) 77 rfl kj kj ?_
  refine Qab (.slice (some ⟨g2, 199, none⟩) 64 64) 78 rfl kj kj ?_
  have r2_11 := (GW.row q11 r2_10 (by decide) (Ne.symm (Nat.ne_of_lt (Nat.lt_of_lt_of_le hgw b2))))
  refine Qak (fun v W' => v = .tuple #[] ∧ GW base gw W11 W' ∧ WSt base gw (rawS (Qa4 (Qa4 (Qa4 (numS (Qa4 (rawS (QaQ (numS (rawS (s) grp) ep 4) fr) bas) false) kd 1) (QaE us nm key sg pa ms)) (decide (start = List.replicate 32 0))) ((at_ == 0))) sig) W') 104 #[.pointer (some ⟨gw, 0, none⟩), .slice (some ⟨g2, 199, none⟩) 64 64] 79 rfl kj kj ((rawW base gw _ sig _ _ (Nat.le_trans hbw x11.size) ws25 (by omega) hib (fun W e => (QaB 199 hil (ExtB.row e r2_11 (Ne.symm (Nat.ne_of_lt (Nat.lt_of_lt_of_le hgw b2)))) (fun i hi => Qa8 [ints .u8 (grp), #[.int .i64 ep], #[.int .i64 fr], ints .u8 (bas), #[.int .i64 kd], #[.bool us], #[.int .i64 nm], ints .u8 (key), ints .u8 (sg), ints .u8 (pa), #[.slice a_m ms.length c_m], ints .u8 (start), #[.int .i64 at_]] [] sig 199 i (199 + i) (by rw [Qaa, Qaa, Qaa, Qaa, Qaa, Qaa, Qaa, Qaa, Qaa, Qaa, Qaa, Qaa, Qaa]; simp only [Array.size_append, cat, ((Qac _ _).trans hal), ((Qac _ _).trans hgl), ((Qac _ _).trans hkl), ((Qac _ _).trans hpl), ((Qac _ _).trans hrl), ((Qac _ _).trans htl)]; rfl) rfl (by rw [hil]; exact hi)) (Qay (ExtB.row e r2_11 (Ne.symm (Nat.ne_of_lt (Nat.lt_of_lt_of_le hgw b2))))) (Nat.le_refl _) (by decide)))).mono (by rintro e w' ⟨rfl, h1, h2⟩; exact ⟨_, rfl, rfl, h1, h2⟩)) fun v26 W12 h26 => ?_
  obtain ⟨rfl, q12, ws26⟩ := h26
  have x12 : GW base gw w W12 := GW.trans x11 q12
  refine Qaf ?_
  repeat (first | with_reducible refine goX1 ?_ | with_reducible refine goX2 ?_ | with_reducible refine goX3 ?_)
  exact (show bodyPost _ _ _ .normal _ _ from end0 rfl ⟨rfl, x12, ws26⟩)
end Go.Proofs.Ytfelfmchachljaa.Wr
end
section
namespace Go.Proofs.Ytfelfmchachljaa.Wr
open Go Go.RowKit
open Rely Auto Own Sha
set_option linter.unusedVariables false
set_option linter.unusedSimpArgs false
def QeW (s : Option (List Int)) (grp : List Int) (ep fr : Int) (bas : List Int) (kd : Int) : Option (List Int) := numS (Qa4 (rawS (QaQ (numS (rawS s grp) ep 4) fr) bas) (decide (1 ≤ kd ∧ kd ≤ 3))) kd 1
def QeV (s : Option (List Int)) (grp : List Int) (ep fr : Int) (bas : List Int) (kd : Int) (us : Bool) (nm : Int) (key sg pa ms start : List Int) (at_ : Int) (sig : List Int) : Option (List Int) :=
  rawS (if kd = 1 then Qa4 (rawS (Qcs (QeW s grp ep fr bas kd) us nm key sg pa ms) start) (at_ == 0)
    else if kd = 2 then Qa4 (Qa4 (Qcs (QeW s grp ep fr bas kd) us nm key sg pa ms) (decide (start = List.replicate 32 0))) (at_ == 0)
    else if kd = 3 then QaQ (Qa4 (Qa4 (QeW s grp ep fr bas kd) (QaE us nm key sg pa ms)) (decide (start = List.replicate 32 0))) at_ else none) sig
theorem QdL (n : Int) (k : Nat) : numS none n k = none := by unfold numS; rw [show Qa4 none (okN n k) = none by cases okN n k <;> rfl, QcP]
theorem Qci (b : Bool) : Qa4 none b = none := by cases b <;> rfl
set_option maxHeartbeats 4000000 in
theorem Qgm (base gw : Nat) (s : Option (List Int)) (grp : List Int) (ep fr : Int) (bas : List Int) (kd : Int) (us : Bool) (nm : Int) (key sg pa ms start : List Int) (at_ : Int) (sig : List Int) (a_m : Option Addr) (c_m : Nat) (w : World) (hbw : base ≤ w.heap.size) (hbg : base ≤ gw) (h : WSt base gw s w) (hrl : grp.length = 32) (hrb : Qaj grp) (hal : bas.length = 32) (hab : Qaj bas) (hkl : key.length = 32) (hgl : sg.length = 32) (hpl : pa.length = 32) (hkb : Qaj key) (hgb : Qaj sg) (hpb : Qaj pa) (hml : ms.length ≤ 1000000) (htl : start.length = 32) (htb : Qaj start) (hil : sig.length = 64) (hib : Qaj sig) (hm : RdK .i64 base ms (.slice a_m ms.length c_m) w) : Calls Try.prog 57 #[.pointer (some ⟨gw, 0, none⟩), .agg (cat [ints .u8 (grp), #[.int .i64 ep], #[.int .i64 fr], ints .u8 (bas), #[.int .i64 kd], #[.bool us], #[.int .i64 nm], ints .u8 (key), ints .u8 (sg), ints .u8 (pa), #[.slice a_m ms.length c_m], ints .u8 (start), #[.int .i64 at_], ints .u8 (sig)])] w (fun e W => e = .returned (.tuple #[]) ∧ GW base gw w W ∧ WSt base gw (QeV s grp ep fr bas kd us nm key sg pa ms start at_ sig) W) := by
  rcases (show kd = 1 ∨ kd = 2 ∨ kd = 3 ∨ kd < 1 ∨ 3 < kd by omega) with rfl | rfl | rfl | hk | hk
  ·
    exact (Qia base gw s grp ep fr bas us nm key sg pa ms start at_ sig a_m c_m w hbw hbg h hrl hrb hal hab hkl hgl hpl hkb hgb hpb hml htl htb hil hib hm).mono fun e W hh => ⟨hh.1, hh.2.1, hh.2.2⟩
  ·
    exact (QhZ base gw s grp ep fr bas us nm key sg pa ms start at_ sig a_m c_m w hbw hbg h hrl hrb hal hab hkl hgl hpl hkb hgb hpb hml htl htb hil hib hm).mono fun e W hh => ⟨hh.1, hh.2.1, hh.2.2⟩
  ·
    exact (QhY base gw s grp ep fr bas us nm key sg pa ms start at_ sig a_m c_m w hbw hbg h hrl hrb hal hab hkl hgl hpl hkb hgb hpb hml htl htb hil hib hm).mono fun e W hh => ⟨hh.1, hh.2.1, hh.2.2⟩
  ·
    exact (QhW base gw s kd hk grp ep fr bas us nm key sg pa ms start at_ sig a_m c_m w hbw hbg h hrl hrb hal hab hkl hgl hpl hkb hgb hpb hml htl htb hil hib hm).mono fun e W hh => ⟨hh.1, hh.2.1, by have h9 := hh.2.2; unfold QeV; rw [if_neg (by omega), if_neg (by omega), if_neg (by omega)]; rw [show Qa4 (rawS (QaQ (numS (rawS s grp) ep 4) fr) bas) false = none from rfl, QdL, Qci, Qci, Qci] at h9; exact h9⟩
  ·
    exact (QhX base gw s kd hk grp ep fr bas us nm key sg pa ms start at_ sig a_m c_m w hbw hbg h hrl hrb hal hab hkl hgl hpl hkb hgb hpb hml htl htb hil hib hm).mono fun e W hh => ⟨hh.1, hh.2.1, by have h9 := hh.2.2; unfold QeV; rw [if_neg (by omega), if_neg (by omega), if_neg (by omega)]; rw [show Qa4 (rawS (QaQ (numS (rawS s grp) ep 4) fr) bas) false = none from rfl, QdL, Qci, Qci, Qci] at h9; exact h9⟩
end Go.Proofs.Ytfelfmchachljaa.Wr
end
section
namespace Go.Proofs.Ytfelfmchachljaa.Wr
open Go Go.RowKit
open Rely Auto Own Sha
set_option linter.unusedVariables false
set_option linter.unusedSimpArgs false
def rowF (s : Option (List Int)) (r : RwV) : Option (List Int) := bytS s r.xs
def Qdw (s : Option (List Int)) (rs : List RwV) : Option (List Int) := rs.foldl rowF (numS s ((rs.length : Nat) : Int) 1)
def QdU (s : Option (List Int)) (t : StV) : Option (List Int) := Qdw (rawS s t.key) t.rows
def Qdv (s : Option (List Int)) (ts : List StV) : Option (List Int) := ts.foldl QdU (numS s ((ts.length : Nat) : Int) 1)
def Qej (s : Option (List Int)) (p : PrV) : Option (List Int) := QeV s p.p.grp p.p.ep p.p.fr p.p.bas p.p.kd p.p.n.us p.p.n.nm p.p.n.key p.p.n.sg p.p.n.pa p.p.n.ms p.p.start p.p.at_ p.p.sig
def Qc5 (s : Option (List Int)) (ps : List PrV) : Option (List Int) := ps.foldl Qej (numS s ((ps.length : Nat) : Int) 1)
def Qe5 (s : Option (List Int)) (n : NdC) (ts : List StV) : Option (List Int) := Qdv (Qa4 (Qfb s n) (decide (((ts.length : Nat) : Int) ≤ 5))) ts
def Qer (s : Option (List Int)) (grp : List Int) (ep fr : Int) (bas : List Int) (ps : List PrV) (n : NdC) (ts : List StV) (tag sig : List Int) : Option (List Int) := rawS (rawS (Qe5 (Qc5 (rawS (QaQ (numS (rawS s grp) ep 4) fr) bas) ps) n ts) tag) sig
theorem QeR (r : RwV) : rowF none r = none := by unfold rowF; rw [Qg8]; split <;> rfl
theorem QgU (rs : List RwV) : Qdw none rs = none := by unfold Qdw; rw [QcK]; exact QcL QeR rs
theorem Qfj (t : StV) : QdU none t = none := QgU t.rows
theorem Qfp (p : PrV) : Qej none p = none := by
  unfold Qej QeV
  have e : ∀ k, QeW none p.p.grp p.p.ep p.p.fr p.p.bas k = none := fun k => by
    unfold QeW
    rw [show rawS none p.p.grp = none from rfl, QcK, Qdc]
    rw [show rawS none p.p.bas = none from rfl, Qbj, QcK]
  rw [e]
  have hn := QfC p.p.n
  unfold Qfb at hn
  rw [hn]
  simp only [Qbj, Qdc, show rawS none p.p.start = none from rfl, ite_self]
  rfl
set_option maxHeartbeats 4000000 in
theorem Qjo (base gw : Nat) (u v : Value) (xs ys : List Int) (w : World) (hbw : base ≤ w.heap.size) (hg : w.heap[gw]? = some (.cells #[u, .bool true] 174)) (ho : OwnN .u8 5 base xs u w) (hxl : xs.length ≤ 65536) (hst : ∀ W, ExtB gw w W → RdK .u8 W.heap.size ys v W) :
    Calls Try.prog 104 #[.pointer (some ⟨gw, 0, none⟩), v] w (fun e W => e = .returned (.tuple #[]) ∧ GW base gw w W ∧ ∃ u', W.heap[gw]? = some (.cells (cat [#[u'], #[.bool true]]) 174) ∧ OwnN .u8 5 base (xs) u' W) := by
  obtain ⟨a_u, c_u, rfl, -⟩ := id (OwnN.rd ho)
  obtain ⟨a_y, c_y, rfl, -⟩ := id (hst _ (ExtB.refl gw w))
  obtain ⟨ok, hok⟩ : ∃ b, b = decide (IntKind.i64.wrap (((xs.length : Nat) : Int) + ((ys.length : Nat) : Int)) ≤ 65536) := ⟨_, rfl⟩
  refine enter 29 [(0, .pointer (some ⟨gw, 0, none⟩)), (1, .slice a_y ys.length c_y)] Try.func104 rfl rfl kj rfl ?_
  refine wp_seq_k fun K2 hK2 => ?_
  refine Qae ?_
  refine Qab (.pointer (some ⟨gw, 0, none⟩)) 4 rfl kj kj ?_
  refine Qab (.pointer (some ⟨gw, 0, none⟩)) 5 rfl kj kj ?_
  refine Qab (.pointer (some ⟨gw, 0, none⟩)) 6 rfl kj kj ?_
  refine Qab (.pointer (some ⟨gw, 0, none⟩)) 7 rfl kj kj ?_
  refine Qab (.slice a_u xs.length c_u) 8 rfl kj (Qag 26 _ gw 0 174 _ (.slice a_u xs.length c_u) _ hg rfl kj kj kj) ?_
  refine Qab (.int .i64 ((xs.length : Nat) : Int)) 9 rfl kj kj ?_
  refine Qab (.slice a_y ys.length c_y) 10 rfl kj kj ?_
  refine Qab (.int .i64 ((ys.length : Nat) : Int)) 11 rfl kj kj ?_
  refine Qab (.int .i64 (IntKind.i64.wrap (((xs.length : Nat) : Int) + ((ys.length : Nat) : Int)))) 12 rfl kj kj ?_
  refine Qab (.bool (ok)) 13 rfl kj (Qax (u := .bool (decide (IntKind.i64.wrap (((xs.length : Nat) : Int) + ((ys.length : Nat) : Int)) ≤ 65536))) kj (congrArg Value.bool hok.symm)) ?_
  refine Qak (fun v W' => v = .tuple #[] ∧ ExtB gw w W' ∧ W'.heap[gw]? = some (.cells (cat [#[.slice a_u xs.length c_u], #[.bool true]]) 174)) 98 #[.pointer (some ⟨gw, 0, none⟩), .bool (ok)] 14 rfl kj kj ((Qgy gw _ _ _ _ hg).mono (by intro e w' h; exact ⟨_, h.1, rfl, h.2⟩)) fun v W1 h3 => ?_
  obtain ⟨rfl, q1, r1_1⟩ := h3
  have x1 : GW base gw w W1 := GW.trans (GW.refl base gw w) (GW.of_but q1)
  refine Qaf ?_
  refine hK2 _ _ ?_
  refine wp_seq_k fun K4 hK4 => ?_
  refine Qae ?_
  refine Qab (.pointer (some ⟨gw, 0, none⟩)) 15 rfl kj kj ?_
  refine Qab (.pointer (some ⟨gw, 0, none⟩)) 16 rfl kj kj ?_
  refine Qab (.pointer (some ⟨gw, 1, none⟩)) 17 rfl kj kj ?_
  refine Qab (.bool true) 18 rfl kj (Qag 4 _ gw 1 174 _ (.bool true) _ r1_1 rfl kj kj kj) ?_
  refine Qab (.bool false) 19 rfl kj kj ?_
  refine Qaf ?_
  refine hK4 _ _ ?_
  refine cond_false kj ?_
  refine wp_skip ?_
  repeat (first | with_reducible refine goX1 ?_ | with_reducible refine goX2 ?_ | with_reducible refine goX3 ?_)
  have f5_1 := (Qbw ho q1 (QcR ho hg (by decide)))
  exact (show bodyPost _ _ _ .normal _ _ from end0 rfl ⟨rfl, x1, _, r1_1, f5_1⟩)
theorem QhL (base gw : Nat) (ys : List Int) (v : Value) (w : World) (hbw : base ≤ w.heap.size) (h : WSt base gw none w) (hst : ∀ W, ExtB gw w W → RdK .u8 W.heap.size ys v W) : Calls Try.prog 104 #[.pointer (some ⟨gw, 0, none⟩), v] w (fun e W => e = .returned (.tuple #[]) ∧ GW base gw w W ∧ WSt base gw none W) := by
  obtain ⟨u, xs, bad, h1, h2, h3, h4, e⟩ := h
  cases bad with
  | false => cases e
  | true => exact (Qjo base gw u v xs ys w hbw h1 h2 h3 hst).mono fun e W ⟨a, b, u', c, d⟩ => ⟨a, b, u', xs, true, c, d, h3, h4, rfl⟩
theorem Qfr (s : Option (List Int)) (ys : List Int) (h : 65535 < ys.length) : numS s ((ys.length : Nat) : Int) 2 = none := by
  rw [QbP _ _ 1 65535 (by decide) (by decide), show inB ((ys.length : Nat) : Int) 65535 = false by unfold inB; simp; omega]
  rfl
set_option maxHeartbeats 4000000 in
theorem Qjd (base gw : Nat) (s : Option (List Int)) (ys : List Int) (v : Value) (w : World) (hbw : base ≤ w.heap.size) (hbg : base ≤ gw) (h : WSt base gw s w) (hyl : 65535 < ys.length) (hyb : Qaj ys) (hy : RdK .u8 base ys v w) : Calls Try.prog 117 #[.pointer (some ⟨gw, 0, none⟩), v] w (fun e W => e = .returned (.tuple #[]) ∧ GW base gw w W ∧ WSt base gw (bytS s ys) W) := by
  have hgw := h.lt
  obtain ⟨a_y, c_y, rfl, -⟩ := id hy
  refine enter 11 [(0, .pointer (some ⟨gw, 0, none⟩)), (1, .slice a_y ys.length c_y)] Try.func117 rfl rfl kj rfl ?_
  refine wp_seq_k fun K1 hK1 => ?_
  refine Qae ?_
  refine Qab (.pointer (some ⟨gw, 0, none⟩)) 4 rfl kj kj ?_
  refine Qab (.slice a_y ys.length c_y) 5 rfl kj kj ?_
  refine Qab (.int .i64 ((ys.length : Nat) : Int)) 6 rfl kj kj ?_
  refine Qak (fun v W' => v = .tuple #[] ∧ GW base gw w W' ∧ WSt base gw (numS (s) ((ys.length : Nat) : Int) 2) W') 105 #[.pointer (some ⟨gw, 0, none⟩), .int .i64 ((ys.length : Nat) : Int), .int .i64 2] 7 rfl kj kj ((Qbn base gw _ ((ys.length : Nat) : Int) 2 _ (Nat.le_trans hbw (GW.refl base gw w).size) h (by decide)).mono (by rintro e w' ⟨rfl, h1, h2⟩; exact ⟨_, rfl, rfl, h1, h2⟩)) fun v2 W1 h2 => ?_
  obtain ⟨rfl, q1, ws2⟩ := h2
  have x1 : GW base gw w W1 := GW.trans (GW.refl base gw w) q1
  refine Qaf ?_
  refine hK1 _ _ ?_
  refine Qae ?_
  refine Qab (.pointer (some ⟨gw, 0, none⟩)) 8 rfl kj kj ?_
  refine Qab (.slice a_y ys.length c_y) 9 rfl kj kj ?_
  refine Qak (fun v W' => v = .tuple #[] ∧ GW base gw W1 W' ∧ WSt base gw (rawS (numS (s) ((ys.length : Nat) : Int) 2) ys) W') 104 #[.pointer (some ⟨gw, 0, none⟩), .slice a_y ys.length c_y] 10 rfl kj kj ((QhL base gw ys _ _ (Nat.le_trans hbw x1.size) (by rw [Qfr s ys hyl] at ws2; exact ws2) (fun W e => RdK.here (RdK.extB (Qhb hy x1 hbg) e hbg))).mono (by rintro e w' ⟨rfl, h1, h2⟩; exact ⟨_, rfl, rfl, h1, by rw [Qfr s ys hyl]; exact h2⟩)) fun v3 W2 h3 => ?_
  obtain ⟨rfl, q2, ws3⟩ := h3
  have x2 : GW base gw w W2 := GW.trans x1 q2
  refine Qaf ?_
  repeat (first | with_reducible refine goX1 ?_ | with_reducible refine goX2 ?_ | with_reducible refine goX3 ?_)
  exact (show bodyPost _ _ _ .normal _ _ from end0 rfl ⟨rfl, x2, ws3⟩)
theorem Qht (base gw : Nat) (s : Option (List Int)) (ys : List Int) (v : Value) (w : World) (hbw : base ≤ w.heap.size) (hbg : base ≤ gw) (h : WSt base gw s w) (hyb : Qaj ys) (hy : RdK .u8 base ys v w) : Calls Try.prog 117 #[.pointer (some ⟨gw, 0, none⟩), v] w (fun e W => e = .returned (.tuple #[]) ∧ GW base gw w W ∧ WSt base gw (bytS s ys) W) := by
  by_cases hyl : ys.length ≤ 65535
  · exact Qh6 base gw s ys v w hbw hbg h (by omega) hyb hy
  · exact Qjd base gw s ys v w hbw hbg h (by omega) hyb hy
set_option maxHeartbeats 4000000 in
set_option maxRecDepth 100000 in
theorem Qhh (base gw : Nat) (s : Option (List Int)) (ts : List RwV) (a_t : Option Addr) (c_t : Nat) (w : World) (hbw : base ≤ w.heap.size) (hbg : base ≤ gw) (h : WSt base gw s w) (htl : ts.length ≤ 1000000) (hrl : ∀ r ∈ ts, True) (hls : LsAt RwAt 1 rw0 base w a_t ts) : Calls Try.prog 130 #[.pointer (some ⟨gw, 0, none⟩), .slice a_t ts.length c_t, .func (.func 117) #[] #[]] w (fun e W => e = .returned (.tuple #[]) ∧ GW base gw w W ∧ WSt base gw (Qdw s ts) W) := by
 have hgw := h.lt
 refine enter 27 [(0, .pointer (some ⟨gw, 0, none⟩)), (1, .slice a_t ts.length c_t), (2, .func (.func 117) #[] #[])] Try.func130 rfl rfl kj rfl ?_
 refine wp_seq_k fun K1 hK1 => ?_
 refine Qae ?_
 refine Qab (.pointer (some ⟨gw, 0, none⟩)) 8 rfl kj kj ?_
 refine Qab (.slice a_t ts.length c_t) 9 rfl kj kj ?_
 refine Qab (.int .i64 ((ts.length : Nat) : Int)) 10 rfl kj kj ?_
 refine Qak (fun v W' => v = .tuple #[] ∧ GW base gw w W' ∧ WSt base gw (numS s ((ts.length : Nat) : Int) 1) W') 105 #[.pointer (some ⟨gw, 0, none⟩), .int .i64 ((ts.length : Nat) : Int), .int .i64 1] 11 rfl kj kj ((Qbn base gw s ((ts.length : Nat) : Int) 1 _ (Nat.le_trans hbw (GW.refl base gw w).size) h (by decide)).mono (by rintro e w' ⟨rfl, h1, h2⟩; exact ⟨_, rfl, rfl, h1, h2⟩)) fun v2 W1 h2 => ?_
 obtain ⟨rfl, q1, ws2⟩ := h2
 have x1 : GW base gw w W1 := GW.trans (GW.refl base gw w) q1
 refine Qaf ?_
 refine hK1 _ _ ?_
 refine wp_seq_k fun K3 hK3 => ?_
 refine Qae ?_
 refine Qab (.slice a_t ts.length c_t) 12 rfl kj kj ?_
 refine Qab (.int .i64 ((ts.length : Nat) : Int)) 13 rfl kj kj ?_
 refine Qab (.int .i64 0) 14 rfl kj kj ?_
 refine Qaf ?_
 refine hK3 _ _ ?_
 refine wp_block ?_
 refine QaP (fun (s1 : Nat × Option (List Int)) => [(0, .pointer (some ⟨gw, 0, none⟩)), (2, .func (.func 117) #[] #[]), (12, .slice a_t ts.length c_t), (13, .int .i64 ((ts.length : Nat) : Int)), (14, .int .i64 ((s1.1 : Nat) : Int))]) (fun (s1 : Nat × Option (List Int)) W => (s1.1 ≤ ts.length) ∧ (WSt base gw s1.2 W) ∧ ((ts.drop s1.1).foldl rowF s1.2 = Qdw s ts) ∧ (GW base gw w W)) (fun (s1 : Nat × Option (List Int)) => ts.length - s1.1) (0, numS s ((ts.length : Nat) : Int) 1) ⟨rfl, rfl, rfl, rfl, rfl, trivial⟩ ⟨(Nat.zero_le _), ws2, rfl, x1⟩ fun s1 X1 V1 hI1 => ?_
 obtain ⟨i, sc⟩ := s1
 obtain ⟨hi, hws, hnum, xx1⟩ := hI1
 replace hi : i ≤ ts.length := hi
 replace hws : WSt base gw sc V1 := hws
 replace hnum : (ts.drop i).foldl rowF sc = Qdw s ts := hnum
 replace xx1 : GW base gw w V1 := xx1
 refine wp_seq_k fun K4 hK4 => ?_
 refine Qae ?_
 refine Qab (.bool (decide (((i : Nat) : Int) < ((ts.length : Nat) : Int)))) 15 rfl kj kj ?_
 refine Qaf ?_
 refine hK4 _ _ ?_
 refine wp_seq_k fun K5 hK5 => ?_
 refine Qa5 (t := decide (((i : Nat) : Int) < ((ts.length : Nat) : Int))) kj (fun c6 => ?_) (fun c6 => ?_)
 ·skip
  have hlt15 : i < ts.length := by have := of_decide_eq_true c6; omega
  refine wp_skip ?_
  refine hK5 _ _ ?_
  refine wp_seq_k fun K7 hK7 => ?_
  refine wp_block ?_
  refine wp_seq_k fun K8 hK8 => ?_
  refine Qae ?_
  obtain ⟨gTnd, oTnd, hatnd, helsnd⟩ := (LsAt.gw rwK hls xx1 hbg)
  have helnd := helsnd i (by omega)
  obtain ⟨_, _, -, hels0nd⟩ := id hls
  have hel0nd := hels0nd i (by omega)
  have hmemnd := Qb3 ts rw0 i (by omega)
  obtain ⟨nd, hndnd⟩ : ∃ z, z = ts.getD i rw0 := ⟨_, rfl⟩
  rw [← hndnd] at helnd hel0nd hmemnd
  refine Qab (.pointer (some ⟨gTnd, oTnd + i * 1, none⟩)) 16 rfl kj (Qbc 127 _ _ .i64 i gTnd oTnd ts.length c_t 26 1 a_t (hatnd (by omega)) rfl kj kj kj kj (by omega)) ?_
  refine Qab (.slice nd.a nd.xs.length nd.c) 17 rfl kj (QbG 26 _ gTnd (oTnd + i * 1) _ helnd.cell rfl kj kj) ?_
  refine Qab (.slice nd.a nd.xs.length nd.c) 7 rfl kj kj ?_
  refine Qaf ?_
  refine hK8 _ _ ?_
  refine wp_seq_k fun K9 hK9 => ?_
  refine wp_seq_k fun K10 hK10 => ?_
  refine Qae ?_
  obtain ⟨u11, xs11, bad, rb11, -, -, -, hsc⟩ := id hws
  refine Qab (.pointer (some ⟨gw, 0, none⟩)) 18 rfl kj kj ?_
  refine Qab (.pointer (some ⟨gw, 0, none⟩)) 19 rfl kj kj ?_
  refine Qab (.pointer (some ⟨gw, 1, none⟩)) 20 rfl kj kj ?_
  refine Qab (.bool bad) 21 rfl kj (Qag 4 _ gw 1 174 _ (.bool bad) _ rb11 rfl kj kj kj) ?_
  refine Qaf ?_
  refine hK10 _ _ ?_
  refine Qa5 (t := bad) kj (fun c13 => ?_) (fun c13 => ?_)
  ·skip
   have hbad : bad = true := c13
   have h9 : sc = none := by rw [hsc, hbad]; rfl
   have h8 : Qdw s ts = none := by rw [← hnum, h9]; exact QcL QeR _
   refine wp_ret ?_
   repeat (first | with_reducible refine goR1 ?_ | with_reducible refine goR2 ?_)
   exact (show bodyPost _ _ _ .ret _ _ from ret0 rfl ⟨rfl, xx1, by rw [h8, ← h9]; exact hws⟩)
  ·skip
   refine wp_skip ?_
   refine hK9 _ _ ?_
   refine Qae ?_
   refine Qab (.func (.func 117) #[] #[]) 22 rfl kj kj ?_
   refine Qab (.pointer (some ⟨gw, 0, none⟩)) 23 rfl kj kj ?_
   refine Qab (.slice nd.a nd.xs.length nd.c) 24 rfl kj kj ?_
   refine Qak (fun v W' => v = .tuple #[] ∧ GW base gw V1 W' ∧ WSt base gw (rowF sc nd) W') 117 #[.pointer (some ⟨gw, 0, none⟩), .slice nd.a nd.xs.length nd.c] 25 rfl kj kj ((Qht base gw sc nd.xs _ _ (Nat.le_trans hbw xx1.size) hbg hws hel0nd.by_ (Qhb hel0nd.rd xx1 hbg)).mono (by rintro e w' ⟨rfl, h1, h2⟩; exact ⟨_, rfl, rfl, h1, h2⟩)) fun v14 W3 h14 => ?_
   obtain ⟨rfl, q3, ws14⟩ := h14
   have x3 : GW base gw w W3 := GW.trans xx1 q3
   refine Qaf ?_
   refine hK7 _ _ ?_
   refine Qae ?_
   refine Qab (.int .i64 ((i + 1 : Nat) : Int)) 26 rfl kj (Qax (u := .int .i64 (IntKind.i64.wrap (((i : Nat) : Int) + 1))) kj (congrArg (Value.int .i64) (i64n _ _ (by omega) (by omega)))) ?_
   refine Qab (.int .i64 ((i + 1 : Nat) : Int)) 14 rfl kj kj ?_
   refine Qaf ?_
   repeat (first | with_reducible refine goX1 ?_ | with_reducible refine goX2 ?_ | with_reducible refine goX3 ?_)
   exact QaK ((i + 1), rowF sc nd) ⟨rfl, rfl, rfl, rfl, rfl, trivial⟩ ⟨(by omega), ws14, (by rw [← hnum, QcU ts rw0 i hlt15, ← hndnd]; rfl), x3⟩ (by omega)
 ·skip
  have heq15 : i = ts.length := by have := of_decide_eq_false c6; omega
  refine wp_exit ?_
  repeat (first | with_reducible refine goX1 ?_ | with_reducible refine goX2 ?_ | with_reducible refine goX3 ?_)
  exact (show bodyPost _ _ _ .normal _ _ from end0 rfl ⟨rfl, xx1, by have h9 : sc = Qdw s ts := (by have h7 := hnum; rw [heq15, List.drop_length] at h7; exact h7); rw [← h9]; exact hws⟩)
set_option maxHeartbeats 4000000 in
theorem Qjj (base gw : Nat) (s : Option (List Int)) (key : List Int) (rows : List RwV) (sa : Option Addr) (sc_ : Nat) (w : World) (hbw : base ≤ w.heap.size) (hbg : base ≤ gw) (h : WSt base gw s w) (hkl : key.length = 32) (hkb : Qaj key) (hrn : rows.length ≤ 1000000) (hrl : ∀ r ∈ rows, True) (hrows : LsAt RwAt 1 rw0 base w sa rows) : Calls Try.prog 126 #[.pointer (some ⟨gw, 0, none⟩), .agg (cat [ints .u8 (key), #[.slice sa rows.length sc_]])] w (fun e W => e = .returned (.tuple #[]) ∧ GW base gw w W ∧ WSt base gw (Qdw (rawS s key) rows) W) := by
  have hgw := h.lt
  refine enter 12 [(0, .pointer (some ⟨gw, 0, none⟩)), (1, .agg (cat [ints .u8 (key), #[.slice sa rows.length sc_]]))] Try.func126 rfl rfl kj rfl ?_
  refine wp_seq_k fun K1 hK1 => ?_
  refine Qae ?_
  refine Qav (cat [ints .u8 (key), #[.slice sa rows.length sc_]]) 129 3 rfl kj kj fun g2 W1 l2 e1 r2_1 => ?_
  have x1 : GW base gw w W1 := GW.ext (GW.refl base gw w) e1
  have ws3 := WSt.ext h e1
  have b2 : w.heap.size ≤ g2 := Nat.le_trans (GW.refl base gw w).size l2
  refine Qaf ?_
  refine hK1 _ _ ?_
  refine wp_seq_k fun K4 hK4 => ?_
  refine Qae ?_
  refine Qab (.pointer (some ⟨gw, 0, none⟩)) 4 rfl kj kj ?_
  refine Qab (.pointer (some ⟨g2, 0, none⟩)) 5 rfl kj kj ?_
  refine Qab (.slice (some ⟨g2, 0, none⟩) 32 32) 6 rfl kj kj ?_
  refine Qak (fun v W' => v = .tuple #[] ∧ GW base gw W1 W' ∧ WSt base gw (rawS (s) key) W') 104 #[.pointer (some ⟨gw, 0, none⟩), .slice (some ⟨g2, 0, none⟩) 32 32] 7 rfl kj kj ((rawW base gw _ key _ _ (Nat.le_trans hbw x1.size) ws3 (by omega) hkb (fun W e => (QaB 0 hkl (ExtB.row e r2_1 (Ne.symm (Nat.ne_of_lt (Nat.lt_of_lt_of_le hgw b2)))) (fun i hi => Qa8 [] [#[.slice sa rows.length sc_]] key 0 i (0 + i) kj rfl (by rw [hkl]; exact hi)) (Qay (ExtB.row e r2_1 (Ne.symm (Nat.ne_of_lt (Nat.lt_of_lt_of_le hgw b2))))) (Nat.le_refl _) (by decide)))).mono (by rintro e w' ⟨rfl, h1, h2⟩; exact ⟨_, rfl, rfl, h1, h2⟩)) fun v5 W2 h5 => ?_
  obtain ⟨rfl, q2, ws5⟩ := h5
  have x2 : GW base gw w W2 := GW.trans x1 q2
  refine Qaf ?_
  refine hK4 _ _ ?_
  refine Qae ?_
  refine Qab (.pointer (some ⟨gw, 0, none⟩)) 8 rfl kj kj ?_
  refine Qab (.pointer (some ⟨g2, 32, none⟩)) 9 rfl kj kj ?_
  have r2_2 := (GW.row q2 r2_1 (by decide) (Ne.symm (Nat.ne_of_lt (Nat.lt_of_lt_of_le hgw b2))))
  refine Qab (.slice sa rows.length sc_) 10 rfl kj (Qag 127 _ g2 32 129 _ (.slice sa rows.length sc_) _ r2_2 rfl kj (Qah [ints .u8 (key)] [#[.slice sa rows.length sc_]] [] 32 ((Qac _ _).trans hkl) 0 _ rfl) kj) ?_
  refine Qak (fun v W' => v = .tuple #[] ∧ GW base gw W2 W' ∧ WSt base gw (Qdw (rawS s key) rows) W') 130 #[.pointer (some ⟨gw, 0, none⟩), .slice sa rows.length sc_, .func (.func 117) #[] #[]] 11 rfl kj kj ((Qhh base gw _ rows _ _ _ (Nat.le_trans hbw x2.size) hbg ws5 hrn hrl (LsAt.gw rwK hrows x2 hbg)).mono (by rintro e w' ⟨rfl, h1, h2⟩; exact ⟨_, rfl, rfl, h1, h2⟩)) fun v6 W3 h6 => ?_
  obtain ⟨rfl, q3, ws6⟩ := h6
  have x3 : GW base gw w W3 := GW.trans x2 q3
  refine Qaf ?_
  repeat (first | with_reducible refine goX1 ?_ | with_reducible refine goX2 ?_ | with_reducible refine goX3 ?_)
  exact (show bodyPost _ _ _ .normal _ _ from end0 rfl ⟨rfl, x3, ws6⟩)
set_option maxHeartbeats 4000000 in
set_option maxRecDepth 100000 in
theorem Qhg (base gw : Nat) (s : Option (List Int)) (ts : List StV) (a_t : Option Addr) (c_t : Nat) (w : World) (hbw : base ≤ w.heap.size) (hbg : base ≤ gw) (h : WSt base gw s w) (htl : ts.length ≤ 1000000) (hrs : ∀ t ∈ ts, t.rows.length ≤ 1000000 ∧ ∀ r ∈ t.rows, True) (hls : LsAt StAt 33 st0 base w a_t ts) : Calls Try.prog 125 #[.pointer (some ⟨gw, 0, none⟩), .slice a_t ts.length c_t, .func (.func 126) #[] #[]] w (fun e W => e = .returned (.tuple #[]) ∧ GW base gw w W ∧ WSt base gw (Qdv s ts) W) := by
 have hgw := h.lt
 refine enter 27 [(0, .pointer (some ⟨gw, 0, none⟩)), (1, .slice a_t ts.length c_t), (2, .func (.func 126) #[] #[])] Try.func125 rfl rfl kj rfl ?_
 refine wp_seq_k fun K1 hK1 => ?_
 refine Qae ?_
 refine Qab (.pointer (some ⟨gw, 0, none⟩)) 8 rfl kj kj ?_
 refine Qab (.slice a_t ts.length c_t) 9 rfl kj kj ?_
 refine Qab (.int .i64 ((ts.length : Nat) : Int)) 10 rfl kj kj ?_
 refine Qak (fun v W' => v = .tuple #[] ∧ GW base gw w W' ∧ WSt base gw (numS s ((ts.length : Nat) : Int) 1) W') 105 #[.pointer (some ⟨gw, 0, none⟩), .int .i64 ((ts.length : Nat) : Int), .int .i64 1] 11 rfl kj kj ((Qbn base gw s ((ts.length : Nat) : Int) 1 _ (Nat.le_trans hbw (GW.refl base gw w).size) h (by decide)).mono (by rintro e w' ⟨rfl, h1, h2⟩; exact ⟨_, rfl, rfl, h1, h2⟩)) fun v2 W1 h2 => ?_
 obtain ⟨rfl, q1, ws2⟩ := h2
 have x1 : GW base gw w W1 := GW.trans (GW.refl base gw w) q1
 refine Qaf ?_
 refine hK1 _ _ ?_
 refine wp_seq_k fun K3 hK3 => ?_
 refine Qae ?_
 refine Qab (.slice a_t ts.length c_t) 12 rfl kj kj ?_
 refine Qab (.int .i64 ((ts.length : Nat) : Int)) 13 rfl kj kj ?_
 refine Qab (.int .i64 0) 14 rfl kj kj ?_
 refine Qaf ?_
 refine hK3 _ _ ?_
 refine wp_block ?_
 refine QaP (fun (s1 : Nat × Option (List Int)) => [(0, .pointer (some ⟨gw, 0, none⟩)), (2, .func (.func 126) #[] #[]), (12, .slice a_t ts.length c_t), (13, .int .i64 ((ts.length : Nat) : Int)), (14, .int .i64 ((s1.1 : Nat) : Int))]) (fun (s1 : Nat × Option (List Int)) W => (s1.1 ≤ ts.length) ∧ (WSt base gw s1.2 W) ∧ ((ts.drop s1.1).foldl QdU s1.2 = Qdv s ts) ∧ (GW base gw w W)) (fun (s1 : Nat × Option (List Int)) => ts.length - s1.1) (0, numS s ((ts.length : Nat) : Int) 1) ⟨rfl, rfl, rfl, rfl, rfl, trivial⟩ ⟨(Nat.zero_le _), ws2, rfl, x1⟩ fun s1 X1 V1 hI1 => ?_
 obtain ⟨i, sc⟩ := s1
 obtain ⟨hi, hws, hnum, xx1⟩ := hI1
 replace hi : i ≤ ts.length := hi
 replace hws : WSt base gw sc V1 := hws
 replace hnum : (ts.drop i).foldl QdU sc = Qdv s ts := hnum
 replace xx1 : GW base gw w V1 := xx1
 refine wp_seq_k fun K4 hK4 => ?_
 refine Qae ?_
 refine Qab (.bool (decide (((i : Nat) : Int) < ((ts.length : Nat) : Int)))) 15 rfl kj kj ?_
 refine Qaf ?_
 refine hK4 _ _ ?_
 refine wp_seq_k fun K5 hK5 => ?_
 refine Qa5 (t := decide (((i : Nat) : Int) < ((ts.length : Nat) : Int))) kj (fun c6 => ?_) (fun c6 => ?_)
 ·skip
  have hlt15 : i < ts.length := by have := of_decide_eq_true c6; omega
  refine wp_skip ?_
  refine hK5 _ _ ?_
  refine wp_seq_k fun K7 hK7 => ?_
  refine wp_block ?_
  refine wp_seq_k fun K8 hK8 => ?_
  refine Qae ?_
  obtain ⟨gTnd, oTnd, hatnd, helsnd⟩ := (LsAt.gw stK hls xx1 hbg)
  have helnd := helsnd i (by omega)
  obtain ⟨_, _, -, hels0nd⟩ := id hls
  have hel0nd := hels0nd i (by omega)
  have hmemnd := Qb3 ts st0 i (by omega)
  obtain ⟨nd, hndnd⟩ : ∃ z, z = ts.getD i st0 := ⟨_, rfl⟩
  rw [← hndnd] at helnd hel0nd hmemnd
  refine Qab (.pointer (some ⟨gTnd, oTnd + i * 33, none⟩)) 16 rfl kj (Qbc 55 _ _ .i64 i gTnd oTnd ts.length c_t 129 33 a_t (hatnd (by omega)) rfl kj kj kj kj (by omega)) ?_
  obtain ⟨u0nd, hu0nd⟩ := QhB nd helnd.kl
  refine Qab (.agg (cat [ints .u8 (nd.key), #[.slice nd.a nd.rows.length nd.c]])) 17 rfl kj (Qbm 129 _ gTnd (oTnd + i * 33) 33 (cat (stP nd)) u0nd hu0nd (Qcm nd helnd.kl) helnd.cell rfl kj kj kj) ?_
  refine Qav (cat [ints .u8 (List.replicate 32 0), #[.slice none 0 0]]) 129 7 rfl kj kj fun g9 W3 l9 e3 r9_3 => ?_
  have x3 : GW base gw w W3 := GW.ext xx1 e3
  have ws10 := WSt.ext hws e3
  have b9 : w.heap.size ≤ g9 := Nat.le_trans xx1.size l9
  refine Qa3 g9 _ (cat [ints .u8 (nd.key), #[.slice nd.a nd.rows.length nd.c]]) 129 r9_3 rfl kj (Qa0 129 _ _ g9 129 _ _ r9_3 rfl kj kj (isz (n := 33) kj (by rw [Qaa, Qaa]; simp only [Array.size_append, cat, ((Qac _ _).trans hel0nd.kl)]; rfl)) (eqsz (n := 33) (by rw [Qaa, Qaa]; simp only [Array.size_append, cat, ((Qac _ _).trans (List.length_replicate (n := 32)))]; rfl) (by rw [Qaa, Qaa]; simp only [Array.size_append, cat, ((Qac _ _).trans hel0nd.kl)]; rfl)) (QaX _ (by intro a ha; simp only [List.mem_cons, List.not_mem_nil, or_false] at ha; rcases ha with rfl | rfl; exact (Qas _ _); exact (Qaq _ rfl)))) fun W4 p4 r9_4 => ?_
  have x4 : GW base gw w W4 := GW.put x3 p4 b9
  have ws11 := WSt.put ws10 p4 r9_3 (by decide) (Nat.ne_of_lt (Nat.lt_of_lt_of_le hgw b9))
  refine Qaf ?_
  refine hK8 _ _ ?_
  refine wp_seq_k fun K12 hK12 => ?_
  refine wp_seq_k fun K13 hK13 => ?_
  refine Qae ?_
  obtain ⟨u14, xs14, bad, rb14, -, -, -, hsc⟩ := id ws11
  refine Qab (.pointer (some ⟨gw, 0, none⟩)) 18 rfl kj kj ?_
  refine Qab (.pointer (some ⟨gw, 0, none⟩)) 19 rfl kj kj ?_
  refine Qab (.pointer (some ⟨gw, 1, none⟩)) 20 rfl kj kj ?_
  refine Qab (.bool bad) 21 rfl kj (Qag 4 _ gw 1 174 _ (.bool bad) _ rb14 rfl kj kj kj) ?_
  refine Qaf ?_
  refine hK13 _ _ ?_
  refine Qa5 (t := bad) kj (fun c16 => ?_) (fun c16 => ?_)
  ·skip
   have hbad : bad = true := c16
   have h9 : sc = none := by rw [hsc, hbad]; rfl
   have h8 : Qdv s ts = none := by rw [← hnum, h9]; exact QcL Qfj _
   refine wp_ret ?_
   repeat (first | with_reducible refine goR1 ?_ | with_reducible refine goR2 ?_)
   exact (show bodyPost _ _ _ .ret _ _ from ret0 rfl ⟨rfl, x4, by rw [h8, ← h9]; exact ws11⟩)
  ·skip
   refine wp_skip ?_
   refine hK12 _ _ ?_
   refine Qae ?_
   refine Qab (.func (.func 126) #[] #[]) 22 rfl kj kj ?_
   refine Qab (.pointer (some ⟨gw, 0, none⟩)) 23 rfl kj kj ?_
   refine Qab (.agg (cat [ints .u8 (nd.key), #[.slice nd.a nd.rows.length nd.c]])) 24 rfl kj (QaA 129 _ g9 129 _ _ r9_4 rfl kj kj (isz (n := 33) kj (by rw [Qaa, Qaa]; simp only [Array.size_append, cat, ((Qac _ _).trans hel0nd.kl)]; rfl))) ?_
   refine Qak (fun v W' => v = .tuple #[] ∧ GW base gw W4 W' ∧ WSt base gw (QdU sc nd) W') 126 #[.pointer (some ⟨gw, 0, none⟩), .agg (cat [ints .u8 (nd.key), #[.slice nd.a nd.rows.length nd.c]])] 25 rfl kj kj ((Qjj base gw sc nd.key nd.rows nd.a nd.c _ (Nat.le_trans hbw x4.size) hbg ws11 hel0nd.kl hel0nd.kb (hrs nd hmemnd).1 (hrs nd hmemnd).2 (LsAt.gw rwK hel0nd.rows x4 hbg)).mono (by rintro e w' ⟨rfl, h1, h2⟩; exact ⟨_, rfl, rfl, h1, h2⟩)) fun v17 W5 h17 => ?_
   obtain ⟨rfl, q5, ws17⟩ := h17
   have x5 : GW base gw w W5 := GW.trans x4 q5
   refine Qaf ?_
   refine hK7 _ _ ?_
   refine Qae ?_
   refine Qab (.int .i64 ((i + 1 : Nat) : Int)) 26 rfl kj (Qax (u := .int .i64 (IntKind.i64.wrap (((i : Nat) : Int) + 1))) kj (congrArg (Value.int .i64) (i64n _ _ (by omega) (by omega)))) ?_
   refine Qab (.int .i64 ((i + 1 : Nat) : Int)) 14 rfl kj kj ?_
   refine Qaf ?_
   repeat (first | with_reducible refine goX1 ?_ | with_reducible refine goX2 ?_ | with_reducible refine goX3 ?_)
   exact QaK ((i + 1), QdU sc nd) ⟨rfl, rfl, rfl, rfl, rfl, trivial⟩ ⟨(by omega), ws17, (by rw [← hnum, QcU ts st0 i hlt15, ← hndnd]; rfl), x5⟩ (by omega)
 ·skip
  have heq15 : i = ts.length := by have := of_decide_eq_false c6; omega
  refine wp_exit ?_
  repeat (first | with_reducible refine goX1 ?_ | with_reducible refine goX2 ?_ | with_reducible refine goX3 ?_)
  exact (show bodyPost _ _ _ .normal _ _ from end0 rfl ⟨rfl, xx1, by have h9 : sc = Qdv s ts := (by have h7 := hnum; rw [heq15, List.drop_length] at h7; exact h7); rw [← h9]; exact hws⟩)
set_option maxHeartbeats 4000000 in
set_option maxRecDepth 100000 in
theorem Qhi (base gw : Nat) (s : Option (List Int)) (ts : List PrV) (a_t : Option Addr) (c_t : Nat) (w : World) (hbw : base ≤ w.heap.size) (hbg : base ≤ gw) (h : WSt base gw s w) (htl : ts.length ≤ 1000000) (hms : ∀ p ∈ ts, p.p.n.ms.length ≤ 1000000) (hls : LsAt PrAt 263 pr0 base w a_t ts) : Calls Try.prog 113 #[.pointer (some ⟨gw, 0, none⟩), .slice a_t ts.length c_t, .func (.func 57) #[] #[]] w (fun e W => e = .returned (.tuple #[]) ∧ GW base gw w W ∧ WSt base gw (Qc5 s ts) W) := by
 have hgw := h.lt
 refine enter 27 [(0, .pointer (some ⟨gw, 0, none⟩)), (1, .slice a_t ts.length c_t), (2, .func (.func 57) #[] #[])] Try.func113 rfl rfl kj rfl ?_
 refine wp_seq_k fun K1 hK1 => ?_
 refine Qae ?_
 refine Qab (.pointer (some ⟨gw, 0, none⟩)) 8 rfl kj kj ?_
 refine Qab (.slice a_t ts.length c_t) 9 rfl kj kj ?_
 refine Qab (.int .i64 ((ts.length : Nat) : Int)) 10 rfl kj kj ?_
 refine Qak (fun v W' => v = .tuple #[] ∧ GW base gw w W' ∧ WSt base gw (numS s ((ts.length : Nat) : Int) 1) W') 105 #[.pointer (some ⟨gw, 0, none⟩), .int .i64 ((ts.length : Nat) : Int), .int .i64 1] 11 rfl kj kj ((Qbn base gw s ((ts.length : Nat) : Int) 1 _ (Nat.le_trans hbw (GW.refl base gw w).size) h (by decide)).mono (by rintro e w' ⟨rfl, h1, h2⟩; exact ⟨_, rfl, rfl, h1, h2⟩)) fun v2 W1 h2 => ?_
 obtain ⟨rfl, q1, ws2⟩ := h2
 have x1 : GW base gw w W1 := GW.trans (GW.refl base gw w) q1
 refine Qaf ?_
 refine hK1 _ _ ?_
 refine wp_seq_k fun K3 hK3 => ?_
 refine Qae ?_
 refine Qab (.slice a_t ts.length c_t) 12 rfl kj kj ?_
 refine Qab (.int .i64 ((ts.length : Nat) : Int)) 13 rfl kj kj ?_
 refine Qab (.int .i64 0) 14 rfl kj kj ?_
 refine Qaf ?_
 refine hK3 _ _ ?_
 refine wp_block ?_
 refine QaP (fun (s1 : Nat × Option (List Int)) => [(0, .pointer (some ⟨gw, 0, none⟩)), (2, .func (.func 57) #[] #[]), (12, .slice a_t ts.length c_t), (13, .int .i64 ((ts.length : Nat) : Int)), (14, .int .i64 ((s1.1 : Nat) : Int))]) (fun (s1 : Nat × Option (List Int)) W => (s1.1 ≤ ts.length) ∧ (WSt base gw s1.2 W) ∧ ((ts.drop s1.1).foldl Qej s1.2 = Qc5 s ts) ∧ (GW base gw w W)) (fun (s1 : Nat × Option (List Int)) => ts.length - s1.1) (0, numS s ((ts.length : Nat) : Int) 1) ⟨rfl, rfl, rfl, rfl, rfl, trivial⟩ ⟨(Nat.zero_le _), ws2, rfl, x1⟩ fun s1 X1 V1 hI1 => ?_
 obtain ⟨i, sc⟩ := s1
 obtain ⟨hi, hws, hnum, xx1⟩ := hI1
 replace hi : i ≤ ts.length := hi
 replace hws : WSt base gw sc V1 := hws
 replace hnum : (ts.drop i).foldl Qej sc = Qc5 s ts := hnum
 replace xx1 : GW base gw w V1 := xx1
 refine wp_seq_k fun K4 hK4 => ?_
 refine Qae ?_
 refine Qab (.bool (decide (((i : Nat) : Int) < ((ts.length : Nat) : Int)))) 15 rfl kj kj ?_
 refine Qaf ?_
 refine hK4 _ _ ?_
 refine wp_seq_k fun K5 hK5 => ?_
 refine Qa5 (t := decide (((i : Nat) : Int) < ((ts.length : Nat) : Int))) kj (fun c6 => ?_) (fun c6 => ?_)
 ·skip
  have hlt15 : i < ts.length := by have := of_decide_eq_true c6; omega
  refine wp_skip ?_
  refine hK5 _ _ ?_
  refine wp_seq_k fun K7 hK7 => ?_
  refine wp_block ?_
  refine wp_seq_k fun K8 hK8 => ?_
  refine Qae ?_
  obtain ⟨gTnd, oTnd, hatnd, helsnd⟩ := (LsAt.gw prK hls xx1 hbg)
  have helnd := helsnd i (by omega)
  obtain ⟨_, _, -, hels0nd⟩ := id hls
  have hel0nd := hels0nd i (by omega)
  have hmemnd := Qb3 ts pr0 i (by omega)
  obtain ⟨nd, hndnd⟩ : ∃ z, z = ts.getD i pr0 := ⟨_, rfl⟩
  rw [← hndnd] at helnd hel0nd hmemnd
  have hok := hel0nd.ok
  refine Qab (.pointer (some ⟨gTnd, oTnd + i * 263, none⟩)) 16 rfl kj (Qbc 54 _ _ .i64 i gTnd oTnd ts.length c_t 47 263 a_t (hatnd (by omega)) rfl kj kj kj kj (by omega)) ?_
  obtain ⟨u0nd, hu0nd⟩ := Qek nd helnd.ok
  refine Qab (.agg (cat [ints .u8 (nd.p.grp), #[.int .i64 nd.p.ep], #[.int .i64 nd.p.fr], ints .u8 (nd.p.bas), #[.int .i64 nd.p.kd], #[.bool nd.p.n.us], #[.int .i64 nd.p.n.nm], ints .u8 (nd.p.n.key), ints .u8 (nd.p.n.sg), ints .u8 (nd.p.n.pa), #[.slice nd.a nd.p.n.ms.length nd.c], ints .u8 (nd.p.start), #[.int .i64 nd.p.at_], ints .u8 (nd.p.sig)])) 17 rfl kj (Qbm 47 _ gTnd (oTnd + i * 263) 263 (cat (prP nd)) u0nd hu0nd (Qb5 nd helnd.ok) helnd.cell rfl kj kj kj) ?_
  refine Qav (cat [ints .u8 (List.replicate 32 0), #[.int .i64 0], #[.int .i64 0], ints .u8 (List.replicate 32 0), #[.int .i64 0], #[.bool false], #[.int .i64 0], ints .u8 (List.replicate 32 0), ints .u8 (List.replicate 32 0), ints .u8 (List.replicate 32 0), #[.slice none 0 0], ints .u8 (List.replicate 32 0), #[.int .i64 0], ints .u8 (List.replicate 64 0)]) 47 7 rfl kj (Qbe 47 _ rfl (Qcd _)) fun g9 W3 l9 e3 r9_3 => ?_
  have x3 : GW base gw w W3 := GW.ext xx1 e3
  have ws10 := WSt.ext hws e3
  have b9 : w.heap.size ≤ g9 := Nat.le_trans xx1.size l9
  refine Qa3 g9 _ (cat [ints .u8 (nd.p.grp), #[.int .i64 nd.p.ep], #[.int .i64 nd.p.fr], ints .u8 (nd.p.bas), #[.int .i64 nd.p.kd], #[.bool nd.p.n.us], #[.int .i64 nd.p.n.nm], ints .u8 (nd.p.n.key), ints .u8 (nd.p.n.sg), ints .u8 (nd.p.n.pa), #[.slice nd.a nd.p.n.ms.length nd.c], ints .u8 (nd.p.start), #[.int .i64 nd.p.at_], ints .u8 (nd.p.sig)]) 47 r9_3 rfl kj (Qa0 47 _ _ g9 47 _ _ r9_3 rfl kj kj (isz (n := 263) kj (by rw [Qaa, Qaa, Qaa, Qaa, Qaa, Qaa, Qaa, Qaa, Qaa, Qaa, Qaa, Qaa, Qaa, Qaa]; simp only [Array.size_append, cat, ((Qac _ _).trans hok.al), ((Qac _ _).trans hok.il), ((Qac _ _).trans hok.n.gl), ((Qac _ _).trans hok.n.kl), ((Qac _ _).trans hok.n.pl), ((Qac _ _).trans hok.rl), ((Qac _ _).trans hok.tl)]; rfl)) (eqsz (n := 263) (by rw [Qaa, Qaa, Qaa, Qaa, Qaa, Qaa, Qaa, Qaa, Qaa, Qaa, Qaa, Qaa, Qaa, Qaa]; simp only [Array.size_append, cat, ((Qac _ _).trans (List.length_replicate (n := 32))), ((Qac _ _).trans (List.length_replicate (n := 64)))]; rfl) (by rw [Qaa, Qaa, Qaa, Qaa, Qaa, Qaa, Qaa, Qaa, Qaa, Qaa, Qaa, Qaa, Qaa, Qaa]; simp only [Array.size_append, cat, ((Qac _ _).trans hok.al), ((Qac _ _).trans hok.il), ((Qac _ _).trans hok.n.gl), ((Qac _ _).trans hok.n.kl), ((Qac _ _).trans hok.n.pl), ((Qac _ _).trans hok.rl), ((Qac _ _).trans hok.tl)]; rfl)) (QaX _ (by intro a ha; simp only [List.mem_cons, List.not_mem_nil, or_false] at ha; rcases ha with rfl | rfl | rfl | rfl | rfl | rfl | rfl | rfl | rfl | rfl | rfl | rfl | rfl | rfl; exact (Qas _ _); exact (Qaq _ rfl); exact (Qaq _ rfl); exact (Qas _ _); exact (Qaq _ rfl); exact (Qaq _ rfl); exact (Qaq _ rfl); exact (Qas _ _); exact (Qas _ _); exact (Qas _ _); exact (Qaq _ rfl); exact (Qas _ _); exact (Qaq _ rfl); exact (Qas _ _)))) fun W4 p4 r9_4 => ?_
  have x4 : GW base gw w W4 := GW.put x3 p4 b9
  have ws11 := WSt.put ws10 p4 r9_3 (by decide) (Nat.ne_of_lt (Nat.lt_of_lt_of_le hgw b9))
  refine Qaf ?_
  refine hK8 _ _ ?_
  refine wp_seq_k fun K12 hK12 => ?_
  refine wp_seq_k fun K13 hK13 => ?_
  refine Qae ?_
  obtain ⟨u14, xs14, bad, rb14, -, -, -, hsc⟩ := id ws11
  refine Qab (.pointer (some ⟨gw, 0, none⟩)) 18 rfl kj kj ?_
  refine Qab (.pointer (some ⟨gw, 0, none⟩)) 19 rfl kj kj ?_
  refine Qab (.pointer (some ⟨gw, 1, none⟩)) 20 rfl kj kj ?_
  refine Qab (.bool bad) 21 rfl kj (Qag 4 _ gw 1 174 _ (.bool bad) _ rb14 rfl kj kj kj) ?_
  refine Qaf ?_
  refine hK13 _ _ ?_
  refine Qa5 (t := bad) kj (fun c16 => ?_) (fun c16 => ?_)
  ·skip
   have hbad : bad = true := c16
   have h9 : sc = none := by rw [hsc, hbad]; rfl
   have h8 : Qc5 s ts = none := by rw [← hnum, h9]; exact QcL Qfp _
   refine wp_ret ?_
   repeat (first | with_reducible refine goR1 ?_ | with_reducible refine goR2 ?_)
   exact (show bodyPost _ _ _ .ret _ _ from ret0 rfl ⟨rfl, x4, by rw [h8, ← h9]; exact ws11⟩)
  ·skip
   refine wp_skip ?_
   refine hK12 _ _ ?_
   refine Qae ?_
   refine Qab (.func (.func 57) #[] #[]) 22 rfl kj kj ?_
   refine Qab (.pointer (some ⟨gw, 0, none⟩)) 23 rfl kj kj ?_
   refine Qab (.agg (cat [ints .u8 (nd.p.grp), #[.int .i64 nd.p.ep], #[.int .i64 nd.p.fr], ints .u8 (nd.p.bas), #[.int .i64 nd.p.kd], #[.bool nd.p.n.us], #[.int .i64 nd.p.n.nm], ints .u8 (nd.p.n.key), ints .u8 (nd.p.n.sg), ints .u8 (nd.p.n.pa), #[.slice nd.a nd.p.n.ms.length nd.c], ints .u8 (nd.p.start), #[.int .i64 nd.p.at_], ints .u8 (nd.p.sig)])) 24 rfl kj (QaA 47 _ g9 47 _ _ r9_4 rfl kj kj (isz (n := 263) kj (by rw [Qaa, Qaa, Qaa, Qaa, Qaa, Qaa, Qaa, Qaa, Qaa, Qaa, Qaa, Qaa, Qaa, Qaa]; simp only [Array.size_append, cat, ((Qac _ _).trans hok.al), ((Qac _ _).trans hok.il), ((Qac _ _).trans hok.n.gl), ((Qac _ _).trans hok.n.kl), ((Qac _ _).trans hok.n.pl), ((Qac _ _).trans hok.rl), ((Qac _ _).trans hok.tl)]; rfl))) ?_
   refine Qak (fun v W' => v = .tuple #[] ∧ GW base gw W4 W' ∧ WSt base gw (Qej sc nd) W') 57 #[.pointer (some ⟨gw, 0, none⟩), .agg (cat [ints .u8 (nd.p.grp), #[.int .i64 nd.p.ep], #[.int .i64 nd.p.fr], ints .u8 (nd.p.bas), #[.int .i64 nd.p.kd], #[.bool nd.p.n.us], #[.int .i64 nd.p.n.nm], ints .u8 (nd.p.n.key), ints .u8 (nd.p.n.sg), ints .u8 (nd.p.n.pa), #[.slice nd.a nd.p.n.ms.length nd.c], ints .u8 (nd.p.start), #[.int .i64 nd.p.at_], ints .u8 (nd.p.sig)])] 25 rfl kj kj ((Qgm base gw sc nd.p.grp nd.p.ep nd.p.fr nd.p.bas nd.p.kd nd.p.n.us nd.p.n.nm nd.p.n.key nd.p.n.sg nd.p.n.pa nd.p.n.ms nd.p.start nd.p.at_ nd.p.sig nd.a nd.c _ (Nat.le_trans hbw x4.size) hbg ws11 hok.rl hok.rb hok.al hok.ab hok.n.kl hok.n.gl hok.n.pl hok.n.kb hok.n.gb hok.n.pb (hms nd hmemnd) hok.tl hok.tb hok.il hok.ib (QcE hel0nd.rd x4 hbg)).mono (by rintro e w' ⟨rfl, h1, h2⟩; exact ⟨_, rfl, rfl, h1, h2⟩)) fun v17 W5 h17 => ?_
   obtain ⟨rfl, q5, ws17⟩ := h17
   have x5 : GW base gw w W5 := GW.trans x4 q5
   refine Qaf ?_
   refine hK7 _ _ ?_
   refine Qae ?_
   refine Qab (.int .i64 ((i + 1 : Nat) : Int)) 26 rfl kj (Qax (u := .int .i64 (IntKind.i64.wrap (((i : Nat) : Int) + 1))) kj (congrArg (Value.int .i64) (i64n _ _ (by omega) (by omega)))) ?_
   refine Qab (.int .i64 ((i + 1 : Nat) : Int)) 14 rfl kj kj ?_
   refine Qaf ?_
   repeat (first | with_reducible refine goX1 ?_ | with_reducible refine goX2 ?_ | with_reducible refine goX3 ?_)
   exact QaK ((i + 1), Qej sc nd) ⟨rfl, rfl, rfl, rfl, rfl, trivial⟩ ⟨(by omega), ws17, (by rw [← hnum, QcU ts pr0 i hlt15, ← hndnd]; rfl), x5⟩ (by omega)
 ·skip
  have heq15 : i = ts.length := by have := of_decide_eq_false c6; omega
  refine wp_exit ?_
  repeat (first | with_reducible refine goX1 ?_ | with_reducible refine goX2 ?_ | with_reducible refine goX3 ?_)
  exact (show bodyPost _ _ _ .normal _ _ from end0 rfl ⟨rfl, xx1, by have h9 : sc = Qc5 s ts := (by have h7 := hnum; rw [heq15, List.drop_length] at h7; exact h7); rw [← h9]; exact hws⟩)
end Go.Proofs.Ytfelfmchachljaa.Wr
end
section
namespace Go.Proofs.Ytfelfmchachljaa.Wr
open Go Go.RowKit
open Rely Auto Own Sha
set_option linter.unusedVariables false
set_option linter.unusedSimpArgs false
structure CmAt (B : Nat) (w : World) (ps : List PrV) (a_p : Option Addr) (n : NdC) (a_m : Option Addr) (c_m : Nat) (ts : List StV) (a_t : Option Addr) : Prop where
  ps : LsAt PrAt 263 pr0 B w a_p ps
  m : RdK .i64 B n.ms (.slice a_m n.ms.length c_m) w
  ts : LsAt StAt 33 st0 B w a_t ts
section
variable {B : Nat} {w W : World} {ps : List PrV} {a_p : Option Addr} {n : NdC} {a_m : Option Addr} {c_m : Nat} {ts : List StV} {a_t : Option Addr}
theorem CmAt.ext (h : CmAt B w ps a_p n a_m c_m ts a_t) (e : Ext w W) : CmAt B W ps a_p n a_m c_m ts a_t := ⟨h.ps.ext prK e, h.m.ext e, h.ts.ext stK e⟩
theorem CmAt.here (h : CmAt B w ps a_p n a_m c_m ts a_t) : CmAt w.heap.size w ps a_p n a_m c_m ts a_t := ⟨h.ps.here prK, RdK.here h.m, h.ts.here stK⟩
theorem CmAt.more {B' : Nat} (h : CmAt B w ps a_p n a_m c_m ts a_t) (hb : B ≤ B') : CmAt B' w ps a_p n a_m c_m ts a_t := ⟨h.ps.more prK hb, RdK.more h.m hb, h.ts.more stK hb⟩
end
structure CmSz (ps : List PrV) (n : NdC) (ts : List StV) : Prop where
  pn : ps.length ≤ 1000000
  pm : ∀ p ∈ ps, p.p.n.ms.length ≤ 1000000
  nm : n.ms.length ≤ 1000000
  tn : ts.length ≤ 1000000
  tr : ∀ t ∈ ts, t.rows.length ≤ 1000000 ∧ ∀ r ∈ t.rows, True
structure CmOk (grp bas : List Int) (n : NdC) (tag sig : List Int) : Prop where
  rl : grp.length = 32
  rb : Qaj grp
  al : bas.length = 32
  ab : Qaj bas
  n : NdOk n
  gl : tag.length = 32
  gb : Qaj tag
  il : sig.length = 64
  ib : Qaj sig
set_option maxHeartbeats 4000000 in
set_option maxRecDepth 100000 in
theorem Qjt (base gw : Nat) (s : Option (List Int)) (grp : List Int) (ep fr : Int) (bas : List Int) (ps : List PrV) (n : NdC) (ts : List StV) (tag sig : List Int) (a_p : Option Addr) (c_p : Nat) (a_m : Option Addr) (c_m : Nat) (a_t : Option Addr) (c_t : Nat) (w : World) (hbw : base ≤ w.heap.size) (hbg : base ≤ gw) (h : WSt base gw s w) (ho : CmOk grp bas n tag sig) (hz : CmSz ps n ts) (hm : RdK .i64 base n.ms (.slice a_m n.ms.length c_m) w) (hls : LsAt StAt 33 st0 base w a_t ts) : Calls Try.prog 114 #[.pointer (some ⟨gw, 0, none⟩), .agg (cat [#[.bool n.us], #[.int .i64 n.nm], ints .u8 (n.key), ints .u8 (n.sg), ints .u8 (n.pa), #[.slice a_m n.ms.length c_m], #[.slice a_t ts.length c_t]])] w (fun e W => e = .returned (.tuple #[]) ∧ GW base gw w W ∧ WSt base gw (Qe5 s n ts) W) := by
  have hgw := h.lt
  refine enter 18 [(0, .pointer (some ⟨gw, 0, none⟩)), (1, .agg (cat [#[.bool n.us], #[.int .i64 n.nm], ints .u8 (n.key), ints .u8 (n.sg), ints .u8 (n.pa), #[.slice a_m n.ms.length c_m], #[.slice a_t ts.length c_t]]))] Try.func114 rfl rfl kj rfl ?_
  refine wp_seq_k fun K1 hK1 => ?_
  refine Qae ?_
  refine Qav (cat [#[.bool n.us], #[.int .i64 n.nm], ints .u8 (n.key), ints .u8 (n.sg), ints .u8 (n.pa), #[.slice a_m n.ms.length c_m], #[.slice a_t ts.length c_t]]) 57 3 rfl kj kj fun g2 W1 l2 e1 r2_1 => ?_
  have x1 : GW base gw w W1 := GW.ext (GW.refl base gw w) e1
  have ws3 := WSt.ext h e1
  have b2 : w.heap.size ≤ g2 := Nat.le_trans (GW.refl base gw w).size l2
  refine Qaf ?_
  refine hK1 _ _ ?_
  refine wp_seq_k fun K4 hK4 => ?_
  refine Qae ?_
  refine Qab (.pointer (some ⟨gw, 0, none⟩)) 4 rfl kj kj ?_
  refine Qab (.pointer (some ⟨g2, 0, none⟩)) 5 rfl kj kj ?_
  refine Qab (.agg (cat [#[.bool n.us], #[.int .i64 n.nm], ints .u8 (n.key), ints .u8 (n.sg), ints .u8 (n.pa), #[.slice a_m n.ms.length c_m]])) 6 rfl kj (Qau 43 _ g2 0 57 _ _ _ r2_1 rfl kj (Qah [] [#[.bool n.us], #[.int .i64 n.nm], ints .u8 (n.key), ints .u8 (n.sg), ints .u8 (n.pa), #[.slice a_m n.ms.length c_m]] [#[.slice a_t ts.length c_t]] 0 kj) kj (isz (n := 99) kj (by rw [Qaa, Qaa, Qaa, Qaa, Qaa, Qaa]; simp only [Array.size_append, cat, ((Qac _ _).trans ho.n.gl), ((Qac _ _).trans ho.n.kl), ((Qac _ _).trans ho.n.pl)]; rfl))) ?_
  refine Qak (fun v W' => v = .tuple #[] ∧ GW base gw W1 W' ∧ WSt base gw (Qfb (s) n) W') 95 #[.pointer (some ⟨gw, 0, none⟩), .agg (cat [#[.bool n.us], #[.int .i64 n.nm], ints .u8 (n.key), ints .u8 (n.sg), ints .u8 (n.pa), #[.slice a_m n.ms.length c_m]])] 7 rfl kj kj ((Qif base gw _ n.us n.nm n.key n.sg n.pa n.ms a_m c_m _ (Nat.le_trans hbw x1.size) hbg ws3 ho.n.kl ho.n.gl ho.n.pl ho.n.kb ho.n.gb ho.n.pb hz.nm (QcE hm x1 hbg)).mono (by rintro e w' ⟨rfl, h1, h2⟩; exact ⟨_, rfl, rfl, h1, h2⟩)) fun v5 W2 h5 => ?_
  obtain ⟨rfl, q2, ws5⟩ := h5
  have x2 : GW base gw w W2 := GW.trans x1 q2
  refine Qaf ?_
  refine hK4 _ _ ?_
  refine wp_seq_k fun K6 hK6 => ?_
  refine Qae ?_
  refine Qab (.pointer (some ⟨gw, 0, none⟩)) 8 rfl kj kj ?_
  refine Qab (.pointer (some ⟨g2, 99, none⟩)) 9 rfl kj kj ?_
  have r2_2 := (GW.row q2 r2_1 (by decide) (Ne.symm (Nat.ne_of_lt (Nat.lt_of_lt_of_le hgw b2))))
  refine Qab (.slice a_t ts.length c_t) 10 rfl kj (Qag 55 _ g2 99 57 _ (.slice a_t ts.length c_t) _ r2_2 rfl kj (Qah [#[.bool n.us], #[.int .i64 n.nm], ints .u8 (n.key), ints .u8 (n.sg), ints .u8 (n.pa), #[.slice a_m n.ms.length c_m]] [#[.slice a_t ts.length c_t]] [] 99 (by rw [Qaa, Qaa, Qaa, Qaa, Qaa, Qaa]; simp only [Array.size_append, cat, ((Qac _ _).trans ho.n.gl), ((Qac _ _).trans ho.n.kl), ((Qac _ _).trans ho.n.pl)]; rfl) 0 _ rfl) kj) ?_
  refine Qab (.int .i64 ((ts.length : Nat) : Int)) 11 rfl kj kj ?_
  refine Qab (.bool (decide (((ts.length : Nat) : Int) ≤ 5))) 12 rfl kj kj ?_
  refine Qak (fun v W' => v = .tuple #[] ∧ GW base gw W2 W' ∧ WSt base gw (Qa4 (Qfb (s) n) (decide (((ts.length : Nat) : Int) ≤ 5))) W') 98 #[.pointer (some ⟨gw, 0, none⟩), .bool (decide (((ts.length : Nat) : Int) ≤ 5))] 13 rfl kj kj ((Qcj base gw _ (decide (((ts.length : Nat) : Int) ≤ 5)) _ ws5).mono (by rintro e w' ⟨rfl, h1, h2⟩; exact ⟨_, rfl, rfl, h1, h2⟩)) fun v7 W3 h7 => ?_
  obtain ⟨rfl, q3, ws7⟩ := h7
  have x3 : GW base gw w W3 := GW.trans x2 q3
  refine Qaf ?_
  refine hK6 _ _ ?_
  refine Qae ?_
  refine Qab (.pointer (some ⟨gw, 0, none⟩)) 14 rfl kj kj ?_
  refine Qab (.pointer (some ⟨g2, 99, none⟩)) 15 rfl kj kj ?_
  have r2_3 := (GW.row q3 r2_2 (by decide) (Ne.symm (Nat.ne_of_lt (Nat.lt_of_lt_of_le hgw b2))))
  refine Qab (.slice a_t ts.length c_t) 16 rfl kj (Qag 55 _ g2 99 57 _ (.slice a_t ts.length c_t) _ r2_3 rfl kj (Qah [#[.bool n.us], #[.int .i64 n.nm], ints .u8 (n.key), ints .u8 (n.sg), ints .u8 (n.pa), #[.slice a_m n.ms.length c_m]] [#[.slice a_t ts.length c_t]] [] 99 (by rw [Qaa, Qaa, Qaa, Qaa, Qaa, Qaa]; simp only [Array.size_append, cat, ((Qac _ _).trans ho.n.gl), ((Qac _ _).trans ho.n.kl), ((Qac _ _).trans ho.n.pl)]; rfl) 0 _ rfl) kj) ?_
  refine Qak (fun v W' => v = .tuple #[] ∧ GW base gw W3 W' ∧ WSt base gw (Qe5 s n ts) W') 125 #[.pointer (some ⟨gw, 0, none⟩), .slice a_t ts.length c_t, .func (.func 126) #[] #[]] 17 rfl kj kj ((Qhg base gw _ ts _ _ _ (Nat.le_trans hbw x3.size) hbg ws7 hz.tn hz.tr (LsAt.gw stK hls x3 hbg)).mono (by rintro e w' ⟨rfl, h1, h2⟩; exact ⟨_, rfl, rfl, h1, h2⟩)) fun v8 W4 h8 => ?_
  obtain ⟨rfl, q4, ws8⟩ := h8
  have x4 : GW base gw w W4 := GW.trans x3 q4
  refine Qaf ?_
  repeat (first | with_reducible refine goX1 ?_ | with_reducible refine goX2 ?_ | with_reducible refine goX3 ?_)
  exact (show bodyPost _ _ _ .normal _ _ from end0 rfl ⟨rfl, x4, ws8⟩)
set_option maxHeartbeats 4000000 in
set_option maxRecDepth 100000 in
theorem Qjz (base gw : Nat) (s : Option (List Int)) (grp : List Int) (ep fr : Int) (bas : List Int) (ps : List PrV) (n : NdC) (ts : List StV) (tag sig : List Int) (a_p : Option Addr) (c_p : Nat) (a_m : Option Addr) (c_m : Nat) (a_t : Option Addr) (c_t : Nat) (w : World) (hbw : base ≤ w.heap.size) (hbg : base ≤ gw) (h : WSt base gw s w) (ho : CmOk grp bas n tag sig) (hz : CmSz ps n ts) (hcm : CmAt base w ps a_p n a_m c_m ts a_t) : Calls Try.prog 63 #[.pointer (some ⟨gw, 0, none⟩), .agg (cat [ints .u8 (grp), #[.int .i64 ep], #[.int .i64 fr], ints .u8 (bas), #[.slice a_p ps.length c_p], #[.bool n.us], #[.int .i64 n.nm], ints .u8 (n.key), ints .u8 (n.sg), ints .u8 (n.pa), #[.slice a_m n.ms.length c_m], #[.slice a_t ts.length c_t], ints .u8 (tag), ints .u8 (sig)])] w (fun e W => e = .returned (.tuple #[]) ∧ GW base gw w W ∧ WSt base gw (Qer s grp ep fr bas ps n ts tag sig) W) := by
  have hgw := h.lt
  refine enter 36 [(0, .pointer (some ⟨gw, 0, none⟩)), (1, .agg (cat [ints .u8 (grp), #[.int .i64 ep], #[.int .i64 fr], ints .u8 (bas), #[.slice a_p ps.length c_p], #[.bool n.us], #[.int .i64 n.nm], ints .u8 (n.key), ints .u8 (n.sg), ints .u8 (n.pa), #[.slice a_m n.ms.length c_m], #[.slice a_t ts.length c_t], ints .u8 (tag), ints .u8 (sig)]))] Try.func63 rfl rfl kj rfl ?_
  refine wp_seq_k fun K1 hK1 => ?_
  refine Qae ?_
  refine Qav (cat [ints .u8 (grp), #[.int .i64 ep], #[.int .i64 fr], ints .u8 (bas), #[.slice a_p ps.length c_p], #[.bool n.us], #[.int .i64 n.nm], ints .u8 (n.key), ints .u8 (n.sg), ints .u8 (n.pa), #[.slice a_m n.ms.length c_m], #[.slice a_t ts.length c_t], ints .u8 (tag), ints .u8 (sig)]) 59 3 rfl kj kj fun g2 W1 l2 e1 r2_1 => ?_
  have x1 : GW base gw w W1 := GW.ext (GW.refl base gw w) e1
  have ws3 := WSt.ext h e1
  have b2 : w.heap.size ≤ g2 := Nat.le_trans (GW.refl base gw w).size l2
  refine Qaf ?_
  refine hK1 _ _ ?_
  refine wp_seq_k fun K4 hK4 => ?_
  refine Qae ?_
  refine Qab (.pointer (some ⟨gw, 0, none⟩)) 4 rfl kj kj ?_
  refine Qab (.pointer (some ⟨g2, 0, none⟩)) 5 rfl kj kj ?_
  refine Qab (.slice (some ⟨g2, 0, none⟩) 32 32) 6 rfl kj kj ?_
  refine Qak (fun v W' => v = .tuple #[] ∧ GW base gw W1 W' ∧ WSt base gw (rawS (s) grp) W') 104 #[.pointer (some ⟨gw, 0, none⟩), .slice (some ⟨g2, 0, none⟩) 32 32] 7 rfl kj kj ((rawW base gw _ grp _ _ (Nat.le_trans hbw x1.size) ws3 (by rw [ho.rl]; decide) ho.rb (fun W e => (QaB 0 ho.rl (ExtB.row e r2_1 (Ne.symm (Nat.ne_of_lt (Nat.lt_of_lt_of_le hgw b2)))) (fun i hi => Qa8 [] [#[.int .i64 ep], #[.int .i64 fr], ints .u8 (bas), #[.slice a_p ps.length c_p], #[.bool n.us], #[.int .i64 n.nm], ints .u8 (n.key), ints .u8 (n.sg), ints .u8 (n.pa), #[.slice a_m n.ms.length c_m], #[.slice a_t ts.length c_t], ints .u8 (tag), ints .u8 (sig)] grp 0 i (0 + i) kj rfl (by rw [ho.rl]; exact hi)) (Qay (ExtB.row e r2_1 (Ne.symm (Nat.ne_of_lt (Nat.lt_of_lt_of_le hgw b2))))) (Nat.le_refl _) (by decide)))).mono (by rintro e w' ⟨rfl, h1, h2⟩; exact ⟨_, rfl, rfl, h1, h2⟩)) fun v5 W2 h5 => ?_
  obtain ⟨rfl, q2, ws5⟩ := h5
  have x2 : GW base gw w W2 := GW.trans x1 q2
  refine Qaf ?_
  refine hK4 _ _ ?_
  refine wp_seq_k fun K6 hK6 => ?_
  refine Qae ?_
  refine Qab (.pointer (some ⟨gw, 0, none⟩)) 8 rfl kj kj ?_
  refine Qab (.pointer (some ⟨g2, 32, none⟩)) 9 rfl kj kj ?_
  have r2_2 := (GW.row q2 r2_1 (by decide) (Ne.symm (Nat.ne_of_lt (Nat.lt_of_lt_of_le hgw b2))))
  refine Qab (.int .i64 ep) 10 rfl kj (Qag 3 _ g2 32 59 _ (.int .i64 ep) _ r2_2 rfl kj (Qah [ints .u8 (grp)] [#[.int .i64 ep]] [#[.int .i64 fr], ints .u8 (bas), #[.slice a_p ps.length c_p], #[.bool n.us], #[.int .i64 n.nm], ints .u8 (n.key), ints .u8 (n.sg), ints .u8 (n.pa), #[.slice a_m n.ms.length c_m], #[.slice a_t ts.length c_t], ints .u8 (tag), ints .u8 (sig)] 32 ((Qac _ _).trans ho.rl) 0 _ rfl) kj) ?_
  refine Qak (fun v W' => v = .tuple #[] ∧ GW base gw W2 W' ∧ WSt base gw (numS (rawS (s) grp) ep 4) W') 105 #[.pointer (some ⟨gw, 0, none⟩), .int .i64 ep, .int .i64 4] 11 rfl kj kj ((Qbn base gw _ ep 4 _ (Nat.le_trans hbw x2.size) ws5 (by decide)).mono (by rintro e w' ⟨rfl, h1, h2⟩; exact ⟨_, rfl, rfl, h1, h2⟩)) fun v7 W3 h7 => ?_
  obtain ⟨rfl, q3, ws7⟩ := h7
  have x3 : GW base gw w W3 := GW.trans x2 q3
  refine Qaf ?_
  refine hK6 _ _ ?_
  refine wp_seq_k fun K8 hK8 => ?_
  refine Qae ?_
  refine Qab (.pointer (some ⟨gw, 0, none⟩)) 12 rfl kj kj ?_
  refine Qab (.pointer (some ⟨g2, 33, none⟩)) 13 rfl kj kj ?_
  have r2_3 := (GW.row q3 r2_2 (by decide) (Ne.symm (Nat.ne_of_lt (Nat.lt_of_lt_of_le hgw b2))))
  refine Qab (.int .i64 fr) 14 rfl kj (Qag 3 _ g2 33 59 _ (.int .i64 fr) _ r2_3 rfl kj (Qah [ints .u8 (grp), #[.int .i64 ep]] [#[.int .i64 fr]] [ints .u8 (bas), #[.slice a_p ps.length c_p], #[.bool n.us], #[.int .i64 n.nm], ints .u8 (n.key), ints .u8 (n.sg), ints .u8 (n.pa), #[.slice a_m n.ms.length c_m], #[.slice a_t ts.length c_t], ints .u8 (tag), ints .u8 (sig)] 33 (by rw [Qaa, Qaa]; simp only [Array.size_append, cat, ((Qac _ _).trans ho.rl)]; rfl) 0 _ rfl) kj) ?_
  refine Qak (fun v W' => v = .tuple #[] ∧ GW base gw W3 W' ∧ WSt base gw (QaQ (numS (rawS (s) grp) ep 4) fr) W') 106 #[.pointer (some ⟨gw, 0, none⟩), .int .i64 fr] 15 rfl kj kj ((Qen base gw _ fr _ (Nat.le_trans hbw x3.size) ws7).mono (by rintro e w' ⟨rfl, h1, h2⟩; exact ⟨_, rfl, rfl, h1, h2⟩)) fun v9 W4 h9 => ?_
  obtain ⟨rfl, q4, ws9⟩ := h9
  have x4 : GW base gw w W4 := GW.trans x3 q4
  refine Qaf ?_
  refine hK8 _ _ ?_
  refine wp_seq_k fun K10 hK10 => ?_
  refine Qae ?_
  refine Qab (.pointer (some ⟨gw, 0, none⟩)) 16 rfl kj kj ?_
  refine Qab (.pointer (some ⟨g2, 34, none⟩)) 17 rfl kj kj ?_
  refine Qab (.slice (some ⟨g2, 34, none⟩) 32 32) 18 rfl kj kj ?_
  have r2_4 := (GW.row q4 r2_3 (by decide) (Ne.symm (Nat.ne_of_lt (Nat.lt_of_lt_of_le hgw b2))))
  refine Qak (fun v W' => v = .tuple #[] ∧ GW base gw W4 W' ∧ WSt base gw (rawS (QaQ (numS (rawS (s) grp) ep 4) fr) bas) W') 104 #[.pointer (some ⟨gw, 0, none⟩), .slice (some ⟨g2, 34, none⟩) 32 32] 19 rfl kj kj ((rawW base gw _ bas _ _ (Nat.le_trans hbw x4.size) ws9 (by rw [ho.al]; decide) ho.ab (fun W e => (QaB 34 ho.al (ExtB.row e r2_4 (Ne.symm (Nat.ne_of_lt (Nat.lt_of_lt_of_le hgw b2)))) (fun i hi => Qa8 [ints .u8 (grp), #[.int .i64 ep], #[.int .i64 fr]] [#[.slice a_p ps.length c_p], #[.bool n.us], #[.int .i64 n.nm], ints .u8 (n.key), ints .u8 (n.sg), ints .u8 (n.pa), #[.slice a_m n.ms.length c_m], #[.slice a_t ts.length c_t], ints .u8 (tag), ints .u8 (sig)] bas 34 i (34 + i) (by rw [Qaa, Qaa, Qaa]; simp only [Array.size_append, cat, ((Qac _ _).trans ho.rl)]; rfl) rfl (by rw [ho.al]; exact hi)) (Qay (ExtB.row e r2_4 (Ne.symm (Nat.ne_of_lt (Nat.lt_of_lt_of_le hgw b2))))) (Nat.le_refl _) (by decide)))).mono (by rintro e w' ⟨rfl, h1, h2⟩; exact ⟨_, rfl, rfl, h1, h2⟩)) fun v11 W5 h11 => ?_
  obtain ⟨rfl, q5, ws11⟩ := h11
  have x5 : GW base gw w W5 := GW.trans x4 q5
  refine Qaf ?_
  refine hK10 _ _ ?_
  refine wp_seq_k fun K12 hK12 => ?_
  refine Qae ?_
  refine Qab (.pointer (some ⟨gw, 0, none⟩)) 20 rfl kj kj ?_
  refine Qab (.pointer (some ⟨g2, 66, none⟩)) 21 rfl kj kj ?_
  have r2_5 := (GW.row q5 r2_4 (by decide) (Ne.symm (Nat.ne_of_lt (Nat.lt_of_lt_of_le hgw b2))))
  refine Qab (.slice a_p ps.length c_p) 22 rfl kj (Qag 54 _ g2 66 59 _ (.slice a_p ps.length c_p) _ r2_5 rfl kj (Qah [ints .u8 (grp), #[.int .i64 ep], #[.int .i64 fr], ints .u8 (bas)] [#[.slice a_p ps.length c_p]] [#[.bool n.us], #[.int .i64 n.nm], ints .u8 (n.key), ints .u8 (n.sg), ints .u8 (n.pa), #[.slice a_m n.ms.length c_m], #[.slice a_t ts.length c_t], ints .u8 (tag), ints .u8 (sig)] 66 (by rw [Qaa, Qaa, Qaa, Qaa]; simp only [Array.size_append, cat, ((Qac _ _).trans ho.al), ((Qac _ _).trans ho.rl)]; rfl) 0 _ rfl) kj) ?_
  refine Qak (fun v W' => v = .tuple #[] ∧ GW base gw W5 W' ∧ WSt base gw (Qc5 (rawS (QaQ (numS (rawS (s) grp) ep 4) fr) bas) ps) W') 113 #[.pointer (some ⟨gw, 0, none⟩), .slice a_p ps.length c_p, .func (.func 57) #[] #[]] 23 rfl kj kj ((Qhi base gw _ ps _ _ _ (Nat.le_trans hbw x5.size) hbg ws11 hz.pn hz.pm (LsAt.gw prK hcm.ps x5 hbg)).mono (by rintro e w' ⟨rfl, h1, h2⟩; exact ⟨_, rfl, rfl, h1, h2⟩)) fun v13 W6 h13 => ?_
  obtain ⟨rfl, q6, ws13⟩ := h13
  have x6 : GW base gw w W6 := GW.trans x5 q6
  refine Qaf ?_
  refine hK12 _ _ ?_
  refine wp_seq_k fun K14 hK14 => ?_
  refine Qae ?_
  refine Qab (.pointer (some ⟨gw, 0, none⟩)) 24 rfl kj kj ?_
  refine Qab (.pointer (some ⟨g2, 67, none⟩)) 25 rfl kj kj ?_
  have r2_6 := (GW.row q6 r2_5 (by decide) (Ne.symm (Nat.ne_of_lt (Nat.lt_of_lt_of_le hgw b2))))
  refine Qab (.agg (cat [#[.bool n.us], #[.int .i64 n.nm], ints .u8 (n.key), ints .u8 (n.sg), ints .u8 (n.pa), #[.slice a_m n.ms.length c_m], #[.slice a_t ts.length c_t]])) 26 rfl kj (Qau 57 _ g2 67 59 _ _ _ r2_6 rfl kj (Qah [ints .u8 (grp), #[.int .i64 ep], #[.int .i64 fr], ints .u8 (bas), #[.slice a_p ps.length c_p]] [#[.bool n.us], #[.int .i64 n.nm], ints .u8 (n.key), ints .u8 (n.sg), ints .u8 (n.pa), #[.slice a_m n.ms.length c_m], #[.slice a_t ts.length c_t]] [ints .u8 (tag), ints .u8 (sig)] 67 (by rw [Qaa, Qaa, Qaa, Qaa, Qaa]; simp only [Array.size_append, cat, ((Qac _ _).trans ho.al), ((Qac _ _).trans ho.rl)]; rfl)) kj (isz (n := 100) kj (by rw [Qaa, Qaa, Qaa, Qaa, Qaa, Qaa, Qaa]; simp only [Array.size_append, cat, ((Qac _ _).trans ho.n.gl), ((Qac _ _).trans ho.n.kl), ((Qac _ _).trans ho.n.pl)]; rfl))) ?_
  refine Qak (fun v W' => v = .tuple #[] ∧ GW base gw W6 W' ∧ WSt base gw (Qe5 (Qc5 (rawS (QaQ (numS (rawS (s) grp) ep 4) fr) bas) ps) n ts) W') 114 #[.pointer (some ⟨gw, 0, none⟩), .agg (cat [#[.bool n.us], #[.int .i64 n.nm], ints .u8 (n.key), ints .u8 (n.sg), ints .u8 (n.pa), #[.slice a_m n.ms.length c_m], #[.slice a_t ts.length c_t]])] 27 rfl kj kj ((Qjt base gw _ grp ep fr bas ps n ts tag sig a_p c_p a_m c_m a_t c_t _ (Nat.le_trans hbw x6.size) hbg ws13 ho hz (QcE hcm.m x6 hbg) (LsAt.gw stK hcm.ts x6 hbg)).mono (by rintro e w' ⟨rfl, h1, h2⟩; exact ⟨_, rfl, rfl, h1, h2⟩)) fun v15 W7 h15 => ?_
  obtain ⟨rfl, q7, ws15⟩ := h15
  have x7 : GW base gw w W7 := GW.trans x6 q7
  refine Qaf ?_
  refine hK14 _ _ ?_
  refine wp_seq_k fun K16 hK16 => ?_
  refine Qae ?_
  refine Qab (.pointer (some ⟨gw, 0, none⟩)) 28 rfl kj kj ?_
  refine Qab (.pointer (some ⟨g2, 167, none⟩)) 29 rfl kj kj ?_
  refine Qab (.slice (some ⟨g2, 167, none⟩) 32 32) 30 rfl kj kj ?_
  have r2_7 := (GW.row q7 r2_6 (by decide) (Ne.symm (Nat.ne_of_lt (Nat.lt_of_lt_of_le hgw b2))))
  refine Qak (fun v W' => v = .tuple #[] ∧ GW base gw W7 W' ∧ WSt base gw (rawS (Qe5 (Qc5 (rawS (QaQ (numS (rawS (s) grp) ep 4) fr) bas) ps) n ts) tag) W') 104 #[.pointer (some ⟨gw, 0, none⟩), .slice (some ⟨g2, 167, none⟩) 32 32] 31 rfl kj kj ((rawW base gw _ tag _ _ (Nat.le_trans hbw x7.size) ws15 (by rw [ho.gl]; decide) ho.gb (fun W e => (QaB 167 ho.gl (ExtB.row e r2_7 (Ne.symm (Nat.ne_of_lt (Nat.lt_of_lt_of_le hgw b2)))) (fun i hi => Qa8 [ints .u8 (grp), #[.int .i64 ep], #[.int .i64 fr], ints .u8 (bas), #[.slice a_p ps.length c_p], #[.bool n.us], #[.int .i64 n.nm], ints .u8 (n.key), ints .u8 (n.sg), ints .u8 (n.pa), #[.slice a_m n.ms.length c_m], #[.slice a_t ts.length c_t]] [ints .u8 (sig)] tag 167 i (167 + i) (by rw [Qaa, Qaa, Qaa, Qaa, Qaa, Qaa, Qaa, Qaa, Qaa, Qaa, Qaa, Qaa]; simp only [Array.size_append, cat, ((Qac _ _).trans ho.al), ((Qac _ _).trans ho.n.gl), ((Qac _ _).trans ho.n.kl), ((Qac _ _).trans ho.n.pl), ((Qac _ _).trans ho.rl)]; rfl) rfl (by rw [ho.gl]; exact hi)) (Qay (ExtB.row e r2_7 (Ne.symm (Nat.ne_of_lt (Nat.lt_of_lt_of_le hgw b2))))) (Nat.le_refl _) (by decide)))).mono (by rintro e w' ⟨rfl, h1, h2⟩; exact ⟨_, rfl, rfl, h1, h2⟩)) fun v17 W8 h17 => ?_
  obtain ⟨rfl, q8, ws17⟩ := h17
  have x8 : GW base gw w W8 := GW.trans x7 q8
  refine Qaf ?_
  refine hK16 _ _ ?_
  refine Qae ?_
  refine Qab (.pointer (some ⟨gw, 0, none⟩)) 32 rfl kj kj ?_
  refine Qab (.pointer (some ⟨g2, 199, none⟩)) 33 rfl kj kj ?_
  refine Qab (.slice (some ⟨g2, 199, none⟩) 64 64) 34 rfl kj kj ?_
  have r2_8 := (GW.row q8 r2_7 (by decide) (Ne.symm (Nat.ne_of_lt (Nat.lt_of_lt_of_le hgw b2))))
  refine Qak (fun v W' => v = .tuple #[] ∧ GW base gw W8 W' ∧ WSt base gw (rawS (rawS (Qe5 (Qc5 (rawS (QaQ (numS (rawS (s) grp) ep 4) fr) bas) ps) n ts) tag) sig) W') 104 #[.pointer (some ⟨gw, 0, none⟩), .slice (some ⟨g2, 199, none⟩) 64 64] 35 rfl kj kj ((rawW base gw _ sig _ _ (Nat.le_trans hbw x8.size) ws17 (by rw [ho.il]; decide) ho.ib (fun W e => (QaB 199 ho.il (ExtB.row e r2_8 (Ne.symm (Nat.ne_of_lt (Nat.lt_of_lt_of_le hgw b2)))) (fun i hi => Qa8 [ints .u8 (grp), #[.int .i64 ep], #[.int .i64 fr], ints .u8 (bas), #[.slice a_p ps.length c_p], #[.bool n.us], #[.int .i64 n.nm], ints .u8 (n.key), ints .u8 (n.sg), ints .u8 (n.pa), #[.slice a_m n.ms.length c_m], #[.slice a_t ts.length c_t], ints .u8 (tag)] [] sig 199 i (199 + i) (by rw [Qaa, Qaa, Qaa, Qaa, Qaa, Qaa, Qaa, Qaa, Qaa, Qaa, Qaa, Qaa, Qaa]; simp only [Array.size_append, cat, ((Qac _ _).trans ho.al), ((Qac _ _).trans ho.gl), ((Qac _ _).trans ho.n.gl), ((Qac _ _).trans ho.n.kl), ((Qac _ _).trans ho.n.pl), ((Qac _ _).trans ho.rl)]; rfl) rfl (by rw [ho.il]; exact hi)) (Qay (ExtB.row e r2_8 (Ne.symm (Nat.ne_of_lt (Nat.lt_of_lt_of_le hgw b2))))) (Nat.le_refl _) (by decide)))).mono (by rintro e w' ⟨rfl, h1, h2⟩; exact ⟨_, rfl, rfl, h1, h2⟩)) fun v18 W9 h18 => ?_
  obtain ⟨rfl, q9, ws18⟩ := h18
  have x9 : GW base gw w W9 := GW.trans x8 q9
  refine Qaf ?_
  repeat (first | with_reducible refine goX1 ?_ | with_reducible refine goX2 ?_ | with_reducible refine goX3 ?_)
  exact (show bodyPost _ _ _ .normal _ _ from end0 rfl ⟨rfl, x9, ws18⟩)
set_option maxHeartbeats 4000000 in
set_option maxRecDepth 100000 in
theorem Qgl (grp : List Int) (ep fr : Int) (bas : List Int) (ps : List PrV) (n : NdC) (ts : List StV) (tag sig : List Int) (a_p : Option Addr) (c_p : Nat) (a_m : Option Addr) (c_m : Nat) (a_t : Option Addr) (c_t : Nat) (w : World) (ho : CmOk grp bas n tag sig) (hz : CmSz ps n ts) (hcm : CmAt w.heap.size w ps a_p n a_m c_m ts a_t) : Calls Try.prog 62 #[.agg (cat [ints .u8 (grp), #[.int .i64 ep], #[.int .i64 fr], ints .u8 (bas), #[.slice a_p ps.length c_p], #[.bool n.us], #[.int .i64 n.nm], ints .u8 (n.key), ints .u8 (n.sg), ints .u8 (n.pa), #[.slice a_m n.ms.length c_m], #[.slice a_t ts.length c_t], ints .u8 (tag), ints .u8 (sig)]), .func (.func 63) #[] #[]] w (QbE w (PutR w.heap.size (Qer (some []) grp ep fr bas ps n ts tag sig))) := by
 refine enter 22 [(0, .agg (cat [ints .u8 (grp), #[.int .i64 ep], #[.int .i64 fr], ints .u8 (bas), #[.slice a_p ps.length c_p], #[.bool n.us], #[.int .i64 n.nm], ints .u8 (n.key), ints .u8 (n.sg), ints .u8 (n.pa), #[.slice a_m n.ms.length c_m], #[.slice a_t ts.length c_t], ints .u8 (tag), ints .u8 (sig)])), (1, .func (.func 63) #[] #[])] Try.func62 rfl rfl kj rfl ?_
 refine wp_seq_k fun K1 hK1 => ?_
 refine Qae ?_
 refine Qav (cat [ints .u8 (grp), #[.int .i64 ep], #[.int .i64 fr], ints .u8 (bas), #[.slice a_p ps.length c_p], #[.bool n.us], #[.int .i64 n.nm], ints .u8 (n.key), ints .u8 (n.sg), ints .u8 (n.pa), #[.slice a_m n.ms.length c_m], #[.slice a_t ts.length c_t], ints .u8 (tag), ints .u8 (sig)]) 59 2 rfl kj kj fun g2 W1 l2 e1 r2_1 => ?_
 have x1 : Ext w W1 := Ext.tr (Rely.Ext.refl w) e1
 have b2 : w.heap.size ≤ g2 := Nat.le_trans (Rely.Ext.refl w).size l2
 refine Qab (.slice none 0 0) 4 rfl kj kj ?_
 refine Qab (.nilIface) 5 rfl kj kj ?_
 refine Qaf ?_
 refine hK1 _ _ ?_
 refine wp_seq_k fun K3 hK3 => ?_
 refine Qae ?_
 refine Qab (.agg (cat [#[.slice none 0 0], #[.bool false]])) 7 rfl kj kj ?_
 refine Qav (cat [#[.slice none 0 0], #[.bool false]]) 174 8 rfl kj kj fun g4 W2 l4 e2 r4_2 => ?_
 have x2 : Ext w W2 := Ext.tr x1 e2
 have b4 : w.heap.size ≤ g4 := Nat.le_trans x1.size l4
 refine Qab (.pointer (some ⟨g4, 0, none⟩)) 6 rfl kj kj ?_
 refine Qaf ?_
 refine hK3 _ _ ?_
 refine wp_seq_k fun K5 hK5 => ?_
 refine Qae ?_
 refine Qab (.func (.func 63) #[] #[]) 9 rfl kj kj ?_
 refine Qab (.pointer (some ⟨g4, 0, none⟩)) 10 rfl kj kj ?_
 have r2_2 := (Qar r2_1 e2)
 refine Qab (.agg (cat [ints .u8 (grp), #[.int .i64 ep], #[.int .i64 fr], ints .u8 (bas), #[.slice a_p ps.length c_p], #[.bool n.us], #[.int .i64 n.nm], ints .u8 (n.key), ints .u8 (n.sg), ints .u8 (n.pa), #[.slice a_m n.ms.length c_m], #[.slice a_t ts.length c_t], ints .u8 (tag), ints .u8 (sig)])) 11 rfl kj (QaA 59 _ g2 59 _ _ r2_2 rfl kj kj (isz (n := 263) kj (by rw [Qaa, Qaa, Qaa, Qaa, Qaa, Qaa, Qaa, Qaa, Qaa, Qaa, Qaa, Qaa, Qaa, Qaa]; simp only [Array.size_append, cat, ((Qac _ _).trans ho.al), ((Qac _ _).trans ho.gl), ((Qac _ _).trans ho.il), ((Qac _ _).trans ho.n.gl), ((Qac _ _).trans ho.n.kl), ((Qac _ _).trans ho.n.pl), ((Qac _ _).trans ho.rl)]; rfl))) ?_
 refine Qak (fun v W' => v = .tuple #[] ∧ GW W1.heap.size g4 W2 W' ∧ WSt W1.heap.size g4 (Qer (some []) grp ep fr bas ps n ts tag sig) W') 63 #[.pointer (some ⟨g4, 0, none⟩), .agg (cat [ints .u8 (grp), #[.int .i64 ep], #[.int .i64 fr], ints .u8 (bas), #[.slice a_p ps.length c_p], #[.bool n.us], #[.int .i64 n.nm], ints .u8 (n.key), ints .u8 (n.sg), ints .u8 (n.pa), #[.slice a_m n.ms.length c_m], #[.slice a_t ts.length c_t], ints .u8 (tag), ints .u8 (sig)])] 12 rfl kj kj ((Qjz W1.heap.size g4 (some []) grp ep fr bas ps n ts tag sig a_p c_p a_m c_m a_t c_t _ (Nat.le_trans (Nat.le_refl _) e2.size) l4 ⟨_, [], false, r4_2, Qco .u8 5 _ _, Nat.zero_le _, (fun x hx => by cases hx), rfl⟩ ho hz ((hcm.ext x2).more (Nat.le_trans (Nat.le_refl _) e1.size))).mono (by rintro e w' ⟨rfl, h1, h2⟩; exact ⟨_, rfl, rfl, h1, h2⟩)) fun v6 W3 h6 => ?_
 obtain ⟨rfl, q3, u, xs, bad, rb3, how, -, -, hS⟩ := h6
 have x3 : Ext w W3 := GW.back x2 q3 (Nat.le_trans (Nat.le_refl _) e1.size) b4
 obtain ⟨au, cu, rfl, -⟩ := id (OwnN.rd how)
 refine Qaf ?_
 refine hK5 _ _ ?_
 refine wp_seq_k fun K7 hK7 => ?_
 refine wp_seq_k fun K8 hK8 => ?_
 refine Qae ?_
 refine Qab (.pointer (some ⟨g4, 0, none⟩)) 13 rfl kj kj ?_
 refine Qab (.pointer (some ⟨g4, 0, none⟩)) 14 rfl kj kj ?_
 refine Qab (.pointer (some ⟨g4, 1, none⟩)) 15 rfl kj kj ?_
 refine Qab (.bool bad) 16 rfl kj (Qag 4 _ g4 1 174 _ (.bool bad) _ rb3 rfl kj kj kj) ?_
 refine Qaf ?_
 refine hK8 _ _ ?_
 refine Qa5 (t := bad) kj (fun c9 => ?_) (fun c9 => ?_)
 ·skip
  refine wp_seq_k fun K10 hK10 => ?_
  refine Qae ?_
  refine Qab (.iface 102 (.int .i64 3)) 17 rfl kj kj ?_
  refine Qab (.slice none 0 0) 4 rfl kj kj ?_
  refine Qab (.iface 102 (.int .i64 3)) 5 rfl kj kj ?_
  refine Qaf ?_
  refine hK10 _ _ ?_
  refine wp_ret ?_
  repeat (first | with_reducible refine goR1 ?_ | with_reducible refine goR2 ?_)
  exact (show bodyPost _ _ _ .ret _ _ from ret2 (.slice none 0 0) (.iface 102 (.int .i64 3)) rfl (Qaw kj) (Qaw kj) ⟨_, rfl, x3, by rw [hS, c9]; exact rfl⟩)
 ·skip
  refine wp_skip ?_
  refine hK7 _ _ ?_
  refine wp_seq_k fun K11 hK11 => ?_
  refine Qae ?_
  refine Qab (.pointer (some ⟨g4, 0, none⟩)) 18 rfl kj kj ?_
  refine Qab (.pointer (some ⟨g4, 0, none⟩)) 19 rfl kj kj ?_
  refine Qab (.pointer (some ⟨g4, 0, none⟩)) 20 rfl kj kj ?_
  refine Qab (.slice au xs.length cu) 21 rfl kj (Qag 26 _ g4 0 174 _ (.slice au xs.length cu) _ rb3 rfl kj kj kj) ?_
  refine Qab (.slice au xs.length cu) 4 rfl kj kj ?_
  refine Qab (.nilIface) 5 rfl kj kj ?_
  refine Qaf ?_
  refine hK11 _ _ ?_
  refine wp_ret ?_
  repeat (first | with_reducible refine goR1 ?_ | with_reducible refine goR2 ?_)
  exact (show bodyPost _ _ _ .ret _ _ from ret2 (.slice au xs.length cu) (.nilIface) rfl (Qaw kj) (Qaw kj) ⟨_, rfl, x3, by rw [hS, c9]; exact ⟨_, rfl, OwnN.base (Nat.le_trans (Nat.le_refl _) e1.size) how⟩⟩)
set_option maxHeartbeats 4000000 in
set_option maxRecDepth 100000 in
theorem QgF (grp : List Int) (ep fr : Int) (bas : List Int) (ps : List PrV) (n : NdC) (ts : List StV) (tag sig : List Int) (a_p : Option Addr) (c_p : Nat) (a_m : Option Addr) (c_m : Nat) (a_t : Option Addr) (c_t : Nat) (w : World) (ho : CmOk grp bas n tag sig) (hz : CmSz ps n ts) (hcm : CmAt w.heap.size w ps a_p n a_m c_m ts a_t) (hS : Qer (some []) grp ep fr bas ps n ts tag sig = none) : Calls Try.prog 25 #[.agg (cat [ints .u8 (grp), #[.int .i64 ep], #[.int .i64 fr], ints .u8 (bas), #[.slice a_p ps.length c_p], #[.bool n.us], #[.int .i64 n.nm], ints .u8 (n.key), ints .u8 (n.sg), ints .u8 (n.pa), #[.slice a_m n.ms.length c_m], #[.slice a_t ts.length c_t], ints .u8 (tag), ints .u8 (sig)])] w (QbE w (PutR w.heap.size (none))) := by
  refine enter 8 [(0, .agg (cat [ints .u8 (grp), #[.int .i64 ep], #[.int .i64 fr], ints .u8 (bas), #[.slice a_p ps.length c_p], #[.bool n.us], #[.int .i64 n.nm], ints .u8 (n.key), ints .u8 (n.sg), ints .u8 (n.pa), #[.slice a_m n.ms.length c_m], #[.slice a_t ts.length c_t], ints .u8 (tag), ints .u8 (sig)]))] Try.func25 rfl rfl kj rfl ?_
  refine wp_seq_k fun K1 hK1 => ?_
  refine Qae ?_
  refine Qav (cat [ints .u8 (grp), #[.int .i64 ep], #[.int .i64 fr], ints .u8 (bas), #[.slice a_p ps.length c_p], #[.bool n.us], #[.int .i64 n.nm], ints .u8 (n.key), ints .u8 (n.sg), ints .u8 (n.pa), #[.slice a_m n.ms.length c_m], #[.slice a_t ts.length c_t], ints .u8 (tag), ints .u8 (sig)]) 59 1 rfl kj kj fun g2 W1 l2 e1 r2_1 => ?_
  have x1 : Ext w W1 := Ext.tr (Rely.Ext.refl w) e1
  have b2 : w.heap.size ≤ g2 := Nat.le_trans (Rely.Ext.refl w).size l2
  refine Qab (.slice none 0 0) 2 rfl kj kj ?_
  refine Qab (.nilIface) 3 rfl kj kj ?_
  refine Qaf ?_
  refine hK1 _ _ ?_
  refine wp_seq_k fun K3 hK3 => ?_
  refine Qae ?_
  refine Qab (.agg (cat [ints .u8 (grp), #[.int .i64 ep], #[.int .i64 fr], ints .u8 (bas), #[.slice a_p ps.length c_p], #[.bool n.us], #[.int .i64 n.nm], ints .u8 (n.key), ints .u8 (n.sg), ints .u8 (n.pa), #[.slice a_m n.ms.length c_m], #[.slice a_t ts.length c_t], ints .u8 (tag), ints .u8 (sig)])) 4 rfl kj (QaA 59 _ g2 59 _ _ r2_1 rfl kj kj (isz (n := 263) kj (by rw [Qaa, Qaa, Qaa, Qaa, Qaa, Qaa, Qaa, Qaa, Qaa, Qaa, Qaa, Qaa, Qaa, Qaa]; simp only [Array.size_append, cat, ((Qac _ _).trans ho.al), ((Qac _ _).trans ho.gl), ((Qac _ _).trans ho.il), ((Qac _ _).trans ho.n.gl), ((Qac _ _).trans ho.n.kl), ((Qac _ _).trans ho.n.pl), ((Qac _ _).trans ho.rl)]; rfl))) ?_
  refine Qak (fun v W' => (PutR W1.heap.size (Qer (some []) grp ep fr bas ps n ts tag sig)) v W' ∧ Ext W1 W') 62 #[.agg (cat [ints .u8 (grp), #[.int .i64 ep], #[.int .i64 fr], ints .u8 (bas), #[.slice a_p ps.length c_p], #[.bool n.us], #[.int .i64 n.nm], ints .u8 (n.key), ints .u8 (n.sg), ints .u8 (n.pa), #[.slice a_m n.ms.length c_m], #[.slice a_t ts.length c_t], ints .u8 (tag), ints .u8 (sig)]), .func (.func 63) #[] #[]] 5 rfl kj kj ((Qgl grp ep fr bas ps n ts tag sig a_p c_p a_m c_m a_t c_t _ ho hz (hcm.ext x1).here).mono (by rintro e w' ⟨v, rfl, e1, hv⟩; exact ⟨v, rfl, hv, e1⟩)) fun vv4 W2 hh4 => ?_
  obtain ⟨hv4, e2⟩ := hh4
  have x2 : Ext w W2 := Ext.tr x1 e2
  rw [hS] at hv4
  have hv2 : vv4 = .tuple #[.slice none 0 0, .iface 102 (.int .i64 3)] := hv4
  subst hv2
  refine Qab (.slice none 0 0) 6 rfl kj kj ?_
  refine Qab (.iface 102 (.int .i64 3)) 7 rfl kj kj ?_
  refine Qab (.slice none 0 0) 2 rfl kj kj ?_
  refine Qab (.iface 102 (.int .i64 3)) 3 rfl kj kj ?_
  refine Qaf ?_
  refine hK3 _ _ ?_
  refine wp_ret ?_
  repeat (first | with_reducible refine goR1 ?_ | with_reducible refine goR2 ?_)
  exact (show bodyPost _ _ _ .ret _ _ from ret2 (.slice none 0 0) (.iface 102 (.int .i64 3)) rfl (Qaw kj) (Qaw kj) ⟨_, rfl, x2, rfl⟩)
set_option maxHeartbeats 4000000 in
set_option maxRecDepth 100000 in
theorem QgE (grp : List Int) (ep fr : Int) (bas : List Int) (ps : List PrV) (n : NdC) (ts : List StV) (tag sig : List Int) (a_p : Option Addr) (c_p : Nat) (a_m : Option Addr) (c_m : Nat) (a_t : Option Addr) (c_t : Nat) (w : World) (ho : CmOk grp bas n tag sig) (hz : CmSz ps n ts) (hcm : CmAt w.heap.size w ps a_p n a_m c_m ts a_t) (xs : List Int) (hS : Qer (some []) grp ep fr bas ps n ts tag sig = some xs) : Calls Try.prog 25 #[.agg (cat [ints .u8 (grp), #[.int .i64 ep], #[.int .i64 fr], ints .u8 (bas), #[.slice a_p ps.length c_p], #[.bool n.us], #[.int .i64 n.nm], ints .u8 (n.key), ints .u8 (n.sg), ints .u8 (n.pa), #[.slice a_m n.ms.length c_m], #[.slice a_t ts.length c_t], ints .u8 (tag), ints .u8 (sig)])] w (QbE w (PutR w.heap.size (some xs))) := by
  refine enter 8 [(0, .agg (cat [ints .u8 (grp), #[.int .i64 ep], #[.int .i64 fr], ints .u8 (bas), #[.slice a_p ps.length c_p], #[.bool n.us], #[.int .i64 n.nm], ints .u8 (n.key), ints .u8 (n.sg), ints .u8 (n.pa), #[.slice a_m n.ms.length c_m], #[.slice a_t ts.length c_t], ints .u8 (tag), ints .u8 (sig)]))] Try.func25 rfl rfl kj rfl ?_
  refine wp_seq_k fun K1 hK1 => ?_
  refine Qae ?_
  refine Qav (cat [ints .u8 (grp), #[.int .i64 ep], #[.int .i64 fr], ints .u8 (bas), #[.slice a_p ps.length c_p], #[.bool n.us], #[.int .i64 n.nm], ints .u8 (n.key), ints .u8 (n.sg), ints .u8 (n.pa), #[.slice a_m n.ms.length c_m], #[.slice a_t ts.length c_t], ints .u8 (tag), ints .u8 (sig)]) 59 1 rfl kj kj fun g2 W1 l2 e1 r2_1 => ?_
  have x1 : Ext w W1 := Ext.tr (Rely.Ext.refl w) e1
  have b2 : w.heap.size ≤ g2 := Nat.le_trans (Rely.Ext.refl w).size l2
  refine Qab (.slice none 0 0) 2 rfl kj kj ?_
  refine Qab (.nilIface) 3 rfl kj kj ?_
  refine Qaf ?_
  refine hK1 _ _ ?_
  refine wp_seq_k fun K3 hK3 => ?_
  refine Qae ?_
  refine Qab (.agg (cat [ints .u8 (grp), #[.int .i64 ep], #[.int .i64 fr], ints .u8 (bas), #[.slice a_p ps.length c_p], #[.bool n.us], #[.int .i64 n.nm], ints .u8 (n.key), ints .u8 (n.sg), ints .u8 (n.pa), #[.slice a_m n.ms.length c_m], #[.slice a_t ts.length c_t], ints .u8 (tag), ints .u8 (sig)])) 4 rfl kj (QaA 59 _ g2 59 _ _ r2_1 rfl kj kj (isz (n := 263) kj (by rw [Qaa, Qaa, Qaa, Qaa, Qaa, Qaa, Qaa, Qaa, Qaa, Qaa, Qaa, Qaa, Qaa, Qaa]; simp only [Array.size_append, cat, ((Qac _ _).trans ho.al), ((Qac _ _).trans ho.gl), ((Qac _ _).trans ho.il), ((Qac _ _).trans ho.n.gl), ((Qac _ _).trans ho.n.kl), ((Qac _ _).trans ho.n.pl), ((Qac _ _).trans ho.rl)]; rfl))) ?_
  refine Qak (fun v W' => (PutR W1.heap.size (Qer (some []) grp ep fr bas ps n ts tag sig)) v W' ∧ Ext W1 W') 62 #[.agg (cat [ints .u8 (grp), #[.int .i64 ep], #[.int .i64 fr], ints .u8 (bas), #[.slice a_p ps.length c_p], #[.bool n.us], #[.int .i64 n.nm], ints .u8 (n.key), ints .u8 (n.sg), ints .u8 (n.pa), #[.slice a_m n.ms.length c_m], #[.slice a_t ts.length c_t], ints .u8 (tag), ints .u8 (sig)]), .func (.func 63) #[] #[]] 5 rfl kj kj ((Qgl grp ep fr bas ps n ts tag sig a_p c_p a_m c_m a_t c_t _ ho hz (hcm.ext x1).here).mono (by rintro e w' ⟨v, rfl, e1, hv⟩; exact ⟨v, rfl, hv, e1⟩)) fun vv4 W2 hh4 => ?_
  obtain ⟨hv4, e2⟩ := hh4
  have x2 : Ext w W2 := Ext.tr x1 e2
  rw [hS] at hv4
  obtain ⟨u5_, rfl, hu5_⟩ := hv4
  obtain ⟨a5_, c5_, rfl, -⟩ := id (OwnN.rd hu5_)
  refine Qab (.slice a5_ ((xs).length) c5_) 6 rfl kj kj ?_
  refine Qab (.nilIface) 7 rfl kj kj ?_
  refine Qab (.slice a5_ ((xs).length) c5_) 2 rfl kj kj ?_
  refine Qab (.nilIface) 3 rfl kj kj ?_
  refine Qaf ?_
  refine hK3 _ _ ?_
  refine wp_ret ?_
  repeat (first | with_reducible refine goR1 ?_ | with_reducible refine goR2 ?_)
  exact (show bodyPost _ _ _ .ret _ _ from ret2 (.slice a5_ ((xs).length) c5_) (.nilIface) rfl (Qaw kj) (Qaw kj) ⟨_, rfl, x2, _, rfl, OwnN.base x1.size hu5_⟩)
end Go.Proofs.Ytfelfmchachljaa.Wr
end
