/- Texts of this claim, joined (B4). -/
import Derived.Test.YtcmaolmofgmkhaaDoorZB3
import Derived.Lib.SmallJoins
import Derived.Lib.LaidTab
import Derived.Deep.Strs

section
namespace Go.Proofs.YtcmaolmofgmkhaaDoor.Te
open Go Go.RowKit
open Rely Auto Own Seat Sha
set_option linter.unusedVariables false
set_option linter.unusedSimpArgs false
def dbl (i : Int) : Int := IntKind.i64.wrap (2 * i)
def resL (ts : List NdV) (x k : Nat) : List Int := ((x : Nat) : Int) :: ((ndi ts x).n.ms.take k).map dbl
theorem QdQ (ts : List NdV) (x k : Nat) : (resL ts x k).length ≤ k + 1 := by unfold resL; simp; omega
theorem Qey {ts : List NdV} {x k : Nat} (h : k < (ndi ts x).n.ms.length) : resL ts x (k + 1) = resL ts x k ++ [dbl (nth (ndi ts x).n.ms k)] := by
  unfold resL
  rw [List.take_add_one, List.map_append, List.cons_append, List.getElem?_eq_getElem h]
  simp [nth, List.getD_eq_getElem?_getD, List.getElem?_eq_getElem h]
def resN (ts : List NdV) : Nat → Nat → List Int
  | 0, x => if (ndi ts x).n.us = true then resL ts x (ndi ts x).n.ms.length else []
  | k + 1, x => if (ndi ts x).n.us = true then resL ts x (ndi ts x).n.ms.length else if kidL ((x : Nat) : Int) < 0 then [] else resN ts k (kidL ((x : Nat) : Int)).toNat ++ resN ts k (kidR ((x : Nat) : Int)).toNat
theorem Qgg {ts : List NdV} {x : Nat} (k : Nat) (h : (ndi ts x).n.us = true) : resN ts k x = resL ts x (ndi ts x).n.ms.length := by cases k <;> (unfold resN; rw [if_pos h])
theorem Qgh {ts : List NdV} {x : Nat} (k : Nat) (h : (ndi ts x).n.us = false) (h2 : kidL ((x : Nat) : Int) < 0) : resN ts k x = [] := by cases k <;> (unfold resN; rw [if_neg (by rw [h]; decide)]); rw [if_pos h2]
theorem Qfh {ts : List NdV} {x l r : Nat} (k : Nat) (h : (ndi ts x).n.us = false) (hl : kidL ((x : Nat) : Int) = ((l : Nat) : Int)) (hr : kidR ((x : Nat) : Int) = ((r : Nat) : Int)) : resN ts (k + 1) x = resN ts k l ++ resN ts k r := by
  show (if _ then _ else if _ then _ else _) = _
  rw [if_neg (by rw [h]; decide), if_neg (by omega), hl, hr]; rfl
theorem Qcy {ts : List NdV} {b : Nat} (hm : ∀ i, i < ts.length → (ndi ts i).n.ms.length ≤ b) : ∀ k x, (resN ts k x).length ≤ 2 ^ k * (b + 1) := by
  have h0 : ∀ x, (resL ts x (ndi ts x).n.ms.length).length ≤ b + 1 := fun x => by
    have h1 := QdQ ts x (ndi ts x).n.ms.length
    rcases Nat.lt_or_ge x ts.length with h | h
    · have := hm x h; omega
    · have : (ndi ts x).n.ms.length = 0 := by unfold ndi; rw [List.getD_eq_getElem?_getD, List.getElem?_eq_none h]; rfl
      omega
  intro k
  induction k with
  | zero => intro x; unfold resN; split; (have := h0 x; omega); exact Nat.zero_le _
  | succ k ih =>
    intro x; unfold resN; split
    · exact Nat.le_trans (h0 x) (Nat.le_mul_of_pos_left _ (Nat.two_pow_pos _))
    · split
      · exact Nat.zero_le _
      · rw [List.length_append]; have h1 := ih (kidL ((x : Nat) : Int)).toNat; have h2 := ih (kidR ((x : Nat) : Int)).toNat; rw [Nat.pow_succ, Nat.mul_right_comm]; omega
theorem QiE : Qb9 (fun n x => decide (lv x ≤ 5) && (decide (kidL x = -1) && decide (kidR x = -1) || (Qat (kidL x) n && Qat (kidR x) n && decide (lv (kidL x) = lv x - 1) && decide (lv (kidR x) = lv x - 1)))) = true := by decide +kernel
def resT (ts : List NdV) (x : Nat) : List Int := resN ts 5 x
theorem Qc1 {x n : Int} (h : Qat x n = true) : lv x ≤ 5 ∧ ((kidL x = -1 ∧ kidR x = -1) ∨ (Qat (kidL x) n = true ∧ Qat (kidR x) n = true ∧ lv (kidL x) = lv x - 1 ∧ lv (kidR x) = lv x - 1)) := by
  have := QaK QiE h
  simpa [and_assoc] using this
theorem QdU {x n : Int} (h : Qat x n = true) : 0 ≤ x := by unfold Qat at h; simp at h; omega
theorem QdV {x n : Int} (h : Qat x n = true) : x ≤ 2 * n - 2 := by unfold Qat at h; simp at h; omega
set_option maxRecDepth 100000 in
set_option maxHeartbeats 4000000 in
theorem Qh6 (ts : List NdV) (a_t : Option Addr) (c_t B1 : Nat) (htl : ts.length ≤ 100000) (hmt : ∀ i, i < ts.length → (ndi ts i).n.ms.length ≤ 1000000) (w : World) (ht : TrAt B1 w a_t ts) (hT : TabAt w) (kN : Nat) (x : Nat) (hx : x < ts.length) (hus : (ndi ts x).n.us = true) : Calls Tryd.prog 48 #[.slice a_t ts.length c_t, .int .i64 ((x : Nat) : Int)] w (Qbr w (OwnN .i64 3 w.heap.size (resN ts kN x))) := by
 refine enter 48 [(0, .slice a_t ts.length c_t), (1, .int .i64 ((x : Nat) : Int))] Tryd.func48 rfl rfl kj rfl ?_
 refine wp_seq_k fun K1 hK1 => ?_
 refine Qab ?_
 refine Qaa (.slice none 0 0) 4 rfl kj kj ?_
 refine Qae ?_
 refine hK1 _ _ ?_
 refine wp_seq_k fun K2 hK2 => ?_
 refine wp_seq_k fun K3 hK3 => ?_
 obtain ⟨gyT, oyT, hay, hnys⟩ := TrAt.ext ht (Rely.Ext.refl w)
 have hny := hnys (x) (by omega)
 obtain ⟨ny, eny⟩ : ∃ z, z = ndi ts (x) := ⟨_, rfl⟩
 rw [← eny] at hny
 have oky := hny.ok
 have rdy := hny.rd
 skip
 ·skip
  refine Qab ?_
  refine Qaa (.slice a_t ts.length c_t) 10 rfl kj kj ?_
  refine Qaa (.int .i64 ((x : Nat) : Int)) 11 rfl kj kj ?_
  refine Qaa (.pointer (some ⟨gyT, oyT + (x) * 99, none⟩)) 12 rfl kj (Qal 23 _ _ .i64 (x) gyT oyT ts.length c_t 41 99 a_t (hay (by omega)) rfl kj kj kj kj (by omega)) ?_
  refine Qaa (.pointer (some ⟨gyT, oyT + (x) * 99, none⟩)) 13 rfl kj kj ?_
  refine Qaa (.bool true) 14 rfl kj (Qai 4 _ _ (.bool true) ((NdAt.at3 hny).1.trans (congrArg (fun z => some (Value.bool z)) (eny ▸ hus))) rfl kj kj) ?_
  refine Qae ?_
  refine hK3 _ _ ?_
  refine cond_true kj ?_
  refine wp_seq_k fun K4 hK4 => ?_
  refine Qab ?_
  refine Qaa (.int .i64 ((x : Nat) : Int)) 15 rfl kj kj ?_
  refine Qb0 (ints .i64 ([((x : Nat) : Int)])) 3 1 16 rfl kj kj fun g5 W1 l5 e1 r5_1 => ?_
  have x1 : Ext w W1 := Ext.tr (Rely.Ext.refl w) e1
  have b5 : w.heap.size ≤ g5 := Nat.le_trans (Rely.Ext.refl w).size l5
  refine Qaa (.slice (some ⟨g5, 0, none⟩) 1 1) 5 rfl kj kj ?_
  refine Qae ?_
  refine hK4 _ _ ?_
  refine wp_seq_k fun K6 hK6 => ?_
  refine wp_seq_k fun K7 hK7 => ?_
  skip
  ·skip
   refine Qab ?_
   refine Qaa (.slice a_t ts.length c_t) 17 rfl kj kj ?_
   refine Qaa (.int .i64 ((x : Nat) : Int)) 18 rfl kj kj ?_
   refine Qaa (.pointer (some ⟨gyT, oyT + (x) * 99, none⟩)) 19 rfl kj (Qal 23 _ _ .i64 (x) gyT oyT ts.length c_t 41 99 a_t (hay (by omega)) rfl kj kj kj kj (by omega)) ?_
   refine Qaa (.pointer (some ⟨gyT, oyT + (x) * 99 + 98, none⟩)) 20 rfl kj kj ?_
   have y0_1 : Ext w W1 := (Rely.Ext.trans (Rely.Ext.refl w) e1)
   refine Qaa (.slice ny.a ny.n.ms.length ny.c) 21 rfl kj (Qai 36 _ _ (.slice ny.a ny.n.ms.length ny.c) (NdAt.at3 (NdAt.ext hny y0_1)).2.2 rfl kj kj) ?_
   refine Qaa (.int .i64 ((ny.n.ms.length : Nat) : Int)) 22 rfl kj kj ?_
   refine Qaa (.int .i64 0) 23 rfl kj kj ?_
   refine Qae ?_
   refine hK7 _ _ ?_
   refine wp_block ?_
   refine Qa6 (fun (s1 : Nat × Value) => [(0, .slice a_t ts.length c_t), (1, .int .i64 ((x : Nat) : Int)), (5, s1.2), (21, .slice ny.a ny.n.ms.length ny.c), (22, .int .i64 ((ny.n.ms.length : Nat) : Int)), (23, .int .i64 ((s1.1 : Nat) : Int))]) (fun (s1 : Nat × Value) W => (s1.1 ≤ (ndi ts x).n.ms.length) ∧ (OwnN .i64 3 w.heap.size (resL ts x s1.1) s1.2 W) ∧ (Below w.heap.size W1 W) ∧ (Ext w W)) (fun (s1 : Nat × Value) => (ndi ts x).n.ms.length - s1.1) (0, (.slice (some ⟨g5, 0, none⟩) 1 1)) ⟨rfl, rfl, rfl, rfl, rfl, rfl, trivial⟩ ⟨(Nat.zero_le _), (QdS (xs := [((x : Nat) : Int)]) rfl b5 r5_1 (by decide)), (RowKit.Below.refl _ W1), x1⟩ fun s1 X1 V1 hI1 => ?_
   obtain ⟨k, u⟩ := s1
   obtain ⟨hk, hu, kk1, xx1⟩ := hI1
   replace hk : k ≤ (ndi ts x).n.ms.length := hk
   replace hu : OwnN .i64 3 w.heap.size (resL ts x k) u V1 := hu
   replace kk1 : Below w.heap.size W1 V1 := kk1
   replace xx1 : Ext w V1 := xx1
   have l2 := kk1
   have hk2 : k ≤ ny.n.ms.length := eny ▸ hk
   have hnm : ny.n.ms.length ≤ 1000000 := eny ▸ hmt x hx
   refine wp_seq_k fun K8 hK8 => ?_
   refine Qab ?_
   refine Qaa (.bool (decide (((k : Nat) : Int) < ((ny.n.ms.length : Nat) : Int)))) 24 rfl kj kj ?_
   refine Qae ?_
   refine hK8 _ _ ?_
   refine wp_seq_k fun K9 hK9 => ?_
   refine Qau (t := decide (((k : Nat) : Int) < ((ny.n.ms.length : Nat) : Int))) kj (fun c10 => ?_) (fun c10 => ?_)
   ·skip
    have hlt24 : k < ny.n.ms.length := by have := of_decide_eq_true c10; omega
    have hlt := hlt24
    have y0_2 : Ext w V1 := (Ext.low y0_1 l2 (Rely.Ext.refl w).size)
    have hnx_11 : (ny.n.ms).length = ny.n.ms.length := rfl
    obtain ⟨gcx_11, ocx_11, hax_11, hlx_11, hcx_11⟩ := Qbk (RdK.here (RdK.ext rdy y0_2)) (by rw [hnx_11]; omega)
    refine wp_skip ?_
    refine hK9 _ _ ?_
    refine wp_seq_k fun K12 hK12 => ?_
    refine wp_block ?_
    refine wp_seq_k fun K13 hK13 => ?_
    refine Qab ?_
    refine Qaa (.pointer (some ⟨gcx_11, ocx_11 + k, none⟩)) 25 rfl kj (QaA 36 _ _ .i64 k gcx_11 ocx_11 ny.n.ms.length ny.c 3 ny.a _ hax_11 rfl rfl kj kj kj kj (Nat.lt_of_lt_of_eq (show k < ny.n.ms.length by omega) hnx_11.symm)) ?_
    refine Qaa (.int .i64 (nth (ny.n.ms) (k))) 26 rfl kj (Qai 3 _ _ (.int .i64 (nth (ny.n.ms) (k))) (hcx_11 k (Nat.lt_of_lt_of_eq (show k < ny.n.ms.length by omega) hnx_11.symm)) rfl kj kj) ?_
    refine Qaa (.int .i64 (nth (ny.n.ms) (k))) 7 rfl kj kj ?_
    refine Qae ?_
    refine hK13 _ _ ?_
    refine Qab ?_
    refine Qaa (u) 27 rfl kj kj ?_
    refine Qaa (.int .i64 (nth (ny.n.ms) (k))) 28 rfl kj kj ?_
    refine Qaa (.int .i64 ((dbl (nth ny.n.ms k)))) 29 rfl kj (Qak (u := .int .i64 (IntKind.i64.wrap (2 * (nth (ny.n.ms) (k))))) kj (congrArg (Value.int .i64) rfl)) ?_
    refine Qb0 (ints .i64 ([((dbl (nth ny.n.ms k)))])) 3 1 30 rfl kj kj fun g14 W3 l14 e3 r14_3 => ?_
    have x3 : Ext w W3 := Ext.tr xx1 e3
    have b14 : w.heap.size ≤ g14 := Nat.le_trans xx1.size l14
    have f15_3 := (hu.ext e3)
    have y0_3 : Ext w W3 := (Rely.Ext.trans y0_2 e3)
    refine QbC (k := .i64) (T := 3) (xs := resL ts x k) (ys := [dbl (nth ny.n.ms k)]) (V := w) 8 (.tmp 27) (.tmp 30) 36 rfl kj kj (by decide) 31 rfl kj kj kj f15_3 (Qfj (xs := [((dbl (nth ny.n.ms k)))]) (n := 1) rfl r14_3 (QaC r14_3) (show 1 ≤ maxLen from by decide)) (by have h9 := QdQ ts x k; have h8 := hmt x hx; rw [eny] at hlt; show (resL ts x k).length + 1 ≤ 1000000000; omega) y0_3 fun u2 W4 f16 y4 l4 => ?_
    have x4 : Ext w W4 := Ext.low x3 l4 (Rely.Ext.refl w).size
    refine Qaa (u2) 5 rfl kj kj ?_
    refine Qae ?_
    refine hK12 _ _ ?_
    refine Qab ?_
    refine Qaa (.int .i64 ((k + 1 : Nat) : Int)) 32 rfl kj (Qak (u := .int .i64 (IntKind.i64.wrap (((k : Nat) : Int) + 1))) kj (congrArg (Value.int .i64) (i64n _ _ (by omega) (by omega)))) ?_
    refine Qaa (.int .i64 ((k + 1 : Nat) : Int)) 23 rfl kj kj ?_
    refine Qae ?_
    repeat (first | with_reducible refine goX1 ?_ | with_reducible refine goX2 ?_ | with_reducible refine goX3 ?_)
    exact Qaw ((k + 1), u2) ⟨rfl, rfl, rfl, rfl, rfl, rfl, trivial⟩ ⟨(eny ▸ hlt), (by rw [Qey (eny ▸ hlt), ← eny]; exact f16), (RowKit.Below.trans (RowKit.Below.trans l2 (RowKit.Below.mono e3 y0_2.size)) l4), x4⟩ (by show (ndi ts x).n.ms.length - (k + 1) < (ndi ts x).n.ms.length - k; rw [eny] at hlt; omega)
   ·skip
    have heq24 : k = ny.n.ms.length := by have := of_decide_eq_false c10; omega
    have hlt := heq24
    refine wp_exit ?_
    refine hK6 _ _ ?_
    refine wp_seq_k fun K17 hK17 => ?_
    refine Qab ?_
    refine Qaa (u) 33 rfl kj kj ?_
    refine Qaa (u) 4 rfl kj kj ?_
    refine Qae ?_
    refine hK17 _ _ ?_
    refine wp_ret ?_
    repeat (first | with_reducible refine goR1 ?_ | with_reducible refine goR2 ?_)
    exact (show bodyPost _ _ _ .ret _ _ from ret1 (u) rfl (Qap kj) ⟨u, rfl, xx1, by rw [Qgg kN hus, show (ndi ts x).n.ms.length = k by rw [← eny, hlt]]; exact hu⟩)
set_option maxRecDepth 100000 in
set_option maxHeartbeats 4000000 in
theorem Qh5 (ts : List NdV) (a_t : Option Addr) (c_t B1 : Nat) (htl : ts.length ≤ 100000) (hmt : ∀ i, i < ts.length → (ndi ts i).n.ms.length ≤ 1000000) (w : World) (ht : TrAt B1 w a_t ts) (hT : TabAt w) (k : Nat) (x : Nat) (hx : x < ts.length) (hus : (ndi ts x).n.us = false) (h0 : kidL ((x : Nat) : Int) = -1) (hkid : ∀ W, TabAt W → Calls Tryd.prog 67 #[.int .i64 ((x : Nat) : Int)] W (Ret W (.tuple #[.int .i64 (-1), .int .i64 (-1)]))) : Calls Tryd.prog 48 #[.slice a_t ts.length c_t, .int .i64 ((x : Nat) : Int)] w (Qbr w (OwnN .i64 3 w.heap.size (resN ts k x))) := by
 refine enter 48 [(0, .slice a_t ts.length c_t), (1, .int .i64 ((x : Nat) : Int))] Tryd.func48 rfl rfl kj rfl ?_
 refine wp_seq_k fun K1 hK1 => ?_
 refine Qab ?_
 refine Qaa (.slice none 0 0) 4 rfl kj kj ?_
 refine Qae ?_
 refine hK1 _ _ ?_
 refine wp_seq_k fun K2 hK2 => ?_
 refine wp_seq_k fun K3 hK3 => ?_
 obtain ⟨gyT, oyT, hay, hnys⟩ := TrAt.ext ht (Rely.Ext.refl w)
 have hny := hnys (x) (by omega)
 obtain ⟨ny, eny⟩ : ∃ z, z = ndi ts (x) := ⟨_, rfl⟩
 rw [← eny] at hny
 have oky := hny.ok
 have rdy := hny.rd
 skip
 ·skip
  refine Qab ?_
  refine Qaa (.slice a_t ts.length c_t) 10 rfl kj kj ?_
  refine Qaa (.int .i64 ((x : Nat) : Int)) 11 rfl kj kj ?_
  refine Qaa (.pointer (some ⟨gyT, oyT + (x) * 99, none⟩)) 12 rfl kj (Qal 23 _ _ .i64 (x) gyT oyT ts.length c_t 41 99 a_t (hay (by omega)) rfl kj kj kj kj (by omega)) ?_
  refine Qaa (.pointer (some ⟨gyT, oyT + (x) * 99, none⟩)) 13 rfl kj kj ?_
  refine Qaa (.bool false) 14 rfl kj (Qai 4 _ _ (.bool false) ((NdAt.at3 hny).1.trans (congrArg (fun z => some (Value.bool z)) (eny ▸ hus))) rfl kj kj) ?_
  refine Qae ?_
  refine hK3 _ _ ?_
  refine cond_false kj ?_
  refine wp_skip ?_
  refine hK2 _ _ ?_
  refine wp_seq_k fun K4 hK4 => ?_
  refine Qab ?_
  refine Qaa (.int .i64 ((x : Nat) : Int)) 35 rfl kj kj ?_
  refine Qam (.tuple #[.int .i64 (-1), .int .i64 (-1)]) 67 #[.int .i64 ((x : Nat) : Int)] 36 rfl kj kj (hkid _ (TabAt.ext hT (Rely.Ext.refl w))) fun W1 e1 => ?_
  have x1 : Ext w W1 := Ext.tr (Rely.Ext.refl w) e1
  refine Qaa (.tuple #[.int .i64 (-1), .int .i64 (-1)]) 34 rfl kj kj ?_
  refine Qaa (.int .i64 (-1)) 37 rfl kj kj ?_
  refine Qaa (.int .i64 (-1)) 38 rfl kj kj ?_
  refine Qaa (.int .i64 (-1)) 8 rfl kj kj ?_
  refine Qaa (.int .i64 (-1)) 9 rfl kj kj ?_
  refine Qae ?_
  refine hK4 _ _ ?_
  refine wp_seq_k fun K5 hK5 => ?_
  refine wp_seq_k fun K6 hK6 => ?_
  refine Qab ?_
  refine Qaa (.int .i64 (-1)) 39 rfl kj kj ?_
  refine Qaa (.bool true) 40 rfl kj kj ?_
  refine Qae ?_
  refine hK6 _ _ ?_
  refine cond_true kj ?_
  refine wp_seq_k fun K7 hK7 => ?_
  refine Qab ?_
  refine Qaa (.slice none 0 0) 4 rfl kj kj ?_
  refine Qae ?_
  refine hK7 _ _ ?_
  refine wp_ret ?_
  repeat (first | with_reducible refine goR1 ?_ | with_reducible refine goR2 ?_)
  exact (show bodyPost _ _ _ .ret _ _ from ret1 (.slice none 0 0) rfl (Qap kj) ⟨_, rfl, x1, by rw [Qgh k hus (by omega)]; exact Qc0 _ _ _ _⟩)
set_option maxRecDepth 100000 in
set_option maxHeartbeats 4000000 in
theorem Qjp (ts : List NdV) (a_t : Option Addr) (c_t B1 : Nat) (htl : ts.length ≤ 100000) (hmt : ∀ i, i < ts.length → (ndi ts i).n.ms.length ≤ 1000000) (w : World) (ht : TrAt B1 w a_t ts) (hT : TabAt w) (k : Nat) (x : Nat) (hx : x < ts.length) (hus : (ndi ts x).n.us = false) (hk5 : k ≤ 5) (l r : Nat) (hl0 : kidL ((x : Nat) : Int) = ((l : Nat) : Int)) (hr0 : kidR ((x : Nat) : Int) = ((r : Nat) : Int)) (hkid : ∀ W, TabAt W → Calls Tryd.prog 67 #[.int .i64 ((x : Nat) : Int)] W (Ret W (.tuple #[.int .i64 ((l : Nat) : Int), .int .i64 ((r : Nat) : Int)]))) (hl : ∀ w, TrAt B1 w a_t ts → TabAt w → Calls Tryd.prog 48 #[.slice a_t ts.length c_t, .int .i64 ((l : Nat) : Int)] w (Qbr w (OwnN .i64 3 w.heap.size (resN ts k l)))) (hr : ∀ w, TrAt B1 w a_t ts → TabAt w → Calls Tryd.prog 48 #[.slice a_t ts.length c_t, .int .i64 ((r : Nat) : Int)] w (Qbr w (OwnN .i64 3 w.heap.size (resN ts k r)))) : Calls Tryd.prog 48 #[.slice a_t ts.length c_t, .int .i64 ((x : Nat) : Int)] w (Qbr w (OwnN .i64 3 w.heap.size (resN ts (k + 1) x))) := by
 refine enter 48 [(0, .slice a_t ts.length c_t), (1, .int .i64 ((x : Nat) : Int))] Tryd.func48 rfl rfl kj rfl ?_
 refine wp_seq_k fun K1 hK1 => ?_
 refine Qab ?_
 refine Qaa (.slice none 0 0) 4 rfl kj kj ?_
 refine Qae ?_
 refine hK1 _ _ ?_
 refine wp_seq_k fun K2 hK2 => ?_
 refine wp_seq_k fun K3 hK3 => ?_
 obtain ⟨gyT, oyT, hay, hnys⟩ := TrAt.ext ht (Rely.Ext.refl w)
 have hny := hnys (x) (by omega)
 obtain ⟨ny, eny⟩ : ∃ z, z = ndi ts (x) := ⟨_, rfl⟩
 rw [← eny] at hny
 have oky := hny.ok
 have rdy := hny.rd
 skip
 ·skip
  refine Qab ?_
  refine Qaa (.slice a_t ts.length c_t) 10 rfl kj kj ?_
  refine Qaa (.int .i64 ((x : Nat) : Int)) 11 rfl kj kj ?_
  refine Qaa (.pointer (some ⟨gyT, oyT + (x) * 99, none⟩)) 12 rfl kj (Qal 23 _ _ .i64 (x) gyT oyT ts.length c_t 41 99 a_t (hay (by omega)) rfl kj kj kj kj (by omega)) ?_
  refine Qaa (.pointer (some ⟨gyT, oyT + (x) * 99, none⟩)) 13 rfl kj kj ?_
  refine Qaa (.bool false) 14 rfl kj (Qai 4 _ _ (.bool false) ((NdAt.at3 hny).1.trans (congrArg (fun z => some (Value.bool z)) (eny ▸ hus))) rfl kj kj) ?_
  refine Qae ?_
  refine hK3 _ _ ?_
  refine cond_false kj ?_
  refine wp_skip ?_
  refine hK2 _ _ ?_
  refine wp_seq_k fun K4 hK4 => ?_
  refine Qab ?_
  refine Qaa (.int .i64 ((x : Nat) : Int)) 35 rfl kj kj ?_
  refine Qam (.tuple #[.int .i64 ((l : Nat) : Int), .int .i64 ((r : Nat) : Int)]) 67 #[.int .i64 ((x : Nat) : Int)] 36 rfl kj kj (hkid _ (TabAt.ext hT (Rely.Ext.refl w))) fun W1 e1 => ?_
  have x1 : Ext w W1 := Ext.tr (Rely.Ext.refl w) e1
  refine Qaa (.tuple #[.int .i64 ((l : Nat) : Int), .int .i64 ((r : Nat) : Int)]) 34 rfl kj kj ?_
  refine Qaa (.int .i64 ((l : Nat) : Int)) 37 rfl kj kj ?_
  refine Qaa (.int .i64 ((r : Nat) : Int)) 38 rfl kj kj ?_
  refine Qaa (.int .i64 ((l : Nat) : Int)) 8 rfl kj kj ?_
  refine Qaa (.int .i64 ((r : Nat) : Int)) 9 rfl kj kj ?_
  refine Qae ?_
  refine hK4 _ _ ?_
  refine wp_seq_k fun K5 hK5 => ?_
  refine wp_seq_k fun K6 hK6 => ?_
  refine Qab ?_
  refine Qaa (.int .i64 ((l : Nat) : Int)) 39 rfl kj kj ?_
  refine Qaa (.bool false) 40 rfl kj (Qak (u := .bool (decide (((l : Nat) : Int) < 0))) kj (congrArg Value.bool (decide_eq_false (by omega)))) ?_
  refine Qae ?_
  refine hK6 _ _ ?_
  refine cond_false kj ?_
  refine wp_skip ?_
  refine hK5 _ _ ?_
  refine wp_seq_k fun K7 hK7 => ?_
  refine Qab ?_
  refine Qaa (.slice a_t ts.length c_t) 41 rfl kj kj ?_
  refine Qaa (.int .i64 ((l : Nat) : Int)) 42 rfl kj kj ?_
  refine Qa2 (fun v W' => (OwnN .i64 3 W1.heap.size (resN ts k l)) v W' ∧ Ext W1 W') 48 #[.slice a_t ts.length c_t, .int .i64 ((l : Nat) : Int)] 43 rfl kj kj ((hl _ (TrAt.ext ht x1) (TabAt.ext hT x1)).mono (by rintro e w' ⟨v, rfl, e1, hv⟩; exact ⟨v, rfl, hv, e1⟩)) fun vv8 W2 hh8 => ?_
  obtain ⟨hv8, e2⟩ := hh8
  have x2 : Ext w W2 := Ext.tr x1 e2
  replace hv8 : OwnN .i64 3 w.heap.size (resN ts k l) vv8 W2 := OwnN.base x1.size hv8
  refine Qaa (.slice a_t ts.length c_t) 44 rfl kj kj ?_
  refine Qaa (.int .i64 ((r : Nat) : Int)) 45 rfl kj kj ?_
  refine Qa2 (fun v W' => (OwnN .i64 3 W2.heap.size (resN ts k r)) v W' ∧ Ext W2 W') 48 #[.slice a_t ts.length c_t, .int .i64 ((r : Nat) : Int)] 46 rfl kj kj ((hr _ (TrAt.ext ht x2) (TabAt.ext hT x2)).mono (by rintro e w' ⟨v, rfl, e1, hv⟩; exact ⟨v, rfl, hv, e1⟩)) fun vv9 W3 hh9 => ?_
  obtain ⟨hv9, e3⟩ := hh9
  have x3 : Ext w W3 := Ext.tr x2 e3
  have f10_3 := (hv8.ext e3)
  have y0_1 : Ext w W1 := (Rely.Ext.trans (Rely.Ext.refl w) e1)
  have y0_2 : Ext w W2 := (Rely.Ext.trans y0_1 e2)
  have y0_3 : Ext w W3 := (Rely.Ext.trans y0_2 e3)
  refine QbC (k := .i64) (T := 3) (xs := resN ts k l) (ys := resN ts k r) (V := w) 8 (.tmp 43) (.tmp 46) 36 rfl kj kj (by decide) 47 rfl kj kj kj f10_3 (OwnN.rd hv9) (by have h9 := Qcy hmt k l; have h8 := Qcy hmt k r; have h7 := Nat.pow_le_pow_right (show 0 < 2 by decide) hk5; omega) y0_3 fun u2 W4 f11 y4 l4 => ?_
  have x4 : Ext w W4 := Ext.low x3 l4 (Rely.Ext.refl w).size
  refine Qaa (u2) 4 rfl kj kj ?_
  refine Qae ?_
  refine hK7 _ _ ?_
  refine wp_ret ?_
  repeat (first | with_reducible refine goR1 ?_ | with_reducible refine goR2 ?_)
  exact (show bodyPost _ _ _ .ret _ _ from ret1 (u2) rfl (Qap kj) ⟨_, rfl, x4, by rw [Qfh k hus hl0 hr0]; exact f11⟩)
theorem resP (ts : List NdV) (a_t : Option Addr) (c_t B1 : Nat) (htl : ts.length ≤ 100000) (hmt : ∀ i, i < ts.length → (ndi ts i).n.ms.length ≤ 1000000) (L : Nat) (hlen : ts.length + 1 = 2 * L) (hTr : Qax ((L : Nat) : Int) = true) : ∀ (k x : Nat), k ≤ 5 → x < ts.length → lv ((x : Nat) : Int) ≤ ((k : Nat) : Int) → ∀ w, TrAt B1 w a_t ts → TabAt w → Calls Tryd.prog 48 #[.slice a_t ts.length c_t, .int .i64 ((x : Nat) : Int)] w (Qbr w (OwnN .i64 3 w.heap.size (resN ts k x))) := by
  intro k
  induction k with
  | zero =>
    intro x hk hx hl w ht hT
    cases hus : (ndi ts x).n.us with
    | true => exact Qh6 ts a_t c_t B1 htl hmt w ht hT 0 x hx hus
    | false =>
      have hi : i64 ((x : Nat) : Int) := ⟨by omega, by omega⟩
      have hl := (show lv ((x : Nat) : Int) ≤ 0 from hl)
      have h0 : kidL ((x : Nat) : Int) = -1 := by unfold kidL; rw [if_pos hl]
      have h1 : kidR ((x : Nat) : Int) = -1 := by unfold kidR; rw [if_pos hl]
      exact Qh5 ts a_t c_t B1 htl hmt w ht hT 0 x hx hus h0 (fun W => by have := (fun W h => quiet (children _ hi W h)) W; rw [h0, h1] at this; exact this)
  | succ k ih =>
    intro x hk hx hl w ht hT
    cases hus : (ndi ts x).n.us with
    | true => exact Qh6 ts a_t c_t B1 htl hmt w ht hT (k + 1) x hx hus
    | false =>
      have hi : i64 ((x : Nat) : Int) := ⟨by omega, by omega⟩
      rcases Qc1 (Qbd hTr (x := x) (by omega)) with ⟨-, ⟨h0, h1⟩ | ⟨h2, h3, h4, h5⟩⟩
      · exact Qh5 ts a_t c_t B1 htl hmt w ht hT (k + 1) x hx hus h0 (fun W => by have := (fun W h => quiet (children _ hi W h)) W; rw [h0, h1] at this; exact this)
      · obtain ⟨l, hl0⟩ := Int.eq_ofNat_of_zero_le (QdU h2)
        obtain ⟨r, hr0⟩ := Int.eq_ofNat_of_zero_le (QdU h3)
        have hll := QdV h2
        have hrl := QdV h3
        exact Qjp ts a_t c_t B1 htl hmt w ht hT k x hx hus (by omega) l r hl0 hr0 (fun W => by have := (fun W h => quiet (children _ hi W h)) W; rw [hl0, hr0] at this; exact this) (fun w ht hT => ih l (by omega) (by omega) (by rw [← hl0]; omega) w ht hT) (fun w ht hT => ih r (by omega) (by omega) (by rw [← hr0]; omega) w ht hT)
set_option maxRecDepth 100000 in
set_option maxHeartbeats 4000000 in
theorem Qh4 (ts : List NdV) (a_t : Option Addr) (c_t B1 : Nat) (htl : ts.length ≤ 100000) (hmt : ∀ i, i < ts.length → (ndi ts i).n.ms.length ≤ 1000000) (w : World) (ht : TrAt B1 w a_t ts) (kN : Nat) (x : Nat) (hx : x < ts.length) (hus : (ndi ts x).n.us = true) : Calls Tryd.prog 24 #[.slice a_t ts.length c_t, .int .i64 ((x : Nat) : Int)] w (Qbr w (OwnN .i64 3 w.heap.size (resN ts kN x))) := by
 refine enter 53 [(0, .slice a_t ts.length c_t), (1, .int .i64 ((x : Nat) : Int))] Tryd.func24 rfl rfl kj rfl ?_
 refine wp_seq_k fun K1 hK1 => ?_
 refine Qab ?_
 refine Qaa (.slice none 0 0) 4 rfl kj kj ?_
 refine Qae ?_
 refine hK1 _ _ ?_
 refine wp_seq_k fun K2 hK2 => ?_
 refine wp_seq_k fun K3 hK3 => ?_
 obtain ⟨gyT, oyT, hay, hnys⟩ := TrAt.ext ht (Rely.Ext.refl w)
 have hny := hnys (x) (by omega)
 obtain ⟨ny, eny⟩ : ∃ z, z = ndi ts (x) := ⟨_, rfl⟩
 rw [← eny] at hny
 have oky := hny.ok
 have rdy := hny.rd
 skip
 ·skip
  refine Qab ?_
  refine Qaa (.slice a_t ts.length c_t) 9 rfl kj kj ?_
  refine Qaa (.int .i64 ((x : Nat) : Int)) 10 rfl kj kj ?_
  refine Qaa (.pointer (some ⟨gyT, oyT + (x) * 99, none⟩)) 11 rfl kj (Qal 23 _ _ .i64 (x) gyT oyT ts.length c_t 41 99 a_t (hay (by omega)) rfl kj kj kj kj (by omega)) ?_
  refine Qaa (.pointer (some ⟨gyT, oyT + (x) * 99, none⟩)) 12 rfl kj kj ?_
  refine Qaa (.bool true) 13 rfl kj (Qai 4 _ _ (.bool true) ((NdAt.at3 hny).1.trans (congrArg (fun z => some (Value.bool z)) (eny ▸ hus))) rfl kj kj) ?_
  refine Qae ?_
  refine hK3 _ _ ?_
  refine cond_true kj ?_
  refine wp_seq_k fun K4 hK4 => ?_
  refine Qab ?_
  refine Qaa (.int .i64 ((x : Nat) : Int)) 14 rfl kj kj ?_
  refine Qb0 (ints .i64 ([((x : Nat) : Int)])) 3 1 15 rfl kj kj fun g5 W1 l5 e1 r5_1 => ?_
  have x1 : Ext w W1 := Ext.tr (Rely.Ext.refl w) e1
  have b5 : w.heap.size ≤ g5 := Nat.le_trans (Rely.Ext.refl w).size l5
  refine Qaa (.slice (some ⟨g5, 0, none⟩) 1 1) 5 rfl kj kj ?_
  refine Qae ?_
  refine hK4 _ _ ?_
  refine wp_seq_k fun K6 hK6 => ?_
  refine wp_seq_k fun K7 hK7 => ?_
  refine Qab ?_
  refine Qaa (.int .i64 0) 6 rfl kj kj ?_
  refine Qae ?_
  refine hK7 _ _ ?_
  refine wp_block ?_
  refine Qa6 (fun (s1 : Nat × Value) => [(0, .slice a_t ts.length c_t), (1, .int .i64 ((x : Nat) : Int)), (5, s1.2), (6, .int .i64 ((s1.1 : Nat) : Int))]) (fun (s1 : Nat × Value) W => (s1.1 ≤ (ndi ts x).n.ms.length) ∧ (OwnN .i64 3 w.heap.size (resL ts x s1.1) s1.2 W) ∧ (Below w.heap.size W1 W) ∧ (Ext w W)) (fun (s1 : Nat × Value) => (ndi ts x).n.ms.length - s1.1) (0, (.slice (some ⟨g5, 0, none⟩) 1 1)) ⟨rfl, rfl, rfl, rfl, trivial⟩ ⟨(Nat.zero_le _), (QdS (xs := [((x : Nat) : Int)]) rfl b5 r5_1 (by decide)), (RowKit.Below.refl _ W1), x1⟩ fun s1 X1 V1 hI1 => ?_
  obtain ⟨k, u⟩ := s1
  obtain ⟨hk, hu, kk1, xx1⟩ := hI1
  replace hk : k ≤ (ndi ts x).n.ms.length := hk
  replace hu : OwnN .i64 3 w.heap.size (resL ts x k) u V1 := hu
  replace kk1 : Below w.heap.size W1 V1 := kk1
  replace xx1 : Ext w V1 := xx1
  have l2 := kk1
  obtain ⟨gyT, oyT, hay, hnys⟩ := TrAt.ext ht xx1
  have hny := hnys (x) (by omega)
  obtain ⟨ny, eny⟩ : ∃ z, z = ndi ts (x) := ⟨_, rfl⟩
  rw [← eny] at hny
  have oky := hny.ok
  have rdy := hny.rd
  have hk2 : k ≤ ny.n.ms.length := eny ▸ hk
  have hnm : ny.n.ms.length ≤ 1000000 := eny ▸ hmt x hx
  refine wp_seq_k fun K8 hK8 => ?_
  refine wp_seq_k fun K9 hK9 => ?_
  refine Qab ?_
  refine Qaa (.int .i64 ((k : Nat) : Int)) 16 rfl kj kj ?_
  refine Qaa (.slice a_t ts.length c_t) 17 rfl kj kj ?_
  refine Qaa (.int .i64 ((x : Nat) : Int)) 18 rfl kj kj ?_
  refine Qaa (.pointer (some ⟨gyT, oyT + (x) * 99, none⟩)) 19 rfl kj (Qal 23 _ _ .i64 (x) gyT oyT ts.length c_t 41 99 a_t (hay (by omega)) rfl kj kj kj kj (by omega)) ?_
  refine Qaa (.pointer (some ⟨gyT, oyT + (x) * 99 + 98, none⟩)) 20 rfl kj kj ?_
  refine Qaa (.slice ny.a ny.n.ms.length ny.c) 21 rfl kj (Qai 36 _ _ (.slice ny.a ny.n.ms.length ny.c) (NdAt.at3 hny).2.2 rfl kj kj) ?_
  refine Qaa (.int .i64 ((ny.n.ms.length : Nat) : Int)) 22 rfl kj kj ?_
  refine Qaa (.bool (decide (((k : Nat) : Int) < ((ny.n.ms.length : Nat) : Int)))) 23 rfl kj kj ?_
  refine Qae ?_
  refine hK9 _ _ ?_
  refine Qau (t := decide (((k : Nat) : Int) < ((ny.n.ms.length : Nat) : Int))) kj (fun c10 => ?_) (fun c10 => ?_)
  ·skip
   have hlt : k < ny.n.ms.length := by have := of_decide_eq_true c10; have h7 := hk; rw [← eny] at h7; omega
   refine wp_skip ?_
   refine hK8 _ _ ?_
   refine wp_seq_k fun K11 hK11 => ?_
   refine wp_block ?_
   refine Qab ?_
   refine Qaa (u) 26 rfl kj kj ?_
   refine Qaa (.slice a_t ts.length c_t) 27 rfl kj kj ?_
   refine Qaa (.int .i64 ((x : Nat) : Int)) 28 rfl kj kj ?_
   refine Qaa (.pointer (some ⟨gyT, oyT + (x) * 99, none⟩)) 29 rfl kj (Qal 23 _ _ .i64 (x) gyT oyT ts.length c_t 41 99 a_t (hay (by omega)) rfl kj kj kj kj (by omega)) ?_
   refine Qaa (.pointer (some ⟨gyT, oyT + (x) * 99 + 98, none⟩)) 30 rfl kj kj ?_
   refine Qaa (.slice ny.a ny.n.ms.length ny.c) 31 rfl kj (Qai 36 _ _ (.slice ny.a ny.n.ms.length ny.c) (NdAt.at3 hny).2.2 rfl kj kj) ?_
   have hnx_12 : (ny.n.ms).length = ny.n.ms.length := rfl
   obtain ⟨gcx_12, ocx_12, hax_12, hlx_12, hcx_12⟩ := Qbk (RdK.here (RdK.ext rdy (Rely.Ext.refl V1))) (by rw [hnx_12]; omega)
   refine Qaa (.int .i64 ((k : Nat) : Int)) 32 rfl kj kj ?_
   refine Qaa (.pointer (some ⟨gcx_12, ocx_12 + k, none⟩)) 33 rfl kj (QaA 36 _ _ .i64 k gcx_12 ocx_12 ny.n.ms.length ny.c 3 ny.a _ hax_12 rfl rfl kj kj kj kj (Nat.lt_of_lt_of_eq (show k < ny.n.ms.length by omega) hnx_12.symm)) ?_
   refine Qaa (.int .i64 (nth (ny.n.ms) (k))) 34 rfl kj (Qai 3 _ _ (.int .i64 (nth (ny.n.ms) (k))) (hcx_12 k (Nat.lt_of_lt_of_eq (show k < ny.n.ms.length by omega) hnx_12.symm)) rfl kj kj) ?_
   refine Qaa (.int .i64 ((dbl (nth ny.n.ms k)))) 35 rfl kj (Qak (u := .int .i64 (IntKind.i64.wrap (2 * (nth (ny.n.ms) (k))))) kj (congrArg (Value.int .i64) rfl)) ?_
   refine Qb0 (ints .i64 ([((dbl (nth ny.n.ms k)))])) 3 1 36 rfl kj kj fun g13 W3 l13 e3 r13_3 => ?_
   have x3 : Ext w W3 := Ext.tr xx1 e3
   have b13 : w.heap.size ≤ g13 := Nat.le_trans xx1.size l13
   have f14_3 := (hu.ext e3)
   have y0_1 : Ext w W1 := (Rely.Ext.trans (Rely.Ext.refl w) e1)
   have y0_2 : Ext w V1 := (Ext.low y0_1 l2 (Rely.Ext.refl w).size)
   have y0_3 : Ext w W3 := (Rely.Ext.trans y0_2 e3)
   refine QbC (k := .i64) (T := 3) (xs := resL ts x k) (ys := [dbl (nth ny.n.ms k)]) (V := w) 8 (.tmp 26) (.tmp 36) 36 rfl kj kj (by decide) 37 rfl kj kj kj f14_3 (Qfj (xs := [((dbl (nth ny.n.ms k)))]) (n := 1) rfl r13_3 (QaC r13_3) (show 1 ≤ maxLen from by decide)) (by have h9 := QdQ ts x k; have h8 := hmt x hx; rw [eny] at hlt; show (resL ts x k).length + 1 ≤ 1000000000; omega) y0_3 fun u2 W4 f15 y4 l4 => ?_
   have x4 : Ext w W4 := Ext.low x3 l4 (Rely.Ext.refl w).size
   refine Qaa (u2) 5 rfl kj kj ?_
   refine Qae ?_
   refine hK11 _ _ ?_
   refine Qab ?_
   refine Qaa (.int .i64 ((k : Nat) : Int)) 24 rfl kj kj ?_
   refine Qaa (.int .i64 ((k + 1 : Nat) : Int)) 25 rfl kj (Qak (u := .int .i64 (IntKind.i64.wrap (((k : Nat) : Int) + 1))) kj (congrArg (Value.int .i64) (i64n _ _ (by omega) (by omega)))) ?_
   refine Qaa (.int .i64 ((k + 1 : Nat) : Int)) 6 rfl kj kj ?_
   refine Qae ?_
   repeat (first | with_reducible refine goX1 ?_ | with_reducible refine goX2 ?_ | with_reducible refine goX3 ?_)
   exact Qaw ((k + 1), u2) ⟨rfl, rfl, rfl, rfl, trivial⟩ ⟨(eny ▸ hlt), (by rw [Qey (eny ▸ hlt), ← eny]; exact f15), (RowKit.Below.trans (RowKit.Below.trans l2 (RowKit.Below.mono e3 y0_2.size)) l4), x4⟩ (by show (ndi ts x).n.ms.length - (k + 1) < (ndi ts x).n.ms.length - k; rw [eny] at hlt; omega)
  ·skip
   have hlt : k = ny.n.ms.length := by have := of_decide_eq_false c10; have h7 := hk; rw [← eny] at h7; omega
   refine wp_exit ?_
   refine hK6 _ _ ?_
   refine wp_seq_k fun K16 hK16 => ?_
   refine Qab ?_
   refine Qaa (u) 38 rfl kj kj ?_
   refine Qaa (u) 4 rfl kj kj ?_
   refine Qae ?_
   refine hK16 _ _ ?_
   refine wp_ret ?_
   repeat (first | with_reducible refine goR1 ?_ | with_reducible refine goR2 ?_)
   exact (show bodyPost _ _ _ .ret _ _ from ret1 (u) rfl (Qap kj) ⟨u, rfl, xx1, by rw [Qgg kN hus, show (ndi ts x).n.ms.length = k by rw [← eny, hlt]]; exact hu⟩)
set_option maxRecDepth 100000 in
set_option maxHeartbeats 4000000 in
theorem Qh3 (ts : List NdV) (a_t : Option Addr) (c_t B1 : Nat) (htl : ts.length ≤ 100000) (hmt : ∀ i, i < ts.length → (ndi ts i).n.ms.length ≤ 1000000) (w : World) (ht : TrAt B1 w a_t ts) (k : Nat) (x : Nat) (hx : x < ts.length) (hus : (ndi ts x).n.us = false) (h0 : kidL ((x : Nat) : Int) = -1) (hkid : ∀ W, Calls Tryd.prog 49 #[.int .i64 ((x : Nat) : Int)] W (Ret W (.tuple #[.int .i64 (-1), .int .i64 (-1)]))) : Calls Tryd.prog 24 #[.slice a_t ts.length c_t, .int .i64 ((x : Nat) : Int)] w (Qbr w (OwnN .i64 3 w.heap.size (resN ts k x))) := by
 refine enter 53 [(0, .slice a_t ts.length c_t), (1, .int .i64 ((x : Nat) : Int))] Tryd.func24 rfl rfl kj rfl ?_
 refine wp_seq_k fun K1 hK1 => ?_
 refine Qab ?_
 refine Qaa (.slice none 0 0) 4 rfl kj kj ?_
 refine Qae ?_
 refine hK1 _ _ ?_
 refine wp_seq_k fun K2 hK2 => ?_
 refine wp_seq_k fun K3 hK3 => ?_
 obtain ⟨gyT, oyT, hay, hnys⟩ := TrAt.ext ht (Rely.Ext.refl w)
 have hny := hnys (x) (by omega)
 obtain ⟨ny, eny⟩ : ∃ z, z = ndi ts (x) := ⟨_, rfl⟩
 rw [← eny] at hny
 have oky := hny.ok
 have rdy := hny.rd
 skip
 ·skip
  refine Qab ?_
  refine Qaa (.slice a_t ts.length c_t) 9 rfl kj kj ?_
  refine Qaa (.int .i64 ((x : Nat) : Int)) 10 rfl kj kj ?_
  refine Qaa (.pointer (some ⟨gyT, oyT + (x) * 99, none⟩)) 11 rfl kj (Qal 23 _ _ .i64 (x) gyT oyT ts.length c_t 41 99 a_t (hay (by omega)) rfl kj kj kj kj (by omega)) ?_
  refine Qaa (.pointer (some ⟨gyT, oyT + (x) * 99, none⟩)) 12 rfl kj kj ?_
  refine Qaa (.bool false) 13 rfl kj (Qai 4 _ _ (.bool false) ((NdAt.at3 hny).1.trans (congrArg (fun z => some (Value.bool z)) (eny ▸ hus))) rfl kj kj) ?_
  refine Qae ?_
  refine hK3 _ _ ?_
  refine cond_false kj ?_
  refine wp_skip ?_
  refine hK2 _ _ ?_
  refine wp_seq_k fun K4 hK4 => ?_
  refine Qab ?_
  refine Qaa (.int .i64 ((x : Nat) : Int)) 40 rfl kj kj ?_
  refine Qam (.tuple #[.int .i64 (-1), .int .i64 (-1)]) 49 #[.int .i64 ((x : Nat) : Int)] 41 rfl kj kj (hkid _) fun W1 e1 => ?_
  have x1 : Ext w W1 := Ext.tr (Rely.Ext.refl w) e1
  refine Qaa (.tuple #[.int .i64 (-1), .int .i64 (-1)]) 39 rfl kj kj ?_
  refine Qaa (.int .i64 (-1)) 42 rfl kj kj ?_
  refine Qaa (.int .i64 (-1)) 43 rfl kj kj ?_
  refine Qaa (.int .i64 (-1)) 7 rfl kj kj ?_
  refine Qaa (.int .i64 (-1)) 8 rfl kj kj ?_
  refine Qae ?_
  refine hK4 _ _ ?_
  refine wp_seq_k fun K5 hK5 => ?_
  refine wp_seq_k fun K6 hK6 => ?_
  refine Qab ?_
  refine Qaa (.int .i64 (-1)) 44 rfl kj kj ?_
  refine Qaa (.bool true) 45 rfl kj kj ?_
  refine Qae ?_
  refine hK6 _ _ ?_
  refine cond_true kj ?_
  refine wp_seq_k fun K7 hK7 => ?_
  refine Qab ?_
  refine Qaa (.slice none 0 0) 4 rfl kj kj ?_
  refine Qae ?_
  refine hK7 _ _ ?_
  refine wp_ret ?_
  repeat (first | with_reducible refine goR1 ?_ | with_reducible refine goR2 ?_)
  exact (show bodyPost _ _ _ .ret _ _ from ret1 (.slice none 0 0) rfl (Qap kj) ⟨_, rfl, x1, by rw [Qgh k hus (by omega)]; exact Qc0 _ _ _ _⟩)
set_option maxRecDepth 100000 in
set_option maxHeartbeats 4000000 in
theorem Qjo (ts : List NdV) (a_t : Option Addr) (c_t B1 : Nat) (htl : ts.length ≤ 100000) (hmt : ∀ i, i < ts.length → (ndi ts i).n.ms.length ≤ 1000000) (w : World) (ht : TrAt B1 w a_t ts) (k : Nat) (x : Nat) (hx : x < ts.length) (hus : (ndi ts x).n.us = false) (hk5 : k ≤ 5) (l r : Nat) (hl0 : kidL ((x : Nat) : Int) = ((l : Nat) : Int)) (hr0 : kidR ((x : Nat) : Int) = ((r : Nat) : Int)) (hkid : ∀ W, Calls Tryd.prog 49 #[.int .i64 ((x : Nat) : Int)] W (Ret W (.tuple #[.int .i64 ((l : Nat) : Int), .int .i64 ((r : Nat) : Int)]))) (hl : ∀ w, TrAt B1 w a_t ts → Calls Tryd.prog 24 #[.slice a_t ts.length c_t, .int .i64 ((l : Nat) : Int)] w (Qbr w (OwnN .i64 3 w.heap.size (resN ts k l)))) (hr : ∀ w, TrAt B1 w a_t ts → Calls Tryd.prog 24 #[.slice a_t ts.length c_t, .int .i64 ((r : Nat) : Int)] w (Qbr w (OwnN .i64 3 w.heap.size (resN ts k r)))) : Calls Tryd.prog 24 #[.slice a_t ts.length c_t, .int .i64 ((x : Nat) : Int)] w (Qbr w (OwnN .i64 3 w.heap.size (resN ts (k + 1) x))) := by
 refine enter 53 [(0, .slice a_t ts.length c_t), (1, .int .i64 ((x : Nat) : Int))] Tryd.func24 rfl rfl kj rfl ?_
 refine wp_seq_k fun K1 hK1 => ?_
 refine Qab ?_
 refine Qaa (.slice none 0 0) 4 rfl kj kj ?_
 refine Qae ?_
 refine hK1 _ _ ?_
 refine wp_seq_k fun K2 hK2 => ?_
 refine wp_seq_k fun K3 hK3 => ?_
 obtain ⟨gyT, oyT, hay, hnys⟩ := TrAt.ext ht (Rely.Ext.refl w)
 have hny := hnys (x) (by omega)
 obtain ⟨ny, eny⟩ : ∃ z, z = ndi ts (x) := ⟨_, rfl⟩
 rw [← eny] at hny
 have oky := hny.ok
 have rdy := hny.rd
 skip
 ·skip
  refine Qab ?_
  refine Qaa (.slice a_t ts.length c_t) 9 rfl kj kj ?_
  refine Qaa (.int .i64 ((x : Nat) : Int)) 10 rfl kj kj ?_
  refine Qaa (.pointer (some ⟨gyT, oyT + (x) * 99, none⟩)) 11 rfl kj (Qal 23 _ _ .i64 (x) gyT oyT ts.length c_t 41 99 a_t (hay (by omega)) rfl kj kj kj kj (by omega)) ?_
  refine Qaa (.pointer (some ⟨gyT, oyT + (x) * 99, none⟩)) 12 rfl kj kj ?_
  refine Qaa (.bool false) 13 rfl kj (Qai 4 _ _ (.bool false) ((NdAt.at3 hny).1.trans (congrArg (fun z => some (Value.bool z)) (eny ▸ hus))) rfl kj kj) ?_
  refine Qae ?_
  refine hK3 _ _ ?_
  refine cond_false kj ?_
  refine wp_skip ?_
  refine hK2 _ _ ?_
  refine wp_seq_k fun K4 hK4 => ?_
  refine Qab ?_
  refine Qaa (.int .i64 ((x : Nat) : Int)) 40 rfl kj kj ?_
  refine Qam (.tuple #[.int .i64 ((l : Nat) : Int), .int .i64 ((r : Nat) : Int)]) 49 #[.int .i64 ((x : Nat) : Int)] 41 rfl kj kj (hkid _) fun W1 e1 => ?_
  have x1 : Ext w W1 := Ext.tr (Rely.Ext.refl w) e1
  refine Qaa (.tuple #[.int .i64 ((l : Nat) : Int), .int .i64 ((r : Nat) : Int)]) 39 rfl kj kj ?_
  refine Qaa (.int .i64 ((l : Nat) : Int)) 42 rfl kj kj ?_
  refine Qaa (.int .i64 ((r : Nat) : Int)) 43 rfl kj kj ?_
  refine Qaa (.int .i64 ((l : Nat) : Int)) 7 rfl kj kj ?_
  refine Qaa (.int .i64 ((r : Nat) : Int)) 8 rfl kj kj ?_
  refine Qae ?_
  refine hK4 _ _ ?_
  refine wp_seq_k fun K5 hK5 => ?_
  refine wp_seq_k fun K6 hK6 => ?_
  refine Qab ?_
  refine Qaa (.int .i64 ((l : Nat) : Int)) 44 rfl kj kj ?_
  refine Qaa (.bool false) 45 rfl kj (Qak (u := .bool (decide (((l : Nat) : Int) < 0))) kj (congrArg Value.bool (decide_eq_false (by omega)))) ?_
  refine Qae ?_
  refine hK6 _ _ ?_
  refine cond_false kj ?_
  refine wp_skip ?_
  refine hK5 _ _ ?_
  refine wp_seq_k fun K7 hK7 => ?_
  refine Qab ?_
  refine Qaa (.slice a_t ts.length c_t) 46 rfl kj kj ?_
  refine Qaa (.int .i64 ((l : Nat) : Int)) 47 rfl kj kj ?_
  refine Qa2 (fun v W' => (OwnN .i64 3 W1.heap.size (resN ts k l)) v W' ∧ Ext W1 W') 24 #[.slice a_t ts.length c_t, .int .i64 ((l : Nat) : Int)] 48 rfl kj kj ((hl _ (TrAt.ext ht x1)).mono (by rintro e w' ⟨v, rfl, e1, hv⟩; exact ⟨v, rfl, hv, e1⟩)) fun vv8 W2 hh8 => ?_
  obtain ⟨hv8, e2⟩ := hh8
  have x2 : Ext w W2 := Ext.tr x1 e2
  replace hv8 : OwnN .i64 3 w.heap.size (resN ts k l) vv8 W2 := OwnN.base x1.size hv8
  refine Qaa (.slice a_t ts.length c_t) 49 rfl kj kj ?_
  refine Qaa (.int .i64 ((r : Nat) : Int)) 50 rfl kj kj ?_
  refine Qa2 (fun v W' => (OwnN .i64 3 W2.heap.size (resN ts k r)) v W' ∧ Ext W2 W') 24 #[.slice a_t ts.length c_t, .int .i64 ((r : Nat) : Int)] 51 rfl kj kj ((hr _ (TrAt.ext ht x2)).mono (by rintro e w' ⟨v, rfl, e1, hv⟩; exact ⟨v, rfl, hv, e1⟩)) fun vv9 W3 hh9 => ?_
  obtain ⟨hv9, e3⟩ := hh9
  have x3 : Ext w W3 := Ext.tr x2 e3
  have f10_3 := (hv8.ext e3)
  have y0_1 : Ext w W1 := (Rely.Ext.trans (Rely.Ext.refl w) e1)
  have y0_2 : Ext w W2 := (Rely.Ext.trans y0_1 e2)
  have y0_3 : Ext w W3 := (Rely.Ext.trans y0_2 e3)
  refine QbC (k := .i64) (T := 3) (xs := resN ts k l) (ys := resN ts k r) (V := w) 8 (.tmp 48) (.tmp 51) 36 rfl kj kj (by decide) 52 rfl kj kj kj f10_3 (OwnN.rd hv9) (by have h9 := Qcy hmt k l; have h8 := Qcy hmt k r; have h7 := Nat.pow_le_pow_right (show 0 < 2 by decide) hk5; omega) y0_3 fun u2 W4 f11 y4 l4 => ?_
  have x4 : Ext w W4 := Ext.low x3 l4 (Rely.Ext.refl w).size
  refine Qaa (u2) 4 rfl kj kj ?_
  refine Qae ?_
  refine hK7 _ _ ?_
  refine wp_ret ?_
  repeat (first | with_reducible refine goR1 ?_ | with_reducible refine goR2 ?_)
  exact (show bodyPost _ _ _ .ret _ _ from ret1 (u2) rfl (Qap kj) ⟨_, rfl, x4, by rw [Qfh k hus hl0 hr0]; exact f11⟩)
theorem resR (ts : List NdV) (a_t : Option Addr) (c_t B1 : Nat) (htl : ts.length ≤ 100000) (hmt : ∀ i, i < ts.length → (ndi ts i).n.ms.length ≤ 1000000) (L : Nat) (hlen : ts.length + 1 = 2 * L) (hTr : Qax ((L : Nat) : Int) = true) : ∀ (k x : Nat), k ≤ 5 → x < ts.length → lv ((x : Nat) : Int) ≤ ((k : Nat) : Int) → ∀ w, TrAt B1 w a_t ts → Calls Tryd.prog 24 #[.slice a_t ts.length c_t, .int .i64 ((x : Nat) : Int)] w (Qbr w (OwnN .i64 3 w.heap.size (resN ts k x))) := by
  intro k
  induction k with
  | zero =>
    intro x hk hx hl w ht
    cases hus : (ndi ts x).n.us with
    | true => exact Qh4 ts a_t c_t B1 htl hmt w ht 0 x hx hus
    | false =>
      have hi : i64 ((x : Nat) : Int) := ⟨by omega, by omega⟩
      have hl := (show lv ((x : Nat) : Int) ≤ 0 from hl)
      have h0 : kidL ((x : Nat) : Int) = -1 := by unfold kidL; rw [if_pos hl]
      have h1 : kidR ((x : Nat) : Int) = -1 := by unfold kidR; rw [if_pos hl]
      exact Qh3 ts a_t c_t B1 htl hmt w ht 0 x hx hus h0 (fun W => by have := (fun W => quiet (rchildren _ hi W)) W; rw [h0, h1] at this; exact this)
  | succ k ih =>
    intro x hk hx hl w ht
    cases hus : (ndi ts x).n.us with
    | true => exact Qh4 ts a_t c_t B1 htl hmt w ht (k + 1) x hx hus
    | false =>
      have hi : i64 ((x : Nat) : Int) := ⟨by omega, by omega⟩
      rcases Qc1 (Qbd hTr (x := x) (by omega)) with ⟨-, ⟨h0, h1⟩ | ⟨h2, h3, h4, h5⟩⟩
      · exact Qh3 ts a_t c_t B1 htl hmt w ht (k + 1) x hx hus h0 (fun W => by have := (fun W => quiet (rchildren _ hi W)) W; rw [h0, h1] at this; exact this)
      · obtain ⟨l, hl0⟩ := Int.eq_ofNat_of_zero_le (QdU h2)
        obtain ⟨r, hr0⟩ := Int.eq_ofNat_of_zero_le (QdU h3)
        have hll := QdV h2
        have hrl := QdV h3
        exact Qjo ts a_t c_t B1 htl hmt w ht k x hx hus (by omega) l r hl0 hr0 (fun W => by have := (fun W => quiet (rchildren _ hi W)) W; rw [hl0, hr0] at this; exact this) (fun w ht => ih l (by omega) (by omega) (by rw [← hl0]; omega) w ht) (fun w ht => ih r (by omega) (by omega) (by rw [← hr0]; omega) w ht)
end Go.Proofs.YtcmaolmofgmkhaaDoor.Te
end
section
namespace Go.Proofs.YtcmaolmofgmkhaaDoor.Te
open Go Go.RowKit
open Rely Auto Own Seat Sha
set_option linter.unusedVariables false
set_option linter.unusedSimpArgs false
set_option maxRecDepth 100000 in
set_option maxHeartbeats 4000000 in
theorem Qgf (ts : List NdV) (a_t : Option Addr) (c_t B1 : Nat) (w : World) (ht : TrAt B1 w a_t ts) (htl : ts.length ≤ 100000) (hmt : ∀ i, i < ts.length → (ndi ts i).n.ms.length ≤ 1000000) (hT : TabAt w) (z : Int) (hz : z < 0) : Calls Tryd.prog 22 #[.slice a_t ts.length c_t, .int .i64 z] w (Ret w (.slice none 0 0)) := by
  refine enter 21 [(0, .slice a_t ts.length c_t), (1, .int .i64 z)] Tryd.func22 rfl rfl kj rfl ?_
  refine wp_seq_k fun K1 hK1 => ?_
  refine Qab ?_
  refine Qaa (.slice none 0 0) 4 rfl kj kj ?_
  refine Qae ?_
  refine hK1 _ _ ?_
  refine wp_seq_k fun K2 hK2 => ?_
  refine wp_seq_k fun K3 hK3 => ?_
  refine Qab ?_
  refine Qaa (.int .i64 z) 5 rfl kj kj ?_
  refine Qaa (.bool true) 6 rfl kj (Qak (u := .bool (decide (z < 0))) kj (congrArg Value.bool (decide_eq_true (by omega)))) ?_
  refine Qaa (.bool true) 7 rfl kj kj ?_
  refine Qac 8 rfl kj ?_
  refine Qac 9 rfl kj ?_
  refine Qac 10 rfl kj ?_
  refine Qac 11 rfl kj ?_
  refine Qaa (.bool true) 12 rfl kj kj ?_
  refine Qaa (.bool true) 13 rfl kj kj ?_
  refine Qac 14 rfl kj ?_
  refine Qac 15 rfl kj ?_
  refine Qac 16 rfl kj ?_
  refine Qaa (.bool true) 17 rfl kj kj ?_
  refine Qae ?_
  refine hK3 _ _ ?_
  refine cond_true kj ?_
  refine wp_seq_k fun K4 hK4 => ?_
  refine Qab ?_
  refine Qaa (.slice none 0 0) 4 rfl kj kj ?_
  refine Qae ?_
  refine hK4 _ _ ?_
  refine wp_ret ?_
  repeat (first | with_reducible refine goR1 ?_ | with_reducible refine goR2 ?_)
  exact (show bodyPost _ _ _ .ret _ _ from ret1 (.slice none 0 0) rfl (Qap kj) ⟨rfl, (Rely.Ext.refl w)⟩)
set_option maxRecDepth 100000 in
set_option maxHeartbeats 4000000 in
theorem Qge (ts : List NdV) (a_t : Option Addr) (c_t B1 : Nat) (w : World) (ht : TrAt B1 w a_t ts) (htl : ts.length ≤ 100000) (hmt : ∀ i, i < ts.length → (ndi ts i).n.ms.length ≤ 1000000) (hT : TabAt w) (z : Int) (hz : 0 ≤ z) (hz2 : ((ts.length : Nat) : Int) ≤ z) : Calls Tryd.prog 22 #[.slice a_t ts.length c_t, .int .i64 z] w (Ret w (.slice none 0 0)) := by
  refine enter 21 [(0, .slice a_t ts.length c_t), (1, .int .i64 z)] Tryd.func22 rfl rfl kj rfl ?_
  refine wp_seq_k fun K1 hK1 => ?_
  refine Qab ?_
  refine Qaa (.slice none 0 0) 4 rfl kj kj ?_
  refine Qae ?_
  refine hK1 _ _ ?_
  refine wp_seq_k fun K2 hK2 => ?_
  refine wp_seq_k fun K3 hK3 => ?_
  refine Qab ?_
  refine Qaa (.int .i64 z) 5 rfl kj kj ?_
  refine Qaa (.bool false) 6 rfl kj (Qak (u := .bool (decide (z < 0))) kj (congrArg Value.bool (decide_eq_false (by omega)))) ?_
  refine Qaa (.bool false) 7 rfl kj kj ?_
  refine Qaa (.int .i64 z) 8 rfl kj kj ?_
  refine Qaa (.slice a_t ts.length c_t) 9 rfl kj kj ?_
  refine Qaa (.int .i64 ((ts.length : Nat) : Int)) 10 rfl kj kj ?_
  refine Qaa (.bool true) 11 rfl kj (Qak (u := .bool (decide (z ≥ ((ts.length : Nat) : Int)))) kj (congrArg Value.bool (decide_eq_true (by omega)))) ?_
  refine Qaa (.bool true) 12 rfl kj kj ?_
  refine Qaa (.bool true) 13 rfl kj kj ?_
  refine Qac 14 rfl kj ?_
  refine Qac 15 rfl kj ?_
  refine Qac 16 rfl kj ?_
  refine Qaa (.bool true) 17 rfl kj kj ?_
  refine Qae ?_
  refine hK3 _ _ ?_
  refine cond_true kj ?_
  refine wp_seq_k fun K4 hK4 => ?_
  refine Qab ?_
  refine Qaa (.slice none 0 0) 4 rfl kj kj ?_
  refine Qae ?_
  refine hK4 _ _ ?_
  refine wp_ret ?_
  repeat (first | with_reducible refine goR1 ?_ | with_reducible refine goR2 ?_)
  exact (show bodyPost _ _ _ .ret _ _ from ret1 (.slice none 0 0) rfl (Qap kj) ⟨rfl, (Rely.Ext.refl w)⟩)
set_option maxRecDepth 100000 in
set_option maxHeartbeats 4000000 in
theorem Qit (ts : List NdV) (a_t : Option Addr) (c_t B1 : Nat) (w : World) (ht : TrAt B1 w a_t ts) (htl : ts.length ≤ 100000) (hmt : ∀ i, i < ts.length → (ndi ts i).n.ms.length ≤ 1000000) (hT : TabAt w) (x : Nat) (hx : x < ts.length) (h : chkT ts = false) : Calls Tryd.prog 22 #[.slice a_t ts.length c_t, .int .i64 ((x : Nat) : Int)] w (Ret w (.slice none 0 0)) := by
  refine enter 21 [(0, .slice a_t ts.length c_t), (1, .int .i64 ((x : Nat) : Int))] Tryd.func22 rfl rfl kj rfl ?_
  refine wp_seq_k fun K1 hK1 => ?_
  refine Qab ?_
  refine Qaa (.slice none 0 0) 4 rfl kj kj ?_
  refine Qae ?_
  refine hK1 _ _ ?_
  refine wp_seq_k fun K2 hK2 => ?_
  refine wp_seq_k fun K3 hK3 => ?_
  refine Qab ?_
  refine Qaa (.int .i64 ((x : Nat) : Int)) 5 rfl kj kj ?_
  refine Qaa (.bool false) 6 rfl kj (Qak (u := .bool (decide (((x : Nat) : Int) < 0))) kj (congrArg Value.bool (decide_eq_false (by omega)))) ?_
  refine Qaa (.bool false) 7 rfl kj kj ?_
  refine Qaa (.int .i64 ((x : Nat) : Int)) 8 rfl kj kj ?_
  refine Qaa (.slice a_t ts.length c_t) 9 rfl kj kj ?_
  refine Qaa (.int .i64 ((ts.length : Nat) : Int)) 10 rfl kj kj ?_
  refine Qaa (.bool false) 11 rfl kj (Qak (u := .bool (decide (((x : Nat) : Int) ≥ ((ts.length : Nat) : Int)))) kj (congrArg Value.bool (decide_eq_false (by omega)))) ?_
  refine Qaa (.bool false) 12 rfl kj kj ?_
  refine Qaa (.bool false) 13 rfl kj kj ?_
  refine Qaa (.slice a_t ts.length c_t) 14 rfl kj kj ?_
  refine Qam (.iface 30 (.int .i64 3)) 11 #[.slice a_t ts.length c_t] 15 rfl kj kj (QjD ts a_t c_t _ _ (TrAt.ext ht (Rely.Ext.refl w)) htl hmt (TabAt.ext hT (Rely.Ext.refl w)) h) fun W1 e1 => ?_
  have x1 : Ext w W1 := Ext.tr (Rely.Ext.refl w) e1
  refine Qaa (.bool true) 16 rfl kj kj ?_
  refine Qaa (.bool true) 17 rfl kj kj ?_
  refine Qae ?_
  refine hK3 _ _ ?_
  refine cond_true kj ?_
  refine wp_seq_k fun K4 hK4 => ?_
  refine Qab ?_
  refine Qaa (.slice none 0 0) 4 rfl kj kj ?_
  refine Qae ?_
  refine hK4 _ _ ?_
  refine wp_ret ?_
  repeat (first | with_reducible refine goR1 ?_ | with_reducible refine goR2 ?_)
  exact (show bodyPost _ _ _ .ret _ _ from ret1 (.slice none 0 0) rfl (Qap kj) ⟨rfl, x1⟩)
set_option maxRecDepth 100000 in
set_option maxHeartbeats 4000000 in
theorem Qis (ts : List NdV) (a_t : Option Addr) (c_t B1 : Nat) (w : World) (ht : TrAt B1 w a_t ts) (htl : ts.length ≤ 100000) (hmt : ∀ i, i < ts.length → (ndi ts i).n.ms.length ≤ 1000000) (hT : TabAt w) (x : Nat) (hx : x < ts.length) (h : chkT ts = true) : Calls Tryd.prog 22 #[.slice a_t ts.length c_t, .int .i64 ((x : Nat) : Int)] w (Qbr w (OwnN .i64 3 w.heap.size (resT ts x))) := by
  obtain ⟨L, hL, hL3, hlen, hTr⟩ := QgC htl h
  have hlv := (Qc1 (Qbd hTr (x := x) (by omega))).1
  refine enter 21 [(0, .slice a_t ts.length c_t), (1, .int .i64 ((x : Nat) : Int))] Tryd.func22 rfl rfl kj rfl ?_
  refine wp_seq_k fun K1 hK1 => ?_
  refine Qab ?_
  refine Qaa (.slice none 0 0) 4 rfl kj kj ?_
  refine Qae ?_
  refine hK1 _ _ ?_
  refine wp_seq_k fun K2 hK2 => ?_
  refine wp_seq_k fun K3 hK3 => ?_
  refine Qab ?_
  refine Qaa (.int .i64 ((x : Nat) : Int)) 5 rfl kj kj ?_
  refine Qaa (.bool false) 6 rfl kj (Qak (u := .bool (decide (((x : Nat) : Int) < 0))) kj (congrArg Value.bool (decide_eq_false (by omega)))) ?_
  refine Qaa (.bool false) 7 rfl kj kj ?_
  refine Qaa (.int .i64 ((x : Nat) : Int)) 8 rfl kj kj ?_
  refine Qaa (.slice a_t ts.length c_t) 9 rfl kj kj ?_
  refine Qaa (.int .i64 ((ts.length : Nat) : Int)) 10 rfl kj kj ?_
  refine Qaa (.bool false) 11 rfl kj (Qak (u := .bool (decide (((x : Nat) : Int) ≥ ((ts.length : Nat) : Int)))) kj (congrArg Value.bool (decide_eq_false (by omega)))) ?_
  refine Qaa (.bool false) 12 rfl kj kj ?_
  refine Qaa (.bool false) 13 rfl kj kj ?_
  refine Qaa (.slice a_t ts.length c_t) 14 rfl kj kj ?_
  refine Qam (.nilIface) 11 #[.slice a_t ts.length c_t] 15 rfl kj kj (Qe7 ts a_t c_t _ _ (TrAt.ext ht (Rely.Ext.refl w)) htl hmt (TabAt.ext hT (Rely.Ext.refl w)) h) fun W1 e1 => ?_
  have x1 : Ext w W1 := Ext.tr (Rely.Ext.refl w) e1
  refine Qaa (.bool false) 16 rfl kj kj ?_
  refine Qaa (.bool false) 17 rfl kj kj ?_
  refine Qae ?_
  refine hK3 _ _ ?_
  refine cond_false kj ?_
  refine wp_skip ?_
  refine hK2 _ _ ?_
  refine wp_seq_k fun K4 hK4 => ?_
  refine Qab ?_
  refine Qaa (.slice a_t ts.length c_t) 18 rfl kj kj ?_
  refine Qaa (.int .i64 ((x : Nat) : Int)) 19 rfl kj kj ?_
  refine Qa2 (fun v W' => (OwnN .i64 3 W1.heap.size (resT ts x)) v W' ∧ Ext W1 W') 48 #[.slice a_t ts.length c_t, .int .i64 ((x : Nat) : Int)] 20 rfl kj kj ((resP ts a_t c_t B1 htl hmt L hlen hTr 5 x (by decide) hx hlv _ (TrAt.ext ht x1) (TabAt.ext hT x1)).mono (by rintro e w' ⟨v, rfl, e1, hv⟩; exact ⟨v, rfl, hv, e1⟩)) fun vv5 W2 hh5 => ?_
  obtain ⟨hv5, e2⟩ := hh5
  have x2 : Ext w W2 := Ext.tr x1 e2
  refine Qaa (vv5) 4 rfl kj kj ?_
  refine Qae ?_
  refine hK4 _ _ ?_
  refine wp_ret ?_
  repeat (first | with_reducible refine goR1 ?_ | with_reducible refine goR2 ?_)
  exact (show bodyPost _ _ _ .ret _ _ from ret1 (vv5) rfl (Qap kj) ⟨_, rfl, x2, OwnN.base x1.size hv5⟩)
theorem Qj5 (xs ys : List Int) (a_x a_y : Option Addr) (c_x c_y B1 B2 : Nat) (w : World) (hxl : xs.length ≤ 1000000) (hyl : ys.length ≤ 1000000) (hx : RdK .i64 B1 xs (.slice a_x xs.length c_x) w) (hy : RdK .i64 B2 ys (.slice a_y ys.length c_y) w) (hl : xs.length ≠ ys.length) : Calls Tryd.prog 23 #[.slice a_x xs.length c_x, .slice a_y ys.length c_y] w (Ret w (.bool (decide (xs = ys)))) := by
  refine enter 26 [(0, .slice a_x xs.length c_x), (1, .slice a_y ys.length c_y)] Tryd.func23 rfl rfl kj rfl ?_
  refine wp_seq_k fun K1 hK1 => ?_
  refine Qab ?_
  refine Qaa (.bool false) 4 rfl kj kj ?_
  refine Qae ?_
  refine hK1 _ _ ?_
  refine wp_seq_k fun K2 hK2 => ?_
  refine wp_seq_k fun K3 hK3 => ?_
  refine Qab ?_
  refine Qaa (.slice a_x xs.length c_x) 6 rfl kj kj ?_
  refine Qaa (.int .i64 ((xs.length : Nat) : Int)) 7 rfl kj kj ?_
  refine Qaa (.slice a_y ys.length c_y) 8 rfl kj kj ?_
  refine Qaa (.int .i64 ((ys.length : Nat) : Int)) 9 rfl kj kj ?_
  refine Qaa (.bool true) 10 rfl kj (Qak (u := .bool ((((xs.length : Nat) : Int) != ((ys.length : Nat) : Int)))) kj (congrArg Value.bool (bne_iff_ne.2 (by omega)))) ?_
  refine Qae ?_
  refine hK3 _ _ ?_
  refine cond_true kj ?_
  refine wp_seq_k fun K4 hK4 => ?_
  refine Qab ?_
  refine Qaa (.bool false) 4 rfl kj kj ?_
  refine Qae ?_
  refine hK4 _ _ ?_
  refine wp_ret ?_
  repeat (first | with_reducible refine goR1 ?_ | with_reducible refine goR2 ?_)
  exact (show bodyPost _ _ _ .ret _ _ from ret1 (.bool false) rfl (Qap kj) ⟨congrArg (fun z => Ending.returned (.bool z)) (decide_eq_false (fun e => hl (congrArg List.length e))).symm, (Rely.Ext.refl w)⟩)
set_option maxHeartbeats 4000000 in
theorem Qj6 (xs ys : List Int) (a_x a_y : Option Addr) (c_x c_y B1 B2 : Nat) (w : World) (hxl : xs.length ≤ 1000000) (hyl : ys.length ≤ 1000000) (hx : RdK .i64 B1 xs (.slice a_x xs.length c_x) w) (hy : RdK .i64 B2 ys (.slice a_y ys.length c_y) w) (hl : xs.length = ys.length) : Calls Tryd.prog 23 #[.slice a_x xs.length c_x, .slice a_y ys.length c_y] w (Ret w (.bool (decide (xs = ys)))) := by
 refine enter 26 [(0, .slice a_x xs.length c_x), (1, .slice a_y ys.length c_y)] Tryd.func23 rfl rfl kj rfl ?_
 refine wp_seq_k fun K1 hK1 => ?_
 refine Qab ?_
 refine Qaa (.bool false) 4 rfl kj kj ?_
 refine Qae ?_
 refine hK1 _ _ ?_
 refine wp_seq_k fun K2 hK2 => ?_
 refine wp_seq_k fun K3 hK3 => ?_
 refine Qab ?_
 refine Qaa (.slice a_x xs.length c_x) 6 rfl kj kj ?_
 refine Qaa (.int .i64 ((xs.length : Nat) : Int)) 7 rfl kj kj ?_
 refine Qaa (.slice a_y ys.length c_y) 8 rfl kj kj ?_
 refine Qaa (.int .i64 ((ys.length : Nat) : Int)) 9 rfl kj kj ?_
 refine Qaa (.bool false) 10 rfl kj (Qak (u := .bool ((((xs.length : Nat) : Int) != ((ys.length : Nat) : Int)))) kj (congrArg Value.bool (bne_eq_false_iff_eq.2 (by omega)))) ?_
 refine Qae ?_
 refine hK3 _ _ ?_
 refine cond_false kj ?_
 refine wp_skip ?_
 refine hK2 _ _ ?_
 refine wp_seq_k fun K4 hK4 => ?_
 refine wp_seq_k fun K5 hK5 => ?_
 refine Qab ?_
 refine Qaa (.slice a_x xs.length c_x) 11 rfl kj kj ?_
 refine Qaa (.int .i64 ((xs.length : Nat) : Int)) 12 rfl kj kj ?_
 refine Qaa (.int .i64 0) 13 rfl kj kj ?_
 refine Qae ?_
 refine hK5 _ _ ?_
 refine wp_block ?_
 refine Qa6 (fun (s1 : Nat) => [(0, .slice a_x xs.length c_x), (1, .slice a_y ys.length c_y), (12, .int .i64 ((xs.length : Nat) : Int)), (13, .int .i64 ((s1 : Nat) : Int))]) (fun (s1 : Nat) W => (s1 ≤ xs.length) ∧ (xs.take s1 = ys.take s1) ∧ (Ext w W) ∧ (Ext w W)) (fun (s1 : Nat) => xs.length - s1) 0 ⟨rfl, rfl, rfl, rfl, trivial⟩ ⟨(Nat.zero_le _), rfl, (Rely.Ext.refl w), (Rely.Ext.refl w)⟩ fun s1 X1 V1 hI1 => ?_
 obtain ⟨i, hs1⟩ : ∃ z, z = s1 := ⟨_, rfl⟩
 subst hs1
 obtain ⟨hi, hpre, kk1, xx1⟩ := hI1
 replace hi : i ≤ xs.length := hi
 replace hpre : xs.take i = ys.take i := hpre
 replace kk1 : Ext w V1 := kk1
 replace xx1 : Ext w V1 := xx1
 have e1 := kk1
 refine wp_seq_k fun K6 hK6 => ?_
 refine Qab ?_
 refine Qaa (.bool (decide (((i : Nat) : Int) < ((xs.length : Nat) : Int)))) 14 rfl kj kj ?_
 refine Qae ?_
 refine hK6 _ _ ?_
 refine wp_seq_k fun K7 hK7 => ?_
 refine Qau (t := decide (((i : Nat) : Int) < ((xs.length : Nat) : Int))) kj (fun c8 => ?_) (fun c8 => ?_)
 ·skip
  have hlt14 : i < xs.length := by have := of_decide_eq_true c8; omega
  refine wp_skip ?_
  refine hK7 _ _ ?_
  refine wp_seq_k fun K9 hK9 => ?_
  refine wp_block ?_
  refine wp_seq_k fun K10 hK10 => ?_
  refine Qab ?_
  refine Qaa (.int .i64 ((i : Nat) : Int)) 15 rfl kj kj ?_
  refine Qaa (.int .i64 ((i : Nat) : Int)) 5 rfl kj kj ?_
  refine Qae ?_
  refine hK10 _ _ ?_
  refine wp_seq_k fun K11 hK11 => ?_
  have hnx_12 : (xs).length = xs.length := rfl
  obtain ⟨gcx_12, ocx_12, hax_12, hlx_12, hcx_12⟩ := Qbk (RdK.here (RdK.ext hx xx1)) (by rw [hnx_12]; omega)
  have hny_13 : (ys).length = ys.length := rfl
  obtain ⟨gcy_13, ocy_13, hay_13, hly_13, hcy_13⟩ := Qbk (RdK.here (RdK.ext hy xx1)) (by rw [hny_13]; omega)
  refine QaS 8 [⟨none, [(0, none)]⟩, ⟨none, [(5, none)]⟩, ⟨none, [(16, some 0), (17, some 1)]⟩, ⟨none, [(18, some 2)]⟩, ⟨none, [(1, none)]⟩, ⟨none, [(5, none)]⟩, ⟨none, [(20, some 4), (21, some 5)]⟩, ⟨none, [(22, some 6)]⟩] kj kj fun F hF => ?_
  refine Qa9 (Qas _) (.slice a_x xs.length c_x) kj kj (fun W => by kernel_rfl) ?_
  refine Qa9 (Qas _) (.int .i64 ((i : Nat) : Int)) kj kj (fun W => by kernel_rfl) ?_
  refine Qa9 (Qas _) (.pointer (some ⟨gcx_12, ocx_12 + i, none⟩)) kj kj (fun W => (QaA 36 _ _ .i64 i gcx_12 ocx_12 xs.length c_x 3 a_x _ hax_12 rfl rfl kj kj kj kj (Nat.lt_of_lt_of_eq (show i < xs.length by omega) hnx_12.symm))) ?_
  refine QaM (Qas _) (.int .i64 (nth (xs) (i))) kj kj (fun W hR => (Qai 3 _ _ (.int .i64 (nth (xs) (i))) ((Below.cell (Rely.Ext.trans (Qav _) hR) hlx_12).trans (hcx_12 i (Nat.lt_of_lt_of_eq (show i < xs.length by omega) hnx_12.symm))) rfl kj kj)) ?_
  refine Qa9 (Qas _) (.slice a_y ys.length c_y) kj kj (fun W => by kernel_rfl) ?_
  refine Qa9 (Qas _) (.int .i64 ((i : Nat) : Int)) kj kj (fun W => by kernel_rfl) ?_
  refine Qa9 (Qas _) (.pointer (some ⟨gcy_13, ocy_13 + i, none⟩)) kj kj (fun W => (QaA 36 _ _ .i64 i gcy_13 ocy_13 ys.length c_y 3 a_y _ hay_13 rfl rfl kj kj kj kj (Nat.lt_of_lt_of_eq (show i < ys.length by omega) hny_13.symm))) ?_
  refine QaM (Qas _) (.int .i64 (nth (ys) (i))) kj kj (fun W hR => (Qai 3 _ _ (.int .i64 (nth (ys) (i))) ((Below.cell (Rely.Ext.trans (Qav _) hR) hly_13).trans (hcy_13 i (Nat.lt_of_lt_of_eq (show i < ys.length by omega) hny_13.symm))) rfl kj kj)) ?_
  refine Qda (hF _ fun W2 e2 => ?_)
  simp only [List.nil_append, List.cons_append, List.take_succ_cons, List.take_zero, List.drop_succ_cons, List.drop_zero, finE, up]
  clear hF
  have x2 : Ext w W2 := Ext.tr xx1 e2
  refine Qaa (.bool (((nth (xs) (i)) != (nth (ys) (i))))) 24 rfl kj kj ?_
  refine Qae ?_
  refine hK11 _ _ ?_
  refine Qau (t := ((nth (xs) (i)) != (nth (ys) (i)))) kj (fun c14 => ?_) (fun c14 => ?_)
  ·skip
   have hcn : nth xs i ≠ nth ys i := (bne_iff_ne.1 c14)
   refine wp_seq_k fun K15 hK15 => ?_
   refine Qab ?_
   refine Qaa (.bool false) 4 rfl kj kj ?_
   refine Qae ?_
   refine hK15 _ _ ?_
   refine wp_ret ?_
   repeat (first | with_reducible refine goR1 ?_ | with_reducible refine goR2 ?_)
   exact (show bodyPost _ _ _ .ret _ _ from ret1 (.bool false) rfl (Qap kj) ⟨congrArg (fun z => Ending.returned (.bool z)) (decide_eq_false (fun e => hcn (congrArg (fun z => nth z i) e))).symm, x2⟩)
  ·skip
   have hcn : nth xs i = nth ys i := (bne_eq_false_iff_eq.1 c14)
   refine wp_skip ?_
   refine hK9 _ _ ?_
   refine Qab ?_
   refine Qaa (.int .i64 ((i + 1 : Nat) : Int)) 25 rfl kj (Qak (u := .int .i64 (IntKind.i64.wrap (((i : Nat) : Int) + 1))) kj (congrArg (Value.int .i64) (i64n _ _ (by omega) (by omega)))) ?_
   refine Qaa (.int .i64 ((i + 1 : Nat) : Int)) 13 rfl kj kj ?_
   refine Qae ?_
   have y0_2 : Ext w W2 := (Rely.Ext.trans e1 e2)
   repeat (first | with_reducible refine goX1 ?_ | with_reducible refine goX2 ?_ | with_reducible refine goX3 ?_)
   exact Qaw (i + 1) ⟨rfl, rfl, rfl, rfl, trivial⟩ ⟨(by omega), (QbV hpre hcn (by omega) (by omega)), y0_2, x2⟩ (by show xs.length - (i + 1) < xs.length - i; omega)
 ·skip
  have heq14 : i = xs.length := by have := of_decide_eq_false c8; omega
  have hxy : xs = ys := by rw [heq14, List.take_length, hl, List.take_length] at hpre; exact hpre
  refine wp_exit ?_
  refine hK4 _ _ ?_
  refine wp_seq_k fun K16 hK16 => ?_
  refine Qab ?_
  refine Qaa (.bool true) 4 rfl kj kj ?_
  refine Qae ?_
  refine hK16 _ _ ?_
  refine wp_ret ?_
  repeat (first | with_reducible refine goR1 ?_ | with_reducible refine goR2 ?_)
  exact (show bodyPost _ _ _ .ret _ _ from ret1 (.bool true) rfl (Qap kj) ⟨congrArg (fun z => Ending.returned (.bool z)) (decide_eq_true hxy).symm, xx1⟩)
theorem QjS (xs ys : List Int) (a_x a_y : Option Addr) (c_x c_y B1 B2 : Nat) (w : World) (hxl : xs.length ≤ 1000000) (hyl : ys.length ≤ 1000000) (hx : RdK .i64 B1 xs (.slice a_x xs.length c_x) w) (hy : RdK .i64 B2 ys (.slice a_y ys.length c_y) w) : Calls Tryd.prog 23 #[.slice a_x xs.length c_x, .slice a_y ys.length c_y] w (Ret w (.bool (decide (xs = ys)))) := by
  by_cases hl : xs.length = ys.length
  · exact Qj6 xs ys a_x a_y c_x c_y B1 B2 w hxl hyl hx hy hl
  · exact Qj5 xs ys a_x a_y c_x c_y B1 B2 w hxl hyl hx hy hl
theorem QjR (xs : List Int) (a_x a_y : Option Addr) (c_x c_y B1 B2 : Nat) (w : World) (hxl : xs.length ≤ 1000000) (hx : RdK .i64 B1 xs (.slice a_x xs.length c_x) w) (hy : RdK .i64 B2 xs (.slice a_y xs.length c_y) w) : Calls Tryd.prog 23 #[.slice a_x xs.length c_x, .slice a_y xs.length c_y] w (Ret w (.bool true)) := by
  have h := QjS xs xs a_x a_y c_x c_y B1 B2 w hxl hxl hx hy
  rw [decide_eq_true rfl] at h
  exact h
theorem Qjn (ts : List NdV) (a_t : Option Addr) (c_t B1 : Nat) (w : World) (ht : TrAt B1 w a_t ts) (htl : ts.length ≤ 100000) (hmt : ∀ i, i < ts.length → (ndi ts i).n.ms.length ≤ 1000000) (hT : TabAt w) (z : Int) (hz : z < 0 ∨ (0 ≤ z ∧ ((ts.length : Nat) : Int) ≤ z)) : Calls Tryd.prog 22 #[.slice a_t ts.length c_t, .int .i64 z] w (Ret w (.slice none 0 0)) := by
  rcases hz with hz | ⟨hz, hz2⟩
  · exact Qgf ts a_t c_t B1 w ht htl hmt hT z hz
  · exact Qge ts a_t c_t B1 w ht htl hmt hT z hz hz2
set_option maxRecDepth 100000 in
set_option maxHeartbeats 4000000 in
theorem Qjy (ts : List NdV) (a_t : Option Addr) (c_t B1 : Nat) (w : World) (ht : TrAt B1 w a_t ts) (hT : TabAt w) (hs : ¬ (∀ i, i < ts.length → i ≤ 70 ∧ (ndi ts i).n.ms.length ≤ 50)) (z : Int) : Calls Tryd.prog 5 #[.slice a_t ts.length c_t, .int .i64 z] w (Ret w (.bool true)) := by
  refine enter 34 [(0, .slice a_t ts.length c_t), (1, .int .i64 z)] Tryd.func5 rfl rfl kj rfl ?_
  refine wp_seq_k fun K1 hK1 => ?_
  refine Qab ?_
  refine Qaa (.bool false) 4 rfl kj kj ?_
  refine Qae ?_
  refine hK1 _ _ ?_
  refine wp_seq_k fun K2 hK2 => ?_
  refine wp_seq_k fun K3 hK3 => ?_
  refine Qab ?_
  refine Qam (.bool true) 9 #[] 6 rfl kj kj (QdF _ (TabAt.ext hT (Rely.Ext.refl w))) fun W1 e1 => ?_
  have x1 : Ext w W1 := Ext.tr (Rely.Ext.refl w) e1
  refine Qaa (.bool false) 7 rfl kj kj ?_
  refine Qae ?_
  refine hK3 _ _ ?_
  refine cond_false kj ?_
  refine wp_skip ?_
  refine hK2 _ _ ?_
  refine wp_seq_k fun K4 hK4 => ?_
  refine wp_seq_k fun K5 hK5 => ?_
  refine Qab ?_
  refine Qaa (.slice a_t ts.length c_t) 8 rfl kj kj ?_
  refine Qam (.bool true) 10 #[.slice a_t ts.length c_t] 9 rfl kj kj (Qgx ts a_t c_t _ _ (TrAt.ext ht x1) hs) fun W2 e2 => ?_
  have x2 : Ext w W2 := Ext.tr x1 e2
  refine Qae ?_
  refine hK5 _ _ ?_
  refine cond_true kj ?_
  refine wp_seq_k fun K6 hK6 => ?_
  refine Qab ?_
  refine Qaa (.bool true) 4 rfl kj kj ?_
  refine Qae ?_
  refine hK6 _ _ ?_
  refine wp_ret ?_
  repeat (first | with_reducible refine goR1 ?_ | with_reducible refine goR2 ?_)
  exact (show bodyPost _ _ _ .ret _ _ from ret1 (.bool true) rfl (Qap kj) ⟨rfl, x2⟩)
set_option maxRecDepth 100000 in
set_option maxHeartbeats 4000000 in
theorem Qj1 (ts : List NdV) (a_t : Option Addr) (c_t B1 : Nat) (w : World) (ht : TrAt B1 w a_t ts) (hT : TabAt w) (hs : ∀ i, i < ts.length → i ≤ 70 ∧ (ndi ts i).n.ms.length ≤ 50) (hc : chkT ts = false) (z : Int) (hz : z < 0 ∨ (0 ≤ z ∧ ((ts.length : Nat) : Int) ≤ z)) : Calls Tryd.prog 5 #[.slice a_t ts.length c_t, .int .i64 z] w (Ret w (.bool true)) := by
  have hl := Qet hs
  have htl : ts.length ≤ 100000 := by omega
  have hl6 : ts.length ≤ 1000000 := by omega
  have hm6 : ∀ i, i < ts.length → (ndi ts i).n.ms.length ≤ 1000000 := fun i hi => Nat.le_trans (hs i hi).2 (by decide)
  refine enter 34 [(0, .slice a_t ts.length c_t), (1, .int .i64 z)] Tryd.func5 rfl rfl kj rfl ?_
  refine wp_seq_k fun K1 hK1 => ?_
  refine Qab ?_
  refine Qaa (.bool false) 4 rfl kj kj ?_
  refine Qae ?_
  refine hK1 _ _ ?_
  refine wp_seq_k fun K2 hK2 => ?_
  refine wp_seq_k fun K3 hK3 => ?_
  refine Qab ?_
  refine Qam (.bool true) 9 #[] 6 rfl kj kj (QdF _ (TabAt.ext hT (Rely.Ext.refl w))) fun W1 e1 => ?_
  have x1 : Ext w W1 := Ext.tr (Rely.Ext.refl w) e1
  refine Qaa (.bool false) 7 rfl kj kj ?_
  refine Qae ?_
  refine hK3 _ _ ?_
  refine cond_false kj ?_
  refine wp_skip ?_
  refine hK2 _ _ ?_
  refine wp_seq_k fun K4 hK4 => ?_
  refine wp_seq_k fun K5 hK5 => ?_
  refine Qab ?_
  refine Qaa (.slice a_t ts.length c_t) 8 rfl kj kj ?_
  refine Qam (.bool false) 10 #[.slice a_t ts.length c_t] 9 rfl kj kj (Qcb ts a_t c_t _ _ (TrAt.ext ht x1) hs) fun W2 e2 => ?_
  have x2 : Ext w W2 := Ext.tr x1 e2
  refine Qae ?_
  refine hK5 _ _ ?_
  refine cond_false kj ?_
  refine wp_skip ?_
  refine hK4 _ _ ?_
  refine wp_seq_k fun K6 hK6 => ?_
  refine Qab ?_
  refine Qaa (.slice a_t ts.length c_t) 10 rfl kj kj ?_
  refine Qaa (.int .i64 z) 11 rfl kj kj ?_
  refine Qam (.slice none 0 0) 22 #[.slice a_t ts.length c_t, .int .i64 z] 12 rfl kj kj (Qjn ts a_t c_t _ _ (TrAt.ext ht x2) htl hm6 (TabAt.ext hT x2) z hz) fun W3 e3 => ?_
  have x3 : Ext w W3 := Ext.tr x2 e3
  refine Qaa (.slice none 0 0) 5 rfl kj kj ?_
  refine Qae ?_
  refine hK6 _ _ ?_
  refine wp_seq_k fun K7 hK7 => ?_
  refine wp_seq_k fun K8 hK8 => ?_
  refine Qab ?_
  refine Qaa (.slice a_t ts.length c_t) 13 rfl kj kj ?_
  refine Qam (.bool false) 12 #[.slice a_t ts.length c_t] 14 rfl kj kj (Qg5 ts a_t c_t _ _ (TrAt.ext ht x3) htl hm6 false hc) fun W4 e4 => ?_
  have x4 : Ext w W4 := Ext.tr x3 e4
  refine Qaa (.bool true) 15 rfl kj kj ?_
  refine Qaa (.bool true) 16 rfl kj kj ?_
  refine Qac 17 rfl kj ?_
  refine Qac 18 rfl kj ?_
  refine Qaa (.bool true) 19 rfl kj kj ?_
  refine Qaa (.bool true) 20 rfl kj kj ?_
  refine Qac 21 rfl kj ?_
  refine Qac 22 rfl kj ?_
  refine Qac 23 rfl kj ?_
  refine Qac 24 rfl kj ?_
  refine Qaa (.bool true) 25 rfl kj kj ?_
  refine Qae ?_
  refine hK8 _ _ ?_
  refine cond_true kj ?_
  refine wp_seq_k fun K9 hK9 => ?_
  refine Qab ?_
  refine Qaa (.slice none 0 0) 26 rfl kj kj ?_
  refine Qaa (.int .i64 0) 27 rfl kj kj ?_
  refine Qaa (.bool true) 28 rfl kj kj ?_
  refine Qaa (.bool true) 4 rfl kj kj ?_
  refine Qae ?_
  refine hK9 _ _ ?_
  refine wp_ret ?_
  repeat (first | with_reducible refine goR1 ?_ | with_reducible refine goR2 ?_)
  exact (show bodyPost _ _ _ .ret _ _ from ret1 (.bool true) rfl (Qap kj) ⟨rfl, x4⟩)
set_option maxRecDepth 100000 in
set_option maxHeartbeats 4000000 in
theorem Qj0 (ts : List NdV) (a_t : Option Addr) (c_t B1 : Nat) (w : World) (ht : TrAt B1 w a_t ts) (hT : TabAt w) (hs : ∀ i, i < ts.length → i ≤ 70 ∧ (ndi ts i).n.ms.length ≤ 50) (hc : chkT ts = false) (x : Nat) (hx : x < ts.length) : Calls Tryd.prog 5 #[.slice a_t ts.length c_t, .int .i64 ((x : Nat) : Int)] w (Ret w (.bool true)) := by
  have hl := Qet hs
  have htl : ts.length ≤ 100000 := by omega
  have hl6 : ts.length ≤ 1000000 := by omega
  have hm6 : ∀ i, i < ts.length → (ndi ts i).n.ms.length ≤ 1000000 := fun i hi => Nat.le_trans (hs i hi).2 (by decide)
  refine enter 34 [(0, .slice a_t ts.length c_t), (1, .int .i64 ((x : Nat) : Int))] Tryd.func5 rfl rfl kj rfl ?_
  refine wp_seq_k fun K1 hK1 => ?_
  refine Qab ?_
  refine Qaa (.bool false) 4 rfl kj kj ?_
  refine Qae ?_
  refine hK1 _ _ ?_
  refine wp_seq_k fun K2 hK2 => ?_
  refine wp_seq_k fun K3 hK3 => ?_
  refine Qab ?_
  refine Qam (.bool true) 9 #[] 6 rfl kj kj (QdF _ (TabAt.ext hT (Rely.Ext.refl w))) fun W1 e1 => ?_
  have x1 : Ext w W1 := Ext.tr (Rely.Ext.refl w) e1
  refine Qaa (.bool false) 7 rfl kj kj ?_
  refine Qae ?_
  refine hK3 _ _ ?_
  refine cond_false kj ?_
  refine wp_skip ?_
  refine hK2 _ _ ?_
  refine wp_seq_k fun K4 hK4 => ?_
  refine wp_seq_k fun K5 hK5 => ?_
  refine Qab ?_
  refine Qaa (.slice a_t ts.length c_t) 8 rfl kj kj ?_
  refine Qam (.bool false) 10 #[.slice a_t ts.length c_t] 9 rfl kj kj (Qcb ts a_t c_t _ _ (TrAt.ext ht x1) hs) fun W2 e2 => ?_
  have x2 : Ext w W2 := Ext.tr x1 e2
  refine Qae ?_
  refine hK5 _ _ ?_
  refine cond_false kj ?_
  refine wp_skip ?_
  refine hK4 _ _ ?_
  refine wp_seq_k fun K6 hK6 => ?_
  refine Qab ?_
  refine Qaa (.slice a_t ts.length c_t) 10 rfl kj kj ?_
  refine Qaa (.int .i64 ((x : Nat) : Int)) 11 rfl kj kj ?_
  refine Qam (.slice none 0 0) 22 #[.slice a_t ts.length c_t, .int .i64 ((x : Nat) : Int)] 12 rfl kj kj (Qit ts a_t c_t _ _ (TrAt.ext ht x2) htl hm6 (TabAt.ext hT x2) x hx hc) fun W3 e3 => ?_
  have x3 : Ext w W3 := Ext.tr x2 e3
  refine Qaa (.slice none 0 0) 5 rfl kj kj ?_
  refine Qae ?_
  refine hK6 _ _ ?_
  refine wp_seq_k fun K7 hK7 => ?_
  refine wp_seq_k fun K8 hK8 => ?_
  refine Qab ?_
  refine Qaa (.slice a_t ts.length c_t) 13 rfl kj kj ?_
  refine Qam (.bool false) 12 #[.slice a_t ts.length c_t] 14 rfl kj kj (Qg5 ts a_t c_t _ _ (TrAt.ext ht x3) htl hm6 false hc) fun W4 e4 => ?_
  have x4 : Ext w W4 := Ext.tr x3 e4
  refine Qaa (.bool true) 15 rfl kj kj ?_
  refine Qaa (.bool true) 16 rfl kj kj ?_
  refine Qac 17 rfl kj ?_
  refine Qac 18 rfl kj ?_
  refine Qaa (.bool true) 19 rfl kj kj ?_
  refine Qaa (.bool true) 20 rfl kj kj ?_
  refine Qac 21 rfl kj ?_
  refine Qac 22 rfl kj ?_
  refine Qac 23 rfl kj ?_
  refine Qac 24 rfl kj ?_
  refine Qaa (.bool true) 25 rfl kj kj ?_
  refine Qae ?_
  refine hK8 _ _ ?_
  refine cond_true kj ?_
  refine wp_seq_k fun K9 hK9 => ?_
  refine Qab ?_
  refine Qaa (.slice none 0 0) 26 rfl kj kj ?_
  refine Qaa (.int .i64 0) 27 rfl kj kj ?_
  refine Qaa (.bool true) 28 rfl kj kj ?_
  refine Qaa (.bool true) 4 rfl kj kj ?_
  refine Qae ?_
  refine hK9 _ _ ?_
  refine wp_ret ?_
  repeat (first | with_reducible refine goR1 ?_ | with_reducible refine goR2 ?_)
  exact (show bodyPost _ _ _ .ret _ _ from ret1 (.bool true) rfl (Qap kj) ⟨rfl, x4⟩)
set_option maxRecDepth 100000 in
set_option maxHeartbeats 4000000 in
theorem Qj2 (ts : List NdV) (a_t : Option Addr) (c_t B1 : Nat) (w : World) (ht : TrAt B1 w a_t ts) (hT : TabAt w) (hs : ∀ i, i < ts.length → i ≤ 70 ∧ (ndi ts i).n.ms.length ≤ 50) (hc : chkT ts = true) (z : Int) (hz : z < 0) : Calls Tryd.prog 5 #[.slice a_t ts.length c_t, .int .i64 z] w (Ret w (.bool true)) := by
  have hl := Qet hs
  have htl : ts.length ≤ 100000 := by omega
  have hl6 : ts.length ≤ 1000000 := by omega
  have hm6 : ∀ i, i < ts.length → (ndi ts i).n.ms.length ≤ 1000000 := fun i hi => Nat.le_trans (hs i hi).2 (by decide)
  refine enter 34 [(0, .slice a_t ts.length c_t), (1, .int .i64 z)] Tryd.func5 rfl rfl kj rfl ?_
  refine wp_seq_k fun K1 hK1 => ?_
  refine Qab ?_
  refine Qaa (.bool false) 4 rfl kj kj ?_
  refine Qae ?_
  refine hK1 _ _ ?_
  refine wp_seq_k fun K2 hK2 => ?_
  refine wp_seq_k fun K3 hK3 => ?_
  refine Qab ?_
  refine Qam (.bool true) 9 #[] 6 rfl kj kj (QdF _ (TabAt.ext hT (Rely.Ext.refl w))) fun W1 e1 => ?_
  have x1 : Ext w W1 := Ext.tr (Rely.Ext.refl w) e1
  refine Qaa (.bool false) 7 rfl kj kj ?_
  refine Qae ?_
  refine hK3 _ _ ?_
  refine cond_false kj ?_
  refine wp_skip ?_
  refine hK2 _ _ ?_
  refine wp_seq_k fun K4 hK4 => ?_
  refine wp_seq_k fun K5 hK5 => ?_
  refine Qab ?_
  refine Qaa (.slice a_t ts.length c_t) 8 rfl kj kj ?_
  refine Qam (.bool false) 10 #[.slice a_t ts.length c_t] 9 rfl kj kj (Qcb ts a_t c_t _ _ (TrAt.ext ht x1) hs) fun W2 e2 => ?_
  have x2 : Ext w W2 := Ext.tr x1 e2
  refine Qae ?_
  refine hK5 _ _ ?_
  refine cond_false kj ?_
  refine wp_skip ?_
  refine hK4 _ _ ?_
  refine wp_seq_k fun K6 hK6 => ?_
  refine Qab ?_
  refine Qaa (.slice a_t ts.length c_t) 10 rfl kj kj ?_
  refine Qaa (.int .i64 z) 11 rfl kj kj ?_
  refine Qam (.slice none 0 0) 22 #[.slice a_t ts.length c_t, .int .i64 z] 12 rfl kj kj (Qgf ts a_t c_t _ _ (TrAt.ext ht x2) htl hm6 (TabAt.ext hT x2) z hz) fun W3 e3 => ?_
  have x3 : Ext w W3 := Ext.tr x2 e3
  refine Qaa (.slice none 0 0) 5 rfl kj kj ?_
  refine Qae ?_
  refine hK6 _ _ ?_
  refine wp_seq_k fun K7 hK7 => ?_
  refine wp_seq_k fun K8 hK8 => ?_
  refine Qab ?_
  refine Qaa (.slice a_t ts.length c_t) 13 rfl kj kj ?_
  refine Qam (.bool true) 12 #[.slice a_t ts.length c_t] 14 rfl kj kj (Qg5 ts a_t c_t _ _ (TrAt.ext ht x3) htl hm6 true hc) fun W4 e4 => ?_
  have x4 : Ext w W4 := Ext.tr x3 e4
  refine Qaa (.bool false) 15 rfl kj kj ?_
  refine Qaa (.bool false) 16 rfl kj kj ?_
  refine Qaa (.int .i64 z) 17 rfl kj kj ?_
  refine Qaa (.bool true) 18 rfl kj (Qak (u := .bool (decide (z < 0))) kj (congrArg Value.bool (decide_eq_true (by omega)))) ?_
  refine Qaa (.bool true) 19 rfl kj kj ?_
  refine Qaa (.bool true) 20 rfl kj kj ?_
  refine Qac 21 rfl kj ?_
  refine Qac 22 rfl kj ?_
  refine Qac 23 rfl kj ?_
  refine Qac 24 rfl kj ?_
  refine Qaa (.bool true) 25 rfl kj kj ?_
  refine Qae ?_
  refine hK8 _ _ ?_
  refine cond_true kj ?_
  refine wp_seq_k fun K9 hK9 => ?_
  refine Qab ?_
  refine Qaa (.slice none 0 0) 26 rfl kj kj ?_
  refine Qaa (.int .i64 0) 27 rfl kj kj ?_
  refine Qaa (.bool true) 28 rfl kj kj ?_
  refine Qaa (.bool true) 4 rfl kj kj ?_
  refine Qae ?_
  refine hK9 _ _ ?_
  refine wp_ret ?_
  repeat (first | with_reducible refine goR1 ?_ | with_reducible refine goR2 ?_)
  exact (show bodyPost _ _ _ .ret _ _ from ret1 (.bool true) rfl (Qap kj) ⟨rfl, x4⟩)
set_option maxRecDepth 100000 in
set_option maxHeartbeats 4000000 in
theorem Qjz (ts : List NdV) (a_t : Option Addr) (c_t B1 : Nat) (w : World) (ht : TrAt B1 w a_t ts) (hT : TabAt w) (hs : ∀ i, i < ts.length → i ≤ 70 ∧ (ndi ts i).n.ms.length ≤ 50) (hc : chkT ts = true) (z : Int) (hz : 0 ≤ z) (hz2 : ((ts.length : Nat) : Int) ≤ z) : Calls Tryd.prog 5 #[.slice a_t ts.length c_t, .int .i64 z] w (Ret w (.bool true)) := by
  have hl := Qet hs
  have htl : ts.length ≤ 100000 := by omega
  have hl6 : ts.length ≤ 1000000 := by omega
  have hm6 : ∀ i, i < ts.length → (ndi ts i).n.ms.length ≤ 1000000 := fun i hi => Nat.le_trans (hs i hi).2 (by decide)
  refine enter 34 [(0, .slice a_t ts.length c_t), (1, .int .i64 z)] Tryd.func5 rfl rfl kj rfl ?_
  refine wp_seq_k fun K1 hK1 => ?_
  refine Qab ?_
  refine Qaa (.bool false) 4 rfl kj kj ?_
  refine Qae ?_
  refine hK1 _ _ ?_
  refine wp_seq_k fun K2 hK2 => ?_
  refine wp_seq_k fun K3 hK3 => ?_
  refine Qab ?_
  refine Qam (.bool true) 9 #[] 6 rfl kj kj (QdF _ (TabAt.ext hT (Rely.Ext.refl w))) fun W1 e1 => ?_
  have x1 : Ext w W1 := Ext.tr (Rely.Ext.refl w) e1
  refine Qaa (.bool false) 7 rfl kj kj ?_
  refine Qae ?_
  refine hK3 _ _ ?_
  refine cond_false kj ?_
  refine wp_skip ?_
  refine hK2 _ _ ?_
  refine wp_seq_k fun K4 hK4 => ?_
  refine wp_seq_k fun K5 hK5 => ?_
  refine Qab ?_
  refine Qaa (.slice a_t ts.length c_t) 8 rfl kj kj ?_
  refine Qam (.bool false) 10 #[.slice a_t ts.length c_t] 9 rfl kj kj (Qcb ts a_t c_t _ _ (TrAt.ext ht x1) hs) fun W2 e2 => ?_
  have x2 : Ext w W2 := Ext.tr x1 e2
  refine Qae ?_
  refine hK5 _ _ ?_
  refine cond_false kj ?_
  refine wp_skip ?_
  refine hK4 _ _ ?_
  refine wp_seq_k fun K6 hK6 => ?_
  refine Qab ?_
  refine Qaa (.slice a_t ts.length c_t) 10 rfl kj kj ?_
  refine Qaa (.int .i64 z) 11 rfl kj kj ?_
  refine Qam (.slice none 0 0) 22 #[.slice a_t ts.length c_t, .int .i64 z] 12 rfl kj kj (Qge ts a_t c_t _ _ (TrAt.ext ht x2) htl hm6 (TabAt.ext hT x2) z hz hz2) fun W3 e3 => ?_
  have x3 : Ext w W3 := Ext.tr x2 e3
  refine Qaa (.slice none 0 0) 5 rfl kj kj ?_
  refine Qae ?_
  refine hK6 _ _ ?_
  refine wp_seq_k fun K7 hK7 => ?_
  refine wp_seq_k fun K8 hK8 => ?_
  refine Qab ?_
  refine Qaa (.slice a_t ts.length c_t) 13 rfl kj kj ?_
  refine Qam (.bool true) 12 #[.slice a_t ts.length c_t] 14 rfl kj kj (Qg5 ts a_t c_t _ _ (TrAt.ext ht x3) htl hm6 true hc) fun W4 e4 => ?_
  have x4 : Ext w W4 := Ext.tr x3 e4
  refine Qaa (.bool false) 15 rfl kj kj ?_
  refine Qaa (.bool false) 16 rfl kj kj ?_
  refine Qaa (.int .i64 z) 17 rfl kj kj ?_
  refine Qaa (.bool false) 18 rfl kj (Qak (u := .bool (decide (z < 0))) kj (congrArg Value.bool (decide_eq_false (by omega)))) ?_
  refine Qaa (.bool false) 19 rfl kj kj ?_
  refine Qaa (.bool false) 20 rfl kj kj ?_
  refine Qaa (.int .i64 z) 21 rfl kj kj ?_
  refine Qaa (.slice a_t ts.length c_t) 22 rfl kj kj ?_
  refine Qaa (.int .i64 ((ts.length : Nat) : Int)) 23 rfl kj kj ?_
  refine Qaa (.bool true) 24 rfl kj (Qak (u := .bool (decide (z ≥ ((ts.length : Nat) : Int)))) kj (congrArg Value.bool (decide_eq_true (by omega)))) ?_
  refine Qaa (.bool true) 25 rfl kj kj ?_
  refine Qae ?_
  refine hK8 _ _ ?_
  refine cond_true kj ?_
  refine wp_seq_k fun K9 hK9 => ?_
  refine Qab ?_
  refine Qaa (.slice none 0 0) 26 rfl kj kj ?_
  refine Qaa (.int .i64 0) 27 rfl kj kj ?_
  refine Qaa (.bool true) 28 rfl kj kj ?_
  refine Qaa (.bool true) 4 rfl kj kj ?_
  refine Qae ?_
  refine hK9 _ _ ?_
  refine wp_ret ?_
  repeat (first | with_reducible refine goR1 ?_ | with_reducible refine goR2 ?_)
  exact (show bodyPost _ _ _ .ret _ _ from ret1 (.bool true) rfl (Qap kj) ⟨rfl, x4⟩)
set_option maxRecDepth 100000 in
set_option maxHeartbeats 4000000 in
theorem Qjx (ts : List NdV) (a_t : Option Addr) (c_t B1 : Nat) (w : World) (ht : TrAt B1 w a_t ts) (hT : TabAt w) (hs : ∀ i, i < ts.length → i ≤ 70 ∧ (ndi ts i).n.ms.length ≤ 50) (hc : chkT ts = true) (x : Nat) (hx : x < ts.length) : Calls Tryd.prog 5 #[.slice a_t ts.length c_t, .int .i64 ((x : Nat) : Int)] w (Ret w (.bool true)) := by
  have hl := Qet hs
  have htl : ts.length ≤ 100000 := by omega
  have hl6 : ts.length ≤ 1000000 := by omega
  have hm6 : ∀ i, i < ts.length → (ndi ts i).n.ms.length ≤ 1000000 := fun i hi => Nat.le_trans (hs i hi).2 (by decide)
  obtain ⟨L, hL, hL3, hlen, hTr⟩ := QgC htl hc
  have hlv := (Qc1 (Qbd hTr (x := x) (by omega))).1
  have hrl : (resT ts x).length ≤ 1000000 := Nat.le_trans (Qcy (fun i hi => (hs i hi).2) 5 x) (by decide)
  refine enter 34 [(0, .slice a_t ts.length c_t), (1, .int .i64 ((x : Nat) : Int))] Tryd.func5 rfl rfl kj rfl ?_
  refine wp_seq_k fun K1 hK1 => ?_
  refine Qab ?_
  refine Qaa (.bool false) 4 rfl kj kj ?_
  refine Qae ?_
  refine hK1 _ _ ?_
  refine wp_seq_k fun K2 hK2 => ?_
  refine wp_seq_k fun K3 hK3 => ?_
  refine Qab ?_
  refine Qam (.bool true) 9 #[] 6 rfl kj kj (QdF _ (TabAt.ext hT (Rely.Ext.refl w))) fun W1 e1 => ?_
  have x1 : Ext w W1 := Ext.tr (Rely.Ext.refl w) e1
  refine Qaa (.bool false) 7 rfl kj kj ?_
  refine Qae ?_
  refine hK3 _ _ ?_
  refine cond_false kj ?_
  refine wp_skip ?_
  refine hK2 _ _ ?_
  refine wp_seq_k fun K4 hK4 => ?_
  refine wp_seq_k fun K5 hK5 => ?_
  refine Qab ?_
  refine Qaa (.slice a_t ts.length c_t) 8 rfl kj kj ?_
  refine Qam (.bool false) 10 #[.slice a_t ts.length c_t] 9 rfl kj kj (Qcb ts a_t c_t _ _ (TrAt.ext ht x1) hs) fun W2 e2 => ?_
  have x2 : Ext w W2 := Ext.tr x1 e2
  refine Qae ?_
  refine hK5 _ _ ?_
  refine cond_false kj ?_
  refine wp_skip ?_
  refine hK4 _ _ ?_
  refine wp_seq_k fun K6 hK6 => ?_
  refine Qab ?_
  refine Qaa (.slice a_t ts.length c_t) 10 rfl kj kj ?_
  refine Qaa (.int .i64 ((x : Nat) : Int)) 11 rfl kj kj ?_
  refine Qa2 (fun v W' => (OwnN .i64 3 W2.heap.size (resT ts x)) v W' ∧ Ext W2 W') 22 #[.slice a_t ts.length c_t, .int .i64 ((x : Nat) : Int)] 12 rfl kj kj ((Qis ts a_t c_t _ _ (TrAt.ext ht x2) htl hm6 (TabAt.ext hT x2) x hx hc).mono (by rintro e w' ⟨v, rfl, e1, hv⟩; exact ⟨v, rfl, hv, e1⟩)) fun vv7 W3 hh7 => ?_
  obtain ⟨hv7, e3⟩ := hh7
  have x3 : Ext w W3 := Ext.tr x2 e3
  have hrp := OwnN.rd hv7
  obtain ⟨ap, cp, hvp, -⟩ := id hrp
  subst hvp
  refine Qaa (.slice ap ((resT ts x).length) cp) 5 rfl kj kj ?_
  refine Qae ?_
  refine hK6 _ _ ?_
  refine wp_seq_k fun K8 hK8 => ?_
  refine wp_seq_k fun K9 hK9 => ?_
  refine Qab ?_
  refine Qaa (.slice a_t ts.length c_t) 13 rfl kj kj ?_
  refine Qam (.bool true) 12 #[.slice a_t ts.length c_t] 14 rfl kj kj (Qg5 ts a_t c_t _ _ (TrAt.ext ht x3) htl hm6 true hc) fun W4 e4 => ?_
  have x4 : Ext w W4 := Ext.tr x3 e4
  refine Qaa (.bool false) 15 rfl kj kj ?_
  refine Qaa (.bool false) 16 rfl kj kj ?_
  refine Qaa (.int .i64 ((x : Nat) : Int)) 17 rfl kj kj ?_
  refine Qaa (.bool false) 18 rfl kj (Qak (u := .bool (decide (((x : Nat) : Int) < 0))) kj (congrArg Value.bool (decide_eq_false (by omega)))) ?_
  refine Qaa (.bool false) 19 rfl kj kj ?_
  refine Qaa (.bool false) 20 rfl kj kj ?_
  refine Qaa (.int .i64 ((x : Nat) : Int)) 21 rfl kj kj ?_
  refine Qaa (.slice a_t ts.length c_t) 22 rfl kj kj ?_
  refine Qaa (.int .i64 ((ts.length : Nat) : Int)) 23 rfl kj kj ?_
  refine Qaa (.bool false) 24 rfl kj (Qak (u := .bool (decide (((x : Nat) : Int) ≥ ((ts.length : Nat) : Int)))) kj (congrArg Value.bool (decide_eq_false (by omega)))) ?_
  refine Qaa (.bool false) 25 rfl kj kj ?_
  refine Qae ?_
  refine hK9 _ _ ?_
  refine cond_false kj ?_
  refine wp_skip ?_
  refine hK8 _ _ ?_
  refine wp_seq_k fun K10 hK10 => ?_
  refine Qab ?_
  refine Qaa (.slice ap ((resT ts x).length) cp) 29 rfl kj kj ?_
  refine Qaa (.slice a_t ts.length c_t) 30 rfl kj kj ?_
  refine Qaa (.int .i64 ((x : Nat) : Int)) 31 rfl kj kj ?_
  refine Qa2 (fun v W' => (OwnN .i64 3 W4.heap.size (resT ts x)) v W' ∧ Ext W4 W') 24 #[.slice a_t ts.length c_t, .int .i64 ((x : Nat) : Int)] 32 rfl kj kj ((resR ts a_t c_t B1 htl hm6 L hlen hTr 5 x (by decide) hx hlv _ (TrAt.ext ht x4)).mono (by rintro e w' ⟨v, rfl, e1, hv⟩; exact ⟨v, rfl, hv, e1⟩)) fun vv11 W5 hh11 => ?_
  obtain ⟨hv11, e5⟩ := hh11
  have x5 : Ext w W5 := Ext.tr x4 e5
  have hrr := OwnN.rd hv11
  obtain ⟨ar, cr, hvr, -⟩ := id hrr
  subst hvr
  have y3_4 : Ext W3 W4 := (Rely.Ext.trans (Rely.Ext.refl W3) e4)
  have y3_5 : Ext W3 W5 := (Rely.Ext.trans y3_4 e5)
  refine Qam (.bool true) 23 #[.slice ap ((resT ts x).length) cp, .slice ar ((resT ts x).length) cr] 33 rfl kj kj (QjR (resT ts x) ap ar cp cr _ _ _ hrl (RdK.here (RdK.ext hrp y3_5)) (RdK.here (RdK.ext hrr (Rely.Ext.refl W5)))) fun W6 e6 => ?_
  have x6 : Ext w W6 := Ext.tr x5 e6
  refine Qaa (.bool true) 4 rfl kj kj ?_
  refine Qae ?_
  refine hK10 _ _ ?_
  refine wp_ret ?_
  repeat (first | with_reducible refine goR1 ?_ | with_reducible refine goR2 ?_)
  exact (show bodyPost _ _ _ .ret _ _ from ret1 (.bool true) rfl (Qap kj) ⟨rfl, x6⟩)
theorem lawResolves (ts : List NdV) (a_t : Option Addr) (c_t B1 : Nat) (w : World) (ht : TrAt B1 w a_t ts) (hT : TabAt w) (z : Int) : Calls Tryd.prog 5 #[.slice a_t ts.length c_t, .int .i64 z] w (Ret w (.bool true)) := by
  by_cases hs : ∀ i, i < ts.length → i ≤ 70 ∧ (ndi ts i).n.ms.length ≤ 50
  case neg => exact Qjy ts a_t c_t B1 w ht hT hs z
  by_cases hz : 0 ≤ z ∧ z < ((ts.length : Nat) : Int)
  · obtain ⟨x, rfl⟩ := Int.eq_ofNat_of_zero_le hz.1
    have hx : x < ts.length := by omega
    cases hc : chkT ts with
    | false => exact Qj0 ts a_t c_t B1 w ht hT hs hc x hx
    | true => exact Qjx ts a_t c_t B1 w ht hT hs hc x hx
  · cases hc : chkT ts with
    | false => exact Qj1 ts a_t c_t B1 w ht hT hs hc z (by omega)
    | true =>
      by_cases h0 : z < 0
      · exact Qj2 ts a_t c_t B1 w ht hT hs hc z h0
      · exact Qjz ts a_t c_t B1 w ht hT hs hc z (by omega) (by omega)
end Go.Proofs.YtcmaolmofgmkhaaDoor.Te
end
section
namespace Go.Proofs.YtcmaolmofgmkhaaDoor.Auto
open Go Go.RowKit Go.WideShapes
open Rely
set_option linter.unusedVariables false
section
variable {H : Type} {enc : TypeId × Value → H} {P : Program} {W w : World} {r : Reach} {base b0 : Nat} {sp : Nat → Bool} {held : Bool}
theorem open_raw {n : Nat} {t e : TypeId} {cs : List Value} {fuel : Nat} {x : DataW H × List MemPlace} (ht : P.underlying t = some (.array n e)) (he : P.underlying e = some (.int .u8)) (hce : P.cellsOf e = 1) (hct : P.cellsOf t = n)
    (hf : DataW.trod enc P w b0 sp held fuel t cs = some x) : ∃ xs : List Int, cs = xs.map (Value.int .u8) ∧ xs.length = n ∧ Qbs xs := by
  obtain ⟨xs, m, -, -, hl, hn, hx⟩ := DataW.trod_array ht hf
  have hcs : cs.length = n := by simpa [hct] using hl
  have each : ∀ i, i < n → ∃ z : Int, cs[i]? = some (.int .u8 z) ∧ (0 ≤ z ∧ z ≤ 255) := by
    intro i hi
    have h1 := hx i hi
    rw [hce, Nat.mul_one] at h1
    have hlt : i < cs.length := by omega
    have h2 : cs.drop i = cs[i] :: cs.drop (i + 1) := List.drop_eq_getElem_cons hlt
    have h1 : DataW.trod enc P w b0 sp held m e ((cs.drop i).take 1) = xs[i]? := h1
    rw [h2] at h1
    simp only [List.take_succ_cons, List.take_zero] at h1
    obtain ⟨y, hy⟩ : ∃ y, xs[i]? = some y := ⟨xs[i], by simp [hn, hi]⟩
    rw [hy] at h1
    obtain ⟨z, hc, -, hw⟩ := DataW.trod_int he h1
    refine ⟨z, ?_, ?_⟩
    · rw [List.getElem?_eq_getElem hlt]
      simp only [List.cons.injEq] at hc
      rw [hc.1]
    · simpa [Lit.wf, IntKind.min, IntKind.max, IntKind.signed, IntKind.bits] using hw
  have all : ∀ (l : List Value), (∀ i, i < l.length → ∃ z : Int, l[i]? = some (.int .u8 z) ∧ (0 ≤ z ∧ z ≤ 255)) → ∃ zs : List Int, l = zs.map (Value.int .u8) ∧ Qbs zs := by
    intro l
    induction l with
    | nil => exact fun _ => ⟨[], rfl, fun x hx => by simp at hx⟩
    | cons a l ih =>
      intro h
      obtain ⟨zs, h1, h2⟩ := ih fun i hi => by simpa using h (i + 1) (by simp; omega)
      obtain ⟨z, h3, h4⟩ := h 0 (by simp)
      simp only [List.getElem?_cons_zero, Option.some.injEq] at h3
      refine ⟨z :: zs, by rw [h3, h1]; rfl, fun x hx => ?_⟩
      rcases List.mem_cons.1 hx with e | e
      · rw [e]; exact h4
      · exact h2 x e
  obtain ⟨zs, h1, h2⟩ := all cs fun i hi => each i (by omega)
  exact ⟨zs, h1, by rw [← hcs, h1, List.length_map], h2⟩
end
end Go.Proofs.YtcmaolmofgmkhaaDoor.Auto
end
section
namespace Go.Proofs.YtcmaolmofgmkhaaDoor.Auto
open Go Go.RowKit Go.WideShapes
open Rely
set_option linter.unusedVariables false
section
variable {H : Type} {enc : TypeId × Value → H} {P : Program} {W w : World} {r : Reach} {base b0 : Nat} {sp : Nat → Bool} {held : Bool}
theorem QgQ {t : TypeId} {f0 f1 f2 f3 f4 f5 : Field} {fuel : Nat} {cs : List Value} {x : DataW H × List MemPlace} (ht : P.underlying t = some (.struct #[f0, f1, f2, f3, f4, f5])) (h : DataW.trod enc P w b0 sp held fuel t cs = some x) :
    ∃ y0 y1 y2 y3 y4 y5 n, cs.length = P.cellsOf t ∧ DataW.trod enc P w b0 sp held n f0.type ((cs.drop f0.offset).take (P.cellsOf f0.type)) = some y0 ∧ DataW.trod enc P w b0 sp held n f1.type ((cs.drop f1.offset).take (P.cellsOf f1.type)) = some y1 ∧ DataW.trod enc P w b0 sp held n f2.type ((cs.drop f2.offset).take (P.cellsOf f2.type)) = some y2 ∧ DataW.trod enc P w b0 sp held n f3.type ((cs.drop f3.offset).take (P.cellsOf f3.type)) = some y3 ∧ DataW.trod enc P w b0 sp held n f4.type ((cs.drop f4.offset).take (P.cellsOf f4.type)) = some y4 ∧ DataW.trod enc P w b0 sp held n f5.type ((cs.drop f5.offset).take (P.cellsOf f5.type)) = some y5 := by
  obtain ⟨xs, n, _, rfl, hl, hlen, hf⟩ := DataW.trod_struct ht h
  match xs, hlen with
  | [y0, y1, y2, y3, y4, y5], _ => exact ⟨y0, y1, y2, y3, y4, y5, n, hl, by simpa using hf 0 f0 rfl, by simpa using hf 1 f1 rfl, by simpa using hf 2 f2 rfl, by simpa using hf 3 f3 rfl, by simpa using hf 4 f4 rfl, by simpa using hf 5 f5 rfl⟩
theorem sub_st6 {t : TypeId} {f0 f1 f2 f3 f4 f5 : Field} {fuel : Nat} {cs : List Value} {x : DataW H × List MemPlace} {n0 n1 n2 n3 n4 n5 : Nat} (ht : P.underlying t = some (.struct #[f0, f1, f2, f3, f4, f5]))
    (ho : f0.offset = 0 ∧ f1.offset = n0 ∧ f2.offset = n0 + n1 ∧ f3.offset = n0 + n1 + n2 ∧ f4.offset = n0 + n1 + n2 + n3 ∧ f5.offset = n0 + n1 + n2 + n3 + n4) (hc : P.cellsOf f0.type = n0 ∧ P.cellsOf f1.type = n1 ∧ P.cellsOf f2.type = n2 ∧ P.cellsOf f3.type = n3 ∧ P.cellsOf f4.type = n4 ∧ P.cellsOf f5.type = n5) (hC : P.cellsOf t = n0 + n1 + n2 + n3 + n4 + n5) (h : DataW.trod enc P w b0 sp held fuel t cs = some x) :
    ∃ (X0 X1 X2 X3 X4 X5 : List Value) (y0 y1 y2 y3 y4 y5 : DataW H × List MemPlace) (n : Nat), cs = X0 ++ X1 ++ X2 ++ X3 ++ X4 ++ X5 ∧ DataW.trod enc P w b0 sp held n f0.type X0 = some y0 ∧ DataW.trod enc P w b0 sp held n f1.type X1 = some y1 ∧ DataW.trod enc P w b0 sp held n f2.type X2 = some y2 ∧ DataW.trod enc P w b0 sp held n f3.type X3 = some y3 ∧ DataW.trod enc P w b0 sp held n f4.type X4 = some y4 ∧ DataW.trod enc P w b0 sp held n f5.type X5 = some y5 := by
  obtain ⟨y0, y1, y2, y3, y4, y5, n, hl, h0, h1, h2, h3, h4, h5⟩ := QgQ ht h
  obtain ⟨o0, o1, o2, o3, o4, o5⟩ := ho
  obtain ⟨c0, c1, c2, c3, c4, c5⟩ := hc
  rw [o0, c0] at h0
  rw [o1, c1] at h1
  rw [o2, c2] at h2
  rw [o3, c3] at h3
  rw [o4, c4] at h4
  rw [o5, c5] at h5
  refine ⟨_, _, _, _, _, _, y0, y1, y2, y3, y4, y5, n, ?_, h0, h1, h2, h3, h4, h5⟩
  rw [hC] at hl
  simp only [List.drop_zero]
  have e1 : cs.take (n0) ++ (cs.drop (n0)).take n1 = cs.take (n0 + n1) := by rw [List.take_add (i := n0)]
  have e2 : cs.take (n0 + n1) ++ (cs.drop (n0 + n1)).take n2 = cs.take (n0 + n1 + n2) := by rw [List.take_add (i := n0 + n1)]
  have e3 : cs.take (n0 + n1 + n2) ++ (cs.drop (n0 + n1 + n2)).take n3 = cs.take (n0 + n1 + n2 + n3) := by rw [List.take_add (i := n0 + n1 + n2)]
  have e4 : cs.take (n0 + n1 + n2 + n3) ++ (cs.drop (n0 + n1 + n2 + n3)).take n4 = cs.take (n0 + n1 + n2 + n3 + n4) := by rw [List.take_add (i := n0 + n1 + n2 + n3)]
  have e5 : cs.take (n0 + n1 + n2 + n3 + n4) ++ (cs.drop (n0 + n1 + n2 + n3 + n4)).take n5 = cs.take (n0 + n1 + n2 + n3 + n4 + n5) := by rw [List.take_add (i := n0 + n1 + n2 + n3 + n4)]
  rw [e1, e2, e3, e4, e5, List.take_of_length_le (by omega)]
end
end Go.Proofs.YtcmaolmofgmkhaaDoor.Auto
end
section
namespace Go.Proofs.YtcmaolmofgmkhaaDoor.Auto
open Go Go.RowKit
open Rely
set_option linter.unusedVariables false
end Go.Proofs.YtcmaolmofgmkhaaDoor.Auto
end
section
namespace Go.Proofs.YtcmaolmofgmkhaaDoor.Te
open Go Go.RowKit
open Rely Auto Own Sha
set_option linter.unusedVariables false
set_option linter.unusedSimpArgs false
open Go.WideShapes Go.ChangeShapes Go.ChangeAt Go.Deep
open Go.Proofs.YtcmaolmofgmkhaaDoor
section
variable {H : Type} {enc : TypeId × Value → H} {P : Program} {w : World} {b0 : Nat} {held : Bool}
theorem Qhz (x : Addr) (i j : Nat) : (x.add i).add j = x.add (i + j) := by
  by_cases hi : i = 0 <;> by_cases hj : j = 0 <;> simp [Addr.add, hi, hj, Nat.add_assoc]
theorem open_tree {t s e5 e3 : TypeId} {f0 f1 f2 f3 f4 f5 : Field} {ad : Option Addr} {len cap : Nat} {d : DataW H} {p : List MemPlace} (hs : P.underlying t = some (.slice s)) (hss : P.underlying s = some (.struct #[f0, f1, f2, f3, f4, f5]))
    (ho : f0.offset = 0 ∧ f1.offset = 1 ∧ f2.offset = 1 + 1 ∧ f3.offset = 1 + 1 + 32 ∧ f4.offset = 1 + 1 + 32 + 32 ∧ f5.offset = 1 + 1 + 32 + 32 + 32) (hc : P.cellsOf f0.type = 1 ∧ P.cellsOf f1.type = 1 ∧ P.cellsOf f2.type = 32 ∧ P.cellsOf f3.type = 32 ∧ P.cellsOf f4.type = 32 ∧ P.cellsOf f5.type = 1) (hC : P.cellsOf s = 1 + 1 + 32 + 32 + 32 + 1)
    (h0 : P.underlying f0.type = some .bool) (h1 : P.underlying f1.type = some (.int .i64)) (h2 : P.underlying f2.type = some (.array 32 e5)) (h3 : P.underlying f3.type = some (.array 32 e5)) (h4 : P.underlying f4.type = some (.array 32 e5)) (h5 : P.underlying f5.type = some (.slice e3))
    (he5 : P.underlying e5 = some (.int .u8)) (hc5 : P.cellsOf e5 = 1) (he3 : P.underlying e3 = some (.int .i64)) (hc3 : P.cellsOf e3 = 1)
    (h : DataW.Trod enc P w b0 (fun _ => true) held t (.slice ad len cap) d p) :
    ∃ ts : List NdV, ts.length = len ∧ TrAt w.heap.size w ad ts ∧ ∀ n ∈ ts, NdOk n.n := by
  obtain ⟨fuel, hf⟩ := h
  rcases DataW.trod_slice hs hf with ⟨hcs', -⟩ | ⟨x, l, c, elems, rest, n, -, hcs', -, hb, hl, hmx, hlen, hel, -, -⟩
  · simp [Value.cells] at hcs'
    obtain ⟨rfl, rfl, rfl⟩ := hcs'
    exact ⟨[], rfl, ⟨0, 0, fun h => absurd h (by decide), fun i hi => absurd hi (Nat.not_lt_zero _)⟩, fun n hn => by cases hn⟩
  · simp [Value.cells] at hcs'
    obtain ⟨rfl, rfl, rfl⟩ := hcs'
    have key : ∀ i, i < len → ∃ n : NdV, (∀ j u, (cat (ndP n))[j]? = some u → w.cell? (x.add (i * 99 + j)) = some u) ∧ RdK .i64 w.heap.size n.n.ms (.slice n.a n.n.ms.length n.c) w ∧ NdOk n.n := fun i hi => by
      have h9 := hel i hi
      rw [hC, List.getElem?_eq_getElem (by omega)] at h9
      obtain ⟨cs, hc1, hc2⟩ := Option.bind_eq_some_iff.1 h9
      obtain ⟨hn, q1, q2⟩ := World.cells?_some hc1
      obtain ⟨X0, X1, X2, X3, X4, X5, y0, y1, y2, y3, y4, y5, m, hcs, t0, t1, t2, t3, t4, t5⟩ := Auto.sub_st6 hss ho hc hC hc2
      obtain ⟨us, rfl, -⟩ := DataW.trod_bool h0 t0
      obtain ⟨nm, rfl, -, -⟩ := DataW.trod_int h1 t1
      obtain ⟨key, rfl, hkl, hkb⟩ := Auto.open_raw h2 he5 hc5 hc.2.2.1 t2
      obtain ⟨sg, rfl, hgl, hgb⟩ := Auto.open_raw h3 he5 hc5 hc.2.2.2.1 t3
      obtain ⟨pa, rfl, hpl, hpb⟩ := Auto.open_raw h4 he5 hc5 hc.2.2.2.2.1 t4
      have fin : ∀ (a : Option Addr) (ms : List Int) (c : Nat), X5 = [.slice a ms.length c] → RdK .i64 w.heap.size ms (.slice a ms.length c) w → ∃ n : NdV, (∀ j u, (cat (ndP n))[j]? = some u → w.cell? (x.add (i * 99 + j)) = some u) ∧ RdK .i64 w.heap.size n.n.ms (.slice n.a n.n.ms.length n.c) w ∧ NdOk n.n := fun a ms c e r => by
        refine ⟨⟨⟨us, nm, key, sg, pa, ms⟩, a, c⟩, fun j u hu => ?_, r, ⟨hkl, hgl, hpl, hkb, hgb, hpb⟩⟩
        have e9 : (cat (ndP ⟨⟨us, nm, key, sg, pa, ms⟩, a, c⟩)).toList = cs := by
          rw [hcs, e]
          unfold ndP
          simp [cat, Rely.ints]
        rw [← Array.getElem?_toList, e9] at hu
        have hj : j < 99 := by have := (List.getElem?_eq_some_iff.1 hu).1; omega
        have := q2 j hj
        rw [Qhz] at this
        rw [this]; exact hu
      rcases open_ints h5 he3 hc3 t5 with ⟨hcv, -⟩ | ⟨y, l, cc, zs, hcv, -, hl2, hm2, hz2, -, hcell, hwz⟩
      · exact fin none [] 0 hcv ⟨none, 0, rfl, Nat.le_refl _, Nat.zero_le _, fun _ => rfl, .inl rfl⟩
      · obtain ⟨r, rl, rf⟩ := Auto.rdK_of_row (k := .i64) (w := w) (a := some y) (len := l) (cap := cc) (zs := zs) (.inr ⟨y, rfl, hl2, hm2, by simpa using hz2, hcell, hwz⟩)
        refine fin (some y) (zs.take l) cc (by rw [rl]; exact hcv) ?_
        rw [rl]; exact r
    rcases Nat.eq_zero_or_pos len with h0' | h0'
    · subst h0'
      exact ⟨[], rfl, ⟨0, 0, fun h => absurd h (by decide), fun i hi => absurd hi (Nat.not_lt_zero _)⟩, fun n hn => by cases hn⟩
    obtain ⟨b, off, spot⟩ := x
    have first : ∀ n : NdV, (cat (ndP n))[0]? = some (.bool n.n.us) := fun n => by
      unfold ndP
      show (#[Value.bool n.n.us] ++ cat _)[0]? = _
      rw [Array.getElem?_append_left (show 0 < 1 by decide)]
      rfl
    obtain ⟨n0, hq, -⟩ := key 0 h0'
    have hq0 := hq 0 _ (first n0)
    have hspot : spot = none := by simpa [Addr.add] using World.cell?_spot hq0
    subst hspot
    rw [WideShapes.add_plain] at hq0
    have hlt : b < w.heap.size := QcG hq0
    have all : ∀ m, m ≤ len → ∃ ts : List NdV, ts.length = m ∧ ∀ i, i < m → NdAt w.heap.size w b (off + i * 99) (ndi ts i) := by
      intro m
      induction m with
      | zero => exact fun _ => ⟨[], rfl, fun i hi => absurd hi (Nat.not_lt_zero _)⟩
      | succ m ih =>
        intro hm
        obtain ⟨ts, htl, hts⟩ := ih (by omega)
        obtain ⟨n, k1, k2, k3⟩ := key m (by omega)
        refine ⟨ts ++ [n], by rw [List.length_append, htl]; rfl, fun i hi => ?_⟩
        have e : ndi (ts ++ [n]) i = if i < m then ndi ts i else n := by
          unfold ndi
          rw [List.getD_eq_getElem?_getD, List.getD_eq_getElem?_getD]
          split
          · rename_i h; rw [List.getElem?_append_left (by omega)]
          · rename_i h
            rw [List.getElem?_append_right (by omega), show i - ts.length = 0 by omega]; rfl
        rw [e]
        split
        · rename_i h; exact hts i h
        · rename_i h
          obtain rfl : i = m := by omega
          exact ⟨hlt, hlt, fun j u hu => by have := k1 j u hu; rw [WideShapes.add_plain] at this; rw [Nat.add_assoc]; exact this, k2, k3⟩
    obtain ⟨ts, htl, hts⟩ := all len (Nat.le_refl _)
    refine ⟨ts, htl, ⟨b, off, fun _ => rfl, fun i hi => hts i (by omega)⟩, fun n hn => ?_⟩
    obtain ⟨i, hi, e⟩ := List.mem_iff_getElem.1 hn
    have := (hts i (by omega)).ok
    unfold ndi at this
    rw [List.getD_eq_getElem?_getD, List.getElem?_eq_getElem hi] at this
    rw [← e]; exact this
end
end Go.Proofs.YtcmaolmofgmkhaaDoor.Te
end
