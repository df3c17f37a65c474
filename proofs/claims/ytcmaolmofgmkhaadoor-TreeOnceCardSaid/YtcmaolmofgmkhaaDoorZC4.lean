/- Texts of this claim, joined (C4). -/
import Derived.Test.YtcmaolmofgmkhaaDoorZC3
import Derived.Lib.SmallJoins
import Derived.Lib.LaidTab
import Derived.Deep.Strs

section
namespace Go.Proofs.YtcmaolmofgmkhaaDoor.Te
open Go Go.RowKit
open Rely Auto Own Seat Sha
set_option linter.unusedVariables false
set_option linter.unusedSimpArgs false
def dbl (i : Int) : Int := IntKind.i64.wrap (2 * i)
def resL (ts : List NdV) (x k : Nat) : List Int := ((x : Nat) : Int) :: ((ndi ts x).n.ms.take k).map dbl
theorem Qfm (ts : List NdV) (x k : Nat) : (resL ts x k).length ≤ k + 1 := by unfold resL; simp; omega
theorem Qgu {ts : List NdV} {x k : Nat} (h : k < (ndi ts x).n.ms.length) : resL ts x (k + 1) = resL ts x k ++ [dbl (nth (ndi ts x).n.ms k)] := by
  unfold resL
  rw [List.take_add_one, List.map_append, List.cons_append, List.getElem?_eq_getElem h]
  simp [nth, List.getD_eq_getElem?_getD, List.getElem?_eq_getElem h]
def resN (ts : List NdV) : Nat → Nat → List Int
  | 0, x => if (ndi ts x).n.us = true then resL ts x (ndi ts x).n.ms.length else []
  | k + 1, x => if (ndi ts x).n.us = true then resL ts x (ndi ts x).n.ms.length else if kidL ((x : Nat) : Int) < 0 then [] else resN ts k (kidL ((x : Nat) : Int)).toNat ++ resN ts k (kidR ((x : Nat) : Int)).toNat
theorem Qgs {ts : List NdV} {x : Nat} (k : Nat) (h : (ndi ts x).n.us = true) : resN ts k x = resL ts x (ndi ts x).n.ms.length := by cases k <;> (unfold resN; rw [if_pos h])
theorem Qgt {ts : List NdV} {x : Nat} (k : Nat) (h : (ndi ts x).n.us = false) (h2 : kidL ((x : Nat) : Int) < 0) : resN ts k x = [] := by cases k <;> (unfold resN; rw [if_neg (by rw [h]; decide)]); rw [if_pos h2]
theorem Qfl {ts : List NdV} {x l r : Nat} (k : Nat) (h : (ndi ts x).n.us = false) (hl : kidL ((x : Nat) : Int) = ((l : Nat) : Int)) (hr : kidR ((x : Nat) : Int) = ((r : Nat) : Int)) : resN ts (k + 1) x = resN ts k l ++ resN ts k r := by
  show (if _ then _ else if _ then _ else _) = _
  rw [if_neg (by rw [h]; decide), if_neg (by omega), hl, hr]; rfl
theorem QdS {ts : List NdV} {b : Nat} (hm : ∀ i, i < ts.length → (ndi ts i).n.ms.length ≤ b) : ∀ k x, (resN ts k x).length ≤ 2 ^ k * (b + 1) := by
  have h0 : ∀ x, (resL ts x (ndi ts x).n.ms.length).length ≤ b + 1 := fun x => by
    have h1 := Qfm ts x (ndi ts x).n.ms.length
    rcases Nat.lt_or_ge x ts.length with h | h
    · have := hm x h; omega
    · have : (ndi ts x).n.ms.length = 0 := by unfold ndi; rw [List.getD_eq_getElem?_getD, List.getElem?_eq_none h]; rfl
      omega
  intro k
  induction k with
  | zero => intro x; unfold resN; split; (have := h0 x; omega); exact Nat.zero_le _
  | succ k ih =>
    intro x; unfold resN; split
    · exact Nat.le_trans (h0 x) (Nat.le_mul_of_pos_left _ (Nat.two_pow_pos _))
    · split
      · exact Nat.zero_le _
      · rw [List.length_append]; have h1 := ih (kidL ((x : Nat) : Int)).toNat; have h2 := ih (kidR ((x : Nat) : Int)).toNat; rw [Nat.pow_succ, Nat.mul_right_comm]; omega
theorem Qjj : Qbj (fun n x => decide (lv x ≤ 5) && (decide (kidL x = -1) && decide (kidR x = -1) || (Qas (kidL x) n && Qas (kidR x) n && decide (lv (kidL x) = lv x - 1) && decide (lv (kidR x) = lv x - 1)))) = true := by decide +kernel
def resT (ts : List NdV) (x : Nat) : List Int := resN ts 5 x
theorem Qdt {x n : Int} (h : Qas x n = true) : lv x ≤ 5 ∧ ((kidL x = -1 ∧ kidR x = -1) ∨ (Qas (kidL x) n = true ∧ Qas (kidR x) n = true ∧ lv (kidL x) = lv x - 1 ∧ lv (kidR x) = lv x - 1)) := by
  have := QaA Qjj h
  simpa [and_assoc] using this
theorem QcD {x n : Int} (h : Qas x n = true) : 0 ≤ x := by unfold Qas at h; simp at h; omega
theorem QdV {x n : Int} (h : Qas x n = true) : x ≤ 2 * n - 2 := by unfold Qas at h; simp at h; omega
set_option maxRecDepth 100000 in
set_option maxHeartbeats 4000000 in
theorem QhW (ts : List NdV) (a_t : Option Addr) (c_t B1 : Nat) (htl : ts.length ≤ 100000) (hmt : ∀ i, i < ts.length → (ndi ts i).n.ms.length ≤ 1000000) (w : World) (ht : TrAt B1 w a_t ts) (hT : TabAt w) (kN : Nat) (x : Nat) (hx : x < ts.length) (hus : (ndi ts x).n.us = true) : Calls Tryd.prog 48 #[.slice a_t ts.length c_t, .int .i64 ((x : Nat) : Int)] w (QbG w (OwnN .i64 3 w.heap.size (resN ts kN x))) := by
 refine enter 48 [(0, .slice a_t ts.length c_t), (1, .int .i64 ((x : Nat) : Int))] Tryd.func48 rfl rfl kj rfl ?_
 refine wp_seq_k fun K1 hK1 => ?_
 refine Qab ?_
 refine Qaa (.slice none 0 0) 4 rfl kj kj ?_
 refine Qae ?_
 refine hK1 _ _ ?_
 refine wp_seq_k fun K2 hK2 => ?_
 refine wp_seq_k fun K3 hK3 => ?_
 obtain ⟨gyT, oyT, hay, hnys⟩ := TrAt.ext ht (Rely.Ext.refl w)
 have hny := hnys (x) (by omega)
 obtain ⟨ny, eny⟩ : ∃ z, z = ndi ts (x) := ⟨_, rfl⟩
 rw [← eny] at hny
 have oky := hny.ok
 have rdy := hny.rd
 skip
 ·skip
  refine Qab ?_
  refine Qaa (.slice a_t ts.length c_t) 10 rfl kj kj ?_
  refine Qaa (.int .i64 ((x : Nat) : Int)) 11 rfl kj kj ?_
  refine Qaa (.pointer (some ⟨gyT, oyT + (x) * 99, none⟩)) 12 rfl kj (Qal 23 _ _ .i64 (x) gyT oyT ts.length c_t 41 99 a_t (hay (by omega)) rfl kj kj kj kj (by omega)) ?_
  refine Qaa (.pointer (some ⟨gyT, oyT + (x) * 99, none⟩)) 13 rfl kj kj ?_
  refine Qaa (.bool true) 14 rfl kj (Qaj 4 _ _ (.bool true) ((NdAt.at3 hny).1.trans (congrArg (fun z => some (Value.bool z)) (eny ▸ hus))) rfl kj kj) ?_
  refine Qae ?_
  refine hK3 _ _ ?_
  refine cond_true kj ?_
  refine wp_seq_k fun K4 hK4 => ?_
  refine Qab ?_
  refine Qaa (.int .i64 ((x : Nat) : Int)) 15 rfl kj kj ?_
  refine QbL (ints .i64 ([((x : Nat) : Int)])) 3 1 16 rfl kj kj fun g5 W1 l5 e1 r5_1 => ?_
  have x1 : Ext w W1 := Ext.tr (Rely.Ext.refl w) e1
  have b5 : w.heap.size ≤ g5 := Nat.le_trans (Rely.Ext.refl w).size l5
  refine Qaa (.slice (some ⟨g5, 0, none⟩) 1 1) 5 rfl kj kj ?_
  refine Qae ?_
  refine hK4 _ _ ?_
  refine wp_seq_k fun K6 hK6 => ?_
  refine wp_seq_k fun K7 hK7 => ?_
  skip
  ·skip
   refine Qab ?_
   refine Qaa (.slice a_t ts.length c_t) 17 rfl kj kj ?_
   refine Qaa (.int .i64 ((x : Nat) : Int)) 18 rfl kj kj ?_
   refine Qaa (.pointer (some ⟨gyT, oyT + (x) * 99, none⟩)) 19 rfl kj (Qal 23 _ _ .i64 (x) gyT oyT ts.length c_t 41 99 a_t (hay (by omega)) rfl kj kj kj kj (by omega)) ?_
   refine Qaa (.pointer (some ⟨gyT, oyT + (x) * 99 + 98, none⟩)) 20 rfl kj kj ?_
   have y0_1 : Ext w W1 := (Rely.Ext.trans (Rely.Ext.refl w) e1)
   refine Qaa (.slice ny.a ny.n.ms.length ny.c) 21 rfl kj (Qaj 36 _ _ (.slice ny.a ny.n.ms.length ny.c) (NdAt.at3 (NdAt.ext hny y0_1)).2.2 rfl kj kj) ?_
   refine Qaa (.int .i64 ((ny.n.ms.length : Nat) : Int)) 22 rfl kj kj ?_
   refine Qaa (.int .i64 0) 23 rfl kj kj ?_
   refine Qae ?_
   refine hK7 _ _ ?_
   refine wp_block ?_
   refine Qa5 (fun (s1 : Nat × Value) => [(0, .slice a_t ts.length c_t), (1, .int .i64 ((x : Nat) : Int)), (5, s1.2), (21, .slice ny.a ny.n.ms.length ny.c), (22, .int .i64 ((ny.n.ms.length : Nat) : Int)), (23, .int .i64 ((s1.1 : Nat) : Int))]) (fun (s1 : Nat × Value) W => (s1.1 ≤ (ndi ts x).n.ms.length) ∧ (OwnN .i64 3 w.heap.size (resL ts x s1.1) s1.2 W) ∧ (Below w.heap.size W1 W) ∧ (Ext w W)) (fun (s1 : Nat × Value) => (ndi ts x).n.ms.length - s1.1) (0, (.slice (some ⟨g5, 0, none⟩) 1 1)) ⟨rfl, rfl, rfl, rfl, rfl, rfl, trivial⟩ ⟨(Nat.zero_le _), (Qfp (xs := [((x : Nat) : Int)]) rfl b5 r5_1 (by decide)), (RowKit.Below.refl _ W1), x1⟩ fun s1 X1 V1 hI1 => ?_
   obtain ⟨k, u⟩ := s1
   obtain ⟨hk, hu, kk1, xx1⟩ := hI1
   replace hk : k ≤ (ndi ts x).n.ms.length := hk
   replace hu : OwnN .i64 3 w.heap.size (resL ts x k) u V1 := hu
   replace kk1 : Below w.heap.size W1 V1 := kk1
   replace xx1 : Ext w V1 := xx1
   have l2 := kk1
   have hk2 : k ≤ ny.n.ms.length := eny ▸ hk
   have hnm : ny.n.ms.length ≤ 1000000 := eny ▸ hmt x hx
   refine wp_seq_k fun K8 hK8 => ?_
   refine Qab ?_
   refine Qaa (.bool (decide (((k : Nat) : Int) < ((ny.n.ms.length : Nat) : Int)))) 24 rfl kj kj ?_
   refine Qae ?_
   refine hK8 _ _ ?_
   refine wp_seq_k fun K9 hK9 => ?_
   refine Qav (t := decide (((k : Nat) : Int) < ((ny.n.ms.length : Nat) : Int))) kj (fun c10 => ?_) (fun c10 => ?_)
   ·skip
    have hlt24 : k < ny.n.ms.length := by have := of_decide_eq_true c10; omega
    have hlt := hlt24
    have y0_2 : Ext w V1 := (Ext.low y0_1 l2 (Rely.Ext.refl w).size)
    have hnx_11 : (ny.n.ms).length = ny.n.ms.length := rfl
    obtain ⟨gcx_11, ocx_11, hax_11, hlx_11, hcx_11⟩ := Qbz (RdK.here (RdK.ext rdy y0_2)) (by rw [hnx_11]; omega)
    refine wp_skip ?_
    refine hK9 _ _ ?_
    refine wp_seq_k fun K12 hK12 => ?_
    refine wp_block ?_
    refine wp_seq_k fun K13 hK13 => ?_
    refine Qab ?_
    refine Qaa (.pointer (some ⟨gcx_11, ocx_11 + k, none⟩)) 25 rfl kj (QaE 36 _ _ .i64 k gcx_11 ocx_11 ny.n.ms.length ny.c 3 ny.a _ hax_11 rfl rfl kj kj kj kj (Nat.lt_of_lt_of_eq (show k < ny.n.ms.length by omega) hnx_11.symm)) ?_
    refine Qaa (.int .i64 (nth (ny.n.ms) (k))) 26 rfl kj (Qaj 3 _ _ (.int .i64 (nth (ny.n.ms) (k))) (hcx_11 k (Nat.lt_of_lt_of_eq (show k < ny.n.ms.length by omega) hnx_11.symm)) rfl kj kj) ?_
    refine Qaa (.int .i64 (nth (ny.n.ms) (k))) 7 rfl kj kj ?_
    refine Qae ?_
    refine hK13 _ _ ?_
    refine Qab ?_
    refine Qaa (u) 27 rfl kj kj ?_
    refine Qaa (.int .i64 (nth (ny.n.ms) (k))) 28 rfl kj kj ?_
    refine Qaa (.int .i64 ((dbl (nth ny.n.ms k)))) 29 rfl kj (Qak (u := .int .i64 (IntKind.i64.wrap (2 * (nth (ny.n.ms) (k))))) kj (congrArg (Value.int .i64) rfl)) ?_
    refine QbL (ints .i64 ([((dbl (nth ny.n.ms k)))])) 3 1 30 rfl kj kj fun g14 W3 l14 e3 r14_3 => ?_
    have x3 : Ext w W3 := Ext.tr xx1 e3
    have b14 : w.heap.size ≤ g14 := Nat.le_trans xx1.size l14
    have f15_3 := (hu.ext e3)
    have y0_3 : Ext w W3 := (Rely.Ext.trans y0_2 e3)
    refine Qcq (k := .i64) (T := 3) (xs := resL ts x k) (ys := [dbl (nth ny.n.ms k)]) (V := w) 8 (.tmp 27) (.tmp 30) 36 rfl kj kj (by decide) 31 rfl kj kj kj f15_3 (Qhw (xs := [((dbl (nth ny.n.ms k)))]) (n := 1) rfl r14_3 (QaB r14_3) (show 1 ≤ maxLen from by decide)) (by have h9 := Qfm ts x k; have h8 := hmt x hx; rw [eny] at hlt; show (resL ts x k).length + 1 ≤ 1000000000; omega) y0_3 fun u2 W4 f16 y4 l4 => ?_
    have x4 : Ext w W4 := Ext.low x3 l4 (Rely.Ext.refl w).size
    refine Qaa (u2) 5 rfl kj kj ?_
    refine Qae ?_
    refine hK12 _ _ ?_
    refine Qab ?_
    refine Qaa (.int .i64 ((k + 1 : Nat) : Int)) 32 rfl kj (Qak (u := .int .i64 (IntKind.i64.wrap (((k : Nat) : Int) + 1))) kj (congrArg (Value.int .i64) (i64n _ _ (by omega) (by omega)))) ?_
    refine Qaa (.int .i64 ((k + 1 : Nat) : Int)) 23 rfl kj kj ?_
    refine Qae ?_
    repeat (first | with_reducible refine goX1 ?_ | with_reducible refine goX2 ?_ | with_reducible refine goX3 ?_)
    exact Qau ((k + 1), u2) ⟨rfl, rfl, rfl, rfl, rfl, rfl, trivial⟩ ⟨(eny ▸ hlt), (by rw [Qgu (eny ▸ hlt), ← eny]; exact f16), (RowKit.Below.trans (RowKit.Below.trans l2 (RowKit.Below.mono e3 y0_2.size)) l4), x4⟩ (by show (ndi ts x).n.ms.length - (k + 1) < (ndi ts x).n.ms.length - k; rw [eny] at hlt; omega)
   ·skip
    have heq24 : k = ny.n.ms.length := by have := of_decide_eq_false c10; omega
    have hlt := heq24
    refine wp_exit ?_
    refine hK6 _ _ ?_
    refine wp_seq_k fun K17 hK17 => ?_
    refine Qab ?_
    refine Qaa (u) 33 rfl kj kj ?_
    refine Qaa (u) 4 rfl kj kj ?_
    refine Qae ?_
    refine hK17 _ _ ?_
    refine wp_ret ?_
    repeat (first | with_reducible refine goR1 ?_ | with_reducible refine goR2 ?_)
    exact (show bodyPost _ _ _ .ret _ _ from ret1 (u) rfl (Qaq kj) ⟨u, rfl, xx1, by rw [Qgs kN hus, show (ndi ts x).n.ms.length = k by rw [← eny, hlt]]; exact hu⟩)
set_option maxRecDepth 100000 in
set_option maxHeartbeats 4000000 in
theorem QhV (ts : List NdV) (a_t : Option Addr) (c_t B1 : Nat) (htl : ts.length ≤ 100000) (hmt : ∀ i, i < ts.length → (ndi ts i).n.ms.length ≤ 1000000) (w : World) (ht : TrAt B1 w a_t ts) (hT : TabAt w) (k : Nat) (x : Nat) (hx : x < ts.length) (hus : (ndi ts x).n.us = false) (h0 : kidL ((x : Nat) : Int) = -1) (hkid : ∀ W, TabAt W → Calls Tryd.prog 67 #[.int .i64 ((x : Nat) : Int)] W (Ret W (.tuple #[.int .i64 (-1), .int .i64 (-1)]))) : Calls Tryd.prog 48 #[.slice a_t ts.length c_t, .int .i64 ((x : Nat) : Int)] w (QbG w (OwnN .i64 3 w.heap.size (resN ts k x))) := by
 refine enter 48 [(0, .slice a_t ts.length c_t), (1, .int .i64 ((x : Nat) : Int))] Tryd.func48 rfl rfl kj rfl ?_
 refine wp_seq_k fun K1 hK1 => ?_
 refine Qab ?_
 refine Qaa (.slice none 0 0) 4 rfl kj kj ?_
 refine Qae ?_
 refine hK1 _ _ ?_
 refine wp_seq_k fun K2 hK2 => ?_
 refine wp_seq_k fun K3 hK3 => ?_
 obtain ⟨gyT, oyT, hay, hnys⟩ := TrAt.ext ht (Rely.Ext.refl w)
 have hny := hnys (x) (by omega)
 obtain ⟨ny, eny⟩ : ∃ z, z = ndi ts (x) := ⟨_, rfl⟩
 rw [← eny] at hny
 have oky := hny.ok
 have rdy := hny.rd
 skip
 ·skip
  refine Qab ?_
  refine Qaa (.slice a_t ts.length c_t) 10 rfl kj kj ?_
  refine Qaa (.int .i64 ((x : Nat) : Int)) 11 rfl kj kj ?_
  refine Qaa (.pointer (some ⟨gyT, oyT + (x) * 99, none⟩)) 12 rfl kj (Qal 23 _ _ .i64 (x) gyT oyT ts.length c_t 41 99 a_t (hay (by omega)) rfl kj kj kj kj (by omega)) ?_
  refine Qaa (.pointer (some ⟨gyT, oyT + (x) * 99, none⟩)) 13 rfl kj kj ?_
  refine Qaa (.bool false) 14 rfl kj (Qaj 4 _ _ (.bool false) ((NdAt.at3 hny).1.trans (congrArg (fun z => some (Value.bool z)) (eny ▸ hus))) rfl kj kj) ?_
  refine Qae ?_
  refine hK3 _ _ ?_
  refine cond_false kj ?_
  refine wp_skip ?_
  refine hK2 _ _ ?_
  refine wp_seq_k fun K4 hK4 => ?_
  refine Qab ?_
  refine Qaa (.int .i64 ((x : Nat) : Int)) 35 rfl kj kj ?_
  refine Qan (.tuple #[.int .i64 (-1), .int .i64 (-1)]) 67 #[.int .i64 ((x : Nat) : Int)] 36 rfl kj kj (hkid _ (TabAt.ext hT (Rely.Ext.refl w))) fun W1 e1 => ?_
  have x1 : Ext w W1 := Ext.tr (Rely.Ext.refl w) e1
  refine Qaa (.tuple #[.int .i64 (-1), .int .i64 (-1)]) 34 rfl kj kj ?_
  refine Qaa (.int .i64 (-1)) 37 rfl kj kj ?_
  refine Qaa (.int .i64 (-1)) 38 rfl kj kj ?_
  refine Qaa (.int .i64 (-1)) 8 rfl kj kj ?_
  refine Qaa (.int .i64 (-1)) 9 rfl kj kj ?_
  refine Qae ?_
  refine hK4 _ _ ?_
  refine wp_seq_k fun K5 hK5 => ?_
  refine wp_seq_k fun K6 hK6 => ?_
  refine Qab ?_
  refine Qaa (.int .i64 (-1)) 39 rfl kj kj ?_
  refine Qaa (.bool true) 40 rfl kj kj ?_
  refine Qae ?_
  refine hK6 _ _ ?_
  refine cond_true kj ?_
  refine wp_seq_k fun K7 hK7 => ?_
  refine Qab ?_
  refine Qaa (.slice none 0 0) 4 rfl kj kj ?_
  refine Qae ?_
  refine hK7 _ _ ?_
  refine wp_ret ?_
  repeat (first | with_reducible refine goR1 ?_ | with_reducible refine goR2 ?_)
  exact (show bodyPost _ _ _ .ret _ _ from ret1 (.slice none 0 0) rfl (Qaq kj) ⟨_, rfl, x1, by rw [Qgt k hus (by omega)]; exact Qdc _ _ _ _⟩)
set_option maxRecDepth 100000 in
set_option maxHeartbeats 4000000 in
theorem QjJ (ts : List NdV) (a_t : Option Addr) (c_t B1 : Nat) (htl : ts.length ≤ 100000) (hmt : ∀ i, i < ts.length → (ndi ts i).n.ms.length ≤ 1000000) (w : World) (ht : TrAt B1 w a_t ts) (hT : TabAt w) (k : Nat) (x : Nat) (hx : x < ts.length) (hus : (ndi ts x).n.us = false) (hk5 : k ≤ 5) (l r : Nat) (hl0 : kidL ((x : Nat) : Int) = ((l : Nat) : Int)) (hr0 : kidR ((x : Nat) : Int) = ((r : Nat) : Int)) (hkid : ∀ W, TabAt W → Calls Tryd.prog 67 #[.int .i64 ((x : Nat) : Int)] W (Ret W (.tuple #[.int .i64 ((l : Nat) : Int), .int .i64 ((r : Nat) : Int)]))) (hl : ∀ w, TrAt B1 w a_t ts → TabAt w → Calls Tryd.prog 48 #[.slice a_t ts.length c_t, .int .i64 ((l : Nat) : Int)] w (QbG w (OwnN .i64 3 w.heap.size (resN ts k l)))) (hr : ∀ w, TrAt B1 w a_t ts → TabAt w → Calls Tryd.prog 48 #[.slice a_t ts.length c_t, .int .i64 ((r : Nat) : Int)] w (QbG w (OwnN .i64 3 w.heap.size (resN ts k r)))) : Calls Tryd.prog 48 #[.slice a_t ts.length c_t, .int .i64 ((x : Nat) : Int)] w (QbG w (OwnN .i64 3 w.heap.size (resN ts (k + 1) x))) := by
 refine enter 48 [(0, .slice a_t ts.length c_t), (1, .int .i64 ((x : Nat) : Int))] Tryd.func48 rfl rfl kj rfl ?_
 refine wp_seq_k fun K1 hK1 => ?_
 refine Qab ?_
 refine Qaa (.slice none 0 0) 4 rfl kj kj ?_
 refine Qae ?_
 refine hK1 _ _ ?_
 refine wp_seq_k fun K2 hK2 => ?_
 refine wp_seq_k fun K3 hK3 => ?_
 obtain ⟨gyT, oyT, hay, hnys⟩ := TrAt.ext ht (Rely.Ext.refl w)
 have hny := hnys (x) (by omega)
 obtain ⟨ny, eny⟩ : ∃ z, z = ndi ts (x) := ⟨_, rfl⟩
 rw [← eny] at hny
 have oky := hny.ok
 have rdy := hny.rd
 skip
 ·skip
  refine Qab ?_
  refine Qaa (.slice a_t ts.length c_t) 10 rfl kj kj ?_
  refine Qaa (.int .i64 ((x : Nat) : Int)) 11 rfl kj kj ?_
  refine Qaa (.pointer (some ⟨gyT, oyT + (x) * 99, none⟩)) 12 rfl kj (Qal 23 _ _ .i64 (x) gyT oyT ts.length c_t 41 99 a_t (hay (by omega)) rfl kj kj kj kj (by omega)) ?_
  refine Qaa (.pointer (some ⟨gyT, oyT + (x) * 99, none⟩)) 13 rfl kj kj ?_
  refine Qaa (.bool false) 14 rfl kj (Qaj 4 _ _ (.bool false) ((NdAt.at3 hny).1.trans (congrArg (fun z => some (Value.bool z)) (eny ▸ hus))) rfl kj kj) ?_
  refine Qae ?_
  refine hK3 _ _ ?_
  refine cond_false kj ?_
  refine wp_skip ?_
  refine hK2 _ _ ?_
  refine wp_seq_k fun K4 hK4 => ?_
  refine Qab ?_
  refine Qaa (.int .i64 ((x : Nat) : Int)) 35 rfl kj kj ?_
  refine Qan (.tuple #[.int .i64 ((l : Nat) : Int), .int .i64 ((r : Nat) : Int)]) 67 #[.int .i64 ((x : Nat) : Int)] 36 rfl kj kj (hkid _ (TabAt.ext hT (Rely.Ext.refl w))) fun W1 e1 => ?_
  have x1 : Ext w W1 := Ext.tr (Rely.Ext.refl w) e1
  refine Qaa (.tuple #[.int .i64 ((l : Nat) : Int), .int .i64 ((r : Nat) : Int)]) 34 rfl kj kj ?_
  refine Qaa (.int .i64 ((l : Nat) : Int)) 37 rfl kj kj ?_
  refine Qaa (.int .i64 ((r : Nat) : Int)) 38 rfl kj kj ?_
  refine Qaa (.int .i64 ((l : Nat) : Int)) 8 rfl kj kj ?_
  refine Qaa (.int .i64 ((r : Nat) : Int)) 9 rfl kj kj ?_
  refine Qae ?_
  refine hK4 _ _ ?_
  refine wp_seq_k fun K5 hK5 => ?_
  refine wp_seq_k fun K6 hK6 => ?_
  refine Qab ?_
  refine Qaa (.int .i64 ((l : Nat) : Int)) 39 rfl kj kj ?_
  refine Qaa (.bool false) 40 rfl kj (Qak (u := .bool (decide (((l : Nat) : Int) < 0))) kj (congrArg Value.bool (decide_eq_false (by omega)))) ?_
  refine Qae ?_
  refine hK6 _ _ ?_
  refine cond_false kj ?_
  refine wp_skip ?_
  refine hK5 _ _ ?_
  refine wp_seq_k fun K7 hK7 => ?_
  refine Qab ?_
  refine Qaa (.slice a_t ts.length c_t) 41 rfl kj kj ?_
  refine Qaa (.int .i64 ((l : Nat) : Int)) 42 rfl kj kj ?_
  refine Qa7 (fun v W' => (OwnN .i64 3 W1.heap.size (resN ts k l)) v W' ∧ Ext W1 W') 48 #[.slice a_t ts.length c_t, .int .i64 ((l : Nat) : Int)] 43 rfl kj kj ((hl _ (TrAt.ext ht x1) (TabAt.ext hT x1)).mono (by rintro e w' ⟨v, rfl, e1, hv⟩; exact ⟨v, rfl, hv, e1⟩)) fun vv8 W2 hh8 => ?_
  obtain ⟨hv8, e2⟩ := hh8
  have x2 : Ext w W2 := Ext.tr x1 e2
  replace hv8 : OwnN .i64 3 w.heap.size (resN ts k l) vv8 W2 := OwnN.base x1.size hv8
  refine Qaa (.slice a_t ts.length c_t) 44 rfl kj kj ?_
  refine Qaa (.int .i64 ((r : Nat) : Int)) 45 rfl kj kj ?_
  refine Qa7 (fun v W' => (OwnN .i64 3 W2.heap.size (resN ts k r)) v W' ∧ Ext W2 W') 48 #[.slice a_t ts.length c_t, .int .i64 ((r : Nat) : Int)] 46 rfl kj kj ((hr _ (TrAt.ext ht x2) (TabAt.ext hT x2)).mono (by rintro e w' ⟨v, rfl, e1, hv⟩; exact ⟨v, rfl, hv, e1⟩)) fun vv9 W3 hh9 => ?_
  obtain ⟨hv9, e3⟩ := hh9
  have x3 : Ext w W3 := Ext.tr x2 e3
  have f10_3 := (hv8.ext e3)
  have y0_1 : Ext w W1 := (Rely.Ext.trans (Rely.Ext.refl w) e1)
  have y0_2 : Ext w W2 := (Rely.Ext.trans y0_1 e2)
  have y0_3 : Ext w W3 := (Rely.Ext.trans y0_2 e3)
  refine Qcq (k := .i64) (T := 3) (xs := resN ts k l) (ys := resN ts k r) (V := w) 8 (.tmp 43) (.tmp 46) 36 rfl kj kj (by decide) 47 rfl kj kj kj f10_3 (OwnN.rd hv9) (by have h9 := QdS hmt k l; have h8 := QdS hmt k r; have h7 := Nat.pow_le_pow_right (show 0 < 2 by decide) hk5; omega) y0_3 fun u2 W4 f11 y4 l4 => ?_
  have x4 : Ext w W4 := Ext.low x3 l4 (Rely.Ext.refl w).size
  refine Qaa (u2) 4 rfl kj kj ?_
  refine Qae ?_
  refine hK7 _ _ ?_
  refine wp_ret ?_
  repeat (first | with_reducible refine goR1 ?_ | with_reducible refine goR2 ?_)
  exact (show bodyPost _ _ _ .ret _ _ from ret1 (u2) rfl (Qaq kj) ⟨_, rfl, x4, by rw [Qfl k hus hl0 hr0]; exact f11⟩)
theorem resP (ts : List NdV) (a_t : Option Addr) (c_t B1 : Nat) (htl : ts.length ≤ 100000) (hmt : ∀ i, i < ts.length → (ndi ts i).n.ms.length ≤ 1000000) (L : Nat) (hlen : ts.length + 1 = 2 * L) (hTr : Qax ((L : Nat) : Int) = true) : ∀ (k x : Nat), k ≤ 5 → x < ts.length → lv ((x : Nat) : Int) ≤ ((k : Nat) : Int) → ∀ w, TrAt B1 w a_t ts → TabAt w → Calls Tryd.prog 48 #[.slice a_t ts.length c_t, .int .i64 ((x : Nat) : Int)] w (QbG w (OwnN .i64 3 w.heap.size (resN ts k x))) := by
  intro k
  induction k with
  | zero =>
    intro x hk hx hl w ht hT
    cases hus : (ndi ts x).n.us with
    | true => exact QhW ts a_t c_t B1 htl hmt w ht hT 0 x hx hus
    | false =>
      have hi : i64 ((x : Nat) : Int) := ⟨by omega, by omega⟩
      have hl := (show lv ((x : Nat) : Int) ≤ 0 from hl)
      have h0 : kidL ((x : Nat) : Int) = -1 := by unfold kidL; rw [if_pos hl]
      have h1 : kidR ((x : Nat) : Int) = -1 := by unfold kidR; rw [if_pos hl]
      exact QhV ts a_t c_t B1 htl hmt w ht hT 0 x hx hus h0 (fun W => by have := (fun W h => quiet (children _ hi W h)) W; rw [h0, h1] at this; exact this)
  | succ k ih =>
    intro x hk hx hl w ht hT
    cases hus : (ndi ts x).n.us with
    | true => exact QhW ts a_t c_t B1 htl hmt w ht hT (k + 1) x hx hus
    | false =>
      have hi : i64 ((x : Nat) : Int) := ⟨by omega, by omega⟩
      rcases Qdt (Qbp hTr (x := x) (by omega)) with ⟨-, ⟨h0, h1⟩ | ⟨h2, h3, h4, h5⟩⟩
      · exact QhV ts a_t c_t B1 htl hmt w ht hT (k + 1) x hx hus h0 (fun W => by have := (fun W h => quiet (children _ hi W h)) W; rw [h0, h1] at this; exact this)
      · obtain ⟨l, hl0⟩ := Int.eq_ofNat_of_zero_le (QcD h2)
        obtain ⟨r, hr0⟩ := Int.eq_ofNat_of_zero_le (QcD h3)
        have hll := QdV h2
        have hrl := QdV h3
        exact QjJ ts a_t c_t B1 htl hmt w ht hT k x hx hus (by omega) l r hl0 hr0 (fun W => by have := (fun W h => quiet (children _ hi W h)) W; rw [hl0, hr0] at this; exact this) (fun w ht hT => ih l (by omega) (by omega) (by rw [← hl0]; omega) w ht hT) (fun w ht hT => ih r (by omega) (by omega) (by rw [← hr0]; omega) w ht hT)
end Go.Proofs.YtcmaolmofgmkhaaDoor.Te
end
section
namespace Go.Proofs.YtcmaolmofgmkhaaDoor.Te
open Go Go.RowKit
open Rely Auto Own Seat Sha
set_option linter.unusedVariables false
set_option linter.unusedSimpArgs false
set_option maxRecDepth 100000 in
set_option maxHeartbeats 4000000 in
theorem QiK (ts : List NdV) (a_t : Option Addr) (c_t B1 : Nat) (w : World) (ht : TrAt B1 w a_t ts) (htl : ts.length ≤ 100000) (hmt : ∀ i, i < ts.length → (ndi ts i).n.ms.length ≤ 1000000) (hT : TabAt w) (x : Nat) (hx : x < ts.length) (h : chkT ts = true) : Calls Tryd.prog 22 #[.slice a_t ts.length c_t, .int .i64 ((x : Nat) : Int)] w (QbG w (OwnN .i64 3 w.heap.size (resT ts x))) := by
  obtain ⟨L, hL, hL3, hlen, hTr⟩ := QgR htl h
  have hlv := (Qdt (Qbp hTr (x := x) (by omega))).1
  refine enter 21 [(0, .slice a_t ts.length c_t), (1, .int .i64 ((x : Nat) : Int))] Tryd.func22 rfl rfl kj rfl ?_
  refine wp_seq_k fun K1 hK1 => ?_
  refine Qab ?_
  refine Qaa (.slice none 0 0) 4 rfl kj kj ?_
  refine Qae ?_
  refine hK1 _ _ ?_
  refine wp_seq_k fun K2 hK2 => ?_
  refine wp_seq_k fun K3 hK3 => ?_
  refine Qab ?_
  refine Qaa (.int .i64 ((x : Nat) : Int)) 5 rfl kj kj ?_
  refine Qaa (.bool false) 6 rfl kj (Qak (u := .bool (decide (((x : Nat) : Int) < 0))) kj (congrArg Value.bool (decide_eq_false (by omega)))) ?_
  refine Qaa (.bool false) 7 rfl kj kj ?_
  refine Qaa (.int .i64 ((x : Nat) : Int)) 8 rfl kj kj ?_
  refine Qaa (.slice a_t ts.length c_t) 9 rfl kj kj ?_
  refine Qaa (.int .i64 ((ts.length : Nat) : Int)) 10 rfl kj kj ?_
  refine Qaa (.bool false) 11 rfl kj (Qak (u := .bool (decide (((x : Nat) : Int) ≥ ((ts.length : Nat) : Int)))) kj (congrArg Value.bool (decide_eq_false (by omega)))) ?_
  refine Qaa (.bool false) 12 rfl kj kj ?_
  refine Qaa (.bool false) 13 rfl kj kj ?_
  refine Qaa (.slice a_t ts.length c_t) 14 rfl kj kj ?_
  refine Qan (.nilIface) 11 #[.slice a_t ts.length c_t] 15 rfl kj kj (Qe9 ts a_t c_t _ _ (TrAt.ext ht (Rely.Ext.refl w)) htl hmt (TabAt.ext hT (Rely.Ext.refl w)) h) fun W1 e1 => ?_
  have x1 : Ext w W1 := Ext.tr (Rely.Ext.refl w) e1
  refine Qaa (.bool false) 16 rfl kj kj ?_
  refine Qaa (.bool false) 17 rfl kj kj ?_
  refine Qae ?_
  refine hK3 _ _ ?_
  refine cond_false kj ?_
  refine wp_skip ?_
  refine hK2 _ _ ?_
  refine wp_seq_k fun K4 hK4 => ?_
  refine Qab ?_
  refine Qaa (.slice a_t ts.length c_t) 18 rfl kj kj ?_
  refine Qaa (.int .i64 ((x : Nat) : Int)) 19 rfl kj kj ?_
  refine Qa7 (fun v W' => (OwnN .i64 3 W1.heap.size (resT ts x)) v W' ∧ Ext W1 W') 48 #[.slice a_t ts.length c_t, .int .i64 ((x : Nat) : Int)] 20 rfl kj kj ((resP ts a_t c_t B1 htl hmt L hlen hTr 5 x (by decide) hx hlv _ (TrAt.ext ht x1) (TabAt.ext hT x1)).mono (by rintro e w' ⟨v, rfl, e1, hv⟩; exact ⟨v, rfl, hv, e1⟩)) fun vv5 W2 hh5 => ?_
  obtain ⟨hv5, e2⟩ := hh5
  have x2 : Ext w W2 := Ext.tr x1 e2
  refine Qaa (vv5) 4 rfl kj kj ?_
  refine Qae ?_
  refine hK4 _ _ ?_
  refine wp_ret ?_
  repeat (first | with_reducible refine goR1 ?_ | with_reducible refine goR2 ?_)
  exact (show bodyPost _ _ _ .ret _ _ from ret1 (vv5) rfl (Qaq kj) ⟨_, rfl, x2, OwnN.base x1.size hv5⟩)
end Go.Proofs.YtcmaolmofgmkhaaDoor.Te
end
section
namespace Go.Proofs.YtcmaolmofgmkhaaDoor.Te
open Go Go.RowKit
open Rely Auto Own Seat Sha
set_option linter.unusedVariables false
set_option linter.unusedSimpArgs false
def cov (ts : List NdV) (n x i : Int) : Bool := decide ((bel x n).1 ≤ i) && decide (i ≤ (bel x n).2) && !(decide (x % 2 = 1) && decide (i ∈ (ndi ts x.toNat).n.ms))
def cnt (ts : List NdV) (n : Int) (xs : List Int) (i : Int) : Nat := xs.countP fun x => cov ts n x i
theorem QfJ : Qbj (fun n x => (decide (kidL x = -1) && decide (kidR x = -1) && decide (x % 2 = 0) && decide ((bel x n).1 = x / 2) && decide ((bel x n).2 = x / 2)) || (decide (x % 2 = 1) && Qas (kidL x) n && Qas (kidR x) n && decide (lv (kidL x) = lv x - 1) && decide (lv (kidR x) = lv x - 1) && decide ((bel (kidL x) n).1 = (bel x n).1) && decide ((bel (kidR x) n).2 = (bel x n).2) && decide ((bel (kidL x) n).2 + 1 = (bel (kidR x) n).1) && decide ((bel x n).1 ≤ (bel (kidL x) n).2) && decide ((bel (kidR x) n).1 ≤ (bel x n).2))) = true := by decide +kernel
theorem kidbel {x n : Int} (h : Qas x n = true) : (kidL x = -1 ∧ kidR x = -1 ∧ x % 2 = 0 ∧ (bel x n).1 = x / 2 ∧ (bel x n).2 = x / 2) ∨ (x % 2 = 1 ∧ Qas (kidL x) n = true ∧ Qas (kidR x) n = true ∧ lv (kidL x) = lv x - 1 ∧ lv (kidR x) = lv x - 1 ∧ (bel (kidL x) n).1 = (bel x n).1 ∧ (bel (kidR x) n).2 = (bel x n).2 ∧ (bel (kidL x) n).2 + 1 = (bel (kidR x) n).1 ∧ (bel x n).1 ≤ (bel (kidL x) n).2 ∧ (bel (kidR x) n).1 ≤ (bel x n).2) := by
  have := QaA QfJ h
  simpa [and_assoc] using this
theorem Qe8 {x n : Int} (h : Qas x n = true) (he : x % 2 = 0) : (bel x n).1 = x / 2 ∧ (bel x n).2 = x / 2 := by
  rcases kidbel h with h | h
  · exact ⟨h.2.2.2.1, h.2.2.2.2⟩
  · omega
theorem Qe4 {j n : Int} (hn : Qax n = true) (h0 : 0 ≤ j) (h1 : j < n) : Qas (2 * j) n = true := by unfold Qas; rw [hn]; simp; omega
theorem Qht {n : Int} (hn : Qax n = true) : Qas (n - 1) n = true ∧ (bel (n - 1) n).1 = 0 ∧ (bel (n - 1) n).2 = n - 1 := by
  rcases Qaz hn with rfl | rfl | rfl | rfl | rfl | rfl <;> decide +kernel
theorem Qie {j n : Int} (hn : n ≤ 32) (h0 : 0 ≤ j) (h1 : j < n) : dbl j = 2 * j := by
  unfold dbl
  exact IntWalk.i64_in _ (by omega)
theorem QeQ {ts : List NdV} {L : Nat} (hL : leaves ((ts.length : Nat) : Int) = ((L : Nat) : Int)) (h : chkT ts = true) {x : Nat} (hx : x < ts.length) : QaH ts ((L : Nat) : Int) x = true := by
  unfold chkT at h
  rw [QbF hL] at h
  simp only [Bool.and_eq_true] at h
  exact List.all_eq_true.1 h.2 x (List.mem_range.2 hx)
theorem QeC {ts : List NdV} {L : Nat} (hL : leaves ((ts.length : Nat) : Int) = ((L : Nat) : Int)) (h : chkT ts = true) {x : Nat} (hx : x < ts.length) (hu : (ndi ts x).n.us = true) : QaW ts ((L : Nat) : Int) x = true := by
  have := QeQ hL h hx
  unfold QaH at this
  rwa [if_pos hu] at this
theorem Qjd {ts : List NdV} {n : Int} {x : Nat} (he : x % 2 = 0) (h : QaW ts n x = true) : (ndi ts x).n.ms = [] := by
  rw [Qcd he] at h
  unfold QbC at h
  simp only [Bool.and_eq_true, beq_iff_eq] at h
  exact List.length_eq_zero_iff.1 h.1.1.2
theorem Qhg {ts : List NdV} {n : Int} {x : Nat} (he : x % 2 ≠ 0) (h : QaW ts n x = true) : ∀ k, k < (ndi ts x).n.ms.length → msOk ts n ((x : Nat) : Int) (ndi ts x).n.ms k = true := by
  unfold QaW at h
  rw [if_neg he] at h
  simp only [Bool.and_eq_true] at h
  exact fun k hk => List.all_eq_true.1 h.2 k (List.mem_range.2 hk)
theorem rises {ms : List Int} (h : ∀ k, k < ms.length → k = 0 ∨ nth ms (k - 1) < nth ms k) : ∀ k, k < ms.length → ∀ j, j < k → nth ms j < nth ms k := by
  intro k
  induction k with
  | zero => intro _ j hj; omega
  | succ k ih =>
    intro hk j hj
    have h1 := (h (k + 1) hk).resolve_left (by omega)
    rw [Nat.add_sub_cancel] at h1
    rcases Nat.lt_or_ge j k with h2 | h2
    · exact Int.lt_trans (ih (by omega) j h2) h1
    · obtain rfl : j = k := by omega
      exact h1
theorem QiQ {ms : List Int} {i : Int} (h : i ∈ ms) : ∃ k, k < ms.length ∧ nth ms k = i := by
  obtain ⟨k, hk, e⟩ := List.mem_iff_getElem.1 h
  exact ⟨k, hk, by unfold nth; rw [List.getD_eq_getElem?_getD, List.getElem?_eq_getElem hk]; exact e⟩
theorem Qh0 {ms : List Int} (h : ∀ k, k < ms.length → ∀ j, j < k → nth ms j < nth ms k) : ms.Nodup := by
  rw [List.nodup_iff_pairwise_ne]
  rw [List.pairwise_iff_getElem]
  intro i j hi hj hij
  have h1 := h j hj i hij
  unfold nth at h1
  rw [List.getD_eq_getElem?_getD, List.getD_eq_getElem?_getD, List.getElem?_eq_getElem hi, List.getElem?_eq_getElem hj] at h1
  simp only [Option.getD_some] at h1
  omega
theorem Qhh {ts : List NdV} {n : Int} {x : Nat} (he : x % 2 ≠ 0) (h : QaW ts n x = true) : (ndi ts x).n.ms.Nodup ∧ ∀ i ∈ (ndi ts x).n.ms, (bel ((x : Nat) : Int) n).1 ≤ i ∧ i ≤ (bel ((x : Nat) : Int) n).2 := by
  have h0 := Qhg he h
  refine ⟨Qh0 (rises fun k hk => ?_), fun i hi => ?_⟩
  · have := h0 k hk
    unfold msOk at this
    simp only [Bool.and_eq_true, Bool.or_eq_true, beq_iff_eq, decide_eq_true_eq] at this
    exact this.1
  · obtain ⟨k, hk, rfl⟩ := QiQ hi
    have := h0 k hk
    unfold msOk QaT at this
    simp only [Bool.and_eq_true, decide_eq_true_eq] at this
    exact this.2.1.1
theorem Qef (ts : List NdV) (n : Int) (xs ys : List Int) (i : Int) : cnt ts n (xs ++ ys) i = cnt ts n xs i + cnt ts n ys i := by unfold cnt; rw [List.countP_append]
theorem Qkj {ts : List NdV} {n : Int} (hn : Qax n = true) (i : Int) : ∀ ms : List Int, (∀ j ∈ ms, 0 ≤ j ∧ j < n) → cnt ts n (ms.map dbl) i = ms.count i := by
  have h32 : n ≤ 32 := by have := Qaz hn; omega
  intro ms
  induction ms with
  | nil => intro _; rfl
  | cons j ms ih =>
    intro h
    have hj := h j List.mem_cons_self
    have h1 := ih fun k hk => h k (List.mem_cons_of_mem _ hk)
    have e := Qe8 (Qe4 hn hj.1 hj.2) (by omega)
    have hc : cov ts n (dbl j) i = (j == i) := by
      rw [Qie h32 hj.1 hj.2]
      unfold cov
      rw [e.1, e.2, show decide ((2 * j) % 2 = 1) = false from decide_eq_false (by omega)]
      rcases Int.lt_trichotomy i j with h | h | h
      · rw [decide_eq_false (by omega), beq_eq_false_iff_ne.2 (by omega)]; simp
      · subst h; rw [decide_eq_true (by omega), decide_eq_true (by omega), beq_self_eq_true]; simp
      · rw [show decide (i ≤ 2 * j / 2) = false from decide_eq_false (by omega), beq_eq_false_iff_ne.2 (by omega)]; simp
    unfold cnt at h1 ⊢
    rw [List.map_cons, List.countP_cons, List.count_cons, h1, hc]
structure QhQ (ts : List NdV) (L : Nat) (x : Nat) (rs : List Int) : Prop where
  node : ∀ z ∈ rs, Qas z ((L : Nat) : Int) = true
  out : ∀ i : Int, i < (bel ((x : Nat) : Int) ((L : Nat) : Int)).1 ∨ (bel ((x : Nat) : Int) ((L : Nat) : Int)).2 < i → cnt ts ((L : Nat) : Int) rs i = 0
  most : ∀ i : Int, cnt ts ((L : Nat) : Int) rs i ≤ 1
  one : ∀ i : Nat, (bel ((x : Nat) : Int) ((L : Nat) : Int)).1 ≤ ((i : Nat) : Int) → ((i : Nat) : Int) ≤ (bel ((x : Nat) : Int) ((L : Nat) : Int)).2 → (ndi ts (2 * i)).n.us = true → cnt ts ((L : Nat) : Int) rs ((i : Nat) : Int) = 1
theorem QgO {ts : List NdV} {n x i : Int} (h : i < (bel x n).1 ∨ (bel x n).2 < i) : cov ts n x i = false := by
  unfold cov
  rcases h with h | h
  · rw [decide_eq_false (by omega : ¬ (bel x n).1 ≤ i)]; rfl
  · rw [decide_eq_false (by omega : ¬ i ≤ (bel x n).2)]; simp
theorem QfE {ts : List NdV} {L : Nat} (hTr : Qax ((L : Nat) : Int) = true) {x : Nat} (hx : Qas ((x : Nat) : Int) ((L : Nat) : Int) = true) (hu : QaW ts ((L : Nat) : Int) x = true) : QhQ ts L x (resL ts x (ndi ts x).n.ms.length) := by
  have e0 : resL ts x (ndi ts x).n.ms.length = ((x : Nat) : Int) :: (ndi ts x).n.ms.map dbl := by unfold resL; rw [List.take_length]
  rw [e0]
  have hb := QbJ hx
  have h32 : ((L : Nat) : Int) ≤ 32 := by have := Qaz hTr; omega
  by_cases he : x % 2 = 0
  · rw [Qjd he hu]
    have e := Qe8 hx (by omega)
    have hcov : ∀ i : Int, cnt ts ((L : Nat) : Int) (((x : Nat) : Int) :: List.map dbl []) i = if cov ts ((L : Nat) : Int) ((x : Nat) : Int) i = true then 1 else 0 := fun i => by unfold cnt; rw [List.map_nil, List.countP_cons]; simp
    refine ⟨fun z hz => ?_, fun i hi => ?_, fun i => ?_, fun i h1 h2 h3 => ?_⟩
    · rw [List.map_nil, List.mem_singleton] at hz; rw [hz]; exact hx
    · rw [hcov, QgO hi]; rfl
    · rw [hcov]; split <;> omega
    · rw [hcov, if_pos]
      unfold cov
      rw [decide_eq_true h1, decide_eq_true h2, show decide (((x : Nat) : Int) % 2 = 1) = false from decide_eq_false (by omega)]; rfl
  · obtain ⟨hnd, hin⟩ := Qhh he hu
    have hms : ∀ j ∈ (ndi ts x).n.ms, 0 ≤ j ∧ j < ((L : Nat) : Int) := fun j hj => by have := hin j hj; omega
    have hcov : ∀ i : Int, cnt ts ((L : Nat) : Int) (((x : Nat) : Int) :: (ndi ts x).n.ms.map dbl) i = (ndi ts x).n.ms.count i + if cov ts ((L : Nat) : Int) ((x : Nat) : Int) i = true then 1 else 0 := fun i => by
      have h1 := Qkj (ts := ts) hTr i _ hms
      unfold cnt at h1 ⊢
      rw [List.countP_cons, h1]
    have hc : ∀ i : Int, (bel ((x : Nat) : Int) ((L : Nat) : Int)).1 ≤ i → i ≤ (bel ((x : Nat) : Int) ((L : Nat) : Int)).2 → cnt ts ((L : Nat) : Int) (((x : Nat) : Int) :: (ndi ts x).n.ms.map dbl) i = 1 := fun i h1 h2 => by
      rw [hcov]
      unfold cov
      rw [decide_eq_true h1, decide_eq_true h2, show decide (((x : Nat) : Int) % 2 = 1) = true from decide_eq_true (by omega), Int.toNat_natCast]
      by_cases hi : i ∈ (ndi ts x).n.ms
      · rw [List.Nodup.count hnd, if_pos hi, decide_eq_true hi]; rfl
      · rw [List.count_eq_zero_of_not_mem hi, decide_eq_false hi]; rfl
    have ho : ∀ i : Int, i < (bel ((x : Nat) : Int) ((L : Nat) : Int)).1 ∨ (bel ((x : Nat) : Int) ((L : Nat) : Int)).2 < i → cnt ts ((L : Nat) : Int) (((x : Nat) : Int) :: (ndi ts x).n.ms.map dbl) i = 0 := fun i hi => by
      rw [hcov, QgO hi, List.count_eq_zero_of_not_mem fun h => by have := hin i h; omega]; rfl
    refine ⟨fun z hz => ?_, ho, fun i => ?_, fun i h1 h2 _ => hc _ h1 h2⟩
    · rcases List.mem_cons.1 hz with rfl | hz
      · exact hx
      · obtain ⟨j, hj, rfl⟩ := List.mem_map.1 hz
        have := hms j hj
        rw [Qie h32 this.1 this.2]
        exact Qe4 hTr this.1 this.2
    · by_cases hi : i < (bel ((x : Nat) : Int) ((L : Nat) : Int)).1 ∨ (bel ((x : Nat) : Int) ((L : Nat) : Int)).2 < i
      · rw [ho i hi]; exact Nat.zero_le _
      · rw [hc i (by omega) (by omega)]; exact Nat.le_refl _
theorem onces {ts : List NdV} {L : Nat} (hL : leaves ((ts.length : Nat) : Int) = ((L : Nat) : Int)) (hlen : ts.length + 1 = 2 * L) (hTr : Qax ((L : Nat) : Int) = true) (h : chkT ts = true) : ∀ (k x : Nat), Qas ((x : Nat) : Int) ((L : Nat) : Int) = true → lv ((x : Nat) : Int) ≤ ((k : Nat) : Int) → QhQ ts L x (resN ts k x) := by
  have hus : ∀ (k x : Nat), Qas ((x : Nat) : Int) ((L : Nat) : Int) = true → (ndi ts x).n.us = true → QhQ ts L x (resN ts k x) := fun k x hx hu => by
    have := QdV hx
    rw [Qgs k hu]
    exact QfE hTr hx (QeC hL h (by omega) hu)
  have hun : ∀ (k x : Nat), Qas ((x : Nat) : Int) ((L : Nat) : Int) = true → (ndi ts x).n.us = false → kidL ((x : Nat) : Int) = -1 → QhQ ts L x (resN ts k x) := fun k x hx hu hk => by
    rw [Qgt k hu (by omega)]
    refine ⟨fun z hz => (by cases hz), fun i _ => rfl, fun i => Nat.zero_le _, fun i h1 h2 h3 => ?_⟩
    have e : x = 2 * i := by
      rcases kidbel hx with q | q
      · omega
      · have := QcD q.2.1; omega
    rw [e, h3] at hu
    cases hu
  intro k
  induction k with
  | zero =>
    intro x hx hl
    cases hu : (ndi ts x).n.us with
    | true => exact hus 0 x hx hu
    | false => exact hun 0 x hx hu (by unfold kidL; rw [if_pos (show lv ((x : Nat) : Int) ≤ 0 from hl)])
  | succ k ih =>
    intro x hx hl
    cases hu : (ndi ts x).n.us with
    | true => exact hus _ x hx hu
    | false =>
      rcases kidbel hx with q | ⟨q1, q2, q3, q4, q5, q6, q7, q8, q9, q10⟩
      · exact hun _ x hx hu q.1
      · obtain ⟨l, hl0⟩ := Int.eq_ofNat_of_zero_le (QcD q2)
        obtain ⟨r, hr0⟩ := Int.eq_ofNat_of_zero_le (QcD q3)
        rw [Qfl k hu hl0 hr0]
        rw [hl0] at q2 q4 q6 q8 q9
        rw [hr0] at q3 q5 q7 q8 q10
        have A := ih l q2 (by omega)
        have B := ih r q3 (by omega)
        refine ⟨fun z hz => (List.mem_append.1 hz).elim (A.node z) (B.node z), fun i hi => ?_, fun i => ?_, fun i h1 h2 h3 => ?_⟩
        · rw [Qef, A.out i (by omega), B.out i (by omega)]
        · rw [Qef]
          rcases Int.lt_or_le i (bel ((r : Nat) : Int) ((L : Nat) : Int)).1 with h1 | h1
          · rw [B.out i (.inl h1)]; exact A.most i
          · rw [A.out i (.inr (by omega)), Nat.zero_add]; exact B.most i
        · rw [Qef]
          rcases Int.lt_or_le ((i : Nat) : Int) (bel ((r : Nat) : Int) ((L : Nat) : Int)).1 with h4 | h4
          · rw [B.out _ (.inl h4), A.one i (by omega) (by omega) h3]
          · rw [A.out _ (.inr (by omega)), B.one i (by omega) (by omega) h3]
theorem Qg1 {ts : List NdV} {L : Nat} (hL : leaves ((ts.length : Nat) : Int) = ((L : Nat) : Int)) (hlen : ts.length + 1 = 2 * L) (hTr : Qax ((L : Nat) : Int) = true) (h : chkT ts = true) (h1 : 1 ≤ L) : (∀ z ∈ resT ts (L - 1), Qas z ((L : Nat) : Int) = true) ∧ ∀ i, i < L → cnt ts ((L : Nat) : Int) (resT ts (L - 1)) ((i : Nat) : Int) ≤ 1 ∧ ((ndi ts (2 * i)).n.us = true → cnt ts ((L : Nat) : Int) (resT ts (L - 1)) ((i : Nat) : Int) = 1) := by
  have e : (((L - 1 : Nat) : Nat) : Int) = ((L : Nat) : Int) - 1 := by omega
  obtain ⟨r1, r2, r3⟩ := Qht hTr
  rw [← e] at r1 r2 r3
  have A := onces hL hlen hTr h 5 (L - 1) r1 (Qdt r1).1
  exact ⟨A.node, fun i hi => ⟨A.most _, fun hu => A.one i (by omega) (by omega) hu⟩⟩
end Go.Proofs.YtcmaolmofgmkhaaDoor.Te
end
section
namespace Go.Proofs.YtcmaolmofgmkhaaDoor.Te
open Go Go.RowKit
open Rely Auto Own Seat Sha
set_option linter.unusedVariables false
set_option linter.unusedSimpArgs false
theorem belN (x n a b : Int) (ha : (bel x n).1 = a) (hb : (bel x n).2 = b) (W : World) : Calls Tryd.prog 33 #[.int .i64 x, .int .i64 n] W (Ret W (.tuple #[.int .i64 a, .int .i64 b])) := ha ▸ hb ▸ quiet (rbelow x n W)
theorem Qjk {p q : Prop} [Decidable p] [Decidable q] (h : p ↔ q) : (if p then 1 else 0 : Nat) = if q then 1 else 0 := by
  by_cases hp : p
  · rw [if_pos hp, if_pos (h.1 hp)]
  · rw [if_neg hp, if_neg (fun hq => hp (h.2 hq))]
def Qhd (ts : List NdV) (L : Nat) (rs : List Int) (k : Nat) (zs : List Int) : Prop := ∀ j, j < L → nth zs j = ((cnt ts ((L : Nat) : Int) (rs.take k) ((j : Nat) : Int) : Nat) : Int)
def Qei (ts : List NdV) (L : Nat) (rs : List Int) (k : Nat) (x : Int) (c : Nat) (zs : List Int) : Prop := ∀ j, j < L → nth zs j = ((cnt ts ((L : Nat) : Int) (rs.take k) ((j : Nat) : Int) + (if cov ts ((L : Nat) : Int) x ((j : Nat) : Int) = true ∧ j < c then 1 else 0) : Nat) : Int)
theorem Qif {ts : List NdV} {n x i : Int} (h : cov ts n x i = true) : (bel x n).1 ≤ i ∧ i ≤ (bel x n).2 := by
  unfold cov at h
  simp only [Bool.and_eq_true, decide_eq_true_eq] at h
  exact h.1
theorem QfA {ts : List NdV} {L k a : Nat} {rs zs : List Int} {x : Int} (h : Qhd ts L rs k zs) (ha : (bel x ((L : Nat) : Int)).1 = ((a : Nat) : Int)) : Qei ts L rs k x a zs := fun j hj => by
  rw [h j hj, if_neg (fun q => by have := Qif q.1; omega)]; rfl
theorem Qhz (zs : List Int) (c j : Nat) (v : Int) (hc : c < zs.length) : nth (zs.set c v) j = if j = c then v else nth zs j := by
  unfold nth
  rw [List.getD_eq_getElem?_getD, List.getD_eq_getElem?_getD, List.getElem?_set]
  by_cases e : c = j
  · subst e; rw [if_pos rfl, if_pos rfl, if_pos hc]; rfl
  · rw [if_neg e, if_neg (fun h => e h.symm)]
theorem Qgm {ts : List NdV} {L k c : Nat} {rs zs : List Int} {x : Int} (h : Qei ts L rs k x c zs) (hl : zs.length = L) (hc : c < L) (hv : cov ts ((L : Nat) : Int) x ((c : Nat) : Int) = true) : Qei ts L rs k x (c + 1) (zs.set c (nth zs c + 1)) := fun j hj => by
  rw [Qhz _ _ _ _ (by omega)]
  split
  · rename_i e
    subst e
    rw [h j hj, if_neg (fun q => Nat.lt_irrefl _ q.2), if_pos ⟨hv, Nat.lt_succ_self _⟩]; omega
  · rw [h j hj]
    congr 2
    exact Qjk ⟨fun q => ⟨q.1, by omega⟩, fun q => ⟨q.1, by omega⟩⟩
theorem Qgk {ts : List NdV} {L k c : Nat} {rs zs : List Int} {x : Int} (h : Qei ts L rs k x c zs) (hv : cov ts ((L : Nat) : Int) x ((c : Nat) : Int) = false) : Qei ts L rs k x (c + 1) zs := fun j hj => by
  rw [h j hj]
  congr 2
  refine Qjk ⟨fun q => ⟨q.1, by omega⟩, fun q => ⟨q.1, ?_⟩⟩
  rcases Nat.lt_or_ge j c with h1 | h1
  · exact h1
  · obtain rfl : j = c := by omega
    rw [hv] at q; cases q.1
theorem Qhq {ts : List NdV} {L k c b : Nat} {rs zs : List Int} (hk : k < rs.length) (h : Qei ts L rs k (nth rs k) c zs) (hb : (bel (nth rs k) ((L : Nat) : Int)).2 = ((b : Nat) : Int)) (hc : b < c) : Qhd ts L rs (k + 1) zs := fun j hj => by
  have e : rs.take (k + 1) = rs.take k ++ [nth rs k] := by
    rw [List.take_add_one, List.getElem?_eq_getElem hk]; unfold nth; rw [List.getD_eq_getElem?_getD, List.getElem?_eq_getElem hk]; rfl
  rw [h j hj, e, Qef]
  unfold cnt
  rw [List.countP_cons, List.countP_nil, Nat.zero_add]
  congr 2
  exact Qjk ⟨fun q => q.1, fun q => ⟨q, by have := Qif q; omega⟩⟩
theorem Qgl {ts : List NdV} {L k c : Nat} {rs zs : List Int} {x : Int} (h : Qei ts L rs k x c zs) {j : Nat} (hj : j < L) : 0 ≤ nth zs j ∧ nth zs j ≤ ((rs.length : Nat) : Int) + 1 := by
  have h1 : cnt ts ((L : Nat) : Int) (rs.take k) ((j : Nat) : Int) ≤ rs.length := Nat.le_trans List.countP_le_length (by rw [List.length_take]; omega)
  rw [h j hj]
  split <;> omega
theorem Qgj (ts : List NdV) (L : Nat) (rs : List Int) : Qhd ts L rs 0 (List.replicate L 0) := fun j hj => by
  rw [List.take_zero]
  unfold nth
  rw [List.getD_eq_getElem?_getD, List.getElem?_replicate, if_pos hj]; rfl
theorem Qf2 {ts : List NdV} {n i : Int} {x : Nat} (h1 : (bel ((x : Nat) : Int) n).1 ≤ i) (h2 : i ≤ (bel ((x : Nat) : Int) n).2) (h3 : x % 2 = 0 ∨ i ∉ (ndi ts x).n.ms) : cov ts n ((x : Nat) : Int) i = true := by
  unfold cov
  rw [decide_eq_true h1, decide_eq_true h2, Int.toNat_natCast]
  rcases h3 with h3 | h3
  · rw [show decide (((x : Nat) : Int) % 2 = 1) = false from decide_eq_false (by omega)]; rfl
  · rw [decide_eq_false h3]; simp
theorem Qki {ts : List NdV} {n i : Int} {x : Nat} (h0 : x % 2 = 1) (h3 : i ∈ (ndi ts x).n.ms) : cov ts n ((x : Nat) : Int) i = false := by
  unfold cov
  rw [Int.toNat_natCast, decide_eq_true h3, show decide (((x : Nat) : Int) % 2 = 1) = true from decide_eq_true (by omega)]; simp
theorem QgU : Qbj (fun n x => decide ((bel x n).1 ≤ (bel x n).2)) = true := by decide +kernel
theorem Qii {x n : Int} (h : Qas x n = true) : (bel x n).1 ≤ (bel x n).2 := by
  have := QaA QgU h
  simpa using this
theorem QjM {xs : List Int} {k : Nat} (h : k < xs.length) : nth xs k ∈ xs := by
  unfold nth
  rw [List.getD_eq_getElem?_getD, List.getElem?_eq_getElem h]
  exact List.getElem_mem h
set_option maxRecDepth 100000 in
set_option maxHeartbeats 4000000 in
theorem QjV (ts : List NdV) (a_t : Option Addr) (c_t B1 : Nat) (w : World) (ht : TrAt B1 w a_t ts) (hT : TabAt w) (hs : ¬ (∀ i, i < ts.length → i ≤ 70 ∧ (ndi ts i).n.ms.length ≤ 50))  : Calls Tryd.prog 7 #[.slice a_t ts.length c_t] w (Ret w (.bool true)) := by
  refine enter 90 [(0, .slice a_t ts.length c_t)] Tryd.func7 rfl rfl kj rfl ?_
  refine wp_seq_k fun K1 hK1 => ?_
  refine Qab ?_
  refine Qaa (.bool false) 2 rfl kj kj ?_
  refine Qae ?_
  refine hK1 _ _ ?_
  refine wp_seq_k fun K2 hK2 => ?_
  refine wp_seq_k fun K3 hK3 => ?_
  refine Qab ?_
  refine Qan (.bool true) 9 #[] 11 rfl kj kj (QgZ _ (TabAt.ext hT (Rely.Ext.refl w))) fun W1 e1 => ?_
  have x1 : Ext w W1 := Ext.tr (Rely.Ext.refl w) e1
  refine Qaa (.bool false) 12 rfl kj kj ?_
  refine Qae ?_
  refine hK3 _ _ ?_
  refine cond_false kj ?_
  refine wp_skip ?_
  refine hK2 _ _ ?_
  refine wp_seq_k fun K4 hK4 => ?_
  refine wp_seq_k fun K5 hK5 => ?_
  refine Qab ?_
  refine Qaa (.slice a_t ts.length c_t) 13 rfl kj kj ?_
  refine Qan (.bool true) 10 #[.slice a_t ts.length c_t] 14 rfl kj kj (QgC ts a_t c_t _ _ (TrAt.ext ht x1) hs) fun W2 e2 => ?_
  have x2 : Ext w W2 := Ext.tr x1 e2
  refine Qaa (.bool true) 15 rfl kj kj ?_
  refine Qac 16 rfl kj ?_
  refine Qac 17 rfl kj ?_
  refine Qac 18 rfl kj ?_
  refine Qaa (.bool true) 19 rfl kj kj ?_
  refine Qae ?_
  refine hK5 _ _ ?_
  refine cond_true kj ?_
  refine wp_seq_k fun K6 hK6 => ?_
  refine Qab ?_
  refine Qaa (.bool true) 2 rfl kj kj ?_
  refine Qae ?_
  refine hK6 _ _ ?_
  refine wp_ret ?_
  repeat (first | with_reducible refine goR1 ?_ | with_reducible refine goR2 ?_)
  exact (show bodyPost _ _ _ .ret _ _ from ret1 (.bool true) rfl (Qaq kj) ⟨rfl, x2⟩)
set_option maxRecDepth 100000 in
set_option maxHeartbeats 4000000 in
theorem QjW (ts : List NdV) (a_t : Option Addr) (c_t B1 : Nat) (w : World) (ht : TrAt B1 w a_t ts) (hT : TabAt w) (hs : ∀ i, i < ts.length → i ≤ 70 ∧ (ndi ts i).n.ms.length ≤ 50) (hc : chkT ts = false) : Calls Tryd.prog 7 #[.slice a_t ts.length c_t] w (Ret w (.bool true)) := by
  have hl := QhS hs
  have htl : ts.length ≤ 100000 := by omega
  have hl6 : ts.length ≤ 1000000 := by omega
  have hm6 : ∀ i, i < ts.length → (ndi ts i).n.ms.length ≤ 1000000 := fun i hi => Nat.le_trans (hs i hi).2 (by decide)
  refine enter 90 [(0, .slice a_t ts.length c_t)] Tryd.func7 rfl rfl kj rfl ?_
  refine wp_seq_k fun K1 hK1 => ?_
  refine Qab ?_
  refine Qaa (.bool false) 2 rfl kj kj ?_
  refine Qae ?_
  refine hK1 _ _ ?_
  refine wp_seq_k fun K2 hK2 => ?_
  refine wp_seq_k fun K3 hK3 => ?_
  refine Qab ?_
  refine Qan (.bool true) 9 #[] 11 rfl kj kj (QgZ _ (TabAt.ext hT (Rely.Ext.refl w))) fun W1 e1 => ?_
  have x1 : Ext w W1 := Ext.tr (Rely.Ext.refl w) e1
  refine Qaa (.bool false) 12 rfl kj kj ?_
  refine Qae ?_
  refine hK3 _ _ ?_
  refine cond_false kj ?_
  refine wp_skip ?_
  refine hK2 _ _ ?_
  refine wp_seq_k fun K4 hK4 => ?_
  refine wp_seq_k fun K5 hK5 => ?_
  refine Qab ?_
  refine Qaa (.slice a_t ts.length c_t) 13 rfl kj kj ?_
  refine Qan (.bool false) 10 #[.slice a_t ts.length c_t] 14 rfl kj kj (Qe5 ts a_t c_t _ _ (TrAt.ext ht x1) hs) fun W2 e2 => ?_
  have x2 : Ext w W2 := Ext.tr x1 e2
  refine Qaa (.bool false) 15 rfl kj kj ?_
  refine Qaa (.slice a_t ts.length c_t) 16 rfl kj kj ?_
  refine Qan (.bool false) 12 #[.slice a_t ts.length c_t] 17 rfl kj kj (Qkd ts a_t c_t _ _ (TrAt.ext ht x2) htl hm6 false hc) fun W3 e3 => ?_
  have x3 : Ext w W3 := Ext.tr x2 e3
  refine Qaa (.bool true) 18 rfl kj kj ?_
  refine Qaa (.bool true) 19 rfl kj kj ?_
  refine Qae ?_
  refine hK5 _ _ ?_
  refine cond_true kj ?_
  refine wp_seq_k fun K6 hK6 => ?_
  refine Qab ?_
  refine Qaa (.bool true) 2 rfl kj kj ?_
  refine Qae ?_
  refine hK6 _ _ ?_
  refine wp_ret ?_
  repeat (first | with_reducible refine goR1 ?_ | with_reducible refine goR2 ?_)
  exact (show bodyPost _ _ _ .ret _ _ from ret1 (.bool true) rfl (Qaq kj) ⟨rfl, x3⟩)
set_option maxRecDepth 100000 in
set_option maxHeartbeats 4000000 in
theorem QjU (ts : List NdV) (a_t : Option Addr) (c_t B1 : Nat) (w : World) (ht : TrAt B1 w a_t ts) (hT : TabAt w) (hs : ∀ i, i < ts.length → i ≤ 70 ∧ (ndi ts i).n.ms.length ≤ 50) (hc : chkT ts = true) : Calls Tryd.prog 7 #[.slice a_t ts.length c_t] w (Ret w (.bool true)) := by
 have hl := QhS hs
 have htl : ts.length ≤ 100000 := by omega
 have hl6 : ts.length ≤ 1000000 := by omega
 have hm6 : ∀ i, i < ts.length → (ndi ts i).n.ms.length ≤ 1000000 := fun i hi => Nat.le_trans (hs i hi).2 (by decide)
 obtain ⟨L, hL, hL3, hlen, hTr⟩ := QgR htl hc
 have hL1 : 1 ≤ L := by have := Qaz hTr; omega
 have hrl : (resT ts (L - 1)).length ≤ 1000000 := Nat.le_trans (QdS (fun i hi => (hs i hi).2) 5 (L - 1)) (by decide)
 obtain ⟨hnd, hon⟩ := Qg1 hL hlen hTr hc hL1
 refine enter 90 [(0, .slice a_t ts.length c_t)] Tryd.func7 rfl rfl kj rfl ?_
 refine wp_seq_k fun K1 hK1 => ?_
 refine Qab ?_
 refine Qaa (.bool false) 2 rfl kj kj ?_
 refine Qae ?_
 refine hK1 _ _ ?_
 refine wp_seq_k fun K2 hK2 => ?_
 refine wp_seq_k fun K3 hK3 => ?_
 refine Qab ?_
 refine Qan (.bool true) 9 #[] 11 rfl kj kj (QgZ _ (TabAt.ext hT (Rely.Ext.refl w))) fun W1 e1 => ?_
 have x1 : Ext w W1 := Ext.tr (Rely.Ext.refl w) e1
 refine Qaa (.bool false) 12 rfl kj kj ?_
 refine Qae ?_
 refine hK3 _ _ ?_
 refine cond_false kj ?_
 refine wp_skip ?_
 refine hK2 _ _ ?_
 refine wp_seq_k fun K4 hK4 => ?_
 refine wp_seq_k fun K5 hK5 => ?_
 refine Qab ?_
 refine Qaa (.slice a_t ts.length c_t) 13 rfl kj kj ?_
 refine Qan (.bool false) 10 #[.slice a_t ts.length c_t] 14 rfl kj kj (Qe5 ts a_t c_t _ _ (TrAt.ext ht x1) hs) fun W2 e2 => ?_
 have x2 : Ext w W2 := Ext.tr x1 e2
 refine Qaa (.bool false) 15 rfl kj kj ?_
 refine Qaa (.slice a_t ts.length c_t) 16 rfl kj kj ?_
 refine Qan (.bool true) 12 #[.slice a_t ts.length c_t] 17 rfl kj kj (Qkd ts a_t c_t _ _ (TrAt.ext ht x2) htl hm6 true hc) fun W3 e3 => ?_
 have x3 : Ext w W3 := Ext.tr x2 e3
 refine Qaa (.bool false) 18 rfl kj kj ?_
 refine Qaa (.bool false) 19 rfl kj kj ?_
 refine Qae ?_
 refine hK5 _ _ ?_
 refine cond_false kj ?_
 refine wp_skip ?_
 refine hK4 _ _ ?_
 refine wp_seq_k fun K6 hK6 => ?_
 refine Qab ?_
 refine Qaa (.slice a_t ts.length c_t) 20 rfl kj kj ?_
 refine Qaa (.int .i64 ((ts.length : Nat) : Int)) 21 rfl kj kj ?_
 refine Qan (.int .i64 ((L : Nat) : Int)) 32 #[.int .i64 ((ts.length : Nat) : Int)] 22 rfl kj kj (Qda ((ts.length : Nat) : Int) _ (Qck htl hL) _) fun W4 e4 => ?_
 have x4 : Ext w W4 := Ext.tr x3 e4
 refine Qaa (.int .i64 ((L : Nat) : Int)) 3 rfl kj kj ?_
 refine Qae ?_
 refine hK6 _ _ ?_
 refine wp_seq_k fun K7 hK7 => ?_
 refine Qab ?_
 refine Qaa (.int .i64 ((L : Nat) : Int)) 23 rfl kj kj ?_
 refine Qgh (ints .i64 (List.replicate L 0)) 3 L L 24 rfl kj (Qgo 36 _ _ .i64 .i64 L L 3 rfl kj kj kj (.inl kj) (Nat.le_refl _) (by omega)) fun g8 W5 l8 e5 r8_5 => ?_
 have x5 : Ext w W5 := Ext.tr x4 e5
 have b8 : w.heap.size ≤ g8 := Nat.le_trans x4.size l8
 refine Qaa (.slice (some ⟨g8, 0, none⟩) L L) 4 rfl kj kj ?_
 refine Qae ?_
 refine hK7 _ _ ?_
 refine wp_seq_k fun K9 hK9 => ?_
 refine wp_seq_k fun K10 hK10 => ?_
 refine Qab ?_
 refine Qaa (.slice a_t ts.length c_t) 25 rfl kj kj ?_
 refine Qaa (.int .i64 ((L : Nat) : Int)) 26 rfl kj kj ?_
 refine Qaa (.int .i64 ((L - 1 : Nat) : Int)) 27 rfl kj (Qak (u := .int .i64 (IntKind.i64.wrap (((L : Nat) : Int) - 1))) kj (congrArg (Value.int .i64) (i64n _ _ (by omega) (by omega)))) ?_
 refine Qa7 (fun v W' => (OwnN .i64 3 W5.heap.size (resT ts (L - 1))) v W' ∧ Ext W5 W') 22 #[.slice a_t ts.length c_t, .int .i64 ((L - 1 : Nat) : Int)] 28 rfl kj kj ((QiK ts a_t c_t _ _ (TrAt.ext ht x5) htl hm6 (TabAt.ext hT x5) (L - 1) (by omega) hc).mono (by rintro e w' ⟨v, rfl, e1, hv⟩; exact ⟨v, rfl, hv, e1⟩)) fun vv11 W6 hh11 => ?_
 obtain ⟨hv11, e6⟩ := hh11
 have x6 : Ext w W6 := Ext.tr x5 e6
 have nbr : Value.ownBlock vv11 ≠ some g8 := OwnN.nb hv11 (QaB r8_5)
 have hrp := OwnN.rd hv11
 obtain ⟨ap, cp, hvp, -⟩ := id hrp
 subst hvp
 refine Qaa (.int .i64 (((resT ts (L - 1)).length : Nat) : Int)) 29 rfl kj kj ?_
 refine Qaa (.int .i64 0) 30 rfl kj kj ?_
 refine Qae ?_
 refine hK10 _ _ ?_
 refine wp_block ?_
 have r8_6 := (Qah r8_5 e6)
 refine Qa5 (fun (s1 : Nat × List Int) => [(0, .slice a_t ts.length c_t), (3, .int .i64 ((L : Nat) : Int)), (4, .slice (some ⟨g8, 0, none⟩) L L), (28, .slice ap ((resT ts (L - 1)).length) cp), (29, .int .i64 (((resT ts (L - 1)).length : Nat) : Int)), (30, .int .i64 ((s1.1 : Nat) : Int))]) (fun (s1 : Nat × List Int) W => (s1.1 ≤ (resT ts (L - 1)).length) ∧ (s1.2.length = L) ∧ (Qhd ts L (resT ts (L - 1)) s1.1 s1.2) ∧ (W.heap[g8]? = some (.cells (ints .i64 (s1.2)) 3)) ∧ (QaO [g8] W6 W) ∧ (Ext w W)) (fun (s1 : Nat × List Int) => (resT ts (L - 1)).length - s1.1) (0, (List.replicate L 0)) ⟨rfl, rfl, rfl, rfl, rfl, rfl, trivial⟩ ⟨(Nat.zero_le _), (List.length_replicate), (Qgj _ _ _), r8_6, (QaO.refl [g8] W6), x6⟩ fun s1 X1 V1 hI1 => ?_
 obtain ⟨k, zs⟩ := s1
 obtain ⟨hk, hzl, hz, q8_1, kk1, xx1⟩ := hI1
 replace hk : k ≤ (resT ts (L - 1)).length := hk
 replace hzl : zs.length = L := hzl
 replace hz : Qhd ts L (resT ts (L - 1)) k zs := hz
 replace q8_1 : V1.heap[g8]? = some (.cells (ints .i64 (zs)) 3) := q8_1
 replace kk1 : QaO [g8] W6 V1 := kk1
 replace xx1 : Ext w V1 := xx1
 have q7 := kk1
 refine wp_seq_k fun K12 hK12 => ?_
 refine Qab ?_
 refine Qaa (.bool (decide (((k : Nat) : Int) < (((resT ts (L - 1)).length : Nat) : Int)))) 31 rfl kj kj ?_
 refine Qae ?_
 refine hK12 _ _ ?_
 refine wp_seq_k fun K13 hK13 => ?_
 refine Qav (t := decide (((k : Nat) : Int) < (((resT ts (L - 1)).length : Nat) : Int))) kj (fun c14 => ?_) (fun c14 => ?_)
 ·skip
  have hlt31 : k < (resT ts (L - 1)).length := by have := of_decide_eq_true c14; omega
  have f16_7 := (OwnN.keepsL hv11 q7 (QiU nbr QjO))
  have hnx_15 : ((resT ts (L - 1))).length = (resT ts (L - 1)).length := rfl
  obtain ⟨gcx_15, ocx_15, hax_15, hlx_15, hcx_15⟩ := Qbz (OwnN.rd f16_7) (by rw [hnx_15]; omega)
  refine wp_skip ?_
  refine hK13 _ _ ?_
  refine wp_seq_k fun K17 hK17 => ?_
  refine wp_block ?_
  refine wp_seq_k fun K18 hK18 => ?_
  refine Qab ?_
  refine Qaa (.pointer (some ⟨gcx_15, ocx_15 + k, none⟩)) 32 rfl kj (QaE 36 _ _ .i64 k gcx_15 ocx_15 ((resT ts (L - 1)).length) cp 3 ap _ hax_15 rfl rfl kj kj kj kj (Nat.lt_of_lt_of_eq (show k < (resT ts (L - 1)).length by omega) hnx_15.symm)) ?_
  refine Qaa (.int .i64 (nth ((resT ts (L - 1))) (k))) 33 rfl kj (Qaj 3 _ _ (.int .i64 (nth ((resT ts (L - 1))) (k))) (hcx_15 k (Nat.lt_of_lt_of_eq (show k < (resT ts (L - 1)).length by omega) hnx_15.symm)) rfl kj kj) ?_
  refine Qaa (.int .i64 (nth ((resT ts (L - 1))) (k))) 6 rfl kj kj ?_
  refine Qae ?_
  refine hK18 _ _ ?_
  refine wp_seq_k fun K19 hK19 => ?_
  have hnx := hnd _ (QjM hlt31)
  obtain ⟨x, hx⟩ : ∃ x : Nat, nth (resT ts (L - 1)) k = ((x : Nat) : Int) := ⟨(nth (resT ts (L - 1)) k).toNat, by have := QcD hnx; omega⟩
  rw [hx] at hnx ⊢
  have hxl := QdV hnx
  have hbn := QbJ hnx
  obtain ⟨a, ha⟩ : ∃ a : Nat, (bel ((x : Nat) : Int) ((L : Nat) : Int)).1 = ((a : Nat) : Int) := ⟨(bel ((x : Nat) : Int) ((L : Nat) : Int)).1.toNat, by omega⟩
  obtain ⟨b, hb⟩ : ∃ b : Nat, (bel ((x : Nat) : Int) ((L : Nat) : Int)).2 = ((b : Nat) : Int) := ⟨(bel ((x : Nat) : Int) ((L : Nat) : Int)).2.toNat, by have := Qii hnx; omega⟩
  have hab := Qii hnx
  skip
  ·skip
   refine Qab ?_
   refine Qaa (.int .i64 ((x : Nat) : Int)) 35 rfl kj kj ?_
   refine Qaa (.int .i64 ((L : Nat) : Int)) 36 rfl kj kj ?_
   refine Qan (.tuple #[.int .i64 ((a : Nat) : Int), .int .i64 ((b : Nat) : Int)]) 33 #[.int .i64 ((x : Nat) : Int), .int .i64 ((L : Nat) : Int)] 37 rfl kj kj (belN _ _ _ _ ha hb _) fun W8 e8 => ?_
   have x8 : Ext w W8 := Ext.tr xx1 e8
   refine Qaa (.tuple #[.int .i64 ((a : Nat) : Int), .int .i64 ((b : Nat) : Int)]) 34 rfl kj kj ?_
   refine Qaa (.int .i64 ((a : Nat) : Int)) 38 rfl kj kj ?_
   refine Qaa (.int .i64 ((b : Nat) : Int)) 39 rfl kj kj ?_
   refine Qaa (.int .i64 ((a : Nat) : Int)) 7 rfl kj kj ?_
   refine Qaa (.int .i64 ((b : Nat) : Int)) 8 rfl kj kj ?_
   refine Qae ?_
   refine hK19 _ _ ?_
   refine wp_seq_k fun K20 hK20 => ?_
   refine Qab ?_
   refine Qaa (.int .i64 ((a : Nat) : Int)) 40 rfl kj kj ?_
   refine Qaa (.int .i64 ((a : Nat) : Int)) 9 rfl kj kj ?_
   refine Qae ?_
   refine hK20 _ _ ?_
   refine wp_block ?_
   have r8_8 := (Qah q8_1 e8)
   refine Qa5 (fun (s2 : Nat × List Int) => [(0, .slice a_t ts.length c_t), (3, .int .i64 ((L : Nat) : Int)), (4, .slice (some ⟨g8, 0, none⟩) L L), (28, .slice ap ((resT ts (L - 1)).length) cp), (29, .int .i64 (((resT ts (L - 1)).length : Nat) : Int)), (30, .int .i64 ((k : Nat) : Int)), (6, .int .i64 ((x : Nat) : Int)), (8, .int .i64 ((b : Nat) : Int)), (9, .int .i64 ((s2.1 : Nat) : Int))]) (fun (s2 : Nat × List Int) W => (a ≤ s2.1) ∧ (s2.1 ≤ b + 1) ∧ (s2.2.length = L) ∧ (Qei ts L (resT ts (L - 1)) k ((x : Nat) : Int) s2.1 s2.2) ∧ (W.heap[g8]? = some (.cells (ints .i64 (s2.2)) 3)) ∧ (QaO [g8] W8 W) ∧ (Ext w W)) (fun (s2 : Nat × List Int) => b + 1 - s2.1) (a, zs) ⟨rfl, rfl, rfl, rfl, rfl, rfl, rfl, rfl, rfl, trivial⟩ ⟨(Nat.le_refl _), (by omega), hzl, (QfA hz ha), r8_8, (QaO.refl [g8] W8), x8⟩ fun s2 X2 V2 hI2 => ?_
   obtain ⟨c, ys⟩ := s2
   obtain ⟨hac, hcb1, hyl, hyz, q8_2, kk2, xx2⟩ := hI2
   replace hac : a ≤ c := hac
   replace hcb1 : c ≤ b + 1 := hcb1
   replace hyl : ys.length = L := hyl
   replace hyz : Qei ts L (resT ts (L - 1)) k ((x : Nat) : Int) c ys := hyz
   replace q8_2 : V2.heap[g8]? = some (.cells (ints .i64 (ys)) 3) := q8_2
   replace kk2 : QaO [g8] W8 V2 := kk2
   replace xx2 : Ext w V2 := xx2
   have q9 := kk2
   refine wp_seq_k fun K21 hK21 => ?_
   refine wp_seq_k fun K22 hK22 => ?_
   refine Qab ?_
   refine Qaa (.int .i64 ((c : Nat) : Int)) 41 rfl kj kj ?_
   refine Qaa (.int .i64 ((b : Nat) : Int)) 42 rfl kj kj ?_
   refine Qaa (.bool (decide (((c : Nat) : Int) ≤ ((b : Nat) : Int)))) 43 rfl kj kj ?_
   refine Qae ?_
   refine hK22 _ _ ?_
   refine Qav (t := decide (((c : Nat) : Int) ≤ ((b : Nat) : Int))) kj (fun c23 => ?_) (fun c23 => ?_)
   ·skip
    have hcb : c ≤ b := by have := of_decide_eq_true c23; omega
    refine wp_skip ?_
    refine hK21 _ _ ?_
    refine wp_seq_k fun K24 hK24 => ?_
    refine wp_block ?_
    refine wp_seq_k fun K25 hK25 => ?_
    refine wp_seq_k fun K26 hK26 => ?_
    obtain ⟨gyT, oyT, hay, hnys⟩ := TrAt.ext ht xx2
    have hny := hnys (x) (by omega)
    obtain ⟨ny, eny⟩ : ∃ z, z = ndi ts (x) := ⟨_, rfl⟩
    rw [← eny] at hny
    have oky := hny.ok
    have rdy := hny.rd
    rcases (show (x % 2 = 0) ∨ (x % 2 = 1 ∧ ((c : Nat) : Int) ∈ ny.n.ms) ∨ (x % 2 = 1 ∧ ((c : Nat) : Int) ∉ ny.n.ms) from by rcases Nat.mod_two_eq_zero_or_one x with h8 | h8; exact .inl h8; by_cases h7 : ((c : Nat) : Int) ∈ ny.n.ms; exact .inr (.inl ⟨h8, h7⟩); exact .inr (.inr ⟨h8, h7⟩)) with hq | hq | hq
    ·skip
     have hcv : cov ts ((L : Nat) : Int) ((x : Nat) : Int) ((c : Nat) : Int) = true := Qf2 (by rw [ha]; omega) (by rw [hb]; omega) (.inl (by omega))
     refine Qab ?_
     refine Qaa (.int .i64 ((x : Nat) : Int)) 46 rfl kj kj ?_
     refine Qaa (.int .i64 ((x % 2 : Nat) : Int)) 47 rfl kj (Qak (u := .int .i64 (Int.tmod (((x : Nat) : Int)) (2))) kj (congrArg (Value.int .i64) (QbE _ 2))) ?_
     refine Qaa (.bool false) 48 rfl kj (Qak (u := .bool ((((x % 2 : Nat) : Int) == 1))) kj (congrArg Value.bool (beq_eq_false_iff_ne.2 (by omega)))) ?_
     refine Qaa (.bool false) 49 rfl kj kj ?_
     refine Qac 50 rfl kj ?_
     refine Qac 51 rfl kj ?_
     refine Qac 52 rfl kj ?_
     refine Qac 53 rfl kj ?_
     refine Qac 54 rfl kj ?_
     refine Qac 55 rfl kj ?_
     refine Qac 56 rfl kj ?_
     refine Qaa (.bool false) 57 rfl kj kj ?_
     refine Qae ?_
     refine hK26 _ _ ?_
     refine cond_false kj ?_
     refine wp_skip ?_
     refine hK25 _ _ ?_
     refine Qab ?_
     refine Qaa (.slice (some ⟨g8, 0, none⟩) L L) 58 rfl kj kj ?_
     refine Qaa (.int .i64 ((c : Nat) : Int)) 59 rfl kj kj ?_
     refine Qaa (.pointer (some ⟨g8, c, none⟩)) 60 rfl kj (Qbk 36 _ _ .i64 (c) g8 L L 3 rfl kj kj kj kj (by omega)) ?_
     refine Qaa (.int .i64 (nth (ys) c)) 61 rfl kj (Qag 3 _ g8 c 3 _ (.int .i64 (nth (ys) c)) _ q8_2 rfl kj (QbI _ _ _ (Nat.lt_of_lt_of_eq (by omega) hyl.symm)) kj) ?_
     refine Qaa (.int .i64 ((nth ys c + 1))) 62 rfl kj (Qak (u := .int .i64 (IntKind.i64.wrap ((nth (ys) c) + 1))) kj (congrArg (Value.int .i64) (IntWalk.i64_in _ (by have := Qgl hyz (show c < L by omega); omega)))) ?_
     refine Qaa (.pointer (some ⟨g8, c, none⟩)) 63 rfl kj (Qbk 36 _ _ .i64 (c) g8 L L 3 rfl kj kj kj kj (by omega)) ?_
     refine Qa3 g8 _ (ints .i64 ((ys).set c ((nth ys c + 1)))) 3 q8_2 rfl kj (Qd6 3 _ _ g8 c 3 _ _ q8_2 rfl kj kj kj (Nat.lt_of_lt_of_eq (by omega) hyl.symm)) fun W10 p10 r8_10 => ?_
     have x10 : Ext w W10 := Puts.ext p10 xx2 b8
     refine Qae ?_
     refine hK24 _ _ ?_
     refine Qab ?_
     refine Qaa (.int .i64 ((c : Nat) : Int)) 44 rfl kj kj ?_
     refine Qaa (.int .i64 ((c + 1 : Nat) : Int)) 45 rfl kj (Qak (u := .int .i64 (IntKind.i64.wrap (((c : Nat) : Int) + 1))) kj (congrArg (Value.int .i64) (i64n _ _ (by omega) (by omega)))) ?_
     refine Qaa (.int .i64 ((c + 1 : Nat) : Int)) 9 rfl kj kj ?_
     refine Qae ?_
     repeat (first | with_reducible refine goX1 ?_ | with_reducible refine goX2 ?_ | with_reducible refine goX3 ?_)
     exact Qau ((c + 1), ((ys).set c ((nth ys c + 1)))) ⟨rfl, rfl, rfl, rfl, rfl, rfl, rfl, rfl, rfl, trivial⟩ ⟨(by omega), (by omega), ((List.length_set ..).trans hyl), (Qgm hyz hyl (by omega) hcv), r8_10, (QaO.puts q9 p10 (.inl (by simp))), x10⟩ (by show b + 1 - (c + 1) < b + 1 - c; omega)
    ·skip
     have hcv : cov ts ((L : Nat) : Int) ((x : Nat) : Int) ((c : Nat) : Int) = false := Qki (by omega) (eny ▸ hq.2)
     refine Qab ?_
     refine Qaa (.int .i64 ((x : Nat) : Int)) 46 rfl kj kj ?_
     refine Qaa (.int .i64 ((x % 2 : Nat) : Int)) 47 rfl kj (Qak (u := .int .i64 (Int.tmod (((x : Nat) : Int)) (2))) kj (congrArg (Value.int .i64) (QbE _ 2))) ?_
     refine Qaa (.bool true) 48 rfl kj (Qak (u := .bool ((((x % 2 : Nat) : Int) == 1))) kj (congrArg Value.bool (beq_iff_eq.2 (by omega)))) ?_
     refine Qaa (.bool true) 49 rfl kj kj ?_
     refine Qaa (.int .i64 ((c : Nat) : Int)) 50 rfl kj kj ?_
     refine Qaa (.slice a_t ts.length c_t) 51 rfl kj kj ?_
     refine Qaa (.int .i64 ((x : Nat) : Int)) 52 rfl kj kj ?_
     refine Qaa (.pointer (some ⟨gyT, oyT + (x) * 99, none⟩)) 53 rfl kj (Qal 23 _ _ .i64 (x) gyT oyT ts.length c_t 41 99 a_t (hay (by omega)) rfl kj kj kj kj (by omega)) ?_
     refine Qaa (.pointer (some ⟨gyT, oyT + (x) * 99 + 98, none⟩)) 54 rfl kj kj ?_
     refine Qaa (.slice ny.a ny.n.ms.length ny.c) 55 rfl kj (Qaj 36 _ _ (.slice ny.a ny.n.ms.length ny.c) (NdAt.at3 hny).2.2 rfl kj kj) ?_
     refine Qan (.bool true) 34 #[.int .i64 ((c : Nat) : Int), .slice ny.a ny.n.ms.length ny.c] 56 rfl kj kj (inRb ny.n.ms ((c : Nat) : Int) ny.a ny.c _ _ (eny ▸ hm6 _ (by omega)) (RdK.here (RdK.ext rdy (Rely.Ext.refl V2))) true (decide_eq_true hq.2)) fun W10 e10 => ?_
     have x10 : Ext w W10 := Ext.tr xx2 e10
     refine Qaa (.bool true) 57 rfl kj kj ?_
     refine Qae ?_
     refine hK26 _ _ ?_
     refine cond_true kj ?_
     refine wp_exit ?_
     refine hK24 _ _ ?_
     refine Qab ?_
     refine Qaa (.int .i64 ((c : Nat) : Int)) 44 rfl kj kj ?_
     refine Qaa (.int .i64 ((c + 1 : Nat) : Int)) 45 rfl kj (Qak (u := .int .i64 (IntKind.i64.wrap (((c : Nat) : Int) + 1))) kj (congrArg (Value.int .i64) (i64n _ _ (by omega) (by omega)))) ?_
     refine Qaa (.int .i64 ((c + 1 : Nat) : Int)) 9 rfl kj kj ?_
     refine Qae ?_
     have r8_10 := (Qah q8_2 e10)
     repeat (first | with_reducible refine goX1 ?_ | with_reducible refine goX2 ?_ | with_reducible refine goX3 ?_)
     exact Qau ((c + 1), (ys)) ⟨rfl, rfl, rfl, rfl, rfl, rfl, rfl, rfl, rfl, trivial⟩ ⟨(by omega), (by omega), hyl, (Qgk hyz hcv), r8_10, (QaO.step q9 e10), x10⟩ (by show b + 1 - (c + 1) < b + 1 - c; omega)
    ·skip
     have hcv : cov ts ((L : Nat) : Int) ((x : Nat) : Int) ((c : Nat) : Int) = true := Qf2 (by rw [ha]; omega) (by rw [hb]; omega) (.inr (eny ▸ hq.2))
     refine Qab ?_
     refine Qaa (.int .i64 ((x : Nat) : Int)) 46 rfl kj kj ?_
     refine Qaa (.int .i64 ((x % 2 : Nat) : Int)) 47 rfl kj (Qak (u := .int .i64 (Int.tmod (((x : Nat) : Int)) (2))) kj (congrArg (Value.int .i64) (QbE _ 2))) ?_
     refine Qaa (.bool true) 48 rfl kj (Qak (u := .bool ((((x % 2 : Nat) : Int) == 1))) kj (congrArg Value.bool (beq_iff_eq.2 (by omega)))) ?_
     refine Qaa (.bool true) 49 rfl kj kj ?_
     refine Qaa (.int .i64 ((c : Nat) : Int)) 50 rfl kj kj ?_
     refine Qaa (.slice a_t ts.length c_t) 51 rfl kj kj ?_
     refine Qaa (.int .i64 ((x : Nat) : Int)) 52 rfl kj kj ?_
     refine Qaa (.pointer (some ⟨gyT, oyT + (x) * 99, none⟩)) 53 rfl kj (Qal 23 _ _ .i64 (x) gyT oyT ts.length c_t 41 99 a_t (hay (by omega)) rfl kj kj kj kj (by omega)) ?_
     refine Qaa (.pointer (some ⟨gyT, oyT + (x) * 99 + 98, none⟩)) 54 rfl kj kj ?_
     refine Qaa (.slice ny.a ny.n.ms.length ny.c) 55 rfl kj (Qaj 36 _ _ (.slice ny.a ny.n.ms.length ny.c) (NdAt.at3 hny).2.2 rfl kj kj) ?_
     refine Qan (.bool false) 34 #[.int .i64 ((c : Nat) : Int), .slice ny.a ny.n.ms.length ny.c] 56 rfl kj kj (inRb ny.n.ms ((c : Nat) : Int) ny.a ny.c _ _ (eny ▸ hm6 _ (by omega)) (RdK.here (RdK.ext rdy (Rely.Ext.refl V2))) false (decide_eq_false hq.2)) fun W10 e10 => ?_
     have x10 : Ext w W10 := Ext.tr xx2 e10
     refine Qaa (.bool false) 57 rfl kj kj ?_
     refine Qae ?_
     refine hK26 _ _ ?_
     refine cond_false kj ?_
     refine wp_skip ?_
     refine hK25 _ _ ?_
     refine Qab ?_
     refine Qaa (.slice (some ⟨g8, 0, none⟩) L L) 58 rfl kj kj ?_
     refine Qaa (.int .i64 ((c : Nat) : Int)) 59 rfl kj kj ?_
     refine Qaa (.pointer (some ⟨g8, c, none⟩)) 60 rfl kj (Qbk 36 _ _ .i64 (c) g8 L L 3 rfl kj kj kj kj (by omega)) ?_
     have r8_10 := (Qah q8_2 e10)
     refine Qaa (.int .i64 (nth (ys) c)) 61 rfl kj (Qag 3 _ g8 c 3 _ (.int .i64 (nth (ys) c)) _ r8_10 rfl kj (QbI _ _ _ (Nat.lt_of_lt_of_eq (by omega) hyl.symm)) kj) ?_
     refine Qaa (.int .i64 ((nth ys c + 1))) 62 rfl kj (Qak (u := .int .i64 (IntKind.i64.wrap ((nth (ys) c) + 1))) kj (congrArg (Value.int .i64) (IntWalk.i64_in _ (by have := Qgl hyz (show c < L by omega); omega)))) ?_
     refine Qaa (.pointer (some ⟨g8, c, none⟩)) 63 rfl kj (Qbk 36 _ _ .i64 (c) g8 L L 3 rfl kj kj kj kj (by omega)) ?_
     refine Qa3 g8 _ (ints .i64 ((ys).set c ((nth ys c + 1)))) 3 r8_10 rfl kj (Qd6 3 _ _ g8 c 3 _ _ r8_10 rfl kj kj kj (Nat.lt_of_lt_of_eq (by omega) hyl.symm)) fun W11 p11 r8_11 => ?_
     have x11 : Ext w W11 := Puts.ext p11 x10 b8
     refine Qae ?_
     refine hK24 _ _ ?_
     refine Qab ?_
     refine Qaa (.int .i64 ((c : Nat) : Int)) 44 rfl kj kj ?_
     refine Qaa (.int .i64 ((c + 1 : Nat) : Int)) 45 rfl kj (Qak (u := .int .i64 (IntKind.i64.wrap (((c : Nat) : Int) + 1))) kj (congrArg (Value.int .i64) (i64n _ _ (by omega) (by omega)))) ?_
     refine Qaa (.int .i64 ((c + 1 : Nat) : Int)) 9 rfl kj kj ?_
     refine Qae ?_
     repeat (first | with_reducible refine goX1 ?_ | with_reducible refine goX2 ?_ | with_reducible refine goX3 ?_)
     exact Qau ((c + 1), ((ys).set c ((nth ys c + 1)))) ⟨rfl, rfl, rfl, rfl, rfl, rfl, rfl, rfl, rfl, trivial⟩ ⟨(by omega), (by omega), ((List.length_set ..).trans hyl), (Qgm hyz hyl (by omega) hcv), r8_11, (QaO.puts (QaO.step q9 e10) p11 (.inl (by simp))), x11⟩ (by show b + 1 - (c + 1) < b + 1 - c; omega)
   ·skip
    have hcb : b < c := by have := of_decide_eq_false c23; omega
    refine wp_exit ?_
    refine hK17 _ _ ?_
    refine Qab ?_
    refine Qaa (.int .i64 ((k + 1 : Nat) : Int)) 64 rfl kj (Qak (u := .int .i64 (IntKind.i64.wrap (((k : Nat) : Int) + 1))) kj (congrArg (Value.int .i64) (i64n _ _ (by omega) (by omega)))) ?_
    refine Qaa (.int .i64 ((k + 1 : Nat) : Int)) 30 rfl kj kj ?_
    refine Qae ?_
    repeat (first | with_reducible refine goX1 ?_ | with_reducible refine goX2 ?_ | with_reducible refine goX3 ?_)
    exact Qau ((k + 1), (ys)) ⟨rfl, rfl, rfl, rfl, rfl, rfl, trivial⟩ ⟨(by omega), hyl, (Qhq hlt31 (by rw [hx]; exact hyz) (by rw [hx]; exact hb) hcb), q8_2, (QaO.keeps (QaO.step q7 e8) q9 (QiP (.inl (by simp)) QjL)), xx2⟩ (by show (resT ts (L - 1)).length - (k + 1) < (resT ts (L - 1)).length - k; omega)
 ·skip
  have heq31 : k = (resT ts (L - 1)).length := by have := of_decide_eq_false c14; omega
  refine wp_exit ?_
  refine hK9 _ _ ?_
  refine wp_seq_k fun K27 hK27 => ?_
  refine wp_seq_k fun K28 hK28 => ?_
  refine Qab ?_
  refine Qaa (.int .i64 ((L : Nat) : Int)) 65 rfl kj kj ?_
  refine Qaa (.int .i64 0) 66 rfl kj kj ?_
  refine Qae ?_
  refine hK28 _ _ ?_
  refine wp_block ?_
  have hzf : ∀ j, j < L → nth zs j = ((cnt ts ((L : Nat) : Int) (resT ts (L - 1)) ((j : Nat) : Int) : Nat) : Int) := fun j hj => by have h9 := hz j hj; rw [heq31, List.take_length] at h9; exact h9
  refine Qa5 (fun (s3 : Nat) => [(0, .slice a_t ts.length c_t), (3, .int .i64 ((L : Nat) : Int)), (4, .slice (some ⟨g8, 0, none⟩) L L), (65, .int .i64 ((L : Nat) : Int)), (66, .int .i64 ((s3 : Nat) : Int))]) (fun (s3 : Nat) W => (s3 ≤ L) ∧ (Ext V1 W) ∧ (Ext w W)) (fun (s3 : Nat) => L - s3) 0 ⟨rfl, rfl, rfl, rfl, rfl, trivial⟩ ⟨(Nat.zero_le _), (Rely.Ext.refl V1), xx1⟩ fun s3 X3 V3 hI3 => ?_
  obtain ⟨i, hs3⟩ : ∃ z, z = s3 := ⟨_, rfl⟩
  subst hs3
  obtain ⟨hi, kk3, xx3⟩ := hI3
  replace hi : i ≤ L := hi
  replace kk3 : Ext V1 V3 := kk3
  replace xx3 : Ext w V3 := xx3
  have e8 := kk3
  refine wp_seq_k fun K29 hK29 => ?_
  refine Qab ?_
  refine Qaa (.bool (decide (((i : Nat) : Int) < ((L : Nat) : Int)))) 67 rfl kj kj ?_
  refine Qae ?_
  refine hK29 _ _ ?_
  refine wp_seq_k fun K30 hK30 => ?_
  refine Qav (t := decide (((i : Nat) : Int) < ((L : Nat) : Int))) kj (fun c31 => ?_) (fun c31 => ?_)
  ·skip
   have hlt67 : i < L := by have := of_decide_eq_true c31; omega
   refine wp_skip ?_
   refine hK30 _ _ ?_
   refine wp_seq_k fun K32 hK32 => ?_
   refine wp_block ?_
   refine wp_seq_k fun K33 hK33 => ?_
   refine Qab ?_
   refine Qaa (.int .i64 ((i : Nat) : Int)) 68 rfl kj kj ?_
   refine Qaa (.int .i64 ((i : Nat) : Int)) 10 rfl kj kj ?_
   refine Qae ?_
   refine hK33 _ _ ?_
   refine wp_seq_k fun K34 hK34 => ?_
   obtain ⟨gyT, oyT, hay, hnys⟩ := TrAt.ext ht xx3
   have hny := hnys (2 * i) (by omega)
   obtain ⟨ny, eny⟩ : ∃ z, z = ndi ts (2 * i) := ⟨_, rfl⟩
   rw [← eny] at hny
   have oky := hny.ok
   have rdy := hny.rd
   rcases (show ny.n.us = true ∨ ny.n.us = false from by cases ny.n.us; exact .inr rfl; exact .inl rfl) with hq | hq
   ·skip
    have hz0 : nth zs i ≤ 1 := by rw [hzf i hlt67]; have := (hon i hlt67).1; omega
    have hz1 : nth zs i = 1 := by rw [hzf i hlt67, (hon i hlt67).2 (eny ▸ hq)]; rfl
    refine Qab ?_
    refine Qaa (.slice a_t ts.length c_t) 69 rfl kj kj ?_
    refine Qaa (.int .i64 ((i : Nat) : Int)) 70 rfl kj kj ?_
    refine Qaa (.int .i64 ((2 * i : Nat) : Int)) 71 rfl kj (Qak (u := .int .i64 (IntKind.i64.wrap (2 * ((i : Nat) : Int)))) kj (congrArg (Value.int .i64) (i64n _ _ (by omega) (by omega)))) ?_
    refine Qaa (.pointer (some ⟨gyT, oyT + (2 * i) * 99, none⟩)) 72 rfl kj (Qal 23 _ _ .i64 (2 * i) gyT oyT ts.length c_t 41 99 a_t (hay (by omega)) rfl kj kj kj kj (by omega)) ?_
    refine Qaa (.pointer (some ⟨gyT, oyT + (2 * i) * 99, none⟩)) 73 rfl kj kj ?_
    refine Qaa (.bool true) 74 rfl kj (Qaj 4 _ _ (.bool true) ((NdAt.at3 hny).1.trans (congrArg (fun z => some (Value.bool z)) hq)) rfl kj kj) ?_
    refine Qaa (.bool true) 75 rfl kj kj ?_
    refine Qaa (.slice (some ⟨g8, 0, none⟩) L L) 76 rfl kj kj ?_
    refine Qaa (.int .i64 ((i : Nat) : Int)) 77 rfl kj kj ?_
    refine Qaa (.pointer (some ⟨g8, i, none⟩)) 78 rfl kj (Qbk 36 _ _ .i64 (i) g8 L L 3 rfl kj kj kj kj (by omega)) ?_
    have r8_8 := (Qah q8_1 e8)
    refine Qaa (.int .i64 (nth (zs) i)) 79 rfl kj (Qag 3 _ g8 i 3 _ (.int .i64 (nth (zs) i)) _ r8_8 rfl kj (QbI _ _ _ (Nat.lt_of_lt_of_eq (by omega) hzl.symm)) kj) ?_
    refine Qaa (.bool false) 80 rfl kj (Qak (u := .bool (((nth (zs) i) != 1))) kj (congrArg Value.bool (bne_eq_false_iff_eq.2 hz1))) ?_
    refine Qaa (.bool false) 81 rfl kj kj ?_
    refine Qaa (.bool false) 82 rfl kj kj ?_
    refine Qaa (.slice (some ⟨g8, 0, none⟩) L L) 83 rfl kj kj ?_
    refine Qaa (.int .i64 ((i : Nat) : Int)) 84 rfl kj kj ?_
    refine Qaa (.pointer (some ⟨g8, i, none⟩)) 85 rfl kj (Qbk 36 _ _ .i64 (i) g8 L L 3 rfl kj kj kj kj (by omega)) ?_
    refine Qaa (.int .i64 (nth (zs) i)) 86 rfl kj (Qag 3 _ g8 i 3 _ (.int .i64 (nth (zs) i)) _ r8_8 rfl kj (QbI _ _ _ (Nat.lt_of_lt_of_eq (by omega) hzl.symm)) kj) ?_
    refine Qaa (.bool false) 87 rfl kj (Qak (u := .bool (decide ((nth (zs) i) > 1))) kj (congrArg Value.bool (decide_eq_false (by omega)))) ?_
    refine Qaa (.bool false) 88 rfl kj kj ?_
    refine Qae ?_
    refine hK34 _ _ ?_
    refine cond_false kj ?_
    refine wp_skip ?_
    refine hK32 _ _ ?_
    refine Qab ?_
    refine Qaa (.int .i64 ((i + 1 : Nat) : Int)) 89 rfl kj (Qak (u := .int .i64 (IntKind.i64.wrap (((i : Nat) : Int) + 1))) kj (congrArg (Value.int .i64) (i64n _ _ (by omega) (by omega)))) ?_
    refine Qaa (.int .i64 ((i + 1 : Nat) : Int)) 66 rfl kj kj ?_
    refine Qae ?_
    repeat (first | with_reducible refine goX1 ?_ | with_reducible refine goX2 ?_ | with_reducible refine goX3 ?_)
    exact Qau (i + 1) ⟨rfl, rfl, rfl, rfl, rfl, trivial⟩ ⟨(by omega), e8, xx3⟩ (by show L - (i + 1) < L - i; omega)
   ·skip
    have hz0 : nth zs i ≤ 1 := by rw [hzf i hlt67]; have := (hon i hlt67).1; omega
    refine Qab ?_
    refine Qaa (.slice a_t ts.length c_t) 69 rfl kj kj ?_
    refine Qaa (.int .i64 ((i : Nat) : Int)) 70 rfl kj kj ?_
    refine Qaa (.int .i64 ((2 * i : Nat) : Int)) 71 rfl kj (Qak (u := .int .i64 (IntKind.i64.wrap (2 * ((i : Nat) : Int)))) kj (congrArg (Value.int .i64) (i64n _ _ (by omega) (by omega)))) ?_
    refine Qaa (.pointer (some ⟨gyT, oyT + (2 * i) * 99, none⟩)) 72 rfl kj (Qal 23 _ _ .i64 (2 * i) gyT oyT ts.length c_t 41 99 a_t (hay (by omega)) rfl kj kj kj kj (by omega)) ?_
    refine Qaa (.pointer (some ⟨gyT, oyT + (2 * i) * 99, none⟩)) 73 rfl kj kj ?_
    refine Qaa (.bool false) 74 rfl kj (Qaj 4 _ _ (.bool false) ((NdAt.at3 hny).1.trans (congrArg (fun z => some (Value.bool z)) hq)) rfl kj kj) ?_
    refine Qaa (.bool false) 75 rfl kj kj ?_
    refine Qac 76 rfl kj ?_
    refine Qac 77 rfl kj ?_
    refine Qac 78 rfl kj ?_
    refine Qac 79 rfl kj ?_
    refine Qac 80 rfl kj ?_
    refine Qaa (.bool false) 81 rfl kj kj ?_
    refine Qaa (.bool false) 82 rfl kj kj ?_
    refine Qaa (.slice (some ⟨g8, 0, none⟩) L L) 83 rfl kj kj ?_
    refine Qaa (.int .i64 ((i : Nat) : Int)) 84 rfl kj kj ?_
    refine Qaa (.pointer (some ⟨g8, i, none⟩)) 85 rfl kj (Qbk 36 _ _ .i64 (i) g8 L L 3 rfl kj kj kj kj (by omega)) ?_
    have r8_8 := (Qah q8_1 e8)
    refine Qaa (.int .i64 (nth (zs) i)) 86 rfl kj (Qag 3 _ g8 i 3 _ (.int .i64 (nth (zs) i)) _ r8_8 rfl kj (QbI _ _ _ (Nat.lt_of_lt_of_eq (by omega) hzl.symm)) kj) ?_
    refine Qaa (.bool false) 87 rfl kj (Qak (u := .bool (decide ((nth (zs) i) > 1))) kj (congrArg Value.bool (decide_eq_false (by omega)))) ?_
    refine Qaa (.bool false) 88 rfl kj kj ?_
    refine Qae ?_
    refine hK34 _ _ ?_
    refine cond_false kj ?_
    refine wp_skip ?_
    refine hK32 _ _ ?_
    refine Qab ?_
    refine Qaa (.int .i64 ((i + 1 : Nat) : Int)) 89 rfl kj (Qak (u := .int .i64 (IntKind.i64.wrap (((i : Nat) : Int) + 1))) kj (congrArg (Value.int .i64) (i64n _ _ (by omega) (by omega)))) ?_
    refine Qaa (.int .i64 ((i + 1 : Nat) : Int)) 66 rfl kj kj ?_
    refine Qae ?_
    repeat (first | with_reducible refine goX1 ?_ | with_reducible refine goX2 ?_ | with_reducible refine goX3 ?_)
    exact Qau (i + 1) ⟨rfl, rfl, rfl, rfl, rfl, trivial⟩ ⟨(by omega), e8, xx3⟩ (by show L - (i + 1) < L - i; omega)
  ·skip
   have heq67 : i = L := by have := of_decide_eq_false c31; omega
   refine wp_exit ?_
   refine hK27 _ _ ?_
   refine wp_seq_k fun K35 hK35 => ?_
   refine Qab ?_
   refine Qaa (.bool true) 2 rfl kj kj ?_
   refine Qae ?_
   refine hK35 _ _ ?_
   refine wp_ret ?_
   repeat (first | with_reducible refine goR1 ?_ | with_reducible refine goR2 ?_)
   exact (show bodyPost _ _ _ .ret _ _ from ret1 (.bool true) rfl (Qaq kj) ⟨rfl, xx3⟩)
theorem lawOnce (ts : List NdV) (a_t : Option Addr) (c_t B1 : Nat) (w : World) (ht : TrAt B1 w a_t ts) (hT : TabAt w) : Calls Tryd.prog 7 #[.slice a_t ts.length c_t] w (Ret w (.bool true)) := by
  by_cases hs : ∀ i, i < ts.length → i ≤ 70 ∧ (ndi ts i).n.ms.length ≤ 50
  case neg => exact QjV ts a_t c_t B1 w ht hT hs
  cases hc : chkT ts with
  | false => exact QjW ts a_t c_t B1 w ht hT hs hc
  | true => exact QjU ts a_t c_t B1 w ht hT hs hc
end Go.Proofs.YtcmaolmofgmkhaaDoor.Te
end
section
namespace Go.Proofs.YtcmaolmofgmkhaaDoor.Auto
open Go Go.RowKit Go.WideShapes
open Rely
set_option linter.unusedVariables false
section
variable {H : Type} {enc : TypeId × Value → H} {P : Program} {W w : World} {r : Reach} {base b0 : Nat} {sp : Nat → Bool} {held : Bool}
theorem open_raw {n : Nat} {t e : TypeId} {cs : List Value} {fuel : Nat} {x : DataW H × List MemPlace} (ht : P.underlying t = some (.array n e)) (he : P.underlying e = some (.int .u8)) (hce : P.cellsOf e = 1) (hct : P.cellsOf t = n)
    (hf : DataW.trod enc P w b0 sp held fuel t cs = some x) : ∃ xs : List Int, cs = xs.map (Value.int .u8) ∧ xs.length = n ∧ Qbs xs := by
  obtain ⟨xs, m, -, -, hl, hn, hx⟩ := DataW.trod_array ht hf
  have hcs : cs.length = n := by simpa [hct] using hl
  have each : ∀ i, i < n → ∃ z : Int, cs[i]? = some (.int .u8 z) ∧ (0 ≤ z ∧ z ≤ 255) := by
    intro i hi
    have h1 := hx i hi
    rw [hce, Nat.mul_one] at h1
    have hlt : i < cs.length := by omega
    have h2 : cs.drop i = cs[i] :: cs.drop (i + 1) := List.drop_eq_getElem_cons hlt
    have h1 : DataW.trod enc P w b0 sp held m e ((cs.drop i).take 1) = xs[i]? := h1
    rw [h2] at h1
    simp only [List.take_succ_cons, List.take_zero] at h1
    obtain ⟨y, hy⟩ : ∃ y, xs[i]? = some y := ⟨xs[i], by simp [hn, hi]⟩
    rw [hy] at h1
    obtain ⟨z, hc, -, hw⟩ := DataW.trod_int he h1
    refine ⟨z, ?_, ?_⟩
    · rw [List.getElem?_eq_getElem hlt]
      simp only [List.cons.injEq] at hc
      rw [hc.1]
    · simpa [Lit.wf, IntKind.min, IntKind.max, IntKind.signed, IntKind.bits] using hw
  have all : ∀ (l : List Value), (∀ i, i < l.length → ∃ z : Int, l[i]? = some (.int .u8 z) ∧ (0 ≤ z ∧ z ≤ 255)) → ∃ zs : List Int, l = zs.map (Value.int .u8) ∧ Qbs zs := by
    intro l
    induction l with
    | nil => exact fun _ => ⟨[], rfl, fun x hx => by simp at hx⟩
    | cons a l ih =>
      intro h
      obtain ⟨zs, h1, h2⟩ := ih fun i hi => by simpa using h (i + 1) (by simp; omega)
      obtain ⟨z, h3, h4⟩ := h 0 (by simp)
      simp only [List.getElem?_cons_zero, Option.some.injEq] at h3
      refine ⟨z :: zs, by rw [h3, h1]; rfl, fun x hx => ?_⟩
      rcases List.mem_cons.1 hx with e | e
      · rw [e]; exact h4
      · exact h2 x e
  obtain ⟨zs, h1, h2⟩ := all cs fun i hi => each i (by omega)
  exact ⟨zs, h1, by rw [← hcs, h1, List.length_map], h2⟩
end
end Go.Proofs.YtcmaolmofgmkhaaDoor.Auto
end
section
namespace Go.Proofs.YtcmaolmofgmkhaaDoor.Auto
open Go Go.RowKit Go.WideShapes
open Rely
set_option linter.unusedVariables false
section
variable {H : Type} {enc : TypeId × Value → H} {P : Program} {W w : World} {r : Reach} {base b0 : Nat} {sp : Nat → Bool} {held : Bool}
theorem Qhk {t : TypeId} {f0 f1 f2 f3 f4 f5 : Field} {fuel : Nat} {cs : List Value} {x : DataW H × List MemPlace} (ht : P.underlying t = some (.struct #[f0, f1, f2, f3, f4, f5])) (h : DataW.trod enc P w b0 sp held fuel t cs = some x) :
    ∃ y0 y1 y2 y3 y4 y5 n, cs.length = P.cellsOf t ∧ DataW.trod enc P w b0 sp held n f0.type ((cs.drop f0.offset).take (P.cellsOf f0.type)) = some y0 ∧ DataW.trod enc P w b0 sp held n f1.type ((cs.drop f1.offset).take (P.cellsOf f1.type)) = some y1 ∧ DataW.trod enc P w b0 sp held n f2.type ((cs.drop f2.offset).take (P.cellsOf f2.type)) = some y2 ∧ DataW.trod enc P w b0 sp held n f3.type ((cs.drop f3.offset).take (P.cellsOf f3.type)) = some y3 ∧ DataW.trod enc P w b0 sp held n f4.type ((cs.drop f4.offset).take (P.cellsOf f4.type)) = some y4 ∧ DataW.trod enc P w b0 sp held n f5.type ((cs.drop f5.offset).take (P.cellsOf f5.type)) = some y5 := by
  obtain ⟨xs, n, _, rfl, hl, hlen, hf⟩ := DataW.trod_struct ht h
  match xs, hlen with
  | [y0, y1, y2, y3, y4, y5], _ => exact ⟨y0, y1, y2, y3, y4, y5, n, hl, by simpa using hf 0 f0 rfl, by simpa using hf 1 f1 rfl, by simpa using hf 2 f2 rfl, by simpa using hf 3 f3 rfl, by simpa using hf 4 f4 rfl, by simpa using hf 5 f5 rfl⟩
theorem sub_st6 {t : TypeId} {f0 f1 f2 f3 f4 f5 : Field} {fuel : Nat} {cs : List Value} {x : DataW H × List MemPlace} {n0 n1 n2 n3 n4 n5 : Nat} (ht : P.underlying t = some (.struct #[f0, f1, f2, f3, f4, f5]))
    (ho : f0.offset = 0 ∧ f1.offset = n0 ∧ f2.offset = n0 + n1 ∧ f3.offset = n0 + n1 + n2 ∧ f4.offset = n0 + n1 + n2 + n3 ∧ f5.offset = n0 + n1 + n2 + n3 + n4) (hc : P.cellsOf f0.type = n0 ∧ P.cellsOf f1.type = n1 ∧ P.cellsOf f2.type = n2 ∧ P.cellsOf f3.type = n3 ∧ P.cellsOf f4.type = n4 ∧ P.cellsOf f5.type = n5) (hC : P.cellsOf t = n0 + n1 + n2 + n3 + n4 + n5) (h : DataW.trod enc P w b0 sp held fuel t cs = some x) :
    ∃ (X0 X1 X2 X3 X4 X5 : List Value) (y0 y1 y2 y3 y4 y5 : DataW H × List MemPlace) (n : Nat), cs = X0 ++ X1 ++ X2 ++ X3 ++ X4 ++ X5 ∧ DataW.trod enc P w b0 sp held n f0.type X0 = some y0 ∧ DataW.trod enc P w b0 sp held n f1.type X1 = some y1 ∧ DataW.trod enc P w b0 sp held n f2.type X2 = some y2 ∧ DataW.trod enc P w b0 sp held n f3.type X3 = some y3 ∧ DataW.trod enc P w b0 sp held n f4.type X4 = some y4 ∧ DataW.trod enc P w b0 sp held n f5.type X5 = some y5 := by
  obtain ⟨y0, y1, y2, y3, y4, y5, n, hl, h0, h1, h2, h3, h4, h5⟩ := Qhk ht h
  obtain ⟨o0, o1, o2, o3, o4, o5⟩ := ho
  obtain ⟨c0, c1, c2, c3, c4, c5⟩ := hc
  rw [o0, c0] at h0
  rw [o1, c1] at h1
  rw [o2, c2] at h2
  rw [o3, c3] at h3
  rw [o4, c4] at h4
  rw [o5, c5] at h5
  refine ⟨_, _, _, _, _, _, y0, y1, y2, y3, y4, y5, n, ?_, h0, h1, h2, h3, h4, h5⟩
  rw [hC] at hl
  simp only [List.drop_zero]
  have e1 : cs.take (n0) ++ (cs.drop (n0)).take n1 = cs.take (n0 + n1) := by rw [List.take_add (i := n0)]
  have e2 : cs.take (n0 + n1) ++ (cs.drop (n0 + n1)).take n2 = cs.take (n0 + n1 + n2) := by rw [List.take_add (i := n0 + n1)]
  have e3 : cs.take (n0 + n1 + n2) ++ (cs.drop (n0 + n1 + n2)).take n3 = cs.take (n0 + n1 + n2 + n3) := by rw [List.take_add (i := n0 + n1 + n2)]
  have e4 : cs.take (n0 + n1 + n2 + n3) ++ (cs.drop (n0 + n1 + n2 + n3)).take n4 = cs.take (n0 + n1 + n2 + n3 + n4) := by rw [List.take_add (i := n0 + n1 + n2 + n3)]
  have e5 : cs.take (n0 + n1 + n2 + n3 + n4) ++ (cs.drop (n0 + n1 + n2 + n3 + n4)).take n5 = cs.take (n0 + n1 + n2 + n3 + n4 + n5) := by rw [List.take_add (i := n0 + n1 + n2 + n3 + n4)]
  rw [e1, e2, e3, e4, e5, List.take_of_length_le (by omega)]
end
end Go.Proofs.YtcmaolmofgmkhaaDoor.Auto
end
section
namespace Go.Proofs.YtcmaolmofgmkhaaDoor.Auto
open Go Go.RowKit
open Rely
set_option linter.unusedVariables false
end Go.Proofs.YtcmaolmofgmkhaaDoor.Auto
end
section
namespace Go.Proofs.YtcmaolmofgmkhaaDoor.Te
open Go Go.RowKit
open Rely Auto Own Sha
set_option linter.unusedVariables false
set_option linter.unusedSimpArgs false
open Go.WideShapes Go.ChangeShapes Go.ChangeAt Go.Deep
open Go.Proofs.YtcmaolmofgmkhaaDoor
section
variable {H : Type} {enc : TypeId × Value → H} {P : Program} {w : World} {b0 : Nat} {held : Bool}
theorem QhP (x : Addr) (i j : Nat) : (x.add i).add j = x.add (i + j) := by
  by_cases hi : i = 0 <;> by_cases hj : j = 0 <;> simp [Addr.add, hi, hj, Nat.add_assoc]
theorem open_tree {t s e5 e3 : TypeId} {f0 f1 f2 f3 f4 f5 : Field} {ad : Option Addr} {len cap : Nat} {d : DataW H} {p : List MemPlace} (hs : P.underlying t = some (.slice s)) (hss : P.underlying s = some (.struct #[f0, f1, f2, f3, f4, f5]))
    (ho : f0.offset = 0 ∧ f1.offset = 1 ∧ f2.offset = 1 + 1 ∧ f3.offset = 1 + 1 + 32 ∧ f4.offset = 1 + 1 + 32 + 32 ∧ f5.offset = 1 + 1 + 32 + 32 + 32) (hc : P.cellsOf f0.type = 1 ∧ P.cellsOf f1.type = 1 ∧ P.cellsOf f2.type = 32 ∧ P.cellsOf f3.type = 32 ∧ P.cellsOf f4.type = 32 ∧ P.cellsOf f5.type = 1) (hC : P.cellsOf s = 1 + 1 + 32 + 32 + 32 + 1)
    (h0 : P.underlying f0.type = some .bool) (h1 : P.underlying f1.type = some (.int .i64)) (h2 : P.underlying f2.type = some (.array 32 e5)) (h3 : P.underlying f3.type = some (.array 32 e5)) (h4 : P.underlying f4.type = some (.array 32 e5)) (h5 : P.underlying f5.type = some (.slice e3))
    (he5 : P.underlying e5 = some (.int .u8)) (hc5 : P.cellsOf e5 = 1) (he3 : P.underlying e3 = some (.int .i64)) (hc3 : P.cellsOf e3 = 1)
    (h : DataW.Trod enc P w b0 (fun _ => true) held t (.slice ad len cap) d p) :
    ∃ ts : List NdV, ts.length = len ∧ TrAt w.heap.size w ad ts ∧ ∀ n ∈ ts, NdOk n.n := by
  obtain ⟨fuel, hf⟩ := h
  rcases DataW.trod_slice hs hf with ⟨hcs', -⟩ | ⟨x, l, c, elems, rest, n, -, hcs', -, hb, hl, hmx, hlen, hel, -, -⟩
  · simp [Value.cells] at hcs'
    obtain ⟨rfl, rfl, rfl⟩ := hcs'
    exact ⟨[], rfl, ⟨0, 0, fun h => absurd h (by decide), fun i hi => absurd hi (Nat.not_lt_zero _)⟩, fun n hn => by cases hn⟩
  · simp [Value.cells] at hcs'
    obtain ⟨rfl, rfl, rfl⟩ := hcs'
    have key : ∀ i, i < len → ∃ n : NdV, (∀ j u, (cat (ndP n))[j]? = some u → w.cell? (x.add (i * 99 + j)) = some u) ∧ RdK .i64 w.heap.size n.n.ms (.slice n.a n.n.ms.length n.c) w ∧ NdOk n.n := fun i hi => by
      have h9 := hel i hi
      rw [hC, List.getElem?_eq_getElem (by omega)] at h9
      obtain ⟨cs, hc1, hc2⟩ := Option.bind_eq_some_iff.1 h9
      obtain ⟨hn, q1, q2⟩ := World.cells?_some hc1
      obtain ⟨X0, X1, X2, X3, X4, X5, y0, y1, y2, y3, y4, y5, m, hcs, t0, t1, t2, t3, t4, t5⟩ := Auto.sub_st6 hss ho hc hC hc2
      obtain ⟨us, rfl, -⟩ := DataW.trod_bool h0 t0
      obtain ⟨nm, rfl, -, -⟩ := DataW.trod_int h1 t1
      obtain ⟨key, rfl, hkl, hkb⟩ := Auto.open_raw h2 he5 hc5 hc.2.2.1 t2
      obtain ⟨sg, rfl, hgl, hgb⟩ := Auto.open_raw h3 he5 hc5 hc.2.2.2.1 t3
      obtain ⟨pa, rfl, hpl, hpb⟩ := Auto.open_raw h4 he5 hc5 hc.2.2.2.2.1 t4
      have fin : ∀ (a : Option Addr) (ms : List Int) (c : Nat), X5 = [.slice a ms.length c] → RdK .i64 w.heap.size ms (.slice a ms.length c) w → ∃ n : NdV, (∀ j u, (cat (ndP n))[j]? = some u → w.cell? (x.add (i * 99 + j)) = some u) ∧ RdK .i64 w.heap.size n.n.ms (.slice n.a n.n.ms.length n.c) w ∧ NdOk n.n := fun a ms c e r => by
        refine ⟨⟨⟨us, nm, key, sg, pa, ms⟩, a, c⟩, fun j u hu => ?_, r, ⟨hkl, hgl, hpl, hkb, hgb, hpb⟩⟩
        have e9 : (cat (ndP ⟨⟨us, nm, key, sg, pa, ms⟩, a, c⟩)).toList = cs := by
          rw [hcs, e]
          unfold ndP
          simp [cat, Rely.ints]
        rw [← Array.getElem?_toList, e9] at hu
        have hj : j < 99 := by have := (List.getElem?_eq_some_iff.1 hu).1; omega
        have := q2 j hj
        rw [QhP] at this
        rw [this]; exact hu
      rcases open_ints h5 he3 hc3 t5 with ⟨hcv, -⟩ | ⟨y, l, cc, zs, hcv, -, hl2, hm2, hz2, -, hcell, hwz⟩
      · exact fin none [] 0 hcv ⟨none, 0, rfl, Nat.le_refl _, Nat.zero_le _, fun _ => rfl, .inl rfl⟩
      · obtain ⟨r, rl, rf⟩ := Auto.rdK_of_row (k := .i64) (w := w) (a := some y) (len := l) (cap := cc) (zs := zs) (.inr ⟨y, rfl, hl2, hm2, by simpa using hz2, hcell, hwz⟩)
        refine fin (some y) (zs.take l) cc (by rw [rl]; exact hcv) ?_
        rw [rl]; exact r
    rcases Nat.eq_zero_or_pos len with h0' | h0'
    · subst h0'
      exact ⟨[], rfl, ⟨0, 0, fun h => absurd h (by decide), fun i hi => absurd hi (Nat.not_lt_zero _)⟩, fun n hn => by cases hn⟩
    obtain ⟨b, off, spot⟩ := x
    have first : ∀ n : NdV, (cat (ndP n))[0]? = some (.bool n.n.us) := fun n => by
      unfold ndP
      show (#[Value.bool n.n.us] ++ cat _)[0]? = _
      rw [Array.getElem?_append_left (show 0 < 1 by decide)]
      rfl
    obtain ⟨n0, hq, -⟩ := key 0 h0'
    have hq0 := hq 0 _ (first n0)
    have hspot : spot = none := by simpa [Addr.add] using World.cell?_spot hq0
    subst hspot
    rw [WideShapes.add_plain] at hq0
    have hlt : b < w.heap.size := QcF hq0
    have all : ∀ m, m ≤ len → ∃ ts : List NdV, ts.length = m ∧ ∀ i, i < m → NdAt w.heap.size w b (off + i * 99) (ndi ts i) := by
      intro m
      induction m with
      | zero => exact fun _ => ⟨[], rfl, fun i hi => absurd hi (Nat.not_lt_zero _)⟩
      | succ m ih =>
        intro hm
        obtain ⟨ts, htl, hts⟩ := ih (by omega)
        obtain ⟨n, k1, k2, k3⟩ := key m (by omega)
        refine ⟨ts ++ [n], by rw [List.length_append, htl]; rfl, fun i hi => ?_⟩
        have e : ndi (ts ++ [n]) i = if i < m then ndi ts i else n := by
          unfold ndi
          rw [List.getD_eq_getElem?_getD, List.getD_eq_getElem?_getD]
          split
          · rename_i h; rw [List.getElem?_append_left (by omega)]
          · rename_i h
            rw [List.getElem?_append_right (by omega), show i - ts.length = 0 by omega]; rfl
        rw [e]
        split
        · rename_i h; exact hts i h
        · rename_i h
          obtain rfl : i = m := by omega
          exact ⟨hlt, hlt, fun j u hu => by have := k1 j u hu; rw [WideShapes.add_plain] at this; rw [Nat.add_assoc]; exact this, k2, k3⟩
    obtain ⟨ts, htl, hts⟩ := all len (Nat.le_refl _)
    refine ⟨ts, htl, ⟨b, off, fun _ => rfl, fun i hi => hts i (by omega)⟩, fun n hn => ?_⟩
    obtain ⟨i, hi, e⟩ := List.mem_iff_getElem.1 hn
    have := (hts i (by omega)).ok
    unfold ndi at this
    rw [List.getD_eq_getElem?_getD, List.getElem?_eq_getElem hi] at this
    rw [← e]; exact this
end
end Go.Proofs.YtcmaolmofgmkhaaDoor.Te
end
