/- Texts of this claim, joined (K5). -/
import Derived.Test.YtibegnjaphohaaaDoorZK4
import Derived.Lib.LaidTab

section
namespace Go.Proofs.YtibegnjaphohaaaDoor.Sha
open Go Go.RowKit
open Rely Auto Own
set_option linter.unusedVariables false
set_option linter.unusedSimpArgs false
set_option maxHeartbeats 4000000 in
theorem Qh0 (sec : List Int) (s : ByteArray) (w : World)   (hsl : sec.length = 32) (hsb : Qao sec) (h : (strB s).length ≤ 255) : Calls Tryd.prog 26 #[.agg (ints .u8 sec), .string s] w (Ret w (.agg (ints .u8 (Qbm sec (strB s))))) := by
 refine enter 28 [(0, .agg (ints .u8 (sec))), (1, .string s)] Tryd.func26 rfl rfl kj rfl ?_
 refine wp_seq_k fun K1 hK1 => ?_
 refine Qad ?_
 refine Qar (ints .u8 (sec)) 23 2 rfl kj kj fun g2 W1 l2 e1 r2_1 => ?_
 have x1 : Ext w W1 := Ext.tr (Rely.Ext.refl w) e1
 have b2 : w.heap.size ≤ g2 := Nat.le_trans (Rely.Ext.refl w).size l2
 refine Qar (ints .u8 (List.replicate 32 0)) 23 4 rfl kj kj fun g3 W2 l3 e2 r3_2 => ?_
 have x2 : Ext w W2 := Ext.tr x1 e2
 have b3 : w.heap.size ≤ g3 := Nat.le_trans x1.size l3
 refine Qaj ?_
 refine hK1 _ _ ?_
 refine wp_seq_k fun K4 hK4 => ?_
 refine Qad ?_
 refine Qar (ints .u8 (List.replicate 32 0)) 23 5 rfl kj kj fun g5 W3 l5 e3 r5_3 => ?_
 have x3 : Ext w W3 := Ext.tr x2 e3
 have b5 : w.heap.size ≤ g5 := Nat.le_trans x2.size l5
 refine Qaj ?_
 refine hK4 _ _ ?_
 refine wp_seq_k fun K6 hK6 => ?_
 refine Qad ?_
 have r2_2 := (Qab r2_1 e2)
 have r2_3 := (Qab r2_2 e3)
 refine Qaa (.agg (ints .u8 (sec))) 10 rfl kj (Qaw 23 _ g2 23 _ _ r2_3 rfl kj kj (isz (n := 32) kj ((Qac _ _).trans hsl))) ?_
 refine Qaa (.string s) 11 rfl kj kj ?_
 refine Qa8 (fun v W' => (fun v W => ∃ u, v = .tuple #[u, .bool true] ∧ OwnN .u8 5 W3.heap.size (kx sec (Qbd (strB s) [] 32) 32) u W) v W' ∧ Ext W3 W') 37 #[.agg (ints .u8 (sec)), .string s, .slice none 0 0, .int .i64 32] 12 rfl kj kj ((Qhw sec [] s (.slice none 0 0) _ _ hsl hsb (fun x hx => by cases hx) (nilrd _) 32 (by decide) h (by decide)).mono (by rintro e w' ⟨v, rfl, e1, hv⟩; exact ⟨v, rfl, hv, e1⟩)) fun vv7 W4 hh7 => ?_
 obtain ⟨hv7, e4⟩ := hh7
 have x4 : Ext w W4 := Ext.tr x3 e4
 obtain ⟨uu, rfl, huu⟩ := hv7
 obtain ⟨au, cu, rfl, -⟩ := id (OwnN.rd huu)
 have nb5 : (Value.slice au (kx sec (Qbd (strB s) [] 32) 32).length cu).ownBlock ≠ some g5 := fun e => by have h1 := OwnN.ge huu e; have h2 := Qat r5_3; omega
 refine Qaa (.tuple #[.slice au ((kx sec (Qbd (strB s) [] 32) 32).length) cu, .bool true]) 9 rfl kj kj ?_
 refine Qaa (.slice au ((kx sec (Qbd (strB s) [] 32) 32).length) cu) 13 rfl kj kj ?_
 refine Qaa (.bool true) 14 rfl kj kj ?_
 refine Qaa (.slice au ((kx sec (Qbd (strB s) [] 32) 32).length) cu) 6 rfl kj kj ?_
 refine Qaa (.bool true) 7 rfl kj kj ?_
 refine Qaj ?_
 refine hK6 _ _ ?_
 refine wp_seq_k fun K8 hK8 => ?_
 refine wp_seq_k fun K9 hK9 => ?_
 refine Qad ?_
 refine Qaa (.int .i64 0) 8 rfl kj kj ?_
 refine Qaj ?_
 refine hK9 _ _ ?_
 refine wp_block ?_
 have hkl := Qby sec (Qbd (strB s) [] 32) 32
 have r5_4 := (Qab r5_3 e4)
 refine Qa9 (fun (s1 : Nat) => [(0, .agg (ints .u8 (sec))), (1, .string s), (2, .pointer (some ⟨g2, 0, none⟩)), (4, .pointer (some ⟨g3, 0, none⟩)), (5, .pointer (some ⟨g5, 0, none⟩)), (6, .slice au ((kx sec (Qbd (strB s) [] 32) 32).length) cu), (7, .bool true), (8, .int .i64 ((s1 : Nat) : Int))]) (fun (s1 : Nat) W => (s1 ≤ 32) ∧ (W.heap[g5]? = some (.cells (ints .u8 (Qc8 (kx sec (Qbd (strB s) [] 32) 32) 32 s1)) 23)) ∧ (Qal [g5] W4 W) ∧ (Ext w W)) (fun (s1 : Nat) => 32 - s1) 0 ⟨rfl, rfl, rfl, rfl, rfl, rfl, rfl, rfl, trivial⟩ ⟨(by decide), (QaV r5_4 (Qe2 (kx sec (Qbd (strB s) [] 32) 32) 32)), (Qal.refl [g5] W4), x4⟩ fun s1 X1 V1 hI1 => ?_
 obtain ⟨i, hs1⟩ : ∃ z, z = s1 := ⟨_, rfl⟩
 subst hs1
 obtain ⟨hi, q5_1, kk1, xx1⟩ := hI1
 replace hi : i ≤ 32 := hi
 replace q5_1 : V1.heap[g5]? = some (.cells (ints .u8 (Qc8 (kx sec (Qbd (strB s) [] 32) 32) 32 i)) 23) := q5_1
 replace kk1 : Qal [g5] W4 V1 := kk1
 replace xx1 : Ext w V1 := xx1
 have q5 := kk1
 refine wp_seq_k fun K10 hK10 => ?_
 refine wp_seq_k fun K11 hK11 => ?_
 refine Qad ?_
 refine Qaa (.int .i64 ((i : Nat) : Int)) 15 rfl kj kj ?_
 refine Qaa (.slice au ((kx sec (Qbd (strB s) [] 32) 32).length) cu) 16 rfl kj kj ?_
 refine Qaa (.int .i64 (((kx sec (Qbd (strB s) [] 32) 32).length : Nat) : Int)) 17 rfl kj kj ?_
 refine Qaa (.bool (decide (((i : Nat) : Int) < (((kx sec (Qbd (strB s) [] 32) 32).length : Nat) : Int)))) 18 rfl kj kj ?_
 refine Qaj ?_
 refine hK11 _ _ ?_
 refine Qa5 (t := decide (((i : Nat) : Int) < (((kx sec (Qbd (strB s) [] 32) 32).length : Nat) : Int))) kj (fun c12 => ?_) (fun c12 => ?_)
 ·skip
  have hlt : i < 32 := by have := of_decide_eq_true c12; omega
  refine wp_skip ?_
  refine hK10 _ _ ?_
  refine wp_seq_k fun K13 hK13 => ?_
  refine wp_block ?_
  refine Qad ?_
  refine Qaa (.int .i64 ((i : Nat) : Int)) 21 rfl kj kj ?_
  refine Qaa (.slice au ((kx sec (Qbd (strB s) [] 32) 32).length) cu) 22 rfl kj kj ?_
  refine Qaa (.int .i64 ((i : Nat) : Int)) 23 rfl kj kj ?_
  have f15_5 := (OwnN.keepsL huu q5 (nb_cons nb5 nb_nil))
  have hnu_14 : (kx sec (Qbd (strB s) [] 32) 32).length = 32 := (Qby _ _ _)
  obtain ⟨gcu_14, ocu_14, hau_14, hlu_14, hcu_14⟩ := rdK_open (OwnN.rd f15_5) (by rw [hnu_14]; omega)
  refine Qaa (.pointer (some ⟨gcu_14, ocu_14 + i, none⟩)) 24 rfl kj (run_indexA 38 _ _ .i64 i gcu_14 ocu_14 ((kx sec (Qbd (strB s) [] 32) 32).length) cu 5 au _ hau_14 rfl rfl kj kj kj kj (Nat.lt_of_lt_of_eq (show i < 32 by omega) hnu_14.symm)) ?_
  refine Qaa (.int .u8 (nth (kx sec (Qbd (strB s) [] 32) 32) (i))) 25 rfl kj (QaA 5 _ _ (.int .u8 (nth (kx sec (Qbd (strB s) [] 32) 32) (i))) (hcu_14 i (Nat.lt_of_lt_of_eq (show i < 32 by omega) hnu_14.symm)) rfl kj kj) ?_
  refine Qaa (.pointer (some ⟨g5, i, none⟩)) 26 rfl kj (Qbc _ _ _ .i64 (i) _ 32 5 rfl kj kj kj kj (by omega)) ?_
  refine Qai g5 _ (ints .u8 ((Qc8 (kx sec (Qbd (strB s) [] 32) 32) 32 i).set i (nth (kx sec (Qbd (strB s) [] 32) 32) (i)))) 23 q5_1 rfl kj (Qam 5 _ _ g5 i 23 _ _ q5_1 rfl kj kj kj (Nat.lt_of_lt_of_eq (by omega) (Qf4 _ 32 i (Qby _ _ _) hi).symm)) fun W6 p6 r5_6 => ?_
  have x6 : Ext w W6 := Puts.ext p6 xx1 b5
  refine Qaj ?_
  refine hK13 _ _ ?_
  refine Qad ?_
  refine Qaa (.int .i64 ((i : Nat) : Int)) 19 rfl kj kj ?_
  refine Qaa (.int .i64 ((i + 1 : Nat) : Int)) 20 rfl kj (Qag (u := .int .i64 (IntKind.i64.wrap (((i : Nat) : Int) + 1))) kj (congrArg (Value.int .i64) (i64n _ _ (by omega) (by omega)))) ?_
  refine Qaa (.int .i64 ((i + 1 : Nat) : Int)) 8 rfl kj kj ?_
  refine Qaj ?_
  repeat (first | with_reducible refine goX1 ?_ | with_reducible refine goX2 ?_ | with_reducible refine goX3 ?_)
  exact Qa4 (i + 1) ⟨rfl, rfl, rfl, rfl, rfl, rfl, rfl, rfl, trivial⟩ ⟨(by omega), (QaV r5_6 (Qe3 _ 32 i (Qby _ _ _) hlt)), (Qal.puts q5 p6 (.inl (by simp))), x6⟩ (by show 32 - (i + 1) < 32 - i; omega)
 ·skip
  have hie : i = 32 := by have := of_decide_eq_false c12; omega
  subst hie
  have r5_5_16 : V1.heap[g5]? = some (.cells (ints .u8 (kx sec (Qbd (strB s) [] 32) 32)) 23) := QaV q5_1 (Qe4 _ 32 (Qby _ _ _))
  refine wp_exit ?_
  refine hK8 _ _ ?_
  refine wp_seq_k fun K17 hK17 => ?_
  refine Qad ?_
  refine Qaa (.agg (ints .u8 (kx sec (Qbd (strB s) [] 32) 32))) 27 rfl kj (Qaw 23 _ g5 23 _ _ r5_5_16 rfl kj kj (isz (n := 32) kj ((Qac _ _).trans (Qby _ _ _)))) ?_
  have r3_3 := (Qab r3_2 e3)
  have r3_4 := (Qab r3_3 e4)
  have r3_5 := (Qal.row q5 r3_4 (Qau (Qaf r3_2 l5) QaG))
  refine Qai g3 _ (ints .u8 (kx sec (Qbd (strB s) [] 32) 32)) 23 r3_5 rfl kj (Qaq 23 _ _ g3 23 _ _ r3_5 rfl kj kj (isz (n := 32) kj ((Qac _ _).trans (Qby _ _ _))) (eqsz (n := 32) ((Qac _ _).trans (List.length_replicate (n := 32))) ((Qac _ _).trans (Qby _ _ _))) (Qa2 _ _)) fun W6 p6 r3_6 => ?_
  have x6 : Ext w W6 := Puts.ext p6 xx1 b3
  refine Qaj ?_
  refine hK17 _ _ ?_
  refine wp_ret ?_
  repeat (first | with_reducible refine goR1 ?_ | with_reducible refine goR2 ?_)
  exact (show bodyPost _ _ _ .ret _ _ from ret1 (.agg (ints .u8 (kx sec (Qbd (strB s) [] 32) 32))) rfl (QaR g3 23 _ r3_6 kj kj (isz (n := 32) kj ((Qac _ _).trans (Qby _ _ _)))) ⟨congrArg (fun z => Ending.returned (.agg (ints .u8 z))) (show _ = Qbm sec (strB s) by unfold Qbm; rw [if_pos h]), x6⟩)
set_option maxHeartbeats 4000000 in
theorem Qhz (sec : List Int) (s : ByteArray) (w : World)   (hsl : sec.length = 32) (hsb : Qao sec) (h : 255 < (strB s).length) : Calls Tryd.prog 26 #[.agg (ints .u8 sec), .string s] w (Ret w (.agg (ints .u8 (Qbm sec (strB s))))) := by
  refine enter 28 [(0, .agg (ints .u8 (sec))), (1, .string s)] Tryd.func26 rfl rfl kj rfl ?_
  refine wp_seq_k fun K1 hK1 => ?_
  refine Qad ?_
  refine Qar (ints .u8 (sec)) 23 2 rfl kj kj fun g2 W1 l2 e1 r2_1 => ?_
  have x1 : Ext w W1 := Ext.tr (Rely.Ext.refl w) e1
  have b2 : w.heap.size ≤ g2 := Nat.le_trans (Rely.Ext.refl w).size l2
  refine Qar (ints .u8 (List.replicate 32 0)) 23 4 rfl kj kj fun g3 W2 l3 e2 r3_2 => ?_
  have x2 : Ext w W2 := Ext.tr x1 e2
  have b3 : w.heap.size ≤ g3 := Nat.le_trans x1.size l3
  refine Qaj ?_
  refine hK1 _ _ ?_
  refine wp_seq_k fun K4 hK4 => ?_
  refine Qad ?_
  refine Qar (ints .u8 (List.replicate 32 0)) 23 5 rfl kj kj fun g5 W3 l5 e3 r5_3 => ?_
  have x3 : Ext w W3 := Ext.tr x2 e3
  have b5 : w.heap.size ≤ g5 := Nat.le_trans x2.size l5
  refine Qaj ?_
  refine hK4 _ _ ?_
  refine wp_seq_k fun K6 hK6 => ?_
  refine Qad ?_
  have r2_2 := (Qab r2_1 e2)
  have r2_3 := (Qab r2_2 e3)
  refine Qaa (.agg (ints .u8 (sec))) 10 rfl kj (Qaw 23 _ g2 23 _ _ r2_3 rfl kj kj (isz (n := 32) kj ((Qac _ _).trans hsl))) ?_
  refine Qaa (.string s) 11 rfl kj kj ?_
  refine Qax (.tuple #[.slice none 0 0, .bool false]) 37 #[.agg (ints .u8 (sec)), .string s, .slice none 0 0, .int .i64 32] 12 rfl kj kj ((fun W => Qiu sec [] s (.slice none 0 0) _ W hsl hsb (fun x hx => by cases hx) (nilrd W) 32 h) _) fun W4 e4 => ?_
  have x4 : Ext w W4 := Ext.tr x3 e4
  refine Qaa (.tuple #[.slice none 0 0, .bool false]) 9 rfl kj kj ?_
  refine Qaa (.slice none 0 0) 13 rfl kj kj ?_
  refine Qaa (.bool false) 14 rfl kj kj ?_
  refine Qaa (.slice none 0 0) 6 rfl kj kj ?_
  refine Qaa (.bool false) 7 rfl kj kj ?_
  refine Qaj ?_
  refine hK6 _ _ ?_
  refine wp_seq_k fun K7 hK7 => ?_
  refine wp_seq_k fun K8 hK8 => ?_
  refine Qad ?_
  refine Qaa (.int .i64 0) 8 rfl kj kj ?_
  refine Qaj ?_
  refine hK8 _ _ ?_
  refine wp_block ?_
  refine wp_loop_rounds 1 ?_
  show Code.wp _ _ (Exit.then (Code.rounds _ _ _ 0) _) _ _
  refine wp_seq_k fun K9 hK9 => ?_
  refine wp_seq_k fun K10 hK10 => ?_
  refine Qad ?_
  refine Qaa (.int .i64 0) 15 rfl kj kj ?_
  refine Qaa (.slice none 0 0) 16 rfl kj kj ?_
  refine Qaa (.int .i64 0) 17 rfl kj kj ?_
  refine Qaa (.bool false) 18 rfl kj kj ?_
  refine Qaj ?_
  refine hK10 _ _ ?_
  refine cond_false kj ?_
  refine wp_exit ?_
  refine hK7 _ _ ?_
  refine wp_seq_k fun K11 hK11 => ?_
  refine Qad ?_
  have r5_4 := (Qab r5_3 e4)
  refine Qaa (.agg (ints .u8 (List.replicate 32 0))) 27 rfl kj (Qaw 23 _ g5 23 _ _ r5_4 rfl kj kj (isz (n := 32) kj ((Qac _ _).trans (List.length_replicate (n := 32))))) ?_
  have r3_3 := (Qab r3_2 e3)
  have r3_4 := (Qab r3_3 e4)
  refine Qai g3 _ (ints .u8 (List.replicate 32 0)) 23 r3_4 rfl kj (Qaq 23 _ _ g3 23 _ _ r3_4 rfl kj kj (isz (n := 32) kj ((Qac _ _).trans (List.length_replicate (n := 32)))) (eqsz (n := 32) ((Qac _ _).trans (List.length_replicate (n := 32))) ((Qac _ _).trans (List.length_replicate (n := 32)))) (Qa2 _ _)) fun W5 p5 r3_5 => ?_
  have x5 : Ext w W5 := Puts.ext p5 x4 b3
  refine Qaj ?_
  refine hK11 _ _ ?_
  refine wp_ret ?_
  repeat (first | with_reducible refine goR1 ?_ | with_reducible refine goR2 ?_)
  exact (show bodyPost _ _ _ .ret _ _ from ret1 (.agg (ints .u8 (List.replicate 32 0))) rfl (QaR g3 23 _ r3_5 kj kj (isz (n := 32) kj ((Qac _ _).trans (List.length_replicate (n := 32))))) ⟨congrArg (fun z => Ending.returned (.agg (ints .u8 z))) (show _ = Qbm sec (strB s) by unfold Qbm; rw [if_neg (by omega)]), x5⟩)
theorem QeI (sec : List Int) (s : ByteArray) (w : World)   (hsl : sec.length = 32) (hsb : Qao sec) : Calls Tryd.prog 26 #[.agg (ints .u8 sec), .string s] w (Ret w (.agg (ints .u8 (Qbm sec (strB s))))) := by
  by_cases h : (strB s).length ≤ 255
  · exact Qh0 sec s w hsl hsb h
  · exact Qhz sec s w hsl hsb (by omega)
end Go.Proofs.YtibegnjaphohaaaDoor.Sha
end
section
namespace Go.Proofs.YtibegnjaphohaaaDoor.Seat
set_option linter.unusedVariables false
open Go Go.RowKit
open Rely
def Qb3 (x n : Int) : Bool := isTree n && decide (0 ≤ x) && decide (x ≤ 2 * n - 2)
def up1 (x k : Int) : Int := if bits .and .i64 (x / 2 ^ (k + 1).toNat) 1 == 0 then wrap64 (x + wrap64 (2 ^ k.toNat)) else wrap64 (x - wrap64 (2 ^ k.toNat))
def par (x n : Int) : Int :=
  if Qb3 x n = false then -1 else if x = n - 1 then -1 else up1 x (lv x)
theorem Qds : ∀ (a b m n : Nat), 2 ^ a * (2 * m + 1) = 2 ^ b * (2 * n + 1) → a = b
  | 0, 0, _, _, _ => rfl
  | 0, b + 1, m, n, h => by
    exfalso
    rw [Nat.pow_succ, Nat.pow_zero, Nat.mul_assoc, Nat.mul_left_comm] at h
    omega
  | a + 1, 0, m, n, h => by
    exfalso
    rw [Nat.pow_succ, Nat.pow_zero, Nat.mul_assoc, Nat.mul_left_comm] at h
    omega
  | a + 1, b + 1, m, n, h => by
    rw [Nat.pow_succ, Nat.pow_succ, Nat.mul_assoc, Nat.mul_assoc, Nat.mul_left_comm, Nat.mul_left_comm (2 ^ b)] at h
    rw [Qds a b m n (by omega)]
theorem QeO (x : Nat) (h : x ≤ 9223372036854775807) : ∃ m, x + 1 = 2 ^ lvN x * (2 * m + 1) := by
  have h0 : 18446744073709551615 - x ≠ 0 := by omega
  have e : lvN x = Lib.ctzFrom 64 (18446744073709551615 - x) := by unfold lvN Lib.ctz; rw [if_neg h0]
  obtain ⟨m, hm, hk⟩ := Lib.ctzFrom_spec 64 (18446744073709551615 - x) (by omega) (by omega)
  rw [← e] at hm hk
  generalize lvN x = k at *
  have hp : (2 : Nat) ^ k * 2 ^ (64 - k) = 18446744073709551616 := by
    rw [← Nat.pow_add, show k + (64 - k) = 64 from by omega]
  obtain ⟨q, hq⟩ : ∃ q, 2 ^ (64 - k) = 2 * q := ⟨2 ^ (63 - k), by rw [show 64 - k = (63 - k) + 1 from by omega, Nat.pow_succ]; omega⟩
  rw [hq] at hp
  generalize 2 ^ k = p at *
  have h1 : p * (2 * q) = p * (2 * m + 1) + (x + 1) := by omega
  have h2 : 2 * m + 1 < 2 * q := by
    rcases Nat.lt_or_ge (2 * m + 1) (2 * q) with h | h
    · exact h
    · have := Nat.mul_le_mul_left p h
      omega
  refine ⟨q - m - 1, ?_⟩
  have h3 : 2 * q = (2 * m + 1) + (2 * (q - m - 1) + 1) := by omega
  rw [h3, Nat.mul_add] at h1
  omega
theorem QjE (x : Nat) (h : x ≤ 9223372036854775807) (ho : x % 2 = 1) : lvN x = lvN (x / 2) + 1 := by
  obtain ⟨m, hm⟩ := QeO x h
  obtain ⟨n, hn⟩ := QeO (x / 2) (by omega)
  refine Qds _ _ m n ?_
  rw [← hm, Nat.pow_succ, Nat.mul_assoc, Nat.mul_left_comm, ← hn]
  omega
theorem QiC (x : Nat) (h : x ≤ 9223372036854775807) (ho : x % 2 = 0) : lvN x = 0 := by
  obtain ⟨m, hm⟩ := QeO x h
  refine Qds _ 0 m (x / 2) ?_
  rw [← hm]
  omega
theorem rlevel (x : Int) (hx : i64 x) (w : World) : Calls Tryd.prog 42 #[.int .i64 x] w fun e w' => e = .returned (.int .i64 (lv x)) ∧ w = w' := by
  unfold i64 at hx
  by_cases h : x < 0
  · have e : lv x = -1 := by simp [lv, h]
    rw [e]
    go_enter Tryd.func42, Tryd.ntmps42
    go_wp2
    go_ret
    exact ⟨rfl, rfl⟩
  · have e : lv x = (lvN x.toNat : Int) := by simp [lv, h]
    rw [e]
    obtain ⟨n, rfl⟩ := Int.eq_ofNat_of_zero_le (by omega : 0 ≤ x)
    rw [Int.toNat_natCast]
    have hn : n ≤ 9223372036854775807 := by omega
    clear e hx h
    go_enter Tryd.func42, Tryd.ntmps42
    go_wp2
    go_loop [0, 3] (fun v k => ∃ m c : Nat, m ≤ n ∧ v = .int .i64 m ∧ k = .int .i64 c ∧ lvN n = c + lvN m ∧ c ≤ 64) (fun v _ => (intOf v).toNat)
    case atStart => exact ⟨n, 0, Nat.le_refl _, rfl, rfl, by omega, by omega⟩
    case round =>
      obtain ⟨m, c, hm, rfl, rfl, hk, hc⟩ := hrel
      have hl64 := Qjn n hn
      by_cases ho : m % 2 = 1
      · have h1 := QjE m (by omega) ho
        have K := Lib.hid hk
        have K1 := Lib.hid h1
        clear hk h1
        go_wp2
        go_round
        case rel => exact ⟨m / 2, c + 1, by omega, by go_num, by go_num, by have := K.out; have := K1.out; omega, by have := K.out; have := K1.out; omega⟩
        case measure => simp [intOf]; omega
      · have h1 := QiC m (by omega) (by omega)
        have hk' : lvN n = c := by omega
        have K := Lib.hid hk'
        clear hk h1 hk' hl64
        go_wp2
        go_ret
        exact ⟨by rw [K.out]; rfl, rfl⟩
theorem QdR (k : Nat) (h : k ≤ 62) : (2 : Int) ^ k ≤ 4611686018427387904 ∧ 1 ≤ (2 : Int) ^ k := by
  have h1 : (2 : Nat) ^ k ≤ 2 ^ 62 := Nat.pow_le_pow_right (by decide) h
  have h2 := Nat.two_pow_pos k
  have e : ((2 : Int) ^ k) = ((2 ^ k : Nat) : Int) := by simp
  rw [e]
  have h3 : (2 : Nat) ^ 62 = 4611686018427387904 := rfl
  omega
theorem rchildren (x : Int) (hx : i64 x) (w : World) : Calls Tryd.prog 30 #[.int .i64 x] w fun e w' => e = .returned (.tuple #[.int .i64 (kidL x), .int .i64 (kidR x)]) ∧ w = w' := by
  have hl := rlevel x hx w
  have hb := Qk1 x hx
  by_cases h : lv x ≤ 0
  · have e1 : kidL x = -1 := by simp [kidL, h]
    have e2 : kidR x = -1 := by simp [kidR, h]
    rw [e1, e2]
    generalize lv x = k at *
    clear e1 e2
    go_enter Tryd.func30, Tryd.ntmps30
    go_wp2_with (go_at_call 42; refine hl.mono ?_; rintro e w' ⟨rfl, rfl⟩)
    go_ret2
    exact ⟨rfl, rfl⟩
  · have e1 : kidL x = wrap64 (x - half (lv x)) := by simp [kidL, h]
    have e2 : kidR x = wrap64 (x + half (lv x)) := by simp [kidR, h]
    rw [e1, e2]
    generalize lv x = k at *
    have eh : half k = 2 ^ (k.toNat - 1) := by
      have := QdR (k.toNat - 1) (by omega)
      unfold half
      exact IntWalk.wrap64_in _ (by omega)
    rw [eh]
    clear e1 e2 eh
    go_enter Tryd.func30, Tryd.ntmps30
    go_wp2_with (go_at_call 42; refine hl.mono ?_; rintro e w' ⟨rfl, rfl⟩)
    go_loop [5, 6] (fun p i => ∃ c : Nat, c < k.toNat ∧ p = .int .i64 (2 ^ c) ∧ i = .int .i64 (c + 1)) (fun _ i => k.toNat - (intOf i).toNat)
    case atStart => exact ⟨0, by omega, rfl, rfl⟩
    case round =>
      obtain ⟨c, hc, rfl, rfl⟩ := hrel
      by_cases hlt : (c : Int) + 1 < k
      · have hp := QdR (c + 1) (by omega)
        have e : (2 : Int) ^ (c + 1) = 2 * 2 ^ c := by rw [Int.pow_succ, Int.mul_comm]
        have E := Lib.hid e
        clear e
        have hq := QdR c (by omega)
        have hp' : 2 * (2 : Int) ^ c ≤ 4611686018427387904 := by have := E.out; omega
        clear hp
        go_wp2
        go_round
        case rel => exact ⟨c + 1, by omega, by rw [E.out], by go_num⟩
        case measure => simp [intOf]; omega
      · have hck : c = k.toNat - 1 := by omega
        have K := Lib.hid hck
        clear hck
        have hd : decide ((c : Int) + 1 < k) = false := decide_eq_false hlt
        go_wp2
        all_goals first | omega | (go_ret2; exact ⟨by rw [← K.out]; rfl, rfl⟩)
theorem sound (n : Int) (w : World) : Calls Tryd.prog 10 #[.int .i64 n] w fun e w' => e = .returned (.bool (isTree n)) ∧ w = w' := by
  by_cases h : n = 1 ∨ n = 2 ∨ n = 4 ∨ n = 8 ∨ n = 16 ∨ n = 32
  · have e : isTree n = true := by simp only [isTree, Bool.or_eq_true, beq_iff_eq]; omega
    rw [e]
    clear e
    rcases h with rfl | rfl | rfl | rfl | rfl | rfl
    all_goals
      go_enter Tryd.func10, Tryd.ntmps10
      go_wp2
      go_ret
      exact ⟨rfl, rfl⟩
  · have e : isTree n = false := by
      rw [Bool.eq_false_iff]; intro h'; exact h (Qbz h')
    rw [e]
    have h1 : (n == 1) = false := by rw [beq_eq_false_iff_ne]; omega
    have h2 : (n == 2) = false := by rw [beq_eq_false_iff_ne]; omega
    have h3 : (n == 4) = false := by rw [beq_eq_false_iff_ne]; omega
    have h4 : (n == 8) = false := by rw [beq_eq_false_iff_ne]; omega
    have h5 : (n == 16) = false := by rw [beq_eq_false_iff_ne]; omega
    have h6 : (n == 32) = false := by rw [beq_eq_false_iff_ne]; omega
    clear e h
    go_enter Tryd.func10, Tryd.ntmps10
    go_wp2
    go_ret
    exact ⟨rfl, rfl⟩
theorem rnode (x n : Int) (w : World) : Calls Tryd.prog 52 #[.int .i64 x, .int .i64 n] w fun e w' => e = .returned (.bool (Qb3 x n)) ∧ w = w' := by
  have hn := sound n w
  cases ht : isTree n with
  | false =>
    have e : Qb3 x n = false := by simp [Qb3, ht]
    rw [e]
    rw [ht] at hn
    go_enter Tryd.func52, Tryd.ntmps52
    go_wp2_with (go_at_call 10; refine hn.mono ?_; rintro e w' ⟨rfl, rfl⟩)
    go_ret
    exact ⟨rfl, rfl⟩
  | true =>
    rw [ht] at hn
    have hc := Qbz ht
    have hb : 1 ≤ n ∧ n ≤ 32 := by omega
    clear hc
    by_cases hx : 0 ≤ x
    · have h1 : decide (0 ≤ x) = true := decide_eq_true hx
      by_cases hl : x ≤ 2 * n - 2
      · have e : Qb3 x n = true := by simp [Qb3, ht]; omega
        rw [e]
        have h2 : decide (x ≤ 2 * n - 2) = true := decide_eq_true hl
        clear ht e
        go_enter Tryd.func52, Tryd.ntmps52
        go_wp2_with (go_at_call 10; refine hn.mono ?_; rintro e w' ⟨rfl, rfl⟩)
        go_ret
        exact ⟨rfl, rfl⟩
      · have e : Qb3 x n = false := by simp [Qb3, ht]; omega
        rw [e]
        have h2 : decide (x ≤ 2 * n - 2) = false := decide_eq_false hl
        clear ht e
        go_enter Tryd.func52, Tryd.ntmps52
        go_wp2_with (go_at_call 10; refine hn.mono ?_; rintro e w' ⟨rfl, rfl⟩)
        go_ret
        exact ⟨rfl, rfl⟩
    · have e : Qb3 x n = false := by simp [Qb3, hx]
      rw [e]
      have h1 : decide (0 ≤ x) = false := decide_eq_false hx
      clear ht e
      go_enter Tryd.func52, Tryd.ntmps52
      go_wp2_with (go_at_call 10; refine hn.mono ?_; rintro e w' ⟨rfl, rfl⟩)
      go_ret
      exact ⟨rfl, rfl⟩
def sizes : List Int := [1, 2, 4, 8, 16, 32]
theorem QhD {n : Int} (h : isTree n = true) : n ∈ sizes := by
  have := Qbz h
  simp only [sizes, List.mem_cons, List.not_mem_nil, or_false]
  exact this
def QeV (f : Int → Int → Bool) : Bool := sizes.all fun n => (List.range (2 * n.toNat - 1)).all fun x => f n x
theorem Qdm {f : Int → Int → Bool} (h : QeV f = true) {x n : Int} (hd : Qb3 x n = true) : f n x = true := by
  simp only [Qb3, Bool.and_eq_true, decide_eq_true_eq] at hd
  obtain ⟨⟨ht, h0⟩, h1⟩ := hd
  have hc := Qbz ht
  have h2 := List.all_eq_true.1 (List.all_eq_true.1 h n (QhD ht)) x.toNat (List.mem_range.2 (by omega))
  simpa [Int.toNat_of_nonneg h0] using h2
theorem QeM {x n : Int} (hd : Qb3 x n = true) : 0 ≤ x ∧ x ≤ 62 ∧ x ≤ 2 * n - 2 ∧ 1 ≤ n ∧ n ≤ 32 ∧ isTree n = true := by
  simp only [Qb3, Bool.and_eq_true, decide_eq_true_eq] at hd
  obtain ⟨⟨ht, h0⟩, h1⟩ := hd
  have hc := Qbz ht
  exact ⟨by omega, by omega, by omega, by omega, by omega, ht⟩
set_option maxRecDepth 100000 in
theorem Qj6 : QeV (fun n x => decide (par x n = -1) || (Qb3 (par x n) n && decide (lv (par x n) = lv x + 1))) = true := by decide +kernel
set_option maxRecDepth 100000 in
theorem QiF : QeV (fun n x => (List.range (2 * n.toNat - 1)).all fun p => ((kidL p == x || kidR p == x) == (par x n == p))) = true := by decide +kernel
theorem Qh6 {x n : Int} (hd : Qb3 x n = false) : par x n = -1 := by simp [par, hd]
theorem Qgi {x n : Int} (hd : Qb3 x n = true) : par x n = -1 ∨ (Qb3 (par x n) n = true ∧ lv (par x n) = lv x + 1) := by
  have := Qdm Qj6 hd
  simpa using this
theorem Qkv (x n : Int) : -1 ≤ par x n ∧ par x n ≤ 62 := by
  cases hd : Qb3 x n with
  | false => rw [Qh6 hd]; omega
  | true =>
    rcases Qgi hd with h | h
    · omega
    · have := QeM h.1; omega
theorem QiE {x n p : Int} (hd : Qb3 x n = true) (h0 : 0 ≤ p) (h1 : p ≤ 2 * n - 2) : (kidL p == x || kidR p == x) = (par x n == p) := by
  have hb := QeM hd
  have := List.all_eq_true.1 (Qdm QiF hd) p.toNat (List.mem_range.2 (by omega))
  simpa [Int.toNat_of_nonneg h0] using this
theorem rparent (x n : Int) (w : World) : Calls Tryd.prog 41 #[.int .i64 x, .int .i64 n] w fun e w' => e = .returned (.int .i64 (par x n)) ∧ w = w' := by
  have hn := rnode x n w
  cases hd : Qb3 x n with
  | false =>
    rw [Qh6 hd]
    rw [hd] at hn
    clear hd
    go_enter Tryd.func41, Tryd.ntmps41
    go_wp2_with (go_at_call 52; refine hn.mono ?_; rintro e w' ⟨rfl, rfl⟩)
    go_ret
    exact ⟨rfl, rfl⟩
  | true =>
    rw [hd] at hn
    have hb := QeM hd
    have hpb := Qgi hd
    have hk : ∀ p, 0 ≤ p → p ≤ 2 * n - 2 → (kidL p == x || kidR p == x) = (par x n == p) := fun p h0 h1 => QiE hd h0 h1
    have hpn : par x n = -1 ∨ par x n ≤ 2 * n - 2 := by
      rcases hpb with h | h
      · exact .inl h
      · have := QeM h.1; omega
    have H := Lib.hid hk
    have hqb := (Qkv x n).1
    generalize par x n = q at *
    obtain ⟨N, hN⟩ := Int.eq_ofNat_of_zero_le (by omega : 0 ≤ n)
    subst hN
    clear hd hk hpb
    go_enter Tryd.func41, Tryd.ntmps41
    go_wp2_with (go_at_call 52; refine hn.mono ?_; rintro e w' ⟨rfl, rfl⟩)
    go_loop [5] (fun p => ∃ c : Nat, c ≤ 2 * N - 1 ∧ p = .int .i64 c ∧ (q = -1 ∨ (c : Int) ≤ q)) (fun p => 2 * N - (intOf p).toNat)
    case atStart => exact ⟨0, by omega, rfl, by omega⟩
    case round =>
      obtain ⟨c, hc, rfl, hq⟩ := hrel
      by_cases hlt : (c : Int) ≤ 2 * (N : Int) - 2
      · have hm := H.out c (by omega) hlt
        have hch := rchildren c (by unfold i64; omega) w
        generalize kidL c = l at *
        generalize kidR c = r at *
        by_cases hqc : q = c
        · subst hqc
          rw [show ((c : Int) == c) = true from beq_self_eq_true _] at hm
          cases hl : (l == x) with
          | true =>
            clear hm
            go_wp2_with (go_at_call 30; refine hch.mono ?_; rintro e w' ⟨rfl, rfl⟩)
            go_ret
            exact ⟨rfl, rfl⟩
          | false =>
            rw [hl, Bool.false_or] at hm
            go_wp2_with (go_at_call 30; refine hch.mono ?_; rintro e w' ⟨rfl, rfl⟩)
            go_ret
            exact ⟨rfl, rfl⟩
        · rw [show (q == (c : Int)) = false from beq_eq_false_iff_ne.2 hqc, Bool.or_eq_false_iff] at hm
          obtain ⟨hl, hr⟩ := hm
          go_wp2_with (go_at_call 30; refine hch.mono ?_; rintro e w' ⟨rfl, rfl⟩)
          go_round
          case rel => exact ⟨c + 1, by omega, by go_num, by omega⟩
          case measure => simp [intOf]; omega
      · have hq' : q = -1 := by omega
        have hd : decide ((c : Int) ≤ 2 * (N : Int) - 2) = false := decide_eq_false hlt
        have K := Lib.hid hq'
        clear hq' hq hpn
        go_wp2
        all_goals first | omega | (go_ret; exact ⟨by rw [K.out]; rfl, rfl⟩)
end Go.Proofs.YtibegnjaphohaaaDoor.Seat
end
section
namespace Go.Proofs.YtibegnjaphohaaaDoor.Seat
open Go Go.RowKit
open Rely Auto Own
set_option linter.unusedVariables false
set_option linter.unusedSimpArgs false
theorem quiet {P : Program} {f : FuncId} {args : Array Value} {w : World} {v : Value} (h : Calls P f args w fun e w' => e = .returned v ∧ w = w') : Calls P f args w (Ret w v) := h.mono fun e w' ⟨h1, h2⟩ => ⟨h1, h2 ▸ Rely.Ext.refl w⟩
def upn (x n : Int) : Nat → Int
  | 0 => par x n
  | k + 1 => par (upn x n k) n
def upL (x n : Int) (k : Nat) : List Int := (List.range k).map (upn x n)
theorem upL_len (x n : Int) (k : Nat) : (upL x n k).length = k := by unfold upL; rw [List.length_map, List.length_range]
theorem Qin (x n : Int) (k : Nat) : upL x n (k + 1) = upL x n k ++ [upn x n k] := by unfold upL; rw [List.range_succ, List.map_append]; rfl
theorem Qgd (x n : Int) (W : World) : Calls Tryd.prog 41 #[.int .i64 x, .int .i64 n] W (Ret W (.int .i64 (par x n))) := quiet (rparent x n W)
set_option maxHeartbeats 4000000 in
theorem rpathC (x n : Int) (K : Nat) (hK : K ≤ 6) (hneg : upn x n K < 0) (hall : ∀ i, i < K → 0 ≤ upn x n i) (w : World) : Calls Tryd.prog 29 #[.int .i64 x, .int .i64 n] w (QbH w (OwnN .i64 3 w.heap.size (upL x n K))) := by
 refine enter 20 [(0, .int .i64 x), (1, .int .i64 n)] Tryd.func29 rfl rfl kj rfl ?_
 refine sgB kj ?_
 refine sgB kj ?_
 refine wp_seq_k fun K3 hK3 => ?_
 refine sgC fun K4 hK4 => ?_
 refine sg 2 kj ?_
 refine Qax (.int .i64 (upn x n 0)) 41 #[.int .i64 x, .int .i64 n] 9 rfl kj kj ((Qgd x n) _) fun W1 e1 => ?_
 have x1 := Ext.tr (Rely.Ext.refl w) e1
 refine sg 1 kj ?_
 refine sgN hK4 ?_
 refine wp_block ?_
 refine Qa9 (fun (s1 : Nat × Value) => [(1, .int .i64 n), (5, s1.2), (6, .int .i64 (upn x n s1.1))]) (fun (s1 : Nat × Value) W => (s1.1 ≤ K) ∧ (OwnN .i64 3 W1.heap.size (upL x n s1.1) s1.2 W) ∧ (Ext W1 W) ∧ (Ext w W)) (fun (s1 : Nat × Value) => K - s1.1) (0, (.slice none 0 0)) ⟨kj, kj, kj, trivial⟩ ⟨(Nat.zero_le _), (Qbv _ _ _ _), (Rely.Ext.refl W1), x1⟩ fun s1 X1 V1 hI1 => ?_
 obtain ⟨k, u⟩ := s1
 obtain ⟨hkk, hu, kk1, xx1⟩ := hI1
 replace hkk : k ≤ K := hkk
 replace hu : OwnN .i64 3 W1.heap.size (upL x n k) u V1 := hu
 replace kk1 : Ext W1 V1 := kk1
 replace xx1 : Ext w V1 := xx1
 have e2 := kk1
 refine wp_seq_k fun K5 hK5 => ?_
 refine sgB kj ?_
 refine Qa5 (t := decide ((upn x n k) ≥ 0)) kj (fun c7 => ?_) (fun c7 => ?_)
 ·skip
  have h0 : 0 ≤ upn x n k := by have := of_decide_eq_true c7; omega
  have hkK : k < K := by
   rcases Nat.lt_or_ge k K with h | h
   ·exact h
   ·rw [show k = K by omega] at h0; omega
  refine wp_skip ?_
  refine hK5 _ _ ?_
  refine wp_seq_k fun K8 hK8 => ?_
  refine wp_block ?_
  refine Qad ?_
  refine sg 2 kj ?_
  refine QaB (ints .i64 ([(upn x n k)])) 3 1 17 rfl kj kj fun g9 W3 l9 e3 r9_3 => ?_
  have b9 := Nat.le_trans xx1.size l9
  refine QaC (k := .i64) (T := 3) (xs := upL x n k) (ys := [upn x n k]) (V := W1) 8 (.tmp 15) (.tmp 17) 32 rfl kj kj (by decide) 18 rfl kj kj kj (hu.ext e3) (QaK (xs := [(upn x n k)]) (n := 1) rfl r9_3 (Qat r9_3) (show 1 ≤ maxLen from by decide)) (by rw [upL_len]; show k + 1 ≤ 1000000000; omega) (Rely.Ext.trans e2 e3) fun u2 W4 f11 y4 l4 => ?_
  refine sg 1 kj ?_
  refine Qaj ?_
  refine hK8 _ _ ?_
  refine Qad ?_
  refine sg 2 kj ?_
  refine Qax (.int .i64 (upn x n (k + 1))) 41 #[.int .i64 (upn x n k), .int .i64 n] 14 rfl kj kj ((Qgd (upn x n k) n) _) fun W5 e5 => ?_
  refine sg 1 kj ?_
  refine Qaj ?_
  repeat (first | with_reducible refine goX1 ?_ | with_reducible refine goX2 ?_ | with_reducible refine goX3 ?_)
  exact Qa4 ((k + 1), u2) ⟨kj, kj, kj, trivial⟩ ⟨(by omega), (by rw [Qin]; exact (f11.ext e5)), (Rely.Ext.trans y4 e5), (Ext.tr (Ext.low (Ext.tr xx1 e3) l4 x1.size) e5)⟩ (by show K - (k + 1) < K - k; omega)
 ·skip
  have h0 : upn x n k < 0 := by have := of_decide_eq_false c7; omega
  have hkK : k = K := by
   rcases Nat.lt_or_ge k K with h | h
   ·have := hall k h; omega
   ·omega
  refine wp_exit ?_
  refine hK3 _ _ ?_
  refine sgB kj ?_
  refine wp_ret ?_
  repeat (first | with_reducible refine goR1 ?_ | with_reducible refine goR2 ?_)
  exact (show bodyPost _ _ _ .ret _ _ from ret1 (u) rfl (Qa7 kj) ⟨u, rfl, xx1, by rw [← hkK]; exact OwnN.base x1.size hu⟩)
end Go.Proofs.YtibegnjaphohaaaDoor.Seat
end
section
namespace Go.Proofs.YtibegnjaphohaaaDoor.Cn
open Go Go.RowKit
open Rely Auto Own Sha
set_option linter.unusedVariables false
set_option linter.unusedSimpArgs false
open Go.Proofs.YtibegnjaphohaaaDoor
def QdQ (a : Option Addr) (c l : Nat) : Option Addr := if c = l then a else a.map fun z => z.add l
theorem QgJ {P : Program} {ρ : Operand → Value} {o : Oper} {w : World} (t : TypeId) (x z : Operand) (l : Nat) (e : TypeId) (ho : o.op = .slice t x (some z) none none) {a : Option Addr} {len cap : Nat} (hx : ρ x = .slice a len cap)
    (hu : P.underlying t = some (.slice e)) (hs : (P.info? e).map (·.size) = some 1) (kz : IntKind) (hz : ρ z = .int kz (l : Int)) (h1 : l ≤ len) (h2 : len ≤ cap) :
    (execOp ρ o).run P w = .ok (.value (.slice (QdQ a cap l) (len - l) (cap - l))) w := by
  cases hq : P.info? e with
  | none => simp [hq] at hs
  | some i =>
    have hs' : i.size = 1 := by simpa [hq] using hs
    unfold execOp QdQ
    have hadd : ∀ a : Option Addr, Option.map (fun x => x.add 0) a = a := fun a => by
      cases a with
      | none => rfl
      | some a => obtain ⟨b, o, s⟩ := a; cases s <;> simp [Addr.add]
    by_cases hc : cap = l
    · simp [ho, hx, hz, Instr.sliceAt, Instr.slice, Instr.sliceBounds, run_sliceBound, run_underlying hu, sizeOf, typeInfo, hq, hs', h1, h2, hadd, hc]
    · simp [ho, hx, hz, Instr.sliceAt, Instr.slice, Instr.sliceBounds, run_sliceBound, run_underlying hu, sizeOf, typeInfo, hq, hs', h1, h2, hadd, hc]
theorem Qiy {k : IntKind} {B n c : Nat} {ys : List Int} {a : Option Addr} {W : World} (h : RdK k B ys (.slice a n c) W) (l : Nat) (hl : l ≤ ys.length) : RdK k B (ys.drop l) (.slice (QdQ a c l) (n - l) (c - l)) W := by
  obtain ⟨a', cap, e, h2, h3, h4, h5⟩ := h
  simp only [Value.slice.injEq] at e
  obtain ⟨rfl, rfl, rfl⟩ := e
  refine ⟨_, _, by rw [List.length_drop], by rw [List.length_drop]; omega, by omega, ?_, ?_⟩
  · intro e
    unfold QdQ at e
    split at e
    · omega
    · have := h4 (by cases a <;> simp_all); omega
  · rcases h5 with h5 | ⟨g, o, rfl, q2, q3, q4⟩
    · left; rw [h5]; simp
    · rcases Nat.lt_or_ge l ys.length with hlt | hge
      · right
        refine ⟨g, o + l, ?_, q2, q3, fun i hi => ?_⟩
        · unfold QdQ
          rw [if_neg (by omega), Option.map_some]
          simp [Addr.add]
        · rw [List.length_drop] at hi
          rw [Nat.add_assoc, q4 (l + i) (by omega)]
          simp [nth]
      · left; exact List.drop_of_length_le hge
theorem Qh7 {T : TypeId} {base n c : Nat} {xs : List Int} {a : Option Addr} {W : World} (h : OwnN .i64 T base xs (.slice a xs.length c) W) (hn : n ≤ xs.length) : OwnN .i64 T base (xs.take n) (.slice a n c) W := by
  have hl : (xs.take n).length = n := by rw [List.length_take]; omega
  obtain ⟨⟨h1, h2⟩, hm⟩ := h
  rcases h2 with ⟨h2, h3⟩ | ⟨g, c', cur, e, q2, q3, q4, q5, q6, q7⟩
  · simp only [Value.slice.injEq] at h2
    obtain ⟨rfl, h4, rfl⟩ := h2
    obtain rfl := List.length_eq_zero_iff.1 h4
    obtain rfl : n = 0 := by simpa using hn
    exact Qbv _ _ _ _
  · simp only [Value.slice.injEq] at e
    obtain ⟨rfl, -, rfl⟩ := e
    refine QeK hl q2 q3 (by omega) (by omega) q5 ?_
    have : cur.toList.take n = (cur.toList.take (xs.length * 1)).take n := by rw [List.take_take]; congr 1; omega
    rw [this, q7, List.map_take]
theorem QgW (l : List Int) (hl : l.length = 44) (i : Nat) (hi : i < 32) : (Qc8 (l.take 32) 32 i).set i (nth l i) = Qc8 (l.take 32) 32 (i + 1) := by
  rw [← Qe3 (l.take 32) 32 i (QaW hl) hi]
  congr 1
  simp [nth, List.getElem?_take, hi]
theorem Qku {j : Nat} (h : j < 8) : Seat.upn ((2 * j : Nat) : Int) 8 3 < 0 := (by decide +kernel : ∀ j : Fin 8, Seat.upn ((2 * j.val : Nat) : Int) 8 3 < 0) ⟨j, h⟩
theorem Qkt {j : Nat} (h : j < 8) (i : Nat) (hi : i < 3) : 0 ≤ Seat.upn ((2 * j : Nat) : Int) 8 i := (by decide +kernel : ∀ (j : Fin 8) (i : Fin 3), 0 ≤ Seat.upn ((2 * j.val : Nat) : Int) 8 i.val) ⟨j, h⟩ ⟨i, hi⟩
theorem Qjk {j : Nat} (h : j < 8) {i : Nat} (hi : i < 3) : Seat.i64 (nth (Seat.upL ((2 * j : Nat) : Int) 8 3) i) := by
  have := (by decide +kernel : ∀ (j : Fin 8) (i : Fin 3), 0 ≤ nth (Seat.upL ((2 * j.val : Nat) : Int) 8 3) i.val ∧ nth (Seat.upL ((2 * j.val : Nat) : Int) 8 3) i.val ≤ 14) ⟨j, h⟩ ⟨i, hi⟩
  unfold Seat.i64
  have h2 : 0 ≤ nth (Seat.upL ((2 * j : Nat) : Int) 8 3) i ∧ nth (Seat.upL ((2 * j : Nat) : Int) 8 3) i ≤ 14 := this
  omega
theorem Qks {j : Nat} (h : j < 8) {r : Nat} (hr : r < 2) : nth (Seat.upL ((2 * j : Nat) : Int) 8 3) r = Seat.kidL (nth (Seat.upL ((2 * j : Nat) : Int) 8 3) (r + 1)) ↔ j % 2 ^ (r + 2) < 2 ^ (r + 1) := (by decide +kernel : ∀ (j : Fin 8) (r : Fin 2), nth (Seat.upL ((2 * j.val : Nat) : Int) 8 3) r.val = Seat.kidL (nth (Seat.upL ((2 * j.val : Nat) : Int) 8 3) (r.val + 1)) ↔ j.val % 2 ^ (r.val + 2) < 2 ^ (r.val + 1)) ⟨j, h⟩ ⟨r, hr⟩
theorem Qjl {j : Nat} (h : j < 8) : ((2 * j : Nat) : Int) = Seat.kidL (nth (Seat.upL ((2 * j : Nat) : Int) 8 3) 0) ↔ j % 2 ^ 1 < 2 ^ 0 := (by decide +kernel : ∀ j : Fin 8, ((2 * j.val : Nat) : Int) = Seat.kidL (nth (Seat.upL ((2 * j.val : Nat) : Int) 8 3) 0) ↔ j.val % 2 ^ 1 < 2 ^ 0) ⟨j, h⟩
theorem lf_l {j p : Nat} (hp : p ≤ 2) (h : j % 2 ^ (p + 1) < 2 ^ p) (s : List Int) : QaL s (p + 1) (j % 2 ^ (p + 1)) = QaL (lftV s) p (j % 2 ^ p) := by
  rw [QaL, if_pos h]
  congr 1
  rcases (show p = 0 ∨ p = 1 ∨ p = 2 by omega) with rfl | rfl | rfl <;> omega
theorem lf_r {j p : Nat} (hp : p ≤ 2) (h : 2 ^ p ≤ j % 2 ^ (p + 1)) (s : List Int) : QaL s (p + 1) (j % 2 ^ (p + 1)) = QaL (rgtV s) p (j % 2 ^ p) := by
  rw [QaL, if_neg (by omega)]
  congr 1
  rcases (show p = 0 ∨ p = 1 ∨ p = 2 by omega) with rfl | rfl | rfl <;> omega
theorem lftR (s : List Int) (W : World) (hl : s.length = 32) (hb : Qao s) : Calls Tryd.prog 26 #[.agg (ints .u8 s), .string Qfe] W (Ret W (.agg (ints .u8 (lftV s)))) := by
  unfold lftV; exact QeI s Qfe W hl hb
theorem rgtR (s : List Int) (W : World) (hl : s.length = 32) (hb : Qao s) : Calls Tryd.prog 26 #[.agg (ints .u8 s), .string Qd2] W (Ret W (.agg (ints .u8 (rgtV s)))) := by
  unfold rgtV; exact QeI s Qd2 W hl hb
theorem nxtR (s : List Int) (W : World) (hl : s.length = 32) (hb : Qao s) : Calls Tryd.prog 26 #[.agg (ints .u8 s), .string QfC] W (Ret W (.agg (ints .u8 (nxtV s)))) := by
  unfold nxtV; exact QeI s QfC W hl hb
theorem Qh2 (x : Int) (hx : Seat.i64 x) (W : World) : Calls Tryd.prog 30 #[.int .i64 x] W (Ret W (.tuple #[.int .i64 (Seat.kidL x), .int .i64 (Seat.kidR x)])) := Seat.quiet (Seat.rchildren x hx W)
set_option maxHeartbeats 4000000 in
theorem Qlf (sec : List Int) (hsl : sec.length = 32) (hsb : Qao sec) (j : Nat) (hj : j < 8) (w : World) : Calls Tryd.prog 11 #[.agg (ints .u8 sec), .int .i64 8, .int .i64 ((j : Nat) : Int)] w (Ret w (.agg (ints .u8 (QaL sec 3 j)))) := by
 refine enter 57 [(0, .agg (ints .u8 (sec))), (1, .int .i64 8), (2, .int .i64 ((j : Nat) : Int))] Tryd.func11 rfl rfl kj rfl ?_
 refine wp_seq_k fun K1 hK1 => ?_
 refine Qad ?_
 refine Qar (ints .u8 (sec)) 23 3 rfl kj kj fun g2 W1 l2 e1 r2_1 => ?_
 have x1 : Ext w W1 := Ext.tr (Rely.Ext.refl w) e1
 have b2 : w.heap.size ≤ g2 := Nat.le_trans (Rely.Ext.refl w).size l2
 refine Qar (ints .u8 (List.replicate 32 0)) 23 6 rfl kj kj fun g3 W2 l3 e2 r3_2 => ?_
 have x2 : Ext w W2 := Ext.tr x1 e2
 have b3 : w.heap.size ≤ g3 := Nat.le_trans x1.size l3
 refine Qaj ?_
 refine hK1 _ _ ?_
 refine wp_seq_k fun K4 hK4 => ?_
 refine Qad ?_
 refine Qaa (.int .i64 ((j : Nat) : Int)) 13 rfl kj kj ?_
 refine Qaa (.int .i64 (((2 * j : Nat) : Int))) 14 rfl kj (Qag (u := .int .i64 (IntKind.i64.wrap (2 * ((j : Nat) : Int)))) kj (congrArg (Value.int .i64) ((Qbw _ (by omega)).trans (by omega)))) ?_
 refine Qaa (.int .i64 8) 15 rfl kj kj ?_
 refine Qa8 (fun v W' => (OwnN .i64 3 W2.heap.size (Seat.upL ((2 * j : Nat) : Int) 8 3)) v W' ∧ Ext W2 W') 29 #[.int .i64 (((2 * j : Nat) : Int)), .int .i64 8] 16 rfl kj kj ((Seat.rpathC _ 8 3 (by decide) (Qku hj) (fun i hi => Qkt hj i hi) _).mono (by rintro e w' ⟨v, rfl, e1, hv⟩; exact ⟨v, rfl, hv, e1⟩)) fun vv5 W3 hh5 => ?_
 obtain ⟨hv5, e3⟩ := hh5
 have x3 : Ext w W3 := Ext.tr x2 e3
 obtain ⟨a1, c1, rfl, -⟩ := id (OwnN.rd hv5)
 refine QaB (ints .i64 ([0])) 3 1 17 rfl kj kj fun g6 W4 l6 e4 r6_4 => ?_
 have x4 : Ext w W4 := Ext.tr x3 e4
 have b6 : w.heap.size ≤ g6 := Nat.le_trans x3.size l6
 have f7_4 := (hv5.ext e4)
 have y2_3 : Ext W2 W3 := (Rely.Ext.trans (Rely.Ext.refl W2) e3)
 have y2_4 : Ext W2 W4 := (Rely.Ext.trans y2_3 e4)
 refine QaC (k := .i64) (T := 3) (xs := Seat.upL ((2 * j : Nat) : Int) 8 3) (ys := [0]) (V := W2) 8 (.tmp 16) (.tmp 17) 32 rfl kj kj (by decide) 18 rfl kj kj kj f7_4 (QaK (xs := [0]) (n := 1) rfl r6_4 (Qat r6_4) (show 1 ≤ maxLen from by decide)) (by rw [Seat.upL_len]; decide) y2_4 fun u2 W5 f8 y5 l5 => ?_
 have x5 : Ext w W5 := Ext.low x4 l5 x2.size
 obtain ⟨a2, c2, rfl, hcap2, -⟩ := id (OwnN.rd f8)
 have hl4 : (Seat.upL ((2 * j : Nat) : Int) 8 3 ++ [0]).length = 4 := by rw [List.length_append, Seat.upL_len]; rfl
 have htk : (Seat.upL ((2 * j : Nat) : Int) 8 3 ++ [0]).take 3 = Seat.upL ((2 * j : Nat) : Int) 8 3 := List.take_left' (Seat.upL_len _ _ _)
 have hcap : 3 ≤ c2 := by omega
 have hpl := Qh7 f8 (show 3 ≤ (Seat.upL ((2 * j : Nat) : Int) 8 3 ++ [0]).length by omega)
 rw [htk] at hpl
 refine Qaa (.slice a2 ((Seat.upL ((2 * j : Nat) : Int) 8 3 ++ [0]).length) c2) 7 rfl kj kj ?_
 refine Qaj ?_
 refine hK4 _ _ ?_
 refine wp_seq_k fun K9 hK9 => ?_
 refine Qad ?_
 refine Qaa (.slice a2 ((Seat.upL ((2 * j : Nat) : Int) 8 3 ++ [0]).length) c2) 19 rfl kj kj ?_
 refine Qaa (.slice a2 ((Seat.upL ((2 * j : Nat) : Int) 8 3 ++ [0]).length) c2) 20 rfl kj kj ?_
 refine Qaa (.int .i64 (((Seat.upL ((2 * j : Nat) : Int) 8 3 ++ [0]).length : Nat) : Int)) 21 rfl kj kj ?_
 refine Qaa (.int .i64 (((3 : Nat) : Int))) 22 rfl kj (Qag (u := .int .i64 (IntKind.i64.wrap ((((Seat.upL ((2 * j : Nat) : Int) 8 3 ++ [0]).length : Nat) : Int) - 1))) kj (congrArg (Value.int .i64) (by rw [hl4]; rfl))) ?_
 refine Qaa (.slice a2 3 c2) 23 rfl kj (QgI (len := (Seat.upL ((2 * j : Nat) : Int) 8 3 ++ [0]).length) 32 _ _ 3 3 rfl kj kj kj .i64 kj hcap) ?_
 refine Qaa (.slice a2 3 c2) 7 rfl kj kj ?_
 refine Qaj ?_
 refine hK9 _ _ ?_
 refine wp_seq_k fun K10 hK10 => ?_
 refine Qad ?_
 have r2_2 := (Qab r2_1 e2)
 have r2_3 := (Qab r2_2 e3)
 have r2_4 := (Qab r2_3 e4)
 have r2_5 := (Qbb l5 r2_4 (Qat r2_2))
 refine Qaa (.agg (ints .u8 (sec))) 24 rfl kj (Qaw 23 _ g2 23 _ _ r2_5 rfl kj kj (isz (n := 32) kj ((Qac _ _).trans hsl))) ?_
 refine Qar (ints .u8 (List.replicate 32 0)) 23 8 rfl kj kj fun g11 W6 l11 e6 r11_6 => ?_
 have x6 : Ext w W6 := Ext.tr x5 e6
 have b11 : w.heap.size ≤ g11 := Nat.le_trans x5.size l11
 refine Qai g11 _ (ints .u8 (sec)) 23 r11_6 rfl kj (Qaq 23 _ _ g11 23 _ _ r11_6 rfl kj kj (isz (n := 32) kj ((Qac _ _).trans hsl)) (eqsz (n := 32) ((Qac _ _).trans (List.length_replicate (n := 32))) ((Qac _ _).trans hsl)) (Qa2 _ _)) fun W7 p7 r11_7 => ?_
 have x7 : Ext w W7 := Puts.ext p7 x6 b11
 refine Qaj ?_
 refine hK10 _ _ ?_
 refine wp_seq_k fun K12 hK12 => ?_
 refine wp_seq_k fun K13 hK13 => ?_
 refine Qad ?_
 refine Qaa (.slice a2 3 c2) 25 rfl kj kj ?_
 refine Qaa (.int .i64 3) 26 rfl kj kj ?_
 refine Qaa (.int .i64 2) 27 rfl kj kj ?_
 refine Qaa (.int .i64 2) 9 rfl kj kj ?_
 refine Qaj ?_
 refine hK13 _ _ ?_
 refine wp_block ?_
 refine Qa9 (fun (s1 : Nat × List Int) => [(2, .int .i64 ((j : Nat) : Int)), (6, .pointer (some ⟨g3, 0, none⟩)), (7, .slice a2 3 c2), (8, .pointer (some ⟨g11, 0, none⟩)), (9, .int .i64 (((s1.1 : Nat) : Int) - 1))]) (fun (s1 : Nat × List Int) W => (s1.1 ≤ 3) ∧ (s1.2.length = 32) ∧ (Qao s1.2) ∧ (QaL sec 3 j = QaL s1.2 s1.1 (j % 2 ^ s1.1)) ∧ (W.heap[g11]? = some (.cells (ints .u8 (s1.2)) 23)) ∧ (Qal [g11] W7 W) ∧ (Ext w W)) (fun (s1 : Nat × List Int) => s1.1) (3, sec) ⟨rfl, rfl, rfl, rfl, rfl, trivial⟩ ⟨(Nat.le_refl _), hsl, hsb, (by rw [Nat.mod_eq_of_lt (show j < 2 ^ 3 from hj)]), r11_7, (Qal.refl [g11] W7), x7⟩ fun s1 X1 V1 hI1 => ?_
 obtain ⟨q, s⟩ := s1
 obtain ⟨hq, hsl2, hsb2, hlf, q11_1, kk1, xx1⟩ := hI1
 replace hq : q ≤ 3 := hq
 replace hsl2 : s.length = 32 := hsl2
 replace hsb2 : Qao s := hsb2
 replace hlf : QaL sec 3 j = QaL s q (j % 2 ^ q) := hlf
 replace q11_1 : V1.heap[g11]? = some (.cells (ints .u8 (s)) 23) := q11_1
 replace kk1 : Qal [g11] W7 V1 := kk1
 replace xx1 : Ext w V1 := xx1
 have q8 := kk1
 refine wp_seq_k fun K14 hK14 => ?_
 refine wp_seq_k fun K15 hK15 => ?_
 refine Qad ?_
 refine Qaa (.int .i64 (((q : Nat) : Int) - 1)) 28 rfl kj kj ?_
 refine Qaa (.bool (decide ((((q : Nat) : Int) - 1) ≥ 0))) 29 rfl kj kj ?_
 refine Qaj ?_
 refine hK15 _ _ ?_
 refine Qa5 (t := decide ((((q : Nat) : Int) - 1) ≥ 0)) kj (fun c16 => ?_) (fun c16 => ?_)
 ·skip
  obtain ⟨p, rfl⟩ : ∃ p, q = p + 1 := ⟨q - 1, by have := of_decide_eq_true c16; omega⟩
  rw [show (((p + 1 : Nat) : Int) - 1) = ((p : Nat) : Int) by omega]
  refine wp_skip ?_
  refine hK14 _ _ ?_
  refine wp_seq_k fun K17 hK17 => ?_
  refine wp_block ?_
  refine wp_seq_k fun K18 hK18 => ?_
  refine Qad ?_
  refine Qaa (.int .i64 ((j : Nat) : Int)) 32 rfl kj kj ?_
  refine Qaa (.int .i64 (((2 * j : Nat) : Int))) 33 rfl kj (Qag (u := .int .i64 (IntKind.i64.wrap (2 * ((j : Nat) : Int)))) kj (congrArg (Value.int .i64) ((Qbw _ (by omega)).trans (by omega)))) ?_
  refine Qaa (.int .i64 (((2 * j : Nat) : Int))) 10 rfl kj kj ?_
  refine Qaj ?_
  refine hK18 _ _ ?_
  refine wp_seq_k fun K19 hK19 => ?_
  refine wp_seq_k fun K20 hK20 => ?_
  rcases (show p = 0 ∨ ∃ r, p = r + 1 by cases p with | zero => exact .inl rfl | succ r => exact .inr ⟨r, rfl⟩) with hr | ⟨r, hr⟩
  ·skip
   refine Qad ?_
   refine Qaa (.int .i64 ((p : Nat) : Int)) 34 rfl kj kj ?_
   refine Qaa (.bool false) 35 rfl kj (Qag (u := .bool (decide (((p : Nat) : Int) > 0))) kj (congrArg Value.bool (decide_eq_false (by omega)))) ?_
   refine Qaj ?_
   refine hK20 _ _ ?_
   refine cond_false kj ?_
   refine wp_skip ?_
   refine hK19 _ _ ?_
   refine wp_seq_k fun K21 hK21 => ?_
   refine Qad ?_
   refine Qaa (.slice a2 3 c2) 42 rfl kj kj ?_
   refine Qaa (.int .i64 ((p : Nat) : Int)) 43 rfl kj kj ?_
   have f23_6 := (hpl.ext e6)
   have f24_7 := (f23_6.puts p7 (QcM hpl l11))
   have f25_8 := (Go.Proofs.YtibegnjaphohaaaDoor.Auto.OwnN.keepsL f24_7 q8 (nb_cons (QcM hpl l11) nb_nil))
   have hnp_22 : (Seat.upL ((2 * j : Nat) : Int) 8 3).length = 3 := (Seat.upL_len _ _ _)
   obtain ⟨gcp_22, ocp_22, hap_22, hlp_22, hcp_22⟩ := rdK_open (OwnN.rd f25_8) (by rw [hnp_22]; omega)
   refine Qaa (.pointer (some ⟨gcp_22, ocp_22 + p, none⟩)) 44 rfl kj (run_indexA 32 _ _ .i64 p gcp_22 ocp_22 3 c2 3 a2 _ hap_22 rfl rfl kj kj kj kj (Nat.lt_of_lt_of_eq (show p < 3 by omega) hnp_22.symm)) ?_
   refine Qaa (.int .i64 (nth (Seat.upL ((2 * j : Nat) : Int) 8 3) (p))) 45 rfl kj (QaA 3 _ _ (.int .i64 (nth (Seat.upL ((2 * j : Nat) : Int) 8 3) (p))) (hcp_22 p (Nat.lt_of_lt_of_eq (show p < 3 by omega) hnp_22.symm)) rfl kj kj) ?_
   refine Qax (.tuple #[.int .i64 (Seat.kidL (nth (Seat.upL ((2 * j : Nat) : Int) 8 3) (p))), .int .i64 (Seat.kidR (nth (Seat.upL ((2 * j : Nat) : Int) 8 3) (p)))]) 30 #[.int .i64 (nth (Seat.upL ((2 * j : Nat) : Int) 8 3) (p))] 46 rfl kj kj ((Qh2 _ (Qjk hj (by omega))) _) fun W9 e9 => ?_
   have x9 : Ext w W9 := Ext.tr xx1 e9
   refine Qaa (.tuple #[.int .i64 (Seat.kidL (nth (Seat.upL ((2 * j : Nat) : Int) 8 3) (p))), .int .i64 (Seat.kidR (nth (Seat.upL ((2 * j : Nat) : Int) 8 3) (p)))]) 41 rfl kj kj ?_
   refine Qaa (.int .i64 (Seat.kidL (nth (Seat.upL ((2 * j : Nat) : Int) 8 3) (p)))) 47 rfl kj kj ?_
   refine Qaa (.int .i64 (Seat.kidR (nth (Seat.upL ((2 * j : Nat) : Int) 8 3) (p)))) 48 rfl kj kj ?_
   refine Qaa (.int .i64 (Seat.kidL (nth (Seat.upL ((2 * j : Nat) : Int) 8 3) (p)))) 11 rfl kj kj ?_
   refine Qaa (.int .i64 (Seat.kidR (nth (Seat.upL ((2 * j : Nat) : Int) 8 3) (p)))) 12 rfl kj kj ?_
   refine Qaj ?_
   refine hK21 _ _ ?_
   refine wp_seq_k fun K26 hK26 => ?_
   rcases Nat.lt_or_ge (j % 2 ^ (p + 1)) (2 ^ p) with hlr | hlr
   ·skip
    refine Qad ?_
    refine Qaa (.int .i64 (((2 * j : Nat) : Int))) 49 rfl kj kj ?_
    refine Qaa (.int .i64 (Seat.kidL (nth (Seat.upL ((2 * j : Nat) : Int) 8 3) (p)))) 50 rfl kj kj ?_
    refine Qaa (.bool true) 51 rfl kj (Qag (u := .bool ((((2 * j : Nat) : Int) == (Seat.kidL (nth (Seat.upL ((2 * j : Nat) : Int) 8 3) (p)))))) kj (congrArg Value.bool (beq_iff_eq.2 (by subst hr; exact (Qjl hj).2 hlr)))) ?_
    refine Qaj ?_
    refine hK26 _ _ ?_
    refine cond_true kj ?_
    refine Qad ?_
    have r11_9 := (Qab q11_1 e9)
    refine Qaa (.agg (ints .u8 (s))) 52 rfl kj (Qaw 23 _ g11 23 _ _ r11_9 rfl kj kj (isz (n := 32) kj ((Qac _ _).trans hsl2))) ?_
    refine Qax (.agg (ints .u8 (lftV s))) 26 #[.agg (ints .u8 (s)), .string Qfe] 53 rfl kj kj ((fun W => lftR s W hsl2 hsb2) _) fun W10 e10 => ?_
    have x10 : Ext w W10 := Ext.tr x9 e10
    have r11_10 := (Qab r11_9 e10)
    refine Qai g11 _ (ints .u8 (lftV s)) 23 r11_10 rfl kj (Qaq 23 _ _ g11 23 _ _ r11_10 rfl kj kj (isz (n := 32) kj ((Qac _ _).trans (Qcs _))) (eqsz (n := 32) ((Qac _ _).trans hsl2) ((Qac _ _).trans (Qcs _))) (Qa2 _ _)) fun W11 p11 r11_11 => ?_
    have x11 : Ext w W11 := Puts.ext p11 x10 b11
    refine Qaj ?_
    refine hK17 _ _ ?_
    refine Qad ?_
    refine Qaa (.int .i64 ((p : Nat) : Int)) 30 rfl kj kj ?_
    refine Qaa (.int .i64 (((p : Nat) : Int) - 1)) 31 rfl kj (Qag (u := .int .i64 (IntKind.i64.wrap (((p : Nat) : Int) - 1))) kj (congrArg (Value.int .i64) (Qbw _ (by omega)))) ?_
    refine Qaa (.int .i64 (((p : Nat) : Int) - 1)) 9 rfl kj kj ?_
    refine Qaj ?_
    repeat (first | with_reducible refine goX1 ?_ | with_reducible refine goX2 ?_ | with_reducible refine goX3 ?_)
    exact Qa4 (p, (lftV s)) ⟨rfl, rfl, rfl, rfl, rfl, trivial⟩ ⟨(by omega), (Qcs _), (Qdu _), (hlf.trans (lf_l (by omega) hlr s)), r11_11, (Qal.puts (Qal.step (Qal.step q8 e9) e10) p11 (.inl (by simp))), x11⟩ (by omega)
   ·skip
    refine Qad ?_
    refine Qaa (.int .i64 (((2 * j : Nat) : Int))) 49 rfl kj kj ?_
    refine Qaa (.int .i64 (Seat.kidL (nth (Seat.upL ((2 * j : Nat) : Int) 8 3) (p)))) 50 rfl kj kj ?_
    refine Qaa (.bool false) 51 rfl kj (Qag (u := .bool ((((2 * j : Nat) : Int) == (Seat.kidL (nth (Seat.upL ((2 * j : Nat) : Int) 8 3) (p)))))) kj (congrArg Value.bool (beq_eq_false_iff_ne.2 (fun e => absurd (by subst hr; exact (Qjl hj).1 e) (Nat.not_lt.2 hlr))))) ?_
    refine Qaj ?_
    refine hK26 _ _ ?_
    refine cond_false kj ?_
    refine Qad ?_
    have r11_9 := (Qab q11_1 e9)
    refine Qaa (.agg (ints .u8 (s))) 54 rfl kj (Qaw 23 _ g11 23 _ _ r11_9 rfl kj kj (isz (n := 32) kj ((Qac _ _).trans hsl2))) ?_
    refine Qax (.agg (ints .u8 (rgtV s))) 26 #[.agg (ints .u8 (s)), .string Qd2] 55 rfl kj kj ((fun W => rgtR s W hsl2 hsb2) _) fun W10 e10 => ?_
    have x10 : Ext w W10 := Ext.tr x9 e10
    have r11_10 := (Qab r11_9 e10)
    refine Qai g11 _ (ints .u8 (rgtV s)) 23 r11_10 rfl kj (Qaq 23 _ _ g11 23 _ _ r11_10 rfl kj kj (isz (n := 32) kj ((Qac _ _).trans (Qcq _))) (eqsz (n := 32) ((Qac _ _).trans hsl2) ((Qac _ _).trans (Qcq _))) (Qa2 _ _)) fun W11 p11 r11_11 => ?_
    have x11 : Ext w W11 := Puts.ext p11 x10 b11
    refine Qaj ?_
    refine hK17 _ _ ?_
    refine Qad ?_
    refine Qaa (.int .i64 ((p : Nat) : Int)) 30 rfl kj kj ?_
    refine Qaa (.int .i64 (((p : Nat) : Int) - 1)) 31 rfl kj (Qag (u := .int .i64 (IntKind.i64.wrap (((p : Nat) : Int) - 1))) kj (congrArg (Value.int .i64) (Qbw _ (by omega)))) ?_
    refine Qaa (.int .i64 (((p : Nat) : Int) - 1)) 9 rfl kj kj ?_
    refine Qaj ?_
    repeat (first | with_reducible refine goX1 ?_ | with_reducible refine goX2 ?_ | with_reducible refine goX3 ?_)
    exact Qa4 (p, (rgtV s)) ⟨rfl, rfl, rfl, rfl, rfl, trivial⟩ ⟨(by omega), (Qcq _), (Qdq _), (hlf.trans (lf_r (by omega) hlr s)), r11_11, (Qal.puts (Qal.step (Qal.step q8 e9) e10) p11 (.inl (by simp))), x11⟩ (by omega)
  ·skip
   refine Qad ?_
   refine Qaa (.int .i64 ((p : Nat) : Int)) 34 rfl kj kj ?_
   refine Qaa (.bool true) 35 rfl kj (Qag (u := .bool (decide (((p : Nat) : Int) > 0))) kj (congrArg Value.bool (decide_eq_true (by omega)))) ?_
   refine Qaj ?_
   refine hK20 _ _ ?_
   refine cond_true kj ?_
   refine Qad ?_
   refine Qaa (.slice a2 3 c2) 36 rfl kj kj ?_
   refine Qaa (.int .i64 ((p : Nat) : Int)) 37 rfl kj kj ?_
   refine Qaa (.int .i64 (((r : Nat) : Int))) 38 rfl kj (Qag (u := .int .i64 (IntKind.i64.wrap (((p : Nat) : Int) - 1))) kj (congrArg (Value.int .i64) ((Qbw _ (by omega)).trans (by omega)))) ?_
   have f28_6 := (hpl.ext e6)
   have f29_7 := (f28_6.puts p7 (QcM hpl l11))
   have f30_8 := (Go.Proofs.YtibegnjaphohaaaDoor.Auto.OwnN.keepsL f29_7 q8 (nb_cons (QcM hpl l11) nb_nil))
   have hnp_27 : (Seat.upL ((2 * j : Nat) : Int) 8 3).length = 3 := (Seat.upL_len _ _ _)
   obtain ⟨gcp_27, ocp_27, hap_27, hlp_27, hcp_27⟩ := rdK_open (OwnN.rd f30_8) (by rw [hnp_27]; omega)
   refine Qaa (.pointer (some ⟨gcp_27, ocp_27 + r, none⟩)) 39 rfl kj (run_indexA 32 _ _ .i64 r gcp_27 ocp_27 3 c2 3 a2 _ hap_27 rfl rfl kj kj kj kj (Nat.lt_of_lt_of_eq (show r < 3 by omega) hnp_27.symm)) ?_
   refine Qaa (.int .i64 (nth (Seat.upL ((2 * j : Nat) : Int) 8 3) (r))) 40 rfl kj (QaA 3 _ _ (.int .i64 (nth (Seat.upL ((2 * j : Nat) : Int) 8 3) (r))) (hcp_27 r (Nat.lt_of_lt_of_eq (show r < 3 by omega) hnp_27.symm)) rfl kj kj) ?_
   refine Qaa (.int .i64 (nth (Seat.upL ((2 * j : Nat) : Int) 8 3) (r))) 10 rfl kj kj ?_
   refine Qaj ?_
   refine hK19 _ _ ?_
   refine wp_seq_k fun K31 hK31 => ?_
   refine Qad ?_
   refine Qaa (.slice a2 3 c2) 42 rfl kj kj ?_
   refine Qaa (.int .i64 ((p : Nat) : Int)) 43 rfl kj kj ?_
   have hnp_32 : (Seat.upL ((2 * j : Nat) : Int) 8 3).length = 3 := (Seat.upL_len _ _ _)
   obtain ⟨gcp_32, ocp_32, hap_32, hlp_32, hcp_32⟩ := rdK_open (OwnN.rd f30_8) (by rw [hnp_32]; omega)
   refine Qaa (.pointer (some ⟨gcp_32, ocp_32 + p, none⟩)) 44 rfl kj (run_indexA 32 _ _ .i64 p gcp_32 ocp_32 3 c2 3 a2 _ hap_32 rfl rfl kj kj kj kj (Nat.lt_of_lt_of_eq (show p < 3 by omega) hnp_32.symm)) ?_
   refine Qaa (.int .i64 (nth (Seat.upL ((2 * j : Nat) : Int) 8 3) (p))) 45 rfl kj (QaA 3 _ _ (.int .i64 (nth (Seat.upL ((2 * j : Nat) : Int) 8 3) (p))) (hcp_32 p (Nat.lt_of_lt_of_eq (show p < 3 by omega) hnp_32.symm)) rfl kj kj) ?_
   refine Qax (.tuple #[.int .i64 (Seat.kidL (nth (Seat.upL ((2 * j : Nat) : Int) 8 3) (p))), .int .i64 (Seat.kidR (nth (Seat.upL ((2 * j : Nat) : Int) 8 3) (p)))]) 30 #[.int .i64 (nth (Seat.upL ((2 * j : Nat) : Int) 8 3) (p))] 46 rfl kj kj ((Qh2 _ (Qjk hj (by omega))) _) fun W9 e9 => ?_
   have x9 : Ext w W9 := Ext.tr xx1 e9
   refine Qaa (.tuple #[.int .i64 (Seat.kidL (nth (Seat.upL ((2 * j : Nat) : Int) 8 3) (p))), .int .i64 (Seat.kidR (nth (Seat.upL ((2 * j : Nat) : Int) 8 3) (p)))]) 41 rfl kj kj ?_
   refine Qaa (.int .i64 (Seat.kidL (nth (Seat.upL ((2 * j : Nat) : Int) 8 3) (p)))) 47 rfl kj kj ?_
   refine Qaa (.int .i64 (Seat.kidR (nth (Seat.upL ((2 * j : Nat) : Int) 8 3) (p)))) 48 rfl kj kj ?_
   refine Qaa (.int .i64 (Seat.kidL (nth (Seat.upL ((2 * j : Nat) : Int) 8 3) (p)))) 11 rfl kj kj ?_
   refine Qaa (.int .i64 (Seat.kidR (nth (Seat.upL ((2 * j : Nat) : Int) 8 3) (p)))) 12 rfl kj kj ?_
   refine Qaj ?_
   refine hK31 _ _ ?_
   refine wp_seq_k fun K33 hK33 => ?_
   rcases Nat.lt_or_ge (j % 2 ^ (p + 1)) (2 ^ p) with hlr | hlr
   ·skip
    refine Qad ?_
    refine Qaa (.int .i64 (nth (Seat.upL ((2 * j : Nat) : Int) 8 3) (r))) 49 rfl kj kj ?_
    refine Qaa (.int .i64 (Seat.kidL (nth (Seat.upL ((2 * j : Nat) : Int) 8 3) (p)))) 50 rfl kj kj ?_
    refine Qaa (.bool true) 51 rfl kj (Qag (u := .bool (((nth (Seat.upL ((2 * j : Nat) : Int) 8 3) (r)) == (Seat.kidL (nth (Seat.upL ((2 * j : Nat) : Int) 8 3) (p)))))) kj (congrArg Value.bool (beq_iff_eq.2 (by subst hr; exact (Qks hj (by omega)).2 hlr)))) ?_
    refine Qaj ?_
    refine hK33 _ _ ?_
    refine cond_true kj ?_
    refine Qad ?_
    have r11_9 := (Qab q11_1 e9)
    refine Qaa (.agg (ints .u8 (s))) 52 rfl kj (Qaw 23 _ g11 23 _ _ r11_9 rfl kj kj (isz (n := 32) kj ((Qac _ _).trans hsl2))) ?_
    refine Qax (.agg (ints .u8 (lftV s))) 26 #[.agg (ints .u8 (s)), .string Qfe] 53 rfl kj kj ((fun W => lftR s W hsl2 hsb2) _) fun W10 e10 => ?_
    have x10 : Ext w W10 := Ext.tr x9 e10
    have r11_10 := (Qab r11_9 e10)
    refine Qai g11 _ (ints .u8 (lftV s)) 23 r11_10 rfl kj (Qaq 23 _ _ g11 23 _ _ r11_10 rfl kj kj (isz (n := 32) kj ((Qac _ _).trans (Qcs _))) (eqsz (n := 32) ((Qac _ _).trans hsl2) ((Qac _ _).trans (Qcs _))) (Qa2 _ _)) fun W11 p11 r11_11 => ?_
    have x11 : Ext w W11 := Puts.ext p11 x10 b11
    refine Qaj ?_
    refine hK17 _ _ ?_
    refine Qad ?_
    refine Qaa (.int .i64 ((p : Nat) : Int)) 30 rfl kj kj ?_
    refine Qaa (.int .i64 (((p : Nat) : Int) - 1)) 31 rfl kj (Qag (u := .int .i64 (IntKind.i64.wrap (((p : Nat) : Int) - 1))) kj (congrArg (Value.int .i64) (Qbw _ (by omega)))) ?_
    refine Qaa (.int .i64 (((p : Nat) : Int) - 1)) 9 rfl kj kj ?_
    refine Qaj ?_
    repeat (first | with_reducible refine goX1 ?_ | with_reducible refine goX2 ?_ | with_reducible refine goX3 ?_)
    exact Qa4 (p, (lftV s)) ⟨rfl, rfl, rfl, rfl, rfl, trivial⟩ ⟨(by omega), (Qcs _), (Qdu _), (hlf.trans (lf_l (by omega) hlr s)), r11_11, (Qal.puts (Qal.step (Qal.step q8 e9) e10) p11 (.inl (by simp))), x11⟩ (by omega)
   ·skip
    refine Qad ?_
    refine Qaa (.int .i64 (nth (Seat.upL ((2 * j : Nat) : Int) 8 3) (r))) 49 rfl kj kj ?_
    refine Qaa (.int .i64 (Seat.kidL (nth (Seat.upL ((2 * j : Nat) : Int) 8 3) (p)))) 50 rfl kj kj ?_
    refine Qaa (.bool false) 51 rfl kj (Qag (u := .bool (((nth (Seat.upL ((2 * j : Nat) : Int) 8 3) (r)) == (Seat.kidL (nth (Seat.upL ((2 * j : Nat) : Int) 8 3) (p)))))) kj (congrArg Value.bool (beq_eq_false_iff_ne.2 (fun e => absurd (by subst hr; exact (Qks hj (by omega)).1 e) (Nat.not_lt.2 hlr))))) ?_
    refine Qaj ?_
    refine hK33 _ _ ?_
    refine cond_false kj ?_
    refine Qad ?_
    have r11_9 := (Qab q11_1 e9)
    refine Qaa (.agg (ints .u8 (s))) 54 rfl kj (Qaw 23 _ g11 23 _ _ r11_9 rfl kj kj (isz (n := 32) kj ((Qac _ _).trans hsl2))) ?_
    refine Qax (.agg (ints .u8 (rgtV s))) 26 #[.agg (ints .u8 (s)), .string Qd2] 55 rfl kj kj ((fun W => rgtR s W hsl2 hsb2) _) fun W10 e10 => ?_
    have x10 : Ext w W10 := Ext.tr x9 e10
    have r11_10 := (Qab r11_9 e10)
    refine Qai g11 _ (ints .u8 (rgtV s)) 23 r11_10 rfl kj (Qaq 23 _ _ g11 23 _ _ r11_10 rfl kj kj (isz (n := 32) kj ((Qac _ _).trans (Qcq _))) (eqsz (n := 32) ((Qac _ _).trans hsl2) ((Qac _ _).trans (Qcq _))) (Qa2 _ _)) fun W11 p11 r11_11 => ?_
    have x11 : Ext w W11 := Puts.ext p11 x10 b11
    refine Qaj ?_
    refine hK17 _ _ ?_
    refine Qad ?_
    refine Qaa (.int .i64 ((p : Nat) : Int)) 30 rfl kj kj ?_
    refine Qaa (.int .i64 (((p : Nat) : Int) - 1)) 31 rfl kj (Qag (u := .int .i64 (IntKind.i64.wrap (((p : Nat) : Int) - 1))) kj (congrArg (Value.int .i64) (Qbw _ (by omega)))) ?_
    refine Qaa (.int .i64 (((p : Nat) : Int) - 1)) 9 rfl kj kj ?_
    refine Qaj ?_
    repeat (first | with_reducible refine goX1 ?_ | with_reducible refine goX2 ?_ | with_reducible refine goX3 ?_)
    exact Qa4 (p, (rgtV s)) ⟨rfl, rfl, rfl, rfl, rfl, trivial⟩ ⟨(by omega), (Qcq _), (Qdq _), (hlf.trans (lf_r (by omega) hlr s)), r11_11, (Qal.puts (Qal.step (Qal.step q8 e9) e10) p11 (.inl (by simp))), x11⟩ (by omega)
 ·skip
  obtain rfl : q = 0 := by have := of_decide_eq_false c16; omega
  refine wp_exit ?_
  refine hK12 _ _ ?_
  refine wp_seq_k fun K34 hK34 => ?_
  refine Qad ?_
  refine Qaa (.agg (ints .u8 (s))) 56 rfl kj (Qaw 23 _ g11 23 _ _ q11_1 rfl kj kj (isz (n := 32) kj ((Qac _ _).trans hsl2))) ?_
  have r3_3 := (Qab r3_2 e3)
  have r3_4 := (Qab r3_3 e4)
  have r3_5 := (Qbb l5 r3_4 (Qat r3_2))
  have r3_6 := (Qab r3_5 e6)
  have r3_7 := (Puts.row p7 r3_6 (Qaf r3_5 l11))
  have r3_8 := (Qal.row q8 r3_7 (Qau (Qaf r3_5 l11) QaG))
  refine Qai g3 _ (ints .u8 (s)) 23 r3_8 rfl kj (Qaq 23 _ _ g3 23 _ _ r3_8 rfl kj kj (isz (n := 32) kj ((Qac _ _).trans hsl2)) (eqsz (n := 32) ((Qac _ _).trans (List.length_replicate (n := 32))) ((Qac _ _).trans hsl2)) (Qa2 _ _)) fun W9 p9 r3_9 => ?_
  have x9 : Ext w W9 := Puts.ext p9 xx1 b3
  refine Qaj ?_
  refine hK34 _ _ ?_
  refine wp_ret ?_
  repeat (first | with_reducible refine goR1 ?_ | with_reducible refine goR2 ?_)
  exact (show bodyPost _ _ _ .ret _ _ from ret1 (.agg (ints .u8 (s))) rfl (QaR g3 23 _ r3_9 kj kj (isz (n := 32) kj ((Qac _ _).trans hsl2))) ⟨congrArg (fun z => Ending.returned (.agg (ints .u8 z))) (show s = QaL sec 3 j from hlf.symm), x9⟩)
set_option maxHeartbeats 4000000 in
theorem ofR (sec : List Int) (hsl : sec.length = 32) (hsb : Qao sec) (num : Int) (w : World) : Calls Tryd.prog 25 #[.agg (ints .u8 sec), .int .i64 num] w (QbH w (fun v W => ∃ u, v = .agg (cat [#[.int .i64 num], ints .u8 ((keyV sec).take 32), #[u]]) ∧ RdK .u8 W.heap.size ((keyV sec).drop 32) u W)) := by
 have hkv : keyV sec = kx sec (Qbd (strB sKey) [] 44) 44 := by unfold keyV; rfl
 refine enter 29 [(0, .agg (ints .u8 (sec))), (1, .int .i64 num)] Tryd.func25 rfl rfl kj rfl ?_
 refine wp_seq_k fun K1 hK1 => ?_
 refine Qad ?_
 refine Qar (ints .u8 (sec)) 23 2 rfl kj kj fun g2 W1 l2 e1 r2_1 => ?_
 have x1 : Ext w W1 := Ext.tr (Rely.Ext.refl w) e1
 have b2 : w.heap.size ≤ g2 := Nat.le_trans (Rely.Ext.refl w).size l2
 refine Qar (cat [#[.int .i64 0], ints .u8 (List.replicate 32 0), #[.slice none 0 0]]) 50 4 rfl kj kj fun g3 W2 l3 e2 r3_2 => ?_
 have x2 : Ext w W2 := Ext.tr x1 e2
 have b3 : w.heap.size ≤ g3 := Nat.le_trans x1.size l3
 refine Qaj ?_
 refine hK1 _ _ ?_
 refine wp_seq_k fun K4 hK4 => ?_
 refine Qad ?_
 have r2_2 := (Qab r2_1 e2)
 refine Qaa (.agg (ints .u8 (sec))) 10 rfl kj (Qaw 23 _ g2 23 _ _ r2_2 rfl kj kj (isz (n := 32) kj ((Qac _ _).trans hsl))) ?_
 refine Qa8 (fun v W' => (fun v W => ∃ u, v = .tuple #[u, .bool true] ∧ OwnN .u8 5 W2.heap.size (kx sec (Qbd (strB sKey) [] 44) 44) u W) v W' ∧ Ext W2 W') 37 #[.agg (ints .u8 (sec)), .string sKey, .slice none 0 0, .int .i64 44] 11 rfl kj kj ((Qhw sec [] sKey (.slice none 0 0) _ _ hsl hsb (fun x hx => by cases hx) (nilrd _) 44 (by decide) Qgb (by decide)).mono (by rintro e w' ⟨v, rfl, e1, hv⟩; exact ⟨v, rfl, hv, e1⟩)) fun vv5 W3 hh5 => ?_
 obtain ⟨hv5, e3⟩ := hh5
 have x3 : Ext w W3 := Ext.tr x2 e3
 obtain ⟨uu, rfl, huu0⟩ := hv5
 have huu := huu0
 rw [← hkv] at huu
 obtain ⟨au, cu, rfl, hcu, -⟩ := id (OwnN.rd huu)
 have nb4 : (Value.slice au (keyV sec).length cu).ownBlock ≠ some g3 := fun e => by have h1 := OwnN.ge huu e; have h2 := Qat r3_2; omega
 refine Qaa (.tuple #[.slice au ((keyV sec).length) cu, .bool true]) 9 rfl kj kj ?_
 refine Qaa (.slice au ((keyV sec).length) cu) 12 rfl kj kj ?_
 refine Qaa (.bool true) 13 rfl kj kj ?_
 refine Qaa (.slice au ((keyV sec).length) cu) 5 rfl kj kj ?_
 refine Qaa (.bool true) 6 rfl kj kj ?_
 refine Qaj ?_
 refine hK4 _ _ ?_
 refine wp_seq_k fun K6 hK6 => ?_
 refine Qad ?_
 refine Qar (ints .u8 (List.replicate 32 0)) 37 7 rfl kj kj fun g7 W4 l7 e4 r7_4 => ?_
 have x4 : Ext w W4 := Ext.tr x3 e4
 have b7 : w.heap.size ≤ g7 := Nat.le_trans x3.size l7
 refine Qaj ?_
 refine hK6 _ _ ?_
 refine wp_seq_k fun K8 hK8 => ?_
 refine wp_seq_k fun K9 hK9 => ?_
 refine Qad ?_
 refine Qaa (.int .i64 0) 8 rfl kj kj ?_
 refine Qaj ?_
 refine hK9 _ _ ?_
 refine wp_block ?_
 refine Qa9 (fun (s1 : Nat) => [(1, .int .i64 num), (2, .pointer (some ⟨g2, 0, none⟩)), (4, .pointer (some ⟨g3, 0, none⟩)), (5, .slice au ((keyV sec).length) cu), (7, .pointer (some ⟨g7, 0, none⟩)), (8, .int .i64 ((s1 : Nat) : Int))]) (fun (s1 : Nat) W => (s1 ≤ 32) ∧ (W.heap[g7]? = some (.cells (ints .u8 (Qc8 ((keyV sec).take 32) 32 s1)) 37)) ∧ (Qal [g7] W4 W) ∧ (Ext w W)) (fun (s1 : Nat) => 32 - s1) 0 ⟨rfl, rfl, rfl, rfl, rfl, rfl, trivial⟩ ⟨(by decide), (QaV r7_4 (Qe2 ((keyV sec).take 32) 32)), (Qal.refl [g7] W4), x4⟩ fun s1 X1 V1 hI1 => ?_
 obtain ⟨i, hs1⟩ : ∃ z, z = s1 := ⟨_, rfl⟩
 subst hs1
 obtain ⟨hi, q7_1, kk1, xx1⟩ := hI1
 replace hi : i ≤ 32 := hi
 replace q7_1 : V1.heap[g7]? = some (.cells (ints .u8 (Qc8 ((keyV sec).take 32) 32 i)) 37) := q7_1
 replace kk1 : Qal [g7] W4 V1 := kk1
 replace xx1 : Ext w V1 := xx1
 have q5 := kk1
 refine wp_seq_k fun K10 hK10 => ?_
 refine wp_seq_k fun K11 hK11 => ?_
 refine Qad ?_
 refine Qaa (.int .i64 ((i : Nat) : Int)) 14 rfl kj kj ?_
 refine Qaa (.bool (decide (((i : Nat) : Int) < 32))) 15 rfl kj kj ?_
 refine Qaj ?_
 refine hK11 _ _ ?_
 refine Qa5 (t := decide (((i : Nat) : Int) < 32)) kj (fun c12 => ?_) (fun c12 => ?_)
 ·skip
  have hlt : i < 32 := by have := of_decide_eq_true c12; omega
  refine wp_skip ?_
  refine hK10 _ _ ?_
  refine wp_seq_k fun K13 hK13 => ?_
  refine wp_block ?_
  refine Qad ?_
  refine Qaa (.int .i64 ((i : Nat) : Int)) 18 rfl kj kj ?_
  refine Qaa (.slice au ((keyV sec).length) cu) 19 rfl kj kj ?_
  refine Qaa (.int .i64 ((i : Nat) : Int)) 20 rfl kj kj ?_
  have f15_4 := (huu.ext e4)
  have f16_5 := (Go.Proofs.YtibegnjaphohaaaDoor.Auto.OwnN.keepsL f15_4 q5 (nb_cons (QcM huu l7) nb_nil))
  have hnu_14 : (keyV sec).length = 44 := (QaF _)
  obtain ⟨gcu_14, ocu_14, hau_14, hlu_14, hcu_14⟩ := rdK_open (OwnN.rd f16_5) (by rw [hnu_14]; omega)
  refine Qaa (.pointer (some ⟨gcu_14, ocu_14 + i, none⟩)) 21 rfl kj (run_indexA 38 _ _ .i64 i gcu_14 ocu_14 ((keyV sec).length) cu 5 au _ hau_14 rfl rfl kj kj kj kj (Nat.lt_of_lt_of_eq (show i < 44 by omega) hnu_14.symm)) ?_
  refine Qaa (.int .u8 (nth (keyV sec) (i))) 22 rfl kj (QaA 5 _ _ (.int .u8 (nth (keyV sec) (i))) (hcu_14 i (Nat.lt_of_lt_of_eq (show i < 44 by omega) hnu_14.symm)) rfl kj kj) ?_
  refine Qaa (.pointer (some ⟨g7, i, none⟩)) 23 rfl kj (Qbc _ _ _ .i64 (i) _ 32 5 rfl kj kj kj kj (by omega)) ?_
  refine Qai g7 _ (ints .u8 ((Qc8 ((keyV sec).take 32) 32 i).set i (nth (keyV sec) (i)))) 37 q7_1 rfl kj (Qam 5 _ _ g7 i 37 _ _ q7_1 rfl kj kj kj (Nat.lt_of_lt_of_eq (by omega) (Qf4 _ 32 i (QaW (QaF _)) hi).symm)) fun W6 p6 r7_6 => ?_
  have x6 : Ext w W6 := Puts.ext p6 xx1 b7
  refine Qaj ?_
  refine hK13 _ _ ?_
  refine Qad ?_
  refine Qaa (.int .i64 ((i : Nat) : Int)) 16 rfl kj kj ?_
  refine Qaa (.int .i64 ((i + 1 : Nat) : Int)) 17 rfl kj (Qag (u := .int .i64 (IntKind.i64.wrap (((i : Nat) : Int) + 1))) kj (congrArg (Value.int .i64) (i64n _ _ (by omega) (by omega)))) ?_
  refine Qaa (.int .i64 ((i + 1 : Nat) : Int)) 8 rfl kj kj ?_
  refine Qaj ?_
  repeat (first | with_reducible refine goX1 ?_ | with_reducible refine goX2 ?_ | with_reducible refine goX3 ?_)
  exact Qa4 (i + 1) ⟨rfl, rfl, rfl, rfl, rfl, rfl, trivial⟩ ⟨(by omega), (QaV r7_6 (QgW _ (QaF _) i hlt)), (Qal.puts q5 p6 (.inl (by simp))), x6⟩ (by show 32 - (i + 1) < 32 - i; omega)
 ·skip
  have hie : i = 32 := by have := of_decide_eq_false c12; omega
  subst hie
  have r7_5_17 : V1.heap[g7]? = some (.cells (ints .u8 ((keyV sec).take 32)) 37) := QaV q7_1 (Qe4 _ 32 (QaW (QaF _)))
  refine wp_exit ?_
  refine hK8 _ _ ?_
  refine wp_seq_k fun K18 hK18 => ?_
  refine Go.Proofs.YtibegnjaphohaaaDoor.Wm.region_walkM (fun W => W.heap[g7]? = some (.cells (ints .u8 ((keyV sec).take 32)) 37)) 5 kj fun W6 e6 => ⟨Qab r7_5_17 e6, ?_⟩
  have x6 : Ext w W6 := Ext.tr xx1 e6
  refine Go.Proofs.YtibegnjaphohaaaDoor.Wm.wm_val 0 (.int .i64 num) 24 rfl rfl kj kj (by decide) kj (fun _ _ _ h => h) (fun W hR => by kernel_rfl) ?_
  refine Go.Proofs.YtibegnjaphohaaaDoor.Wm.wm_val 1 (.agg (ints .u8 ((keyV sec).take 32))) 25 rfl rfl kj kj (by decide) kj (fun _ _ _ h => h) (fun W hR => (Qaw 37 _ g7 37 _ _ hR rfl kj kj (isz (n := 32) kj ((Qac _ _).trans (QaW (QaF _)))))) ?_
  refine Go.Proofs.YtibegnjaphohaaaDoor.Wm.wm_val 2 (.slice au ((keyV sec).length) cu) 26 rfl rfl kj kj (by decide) kj (fun _ _ _ h => h) (fun W hR => by kernel_rfl) ?_
  refine Go.Proofs.YtibegnjaphohaaaDoor.Wm.wm_val 3 (.slice (QdQ au cu 32) ((keyV sec).length - 32) (cu - 32)) 27 rfl rfl kj kj (by decide) kj (fun _ _ _ h => h) (fun W hR => (QgJ 38 _ _ 32 5 rfl kj kj kj .i64 kj (by rw [QaF]; decide) hcu)) ?_
  refine Go.Proofs.YtibegnjaphohaaaDoor.Wm.wm_val 4 (.agg (cat [#[.int .i64 num], ints .u8 ((keyV sec).take 32), #[.slice (QdQ au cu 32) ((keyV sec).length - 32) (cu - 32)]])) 28 rfl rfl kj kj (by decide) kj (fun _ _ _ h => h) (fun W hR => (Qev 50 _ (.agg (cat [#[.int .i64 0], ints .u8 (List.replicate 32 0), #[.slice none 0 0]])) #[(0, 1), (1, 32), (33, 1)] [(0, 1, .int .i64 num, #[.int .i64 num]), (1, 32, .agg (ints .u8 ((keyV sec).take 32)), ints .u8 ((keyV sec).take 32)), (2, 1, .slice (QdQ au cu 32) ((keyV sec).length - 32) (cu - 32), #[.slice (QdQ au cu 32) ((keyV sec).length - 32) (cu - 32)])] rfl kj ⟨kj, rfl, kj, kj, rfl, ((Qac _ _).trans (QaW (QaF _))), kj, rfl, kj, trivial⟩ kj kj kj kj)) ?_
  have r7_6 := (Qab r7_5_17 e6)
  have r3_3 := (Qab r3_2 e3)
  have r3_4 := (Qab r3_3 e4)
  have r3_5 := (Qal.row q5 r3_4 (Qau (Qaf r3_3 l7) QaG))
  have r3_6 := (Qab r3_5 e6)
  refine Go.Proofs.YtibegnjaphohaaaDoor.Wm.wm_store g3 _ (cat [#[.int .i64 num], ints .u8 ((keyV sec).take 32), #[.slice (QdQ au cu 32) ((keyV sec).length - 32) (cu - 32)]]) 50 r3_6 kj kj rfl rfl kj (Qaq 50 _ _ g3 50 _ _ r3_6 rfl kj kj (isz (n := 34) kj (by rw [Qae, Qae, Qae]; simp only [Array.size_append, cat, ((Qac _ _).trans (QaW (QaF _)))]; rfl)) (eqsz (n := 34) (by rw [Qae, Qae, Qae]; simp only [Array.size_append, cat, ((Qac _ _).trans (List.length_replicate (n := 32)))]; rfl) (by rw [Qae, Qae, Qae]; simp only [Array.size_append, cat, ((Qac _ _).trans (QaW (QaF _)))]; rfl)) (QbG _ (by intro a ha; simp only [List.mem_cons, List.not_mem_nil, or_false] at ha; rcases ha with rfl | rfl | rfl; exact (QaU _ rfl); exact (Qa2 _ _); exact (QaU _ rfl)))) fun W7 p7 r3_7 => ?_
  have x7 : Ext w W7 := Puts.ext p7 x6 b3
  refine hK18 _ _ ?_
  refine wp_ret ?_
  repeat (first | with_reducible refine goR1 ?_ | with_reducible refine goR2 ?_)
  have f19_4 := (huu.ext e4)
  have f20_5 := (Go.Proofs.YtibegnjaphohaaaDoor.Auto.OwnN.keepsL f19_4 q5 (nb_cons (QcM huu l7) nb_nil))
  have f21_6 := (f20_5.ext e6)
  have f22_7 := (f21_6.puts p7 nb4)
  exact (show bodyPost _ _ _ .ret _ _ from ret1 (.agg (cat [#[.int .i64 num], ints .u8 ((keyV sec).take 32), #[.slice (QdQ au cu 32) ((keyV sec).length - 32) (cu - 32)]])) rfl (QaR g3 50 _ r3_7 kj kj (isz (n := 34) kj (by rw [Qae, Qae, Qae]; simp only [Array.size_append, cat, ((Qac _ _).trans (QaW (QaF _)))]; rfl))) ⟨_, rfl, x7, _, rfl, Qiy (OwnN.rd f22_7) 32 (by rw [QaF]; decide)⟩)
end Go.Proofs.YtibegnjaphohaaaDoor.Cn
end
section
namespace Go.Proofs.YtibegnjaphohaaaDoor.Cn
open Go Go.RowKit
open Rely Auto Own Sha
set_option linter.unusedVariables false
set_option linter.unusedSimpArgs false
open Go.Proofs.YtibegnjaphohaaaDoor
set_option maxHeartbeats 4000000 in
theorem QkW (n : Int) (kk xs : List Int) (u1 u2 : Value) (B1 B2 : Nat) (w : World) (hkk : kk.length = 32) (hxb : Qao xs) (h1 : RdK .u8 B1 xs u1 w) (h2 : RdK .u8 B2 xs u2 w) : Calls Tryd.prog 21 #[.agg (cat [#[.int .i64 n], ints .u8 (kk), #[u1]]), .agg (cat [#[.int .i64 n], ints .u8 (kk), #[u2]])] w (Ret w (.bool true)) := by
  refine enter 24 [(0, .agg (cat [#[.int .i64 n], ints .u8 (kk), #[u1]])), (1, .agg (cat [#[.int .i64 n], ints .u8 (kk), #[u2]]))] Tryd.func21 rfl rfl kj rfl ?_
  refine wp_seq_k fun K1 hK1 => ?_
  refine Qad ?_
  refine Qar (cat [#[.int .i64 n], ints .u8 (kk), #[u1]]) 40 2 rfl kj kj fun g2 W1 l2 e1 r2_1 => ?_
  have x1 : Ext w W1 := Ext.tr (Rely.Ext.refl w) e1
  have b2 : w.heap.size ≤ g2 := Nat.le_trans (Rely.Ext.refl w).size l2
  refine Qar (cat [#[.int .i64 n], ints .u8 (kk), #[u2]]) 50 3 rfl kj kj fun g3 W2 l3 e2 r3_2 => ?_
  have x2 : Ext w W2 := Ext.tr x1 e2
  have b3 : w.heap.size ≤ g3 := Nat.le_trans x1.size l3
  refine Qaa (.bool false) 4 rfl kj kj ?_
  refine Qaj ?_
  refine hK1 _ _ ?_
  refine wp_seq_k fun K4 hK4 => ?_
  refine Qad ?_
  refine Qaa (.pointer (some ⟨g2, 0, none⟩)) 5 rfl kj kj ?_
  have r2_2 := (Qab r2_1 e2)
  refine Qaa (.int .i64 n) 6 rfl kj (Qah 3 _ g2 0 40 _ (.int .i64 n) _ r2_2 rfl kj (Qa0 [] [#[.int .i64 n]] [ints .u8 (kk), #[u1]] 0 kj 0 _ rfl) kj) ?_
  refine Qaa (.pointer (some ⟨g3, 0, none⟩)) 7 rfl kj kj ?_
  refine Qaa (.int .i64 n) 8 rfl kj (Qah 3 _ g3 0 50 _ (.int .i64 n) _ r3_2 rfl kj (Qa0 [] [#[.int .i64 n]] [ints .u8 (kk), #[u2]] 0 kj 0 _ rfl) kj) ?_
  refine Qaa (.bool true) 9 rfl kj (Qag (u := .bool ((n == n))) kj (congrArg Value.bool (by simp))) ?_
  refine Qaa (.bool true) 10 rfl kj kj ?_
  refine Qaa (.pointer (some ⟨g2, 1, none⟩)) 11 rfl kj kj ?_
  refine Qaa (.agg (ints .u8 (kk))) 12 rfl kj (QaE 37 _ g2 1 40 _ _ _ r2_2 rfl kj (Qa0 [#[.int .i64 n]] [ints .u8 (kk)] [#[u1]] 1 kj) kj (isz (n := 32) kj ((Qac _ _).trans hkk))) ?_
  refine Qaa (.pointer (some ⟨g3, 1, none⟩)) 13 rfl kj kj ?_
  refine Qaa (.agg (ints .u8 (kk))) 14 rfl kj (QaE 37 _ g3 1 50 _ _ _ r3_2 rfl kj (Qa0 [#[.int .i64 n]] [ints .u8 (kk)] [#[u2]] 1 kj) kj (isz (n := 32) kj ((Qac _ _).trans hkk))) ?_
  refine Qaa (.bool true) 15 rfl kj (QfG 37 _ _ _ _ _ (.bool true) rfl kj kj kj (Qid 37 (e := 5) (k := .u8) (kk) (kk) (decide_eq_true rfl) hkk hkk kj kj kj _)) ?_
  refine Qaa (.bool true) 16 rfl kj kj ?_
  refine Qaa (.bool true) 17 rfl kj kj ?_
  refine Qaa (.pointer (some ⟨g2, 33, none⟩)) 18 rfl kj kj ?_
  refine Qaa (u1) 19 rfl kj (Qah 38 _ g2 33 40 _ (u1) _ r2_2 rfl kj (Qa0 [#[.int .i64 n], ints .u8 (kk)] [#[u1]] [] 33 (by rw [Qae, Qae]; simp only [Array.size_append, cat, ((Qac _ _).trans hkk)]; rfl) 0 _ rfl) kj) ?_
  refine Qaa (.pointer (some ⟨g3, 33, none⟩)) 20 rfl kj kj ?_
  refine Qaa (u2) 21 rfl kj (Qah 38 _ g3 33 50 _ (u2) _ r3_2 rfl kj (Qa0 [#[.int .i64 n], ints .u8 (kk)] [#[u2]] [] 33 (by rw [Qae, Qae]; simp only [Array.size_append, cat, ((Qac _ _).trans hkk)]; rfl) 0 _ rfl) kj) ?_
  refine Qax (.bool true) 24 #[u1, u2] 22 rfl kj kj (QkV u1 u2 xs _ (RdK.bytes (RdK.ext h1 x2) hxb) (RdK.bytes (RdK.ext h2 x2) hxb)) fun W3 e3 => ?_
  have x3 : Ext w W3 := Ext.tr x2 e3
  refine Qaa (.bool true) 23 rfl kj kj ?_
  refine Qaa (.bool true) 4 rfl kj kj ?_
  refine Qaj ?_
  refine hK4 _ _ ?_
  refine wp_ret ?_
  repeat (first | with_reducible refine goR1 ?_ | with_reducible refine goR2 ?_)
  exact (show bodyPost _ _ _ .ret _ _ from ret1 (.bool true) rfl (Qa7 kj) ⟨rfl, x3⟩)
def OfIs (s : List Int) (n : Int) (v : Value) (W : World) : Prop := ∃ u B, v = .agg (cat [#[.int .i64 n], ints .u8 ((keyV s).take 32), #[u]]) ∧ RdK .u8 B ((keyV s).drop 32) u W
theorem QfM (s : List Int) (n : Int) : Qbp Ext (OfIs s n) := fun v W W' hR h => by obtain ⟨u, B, e, h⟩ := h; exact ⟨u, B, e, h.ext hR⟩
theorem ofG (s : List Int) (hsl : s.length = 32) (hsb : Qao s) (n : Int) (w : World) : Calls Tryd.prog 25 #[.agg (ints .u8 s), .int .i64 n] w (QbH w (OfIs s n)) :=
  (ofR s hsl hsb n w).mono fun e W h => by obtain ⟨v, h1, h2, u, h3, h4⟩ := h; exact ⟨v, h1, h2, u, _, h3, h4⟩
theorem QfN (s0 : List Int) (i : Nat) : Qda [] s0 i i = [] := by
  unfold Qda
  rw [show i + 1 - i = 1 by omega]
  simp [QbM, msNo, QfO]
theorem Qeg {g mg b : Nat} {s0 ts : List Int} {pl : Nat} {ms : List (Int × List Int)} {W W' : World} {c : Array Value} {T : TypeId} (h : ChSt g mg s0 ts pl ms W) (p : Puts W b W') (r : W.heap[b]? = some (.cells c T)) (hT : T ≠ 84) : ChSt g mg s0 ts pl ms W' :=
  h.keep (p.2.2.2.2 g (fun e => by obtain ⟨B, -, h2⟩ := h.row; rw [e] at h2; exact Qdz r h2 hT)) (p.2.2.2.2 mg (Ne.symm (MpAt.ne h.mp r)))
set_option maxHeartbeats 4000000 in
theorem lawLinks (sec : List Int) (hsl : sec.length = 32) (hsb : Qao sec) (x : Int) (tc tq : TypeId) (w : World) (hc : w.heap[2]? = some (.cells (ints .u64 QaI) tc)) (hq : w.heap[1]? = some (.cells (ints .u64 Qak) tq)) (hT : Seat.TabAt w) : Calls Tryd.prog 6 #[.agg (ints .u8 sec), .int .i64 x] w (Ret w (.bool true)) := by
 refine enter 47 [(0, .agg (ints .u8 (sec))), (1, .int .i64 x)] Tryd.func6 rfl rfl kj rfl ?_
 refine wp_seq_k fun K3 hK3 => ?_
 refine Qad ?_
 refine Qar (ints .u8 (sec)) 23 2 rfl kj kj fun g4 W1 l4 e1 r4_1 => ?_
 have x1 : Ext w W1 := Ext.tr (Rely.Ext.refl w) e1
 have b4 : w.heap.size ≤ g4 := Nat.le_trans (Rely.Ext.refl w).size l4
 refine Qaa (.bool false) 4 rfl kj kj ?_
 refine Qaj ?_
 refine hK3 _ _ ?_
 refine wp_seq_k fun K5 hK5 => ?_
 refine wp_seq_k fun K6 hK6 => ?_
 refine Qad ?_
 have r1_1 := (Qab hc e1)
 have r2_1 := (Qab hq e1)
 refine Qax (.bool true) 8 #[] 10 rfl kj kj (Qkd tc tq _ r1_1 r2_1 (hT.ext x1)) fun W2 e2 => ?_
 have x2 : Ext w W2 := Ext.tr x1 e2
 refine Qaa (.bool false) 11 rfl kj kj ?_
 refine Qaj ?_
 refine hK6 _ _ ?_
 refine cond_false kj ?_
 refine wp_skip ?_
 refine hK5 _ _ ?_
 refine wp_seq_k fun K7 hK7 => ?_
 skip
 ·skip
  obtain ⟨j, hj, hje⟩ := Qj3 x 8 (by decide)
  refine Qad ?_
  refine Qaa (.int .i64 x) 12 rfl kj kj ?_
  refine Qaa (.int .u64 (IntKind.u64.wrap (x))) 13 rfl kj kj ?_
  refine Qaa (.int .u64 (((j : Nat) : Int))) 14 rfl kj (Qag (u := .int .u64 (Int.tmod ((IntKind.u64.wrap (x))) (8))) kj (congrArg (Value.int .u64) (show Int.tmod _ (8 : Int) = _ from hje))) ?_
  refine Qaa (.int .i64 (((j : Nat) : Int))) 15 rfl kj (Qag (u := .int .i64 (IntKind.i64.wrap (((j : Nat) : Int)))) kj (congrArg (Value.int .i64) (QhO j (by omega)))) ?_
  refine Qaa (.int .i64 (((j : Nat) : Int))) 1 rfl kj kj ?_
  refine Qaj ?_
  refine hK7 _ _ ?_
  refine wp_seq_k fun K8 hK8 => ?_
  refine Qad ?_
  have r4_2 := (Qab r4_1 e2)
  refine Qaa (.agg (ints .u8 (sec))) 16 rfl kj (Qaw 23 _ g4 23 _ _ r4_2 rfl kj kj (isz (n := 32) kj ((Qac _ _).trans hsl))) ?_
  have r1_2 := (Qab r1_1 e2)
  have r2_2 := (Qab r2_1 e2)
  refine Qa8 (fun v W' => (NewR (sec) 3 W2) v W' ∧ Ext W2 W') 9 #[.agg (ints .u8 (sec)), .int .i64 8] 17 rfl kj kj ((newC 3 (by decide) (sec) tc tq _ r1_2 r2_2 (hT.ext x2) hsl hsb).mono (by rintro e w' ⟨v, rfl, e1, hv⟩; exact ⟨v, rfl, hv, e1⟩)) fun vv9 W3 hh9 => ?_
  obtain ⟨hv9, e3⟩ := hh9
  have x3 : Ext w W3 := Ext.tr x2 e3
  obtain ⟨gcA, glA, capA, lpA, nsA, rfl, lgcA, hnsA, hgcA, hglA, heaA, dn1A, dn2A⟩ := hv9
  obtain ⟨pa, hpa⟩ : ∃ p, nsA[j]? = some p := ⟨_, List.getElem?_eq_getElem (show j < nsA.length by rw [hnsA]; exact hj)⟩
  obtain ⟨hla, hsa, loa, lma⟩ := heaA _ _ hpa
  obtain ⟨ga, ma⟩ := pa
  replace hsa : ChSt ga ma (QaL sec 3 j) [] 0 [] W3 := hsa
  have lo0a : w.heap.size ≤ ga := Nat.le_trans x2.size loa
  have lm0a : w.heap.size ≤ ma := Nat.le_trans x2.size lma
  refine Qaa (.pointer (some ⟨gcA, 0, none⟩)) 5 rfl kj kj ?_
  refine Qaj ?_
  refine hK8 _ _ ?_
  refine wp_seq_k fun K12 hK12 => ?_
  refine Qad ?_
  have r4_3 := (Qab r4_2 e3)
  refine Qaa (.agg (ints .u8 (sec))) 18 rfl kj (Qaw 23 _ g4 23 _ _ r4_3 rfl kj kj (isz (n := 32) kj ((Qac _ _).trans hsl))) ?_
  refine Qaa (.int .i64 (((j : Nat) : Int))) 19 rfl kj kj ?_
  have hsjl : (QaL sec 3 j).length = 32 := hsa.len
  have hsjb : Qao (QaL sec 3 j) := hsa.byt
  refine Qax (.agg (ints .u8 (QaL sec 3 j))) 11 #[.agg (ints .u8 (sec)), .int .i64 8, .int .i64 (((j : Nat) : Int))] 20 rfl kj kj ((fun W => Qlf sec hsl hsb j hj W) _) fun W4 e4 => ?_
  have x4 : Ext w W4 := Ext.tr x3 e4
  refine Qar (ints .u8 (List.replicate 32 0)) 23 6 rfl kj kj fun g13 W5 l13 e5 r13_5 => ?_
  have x5 : Ext w W5 := Ext.tr x4 e5
  have b13 : w.heap.size ≤ g13 := Nat.le_trans x4.size l13
  refine Qai g13 _ (ints .u8 (QaL sec 3 j)) 23 r13_5 rfl kj (Qaq 23 _ _ g13 23 _ _ r13_5 rfl kj kj (isz (n := 32) kj ((Qac _ _).trans hsjl)) (eqsz (n := 32) ((Qac _ _).trans (List.length_replicate (n := 32))) ((Qac _ _).trans hsjl)) (Qa2 _ _)) fun W6 p6 r13_6 => ?_
  have x6 : Ext w W6 := Puts.ext p6 x5 b13
  refine Qaj ?_
  refine hK12 _ _ ?_
  refine wp_seq_k fun K14 hK14 => ?_
  refine wp_seq_k fun K15 hK15 => ?_
  refine Qad ?_
  refine Qaa (.int .i64 0) 21 rfl kj kj ?_
  refine Qaj ?_
  refine hK15 _ _ ?_
  refine wp_block ?_
  have ha_4 := (ChSt.ext hsa e4)
  have ha_5 := (ChSt.ext ha_4 e5)
  have ha_6 := (Qeg ha_5 p6 r13_5 (by decide))
  have r10_4 := (Qab hgcA e4)
  have r10_5 := (Qab r10_4 e5)
  have r10_6 := (Puts.row p6 r10_5 (Qaf r10_4 l13))
  have ng_gcA : gcA ≠ ga := fun e => by obtain ⟨B, -, h9⟩ := (ha_6).row; have h8 := r10_6; rw [e] at h8; exact Qdz h8 h9 (by decide)
  have nm_gcA : gcA ≠ ma := MpAt.ne (ha_6).mp r10_6
  have r11_4 := (Qab hglA e4)
  have r11_5 := (Qab r11_4 e5)
  have r11_6 := (Puts.row p6 r11_5 (Qaf r11_4 l13))
  have ng_glA : glA ≠ ga := fun e => by obtain ⟨B, -, h9⟩ := (ha_6).row; have h8 := r11_6; rw [e] at h8; exact Qdz h8 h9 (by decide)
  have nm_glA : glA ≠ ma := MpAt.ne (ha_6).mp r11_6
  have ng_g13 : g13 ≠ ga := fun e => by obtain ⟨B, -, h9⟩ := (ha_6).row; have h8 := r13_6; rw [e] at h8; exact Qdz h8 h9 (by decide)
  have nm_g13 : g13 ≠ ma := MpAt.ne (ha_6).mp r13_6
  refine Qa9 (fun (s1 : Nat) => [(1, .int .i64 (((j : Nat) : Int))), (5, .pointer (some ⟨gcA, 0, none⟩)), (6, .pointer (some ⟨g13, 0, none⟩)), (21, .int .i64 ((s1 : Nat) : Int))]) (fun (s1 : Nat) W => (s1 ≤ 5) ∧ (ChSt ga ma (QaL sec 3 j) (upTo s1) s1 [] W) ∧ (W.heap[g13]? = some (.cells (ints .u8 (itV (QaL sec 3 j) s1)) 23)) ∧ (Qal [g13, ga, ma] W6 W) ∧ (Ext w W)) (fun (s1 : Nat) => 5 - s1) 0 ⟨rfl, rfl, rfl, rfl, trivial⟩ ⟨(Nat.zero_le _), ha_6, (QaV r13_6 (show QaL sec 3 j = itV (QaL sec 3 j) 0 from rfl)), (Qal.refl [g13, ga, ma] W6), x6⟩ fun s1 X1 V1 hI1 => ?_
  obtain ⟨i, hs1⟩ : ∃ z, z = s1 := ⟨_, rfl⟩
  subst hs1
  obtain ⟨hi, hsa_, q13_1, kk1, xx1⟩ := hI1
  replace hi : i ≤ 5 := hi
  replace hsa_ : ChSt ga ma (QaL sec 3 j) (upTo i) i [] V1 := hsa_
  replace q13_1 : V1.heap[g13]? = some (.cells (ints .u8 (itV (QaL sec 3 j) i)) 23) := q13_1
  replace kk1 : Qal [g13, ga, ma] W6 V1 := kk1
  replace xx1 : Ext w V1 := xx1
  have q7 := kk1
  refine wp_seq_k fun K18 hK18 => ?_
  refine Qad ?_
  refine Qaa (.bool (decide (((i : Nat) : Int) < 5))) 22 rfl kj kj ?_
  refine Qaj ?_
  refine hK18 _ _ ?_
  refine wp_seq_k fun K19 hK19 => ?_
  refine Qa5 (t := decide (((i : Nat) : Int) < 5)) kj (fun c20 => ?_) (fun c20 => ?_)
  ·skip
   have hlt22 : i < 5 := by have := of_decide_eq_true c20; omega
   refine wp_skip ?_
   refine hK19 _ _ ?_
   refine wp_seq_k fun K21 hK21 => ?_
   refine wp_block ?_
   refine wp_seq_k fun K22 hK22 => ?_
   refine Qad ?_
   refine Qaa (.int .i64 ((i : Nat) : Int)) 23 rfl kj kj ?_
   refine Qaa (.int .i64 ((i : Nat) : Int)) 7 rfl kj kj ?_
   refine Qaj ?_
   refine hK22 _ _ ?_
   refine wp_seq_k fun K23 hK23 => ?_
   refine Qad ?_
   refine Qaa (.pointer (some ⟨gcA, 0, none⟩)) 25 rfl kj kj ?_
   refine Qaa (.int .i64 (((j : Nat) : Int))) 26 rfl kj kj ?_
   have r10_7 := (Qal.row q7 r10_6 (Qau (Qaf r10_4 l13) (Qau ng_gcA (Qau nm_gcA QaG))))
   have r11_7 := (Qal.row q7 r11_6 (Qau (Qaf r11_4 l13) (Qau ng_glA (Qau nm_glA QaG))))
   have r1_3 := (Qab r1_2 e3)
   have r1_4 := (Qab r1_3 e4)
   have r1_5 := (Qab r1_4 e5)
   have r1_6 := (Puts.row p6 r1_5 (Qaf r1_4 l13))
   have r1_7 := (Qal.row q7 r1_6 (Qau (Qaf r1_4 l13) (Qau (Nat.ne_of_lt (Nat.lt_of_lt_of_le (Qat hc) lo0a)) (Qau (Nat.ne_of_lt (Nat.lt_of_lt_of_le (Qat hc) lm0a)) QaG))))
   have r2_3 := (Qab r2_2 e3)
   have r2_4 := (Qab r2_3 e4)
   have r2_5 := (Qab r2_4 e5)
   have r2_6 := (Puts.row p6 r2_5 (Qaf r2_4 l13))
   have r2_7 := (Qal.row q7 r2_6 (Qau (Qaf r2_4 l13) (Qau (Nat.ne_of_lt (Nat.lt_of_lt_of_le (Qat hq) lo0a)) (Qau (Nat.ne_of_lt (Nat.lt_of_lt_of_le (Qat hq) lm0a)) QaG))))
   refine Qa8 (fun v W' => ∃ u, v = .tuple #[u, .nilIface] ∧ Qal [ga, ma] V1 W' ∧ ChSt ga ma (QaL sec 3 j) (upTo i ++ [((i : Nat) : Int)]) (max i (i + 1)) (Qda [] (QaL sec 3 j) i i) W' ∧ QcJ V1.heap.size ((i : Nat) : Int) (keyV (itV (QaL sec 3 j) i)) u W') 12 #[.pointer (some ⟨gcA, 0, none⟩), .int .i64 (((j : Nat) : Int))] 27 rfl kj kj ((Qky gcA glA (2 ^ 3) capA lpA _ r10_7 r11_7 ga j hj hla tc tq r1_7 r2_7 hsa_ (QkF (by omega)) (Nat.ne_of_lt (Nat.lt_of_lt_of_le (Qat hc) lo0a)) (Nat.ne_of_lt (Nat.lt_of_lt_of_le (Qat hq) lo0a))).mono (by rintro e w' ⟨v, rfl, q1, q2, q3⟩; exact ⟨_, rfl, _, rfl, q1, q2, q3⟩)) fun vv24 W8 hh24 => ?_
   obtain ⟨uu24, rfl, q8, hb_a8, u24, rfl, hu24⟩ := hh24
   obtain ⟨a24_, c24_, rfl, -⟩ := id (OwnN.rd hu24)
   have x8 : Ext w W8 := QfW xx1 q8 lo0a lm0a
   refine Qaa (.tuple #[.agg (cat [#[.int .i64 ((i : Nat) : Int)], ints .u8 ((keyV (itV (QaL sec 3 j) i)).take 32), #[.slice a24_ ((keyV (itV (QaL sec 3 j) i)).drop 32).length c24_]]), .nilIface]) 24 rfl kj kj ?_
   refine Qaa (.agg (cat [#[.int .i64 ((i : Nat) : Int)], ints .u8 ((keyV (itV (QaL sec 3 j) i)).take 32), #[.slice a24_ ((keyV (itV (QaL sec 3 j) i)).drop 32).length c24_]])) 28 rfl kj kj ?_
   refine Qaa (.nilIface) 29 rfl kj kj ?_
   refine Qar (cat [#[.int .i64 0], ints .u8 (List.replicate 32 0), #[.slice none 0 0]]) 40 8 rfl kj kj fun g25 W9 l25 e9 r25_9 => ?_
   have x9 : Ext w W9 := Ext.tr x8 e9
   have b25 : w.heap.size ≤ g25 := Nat.le_trans x8.size l25
   refine Qai g25 _ (cat [#[.int .i64 ((i : Nat) : Int)], ints .u8 ((keyV (itV (QaL sec 3 j) i)).take 32), #[.slice a24_ ((keyV (itV (QaL sec 3 j) i)).drop 32).length c24_]]) 40 r25_9 rfl kj (Qaq 40 _ _ g25 40 _ _ r25_9 rfl kj kj (isz (n := 34) kj (by rw [Qae, Qae, Qae]; simp only [Array.size_append, cat, ((Qac _ _).trans (QaW (QaF _)))]; rfl)) (eqsz (n := 34) (by rw [Qae, Qae, Qae]; simp only [Array.size_append, cat, ((Qac _ _).trans (List.length_replicate (n := 32)))]; rfl) (by rw [Qae, Qae, Qae]; simp only [Array.size_append, cat, ((Qac _ _).trans (QaW (QaF _)))]; rfl)) (QbG _ (by intro a ha; simp only [List.mem_cons, List.not_mem_nil, or_false] at ha; rcases ha with rfl | rfl | rfl; exact (QaU _ rfl); exact (Qa2 _ _); exact (QaU _ rfl)))) fun W10 p10 r25_10 => ?_
   have x10 : Ext w W10 := Puts.ext p10 x9 b25
   refine Qaa (.nilIface) 9 rfl kj kj ?_
   refine Qaj ?_
   refine hK23 _ _ ?_
   refine wp_seq_k fun K26 hK26 => ?_
   refine wp_seq_k fun K27 hK27 => ?_
   refine QaQ 7 [⟨none, [(9, none)]⟩, ⟨none, [(30, some 0)]⟩, ⟨none, [(31, some 1)]⟩, ⟨some (32, false), [(8, none), (32, some 2)]⟩, ⟨some (32, false), [(6, none), (32, some 2)]⟩, ⟨some (32, false), [(7, none), (32, some 2)]⟩, ⟨some (32, false), [(34, some 4), (35, some 5), (32, some 2)]⟩] kj kj fun F hF => ?_
   refine Qa1 (Qan _) (.nilIface) kj kj (fun W => by kernel_rfl) ?_
   refine Qa1 (Qan _) (.bool false) kj kj (fun W => by kernel_rfl) ?_
   refine Qa1 (Qan _) (.bool false) kj kj (fun W => by kernel_rfl) ?_
   refine QaT (Qan _) (.agg (cat [#[.int .i64 ((i : Nat) : Int)], ints .u8 ((keyV (itV (QaL sec 3 j) i)).take 32), #[.slice a24_ ((keyV (itV (QaL sec 3 j) i)).drop 32).length c24_]])) kj kj (fun W hR => (Qaw 40 _ g25 40 _ _ (Qab (Qab r25_10 (Qas _)) hR) rfl kj kj (isz (n := 34) kj (by rw [Qae, Qae, Qae]; simp only [Array.size_append, cat, ((Qac _ _).trans (QaW (QaF _)))]; rfl)))) ?_
   have r13_8 := (QcQ hsa_ q8 q13_1 (by decide))
   have r13_9 := (Qab r13_8 e9)
   have r13_10 := (Puts.row p10 r13_9 (Qaf r13_8 l25))
   refine QaT (Qan _) (.agg (ints .u8 (itV (QaL sec 3 j) i))) kj kj (fun W hR => (Qaw 23 _ g13 23 _ _ (Qab (Qab r13_10 (Qas _)) hR) rfl kj kj (isz (n := 32) kj ((Qac _ _).trans (Qaz hsjl i))))) ?_
   refine Qa1 (Qan _) (.int .i64 ((i : Nat) : Int)) kj kj (fun W => by kernel_rfl) ?_
   refine QjQ (Qan _) (OfIs (itV (QaL sec 3 j) i) ((i : Nat) : Int)) (QfM _ _) 25 #[.agg (ints .u8 (itV (QaL sec 3 j) i)), .int .i64 ((i : Nat) : Int)] kj kj (fun W => by kernel_rfl) (fun W hR => (ofG (itV (QaL sec 3 j) i) (Qaz hsjl i) (Qbj hsjb i) ((i : Nat) : Int) W)) ?_
   refine Qcz (hF _ fun W11 e11 => ?_)
   simp only [List.nil_append, List.cons_append, List.take_succ_cons, List.take_zero, List.drop_succ_cons, List.drop_zero, finE, up]
   intro vv28 hv28
   clear hF
   have x11 : Ext w W11 := Ext.tr x10 e11
   obtain ⟨u29, B29, rfl, hr29⟩ := hv28
   have hon24_9 := OwnN.ext (OwnN.base (Nat.zero_le _) hu24) e9
   have hon24_10 := Qh8 hon24_9 p10 r25_9 (by decide)
   have hon24_11 := OwnN.ext hon24_10 e11
   refine Qax (.bool true) 21 #[.agg (cat [#[.int .i64 ((i : Nat) : Int)], ints .u8 ((keyV (itV (QaL sec 3 j) i)).take 32), #[.slice a24_ ((keyV (itV (QaL sec 3 j) i)).drop 32).length c24_]]), .agg (cat [#[.int .i64 ((i : Nat) : Int)], ints .u8 ((keyV (itV (QaL sec 3 j) i)).take 32), #[u29]])] 37 rfl kj kj (QkW _ _ ((keyV (itV (QaL sec 3 j) i)).drop 32) _ _ _ _ _ (QaW (QaF _)) (fun x hx => Qez _ x (List.mem_of_mem_drop hx)) (OwnN.rd hon24_11) hr29) fun W12 e12 => ?_
   have x12 : Ext w W12 := Ext.tr x11 e12
   refine Qaa (.bool false) 38 rfl kj kj ?_
   refine Qaa (.bool false) 39 rfl kj kj ?_
   refine Qaj ?_
   refine hK27 _ _ ?_
   refine cond_false kj ?_
   refine wp_skip ?_
   refine hK26 _ _ ?_
   refine Qad ?_
   have r13_11 := (Qab r13_10 e11)
   have r13_12 := (Qab r13_11 e12)
   refine Qaa (.agg (ints .u8 (itV (QaL sec 3 j) i))) 40 rfl kj (Qaw 23 _ g13 23 _ _ r13_12 rfl kj kj (isz (n := 32) kj ((Qac _ _).trans (Qaz hsjl i)))) ?_
   refine Qax (.agg (ints .u8 (nxtV (itV (QaL sec 3 j) i)))) 26 #[.agg (ints .u8 (itV (QaL sec 3 j) i)), .string QfC] 41 rfl kj kj ((fun W => nxtR (itV (QaL sec 3 j) i) W (Qaz hsjl i) (Qbj hsjb i)) _) fun W13 e13 => ?_
   have x13 : Ext w W13 := Ext.tr x12 e13
   have r13_13 := (Qab r13_12 e13)
   refine Qai g13 _ (ints .u8 (nxtV (itV (QaL sec 3 j) i))) 23 r13_13 rfl kj (Qaq 23 _ _ g13 23 _ _ r13_13 rfl kj kj (isz (n := 32) kj ((Qac _ _).trans (QcG _))) (eqsz (n := 32) ((Qac _ _).trans (Qaz hsjl i)) ((Qac _ _).trans (QcG _))) (Qa2 _ _)) fun W14 p14 r13_14 => ?_
   have x14 : Ext w W14 := Puts.ext p14 x13 b13
   refine Qaj ?_
   refine hK21 _ _ ?_
   refine Qad ?_
   refine Qaa (.int .i64 ((i + 1 : Nat) : Int)) 42 rfl kj (Qag (u := .int .i64 (IntKind.i64.wrap (((i : Nat) : Int) + 1))) kj (congrArg (Value.int .i64) (i64n _ _ (by omega) (by omega)))) ?_
   refine Qaa (.int .i64 ((i + 1 : Nat) : Int)) 21 rfl kj kj ?_
   refine Qaj ?_
   have ha_9 := (ChSt.ext hb_a8 e9)
   have ha_10 := (Qeg ha_9 p10 r25_9 (by decide))
   have ha_11 := (ChSt.ext ha_10 e11)
   have ha_12 := (ChSt.ext ha_11 e12)
   have ha_13 := (ChSt.ext ha_12 e13)
   have ha_14 := (Qeg ha_13 p14 r13_13 (by decide))
   have hsa9 := ha_14
   rw [← Qhg, show max i (i + 1) = i + 1 by omega, QfN] at hsa9
   repeat (first | with_reducible refine goX1 ?_ | with_reducible refine goX2 ?_ | with_reducible refine goX3 ?_)
   exact Qa4 (i + 1) ⟨rfl, rfl, rfl, rfl, trivial⟩ ⟨(by omega), hsa9, (QaV r13_14 (show nxtV (itV (QaL sec 3 j) i) = itV (QaL sec 3 j) (i + 1) from rfl)), (Qal.puts (Qal.step (Qal.step (Qal.step (Qal.puts (Qal.step (Qal.keeps q7 q8 (fun c hc => .inl (by simp only [List.mem_cons, List.not_mem_nil, or_false] at hc ⊢; omega))) e9) p10 (.inr (Nat.le_trans (Qal.size q7) (Nat.le_trans (Nat.le_trans (Nat.le_refl _) (Qal.size q8)) l25)))) e11) e12) e13) p14 (.inl (by simp))), x14⟩ (by show 5 - (i + 1) < 5 - i; omega)
  ·skip
   have heq22 : i = 5 := by have := of_decide_eq_false c20; omega
   refine wp_exit ?_
   refine hK14 _ _ ?_
   refine wp_seq_k fun K30 hK30 => ?_
   refine Qad ?_
   refine Qaa (.pointer (some ⟨gcA, 0, none⟩)) 43 rfl kj kj ?_
   refine Qaa (.int .i64 (((j : Nat) : Int))) 44 rfl kj kj ?_
   have r10_7 := (Qal.row q7 r10_6 (Qau (Qaf r10_4 l13) (Qau ng_gcA (Qau nm_gcA QaG))))
   have r11_7 := (Qal.row q7 r11_6 (Qau (Qaf r11_4 l13) (Qau ng_glA (Qau nm_glA QaG))))
   refine Qax (.int .i64 0) 17 #[.pointer (some ⟨gcA, 0, none⟩), .int .i64 (((j : Nat) : Int))] 45 rfl kj kj (Qjp gcA glA (2 ^ 3) capA lpA _ r10_7 r11_7 ga j hj hla hsa_) fun W8 e8 => ?_
   have x8 : Ext w W8 := Ext.tr xx1 e8
   refine Qaa (.bool true) 46 rfl kj kj ?_
   refine Qaa (.bool true) 4 rfl kj kj ?_
   refine Qaj ?_
   refine hK30 _ _ ?_
   refine wp_ret ?_
   repeat (first | with_reducible refine goR1 ?_ | with_reducible refine goR2 ?_)
   exact (show bodyPost _ _ _ .ret _ _ from ret1 (.bool true) rfl (Qa7 kj) ⟨rfl, x8⟩)
end Go.Proofs.YtibegnjaphohaaaDoor.Cn
end
section
namespace Go.Proofs.YtibegnjaphohaaaDoor.Auto
open Go Go.RowKit
open Rely
set_option linter.unusedVariables false
theorem QdV {P : Program} {w : World} : ∀ (laid : List (String × DataW Unit)) (ps : List MemPlace) (n : String) (d : DataW Unit), DataW.LaidVars P w laid ps → (n, d) ∈ laid →
    ∃ g t cs fuel p, P.globalNamed n = some g ∧ (P.globals[g]?).map (·.type) = some t ∧ w.var? P n = some cs ∧ DataW.trod (fun _ => ()) P w 0 (fun _ => true) false fuel t cs.toList = some (d, p) ∧ ∀ x ∈ MemPlace.row ⟨g, 0, none⟩ cs.size, x ∈ ps
  | [], _, _, _, _, h => by cases h
  | (n0, d0) :: r, ps, n, d, ⟨g, t, cs, fuel, p, q, h1, h2, h3, h4, h5, h6⟩, h => by
    subst h6
    rcases List.mem_cons.1 h with h | h
    · cases h
      exact ⟨g, t, cs, fuel, p, h1, h2, h3, h4, fun x hx => List.mem_append_left _ (List.mem_append_left _ hx)⟩
    · obtain ⟨g', t', cs', fuel', p', a, b, c, e, f⟩ := QdV r q n d h5 h
      exact ⟨g', t', cs', fuel', p', a, b, c, e, fun x hx => List.mem_append_right _ (f x hx)⟩
theorem QeQ {P : Program} {w : World} {laid : List (String × DataW Unit)} {n : String} {k : IntKind} {zs : List Int} {g : Nat} {t e : TypeId} {m : Nat} (h : laidMet P laid w) (hm : (n, Lib.tabData k zs) ∈ laid)
    (hg : P.globalNamed n = some g) (hty : (P.globals[g]?).map (·.type) = some t) (ht : P.underlying t = some (.array m e)) (he : P.underlying e = some (.int k)) (hce : P.cellsOf e = 1) (hct : P.cellsOf t = m) (h0 : 0 < zs.length) :
    ∃ t, w.heap[g]? = some (.cells (ints k zs) t) := by
  obtain ⟨ps, hL, -, hC⟩ := h
  obtain ⟨g', t', cs, fuel, p, hg', ht', hvar, hd, hin⟩ := QdV _ _ _ _ hL hm
  obtain rfl := Option.some.inj (hg.symm.trans hg')
  obtain rfl := Option.some.inj (hty.symm.trans ht')
  have hcs := Lib.cells_of_tab ht he hce hct hd
  have hsz : 0 < cs.size := by rw [← Array.length_toList, hcs, List.length_map]; exact h0
  obtain ⟨⟨c, t2, hc⟩, -⟩ := hC g 0 (hin _ (List.mem_map.2 ⟨0, List.mem_range.2 hsz, rfl⟩))
  unfold World.var? at hvar
  rw [hg] at hvar
  simp only [Option.bind_some, hc, Option.some.injEq] at hvar
  subst hvar
  refine ⟨t2, hc.trans ?_⟩
  rw [show c = ints k zs from by rw [ints, ← hcs]]
end Go.Proofs.YtibegnjaphohaaaDoor.Auto
end
