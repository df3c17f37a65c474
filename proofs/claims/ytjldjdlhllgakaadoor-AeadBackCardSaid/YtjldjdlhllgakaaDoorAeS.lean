/- The reference's great numbers: products. -/
import Derived.Test.YtjldjdlhllgakaaDoorAeR
namespace Go.Proofs.YtjldjdlhllgakaaDoor.Ae
open Go Go.RowKit
open Go.Proofs.YtjldjdlhllgakaaDoor.Rely Go.Proofs.YtjldjdlhllgakaaDoor.Auto Go.Proofs.YtjldjdlhllgakaaDoor.Own Go.Proofs.YtjldjdlhllgakaaDoor.Sha
set_option linter.unusedVariables false
set_option linter.unusedSimpArgs false

open Go.Proofs.YtjldjdlhllgakaaDoor.Sha Go.Proofs.YtjldjdlhllgakaaDoor.Cha
theorem mul_bytes {x y : Int} (hx : 0 ≤ x ∧ x < 256) (hy : 0 ≤ y ∧ y < 256) : 0 ≤ x * y ∧ x * y ≤ 65025 := by
  refine ⟨Int.mul_nonneg hx.1 hy.1, ?_⟩
  have h1 : x * y ≤ 255 * y := Int.mul_le_mul_of_nonneg_right (by omega) hy.1
  omega
theorem times_step {qs os b : List Int} {c n x y : Int} {i j : Nat} (hl : i + j < qs.length) (hv : lev qs + c * p256 (i + j) = lev os + x * p256 i * lev (b.take j)) (hn : n = nth qs (i + j) + c + x * y) (hb : lev (b.take (j + 1)) = lev (b.take j) + y * p256 j) :
    lev (qs.set (i + j) (n % 256)) + n / 256 * p256 (i + (j + 1)) = lev os + x * p256 i * lev (b.take (j + 1)) := by
  rw [lev_set qs (i + j) _ hl, hb, ← Nat.add_assoc, p256_succ]
  have hp := p256_add i j
  have h1 : n = 256 * (n / 256) + n % 256 := by omega
  have h2 : n * p256 (i + j) = 256 * (n / 256) * p256 (i + j) + n % 256 * p256 (i + j) := by rw [← Int.add_mul, ← h1]
  have h3 : n * p256 (i + j) = nth qs (i + j) * p256 (i + j) + c * p256 (i + j) + x * y * p256 (i + j) := by rw [hn, Int.add_mul, Int.add_mul]
  have h4 : x * y * p256 (i + j) = x * p256 i * (y * p256 j) := by rw [hp]; grind
  have h5 : x * p256 i * (lev (b.take j) + y * p256 j) = x * p256 i * lev (b.take j) + x * p256 i * (y * p256 j) := Int.mul_add ..
  rw [h5, Int.sub_mul]
  grind
theorem times_zero {a b os : List Int} {i : Nat} (ha : AreBytes a) (hb : AreBytes b) (ho : AreBytes os) (hi : i ≤ a.length) (hv : lev os = lev (a.take i) * lev b) : nth os (i + b.length) = 0 := by
  rw [lev_digit os _ ho]
  have h1 := lev_lt (bytes_take ha i)
  have h2 := lev_lt hb
  have h3 := lev_nonneg (bytes_take ha i)
  have h4 := lev_nonneg hb
  rw [List.length_take, Nat.min_eq_left hi] at h1
  have h5 : lev os < p256 (i + b.length) := by
    rw [hv, p256_add]
    exact Int.lt_of_le_of_lt (Int.mul_le_mul_of_nonneg_left (Int.le_of_lt h2) h3) (Int.mul_lt_mul_of_pos_right h1 (p256_pos _))
  rw [Int.ediv_eq_zero_of_lt (lev_nonneg ho) h5]; rfl
theorem times_end {a b os qs : List Int} {c : Int} {i j : Nat} (hi : i < a.length) (ho : lev os = lev (a.take i) * lev b) (hq : lev qs + c * p256 (i + j) = lev os + nth a i * p256 i * lev (b.take j)) (hc : c = 0) (hj : b.length ≤ j) : lev qs = lev (a.take (i + 1)) * lev b := by
  rw [lev_take_ge b j hj, hc, ho] at hq
  rw [lev_take_succ a i hi, Int.add_mul]
  omega
theorem nth_set_other (xs : List Int) (m k : Nat) (d : Int) (h : m ≠ k) : nth (xs.set m d) k = nth xs k := by
  unfold nth; rw [List.getD_eq_getElem?_getD, List.getD_eq_getElem?_getD, List.getElem?_set_ne h]
set_option maxHeartbeats 4000000 in
theorem rtimesC (a b : List Int) (v v2 : Value) (B B2 : Nat) (w : World) (ha : RdK .i64 B a v w) (hb : RdK .i64 B2 b v2 w) (hal : a.length ≤ 1000000) (hbl : b.length ≤ 1000000) (haa : AreBytes a) (hbb : AreBytes b) :
    Calls Tryd.prog 30 #[v, v2] w (Gives w (DigR w.heap.size (lev a * lev b) (a.length + b.length + 1))) := by
  obtain ⟨a_a, c_a, rfl, -⟩ := id ha
  obtain ⟨a_b, c_b, rfl, -⟩ := id hb
  refine enter 66 [(0, .slice a_a a.length c_a), (1, .slice a_b b.length c_b)] Tryd.func30 rfl rfl kj rfl ?_
  refine wp_seq_k fun K1 hK1 => ?_
  refine region_lit ?_
  refine seq_val (.slice none 0 0) 4 rfl kj kj ?_
  refine seq_nil ?_
  refine hK1 _ _ ?_
  try clear hK1 K1
  refine wp_seq_k fun K2 hK2 => ?_
  refine region_lit ?_
  refine seq_val (.slice a_a a.length c_a) 10 rfl kj kj ?_
  refine seq_val (.int .i64 ((a.length : Nat) : Int)) 11 rfl kj kj ?_
  refine seq_val (.slice a_b b.length c_b) 12 rfl kj kj ?_
  refine seq_val (.int .i64 ((b.length : Nat) : Int)) 13 rfl kj kj ?_
  refine seq_val (.int .i64 ((a.length + b.length : Nat) : Int)) 14 rfl kj (run_eq (u := .int .i64 (IntKind.i64.wrap (((a.length : Nat) : Int) + ((b.length : Nat) : Int)))) kj (congrArg (Value.int .i64) (i64n _ _ (by omega) (by omega)))) ?_
  refine seq_val (.int .i64 (((a.length + b.length) + 1 : Nat) : Int)) 15 rfl kj (run_eq (u := .int .i64 (IntKind.i64.wrap (((a.length + b.length : Nat) : Int) + 1))) kj (congrArg (Value.int .i64) (i64n _ _ (by omega) (by omega)))) ?_
  refine seq_makeS (ints .i64 (List.replicate ((a.length + b.length) + 1) 0)) 3 ((a.length + b.length) + 1) 16 rfl kj (run_makeI 54 _ _ .i64 .i64 ((a.length + b.length) + 1) 3 rfl kj kj kj (.inl kj) (by omega)) fun g3 W1 l3 e1 r3_1 => ?_
  have x1 : Ext w W1 := Ext.tr (Rely.Ext.refl w) e1
  have b3 : w.heap.size ≤ g3 := Nat.le_trans (Rely.Ext.refl w).size l3
  refine seq_val (.slice (some ⟨g3, 0, none⟩) ((a.length + b.length) + 1) ((a.length + b.length) + 1)) 5 rfl kj kj ?_
  refine seq_nil ?_
  refine hK2 _ _ ?_
  try clear hK2 K2
  refine wp_seq_k fun K4 hK4 => ?_
  refine wp_seq_k fun K5 hK5 => ?_
  refine region_lit ?_
  refine seq_val (.int .i64 0) 6 rfl kj kj ?_
  refine seq_nil ?_
  refine hK5 _ _ ?_
  try clear hK5 K5
  refine wp_block ?_
  refine loop_auto (fun (s1 : Nat × List Int) => [(0, .slice a_a a.length c_a), (1, .slice a_b b.length c_b), (5, .slice (some ⟨g3, 0, none⟩) ((a.length + b.length) + 1) ((a.length + b.length) + 1)), (6, .int .i64 ((s1.1 : Nat) : Int))]) (fun (s1 : Nat × List Int) W => (s1.2.length = (a.length + b.length) + 1) ∧ (AreBytes s1.2) ∧ (lev s1.2 = lev (a.take s1.1) * lev b) ∧ (s1.1 ≤ a.length) ∧ (W.heap[g3]? = some (.cells (ints .i64 (s1.2)) 3)) ∧ (Keeps [g3] W1 W) ∧ (Ext w W)) (fun (s1 : Nat × List Int) => a.length - s1.1) (0, (List.replicate ((a.length + b.length) + 1) 0)) ⟨rfl, rfl, rfl, rfl, trivial⟩ ⟨(List.length_replicate), (fun x hx => by rw [List.mem_replicate] at hx; omega), (by rw [lev_zeros, List.take_zero]; simp [lev]), (Nat.zero_le _), r3_1, (Keeps.refl [g3] W1), x1⟩ fun s1 X1 V1 hI1 => ?_
  obtain ⟨i, os⟩ := s1
  obtain ⟨hol, hob, hov, hi, q3_1, kk1, xx1⟩ := hI1
  replace hol : os.length = (a.length + b.length) + 1 := hol
  replace hob : AreBytes os := hob
  replace hov : lev os = lev (a.take i) * lev b := hov
  replace hi : i ≤ a.length := hi
  replace q3_1 : V1.heap[g3]? = some (.cells (ints .i64 (os)) 3) := q3_1
  replace kk1 : Keeps [g3] W1 V1 := kk1
  replace xx1 : Ext w V1 := xx1
  have q2 := kk1
  refine wp_seq_k fun K6 hK6 => ?_
  refine wp_seq_k fun K7 hK7 => ?_
  refine region_lit ?_
  refine seq_val (.int .i64 ((i : Nat) : Int)) 17 rfl kj kj ?_
  refine seq_val (.slice a_a a.length c_a) 18 rfl kj kj ?_
  refine seq_val (.int .i64 ((a.length : Nat) : Int)) 19 rfl kj kj ?_
  refine seq_val (.bool (decide (((i : Nat) : Int) < ((a.length : Nat) : Int)))) 20 rfl kj kj ?_
  refine seq_nil ?_
  refine hK7 _ _ ?_
  try clear hK7 K7
  refine cond_split (t := decide (((i : Nat) : Int) < ((a.length : Nat) : Int))) kj (fun c8 => ?_) (fun c8 => ?_)
  · skip
    have hlt20 : i < a.length := by have := of_decide_eq_true c8; omega
    obtain ⟨gra9, ora9, hara9, -, hlra9, hcra9⟩ := rdK_at (RdK.ext ha xx1) (by omega)
    have hai := bytes_nth haa i
    refine wp_skip ?_
    refine hK6 _ _ ?_
    try clear hK6 K6
    refine wp_seq_k fun K10 hK10 => ?_
    refine wp_block ?_
    refine wp_seq_k fun K11 hK11 => ?_
    refine region_lit ?_
    refine seq_val (.int .i64 0) 7 rfl kj kj ?_
    refine seq_nil ?_
    refine hK11 _ _ ?_
    try clear hK11 K11
    refine wp_seq_k fun K12 hK12 => ?_
    refine region_lit ?_
    refine seq_val (.int .i64 0) 8 rfl kj kj ?_
    refine seq_nil ?_
    refine hK12 _ _ ?_
    try clear hK12 K12
    refine wp_block ?_
    refine loop_auto (fun (s2 : Nat × Int × List Int) => [(0, .slice a_a a.length c_a), (1, .slice a_b b.length c_b), (5, .slice (some ⟨g3, 0, none⟩) ((a.length + b.length) + 1) ((a.length + b.length) + 1)), (6, .int .i64 ((i : Nat) : Int)), (7, .int .i64 (s2.2.1)), (8, .int .i64 ((s2.1 : Nat) : Int))]) (fun (s2 : Nat × Int × List Int) W => (s2.2.2.length = (a.length + b.length) + 1) ∧ (AreBytes s2.2.2) ∧ (0 ≤ s2.2.1 ∧ s2.2.1 ≤ 255) ∧ (s2.1 ≤ b.length + 1) ∧ (s2.1 = b.length + 1 → s2.2.1 = 0) ∧ (lev s2.2.2 + s2.2.1 * p256 (i + s2.1) = lev os + nth a i * p256 i * lev (b.take s2.1)) ∧ (s2.1 ≤ b.length → nth s2.2.2 (i + b.length) = 0) ∧ (W.heap[g3]? = some (.cells (ints .i64 (s2.2.2)) 3)) ∧ (Keeps [g3] V1 W) ∧ (Ext w W)) (fun (s2 : Nat × Int × List Int) => b.length + 1 - s2.1) (0, 0, os) ⟨rfl, rfl, rfl, rfl, rfl, rfl, trivial⟩ ⟨hol, hob, (show (0 : Int) ≤ 0 ∧ (0 : Int) ≤ 255 by decide), (Nat.zero_le _), (fun _ => rfl), (by simp [lev]), (fun _ => times_zero haa hbb hob hi hov), q3_1, (Keeps.refl [g3] V1), xx1⟩ fun s2 X2 V2 hI2 => ?_
    obtain ⟨j, c, qs⟩ := s2
    obtain ⟨hql, hqb, hc, hj, hjc, hqv, hqz, q3_2, kk2, xx2⟩ := hI2
    replace hql : qs.length = (a.length + b.length) + 1 := hql
    replace hqb : AreBytes qs := hqb
    replace hc : 0 ≤ c ∧ c ≤ 255 := hc
    replace hj : j ≤ b.length + 1 := hj
    replace hjc : j = b.length + 1 → c = 0 := hjc
    replace hqv : lev qs + c * p256 (i + j) = lev os + nth a i * p256 i * lev (b.take j) := hqv
    replace hqz : j ≤ b.length → nth qs (i + b.length) = 0 := hqz
    replace q3_2 : V2.heap[g3]? = some (.cells (ints .i64 (qs)) 3) := q3_2
    replace kk2 : Keeps [g3] V1 V2 := kk2
    replace xx2 : Ext w V2 := xx2
    have q3 := kk2
    refine wp_seq_k fun K13 hK13 => ?_
    refine wp_seq_k fun K14 hK14 => ?_
    rcases (show j < b.length ∨ (b.length ≤ j ∧ 0 < c) ∨ (b.length ≤ j ∧ ¬ 0 < c) by omega) with hq | hq | hq
    · skip
      have hjb : j < b.length := hq
      have hbj := bytes_nth hbb j
      have hxy := mul_bytes hai hbj
      have hqi := bytes_nth hqb (i + j)
      refine region_lit ?_
      refine seq_val (.int .i64 ((j : Nat) : Int)) 23 rfl kj kj ?_
      refine seq_val (.slice a_b b.length c_b) 24 rfl kj kj ?_
      refine seq_val (.int .i64 ((b.length : Nat) : Int)) 25 rfl kj kj ?_
      refine seq_val (.bool true) 26 rfl kj (run_eq (u := .bool (decide (((j : Nat) : Int) < ((b.length : Nat) : Int)))) kj (congrArg Value.bool (decide_eq_true (by omega)))) ?_
      refine seq_val (.bool true) 27 rfl kj kj ?_
      refine seq_skip 28 rfl kj ?_
      refine seq_skip 29 rfl kj ?_
      refine seq_val (.bool true) 30 rfl kj kj ?_
      refine seq_nil ?_
      refine hK14 _ _ ?_
      try clear hK14 K14
      refine cond_true kj ?_
      refine wp_skip ?_
      refine hK13 _ _ ?_
      try clear hK13 K13
      refine wp_seq_k fun K15 hK15 => ?_
      refine wp_block ?_
      refine wp_seq_k fun K16 hK16 => ?_
      refine region_lit ?_
      refine seq_val (.slice (some ⟨g3, 0, none⟩) ((a.length + b.length) + 1) ((a.length + b.length) + 1)) 33 rfl kj kj ?_
      refine seq_val (.int .i64 ((i : Nat) : Int)) 34 rfl kj kj ?_
      refine seq_val (.int .i64 ((j : Nat) : Int)) 35 rfl kj kj ?_
      refine seq_val (.int .i64 ((i + j : Nat) : Int)) 36 rfl kj (run_eq (u := .int .i64 (IntKind.i64.wrap (((i : Nat) : Int) + ((j : Nat) : Int)))) kj (congrArg (Value.int .i64) (i64n _ _ (by omega) (by omega)))) ?_
      refine seq_val (.pointer (some ⟨g3, (i + j), none⟩)) 37 rfl kj (run_indexS0 54 _ _ .i64 (i + j) g3 ((a.length + b.length) + 1) ((a.length + b.length) + 1) 3 rfl kj kj kj kj (by omega)) ?_
      refine seq_val (.int .i64 (nth (qs) (i + j))) 38 rfl kj (run_loadC1 3 _ g3 (i + j) 3 _ (.int .i64 (nth (qs) (i + j))) _ q3_2 rfl kj (ints_get _ _ _ (Nat.lt_of_lt_of_eq (by omega) hql.symm)) kj) ?_
      refine seq_val (.int .i64 (c)) 39 rfl kj kj ?_
      refine seq_val (.int .i64 (nth qs (i + j) + c)) 40 rfl kj (run_eq (u := .int .i64 (IntKind.i64.wrap ((nth (qs) (i + j)) + c))) kj (congrArg (Value.int .i64) (IntWalk.i64_in _ (by omega)))) ?_
      refine seq_val (.int .i64 (nth qs (i + j) + c)) 9 rfl kj kj ?_
      refine seq_nil ?_
      refine hK16 _ _ ?_
      try clear hK16 K16
      refine wp_seq_k fun K17 hK17 => ?_
      refine wp_seq_k fun K18 hK18 => ?_
      refine region_lit ?_
      refine seq_val (.int .i64 ((j : Nat) : Int)) 41 rfl kj kj ?_
      refine seq_val (.slice a_b b.length c_b) 42 rfl kj kj ?_
      refine seq_val (.int .i64 ((b.length : Nat) : Int)) 43 rfl kj kj ?_
      refine seq_val (.bool true) 44 rfl kj (run_eq (u := .bool (decide (((j : Nat) : Int) < ((b.length : Nat) : Int)))) kj (congrArg Value.bool (decide_eq_true (by omega)))) ?_
      refine seq_nil ?_
      refine hK18 _ _ ?_
      try clear hK18 K18
      refine cond_true kj ?_
      obtain ⟨gra19, ora19, hara19, -, hlra19, hcra19⟩ := rdK_at (RdK.ext ha xx2) (by omega)
      obtain ⟨grb20, orb20, harb20, -, hlrb20, hcrb20⟩ := rdK_at (RdK.ext hb xx2) (by omega)
      refine any_regionE 10 [⟨none, [(9, none)]⟩, ⟨none, [(0, none)]⟩, ⟨none, [(6, none)]⟩, ⟨none, [(46, some 1), (47, some 2)]⟩, ⟨none, [(48, some 3)]⟩, ⟨none, [(1, none)]⟩, ⟨none, [(8, none)]⟩, ⟨none, [(50, some 5), (51, some 6)]⟩, ⟨none, [(52, some 7)]⟩, ⟨none, [(49, some 4), (53, some 8)]⟩] kj kj fun F hF => ?_
      refine e_val (rl_ext _) (.int .i64 (nth qs (i + j) + c)) kj kj (fun W => by kernel_rfl) ?_
      refine e_val (rl_ext _) (.slice a_a a.length c_a) kj kj (fun W => by kernel_rfl) ?_
      refine e_val (rl_ext _) (.int .i64 ((i : Nat) : Int)) kj kj (fun W => by kernel_rfl) ?_
      refine e_val (rl_ext _) (.pointer (some ⟨gra19, ora19 + i, none⟩)) kj kj (fun W => (run_indexA 54 _ _ .i64 i gra19 ora19 a.length c_a 3 a_a _ hara19 rfl rfl kj kj kj kj (Nat.lt_of_lt_of_eq (show i < (a).length by omega) (rfl : (a).length = (a).length).symm))) ?_
      refine e_read (rl_ext _) (.int .i64 (nth (a) (i))) kj kj (fun W hR => (run_loadCell 3 _ _ (.int .i64 (nth (a) (i))) ((Below.cell (Rely.Ext.trans (ext_drew _) hR) hlra19).trans (hcra19 i (Nat.lt_of_lt_of_eq (show i < (a).length by omega) (rfl : (a).length = (a).length).symm))) rfl kj kj)) ?_
      refine e_val (rl_ext _) (.slice a_b b.length c_b) kj kj (fun W => by kernel_rfl) ?_
      refine e_val (rl_ext _) (.int .i64 ((j : Nat) : Int)) kj kj (fun W => by kernel_rfl) ?_
      refine e_val (rl_ext _) (.pointer (some ⟨grb20, orb20 + j, none⟩)) kj kj (fun W => (run_indexA 54 _ _ .i64 j grb20 orb20 b.length c_b 3 a_b _ harb20 rfl rfl kj kj kj kj (Nat.lt_of_lt_of_eq (show j < (b).length by omega) (rfl : (b).length = (b).length).symm))) ?_
      refine e_read (rl_ext _) (.int .i64 (nth (b) (j))) kj kj (fun W hR => (run_loadCell 3 _ _ (.int .i64 (nth (b) (j))) ((Below.cell (Rely.Ext.trans (ext_drew _) hR) hlrb20).trans (hcrb20 j (Nat.lt_of_lt_of_eq (show j < (b).length by omega) (rfl : (b).length = (b).length).symm))) rfl kj kj)) ?_
      refine e_val (rl_ext _) (.int .i64 (nth a i * nth b j)) kj kj (fun W => (run_eq (u := .int .i64 (IntKind.i64.wrap ((nth (a) (i)) * (nth (b) (j))))) kj (congrArg (Value.int .i64) (IntWalk.i64_in _ (by omega))))) ?_
      refine e_nil (hF _ fun W4 e4 => ?_)
      simp only [List.nil_append, List.cons_append, List.take_succ_cons, List.take_zero, List.drop_succ_cons, List.drop_zero, finE, up]
      clear hF
      have x4 : Ext w W4 := Ext.tr xx2 e4
      refine seq_val (.int .i64 (nth qs (i + j) + c + nth a i * nth b j)) 55 rfl kj (run_eq (u := .int .i64 (IntKind.i64.wrap ((nth qs (i + j) + c) + (nth a i * nth b j)))) kj (congrArg (Value.int .i64) (IntWalk.i64_in _ (by omega)))) ?_
      refine seq_val (.int .i64 (nth qs (i + j) + c + nth a i * nth b j)) 9 rfl kj kj ?_
      refine seq_nil ?_
      refine hK17 _ _ ?_
      try clear hK17 K17
      refine wp_seq_k fun K21 hK21 => ?_
      refine region_lit ?_
      refine seq_val (.slice (some ⟨g3, 0, none⟩) ((a.length + b.length) + 1) ((a.length + b.length) + 1)) 56 rfl kj kj ?_
      refine seq_val (.int .i64 ((i : Nat) : Int)) 57 rfl kj kj ?_
      refine seq_val (.int .i64 ((j : Nat) : Int)) 58 rfl kj kj ?_
      refine seq_val (.int .i64 ((i + j : Nat) : Int)) 59 rfl kj (run_eq (u := .int .i64 (IntKind.i64.wrap (((i : Nat) : Int) + ((j : Nat) : Int)))) kj (congrArg (Value.int .i64) (i64n _ _ (by omega) (by omega)))) ?_
      refine seq_val (.int .i64 (nth qs (i + j) + c + nth a i * nth b j)) 60 rfl kj kj ?_
      refine seq_val (.int .i64 ((nth qs (i + j) + c + nth a i * nth b j) % 256)) 61 rfl kj (run_eq (u := .int .i64 (Int.tmod ((nth qs (i + j) + c + nth a i * nth b j)) (256))) kj (congrArg (Value.int .i64) (show Int.tmod (nth qs (i + j) + c + nth a i * nth b j) 256 = (nth qs (i + j) + c + nth a i * nth b j) % 256 from Int.tmod_eq_emod_of_nonneg (by omega)))) ?_
      refine seq_val (.pointer (some ⟨g3, (i + j), none⟩)) 62 rfl kj (run_indexS0 54 _ _ .i64 (i + j) g3 ((a.length + b.length) + 1) ((a.length + b.length) + 1) 3 rfl kj kj kj kj (by omega)) ?_
      have r3_4 := (row_ext q3_2 e4)
      refine seq_store g3 _ (ints .i64 ((qs).set (i + j) ((nth qs (i + j) + c + nth a i * nth b j) % 256))) 3 r3_4 rfl kj (run_storeI 3 _ _ g3 (i + j) 3 _ _ r3_4 rfl kj kj kj (Nat.lt_of_lt_of_eq (by omega) hql.symm)) fun W5 p5 r3_5 => ?_
      have x5 : Ext w W5 := Puts.ext p5 x4 b3
      refine seq_nil ?_
      refine hK21 _ _ ?_
      try clear hK21 K21
      refine region_lit ?_
      refine seq_val (.int .i64 (nth qs (i + j) + c + nth a i * nth b j)) 63 rfl kj kj ?_
      refine seq_val (.int .i64 ((nth qs (i + j) + c + nth a i * nth b j) / 256)) 64 rfl kj (run_eq (u := .int .i64 (IntKind.i64.wrap (Int.tdiv ((nth qs (i + j) + c + nth a i * nth b j)) (256)))) kj (congrArg (Value.int .i64) (by rw [show Int.tdiv (nth qs (i + j) + c + nth a i * nth b j) 256 = (nth qs (i + j) + c + nth a i * nth b j) / 256 from Int.tdiv_eq_ediv_of_nonneg (by omega)]; exact IntWalk.i64_in _ (by omega)))) ?_
      refine seq_val (.int .i64 ((nth qs (i + j) + c + nth a i * nth b j) / 256)) 7 rfl kj kj ?_
      refine seq_nil ?_
      refine hK15 _ _ ?_
      try clear hK15 K15
      refine region_lit ?_
      refine seq_val (.int .i64 ((j : Nat) : Int)) 31 rfl kj kj ?_
      refine seq_val (.int .i64 ((j + 1 : Nat) : Int)) 32 rfl kj (run_eq (u := .int .i64 (IntKind.i64.wrap (((j : Nat) : Int) + 1))) kj (congrArg (Value.int .i64) (i64n _ _ (by omega) (by omega)))) ?_
      refine seq_val (.int .i64 ((j + 1 : Nat) : Int)) 8 rfl kj kj ?_
      refine seq_nil ?_
      repeat (first | with_reducible refine goX1 ?_ | with_reducible refine goX2 ?_ | with_reducible refine goX3 ?_)
      exact goes_then ((j + 1), ((nth qs (i + j) + c + nth a i * nth b j) / 256), ((qs).set (i + j) ((nth qs (i + j) + c + nth a i * nth b j) % 256))) ⟨rfl, rfl, rfl, rfl, rfl, rfl, trivial⟩ ⟨(by rw [List.length_set]; exact hql), (bytes_set hqb _ (by omega) (by omega)), (show 0 ≤ (nth qs (i + j) + c + nth a i * nth b j) / 256 ∧ (nth qs (i + j) + c + nth a i * nth b j) / 256 ≤ 255 by omega), (show j + 1 ≤ b.length + 1 by omega), (show j + 1 = b.length + 1 → (nth qs (i + j) + c + nth a i * nth b j) / 256 = 0 by intro h8; omega), (times_step (c := c) (n := nth qs (i + j) + c + nth a i * nth b j) (x := nth a i) (y := nth b j) (by omega) hqv (by omega) (lev_take_succ b j hjb)), (show j + 1 ≤ b.length → nth ((qs).set (i + j) ((nth qs (i + j) + c + nth a i * nth b j) % 256)) (i + b.length) = 0 by intro h8; rw [nth_set_other qs _ _ _ (by omega)]; exact hqz (by omega)), r3_5, (Keeps.puts (Keeps.step q3 e4) p5 (.inl (by simp))), x5⟩ (by show b.length + 1 - (j + 1) < b.length + 1 - j; omega)
    · skip
      have hjb : b.length ≤ j := hq.1
      have hc0 : 0 < c := hq.2
      have hje : j = b.length := by omega
      have hqi : nth qs (i + j) = 0 := by rw [hje]; exact hqz (by omega)
      refine region_lit ?_
      refine seq_val (.int .i64 ((j : Nat) : Int)) 23 rfl kj kj ?_
      refine seq_val (.slice a_b b.length c_b) 24 rfl kj kj ?_
      refine seq_val (.int .i64 ((b.length : Nat) : Int)) 25 rfl kj kj ?_
      refine seq_val (.bool false) 26 rfl kj (run_eq (u := .bool (decide (((j : Nat) : Int) < ((b.length : Nat) : Int)))) kj (congrArg Value.bool (decide_eq_false (by omega)))) ?_
      refine seq_val (.bool false) 27 rfl kj kj ?_
      refine seq_val (.int .i64 (c)) 28 rfl kj kj ?_
      refine seq_val (.bool true) 29 rfl kj (run_eq (u := .bool (decide (c > 0))) kj (congrArg Value.bool (decide_eq_true (by omega)))) ?_
      refine seq_val (.bool true) 30 rfl kj kj ?_
      refine seq_nil ?_
      refine hK14 _ _ ?_
      try clear hK14 K14
      refine cond_true kj ?_
      refine wp_skip ?_
      refine hK13 _ _ ?_
      try clear hK13 K13
      refine wp_seq_k fun K22 hK22 => ?_
      refine wp_block ?_
      refine wp_seq_k fun K23 hK23 => ?_
      refine region_lit ?_
      refine seq_val (.slice (some ⟨g3, 0, none⟩) ((a.length + b.length) + 1) ((a.length + b.length) + 1)) 33 rfl kj kj ?_
      refine seq_val (.int .i64 ((i : Nat) : Int)) 34 rfl kj kj ?_
      refine seq_val (.int .i64 ((j : Nat) : Int)) 35 rfl kj kj ?_
      refine seq_val (.int .i64 ((i + j : Nat) : Int)) 36 rfl kj (run_eq (u := .int .i64 (IntKind.i64.wrap (((i : Nat) : Int) + ((j : Nat) : Int)))) kj (congrArg (Value.int .i64) (i64n _ _ (by omega) (by omega)))) ?_
      refine seq_val (.pointer (some ⟨g3, (i + j), none⟩)) 37 rfl kj (run_indexS0 54 _ _ .i64 (i + j) g3 ((a.length + b.length) + 1) ((a.length + b.length) + 1) 3 rfl kj kj kj kj (by omega)) ?_
      refine seq_val (.int .i64 (nth (qs) (i + j))) 38 rfl kj (run_loadC1 3 _ g3 (i + j) 3 _ (.int .i64 (nth (qs) (i + j))) _ q3_2 rfl kj (ints_get _ _ _ (Nat.lt_of_lt_of_eq (by omega) hql.symm)) kj) ?_
      refine seq_val (.int .i64 (c)) 39 rfl kj kj ?_
      refine seq_val (.int .i64 (nth qs (i + j) + c)) 40 rfl kj (run_eq (u := .int .i64 (IntKind.i64.wrap ((nth (qs) (i + j)) + c))) kj (congrArg (Value.int .i64) (IntWalk.i64_in _ (by omega)))) ?_
      refine seq_val (.int .i64 (nth qs (i + j) + c)) 9 rfl kj kj ?_
      refine seq_nil ?_
      refine hK23 _ _ ?_
      try clear hK23 K23
      refine wp_seq_k fun K24 hK24 => ?_
      refine wp_seq_k fun K25 hK25 => ?_
      refine region_lit ?_
      refine seq_val (.int .i64 ((j : Nat) : Int)) 41 rfl kj kj ?_
      refine seq_val (.slice a_b b.length c_b) 42 rfl kj kj ?_
      refine seq_val (.int .i64 ((b.length : Nat) : Int)) 43 rfl kj kj ?_
      refine seq_val (.bool false) 44 rfl kj (run_eq (u := .bool (decide (((j : Nat) : Int) < ((b.length : Nat) : Int)))) kj (congrArg Value.bool (decide_eq_false (by omega)))) ?_
      refine seq_nil ?_
      refine hK25 _ _ ?_
      try clear hK25 K25
      refine cond_false kj ?_
      refine wp_skip ?_
      refine hK24 _ _ ?_
      try clear hK24 K24
      refine wp_seq_k fun K26 hK26 => ?_
      refine region_lit ?_
      refine seq_val (.slice (some ⟨g3, 0, none⟩) ((a.length + b.length) + 1) ((a.length + b.length) + 1)) 56 rfl kj kj ?_
      refine seq_val (.int .i64 ((i : Nat) : Int)) 57 rfl kj kj ?_
      refine seq_val (.int .i64 ((j : Nat) : Int)) 58 rfl kj kj ?_
      refine seq_val (.int .i64 ((i + j : Nat) : Int)) 59 rfl kj (run_eq (u := .int .i64 (IntKind.i64.wrap (((i : Nat) : Int) + ((j : Nat) : Int)))) kj (congrArg (Value.int .i64) (i64n _ _ (by omega) (by omega)))) ?_
      refine seq_val (.int .i64 (nth qs (i + j) + c)) 60 rfl kj kj ?_
      refine seq_val (.int .i64 ((nth qs (i + j) + c) % 256)) 61 rfl kj (run_eq (u := .int .i64 (Int.tmod ((nth qs (i + j) + c)) (256))) kj (congrArg (Value.int .i64) (show Int.tmod (nth qs (i + j) + c) 256 = (nth qs (i + j) + c) % 256 from Int.tmod_eq_emod_of_nonneg (by omega)))) ?_
      refine seq_val (.pointer (some ⟨g3, (i + j), none⟩)) 62 rfl kj (run_indexS0 54 _ _ .i64 (i + j) g3 ((a.length + b.length) + 1) ((a.length + b.length) + 1) 3 rfl kj kj kj kj (by omega)) ?_
      refine seq_store g3 _ (ints .i64 ((qs).set (i + j) ((nth qs (i + j) + c) % 256))) 3 q3_2 rfl kj (run_storeI 3 _ _ g3 (i + j) 3 _ _ q3_2 rfl kj kj kj (Nat.lt_of_lt_of_eq (by omega) hql.symm)) fun W4 p4 r3_4 => ?_
      have x4 : Ext w W4 := Puts.ext p4 xx2 b3
      refine seq_nil ?_
      refine hK26 _ _ ?_
      try clear hK26 K26
      refine region_lit ?_
      refine seq_val (.int .i64 (nth qs (i + j) + c)) 63 rfl kj kj ?_
      refine seq_val (.int .i64 ((nth qs (i + j) + c) / 256)) 64 rfl kj (run_eq (u := .int .i64 (IntKind.i64.wrap (Int.tdiv ((nth qs (i + j) + c)) (256)))) kj (congrArg (Value.int .i64) (by rw [show Int.tdiv (nth qs (i + j) + c) 256 = (nth qs (i + j) + c) / 256 from Int.tdiv_eq_ediv_of_nonneg (by omega)]; exact IntWalk.i64_in _ (by omega)))) ?_
      refine seq_val (.int .i64 ((nth qs (i + j) + c) / 256)) 7 rfl kj kj ?_
      refine seq_nil ?_
      refine hK22 _ _ ?_
      try clear hK22 K22
      refine region_lit ?_
      refine seq_val (.int .i64 ((j : Nat) : Int)) 31 rfl kj kj ?_
      refine seq_val (.int .i64 ((j + 1 : Nat) : Int)) 32 rfl kj (run_eq (u := .int .i64 (IntKind.i64.wrap (((j : Nat) : Int) + 1))) kj (congrArg (Value.int .i64) (i64n _ _ (by omega) (by omega)))) ?_
      refine seq_val (.int .i64 ((j + 1 : Nat) : Int)) 8 rfl kj kj ?_
      refine seq_nil ?_
      repeat (first | with_reducible refine goX1 ?_ | with_reducible refine goX2 ?_ | with_reducible refine goX3 ?_)
      exact goes_then ((j + 1), ((nth qs (i + j) + c) / 256), ((qs).set (i + j) ((nth qs (i + j) + c) % 256))) ⟨rfl, rfl, rfl, rfl, rfl, rfl, trivial⟩ ⟨(by rw [List.length_set]; exact hql), (bytes_set hqb _ (by omega) (by omega)), (show 0 ≤ (nth qs (i + j) + c) / 256 ∧ (nth qs (i + j) + c) / 256 ≤ 255 by omega), (show j + 1 ≤ b.length + 1 by omega), (show j + 1 = b.length + 1 → (nth qs (i + j) + c) / 256 = 0 by intro h8; omega), (times_step (c := c) (n := nth qs (i + j) + c) (x := nth a i) (y := 0) (by omega) hqv (by omega) (lev_take_no b j hjb)), (show j + 1 ≤ b.length → nth ((qs).set (i + j) ((nth qs (i + j) + c) % 256)) (i + b.length) = 0 by intro h8; rw [nth_set_other qs _ _ _ (by omega)]; exact hqz (by omega)), r3_4, (Keeps.puts q3 p4 (.inl (by simp))), x4⟩ (by show b.length + 1 - (j + 1) < b.length + 1 - j; omega)
    · skip
      have hjb : b.length ≤ j := hq.1
      have hc0 : c = 0 := by omega
      have hend := times_end hlt20 hov hqv hc0 hjb
      refine region_lit ?_
      refine seq_val (.int .i64 ((j : Nat) : Int)) 23 rfl kj kj ?_
      refine seq_val (.slice a_b b.length c_b) 24 rfl kj kj ?_
      refine seq_val (.int .i64 ((b.length : Nat) : Int)) 25 rfl kj kj ?_
      refine seq_val (.bool false) 26 rfl kj (run_eq (u := .bool (decide (((j : Nat) : Int) < ((b.length : Nat) : Int)))) kj (congrArg Value.bool (decide_eq_false (by omega)))) ?_
      refine seq_val (.bool false) 27 rfl kj kj ?_
      refine seq_val (.int .i64 (c)) 28 rfl kj kj ?_
      refine seq_val (.bool false) 29 rfl kj (run_eq (u := .bool (decide (c > 0))) kj (congrArg Value.bool (decide_eq_false (by omega)))) ?_
      refine seq_val (.bool false) 30 rfl kj kj ?_
      refine seq_nil ?_
      refine hK14 _ _ ?_
      try clear hK14 K14
      refine cond_false kj ?_
      refine wp_exit ?_
      refine hK10 _ _ ?_
      try clear hK10 K10
      refine region_lit ?_
      refine seq_val (.int .i64 ((i : Nat) : Int)) 21 rfl kj kj ?_
      refine seq_val (.int .i64 ((i + 1 : Nat) : Int)) 22 rfl kj (run_eq (u := .int .i64 (IntKind.i64.wrap (((i : Nat) : Int) + 1))) kj (congrArg (Value.int .i64) (i64n _ _ (by omega) (by omega)))) ?_
      refine seq_val (.int .i64 ((i + 1 : Nat) : Int)) 6 rfl kj kj ?_
      refine seq_nil ?_
      repeat (first | with_reducible refine goX1 ?_ | with_reducible refine goX2 ?_ | with_reducible refine goX3 ?_)
      exact goes_then ((i + 1), qs) ⟨rfl, rfl, rfl, rfl, trivial⟩ ⟨hql, hqb, hend, (show i + 1 ≤ a.length by omega), q3_2, (Keeps.keeps q2 q3 (oa_cons (.inl (by simp)) oa_nil)), xx2⟩ (by show a.length - (i + 1) < a.length - i; omega)
  · skip
    have heq20 : i = a.length := by have := of_decide_eq_false c8; omega
    refine wp_exit ?_
    refine hK4 _ _ ?_
    try clear hK4 K4
    refine wp_seq_k fun K27 hK27 => ?_
    refine region_lit ?_
    refine seq_val (.slice (some ⟨g3, 0, none⟩) ((a.length + b.length) + 1) ((a.length + b.length) + 1)) 65 rfl kj kj ?_
    refine seq_val (.slice (some ⟨g3, 0, none⟩) ((a.length + b.length) + 1) ((a.length + b.length) + 1)) 4 rfl kj kj ?_
    refine seq_nil ?_
    refine hK27 _ _ ?_
    try clear hK27 K27
    refine wp_ret ?_
    repeat (first | with_reducible refine goR1 ?_ | with_reducible refine goR2 ?_)
    exact (show bodyPost _ _ _ .ret _ _ from ret1 (.slice (some ⟨g3, 0, none⟩) ((a.length + b.length) + 1) ((a.length + b.length) + 1)) rfl (res_tmp kj) ⟨_, rfl, xx1, os, hob, (by rw [hov, heq20, List.take_length]), (by omega), ownN_row hol b3 q3_1 (by simp only [maxLen]; omega)⟩)

end Go.Proofs.YtjldjdlhllgakaaDoor.Ae
