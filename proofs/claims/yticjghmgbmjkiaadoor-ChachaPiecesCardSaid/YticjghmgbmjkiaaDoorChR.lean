/- ChaCha20: the reference's turn, quarter round, words. -/
import Derived.Test.YticjghmgbmjkiaaDoorChQ
import Derived.Test.YticjghmgbmjkiaaDoorRestB
namespace Go.Proofs.YticjghmgbmjkiaaDoor.Cha
open Go Go.RowKit
open Go.Proofs.YticjghmgbmjkiaaDoor.Rely Go.Proofs.YticjghmgbmjkiaaDoor.Auto Go.Proofs.YticjghmgbmjkiaaDoor.Own Go.Proofs.YticjghmgbmjkiaaDoor.Sha
set_option linter.unusedVariables false
set_option linter.unusedSimpArgs false

open Go.Proofs.YticjghmgbmjkiaaDoor.Sha
theorem rl_sum (x : Wd) (n : Nat) (h : 0 < n) (hn : n < 32) : x <<< n + x >>> (32 - n) = rl x n := by
  have h2 := w_turn x (32 - n) (by omega) (by omega)
  rw [show 32 - (32 - n) = n by omega] at h2
  rw [BitVec.add_comm, h2]
  unfold rr rl
  rw [show 32 - (32 - n) = n by omega]
def rs1 (x : List Wd) (a b : Nat) : List Wd := x.set a (wget x a + wget x b)
def rs2 (x : List Wd) (d a n : Nat) : List Wd := x.set d (rl (wget x d ^^^ wget x a) n)
/-- the reference's quarter round, in place -/
def rqrt (x : List Wd) (a b c d : Nat) : List Wd := rs2 (rs1 (rs2 (rs1 (rs2 (rs1 (rs2 (rs1 x a b) d a 16) c d) b c 12) a b) d a 8) c d) b c 7
theorem rs1_len (x : List Wd) (a b : Nat) : (rs1 x a b).length = x.length := List.length_set ..
theorem rs2_len (x : List Wd) (d a n : Nat) : (rs2 x d a n).length = x.length := List.length_set ..
theorem rqrt_len (x : List Wd) (a b c d : Nat) : (rqrt x a b c d).length = x.length := by unfold rqrt; simp only [rs1_len, rs2_len]
theorem mulW (x : Wd) (m : Int) (k : Nat) (hm : m = 2 ^ k) (hk : k ≤ 32) : IntKind.u32.wrap (m * wv x) = wv (x <<< k) := by
  subst hm
  have h := w_shl x (k : Int) k rfl hk
  have e : min ((k : Int)).toNat IntKind.u32.bits = k := by show min ((k : Int)).toNat 32 = k; omega
  rw [e] at h
  rw [Int.mul_comm]
  exact h
/-- four bytes as a word, as the reference says it -/
def rw4 (b : List Int) (i : Nat) : Wd := (BitVec.ofInt 32 (nth b (4 * i)) + BitVec.ofInt 32 (nth b (4 * i + 1)) <<< 8) + BitVec.ofInt 32 (nth b (4 * i + 2)) <<< 16 + BitVec.ofInt 32 (nth b (4 * i + 3)) <<< 24
def rws (b : List Int) (n : Nat) : List Wd := (List.range n).map (rw4 b)
def rwords (b : List Int) : List Wd := rws b (b.length / 4)
theorem rws_len (b : List Int) (n : Nat) : (rws b n).length = n := by simp [rws]
theorem rws_succ (b : List Int) (n : Nat) : (rws b (n + 1)).map wv = (rws b n).map wv ++ [wv (rw4 b n)] := by simp [rws, List.range_succ]
theorem ofInt_byte (n : Int) (h : 0 ≤ n ∧ n < 256) : (BitVec.ofInt 32 n).toNat = n.toNat := by
  rw [BitVec.toNat_ofInt]
  omega
theorem or4 (x y z t : Nat) (hx : x < 256) (hy : y < 256) (hz : z < 256) : x ||| y <<< 8 ||| z <<< 16 ||| t <<< 24 = x + y <<< 8 + z <<< 16 + t <<< 24 := by
  have h1 : x ||| y <<< 8 = x + y <<< 8 := by
    rw [Nat.or_comm, ← Nat.shiftLeft_add_eq_or_of_lt (show x < 2 ^ 8 by omega), Nat.add_comm]
  have l1 : x + y <<< 8 < 2 ^ 16 := by rw [Nat.shiftLeft_eq]; omega
  have h2 : (x + y <<< 8) ||| z <<< 16 = x + y <<< 8 + z <<< 16 := by
    rw [Nat.or_comm, ← Nat.shiftLeft_add_eq_or_of_lt l1, Nat.add_comm]
  have l2 : x + y <<< 8 + z <<< 16 < 2 ^ 24 := by rw [Nat.shiftLeft_eq, Nat.shiftLeft_eq]; omega
  rw [h1, h2, Nat.or_comm, ← Nat.shiftLeft_add_eq_or_of_lt l2, Nat.add_comm]
theorem shl_byte (n : Int) (k : Nat) (h : 0 ≤ n ∧ n < 256) (hk : k ≤ 24) : (BitVec.ofInt 32 n <<< k).toNat = n.toNat <<< k := by
  rw [BitVec.toNat_shiftLeft, ofInt_byte n h, Nat.mod_eq_of_lt]
  rw [Nat.shiftLeft_eq]
  have h1 : n.toNat < 256 := by omega
  have h2 : 2 ^ k ≤ 2 ^ 24 := Nat.pow_le_pow_right (by decide) hk
  exact Nat.lt_of_le_of_lt (Nat.mul_le_mul (Nat.le_of_lt_succ h1) h2) (by decide)
theorem rw4_le (b : List Int) (i : Nat) (hb : ∀ j, 0 ≤ nth b j ∧ nth b j < 256) : rw4 b i = le4 (sub4 b i) := by
  unfold rw4 le4
  rw [sub4_nth b i 0 (by decide), sub4_nth b i 1 (by decide), sub4_nth b i 2 (by decide), sub4_nth b i 3 (by decide)]
  simp only [Nat.add_zero]
  have h0 := hb (4 * i)
  have h1 := hb (4 * i + 1)
  have h2 := hb (4 * i + 2)
  have h3 := hb (4 * i + 3)
  apply BitVec.eq_of_toNat_eq
  simp only [BitVec.toNat_add, BitVec.toNat_or, ofInt_byte _ h0, shl_byte _ 8 h1 (by decide), shl_byte _ 16 h2 (by decide), shl_byte _ 24 h3 (by decide)]
  rw [or4 _ _ _ _ (by omega) (by omega) (by omega)]
  simp only [Nat.shiftLeft_eq]
  omega
theorem bytes_nth {b : List Int} (h : AreBytes b) (j : Nat) : 0 ≤ nth b j ∧ nth b j < 256 := by
  unfold nth
  rw [List.getD_eq_getElem?_getD]
  rcases Nat.lt_or_ge j b.length with hj | hj
  · rw [List.getElem?_eq_getElem hj]
    have h1 := h _ (List.getElem_mem hj)
    show 0 ≤ b[j] ∧ b[j] < 256
    omega
  · rw [List.getElem?_eq_none hj]; decide
theorem rq_eq : ∀ x : List Wd, x.length = 16 → rqrt x 0 4 8 12 = qrt x 0 4 8 12 ∧ rqrt x 1 5 9 13 = qrt x 1 5 9 13 ∧ rqrt x 2 6 10 14 = qrt x 2 6 10 14 ∧ rqrt x 3 7 11 15 = qrt x 3 7 11 15 ∧ rqrt x 0 5 10 15 = qrt x 0 5 10 15 ∧ rqrt x 1 6 11 12 = qrt x 1 6 11 12 ∧ rqrt x 2 7 8 13 = qrt x 2 7 8 13 ∧ rqrt x 3 4 9 14 = qrt x 3 4 9 14
  | [x0, x1, x2, x3, x4, x5, x6, x7, x8, x9, x10, x11, x12, x13, x14, x15], _ => ⟨by kernel_rfl, by kernel_rfl, by kernel_rfl, by kernel_rfl, by kernel_rfl, by kernel_rfl, by kernel_rfl, by kernel_rfl⟩
set_option maxHeartbeats 4000000 in
theorem rturnC (x : Wd) (n : Nat) (m : Int) (hm : m = (n : Int)) (h0 : 0 < n) (hn : n < 32) (w : World) : Calls Tryd.prog 60 #[.int .u32 (wv x), .int .u64 m] w (Ret w (.int .u32 (wv (rl x n)))) := by
  subst hm
  refine enter 13 [(0, .int .u32 (wv x)), (1, .int .u64 ((n : Nat) : Int))] Tryd.func60 rfl rfl kj rfl ?_
  refine wp_seq_k fun K1 hK1 => ?_
  refine region_lit ?_
  refine seq_val (.int .u32 0) 4 rfl kj kj ?_
  refine seq_nil ?_
  refine hK1 _ _ ?_
  try clear hK1 K1
  refine wp_seq_k fun K2 hK2 => ?_
  refine region_lit ?_
  refine seq_val (.int .u32 (wv x)) 5 rfl kj kj ?_
  refine seq_val (.int .u64 ((n : Nat) : Int)) 6 rfl kj kj ?_
  refine seq_val (.int .u32 (wv (x <<< n))) 7 rfl kj (run_bin .shl _ _ _ _ .u32 .u64 _ _ _ rfl kj kj (b_shl _ _ _ _ _ _ (by omega) (w_shl x _ n rfl (by omega)))) ?_
  refine seq_val (.int .u32 (wv x)) 8 rfl kj kj ?_
  refine seq_val (.int .u64 ((n : Nat) : Int)) 9 rfl kj kj ?_
  refine seq_val (.int .u64 (((32 - n : Nat) : Int))) 10 rfl kj (run_eq (u := .int .u64 (IntKind.u64.wrap (32 - ((n : Nat) : Int)))) kj (congrArg (Value.int .u64) (u64_left n hn))) ?_
  refine seq_val (.int .u32 (wv (x >>> (32 - n)))) 11 rfl kj (run_bin .shr _ _ _ _ .u32 .u64 _ _ _ rfl kj kj (b_shr _ _ _ _ _ _ (by omega) (w_shr x _ (32 - n) rfl (by omega)))) ?_
  refine seq_val (.int .u32 (wv (rl x n))) 12 rfl kj (run_eq (u := .int .u32 (IntKind.u32.wrap ((wv (x <<< n)) + (wv (x >>> (32 - n)))))) kj (congrArg (Value.int .u32) ((w_add _ _).trans (congrArg wv (rl_sum x n h0 hn))))) ?_
  refine seq_val (.int .u32 (wv (rl x n))) 4 rfl kj kj ?_
  refine seq_nil ?_
  refine hK2 _ _ ?_
  try clear hK2 K2
  refine wp_ret ?_
  repeat (first | with_reducible refine goR1 ?_ | with_reducible refine goR2 ?_)
  exact (show bodyPost _ _ _ .ret _ _ from ret1 (.int .u32 (wv (rl x n))) rfl (res_tmp kj) ⟨rfl, (Rely.Ext.refl w)⟩)
set_option maxRecDepth 100000 in
set_option maxHeartbeats 4000000 in
theorem rquarterC (g cc : Nat) (rest : Array Value) (x : List Wd) (a b c d : Nat) (ma mb mc md : Int) (w : World) (ea : ma = (a : Int)) (eb : mb = (b : Int)) (ec : mc = (c : Int)) (ed : md = (d : Int)) (hx : x.length = 16) (ha : a < 16) (hb : b < 16) (hc : c < 16) (hd : d < 16) (hg : w.heap[g]? = some (.cells (ints .u32 (x.map wv) ++ rest) 64)) :
    Calls Tryd.prog 48 #[.slice (some ⟨g, 0, none⟩) 16 cc, .int .i64 ma, .int .i64 mb, .int .i64 mc, .int .i64 md] w (fun e W => e = .returned (.tuple #[]) ∧ ExtB g w W ∧ W.heap[g]? = some (.cells (ints .u32 ((rqrt x a b c d).map wv) ++ rest) 64)) := by
  subst ea eb ec ed
  refine enter 76 [(0, .slice (some ⟨g, 0, none⟩) 16 cc), (1, .int .i64 ((a : Nat) : Int)), (2, .int .i64 ((b : Nat) : Int)), (3, .int .i64 ((c : Nat) : Int)), (4, .int .i64 ((d : Nat) : Int))] Tryd.func48 rfl rfl kj rfl ?_
  refine wp_seq_k fun K2 hK2 => ?_
  refine region_lit ?_
  refine seq_makeS (ints .u64 ([16, 12, 8, 7])) 36 4 12 rfl kj kj fun g3 W1 l3 e1 r3_1 => ?_
  have x1 : ExtB g w W1 := ExtB.ext (ExtB.refl g w) e1
  have b3 : w.heap.size ≤ g3 := Nat.le_trans (ExtB.refl g w).size l3
  refine seq_val (.slice (some ⟨g3, 0, none⟩) 4 4) 10 rfl kj kj ?_
  refine seq_nil ?_
  refine hK2 _ _ ?_
  try clear hK2 K2
  refine wp_seq_k fun K4 hK4 => ?_
  refine region_lit ?_
  refine seq_val (.int .i64 0) 11 rfl kj kj ?_
  refine seq_nil ?_
  refine hK4 _ _ ?_
  try clear hK4 K4
  refine wp_block ?_
  refine wp_loop_rounds 3 ?_
  show Code.wp _ _ (Exit.then (Code.rounds _ _ _ 2) _) _ _
  refine wp_seq_k fun K5 hK5 => ?_
  refine wp_seq_k fun K6 hK6 => ?_
  refine region_lit ?_
  refine seq_val (.int .i64 0) 13 rfl kj kj ?_
  refine seq_val (.bool true) 14 rfl kj kj ?_
  refine seq_nil ?_
  refine hK6 _ _ ?_
  try clear hK6 K6
  refine cond_true kj ?_
  refine wp_skip ?_
  refine hK5 _ _ ?_
  try clear hK5 K5
  refine wp_seq_k fun K7 hK7 => ?_
  refine wp_block ?_
  refine wp_seq_k fun K8 hK8 => ?_
  refine any_region 12 [⟨none, [(0, none)]⟩, ⟨none, [(1, none)]⟩, ⟨none, [(0, none)]⟩, ⟨none, [(1, none)]⟩, ⟨none, [(19, some 2), (20, some 3)]⟩, ⟨none, [(21, some 4)]⟩, ⟨none, [(0, none)]⟩, ⟨none, [(2, none)]⟩, ⟨none, [(23, some 6), (24, some 7)]⟩, ⟨none, [(25, some 8)]⟩, ⟨none, [(22, some 5), (26, some 9)]⟩, ⟨none, [(17, some 0), (18, some 1)]⟩] kj kj fun F hF => ?_
  refine any_val (.slice (some ⟨g, 0, none⟩) 16 cc) kj kj (fun W => by kernel_rfl) ?_
  refine any_val (.int .i64 ((a : Nat) : Int)) kj kj (fun W => by kernel_rfl) ?_
  refine any_val (.slice (some ⟨g, 0, none⟩) 16 cc) kj kj (fun W => by kernel_rfl) ?_
  refine any_val (.int .i64 ((a : Nat) : Int)) kj kj (fun W => by kernel_rfl) ?_
  refine any_val (.pointer (some ⟨g, a, none⟩)) kj kj (fun W => (run_indexS0 71 _ _ .i64 (a) g 16 cc 64 rfl kj kj kj kj (by omega))) ?_
  have r1_1 := (row_ext hg e1)
  refine any_read (.int .u32 (wv (wget x a))) kj kj (fun W hR => (run_loadC1 64 _ g a 64 _ (.int .u32 (wv (wget x a))) _ (row_ext (row_ext r1_1 (ext_drew _)) hR) rfl kj ((rest_get (Nat.lt_of_lt_of_eq (by omega) (wv_len hx).symm)).trans (congrArg (fun z => some (Value.int .u32 z)) (nth_map x a))) kj)) ?_
  refine any_val (.slice (some ⟨g, 0, none⟩) 16 cc) kj kj (fun W => by kernel_rfl) ?_
  refine any_val (.int .i64 ((b : Nat) : Int)) kj kj (fun W => by kernel_rfl) ?_
  refine any_val (.pointer (some ⟨g, b, none⟩)) kj kj (fun W => (run_indexS0 71 _ _ .i64 (b) g 16 cc 64 rfl kj kj kj kj (by omega))) ?_
  refine any_read (.int .u32 (wv (wget x b))) kj kj (fun W hR => (run_loadC1 64 _ g b 64 _ (.int .u32 (wv (wget x b))) _ (row_ext (row_ext r1_1 (ext_drew _)) hR) rfl kj ((rest_get (Nat.lt_of_lt_of_eq (by omega) (wv_len hx).symm)).trans (congrArg (fun z => some (Value.int .u32 z)) (nth_map x b))) kj)) ?_
  refine any_val (.int .u32 (wv (((wget x a)) + ((wget x b))))) kj kj (fun W => (run_eq (u := .int .u32 (IntKind.u32.wrap (wv (wget x a) + wv (wget x b)))) kj (congrArg (Value.int .u32) (w_add _ _)))) ?_
  refine any_val (.pointer (some ⟨g, a, none⟩)) kj kj (fun W => (run_indexS0 71 _ _ .i64 (a) g 16 cc 64 rfl kj kj kj kj (by omega))) ?_
  refine steps_nil (hF _ kj fun W2 e2 => ?_)
  simp only [ups, up, Kn.val, List.take_succ_cons, List.take_zero, List.drop_succ_cons, List.drop_zero, List.nil_append, List.cons_append]
  clear hF
  have x2 : ExtB g w W2 := ExtB.ext x1 e2
  have r1_2 := (row_ext r1_1 e2)
  refine seq_store g _ (ints .u32 (((x).set a ((((wget x a)) + ((wget x b))))).map wv) ++ rest) 64 r1_2 rfl kj (run_storeRestW 64 _ _ g a 64 _ x ((((wget x a)) + ((wget x b)))) r1_2 rfl kj kj kj (Nat.lt_of_lt_of_eq (by omega) (wv_len hx).symm)) fun W3 p3 r1_3 => ?_
  have x3 : ExtB g w W3 := ExtB.puts x2 p3
  obtain ⟨x1, ex1⟩ : ∃ z : List Wd, z = rs1 x a b := ⟨_, rfl⟩
  have hx1 : x1.length = 16 := by rw [ex1, rs1_len, hx]
  have r1_3_9 : W3.heap[g]? = some (.cells (ints .u32 ((x1).map wv) ++ rest) 64) := row_eqR r1_3 (by rw [ex1]; rfl)
  refine seq_nil ?_
  refine hK8 _ _ ?_
  try clear hK8 K8
  refine wp_seq_k fun K10 hK10 => ?_
  refine any_region 17 [⟨none, [(0, none)]⟩, ⟨none, [(4, none)]⟩, ⟨none, [(0, none)]⟩, ⟨none, [(4, none)]⟩, ⟨none, [(31, some 2), (32, some 3)]⟩, ⟨none, [(33, some 4)]⟩, ⟨none, [(0, none)]⟩, ⟨none, [(1, none)]⟩, ⟨none, [(35, some 6), (36, some 7)]⟩, ⟨none, [(37, some 8)]⟩, ⟨none, [(34, some 5), (38, some 9)]⟩, ⟨none, [(10, none)]⟩, ⟨none, [(11, none)]⟩, ⟨none, [(40, some 11), (41, some 12)]⟩, ⟨none, [(42, some 13)]⟩, ⟨none, [(39, some 10), (43, some 14)]⟩, ⟨none, [(29, some 0), (30, some 1)]⟩] kj kj fun F hF => ?_
  refine any_val (.slice (some ⟨g, 0, none⟩) 16 cc) kj kj (fun W => by kernel_rfl) ?_
  refine any_val (.int .i64 ((d : Nat) : Int)) kj kj (fun W => by kernel_rfl) ?_
  refine any_val (.slice (some ⟨g, 0, none⟩) 16 cc) kj kj (fun W => by kernel_rfl) ?_
  refine any_val (.int .i64 ((d : Nat) : Int)) kj kj (fun W => by kernel_rfl) ?_
  refine any_val (.pointer (some ⟨g, d, none⟩)) kj kj (fun W => (run_indexS0 71 _ _ .i64 (d) g 16 cc 64 rfl kj kj kj kj (by omega))) ?_
  refine any_read (.int .u32 (wv (wget x1 d))) kj kj (fun W hR => (run_loadC1 64 _ g d 64 _ (.int .u32 (wv (wget x1 d))) _ (row_ext (row_ext r1_3_9 (ext_drew _)) hR) rfl kj ((rest_get (Nat.lt_of_lt_of_eq (by omega) (wv_len hx1).symm)).trans (congrArg (fun z => some (Value.int .u32 z)) (nth_map x1 d))) kj)) ?_
  refine any_val (.slice (some ⟨g, 0, none⟩) 16 cc) kj kj (fun W => by kernel_rfl) ?_
  refine any_val (.int .i64 ((a : Nat) : Int)) kj kj (fun W => by kernel_rfl) ?_
  refine any_val (.pointer (some ⟨g, a, none⟩)) kj kj (fun W => (run_indexS0 71 _ _ .i64 (a) g 16 cc 64 rfl kj kj kj kj (by omega))) ?_
  refine any_read (.int .u32 (wv (wget x1 a))) kj kj (fun W hR => (run_loadC1 64 _ g a 64 _ (.int .u32 (wv (wget x1 a))) _ (row_ext (row_ext r1_3_9 (ext_drew _)) hR) rfl kj ((rest_get (Nat.lt_of_lt_of_eq (by omega) (wv_len hx1).symm)).trans (congrArg (fun z => some (Value.int .u32 z)) (nth_map x1 a))) kj)) ?_
  refine any_val (.int .u32 (wv (((wget x1 d)) ^^^ ((wget x1 a))))) kj kj (fun W => (run_eq (u := .int .u32 (bits .xor .u32 (wv (wget x1 d)) (wv (wget x1 a)))) kj (congrArg (Value.int .u32) (w_xor _ _)))) ?_
  refine any_val (.slice (some ⟨g3, 0, none⟩) 4 4) kj kj (fun W => by kernel_rfl) ?_
  refine any_val (.int .i64 0) kj kj (fun W => by kernel_rfl) ?_
  refine any_val (.pointer (some ⟨g3, 0, none⟩)) kj kj (fun W => (run_indexS0 84 _ _ .i64 (0) g3 4 4 36 rfl kj kj kj kj (by decide))) ?_
  have r3_2 := (row_ext r3_1 e2)
  have r3_3 := (Puts.row p3 r3_2 (ne_of_new hg l3))
  refine any_read (.int .u64 16) kj kj (fun W hR => (run_loadC1 36 _ g3 0 36 _ (.int .u64 16) _ (row_ext (row_ext r3_3 (ext_drew _)) hR) rfl kj kj kj)) ?_
  refine any_call (.int .u32 (wv (rl (((wget x1 d)) ^^^ ((wget x1 a))) 16))) 60 #[.int .u32 (wv (((wget x1 d)) ^^^ ((wget x1 a)))), .int .u64 16] kj kj (fun W => by kernel_rfl) (fun W hR => (rturnC (((wget x1 d)) ^^^ ((wget x1 a))) 16 16 rfl (by decide) (by decide)) W) ?_
  refine any_val (.pointer (some ⟨g, d, none⟩)) kj kj (fun W => (run_indexS0 71 _ _ .i64 (d) g 16 cc 64 rfl kj kj kj kj (by omega))) ?_
  refine steps_nil (hF _ kj fun W4 e4 => ?_)
  simp only [ups, up, Kn.val, List.take_succ_cons, List.take_zero, List.drop_succ_cons, List.drop_zero, List.nil_append, List.cons_append]
  clear hF
  have x4 : ExtB g w W4 := ExtB.ext x3 e4
  have r1_4 := (row_ext r1_3_9 e4)
  refine seq_store g _ (ints .u32 (((x1).set d ((rl (((wget x1 d)) ^^^ ((wget x1 a))) 16))).map wv) ++ rest) 64 r1_4 rfl kj (run_storeRestW 64 _ _ g d 64 _ x1 ((rl (((wget x1 d)) ^^^ ((wget x1 a))) 16)) r1_4 rfl kj kj kj (Nat.lt_of_lt_of_eq (by omega) (wv_len hx1).symm)) fun W5 p5 r1_5 => ?_
  have x5 : ExtB g w W5 := ExtB.puts x4 p5
  obtain ⟨x2, ex2⟩ : ∃ z : List Wd, z = rs2 x1 d a 16 := ⟨_, rfl⟩
  have hx2 : x2.length = 16 := by rw [ex2, rs2_len, hx1]
  have r1_5_11 : W5.heap[g]? = some (.cells (ints .u32 ((x2).map wv) ++ rest) 64) := row_eqR r1_5 (by rw [ex2]; rfl)
  refine seq_nil ?_
  refine hK10 _ _ ?_
  try clear hK10 K10
  refine wp_seq_k fun K12 hK12 => ?_
  refine any_region 12 [⟨none, [(0, none)]⟩, ⟨none, [(3, none)]⟩, ⟨none, [(0, none)]⟩, ⟨none, [(3, none)]⟩, ⟨none, [(48, some 2), (49, some 3)]⟩, ⟨none, [(50, some 4)]⟩, ⟨none, [(0, none)]⟩, ⟨none, [(4, none)]⟩, ⟨none, [(52, some 6), (53, some 7)]⟩, ⟨none, [(54, some 8)]⟩, ⟨none, [(51, some 5), (55, some 9)]⟩, ⟨none, [(46, some 0), (47, some 1)]⟩] kj kj fun F hF => ?_
  refine any_val (.slice (some ⟨g, 0, none⟩) 16 cc) kj kj (fun W => by kernel_rfl) ?_
  refine any_val (.int .i64 ((c : Nat) : Int)) kj kj (fun W => by kernel_rfl) ?_
  refine any_val (.slice (some ⟨g, 0, none⟩) 16 cc) kj kj (fun W => by kernel_rfl) ?_
  refine any_val (.int .i64 ((c : Nat) : Int)) kj kj (fun W => by kernel_rfl) ?_
  refine any_val (.pointer (some ⟨g, c, none⟩)) kj kj (fun W => (run_indexS0 71 _ _ .i64 (c) g 16 cc 64 rfl kj kj kj kj (by omega))) ?_
  refine any_read (.int .u32 (wv (wget x2 c))) kj kj (fun W hR => (run_loadC1 64 _ g c 64 _ (.int .u32 (wv (wget x2 c))) _ (row_ext (row_ext r1_5_11 (ext_drew _)) hR) rfl kj ((rest_get (Nat.lt_of_lt_of_eq (by omega) (wv_len hx2).symm)).trans (congrArg (fun z => some (Value.int .u32 z)) (nth_map x2 c))) kj)) ?_
  refine any_val (.slice (some ⟨g, 0, none⟩) 16 cc) kj kj (fun W => by kernel_rfl) ?_
  refine any_val (.int .i64 ((d : Nat) : Int)) kj kj (fun W => by kernel_rfl) ?_
  refine any_val (.pointer (some ⟨g, d, none⟩)) kj kj (fun W => (run_indexS0 71 _ _ .i64 (d) g 16 cc 64 rfl kj kj kj kj (by omega))) ?_
  refine any_read (.int .u32 (wv (wget x2 d))) kj kj (fun W hR => (run_loadC1 64 _ g d 64 _ (.int .u32 (wv (wget x2 d))) _ (row_ext (row_ext r1_5_11 (ext_drew _)) hR) rfl kj ((rest_get (Nat.lt_of_lt_of_eq (by omega) (wv_len hx2).symm)).trans (congrArg (fun z => some (Value.int .u32 z)) (nth_map x2 d))) kj)) ?_
  refine any_val (.int .u32 (wv (((wget x2 c)) + ((wget x2 d))))) kj kj (fun W => (run_eq (u := .int .u32 (IntKind.u32.wrap (wv (wget x2 c) + wv (wget x2 d)))) kj (congrArg (Value.int .u32) (w_add _ _)))) ?_
  refine any_val (.pointer (some ⟨g, c, none⟩)) kj kj (fun W => (run_indexS0 71 _ _ .i64 (c) g 16 cc 64 rfl kj kj kj kj (by omega))) ?_
  refine steps_nil (hF _ kj fun W6 e6 => ?_)
  simp only [ups, up, Kn.val, List.take_succ_cons, List.take_zero, List.drop_succ_cons, List.drop_zero, List.nil_append, List.cons_append]
  clear hF
  have x6 : ExtB g w W6 := ExtB.ext x5 e6
  have r1_6 := (row_ext r1_5_11 e6)
  refine seq_store g _ (ints .u32 (((x2).set c ((((wget x2 c)) + ((wget x2 d))))).map wv) ++ rest) 64 r1_6 rfl kj (run_storeRestW 64 _ _ g c 64 _ x2 ((((wget x2 c)) + ((wget x2 d)))) r1_6 rfl kj kj kj (Nat.lt_of_lt_of_eq (by omega) (wv_len hx2).symm)) fun W7 p7 r1_7 => ?_
  have x7 : ExtB g w W7 := ExtB.puts x6 p7
  obtain ⟨x3, ex3⟩ : ∃ z : List Wd, z = rs1 x2 c d := ⟨_, rfl⟩
  have hx3 : x3.length = 16 := by rw [ex3, rs1_len, hx2]
  have r1_7_13 : W7.heap[g]? = some (.cells (ints .u32 ((x3).map wv) ++ rest) 64) := row_eqR r1_7 (by rw [ex3]; rfl)
  refine seq_nil ?_
  refine hK12 _ _ ?_
  try clear hK12 K12
  refine any_region 18 [⟨none, [(0, none)]⟩, ⟨none, [(2, none)]⟩, ⟨none, [(0, none)]⟩, ⟨none, [(2, none)]⟩, ⟨none, [(60, some 2), (61, some 3)]⟩, ⟨none, [(62, some 4)]⟩, ⟨none, [(0, none)]⟩, ⟨none, [(3, none)]⟩, ⟨none, [(64, some 6), (65, some 7)]⟩, ⟨none, [(66, some 8)]⟩, ⟨none, [(63, some 5), (67, some 9)]⟩, ⟨none, [(10, none)]⟩, ⟨none, [(11, none)]⟩, ⟨none, [(70, some 12)]⟩, ⟨none, [(69, some 11), (71, some 13)]⟩, ⟨none, [(72, some 14)]⟩, ⟨none, [(68, some 10), (73, some 15)]⟩, ⟨none, [(58, some 0), (59, some 1)]⟩] kj kj fun F hF => ?_
  refine any_val (.slice (some ⟨g, 0, none⟩) 16 cc) kj kj (fun W => by kernel_rfl) ?_
  refine any_val (.int .i64 ((b : Nat) : Int)) kj kj (fun W => by kernel_rfl) ?_
  refine any_val (.slice (some ⟨g, 0, none⟩) 16 cc) kj kj (fun W => by kernel_rfl) ?_
  refine any_val (.int .i64 ((b : Nat) : Int)) kj kj (fun W => by kernel_rfl) ?_
  refine any_val (.pointer (some ⟨g, b, none⟩)) kj kj (fun W => (run_indexS0 71 _ _ .i64 (b) g 16 cc 64 rfl kj kj kj kj (by omega))) ?_
  refine any_read (.int .u32 (wv (wget x3 b))) kj kj (fun W hR => (run_loadC1 64 _ g b 64 _ (.int .u32 (wv (wget x3 b))) _ (row_ext (row_ext r1_7_13 (ext_drew _)) hR) rfl kj ((rest_get (Nat.lt_of_lt_of_eq (by omega) (wv_len hx3).symm)).trans (congrArg (fun z => some (Value.int .u32 z)) (nth_map x3 b))) kj)) ?_
  refine any_val (.slice (some ⟨g, 0, none⟩) 16 cc) kj kj (fun W => by kernel_rfl) ?_
  refine any_val (.int .i64 ((c : Nat) : Int)) kj kj (fun W => by kernel_rfl) ?_
  refine any_val (.pointer (some ⟨g, c, none⟩)) kj kj (fun W => (run_indexS0 71 _ _ .i64 (c) g 16 cc 64 rfl kj kj kj kj (by omega))) ?_
  refine any_read (.int .u32 (wv (wget x3 c))) kj kj (fun W hR => (run_loadC1 64 _ g c 64 _ (.int .u32 (wv (wget x3 c))) _ (row_ext (row_ext r1_7_13 (ext_drew _)) hR) rfl kj ((rest_get (Nat.lt_of_lt_of_eq (by omega) (wv_len hx3).symm)).trans (congrArg (fun z => some (Value.int .u32 z)) (nth_map x3 c))) kj)) ?_
  refine any_val (.int .u32 (wv (((wget x3 b)) ^^^ ((wget x3 c))))) kj kj (fun W => (run_eq (u := .int .u32 (bits .xor .u32 (wv (wget x3 b)) (wv (wget x3 c)))) kj (congrArg (Value.int .u32) (w_xor _ _)))) ?_
  refine any_val (.slice (some ⟨g3, 0, none⟩) 4 4) kj kj (fun W => by kernel_rfl) ?_
  refine any_val (.int .i64 0) kj kj (fun W => by kernel_rfl) ?_
  refine any_val (.int .i64 1) kj kj (fun W => by kernel_rfl) ?_
  refine any_val (.pointer (some ⟨g3, 1, none⟩)) kj kj (fun W => (run_indexS0 84 _ _ .i64 (1) g3 4 4 36 rfl kj kj kj kj (by decide))) ?_
  have r3_4 := (row_ext r3_3 e4)
  have r3_5 := (Puts.row p5 r3_4 (ne_of_new hg l3))
  have r3_6 := (row_ext r3_5 e6)
  have r3_7 := (Puts.row p7 r3_6 (ne_of_new hg l3))
  refine any_read (.int .u64 12) kj kj (fun W hR => (run_loadC1 36 _ g3 1 36 _ (.int .u64 12) _ (row_ext (row_ext r3_7 (ext_drew _)) hR) rfl kj kj kj)) ?_
  refine any_call (.int .u32 (wv (rl (((wget x3 b)) ^^^ ((wget x3 c))) 12))) 60 #[.int .u32 (wv (((wget x3 b)) ^^^ ((wget x3 c)))), .int .u64 12] kj kj (fun W => by kernel_rfl) (fun W hR => (rturnC (((wget x3 b)) ^^^ ((wget x3 c))) 12 12 rfl (by decide) (by decide)) W) ?_
  refine any_val (.pointer (some ⟨g, b, none⟩)) kj kj (fun W => (run_indexS0 71 _ _ .i64 (b) g 16 cc 64 rfl kj kj kj kj (by omega))) ?_
  refine steps_nil (hF _ kj fun W8 e8 => ?_)
  simp only [ups, up, Kn.val, List.take_succ_cons, List.take_zero, List.drop_succ_cons, List.drop_zero, List.nil_append, List.cons_append]
  clear hF
  have x8 : ExtB g w W8 := ExtB.ext x7 e8
  have r1_8 := (row_ext r1_7_13 e8)
  refine seq_store g _ (ints .u32 (((x3).set b ((rl (((wget x3 b)) ^^^ ((wget x3 c))) 12))).map wv) ++ rest) 64 r1_8 rfl kj (run_storeRestW 64 _ _ g b 64 _ x3 ((rl (((wget x3 b)) ^^^ ((wget x3 c))) 12)) r1_8 rfl kj kj kj (Nat.lt_of_lt_of_eq (by omega) (wv_len hx3).symm)) fun W9 p9 r1_9 => ?_
  have x9 : ExtB g w W9 := ExtB.puts x8 p9
  obtain ⟨x4, ex4⟩ : ∃ z : List Wd, z = rs2 x3 b c 12 := ⟨_, rfl⟩
  have hx4 : x4.length = 16 := by rw [ex4, rs2_len, hx3]
  have r1_9_14 : W9.heap[g]? = some (.cells (ints .u32 ((x4).map wv) ++ rest) 64) := row_eqR r1_9 (by rw [ex4]; rfl)
  refine seq_nil ?_
  refine hK7 _ _ ?_
  try clear hK7 K7
  refine region_lit ?_
  refine seq_val (.int .i64 0) 15 rfl kj kj ?_
  refine seq_val (.int .i64 2) 16 rfl kj kj ?_
  refine seq_val (.int .i64 2) 11 rfl kj kj ?_
  refine seq_nil ?_
  show Code.rounds _ _ _ 2 _ _
  show Code.wp _ _ (Exit.then (Code.rounds _ _ _ 1) _) _ _
  refine wp_seq_k fun K15 hK15 => ?_
  refine wp_seq_k fun K16 hK16 => ?_
  refine region_lit ?_
  refine seq_val (.int .i64 2) 13 rfl kj kj ?_
  refine seq_val (.bool true) 14 rfl kj kj ?_
  refine seq_nil ?_
  refine hK16 _ _ ?_
  try clear hK16 K16
  refine cond_true kj ?_
  refine wp_skip ?_
  refine hK15 _ _ ?_
  try clear hK15 K15
  refine wp_seq_k fun K17 hK17 => ?_
  refine wp_block ?_
  refine wp_seq_k fun K18 hK18 => ?_
  refine any_region 12 [⟨none, [(0, none)]⟩, ⟨none, [(1, none)]⟩, ⟨none, [(0, none)]⟩, ⟨none, [(1, none)]⟩, ⟨none, [(19, some 2), (20, some 3)]⟩, ⟨none, [(21, some 4)]⟩, ⟨none, [(0, none)]⟩, ⟨none, [(2, none)]⟩, ⟨none, [(23, some 6), (24, some 7)]⟩, ⟨none, [(25, some 8)]⟩, ⟨none, [(22, some 5), (26, some 9)]⟩, ⟨none, [(17, some 0), (18, some 1)]⟩] kj kj fun F hF => ?_
  refine any_val (.slice (some ⟨g, 0, none⟩) 16 cc) kj kj (fun W => by kernel_rfl) ?_
  refine any_val (.int .i64 ((a : Nat) : Int)) kj kj (fun W => by kernel_rfl) ?_
  refine any_val (.slice (some ⟨g, 0, none⟩) 16 cc) kj kj (fun W => by kernel_rfl) ?_
  refine any_val (.int .i64 ((a : Nat) : Int)) kj kj (fun W => by kernel_rfl) ?_
  refine any_val (.pointer (some ⟨g, a, none⟩)) kj kj (fun W => (run_indexS0 71 _ _ .i64 (a) g 16 cc 64 rfl kj kj kj kj (by omega))) ?_
  refine any_read (.int .u32 (wv (wget x4 a))) kj kj (fun W hR => (run_loadC1 64 _ g a 64 _ (.int .u32 (wv (wget x4 a))) _ (row_ext (row_ext r1_9_14 (ext_drew _)) hR) rfl kj ((rest_get (Nat.lt_of_lt_of_eq (by omega) (wv_len hx4).symm)).trans (congrArg (fun z => some (Value.int .u32 z)) (nth_map x4 a))) kj)) ?_
  refine any_val (.slice (some ⟨g, 0, none⟩) 16 cc) kj kj (fun W => by kernel_rfl) ?_
  refine any_val (.int .i64 ((b : Nat) : Int)) kj kj (fun W => by kernel_rfl) ?_
  refine any_val (.pointer (some ⟨g, b, none⟩)) kj kj (fun W => (run_indexS0 71 _ _ .i64 (b) g 16 cc 64 rfl kj kj kj kj (by omega))) ?_
  refine any_read (.int .u32 (wv (wget x4 b))) kj kj (fun W hR => (run_loadC1 64 _ g b 64 _ (.int .u32 (wv (wget x4 b))) _ (row_ext (row_ext r1_9_14 (ext_drew _)) hR) rfl kj ((rest_get (Nat.lt_of_lt_of_eq (by omega) (wv_len hx4).symm)).trans (congrArg (fun z => some (Value.int .u32 z)) (nth_map x4 b))) kj)) ?_
  refine any_val (.int .u32 (wv (((wget x4 a)) + ((wget x4 b))))) kj kj (fun W => (run_eq (u := .int .u32 (IntKind.u32.wrap (wv (wget x4 a) + wv (wget x4 b)))) kj (congrArg (Value.int .u32) (w_add _ _)))) ?_
  refine any_val (.pointer (some ⟨g, a, none⟩)) kj kj (fun W => (run_indexS0 71 _ _ .i64 (a) g 16 cc 64 rfl kj kj kj kj (by omega))) ?_
  refine steps_nil (hF _ kj fun W10 e10 => ?_)
  simp only [ups, up, Kn.val, List.take_succ_cons, List.take_zero, List.drop_succ_cons, List.drop_zero, List.nil_append, List.cons_append]
  clear hF
  have x10 : ExtB g w W10 := ExtB.ext x9 e10
  have r1_10 := (row_ext r1_9_14 e10)
  refine seq_store g _ (ints .u32 (((x4).set a ((((wget x4 a)) + ((wget x4 b))))).map wv) ++ rest) 64 r1_10 rfl kj (run_storeRestW 64 _ _ g a 64 _ x4 ((((wget x4 a)) + ((wget x4 b)))) r1_10 rfl kj kj kj (Nat.lt_of_lt_of_eq (by omega) (wv_len hx4).symm)) fun W11 p11 r1_11 => ?_
  have x11 : ExtB g w W11 := ExtB.puts x10 p11
  obtain ⟨x5, ex5⟩ : ∃ z : List Wd, z = rs1 x4 a b := ⟨_, rfl⟩
  have hx5 : x5.length = 16 := by rw [ex5, rs1_len, hx4]
  have r1_11_19 : W11.heap[g]? = some (.cells (ints .u32 ((x5).map wv) ++ rest) 64) := row_eqR r1_11 (by rw [ex5]; rfl)
  refine seq_nil ?_
  refine hK18 _ _ ?_
  try clear hK18 K18
  refine wp_seq_k fun K20 hK20 => ?_
  refine any_region 17 [⟨none, [(0, none)]⟩, ⟨none, [(4, none)]⟩, ⟨none, [(0, none)]⟩, ⟨none, [(4, none)]⟩, ⟨none, [(31, some 2), (32, some 3)]⟩, ⟨none, [(33, some 4)]⟩, ⟨none, [(0, none)]⟩, ⟨none, [(1, none)]⟩, ⟨none, [(35, some 6), (36, some 7)]⟩, ⟨none, [(37, some 8)]⟩, ⟨none, [(34, some 5), (38, some 9)]⟩, ⟨none, [(10, none)]⟩, ⟨none, [(11, none)]⟩, ⟨none, [(40, some 11), (41, some 12)]⟩, ⟨none, [(42, some 13)]⟩, ⟨none, [(39, some 10), (43, some 14)]⟩, ⟨none, [(29, some 0), (30, some 1)]⟩] kj kj fun F hF => ?_
  refine any_val (.slice (some ⟨g, 0, none⟩) 16 cc) kj kj (fun W => by kernel_rfl) ?_
  refine any_val (.int .i64 ((d : Nat) : Int)) kj kj (fun W => by kernel_rfl) ?_
  refine any_val (.slice (some ⟨g, 0, none⟩) 16 cc) kj kj (fun W => by kernel_rfl) ?_
  refine any_val (.int .i64 ((d : Nat) : Int)) kj kj (fun W => by kernel_rfl) ?_
  refine any_val (.pointer (some ⟨g, d, none⟩)) kj kj (fun W => (run_indexS0 71 _ _ .i64 (d) g 16 cc 64 rfl kj kj kj kj (by omega))) ?_
  refine any_read (.int .u32 (wv (wget x5 d))) kj kj (fun W hR => (run_loadC1 64 _ g d 64 _ (.int .u32 (wv (wget x5 d))) _ (row_ext (row_ext r1_11_19 (ext_drew _)) hR) rfl kj ((rest_get (Nat.lt_of_lt_of_eq (by omega) (wv_len hx5).symm)).trans (congrArg (fun z => some (Value.int .u32 z)) (nth_map x5 d))) kj)) ?_
  refine any_val (.slice (some ⟨g, 0, none⟩) 16 cc) kj kj (fun W => by kernel_rfl) ?_
  refine any_val (.int .i64 ((a : Nat) : Int)) kj kj (fun W => by kernel_rfl) ?_
  refine any_val (.pointer (some ⟨g, a, none⟩)) kj kj (fun W => (run_indexS0 71 _ _ .i64 (a) g 16 cc 64 rfl kj kj kj kj (by omega))) ?_
  refine any_read (.int .u32 (wv (wget x5 a))) kj kj (fun W hR => (run_loadC1 64 _ g a 64 _ (.int .u32 (wv (wget x5 a))) _ (row_ext (row_ext r1_11_19 (ext_drew _)) hR) rfl kj ((rest_get (Nat.lt_of_lt_of_eq (by omega) (wv_len hx5).symm)).trans (congrArg (fun z => some (Value.int .u32 z)) (nth_map x5 a))) kj)) ?_
  refine any_val (.int .u32 (wv (((wget x5 d)) ^^^ ((wget x5 a))))) kj kj (fun W => (run_eq (u := .int .u32 (bits .xor .u32 (wv (wget x5 d)) (wv (wget x5 a)))) kj (congrArg (Value.int .u32) (w_xor _ _)))) ?_
  refine any_val (.slice (some ⟨g3, 0, none⟩) 4 4) kj kj (fun W => by kernel_rfl) ?_
  refine any_val (.int .i64 2) kj kj (fun W => by kernel_rfl) ?_
  refine any_val (.pointer (some ⟨g3, 2, none⟩)) kj kj (fun W => (run_indexS0 84 _ _ .i64 (2) g3 4 4 36 rfl kj kj kj kj (by decide))) ?_
  have r3_8 := (row_ext r3_7 e8)
  have r3_9 := (Puts.row p9 r3_8 (ne_of_new hg l3))
  have r3_10 := (row_ext r3_9 e10)
  have r3_11 := (Puts.row p11 r3_10 (ne_of_new hg l3))
  refine any_read (.int .u64 8) kj kj (fun W hR => (run_loadC1 36 _ g3 2 36 _ (.int .u64 8) _ (row_ext (row_ext r3_11 (ext_drew _)) hR) rfl kj kj kj)) ?_
  refine any_call (.int .u32 (wv (rl (((wget x5 d)) ^^^ ((wget x5 a))) 8))) 60 #[.int .u32 (wv (((wget x5 d)) ^^^ ((wget x5 a)))), .int .u64 8] kj kj (fun W => by kernel_rfl) (fun W hR => (rturnC (((wget x5 d)) ^^^ ((wget x5 a))) 8 8 rfl (by decide) (by decide)) W) ?_
  refine any_val (.pointer (some ⟨g, d, none⟩)) kj kj (fun W => (run_indexS0 71 _ _ .i64 (d) g 16 cc 64 rfl kj kj kj kj (by omega))) ?_
  refine steps_nil (hF _ kj fun W12 e12 => ?_)
  simp only [ups, up, Kn.val, List.take_succ_cons, List.take_zero, List.drop_succ_cons, List.drop_zero, List.nil_append, List.cons_append]
  clear hF
  have x12 : ExtB g w W12 := ExtB.ext x11 e12
  have r1_12 := (row_ext r1_11_19 e12)
  refine seq_store g _ (ints .u32 (((x5).set d ((rl (((wget x5 d)) ^^^ ((wget x5 a))) 8))).map wv) ++ rest) 64 r1_12 rfl kj (run_storeRestW 64 _ _ g d 64 _ x5 ((rl (((wget x5 d)) ^^^ ((wget x5 a))) 8)) r1_12 rfl kj kj kj (Nat.lt_of_lt_of_eq (by omega) (wv_len hx5).symm)) fun W13 p13 r1_13 => ?_
  have x13 : ExtB g w W13 := ExtB.puts x12 p13
  obtain ⟨x6, ex6⟩ : ∃ z : List Wd, z = rs2 x5 d a 8 := ⟨_, rfl⟩
  have hx6 : x6.length = 16 := by rw [ex6, rs2_len, hx5]
  have r1_13_21 : W13.heap[g]? = some (.cells (ints .u32 ((x6).map wv) ++ rest) 64) := row_eqR r1_13 (by rw [ex6]; rfl)
  refine seq_nil ?_
  refine hK20 _ _ ?_
  try clear hK20 K20
  refine wp_seq_k fun K22 hK22 => ?_
  refine any_region 12 [⟨none, [(0, none)]⟩, ⟨none, [(3, none)]⟩, ⟨none, [(0, none)]⟩, ⟨none, [(3, none)]⟩, ⟨none, [(48, some 2), (49, some 3)]⟩, ⟨none, [(50, some 4)]⟩, ⟨none, [(0, none)]⟩, ⟨none, [(4, none)]⟩, ⟨none, [(52, some 6), (53, some 7)]⟩, ⟨none, [(54, some 8)]⟩, ⟨none, [(51, some 5), (55, some 9)]⟩, ⟨none, [(46, some 0), (47, some 1)]⟩] kj kj fun F hF => ?_
  refine any_val (.slice (some ⟨g, 0, none⟩) 16 cc) kj kj (fun W => by kernel_rfl) ?_
  refine any_val (.int .i64 ((c : Nat) : Int)) kj kj (fun W => by kernel_rfl) ?_
  refine any_val (.slice (some ⟨g, 0, none⟩) 16 cc) kj kj (fun W => by kernel_rfl) ?_
  refine any_val (.int .i64 ((c : Nat) : Int)) kj kj (fun W => by kernel_rfl) ?_
  refine any_val (.pointer (some ⟨g, c, none⟩)) kj kj (fun W => (run_indexS0 71 _ _ .i64 (c) g 16 cc 64 rfl kj kj kj kj (by omega))) ?_
  refine any_read (.int .u32 (wv (wget x6 c))) kj kj (fun W hR => (run_loadC1 64 _ g c 64 _ (.int .u32 (wv (wget x6 c))) _ (row_ext (row_ext r1_13_21 (ext_drew _)) hR) rfl kj ((rest_get (Nat.lt_of_lt_of_eq (by omega) (wv_len hx6).symm)).trans (congrArg (fun z => some (Value.int .u32 z)) (nth_map x6 c))) kj)) ?_
  refine any_val (.slice (some ⟨g, 0, none⟩) 16 cc) kj kj (fun W => by kernel_rfl) ?_
  refine any_val (.int .i64 ((d : Nat) : Int)) kj kj (fun W => by kernel_rfl) ?_
  refine any_val (.pointer (some ⟨g, d, none⟩)) kj kj (fun W => (run_indexS0 71 _ _ .i64 (d) g 16 cc 64 rfl kj kj kj kj (by omega))) ?_
  refine any_read (.int .u32 (wv (wget x6 d))) kj kj (fun W hR => (run_loadC1 64 _ g d 64 _ (.int .u32 (wv (wget x6 d))) _ (row_ext (row_ext r1_13_21 (ext_drew _)) hR) rfl kj ((rest_get (Nat.lt_of_lt_of_eq (by omega) (wv_len hx6).symm)).trans (congrArg (fun z => some (Value.int .u32 z)) (nth_map x6 d))) kj)) ?_
  refine any_val (.int .u32 (wv (((wget x6 c)) + ((wget x6 d))))) kj kj (fun W => (run_eq (u := .int .u32 (IntKind.u32.wrap (wv (wget x6 c) + wv (wget x6 d)))) kj (congrArg (Value.int .u32) (w_add _ _)))) ?_
  refine any_val (.pointer (some ⟨g, c, none⟩)) kj kj (fun W => (run_indexS0 71 _ _ .i64 (c) g 16 cc 64 rfl kj kj kj kj (by omega))) ?_
  refine steps_nil (hF _ kj fun W14 e14 => ?_)
  simp only [ups, up, Kn.val, List.take_succ_cons, List.take_zero, List.drop_succ_cons, List.drop_zero, List.nil_append, List.cons_append]
  clear hF
  have x14 : ExtB g w W14 := ExtB.ext x13 e14
  have r1_14 := (row_ext r1_13_21 e14)
  refine seq_store g _ (ints .u32 (((x6).set c ((((wget x6 c)) + ((wget x6 d))))).map wv) ++ rest) 64 r1_14 rfl kj (run_storeRestW 64 _ _ g c 64 _ x6 ((((wget x6 c)) + ((wget x6 d)))) r1_14 rfl kj kj kj (Nat.lt_of_lt_of_eq (by omega) (wv_len hx6).symm)) fun W15 p15 r1_15 => ?_
  have x15 : ExtB g w W15 := ExtB.puts x14 p15
  obtain ⟨x7, ex7⟩ : ∃ z : List Wd, z = rs1 x6 c d := ⟨_, rfl⟩
  have hx7 : x7.length = 16 := by rw [ex7, rs1_len, hx6]
  have r1_15_23 : W15.heap[g]? = some (.cells (ints .u32 ((x7).map wv) ++ rest) 64) := row_eqR r1_15 (by rw [ex7]; rfl)
  refine seq_nil ?_
  refine hK22 _ _ ?_
  try clear hK22 K22
  refine any_region 18 [⟨none, [(0, none)]⟩, ⟨none, [(2, none)]⟩, ⟨none, [(0, none)]⟩, ⟨none, [(2, none)]⟩, ⟨none, [(60, some 2), (61, some 3)]⟩, ⟨none, [(62, some 4)]⟩, ⟨none, [(0, none)]⟩, ⟨none, [(3, none)]⟩, ⟨none, [(64, some 6), (65, some 7)]⟩, ⟨none, [(66, some 8)]⟩, ⟨none, [(63, some 5), (67, some 9)]⟩, ⟨none, [(10, none)]⟩, ⟨none, [(11, none)]⟩, ⟨none, [(70, some 12)]⟩, ⟨none, [(69, some 11), (71, some 13)]⟩, ⟨none, [(72, some 14)]⟩, ⟨none, [(68, some 10), (73, some 15)]⟩, ⟨none, [(58, some 0), (59, some 1)]⟩] kj kj fun F hF => ?_
  refine any_val (.slice (some ⟨g, 0, none⟩) 16 cc) kj kj (fun W => by kernel_rfl) ?_
  refine any_val (.int .i64 ((b : Nat) : Int)) kj kj (fun W => by kernel_rfl) ?_
  refine any_val (.slice (some ⟨g, 0, none⟩) 16 cc) kj kj (fun W => by kernel_rfl) ?_
  refine any_val (.int .i64 ((b : Nat) : Int)) kj kj (fun W => by kernel_rfl) ?_
  refine any_val (.pointer (some ⟨g, b, none⟩)) kj kj (fun W => (run_indexS0 71 _ _ .i64 (b) g 16 cc 64 rfl kj kj kj kj (by omega))) ?_
  refine any_read (.int .u32 (wv (wget x7 b))) kj kj (fun W hR => (run_loadC1 64 _ g b 64 _ (.int .u32 (wv (wget x7 b))) _ (row_ext (row_ext r1_15_23 (ext_drew _)) hR) rfl kj ((rest_get (Nat.lt_of_lt_of_eq (by omega) (wv_len hx7).symm)).trans (congrArg (fun z => some (Value.int .u32 z)) (nth_map x7 b))) kj)) ?_
  refine any_val (.slice (some ⟨g, 0, none⟩) 16 cc) kj kj (fun W => by kernel_rfl) ?_
  refine any_val (.int .i64 ((c : Nat) : Int)) kj kj (fun W => by kernel_rfl) ?_
  refine any_val (.pointer (some ⟨g, c, none⟩)) kj kj (fun W => (run_indexS0 71 _ _ .i64 (c) g 16 cc 64 rfl kj kj kj kj (by omega))) ?_
  refine any_read (.int .u32 (wv (wget x7 c))) kj kj (fun W hR => (run_loadC1 64 _ g c 64 _ (.int .u32 (wv (wget x7 c))) _ (row_ext (row_ext r1_15_23 (ext_drew _)) hR) rfl kj ((rest_get (Nat.lt_of_lt_of_eq (by omega) (wv_len hx7).symm)).trans (congrArg (fun z => some (Value.int .u32 z)) (nth_map x7 c))) kj)) ?_
  refine any_val (.int .u32 (wv (((wget x7 b)) ^^^ ((wget x7 c))))) kj kj (fun W => (run_eq (u := .int .u32 (bits .xor .u32 (wv (wget x7 b)) (wv (wget x7 c)))) kj (congrArg (Value.int .u32) (w_xor _ _)))) ?_
  refine any_val (.slice (some ⟨g3, 0, none⟩) 4 4) kj kj (fun W => by kernel_rfl) ?_
  refine any_val (.int .i64 2) kj kj (fun W => by kernel_rfl) ?_
  refine any_val (.int .i64 3) kj kj (fun W => by kernel_rfl) ?_
  refine any_val (.pointer (some ⟨g3, 3, none⟩)) kj kj (fun W => (run_indexS0 84 _ _ .i64 (3) g3 4 4 36 rfl kj kj kj kj (by decide))) ?_
  have r3_12 := (row_ext r3_11 e12)
  have r3_13 := (Puts.row p13 r3_12 (ne_of_new hg l3))
  have r3_14 := (row_ext r3_13 e14)
  have r3_15 := (Puts.row p15 r3_14 (ne_of_new hg l3))
  refine any_read (.int .u64 7) kj kj (fun W hR => (run_loadC1 36 _ g3 3 36 _ (.int .u64 7) _ (row_ext (row_ext r3_15 (ext_drew _)) hR) rfl kj kj kj)) ?_
  refine any_call (.int .u32 (wv (rl (((wget x7 b)) ^^^ ((wget x7 c))) 7))) 60 #[.int .u32 (wv (((wget x7 b)) ^^^ ((wget x7 c)))), .int .u64 7] kj kj (fun W => by kernel_rfl) (fun W hR => (rturnC (((wget x7 b)) ^^^ ((wget x7 c))) 7 7 rfl (by decide) (by decide)) W) ?_
  refine any_val (.pointer (some ⟨g, b, none⟩)) kj kj (fun W => (run_indexS0 71 _ _ .i64 (b) g 16 cc 64 rfl kj kj kj kj (by omega))) ?_
  refine steps_nil (hF _ kj fun W16 e16 => ?_)
  simp only [ups, up, Kn.val, List.take_succ_cons, List.take_zero, List.drop_succ_cons, List.drop_zero, List.nil_append, List.cons_append]
  clear hF
  have x16 : ExtB g w W16 := ExtB.ext x15 e16
  have r1_16 := (row_ext r1_15_23 e16)
  refine seq_store g _ (ints .u32 (((x7).set b ((rl (((wget x7 b)) ^^^ ((wget x7 c))) 7))).map wv) ++ rest) 64 r1_16 rfl kj (run_storeRestW 64 _ _ g b 64 _ x7 ((rl (((wget x7 b)) ^^^ ((wget x7 c))) 7)) r1_16 rfl kj kj kj (Nat.lt_of_lt_of_eq (by omega) (wv_len hx7).symm)) fun W17 p17 r1_17 => ?_
  have x17 : ExtB g w W17 := ExtB.puts x16 p17
  obtain ⟨x8, ex8⟩ : ∃ z : List Wd, z = rs2 x7 b c 7 := ⟨_, rfl⟩
  have hx8 : x8.length = 16 := by rw [ex8, rs2_len, hx7]
  have r1_17_24 : W17.heap[g]? = some (.cells (ints .u32 ((x8).map wv) ++ rest) 64) := row_eqR r1_17 (by rw [ex8]; rfl)
  refine seq_nil ?_
  refine hK17 _ _ ?_
  try clear hK17 K17
  refine region_lit ?_
  refine seq_val (.int .i64 2) 15 rfl kj kj ?_
  refine seq_val (.int .i64 4) 16 rfl kj kj ?_
  refine seq_val (.int .i64 4) 11 rfl kj kj ?_
  refine seq_nil ?_
  show Code.rounds _ _ _ 1 _ _
  show Code.wp _ _ (Exit.then (Code.rounds _ _ _ 0) _) _ _
  refine wp_seq_k fun K25 hK25 => ?_
  refine wp_seq_k fun K26 hK26 => ?_
  refine region_lit ?_
  refine seq_val (.int .i64 4) 13 rfl kj kj ?_
  refine seq_val (.bool false) 14 rfl kj kj ?_
  refine seq_nil ?_
  refine hK26 _ _ ?_
  try clear hK26 K26
  refine cond_false kj ?_
  refine wp_exit ?_
  repeat (first | with_reducible refine goX1 ?_ | with_reducible refine goX2 ?_ | with_reducible refine goX3 ?_)
  exact (show bodyPost _ _ _ .normal _ _ from end0 rfl ⟨rfl, x17, by rw [show rqrt x a b c d = x8 by rw [ex8, ex7, ex6, ex5, ex4, ex3, ex2, ex1]; rfl]; exact r1_17_24⟩)
set_option maxHeartbeats 4000000 in
theorem rwordsC (b : List Int) (v : Value) (B : Nat) (w : World) (hb : RdK .u8 B b v w) (hl : b.length ≤ 1000000) : Calls Tryd.prog 47 #[v] w (Gives w (OwnN .u32 64 w.heap.size ((rwords b).map wv))) := by
  obtain ⟨a_b, c_b, rfl, -⟩ := id hb
  refine enter 45 [(0, .slice a_b b.length c_b)] Tryd.func47 rfl rfl kj rfl ?_
  refine wp_seq_k fun K1 hK1 => ?_
  refine region_lit ?_
  refine seq_val (.slice none 0 0) 2 rfl kj kj ?_
  refine seq_nil ?_
  refine hK1 _ _ ?_
  try clear hK1 K1
  refine wp_seq_k fun K2 hK2 => ?_
  refine region_lit ?_
  refine seq_val (.slice none 0 0) 3 rfl kj kj ?_
  refine seq_nil ?_
  refine hK2 _ _ ?_
  try clear hK2 K2
  refine wp_seq_k fun K3 hK3 => ?_
  refine wp_seq_k fun K4 hK4 => ?_
  refine region_lit ?_
  refine seq_val (.int .i64 0) 4 rfl kj kj ?_
  refine seq_nil ?_
  refine hK4 _ _ ?_
  try clear hK4 K4
  refine wp_block ?_
  refine loop_auto (fun (s1 : Nat × Value) => [(0, .slice a_b b.length c_b), (3, s1.2), (4, .int .i64 ((4 * s1.1 : Nat) : Int))]) (fun (s1 : Nat × Value) W => (4 * s1.1 ≤ b.length) ∧ (OwnN .u32 64 w.heap.size ((rws b s1.1).map wv) s1.2 W) ∧ (Ext w W)) (fun (s1 : Nat × Value) => b.length - 4 * s1.1) (0, (.slice none 0 0)) ⟨rfl, rfl, rfl, trivial⟩ ⟨(Nat.zero_le _), (ownN_nil _ _ _ _), (Rely.Ext.refl w)⟩ fun s1 X1 V1 hI1 => ?_
  obtain ⟨j, u⟩ := s1
  obtain ⟨hj, hu, xx1⟩ := hI1
  replace hj : 4 * j ≤ b.length := hj
  replace hu : OwnN .u32 64 w.heap.size ((rws b j).map wv) u V1 := hu
  replace xx1 : Ext w V1 := xx1
  refine wp_seq_k fun K5 hK5 => ?_
  refine wp_seq_k fun K6 hK6 => ?_
  refine region_lit ?_
  refine seq_val (.int .i64 ((4 * j : Nat) : Int)) 5 rfl kj kj ?_
  refine seq_val (.int .i64 (((4 * j) + 4 : Nat) : Int)) 6 rfl kj (run_eq (u := .int .i64 (IntKind.i64.wrap (((4 * j : Nat) : Int) + 4))) kj (congrArg (Value.int .i64) (i64n _ _ (by omega) (by omega)))) ?_
  refine seq_val (.slice a_b b.length c_b) 7 rfl kj kj ?_
  refine seq_val (.int .i64 ((b.length : Nat) : Int)) 8 rfl kj kj ?_
  refine seq_val (.bool (decide ((((4 * j) + 4 : Nat) : Int) ≤ ((b.length : Nat) : Int)))) 9 rfl kj kj ?_
  refine seq_nil ?_
  refine hK6 _ _ ?_
  try clear hK6 K6
  refine cond_split (t := decide ((((4 * j) + 4 : Nat) : Int) ≤ ((b.length : Nat) : Int))) kj (fun c7 => ?_) (fun c7 => ?_)
  · skip
    have hlt : 4 * j + 4 ≤ b.length := by have := of_decide_eq_true c7; omega
    obtain ⟨gb, ob, hab, -, hlb, hcb⟩ := rdK_at (RdK.ext hb xx1) (by omega)
    refine wp_skip ?_
    refine hK5 _ _ ?_
    try clear hK5 K5
    refine wp_seq_k fun K9 hK9 => ?_
    refine wp_block ?_
    refine any_regionE 31 [⟨none, [(3, none)]⟩, ⟨none, [(0, none)]⟩, ⟨none, [(4, none)]⟩, ⟨none, [(13, some 1), (14, some 2)]⟩, ⟨none, [(15, some 3)]⟩, ⟨none, [(16, some 4)]⟩, ⟨none, [(0, none)]⟩, ⟨none, [(4, none)]⟩, ⟨none, [(19, some 7)]⟩, ⟨none, [(18, some 6), (20, some 8)]⟩, ⟨none, [(21, some 9)]⟩, ⟨none, [(22, some 10)]⟩, ⟨none, [(23, some 11)]⟩, ⟨none, [(17, some 5), (24, some 12)]⟩, ⟨none, [(0, none)]⟩, ⟨none, [(4, none)]⟩, ⟨none, [(27, some 15)]⟩, ⟨none, [(26, some 14), (28, some 16)]⟩, ⟨none, [(29, some 17)]⟩, ⟨none, [(30, some 18)]⟩, ⟨none, [(31, some 19)]⟩, ⟨none, [(25, some 13), (32, some 20)]⟩, ⟨none, [(0, none)]⟩, ⟨none, [(4, none)]⟩, ⟨none, [(35, some 23)]⟩, ⟨none, [(34, some 22), (36, some 24)]⟩, ⟨none, [(37, some 25)]⟩, ⟨none, [(38, some 26)]⟩, ⟨none, [(39, some 27)]⟩, ⟨none, [(33, some 21), (40, some 28)]⟩, ⟨none, [(41, some 29)]⟩] kj kj fun F hF => ?_
    refine e_val (rl_ext _) (u) kj kj (fun W => by kernel_rfl) ?_
    refine e_val (rl_ext _) (.slice a_b b.length c_b) kj kj (fun W => by kernel_rfl) ?_
    refine e_val (rl_ext _) (.int .i64 ((4 * j : Nat) : Int)) kj kj (fun W => by kernel_rfl) ?_
    refine e_val (rl_ext _) (.pointer (some ⟨gb, ob + (4 * j), none⟩)) kj kj (fun W => (run_indexA 24 _ _ .i64 (4 * j) gb ob b.length c_b 5 a_b _ hab rfl rfl kj kj kj kj (Nat.lt_of_lt_of_eq (show 4 * j < b.length by omega) (rfl : b.length = b.length).symm))) ?_
    refine e_read (rl_ext _) (.int .u8 (nth (b) ((4 * j)))) kj kj (fun W hR => (run_loadCell 5 _ _ (.int .u8 (nth (b) ((4 * j)))) ((Below.cell (Rely.Ext.trans (ext_drew _) hR) hlb).trans (hcb (4 * j) (Nat.lt_of_lt_of_eq (show 4 * j < b.length by omega) (rfl : b.length = b.length).symm))) rfl kj kj)) ?_
    refine e_val (rl_ext _) (.int .u32 (wv (BitVec.ofInt 32 (nth b (4 * j))))) kj kj (fun W => (run_eq (u := .int .u32 (IntKind.u32.wrap (nth (b) ((4 * j))))) kj (congrArg (Value.int .u32) (convW b (4 * j))))) ?_
    refine e_val (rl_ext _) (.slice a_b b.length c_b) kj kj (fun W => by kernel_rfl) ?_
    refine e_val (rl_ext _) (.int .i64 ((4 * j : Nat) : Int)) kj kj (fun W => by kernel_rfl) ?_
    refine e_val (rl_ext _) (.int .i64 (((4 * j) + 1 : Nat) : Int)) kj kj (fun W => (run_eq (u := .int .i64 (IntKind.i64.wrap (((4 * j : Nat) : Int) + 1))) kj (congrArg (Value.int .i64) (i64n _ _ (by omega) (by omega))))) ?_
    refine e_val (rl_ext _) (.pointer (some ⟨gb, ob + ((4 * j) + 1), none⟩)) kj kj (fun W => (run_indexA 24 _ _ .i64 ((4 * j) + 1) gb ob b.length c_b 5 a_b _ hab rfl rfl kj kj kj kj (Nat.lt_of_lt_of_eq (show (4 * j) + 1 < b.length by omega) (rfl : b.length = b.length).symm))) ?_
    refine e_read (rl_ext _) (.int .u8 (nth (b) (((4 * j) + 1)))) kj kj (fun W hR => (run_loadCell 5 _ _ (.int .u8 (nth (b) (((4 * j) + 1)))) ((Below.cell (Rely.Ext.trans (ext_drew _) hR) hlb).trans (hcb ((4 * j) + 1) (Nat.lt_of_lt_of_eq (show (4 * j) + 1 < b.length by omega) (rfl : b.length = b.length).symm))) rfl kj kj)) ?_
    refine e_val (rl_ext _) (.int .u32 (wv (BitVec.ofInt 32 (nth b (4 * j + 1))))) kj kj (fun W => (run_eq (u := .int .u32 (IntKind.u32.wrap (nth (b) (((4 * j) + 1))))) kj (congrArg (Value.int .u32) (convW b (4 * j + 1))))) ?_
    refine e_val (rl_ext _) (.int .u32 (wv (BitVec.ofInt 32 (nth b (4 * j + 1)) <<< 8))) kj kj (fun W => (run_eq (u := .int .u32 (IntKind.u32.wrap (256 * (wv (BitVec.ofInt 32 (nth b (4 * j + 1))))))) kj (congrArg (Value.int .u32) (mulW _ 256 8 rfl (by decide))))) ?_
    refine e_val (rl_ext _) (.int .u32 (wv (((BitVec.ofInt 32 (nth b (4 * j)))) + ((BitVec.ofInt 32 (nth b (4 * j + 1)) <<< 8))))) kj kj (fun W => (run_eq (u := .int .u32 (IntKind.u32.wrap (wv (BitVec.ofInt 32 (nth b (4 * j))) + wv (BitVec.ofInt 32 (nth b (4 * j + 1)) <<< 8)))) kj (congrArg (Value.int .u32) (w_add _ _)))) ?_
    refine e_val (rl_ext _) (.slice a_b b.length c_b) kj kj (fun W => by kernel_rfl) ?_
    refine e_val (rl_ext _) (.int .i64 ((4 * j : Nat) : Int)) kj kj (fun W => by kernel_rfl) ?_
    refine e_val (rl_ext _) (.int .i64 (((4 * j) + 2 : Nat) : Int)) kj kj (fun W => (run_eq (u := .int .i64 (IntKind.i64.wrap (((4 * j : Nat) : Int) + 2))) kj (congrArg (Value.int .i64) (i64n _ _ (by omega) (by omega))))) ?_
    refine e_val (rl_ext _) (.pointer (some ⟨gb, ob + ((4 * j) + 2), none⟩)) kj kj (fun W => (run_indexA 24 _ _ .i64 ((4 * j) + 2) gb ob b.length c_b 5 a_b _ hab rfl rfl kj kj kj kj (Nat.lt_of_lt_of_eq (show (4 * j) + 2 < b.length by omega) (rfl : b.length = b.length).symm))) ?_
    refine e_read (rl_ext _) (.int .u8 (nth (b) (((4 * j) + 2)))) kj kj (fun W hR => (run_loadCell 5 _ _ (.int .u8 (nth (b) (((4 * j) + 2)))) ((Below.cell (Rely.Ext.trans (ext_drew _) hR) hlb).trans (hcb ((4 * j) + 2) (Nat.lt_of_lt_of_eq (show (4 * j) + 2 < b.length by omega) (rfl : b.length = b.length).symm))) rfl kj kj)) ?_
    refine e_val (rl_ext _) (.int .u32 (wv (BitVec.ofInt 32 (nth b (4 * j + 2))))) kj kj (fun W => (run_eq (u := .int .u32 (IntKind.u32.wrap (nth (b) (((4 * j) + 2))))) kj (congrArg (Value.int .u32) (convW b (4 * j + 2))))) ?_
    refine e_val (rl_ext _) (.int .u32 (wv (BitVec.ofInt 32 (nth b (4 * j + 2)) <<< 16))) kj kj (fun W => (run_eq (u := .int .u32 (IntKind.u32.wrap (65536 * (wv (BitVec.ofInt 32 (nth b (4 * j + 2))))))) kj (congrArg (Value.int .u32) (mulW _ 65536 16 rfl (by decide))))) ?_
    refine e_val (rl_ext _) (.int .u32 (wv (((((BitVec.ofInt 32 (nth b (4 * j)))) + ((BitVec.ofInt 32 (nth b (4 * j + 1)) <<< 8)))) + ((BitVec.ofInt 32 (nth b (4 * j + 2)) <<< 16))))) kj kj (fun W => (run_eq (u := .int .u32 (IntKind.u32.wrap (wv (((BitVec.ofInt 32 (nth b (4 * j)))) + ((BitVec.ofInt 32 (nth b (4 * j + 1)) <<< 8))) + wv (BitVec.ofInt 32 (nth b (4 * j + 2)) <<< 16)))) kj (congrArg (Value.int .u32) (w_add _ _)))) ?_
    refine e_val (rl_ext _) (.slice a_b b.length c_b) kj kj (fun W => by kernel_rfl) ?_
    refine e_val (rl_ext _) (.int .i64 ((4 * j : Nat) : Int)) kj kj (fun W => by kernel_rfl) ?_
    refine e_val (rl_ext _) (.int .i64 (((4 * j) + 3 : Nat) : Int)) kj kj (fun W => (run_eq (u := .int .i64 (IntKind.i64.wrap (((4 * j : Nat) : Int) + 3))) kj (congrArg (Value.int .i64) (i64n _ _ (by omega) (by omega))))) ?_
    refine e_val (rl_ext _) (.pointer (some ⟨gb, ob + ((4 * j) + 3), none⟩)) kj kj (fun W => (run_indexA 24 _ _ .i64 ((4 * j) + 3) gb ob b.length c_b 5 a_b _ hab rfl rfl kj kj kj kj (Nat.lt_of_lt_of_eq (show (4 * j) + 3 < b.length by omega) (rfl : b.length = b.length).symm))) ?_
    refine e_read (rl_ext _) (.int .u8 (nth (b) (((4 * j) + 3)))) kj kj (fun W hR => (run_loadCell 5 _ _ (.int .u8 (nth (b) (((4 * j) + 3)))) ((Below.cell (Rely.Ext.trans (ext_drew _) hR) hlb).trans (hcb ((4 * j) + 3) (Nat.lt_of_lt_of_eq (show (4 * j) + 3 < b.length by omega) (rfl : b.length = b.length).symm))) rfl kj kj)) ?_
    refine e_val (rl_ext _) (.int .u32 (wv (BitVec.ofInt 32 (nth b (4 * j + 3))))) kj kj (fun W => (run_eq (u := .int .u32 (IntKind.u32.wrap (nth (b) (((4 * j) + 3))))) kj (congrArg (Value.int .u32) (convW b (4 * j + 3))))) ?_
    refine e_val (rl_ext _) (.int .u32 (wv (BitVec.ofInt 32 (nth b (4 * j + 3)) <<< 24))) kj kj (fun W => (run_eq (u := .int .u32 (IntKind.u32.wrap (16777216 * (wv (BitVec.ofInt 32 (nth b (4 * j + 3))))))) kj (congrArg (Value.int .u32) (mulW _ 16777216 24 rfl (by decide))))) ?_
    refine e_val (rl_ext _) (.int .u32 (wv (rw4 b j))) kj kj (fun W => (run_eq (u := .int .u32 (IntKind.u32.wrap ((wv (((((BitVec.ofInt 32 (nth b (4 * j)))) + ((BitVec.ofInt 32 (nth b (4 * j + 1)) <<< 8)))) + ((BitVec.ofInt 32 (nth b (4 * j + 2)) <<< 16)))) + (wv (BitVec.ofInt 32 (nth b (4 * j + 3)) <<< 24))))) kj (congrArg (Value.int .u32) (w_add _ _)))) ?_
    refine e_newS (rl_ext _) (ints .u32 ([(wv (rw4 b j))])) 64 1 (NewS.stable _ _ _ _) kj kj (fun W => by kernel_rfl) ?_
    refine e_nil (hF _ fun W2 e2 => ?_)
    simp only [List.nil_append, List.cons_append, List.take_succ_cons, List.take_zero, List.drop_succ_cons, List.drop_zero, finE, up]
    intro vv10 hv10
    clear hF
    have x2 : Ext w W2 := Ext.tr xx1 e2
    obtain ⟨g10, rfl, l10, r10_2⟩ := hv10
    have b10 : w.heap.size ≤ g10 := Nat.le_trans xx1.size l10
    have f11_2 := (hu.ext e2)
    have y0_2 : Ext w W2 := (Rely.Ext.trans xx1 e2)
    refine seq_appendN (k := .u32) (T := 64) (xs := (rws b j).map wv) (ys := [(wv (rw4 b j))]) (V := w) 4 (.tmp 12) (.tmp 42) 71 rfl kj kj (by decide) 43 rfl kj kj kj f11_2 (rdK_ints (xs := [(wv (rw4 b j))]) (n := 1) rfl r10_2 (row_lt r10_2) (show 1 ≤ maxLen from by decide)) (by simp only [List.length_map, rws_len, List.length_cons, List.length_nil]; omega) y0_2 fun z1 W3 f12 y3 l3 => ?_
    have x3 : Ext w W3 := Ext.low x2 l3 (Rely.Ext.refl w).size
    refine seq_val (z1) 3 rfl kj kj ?_
    refine seq_nil ?_
    refine hK9 _ _ ?_
    try clear hK9 K9
    refine region_lit ?_
    refine seq_val (.int .i64 ((4 * j : Nat) : Int)) 10 rfl kj kj ?_
    refine seq_val (.int .i64 (((4 * j) + 4 : Nat) : Int)) 11 rfl kj (run_eq (u := .int .i64 (IntKind.i64.wrap (((4 * j : Nat) : Int) + 4))) kj (congrArg (Value.int .i64) (i64n _ _ (by omega) (by omega)))) ?_
    refine seq_val (.int .i64 (((4 * j) + 4 : Nat) : Int)) 4 rfl kj kj ?_
    refine seq_nil ?_
    repeat (first | with_reducible refine goX1 ?_ | with_reducible refine goX2 ?_ | with_reducible refine goX3 ?_)
    exact goes_then ((j + 1), z1) ⟨rfl, rfl, rfl, trivial⟩ ⟨(by omega), (by rw [rws_succ]; exact f12), x3⟩ (by show b.length - 4 * (j + 1) < b.length - 4 * j; omega)
  · skip
    have hge : b.length / 4 = j := by have := of_decide_eq_false c7; omega
    refine wp_exit ?_
    refine hK3 _ _ ?_
    try clear hK3 K3
    refine wp_seq_k fun K14 hK14 => ?_
    refine region_lit ?_
    refine seq_val (u) 44 rfl kj kj ?_
    refine seq_val (u) 2 rfl kj kj ?_
    refine seq_nil ?_
    refine hK14 _ _ ?_
    try clear hK14 K14
    refine wp_ret ?_
    repeat (first | with_reducible refine goR1 ?_ | with_reducible refine goR2 ?_)
    exact (show bodyPost _ _ _ .ret _ _ from ret1 (u) rfl (res_tmp kj) ⟨u, rfl, xx1, by unfold rwords; rw [hge]; exact hu⟩)

end Go.Proofs.YticjghmgbmjkiaaDoor.Cha
