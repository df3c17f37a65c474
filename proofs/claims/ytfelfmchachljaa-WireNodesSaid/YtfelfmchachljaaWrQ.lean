/- The laws' own functions: answer, Is, Over. -/
import Derived.Test.YtfelfmchachljaaWrP
namespace Go.Proofs.Ytfelfmchachljaa.Wr
open Go Go.RowKit
open Go.Proofs.Ytfelfmchachljaa.Rely Go.Proofs.Ytfelfmchachljaa.Auto Go.Proofs.Ytfelfmchachljaa.Own Go.Proofs.Ytfelfmchachljaa.Sha
set_option linter.unusedVariables false
set_option linter.unusedSimpArgs false

set_option maxHeartbeats 4000000 in
theorem is3 (w : World) : Calls Try.prog 45 #[.iface 102 (.int .i64 3), .int .i64 3] w (Ret w (.bool true)) := by
  refine enter 9 [(0, .iface 102 (.int .i64 3)), (1, .int .i64 3)] Try.func45 rfl rfl kj rfl ?_
  refine wp_seq_k fun K1 hK1 => ?_
  refine region_lit ?_
  refine seq_val (.bool false) 4 rfl kj kj ?_
  refine seq_nil ?_
  refine hK1 _ _ ?_
  try clear hK1 K1
  refine wp_seq_k fun K2 hK2 => ?_
  refine region_lit ?_
  refine seq_val (.iface 102 (.int .i64 3)) 5 rfl kj kj ?_
  refine seq_call (.int .i64 3) 93 #[.iface 102 (.int .i64 3)] 6 rfl kj kj ((numE 3 (by decide)) _) fun W1 e1 => ?_
  have x1 : Ext w W1 := Ext.tr (Rely.Ext.refl w) e1
  refine seq_val (.int .i64 3) 7 rfl kj kj ?_
  refine seq_val (.bool true) 8 rfl kj kj ?_
  refine seq_val (.bool true) 4 rfl kj kj ?_
  refine seq_nil ?_
  refine hK2 _ _ ?_
  try clear hK2 K2
  refine wp_ret ?_
  repeat (first | with_reducible refine goR1 ?_ | with_reducible refine goR2 ?_)
  exact (show bodyPost _ _ _ .ret _ _ from ret1 (.bool true) rfl (res_tmp kj) ⟨rfl, x1⟩)
set_option maxHeartbeats 4000000 in
theorem answer_N (x : Value) (w : World) : Calls Try.prog 16 #[.slice none 0 0, .iface 102 (.int .i64 3), x, .bool false] w (Ret w (.bool true)) := by
  refine enter 25 [(0, .slice none 0 0), (1, .iface 102 (.int .i64 3)), (2, x), (3, .bool false)] Try.func16 rfl rfl kj rfl ?_
  refine wp_seq_k fun K1 hK1 => ?_
  refine region_lit ?_
  refine seq_val (.bool false) 8 rfl kj kj ?_
  refine seq_nil ?_
  refine hK1 _ _ ?_
  try clear hK1 K1
  refine wp_seq_k fun K2 hK2 => ?_
  refine wp_seq_k fun K3 hK3 => ?_
  refine region_lit ?_
  refine seq_val (.bool false) 9 rfl kj kj ?_
  refine seq_val (.bool true) 10 rfl kj kj ?_
  refine seq_nil ?_
  refine hK3 _ _ ?_
  try clear hK3 K3
  refine cond_true kj ?_
  refine wp_seq_k fun K4 hK4 => ?_
  refine region_lit ?_
  refine seq_val (.iface 102 (.int .i64 3)) 11 rfl kj kj ?_
  refine seq_call (.bool true) 45 #[.iface 102 (.int .i64 3), .int .i64 3] 12 rfl kj kj ((is3) _) fun W1 e1 => ?_
  have x1 : Ext w W1 := Ext.tr (Rely.Ext.refl w) e1
  refine seq_val (.bool true) 13 rfl kj kj ?_
  refine seq_val (.slice none 0 0) 14 rfl kj kj ?_
  refine seq_val (.int .i64 0) 15 rfl kj kj ?_
  refine seq_val (.bool true) 16 rfl kj kj ?_
  refine seq_val (.bool true) 17 rfl kj kj ?_
  refine seq_val (.bool true) 8 rfl kj kj ?_
  refine seq_nil ?_
  refine hK4 _ _ ?_
  try clear hK4 K4
  refine wp_ret ?_
  repeat (first | with_reducible refine goR1 ?_ | with_reducible refine goR2 ?_)
  exact (show bodyPost _ _ _ .ret _ _ from ret1 (.bool true) rfl (res_tmp kj) ⟨rfl, x1⟩)
set_option maxHeartbeats 4000000 in
theorem answer_S (x y : Value) (xs : List Int) (w : World) (hx : BytesAt w x xs) (hy : BytesAt w y xs) : Calls Try.prog 16 #[x, .nilIface, y, .bool true] w (Ret w (.bool true)) := by
  refine enter 25 [(0, x), (1, .nilIface), (2, y), (3, .bool true)] Try.func16 rfl rfl kj rfl ?_
  refine wp_seq_k fun K1 hK1 => ?_
  refine region_lit ?_
  refine seq_val (.bool false) 8 rfl kj kj ?_
  refine seq_nil ?_
  refine hK1 _ _ ?_
  try clear hK1 K1
  refine wp_seq_k fun K2 hK2 => ?_
  refine wp_seq_k fun K3 hK3 => ?_
  refine region_lit ?_
  refine seq_val (.bool true) 9 rfl kj kj ?_
  refine seq_val (.bool false) 10 rfl kj kj ?_
  refine seq_nil ?_
  refine hK3 _ _ ?_
  try clear hK3 K3
  refine cond_false kj ?_
  refine wp_skip ?_
  refine hK2 _ _ ?_
  try clear hK2 K2
  refine wp_seq_k fun K4 hK4 => ?_
  refine region_lit ?_
  refine seq_val (.nilIface) 18 rfl kj kj ?_
  refine seq_val (.bool true) 19 rfl kj kj ?_
  refine seq_val (.bool true) 20 rfl kj kj ?_
  refine seq_val (x) 21 rfl kj kj ?_
  refine seq_val (y) 22 rfl kj kj ?_
  refine seq_call (.bool true) 19 #[x, y] 23 rfl kj kj ((sameT _ _ _ _ _ rfl (BytesAt.ext hx (Rely.Ext.refl w)) (BytesAt.ext hy (Rely.Ext.refl w)))) fun W1 e1 => ?_
  have x1 : Ext w W1 := Ext.tr (Rely.Ext.refl w) e1
  refine seq_val (.bool true) 24 rfl kj kj ?_
  refine seq_val (.bool true) 8 rfl kj kj ?_
  refine seq_nil ?_
  refine hK4 _ _ ?_
  try clear hK4 K4
  refine wp_ret ?_
  repeat (first | with_reducible refine goR1 ?_ | with_reducible refine goR2 ?_)
  exact (show bodyPost _ _ _ .ret _ _ from ret1 (.bool true) rfl (res_tmp kj) ⟨rfl, x1⟩)
set_option maxHeartbeats 4000000 in
theorem overC (g n c : Nat) (xs : List Int) (rest : Array Value) (w : World) (hnl : n ≤ 1000000) (hn : xs.length = n) (hg : w.heap[g]? = some (.cells (ints .u8 xs ++ rest) 5)) : Calls Try.prog 18 #[.slice (some ⟨g, 0, none⟩) n c] w (fun e W => e = .returned (.tuple #[]) ∧ ExtB g w W) := by
  refine enter 15 [(0, .slice (some ⟨g, 0, none⟩) n c)] Try.func18 rfl rfl kj rfl ?_
  refine wp_seq_k fun K2 hK2 => ?_
  refine region_lit ?_
  refine seq_val (.slice (some ⟨g, 0, none⟩) n c) 3 rfl kj kj ?_
  refine seq_val (.int .i64 ((n : Nat) : Int)) 4 rfl kj kj ?_
  refine seq_val (.int .i64 0) 5 rfl kj kj ?_
  refine seq_nil ?_
  refine hK2 _ _ ?_
  try clear hK2 K2
  refine wp_block ?_
  refine loop_auto (fun (s1 : Nat × List Int) => [(0, .slice (some ⟨g, 0, none⟩) n c), (4, .int .i64 ((n : Nat) : Int)), (5, .int .i64 ((s1.1 : Nat) : Int))]) (fun (s1 : Nat × List Int) W => (s1.1 ≤ n) ∧ (s1.2.length = n) ∧ (W.heap[g]? = some (.cells (ints .u8 (s1.2) ++ rest) 5)) ∧ (Keeps [g] w W) ∧ (ExtB g w W)) (fun (s1 : Nat × List Int) => n - s1.1) (0, xs) ⟨rfl, rfl, rfl, trivial⟩ ⟨(Nat.zero_le _), hn, hg, (Keeps.refl [g] w), (ExtB.refl g w)⟩ fun s1 X1 V1 hI1 => ?_
  obtain ⟨i, zs⟩ := s1
  obtain ⟨hi, hz, q1_1, kk1, xx1⟩ := hI1
  replace hi : i ≤ n := hi
  replace hz : zs.length = n := hz
  replace q1_1 : V1.heap[g]? = some (.cells (ints .u8 (zs) ++ rest) 5) := q1_1
  replace kk1 : Keeps [g] w V1 := kk1
  replace xx1 : ExtB g w V1 := xx1
  have q1 := kk1
  refine wp_seq_k fun K3 hK3 => ?_
  refine region_lit ?_
  refine seq_val (.bool (decide (((i : Nat) : Int) < ((n : Nat) : Int)))) 6 rfl kj kj ?_
  refine seq_nil ?_
  refine hK3 _ _ ?_
  try clear hK3 K3
  refine wp_seq_k fun K4 hK4 => ?_
  refine cond_split (t := decide (((i : Nat) : Int) < ((n : Nat) : Int))) kj (fun c5 => ?_) (fun c5 => ?_)
  · skip
    have hlt6 : i < n := by have := of_decide_eq_true c5; omega
    refine wp_skip ?_
    refine hK4 _ _ ?_
    try clear hK4 K4
    refine wp_seq_k fun K6 hK6 => ?_
    refine wp_block ?_
    refine wp_seq_k fun K7 hK7 => ?_
    refine region_lit ?_
    refine seq_val (.int .i64 ((i : Nat) : Int)) 7 rfl kj kj ?_
    refine seq_val (.int .i64 ((i : Nat) : Int)) 2 rfl kj kj ?_
    refine seq_nil ?_
    refine hK7 _ _ ?_
    try clear hK7 K7
    refine region_lit ?_
    refine seq_val (.slice (some ⟨g, 0, none⟩) n c) 8 rfl kj kj ?_
    refine seq_val (.int .i64 ((i : Nat) : Int)) 9 rfl kj kj ?_
    refine seq_val (.pointer (some ⟨g, i, none⟩)) 10 rfl kj (run_indexS0 26 _ _ .i64 (i) g n c 5 rfl kj kj kj kj (by omega)) ?_
    refine seq_val (.int .u8 (nth (zs) i)) 11 rfl kj (run_loadC1 5 _ g i 5 _ (.int .u8 (nth (zs) i)) _ q1_1 rfl kj (rest_get (Nat.lt_of_lt_of_eq (by omega) hz.symm)) kj) ?_
    refine seq_val (.int .u8 (bits .xor .u8 ((nth (zs) i)) (255))) 12 rfl kj kj ?_
    refine seq_val (.pointer (some ⟨g, i, none⟩)) 13 rfl kj (run_indexS0 26 _ _ .i64 (i) g n c 5 rfl kj kj kj kj (by omega)) ?_
    refine seq_store g _ (ints .u8 ((zs).set i (bits .xor .u8 ((nth (zs) i)) (255))) ++ rest) 5 q1_1 rfl kj (run_storeRest 5 _ _ g i 5 _ _ _ q1_1 rfl kj kj kj (Nat.lt_of_lt_of_eq (by omega) hz.symm)) fun W2 p2 r1_2 => ?_
    have x2 : ExtB g w W2 := ExtB.puts xx1 p2
    refine seq_nil ?_
    refine hK6 _ _ ?_
    try clear hK6 K6
    refine region_lit ?_
    refine seq_val (.int .i64 ((i + 1 : Nat) : Int)) 14 rfl kj (run_eq (u := .int .i64 (IntKind.i64.wrap (((i : Nat) : Int) + 1))) kj (congrArg (Value.int .i64) (i64n _ _ (by omega) (by omega)))) ?_
    refine seq_val (.int .i64 ((i + 1 : Nat) : Int)) 5 rfl kj kj ?_
    refine seq_nil ?_
    repeat (first | with_reducible refine goX1 ?_ | with_reducible refine goX2 ?_ | with_reducible refine goX3 ?_)
    exact goes_then ((i + 1), (zs).set i (bits .xor .u8 ((nth (zs) i)) (255))) ⟨rfl, rfl, rfl, trivial⟩ ⟨(by omega), (by rw [List.length_set]; exact hz), r1_2, (Keeps.puts q1 p2 (.inl (by simp))), x2⟩ (by omega)
  · skip
    have heq6 : i = n := by have := of_decide_eq_false c5; omega
    refine wp_exit ?_
    repeat (first | with_reducible refine goX1 ?_ | with_reducible refine goX2 ?_ | with_reducible refine goX3 ?_)
    exact (show bodyPost _ _ _ .normal _ _ from end0 rfl ⟨rfl, xx1⟩)

end Go.Proofs.Ytfelfmchachljaa.Wr
