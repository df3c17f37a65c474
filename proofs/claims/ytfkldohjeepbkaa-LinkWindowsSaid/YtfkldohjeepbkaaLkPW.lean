/- Windows: the law. -/
import Derived.Test.YtfkldohjeepbkaaLkPM
namespace Go.Proofs.Ytfkldohjeepbkaa.Lk
open Go Go.RowKit
open Go.Proofs.Ytfkldohjeepbkaa.Rely Go.Proofs.Ytfkldohjeepbkaa.Auto
set_option linter.unusedVariables false

theorem nth_mem (ts : List Int) (k : Nat) (hk : k < ts.length) : nth ts k ∈ ts := by
  have h : nth ts k = ts[k] := by simp [nth, hk]
  rw [h]
  exact List.getElem_mem hk
theorem hi_next (ts : List Int) (k : Nat) (hk : k < ts.length) : hiT (ts.take (k + 1)) = if nth ts k > hiT (ts.take k) then nth ts k else hiT (ts.take k) := by
  rw [List.take_add_one, List.getElem?_eq_getElem hk]
  show hiT (ts.take k ++ [ts[k]]) = _
  rw [hiT_snoc, show nth ts k = ts[k] by simp [nth, hk]]
theorem hi_range {ts : List Int} (h : ∀ m ∈ ts, 0 ≤ m ∧ m < 4294967295) : -1 ≤ hiT ts ∧ hiT ts < 4294967295 := by
  rcases hi_mem ts with e | e
  · omega
  · have := h _ e; omega
theorem MarkAny {g : Nat} {nx : Int} {B : Nat} {ts : List Int} (h : WInv nx B ts) (n e : Int) (he : chkT ts n = e) : ∃ (nx2 : Int) (B2 : Nat), WInv nx2 B2 (if e = 0 then ts ++ [n] else ts) ∧
    ∀ (w : World), w.heap[g]? = some (.cells (cat [#[.int .i64 nx], #[.int .u64 ((B : Nat) : Int)]]) 35) → Calls Try.prog 13 #[.pointer (some ⟨g, 0, none⟩), .int .i64 n] w fun v w' => v = .returned (errV e) ∧ ExtB g w w' ∧ w'.heap[g]? = some (.cells (cat [#[.int .i64 nx2], #[.int .u64 ((B2 : Nat) : Int)]]) 35) := by
  by_cases h0 : e = 0
  · obtain ⟨nx2, B2, h1, h2⟩ := MarkZ (g := g) h (he.trans h0)
    refine ⟨nx2, B2, by rw [if_pos h0]; exact h1, fun w hg => (h2 w hg).mono fun v w' hh => ?_⟩
    rw [errV_nil h0]; exact hh
  · have hw := chk_same h n
    refine ⟨nx, B, by rw [if_neg h0]; exact h, fun w hg => (MarkNo g nx B n h.hnx h.hB w hg (by rw [hw, he]; exact h0)).mono fun v w' hh => ?_⟩
    rw [hw, he, ← errV_ne h0] at hh
    exact ⟨hh.1, (ExtB.refl g w).ext hh.2, row_ext hg hh.2⟩
theorem CheckS {g : Nat} {nx : Int} {B : Nat} {ts : List Int} (h : WInv nx B ts) (n e : Int) (he : chkT ts n = e) (w : World) (hg : w.heap[g]? = some (.cells (cat [#[.int .i64 nx], #[.int .u64 ((B : Nat) : Int)]]) 35)) :
    Calls Try.prog 12 #[.pointer (some ⟨g, 0, none⟩), .int .i64 n] w (Ret w (errV e)) := by
  have c := CheckC g nx B n h.hnx h.hB w hg
  rw [chk_same h n, he] at c
  exact c
section
variable {ds : List Deferred} {ops : Array Oper} {Q : Exit → Act → World → Prop} {rest : List Oper} {o : Oper} {N : Nat} {L : Env} {W : World}
theorem seq_append (s x : Operand) (t : TypeId) (ho : o.op = .call { callee := .builtin .append, args := #[s, x], argTypes := #[t, t] })
    (ht : Try.prog.underlying t = some (.slice 3)) (base gt gs : Nat) (cur : Array Value) (ts : List Int) (m : Int) (d : Nat) (hd : o.dst = some d) (hg : wantB ops o N L = some true) (hs : Rely.look (envN N L) s = .slice (some ⟨gt, 0, none⟩) ts.length cur.size) (hx : Rely.look (envN N L) x = .slice (some ⟨gs, 0, none⟩) 1 1)
    (hb : base ≤ gt) (r : W.heap[gt]? = some (.cells cur 3)) (hle : ts.length ≤ cur.size) (hmax : cur.size ≤ maxLen) (htake : cur.toList.take ts.length = ts.map (Value.int .i64)) (hn : ts.length ≤ 1000)
    (rs : W.heap[gs]? = some (.cells (ints .i64 [m]) 3)) (hbase : base ≤ W.heap.size)
    (k : ∀ (gt' : Nat) (cur' : Array Value) (W' : World), base ≤ gt' → W'.heap[gt']? = some (.cells cur' 3) → (ts ++ [m]).length ≤ cur'.size → cur'.size ≤ maxLen → cur'.toList.take (ts ++ [m]).length = (ts ++ [m]).map (Value.int .i64) → ExtB gt W W' →
      WL Try.prog ops Q rest (actOf ds N ((d, .slice (some ⟨gt', 0, none⟩) (ts ++ [m]).length cur'.size) :: L)) W') : WL Try.prog ops Q (o :: rest) (actOf ds N L) W := by
  obtain ⟨gt', cap', cur', W', h1, h2, h3, h4, h5, h6, h7, h8⟩ := append_one (ρ := Rely.look (envN N L)) (o := o) (W := W) s x t ho ht base gt cur.size gs cur ts m hs hx hb r rfl hle hmax htake hn rs hbase
  subst h4
  exact seq_valw _ _ d hd hg h1 (k gt' cur' W' h2 h3 h5 h6 h7 h8)
end
set_option maxHeartbeats 4000000 in
theorem rhighC (gt c : Nat) (cur : Array Value) (ts : List Int) (htake : cur.toList.take ts.length = ts.map (Value.int .i64)) (hlt : ts.length ≤ 1000) (w : World) (r : w.heap[gt]? = some (.cells cur 3)) : Calls Try.prog 15 #[.slice (some ⟨gt, 0, none⟩) ts.length c] w (Ret w (.int .i64 (hiT ts))) := by
  refine enter 22 [(0, .slice (some ⟨gt, 0, none⟩) ts.length c)] Try.func15 rfl rfl (by kernel_rfl) rfl ?_
  refine wp_seq_k fun K1 hK1 => ?_
  refine region_lit ?_
  refine seq_val (.int .i64 0) 2 rfl (by kernel_rfl) (by kernel_rfl) ?_
  refine seq_nil ?_
  refine hK1 _ _ ?_
  try clear hK1 K1
  refine wp_seq_k fun K2 hK2 => ?_
  refine region_lit ?_
  refine seq_val (.int .i64 (-1)) 3 rfl (by kernel_rfl) (by kernel_rfl) ?_
  refine seq_nil ?_
  refine hK2 _ _ ?_
  try clear hK2 K2
  refine wp_seq_k fun K3 hK3 => ?_
  refine wp_seq_k fun K4 hK4 => ?_
  refine region_lit ?_
  refine seq_val (.int .i64 0) 4 rfl (by kernel_rfl) (by kernel_rfl) ?_
  refine seq_nil ?_
  refine hK4 _ _ ?_
  try clear hK4 K4
  refine wp_block ?_
  refine loop_auto (fun (k : Nat) => [(3, .int .i64 (hiT (ts.take k))), (4, .int .i64 ((k : Nat) : Int)), (0, .slice (some ⟨gt, 0, none⟩) ts.length c)]) (fun (k : Nat) W => (k ≤ ts.length) ∧ Ext w W) (fun (k : Nat) => ts.length - k) 0 ⟨rfl, rfl, rfl, trivial⟩ ⟨(Nat.zero_le _), (Rely.Ext.refl w)⟩ fun k X1 V1 hI => ?_
  obtain ⟨hkn, xx1⟩ := hI
  refine wp_seq_k fun K5 hK5 => ?_
  refine wp_seq_k fun K6 hK6 => ?_
  refine region_lit ?_
  refine seq_val (.int .i64 ((k : Nat) : Int)) 5 rfl (by kernel_rfl) (by kernel_rfl) ?_
  refine seq_val (.slice (some ⟨gt, 0, none⟩) ts.length c) 6 rfl (by kernel_rfl) (by kernel_rfl) ?_
  refine seq_val (.int .i64 ((ts.length : Nat) : Int)) 7 rfl (by kernel_rfl) (by kernel_rfl) ?_
  refine seq_val (.bool (decide (((k : Nat) : Int) < ((ts.length : Nat) : Int)))) 8 rfl (by kernel_rfl) (by kernel_rfl) ?_
  refine seq_nil ?_
  refine hK6 _ _ ?_
  try clear hK6 K6
  refine cond_split (t := decide (((k : Nat) : Int) < ((ts.length : Nat) : Int))) (by kernel_rfl) (fun c7 => ?_) (fun c7 => ?_)
  · skip
    have hk : k < ts.length := by have := of_decide_eq_true c7; omega
    refine wp_skip ?_
    refine hK5 _ _ ?_
    try clear hK5 K5
    refine wp_seq_k fun K8 hK8 => ?_
    refine wp_block ?_
    refine wp_seq_k fun K9 hK9 => ?_
    refine region_lit ?_
    refine seq_val (.slice (some ⟨gt, 0, none⟩) ts.length c) 11 rfl (by kernel_rfl) (by kernel_rfl) ?_
    refine seq_val (.int .i64 ((k : Nat) : Int)) 12 rfl (by kernel_rfl) (by kernel_rfl) ?_
    refine seq_val (.pointer (some ⟨gt, 0 + k, none⟩)) 13 rfl (by kernel_rfl) (run_indexS 28 _ _ .i64 (k) gt 0 ts.length c 3 rfl (by kernel_rfl) (by kernel_rfl) (by kernel_rfl) (by kernel_rfl) hk) ?_
    refine seq_val (.int .i64 (nth (ts) (k))) 14 rfl (by kernel_rfl) (run_loadCell 3 _ _ (.int .i64 (nth (ts) (k))) ((Below.cell xx1 (row_lt r)).trans ((cells_take r htake) k hk)) rfl (by kernel_rfl) (by kernel_rfl)) ?_
    refine seq_val (.int .i64 (hiT (ts.take k))) 15 rfl (by kernel_rfl) (by kernel_rfl) ?_
    refine seq_val (.bool (decide ((nth (ts) (k)) > (hiT (ts.take k))))) 16 rfl (by kernel_rfl) (by kernel_rfl) ?_
    refine seq_nil ?_
    refine hK9 _ _ ?_
    try clear hK9 K9
    refine cond_split (t := decide ((nth (ts) (k)) > (hiT (ts.take k)))) (by kernel_rfl) (fun c10 => ?_) (fun c10 => ?_)
    · skip
      have hs : nth ts k > hiT (ts.take k) := of_decide_eq_true c10
      refine region_lit ?_
      refine seq_val (.slice (some ⟨gt, 0, none⟩) ts.length c) 17 rfl (by kernel_rfl) (by kernel_rfl) ?_
      refine seq_val (.int .i64 ((k : Nat) : Int)) 18 rfl (by kernel_rfl) (by kernel_rfl) ?_
      refine seq_val (.pointer (some ⟨gt, 0 + k, none⟩)) 19 rfl (by kernel_rfl) (run_indexS 28 _ _ .i64 (k) gt 0 ts.length c 3 rfl (by kernel_rfl) (by kernel_rfl) (by kernel_rfl) (by kernel_rfl) hk) ?_
      refine seq_val (.int .i64 (nth (ts) (k))) 20 rfl (by kernel_rfl) (run_loadCell 3 _ _ (.int .i64 (nth (ts) (k))) ((Below.cell xx1 (row_lt r)).trans ((cells_take r htake) k hk)) rfl (by kernel_rfl) (by kernel_rfl)) ?_
      refine seq_val (.int .i64 (nth (ts) (k))) 3 rfl (by kernel_rfl) (by kernel_rfl) ?_
      refine seq_nil ?_
      refine hK8 _ _ ?_
      try clear hK8 K8
      refine region_lit ?_
      refine seq_val (.int .i64 ((k : Nat) : Int)) 9 rfl (by kernel_rfl) (by kernel_rfl) ?_
      refine seq_val (.int .i64 (((k + 1 : Nat) : Int))) 10 rfl (by kernel_rfl) (run_eq (u := .int .i64 (IntKind.i64.wrap (((k : Nat) : Int) + 1))) (by kernel_rfl) (congrArg (Value.int .i64) (i64_add1 k (by omega)))) ?_
      refine seq_val (.int .i64 (((k + 1 : Nat) : Int))) 4 rfl (by kernel_rfl) (by kernel_rfl) ?_
      refine seq_nil ?_
      repeat (first | with_reducible refine goX1 ?_ | with_reducible refine goX2 ?_ | with_reducible refine goX3 ?_)
      exact goes_then (k + 1) ⟨(congrArg (Value.int .i64) ((hi_next ts k hk).trans (if_pos hs)).symm), rfl, rfl, trivial⟩ ⟨(by omega), xx1⟩ (by omega)
    · skip
      have hs : ¬ nth ts k > hiT (ts.take k) := of_decide_eq_false c10
      refine wp_skip ?_
      refine hK8 _ _ ?_
      try clear hK8 K8
      refine region_lit ?_
      refine seq_val (.int .i64 ((k : Nat) : Int)) 9 rfl (by kernel_rfl) (by kernel_rfl) ?_
      refine seq_val (.int .i64 (((k + 1 : Nat) : Int))) 10 rfl (by kernel_rfl) (run_eq (u := .int .i64 (IntKind.i64.wrap (((k : Nat) : Int) + 1))) (by kernel_rfl) (congrArg (Value.int .i64) (i64_add1 k (by omega)))) ?_
      refine seq_val (.int .i64 (((k + 1 : Nat) : Int))) 4 rfl (by kernel_rfl) (by kernel_rfl) ?_
      refine seq_nil ?_
      repeat (first | with_reducible refine goX1 ?_ | with_reducible refine goX2 ?_ | with_reducible refine goX3 ?_)
      exact goes_then (k + 1) ⟨(congrArg (Value.int .i64) ((hi_next ts k hk).trans (if_neg hs)).symm), rfl, rfl, trivial⟩ ⟨(by omega), xx1⟩ (by omega)
  · skip
    have hk : k = ts.length := by have := of_decide_eq_false c7; omega
    subst hk
    refine wp_exit ?_
    refine hK3 _ _ ?_
    try clear hK3 K3
    refine wp_seq_k fun K11 hK11 => ?_
    refine region_lit ?_
    refine seq_val (.int .i64 (hiT (ts.take ts.length))) 21 rfl (by kernel_rfl) (by kernel_rfl) ?_
    refine seq_val (.int .i64 (hiT (ts.take ts.length))) 2 rfl (by kernel_rfl) (by kernel_rfl) ?_
    refine seq_nil ?_
    refine hK11 _ _ ?_
    try clear hK11 K11
    refine wp_ret ?_
    repeat (first | with_reducible refine goR1 ?_ | with_reducible refine goR2 ?_)
    exact (show bodyPost _ _ _ .ret _ _ from ret1 (.int .i64 (hiT (ts.take ts.length))) rfl (res_tmp (by kernel_rfl)) ⟨by rw [List.take_of_length_le (Nat.le_refl _)], xx1⟩)
set_option maxHeartbeats 4000000 in
theorem rchk_A (gt c : Nat) (cur : Array Value) (ts : List Int) (htake : cur.toList.take ts.length = ts.map (Value.int .i64)) (hlt : ts.length ≤ 1000) (n : Int) (hrng : ∀ m ∈ ts, 0 ≤ m ∧ m < 4294967295) (h : n < 0) (w : World) (r : w.heap[gt]? = some (.cells cur 3)) : Calls Try.prog 10 #[.slice (some ⟨gt, 0, none⟩) ts.length c, .int .i64 n] w (Ret w (.int .i64 (chkT ts n))) := by
  refine enter 29 [(0, .slice (some ⟨gt, 0, none⟩) ts.length c), (1, .int .i64 n)] Try.func10 rfl rfl (by kernel_rfl) rfl ?_
  refine wp_seq_k fun K1 hK1 => ?_
  refine region_lit ?_
  refine seq_val (.int .i64 0) 4 rfl (by kernel_rfl) (by kernel_rfl) ?_
  refine seq_nil ?_
  refine hK1 _ _ ?_
  try clear hK1 K1
  refine wp_seq_k fun K2 hK2 => ?_
  refine wp_seq_k fun K3 hK3 => ?_
  refine region_lit ?_
  refine seq_val (.int .i64 n) 6 rfl (by kernel_rfl) (by kernel_rfl) ?_
  refine seq_val (.bool true) 7 rfl (by kernel_rfl) (run_eq (u := .bool (decide (n < 0))) (by kernel_rfl) (congrArg Value.bool (decide_eq_true (by omega)))) ?_
  refine seq_val (.bool true) 8 rfl (by kernel_rfl) (by kernel_rfl) ?_
  refine seq_skip 9 rfl (by kernel_rfl) ?_
  refine seq_skip 10 rfl (by kernel_rfl) ?_
  refine seq_val (.bool true) 11 rfl (by kernel_rfl) (by kernel_rfl) ?_
  refine seq_nil ?_
  refine hK3 _ _ ?_
  try clear hK3 K3
  refine cond_true (by kernel_rfl) ?_
  refine wp_seq_k fun K4 hK4 => ?_
  refine region_lit ?_
  refine seq_val (.int .i64 8) 4 rfl (by kernel_rfl) (by kernel_rfl) ?_
  refine seq_nil ?_
  refine hK4 _ _ ?_
  try clear hK4 K4
  refine wp_ret ?_
  repeat (first | with_reducible refine goR1 ?_ | with_reducible refine goR2 ?_)
  exact (show bodyPost _ _ _ .ret _ _ from ret1 (.int .i64 8) rfl (res_tmp (by kernel_rfl)) ⟨congrArg (fun z => Ending.returned (.int .i64 z)) (by unfold chkT; rw [if_pos (.inl h)]), (Rely.Ext.refl w)⟩)
set_option maxHeartbeats 4000000 in
theorem rchk_B (gt c : Nat) (cur : Array Value) (ts : List Int) (htake : cur.toList.take ts.length = ts.map (Value.int .i64)) (hlt : ts.length ≤ 1000) (n : Int) (hrng : ∀ m ∈ ts, 0 ≤ m ∧ m < 4294967295) (h0 : 0 ≤ n) (h : 4294967294 < n) (w : World) (r : w.heap[gt]? = some (.cells cur 3)) : Calls Try.prog 10 #[.slice (some ⟨gt, 0, none⟩) ts.length c, .int .i64 n] w (Ret w (.int .i64 (chkT ts n))) := by
  refine enter 29 [(0, .slice (some ⟨gt, 0, none⟩) ts.length c), (1, .int .i64 n)] Try.func10 rfl rfl (by kernel_rfl) rfl ?_
  refine wp_seq_k fun K1 hK1 => ?_
  refine region_lit ?_
  refine seq_val (.int .i64 0) 4 rfl (by kernel_rfl) (by kernel_rfl) ?_
  refine seq_nil ?_
  refine hK1 _ _ ?_
  try clear hK1 K1
  refine wp_seq_k fun K2 hK2 => ?_
  refine wp_seq_k fun K3 hK3 => ?_
  refine region_lit ?_
  refine seq_val (.int .i64 n) 6 rfl (by kernel_rfl) (by kernel_rfl) ?_
  refine seq_val (.bool false) 7 rfl (by kernel_rfl) (run_eq (u := .bool (decide (n < 0))) (by kernel_rfl) (congrArg Value.bool (decide_eq_false (by omega)))) ?_
  refine seq_val (.bool false) 8 rfl (by kernel_rfl) (by kernel_rfl) ?_
  refine seq_val (.int .i64 n) 9 rfl (by kernel_rfl) (by kernel_rfl) ?_
  refine seq_val (.bool true) 10 rfl (by kernel_rfl) (run_eq (u := .bool (decide (n > 4294967294))) (by kernel_rfl) (congrArg Value.bool (decide_eq_true (by omega)))) ?_
  refine seq_val (.bool true) 11 rfl (by kernel_rfl) (by kernel_rfl) ?_
  refine seq_nil ?_
  refine hK3 _ _ ?_
  try clear hK3 K3
  refine cond_true (by kernel_rfl) ?_
  refine wp_seq_k fun K4 hK4 => ?_
  refine region_lit ?_
  refine seq_val (.int .i64 8) 4 rfl (by kernel_rfl) (by kernel_rfl) ?_
  refine seq_nil ?_
  refine hK4 _ _ ?_
  try clear hK4 K4
  refine wp_ret ?_
  repeat (first | with_reducible refine goR1 ?_ | with_reducible refine goR2 ?_)
  exact (show bodyPost _ _ _ .ret _ _ from ret1 (.int .i64 8) rfl (res_tmp (by kernel_rfl)) ⟨congrArg (fun z => Ending.returned (.int .i64 z)) (by unfold chkT; rw [if_pos (.inr h)]), (Rely.Ext.refl w)⟩)
set_option maxHeartbeats 4000000 in
theorem rchk_C (gt c : Nat) (cur : Array Value) (ts : List Int) (htake : cur.toList.take ts.length = ts.map (Value.int .i64)) (hlt : ts.length ≤ 1000) (n : Int) (hrng : ∀ m ∈ ts, 0 ≤ m ∧ m < 4294967295) (h0 : 0 ≤ n ∧ n ≤ 4294967294) (h : n < hiT ts - 64) (w : World) (r : w.heap[gt]? = some (.cells cur 3)) : Calls Try.prog 10 #[.slice (some ⟨gt, 0, none⟩) ts.length c, .int .i64 n] w (Ret w (.int .i64 (chkT ts n))) := by
  refine enter 29 [(0, .slice (some ⟨gt, 0, none⟩) ts.length c), (1, .int .i64 n)] Try.func10 rfl rfl (by kernel_rfl) rfl ?_
  refine wp_seq_k fun K1 hK1 => ?_
  refine region_lit ?_
  refine seq_val (.int .i64 0) 4 rfl (by kernel_rfl) (by kernel_rfl) ?_
  refine seq_nil ?_
  refine hK1 _ _ ?_
  try clear hK1 K1
  refine wp_seq_k fun K2 hK2 => ?_
  refine wp_seq_k fun K3 hK3 => ?_
  refine region_lit ?_
  refine seq_val (.int .i64 n) 6 rfl (by kernel_rfl) (by kernel_rfl) ?_
  refine seq_val (.bool false) 7 rfl (by kernel_rfl) (run_eq (u := .bool (decide (n < 0))) (by kernel_rfl) (congrArg Value.bool (decide_eq_false (by omega)))) ?_
  refine seq_val (.bool false) 8 rfl (by kernel_rfl) (by kernel_rfl) ?_
  refine seq_val (.int .i64 n) 9 rfl (by kernel_rfl) (by kernel_rfl) ?_
  refine seq_val (.bool false) 10 rfl (by kernel_rfl) (run_eq (u := .bool (decide (n > 4294967294))) (by kernel_rfl) (congrArg Value.bool (decide_eq_false (by omega)))) ?_
  refine seq_val (.bool false) 11 rfl (by kernel_rfl) (by kernel_rfl) ?_
  refine seq_nil ?_
  refine hK3 _ _ ?_
  try clear hK3 K3
  refine cond_false (by kernel_rfl) ?_
  refine wp_skip ?_
  refine hK2 _ _ ?_
  try clear hK2 K2
  refine wp_seq_k fun K4 hK4 => ?_
  refine wp_seq_k fun K5 hK5 => ?_
  refine region_lit ?_
  refine seq_val (.int .i64 n) 12 rfl (by kernel_rfl) (by kernel_rfl) ?_
  refine seq_val (.slice (some ⟨gt, 0, none⟩) ts.length c) 13 rfl (by kernel_rfl) (by kernel_rfl) ?_
  refine seq_call (.int .i64 (hiT ts)) 15 #[.slice (some ⟨gt, 0, none⟩) ts.length c] 14 rfl (by kernel_rfl) (by kernel_rfl) (rhighC gt c cur ts htake hlt _ (row_ext r (Rely.Ext.refl w))) fun W1 e1 => ?_
  have x1 : Ext w W1 := Ext.tr (Rely.Ext.refl w) e1
  refine seq_val (.int .i64 (hiT ts - 64)) 15 rfl (by kernel_rfl) (run_eq (u := .int .i64 (IntKind.i64.wrap ((hiT ts) - 64))) (by kernel_rfl) (congrArg (Value.int .i64) (i64_w _ (by have := hi_range hrng; omega)))) ?_
  refine seq_val (.bool true) 16 rfl (by kernel_rfl) (run_eq (u := .bool (decide (n < (hiT ts - 64)))) (by kernel_rfl) (congrArg Value.bool (decide_eq_true (by omega)))) ?_
  refine seq_nil ?_
  refine hK5 _ _ ?_
  try clear hK5 K5
  refine cond_true (by kernel_rfl) ?_
  refine wp_seq_k fun K6 hK6 => ?_
  refine region_lit ?_
  refine seq_val (.int .i64 11) 4 rfl (by kernel_rfl) (by kernel_rfl) ?_
  refine seq_nil ?_
  refine hK6 _ _ ?_
  try clear hK6 K6
  refine wp_ret ?_
  repeat (first | with_reducible refine goR1 ?_ | with_reducible refine goR2 ?_)
  exact (show bodyPost _ _ _ .ret _ _ from ret1 (.int .i64 11) rfl (res_tmp (by kernel_rfl)) ⟨congrArg (fun z => Ending.returned (.int .i64 z)) (by unfold chkT; rw [if_neg (by omega), if_pos h]), x1⟩)
set_option maxHeartbeats 4000000 in
theorem rchk_D (gt c : Nat) (cur : Array Value) (ts : List Int) (htake : cur.toList.take ts.length = ts.map (Value.int .i64)) (hlt : ts.length ≤ 1000) (n : Int) (hrng : ∀ m ∈ ts, 0 ≤ m ∧ m < 4294967295) (h0 : 0 ≤ n ∧ n ≤ 4294967294) (h : ¬ n < hiT ts - 64) (w : World) (r : w.heap[gt]? = some (.cells cur 3)) : Calls Try.prog 10 #[.slice (some ⟨gt, 0, none⟩) ts.length c, .int .i64 n] w (Ret w (.int .i64 (chkT ts n))) := by
  refine enter 29 [(0, .slice (some ⟨gt, 0, none⟩) ts.length c), (1, .int .i64 n)] Try.func10 rfl rfl (by kernel_rfl) rfl ?_
  refine wp_seq_k fun K1 hK1 => ?_
  refine region_lit ?_
  refine seq_val (.int .i64 0) 4 rfl (by kernel_rfl) (by kernel_rfl) ?_
  refine seq_nil ?_
  refine hK1 _ _ ?_
  try clear hK1 K1
  refine wp_seq_k fun K2 hK2 => ?_
  refine wp_seq_k fun K3 hK3 => ?_
  refine region_lit ?_
  refine seq_val (.int .i64 n) 6 rfl (by kernel_rfl) (by kernel_rfl) ?_
  refine seq_val (.bool false) 7 rfl (by kernel_rfl) (run_eq (u := .bool (decide (n < 0))) (by kernel_rfl) (congrArg Value.bool (decide_eq_false (by omega)))) ?_
  refine seq_val (.bool false) 8 rfl (by kernel_rfl) (by kernel_rfl) ?_
  refine seq_val (.int .i64 n) 9 rfl (by kernel_rfl) (by kernel_rfl) ?_
  refine seq_val (.bool false) 10 rfl (by kernel_rfl) (run_eq (u := .bool (decide (n > 4294967294))) (by kernel_rfl) (congrArg Value.bool (decide_eq_false (by omega)))) ?_
  refine seq_val (.bool false) 11 rfl (by kernel_rfl) (by kernel_rfl) ?_
  refine seq_nil ?_
  refine hK3 _ _ ?_
  try clear hK3 K3
  refine cond_false (by kernel_rfl) ?_
  refine wp_skip ?_
  refine hK2 _ _ ?_
  try clear hK2 K2
  refine wp_seq_k fun K4 hK4 => ?_
  refine wp_seq_k fun K5 hK5 => ?_
  refine region_lit ?_
  refine seq_val (.int .i64 n) 12 rfl (by kernel_rfl) (by kernel_rfl) ?_
  refine seq_val (.slice (some ⟨gt, 0, none⟩) ts.length c) 13 rfl (by kernel_rfl) (by kernel_rfl) ?_
  refine seq_call (.int .i64 (hiT ts)) 15 #[.slice (some ⟨gt, 0, none⟩) ts.length c] 14 rfl (by kernel_rfl) (by kernel_rfl) (rhighC gt c cur ts htake hlt _ (row_ext r (Rely.Ext.refl w))) fun W1 e1 => ?_
  have x1 : Ext w W1 := Ext.tr (Rely.Ext.refl w) e1
  refine seq_val (.int .i64 (hiT ts - 64)) 15 rfl (by kernel_rfl) (run_eq (u := .int .i64 (IntKind.i64.wrap ((hiT ts) - 64))) (by kernel_rfl) (congrArg (Value.int .i64) (i64_w _ (by have := hi_range hrng; omega)))) ?_
  refine seq_val (.bool false) 16 rfl (by kernel_rfl) (run_eq (u := .bool (decide (n < (hiT ts - 64)))) (by kernel_rfl) (congrArg Value.bool (decide_eq_false (by omega)))) ?_
  refine seq_nil ?_
  refine hK5 _ _ ?_
  try clear hK5 K5
  refine cond_false (by kernel_rfl) ?_
  refine wp_skip ?_
  refine hK4 _ _ ?_
  try clear hK4 K4
  refine wp_seq_k fun K6 hK6 => ?_
  refine wp_seq_k fun K7 hK7 => ?_
  refine region_lit ?_
  refine seq_val (.int .i64 0) 5 rfl (by kernel_rfl) (by kernel_rfl) ?_
  refine seq_nil ?_
  refine hK7 _ _ ?_
  try clear hK7 K7
  refine wp_block ?_
  refine loop_auto (fun (k : Nat) => [(5, .int .i64 ((k : Nat) : Int)), (0, .slice (some ⟨gt, 0, none⟩) ts.length c), (1, .int .i64 n)]) (fun (k : Nat) W => (k ≤ ts.length) ∧ (∀ i, i < k → nth ts i ≠ n) ∧ Ext w W) (fun (k : Nat) => ts.length - k) 0 ⟨rfl, rfl, rfl, trivial⟩ ⟨(Nat.zero_le _), (fun i hi => by omega), x1⟩ fun k X1 V1 hI => ?_
  obtain ⟨hkn, hne, xx1⟩ := hI
  refine wp_seq_k fun K8 hK8 => ?_
  refine wp_seq_k fun K9 hK9 => ?_
  refine region_lit ?_
  refine seq_val (.int .i64 ((k : Nat) : Int)) 17 rfl (by kernel_rfl) (by kernel_rfl) ?_
  refine seq_val (.slice (some ⟨gt, 0, none⟩) ts.length c) 18 rfl (by kernel_rfl) (by kernel_rfl) ?_
  refine seq_val (.int .i64 ((ts.length : Nat) : Int)) 19 rfl (by kernel_rfl) (by kernel_rfl) ?_
  refine seq_val (.bool (decide (((k : Nat) : Int) < ((ts.length : Nat) : Int)))) 20 rfl (by kernel_rfl) (by kernel_rfl) ?_
  refine seq_nil ?_
  refine hK9 _ _ ?_
  try clear hK9 K9
  refine cond_split (t := decide (((k : Nat) : Int) < ((ts.length : Nat) : Int))) (by kernel_rfl) (fun c10 => ?_) (fun c10 => ?_)
  · skip
    have hk : k < ts.length := by have := of_decide_eq_true c10; omega
    refine wp_skip ?_
    refine hK8 _ _ ?_
    try clear hK8 K8
    refine wp_seq_k fun K11 hK11 => ?_
    refine wp_block ?_
    refine wp_seq_k fun K12 hK12 => ?_
    refine region_lit ?_
    refine seq_val (.slice (some ⟨gt, 0, none⟩) ts.length c) 23 rfl (by kernel_rfl) (by kernel_rfl) ?_
    refine seq_val (.int .i64 ((k : Nat) : Int)) 24 rfl (by kernel_rfl) (by kernel_rfl) ?_
    refine seq_val (.pointer (some ⟨gt, 0 + k, none⟩)) 25 rfl (by kernel_rfl) (run_indexS 28 _ _ .i64 (k) gt 0 ts.length c 3 rfl (by kernel_rfl) (by kernel_rfl) (by kernel_rfl) (by kernel_rfl) hk) ?_
    refine seq_val (.int .i64 (nth (ts) (k))) 26 rfl (by kernel_rfl) (run_loadCell 3 _ _ (.int .i64 (nth (ts) (k))) ((Below.cell xx1 (row_lt r)).trans ((cells_take r htake) k hk)) rfl (by kernel_rfl) (by kernel_rfl)) ?_
    refine seq_val (.int .i64 n) 27 rfl (by kernel_rfl) (by kernel_rfl) ?_
    refine seq_val (.bool (((nth (ts) (k)) == n))) 28 rfl (by kernel_rfl) (by kernel_rfl) ?_
    refine seq_nil ?_
    refine hK12 _ _ ?_
    try clear hK12 K12
    refine cond_split (t := ((nth (ts) (k)) == n)) (by kernel_rfl) (fun c13 => ?_) (fun c13 => ?_)
    · skip
      have he : nth ts k = n := by simpa using c13
      have hm : n ∈ ts := he ▸ nth_mem ts k hk
      refine wp_seq_k fun K14 hK14 => ?_
      refine region_lit ?_
      refine seq_val (.int .i64 7) 4 rfl (by kernel_rfl) (by kernel_rfl) ?_
      refine seq_nil ?_
      refine hK14 _ _ ?_
      try clear hK14 K14
      refine wp_ret ?_
      repeat (first | with_reducible refine goR1 ?_ | with_reducible refine goR2 ?_)
      exact (show bodyPost _ _ _ .ret _ _ from ret1 (.int .i64 7) rfl (res_tmp (by kernel_rfl)) ⟨congrArg (fun z => Ending.returned (.int .i64 z)) (by unfold chkT; rw [if_neg (by omega), if_neg h, if_pos hm]), xx1⟩)
    · skip
      have he : nth ts k ≠ n := by simpa using c13
      refine wp_skip ?_
      refine hK11 _ _ ?_
      try clear hK11 K11
      refine region_lit ?_
      refine seq_val (.int .i64 ((k : Nat) : Int)) 21 rfl (by kernel_rfl) (by kernel_rfl) ?_
      refine seq_val (.int .i64 (((k + 1 : Nat) : Int))) 22 rfl (by kernel_rfl) (run_eq (u := .int .i64 (IntKind.i64.wrap (((k : Nat) : Int) + 1))) (by kernel_rfl) (congrArg (Value.int .i64) (i64_add1 k (by omega)))) ?_
      refine seq_val (.int .i64 (((k + 1 : Nat) : Int))) 5 rfl (by kernel_rfl) (by kernel_rfl) ?_
      refine seq_nil ?_
      repeat (first | with_reducible refine goX1 ?_ | with_reducible refine goX2 ?_ | with_reducible refine goX3 ?_)
      exact goes_then (k + 1) ⟨rfl, rfl, rfl, trivial⟩ ⟨(by omega), (fun i hi => by rcases Nat.lt_or_ge i k with h | h; exact hne i h; rw [show i = k by omega]; exact he), xx1⟩ (by omega)
  · skip
    have hk : k = ts.length := by have := of_decide_eq_false c10; omega
    have hnm : n ∉ ts := fun hm => by
      obtain ⟨i, hi, e⟩ := List.getElem_of_mem hm
      exact hne i (by omega) (by rw [← e]; simp [nth, hi])
    refine wp_exit ?_
    refine hK6 _ _ ?_
    try clear hK6 K6
    refine wp_seq_k fun K15 hK15 => ?_
    refine region_lit ?_
    refine seq_val (.int .i64 0) 4 rfl (by kernel_rfl) (by kernel_rfl) ?_
    refine seq_nil ?_
    refine hK15 _ _ ?_
    try clear hK15 K15
    refine wp_ret ?_
    repeat (first | with_reducible refine goR1 ?_ | with_reducible refine goR2 ?_)
    exact (show bodyPost _ _ _ .ret _ _ from ret1 (.int .i64 0) rfl (res_tmp (by kernel_rfl)) ⟨congrArg (fun z => Ending.returned (.int .i64 z)) (by unfold chkT; rw [if_neg (by omega), if_neg h, if_neg hnm]), xx1⟩)
theorem rchkC (gt c : Nat) (cur : Array Value) (ts : List Int) (htake : cur.toList.take ts.length = ts.map (Value.int .i64)) (hlt : ts.length ≤ 1000) (n : Int) (hrng : ∀ m ∈ ts, 0 ≤ m ∧ m < 4294967295) (w : World) (r : w.heap[gt]? = some (.cells cur 3)) : Calls Try.prog 10 #[.slice (some ⟨gt, 0, none⟩) ts.length c, .int .i64 n] w (Ret w (.int .i64 (chkT ts n))) := by
  by_cases h1 : n < 0
  · exact rchk_A gt c cur ts htake hlt n hrng h1 w r
  by_cases h2 : 4294967294 < n
  · exact rchk_B gt c cur ts htake hlt n hrng (by omega) h2 w r
  by_cases h3 : n < hiT ts - 64
  · exact rchk_C gt c cur ts htake hlt n hrng (by omega) h3 w r
  · exact rchk_D gt c cur ts htake hlt n hrng (by omega) h3 w r
theorem rchkE (gt c : Nat) (cur : Array Value) (ts : List Int) (htake : cur.toList.take ts.length = ts.map (Value.int .i64)) (hlt : ts.length ≤ 1000) (n e : Int) (hrng : ∀ m ∈ ts, 0 ≤ m ∧ m < 4294967295) (he : chkT ts n = e) (w : World) (r : w.heap[gt]? = some (.cells cur 3)) : Calls Try.prog 10 #[.slice (some ⟨gt, 0, none⟩) ts.length c, .int .i64 n] w (Ret w (.int .i64 e)) := by
  rw [← he]; exact rchkC gt c cur ts htake hlt n hrng w r

end Go.Proofs.Ytfkldohjeepbkaa.Lk
