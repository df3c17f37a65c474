/- The key schedule: the law SchedFollows. -/
import Derived.Test.YtamlhbbphnamnaaDoorSchG
import Derived.Test.YtamlhbbphnamnaaDoorSchH
namespace Go.Proofs.YtamlhbbphnamnaaDoor.Sha
open Go Go.RowKit
open Go.Proofs.YtamlhbbphnamnaaDoor.Rely Go.Proofs.YtamlhbbphnamnaaDoor.Auto Go.Proofs.YtamlhbbphnamnaaDoor.Own
set_option linter.unusedVariables false
set_option linter.unusedSimpArgs false

theorem b_remS {P : Program} {w : World} (t : TypeId) (k : IntKind) (a b r : Int) (hb : b ≠ 0) (h : a.tmod b = r) : (binOp .rem t (.int k a) (.int k b)).run P w = .ok (.int k r) w := by
  subst h
  unfold binOp Op.intDiv
  simp [hb]
theorem wrapU (x : Int) : IntKind.u64.wrap x = x % 18446744073709551616 := by
  have : IntKind.u64.wrap x = x % 2 ^ 64 := rfl
  rw [this]; rfl
theorem run_indexSz {P : Program} {ρ : Operand → Value} {o : Oper} {w : World} (t : TypeId) (x y : Operand) (k : IntKind) (n g off len cap : Nat) (e : TypeId) (sz : Nat) (ho : o.op = .indexAddr t x y) (hx : ρ x = .slice (some ⟨g, off, none⟩) len cap) (hy : ρ y = .int k n)
    (hu : P.underlying t = some (.slice e)) (hs : (P.info? e).map (·.size) = some sz) (hn : n < len) : (execOp ρ o).run P w = .ok (.value (.pointer (some ⟨g, off + n * sz, none⟩))) w := by
  cases hq : P.info? e with
  | none => simp [hq] at hs
  | some i =>
    have hs' : i.size = sz := by simpa [hq] using hs
    have hadd : (⟨g, off, none⟩ : Addr).add (n * sz) = ⟨g, off + n * sz, none⟩ := by unfold Addr.add; split <;> simp_all
    have h0 : (0 : Int) ≤ (n : Int) := by omega
    have h1 : (n : Int) < (len : Int) := by omega
    unfold execOp
    simp only [ho, hx, hy]
    simp [Instr.indexAt, asIntOf, run_underlying hu, sizeOf, typeInfo, hq, hs', h0, hn, hadd]
theorem row_of_cell {w : World} {g k : Nat} {v : Value} (h : w.cell? ⟨g, k, none⟩ = some v) : ∃ cs t fr, w.heap[g]? = some (.cells cs t fr) := by
  unfold World.cell? at h
  split at h
  · next c t f e => exact ⟨c, t, f, e⟩
  · cases h
theorem load_cells {P : Program} {ρ : Operand → Value} {o : Oper} {w : World} (ty : TypeId) (x : Operand) (g off n : Nat) (xs : List Int) (hn : xs.length = n) (h0 : 0 < n) (hc : ∀ j, j < n → w.cell? ⟨g, off + j, none⟩ = some (.int .u8 (nth xs j)))
    (ho : o.op = .load ty x) (hx : ρ x = .pointer (some ⟨g, off, none⟩)) (hu : aggD P ty = some true) (hi : (P.info? ty).map (·.size) = some n) : (execOp ρ o).run P w = .ok (.value (.agg (ints .u8 xs))) w := by
  obtain ⟨cs, t, fr, hg⟩ := row_of_cell (hc 0 h0)
  refine run_load_part ty x g off t cs (ints .u8 xs) fr hg ho hx (fun j v hv => ?_) hu (by rw [hi, ints_size, hn])
  have hj : j < xs.length := by
    have := (Array.getElem?_eq_some_iff.1 hv).1
    rwa [ints_size] at this
  have h1 := hc j (by omega)
  unfold World.cell? at h1
  simp only [hg] at h1
  rw [ints_get _ _ _ hj] at hv
  rw [← hv, ← h1]
  rfl
theorem run_fieldS {P : Program} {ρ : Operand → Value} {o : Oper} {w : World} (t : TypeId) (x : Operand) (i : Nat) (a : TypeId) (off : Nat) {e : TypeId} {n : Nat} (pre : List (Array Value)) (u : Array Value) (post : List (Array Value)) (ho : o.op = .field t x i) (hx : ρ x = .agg (cat (pre ++ ([u] ++ post)))) (ht : P.underlying t = some (.struct (P.fieldsOf t)))
    (hf : ((P.fieldsOf t)[i]?).map (fun f => (f.type, f.offset)) = some (a, off)) (ha : P.underlying a = some (.array n e)) (hpre : (cat pre).size = off) (hus : u.size = P.cellsOf a) : (execOp ρ o).run P w = .ok (.value (.agg u)) w := by
  cases hq : (P.fieldsOf t)[i]? with
  | none => rw [hq] at hf; cases hf
  | some f =>
    rw [hq] at hf
    simp only [Option.map_some, Option.some.injEq, Prod.mk.injEq] at hf
    obtain ⟨rfl, rfl⟩ := hf
    obtain ⟨inf, hi⟩ := info_of_underlying ha
    have hp := run_part_arr w ha hi (cat (pre ++ ([u] ++ post))) f.offset
    have he : (cat (pre ++ ([u] ++ post))).extract f.offset (f.offset + P.cellsOf f.type) = u := by
      rw [cat_append, cat_append, ← hpre, ← hus]
      apply Array.ext'
      simp [cat]
    rw [he] at hp
    have hI : (Instr.field t (.agg (cat (pre ++ ([u] ++ post)))) i).run P w = .ok (.agg u) w := by
      unfold Instr.field
      rw [Sem.run_bind, run_underlying ht, Result.andThen_ok]
      show (Sem.run P _ w) = _
      simp only [hq]
      show ((asAgg (.agg (cat (pre ++ ([u] ++ post))))) >>= fun z => part f.type z f.offset).run P w = _
      rw [Sem.run_bind]
      exact hp
    unfold execOp
    simp only [ho, hx, Sem.run_bind, hI, Result.andThen_ok, Sem.run_pure]
/-- the i-th of arrays of 32 bytes that lie one behind the other -/
def part32 (C : List Int) (i : Nat) : List Int := (C.drop (i * 32)).take 32
theorem part32_len (C : List Int) (i n : Nat) (h : C.length = n * 32) (hi : i < n) : (part32 C i).length = 32 := by
  unfold part32
  rw [List.length_take, List.length_drop]; omega
theorem part32_nth (C : List Int) (i j : Nat) (h : j < 32) : nth (part32 C i) j = nth C (i * 32 + j) := by
  unfold nth part32
  rw [List.getD_eq_getElem?_getD, List.getD_eq_getElem?_getD, List.getElem?_take, if_pos h, List.getElem?_drop]
theorem part32_bytes {C : List Int} (h : AreBytes C) (i : Nat) : AreBytes (part32 C i) := fun x hx => h x (List.mem_of_mem_drop (List.mem_of_mem_take hx))
theorem bytes_zero (n : Nat) : AreBytes (List.replicate n 0) := fun x hx => by have := List.mem_replicate.1 hx; omega
set_option maxRecDepth 100000 in
set_option maxHeartbeats 4000000 in
theorem fol_A (ini : List Int) (ac : Option Addr) (n : Nat) (cc : Nat) (jn : Int) (tc tq : TypeId) (w : World) (hc : w.heap[1]? = some (.cells (ints .u64 cubesI) tc)) (hq : w.heap[0]? = some (.cells (ints .u64 squaresI) tq)) (hil : ini.length = 32) (hib : AreBytes ini) (h : 20 < n) : Calls Tryd.prog 12 #[.agg (ints .u8 ini), .slice ac n cc, .int .i64 jn] w (Ret w (.bool true)) := by
  refine enter 73 [(0, .agg (ints .u8 (ini))), (1, .slice ac n cc), (2, .int .i64 jn)] Tryd.func12 rfl rfl kj rfl ?_
  refine wp_seq_k fun K3 hK3 => ?_
  refine region_lit ?_
  refine seq_alloc (ints .u8 (ini)) 26 3 rfl kj kj fun g4 W1 l4 e1 r4_1 => ?_
  have x1 : Ext w W1 := Ext.tr (Rely.Ext.refl w) e1
  have b4 : w.heap.size ≤ g4 := Nat.le_trans (Rely.Ext.refl w).size l4
  refine seq_val (.bool false) 6 rfl kj kj ?_
  refine seq_nil ?_
  refine hK3 _ _ ?_
  try clear hK3 K3
  refine wp_seq_k fun K5 hK5 => ?_
  refine wp_seq_k fun K6 hK6 => ?_
  refine region_lit ?_
  have r1_1 := (row_ext hc e1)
  have r2_1 := (row_ext hq e1)
  refine seq_call (.bool true) 27 #[] 14 rfl kj kj (alive18 tc tq _ r1_1 r2_1) fun W2 e2 => ?_
  have x2 : Ext w W2 := Ext.tr x1 e2
  refine seq_val (.bool false) 15 rfl kj kj ?_
  refine seq_nil ?_
  refine hK6 _ _ ?_
  try clear hK6 K6
  refine cond_false kj ?_
  refine wp_skip ?_
  refine hK5 _ _ ?_
  try clear hK5 K5
  refine wp_seq_k fun K7 hK7 => ?_
  refine wp_seq_k fun K8 hK8 => ?_
  refine region_lit ?_
  refine seq_val (.slice ac n cc) 16 rfl kj kj ?_
  refine seq_val (.int .i64 ((n : Nat) : Int)) 17 rfl kj kj ?_
  refine seq_val (.bool true) 18 rfl kj (run_eq (u := .bool (decide (((n : Nat) : Int) > 20))) kj (congrArg Value.bool (decide_eq_true (by omega)))) ?_
  refine seq_nil ?_
  refine hK8 _ _ ?_
  try clear hK8 K8
  refine cond_true kj ?_
  refine wp_seq_k fun K9 hK9 => ?_
  refine region_lit ?_
  refine seq_val (.bool true) 6 rfl kj kj ?_
  refine seq_nil ?_
  refine hK9 _ _ ?_
  try clear hK9 K9
  refine wp_ret ?_
  repeat (first | with_reducible refine goR1 ?_ | with_reducible refine goR2 ?_)
  exact (show bodyPost _ _ _ .ret _ _ from ret1 (.bool true) rfl (res_tmp kj) ⟨rfl, x2⟩)
set_option maxRecDepth 100000 in
set_option maxHeartbeats 4000000 in
theorem fol_Z (ini C : List Int) (ac : Option Addr)  (cc c2 BC : Nat) (jn : Int) (tc tq : TypeId) (w : World) (hc : w.heap[1]? = some (.cells (ints .u64 cubesI) tc)) (hq : w.heap[0]? = some (.cells (ints .u64 squaresI) tq)) (hil : ini.length = 32) (hib : AreBytes ini) (hCl : C.length = 0 * 32) (hCb : AreBytes C) (hC : RdK .u8 BC C (.slice ac C.length c2) w) (hn0 : True) : Calls Tryd.prog 12 #[.agg (ints .u8 ini), .slice ac 0 cc, .int .i64 jn] w (Ret w (.bool true)) := by
  refine enter 73 [(0, .agg (ints .u8 (ini))), (1, .slice ac 0 cc), (2, .int .i64 jn)] Tryd.func12 rfl rfl kj rfl ?_
  refine wp_seq_k fun K3 hK3 => ?_
  refine region_lit ?_
  refine seq_alloc (ints .u8 (ini)) 26 3 rfl kj kj fun g4 W1 l4 e1 r4_1 => ?_
  have x1 : Ext w W1 := Ext.tr (Rely.Ext.refl w) e1
  have b4 : w.heap.size ≤ g4 := Nat.le_trans (Rely.Ext.refl w).size l4
  refine seq_val (.bool false) 6 rfl kj kj ?_
  refine seq_nil ?_
  refine hK3 _ _ ?_
  try clear hK3 K3
  refine wp_seq_k fun K5 hK5 => ?_
  refine wp_seq_k fun K6 hK6 => ?_
  refine region_lit ?_
  have r1_1 := (row_ext hc e1)
  have r2_1 := (row_ext hq e1)
  refine seq_call (.bool true) 27 #[] 14 rfl kj kj (alive18 tc tq _ r1_1 r2_1) fun W2 e2 => ?_
  have x2 : Ext w W2 := Ext.tr x1 e2
  refine seq_val (.bool false) 15 rfl kj kj ?_
  refine seq_nil ?_
  refine hK6 _ _ ?_
  try clear hK6 K6
  refine cond_false kj ?_
  refine wp_skip ?_
  refine hK5 _ _ ?_
  try clear hK5 K5
  refine wp_seq_k fun K7 hK7 => ?_
  refine wp_seq_k fun K8 hK8 => ?_
  refine region_lit ?_
  refine seq_val (.slice ac 0 cc) 16 rfl kj kj ?_
  refine seq_val (.int .i64 0) 17 rfl kj kj ?_
  refine seq_val (.bool false) 18 rfl kj kj ?_
  refine seq_nil ?_
  refine hK8 _ _ ?_
  try clear hK8 K8
  refine cond_false kj ?_
  refine wp_skip ?_
  refine hK7 _ _ ?_
  try clear hK7 K7
  refine wp_seq_k fun K9 hK9 => ?_
  refine region_lit ?_
  have r4_2 := (row_ext r4_1 e2)
  refine seq_val (.agg (ints .u8 (ini))) 19 rfl kj (run_load_row 26 _ g4 26 _ _ r4_2 rfl kj kj (isz (n := 32) kj ((ints_size _ _).trans hil))) ?_
  refine seq_val (.agg (ints .u8 (List.replicate 32 0))) 20 rfl kj kj ?_
  refine seq_alloc (ints .u8 (List.replicate 32 0)) 26 7 rfl kj kj fun g10 W3 l10 e3 r10_3 => ?_
  have x3 : Ext w W3 := Ext.tr x2 e3
  have b10 : w.heap.size ≤ g10 := Nat.le_trans x2.size l10
  refine seq_alloc (ints .u8 (List.replicate 32 0)) 26 8 rfl kj kj fun g11 W4 l11 e4 r11_4 => ?_
  have x4 : Ext w W4 := Ext.tr x3 e4
  have b11 : w.heap.size ≤ g11 := Nat.le_trans x3.size l11
  have r10_4 := (row_ext r10_3 e4)
  refine seq_store g10 _ (ints .u8 (ini)) 26 r10_4 rfl kj (run_store_row 26 _ _ g10 26 _ _ r10_4 rfl kj kj (isz (n := 32) kj ((ints_size _ _).trans hil)) (eqsz (n := 32) ((ints_size _ _).trans (List.length_replicate (n := 32))) ((ints_size _ _).trans hil)) (ints_one _ _)) fun W5 p5 r10_5 => ?_
  have x5 : Ext w W5 := Puts.ext p5 x4 b10
  have r11_5 := (Puts.row p5 r11_4 (ne_of_new r10_3 l11))
  refine seq_store g11 _ (ints .u8 (List.replicate 32 0)) 26 r11_5 rfl kj (run_store_row 26 _ _ g11 26 _ _ r11_5 rfl kj kj (isz (n := 32) kj ((ints_size _ _).trans (List.length_replicate (n := 32)))) (eqsz (n := 32) ((ints_size _ _).trans (List.length_replicate (n := 32))) ((ints_size _ _).trans (List.length_replicate (n := 32)))) (ints_one _ _)) fun W6 p6 r11_6 => ?_
  have x6 : Ext w W6 := Puts.ext p6 x5 b11
  refine seq_nil ?_
  refine hK9 _ _ ?_
  try clear hK9 K9
  refine wp_seq_k fun K12 hK12 => ?_
  refine wp_seq_k fun K13 hK13 => ?_
  refine region_lit ?_
  refine seq_val (.slice ac 0 cc) 21 rfl kj kj ?_
  refine seq_val (.int .i64 0) 22 rfl kj kj ?_
  refine seq_val (.int .i64 0) 23 rfl kj kj ?_
  refine seq_nil ?_
  refine hK13 _ _ ?_
  try clear hK13 K13
  refine wp_block ?_
  refine wp_loop_rounds 1 ?_
  show Code.wp _ _ (Exit.then (Code.rounds _ _ _ 0) _) _ _
  refine wp_seq_k fun K14 hK14 => ?_
  refine region_lit ?_
  refine seq_val (.bool false) 24 rfl kj kj ?_
  refine seq_nil ?_
  refine hK14 _ _ ?_
  try clear hK14 K14
  refine wp_seq_k fun K15 hK15 => ?_
  refine cond_false kj ?_
  refine wp_exit ?_
  refine hK12 _ _ ?_
  try clear hK12 K12
  refine wp_seq_k fun K16 hK16 => ?_
  refine region_lit ?_
  refine seq_val (.slice ac 0 cc) 65 rfl kj kj ?_
  refine seq_val (.int .i64 0) 66 rfl kj kj ?_
  refine seq_val (.bool true) 67 rfl kj kj ?_
  refine seq_val (.bool true) 68 rfl kj kj ?_
  refine seq_skip 69 rfl kj ?_
  refine seq_skip 70 rfl kj ?_
  refine seq_skip 71 rfl kj ?_
  refine seq_val (.bool true) 72 rfl kj kj ?_
  refine seq_val (.bool true) 6 rfl kj kj ?_
  refine seq_nil ?_
  refine hK16 _ _ ?_
  try clear hK16 K16
  refine wp_ret ?_
  repeat (first | with_reducible refine goR1 ?_ | with_reducible refine goR2 ?_)
  exact (show bodyPost _ _ _ .ret _ _ from ret1 (.bool true) rfl (res_tmp kj) ⟨rfl, x6⟩)
set_option maxRecDepth 100000 in
set_option maxHeartbeats 4000000 in
theorem fol_B (ini C : List Int) (ac : Option Addr) (n : Nat) (cc c2 BC : Nat) (jn : Int) (tc tq : TypeId) (w : World) (hc : w.heap[1]? = some (.cells (ints .u64 cubesI) tc)) (hq : w.heap[0]? = some (.cells (ints .u64 squaresI) tq)) (hil : ini.length = 32) (hib : AreBytes ini) (hCl : C.length = n * 32) (hCb : AreBytes C) (hC : RdK .u8 BC C (.slice ac C.length c2) w) (h : n ≤ 20) (h0 : 0 < n) : Calls Tryd.prog 12 #[.agg (ints .u8 ini), .slice ac n cc, .int .i64 jn] w (Ret w (.bool true)) := by
  obtain ⟨m, em⟩ : ∃ m : Nat, ((m : Nat) : Int) = jn % 18446744073709551616 % ((n : Nat) : Int) := ⟨(jn % 18446744073709551616 % ((n : Nat) : Int)).toNat, Int.toNat_of_nonneg (Int.emod_nonneg _ (by omega))⟩
  have hm : m < n := by have h1 := Int.emod_lt_of_pos (jn % 18446744073709551616) (show (0 : Int) < ((n : Nat) : Int) by omega); omega
  refine enter 73 [(0, .agg (ints .u8 (ini))), (1, .slice ac n cc), (2, .int .i64 jn)] Tryd.func12 rfl rfl kj rfl ?_
  refine wp_seq_k fun K3 hK3 => ?_
  refine region_lit ?_
  refine seq_alloc (ints .u8 (ini)) 26 3 rfl kj kj fun g4 W1 l4 e1 r4_1 => ?_
  have x1 : Ext w W1 := Ext.tr (Rely.Ext.refl w) e1
  have b4 : w.heap.size ≤ g4 := Nat.le_trans (Rely.Ext.refl w).size l4
  refine seq_val (.bool false) 6 rfl kj kj ?_
  refine seq_nil ?_
  refine hK3 _ _ ?_
  try clear hK3 K3
  refine wp_seq_k fun K5 hK5 => ?_
  refine wp_seq_k fun K6 hK6 => ?_
  refine region_lit ?_
  have r1_1 := (row_ext hc e1)
  have r2_1 := (row_ext hq e1)
  refine seq_call (.bool true) 27 #[] 14 rfl kj kj (alive18 tc tq _ r1_1 r2_1) fun W2 e2 => ?_
  have x2 : Ext w W2 := Ext.tr x1 e2
  refine seq_val (.bool false) 15 rfl kj kj ?_
  refine seq_nil ?_
  refine hK6 _ _ ?_
  try clear hK6 K6
  refine cond_false kj ?_
  refine wp_skip ?_
  refine hK5 _ _ ?_
  try clear hK5 K5
  refine wp_seq_k fun K7 hK7 => ?_
  refine wp_seq_k fun K8 hK8 => ?_
  refine region_lit ?_
  refine seq_val (.slice ac n cc) 16 rfl kj kj ?_
  refine seq_val (.int .i64 ((n : Nat) : Int)) 17 rfl kj kj ?_
  refine seq_val (.bool false) 18 rfl kj (run_eq (u := .bool (decide (((n : Nat) : Int) > 20))) kj (congrArg Value.bool (decide_eq_false (by omega)))) ?_
  refine seq_nil ?_
  refine hK8 _ _ ?_
  try clear hK8 K8
  refine cond_false kj ?_
  refine wp_skip ?_
  refine hK7 _ _ ?_
  try clear hK7 K7
  refine wp_seq_k fun K9 hK9 => ?_
  refine region_lit ?_
  have r4_2 := (row_ext r4_1 e2)
  refine seq_val (.agg (ints .u8 (ini))) 19 rfl kj (run_load_row 26 _ g4 26 _ _ r4_2 rfl kj kj (isz (n := 32) kj ((ints_size _ _).trans hil))) ?_
  refine seq_val (.agg (ints .u8 (List.replicate 32 0))) 20 rfl kj kj ?_
  refine seq_alloc (ints .u8 (List.replicate 32 0)) 26 7 rfl kj kj fun g10 W3 l10 e3 r10_3 => ?_
  have x3 : Ext w W3 := Ext.tr x2 e3
  have b10 : w.heap.size ≤ g10 := Nat.le_trans x2.size l10
  refine seq_alloc (ints .u8 (List.replicate 32 0)) 26 8 rfl kj kj fun g11 W4 l11 e4 r11_4 => ?_
  have x4 : Ext w W4 := Ext.tr x3 e4
  have b11 : w.heap.size ≤ g11 := Nat.le_trans x3.size l11
  have r10_4 := (row_ext r10_3 e4)
  refine seq_store g10 _ (ints .u8 (ini)) 26 r10_4 rfl kj (run_store_row 26 _ _ g10 26 _ _ r10_4 rfl kj kj (isz (n := 32) kj ((ints_size _ _).trans hil)) (eqsz (n := 32) ((ints_size _ _).trans (List.length_replicate (n := 32))) ((ints_size _ _).trans hil)) (ints_one _ _)) fun W5 p5 r10_5 => ?_
  have x5 : Ext w W5 := Puts.ext p5 x4 b10
  have r11_5 := (Puts.row p5 r11_4 (ne_of_new r10_3 l11))
  refine seq_store g11 _ (ints .u8 (List.replicate 32 0)) 26 r11_5 rfl kj (run_store_row 26 _ _ g11 26 _ _ r11_5 rfl kj kj (isz (n := 32) kj ((ints_size _ _).trans (List.length_replicate (n := 32)))) (eqsz (n := 32) ((ints_size _ _).trans (List.length_replicate (n := 32))) ((ints_size _ _).trans (List.length_replicate (n := 32)))) (ints_one _ _)) fun W6 p6 r11_6 => ?_
  have x6 : Ext w W6 := Puts.ext p6 x5 b11
  refine seq_nil ?_
  refine hK9 _ _ ?_
  try clear hK9 K9
  refine wp_seq_k fun K12 hK12 => ?_
  refine wp_seq_k fun K13 hK13 => ?_
  refine region_lit ?_
  refine seq_val (.slice ac n cc) 21 rfl kj kj ?_
  refine seq_val (.int .i64 ((n : Nat) : Int)) 22 rfl kj kj ?_
  refine seq_val (.int .i64 0) 23 rfl kj kj ?_
  refine seq_nil ?_
  refine hK13 _ _ ?_
  try clear hK13 K13
  refine wp_block ?_
  have n_10_11 : g10 ≠ g11 := (ne_of_old r10_3 l11)
  have n_11_10 : g11 ≠ g10 := (ne_of_new r10_3 l11)
  have r10_6 := (Puts.row p6 r10_5 n_10_11)
  refine loop_auto (fun (s1 : Nat × List Int × List Int) => [(1, .slice ac n cc), (2, .int .i64 jn), (3, .pointer (some ⟨g4, 0, none⟩)), (7, .pointer (some ⟨g10, 0, none⟩)), (8, .pointer (some ⟨g11, 0, none⟩)), (21, .slice ac n cc), (22, .int .i64 ((n : Nat) : Int)), (23, .int .i64 ((s1.1 : Nat) : Int))]) (fun (s1 : Nat × List Int × List Int) W => (s1.1 ≤ n) ∧ (s1.2.1.length = 32) ∧ (AreBytes s1.2.1) ∧ (s1.2.2.length = 32) ∧ (AreBytes s1.2.2) ∧ (m < s1.1 → s1.2.2 = s1.2.1) ∧ (W.heap[g10]? = some (.cells (ints .u8 (s1.2.1)) 26)) ∧ (W.heap[g11]? = some (.cells (ints .u8 (s1.2.2)) 26)) ∧ (Keeps [g10, g11] W6 W) ∧ (Ext w W)) (fun (s1 : Nat × List Int × List Int) => n - s1.1) (0, ini, (List.replicate 32 0)) ⟨rfl, rfl, rfl, rfl, rfl, rfl, rfl, rfl, trivial⟩ ⟨(Nat.zero_le _), hil, hib, zer_len, (bytes_zero _), (fun h => absurd h (by omega)), r10_6, r11_6, (Keeps.refl [g10, g11] W6), x6⟩ fun s1 X1 V1 hI1 => ?_
  obtain ⟨i, A, B⟩ := s1
  obtain ⟨hi, hAl, hAb, hBl, hBb, hBA, q10_1, q11_1, kk1, xx1⟩ := hI1
  replace hi : i ≤ n := hi
  replace hAl : A.length = 32 := hAl
  replace hAb : AreBytes A := hAb
  replace hBl : B.length = 32 := hBl
  replace hBb : AreBytes B := hBb
  replace hBA : m < i → B = A := hBA
  replace q10_1 : V1.heap[g10]? = some (.cells (ints .u8 (A)) 26) := q10_1
  replace q11_1 : V1.heap[g11]? = some (.cells (ints .u8 (B)) 26) := q11_1
  replace kk1 : Keeps [g10, g11] W6 V1 := kk1
  replace xx1 : Ext w V1 := xx1
  have q7 := kk1
  refine wp_seq_k fun K14 hK14 => ?_
  refine region_lit ?_
  refine seq_val (.bool (decide (((i : Nat) : Int) < ((n : Nat) : Int)))) 24 rfl kj kj ?_
  refine seq_nil ?_
  refine hK14 _ _ ?_
  try clear hK14 K14
  refine wp_seq_k fun K15 hK15 => ?_
  refine cond_split (t := decide (((i : Nat) : Int) < ((n : Nat) : Int))) kj (fun c16 => ?_) (fun c16 => ?_)
  · skip
    have hlt : i < n := by have := of_decide_eq_true c16; omega
    obtain ⟨gC, oC, hac, -, hcC⟩ := rdK_open (hC.ext xx1) (by omega)
    obtain ⟨co, eco⟩ : ∃ z : List Int, z = part32 C i := ⟨_, rfl⟩
    have hol : co.length = 32 := by rw [eco]; exact part32_len C i n hCl hlt
    have hob : AreBytes co := by rw [eco]; exact part32_bytes hCb i
    obtain ⟨ctx, ectx⟩ : ∃ z : List Int, z = ctxL ini ((i : Nat) : Int) co A := ⟨_, rfl⟩
    have hcx : ∀ W : World, Calls Tryd.prog 28 #[.agg (ints .u8 ini), .int .i64 ((i : Nat) : Int), .agg (ints .u8 co), .agg (ints .u8 A)] W (Gives W (OwnN .u8 5 W.heap.size ctx)) := fun W => by rw [ectx]; exact contextC ini co A _ W hil hol hAl
    have hxb : AreBytes ctx := by rw [ectx]; exact ctxL_bytes _ _ _ _ hib hob hAb
    obtain ⟨hm, ehm⟩ : ∃ z : List Int, z = hmac A co := ⟨_, rfl⟩
    obtain ⟨j, ej⟩ : ∃ z : List Int, z = labV hm (strB sJoiner) ctx := ⟨_, rfl⟩
    obtain ⟨jw, ejw⟩ : ∃ z : List Int, z = deriveV j (strB sWelcome) := ⟨_, rfl⟩
    obtain ⟨ep, eep⟩ : ∃ z : List Int, z = labV j (strB sEpoch) ctx := ⟨_, rfl⟩
    obtain ⟨f3, ef3⟩ : ∃ z : List Int, z = deriveV ep (strB sConfirm) := ⟨_, rfl⟩
    obtain ⟨f4, ef4⟩ : ∃ z : List Int, z = deriveV ep (strB sPackets) := ⟨_, rfl⟩
    obtain ⟨f5, ef5⟩ : ∃ z : List Int, z = deriveV ep (strB sExport) := ⟨_, rfl⟩
    obtain ⟨f6, ef6⟩ : ∃ z : List Int, z = deriveV ep (strB sInit) := ⟨_, rfl⟩
    have lhm : hm.length = 32 := by rw [ehm]; exact hmac_len _ _
    have bhm : AreBytes hm := by rw [ehm]; exact hmac_bytes _ _
    have hjl : j.length = 32 := by rw [ej]; exact labV_len _ _ _
    have hjb : AreBytes j := by rw [ej]; exact labV_bytes _ _ _
    have ljw : jw.length = 32 := by rw [ejw]; exact deriveV_len _ _
    have lep : ep.length = 32 := by rw [eep]; exact labV_len _ _ _
    have lf3 : f3.length = 32 := by rw [ef3]; exact deriveV_len _ _
    have lf4 : f4.length = 32 := by rw [ef4]; exact deriveV_len _ _
    have lf5 : f5.length = 32 := by rw [ef5]; exact deriveV_len _ _
    have lf6 : f6.length = 32 := by rw [ef6]; exact deriveV_len _ _
    have bep : AreBytes ep := by rw [eep]; exact labV_bytes _ _ _
    have l6b : AreBytes f6 := by rw [ef6]; exact deriveV_bytes _ _
    refine wp_skip ?_
    refine hK15 _ _ ?_
    try clear hK15 K15
    refine wp_seq_k fun K17 hK17 => ?_
    refine wp_block ?_
    refine wp_seq_k fun K18 hK18 => ?_
    refine region_lit ?_
    refine seq_val (.int .i64 ((i : Nat) : Int)) 25 rfl kj kj ?_
    refine seq_val (.pointer (some ⟨gC, oC + i * 32, none⟩)) 26 rfl kj (run_indexSz 67 _ _ .i64 i gC oC n cc 26 32 rfl (by rw [← hac]; kernel_rfl) kj kj kj hlt) ?_
    refine seq_val (.agg (ints .u8 (co))) 27 rfl kj (load_cells 26 _ gC (oC + i * 32) 32 co hol (by decide) (fun j hj => by rw [eco, part32_nth C i j hj, Nat.add_assoc]; exact hcC (i * 32 + j) (by omega)) rfl kj kj kj) ?_
    refine seq_alloc (ints .u8 (List.replicate 32 0)) 26 10 rfl kj kj fun g19 W8 l19 e8 r19_8 => ?_
    have x8 : Ext w W8 := Ext.tr xx1 e8
    have b19 : w.heap.size ≤ g19 := Nat.le_trans xx1.size l19
    refine seq_val (.int .i64 ((i : Nat) : Int)) 9 rfl kj kj ?_
    refine seq_store g19 _ (ints .u8 (co)) 26 r19_8 rfl kj (run_store_row 26 _ _ g19 26 _ _ r19_8 rfl kj kj (isz (n := 32) kj ((ints_size _ _).trans hol)) (eqsz (n := 32) ((ints_size _ _).trans (List.length_replicate (n := 32))) ((ints_size _ _).trans hol)) (ints_one _ _)) fun W9 p9 r19_9 => ?_
    have x9 : Ext w W9 := Puts.ext p9 x8 b19
    refine seq_nil ?_
    refine hK18 _ _ ?_
    try clear hK18 K18
    refine wp_seq_k fun K20 hK20 => ?_
    refine region_lit ?_
    have r4_3 := (row_ext r4_2 e3)
    have r4_4 := (row_ext r4_3 e4)
    have r4_5 := (Puts.row p5 r4_4 (ne_of_old r4_2 l10))
    have r4_6 := (Puts.row p6 r4_5 (ne_of_old r4_3 l11))
    have r4_7 := (Keeps.row q7 r4_6 (nm_cons (ne_of_old r4_2 l10) (nm_cons (ne_of_old r4_3 l11) nm_nil)))
    have r4_8 := (row_ext r4_7 e8)
    have r4_9 := (Puts.row p9 r4_8 (ne_of_old r4_7 l19))
    refine seq_val (.agg (ints .u8 (ini))) 28 rfl kj (run_load_row 26 _ g4 26 _ _ r4_9 rfl kj kj (isz (n := 32) kj ((ints_size _ _).trans hil))) ?_
    refine seq_val (.int .i64 ((i : Nat) : Int)) 29 rfl kj kj ?_
    refine seq_val (.agg (ints .u8 (co))) 30 rfl kj (run_load_row 26 _ g19 26 _ _ r19_9 rfl kj kj (isz (n := 32) kj ((ints_size _ _).trans hol))) ?_
    have r10_8 := (row_ext q10_1 e8)
    have r10_9 := (Puts.row p9 r10_8 (ne_of_old q10_1 l19))
    refine seq_val (.agg (ints .u8 (A))) 31 rfl kj (run_load_row 26 _ g10 26 _ _ r10_9 rfl kj kj (isz (n := 32) kj ((ints_size _ _).trans hAl))) ?_
    refine seq_callR (fun v W' => (OwnN .u8 5 W9.heap.size ctx) v W' ∧ Ext W9 W') 28 #[.agg (ints .u8 (ini)), .int .i64 ((i : Nat) : Int), .agg (ints .u8 (co)), .agg (ints .u8 (A))] 32 rfl kj kj ((hcx _).mono (by rintro e w' ⟨v, rfl, e1, hv⟩; exact ⟨v, rfl, hv, e1⟩)) fun vv21 W10 hh21 => ?_
    obtain ⟨hv21, e10⟩ := hh21
    have x10 : Ext w W10 := Ext.tr x9 e10
    obtain ⟨au22, cu22, rfl, -⟩ := id (OwnN.rd hv21)
    refine seq_val (.slice au22 ctx.length cu22) 11 rfl kj kj ?_
    refine seq_nil ?_
    refine hK20 _ _ ?_
    try clear hK20 K20
    refine wp_seq_k fun K23 hK23 => ?_
    refine region_lit ?_
    have r10_10 := (row_ext r10_9 e10)
    refine seq_val (.agg (ints .u8 (A))) 33 rfl kj (run_load_row 26 _ g10 26 _ _ r10_10 rfl kj kj (isz (n := 32) kj ((ints_size _ _).trans hAl))) ?_
    have r19_10 := (row_ext r19_9 e10)
    refine seq_val (.agg (ints .u8 (co))) 34 rfl kj (run_load_row 26 _ g19 26 _ _ r19_10 rfl kj kj (isz (n := 32) kj ((ints_size _ _).trans hol))) ?_
    refine seq_val (.slice au22 ctx.length cu22) 35 rfl kj kj ?_
    have r1_2 := (row_ext r1_1 e2)
    have r1_3 := (row_ext r1_2 e3)
    have r1_4 := (row_ext r1_3 e4)
    have r1_5 := (Puts.row p5 r1_4 (ne_of_old r1_2 l10))
    have r1_6 := (Puts.row p6 r1_5 (ne_of_old r1_3 l11))
    have r1_7 := (Keeps.row q7 r1_6 (nm_cons (ne_of_old r1_2 l10) (nm_cons (ne_of_old r1_3 l11) nm_nil)))
    have r1_8 := (row_ext r1_7 e8)
    have r1_9 := (Puts.row p9 r1_8 (ne_of_old r1_7 l19))
    have r1_10 := (row_ext r1_9 e10)
    have r2_2 := (row_ext r2_1 e2)
    have r2_3 := (row_ext r2_2 e3)
    have r2_4 := (row_ext r2_3 e4)
    have r2_5 := (Puts.row p5 r2_4 (ne_of_old r2_2 l10))
    have r2_6 := (Puts.row p6 r2_5 (ne_of_old r2_3 l11))
    have r2_7 := (Keeps.row q7 r2_6 (nm_cons (ne_of_old r2_2 l10) (nm_cons (ne_of_old r2_3 l11) nm_nil)))
    have r2_8 := (row_ext r2_7 e8)
    have r2_9 := (Puts.row p9 r2_8 (ne_of_old r2_7 l19))
    have r2_10 := (row_ext r2_9 e10)
    refine seq_call (.agg (cat [ints .u8 (j), ints .u8 (jw), ints .u8 (ep), ints .u8 (f3), ints .u8 (f4), ints .u8 (f5), ints .u8 (f6)])) 30 #[.agg (ints .u8 (A)), .agg (ints .u8 (co)), .slice au22 ctx.length cu22] 36 rfl kj kj ((nextN A co ctx _ _ tc tq _ r1_10 r2_10 hAl hAb hol hob hxb (OwnN.rd hv21) hm j jw ep f3 f4 f5 f6 ehm ej ejw eep ef3 ef4 ef5 ef6)) fun W11 e11 => ?_
    have x11 : Ext w W11 := Ext.tr x10 e11
    refine seq_alloc (cat [ints .u8 (List.replicate 32 0), ints .u8 (List.replicate 32 0), ints .u8 (List.replicate 32 0), ints .u8 (List.replicate 32 0), ints .u8 (List.replicate 32 0), ints .u8 (List.replicate 32 0), ints .u8 (List.replicate 32 0)]) 56 12 rfl kj kj fun g24 W12 l24 e12 r24_12 => ?_
    have x12 : Ext w W12 := Ext.tr x11 e12
    have b24 : w.heap.size ≤ g24 := Nat.le_trans x11.size l24
    refine seq_store g24 _ (cat [ints .u8 (j), ints .u8 (jw), ints .u8 (ep), ints .u8 (f3), ints .u8 (f4), ints .u8 (f5), ints .u8 (f6)]) 56 r24_12 rfl kj (run_store_row 56 _ _ g24 56 _ _ r24_12 rfl kj kj (isz (n := 224) kj (by rw [cat_cons, cat_cons, cat_cons, cat_cons, cat_cons, cat_cons, cat_cons]; simp only [Array.size_append, cat, ((ints_size _ _).trans hjl), ((ints_size _ _).trans lep), ((ints_size _ _).trans lf3), ((ints_size _ _).trans lf4), ((ints_size _ _).trans lf5), ((ints_size _ _).trans lf6), ((ints_size _ _).trans ljw)]; rfl)) (eqsz (n := 224) (by rw [cat_cons, cat_cons, cat_cons, cat_cons, cat_cons, cat_cons, cat_cons]; simp only [Array.size_append, cat, ((ints_size _ _).trans (List.length_replicate (n := 32)))]; rfl) (by rw [cat_cons, cat_cons, cat_cons, cat_cons, cat_cons, cat_cons, cat_cons]; simp only [Array.size_append, cat, ((ints_size _ _).trans hjl), ((ints_size _ _).trans lep), ((ints_size _ _).trans lf3), ((ints_size _ _).trans lf4), ((ints_size _ _).trans lf5), ((ints_size _ _).trans lf6), ((ints_size _ _).trans ljw)]; rfl)) (cat_one _ (by intro a ha; simp only [List.mem_cons, List.not_mem_nil, or_false] at ha; rcases ha with rfl | rfl | rfl | rfl | rfl | rfl | rfl; exact (ints_one _ _); exact (ints_one _ _); exact (ints_one _ _); exact (ints_one _ _); exact (ints_one _ _); exact (ints_one _ _); exact (ints_one _ _)))) fun W13 p13 r24_13 => ?_
    have x13 : Ext w W13 := Puts.ext p13 x12 b24
    refine seq_nil ?_
    refine hK23 _ _ ?_
    try clear hK23 K23
    refine wp_seq_k fun K25 hK25 => ?_
    refine wp_seq_k fun K26 hK26 => ?_
    refine region_lit ?_
    refine seq_val (.int .i64 jn) 37 rfl kj kj ?_
    refine seq_val (.int .u64 (jn % 18446744073709551616)) 38 rfl kj (run_eq (u := .int .u64 (IntKind.u64.wrap (jn))) kj (congrArg (Value.int .u64) (wrapU jn))) ?_
    refine seq_val (.slice ac n cc) 39 rfl kj kj ?_
    refine seq_val (.int .i64 ((n : Nat) : Int)) 40 rfl kj kj ?_
    refine seq_val (.int .u64 (((n : Nat) : Int))) 41 rfl kj (run_eq (u := .int .u64 (IntKind.u64.wrap ((n : Nat) : Int))) kj (congrArg (Value.int .u64) (by rw [wrapU]; omega))) ?_
    refine seq_val (.int .u64 ((m : Nat) : Int)) 42 rfl kj (run_bin .rem _ _ _ _ .u64 .u64 _ _ _ rfl kj kj (b_remS _ _ (jn % 18446744073709551616) ((n : Nat) : Int) ((m : Nat) : Int) (by omega) (by rw [Int.tmod_eq_emod_of_nonneg (by omega), ← em]))) ?_
    refine seq_val (.int .i64 (((m : Nat) : Int))) 43 rfl kj (run_eq (u := .int .i64 (IntKind.i64.wrap ((m : Nat) : Int))) kj (congrArg (Value.int .i64) (IntWalk.i64_in _ (by omega)))) ?_
    refine seq_val (.int .i64 (((m : Nat) : Int))) 13 rfl kj kj ?_
    refine seq_nil ?_
    refine hK26 _ _ ?_
    try clear hK26 K26
    refine wp_block ?_
    refine wp_seq_k fun K27 hK27 => ?_
    refine region_lit ?_
    refine seq_val (.int .i64 ((i : Nat) : Int)) 45 rfl kj kj ?_
    refine seq_val (.int .i64 (((m : Nat) : Int))) 46 rfl kj kj ?_
    refine seq_val (.bool ((((i : Nat) : Int) == ((m : Nat) : Int)))) 47 rfl kj kj ?_
    refine seq_val (.bool ((((i : Nat) : Int) == ((m : Nat) : Int)))) 44 rfl kj kj ?_
    refine seq_nil ?_
    refine hK27 _ _ ?_
    try clear hK27 K27
    refine cond_split (t := (((i : Nat) : Int) == ((m : Nat) : Int))) kj (fun c28 => ?_) (fun c28 => ?_)
    · skip
      have hco : i = m := by have := eq_of_beq c28; omega
      refine region_lit ?_
      refine seq_val (.pointer (some ⟨g24, 0, none⟩)) 48 rfl kj kj ?_
      refine seq_val (.agg (ints .u8 (j))) 49 rfl kj (run_load_part 26 _ g24 0 56 _ _ _ r24_13 rfl kj (cat_part [] [ints .u8 (j)] [ints .u8 (jw), ints .u8 (ep), ints .u8 (f3), ints .u8 (f4), ints .u8 (f5), ints .u8 (f6)] 0 kj) kj (isz (n := 32) kj ((ints_size _ _).trans hjl))) ?_
      refine seq_val (.slice au22 ctx.length cu22) 50 rfl kj kj ?_
      have y10_11 : Ext W10 W11 := (Rely.Ext.trans (Rely.Ext.refl W10) e11)
      have y10_12 : Ext W10 W12 := (Rely.Ext.trans y10_11 e12)
      have y10_13 : Ext W10 W13 := (Puts.ext p13 y10_12 (Nat.le_trans y10_11.size l24))
      have r1_11 := (row_ext r1_10 e11)
      have r1_12 := (row_ext r1_11 e12)
      have r1_13 := (Puts.row p13 r1_12 (ne_of_old r1_11 l24))
      have r2_11 := (row_ext r2_10 e11)
      have r2_12 := (row_ext r2_11 e12)
      have r2_13 := (Puts.row p13 r2_12 (ne_of_old r2_11 l24))
      refine seq_call (.agg (cat [ints .u8 (j), ints .u8 (jw), ints .u8 (ep), ints .u8 (f3), ints .u8 (f4), ints .u8 (f5), ints .u8 (f6)])) 32 #[.agg (ints .u8 (j)), .slice au22 ctx.length cu22] 51 rfl kj kj ((joinedN j ctx _ _ tc tq _ r1_13 r2_13 hjl hjb hxb (OwnN.rd (OwnN.ext hv21 y10_13)) jw ep f3 f4 f5 f6 ejw eep ef3 ef4 ef5 ef6)) fun W14 e14 => ?_
      have x14 : Ext w W14 := Ext.tr x13 e14
      refine seq_val (.agg (ints .u8 (f6))) 52 rfl kj (run_fieldS (e := 5) (n := 32) 56 _ 6 26 192 [ints .u8 (j), ints .u8 (jw), ints .u8 (ep), ints .u8 (f3), ints .u8 (f4), ints .u8 (f5)] (ints .u8 (f6)) [] rfl kj kj kj kj (by rw [cat_cons, cat_cons, cat_cons, cat_cons, cat_cons, cat_cons]; simp only [Array.size_append, cat, ((ints_size _ _).trans hjl), ((ints_size _ _).trans lep), ((ints_size _ _).trans lf3), ((ints_size _ _).trans lf4), ((ints_size _ _).trans lf5), ((ints_size _ _).trans ljw)]; rfl) ((ints_size _ _).trans (lf6.trans kj))) ?_
      have r11_8 := (row_ext q11_1 e8)
      have r11_9 := (Puts.row p9 r11_8 (ne_of_old q11_1 l19))
      have r11_10 := (row_ext r11_9 e10)
      have r11_11 := (row_ext r11_10 e11)
      have r11_12 := (row_ext r11_11 e12)
      have r11_13 := (Puts.row p13 r11_12 (ne_of_old r11_11 l24))
      have r11_14 := (row_ext r11_13 e14)
      refine seq_store g11 _ (ints .u8 (f6)) 26 r11_14 rfl kj (run_store_row 26 _ _ g11 26 _ _ r11_14 rfl kj kj (isz (n := 32) kj ((ints_size _ _).trans lf6)) (eqsz (n := 32) ((ints_size _ _).trans hBl) ((ints_size _ _).trans lf6)) (ints_one _ _)) fun W15 p15 r11_15 => ?_
      have x15 : Ext w W15 := Puts.ext p15 x14 b11
      refine seq_nil ?_
      refine hK25 _ _ ?_
      try clear hK25 K25
      refine region_lit ?_
      refine seq_val (.pointer (some ⟨g24, 192, none⟩)) 62 rfl kj kj ?_
      have r24_14 := (row_ext r24_13 e14)
      have r24_15 := (Puts.row p15 r24_14 (ne_of_new r11_11 l24))
      refine seq_val (.agg (ints .u8 (f6))) 63 rfl kj (run_load_part 26 _ g24 192 56 _ _ _ r24_15 rfl kj (cat_part [ints .u8 (j), ints .u8 (jw), ints .u8 (ep), ints .u8 (f3), ints .u8 (f4), ints .u8 (f5)] [ints .u8 (f6)] [] 192 (by rw [cat_cons, cat_cons, cat_cons, cat_cons, cat_cons, cat_cons]; simp only [Array.size_append, cat, ((ints_size _ _).trans hjl), ((ints_size _ _).trans lep), ((ints_size _ _).trans lf3), ((ints_size _ _).trans lf4), ((ints_size _ _).trans lf5), ((ints_size _ _).trans ljw)]; rfl)) kj (isz (n := 32) kj ((ints_size _ _).trans lf6))) ?_
      have r10_11 := (row_ext r10_10 e11)
      have r10_12 := (row_ext r10_11 e12)
      have r10_13 := (Puts.row p13 r10_12 (ne_of_old r10_11 l24))
      have r10_14 := (row_ext r10_13 e14)
      have r10_15 := (Puts.row p15 r10_14 n_10_11)
      refine seq_store g10 _ (ints .u8 (f6)) 26 r10_15 rfl kj (run_store_row 26 _ _ g10 26 _ _ r10_15 rfl kj kj (isz (n := 32) kj ((ints_size _ _).trans lf6)) (eqsz (n := 32) ((ints_size _ _).trans hAl) ((ints_size _ _).trans lf6)) (ints_one _ _)) fun W16 p16 r10_16 => ?_
      have x16 : Ext w W16 := Puts.ext p16 x15 b10
      refine seq_nil ?_
      refine hK17 _ _ ?_
      try clear hK17 K17
      refine region_lit ?_
      refine seq_val (.int .i64 ((i + 1 : Nat) : Int)) 64 rfl kj (run_eq (u := .int .i64 (IntKind.i64.wrap (((i : Nat) : Int) + 1))) kj (congrArg (Value.int .i64) (i64n _ _ (by omega) (by omega)))) ?_
      refine seq_val (.int .i64 ((i + 1 : Nat) : Int)) 23 rfl kj kj ?_
      refine seq_nil ?_
      have r11_16 := (Puts.row p16 r11_15 n_11_10)
      repeat (first | with_reducible refine goX1 ?_ | with_reducible refine goX2 ?_ | with_reducible refine goX3 ?_)
      exact goes_then ((i + 1), f6, f6) ⟨rfl, rfl, rfl, rfl, rfl, rfl, rfl, rfl, trivial⟩ ⟨(by omega), lf6, l6b, lf6, l6b, (fun _ => rfl), r10_16, r11_16, (Keeps.puts (Keeps.puts (Keeps.step (Keeps.puts (Keeps.step (Keeps.step (Keeps.step (Keeps.puts (Keeps.step q7 e8) p9 (.inr (Nat.le_trans (Keeps.size q7) (Nat.le_trans (Nat.le_refl _) l19)))) e10) e11) e12) p13 (.inr (Nat.le_trans (Keeps.size q7) (Nat.le_trans (Nat.le_trans (Nat.le_trans (Nat.le_trans (Nat.le_trans (Nat.le_refl _) e8.size) (Nat.le_of_eq p9.2.2.2.1.symm)) e10.size) e11.size) l24)))) e14) p15 (.inl (by simp))) p16 (.inl (by simp))), x16⟩ (by show n - (i + 1) < n - i; omega)
    · skip
      have hne : i ≠ m := fun e => by rw [e] at c28; simp at c28
      refine wp_seq_k fun K29 hK29 => ?_
      refine region_lit ?_
      refine seq_val (.int .i64 ((i : Nat) : Int)) 54 rfl kj kj ?_
      refine seq_val (.int .i64 (((m : Nat) : Int))) 55 rfl kj kj ?_
      refine seq_val (.bool (decide (((i : Nat) : Int) > ((m : Nat) : Int)))) 56 rfl kj kj ?_
      refine seq_val (.bool (decide (((i : Nat) : Int) > ((m : Nat) : Int)))) 53 rfl kj kj ?_
      refine seq_nil ?_
      refine hK29 _ _ ?_
      try clear hK29 K29
      refine cond_split (t := decide (((i : Nat) : Int) > ((m : Nat) : Int))) kj (fun c30 => ?_) (fun c30 => ?_)
      · skip
        have hgt : m < i := by have := of_decide_eq_true c30; omega
        refine region_lit ?_
        have r11_8 := (row_ext q11_1 e8)
        have r11_9 := (Puts.row p9 r11_8 (ne_of_old q11_1 l19))
        have r11_10 := (row_ext r11_9 e10)
        have r11_11 := (row_ext r11_10 e11)
        have r11_12 := (row_ext r11_11 e12)
        have r11_13 := (Puts.row p13 r11_12 (ne_of_old r11_11 l24))
        refine seq_val (.agg (ints .u8 (B))) 57 rfl kj (run_load_row 26 _ g11 26 _ _ r11_13 rfl kj kj (isz (n := 32) kj ((ints_size _ _).trans hBl))) ?_
        have r19_11 := (row_ext r19_10 e11)
        have r19_12 := (row_ext r19_11 e12)
        have r19_13 := (Puts.row p13 r19_12 (ne_of_old r19_11 l24))
        refine seq_val (.agg (ints .u8 (co))) 58 rfl kj (run_load_row 26 _ g19 26 _ _ r19_13 rfl kj kj (isz (n := 32) kj ((ints_size _ _).trans hol))) ?_
        refine seq_val (.slice au22 ctx.length cu22) 59 rfl kj kj ?_
        have y10_11 : Ext W10 W11 := (Rely.Ext.trans (Rely.Ext.refl W10) e11)
        have y10_12 : Ext W10 W12 := (Rely.Ext.trans y10_11 e12)
        have y10_13 : Ext W10 W13 := (Puts.ext p13 y10_12 (Nat.le_trans y10_11.size l24))
        have r1_11 := (row_ext r1_10 e11)
        have r1_12 := (row_ext r1_11 e12)
        have r1_13 := (Puts.row p13 r1_12 (ne_of_old r1_11 l24))
        have r2_11 := (row_ext r2_10 e11)
        have r2_12 := (row_ext r2_11 e12)
        have r2_13 := (Puts.row p13 r2_12 (ne_of_old r2_11 l24))
        refine seq_call (.agg (cat [ints .u8 (j), ints .u8 (jw), ints .u8 (ep), ints .u8 (f3), ints .u8 (f4), ints .u8 (f5), ints .u8 (f6)])) 30 #[.agg (ints .u8 (B)), .agg (ints .u8 (co)), .slice au22 ctx.length cu22] 60 rfl kj kj ((nextN B co ctx _ _ tc tq _ r1_13 r2_13 hBl hBb hol hob hxb (OwnN.rd (OwnN.ext hv21 y10_13)) hm j jw ep f3 f4 f5 f6 (by rw [hBA hgt]; exact ehm) ej ejw eep ef3 ef4 ef5 ef6)) fun W14 e14 => ?_
        have x14 : Ext w W14 := Ext.tr x13 e14
        refine seq_val (.agg (ints .u8 (f6))) 61 rfl kj (run_fieldS (e := 5) (n := 32) 56 _ 6 26 192 [ints .u8 (j), ints .u8 (jw), ints .u8 (ep), ints .u8 (f3), ints .u8 (f4), ints .u8 (f5)] (ints .u8 (f6)) [] rfl kj kj kj kj (by rw [cat_cons, cat_cons, cat_cons, cat_cons, cat_cons, cat_cons]; simp only [Array.size_append, cat, ((ints_size _ _).trans hjl), ((ints_size _ _).trans lep), ((ints_size _ _).trans lf3), ((ints_size _ _).trans lf4), ((ints_size _ _).trans lf5), ((ints_size _ _).trans ljw)]; rfl) ((ints_size _ _).trans (lf6.trans kj))) ?_
        have r11_14 := (row_ext r11_13 e14)
        refine seq_store g11 _ (ints .u8 (f6)) 26 r11_14 rfl kj (run_store_row 26 _ _ g11 26 _ _ r11_14 rfl kj kj (isz (n := 32) kj ((ints_size _ _).trans lf6)) (eqsz (n := 32) ((ints_size _ _).trans hBl) ((ints_size _ _).trans lf6)) (ints_one _ _)) fun W15 p15 r11_15 => ?_
        have x15 : Ext w W15 := Puts.ext p15 x14 b11
        refine seq_nil ?_
        refine hK25 _ _ ?_
        try clear hK25 K25
        refine region_lit ?_
        refine seq_val (.pointer (some ⟨g24, 192, none⟩)) 62 rfl kj kj ?_
        have r24_14 := (row_ext r24_13 e14)
        have r24_15 := (Puts.row p15 r24_14 (ne_of_new r11_11 l24))
        refine seq_val (.agg (ints .u8 (f6))) 63 rfl kj (run_load_part 26 _ g24 192 56 _ _ _ r24_15 rfl kj (cat_part [ints .u8 (j), ints .u8 (jw), ints .u8 (ep), ints .u8 (f3), ints .u8 (f4), ints .u8 (f5)] [ints .u8 (f6)] [] 192 (by rw [cat_cons, cat_cons, cat_cons, cat_cons, cat_cons, cat_cons]; simp only [Array.size_append, cat, ((ints_size _ _).trans hjl), ((ints_size _ _).trans lep), ((ints_size _ _).trans lf3), ((ints_size _ _).trans lf4), ((ints_size _ _).trans lf5), ((ints_size _ _).trans ljw)]; rfl)) kj (isz (n := 32) kj ((ints_size _ _).trans lf6))) ?_
        have r10_11 := (row_ext r10_10 e11)
        have r10_12 := (row_ext r10_11 e12)
        have r10_13 := (Puts.row p13 r10_12 (ne_of_old r10_11 l24))
        have r10_14 := (row_ext r10_13 e14)
        have r10_15 := (Puts.row p15 r10_14 n_10_11)
        refine seq_store g10 _ (ints .u8 (f6)) 26 r10_15 rfl kj (run_store_row 26 _ _ g10 26 _ _ r10_15 rfl kj kj (isz (n := 32) kj ((ints_size _ _).trans lf6)) (eqsz (n := 32) ((ints_size _ _).trans hAl) ((ints_size _ _).trans lf6)) (ints_one _ _)) fun W16 p16 r10_16 => ?_
        have x16 : Ext w W16 := Puts.ext p16 x15 b10
        refine seq_nil ?_
        refine hK17 _ _ ?_
        try clear hK17 K17
        refine region_lit ?_
        refine seq_val (.int .i64 ((i + 1 : Nat) : Int)) 64 rfl kj (run_eq (u := .int .i64 (IntKind.i64.wrap (((i : Nat) : Int) + 1))) kj (congrArg (Value.int .i64) (i64n _ _ (by omega) (by omega)))) ?_
        refine seq_val (.int .i64 ((i + 1 : Nat) : Int)) 23 rfl kj kj ?_
        refine seq_nil ?_
        have r11_16 := (Puts.row p16 r11_15 n_11_10)
        repeat (first | with_reducible refine goX1 ?_ | with_reducible refine goX2 ?_ | with_reducible refine goX3 ?_)
        exact goes_then ((i + 1), f6, f6) ⟨rfl, rfl, rfl, rfl, rfl, rfl, rfl, rfl, trivial⟩ ⟨(by omega), lf6, l6b, lf6, l6b, (fun _ => rfl), r10_16, r11_16, (Keeps.puts (Keeps.puts (Keeps.step (Keeps.puts (Keeps.step (Keeps.step (Keeps.step (Keeps.puts (Keeps.step q7 e8) p9 (.inr (Nat.le_trans (Keeps.size q7) (Nat.le_trans (Nat.le_refl _) l19)))) e10) e11) e12) p13 (.inr (Nat.le_trans (Keeps.size q7) (Nat.le_trans (Nat.le_trans (Nat.le_trans (Nat.le_trans (Nat.le_trans (Nat.le_refl _) e8.size) (Nat.le_of_eq p9.2.2.2.1.symm)) e10.size) e11.size) l24)))) e14) p15 (.inl (by simp))) p16 (.inl (by simp))), x16⟩ (by show n - (i + 1) < n - i; omega)
      · skip
        have hle : i < m := by have := of_decide_eq_false c30; omega
        refine wp_skip ?_
        refine hK25 _ _ ?_
        try clear hK25 K25
        refine region_lit ?_
        refine seq_val (.pointer (some ⟨g24, 192, none⟩)) 62 rfl kj kj ?_
        refine seq_val (.agg (ints .u8 (f6))) 63 rfl kj (run_load_part 26 _ g24 192 56 _ _ _ r24_13 rfl kj (cat_part [ints .u8 (j), ints .u8 (jw), ints .u8 (ep), ints .u8 (f3), ints .u8 (f4), ints .u8 (f5)] [ints .u8 (f6)] [] 192 (by rw [cat_cons, cat_cons, cat_cons, cat_cons, cat_cons, cat_cons]; simp only [Array.size_append, cat, ((ints_size _ _).trans hjl), ((ints_size _ _).trans lep), ((ints_size _ _).trans lf3), ((ints_size _ _).trans lf4), ((ints_size _ _).trans lf5), ((ints_size _ _).trans ljw)]; rfl)) kj (isz (n := 32) kj ((ints_size _ _).trans lf6))) ?_
        have r10_11 := (row_ext r10_10 e11)
        have r10_12 := (row_ext r10_11 e12)
        have r10_13 := (Puts.row p13 r10_12 (ne_of_old r10_11 l24))
        refine seq_store g10 _ (ints .u8 (f6)) 26 r10_13 rfl kj (run_store_row 26 _ _ g10 26 _ _ r10_13 rfl kj kj (isz (n := 32) kj ((ints_size _ _).trans lf6)) (eqsz (n := 32) ((ints_size _ _).trans hAl) ((ints_size _ _).trans lf6)) (ints_one _ _)) fun W14 p14 r10_14 => ?_
        have x14 : Ext w W14 := Puts.ext p14 x13 b10
        refine seq_nil ?_
        refine hK17 _ _ ?_
        try clear hK17 K17
        refine region_lit ?_
        refine seq_val (.int .i64 ((i + 1 : Nat) : Int)) 64 rfl kj (run_eq (u := .int .i64 (IntKind.i64.wrap (((i : Nat) : Int) + 1))) kj (congrArg (Value.int .i64) (i64n _ _ (by omega) (by omega)))) ?_
        refine seq_val (.int .i64 ((i + 1 : Nat) : Int)) 23 rfl kj kj ?_
        refine seq_nil ?_
        have r11_8 := (row_ext q11_1 e8)
        have r11_9 := (Puts.row p9 r11_8 (ne_of_old q11_1 l19))
        have r11_10 := (row_ext r11_9 e10)
        have r11_11 := (row_ext r11_10 e11)
        have r11_12 := (row_ext r11_11 e12)
        have r11_13 := (Puts.row p13 r11_12 (ne_of_old r11_11 l24))
        have r11_14 := (Puts.row p14 r11_13 n_11_10)
        repeat (first | with_reducible refine goX1 ?_ | with_reducible refine goX2 ?_ | with_reducible refine goX3 ?_)
        exact goes_then ((i + 1), f6, B) ⟨rfl, rfl, rfl, rfl, rfl, rfl, rfl, rfl, trivial⟩ ⟨(by omega), lf6, l6b, hBl, hBb, (fun h => absurd h (by omega)), r10_14, r11_14, (Keeps.puts (Keeps.puts (Keeps.step (Keeps.step (Keeps.step (Keeps.puts (Keeps.step q7 e8) p9 (.inr (Nat.le_trans (Keeps.size q7) (Nat.le_trans (Nat.le_refl _) l19)))) e10) e11) e12) p13 (.inr (Nat.le_trans (Keeps.size q7) (Nat.le_trans (Nat.le_trans (Nat.le_trans (Nat.le_trans (Nat.le_trans (Nat.le_refl _) e8.size) (Nat.le_of_eq p9.2.2.2.1.symm)) e10.size) e11.size) l24)))) p14 (.inl (by simp))), x14⟩ (by show n - (i + 1) < n - i; omega)
  · skip
    have hie : i = n := by have := of_decide_eq_false c16; omega
    refine wp_exit ?_
    refine hK12 _ _ ?_
    try clear hK12 K12
    refine wp_seq_k fun K31 hK31 => ?_
    refine region_lit ?_
    refine seq_val (.slice ac n cc) 65 rfl kj kj ?_
    refine seq_val (.int .i64 ((n : Nat) : Int)) 66 rfl kj kj ?_
    refine seq_val (.bool false) 67 rfl kj (run_eq (u := .bool ((((n : Nat) : Int) == 0))) kj (congrArg Value.bool (beq_eq_false_iff_ne.2 (by omega)))) ?_
    refine seq_val (.bool false) 68 rfl kj kj ?_
    refine seq_val (.agg (ints .u8 (A))) 69 rfl kj (run_load_row 26 _ g10 26 _ _ q10_1 rfl kj kj (isz (n := 32) kj ((ints_size _ _).trans hAl))) ?_
    refine seq_val (.agg (ints .u8 (B))) 70 rfl kj (run_load_row 26 _ g11 26 _ _ q11_1 rfl kj kj (isz (n := 32) kj ((ints_size _ _).trans hBl))) ?_
    refine seq_val (.bool true) 71 rfl kj (run_eql_agg 26 _ _ _ _ _ (.bool true) rfl kj kj kj (eql_lists 26 (e := 5) (k := .u8) (A) (B) (decide_eq_true (hBA (by omega)).symm) hAl hBl kj kj kj _)) ?_
    refine seq_val (.bool true) 72 rfl kj kj ?_
    refine seq_val (.bool true) 6 rfl kj kj ?_
    refine seq_nil ?_
    refine hK31 _ _ ?_
    try clear hK31 K31
    refine wp_ret ?_
    repeat (first | with_reducible refine goR1 ?_ | with_reducible refine goR2 ?_)
    exact (show bodyPost _ _ _ .ret _ _ from ret1 (.bool true) rfl (res_tmp kj) ⟨rfl, xx1⟩)
theorem lawFol (ini : List Int) (ac : Option Addr) (n cc : Nat) (jn : Int) (tc tq : TypeId) (w : World) (hc : w.heap[1]? = some (.cells (ints .u64 cubesI) tc)) (hq : w.heap[0]? = some (.cells (ints .u64 squaresI) tq)) (hil : ini.length = 32) (hib : AreBytes ini) (hC : n ≤ 20 → ∃ C : List Int, C.length = n * 32 ∧ AreBytes C ∧ RdK .u8 w.heap.size C (.slice ac C.length C.length) w) : Calls Tryd.prog 12 #[.agg (ints .u8 ini), .slice ac n cc, .int .i64 jn] w (Ret w (.bool true)) := by
  by_cases h : 20 < n
  · exact fol_A ini ac n cc jn tc tq w hc hq hil hib h
  obtain ⟨C, h1, h2, h3⟩ := hC (by omega)
  rcases Nat.eq_zero_or_pos n with rfl | h0
  · exact fol_Z ini C ac cc C.length w.heap.size jn tc tq w hc hq hil hib h1 h2 h3 trivial
  · exact fol_B ini C ac n cc C.length w.heap.size jn tc tq w hc hq hil hib h1 h2 h3 (by omega) h0

end Go.Proofs.YtamlhbbphnamnaaDoor.Sha
