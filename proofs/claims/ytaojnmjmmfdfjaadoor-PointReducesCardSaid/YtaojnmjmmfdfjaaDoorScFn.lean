/- Residues: their bytes, and the residue of bytes. -/
import Derived.Test.YtaojnmjmmfdfjaaDoorScMath
import Derived.Test.YtaojnmjmmfdfjaaDoorAutoV
namespace Go.Proofs.YtaojnmjmmfdfjaaDoor.Field
open Go Go.RowKit
open Go.Proofs.YtaojnmjmmfdfjaaDoor.Rely Go.Proofs.YtaojnmjmmfdfjaaDoor.Auto.V
open Go.Proofs.YtaojnmjmmfdfjaaDoor.Auto hiding isT tailT readsT storesT okT TailRun tailsOf pureOk stepsT stepsT_found InvT rem Phase isT_some mem_tails mem_rem rem_nodup list_false rem_sorted rem_set filter_ne holdsC wpAny_of_T t_store t_op t_skip t_val t_read t_call t_new t_nil TailEnv tail_env te_nil te_store any_regionT
set_option linter.unusedVariables false

theorem one_isS : isS 1 := ⟨by decide, by decide⟩
theorem cells_of {W : World} {g : Nat} {xs : List Int} {t : TypeId} (R : W.heap[g]? = some (.cells (ints .u8 xs) t)) {n : Nat} (hx : xs.length = n) : ∀ i, i < n → W.cell? ⟨g, 0 + i, none⟩ = some (.int .u8 (nth xs i)) := fun i hi => by
  rw [Nat.zero_add]
  exact row_cell R (ints_get _ _ _ (by omega))
theorem cells_ext {w W : World} {A : Option Addr} {n : Nat} {bs : List Int} (hc : n = 0 ∨ ∃ sb so, A = some ⟨sb, so, none⟩ ∧ sb < w.heap.size ∧ ∀ i, i < n → w.cell? ⟨sb, so + i, none⟩ = some (.int .u8 (nth bs i))) (e : Ext w W) :
    n = 0 ∨ ∃ sb so, A = some ⟨sb, so, none⟩ ∧ sb < W.heap.size ∧ ∀ i, i < n → W.cell? ⟨sb, so + i, none⟩ = some (.int .u8 (nth bs i)) :=
  hc.imp id fun ⟨sb, so, h1, h2, h3⟩ => ⟨sb, so, h1, Nat.lt_of_lt_of_le h2 e.size, fun i hi => (Below.cell e h2).trans (h3 i hi)⟩
theorem part_len (n : Int) (k : Nat) : (part n k).length = 32 := by simp [part]
set_option maxHeartbeats 4000000 in
theorem sbytesC (n : Int) (w : World) (tO : TypeId) (hO : w.heap[3]? = some (.cells orderA tO)) : Calls Tryd.prog 57 #[num n] w (Ret w (.agg (ints .u8 (bytesOf n)))) := by
  refine enter 21 [(0, .agg (ints .u64 (wl (n))))] Tryd.func57 rfl rfl (by kernel_rfl) rfl ?_
  refine wp_seq_k fun K2 hK2 => ?_
  refine region_lit ?_
  refine seq_alloc (ints .u64 (wl (n))) 82 1 rfl (by kernel_rfl) (by kernel_rfl) fun g3 W1 l3 e1 r3_1 => ?_
  have x1 : Ext w W1 := Ext.tr (Rely.Ext.refl w) e1
  have b3 : w.heap.size ≤ g3 := Nat.le_trans (Rely.Ext.refl w).size l3
  refine seq_alloc (ints .u8 (List.replicate 32 0)) 23 2 rfl (by kernel_rfl) (by kernel_rfl) fun g4 W2 l4 e2 r4_2 => ?_
  have x2 : Ext w W2 := Ext.tr x1 e2
  have b4 : w.heap.size ≤ g4 := Nat.le_trans x1.size l4
  refine seq_nil ?_
  refine hK2 _ _ ?_
  try clear hK2 K2
  refine wp_seq_k fun K5 hK5 => ?_
  refine region_lit ?_
  refine seq_alloc (ints .u8 (List.replicate 32 0)) 23 3 rfl (by kernel_rfl) (by kernel_rfl) fun g6 W3 l6 e3 r6_3 => ?_
  have x3 : Ext w W3 := Ext.tr x2 e3
  have b6 : w.heap.size ≤ g6 := Nat.le_trans x2.size l6
  refine seq_nil ?_
  refine hK5 _ _ ?_
  try clear hK5 K5
  refine wp_seq_k fun K7 hK7 => ?_
  refine wp_seq_k fun K8 hK8 => ?_
  refine region_lit ?_
  refine seq_val (.int .i64 0) 5 rfl (by kernel_rfl) (by kernel_rfl) ?_
  refine seq_nil ?_
  refine hK8 _ _ ?_
  try clear hK8 K8
  refine wp_block ?_
  have n_3_4 : g3 ≠ g4 := (ne_of_old r3_1 l4)
  have r3_2 := (row_ext r3_1 e2)
  have n_3_6 : g3 ≠ g6 := (ne_of_old r3_2 l6)
  have n_4_3 : g4 ≠ g3 := (ne_of_new r3_1 l4)
  have n_4_6 : g4 ≠ g6 := (ne_of_old r4_2 l6)
  have n_6_3 : g6 ≠ g3 := (ne_of_new r3_2 l6)
  have n_6_4 : g6 ≠ g4 := (ne_of_new r4_2 l6)
  have r3_3 := (row_ext r3_2 e3)
  have r4_3 := (row_ext r4_2 e3)
  refine loop_auto (fun (k : Nat) => [(5, .int .i64 ((k : Nat) : Int)), (1, .pointer (some ⟨g3, 0, none⟩)), (2, .pointer (some ⟨g4, 0, none⟩)), (3, .pointer (some ⟨g6, 0, none⟩))]) (fun (k : Nat) W => (k ≤ 32) ∧ W.heap[g3]? = some (.cells (ints .u64 (wl (n))) 82) ∧ W.heap[g4]? = some (.cells (ints .u8 (List.replicate 32 0)) 23) ∧ W.heap[g6]? = some (.cells (ints .u8 (part n k)) 23) ∧ Ext w W) (fun (k : Nat) => 32 - k) 0 ⟨rfl, rfl, rfl, rfl, trivial⟩ ⟨(by omega), r3_3, r4_3, (row_eq r6_3 (part_none n)), x3⟩ fun k X1 V1 hI => ?_
  obtain ⟨hk32, q3_1, q4_1, q6_1, xx1⟩ := hI
  refine wp_seq_k fun K9 hK9 => ?_
  refine region_lit ?_
  refine seq_val (.bool (decide (((k : Nat) : Int) < 32))) 6 rfl (by kernel_rfl) (by kernel_rfl) ?_
  refine seq_nil ?_
  refine hK9 _ _ ?_
  try clear hK9 K9
  refine wp_seq_k fun K10 hK10 => ?_
  refine cond_split (t := decide (((k : Nat) : Int) < 32)) (by kernel_rfl) (fun c11 => ?_) (fun c11 => ?_)
  · skip
    have hk : k < 32 := by have := of_decide_eq_true c11; omega
    refine wp_skip ?_
    refine hK10 _ _ ?_
    try clear hK10 K10
    refine wp_seq_k fun K12 hK12 => ?_
    refine wp_block ?_
    refine wp_seq_k fun K13 hK13 => ?_
    refine region_lit ?_
    refine seq_val (.int .i64 ((k : Nat) : Int)) 7 rfl (by kernel_rfl) (by kernel_rfl) ?_
    refine seq_val (.int .i64 ((k : Nat) : Int)) 4 rfl (by kernel_rfl) (by kernel_rfl) ?_
    refine seq_nil ?_
    refine hK13 _ _ ?_
    try clear hK13 K13
    refine region_lit ?_
    refine seq_val (.int .i64 ((k : Nat) : Int)) 8 rfl (by kernel_rfl) (by kernel_rfl) ?_
    refine seq_val (.int .i64 ((k : Nat) : Int)) 9 rfl (by kernel_rfl) (by kernel_rfl) ?_
    refine seq_val (.int .i64 (((k / 8 : Nat) : Int))) 10 rfl (by kernel_rfl) (run_eq (u := .int .i64 (IntKind.i64.wrap (Int.tdiv (((k : Nat) : Int)) (8)))) (by kernel_rfl) (congrArg (Value.int .i64) (i64_quo k 8 (by omega)))) ?_
    refine seq_val (.pointer (some ⟨g3, k / 8, none⟩)) 11 rfl (by kernel_rfl) (run_index0 _ _ _ .i64 (k / 8) _ 4 25 rfl (by kernel_rfl) (by kernel_rfl) (by kernel_rfl) (by kernel_rfl) (by omega)) ?_
    refine seq_val (.int .u64 (nth (wl (n)) (k / 8))) 12 rfl (by kernel_rfl) (run_loadC1 25 _ g3 (k / 8) 82 _ (.int .u64 (nth (wl (n)) (k / 8))) _ q3_1 rfl (by kernel_rfl) (ints_get _ _ _ (Nat.lt_of_lt_of_eq (by omega) (wl_len _).symm)) (by kernel_rfl)) ?_
    refine seq_val (.int .i64 ((k : Nat) : Int)) 13 rfl (by kernel_rfl) (by kernel_rfl) ?_
    refine seq_val (.int .i64 (((k % 8 : Nat) : Int))) 14 rfl (by kernel_rfl) (run_eq (u := .int .i64 (Int.tmod (((k : Nat) : Int)) (8))) (by kernel_rfl) (congrArg (Value.int .i64) (nat_rem k 8))) ?_
    refine seq_val (.int .i64 (((8 * (k % 8) : Nat) : Int))) 15 rfl (by kernel_rfl) (run_eq (u := .int .i64 (IntKind.i64.wrap (8 * (((k % 8 : Nat) : Int))))) (by kernel_rfl) (congrArg (Value.int .i64) (mul8 _ (by omega)))) ?_
    refine seq_val (.int .u64 (nth (wl n) (k / 8) / 2 ^ (8 * (k % 8)))) 16 rfl (by kernel_rfl) (run_bin .shr _ _ _ _ .u64 .i64 _ _ _ rfl (by kernel_rfl) (by kernel_rfl) (b_shr _ _ _ _ _ _ (by omega) (shrW _ _ (by omega)))) ?_
    refine seq_val (.int .u8 (byteAt n k)) 17 rfl (by kernel_rfl) (run_eq (u := .int .u8 (IntKind.u8.wrap (nth (wl n) (k / 8) / 2 ^ (8 * (k % 8))))) (by kernel_rfl) (congrArg (Value.int .u8) (wl_byte n k hk))) ?_
    refine seq_val (.pointer (some ⟨g6, k, none⟩)) 18 rfl (by kernel_rfl) (run_index0 _ _ _ .i64 (k) _ 32 5 rfl (by kernel_rfl) (by kernel_rfl) (by kernel_rfl) (by kernel_rfl) hk) ?_
    refine seq_store g6 _ (ints .u8 ((part n k).set k (byteAt n k))) 23 q6_1 rfl (by kernel_rfl) (run_storeI 5 _ _ g6 k 23 _ _ q6_1 rfl (by kernel_rfl) (by kernel_rfl) (by kernel_rfl) (Nat.lt_of_lt_of_eq hk (part_len _ _).symm)) fun W5 p5 r6_5 => ?_
    have x5 : Ext w W5 := Puts.ext p5 xx1 b6
    refine seq_nil ?_
    refine hK12 _ _ ?_
    try clear hK12 K12
    refine region_lit ?_
    refine seq_val (.int .i64 (((k + 1 : Nat) : Int))) 19 rfl (by kernel_rfl) (run_eq (u := .int .i64 (IntKind.i64.wrap (((k : Nat) : Int) + 1))) (by kernel_rfl) (congrArg (Value.int .i64) (i64_add1 k (by omega)))) ?_
    refine seq_val (.int .i64 (((k + 1 : Nat) : Int))) 5 rfl (by kernel_rfl) (by kernel_rfl) ?_
    refine seq_nil ?_
    have r3_5 := (Puts.row p5 q3_1 n_3_6)
    have r4_5 := (Puts.row p5 q4_1 n_4_6)
    exact goes_then (k + 1) ⟨rfl, rfl, rfl, rfl, trivial⟩ ⟨(by omega), r3_5, r4_5, (row_eq r6_5 (part_next n k hk)), x5⟩ (by omega)
  · skip
    have hk : k = 32 := by have := of_decide_eq_false c11; omega
    subst hk
    refine wp_exit ?_
    refine hK7 _ _ ?_
    try clear hK7 K7
    refine wp_seq_k fun K14 hK14 => ?_
    refine region_lit ?_
    refine seq_val (.agg (ints .u8 (part n 32))) 20 rfl (by kernel_rfl) (run_load_row 23 _ g6 23 _ _ q6_1 rfl (by kernel_rfl) (by kernel_rfl) (isz (n := 32) (by kernel_rfl) ((ints_size _ _).trans (part_len _ _)))) ?_
    refine seq_store g4 _ (ints .u8 (part n 32)) 23 q4_1 rfl (by kernel_rfl) (run_store_row 23 _ _ g4 23 _ _ q4_1 rfl (by kernel_rfl) (by kernel_rfl) (isz (n := 32) (by kernel_rfl) ((ints_size _ _).trans (part_len _ _))) (eqsz (n := 32) ((ints_size _ _).trans zlen) ((ints_size _ _).trans (part_len _ _))) (ints_one _ _)) fun W5 p5 r4_5 => ?_
    have x5 : Ext w W5 := Puts.ext p5 xx1 b4
    refine seq_nil ?_
    refine hK14 _ _ ?_
    try clear hK14 K14
    refine wp_ret ?_
    exact (show bodyPost _ _ _ .ret _ _ from ret1 (.agg (ints .u8 (part n 32))) rfl (res_cell g4 23 _ r4_5 (by kernel_rfl) (by kernel_rfl) (isz (n := 32) (by kernel_rfl) ((ints_size _ _).trans (part_len _ _)))) ⟨rfl, x5⟩)
theorem bitsOf_call (A : Option Addr) (n c : Nat) (w : World) : Calls Tryd.prog 72 #[.slice A n c] w fun e w' => ∃ v, e = .returned v ∧ Ext w w' ∧ ∃ g1, w.heap.size ≤ g1 ∧ v = .func (.func 76) #[] #[.pointer (some ⟨g1, 0, none⟩)] ∧ w'.heap[g1]? = some (.cells #[.slice A n c] 52) := by
  have hmf : ∀ (fn : Fn) (first cap : Array Value) (w : World), (Instr.makeFunc fn first cap).run Tryd.prog w = .ok (.func fn first cap) w := fun _ _ _ _ => rfl
  go_enter Tryd.func72, Tryd.ntmps72
  go_wp2_with fail
  exact bodyPost_ret (results_tmp rfl _ _ _) rfl ⟨_, rfl, ext_alloc _ _, w.heap.size, Nat.le_refl _, rfl, heap_alloc_new _ _⟩
theorem wl_zero : ints .u64 [0, 0, 0, 0] = ints .u64 (wl 0) := rfl
set_option maxHeartbeats 8000000 in
theorem residueC (A : Option Addr) (n c : Nat) (bs : List Int) (hbl : bs.length = n) (hn : n ≤ 1000) (hb : AreBytes bs) (w : World) (tO : TypeId) (hO : w.heap[3]? = some (.cells orderA tO))
    (hc : n = 0 ∨ ∃ sb so, A = some ⟨sb, so, none⟩ ∧ sb < w.heap.size ∧ ∀ i, i < n → w.cell? ⟨sb, so + i, none⟩ = some (.int .u8 (nth bs i))) :
    Calls Tryd.prog 55 #[.slice A n c] w (Ret w (num (resN bs))) := by
  refine enterM 17 [(0, .slice A n c)] Tryd.func55 rfl rfl (by kernel_rfl) rfl ?_
  refine wp_seq_k fun K2 hK2 => ?_
  refine region_lit ?_
  refine seq_alloc (ints .u64 ([0, 0, 0, 0])) 82 2 rfl (by kernel_rfl) (by kernel_rfl) fun g3 W1 l3 e1 r3_1 => ?_
  have x1 : Ext w W1 := Ext.tr (Rely.Ext.refl w) e1
  have b3 : w.heap.size ≤ g3 := Nat.le_trans (Rely.Ext.refl w).size l3
  refine seq_nil ?_
  refine hK2 _ _ ?_
  try clear hK2 K2
  refine wp_seq_k fun K4 hK4 => ?_
  refine region_lit ?_
  refine seq_alloc (ints .u64 ([0, 0, 0, 0])) 82 3 rfl (by kernel_rfl) (by kernel_rfl) fun g5 W2 l5 e2 r5_2 => ?_
  have x2 : Ext w W2 := Ext.tr x1 e2
  have b5 : w.heap.size ≤ g5 := Nat.le_trans x1.size l5
  refine seq_nil ?_
  refine hK4 _ _ ?_
  try clear hK4 K4
  refine wp_seq_k fun K6 hK6 => ?_
  refine wp_seq_k fun K7 hK7 => ?_
  refine region_lit ?_
  refine seq_val (.slice A n c) 5 rfl (by kernel_rfl) (by kernel_rfl) ?_
  refine seq_callR (fun v W' => Ext W2 W' ∧ ∃ g1, W2.heap.size ≤ g1 ∧ v = .func (.func 76) #[] #[.pointer (some ⟨g1, 0, none⟩)] ∧ W'.heap[g1]? = some (.cells #[.slice A n c] 52)) 72 #[.slice A n c] 6 rfl (by kernel_rfl) (by kernel_rfl) (bitsOf_call A n c _) fun v W3 h => ?_
  obtain ⟨e3, g1, lk, rfl, r8_3⟩ := h
  have x3 : Ext w W3 := Ext.tr x2 e3
  refine seq_nil ?_
  refine hK7 _ _ ?_
  try clear hK7 K7
  refine wp_block ?_
  have r5_3 := (row_ext r5_2 e3)
  have r3_3 := (row_ext (row_ext r3_1 e2) e3)
  have n_ry0_ro : g3 ≠ g5 := (ne_of_old r3_1 l5)
  have n_rk_ro : g1 ≠ g5 := (ne_of_new r5_2 lk)
  refine range_auto (gf := 76) (lb := #[.pointer (some ⟨g1, 0, none⟩)]) (enc := encB) (by kernel_rfl) (enters_of Tryd.func76 (by kernel_rfl) rfl) (bits_stops_s _ (by omega) w.heap.size g1 A n c bs hbl hn hb W3 r8_3 x3.size (hc.imp id (fun ⟨sb, so, h1, h2, h3⟩ => ⟨sb, so, h1, h2, fun i hi => (Below.cell x3 h2).trans (h3 i hi)⟩))) (fun h k => SameB.trans h k) (sameB_book (row_lt r8_3) x3.size) (Below.refl _ _)
      (fun pre W => (W.heap[g5]? = some (.cells (ints .u64 (wl (resB pre))) 82) ∧ W.heap[g3]? = some (.cells (ints .u64 ([0, 0, 0, 0])) 82) ∧ W.heap[g1]? = some (.cells (#[.slice A n c]) 52)) ∧ Ext w W)
      (fun _ _ _ => False) (OwnFrom.and (Own.from (fun s A B row hs hg hr => ⟨row_kept hs.1 hg hr, row_kept hs.2.1 hg hr, row_kept hs.2.2 hg hr⟩) _) (ownFrom_below (Nat.le_refl _) x3.size)) (fun _ _ _ _ _ h _ _ => h) ⟨⟨(row_eq r5_3 (show [0, 0, 0, 0] = wl (resB []) from rfl)), r3_3, r8_3⟩, x3⟩ (fun x => [(4, encB x), (7, encB x)]) (fun l x W K hK => ?_) (fun l pre bt W hI hp => ?_) (fun D ys W lD hS hI rD => ?_) (fun _ _ _ _ _ _ h _ => h.elim)
  · refine region_litIn ?_
    refine in_val (encB x) 4 rfl (free_wide l 1 _) rfl (by kernel_rfl) (by kernel_rfl) ?_
    refine in_nil ?_
    exact hK
  · obtain ⟨⟨ro, ry0, rk⟩, xx⟩ := hI
    have hO2 := row_ext hO xx
    have hS0 := resB_snoc pre bt
    have hL := resB_isS pre
    generalize resB pre = s at hS0 hL ro
    cases bt
    · have cs := fun W tO hO => plusC s s hL hL W tO hO
      have hn0 := isS_mod (s + s)
      obtain ⟨n0, hn⟩ : ∃ n0, n0 = (s + s) % ordL := ⟨_, rfl⟩
      rw [← hn] at cs hn0
      have hS : resB (pre ++ [false]) = n0 := by
        rw [hS0]
        simp only [addb, Bool.false_eq_true, if_false, hn]
      have ls := b5
      refine wpIn_block ?_
      refine wpIn_seq_k fun K105 hK105 => ?_
      refine region_litIn ?_
      refine in_val (.agg (ints .u64 (wl (s)))) 8 rfl (free_wide l 1 _) rfl (by kernel_rfl) (run_load_row 82 _ g5 82 _ _ ro rfl (by kernel_rfl) (by kernel_rfl) (isz (n := 4) (by kernel_rfl) ((ints_size _ _).trans (wl_len _)))) ?_
      refine in_val (.agg (ints .u64 (wl (s)))) 9 rfl (free_wide l 1 _) rfl (by kernel_rfl) (run_load_row 82 _ g5 82 _ _ ro rfl (by kernel_rfl) (by kernel_rfl) (isz (n := 4) (by kernel_rfl) ((ints_size _ _).trans (wl_len _)))) ?_
      refine in_call (.agg (ints .u64 (wl (n0)))) 56 #[.agg (ints .u64 (wl (s))), .agg (ints .u64 (wl (s)))] 10 rfl (free_wide l 1 _) rfl (by kernel_rfl) (by kernel_rfl) (cs _ tO hO2) fun W1 e1 => ?_
      have x1 : Ext w W1 := Ext.tr xx e1
      have r102_1 := (row_ext ro e1)
      refine in_store g5 _ (ints .u64 (wl (n0))) 82 r102_1 rfl (free_wide l 1 _) rfl (by kernel_rfl) (run_store_row 82 _ _ g5 82 _ _ r102_1 rfl (by kernel_rfl) (by kernel_rfl) (isz (n := 4) (by kernel_rfl) ((ints_size _ _).trans (wl_len _))) (eqsz (n := 4) ((ints_size _ _).trans (wl_len _)) ((ints_size _ _).trans (wl_len _))) (ints_one _ _)) fun W2 p2 r102_2 => ?_
      have x2 : Ext w W2 := Puts.ext p2 x1 ls
      refine in_nil ?_
      refine hK105 _ _ ?_
      try clear hK105 K105
      refine wpIn_seq_k fun K106 hK106 => ?_
      refine region_litIn ?_
      refine in_val (.int .i64 0) 11 rfl (free_wide l 1 _) rfl (by kernel_rfl) (by kernel_rfl) ?_
      refine in_val (.bool false) 12 rfl (free_wide l 1 _) rfl (by kernel_rfl) (by kernel_rfl) ?_
      refine in_nil ?_
      refine hK106 _ _ ?_
      try clear hK106 K106
      refine in_cond_false (by kernel_rfl) ?_
      refine wpIn_skip ?_
      have r103_2 := (Puts.row p2 (row_ext ry0 e1) n_ry0_ro)
      have r104_2 := (Puts.row p2 (row_ext rk e1) n_rk_ro)
      exact ⟨((keeps_ext e1).trans (keeps_puts p2 r102_1)), ⟨r104_2.trans rk.symm, fun k hk => (x2.block k hk).trans (xx.block k hk).symm⟩, ⟨by rw [hS]; exact r102_2, r103_2, r104_2⟩, x2⟩
    · have cs := fun W tO hO => plusC s s hL hL W tO hO
      have hn0 := isS_mod (s + s)
      obtain ⟨n0, hn⟩ : ∃ n0, n0 = (s + s) % ordL := ⟨_, rfl⟩
      rw [← hn] at cs hn0
      have ct := fun W tO hO => plusC n0 (1) hn0 one_isS W tO hO
      obtain ⟨m0, hm⟩ : ∃ m0, m0 = (n0 + 1) % ordL := ⟨_, rfl⟩
      rw [← hm] at ct
      have hS : resB (pre ++ [true]) = m0 := by
        rw [hS0]
        simp only [addb, if_true, hm, hn]
      have ls := b5
      refine wpIn_block ?_
      refine wpIn_seq_k fun K105 hK105 => ?_
      refine region_litIn ?_
      refine in_val (.agg (ints .u64 (wl (s)))) 8 rfl (free_wide l 1 _) rfl (by kernel_rfl) (run_load_row 82 _ g5 82 _ _ ro rfl (by kernel_rfl) (by kernel_rfl) (isz (n := 4) (by kernel_rfl) ((ints_size _ _).trans (wl_len _)))) ?_
      refine in_val (.agg (ints .u64 (wl (s)))) 9 rfl (free_wide l 1 _) rfl (by kernel_rfl) (run_load_row 82 _ g5 82 _ _ ro rfl (by kernel_rfl) (by kernel_rfl) (isz (n := 4) (by kernel_rfl) ((ints_size _ _).trans (wl_len _)))) ?_
      refine in_call (.agg (ints .u64 (wl (n0)))) 56 #[.agg (ints .u64 (wl (s))), .agg (ints .u64 (wl (s)))] 10 rfl (free_wide l 1 _) rfl (by kernel_rfl) (by kernel_rfl) (cs _ tO hO2) fun W1 e1 => ?_
      have x1 : Ext w W1 := Ext.tr xx e1
      have r102_1 := (row_ext ro e1)
      refine in_store g5 _ (ints .u64 (wl (n0))) 82 r102_1 rfl (free_wide l 1 _) rfl (by kernel_rfl) (run_store_row 82 _ _ g5 82 _ _ r102_1 rfl (by kernel_rfl) (by kernel_rfl) (isz (n := 4) (by kernel_rfl) ((ints_size _ _).trans (wl_len _))) (eqsz (n := 4) ((ints_size _ _).trans (wl_len _)) ((ints_size _ _).trans (wl_len _))) (ints_one _ _)) fun W2 p2 r102_2 => ?_
      have x2 : Ext w W2 := Puts.ext p2 x1 ls
      refine in_nil ?_
      refine hK105 _ _ ?_
      try clear hK105 K105
      refine wpIn_seq_k fun K106 hK106 => ?_
      refine region_litIn ?_
      refine in_val (.int .i64 1) 11 rfl (free_wide l 1 _) rfl (by kernel_rfl) (by kernel_rfl) ?_
      refine in_val (.bool true) 12 rfl (free_wide l 1 _) rfl (by kernel_rfl) (by kernel_rfl) ?_
      refine in_nil ?_
      refine hK106 _ _ ?_
      try clear hK106 K106
      refine in_cond_true (by kernel_rfl) ?_
      refine region_litIn ?_
      refine in_val (.agg (ints .u64 (wl (n0)))) 13 rfl (free_wide l 1 _) rfl (by kernel_rfl) (run_load_row 82 _ g5 82 _ _ r102_2 rfl (by kernel_rfl) (by kernel_rfl) (isz (n := 4) (by kernel_rfl) ((ints_size _ _).trans (wl_len _)))) ?_
      refine in_val (.agg (ints .u64 (wl (1)))) 14 rfl (free_wide l 1 _) rfl (by kernel_rfl) (by kernel_rfl) ?_
      have r101_2 := (Puts.row p2 (row_ext hO2 e1) (Nat.ne_of_lt (Nat.lt_of_lt_of_le (row_lt hO) ls)))
      refine in_call (.agg (ints .u64 (wl (m0)))) 56 #[.agg (ints .u64 (wl (n0))), .agg (ints .u64 (wl (1)))] 15 rfl (free_wide l 1 _) rfl (by kernel_rfl) (by kernel_rfl) (ct _ tO r101_2) fun W3 e3 => ?_
      have x3 : Ext w W3 := Ext.tr x2 e3
      have r102_3 := (row_ext r102_2 e3)
      refine in_store g5 _ (ints .u64 (wl (m0))) 82 r102_3 rfl (free_wide l 1 _) rfl (by kernel_rfl) (run_store_row 82 _ _ g5 82 _ _ r102_3 rfl (by kernel_rfl) (by kernel_rfl) (isz (n := 4) (by kernel_rfl) ((ints_size _ _).trans (wl_len _))) (eqsz (n := 4) ((ints_size _ _).trans (wl_len _)) ((ints_size _ _).trans (wl_len _))) (ints_one _ _)) fun W4 p4 r102_4 => ?_
      have x4 : Ext w W4 := Puts.ext p4 x3 ls
      refine in_nil ?_
      have r103_4 := (Puts.row p4 (row_ext (Puts.row p2 (row_ext ry0 e1) n_ry0_ro) e3) n_ry0_ro)
      have r104_4 := (Puts.row p4 (row_ext (Puts.row p2 (row_ext rk e1) n_rk_ro) e3) n_rk_ro)
      exact ⟨((((keeps_ext e1).trans (keeps_puts p2 r102_1)).trans (keeps_ext e3)).trans (keeps_puts p4 r102_3)), ⟨r104_4.trans rk.symm, fun k hk => (x4.block k hk).trans (xx.block k hk).symm⟩, ⟨by rw [hS]; exact r102_4, r103_4, r104_4⟩, x4⟩
  obtain ⟨⟨ro, ry0, rk⟩, xx⟩ := hI
  subst hS
  have bD : w.heap.size ≤ D := Nat.le_trans x3.size lD
  refine hK6 _ _ ?_
  try clear hK6 K6
  refine wp_seq_k fun K10 hK10 => ?_
  refine region_lit ?_
  refine seq_val (.agg (ints .u64 (wl (resB (bitsS bs))))) 16 rfl (by kernel_rfl) (run_load_row 82 _ g5 82 _ _ ro rfl (by kernel_rfl) (by kernel_rfl) (isz (n := 4) (by kernel_rfl) ((ints_size _ _).trans (wl_len _)))) ?_
  refine seq_store g3 _ (ints .u64 (wl (resB (bitsS bs)))) 82 ry0 rfl (by kernel_rfl) (run_store_row 82 _ _ g3 82 _ _ ry0 rfl (by kernel_rfl) (by kernel_rfl) (isz (n := 4) (by kernel_rfl) ((ints_size _ _).trans (wl_len _))) (eqsz (n := 4) (by kernel_rfl) ((ints_size _ _).trans (wl_len _))) (ints_one _ _)) fun W5 p5 r3_5 => ?_
  have x5 : Ext w W5 := Puts.ext p5 xx b3
  refine seq_nil ?_
  refine hK10 _ _ ?_
  try clear hK10 K10
  refine wp_ret ?_
  have r9_5 := (Puts.row p5 rD (ne_mark ry0 rD))
  exact (show bodyPostM _ _ _ _ _ .ret _ _ from retM1 (.agg (ints .u64 (wl (resB (bitsS bs))))) rfl r9_5 (res_cell g3 82 _ (putD_row r3_5 r9_5 _) (by kernel_rfl) (by kernel_rfl) (isz (n := 4) (by kernel_rfl) ((ints_size _ _).trans (wl_len _)))) ⟨rfl, putD_ext x5 bD r9_5 _⟩)

end Go.Proofs.YtaojnmjmmfdfjaaDoor.Field
