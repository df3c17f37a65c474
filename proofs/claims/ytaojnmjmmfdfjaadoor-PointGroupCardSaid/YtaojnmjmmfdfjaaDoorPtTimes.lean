/- Points: multiples, of both. -/
import Derived.Test.YtaojnmjmmfdfjaaDoorPtCurve
namespace Go.Proofs.YtaojnmjmmfdfjaaDoor.Field
open Go Go.RowKit
open Go.Proofs.YtaojnmjmmfdfjaaDoor.Rely Go.Proofs.YtaojnmjmmfdfjaaDoor.Auto
set_option linter.unusedVariables false

/-! ### Multiples as both reckon them -/
abbrev W4 := Int × Int × Int × Int
abbrev W3 := Int × Int × Int
def wad (A B : W4) : W4 := waddF A.1 A.2.1 A.2.2.1 A.2.2.2 B.1 B.2.1 B.2.2.1 B.2.2.2 dN
def rad (A B : W3) : W3 := raddF A.1 A.2.1 A.2.2 B.1 B.2.1 B.2.2
def isW4 (A : W4) : Prop := isN A.1 ∧ isN A.2.1 ∧ isN A.2.2.1 ∧ isN A.2.2.2
def isW3 (A : W3) : Prop := isN A.1 ∧ isN A.2.1 ∧ isN A.2.2
theorem wad_is {A B : W4} (h : isW4 A) (k : isW4 B) : isW4 (wad A B) := wadd_isN _ _ _ _ _ _ _ _ _ h.1 h.2.1 h.2.2.1 h.2.2.2 k.1 k.2.1 k.2.2.1 k.2.2.2 dN_isN
theorem rad_is {A B : W3} (h : isW3 A) (k : isW3 B) : isW3 (rad A B) := radd_isN _ _ _ _ _ _ h.1 h.2.1 h.2.2 k.1 k.2.1 k.2.2
abbrev w4 (A : W4) : Value := .agg (cat [numA A.1, numA A.2.1, numA A.2.2.1, numA A.2.2.2])
abbrev w3 (A : W3) : Value := .agg (cat [ints .i64 (lims A.1), ints .i64 (lims A.2.1), ints .i64 (lims A.2.2)])
theorem wadC {A B : W4} (h : isW4 A) (k : isW4 B) (w : World) : Calls Tryd.prog 51 #[w4 A, w4 B, .agg (numA dN)] w (Ret w (w4 (wad A B))) :=
  waddC _ _ _ _ _ _ _ _ _ h.1 h.2.1 h.2.2.1 h.2.2.2 k.1 k.2.1 k.2.2.1 k.2.2.2 dN_isN w
theorem radC {A B : W3} (h : isW3 A) (k : isW3 B) (w : World) : Calls Tryd.prog 16 #[w3 A, w3 B] w (Ret w (w3 (rad A B))) := raddC _ _ _ _ _ _ h.1 h.2.1 h.2.2 k.1 k.2.1 k.2.2 w
def wrung (E A : W4) (b : Bool) : W4 := if b then wad (wad A A) E else wad A A
def wrun (E Z : W4) (bs : List Bool) : W4 := bs.foldl (wrung E) Z
def rrung (E A : W3) (b : Bool) : W3 := if b then rad (rad A A) E else rad A A
def rrun (E Z : W3) (bs : List Bool) : W3 := bs.foldl (rrung E) Z
theorem wrun_snoc (E Z : W4) (bs : List Bool) (b : Bool) : wrun E Z (bs ++ [b]) = wrung E (wrun E Z bs) b := by simp [wrun]
theorem rrun_snoc (E Z : W3) (bs : List Bool) (b : Bool) : rrun E Z (bs ++ [b]) = rrung E (rrun E Z bs) b := by simp [rrun]
theorem wrun_is {E : W4} (hE : isW4 E) : ∀ (bs : List Bool) {Z : W4}, isW4 Z → isW4 (wrun E Z bs)
  | [], _, h => h
  | true :: bs, _, h => wrun_is hE bs (wad_is (wad_is h h) hE)
  | false :: bs, _, h => wrun_is hE bs (wad_is h h)
theorem rrun_is {E : W3} (hE : isW3 E) : ∀ (bs : List Bool) {Z : W3}, isW3 Z → isW3 (rrun E Z bs)
  | [], _, h => h
  | true :: bs, _, h => rrun_is hE bs (rad_is (rad_is h h) hE)
  | false :: bs, _, h => rrun_is hE bs (rad_is h h)
abbrev wE (x l : Int) : W4 := pwideF x l
theorem wE_is {x l : Int} (h : isN x) (k : isN l) : isW4 (wE x l) := pwide_isN x l h k
theorem bits_callK (es : List Int) (w : World) : Calls Tryd.prog 54 #[.agg (ints .u8 es)] w fun e w' => ∃ v, e = .returned v ∧ Ext w w' ∧ ∃ kb, w.heap.size ≤ kb ∧ v = .func (.func 71) #[] #[.pointer (some ⟨kb, 0, none⟩)] ∧ w'.heap[kb]? = some (.cells (ints .u8 es) 23) := by
  have hmf : ∀ (fn : Fn) (first cap : Array Value) (w : World), (Instr.makeFunc fn first cap).run Tryd.prog w = .ok (.func fn first cap) w := fun _ _ _ _ => rfl
  go_enter Tryd.func54, Tryd.ntmps54
  go_wp2_with fail
  exact bodyPost_ret (results_tmp rfl _ _ _) rfl ⟨_, rfl, ext_alloc _ _, w.heap.size, Nat.le_refl _, rfl, heap_alloc_new _ _⟩
def rruns (E Z : W3) (es : List Int) (k : Nat) : W3 := rrun E Z ((bitsB es).take (256 - k))
theorem rruns_step (E Z : W3) (es : List Int) (j : Nat) (hj : j < 256) : rruns E Z es j = rrung E (rruns E Z es (j + 1)) (bitB es j) := by
  unfold rruns
  rw [bitsB_take es j hj, rrun_snoc]
theorem rruns_full (E Z : W3) (es : List Int) : rruns E Z es 0 = rrun E Z (bitsB es) := by
  unfold rruns
  rw [List.take_of_length_le (by rw [bitsB_len]; omega)]
theorem rruns_none (E Z : W3) (es : List Int) : rruns E Z es 256 = Z := rfl
theorem u64_nat' (n : Nat) (h : n < 9223372036854775808) : IntKind.u64.wrap (n : Int) = (n : Int) := wrap64 _ (by unfold isW; omega)
theorem shr8' (v : Int) (n : Nat) (h : n < 8) : v.fdiv (2 ^ min (n : Int).toNat IntKind.u8.bits) = v / 2 ^ n := by
  rw [show min ((n : Int).toNat) IntKind.u8.bits = n by show min ((n : Int).toNat) 8 = n; omega]
  exact Int.fdiv_eq_ediv_of_nonneg _ (Int.le_of_lt (Int.pow_pos (by decide)))
theorem bit_tmod' (es : List Int) (j : Nat) (hb : AreBytes es) {v : Int} (h : bitAt es j = v) : Int.tmod (nth es (j / 8) / 2 ^ (j % 8)) 2 = v := by
  rw [← h]
  unfold bitAt
  exact Int.tmod_eq_emod_of_nonneg (Int.ediv_nonneg (hb.nth _).1 (Int.le_of_lt (Int.pow_pos (by decide))))
set_option maxHeartbeats 4000000 in
theorem ptimesC (x lx : Int) (h_x : isN x) (h_lx : isN lx) (ks : List Int) (hk : ks.length = 32) (hkb : AreBytes ks) (w : World) (tB : TypeId) (hB : w.heap[0]? = some (.cells (ints .u8 bendL) tB)) :
    Calls Tryd.prog 20 #[.agg (cat [numA x, numA lx]), .agg (ints .u8 ks)] w (Ret w (.agg (cat [numA ((pnarF (wrun (wE x lx) (wE 0 0) (bitsB ks)).1 (wrun (wE x lx) (wE 0 0) (bitsB ks)).2.1 (wrun (wE x lx) (wE 0 0) (bitsB ks)).2.2.1 (wrun (wE x lx) (wE 0 0) (bitsB ks)).2.2.2).1), numA ((pnarF (wrun (wE x lx) (wE 0 0) (bitsB ks)).1 (wrun (wE x lx) (wE 0 0) (bitsB ks)).2.1 (wrun (wE x lx) (wE 0 0) (bitsB ks)).2.2.1 (wrun (wE x lx) (wE 0 0) (bitsB ks)).2.2.2).2)]))) := by
  have hE := wE_is h_x h_lx
  have hZ := wE_is (num_isN 0) (num_isN 0)
  refine enterM 30 [(0, .agg (cat [numA (x), numA (lx)])), (1, .agg (ints .u8 (ks)))] Tryd.func20 rfl rfl (by kernel_rfl) rfl ?_
  refine wp_seq_k fun K2 hK2 => ?_
  refine region_lit ?_
  refine seq_alloc (cat [numA (x), numA (lx)]) 30 2 rfl (by kernel_rfl) (by kernel_rfl) fun g3 W1 l3 e1 r3_1 => ?_
  have x1 : Ext w W1 := Ext.tr (Rely.Ext.refl w) e1
  have b3 : w.heap.size ≤ g3 := Nat.le_trans (Rely.Ext.refl w).size l3
  refine seq_alloc (ints .u8 (ks)) 23 3 rfl (by kernel_rfl) (by kernel_rfl) fun g4 W2 l4 e2 r4_2 => ?_
  have x2 : Ext w W2 := Ext.tr x1 e2
  have b4 : w.heap.size ≤ g4 := Nat.le_trans x1.size l4
  refine seq_alloc (cat [numA (0), numA (0)]) 30 4 rfl (by kernel_rfl) (by kernel_rfl) fun g5 W3 l5 e3 r5_3 => ?_
  have x3 : Ext w W3 := Ext.tr x2 e3
  have b5 : w.heap.size ≤ g5 := Nat.le_trans x2.size l5
  refine seq_nil ?_
  refine hK2 _ _ ?_
  try clear hK2 K2
  refine wp_seq_k fun K6 hK6 => ?_
  refine region_lit ?_
  have r1_3 := (row_ext (row_ext (row_ext hB e1) e2) e3)
  refine seq_val (.agg (ints .u8 (bendL))) 9 rfl (by kernel_rfl) (run_load_row 23 _ 0 tB _ _ r1_3 rfl (by kernel_rfl) (by kernel_rfl) (isz (n := 32) (by kernel_rfl) ((ints_size _ _).trans (by decide)))) ?_
  refine seq_call (.agg (numA (dN))) 29 #[.agg (ints .u8 (bendL))] 10 rfl (by kernel_rfl) (by kernel_rfl) (from_d _) fun W4 e4 => ?_
  have x4 : Ext w W4 := Ext.tr x3 e4
  refine seq_alloc (numA (0)) 28 5 rfl (by kernel_rfl) (by kernel_rfl) fun g7 W5 l7 e5 r7_5 => ?_
  have x5 : Ext w W5 := Ext.tr x4 e5
  have b7 : w.heap.size ≤ g7 := Nat.le_trans x4.size l7
  refine seq_store g7 _ (numA (dN)) 28 r7_5 rfl (by kernel_rfl) (run_store_row 28 _ _ g7 28 _ _ r7_5 rfl (by kernel_rfl) (by kernel_rfl) (isz (n := 4) (by kernel_rfl) (by kernel_rfl)) (eqsz (n := 4) (by kernel_rfl) (by kernel_rfl)) (by kernel_rfl)) fun W6 p6 r7_6 => ?_
  have x6 : Ext w W6 := Puts.ext p6 x5 b7
  refine seq_nil ?_
  refine hK6 _ _ ?_
  try clear hK6 K6
  refine wp_seq_k fun K8 hK8 => ?_
  refine any_regionD 6 [⟨none, []⟩, ⟨none, [(11, some 0)]⟩, ⟨none, [(2, none)]⟩, ⟨none, [(13, some 2)]⟩, ⟨none, []⟩, ⟨none, []⟩] [4, 5] (by kernel_rfl) (by kernel_rfl) (by kernel_rfl) fun F hF => ?_
  refine any_val (.agg (cat [numA (0), numA (0)])) (by kernel_rfl) (by kernel_rfl) (fun W => by kernel_rfl) ?_
  refine any_call (.agg (cat [numA ((wE 0 0).1), numA ((wE 0 0).2.1), numA ((wE 0 0).2.2.1), numA ((wE 0 0).2.2.2)])) 50 #[.agg (cat [numA (0), numA (0)])] (by kernel_rfl) (by kernel_rfl) (fun W => by kernel_rfl) (fun W hR => (pwideC 0 0 (num_isN 0) (num_isN 0)) W) ?_
  have r3_4 := (row_ext (row_ext (row_ext r3_1 e2) e3) e4)
  have r3_6 := (Puts.row p6 (row_ext (row_ext (row_ext (row_ext r3_1 e2) e3) e4) e5) (ne_of_old r3_4 l7))
  refine any_read (.agg (cat [numA (x), numA (lx)])) (by kernel_rfl) (by kernel_rfl) (fun W hR => (run_load_row 30 _ g3 30 _ _ (row_ext (row_ext r3_6 (ext_drew _)) hR) rfl (by kernel_rfl) (by kernel_rfl) (isz (n := 8) (by kernel_rfl) (by kernel_rfl)))) ?_
  refine any_call (.agg (cat [numA ((wE x lx).1), numA ((wE x lx).2.1), numA ((wE x lx).2.2.1), numA ((wE x lx).2.2.2)])) 50 #[.agg (cat [numA (x), numA (lx)])] (by kernel_rfl) (by kernel_rfl) (fun W => by kernel_rfl) (fun W hR => (pwideC x lx h_x h_lx) W) ?_
  refine any_new (cat [numA (0), numA (0), numA (0), numA (0)]) 75 (by kernel_rfl) (Nat.le_refl _) (by kernel_rfl) (fun W => by kernel_rfl) ?_
  refine any_new (cat [numA (0), numA (0), numA (0), numA (0)]) 75 (by kernel_rfl) (Nat.le_refl _) (by kernel_rfl) (fun W => by kernel_rfl) ?_
  refine steps_nil (hF _ (by kernel_rfl) fun W7 e7 => ?_)
  simp only [fins, up, List.take_succ_cons, List.take_zero, List.drop_succ_cons, List.drop_zero, List.nil_append, List.cons_append]
  intro g9 l9 r9_7 n9 g10 l10 r10_7 n10
  have b9 : w.heap.size ≤ g9 := Nat.le_trans x6.size l9
  have b10 : w.heap.size ≤ g10 := Nat.le_trans x6.size l10
  have n10_9 : g10 ≠ g9 := n10 _ (by simp)
  clear hF
  have x7 : Ext w W7 := Ext.tr x6 e7
  refine seq_store g9 _ (cat [numA ((wE 0 0).1), numA ((wE 0 0).2.1), numA ((wE 0 0).2.2.1), numA ((wE 0 0).2.2.2)]) 75 r9_7 rfl (by kernel_rfl) (run_store_row 75 _ _ g9 75 _ _ r9_7 rfl (by kernel_rfl) (by kernel_rfl) (isz (n := 16) (by kernel_rfl) (by kernel_rfl)) (eqsz (n := 16) (by kernel_rfl) (by kernel_rfl)) (by kernel_rfl)) fun W8 p8 r9_8 => ?_
  have x8 : Ext w W8 := Puts.ext p8 x7 b9
  have r10_8 := (Puts.row p8 r10_7 n10_9)
  refine seq_store g10 _ (cat [numA ((wE x lx).1), numA ((wE x lx).2.1), numA ((wE x lx).2.2.1), numA ((wE x lx).2.2.2)]) 75 r10_8 rfl (by kernel_rfl) (run_store_row 75 _ _ g10 75 _ _ r10_8 rfl (by kernel_rfl) (by kernel_rfl) (isz (n := 16) (by kernel_rfl) (by kernel_rfl)) (eqsz (n := 16) (by kernel_rfl) (by kernel_rfl)) (by kernel_rfl)) fun W9 p9 r10_9 => ?_
  have x9 : Ext w W9 := Puts.ext p9 x8 b10
  refine seq_nil ?_
  refine hK8 _ _ ?_
  try clear hK8 K8
  refine wp_seq_k fun K11 hK11 => ?_
  refine wp_seq_k fun K12 hK12 => ?_
  refine region_lit ?_
  have r4_4 := (row_ext (row_ext r4_2 e3) e4)
  have r4_6 := (Puts.row p6 (row_ext r4_4 e5) (ne_of_old r4_4 l7))
  have r4_9 := (Puts.row p9 (Puts.row p8 (row_ext (Puts.row p6 (row_ext (row_ext (row_ext r4_2 e3) e4) e5) (ne_of_old r4_4 l7)) e7) (ne_of_old r4_6 l9)) (ne_of_old r4_6 l10))
  refine seq_val (.agg (ints .u8 (ks))) 15 rfl (by kernel_rfl) (run_load_row 23 _ g4 23 _ _ r4_9 rfl (by kernel_rfl) (by kernel_rfl) (isz (n := 32) (by kernel_rfl) ((ints_size _ _).trans hk))) ?_
  refine seq_callR (fun v W' => Ext W9 W' ∧ ∃ kb, W9.heap.size ≤ kb ∧ v = .func (.func 71) #[] #[.pointer (some ⟨kb, 0, none⟩)] ∧ W'.heap[kb]? = some (.cells (ints .u8 ks) 23)) 54 #[.agg (ints .u8 ks)] 16 rfl (by kernel_rfl) (by kernel_rfl) (bits_callK _ _) fun v W10 h => ?_
  obtain ⟨e10, kb, lk, rfl, r13_10⟩ := h
  have x10 : Ext w W10 := Ext.tr x9 e10
  refine seq_nil ?_
  refine hK12 _ _ ?_
  try clear hK12 K12
  refine wp_block ?_
  have r9_10 := (row_ext (Puts.row p9 r9_8 (Ne.symm n10_9)) e10)
  have r10_10 := (row_ext r10_9 e10)
  have r7_10 := (row_ext (Puts.row p9 (Puts.row p8 (row_ext r7_6 e7) (ne_of_old r7_6 l9)) (ne_of_old r7_6 l10)) e10)
  have r5_4 := (row_ext r5_3 e4)
  have r5_6 := (Puts.row p6 (row_ext r5_4 e5) (ne_of_old r5_4 l7))
  have r5_10 := (row_ext (Puts.row p9 (Puts.row p8 (row_ext (Puts.row p6 (row_ext (row_ext r5_3 e4) e5) (ne_of_old r5_4 l7)) e7) (ne_of_old r5_6 l9)) (ne_of_old r5_6 l10)) e10)
  have n_ge_gs : g10 ≠ g9 := n10_9
  have n_gd_gs : g7 ≠ g9 := (ne_of_old r7_6 l9)
  have n_gr_gs : g5 ≠ g9 := (ne_of_old r5_6 l9)
  have r9_9 := (Puts.row p9 r9_8 (Ne.symm n10_9))
  have n_kb_gs : kb ≠ g9 := (ne_of_new r9_9 lk)
  refine range_auto (gf := 71) (lb := #[.pointer (some ⟨kb, 0, none⟩)]) (enc := encB) (by kernel_rfl) (enters_of Tryd.func71 (by kernel_rfl) rfl) (bits_stops_b _ (by omega) kb ks hk hkb W10 r13_10) (fun h k => Same.trans' h k) (same_book (row_lt r13_10)) (Below.refl _ _)
      (fun pre W => (W.heap[g9]? = some (.cells (cat [numA ((wrun (wE x lx) (wE 0 0) pre).1), numA ((wrun (wE x lx) (wE 0 0) pre).2.1), numA ((wrun (wE x lx) (wE 0 0) pre).2.2.1), numA ((wrun (wE x lx) (wE 0 0) pre).2.2.2)]) 75) ∧ W.heap[g10]? = some (.cells (cat [numA ((wE x lx).1), numA ((wE x lx).2.1), numA ((wE x lx).2.2.1), numA ((wE x lx).2.2.2)]) 75) ∧ W.heap[g7]? = some (.cells (numA dN) 28) ∧ W.heap[g5]? = some (.cells (cat [numA (0), numA (0)]) 30) ∧ W.heap[kb]? = some (.cells (ints .u8 ks) 23)) ∧ Ext w W)
      (fun _ _ _ => False) (OwnFrom.and (Own.from (fun s A B row hs hg hr => ⟨row_kept hs.1 hg hr, row_kept hs.2.1 hg hr, row_kept hs.2.2.1 hg hr, row_kept hs.2.2.2.1 hg hr, row_kept hs.2.2.2.2 hg hr⟩) _) (ownFrom_below (Nat.le_refl _) x10.size)) (fun _ _ _ _ _ h _ _ => h) ⟨⟨r9_10, r10_10, r7_10, r5_10, r13_10⟩, x10⟩ (fun x => [(8, encB x), (17, encB x)]) (fun l x W K hK => ?_) (fun l pre bt W hI hp => ?_) (fun D ys W lD hS hI rD => ?_) (fun _ _ _ _ _ _ h _ => h.elim)
  · refine region_litIn ?_
    refine in_val (encB x) 8 rfl (free_wide l 1 _) rfl (by kernel_rfl) (by kernel_rfl) ?_
    refine in_nil ?_
    exact hK
  · obtain ⟨⟨rs, re, rd, rr, rk⟩, xx⟩ := hI
    have hS0 := wrun_snoc (wE x lx) (wE 0 0) pre bt
    have hL := wrun_is hE pre (Z := wE 0 0) hZ
    generalize wrun (wE x lx) (wE 0 0) pre = s at hS0 hL rs
    cases bt
    · have hn2 := wad_is hL hL
      have cs := fun W => wadC hL hL W
      generalize hn : wad s s = n at cs hn2
      have hS : wrun (wE x lx) (wE 0 0) (pre ++ [false]) = n := by
        rw [hS0]
        simp only [wrung, hn, Bool.false_eq_true, if_false]
      clear hS0 hn
      have ls := b9
      refine wpIn_block ?_
      refine wpIn_seq_k fun K106 hK106 => ?_
      refine region_litIn ?_
      refine in_val (.agg (cat [numA (s.1), numA (s.2.1), numA (s.2.2.1), numA (s.2.2.2)])) 18 rfl (free_wide l 1 _) rfl (by kernel_rfl) (run_load_row 75 _ g9 75 _ _ rs rfl (by kernel_rfl) (by kernel_rfl) (isz (n := 16) (by kernel_rfl) (by kernel_rfl))) ?_
      refine in_val (.agg (cat [numA (s.1), numA (s.2.1), numA (s.2.2.1), numA (s.2.2.2)])) 19 rfl (free_wide l 1 _) rfl (by kernel_rfl) (run_load_row 75 _ g9 75 _ _ rs rfl (by kernel_rfl) (by kernel_rfl) (isz (n := 16) (by kernel_rfl) (by kernel_rfl))) ?_
      refine in_val (.agg (numA (dN))) 20 rfl (free_wide l 1 _) rfl (by kernel_rfl) (run_load_row 28 _ g7 28 _ _ rd rfl (by kernel_rfl) (by kernel_rfl) (isz (n := 4) (by kernel_rfl) (by kernel_rfl))) ?_
      refine in_call (.agg (cat [numA (((n)).1), numA (((n)).2.1), numA (((n)).2.2.1), numA (((n)).2.2.2)])) 51 #[.agg (cat [numA (s.1), numA (s.2.1), numA (s.2.2.1), numA (s.2.2.2)]), .agg (cat [numA (s.1), numA (s.2.1), numA (s.2.2.1), numA (s.2.2.2)]), .agg (numA (dN))] 21 rfl (free_wide l 1 _) rfl (by kernel_rfl) (by kernel_rfl) (cs _) fun W1 e1 => ?_
      have x1 : Ext w W1 := Ext.tr xx e1
      have r102_1 := (row_ext rs e1)
      refine in_store g9 _ (cat [numA (((n)).1), numA (((n)).2.1), numA (((n)).2.2.1), numA (((n)).2.2.2)]) 75 r102_1 rfl (free_wide l 1 _) rfl (by kernel_rfl) (run_store_row 75 _ _ g9 75 _ _ r102_1 rfl (by kernel_rfl) (by kernel_rfl) (isz (n := 16) (by kernel_rfl) (by kernel_rfl)) (eqsz (n := 16) (by kernel_rfl) (by kernel_rfl)) (by kernel_rfl)) fun W2 p2 r102_2 => ?_
      have x2 : Ext w W2 := Puts.ext p2 x1 ls
      refine in_nil ?_
      refine hK106 _ _ ?_
      try clear hK106 K106
      refine wpIn_seq_k fun K107 hK107 => ?_
      refine region_litIn ?_
      refine in_val (.int .i64 0) 22 rfl (free_wide l 1 _) rfl (by kernel_rfl) (by kernel_rfl) ?_
      refine in_val (.bool false) 23 rfl (free_wide l 1 _) rfl (by kernel_rfl) (by kernel_rfl) ?_
      refine in_nil ?_
      refine hK107 _ _ ?_
      try clear hK107 K107
      refine in_cond_false (by kernel_rfl) ?_
      refine wpIn_skip ?_
      have r101_2 := (Puts.row p2 (row_ext re e1) n_ge_gs)
      have r103_2 := (Puts.row p2 (row_ext rd e1) n_gd_gs)
      have r104_2 := (Puts.row p2 (row_ext rr e1) n_gr_gs)
      have r105_2 := (Puts.row p2 (row_ext rk e1) n_kb_gs)
      exact ⟨((keeps_ext e1).trans (keeps_puts p2 r102_1)), r105_2.trans rk.symm, ⟨by rw [hS]; exact r102_2, r101_2, r103_2, r104_2, r105_2⟩, x2⟩
    · have hn2 := wad_is hL hL
      have cs := fun W => wadC hL hL W
      generalize hn : wad s s = n at cs hn2
      have ct := fun W => wadC (A := n) (B := wE x lx) hn2 hE W
      generalize hm : wad n (wE x lx) = m at ct
      have hS : wrun (wE x lx) (wE 0 0) (pre ++ [true]) = m := by
        rw [hS0]
        simp only [wrung, hn, if_true, hm]
      clear hS0 hn hm
      have ls := b9
      refine wpIn_block ?_
      refine wpIn_seq_k fun K106 hK106 => ?_
      refine region_litIn ?_
      refine in_val (.agg (cat [numA (s.1), numA (s.2.1), numA (s.2.2.1), numA (s.2.2.2)])) 18 rfl (free_wide l 1 _) rfl (by kernel_rfl) (run_load_row 75 _ g9 75 _ _ rs rfl (by kernel_rfl) (by kernel_rfl) (isz (n := 16) (by kernel_rfl) (by kernel_rfl))) ?_
      refine in_val (.agg (cat [numA (s.1), numA (s.2.1), numA (s.2.2.1), numA (s.2.2.2)])) 19 rfl (free_wide l 1 _) rfl (by kernel_rfl) (run_load_row 75 _ g9 75 _ _ rs rfl (by kernel_rfl) (by kernel_rfl) (isz (n := 16) (by kernel_rfl) (by kernel_rfl))) ?_
      refine in_val (.agg (numA (dN))) 20 rfl (free_wide l 1 _) rfl (by kernel_rfl) (run_load_row 28 _ g7 28 _ _ rd rfl (by kernel_rfl) (by kernel_rfl) (isz (n := 4) (by kernel_rfl) (by kernel_rfl))) ?_
      refine in_call (.agg (cat [numA (((n)).1), numA (((n)).2.1), numA (((n)).2.2.1), numA (((n)).2.2.2)])) 51 #[.agg (cat [numA (s.1), numA (s.2.1), numA (s.2.2.1), numA (s.2.2.2)]), .agg (cat [numA (s.1), numA (s.2.1), numA (s.2.2.1), numA (s.2.2.2)]), .agg (numA (dN))] 21 rfl (free_wide l 1 _) rfl (by kernel_rfl) (by kernel_rfl) (cs _) fun W1 e1 => ?_
      have x1 : Ext w W1 := Ext.tr xx e1
      have r102_1 := (row_ext rs e1)
      refine in_store g9 _ (cat [numA (((n)).1), numA (((n)).2.1), numA (((n)).2.2.1), numA (((n)).2.2.2)]) 75 r102_1 rfl (free_wide l 1 _) rfl (by kernel_rfl) (run_store_row 75 _ _ g9 75 _ _ r102_1 rfl (by kernel_rfl) (by kernel_rfl) (isz (n := 16) (by kernel_rfl) (by kernel_rfl)) (eqsz (n := 16) (by kernel_rfl) (by kernel_rfl)) (by kernel_rfl)) fun W2 p2 r102_2 => ?_
      have x2 : Ext w W2 := Puts.ext p2 x1 ls
      refine in_nil ?_
      refine hK106 _ _ ?_
      try clear hK106 K106
      refine wpIn_seq_k fun K107 hK107 => ?_
      refine region_litIn ?_
      refine in_val (.int .i64 1) 22 rfl (free_wide l 1 _) rfl (by kernel_rfl) (by kernel_rfl) ?_
      refine in_val (.bool true) 23 rfl (free_wide l 1 _) rfl (by kernel_rfl) (by kernel_rfl) ?_
      refine in_nil ?_
      refine hK107 _ _ ?_
      try clear hK107 K107
      refine in_cond_true (by kernel_rfl) ?_
      refine region_litIn ?_
      refine in_val (.agg (cat [numA (((n)).1), numA (((n)).2.1), numA (((n)).2.2.1), numA (((n)).2.2.2)])) 24 rfl (free_wide l 1 _) rfl (by kernel_rfl) (run_load_row 75 _ g9 75 _ _ r102_2 rfl (by kernel_rfl) (by kernel_rfl) (isz (n := 16) (by kernel_rfl) (by kernel_rfl))) ?_
      have r101_2 := (Puts.row p2 (row_ext re e1) n_ge_gs)
      refine in_val (.agg (cat [numA ((wE x lx).1), numA ((wE x lx).2.1), numA ((wE x lx).2.2.1), numA ((wE x lx).2.2.2)])) 25 rfl (free_wide l 1 _) rfl (by kernel_rfl) (run_load_row 75 _ g10 75 _ _ r101_2 rfl (by kernel_rfl) (by kernel_rfl) (isz (n := 16) (by kernel_rfl) (by kernel_rfl))) ?_
      have r103_2 := (Puts.row p2 (row_ext rd e1) n_gd_gs)
      refine in_val (.agg (numA (dN))) 26 rfl (free_wide l 1 _) rfl (by kernel_rfl) (run_load_row 28 _ g7 28 _ _ r103_2 rfl (by kernel_rfl) (by kernel_rfl) (isz (n := 4) (by kernel_rfl) (by kernel_rfl))) ?_
      refine in_call (.agg (cat [numA (((m)).1), numA (((m)).2.1), numA (((m)).2.2.1), numA (((m)).2.2.2)])) 51 #[.agg (cat [numA (((n)).1), numA (((n)).2.1), numA (((n)).2.2.1), numA (((n)).2.2.2)]), .agg (cat [numA ((wE x lx).1), numA ((wE x lx).2.1), numA ((wE x lx).2.2.1), numA ((wE x lx).2.2.2)]), .agg (numA (dN))] 27 rfl (free_wide l 1 _) rfl (by kernel_rfl) (by kernel_rfl) (ct _) fun W3 e3 => ?_
      have x3 : Ext w W3 := Ext.tr x2 e3
      have r102_3 := (row_ext r102_2 e3)
      refine in_store g9 _ (cat [numA (((m)).1), numA (((m)).2.1), numA (((m)).2.2.1), numA (((m)).2.2.2)]) 75 r102_3 rfl (free_wide l 1 _) rfl (by kernel_rfl) (run_store_row 75 _ _ g9 75 _ _ r102_3 rfl (by kernel_rfl) (by kernel_rfl) (isz (n := 16) (by kernel_rfl) (by kernel_rfl)) (eqsz (n := 16) (by kernel_rfl) (by kernel_rfl)) (by kernel_rfl)) fun W4 p4 r102_4 => ?_
      have x4 : Ext w W4 := Puts.ext p4 x3 ls
      refine in_nil ?_
      have r101_4 := (Puts.row p4 (row_ext r101_2 e3) n_ge_gs)
      have r103_4 := (Puts.row p4 (row_ext r103_2 e3) n_gd_gs)
      have r104_4 := (Puts.row p4 (row_ext (Puts.row p2 (row_ext rr e1) n_gr_gs) e3) n_gr_gs)
      have r105_4 := (Puts.row p4 (row_ext (Puts.row p2 (row_ext rk e1) n_kb_gs) e3) n_kb_gs)
      exact ⟨((((keeps_ext e1).trans (keeps_puts p2 r102_1)).trans (keeps_ext e3)).trans (keeps_puts p4 r102_3)), r105_4.trans rk.symm, ⟨by rw [hS]; exact r102_4, r101_4, r103_4, r104_4, r105_4⟩, x4⟩
  obtain ⟨⟨rs, re, rd, rr, rk⟩, xx⟩ := hI
  subst hS
  have hR := wrun_is hE (bitsB ks) (Z := wE 0 0) hZ
  have bD : w.heap.size ≤ D := Nat.le_trans x10.size lD
  refine hK11 _ _ ?_
  try clear hK11 K11
  refine wp_seq_k fun K15 hK15 => ?_
  refine region_lit ?_
  refine seq_val (.agg (cat [numA ((wrun (wE x lx) (wE 0 0) (bitsB ks)).1), numA ((wrun (wE x lx) (wE 0 0) (bitsB ks)).2.1), numA ((wrun (wE x lx) (wE 0 0) (bitsB ks)).2.2.1), numA ((wrun (wE x lx) (wE 0 0) (bitsB ks)).2.2.2)])) 28 rfl (by kernel_rfl) (run_load_row 75 _ g9 75 _ _ rs rfl (by kernel_rfl) (by kernel_rfl) (isz (n := 16) (by kernel_rfl) (by kernel_rfl))) ?_
  refine seq_call (.agg (cat [numA ((pnarF (wrun (wE x lx) (wE 0 0) (bitsB ks)).1 (wrun (wE x lx) (wE 0 0) (bitsB ks)).2.1 (wrun (wE x lx) (wE 0 0) (bitsB ks)).2.2.1 (wrun (wE x lx) (wE 0 0) (bitsB ks)).2.2.2).1), numA ((pnarF (wrun (wE x lx) (wE 0 0) (bitsB ks)).1 (wrun (wE x lx) (wE 0 0) (bitsB ks)).2.1 (wrun (wE x lx) (wE 0 0) (bitsB ks)).2.2.1 (wrun (wE x lx) (wE 0 0) (bitsB ks)).2.2.2).2)])) 52 #[.agg (cat [numA ((wrun (wE x lx) (wE 0 0) (bitsB ks)).1), numA ((wrun (wE x lx) (wE 0 0) (bitsB ks)).2.1), numA ((wrun (wE x lx) (wE 0 0) (bitsB ks)).2.2.1), numA ((wrun (wE x lx) (wE 0 0) (bitsB ks)).2.2.2)])] 29 rfl (by kernel_rfl) (by kernel_rfl) ((pnarC _ _ _ _ hR.1 hR.2.1 hR.2.2.1 hR.2.2.2) _) fun W12 e12 => ?_
  have x12 : Ext w W12 := Ext.tr xx e12
  have r5_12 := (row_ext rr e12)
  refine seq_store g5 _ (cat [numA ((pnarF (wrun (wE x lx) (wE 0 0) (bitsB ks)).1 (wrun (wE x lx) (wE 0 0) (bitsB ks)).2.1 (wrun (wE x lx) (wE 0 0) (bitsB ks)).2.2.1 (wrun (wE x lx) (wE 0 0) (bitsB ks)).2.2.2).1), numA ((pnarF (wrun (wE x lx) (wE 0 0) (bitsB ks)).1 (wrun (wE x lx) (wE 0 0) (bitsB ks)).2.1 (wrun (wE x lx) (wE 0 0) (bitsB ks)).2.2.1 (wrun (wE x lx) (wE 0 0) (bitsB ks)).2.2.2).2)]) 30 r5_12 rfl (by kernel_rfl) (run_store_row 30 _ _ g5 30 _ _ r5_12 rfl (by kernel_rfl) (by kernel_rfl) (isz (n := 8) (by kernel_rfl) (by kernel_rfl)) (eqsz (n := 8) (by kernel_rfl) (by kernel_rfl)) (by kernel_rfl)) fun W13 p13 r5_13 => ?_
  have x13 : Ext w W13 := Puts.ext p13 x12 b5
  refine seq_nil ?_
  refine hK15 _ _ ?_
  try clear hK15 K15
  refine wp_ret ?_
  have r14_13 := (Puts.row p13 (row_ext rD e12) (ne_mark rr rD))
  exact (show bodyPostM _ _ _ _ _ .ret _ _ from retM1 (.agg (cat [numA ((pnarF (wrun (wE x lx) (wE 0 0) (bitsB ks)).1 (wrun (wE x lx) (wE 0 0) (bitsB ks)).2.1 (wrun (wE x lx) (wE 0 0) (bitsB ks)).2.2.1 (wrun (wE x lx) (wE 0 0) (bitsB ks)).2.2.2).1), numA ((pnarF (wrun (wE x lx) (wE 0 0) (bitsB ks)).1 (wrun (wE x lx) (wE 0 0) (bitsB ks)).2.1 (wrun (wE x lx) (wE 0 0) (bitsB ks)).2.2.1 (wrun (wE x lx) (wE 0 0) (bitsB ks)).2.2.2).2)])) rfl r14_13 (res_cell g5 30 _ (putD_row r5_13 r14_13 _) (by kernel_rfl) (by kernel_rfl) (isz (n := 8) (by kernel_rfl) (by kernel_rfl))) ⟨rfl, putD_ext x13 bD r14_13 _⟩)
def Z0 : W3 := (0, 1, 1)
set_option maxHeartbeats 8000000 in
theorem rtimesC (E : W3) (hE : isW3 E) (ks : List Int) (hk : ks.length = 32) (hkb : AreBytes ks) (w : World) :
    Calls Tryd.prog 21 #[w3 E, .agg (ints .u8 ks)] w (Ret w (w3 (rruns E Z0 ks 0))) := by
  have hZ : isW3 Z0 := ⟨num_isN 0, num_isN 1, num_isN 1⟩
  refine enter 29 [(0, .agg (cat [ints .i64 (lims (E.1)), ints .i64 (lims (E.2.1)), ints .i64 (lims (E.2.2))])), (1, .agg (ints .u8 (ks)))] Tryd.func21 rfl rfl (by kernel_rfl) rfl ?_
  refine wp_seq_k fun K1 hK1 => ?_
  refine region_lit ?_
  refine seq_alloc (cat [ints .i64 (lims (E.1)), ints .i64 (lims (E.2.1)), ints .i64 (lims (E.2.2))]) 36 2 rfl (by kernel_rfl) (by kernel_rfl) fun g2 W1 l2 e1 r2_1 => ?_
  have x1 : Ext w W1 := Ext.tr (Rely.Ext.refl w) e1
  have b2 : w.heap.size ≤ g2 := Nat.le_trans (Rely.Ext.refl w).size l2
  refine seq_alloc (ints .u8 (ks)) 23 3 rfl (by kernel_rfl) (by kernel_rfl) fun g3 W2 l3 e2 r3_2 => ?_
  have x2 : Ext w W2 := Ext.tr x1 e2
  have b3 : w.heap.size ≤ g3 := Nat.le_trans x1.size l3
  refine seq_alloc (cat [ints .i64 (lims (0)), ints .i64 (lims (0)), ints .i64 (lims (0))]) 36 4 rfl (by kernel_rfl) (by kernel_rfl) fun g4 W3 l4 e3 r4_3 => ?_
  have x3 : Ext w W3 := Ext.tr x2 e3
  have b4 : w.heap.size ≤ g4 := Nat.le_trans x2.size l4
  refine seq_nil ?_
  refine hK1 _ _ ?_
  try clear hK1 K1
  refine wp_seq_k fun K5 hK5 => ?_
  refine region_lit ?_
  refine seq_call (.agg (cat [ints .i64 (lims (Z0.1)), ints .i64 (lims (Z0.2.1)), ints .i64 (lims (Z0.2.2))])) 41 #[] 7 rfl (by kernel_rfl) (by kernel_rfl) (nothing _) fun W4 e4 => ?_
  have x4 : Ext w W4 := Ext.tr x3 e4
  refine seq_alloc (cat [ints .i64 (lims (0)), ints .i64 (lims (0)), ints .i64 (lims (0))]) 36 5 rfl (by kernel_rfl) (by kernel_rfl) fun g6 W5 l6 e5 r6_5 => ?_
  have x5 : Ext w W5 := Ext.tr x4 e5
  have b6 : w.heap.size ≤ g6 := Nat.le_trans x4.size l6
  refine seq_store g6 _ (cat [ints .i64 (lims (Z0.1)), ints .i64 (lims (Z0.2.1)), ints .i64 (lims (Z0.2.2))]) 36 r6_5 rfl (by kernel_rfl) (run_store_row 36 _ _ g6 36 _ _ r6_5 rfl (by kernel_rfl) (by kernel_rfl) (isz (n := 48) (by kernel_rfl) (by kernel_rfl)) (eqsz (n := 48) (by kernel_rfl) (by kernel_rfl)) (by kernel_rfl)) fun W6 p6 r6_6 => ?_
  have x6 : Ext w W6 := Puts.ext p6 x5 b6
  refine seq_nil ?_
  refine hK5 _ _ ?_
  try clear hK5 K5
  refine wp_seq_k fun K7 hK7 => ?_
  refine wp_seq_k fun K8 hK8 => ?_
  refine region_lit ?_
  refine seq_val (.int .i64 255) 6 rfl (by kernel_rfl) (by kernel_rfl) ?_
  refine seq_nil ?_
  refine hK8 _ _ ?_
  try clear hK8 K8
  refine wp_block ?_
  have r2_4 := (row_ext (row_ext (row_ext r2_1 e2) e3) e4)
  have r2_6 := (Puts.row p6 (row_ext (row_ext (row_ext (row_ext r2_1 e2) e3) e4) e5) (ne_of_old r2_4 l6))
  have r3_4 := (row_ext (row_ext r3_2 e3) e4)
  have r3_6 := (Puts.row p6 (row_ext (row_ext (row_ext r3_2 e3) e4) e5) (ne_of_old r3_4 l6))
  have r4_4 := (row_ext r4_3 e4)
  have r4_6 := (Puts.row p6 (row_ext (row_ext r4_3 e4) e5) (ne_of_old r4_4 l6))
  have n_2_5 : g2 ≠ g6 := (ne_of_old r2_4 l6)
  have n_3_5 : g3 ≠ g6 := (ne_of_old r3_4 l6)
  have n_4_5 : g4 ≠ g6 := (ne_of_old r4_4 l6)
  refine loop_auto (fun (k : Nat) => [(6, .int .i64 ((k : Int) - 1)), (2, .pointer (some ⟨g2, 0, none⟩)), (3, .pointer (some ⟨g3, 0, none⟩)), (4, .pointer (some ⟨g4, 0, none⟩)), (5, .pointer (some ⟨g6, 0, none⟩))]) (fun (k : Nat) W => k ≤ 256 ∧ W.heap[g2]? = some (.cells (cat [ints .i64 (lims (E.1)), ints .i64 (lims (E.2.1)), ints .i64 (lims (E.2.2))]) 36) ∧ W.heap[g3]? = some (.cells (ints .u8 ks) 23) ∧ W.heap[g4]? = some (.cells (cat [ints .i64 (lims (0)), ints .i64 (lims (0)), ints .i64 (lims (0))]) 36) ∧ W.heap[g6]? = some (.cells (cat [ints .i64 (lims ((rruns E Z0 ks k).1)), ints .i64 (lims ((rruns E Z0 ks k).2.1)), ints .i64 (lims ((rruns E Z0 ks k).2.2))]) 36) ∧ Ext w W) (fun k => k) 256 ⟨rfl, rfl, rfl, rfl, rfl, trivial⟩ ⟨by omega, r2_6, r3_6, r4_6, r6_6, x6⟩ fun k X W hI => ?_
  obtain ⟨hk256, q2, q3, q4, q5, xx⟩ := hI
  rcases k with _ | j
  · skip
    refine wp_seq_k fun K9 hK9 => ?_
    refine wp_seq_k fun K10 hK10 => ?_
    refine region_lit ?_
    refine seq_val (.int .i64 (-1)) 8 rfl (by kernel_rfl) (by kernel_rfl) ?_
    refine seq_val (.bool false) 9 rfl (by kernel_rfl) (by kernel_rfl) ?_
    refine seq_nil ?_
    refine hK10 _ _ ?_
    try clear hK10 K10
    refine cond_false (by kernel_rfl) ?_
    refine wp_exit ?_
    refine hK7 _ _ ?_
    try clear hK7 K7
    refine wp_seq_k fun K11 hK11 => ?_
    refine region_lit ?_
    refine seq_val (.agg (cat [ints .i64 (lims ((rruns E Z0 ks 0).1)), ints .i64 (lims ((rruns E Z0 ks 0).2.1)), ints .i64 (lims ((rruns E Z0 ks 0).2.2))])) 28 rfl (by kernel_rfl) (run_load_row 36 _ g6 36 _ _ q5 rfl (by kernel_rfl) (by kernel_rfl) (isz (n := 48) (by kernel_rfl) (by kernel_rfl))) ?_
    refine seq_store g4 _ (cat [ints .i64 (lims ((rruns E Z0 ks 0).1)), ints .i64 (lims ((rruns E Z0 ks 0).2.1)), ints .i64 (lims ((rruns E Z0 ks 0).2.2))]) 36 q4 rfl (by kernel_rfl) (run_store_row 36 _ _ g4 36 _ _ q4 rfl (by kernel_rfl) (by kernel_rfl) (isz (n := 48) (by kernel_rfl) (by kernel_rfl)) (eqsz (n := 48) (by kernel_rfl) (by kernel_rfl)) (by kernel_rfl)) fun W8 p8 r4_8 => ?_
    have x8 : Ext w W8 := Puts.ext p8 xx b4
    refine seq_nil ?_
    refine hK11 _ _ ?_
    try clear hK11 K11
    refine wp_ret ?_
    exact (show bodyPost _ _ _ .ret _ _ from ret1 (.agg (cat [ints .i64 (lims ((rruns E Z0 ks 0).1)), ints .i64 (lims ((rruns E Z0 ks 0).2.1)), ints .i64 (lims ((rruns E Z0 ks 0).2.2))])) rfl (res_cell g4 36 _ r4_8 (by kernel_rfl) (by kernel_rfl) (isz (n := 48) (by kernel_rfl) (by kernel_rfl))) ⟨rfl, x8⟩)
  · rw [show (((j + 1 : Nat) : Int) - 1) = (j : Int) by omega]
    have hS0 := rruns_step E Z0 ks j (by omega)
    have hL : isW3 (rruns E Z0 ks (j + 1)) := rrun_is hE _ (Z := Z0) hZ
    generalize rruns E Z0 ks (j + 1) = s at hS0 hL q5
    have hn2 := rad_is hL hL
    have cs := fun W => radC hL hL W
    generalize hn : rad s s = n at cs hn2
    have hbr := bitAt_range ks j
    by_cases hb1 : bitAt ks j = 1
    · have hbit : Int.tmod (nth ks (j / 8) / 2 ^ (j % 8)) 2 = 1 := bit_tmod' ks j hkb hb1
      rw [show bitB ks j = true by simp [bitB, hb1]] at hS0
      have ct := fun W => radC (A := n) (B := E) hn2 hE W
      generalize hm : rad n E = m at ct
      have hS : rruns E Z0 ks j = m := by
        rw [hS0]
        simp only [rrung, hn, if_true, hm]
      refine wp_seq_k fun K17 hK17 => ?_
      refine wp_seq_k fun K18 hK18 => ?_
      refine region_lit ?_
      refine seq_val (.int .i64 ((j : Int))) 8 rfl (by kernel_rfl) (by kernel_rfl) ?_
      refine seq_val (.bool true) 9 rfl (by kernel_rfl) (run_eq (u := .bool (decide (((j : Int)) ≥ 0))) (by kernel_rfl) (congrArg Value.bool (decide_eq_true (by omega)))) ?_
      refine seq_nil ?_
      refine hK18 _ _ ?_
      try clear hK18 K18
      refine cond_true (by kernel_rfl) ?_
      refine wp_skip ?_
      refine hK17 _ _ ?_
      try clear hK17 K17
      refine wp_seq_k fun K19 hK19 => ?_
      refine wp_block ?_
      refine wp_seq_k fun K20 hK20 => ?_
      refine region_lit ?_
      refine seq_val (.agg (cat [ints .i64 (lims (s.1)), ints .i64 (lims (s.2.1)), ints .i64 (lims (s.2.2))])) 12 rfl (by kernel_rfl) (run_load_row 36 _ g6 36 _ _ q5 rfl (by kernel_rfl) (by kernel_rfl) (isz (n := 48) (by kernel_rfl) (by kernel_rfl))) ?_
      refine seq_val (.agg (cat [ints .i64 (lims (s.1)), ints .i64 (lims (s.2.1)), ints .i64 (lims (s.2.2))])) 13 rfl (by kernel_rfl) (run_load_row 36 _ g6 36 _ _ q5 rfl (by kernel_rfl) (by kernel_rfl) (isz (n := 48) (by kernel_rfl) (by kernel_rfl))) ?_
      refine seq_call (.agg (cat [ints .i64 (lims (n.1)), ints .i64 (lims (n.2.1)), ints .i64 (lims (n.2.2))])) 16 #[.agg (cat [ints .i64 (lims (s.1)), ints .i64 (lims (s.2.1)), ints .i64 (lims (s.2.2))]), .agg (cat [ints .i64 (lims (s.1)), ints .i64 (lims (s.2.1)), ints .i64 (lims (s.2.2))])] 14 rfl (by kernel_rfl) (by kernel_rfl) (cs _) fun W8 e8 => ?_
      have x8 : Ext w W8 := Ext.tr xx e8
      have r6_8 := (row_ext q5 e8)
      refine seq_store g6 _ (cat [ints .i64 (lims (n.1)), ints .i64 (lims (n.2.1)), ints .i64 (lims (n.2.2))]) 36 r6_8 rfl (by kernel_rfl) (run_store_row 36 _ _ g6 36 _ _ r6_8 rfl (by kernel_rfl) (by kernel_rfl) (isz (n := 48) (by kernel_rfl) (by kernel_rfl)) (eqsz (n := 48) (by kernel_rfl) (by kernel_rfl)) (by kernel_rfl)) fun W9 p9 r6_9 => ?_
      have x9 : Ext w W9 := Puts.ext p9 x8 b6
      refine seq_nil ?_
      refine hK20 _ _ ?_
      try clear hK20 K20
      refine wp_seq_k fun K21 hK21 => ?_
      refine region_lit ?_
      refine seq_val (.int .i64 ((j : Int))) 15 rfl (by kernel_rfl) (by kernel_rfl) ?_
      refine seq_val (.int .i64 (((j / 8 : Nat) : Int))) 16 rfl (by kernel_rfl) (run_eq (u := .int .i64 (IntKind.i64.wrap (Int.tdiv (((j : Int))) (8)))) (by kernel_rfl) (congrArg (Value.int .i64) (i64_quo j 8 (by omega)))) ?_
      refine seq_val (.pointer (some ⟨g3, j / 8, none⟩)) 17 rfl (by kernel_rfl) (run_index0 _ _ _ .i64 (j / 8) _ 32 5 rfl (by kernel_rfl) (by kernel_rfl) (by kernel_rfl) (by kernel_rfl) (by omega)) ?_
      have r3_9 := (Puts.row p9 (row_ext q3 e8) n_3_5)
      refine seq_val (.int .u8 (nth ks (j / 8))) 18 rfl (by kernel_rfl) (run_loadC1 5 _ g3 (j / 8) 23 _ (.int .u8 (nth ks (j / 8))) _ r3_9 rfl (by kernel_rfl) (ints_get _ _ _ (by omega)) (by kernel_rfl)) ?_
      refine seq_val (.int .i64 ((j : Int))) 19 rfl (by kernel_rfl) (by kernel_rfl) ?_
      refine seq_val (.int .i64 (((j % 8 : Nat) : Int))) 20 rfl (by kernel_rfl) (run_eq (u := .int .i64 (Int.tmod (((j : Int))) (8))) (by kernel_rfl) (congrArg (Value.int .i64) (nat_rem j 8))) ?_
      refine seq_val (.int .u64 (((j % 8 : Nat) : Int))) 21 rfl (by kernel_rfl) (run_eq (u := .int .u64 (IntKind.u64.wrap (((j % 8 : Nat) : Int)))) (by kernel_rfl) (congrArg (Value.int .u64) (u64_nat' _ (by omega)))) ?_
      refine seq_val (.int .u8 (nth ks (j / 8) / 2 ^ (j % 8))) 22 rfl (by kernel_rfl) (run_bin .shr _ _ _ _ .u8 .u64 _ _ _ rfl (by kernel_rfl) (by kernel_rfl) (b_shr _ _ _ _ _ _ (by omega) (shr8' _ _ (by omega)))) ?_
      refine seq_val (.int .u8 (1)) 23 rfl (by kernel_rfl) (run_eq (u := .int .u8 (Int.tmod ((nth ks (j / 8) / 2 ^ (j % 8))) (2))) (by kernel_rfl) (congrArg (Value.int .u8) hbit)) ?_
      refine seq_val (.bool true) 24 rfl (by kernel_rfl) (by kernel_rfl) ?_
      refine seq_nil ?_
      refine hK21 _ _ ?_
      try clear hK21 K21
      refine cond_true (by kernel_rfl) ?_
      refine region_lit ?_
      refine seq_val (.agg (cat [ints .i64 (lims (n.1)), ints .i64 (lims (n.2.1)), ints .i64 (lims (n.2.2))])) 25 rfl (by kernel_rfl) (run_load_row 36 _ g6 36 _ _ r6_9 rfl (by kernel_rfl) (by kernel_rfl) (isz (n := 48) (by kernel_rfl) (by kernel_rfl))) ?_
      have r2_9 := (Puts.row p9 (row_ext q2 e8) n_2_5)
      refine seq_val (.agg (cat [ints .i64 (lims (E.1)), ints .i64 (lims (E.2.1)), ints .i64 (lims (E.2.2))])) 26 rfl (by kernel_rfl) (run_load_row 36 _ g2 36 _ _ r2_9 rfl (by kernel_rfl) (by kernel_rfl) (isz (n := 48) (by kernel_rfl) (by kernel_rfl))) ?_
      refine seq_call (.agg (cat [ints .i64 (lims (m.1)), ints .i64 (lims (m.2.1)), ints .i64 (lims (m.2.2))])) 16 #[.agg (cat [ints .i64 (lims (n.1)), ints .i64 (lims (n.2.1)), ints .i64 (lims (n.2.2))]), .agg (cat [ints .i64 (lims (E.1)), ints .i64 (lims (E.2.1)), ints .i64 (lims (E.2.2))])] 27 rfl (by kernel_rfl) (by kernel_rfl) (ct _) fun W10 e10 => ?_
      have x10 : Ext w W10 := Ext.tr x9 e10
      have r6_10 := (row_ext r6_9 e10)
      refine seq_store g6 _ (cat [ints .i64 (lims (m.1)), ints .i64 (lims (m.2.1)), ints .i64 (lims (m.2.2))]) 36 r6_10 rfl (by kernel_rfl) (run_store_row 36 _ _ g6 36 _ _ r6_10 rfl (by kernel_rfl) (by kernel_rfl) (isz (n := 48) (by kernel_rfl) (by kernel_rfl)) (eqsz (n := 48) (by kernel_rfl) (by kernel_rfl)) (by kernel_rfl)) fun W11 p11 r6_11 => ?_
      have x11 : Ext w W11 := Puts.ext p11 x10 b6
      refine seq_nil ?_
      refine hK19 _ _ ?_
      try clear hK19 K19
      refine region_lit ?_
      refine seq_val (.int .i64 ((j : Int))) 10 rfl (by kernel_rfl) (by kernel_rfl) ?_
      refine seq_val (.int .i64 ((j : Int) - 1)) 11 rfl (by kernel_rfl) (run_eq (u := .int .i64 (IntKind.i64.wrap (((j : Int)) - 1))) (by kernel_rfl) (congrArg (Value.int .i64) (i64_sub1 j (by omega)))) ?_
      refine seq_val (.int .i64 ((j : Int) - 1)) 6 rfl (by kernel_rfl) (by kernel_rfl) ?_
      refine seq_nil ?_
      have r2_11 := (Puts.row p11 (row_ext r2_9 e10) n_2_5)
      have r3_11 := (Puts.row p11 (row_ext r3_9 e10) n_3_5)
      have r4_11 := (Puts.row p11 (row_ext (Puts.row p9 (row_ext q4 e8) n_4_5) e10) n_4_5)
      exact goes_then j ⟨rfl, rfl, rfl, rfl, rfl, trivial⟩ ⟨by omega, r2_11, r3_11, r4_11, by rw [hS]; exact r6_11, x11⟩ (Nat.lt_succ_self j)
    · have hbit : Int.tmod (nth ks (j / 8) / 2 ^ (j % 8)) 2 = 0 := bit_tmod' ks j hkb (by omega)
      rw [show bitB ks j = false by simp [bitB, hb1]] at hS0
      have hS : rruns E Z0 ks j = n := by
        rw [hS0]
        simp only [rrung, hn, Bool.false_eq_true, if_false]
      refine wp_seq_k fun K12 hK12 => ?_
      refine wp_seq_k fun K13 hK13 => ?_
      refine region_lit ?_
      refine seq_val (.int .i64 ((j : Int))) 8 rfl (by kernel_rfl) (by kernel_rfl) ?_
      refine seq_val (.bool true) 9 rfl (by kernel_rfl) (run_eq (u := .bool (decide (((j : Int)) ≥ 0))) (by kernel_rfl) (congrArg Value.bool (decide_eq_true (by omega)))) ?_
      refine seq_nil ?_
      refine hK13 _ _ ?_
      try clear hK13 K13
      refine cond_true (by kernel_rfl) ?_
      refine wp_skip ?_
      refine hK12 _ _ ?_
      try clear hK12 K12
      refine wp_seq_k fun K14 hK14 => ?_
      refine wp_block ?_
      refine wp_seq_k fun K15 hK15 => ?_
      refine region_lit ?_
      refine seq_val (.agg (cat [ints .i64 (lims (s.1)), ints .i64 (lims (s.2.1)), ints .i64 (lims (s.2.2))])) 12 rfl (by kernel_rfl) (run_load_row 36 _ g6 36 _ _ q5 rfl (by kernel_rfl) (by kernel_rfl) (isz (n := 48) (by kernel_rfl) (by kernel_rfl))) ?_
      refine seq_val (.agg (cat [ints .i64 (lims (s.1)), ints .i64 (lims (s.2.1)), ints .i64 (lims (s.2.2))])) 13 rfl (by kernel_rfl) (run_load_row 36 _ g6 36 _ _ q5 rfl (by kernel_rfl) (by kernel_rfl) (isz (n := 48) (by kernel_rfl) (by kernel_rfl))) ?_
      refine seq_call (.agg (cat [ints .i64 (lims (n.1)), ints .i64 (lims (n.2.1)), ints .i64 (lims (n.2.2))])) 16 #[.agg (cat [ints .i64 (lims (s.1)), ints .i64 (lims (s.2.1)), ints .i64 (lims (s.2.2))]), .agg (cat [ints .i64 (lims (s.1)), ints .i64 (lims (s.2.1)), ints .i64 (lims (s.2.2))])] 14 rfl (by kernel_rfl) (by kernel_rfl) (cs _) fun W8 e8 => ?_
      have x8 : Ext w W8 := Ext.tr xx e8
      have r6_8 := (row_ext q5 e8)
      refine seq_store g6 _ (cat [ints .i64 (lims (n.1)), ints .i64 (lims (n.2.1)), ints .i64 (lims (n.2.2))]) 36 r6_8 rfl (by kernel_rfl) (run_store_row 36 _ _ g6 36 _ _ r6_8 rfl (by kernel_rfl) (by kernel_rfl) (isz (n := 48) (by kernel_rfl) (by kernel_rfl)) (eqsz (n := 48) (by kernel_rfl) (by kernel_rfl)) (by kernel_rfl)) fun W9 p9 r6_9 => ?_
      have x9 : Ext w W9 := Puts.ext p9 x8 b6
      refine seq_nil ?_
      refine hK15 _ _ ?_
      try clear hK15 K15
      refine wp_seq_k fun K16 hK16 => ?_
      refine region_lit ?_
      refine seq_val (.int .i64 ((j : Int))) 15 rfl (by kernel_rfl) (by kernel_rfl) ?_
      refine seq_val (.int .i64 (((j / 8 : Nat) : Int))) 16 rfl (by kernel_rfl) (run_eq (u := .int .i64 (IntKind.i64.wrap (Int.tdiv (((j : Int))) (8)))) (by kernel_rfl) (congrArg (Value.int .i64) (i64_quo j 8 (by omega)))) ?_
      refine seq_val (.pointer (some ⟨g3, j / 8, none⟩)) 17 rfl (by kernel_rfl) (run_index0 _ _ _ .i64 (j / 8) _ 32 5 rfl (by kernel_rfl) (by kernel_rfl) (by kernel_rfl) (by kernel_rfl) (by omega)) ?_
      have r3_9 := (Puts.row p9 (row_ext q3 e8) n_3_5)
      refine seq_val (.int .u8 (nth ks (j / 8))) 18 rfl (by kernel_rfl) (run_loadC1 5 _ g3 (j / 8) 23 _ (.int .u8 (nth ks (j / 8))) _ r3_9 rfl (by kernel_rfl) (ints_get _ _ _ (by omega)) (by kernel_rfl)) ?_
      refine seq_val (.int .i64 ((j : Int))) 19 rfl (by kernel_rfl) (by kernel_rfl) ?_
      refine seq_val (.int .i64 (((j % 8 : Nat) : Int))) 20 rfl (by kernel_rfl) (run_eq (u := .int .i64 (Int.tmod (((j : Int))) (8))) (by kernel_rfl) (congrArg (Value.int .i64) (nat_rem j 8))) ?_
      refine seq_val (.int .u64 (((j % 8 : Nat) : Int))) 21 rfl (by kernel_rfl) (run_eq (u := .int .u64 (IntKind.u64.wrap (((j % 8 : Nat) : Int)))) (by kernel_rfl) (congrArg (Value.int .u64) (u64_nat' _ (by omega)))) ?_
      refine seq_val (.int .u8 (nth ks (j / 8) / 2 ^ (j % 8))) 22 rfl (by kernel_rfl) (run_bin .shr _ _ _ _ .u8 .u64 _ _ _ rfl (by kernel_rfl) (by kernel_rfl) (b_shr _ _ _ _ _ _ (by omega) (shr8' _ _ (by omega)))) ?_
      refine seq_val (.int .u8 (0)) 23 rfl (by kernel_rfl) (run_eq (u := .int .u8 (Int.tmod ((nth ks (j / 8) / 2 ^ (j % 8))) (2))) (by kernel_rfl) (congrArg (Value.int .u8) hbit)) ?_
      refine seq_val (.bool false) 24 rfl (by kernel_rfl) (by kernel_rfl) ?_
      refine seq_nil ?_
      refine hK16 _ _ ?_
      try clear hK16 K16
      refine cond_false (by kernel_rfl) ?_
      refine wp_skip ?_
      refine hK14 _ _ ?_
      try clear hK14 K14
      refine region_lit ?_
      refine seq_val (.int .i64 ((j : Int))) 10 rfl (by kernel_rfl) (by kernel_rfl) ?_
      refine seq_val (.int .i64 ((j : Int) - 1)) 11 rfl (by kernel_rfl) (run_eq (u := .int .i64 (IntKind.i64.wrap (((j : Int)) - 1))) (by kernel_rfl) (congrArg (Value.int .i64) (i64_sub1 j (by omega)))) ?_
      refine seq_val (.int .i64 ((j : Int) - 1)) 6 rfl (by kernel_rfl) (by kernel_rfl) ?_
      refine seq_nil ?_
      have r2_9 := (Puts.row p9 (row_ext q2 e8) n_2_5)
      have r4_9 := (Puts.row p9 (row_ext q4 e8) n_4_5)
      exact goes_then j ⟨rfl, rfl, rfl, rfl, rfl, trivial⟩ ⟨by omega, r2_9, r3_9, r4_9, by rw [hS]; exact r6_9, x9⟩ (Nat.lt_succ_self j)

end Go.Proofs.YtaojnmjmmfdfjaaDoor.Field
