/- The reference's SHA-256: what follows a text. -/
import Derived.Test.YtamlhbbphnamnaaDoorRshA
namespace Go.Proofs.YtamlhbbphnamnaaDoor.Sha
open Go Go.RowKit
open Go.Proofs.YtamlhbbphnamnaaDoor.Rely Go.Proofs.YtamlhbbphnamnaaDoor.Auto Go.Proofs.YtamlhbbphnamnaaDoor.Own
set_option linter.unusedVariables false
set_option linter.unusedSimpArgs false

theorem rdK_open {k : IntKind} {B : Nat} {ys : List Int} {a : Option Addr} {n c : Nat} {W : World} (h : RdK k B ys (.slice a n c) W) (h0 : 0 < ys.length) : ∃ g o, a = some ⟨g, o, none⟩ ∧ g < B ∧ ∀ i, i < ys.length → W.cell? ⟨g, o + i, none⟩ = some (.int k (nth ys i)) := by
  obtain ⟨a', cap', e, h2, h3, h4, h5⟩ := h
  simp only [Value.slice.injEq] at e
  obtain ⟨rfl, -, -⟩ := e
  rcases h5 with h5 | ⟨g, o, q1, q2, q3, q4⟩
  · rw [h5] at h0; simp at h0
  · exact ⟨g, o, q1, q2, q4⟩
section
variable {P : Program} {ρ : Operand → Value} {o : Oper} {w : World}
theorem run_indexA (t : TypeId) (x y : Operand) (k : IntKind) (n g off len cap : Nat) (e : TypeId) (a : Option Addr) (z : Int) (ha : a = some ⟨g, off, none⟩) (hz : z = (n : Int)) (ho : o.op = .indexAddr t x y) (hx : ρ x = .slice a len cap) (hy : ρ y = .int k z)
    (hu : P.underlying t = some (.slice e)) (hs : (P.info? e).map (·.size) = some 1) (hn : n < len) : (execOp ρ o).run P w = .ok (.value (.pointer (some ⟨g, off + n, none⟩))) w := by
  subst ha; subst hz
  exact run_indexS t x y k n g off len cap e ho hx hy hu hs hn
end
section
variable {ds : List Deferred} {P : Program} {ops : Array Oper} {Q : Exit → Act → World → Prop} {rest : List Oper} {o : Oper} {N : Nat} {L : Env} {W : World}
theorem seq_appendP {k : IntKind} {T : TypeId} (b : Nat) (s x : Operand) (t : TypeId) (ho : o.op = .call { callee := .builtin .append, args := #[s, x], argTypes := #[t, t] })
    (ht : P.underlying t = some (.slice T)) (hi : (P.info? T).map (fun i => (i.zero, i.size, i.bytes)) = some (some (.int k 0), 1, b)) (hb8 : b ≤ 8) (d : Nat) (hd : o.dst = some d) (hg : wantB ops o N L = some true) {B : Nat} {v y : Value} {xs ys : List Int} {V : World}
    (hs : Rely.look (envN N L) s = v) (hx : Rely.look (envN N L) x = y)
    (h : OwnN k T V.heap.size xs v W) (hy : RdK k B ys y W) {g9 : Nat} (hl : g9 < W.heap.size) (hne : v.ownBlock ≠ some g9) (hn : xs.length + ys.length ≤ 1000000000) (hV : Ext V W)
    (kk : ∀ (u : Value) (W' : World), OwnN k T V.heap.size (xs ++ ys) u W' → Ext V W' → Below V.heap.size W W' → (u.ownBlock ≠ some g9 ∧ g9 < W'.heap.size ∧ W'.heap[g9]? = W.heap[g9]?) → WL P ops Q rest (actOf ds N ((d, u) :: L)) W') : WL P ops Q (o :: rest) (actOf ds N L) W := by
  obtain ⟨v', W', h1, h2, h3, h4⟩ := append_N (ρ := Rely.look (envN N L)) (o := o) (W := W) s x t ho ht hi hb8 hs hx h hy hn hV.size
  refine seq_valw _ _ d hd hg h1 (kk v' W' h2 (ext_own hV h h3) ⟨h3.os, h3.tape, h3.output, h3.size, fun i hi => h3.block i (Nat.lt_of_lt_of_le hi hV.size) (fun q => by have := h.ge q.symm; omega)⟩ ⟨?_, Nat.lt_of_lt_of_le hl h3.size, h3.block g9 hl (fun q => hne q.symm)⟩)
  rcases h4 with h4 | h4
  · rw [h4]; exact hne
  · rw [h4]; intro e; have := Option.some.inj e; omega
end
def leP (n j : Nat) : List Int := (List.range j).map fun i => ((8 * n / 256 ^ i % 256 : Nat) : Int)
theorem leP_len (n j : Nat) : (leP n j).length = j := by simp [leP]
theorem leP_succ (n j : Nat) : leP n (j + 1) = leP n j ++ [((8 * n / 256 ^ j % 256 : Nat) : Int)] := by simp [leP, List.range_succ]
theorem le_be (n j : Nat) (h : j < 8) : nth (leP n 8) (7 - j) = nth (be8 (8 * n)) j := by
  match j, h with
  | 0, _ => rfl
  | 1, _ => rfl
  | 2, _ => rfl
  | 3, _ => rfl
  | 4, _ => rfl
  | 5, _ => rfl
  | 6, _ => rfl
  | 7, _ => rfl
theorem be_take (m j : Nat) (h : j < 8) : (be8 m).take (j + 1) = (be8 m).take j ++ [nth (be8 m) j] := by
  match j, h with
  | 0, _ => rfl
  | 1, _ => rfl
  | 2, _ => rfl
  | 3, _ => rfl
  | 4, _ => rfl
  | 5, _ => rfl
  | 6, _ => rfl
  | 7, _ => rfl
theorem rep_succ (t : List Int) (i : Nat) : t ++ 128 :: List.replicate (i + 1) (0 : Int) = (t ++ 128 :: List.replicate i 0) ++ [0] := by
  rw [List.append_assoc, List.cons_append, List.replicate_succ']
theorem pad_test (t : List Int) (i : Nat) (h : i ≤ fillN t.length) : ((((t ++ 128 :: List.replicate i (0 : Int)).length % 64 : Nat) : Int) != 56) = decide (i < fillN t.length) := by
  have hl : (t ++ 128 :: List.replicate i (0 : Int)).length = t.length + (i + 1) := by simp
  rw [hl]
  unfold fillN at *
  by_cases h2 : i < (64 - (t.length + 9) % 64) % 64
  · rw [decide_eq_true h2, bne_iff_ne]; omega
  · rw [decide_eq_false h2, bne_eq_false_iff_eq]; omega
theorem le_test (n j : Nat) : decide ((((leP n j).length : Nat) : Int) < 8) = decide (j < 8) := by
  rw [leP_len]
  exact decide_eq_decide.2 (by omega)
theorem ge_test (j : Nat) (h : j ≤ 8) : decide ((7 : Int) - ((j : Nat) : Int) ≥ 0) = decide (j < 8) := decide_eq_decide.2 (by omega)
theorem dec_j (j : Nat) (h : j ≤ 8) : IntKind.i64.wrap ((7 : Int) - ((j : Nat) : Int) - 1) = (7 : Int) - ((j + 1 : Nat) : Int) := by
  rw [show (7 : Int) - ((j : Nat) : Int) - 1 = (7 : Int) - ((j + 1 : Nat) : Int) by omega]
  exact IntWalk.i64_in _ (by omega)
theorem le_0 (n : Nat) : IntKind.u8.wrap ((n % 32 * 8 : Nat) : Int) = ((8 * n / 256 ^ 0 % 256 : Nat) : Int) := by
  rw [byteN, Nat.pow_zero, Nat.div_one]; omega
theorem le_j (m : Nat) : IntKind.u8.wrap ((m % 256 : Nat) : Int) = ((m % 256 : Nat) : Int) := by rw [byteN]; omega
theorem q_1 (n : Nat) : 8 * n / 256 ^ 1 = n / 32 := by rw [Nat.pow_one]; omega
theorem q_j (m j : Nat) : m / 256 ^ j / 256 = m / 256 ^ (j + 1) := by rw [Nat.div_div_eq_div_mul, Nat.pow_succ]
theorem pad_fin (t : List Int) : (t ++ 128 :: List.replicate (fillN t.length) (0 : Int)) ++ (be8 (8 * t.length)).take 8 = padT t := by
  rw [List.append_assoc, List.cons_append]
  rfl
set_option maxHeartbeats 4000000 in
theorem padC (t : List Int) (v : Value) (B : Nat) (w : World) (hlen : t.length ≤ 900000000) (hr : RdK .u8 B t v w) : Calls Tryd.prog 57 #[v, .int .i64 64, .int .i64 8] w (Gives w (OwnN .u8 5 w.heap.size (padT t))) := by
  obtain ⟨a_t, c_t, rfl, -⟩ := id hr
  have hF : fillN t.length < 64 := by unfold fillN; omega
  refine enter 62 [(0, .slice a_t t.length c_t), (1, .int .i64 64), (2, .int .i64 8)] Tryd.func57 rfl rfl kj rfl ?_
  refine wp_seq_k fun K1 hK1 => ?_
  refine region_lit ?_
  refine seq_val (.slice none 0 0) 6 rfl kj kj ?_
  refine seq_nil ?_
  refine hK1 _ _ ?_
  try clear hK1 K1
  refine wp_seq_k fun K2 hK2 => ?_
  refine region_lit ?_
  refine seq_makeS (ints .u8 ([])) 5 0 11 rfl kj kj fun g3 W1 l3 e1 r3_1 => ?_
  have x1 : Ext w W1 := Ext.tr (Rely.Ext.refl w) e1
  have b3 : w.heap.size ≤ g3 := Nat.le_trans (Rely.Ext.refl w).size l3
  refine seq_val (.slice a_t t.length c_t) 12 rfl kj kj ?_
  have y0_1 : Ext w W1 := (Rely.Ext.trans (Rely.Ext.refl w) e1)
  refine seq_appendN (k := .u8) (T := 5) (xs := []) (ys := t) (V := w) 1 (.tmp 11) (.tmp 12) 22 rfl kj kj (by decide) 13 rfl kj kj kj (ownN_row (xs := []) rfl l3 r3_1 (by decide)) (RdK.ext hr x1) (by simp; omega) y0_1 fun z1 W2 f4 y2 l2 => ?_
  have x2 : Ext w W2 := Ext.low x1 l2 (Rely.Ext.refl w).size
  refine seq_makeS (ints .u8 ([128])) 5 1 14 rfl kj kj fun g6 W3 l6 e3 r6_3 => ?_
  have x3 : Ext w W3 := Ext.tr x2 e3
  have b6 : w.heap.size ≤ g6 := Nat.le_trans x2.size l6
  have f7_3 := (f4.ext e3)
  have y0_3 : Ext w W3 := (Rely.Ext.trans y2 e3)
  refine seq_appendN (k := .u8) (T := 5) (xs := [] ++ t) (ys := [128]) (V := w) 1 (.tmp 13) (.tmp 14) 22 rfl kj kj (by decide) 15 rfl kj kj kj f7_3 (rdK_ints (xs := [128]) (n := 1) rfl r6_3 (row_lt r6_3) (show 1 ≤ maxLen from by decide)) (by simp; omega) y0_3 fun z2 W4 f8 y4 l4 => ?_
  have x4 : Ext w W4 := Ext.low x3 l4 (Rely.Ext.refl w).size
  refine seq_val (z2) 7 rfl kj kj ?_
  refine seq_nil ?_
  refine hK2 _ _ ?_
  try clear hK2 K2
  refine wp_seq_k fun K10 hK10 => ?_
  refine wp_block ?_
  refine loop_auto (fun (s1 : Nat × Value) => [(0, .slice a_t t.length c_t), (1, .int .i64 64), (2, .int .i64 8), (7, s1.2)]) (fun (s1 : Nat × Value) W => (s1.1 ≤ fillN t.length) ∧ (OwnN .u8 5 w.heap.size (t ++ 128 :: List.replicate s1.1 0) s1.2 W) ∧ (Ext w W)) (fun (s1 : Nat × Value) => fillN t.length - s1.1) (0, z2) ⟨rfl, rfl, rfl, rfl, trivial⟩ ⟨(Nat.zero_le _), (by have h := f8; simpa using h), x4⟩ fun s1 X1 V1 hI1 => ?_
  obtain ⟨i, u⟩ := s1
  obtain ⟨hi, hu, xx1⟩ := hI1
  replace hi : i ≤ fillN t.length := hi
  replace hu : OwnN .u8 5 w.heap.size (t ++ 128 :: List.replicate i 0) u V1 := hu
  replace xx1 : Ext w V1 := xx1
  obtain ⟨a7, c7, rfl, -⟩ := id (OwnN.rd hu)
  refine wp_seq_k fun K11 hK11 => ?_
  refine wp_seq_k fun K12 hK12 => ?_
  refine region_lit ?_
  refine seq_val (.slice a7 ((t ++ 128 :: List.replicate i 0).length) c7) 16 rfl kj kj ?_
  refine seq_val (.int .i64 (((t ++ 128 :: List.replicate i 0).length : Nat) : Int)) 17 rfl kj kj ?_
  refine seq_val (.int .i64 64) 18 rfl kj kj ?_
  refine seq_val (.int .i64 ((((t ++ 128 :: List.replicate i 0).length) % 64 : Nat) : Int)) 19 rfl kj (run_eq (u := .int .i64 (Int.tmod ((((t ++ 128 :: List.replicate i 0).length : Nat) : Int)) (64))) kj (congrArg (Value.int .i64) (nat_rem _ 64))) ?_
  refine seq_val (.int .i64 64) 20 rfl kj kj ?_
  refine seq_val (.int .i64 8) 21 rfl kj kj ?_
  refine seq_val (.int .i64 56) 22 rfl kj kj ?_
  refine seq_val (.bool (decide (i < fillN t.length))) 23 rfl kj (run_eq (u := .bool ((((((t ++ 128 :: List.replicate i 0).length) % 64 : Nat) : Int) != 56))) kj (congrArg Value.bool (pad_test t i hi))) ?_
  refine seq_nil ?_
  refine hK12 _ _ ?_
  try clear hK12 K12
  refine cond_split (t := decide (i < fillN t.length)) kj (fun c13 => ?_) (fun c13 => ?_)
  · skip
    have hlt23 : i < fillN t.length := by have := of_decide_eq_true c13; omega
    refine wp_skip ?_
    refine hK11 _ _ ?_
    try clear hK11 K11
    refine wp_block ?_
    refine region_lit ?_
    refine seq_val (.slice a7 ((t ++ 128 :: List.replicate i 0).length) c7) 24 rfl kj kj ?_
    refine seq_makeS (ints .u8 ([0])) 5 1 25 rfl kj kj fun g14 W6 l14 e6 r14_6 => ?_
    have x6 : Ext w W6 := Ext.tr xx1 e6
    have b14 : w.heap.size ≤ g14 := Nat.le_trans xx1.size l14
    have f15_6 := (hu.ext e6)
    have y0_6 : Ext w W6 := (Rely.Ext.trans xx1 e6)
    refine seq_appendN (k := .u8) (T := 5) (xs := t ++ 128 :: List.replicate i 0) (ys := [0]) (V := w) 1 (.tmp 24) (.tmp 25) 22 rfl kj kj (by decide) 26 rfl kj kj kj f15_6 (rdK_ints (xs := [0]) (n := 1) rfl r14_6 (row_lt r14_6) (show 1 ≤ maxLen from by decide)) (by simp; omega) y0_6 fun z3 W7 f16 y7 l7 => ?_
    have x7 : Ext w W7 := Ext.low x6 l7 (Rely.Ext.refl w).size
    refine seq_val (z3) 7 rfl kj kj ?_
    refine seq_nil ?_
    repeat (first | with_reducible refine goX1 ?_ | with_reducible refine goX2 ?_ | with_reducible refine goX3 ?_)
    exact goes_then ((i + 1), z3) ⟨rfl, rfl, rfl, rfl, trivial⟩ ⟨(by omega), (by rw [rep_succ]; exact f16), x7⟩ (by show fillN t.length - (i + 1) < fillN t.length - i; omega)
  · skip
    have heq23 : i = fillN t.length := by have := of_decide_eq_false c13; omega
    subst heq23
    refine wp_exit ?_
    refine hK10 _ _ ?_
    try clear hK10 K10
    refine wp_seq_k fun K18 hK18 => ?_
    refine region_lit ?_
    refine seq_val (.slice a_t t.length c_t) 27 rfl kj kj ?_
    refine seq_val (.int .i64 ((t.length : Nat) : Int)) 28 rfl kj kj ?_
    refine seq_val (.int .i64 ((t.length : Nat) : Int)) 8 rfl kj kj ?_
    refine seq_nil ?_
    refine hK18 _ _ ?_
    try clear hK18 K18
    refine wp_seq_k fun K19 hK19 => ?_
    refine region_lit ?_
    refine seq_val (.int .i64 ((t.length : Nat) : Int)) 29 rfl kj kj ?_
    refine seq_val (.int .i64 ((t.length % 32 : Nat) : Int)) 30 rfl kj (run_eq (u := .int .i64 (Int.tmod (((t.length : Nat) : Int)) (32))) kj (congrArg (Value.int .i64) (nat_rem _ 32))) ?_
    refine seq_val (.int .i64 (((t.length % 32) * 8 : Nat) : Int)) 31 rfl kj (run_eq (u := .int .i64 (IntKind.i64.wrap (((t.length % 32 : Nat) : Int) * 8))) kj (congrArg (Value.int .i64) (i64n _ _ (by omega) (by omega)))) ?_
    refine seq_val (.int .u8 (((8 * t.length / 256 ^ 0 % 256 : Nat) : Int))) 32 rfl kj (run_eq (u := .int .u8 (IntKind.u8.wrap (((t.length % 32) * 8 : Nat) : Int))) kj (congrArg (Value.int .u8) (le_0 _))) ?_
    refine seq_makeS (ints .u8 ([(((8 * t.length / 256 ^ 0 % 256 : Nat) : Int))])) 5 1 33 rfl kj kj fun g20 W6 l20 e6 r20_6 => ?_
    have x6 : Ext w W6 := Ext.tr xx1 e6
    have b20 : w.heap.size ≤ g20 := Nat.le_trans xx1.size l20
    refine seq_val (.slice (some ⟨g20, 0, none⟩) 1 1) 9 rfl kj kj ?_
    refine seq_nil ?_
    refine hK19 _ _ ?_
    try clear hK19 K19
    refine wp_seq_k fun K21 hK21 => ?_
    refine region_lit ?_
    refine seq_val (.int .i64 ((t.length : Nat) : Int)) 34 rfl kj kj ?_
    refine seq_val (.int .i64 ((t.length / 32 : Nat) : Int)) 35 rfl kj (run_eq (u := .int .i64 (IntKind.i64.wrap (Int.tdiv (((t.length : Nat) : Int)) (32)))) kj (congrArg (Value.int .i64) (i64_quo _ 32 (by omega)))) ?_
    refine seq_val (.int .i64 ((t.length / 32 : Nat) : Int)) 8 rfl kj kj ?_
    refine seq_nil ?_
    refine hK21 _ _ ?_
    try clear hK21 K21
    refine wp_seq_k fun K22 hK22 => ?_
    refine wp_block ?_
    have f23_6 := (hu.ext e6)
    have y5_6 : Ext V1 W6 := (Rely.Ext.trans (Rely.Ext.refl V1) e6)
    refine loop_auto (fun (s2 : Nat × Value) => [(0, .slice a_t t.length c_t), (1, .int .i64 64), (2, .int .i64 8), (7, .slice a7 ((t ++ 128 :: List.replicate (fillN t.length) 0).length) c7), (8, .int .i64 ((8 * t.length / 256 ^ s2.1 : Nat) : Int)), (9, s2.2)]) (fun (s2 : Nat × Value) W => (1 ≤ s2.1) ∧ (s2.1 ≤ 8) ∧ (OwnN .u8 5 w.heap.size (t ++ 128 :: List.replicate (fillN t.length) 0) (.slice a7 ((t ++ 128 :: List.replicate (fillN t.length) 0).length) c7) W) ∧ (OwnN .u8 5 V1.heap.size (leP t.length s2.1) s2.2 W) ∧ (Ext V1 W) ∧ (Ext w W)) (fun (s2 : Nat × Value) => 8 - s2.1) (1, .slice (some ⟨g20, 0, none⟩) 1 1) ⟨rfl, rfl, rfl, rfl, (congrArg (fun z : Nat => Value.int .i64 (z : Int)) (q_1 _).symm), rfl, trivial⟩ ⟨(Nat.le_refl _), (show (1 : Nat) ≤ 8 by decide), f23_6, (ownN_row (xs := leP t.length 1) rfl l20 r20_6 (by decide)), y5_6, x6⟩ fun s2 X2 V2 hI2 => ?_
    obtain ⟨j, u⟩ := s2
    obtain ⟨hj1, hj, h7, hu9, hv9, xx2⟩ := hI2
    replace hj1 : 1 ≤ j := hj1
    replace hj : j ≤ 8 := hj
    replace h7 : OwnN .u8 5 w.heap.size (t ++ 128 :: List.replicate (fillN t.length) 0) (.slice a7 ((t ++ 128 :: List.replicate (fillN t.length) 0).length) c7) V2 := h7
    replace hu9 : OwnN .u8 5 V1.heap.size (leP t.length j) u V2 := hu9
    replace hv9 : Ext V1 V2 := hv9
    replace xx2 : Ext w V2 := xx2
    obtain ⟨a9, c9, rfl, -⟩ := id (OwnN.rd hu9)
    have hq8 : 8 * t.length / 256 ^ j ≤ 8000000000 := Nat.le_trans (Nat.div_le_self _ _) (by omega)
    refine wp_seq_k fun K24 hK24 => ?_
    refine wp_seq_k fun K25 hK25 => ?_
    refine region_lit ?_
    refine seq_val (.slice a9 ((leP t.length j).length) c9) 36 rfl kj kj ?_
    refine seq_val (.int .i64 (((leP t.length j).length : Nat) : Int)) 37 rfl kj kj ?_
    refine seq_val (.int .i64 8) 38 rfl kj kj ?_
    refine seq_val (.bool (decide (j < 8))) 39 rfl kj (run_eq (u := .bool (decide ((((leP t.length j).length : Nat) : Int) < 8))) kj (congrArg Value.bool (le_test _ _))) ?_
    refine seq_nil ?_
    refine hK25 _ _ ?_
    try clear hK25 K25
    refine cond_split (t := decide (j < 8)) kj (fun c26 => ?_) (fun c26 => ?_)
    · skip
      have hlt39 : j < 8 := by have := of_decide_eq_true c26; omega
      refine wp_skip ?_
      refine hK24 _ _ ?_
      try clear hK24 K24
      refine wp_block ?_
      refine wp_seq_k fun K27 hK27 => ?_
      refine region_lit ?_
      refine seq_val (.slice a9 ((leP t.length j).length) c9) 40 rfl kj kj ?_
      refine seq_val (.int .i64 ((8 * t.length / 256 ^ j : Nat) : Int)) 41 rfl kj kj ?_
      refine seq_val (.int .i64 (((8 * t.length / 256 ^ j) % 256 : Nat) : Int)) 42 rfl kj (run_eq (u := .int .i64 (Int.tmod (((8 * t.length / 256 ^ j : Nat) : Int)) (256))) kj (congrArg (Value.int .i64) (nat_rem _ 256))) ?_
      refine seq_val (.int .u8 (((8 * t.length / 256 ^ j % 256 : Nat) : Int))) 43 rfl kj (run_eq (u := .int .u8 (IntKind.u8.wrap (((8 * t.length / 256 ^ j) % 256 : Nat) : Int))) kj (congrArg (Value.int .u8) (le_j _))) ?_
      refine seq_makeS (ints .u8 ([(((8 * t.length / 256 ^ j % 256 : Nat) : Int))])) 5 1 44 rfl kj kj fun g28 W8 l28 e8 r28_8 => ?_
      have x8 : Ext w W8 := Ext.tr xx2 e8
      have b28 : w.heap.size ≤ g28 := Nat.le_trans xx2.size l28
      have f29_8 := (hu9.ext e8)
      have y5_8 : Ext V1 W8 := (Rely.Ext.trans hv9 e8)
      refine seq_appendN (k := .u8) (T := 5) (xs := leP t.length j) (ys := [(((8 * t.length / 256 ^ j % 256 : Nat) : Int))]) (V := V1) 1 (.tmp 40) (.tmp 44) 22 rfl kj kj (by decide) 45 rfl kj kj kj f29_8 (rdK_ints (xs := [(((8 * t.length / 256 ^ j % 256 : Nat) : Int))]) (n := 1) rfl r28_8 (row_lt r28_8) (show 1 ≤ maxLen from by decide)) (by rw [leP_len]; show _ + 1 ≤ _; omega) y5_8 fun z4 W9 f30 y9 l9 => ?_
      have x9 : Ext w W9 := Ext.low x8 l9 xx1.size
      refine seq_val (z4) 9 rfl kj kj ?_
      refine seq_nil ?_
      refine hK27 _ _ ?_
      try clear hK27 K27
      refine region_lit ?_
      refine seq_val (.int .i64 ((8 * t.length / 256 ^ j : Nat) : Int)) 46 rfl kj kj ?_
      refine seq_val (.int .i64 (((8 * t.length / 256 ^ j) / 256 : Nat) : Int)) 47 rfl kj (run_eq (u := .int .i64 (IntKind.i64.wrap (Int.tdiv (((8 * t.length / 256 ^ j : Nat) : Int)) (256)))) kj (congrArg (Value.int .i64) (i64_quo _ 256 (by omega)))) ?_
      refine seq_val (.int .i64 (((8 * t.length / 256 ^ j) / 256 : Nat) : Int)) 8 rfl kj kj ?_
      refine seq_nil ?_
      have f32_8 := (h7.ext e8)
      have f33_9 := (OwnN.low (n := 0) f32_8 hu l9)
      repeat (first | with_reducible refine goX1 ?_ | with_reducible refine goX2 ?_ | with_reducible refine goX3 ?_)
      exact goes_then ((j + 1), z4) ⟨rfl, rfl, rfl, rfl, (congrArg (fun z : Nat => Value.int .i64 (z : Int)) (q_j _ _)), rfl, trivial⟩ ⟨(by omega), (by omega), f33_9, (by rw [leP_succ]; exact f30), y9, x9⟩ (by show 8 - (j + 1) < 8 - j; omega)
    · skip
      have heq39 : j = 8 := by have := of_decide_eq_false c26; omega
      subst heq39
      refine wp_exit ?_
      refine hK22 _ _ ?_
      try clear hK22 K22
      refine wp_seq_k fun K34 hK34 => ?_
      refine wp_seq_k fun K35 hK35 => ?_
      refine region_lit ?_
      refine seq_val (.int .i64 8) 48 rfl kj kj ?_
      refine seq_val (.int .i64 7) 49 rfl kj kj ?_
      refine seq_val (.int .i64 7) 10 rfl kj kj ?_
      refine seq_nil ?_
      refine hK35 _ _ ?_
      try clear hK35 K35
      refine wp_block ?_
      obtain ⟨g9, o9, ha9, hl0, hc0⟩ := rdK_open (OwnN.rd hu9) (by rw [leP_len]; decide)
      have hne0 : (Value.slice a7 (t ++ 128 :: List.replicate (fillN t.length) 0).length c7).ownBlock ≠ some g9 := fun e => by
        have h1 := OwnN.lt hu e
        have h2 := OwnN.ge hu9 (g := g9) (by rw [ha9]; rfl)
        omega
      refine loop_auto (fun (s3 : Nat × Value) => [(7, s3.2), (9, .slice a9 ((leP t.length 8).length) c9), (10, .int .i64 ((7 : Int) - ((s3.1 : Nat) : Int)))]) (fun (s3 : Nat × Value) W => (s3.1 ≤ 8) ∧ (OwnN .u8 5 w.heap.size (t ++ 128 :: List.replicate (fillN t.length) 0 ++ (be8 (8 * t.length)).take s3.1) s3.2 W) ∧ (g9 < W.heap.size) ∧ (s3.2.ownBlock ≠ some g9) ∧ (∀ i, i < (leP t.length 8).length → W.cell? ⟨g9, o9 + i, none⟩ = some (.int .u8 (nth (leP t.length 8) i))) ∧ (Ext w W)) (fun (s3 : Nat × Value) => 8 - s3.1) (0, .slice a7 ((t ++ 128 :: List.replicate (fillN t.length) 0).length) c7) ⟨rfl, rfl, rfl, trivial⟩ ⟨(Nat.zero_le _), (by rw [List.take_zero, List.append_nil]; exact h7), hl0, hne0, hc0, xx2⟩ fun s3 X3 V3 hI3 => ?_
      obtain ⟨j, u⟩ := s3
      obtain ⟨hj, hu, hl, hne, hcl, xx3⟩ := hI3
      replace hj : j ≤ 8 := hj
      replace hu : OwnN .u8 5 w.heap.size (t ++ 128 :: List.replicate (fillN t.length) 0 ++ (be8 (8 * t.length)).take j) u V3 := hu
      replace hl : g9 < V3.heap.size := hl
      replace hne : u.ownBlock ≠ some g9 := hne
      replace hcl : ∀ i, i < (leP t.length 8).length → V3.cell? ⟨g9, o9 + i, none⟩ = some (.int .u8 (nth (leP t.length 8) i)) := hcl
      replace xx3 : Ext w V3 := xx3
      refine wp_seq_k fun K36 hK36 => ?_
      refine wp_seq_k fun K37 hK37 => ?_
      refine region_lit ?_
      refine seq_val (.int .i64 ((7 : Int) - ((j : Nat) : Int))) 50 rfl kj kj ?_
      refine seq_val (.bool (decide (j < 8))) 51 rfl kj (run_eq (u := .bool (decide (((7 : Int) - ((j : Nat) : Int)) ≥ 0))) kj (congrArg Value.bool (ge_test j hj))) ?_
      refine seq_nil ?_
      refine hK37 _ _ ?_
      try clear hK37 K37
      refine cond_split (t := decide (j < 8)) kj (fun c38 => ?_) (fun c38 => ?_)
      · skip
        have hlt51 : j < 8 := by have := of_decide_eq_true c38; omega
        refine wp_skip ?_
        refine hK36 _ _ ?_
        try clear hK36 K36
        refine wp_seq_k fun K39 hK39 => ?_
        refine wp_block ?_
        refine region_lit ?_
        refine seq_val (u) 54 rfl kj kj ?_
        refine seq_val (.slice a9 ((leP t.length 8).length) c9) 55 rfl kj kj ?_
        refine seq_val (.int .i64 ((7 : Int) - ((j : Nat) : Int))) 56 rfl kj kj ?_
        refine seq_val (.pointer (some ⟨g9, o9 + (7 - j), none⟩)) 57 rfl kj (run_indexA 22 _ _ .i64 (7 - j) g9 o9 (leP t.length 8).length c9 5 a9 ((7 : Int) - ((j : Nat) : Int)) ha9 (by omega) rfl kj kj kj kj (by rw [leP_len]; omega)) ?_
        refine seq_val (.int .u8 (nth (be8 (8 * t.length)) j)) 58 rfl kj (run_loadCell 5 _ _ (.int .u8 (nth (be8 (8 * t.length)) j)) ((hcl (7 - j) (by rw [leP_len]; omega)).trans (congrArg (fun z => some (Value.int .u8 z)) (le_be _ j hlt51))) rfl kj kj) ?_
        refine seq_makeS (ints .u8 ([(nth (be8 (8 * t.length)) j)])) 5 1 59 rfl kj kj fun g40 W9 l40 e9 r40_9 => ?_
        have x9 : Ext w W9 := Ext.tr xx3 e9
        have b40 : w.heap.size ≤ g40 := Nat.le_trans xx3.size l40
        have hl4 := Nat.lt_of_lt_of_le hl e9.size
        have hb4 := e9.block g9 hl
        have f41_9 := (hu.ext e9)
        have y0_9 : Ext w W9 := (Rely.Ext.trans xx3 e9)
        refine seq_appendP (k := .u8) (T := 5) (xs := t ++ 128 :: List.replicate (fillN t.length) 0 ++ (be8 (8 * t.length)).take j) (ys := [(nth (be8 (8 * t.length)) j)]) (V := w) 1 (.tmp 54) (.tmp 59) 22 rfl kj kj (by decide) 60 rfl kj kj kj f41_9 (rdK_ints (xs := [(nth (be8 (8 * t.length)) j)]) (n := 1) rfl r40_9 (row_lt r40_9) (show 1 ≤ maxLen from by decide)) hl4 hne (by simp [be8]; unfold fillN; omega) y0_9 fun z5 W10 f42 y10 l10 hP => ?_
        have x10 : Ext w W10 := Ext.low x9 l10 (Rely.Ext.refl w).size
        refine seq_val (z5) 7 rfl kj kj ?_
        refine seq_nil ?_
        refine hK39 _ _ ?_
        try clear hK39 K39
        refine region_lit ?_
        refine seq_val (.int .i64 ((7 : Int) - ((j : Nat) : Int))) 52 rfl kj kj ?_
        refine seq_val (.int .i64 ((7 : Int) - ((j + 1 : Nat) : Int))) 53 rfl kj (run_eq (u := .int .i64 (IntKind.i64.wrap (((7 : Int) - ((j : Nat) : Int)) - 1))) kj (congrArg (Value.int .i64) (dec_j j (by omega)))) ?_
        refine seq_val (.int .i64 ((7 : Int) - ((j + 1 : Nat) : Int))) 10 rfl kj kj ?_
        refine seq_nil ?_
        repeat (first | with_reducible refine goX1 ?_ | with_reducible refine goX2 ?_ | with_reducible refine goX3 ?_)
        exact goes_then ((j + 1), z5) ⟨rfl, rfl, rfl, trivial⟩ ⟨(by omega), (by rw [be_take _ _ hlt51, ← List.append_assoc]; exact f42), hP.2.1, hP.1, (fun i hi => (World.cell?_of_block (hP.2.2.trans hb4)).trans (hcl i hi)), x10⟩ (by show 8 - (j + 1) < 8 - j; omega)
      · skip
        have heq51 : j = 8 := by have := of_decide_eq_false c38; omega
        subst heq51
        refine wp_exit ?_
        refine hK34 _ _ ?_
        try clear hK34 K34
        refine wp_seq_k fun K44 hK44 => ?_
        refine region_lit ?_
        refine seq_val (u) 61 rfl kj kj ?_
        refine seq_val (u) 6 rfl kj kj ?_
        refine seq_nil ?_
        refine hK44 _ _ ?_
        try clear hK44 K44
        refine wp_ret ?_
        repeat (first | with_reducible refine goR1 ?_ | with_reducible refine goR2 ?_)
        exact (show bodyPost _ _ _ .ret _ _ from ret1 (u) rfl (res_tmp kj) ⟨_, rfl, xx3, pad_fin t ▸ hu⟩)

end Go.Proofs.YtamlhbbphnamnaaDoor.Sha
