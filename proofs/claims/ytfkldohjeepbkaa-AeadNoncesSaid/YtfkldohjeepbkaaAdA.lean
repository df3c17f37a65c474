/- Nonces: a number as eight bytes. -/
import Derived.Test.YtfkldohjeepbkaaOwnB
namespace Go.Proofs.Ytfkldohjeepbkaa.Ad
open Go Go.RowKit
open Go.Proofs.Ytfkldohjeepbkaa.Rely Go.Proofs.Ytfkldohjeepbkaa.Auto Go.Proofs.Ytfkldohjeepbkaa.Own
set_option linter.unusedVariables false

def leN (n : Int) : List Int := [n / 1 % 256, n / 256 % 256, n / 65536 % 256, n / 16777216 % 256, n / 4294967296 % 256, n / 1099511627776 % 256, n / 281474976710656 % 256, n / 72057594037927936 % 256]
theorem leN_bytes (n : Int) : AreBytes (leN n) := fun x hx => by
  simp only [leN, List.mem_cons, List.not_mem_nil, or_false] at hx
  rcases hx with h | h | h | h | h | h | h | h <;> omega
theorem shrI (n c d : Int) (h : 2 ^ min c.toNat IntKind.i64.bits = d) (hd : 0 ≤ d) : n.fdiv (2 ^ min c.toNat IntKind.i64.bits) = n / d := by rw [h]; exact Int.fdiv_eq_ediv_of_nonneg n hd
theorem wrap8 (x : Int) : IntKind.u8.wrap x = x % 256 := by
  have : IntKind.u8.wrap x = x % 2 ^ 8 := rfl
  rw [this]; rfl
theorem wrap64 (x : Int) : IntKind.u64.wrap x = x % 18446744073709551616 := by
  have : IntKind.u64.wrap x = x % 2 ^ 64 := rfl
  rw [this]; rfl
theorem remI {x : Int} (h : 0 ≤ x) : Int.tmod x 256 = x % 256 := Int.tmod_eq_emod_of_nonneg h
theorem quoI {x y : Int} (h : 0 ≤ x ∧ x < 18446744073709551616) (e : x / 256 = y) : IntKind.u64.wrap (Int.tdiv x 256) = y := by
  rw [Int.tdiv_eq_ediv_of_nonneg h.1, wrap64]; omega
section
variable {ds : List Deferred} {ops : Array Oper} {Q : Exit → Act → World → Prop} {rest : List Oper} {o : Oper} {N : Nat} {L : Env} {W : World}
theorem seq_append8 (s x : Operand) (t : TypeId) (ho : o.op = .call { callee := .builtin .append, args := #[s, x], argTypes := #[t, t] })
    (ht : Try.prog.underlying t = some (.slice 5)) (d : Nat) (hd : o.dst = some d) (hg : wantB ops o N L = some true) {base b2 g c gx cx : Nat} {cur curx : Array Value} {xs ys : List Int}
    (hs : Rely.look (envN N L) s = .slice (some ⟨g, 0, none⟩) xs.length c) (hx : Rely.look (envN N L) x = .slice (some ⟨gx, 0, none⟩) ys.length cx)
    (h : OwnAt base g c cur xs W) (hy : OwnAt b2 gx cx curx ys W) (hn : xs.length + ys.length ≤ 1000000) (h0 : 0 < xs.length + ys.length) (hbase : base ≤ W.heap.size)
    (zs : List Int) (hz : xs ++ ys = zs) (m : Nat) (hm : zs.length = m)
    (k : ∀ (g' c' : Nat) (cur' : Array Value) (W' : World), OwnAt base g' c' cur' zs W' → ExtB g W W' → (g' = g ∨ g' = W.heap.size) →
      WL Try.prog ops Q rest (actOf ds N ((d, .slice (some ⟨g', 0, none⟩) m c') :: L)) W') : WL Try.prog ops Q (o :: rest) (actOf ds N L) W := by
  obtain ⟨g', c', cur', W', h1, h2, h3, h4⟩ := append_own (ρ := Rely.look (envN N L)) (o := o) (W := W) s x t ho ht hs hx h hy hn h0 hbase
  subst hm hz
  exact seq_valw _ _ d hd hg h1 (k g' c' cur' W' h2 h3 h4)
end
set_option maxHeartbeats 4000000 in
theorem littleC (n : Int) (w : World) : Calls Try.prog 17 #[.int .i64 n] w (Gives w (OwnB w.heap.size (leN n))) := by
  refine enter 21 [(0, .int .i64 n)] Try.func17 rfl rfl (by kernel_rfl) rfl ?_
  refine wp_seq_k fun K1 hK1 => ?_
  refine region_lit ?_
  refine seq_val (.slice none 0 0) 2 rfl (by kernel_rfl) (by kernel_rfl) ?_
  refine seq_nil ?_
  refine hK1 _ _ ?_
  try clear hK1 K1
  refine wp_seq_k fun K2 hK2 => ?_
  refine region_lit ?_
  refine seq_makeS (ints .u8 (List.replicate 8 0)) 5 8 5 rfl (by kernel_rfl) (run_makeI 22 _ _ .i64 .i64 8 5 rfl (by kernel_rfl) (by kernel_rfl) (by kernel_rfl) (.inr (by kernel_rfl)) (by decide)) fun g3 W1 l3 e1 r3_1 => ?_
  have x1 : Ext w W1 := Ext.tr (Rely.Ext.refl w) e1
  have b3 : w.heap.size ≤ g3 := Nat.le_trans (Rely.Ext.refl w).size l3
  refine seq_val (.slice (some ⟨g3, 0, none⟩) 8 8) 3 rfl (by kernel_rfl) (by kernel_rfl) ?_
  refine seq_nil ?_
  refine hK2 _ _ ?_
  try clear hK2 K2
  refine wp_seq_k fun K4 hK4 => ?_
  refine wp_seq_k fun K5 hK5 => ?_
  refine region_lit ?_
  refine seq_val (.slice (some ⟨g3, 0, none⟩) 8 8) 6 rfl (by kernel_rfl) (by kernel_rfl) ?_
  refine seq_val (.int .i64 8) 7 rfl (by kernel_rfl) (by kernel_rfl) ?_
  refine seq_val (.int .i64 0) 8 rfl (by kernel_rfl) (by kernel_rfl) ?_
  refine seq_nil ?_
  refine hK5 _ _ ?_
  try clear hK5 K5
  refine wp_block ?_
  refine wp_loop_rounds 9 ?_
  show Code.wp _ _ (Exit.then (Code.rounds _ _ _ 8) _) _ _
  refine wp_seq_k fun K6 hK6 => ?_
  refine region_lit ?_
  refine seq_val (.bool true) 9 rfl (by kernel_rfl) (by kernel_rfl) ?_
  refine seq_nil ?_
  refine hK6 _ _ ?_
  try clear hK6 K6
  refine wp_seq_k fun K7 hK7 => ?_
  refine cond_true (by kernel_rfl) ?_
  refine wp_skip ?_
  refine hK7 _ _ ?_
  try clear hK7 K7
  refine wp_seq_k fun K8 hK8 => ?_
  refine wp_block ?_
  refine wp_seq_k fun K9 hK9 => ?_
  refine region_lit ?_
  refine seq_val (.int .i64 0) 10 rfl (by kernel_rfl) (by kernel_rfl) ?_
  refine seq_val (.int .i64 0) 4 rfl (by kernel_rfl) (by kernel_rfl) ?_
  refine seq_nil ?_
  refine hK9 _ _ ?_
  try clear hK9 K9
  refine region_lit ?_
  refine seq_val (.slice (some ⟨g3, 0, none⟩) 8 8) 11 rfl (by kernel_rfl) (by kernel_rfl) ?_
  refine seq_val (.int .i64 0) 12 rfl (by kernel_rfl) (by kernel_rfl) ?_
  refine seq_val (.int .i64 n) 13 rfl (by kernel_rfl) (by kernel_rfl) ?_
  refine seq_val (.int .i64 0) 14 rfl (by kernel_rfl) (by kernel_rfl) ?_
  refine seq_val (.int .i64 0) 15 rfl (by kernel_rfl) (by kernel_rfl) ?_
  refine seq_val (.int .i64 (n / 1)) 16 rfl (by kernel_rfl) (run_bin .shr _ _ _ _ .i64 .i64 _ _ _ rfl (by kernel_rfl) (by kernel_rfl) (b_shr _ _ _ _ _ _ (by decide) (shrI n 0 1 (by kernel_rfl) (by decide)))) ?_
  refine seq_val (.int .u8 (n / 1 % 256)) 17 rfl (by kernel_rfl) (run_eq (u := .int .u8 (IntKind.u8.wrap (n / 1))) (by kernel_rfl) (congrArg (Value.int .u8) (wrap8 _))) ?_
  refine seq_val (.pointer (some ⟨g3, 0, none⟩)) 18 rfl (by kernel_rfl) (run_indexS0 22 _ _ .i64 (0) g3 8 8 5 rfl (by kernel_rfl) (by kernel_rfl) (by kernel_rfl) (by kernel_rfl) (by decide)) ?_
  refine seq_store g3 _ (ints .u8 ([(n / 1 % 256), 0, 0, 0, 0, 0, 0, 0])) 5 (row_eq (b := [0, 0, 0, 0, 0, 0, 0, 0]) r3_1 rfl) rfl (by kernel_rfl) (run_storeI 5 _ _ g3 0 5 _ _ (row_eq (b := [0, 0, 0, 0, 0, 0, 0, 0]) r3_1 rfl) rfl (by kernel_rfl) (by kernel_rfl) (by kernel_rfl) (show 0 < 8 by decide)) fun W2 p2 r3_2 => ?_
  have x2 : Ext w W2 := Puts.ext p2 x1 b3
  refine seq_nil ?_
  refine hK8 _ _ ?_
  try clear hK8 K8
  refine region_lit ?_
  refine seq_val (.int .i64 1) 19 rfl (by kernel_rfl) (by kernel_rfl) ?_
  refine seq_val (.int .i64 1) 8 rfl (by kernel_rfl) (by kernel_rfl) ?_
  refine seq_nil ?_
  show Code.rounds _ _ _ 8 _ _
  show Code.wp _ _ (Exit.then (Code.rounds _ _ _ 7) _) _ _
  refine wp_seq_k fun K10 hK10 => ?_
  refine region_lit ?_
  refine seq_val (.bool true) 9 rfl (by kernel_rfl) (by kernel_rfl) ?_
  refine seq_nil ?_
  refine hK10 _ _ ?_
  try clear hK10 K10
  refine wp_seq_k fun K11 hK11 => ?_
  refine cond_true (by kernel_rfl) ?_
  refine wp_skip ?_
  refine hK11 _ _ ?_
  try clear hK11 K11
  refine wp_seq_k fun K12 hK12 => ?_
  refine wp_block ?_
  refine wp_seq_k fun K13 hK13 => ?_
  refine region_lit ?_
  refine seq_val (.int .i64 1) 10 rfl (by kernel_rfl) (by kernel_rfl) ?_
  refine seq_val (.int .i64 1) 4 rfl (by kernel_rfl) (by kernel_rfl) ?_
  refine seq_nil ?_
  refine hK13 _ _ ?_
  try clear hK13 K13
  refine region_lit ?_
  refine seq_val (.slice (some ⟨g3, 0, none⟩) 8 8) 11 rfl (by kernel_rfl) (by kernel_rfl) ?_
  refine seq_val (.int .i64 1) 12 rfl (by kernel_rfl) (by kernel_rfl) ?_
  refine seq_val (.int .i64 n) 13 rfl (by kernel_rfl) (by kernel_rfl) ?_
  refine seq_val (.int .i64 1) 14 rfl (by kernel_rfl) (by kernel_rfl) ?_
  refine seq_val (.int .i64 8) 15 rfl (by kernel_rfl) (by kernel_rfl) ?_
  refine seq_val (.int .i64 (n / 256)) 16 rfl (by kernel_rfl) (run_bin .shr _ _ _ _ .i64 .i64 _ _ _ rfl (by kernel_rfl) (by kernel_rfl) (b_shr _ _ _ _ _ _ (by decide) (shrI n 8 256 (by kernel_rfl) (by decide)))) ?_
  refine seq_val (.int .u8 (n / 256 % 256)) 17 rfl (by kernel_rfl) (run_eq (u := .int .u8 (IntKind.u8.wrap (n / 256))) (by kernel_rfl) (congrArg (Value.int .u8) (wrap8 _))) ?_
  refine seq_val (.pointer (some ⟨g3, 1, none⟩)) 18 rfl (by kernel_rfl) (run_indexS0 22 _ _ .i64 (1) g3 8 8 5 rfl (by kernel_rfl) (by kernel_rfl) (by kernel_rfl) (by kernel_rfl) (by decide)) ?_
  refine seq_store g3 _ (ints .u8 ([(n / 1 % 256), (n / 256 % 256), 0, 0, 0, 0, 0, 0])) 5 r3_2 rfl (by kernel_rfl) (run_storeI 5 _ _ g3 1 5 _ _ r3_2 rfl (by kernel_rfl) (by kernel_rfl) (by kernel_rfl) (show 1 < 8 by decide)) fun W3 p3 r3_3 => ?_
  have x3 : Ext w W3 := Puts.ext p3 x2 b3
  refine seq_nil ?_
  refine hK12 _ _ ?_
  try clear hK12 K12
  refine region_lit ?_
  refine seq_val (.int .i64 2) 19 rfl (by kernel_rfl) (by kernel_rfl) ?_
  refine seq_val (.int .i64 2) 8 rfl (by kernel_rfl) (by kernel_rfl) ?_
  refine seq_nil ?_
  show Code.rounds _ _ _ 7 _ _
  show Code.wp _ _ (Exit.then (Code.rounds _ _ _ 6) _) _ _
  refine wp_seq_k fun K14 hK14 => ?_
  refine region_lit ?_
  refine seq_val (.bool true) 9 rfl (by kernel_rfl) (by kernel_rfl) ?_
  refine seq_nil ?_
  refine hK14 _ _ ?_
  try clear hK14 K14
  refine wp_seq_k fun K15 hK15 => ?_
  refine cond_true (by kernel_rfl) ?_
  refine wp_skip ?_
  refine hK15 _ _ ?_
  try clear hK15 K15
  refine wp_seq_k fun K16 hK16 => ?_
  refine wp_block ?_
  refine wp_seq_k fun K17 hK17 => ?_
  refine region_lit ?_
  refine seq_val (.int .i64 2) 10 rfl (by kernel_rfl) (by kernel_rfl) ?_
  refine seq_val (.int .i64 2) 4 rfl (by kernel_rfl) (by kernel_rfl) ?_
  refine seq_nil ?_
  refine hK17 _ _ ?_
  try clear hK17 K17
  refine region_lit ?_
  refine seq_val (.slice (some ⟨g3, 0, none⟩) 8 8) 11 rfl (by kernel_rfl) (by kernel_rfl) ?_
  refine seq_val (.int .i64 2) 12 rfl (by kernel_rfl) (by kernel_rfl) ?_
  refine seq_val (.int .i64 n) 13 rfl (by kernel_rfl) (by kernel_rfl) ?_
  refine seq_val (.int .i64 2) 14 rfl (by kernel_rfl) (by kernel_rfl) ?_
  refine seq_val (.int .i64 16) 15 rfl (by kernel_rfl) (by kernel_rfl) ?_
  refine seq_val (.int .i64 (n / 65536)) 16 rfl (by kernel_rfl) (run_bin .shr _ _ _ _ .i64 .i64 _ _ _ rfl (by kernel_rfl) (by kernel_rfl) (b_shr _ _ _ _ _ _ (by decide) (shrI n 16 65536 (by kernel_rfl) (by decide)))) ?_
  refine seq_val (.int .u8 (n / 65536 % 256)) 17 rfl (by kernel_rfl) (run_eq (u := .int .u8 (IntKind.u8.wrap (n / 65536))) (by kernel_rfl) (congrArg (Value.int .u8) (wrap8 _))) ?_
  refine seq_val (.pointer (some ⟨g3, 2, none⟩)) 18 rfl (by kernel_rfl) (run_indexS0 22 _ _ .i64 (2) g3 8 8 5 rfl (by kernel_rfl) (by kernel_rfl) (by kernel_rfl) (by kernel_rfl) (by decide)) ?_
  refine seq_store g3 _ (ints .u8 ([(n / 1 % 256), (n / 256 % 256), (n / 65536 % 256), 0, 0, 0, 0, 0])) 5 r3_3 rfl (by kernel_rfl) (run_storeI 5 _ _ g3 2 5 _ _ r3_3 rfl (by kernel_rfl) (by kernel_rfl) (by kernel_rfl) (show 2 < 8 by decide)) fun W4 p4 r3_4 => ?_
  have x4 : Ext w W4 := Puts.ext p4 x3 b3
  refine seq_nil ?_
  refine hK16 _ _ ?_
  try clear hK16 K16
  refine region_lit ?_
  refine seq_val (.int .i64 3) 19 rfl (by kernel_rfl) (by kernel_rfl) ?_
  refine seq_val (.int .i64 3) 8 rfl (by kernel_rfl) (by kernel_rfl) ?_
  refine seq_nil ?_
  show Code.rounds _ _ _ 6 _ _
  show Code.wp _ _ (Exit.then (Code.rounds _ _ _ 5) _) _ _
  refine wp_seq_k fun K18 hK18 => ?_
  refine region_lit ?_
  refine seq_val (.bool true) 9 rfl (by kernel_rfl) (by kernel_rfl) ?_
  refine seq_nil ?_
  refine hK18 _ _ ?_
  try clear hK18 K18
  refine wp_seq_k fun K19 hK19 => ?_
  refine cond_true (by kernel_rfl) ?_
  refine wp_skip ?_
  refine hK19 _ _ ?_
  try clear hK19 K19
  refine wp_seq_k fun K20 hK20 => ?_
  refine wp_block ?_
  refine wp_seq_k fun K21 hK21 => ?_
  refine region_lit ?_
  refine seq_val (.int .i64 3) 10 rfl (by kernel_rfl) (by kernel_rfl) ?_
  refine seq_val (.int .i64 3) 4 rfl (by kernel_rfl) (by kernel_rfl) ?_
  refine seq_nil ?_
  refine hK21 _ _ ?_
  try clear hK21 K21
  refine region_lit ?_
  refine seq_val (.slice (some ⟨g3, 0, none⟩) 8 8) 11 rfl (by kernel_rfl) (by kernel_rfl) ?_
  refine seq_val (.int .i64 3) 12 rfl (by kernel_rfl) (by kernel_rfl) ?_
  refine seq_val (.int .i64 n) 13 rfl (by kernel_rfl) (by kernel_rfl) ?_
  refine seq_val (.int .i64 3) 14 rfl (by kernel_rfl) (by kernel_rfl) ?_
  refine seq_val (.int .i64 24) 15 rfl (by kernel_rfl) (by kernel_rfl) ?_
  refine seq_val (.int .i64 (n / 16777216)) 16 rfl (by kernel_rfl) (run_bin .shr _ _ _ _ .i64 .i64 _ _ _ rfl (by kernel_rfl) (by kernel_rfl) (b_shr _ _ _ _ _ _ (by decide) (shrI n 24 16777216 (by kernel_rfl) (by decide)))) ?_
  refine seq_val (.int .u8 (n / 16777216 % 256)) 17 rfl (by kernel_rfl) (run_eq (u := .int .u8 (IntKind.u8.wrap (n / 16777216))) (by kernel_rfl) (congrArg (Value.int .u8) (wrap8 _))) ?_
  refine seq_val (.pointer (some ⟨g3, 3, none⟩)) 18 rfl (by kernel_rfl) (run_indexS0 22 _ _ .i64 (3) g3 8 8 5 rfl (by kernel_rfl) (by kernel_rfl) (by kernel_rfl) (by kernel_rfl) (by decide)) ?_
  refine seq_store g3 _ (ints .u8 ([(n / 1 % 256), (n / 256 % 256), (n / 65536 % 256), (n / 16777216 % 256), 0, 0, 0, 0])) 5 r3_4 rfl (by kernel_rfl) (run_storeI 5 _ _ g3 3 5 _ _ r3_4 rfl (by kernel_rfl) (by kernel_rfl) (by kernel_rfl) (show 3 < 8 by decide)) fun W5 p5 r3_5 => ?_
  have x5 : Ext w W5 := Puts.ext p5 x4 b3
  refine seq_nil ?_
  refine hK20 _ _ ?_
  try clear hK20 K20
  refine region_lit ?_
  refine seq_val (.int .i64 4) 19 rfl (by kernel_rfl) (by kernel_rfl) ?_
  refine seq_val (.int .i64 4) 8 rfl (by kernel_rfl) (by kernel_rfl) ?_
  refine seq_nil ?_
  show Code.rounds _ _ _ 5 _ _
  show Code.wp _ _ (Exit.then (Code.rounds _ _ _ 4) _) _ _
  refine wp_seq_k fun K22 hK22 => ?_
  refine region_lit ?_
  refine seq_val (.bool true) 9 rfl (by kernel_rfl) (by kernel_rfl) ?_
  refine seq_nil ?_
  refine hK22 _ _ ?_
  try clear hK22 K22
  refine wp_seq_k fun K23 hK23 => ?_
  refine cond_true (by kernel_rfl) ?_
  refine wp_skip ?_
  refine hK23 _ _ ?_
  try clear hK23 K23
  refine wp_seq_k fun K24 hK24 => ?_
  refine wp_block ?_
  refine wp_seq_k fun K25 hK25 => ?_
  refine region_lit ?_
  refine seq_val (.int .i64 4) 10 rfl (by kernel_rfl) (by kernel_rfl) ?_
  refine seq_val (.int .i64 4) 4 rfl (by kernel_rfl) (by kernel_rfl) ?_
  refine seq_nil ?_
  refine hK25 _ _ ?_
  try clear hK25 K25
  refine region_lit ?_
  refine seq_val (.slice (some ⟨g3, 0, none⟩) 8 8) 11 rfl (by kernel_rfl) (by kernel_rfl) ?_
  refine seq_val (.int .i64 4) 12 rfl (by kernel_rfl) (by kernel_rfl) ?_
  refine seq_val (.int .i64 n) 13 rfl (by kernel_rfl) (by kernel_rfl) ?_
  refine seq_val (.int .i64 4) 14 rfl (by kernel_rfl) (by kernel_rfl) ?_
  refine seq_val (.int .i64 32) 15 rfl (by kernel_rfl) (by kernel_rfl) ?_
  refine seq_val (.int .i64 (n / 4294967296)) 16 rfl (by kernel_rfl) (run_bin .shr _ _ _ _ .i64 .i64 _ _ _ rfl (by kernel_rfl) (by kernel_rfl) (b_shr _ _ _ _ _ _ (by decide) (shrI n 32 4294967296 (by kernel_rfl) (by decide)))) ?_
  refine seq_val (.int .u8 (n / 4294967296 % 256)) 17 rfl (by kernel_rfl) (run_eq (u := .int .u8 (IntKind.u8.wrap (n / 4294967296))) (by kernel_rfl) (congrArg (Value.int .u8) (wrap8 _))) ?_
  refine seq_val (.pointer (some ⟨g3, 4, none⟩)) 18 rfl (by kernel_rfl) (run_indexS0 22 _ _ .i64 (4) g3 8 8 5 rfl (by kernel_rfl) (by kernel_rfl) (by kernel_rfl) (by kernel_rfl) (by decide)) ?_
  refine seq_store g3 _ (ints .u8 ([(n / 1 % 256), (n / 256 % 256), (n / 65536 % 256), (n / 16777216 % 256), (n / 4294967296 % 256), 0, 0, 0])) 5 r3_5 rfl (by kernel_rfl) (run_storeI 5 _ _ g3 4 5 _ _ r3_5 rfl (by kernel_rfl) (by kernel_rfl) (by kernel_rfl) (show 4 < 8 by decide)) fun W6 p6 r3_6 => ?_
  have x6 : Ext w W6 := Puts.ext p6 x5 b3
  refine seq_nil ?_
  refine hK24 _ _ ?_
  try clear hK24 K24
  refine region_lit ?_
  refine seq_val (.int .i64 5) 19 rfl (by kernel_rfl) (by kernel_rfl) ?_
  refine seq_val (.int .i64 5) 8 rfl (by kernel_rfl) (by kernel_rfl) ?_
  refine seq_nil ?_
  show Code.rounds _ _ _ 4 _ _
  show Code.wp _ _ (Exit.then (Code.rounds _ _ _ 3) _) _ _
  refine wp_seq_k fun K26 hK26 => ?_
  refine region_lit ?_
  refine seq_val (.bool true) 9 rfl (by kernel_rfl) (by kernel_rfl) ?_
  refine seq_nil ?_
  refine hK26 _ _ ?_
  try clear hK26 K26
  refine wp_seq_k fun K27 hK27 => ?_
  refine cond_true (by kernel_rfl) ?_
  refine wp_skip ?_
  refine hK27 _ _ ?_
  try clear hK27 K27
  refine wp_seq_k fun K28 hK28 => ?_
  refine wp_block ?_
  refine wp_seq_k fun K29 hK29 => ?_
  refine region_lit ?_
  refine seq_val (.int .i64 5) 10 rfl (by kernel_rfl) (by kernel_rfl) ?_
  refine seq_val (.int .i64 5) 4 rfl (by kernel_rfl) (by kernel_rfl) ?_
  refine seq_nil ?_
  refine hK29 _ _ ?_
  try clear hK29 K29
  refine region_lit ?_
  refine seq_val (.slice (some ⟨g3, 0, none⟩) 8 8) 11 rfl (by kernel_rfl) (by kernel_rfl) ?_
  refine seq_val (.int .i64 5) 12 rfl (by kernel_rfl) (by kernel_rfl) ?_
  refine seq_val (.int .i64 n) 13 rfl (by kernel_rfl) (by kernel_rfl) ?_
  refine seq_val (.int .i64 5) 14 rfl (by kernel_rfl) (by kernel_rfl) ?_
  refine seq_val (.int .i64 40) 15 rfl (by kernel_rfl) (by kernel_rfl) ?_
  refine seq_val (.int .i64 (n / 1099511627776)) 16 rfl (by kernel_rfl) (run_bin .shr _ _ _ _ .i64 .i64 _ _ _ rfl (by kernel_rfl) (by kernel_rfl) (b_shr _ _ _ _ _ _ (by decide) (shrI n 40 1099511627776 (by kernel_rfl) (by decide)))) ?_
  refine seq_val (.int .u8 (n / 1099511627776 % 256)) 17 rfl (by kernel_rfl) (run_eq (u := .int .u8 (IntKind.u8.wrap (n / 1099511627776))) (by kernel_rfl) (congrArg (Value.int .u8) (wrap8 _))) ?_
  refine seq_val (.pointer (some ⟨g3, 5, none⟩)) 18 rfl (by kernel_rfl) (run_indexS0 22 _ _ .i64 (5) g3 8 8 5 rfl (by kernel_rfl) (by kernel_rfl) (by kernel_rfl) (by kernel_rfl) (by decide)) ?_
  refine seq_store g3 _ (ints .u8 ([(n / 1 % 256), (n / 256 % 256), (n / 65536 % 256), (n / 16777216 % 256), (n / 4294967296 % 256), (n / 1099511627776 % 256), 0, 0])) 5 r3_6 rfl (by kernel_rfl) (run_storeI 5 _ _ g3 5 5 _ _ r3_6 rfl (by kernel_rfl) (by kernel_rfl) (by kernel_rfl) (show 5 < 8 by decide)) fun W7 p7 r3_7 => ?_
  have x7 : Ext w W7 := Puts.ext p7 x6 b3
  refine seq_nil ?_
  refine hK28 _ _ ?_
  try clear hK28 K28
  refine region_lit ?_
  refine seq_val (.int .i64 6) 19 rfl (by kernel_rfl) (by kernel_rfl) ?_
  refine seq_val (.int .i64 6) 8 rfl (by kernel_rfl) (by kernel_rfl) ?_
  refine seq_nil ?_
  show Code.rounds _ _ _ 3 _ _
  show Code.wp _ _ (Exit.then (Code.rounds _ _ _ 2) _) _ _
  refine wp_seq_k fun K30 hK30 => ?_
  refine region_lit ?_
  refine seq_val (.bool true) 9 rfl (by kernel_rfl) (by kernel_rfl) ?_
  refine seq_nil ?_
  refine hK30 _ _ ?_
  try clear hK30 K30
  refine wp_seq_k fun K31 hK31 => ?_
  refine cond_true (by kernel_rfl) ?_
  refine wp_skip ?_
  refine hK31 _ _ ?_
  try clear hK31 K31
  refine wp_seq_k fun K32 hK32 => ?_
  refine wp_block ?_
  refine wp_seq_k fun K33 hK33 => ?_
  refine region_lit ?_
  refine seq_val (.int .i64 6) 10 rfl (by kernel_rfl) (by kernel_rfl) ?_
  refine seq_val (.int .i64 6) 4 rfl (by kernel_rfl) (by kernel_rfl) ?_
  refine seq_nil ?_
  refine hK33 _ _ ?_
  try clear hK33 K33
  refine region_lit ?_
  refine seq_val (.slice (some ⟨g3, 0, none⟩) 8 8) 11 rfl (by kernel_rfl) (by kernel_rfl) ?_
  refine seq_val (.int .i64 6) 12 rfl (by kernel_rfl) (by kernel_rfl) ?_
  refine seq_val (.int .i64 n) 13 rfl (by kernel_rfl) (by kernel_rfl) ?_
  refine seq_val (.int .i64 6) 14 rfl (by kernel_rfl) (by kernel_rfl) ?_
  refine seq_val (.int .i64 48) 15 rfl (by kernel_rfl) (by kernel_rfl) ?_
  refine seq_val (.int .i64 (n / 281474976710656)) 16 rfl (by kernel_rfl) (run_bin .shr _ _ _ _ .i64 .i64 _ _ _ rfl (by kernel_rfl) (by kernel_rfl) (b_shr _ _ _ _ _ _ (by decide) (shrI n 48 281474976710656 (by kernel_rfl) (by decide)))) ?_
  refine seq_val (.int .u8 (n / 281474976710656 % 256)) 17 rfl (by kernel_rfl) (run_eq (u := .int .u8 (IntKind.u8.wrap (n / 281474976710656))) (by kernel_rfl) (congrArg (Value.int .u8) (wrap8 _))) ?_
  refine seq_val (.pointer (some ⟨g3, 6, none⟩)) 18 rfl (by kernel_rfl) (run_indexS0 22 _ _ .i64 (6) g3 8 8 5 rfl (by kernel_rfl) (by kernel_rfl) (by kernel_rfl) (by kernel_rfl) (by decide)) ?_
  refine seq_store g3 _ (ints .u8 ([(n / 1 % 256), (n / 256 % 256), (n / 65536 % 256), (n / 16777216 % 256), (n / 4294967296 % 256), (n / 1099511627776 % 256), (n / 281474976710656 % 256), 0])) 5 r3_7 rfl (by kernel_rfl) (run_storeI 5 _ _ g3 6 5 _ _ r3_7 rfl (by kernel_rfl) (by kernel_rfl) (by kernel_rfl) (show 6 < 8 by decide)) fun W8 p8 r3_8 => ?_
  have x8 : Ext w W8 := Puts.ext p8 x7 b3
  refine seq_nil ?_
  refine hK32 _ _ ?_
  try clear hK32 K32
  refine region_lit ?_
  refine seq_val (.int .i64 7) 19 rfl (by kernel_rfl) (by kernel_rfl) ?_
  refine seq_val (.int .i64 7) 8 rfl (by kernel_rfl) (by kernel_rfl) ?_
  refine seq_nil ?_
  show Code.rounds _ _ _ 2 _ _
  show Code.wp _ _ (Exit.then (Code.rounds _ _ _ 1) _) _ _
  refine wp_seq_k fun K34 hK34 => ?_
  refine region_lit ?_
  refine seq_val (.bool true) 9 rfl (by kernel_rfl) (by kernel_rfl) ?_
  refine seq_nil ?_
  refine hK34 _ _ ?_
  try clear hK34 K34
  refine wp_seq_k fun K35 hK35 => ?_
  refine cond_true (by kernel_rfl) ?_
  refine wp_skip ?_
  refine hK35 _ _ ?_
  try clear hK35 K35
  refine wp_seq_k fun K36 hK36 => ?_
  refine wp_block ?_
  refine wp_seq_k fun K37 hK37 => ?_
  refine region_lit ?_
  refine seq_val (.int .i64 7) 10 rfl (by kernel_rfl) (by kernel_rfl) ?_
  refine seq_val (.int .i64 7) 4 rfl (by kernel_rfl) (by kernel_rfl) ?_
  refine seq_nil ?_
  refine hK37 _ _ ?_
  try clear hK37 K37
  refine region_lit ?_
  refine seq_val (.slice (some ⟨g3, 0, none⟩) 8 8) 11 rfl (by kernel_rfl) (by kernel_rfl) ?_
  refine seq_val (.int .i64 7) 12 rfl (by kernel_rfl) (by kernel_rfl) ?_
  refine seq_val (.int .i64 n) 13 rfl (by kernel_rfl) (by kernel_rfl) ?_
  refine seq_val (.int .i64 7) 14 rfl (by kernel_rfl) (by kernel_rfl) ?_
  refine seq_val (.int .i64 56) 15 rfl (by kernel_rfl) (by kernel_rfl) ?_
  refine seq_val (.int .i64 (n / 72057594037927936)) 16 rfl (by kernel_rfl) (run_bin .shr _ _ _ _ .i64 .i64 _ _ _ rfl (by kernel_rfl) (by kernel_rfl) (b_shr _ _ _ _ _ _ (by decide) (shrI n 56 72057594037927936 (by kernel_rfl) (by decide)))) ?_
  refine seq_val (.int .u8 (n / 72057594037927936 % 256)) 17 rfl (by kernel_rfl) (run_eq (u := .int .u8 (IntKind.u8.wrap (n / 72057594037927936))) (by kernel_rfl) (congrArg (Value.int .u8) (wrap8 _))) ?_
  refine seq_val (.pointer (some ⟨g3, 7, none⟩)) 18 rfl (by kernel_rfl) (run_indexS0 22 _ _ .i64 (7) g3 8 8 5 rfl (by kernel_rfl) (by kernel_rfl) (by kernel_rfl) (by kernel_rfl) (by decide)) ?_
  refine seq_store g3 _ (ints .u8 ([(n / 1 % 256), (n / 256 % 256), (n / 65536 % 256), (n / 16777216 % 256), (n / 4294967296 % 256), (n / 1099511627776 % 256), (n / 281474976710656 % 256), (n / 72057594037927936 % 256)])) 5 r3_8 rfl (by kernel_rfl) (run_storeI 5 _ _ g3 7 5 _ _ r3_8 rfl (by kernel_rfl) (by kernel_rfl) (by kernel_rfl) (show 7 < 8 by decide)) fun W9 p9 r3_9 => ?_
  have x9 : Ext w W9 := Puts.ext p9 x8 b3
  refine seq_nil ?_
  refine hK36 _ _ ?_
  try clear hK36 K36
  refine region_lit ?_
  refine seq_val (.int .i64 8) 19 rfl (by kernel_rfl) (by kernel_rfl) ?_
  refine seq_val (.int .i64 8) 8 rfl (by kernel_rfl) (by kernel_rfl) ?_
  refine seq_nil ?_
  show Code.rounds _ _ _ 1 _ _
  show Code.wp _ _ (Exit.then (Code.rounds _ _ _ 0) _) _ _
  refine wp_seq_k fun K38 hK38 => ?_
  refine region_lit ?_
  refine seq_val (.bool false) 9 rfl (by kernel_rfl) (by kernel_rfl) ?_
  refine seq_nil ?_
  refine hK38 _ _ ?_
  try clear hK38 K38
  refine wp_seq_k fun K39 hK39 => ?_
  refine cond_false (by kernel_rfl) ?_
  refine wp_exit ?_
  refine hK4 _ _ ?_
  try clear hK4 K4
  refine wp_seq_k fun K40 hK40 => ?_
  refine region_lit ?_
  refine seq_val (.slice (some ⟨g3, 0, none⟩) 8 8) 20 rfl (by kernel_rfl) (by kernel_rfl) ?_
  refine seq_val (.slice (some ⟨g3, 0, none⟩) 8 8) 2 rfl (by kernel_rfl) (by kernel_rfl) ?_
  refine seq_nil ?_
  refine hK40 _ _ ?_
  try clear hK40 K40
  refine wp_ret ?_
  repeat (first | with_reducible refine goR1 ?_ | with_reducible refine goR2 ?_)
  exact (show bodyPost _ _ _ .ret _ _ from ret1 (.slice (some ⟨g3, 0, none⟩) 8 8) rfl (res_tmp (by kernel_rfl)) ⟨_, rfl, x9, ownB_of_row (leN n) rfl b3 r3_9 (by decide)⟩)

end Go.Proofs.Ytfkldohjeepbkaa.Ad
