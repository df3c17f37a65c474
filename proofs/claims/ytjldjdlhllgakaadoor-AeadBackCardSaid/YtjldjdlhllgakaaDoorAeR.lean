/- The reference's great numbers: digits, sums, what is trimmed. -/
import Derived.Test.YtjldjdlhllgakaaDoorAeM
namespace Go.Proofs.YtjldjdlhllgakaaDoor.Ae
open Go Go.RowKit
open Go.Proofs.YtjldjdlhllgakaaDoor.Rely Go.Proofs.YtjldjdlhllgakaaDoor.Auto Go.Proofs.YtjldjdlhllgakaaDoor.Own Go.Proofs.YtjldjdlhllgakaaDoor.Sha
set_option linter.unusedVariables false
set_option linter.unusedSimpArgs false

open Go.Proofs.YtjldjdlhllgakaaDoor.Sha Go.Proofs.YtjldjdlhllgakaaDoor.Cha
theorem lev_take_no (a : List Int) (i : Nat) (h : a.length ≤ i) : lev (a.take (i + 1)) = lev (a.take i) + 0 * p256 i := by
  rw [lev_take_ge a i h, lev_take_ge a (i + 1) (by omega)]; omega
theorem plus_step {zs a b : List Int} {c n da db : Int} {i : Nat} (hl : zs.length = i) (hv : lev zs + c * p256 i = lev (a.take i) + lev (b.take i)) (hn : n = c + da + db) (ha : lev (a.take (i + 1)) = lev (a.take i) + da * p256 i) (hb : lev (b.take (i + 1)) = lev (b.take i) + db * p256 i) :
    lev (zs ++ [n % 256]) + n / 256 * p256 (i + 1) = lev (a.take (i + 1)) + lev (b.take (i + 1)) := by
  rw [ha, hb, lev_snoc, hl, p256_succ]
  have h1 : n = 256 * (n / 256) + n % 256 := by omega
  have h2 : n * p256 i = 256 * (n / 256) * p256 i + n % 256 * p256 i := by rw [← Int.add_mul, ← h1]
  have h3 : n * p256 i = c * p256 i + da * p256 i + db * p256 i := by rw [hn, Int.add_mul, Int.add_mul]
  grind
/-- what a number's digits say of it -/
def DigR (base : Nat) (n : Int) (m : Nat) : Value → World → Prop := fun v W => ∃ zs : List Int, AreBytes zs ∧ lev zs = n ∧ zs.length ≤ m ∧ OwnN .i64 3 base zs v W
theorem digR_stable (base : Nat) (n : Int) (m : Nat) : Stable Ext (DigR base n m) := fun _ _ _ hR ⟨zs, h1, h2, h3, h4⟩ => ⟨zs, h1, h2, h3, h4.ext hR⟩
theorem take_succ (b : List Int) (i : Nat) (h : i < b.length) : b.take (i + 1) = b.take i ++ [nth b i] := by
  rw [List.take_add_one, List.getElem?_eq_getElem h]
  simp [nth, h]
set_option maxHeartbeats 4000000 in
theorem numbersC (b : List Int) (v : Value) (B : Nat) (w : World) (hb : RdK .u8 B b v w) (hl : b.length ≤ 1000000) (hbb : AreBytes b) : Calls Tryd.prog 27 #[v] w (Gives w (OwnN .i64 3 w.heap.size b)) := by
  obtain ⟨a_b, c_b, rfl, -⟩ := id hb
  refine enter 20 [(0, .slice a_b b.length c_b)] Tryd.func27 rfl rfl kj rfl ?_
  refine wp_seq_k fun K1 hK1 => ?_
  refine region_lit ?_
  refine seq_val (.slice none 0 0) 2 rfl kj kj ?_
  refine seq_nil ?_
  refine hK1 _ _ ?_
  try clear hK1 K1
  refine wp_seq_k fun K2 hK2 => ?_
  refine region_lit ?_
  refine seq_val (.slice none 0 0) 3 rfl kj kj ?_
  refine seq_nil ?_
  refine hK2 _ _ ?_
  try clear hK2 K2
  refine wp_seq_k fun K3 hK3 => ?_
  refine wp_seq_k fun K4 hK4 => ?_
  refine region_lit ?_
  refine seq_val (.int .i64 0) 4 rfl kj kj ?_
  refine seq_nil ?_
  refine hK4 _ _ ?_
  try clear hK4 K4
  refine wp_block ?_
  refine loop_auto (fun (s1 : Nat × Value) => [(0, .slice a_b b.length c_b), (3, s1.2), (4, .int .i64 ((s1.1 : Nat) : Int))]) (fun (s1 : Nat × Value) W => (s1.1 ≤ b.length) ∧ (OwnN .i64 3 w.heap.size (b.take s1.1) s1.2 W) ∧ (Ext w W) ∧ (Ext w W)) (fun (s1 : Nat × Value) => b.length - s1.1) (0, (.slice none 0 0)) ⟨rfl, rfl, rfl, trivial⟩ ⟨(Nat.zero_le _), (by rw [List.take_zero]; exact ownN_nil _ _ _ _), (Rely.Ext.refl w), (Rely.Ext.refl w)⟩ fun s1 X1 V1 hI1 => ?_
  obtain ⟨i, u⟩ := s1
  obtain ⟨hi, hu, kk1, xx1⟩ := hI1
  replace hi : i ≤ b.length := hi
  replace hu : OwnN .i64 3 w.heap.size (b.take i) u V1 := hu
  replace kk1 : Ext w V1 := kk1
  replace xx1 : Ext w V1 := xx1
  have e1 := kk1
  refine wp_seq_k fun K5 hK5 => ?_
  refine wp_seq_k fun K6 hK6 => ?_
  refine region_lit ?_
  refine seq_val (.int .i64 ((i : Nat) : Int)) 5 rfl kj kj ?_
  refine seq_val (.slice a_b b.length c_b) 6 rfl kj kj ?_
  refine seq_val (.int .i64 ((b.length : Nat) : Int)) 7 rfl kj kj ?_
  refine seq_val (.bool (decide (((i : Nat) : Int) < ((b.length : Nat) : Int)))) 8 rfl kj kj ?_
  refine seq_nil ?_
  refine hK6 _ _ ?_
  try clear hK6 K6
  refine cond_split (t := decide (((i : Nat) : Int) < ((b.length : Nat) : Int))) kj (fun c7 => ?_) (fun c7 => ?_)
  · skip
    have hlt8 : i < b.length := by have := of_decide_eq_true c7; omega
    obtain ⟨grb8, orb8, harb8, -, hlrb8, hcrb8⟩ := rdK_at (RdK.ext hb xx1) (by omega)
    have hbi := bytes_nth hbb i
    refine wp_skip ?_
    refine hK5 _ _ ?_
    try clear hK5 K5
    refine wp_seq_k fun K9 hK9 => ?_
    refine wp_block ?_
    refine region_lit ?_
    refine seq_val (u) 11 rfl kj kj ?_
    refine seq_val (.slice a_b b.length c_b) 12 rfl kj kj ?_
    refine seq_val (.int .i64 ((i : Nat) : Int)) 13 rfl kj kj ?_
    refine seq_val (.pointer (some ⟨grb8, orb8 + i, none⟩)) 14 rfl kj (run_indexA 24 _ _ .i64 i grb8 orb8 b.length c_b 5 a_b _ harb8 rfl rfl kj kj kj kj (Nat.lt_of_lt_of_eq (show i < (b).length by omega) (rfl : (b).length = (b).length).symm)) ?_
    refine seq_val (.int .u8 (nth (b) (i))) 15 rfl kj (run_loadCell 5 _ _ (.int .u8 (nth (b) (i))) (hcrb8 i (Nat.lt_of_lt_of_eq (show i < (b).length by omega) (rfl : (b).length = (b).length).symm)) rfl kj kj) ?_
    refine seq_val (.int .i64 (nth b i)) 16 rfl kj (run_eq (u := .int .i64 (IntKind.i64.wrap (nth (b) (i)))) kj (congrArg (Value.int .i64) (IntWalk.i64_in _ (by omega)))) ?_
    refine seq_makeS (ints .i64 ([(nth b i)])) 3 1 17 rfl kj kj fun g10 W2 l10 e2 r10_2 => ?_
    have x2 : Ext w W2 := Ext.tr xx1 e2
    have b10 : w.heap.size ≤ g10 := Nat.le_trans xx1.size l10
    have f11_2 := (hu.ext e2)
    have y0_2 : Ext w W2 := (Rely.Ext.trans e1 e2)
    refine seq_appendN (k := .i64) (T := 3) (xs := b.take i) (ys := [(nth b i)]) (V := w) 8 (.tmp 11) (.tmp 17) 54 rfl kj kj (by decide) 18 rfl kj kj kj f11_2 (rdK_ints (xs := [(nth b i)]) (n := 1) rfl r10_2 (row_lt r10_2) (show 1 ≤ maxLen from by decide)) (by rw [List.length_take]; show _ + 1 ≤ _; omega) y0_2 fun z1 W3 f12 y3 l3 => ?_
    have x3 : Ext w W3 := Ext.low x2 l3 (Rely.Ext.refl w).size
    refine seq_val (z1) 3 rfl kj kj ?_
    refine seq_nil ?_
    refine hK9 _ _ ?_
    try clear hK9 K9
    refine region_lit ?_
    refine seq_val (.int .i64 ((i : Nat) : Int)) 9 rfl kj kj ?_
    refine seq_val (.int .i64 ((i + 1 : Nat) : Int)) 10 rfl kj (run_eq (u := .int .i64 (IntKind.i64.wrap (((i : Nat) : Int) + 1))) kj (congrArg (Value.int .i64) (i64n _ _ (by omega) (by omega)))) ?_
    refine seq_val (.int .i64 ((i + 1 : Nat) : Int)) 4 rfl kj kj ?_
    refine seq_nil ?_
    repeat (first | with_reducible refine goX1 ?_ | with_reducible refine goX2 ?_ | with_reducible refine goX3 ?_)
    exact goes_then ((i + 1), z1) ⟨rfl, rfl, rfl, trivial⟩ ⟨(by omega), (by rw [take_succ b i hlt8]; exact f12), y3, x3⟩ (by show b.length - (i + 1) < b.length - i; omega)
  · skip
    have heq8 : i = b.length := by have := of_decide_eq_false c7; omega
    refine wp_exit ?_
    refine hK3 _ _ ?_
    try clear hK3 K3
    refine wp_seq_k fun K14 hK14 => ?_
    refine region_lit ?_
    refine seq_val (u) 19 rfl kj kj ?_
    refine seq_val (u) 2 rfl kj kj ?_
    refine seq_nil ?_
    refine hK14 _ _ ?_
    try clear hK14 K14
    refine wp_ret ?_
    repeat (first | with_reducible refine goR1 ?_ | with_reducible refine goR2 ?_)
    exact (show bodyPost _ _ _ .ret _ _ from ret1 (u) rfl (res_tmp kj) ⟨u, rfl, xx1, OwnN.base (Rely.Ext.refl w).size (by have h9 := hu; rw [heq8, List.take_length] at h9; exact h9)⟩)
set_option maxHeartbeats 4000000 in
theorem rplusC (a b : List Int) (v v2 : Value) (B B2 : Nat) (w : World) (ha : RdK .i64 B a v w) (hb : RdK .i64 B2 b v2 w) (hal : a.length ≤ 1000000) (hbl : b.length ≤ 1000000) (haa : AreBytes a) (hbb : AreBytes b) :
    Calls Tryd.prog 31 #[v, v2] w (Gives w (DigR w.heap.size (lev a + lev b) (max a.length b.length + 1))) := by
  obtain ⟨a_a, c_a, rfl, -⟩ := id ha
  obtain ⟨a_b, c_b, rfl, -⟩ := id hb
  refine enter 54 [(0, .slice a_a a.length c_a), (1, .slice a_b b.length c_b)] Tryd.func31 rfl rfl kj rfl ?_
  refine wp_seq_k fun K1 hK1 => ?_
  refine region_lit ?_
  refine seq_val (.slice none 0 0) 4 rfl kj kj ?_
  refine seq_nil ?_
  refine hK1 _ _ ?_
  try clear hK1 K1
  refine wp_seq_k fun K2 hK2 => ?_
  refine region_lit ?_
  refine seq_val (.slice none 0 0) 5 rfl kj kj ?_
  refine seq_nil ?_
  refine hK2 _ _ ?_
  try clear hK2 K2
  refine wp_seq_k fun K3 hK3 => ?_
  refine region_lit ?_
  refine seq_val (.int .i64 0) 6 rfl kj kj ?_
  refine seq_nil ?_
  refine hK3 _ _ ?_
  try clear hK3 K3
  refine wp_seq_k fun K4 hK4 => ?_
  refine wp_seq_k fun K5 hK5 => ?_
  refine region_lit ?_
  refine seq_val (.int .i64 0) 7 rfl kj kj ?_
  refine seq_nil ?_
  refine hK5 _ _ ?_
  try clear hK5 K5
  refine wp_block ?_
  refine loop_auto (fun (s1 : Nat × Int × List Int × Value) => [(0, .slice a_a a.length c_a), (1, .slice a_b b.length c_b), (5, s1.2.2.2), (6, .int .i64 (s1.2.1)), (7, .int .i64 ((s1.1 : Nat) : Int))]) (fun (s1 : Nat × Int × List Int × Value) W => (s1.2.2.1.length = s1.1) ∧ (AreBytes s1.2.2.1) ∧ (lev s1.2.2.1 + s1.2.1 * p256 s1.1 = lev (a.take s1.1) + lev (b.take s1.1)) ∧ (0 ≤ s1.2.1 ∧ s1.2.1 ≤ 1) ∧ (s1.1 ≤ max a.length b.length + 1) ∧ (s1.1 = max a.length b.length + 1 → s1.2.1 = 0) ∧ (OwnN .i64 3 w.heap.size s1.2.2.1 s1.2.2.2 W) ∧ (Ext w W) ∧ (Ext w W)) (fun (s1 : Nat × Int × List Int × Value) => max a.length b.length + 1 - s1.1) (0, 0, [], (.slice none 0 0)) ⟨rfl, rfl, rfl, rfl, rfl, trivial⟩ ⟨rfl, (fun x hx => by cases hx), (by simp [lev]), ⟨Int.le_refl _, by decide⟩, (Nat.zero_le _), (fun _ => rfl), (ownN_nil _ _ _ _), (Rely.Ext.refl w), (Rely.Ext.refl w)⟩ fun s1 X1 V1 hI1 => ?_
  obtain ⟨i, c, zs, u⟩ := s1
  obtain ⟨hzl, hzb, hv, hc, him, hm0, hu, kk1, xx1⟩ := hI1
  replace hzl : zs.length = i := hzl
  replace hzb : AreBytes zs := hzb
  replace hv : lev zs + c * p256 i = lev (a.take i) + lev (b.take i) := hv
  replace hc : 0 ≤ c ∧ c ≤ 1 := hc
  replace him : i ≤ max a.length b.length + 1 := him
  replace hm0 : i = max a.length b.length + 1 → c = 0 := hm0
  replace hu : OwnN .i64 3 w.heap.size zs u V1 := hu
  replace kk1 : Ext w V1 := kk1
  replace xx1 : Ext w V1 := xx1
  have e1 := kk1
  refine wp_seq_k fun K6 hK6 => ?_
  refine wp_seq_k fun K7 hK7 => ?_
  rcases (show i < a.length ∨ (a.length ≤ i ∧ i < b.length) ∨ (a.length ≤ i ∧ b.length ≤ i ∧ 0 < c) ∨ (a.length ≤ i ∧ b.length ≤ i ∧ ¬ 0 < c) by omega) with hq | hq | hq | hq
  · skip
    have hia : i < a.length := hq
    have hai := bytes_nth haa i
    refine region_lit ?_
    refine seq_val (.int .i64 ((i : Nat) : Int)) 9 rfl kj kj ?_
    refine seq_val (.slice a_a a.length c_a) 10 rfl kj kj ?_
    refine seq_val (.int .i64 ((a.length : Nat) : Int)) 11 rfl kj kj ?_
    refine seq_val (.bool true) 12 rfl kj (run_eq (u := .bool (decide (((i : Nat) : Int) < ((a.length : Nat) : Int)))) kj (congrArg Value.bool (decide_eq_true (by omega)))) ?_
    refine seq_val (.bool true) 13 rfl kj kj ?_
    refine seq_skip 14 rfl kj ?_
    refine seq_skip 15 rfl kj ?_
    refine seq_skip 16 rfl kj ?_
    refine seq_skip 17 rfl kj ?_
    refine seq_val (.bool true) 18 rfl kj kj ?_
    refine seq_val (.bool true) 19 rfl kj kj ?_
    refine seq_skip 20 rfl kj ?_
    refine seq_skip 21 rfl kj ?_
    refine seq_val (.bool true) 22 rfl kj kj ?_
    refine seq_nil ?_
    refine hK7 _ _ ?_
    try clear hK7 K7
    refine cond_true kj ?_
    refine wp_skip ?_
    refine hK6 _ _ ?_
    try clear hK6 K6
    refine wp_seq_k fun K8 hK8 => ?_
    refine wp_block ?_
    refine wp_seq_k fun K9 hK9 => ?_
    refine region_lit ?_
    refine seq_val (.int .i64 (c)) 25 rfl kj kj ?_
    refine seq_val (.int .i64 (c)) 8 rfl kj kj ?_
    refine seq_nil ?_
    refine hK9 _ _ ?_
    try clear hK9 K9
    refine wp_seq_k fun K10 hK10 => ?_
    refine wp_seq_k fun K11 hK11 => ?_
    refine region_lit ?_
    refine seq_val (.int .i64 ((i : Nat) : Int)) 26 rfl kj kj ?_
    refine seq_val (.slice a_a a.length c_a) 27 rfl kj kj ?_
    refine seq_val (.int .i64 ((a.length : Nat) : Int)) 28 rfl kj kj ?_
    refine seq_val (.bool true) 29 rfl kj (run_eq (u := .bool (decide (((i : Nat) : Int) < ((a.length : Nat) : Int)))) kj (congrArg Value.bool (decide_eq_true (by omega)))) ?_
    refine seq_nil ?_
    refine hK11 _ _ ?_
    try clear hK11 K11
    refine cond_true kj ?_
    refine region_lit ?_
    refine seq_val (.int .i64 (c)) 30 rfl kj kj ?_
    obtain ⟨gra12, ora12, hara12, -, hlra12, hcra12⟩ := rdK_at (RdK.ext ha xx1) (by omega)
    refine seq_val (.slice a_a a.length c_a) 31 rfl kj kj ?_
    refine seq_val (.int .i64 ((i : Nat) : Int)) 32 rfl kj kj ?_
    refine seq_val (.pointer (some ⟨gra12, ora12 + i, none⟩)) 33 rfl kj (run_indexA 54 _ _ .i64 i gra12 ora12 a.length c_a 3 a_a _ hara12 rfl rfl kj kj kj kj (Nat.lt_of_lt_of_eq (show i < (a).length by omega) (rfl : (a).length = (a).length).symm)) ?_
    refine seq_val (.int .i64 (nth (a) (i))) 34 rfl kj (run_loadCell 3 _ _ (.int .i64 (nth (a) (i))) (hcra12 i (Nat.lt_of_lt_of_eq (show i < (a).length by omega) (rfl : (a).length = (a).length).symm)) rfl kj kj) ?_
    refine seq_val (.int .i64 (c + nth (a) (i))) 35 rfl kj (run_eq (u := .int .i64 (IntKind.i64.wrap (c + (nth (a) (i))))) kj (congrArg (Value.int .i64) (IntWalk.i64_in _ (by omega)))) ?_
    refine seq_val (.int .i64 (c + nth (a) (i))) 8 rfl kj kj ?_
    refine seq_nil ?_
    refine hK10 _ _ ?_
    try clear hK10 K10
    refine wp_seq_k fun K13 hK13 => ?_
    refine wp_seq_k fun K14 hK14 => ?_
    refine region_lit ?_
    refine seq_val (.int .i64 ((i : Nat) : Int)) 36 rfl kj kj ?_
    refine seq_val (.slice a_b b.length c_b) 37 rfl kj kj ?_
    refine seq_val (.int .i64 ((b.length : Nat) : Int)) 38 rfl kj kj ?_
    refine seq_val (.bool (decide (((i : Nat) : Int) < ((b.length : Nat) : Int)))) 39 rfl kj kj ?_
    refine seq_nil ?_
    refine hK14 _ _ ?_
    try clear hK14 K14
    refine cond_split (t := decide (((i : Nat) : Int) < ((b.length : Nat) : Int))) kj (fun c15 => ?_) (fun c15 => ?_)
    · skip
      have hib : i < b.length := by have := of_decide_eq_true c15; omega
      have hbi := bytes_nth hbb i
      refine region_lit ?_
      refine seq_val (.int .i64 (c + nth (a) (i))) 40 rfl kj kj ?_
      obtain ⟨grb16, orb16, harb16, -, hlrb16, hcrb16⟩ := rdK_at (RdK.ext hb xx1) (by omega)
      refine seq_val (.slice a_b b.length c_b) 41 rfl kj kj ?_
      refine seq_val (.int .i64 ((i : Nat) : Int)) 42 rfl kj kj ?_
      refine seq_val (.pointer (some ⟨grb16, orb16 + i, none⟩)) 43 rfl kj (run_indexA 54 _ _ .i64 i grb16 orb16 b.length c_b 3 a_b _ harb16 rfl rfl kj kj kj kj (Nat.lt_of_lt_of_eq (show i < (b).length by omega) (rfl : (b).length = (b).length).symm)) ?_
      refine seq_val (.int .i64 (nth (b) (i))) 44 rfl kj (run_loadCell 3 _ _ (.int .i64 (nth (b) (i))) (hcrb16 i (Nat.lt_of_lt_of_eq (show i < (b).length by omega) (rfl : (b).length = (b).length).symm)) rfl kj kj) ?_
      refine seq_val (.int .i64 (c + nth (a) (i) + nth (b) (i))) 45 rfl kj (run_eq (u := .int .i64 (IntKind.i64.wrap ((c + nth (a) (i)) + (nth (b) (i))))) kj (congrArg (Value.int .i64) (IntWalk.i64_in _ (by omega)))) ?_
      refine seq_val (.int .i64 (c + nth (a) (i) + nth (b) (i))) 8 rfl kj kj ?_
      refine seq_nil ?_
      refine hK13 _ _ ?_
      try clear hK13 K13
      refine wp_seq_k fun K17 hK17 => ?_
      refine region_lit ?_
      refine seq_val (u) 46 rfl kj kj ?_
      refine seq_val (.int .i64 (c + nth (a) (i) + nth (b) (i))) 47 rfl kj kj ?_
      refine seq_val (.int .i64 ((c + nth (a) (i) + nth (b) (i)) % 256)) 48 rfl kj (run_eq (u := .int .i64 (Int.tmod ((c + nth (a) (i) + nth (b) (i))) (256))) kj (congrArg (Value.int .i64) (show Int.tmod (c + nth (a) (i) + nth (b) (i)) 256 = (c + nth (a) (i) + nth (b) (i)) % 256 from Int.tmod_eq_emod_of_nonneg (by omega)))) ?_
      refine seq_makeS (ints .i64 ([((c + nth (a) (i) + nth (b) (i)) % 256)])) 3 1 49 rfl kj kj fun g18 W2 l18 e2 r18_2 => ?_
      have x2 : Ext w W2 := Ext.tr xx1 e2
      have b18 : w.heap.size ≤ g18 := Nat.le_trans xx1.size l18
      have f19_2 := (hu.ext e2)
      have y0_2 : Ext w W2 := (Rely.Ext.trans e1 e2)
      refine seq_appendN (k := .i64) (T := 3) (xs := zs) (ys := [((c + nth (a) (i) + nth (b) (i)) % 256)]) (V := w) 8 (.tmp 46) (.tmp 49) 54 rfl kj kj (by decide) 50 rfl kj kj kj f19_2 (rdK_ints (xs := [((c + nth (a) (i) + nth (b) (i)) % 256)]) (n := 1) rfl r18_2 (row_lt r18_2) (show 1 ≤ maxLen from by decide)) (by show zs.length + 1 ≤ _; omega) y0_2 fun z1 W3 f20 y3 l3 => ?_
      have x3 : Ext w W3 := Ext.low x2 l3 (Rely.Ext.refl w).size
      refine seq_val (z1) 5 rfl kj kj ?_
      refine seq_nil ?_
      refine hK17 _ _ ?_
      try clear hK17 K17
      refine region_lit ?_
      refine seq_val (.int .i64 (c + nth (a) (i) + nth (b) (i))) 51 rfl kj kj ?_
      refine seq_val (.int .i64 ((c + nth (a) (i) + nth (b) (i)) / 256)) 52 rfl kj (run_eq (u := .int .i64 (IntKind.i64.wrap (Int.tdiv ((c + nth (a) (i) + nth (b) (i))) (256)))) kj (congrArg (Value.int .i64) (by rw [show Int.tdiv (c + nth (a) (i) + nth (b) (i)) 256 = (c + nth (a) (i) + nth (b) (i)) / 256 from Int.tdiv_eq_ediv_of_nonneg (by omega)]; exact IntWalk.i64_in _ (by omega)))) ?_
      refine seq_val (.int .i64 ((c + nth (a) (i) + nth (b) (i)) / 256)) 6 rfl kj kj ?_
      refine seq_nil ?_
      refine hK8 _ _ ?_
      try clear hK8 K8
      refine region_lit ?_
      refine seq_val (.int .i64 ((i : Nat) : Int)) 23 rfl kj kj ?_
      refine seq_val (.int .i64 ((i + 1 : Nat) : Int)) 24 rfl kj (run_eq (u := .int .i64 (IntKind.i64.wrap (((i : Nat) : Int) + 1))) kj (congrArg (Value.int .i64) (i64n _ _ (by omega) (by omega)))) ?_
      refine seq_val (.int .i64 ((i + 1 : Nat) : Int)) 7 rfl kj kj ?_
      refine seq_nil ?_
      repeat (first | with_reducible refine goX1 ?_ | with_reducible refine goX2 ?_ | with_reducible refine goX3 ?_)
      exact goes_then ((i + 1), ((c + nth (a) (i) + nth (b) (i)) / 256), (zs ++ [(c + nth (a) (i) + nth (b) (i)) % 256]), z1) ⟨rfl, rfl, rfl, rfl, rfl, trivial⟩ ⟨(by rw [List.length_append, hzl]; rfl), (bytes_app hzb (bytes_one (by omega) (by omega))), (plus_step (c := c) (n := c + nth (a) (i) + nth (b) (i)) (da := nth a i) (db := nth b i) hzl hv (by omega) (lev_take_succ a i hia) (lev_take_succ b i hib)), (show 0 ≤ (c + nth (a) (i) + nth (b) (i)) / 256 ∧ (c + nth (a) (i) + nth (b) (i)) / 256 ≤ 1 by omega), (show i + 1 ≤ max a.length b.length + 1 by omega), (show i + 1 = max a.length b.length + 1 → (c + nth (a) (i) + nth (b) (i)) / 256 = 0 by intro h8; omega), f20, y3, x3⟩ (by show max a.length b.length + 1 - (i + 1) < max a.length b.length + 1 - i; omega)
    · skip
      have hnb : b.length ≤ i := by have := of_decide_eq_false c15; omega
      refine wp_skip ?_
      refine hK13 _ _ ?_
      try clear hK13 K13
      refine wp_seq_k fun K22 hK22 => ?_
      refine region_lit ?_
      refine seq_val (u) 46 rfl kj kj ?_
      refine seq_val (.int .i64 (c + nth (a) (i))) 47 rfl kj kj ?_
      refine seq_val (.int .i64 ((c + nth (a) (i)) % 256)) 48 rfl kj (run_eq (u := .int .i64 (Int.tmod ((c + nth (a) (i))) (256))) kj (congrArg (Value.int .i64) (show Int.tmod (c + nth (a) (i)) 256 = (c + nth (a) (i)) % 256 from Int.tmod_eq_emod_of_nonneg (by omega)))) ?_
      refine seq_makeS (ints .i64 ([((c + nth (a) (i)) % 256)])) 3 1 49 rfl kj kj fun g23 W2 l23 e2 r23_2 => ?_
      have x2 : Ext w W2 := Ext.tr xx1 e2
      have b23 : w.heap.size ≤ g23 := Nat.le_trans xx1.size l23
      have f24_2 := (hu.ext e2)
      have y0_2 : Ext w W2 := (Rely.Ext.trans e1 e2)
      refine seq_appendN (k := .i64) (T := 3) (xs := zs) (ys := [((c + nth (a) (i)) % 256)]) (V := w) 8 (.tmp 46) (.tmp 49) 54 rfl kj kj (by decide) 50 rfl kj kj kj f24_2 (rdK_ints (xs := [((c + nth (a) (i)) % 256)]) (n := 1) rfl r23_2 (row_lt r23_2) (show 1 ≤ maxLen from by decide)) (by show zs.length + 1 ≤ _; omega) y0_2 fun z2 W3 f25 y3 l3 => ?_
      have x3 : Ext w W3 := Ext.low x2 l3 (Rely.Ext.refl w).size
      refine seq_val (z2) 5 rfl kj kj ?_
      refine seq_nil ?_
      refine hK22 _ _ ?_
      try clear hK22 K22
      refine region_lit ?_
      refine seq_val (.int .i64 (c + nth (a) (i))) 51 rfl kj kj ?_
      refine seq_val (.int .i64 ((c + nth (a) (i)) / 256)) 52 rfl kj (run_eq (u := .int .i64 (IntKind.i64.wrap (Int.tdiv ((c + nth (a) (i))) (256)))) kj (congrArg (Value.int .i64) (by rw [show Int.tdiv (c + nth (a) (i)) 256 = (c + nth (a) (i)) / 256 from Int.tdiv_eq_ediv_of_nonneg (by omega)]; exact IntWalk.i64_in _ (by omega)))) ?_
      refine seq_val (.int .i64 ((c + nth (a) (i)) / 256)) 6 rfl kj kj ?_
      refine seq_nil ?_
      refine hK8 _ _ ?_
      try clear hK8 K8
      refine region_lit ?_
      refine seq_val (.int .i64 ((i : Nat) : Int)) 23 rfl kj kj ?_
      refine seq_val (.int .i64 ((i + 1 : Nat) : Int)) 24 rfl kj (run_eq (u := .int .i64 (IntKind.i64.wrap (((i : Nat) : Int) + 1))) kj (congrArg (Value.int .i64) (i64n _ _ (by omega) (by omega)))) ?_
      refine seq_val (.int .i64 ((i + 1 : Nat) : Int)) 7 rfl kj kj ?_
      refine seq_nil ?_
      repeat (first | with_reducible refine goX1 ?_ | with_reducible refine goX2 ?_ | with_reducible refine goX3 ?_)
      exact goes_then ((i + 1), ((c + nth (a) (i)) / 256), (zs ++ [(c + nth (a) (i)) % 256]), z2) ⟨rfl, rfl, rfl, rfl, rfl, trivial⟩ ⟨(by rw [List.length_append, hzl]; rfl), (bytes_app hzb (bytes_one (by omega) (by omega))), (plus_step (c := c) (n := c + nth (a) (i)) (da := nth a i) (db := 0) hzl hv (by omega) (lev_take_succ a i hia) (lev_take_no b i hnb)), (show 0 ≤ (c + nth (a) (i)) / 256 ∧ (c + nth (a) (i)) / 256 ≤ 1 by omega), (show i + 1 ≤ max a.length b.length + 1 by omega), (show i + 1 = max a.length b.length + 1 → (c + nth (a) (i)) / 256 = 0 by intro h8; omega), f25, y3, x3⟩ (by show max a.length b.length + 1 - (i + 1) < max a.length b.length + 1 - i; omega)
  · skip
    have hna : a.length ≤ i := hq.1
    have hib : i < b.length := hq.2
    have hbi := bytes_nth hbb i
    refine region_lit ?_
    refine seq_val (.int .i64 ((i : Nat) : Int)) 9 rfl kj kj ?_
    refine seq_val (.slice a_a a.length c_a) 10 rfl kj kj ?_
    refine seq_val (.int .i64 ((a.length : Nat) : Int)) 11 rfl kj kj ?_
    refine seq_val (.bool false) 12 rfl kj (run_eq (u := .bool (decide (((i : Nat) : Int) < ((a.length : Nat) : Int)))) kj (congrArg Value.bool (decide_eq_false (by omega)))) ?_
    refine seq_val (.bool false) 13 rfl kj kj ?_
    refine seq_val (.int .i64 ((i : Nat) : Int)) 14 rfl kj kj ?_
    refine seq_val (.slice a_b b.length c_b) 15 rfl kj kj ?_
    refine seq_val (.int .i64 ((b.length : Nat) : Int)) 16 rfl kj kj ?_
    refine seq_val (.bool true) 17 rfl kj (run_eq (u := .bool (decide (((i : Nat) : Int) < ((b.length : Nat) : Int)))) kj (congrArg Value.bool (decide_eq_true (by omega)))) ?_
    refine seq_val (.bool true) 18 rfl kj kj ?_
    refine seq_val (.bool true) 19 rfl kj kj ?_
    refine seq_skip 20 rfl kj ?_
    refine seq_skip 21 rfl kj ?_
    refine seq_val (.bool true) 22 rfl kj kj ?_
    refine seq_nil ?_
    refine hK7 _ _ ?_
    try clear hK7 K7
    refine cond_true kj ?_
    refine wp_skip ?_
    refine hK6 _ _ ?_
    try clear hK6 K6
    refine wp_seq_k fun K27 hK27 => ?_
    refine wp_block ?_
    refine wp_seq_k fun K28 hK28 => ?_
    refine region_lit ?_
    refine seq_val (.int .i64 (c)) 25 rfl kj kj ?_
    refine seq_val (.int .i64 (c)) 8 rfl kj kj ?_
    refine seq_nil ?_
    refine hK28 _ _ ?_
    try clear hK28 K28
    refine wp_seq_k fun K29 hK29 => ?_
    refine wp_seq_k fun K30 hK30 => ?_
    refine region_lit ?_
    refine seq_val (.int .i64 ((i : Nat) : Int)) 26 rfl kj kj ?_
    refine seq_val (.slice a_a a.length c_a) 27 rfl kj kj ?_
    refine seq_val (.int .i64 ((a.length : Nat) : Int)) 28 rfl kj kj ?_
    refine seq_val (.bool false) 29 rfl kj (run_eq (u := .bool (decide (((i : Nat) : Int) < ((a.length : Nat) : Int)))) kj (congrArg Value.bool (decide_eq_false (by omega)))) ?_
    refine seq_nil ?_
    refine hK30 _ _ ?_
    try clear hK30 K30
    refine cond_false kj ?_
    refine wp_skip ?_
    refine hK29 _ _ ?_
    try clear hK29 K29
    refine wp_seq_k fun K31 hK31 => ?_
    refine wp_seq_k fun K32 hK32 => ?_
    refine region_lit ?_
    refine seq_val (.int .i64 ((i : Nat) : Int)) 36 rfl kj kj ?_
    refine seq_val (.slice a_b b.length c_b) 37 rfl kj kj ?_
    refine seq_val (.int .i64 ((b.length : Nat) : Int)) 38 rfl kj kj ?_
    refine seq_val (.bool true) 39 rfl kj (run_eq (u := .bool (decide (((i : Nat) : Int) < ((b.length : Nat) : Int)))) kj (congrArg Value.bool (decide_eq_true (by omega)))) ?_
    refine seq_nil ?_
    refine hK32 _ _ ?_
    try clear hK32 K32
    refine cond_true kj ?_
    refine region_lit ?_
    refine seq_val (.int .i64 (c)) 40 rfl kj kj ?_
    obtain ⟨grb33, orb33, harb33, -, hlrb33, hcrb33⟩ := rdK_at (RdK.ext hb xx1) (by omega)
    refine seq_val (.slice a_b b.length c_b) 41 rfl kj kj ?_
    refine seq_val (.int .i64 ((i : Nat) : Int)) 42 rfl kj kj ?_
    refine seq_val (.pointer (some ⟨grb33, orb33 + i, none⟩)) 43 rfl kj (run_indexA 54 _ _ .i64 i grb33 orb33 b.length c_b 3 a_b _ harb33 rfl rfl kj kj kj kj (Nat.lt_of_lt_of_eq (show i < (b).length by omega) (rfl : (b).length = (b).length).symm)) ?_
    refine seq_val (.int .i64 (nth (b) (i))) 44 rfl kj (run_loadCell 3 _ _ (.int .i64 (nth (b) (i))) (hcrb33 i (Nat.lt_of_lt_of_eq (show i < (b).length by omega) (rfl : (b).length = (b).length).symm)) rfl kj kj) ?_
    refine seq_val (.int .i64 (c + nth (b) (i))) 45 rfl kj (run_eq (u := .int .i64 (IntKind.i64.wrap (c + (nth (b) (i))))) kj (congrArg (Value.int .i64) (IntWalk.i64_in _ (by omega)))) ?_
    refine seq_val (.int .i64 (c + nth (b) (i))) 8 rfl kj kj ?_
    refine seq_nil ?_
    refine hK31 _ _ ?_
    try clear hK31 K31
    refine wp_seq_k fun K34 hK34 => ?_
    refine region_lit ?_
    refine seq_val (u) 46 rfl kj kj ?_
    refine seq_val (.int .i64 (c + nth (b) (i))) 47 rfl kj kj ?_
    refine seq_val (.int .i64 ((c + nth (b) (i)) % 256)) 48 rfl kj (run_eq (u := .int .i64 (Int.tmod ((c + nth (b) (i))) (256))) kj (congrArg (Value.int .i64) (show Int.tmod (c + nth (b) (i)) 256 = (c + nth (b) (i)) % 256 from Int.tmod_eq_emod_of_nonneg (by omega)))) ?_
    refine seq_makeS (ints .i64 ([((c + nth (b) (i)) % 256)])) 3 1 49 rfl kj kj fun g35 W2 l35 e2 r35_2 => ?_
    have x2 : Ext w W2 := Ext.tr xx1 e2
    have b35 : w.heap.size ≤ g35 := Nat.le_trans xx1.size l35
    have f36_2 := (hu.ext e2)
    have y0_2 : Ext w W2 := (Rely.Ext.trans e1 e2)
    refine seq_appendN (k := .i64) (T := 3) (xs := zs) (ys := [((c + nth (b) (i)) % 256)]) (V := w) 8 (.tmp 46) (.tmp 49) 54 rfl kj kj (by decide) 50 rfl kj kj kj f36_2 (rdK_ints (xs := [((c + nth (b) (i)) % 256)]) (n := 1) rfl r35_2 (row_lt r35_2) (show 1 ≤ maxLen from by decide)) (by show zs.length + 1 ≤ _; omega) y0_2 fun z3 W3 f37 y3 l3 => ?_
    have x3 : Ext w W3 := Ext.low x2 l3 (Rely.Ext.refl w).size
    refine seq_val (z3) 5 rfl kj kj ?_
    refine seq_nil ?_
    refine hK34 _ _ ?_
    try clear hK34 K34
    refine region_lit ?_
    refine seq_val (.int .i64 (c + nth (b) (i))) 51 rfl kj kj ?_
    refine seq_val (.int .i64 ((c + nth (b) (i)) / 256)) 52 rfl kj (run_eq (u := .int .i64 (IntKind.i64.wrap (Int.tdiv ((c + nth (b) (i))) (256)))) kj (congrArg (Value.int .i64) (by rw [show Int.tdiv (c + nth (b) (i)) 256 = (c + nth (b) (i)) / 256 from Int.tdiv_eq_ediv_of_nonneg (by omega)]; exact IntWalk.i64_in _ (by omega)))) ?_
    refine seq_val (.int .i64 ((c + nth (b) (i)) / 256)) 6 rfl kj kj ?_
    refine seq_nil ?_
    refine hK27 _ _ ?_
    try clear hK27 K27
    refine region_lit ?_
    refine seq_val (.int .i64 ((i : Nat) : Int)) 23 rfl kj kj ?_
    refine seq_val (.int .i64 ((i + 1 : Nat) : Int)) 24 rfl kj (run_eq (u := .int .i64 (IntKind.i64.wrap (((i : Nat) : Int) + 1))) kj (congrArg (Value.int .i64) (i64n _ _ (by omega) (by omega)))) ?_
    refine seq_val (.int .i64 ((i + 1 : Nat) : Int)) 7 rfl kj kj ?_
    refine seq_nil ?_
    repeat (first | with_reducible refine goX1 ?_ | with_reducible refine goX2 ?_ | with_reducible refine goX3 ?_)
    exact goes_then ((i + 1), ((c + nth (b) (i)) / 256), (zs ++ [(c + nth (b) (i)) % 256]), z3) ⟨rfl, rfl, rfl, rfl, rfl, trivial⟩ ⟨(by rw [List.length_append, hzl]; rfl), (bytes_app hzb (bytes_one (by omega) (by omega))), (plus_step (c := c) (n := c + nth (b) (i)) (da := 0) (db := nth b i) hzl hv (by omega) (lev_take_no a i hna) (lev_take_succ b i hib)), (show 0 ≤ (c + nth (b) (i)) / 256 ∧ (c + nth (b) (i)) / 256 ≤ 1 by omega), (show i + 1 ≤ max a.length b.length + 1 by omega), (show i + 1 = max a.length b.length + 1 → (c + nth (b) (i)) / 256 = 0 by intro h8; omega), f37, y3, x3⟩ (by show max a.length b.length + 1 - (i + 1) < max a.length b.length + 1 - i; omega)
  · skip
    have hna : a.length ≤ i := hq.1
    have hnb : b.length ≤ i := hq.2.1
    have hc0 : 0 < c := hq.2.2
    refine region_lit ?_
    refine seq_val (.int .i64 ((i : Nat) : Int)) 9 rfl kj kj ?_
    refine seq_val (.slice a_a a.length c_a) 10 rfl kj kj ?_
    refine seq_val (.int .i64 ((a.length : Nat) : Int)) 11 rfl kj kj ?_
    refine seq_val (.bool false) 12 rfl kj (run_eq (u := .bool (decide (((i : Nat) : Int) < ((a.length : Nat) : Int)))) kj (congrArg Value.bool (decide_eq_false (by omega)))) ?_
    refine seq_val (.bool false) 13 rfl kj kj ?_
    refine seq_val (.int .i64 ((i : Nat) : Int)) 14 rfl kj kj ?_
    refine seq_val (.slice a_b b.length c_b) 15 rfl kj kj ?_
    refine seq_val (.int .i64 ((b.length : Nat) : Int)) 16 rfl kj kj ?_
    refine seq_val (.bool false) 17 rfl kj (run_eq (u := .bool (decide (((i : Nat) : Int) < ((b.length : Nat) : Int)))) kj (congrArg Value.bool (decide_eq_false (by omega)))) ?_
    refine seq_val (.bool false) 18 rfl kj kj ?_
    refine seq_val (.bool false) 19 rfl kj kj ?_
    refine seq_val (.int .i64 (c)) 20 rfl kj kj ?_
    refine seq_val (.bool true) 21 rfl kj (run_eq (u := .bool (decide (c > 0))) kj (congrArg Value.bool (decide_eq_true (by omega)))) ?_
    refine seq_val (.bool true) 22 rfl kj kj ?_
    refine seq_nil ?_
    refine hK7 _ _ ?_
    try clear hK7 K7
    refine cond_true kj ?_
    refine wp_skip ?_
    refine hK6 _ _ ?_
    try clear hK6 K6
    refine wp_seq_k fun K39 hK39 => ?_
    refine wp_block ?_
    refine wp_seq_k fun K40 hK40 => ?_
    refine region_lit ?_
    refine seq_val (.int .i64 (c)) 25 rfl kj kj ?_
    refine seq_val (.int .i64 (c)) 8 rfl kj kj ?_
    refine seq_nil ?_
    refine hK40 _ _ ?_
    try clear hK40 K40
    refine wp_seq_k fun K41 hK41 => ?_
    refine wp_seq_k fun K42 hK42 => ?_
    refine region_lit ?_
    refine seq_val (.int .i64 ((i : Nat) : Int)) 26 rfl kj kj ?_
    refine seq_val (.slice a_a a.length c_a) 27 rfl kj kj ?_
    refine seq_val (.int .i64 ((a.length : Nat) : Int)) 28 rfl kj kj ?_
    refine seq_val (.bool false) 29 rfl kj (run_eq (u := .bool (decide (((i : Nat) : Int) < ((a.length : Nat) : Int)))) kj (congrArg Value.bool (decide_eq_false (by omega)))) ?_
    refine seq_nil ?_
    refine hK42 _ _ ?_
    try clear hK42 K42
    refine cond_false kj ?_
    refine wp_skip ?_
    refine hK41 _ _ ?_
    try clear hK41 K41
    refine wp_seq_k fun K43 hK43 => ?_
    refine wp_seq_k fun K44 hK44 => ?_
    refine region_lit ?_
    refine seq_val (.int .i64 ((i : Nat) : Int)) 36 rfl kj kj ?_
    refine seq_val (.slice a_b b.length c_b) 37 rfl kj kj ?_
    refine seq_val (.int .i64 ((b.length : Nat) : Int)) 38 rfl kj kj ?_
    refine seq_val (.bool false) 39 rfl kj (run_eq (u := .bool (decide (((i : Nat) : Int) < ((b.length : Nat) : Int)))) kj (congrArg Value.bool (decide_eq_false (by omega)))) ?_
    refine seq_nil ?_
    refine hK44 _ _ ?_
    try clear hK44 K44
    refine cond_false kj ?_
    refine wp_skip ?_
    refine hK43 _ _ ?_
    try clear hK43 K43
    refine wp_seq_k fun K45 hK45 => ?_
    refine region_lit ?_
    refine seq_val (u) 46 rfl kj kj ?_
    refine seq_val (.int .i64 (c)) 47 rfl kj kj ?_
    refine seq_val (.int .i64 ((c) % 256)) 48 rfl kj (run_eq (u := .int .i64 (Int.tmod (c) (256))) kj (congrArg (Value.int .i64) (show Int.tmod (c) 256 = (c) % 256 from Int.tmod_eq_emod_of_nonneg (by omega)))) ?_
    refine seq_makeS (ints .i64 ([((c) % 256)])) 3 1 49 rfl kj kj fun g46 W2 l46 e2 r46_2 => ?_
    have x2 : Ext w W2 := Ext.tr xx1 e2
    have b46 : w.heap.size ≤ g46 := Nat.le_trans xx1.size l46
    have f47_2 := (hu.ext e2)
    have y0_2 : Ext w W2 := (Rely.Ext.trans e1 e2)
    refine seq_appendN (k := .i64) (T := 3) (xs := zs) (ys := [((c) % 256)]) (V := w) 8 (.tmp 46) (.tmp 49) 54 rfl kj kj (by decide) 50 rfl kj kj kj f47_2 (rdK_ints (xs := [((c) % 256)]) (n := 1) rfl r46_2 (row_lt r46_2) (show 1 ≤ maxLen from by decide)) (by show zs.length + 1 ≤ _; omega) y0_2 fun z4 W3 f48 y3 l3 => ?_
    have x3 : Ext w W3 := Ext.low x2 l3 (Rely.Ext.refl w).size
    refine seq_val (z4) 5 rfl kj kj ?_
    refine seq_nil ?_
    refine hK45 _ _ ?_
    try clear hK45 K45
    refine region_lit ?_
    refine seq_val (.int .i64 (c)) 51 rfl kj kj ?_
    refine seq_val (.int .i64 ((c) / 256)) 52 rfl kj (run_eq (u := .int .i64 (IntKind.i64.wrap (Int.tdiv (c) (256)))) kj (congrArg (Value.int .i64) (by rw [show Int.tdiv (c) 256 = (c) / 256 from Int.tdiv_eq_ediv_of_nonneg (by omega)]; exact IntWalk.i64_in _ (by omega)))) ?_
    refine seq_val (.int .i64 ((c) / 256)) 6 rfl kj kj ?_
    refine seq_nil ?_
    refine hK39 _ _ ?_
    try clear hK39 K39
    refine region_lit ?_
    refine seq_val (.int .i64 ((i : Nat) : Int)) 23 rfl kj kj ?_
    refine seq_val (.int .i64 ((i + 1 : Nat) : Int)) 24 rfl kj (run_eq (u := .int .i64 (IntKind.i64.wrap (((i : Nat) : Int) + 1))) kj (congrArg (Value.int .i64) (i64n _ _ (by omega) (by omega)))) ?_
    refine seq_val (.int .i64 ((i + 1 : Nat) : Int)) 7 rfl kj kj ?_
    refine seq_nil ?_
    repeat (first | with_reducible refine goX1 ?_ | with_reducible refine goX2 ?_ | with_reducible refine goX3 ?_)
    exact goes_then ((i + 1), ((c) / 256), (zs ++ [(c) % 256]), z4) ⟨rfl, rfl, rfl, rfl, rfl, trivial⟩ ⟨(by rw [List.length_append, hzl]; rfl), (bytes_app hzb (bytes_one (by omega) (by omega))), (plus_step (c := c) (n := c) (da := 0) (db := 0) hzl hv (by omega) (lev_take_no a i hna) (lev_take_no b i hnb)), (show 0 ≤ (c) / 256 ∧ (c) / 256 ≤ 1 by omega), (show i + 1 ≤ max a.length b.length + 1 by omega), (show i + 1 = max a.length b.length + 1 → (c) / 256 = 0 by intro h8; omega), f48, y3, x3⟩ (by show max a.length b.length + 1 - (i + 1) < max a.length b.length + 1 - i; omega)
  · skip
    have hna : a.length ≤ i := hq.1
    have hnb : b.length ≤ i := hq.2.1
    have hc0 : c = 0 := by omega
    refine region_lit ?_
    refine seq_val (.int .i64 ((i : Nat) : Int)) 9 rfl kj kj ?_
    refine seq_val (.slice a_a a.length c_a) 10 rfl kj kj ?_
    refine seq_val (.int .i64 ((a.length : Nat) : Int)) 11 rfl kj kj ?_
    refine seq_val (.bool false) 12 rfl kj (run_eq (u := .bool (decide (((i : Nat) : Int) < ((a.length : Nat) : Int)))) kj (congrArg Value.bool (decide_eq_false (by omega)))) ?_
    refine seq_val (.bool false) 13 rfl kj kj ?_
    refine seq_val (.int .i64 ((i : Nat) : Int)) 14 rfl kj kj ?_
    refine seq_val (.slice a_b b.length c_b) 15 rfl kj kj ?_
    refine seq_val (.int .i64 ((b.length : Nat) : Int)) 16 rfl kj kj ?_
    refine seq_val (.bool false) 17 rfl kj (run_eq (u := .bool (decide (((i : Nat) : Int) < ((b.length : Nat) : Int)))) kj (congrArg Value.bool (decide_eq_false (by omega)))) ?_
    refine seq_val (.bool false) 18 rfl kj kj ?_
    refine seq_val (.bool false) 19 rfl kj kj ?_
    refine seq_val (.int .i64 (c)) 20 rfl kj kj ?_
    refine seq_val (.bool false) 21 rfl kj (run_eq (u := .bool (decide (c > 0))) kj (congrArg Value.bool (decide_eq_false (by omega)))) ?_
    refine seq_val (.bool false) 22 rfl kj kj ?_
    refine seq_nil ?_
    refine hK7 _ _ ?_
    try clear hK7 K7
    refine cond_false kj ?_
    refine wp_exit ?_
    refine hK4 _ _ ?_
    try clear hK4 K4
    refine wp_seq_k fun K50 hK50 => ?_
    refine region_lit ?_
    refine seq_val (u) 53 rfl kj kj ?_
    refine seq_val (u) 4 rfl kj kj ?_
    refine seq_nil ?_
    refine hK50 _ _ ?_
    try clear hK50 K50
    refine wp_ret ?_
    repeat (first | with_reducible refine goR1 ?_ | with_reducible refine goR2 ?_)
    exact (show bodyPost _ _ _ .ret _ _ from ret1 (u) rfl (res_tmp kj) ⟨u, rfl, xx1, zs, hzb, (by rw [hc0, lev_take_ge a i hna, lev_take_ge b i hnb] at hv; omega), (by omega), OwnN.base (Rely.Ext.refl w).size hu⟩)
set_option maxHeartbeats 4000000 in
theorem rtrimC (a : List Int) (a_a : Option Addr) (c_a : Nat) (B : Nat) (w : World) (ha : RdK .i64 B a (.slice a_a a.length c_a) w) (hal : a.length ≤ 1000000) :
    Calls Tryd.prog 29 #[.slice a_a a.length c_a] w (Gives w (fun v W => ∃ m, m ≤ a.length ∧ v = .slice a_a m c_a ∧ lev (a.take m) = lev a ∧ (m = 0 ∨ nth a (m - 1) ≠ 0))) := by
  have hcap : a.length ≤ c_a := by
    obtain ⟨_, _, e, q2, _⟩ := id ha
    simp only [Value.slice.injEq] at e
    obtain ⟨-, -, rfl⟩ := e
    exact q2
  refine enter 21 [(0, .slice a_a a.length c_a)] Tryd.func29 rfl rfl kj rfl ?_
  refine wp_seq_k fun K1 hK1 => ?_
  refine region_lit ?_
  refine seq_val (.slice none 0 0) 2 rfl kj kj ?_
  refine seq_nil ?_
  refine hK1 _ _ ?_
  try clear hK1 K1
  refine wp_seq_k fun K2 hK2 => ?_
  refine wp_block ?_
  refine loop_auto (fun (s1 : Nat) => [(0, .slice a_a s1 c_a)]) (fun (s1 : Nat) W => (s1 ≤ a.length) ∧ (lev (a.take s1) = lev a) ∧ (Ext w W) ∧ (Ext w W)) (fun (s1 : Nat) => s1) a.length ⟨rfl, trivial⟩ ⟨(Nat.le_refl _), (by rw [List.take_length]), (Rely.Ext.refl w), (Rely.Ext.refl w)⟩ fun s1 X1 V1 hI1 => ?_
  obtain ⟨m, hs1⟩ : ∃ z, z = s1 := ⟨_, rfl⟩
  subst hs1
  obtain ⟨hm, hv, kk1, xx1⟩ := hI1
  replace hm : m ≤ a.length := hm
  replace hv : lev (a.take m) = lev a := hv
  replace kk1 : Ext w V1 := kk1
  replace xx1 : Ext w V1 := xx1
  have e1 := kk1
  refine wp_seq_k fun K3 hK3 => ?_
  refine wp_seq_k fun K4 hK4 => ?_
  rcases (show m = 0 ∨ (0 < m ∧ nth a (m - 1) = 0) ∨ (0 < m ∧ nth a (m - 1) ≠ 0) by by_cases h1 : nth a (m - 1) = 0 <;> omega) with hq | hq | hq
  · skip
    have hm0 : m = 0 := hq
    refine region_lit ?_
    refine seq_val (.slice a_a m c_a) 3 rfl kj kj ?_
    refine seq_val (.int .i64 ((m : Nat) : Int)) 4 rfl kj kj ?_
    refine seq_val (.bool false) 5 rfl kj (run_eq (u := .bool (decide (((m : Nat) : Int) > 0))) kj (congrArg Value.bool (decide_eq_false (by omega)))) ?_
    refine seq_val (.bool false) 6 rfl kj kj ?_
    refine seq_skip 7 rfl kj ?_
    refine seq_skip 8 rfl kj ?_
    refine seq_skip 9 rfl kj ?_
    refine seq_skip 10 rfl kj ?_
    refine seq_skip 11 rfl kj ?_
    refine seq_skip 12 rfl kj ?_
    refine seq_skip 13 rfl kj ?_
    refine seq_val (.bool false) 14 rfl kj kj ?_
    refine seq_nil ?_
    refine hK4 _ _ ?_
    try clear hK4 K4
    refine cond_false kj ?_
    refine wp_exit ?_
    refine hK2 _ _ ?_
    try clear hK2 K2
    refine wp_seq_k fun K5 hK5 => ?_
    refine region_lit ?_
    refine seq_val (.slice a_a m c_a) 20 rfl kj kj ?_
    refine seq_val (.slice a_a m c_a) 2 rfl kj kj ?_
    refine seq_nil ?_
    refine hK5 _ _ ?_
    try clear hK5 K5
    refine wp_ret ?_
    repeat (first | with_reducible refine goR1 ?_ | with_reducible refine goR2 ?_)
    exact (show bodyPost _ _ _ .ret _ _ from ret1 (.slice a_a m c_a) rfl (res_tmp kj) ⟨_, rfl, xx1, m, hm, rfl, hv, .inl hm0⟩)
  · skip
    have hm1 : 0 < m := hq.1
    obtain ⟨gx, ox, hax, -, hlx, hcx⟩ := rdK_at (RdK.ext ha xx1) (by omega)
    refine region_lit ?_
    refine seq_val (.slice a_a m c_a) 3 rfl kj kj ?_
    refine seq_val (.int .i64 ((m : Nat) : Int)) 4 rfl kj kj ?_
    refine seq_val (.bool true) 5 rfl kj (run_eq (u := .bool (decide (((m : Nat) : Int) > 0))) kj (congrArg Value.bool (decide_eq_true (by omega)))) ?_
    refine seq_val (.bool true) 6 rfl kj kj ?_
    refine seq_val (.slice a_a m c_a) 7 rfl kj kj ?_
    refine seq_val (.slice a_a m c_a) 8 rfl kj kj ?_
    refine seq_val (.int .i64 ((m : Nat) : Int)) 9 rfl kj kj ?_
    refine seq_val (.int .i64 (((m - 1 : Nat) : Int))) 10 rfl kj (run_eq (u := .int .i64 (IntKind.i64.wrap (((m : Nat) : Int) - 1))) kj (congrArg (Value.int .i64) (by rw [show (((m : Nat) : Int) - 1) = ((m - 1 : Nat) : Int) by omega]; exact IntWalk.i64_in _ (by omega)))) ?_
    refine seq_val (.pointer (some ⟨gx, ox + (m - 1), none⟩)) 11 rfl kj (run_indexA 54 _ _ .i64 (m - 1) gx ox m c_a 3 a_a _ hax rfl rfl kj kj kj kj (by omega)) ?_
    refine seq_val (.int .i64 (nth a (m - 1))) 12 rfl kj (run_loadCell 3 _ _ (.int .i64 (nth a (m - 1))) (hcx (m - 1) (by omega)) rfl kj kj) ?_
    refine seq_val (.bool true) 13 rfl kj (run_eq (u := .bool (((nth a (m - 1)) == 0))) kj (congrArg Value.bool (by rw [hq.2]; rfl))) ?_
    refine seq_val (.bool true) 14 rfl kj kj ?_
    refine seq_nil ?_
    refine hK4 _ _ ?_
    try clear hK4 K4
    refine cond_true kj ?_
    refine wp_skip ?_
    refine hK3 _ _ ?_
    try clear hK3 K3
    refine wp_block ?_
    refine region_lit ?_
    refine seq_val (.slice a_a m c_a) 15 rfl kj kj ?_
    refine seq_val (.slice a_a m c_a) 16 rfl kj kj ?_
    refine seq_val (.int .i64 ((m : Nat) : Int)) 17 rfl kj kj ?_
    refine seq_val (.int .i64 (((m - 1 : Nat) : Int))) 18 rfl kj (run_eq (u := .int .i64 (IntKind.i64.wrap (((m : Nat) : Int) - 1))) kj (congrArg (Value.int .i64) (by rw [show (((m : Nat) : Int) - 1) = ((m - 1 : Nat) : Int) by omega]; exact IntWalk.i64_in _ (by omega)))) ?_
    refine seq_val (.slice a_a (m - 1) c_a) 19 rfl kj (run_sliceH (len := m) 54 _ _ (m - 1) 3 rfl kj kj kj .i64 kj (by omega)) ?_
    refine seq_val (.slice a_a (m - 1) c_a) 0 rfl kj kj ?_
    refine seq_nil ?_
    repeat (first | with_reducible refine goX1 ?_ | with_reducible refine goX2 ?_ | with_reducible refine goX3 ?_)
    exact goes_then (m - 1) ⟨rfl, trivial⟩ ⟨(by omega), (by have h9 := lev_take_succ a (m - 1) (by omega); rw [show m - 1 + 1 = m by omega, hq.2] at h9; rw [← hv, h9]; omega), e1, xx1⟩ (by show m - 1 < m; omega)
  · skip
    have hm1 : 0 < m := hq.1
    obtain ⟨gx, ox, hax, -, hlx, hcx⟩ := rdK_at (RdK.ext ha xx1) (by omega)
    refine region_lit ?_
    refine seq_val (.slice a_a m c_a) 3 rfl kj kj ?_
    refine seq_val (.int .i64 ((m : Nat) : Int)) 4 rfl kj kj ?_
    refine seq_val (.bool true) 5 rfl kj (run_eq (u := .bool (decide (((m : Nat) : Int) > 0))) kj (congrArg Value.bool (decide_eq_true (by omega)))) ?_
    refine seq_val (.bool true) 6 rfl kj kj ?_
    refine seq_val (.slice a_a m c_a) 7 rfl kj kj ?_
    refine seq_val (.slice a_a m c_a) 8 rfl kj kj ?_
    refine seq_val (.int .i64 ((m : Nat) : Int)) 9 rfl kj kj ?_
    refine seq_val (.int .i64 (((m - 1 : Nat) : Int))) 10 rfl kj (run_eq (u := .int .i64 (IntKind.i64.wrap (((m : Nat) : Int) - 1))) kj (congrArg (Value.int .i64) (by rw [show (((m : Nat) : Int) - 1) = ((m - 1 : Nat) : Int) by omega]; exact IntWalk.i64_in _ (by omega)))) ?_
    refine seq_val (.pointer (some ⟨gx, ox + (m - 1), none⟩)) 11 rfl kj (run_indexA 54 _ _ .i64 (m - 1) gx ox m c_a 3 a_a _ hax rfl rfl kj kj kj kj (by omega)) ?_
    refine seq_val (.int .i64 (nth a (m - 1))) 12 rfl kj (run_loadCell 3 _ _ (.int .i64 (nth a (m - 1))) (hcx (m - 1) (by omega)) rfl kj kj) ?_
    refine seq_val (.bool false) 13 rfl kj (run_eq (u := .bool (((nth a (m - 1)) == 0))) kj (congrArg Value.bool (beq_eq_false_iff_ne.2 hq.2))) ?_
    refine seq_val (.bool false) 14 rfl kj kj ?_
    refine seq_nil ?_
    refine hK4 _ _ ?_
    try clear hK4 K4
    refine cond_false kj ?_
    refine wp_exit ?_
    refine hK2 _ _ ?_
    try clear hK2 K2
    refine wp_seq_k fun K6 hK6 => ?_
    refine region_lit ?_
    refine seq_val (.slice a_a m c_a) 20 rfl kj kj ?_
    refine seq_val (.slice a_a m c_a) 2 rfl kj kj ?_
    refine seq_nil ?_
    refine hK6 _ _ ?_
    try clear hK6 K6
    refine wp_ret ?_
    repeat (first | with_reducible refine goR1 ?_ | with_reducible refine goR2 ?_)
    exact (show bodyPost _ _ _ .ret _ _ from ret1 (.slice a_a m c_a) rfl (res_tmp kj) ⟨_, rfl, xx1, m, hm, rfl, hv, .inr hq.2⟩)

end Go.Proofs.YtjldjdlhllgakaaDoor.Ae
