/- The reference's expansion. -/
import Derived.Test.YtamlhbbphnamnaaDoorKdfE
import Derived.Test.YtamlhbbphnamnaaDoorKdfO
namespace Go.Proofs.YtamlhbbphnamnaaDoor.Sha
open Go Go.RowKit
open Go.Proofs.YtamlhbbphnamnaaDoor.Rely Go.Proofs.YtamlhbbphnamnaaDoor.Auto Go.Proofs.YtamlhbbphnamnaaDoor.Own
set_option linter.unusedVariables false
set_option linter.unusedSimpArgs false

/-- the tags of an expansion -/
def tg (key info : List Int) : Nat → List Int
  | 0 => []
  | i + 1 => hmac key ((tg key info i ++ info) ++ [((i + 1 : Nat) : Int)])
def okm (key info : List Int) : Nat → List Int
  | 0 => []
  | k + 1 => okm key info k ++ tg key info (k + 1)
theorem tg_le (key info : List Int) (i : Nat) : (tg key info i).length ≤ 32 := by
  cases i with
  | zero => exact Nat.zero_le _
  | succ i => exact Nat.le_of_eq (hmac_len _ _)
theorem tg_bytes (key info : List Int) (i : Nat) : AreBytes (tg key info i) := by
  cases i with
  | zero => intro x hx; cases hx
  | succ i => exact hmac_bytes _ _
theorem okm_len (key info : List Int) (k : Nat) : (okm key info k).length = 32 * k := by
  induction k with
  | zero => rfl
  | succ k ih => rw [okm, List.length_append, ih, tg, hmac_len]; omega
theorem exp_test (key info : List Int) (k n : Nat) : decide ((((okm key info k).length : Nat) : Int) < ((n : Nat) : Int)) = decide (32 * k < n) := by
  rw [okm_len]
  exact decide_eq_decide.2 (by omega)
theorem u8_n (k : Nat) (h : k + 1 ≤ 255) : IntKind.u8.wrap ((k + 1 : Nat) : Int) = ((k + 1 : Nat) : Int) := by rw [byteN]; omega
theorem own_take {T : TypeId} {base n c : Nat} {xs : List Int} {a : Option Addr} {W : World} (h : OwnN .u8 T base xs (.slice a xs.length c) W) (hn : n ≤ xs.length) : OwnN .u8 T base (xs.take n) (.slice a n c) W := by
  have hl : (xs.take n).length = n := by rw [List.length_take]; omega
  obtain ⟨⟨h1, h2⟩, hm⟩ := h
  rcases h2 with ⟨h2, h3⟩ | ⟨g, c', cur, e, q2, q3, q4, q5, q6, q7⟩
  · simp only [Value.slice.injEq] at h2
    obtain ⟨rfl, h4, rfl⟩ := h2
    obtain rfl := List.length_eq_zero_iff.1 h4
    obtain rfl : n = 0 := by simpa using hn
    exact ownN_nil _ _ _ _
  · simp only [Value.slice.injEq] at e
    obtain ⟨rfl, -, rfl⟩ := e
    refine ownN_at hl q2 q3 (by omega) (by omega) q5 ?_
    have : cur.toList.take n = (cur.toList.take (xs.length * 1)).take n := by rw [List.take_take]; congr 1; omega
    rw [this, q7, List.map_take]
set_option maxHeartbeats 4000000 in
theorem rexpandC (key info : List Int) (v1 v2 : Value) (B B2 n : Nat) (w : World) (hn : n ≤ 8160) (hkl : key.length ≤ 800000000) (hil : info.length ≤ 700000000) (hkb : AreBytes key) (hib : AreBytes info) (hk : RdK .u8 B key v1 w) (hi : RdK .u8 B2 info v2 w) :
    Calls Tryd.prog 20 #[v1, v2, .int .i64 ((n : Nat) : Int)] w (Gives w (fun v W => ∃ u k, v = .tuple #[u, .bool true] ∧ n ≤ 32 * k ∧ OwnN .u8 5 w.heap.size ((okm key info k).take n) u W)) := by
  obtain ⟨a_key, c_key, rfl, -⟩ := id hk
  obtain ⟨a_info, c_info, rfl, -⟩ := id hi
  refine enter 44 [(0, .slice a_key key.length c_key), (1, .slice a_info info.length c_info), (2, .int .i64 ((n : Nat) : Int))] Tryd.func20 rfl rfl kj rfl ?_
  refine wp_seq_k fun K1 hK1 => ?_
  refine region_lit ?_
  refine seq_val (.slice none 0 0) 6 rfl kj kj ?_
  refine seq_val (.bool false) 7 rfl kj kj ?_
  refine seq_nil ?_
  refine hK1 _ _ ?_
  try clear hK1 K1
  refine wp_seq_k fun K2 hK2 => ?_
  refine wp_seq_k fun K3 hK3 => ?_
  refine region_lit ?_
  refine seq_val (.int .i64 ((n : Nat) : Int)) 12 rfl kj kj ?_
  refine seq_val (.bool false) 13 rfl kj (run_eq (u := .bool (decide (((n : Nat) : Int) < 0))) kj (congrArg Value.bool (decide_eq_false (by omega)))) ?_
  refine seq_val (.bool false) 14 rfl kj kj ?_
  refine seq_val (.int .i64 ((n : Nat) : Int)) 15 rfl kj kj ?_
  refine seq_val (.bool false) 16 rfl kj (run_eq (u := .bool (decide (((n : Nat) : Int) > 8160))) kj (congrArg Value.bool (decide_eq_false (by omega)))) ?_
  refine seq_val (.bool false) 17 rfl kj kj ?_
  refine seq_nil ?_
  refine hK3 _ _ ?_
  try clear hK3 K3
  refine cond_false kj ?_
  refine wp_skip ?_
  refine hK2 _ _ ?_
  try clear hK2 K2
  refine wp_seq_k fun K4 hK4 => ?_
  refine region_lit ?_
  refine seq_val (.slice none 0 0) 8 rfl kj kj ?_
  refine seq_nil ?_
  refine hK4 _ _ ?_
  try clear hK4 K4
  refine wp_seq_k fun K5 hK5 => ?_
  refine region_lit ?_
  refine seq_val (.slice none 0 0) 9 rfl kj kj ?_
  refine seq_nil ?_
  refine hK5 _ _ ?_
  try clear hK5 K5
  refine wp_seq_k fun K6 hK6 => ?_
  refine wp_seq_k fun K7 hK7 => ?_
  refine region_lit ?_
  refine seq_val (.int .i64 1) 10 rfl kj kj ?_
  refine seq_nil ?_
  refine hK7 _ _ ?_
  try clear hK7 K7
  refine wp_block ?_
  refine loop_auto (fun (s1 : Nat × Value × Value) => [(0, .slice a_key key.length c_key), (1, .slice a_info info.length c_info), (2, .int .i64 ((n : Nat) : Int)), (8, s1.2.1), (9, s1.2.2), (10, .int .i64 ((s1.1 + 1 : Nat) : Int))]) (fun (s1 : Nat × Value × Value) W => (32 * s1.1 < n + 32) ∧ (OwnN .u8 5 w.heap.size (okm key info s1.1) s1.2.1 W) ∧ (OwnN .u8 5 w.heap.size (tg key info s1.1) s1.2.2 W) ∧ (∀ g, s1.2.2.ownBlock = some g → s1.2.1.ownBlock ≠ some g) ∧ (Ext w W) ∧ (Ext w W)) (fun (s1 : Nat × Value × Value) => n - 32 * s1.1) (0, (.slice none 0 0), (.slice none 0 0)) ⟨rfl, rfl, rfl, rfl, rfl, rfl, trivial⟩ ⟨(show 32 * 0 < n + 32 by omega), (ownN_nil _ _ _ _), (ownN_nil _ _ _ _), (fun g e => by cases e), (Rely.Ext.refl w), (Rely.Ext.refl w)⟩ fun s1 X1 V1 hI1 => ?_
  obtain ⟨k, u, v⟩ := s1
  obtain ⟨hkn, hu, hv, hd, kk1, xx1⟩ := hI1
  replace hkn : 32 * k < n + 32 := hkn
  replace hu : OwnN .u8 5 w.heap.size (okm key info k) u V1 := hu
  replace hv : OwnN .u8 5 w.heap.size (tg key info k) v V1 := hv
  replace hd : ∀ g, v.ownBlock = some g → u.ownBlock ≠ some g := hd
  replace kk1 : Ext w V1 := kk1
  replace xx1 : Ext w V1 := xx1
  have e1 := kk1
  obtain ⟨a8, c8, rfl, -⟩ := id (OwnN.rd hu)
  refine wp_seq_k fun K8 hK8 => ?_
  refine wp_seq_k fun K9 hK9 => ?_
  refine region_lit ?_
  refine seq_val (.slice a8 ((okm key info k).length) c8) 18 rfl kj kj ?_
  refine seq_val (.int .i64 (((okm key info k).length : Nat) : Int)) 19 rfl kj kj ?_
  refine seq_val (.int .i64 ((n : Nat) : Int)) 20 rfl kj kj ?_
  refine seq_val (.bool (decide (32 * k < n))) 21 rfl kj (run_eq (u := .bool (decide ((((okm key info k).length : Nat) : Int) < ((n : Nat) : Int)))) kj (congrArg Value.bool (exp_test _ _ _ _))) ?_
  refine seq_nil ?_
  refine hK9 _ _ ?_
  try clear hK9 K9
  refine cond_split (t := decide (32 * k < n)) kj (fun c10 => ?_) (fun c10 => ?_)
  · skip
    have hlt : 32 * k < n := of_decide_eq_true c10
    refine wp_skip ?_
    refine hK8 _ _ ?_
    try clear hK8 K8
    refine wp_seq_k fun K11 hK11 => ?_
    refine wp_block ?_
    refine wp_seq_k fun K12 hK12 => ?_
    refine region_lit ?_
    refine seq_val (.slice a_key key.length c_key) 24 rfl kj kj ?_
    refine seq_makeS (ints .u8 ([])) 5 0 25 rfl kj kj fun g13 W2 l13 e2 r13_2 => ?_
    have x2 : Ext w W2 := Ext.tr xx1 e2
    have b13 : w.heap.size ≤ g13 := Nat.le_trans xx1.size l13
    refine seq_val (v) 26 rfl kj kj ?_
    have f14_2 := (hv.ext e2)
    have y1_2 : Ext V1 W2 := (Rely.Ext.trans (Rely.Ext.refl V1) e2)
    refine seq_appendN (k := .u8) (T := 5) (xs := []) (ys := tg key info k) (V := V1) 1 (.tmp 25) (.tmp 26) 22 rfl kj kj (by decide) 27 rfl kj kj kj (ownN_row (xs := []) rfl l13 r13_2 (by decide)) (OwnN.rd f14_2) (by have := tg_le key info k; simp only [List.length_append, List.length_cons, List.length_nil]; omega) y1_2 fun z1 W3 f15 y3 l3 => ?_
    have x3 : Ext w W3 := Ext.low x2 l3 xx1.size
    refine seq_val (.slice a_info info.length c_info) 28 rfl kj kj ?_
    refine seq_appendN (k := .u8) (T := 5) (xs := [] ++ tg key info k) (ys := info) (V := V1) 1 (.tmp 27) (.tmp 28) 22 rfl kj kj (by decide) 29 rfl kj kj kj f15 (RdK.ext hi x3) (by have := tg_le key info k; simp only [List.length_append, List.length_cons, List.length_nil]; omega) y3 fun z2 W4 f17 y4 l4 => ?_
    have x4 : Ext w W4 := Ext.low x3 l4 xx1.size
    refine seq_val (.int .i64 ((k + 1 : Nat) : Int)) 30 rfl kj kj ?_
    refine seq_val (.int .u8 (((k + 1 : Nat) : Int))) 31 rfl kj (run_eq (u := .int .u8 (IntKind.u8.wrap ((k + 1 : Nat) : Int))) kj (congrArg (Value.int .u8) (u8_n _ (by omega)))) ?_
    refine seq_makeS (ints .u8 ([(((k + 1 : Nat) : Int))])) 5 1 32 rfl kj kj fun g19 W5 l19 e5 r19_5 => ?_
    have x5 : Ext w W5 := Ext.tr x4 e5
    have b19 : w.heap.size ≤ g19 := Nat.le_trans x4.size l19
    have f20_5 := (f17.ext e5)
    have y1_5 : Ext V1 W5 := (Rely.Ext.trans y4 e5)
    refine seq_appendN (k := .u8) (T := 5) (xs := [] ++ tg key info k ++ info) (ys := [(((k + 1 : Nat) : Int))]) (V := V1) 1 (.tmp 29) (.tmp 32) 22 rfl kj kj (by decide) 33 rfl kj kj kj f20_5 (rdK_ints (xs := [(((k + 1 : Nat) : Int))]) (n := 1) rfl r19_5 (row_lt r19_5) (show 1 ≤ maxLen from by decide)) (by have := tg_le key info k; simp only [List.length_append, List.length_cons, List.length_nil]; omega) y1_5 fun z3 W6 f21 y6 l6 => ?_
    have x6 : Ext w W6 := Ext.low x5 l6 xx1.size
    have hm23 : OwnN .u8 5 V1.heap.size ((tg key info k ++ info) ++ [((k + 1 : Nat) : Int)]) z3 W6 := f21
    refine seq_call (.agg (ints .u8 (hmac (key) ((tg key info k ++ info) ++ [((k + 1 : Nat) : Int)])))) 16 #[.slice a_key key.length c_key, z3] 34 rfl kj kj (rtagC key ((tg key info k ++ info) ++ [((k + 1 : Nat) : Int)]) _ _ _ _ _ (by omega) (by have := tg_le key info k; simp only [List.length_append, List.length_cons, List.length_nil]; omega) hkb (bytes_app (bytes_app (tg_bytes _ _ _) hib) (fun x hx => by rw [List.mem_singleton] at hx; subst hx; omega)) (RdK.ext hk x6) (OwnN.rd hm23)) fun W7 e7 => ?_
    have x7 : Ext w W7 := Ext.tr x6 e7
    have f24_2 := (hu.ext e2)
    have f25_3 := (OwnN.low (n := 0) f24_2 hu l3)
    have f26_4 := (OwnN.low (n := 0) f25_3 hu l4)
    have f27_5 := (f26_4.ext e5)
    have f28_6 := (OwnN.low (n := 0) f27_5 hu l6)
    have f29_7 := (f28_6.ext e7)
    refine seq_alloc (ints .u8 (List.replicate 32 0)) 26 11 rfl kj kj fun g30 W8 l30 e8 r30_8 => ?_
    have x8 : Ext w W8 := Ext.tr x7 e8
    have b30 : w.heap.size ≤ g30 := Nat.le_trans x7.size l30
    have nb11 : (.slice a8 ((okm key info k).length) c8 : Value).ownBlock ≠ some g30 := fun e => by have h1 := OwnN.lt f29_7 e; have h2 := l30; omega
    refine seq_store g30 _ (ints .u8 (hmac (key) ((tg key info k ++ info) ++ [((k + 1 : Nat) : Int)]))) 26 r30_8 rfl kj (run_store_row 26 _ _ g30 26 _ _ r30_8 rfl kj kj (isz (n := 32) kj ((ints_size _ _).trans (hmac_len _ _))) (eqsz (n := 32) ((ints_size _ _).trans (List.length_replicate (n := 32))) ((ints_size _ _).trans (hmac_len _ _))) (ints_one _ _)) fun W9 p9 r30_9 => ?_
    have x9 : Ext w W9 := Puts.ext p9 x8 b30
    refine seq_nil ?_
    refine hK12 _ _ ?_
    try clear hK12 K12
    refine wp_seq_k fun K31 hK31 => ?_
    refine region_lit ?_
    have f32_8 := (f29_7.ext e8)
    have f33_9 := (f32_8.puts p9 nb11)
    refine seq_makeS (ints .u8 ([])) 5 0 35 rfl kj kj fun g34 W10 l34 e10 r34_10 => ?_
    have x10 : Ext w W10 := Ext.tr x9 e10
    have b34 : w.heap.size ≤ g34 := Nat.le_trans x9.size l34
    refine seq_val (.slice (some ⟨g30, 0, none⟩) 32 32) 36 rfl kj kj ?_
    have r30_10 := (row_ext r30_9 e10)
    have y9_10 : Ext W9 W10 := (Rely.Ext.trans (Rely.Ext.refl W9) e10)
    refine seq_appendN (k := .u8) (T := 5) (xs := []) (ys := hmac (key) ((tg key info k ++ info) ++ [((k + 1 : Nat) : Int)])) (V := W9) 1 (.tmp 35) (.tmp 36) 22 rfl kj kj (by decide) 37 rfl kj kj kj (ownN_row (xs := []) rfl l34 r34_10 (by decide)) (rdK_ints (xs := hmac (key) ((tg key info k ++ info) ++ [((k + 1 : Nat) : Int)])) (n := 32) (hmac_len _ _) r30_10 (row_lt r30_10) (show 32 ≤ maxLen from by decide)) (by rw [hmac_len]; decide) y9_10 fun z4 W11 f35 y11 l11 => ?_
    have x11 : Ext w W11 := Ext.low x10 l11 x9.size
    refine seq_val (z4) 9 rfl kj kj ?_
    refine seq_nil ?_
    refine hK31 _ _ ?_
    try clear hK31 K31
    refine region_lit ?_
    have hz37 : OwnN .u8 5 W9.heap.size (tg key info (k + 1)) z4 W11 := f35
    have hd37 : ∀ g, (z4 : Value).ownBlock = some g → (.slice a8 ((okm key info k).length) c8 : Value).ownBlock ≠ some g := fun g e1 e2 => by have h1 := OwnN.ge hz37 e1; have h2 := OwnN.lt f33_9 e2; omega
    refine seq_val (.slice a8 ((okm key info k).length) c8) 38 rfl kj kj ?_
    refine seq_val (z4) 39 rfl kj kj ?_
    have f38_10 := (f33_9.ext e10)
    have f39_11 := (OwnN.low (n := 0) f38_10 f33_9 l11)
    have y0_2 : Ext w W2 := (Rely.Ext.trans e1 e2)
    have y0_3 : Ext w W3 := (Ext.low y0_2 l3 e1.size)
    have y0_4 : Ext w W4 := (Ext.low y0_3 l4 e1.size)
    have y0_5 : Ext w W5 := (Rely.Ext.trans y0_4 e5)
    have y0_6 : Ext w W6 := (Ext.low y0_5 l6 e1.size)
    have y0_7 : Ext w W7 := (Rely.Ext.trans y0_6 e7)
    have y0_8 : Ext w W8 := (Rely.Ext.trans y0_7 e8)
    have y0_9 : Ext w W9 := (Puts.ext p9 y0_8 (Nat.le_trans y0_7.size l30))
    have y0_10 : Ext w W10 := (Rely.Ext.trans y0_9 e10)
    have y0_11 : Ext w W11 := (Ext.low y0_10 l11 y0_9.size)
    refine seq_appendD (k := .u8) (T := 5) (xs := okm key info k) (ys := tg key info (k + 1)) (V := w) 1 (.tmp 38) (.tmp 39) 22 rfl kj kj (by decide) 40 rfl kj kj kj f39_11 (OwnN.rd hz37) hz37 hd37 (by rw [okm_len, tg, hmac_len]; omega) y0_11 fun z5 W12 f40 y12 l12 hP => ?_
    have x12 : Ext w W12 := Ext.low x11 l12 (Rely.Ext.refl w).size
    refine seq_val (z5) 8 rfl kj kj ?_
    refine seq_nil ?_
    refine hK11 _ _ ?_
    try clear hK11 K11
    refine region_lit ?_
    refine seq_val (.int .i64 ((k + 1 : Nat) : Int)) 22 rfl kj kj ?_
    refine seq_val (.int .i64 (((k + 1) + 1 : Nat) : Int)) 23 rfl kj (run_eq (u := .int .i64 (IntKind.i64.wrap (((k + 1 : Nat) : Int) + 1))) kj (congrArg (Value.int .i64) (i64n _ _ (by omega) (by omega)))) ?_
    refine seq_val (.int .i64 (((k + 1) + 1 : Nat) : Int)) 10 rfl kj kj ?_
    refine seq_nil ?_
    repeat (first | with_reducible refine goX1 ?_ | with_reducible refine goX2 ?_ | with_reducible refine goX3 ?_)
    exact goes_then ((k + 1), z5, z4) ⟨rfl, rfl, rfl, rfl, rfl, rfl, trivial⟩ ⟨(by omega), (by rw [okm]; exact f40), (OwnN.base y0_9.size hP.1), hP.2, y12, x12⟩ (by show n - 32 * (k + 1) < n - 32 * k; omega)
  · skip
    have hge : n ≤ 32 * k := by have := of_decide_eq_false c10; omega
    have hcap : n ≤ c8 := by
      obtain ⟨_, _, e, q2, _⟩ := OwnN.rd hu
      simp only [Value.slice.injEq] at e
      obtain ⟨-, -, rfl⟩ := e
      rw [okm_len] at q2; omega
    refine wp_exit ?_
    refine hK6 _ _ ?_
    try clear hK6 K6
    refine wp_seq_k fun K42 hK42 => ?_
    refine region_lit ?_
    refine seq_val (.slice a8 ((okm key info k).length) c8) 41 rfl kj kj ?_
    refine seq_val (.int .i64 ((n : Nat) : Int)) 42 rfl kj kj ?_
    refine seq_val (.slice a8 n c8) 43 rfl kj (run_sliceH (len := (okm key info k).length) 22 _ _ n 5 rfl kj kj kj .i64 kj hcap) ?_
    refine seq_val (.slice a8 n c8) 6 rfl kj kj ?_
    refine seq_val (.bool true) 7 rfl kj kj ?_
    refine seq_nil ?_
    refine hK42 _ _ ?_
    try clear hK42 K42
    refine wp_ret ?_
    repeat (first | with_reducible refine goR1 ?_ | with_reducible refine goR2 ?_)
    exact (show bodyPost _ _ _ .ret _ _ from ret2 (.slice a8 n c8) (.bool true) rfl (res_tmp kj) (res_tmp kj) ⟨_, rfl, xx1, _, k, rfl, hge, OwnN.base (Rely.Ext.refl w).size (own_take hu (by rw [okm_len]; exact hge))⟩)
set_option maxHeartbeats 4000000 in
theorem rexpandNA (v1 v2 : Value) (n : Int) (w : World) (h : n < 0) : Calls Tryd.prog 20 #[v1, v2, .int .i64 n] w (Ret w (.tuple #[.slice none 0 0, .bool false])) := by
  refine enter 44 [(0, v1), (1, v2), (2, .int .i64 n)] Tryd.func20 rfl rfl kj rfl ?_
  refine wp_seq_k fun K1 hK1 => ?_
  refine region_lit ?_
  refine seq_val (.slice none 0 0) 6 rfl kj kj ?_
  refine seq_val (.bool false) 7 rfl kj kj ?_
  refine seq_nil ?_
  refine hK1 _ _ ?_
  try clear hK1 K1
  refine wp_seq_k fun K2 hK2 => ?_
  refine wp_seq_k fun K3 hK3 => ?_
  refine region_lit ?_
  refine seq_val (.int .i64 n) 12 rfl kj kj ?_
  refine seq_val (.bool true) 13 rfl kj (run_eq (u := .bool (decide (n < 0))) kj (congrArg Value.bool (decide_eq_true (by omega)))) ?_
  refine seq_val (.bool true) 14 rfl kj kj ?_
  refine seq_skip 15 rfl kj ?_
  refine seq_skip 16 rfl kj ?_
  refine seq_val (.bool true) 17 rfl kj kj ?_
  refine seq_nil ?_
  refine hK3 _ _ ?_
  try clear hK3 K3
  refine cond_true kj ?_
  refine wp_seq_k fun K4 hK4 => ?_
  refine region_lit ?_
  refine seq_val (.slice none 0 0) 6 rfl kj kj ?_
  refine seq_val (.bool false) 7 rfl kj kj ?_
  refine seq_nil ?_
  refine hK4 _ _ ?_
  try clear hK4 K4
  refine wp_ret ?_
  repeat (first | with_reducible refine goR1 ?_ | with_reducible refine goR2 ?_)
  exact (show bodyPost _ _ _ .ret _ _ from ret2 (.slice none 0 0) (.bool false) rfl (res_tmp kj) (res_tmp kj) ⟨rfl, (Rely.Ext.refl w)⟩)
set_option maxHeartbeats 4000000 in
theorem rexpandNB (v1 v2 : Value) (n : Int) (w : World) (h : 8160 < n) : Calls Tryd.prog 20 #[v1, v2, .int .i64 n] w (Ret w (.tuple #[.slice none 0 0, .bool false])) := by
  refine enter 44 [(0, v1), (1, v2), (2, .int .i64 n)] Tryd.func20 rfl rfl kj rfl ?_
  refine wp_seq_k fun K1 hK1 => ?_
  refine region_lit ?_
  refine seq_val (.slice none 0 0) 6 rfl kj kj ?_
  refine seq_val (.bool false) 7 rfl kj kj ?_
  refine seq_nil ?_
  refine hK1 _ _ ?_
  try clear hK1 K1
  refine wp_seq_k fun K2 hK2 => ?_
  refine wp_seq_k fun K3 hK3 => ?_
  refine region_lit ?_
  refine seq_val (.int .i64 n) 12 rfl kj kj ?_
  refine seq_val (.bool false) 13 rfl kj (run_eq (u := .bool (decide (n < 0))) kj (congrArg Value.bool (decide_eq_false (by omega)))) ?_
  refine seq_val (.bool false) 14 rfl kj kj ?_
  refine seq_val (.int .i64 n) 15 rfl kj kj ?_
  refine seq_val (.bool true) 16 rfl kj (run_eq (u := .bool (decide (n > 8160))) kj (congrArg Value.bool (decide_eq_true (by omega)))) ?_
  refine seq_val (.bool true) 17 rfl kj kj ?_
  refine seq_nil ?_
  refine hK3 _ _ ?_
  try clear hK3 K3
  refine cond_true kj ?_
  refine wp_seq_k fun K4 hK4 => ?_
  refine region_lit ?_
  refine seq_val (.slice none 0 0) 6 rfl kj kj ?_
  refine seq_val (.bool false) 7 rfl kj kj ?_
  refine seq_nil ?_
  refine hK4 _ _ ?_
  try clear hK4 K4
  refine wp_ret ?_
  repeat (first | with_reducible refine goR1 ?_ | with_reducible refine goR2 ?_)
  exact (show bodyPost _ _ _ .ret _ _ from ret2 (.slice none 0 0) (.bool false) rfl (res_tmp kj) (res_tmp kj) ⟨rfl, (Rely.Ext.refl w)⟩)

end Go.Proofs.YtamlhbbphnamnaaDoor.Sha
