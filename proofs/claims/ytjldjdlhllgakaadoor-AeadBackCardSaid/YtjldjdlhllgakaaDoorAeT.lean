/- The reference's great numbers: what is beyond 130 bits counts five times. -/
import Derived.Test.YtjldjdlhllgakaaDoorAeS
namespace Go.Proofs.YtjldjdlhllgakaaDoor.Ae
open Go Go.RowKit
open Go.Proofs.YtjldjdlhllgakaaDoor.Rely Go.Proofs.YtjldjdlhllgakaaDoor.Auto Go.Proofs.YtjldjdlhllgakaaDoor.Own Go.Proofs.YtjldjdlhllgakaaDoor.Sha
set_option linter.unusedVariables false
set_option linter.unusedSimpArgs false

open Go.Proofs.YtjldjdlhllgakaaDoor.Sha Go.Proofs.YtjldjdlhllgakaaDoor.Cha
theorem p16 : p256 16 = 340282366920938463463374607431768211456 := by decide +kernel
theorem low_take (xs : List Int) (i : Nat) (h : i < 16) (hi : i < xs.length) : xs.take (min (i + 1) 16) = xs.take (min i 16) ++ [nth xs i] := by
  rw [show min (i + 1) 16 = i + 1 by omega, show min i 16 = i by omega, take_succ xs i hi]
theorem low_stay (xs : List Int) (i : Nat) (h : 16 ≤ i) : xs.take (min (i + 1) 16) = xs.take (min i 16) := by
  rw [show min (i + 1) 16 = 16 by omega, show min i 16 = 16 by omega]
theorem nth_ge (xs : List Int) (i : Nat) (h : xs.length ≤ i) : nth xs i = 0 := by
  unfold nth; rw [List.getD_eq_getElem?_getD, List.getElem?_eq_none h]; rfl
theorem high_step {xs hs : List Int} {k : Nat} {x y d : Int} (hx : x = nth xs (16 + k)) (hy : y = nth xs (16 + (k + 1))) (hl : hs.length = k) (hk : 16 + k < xs.length) (hd : d = x / 4 + y % 4 * 64)
    (hv : 4 * lev hs + nth xs 16 % 4 = lev ((xs.drop 16).take k) + x % 4 * p256 k) : 4 * lev (hs ++ [d]) + nth xs 16 % 4 = lev ((xs.drop 16).take (k + 1)) + y % 4 * p256 (k + 1) := by
  rw [lev_snoc, hl, lev_take_succ _ k (by rw [List.length_drop]; omega), nth_drop, ← hx, p256_succ]
  have h1 : x = 4 * (x / 4) + x % 4 := by omega
  have h2 : x * p256 k = 4 * (x / 4) * p256 k + x % 4 * p256 k := by rw [← Int.add_mul, ← h1]
  have h3 : d * p256 k = x / 4 * p256 k + y % 4 * 64 * p256 k := by rw [hd, Int.add_mul]
  grind
theorem small_split {xs low hs : List Int} (hl : 17 ≤ xs.length) (hlow : low = xs.take 16 ++ [nth xs 16 % 4]) (hv : 4 * lev hs + nth xs 16 % 4 = lev (xs.drop 16)) : lev xs = lev low + 1361129467683753853853498429727072845824 * lev hs := by
  have h1 : lev xs = lev (xs.take 16) + p256 16 * lev (xs.drop 16) := by
    have h := lev_app (xs.take 16) (xs.drop 16)
    rwa [List.take_append_drop, List.length_take, Nat.min_eq_left (by omega)] at h
  have h2 : lev low = lev (xs.take 16) + nth xs 16 % 4 * p256 16 := by rw [hlow, lev_snoc, List.length_take, Nat.min_eq_left (by omega)]
  rw [p16] at h1 h2
  omega
theorem small_low {xs low : List Int} (hb : AreBytes xs) (hl : 17 ≤ xs.length) (hlow : low = xs.take 16 ++ [nth xs 16 % 4]) : 0 ≤ lev low ∧ lev low < 1361129467683753853853498429727072845824 := by
  have h2 : lev low = lev (xs.take 16) + nth xs 16 % 4 * p256 16 := by rw [hlow, lev_snoc, List.length_take, Nat.min_eq_left (by omega)]
  have h3 := lev_lt (bytes_take hb 16)
  have h4 := lev_nonneg (bytes_take hb 16)
  rw [List.length_take, Nat.min_eq_left (by omega)] at h3
  rw [p16] at h2 h3
  omega
theorem small_big {xs : List Int} (hb : AreBytes xs) (ht : xs = [] ∨ nth xs (xs.length - 1) ≠ 0) (h : 17 < xs.length ∨ (xs.length = 17 ∧ 3 < nth xs 16)) : 1361129467683753853853498429727072845824 ≤ lev xs := by
  have h1 : lev xs = lev (xs.take 16) + p256 16 * lev (xs.drop 16) := by
    have h := lev_app (xs.take 16) (xs.drop 16)
    rwa [List.take_append_drop, List.length_take, Nat.min_eq_left (by omega)] at h
  have h4 := lev_nonneg (bytes_take hb 16)
  have h5 : 4 ≤ lev (xs.drop 16) := by
    rcases h with h | ⟨h, h6⟩
    · have h7 : nth xs (xs.length - 1) ≠ 0 := by
        rcases ht with e | e
        · rw [e] at h; simp at h
        · exact e
      have h8 : lev (xs.drop 16) = lev ((xs.drop 16).take (xs.length - 17)) + nth (xs.drop 16) (xs.length - 17) * p256 (xs.length - 17) := by
        have h9 := lev_take_succ (xs.drop 16) (xs.length - 17) (by rw [List.length_drop]; omega)
        rw [← h9, List.take_of_length_le (by rw [List.length_drop]; omega)]
      rw [nth_drop, show 16 + (xs.length - 17) = xs.length - 1 by omega] at h8
      have h10 := bytes_nth hb (xs.length - 1)
      have h11 := lev_nonneg (bytes_take (bytes_drop hb 16) (xs.length - 17))
      have h12 : p256 (xs.length - 17) = 256 * p256 (xs.length - 18) := by rw [show xs.length - 17 = (xs.length - 18) + 1 by omega, p256_succ]
      have h13 := p256_pos (xs.length - 18)
      have h14 : 1 * p256 (xs.length - 17) ≤ nth xs (xs.length - 1) * p256 (xs.length - 17) := Int.mul_le_mul_of_nonneg_right (by omega) (by omega)
      omega
    · have h8 : xs.drop 16 = [nth xs 16] := by
        apply nth_ext
        · rw [List.length_drop, h]; rfl
        · intro i hi
          rw [List.length_drop] at hi
          obtain rfl : i = 0 := by omega
          rw [nth_drop]; rfl
      rw [h8]; simp only [lev]; omega
  rw [p16] at h1
  omega
theorem small_end {xs : List Int} (hb : AreBytes xs) (h : xs.length < 17 ∨ (xs.length = 17 ∧ nth xs 16 ≤ 3)) : lev xs < 1361129467683753853853498429727072845824 := by
  rcases h with h | ⟨h, h6⟩
  · have h1 := lev_lt hb
    have h2 : p256 16 = p256 xs.length * p256 (16 - xs.length) := by rw [← p256_add]; congr 1; omega
    have h3 := p256_pos (16 - xs.length)
    have h4 : p256 xs.length * 1 ≤ p256 xs.length * p256 (16 - xs.length) := Int.mul_le_mul_of_nonneg_left (by omega) (Int.le_of_lt (p256_pos _))
    rw [p16] at h2
    omega
  · have h1 := lev_take_succ xs 16 (by omega)
    rw [List.take_of_length_le (by omega)] at h1
    have h3 := lev_lt (bytes_take hb 16)
    have h7 := bytes_nth hb 16
    rw [List.length_take, Nat.min_eq_left (by omega), p16] at h3
    rw [p16] at h1
    omega
theorem small_mod {x n h v : Int} (e : x = n + 1361129467683753853853498429727072845819 * h) (hv : x % PP = v % PP) : n % PP = v % PP := by
  rw [← hv, e]
  unfold PP
  omega
theorem trimmed_take {ys : List Int} {m : Nat} (hm : m ≤ ys.length) (h : m = 0 ∨ nth ys (m - 1) ≠ 0) : ys.take m = [] ∨ nth (ys.take m) ((ys.take m).length - 1) ≠ 0 := by
  rcases Nat.eq_zero_or_pos m with h0 | h0
  · left; rw [h0]; rfl
  · right
    rw [List.length_take, Nat.min_eq_left hm, nth_take _ _ _ (by omega)]
    rcases h with h | h
    · omega
    · exact h
set_option maxRecDepth 100000 in
set_option maxHeartbeats 4000000 in
theorem rsmallC (a : List Int) (v : Value) (B : Nat) (w : World) (ha : RdK .i64 B a v w) (hal : a.length ≤ 1000) (hab : AreBytes a) (hat : a = [] ∨ nth a (a.length - 1) ≠ 0) :
    Calls Tryd.prog 28 #[v] w (Gives w (fun v W => ∃ zs : List Int, AreBytes zs ∧ lev zs % PP = lev a % PP ∧ lev zs < 1361129467683753853853498429727072845824 ∧ zs.length ≤ 17 ∧ RdK .i64 W.heap.size zs v W)) := by
  obtain ⟨a_a, c_a, rfl, -⟩ := id ha
  refine enter 80 [(0, .slice a_a a.length c_a)] Tryd.func28 rfl rfl kj rfl ?_
  refine wp_seq_k fun K1 hK1 => ?_
  refine region_lit ?_
  refine seq_val (.slice none 0 0) 2 rfl kj kj ?_
  refine seq_nil ?_
  refine hK1 _ _ ?_
  try clear hK1 K1
  refine wp_seq_k fun K2 hK2 => ?_
  refine wp_block ?_
  refine loop_auto (fun (s1 : List Int × Value) => [(0, s1.2)]) (fun (s1 : List Int × Value) W => (AreBytes s1.1) ∧ (s1.1 = [] ∨ nth s1.1 (s1.1.length - 1) ≠ 0) ∧ (lev s1.1 % PP = lev a % PP) ∧ (s1.1.length ≤ max 18 a.length) ∧ (RdK .i64 W.heap.size s1.1 s1.2 W) ∧ (Ext w W) ∧ (Ext w W)) (fun (s1 : List Int × Value) => (lev s1.1).toNat) (a, .slice a_a a.length c_a) ⟨rfl, trivial⟩ ⟨hab, hat, rfl, (Nat.le_max_right _ _), (RdK.here (RdK.ext ha (Rely.Ext.refl w))), (Rely.Ext.refl w), (Rely.Ext.refl w)⟩ fun s1 X1 V1 hI1 => ?_
  obtain ⟨xs, v⟩ := s1
  obtain ⟨hxb, hxt, hxm, hxl, hrx, kk1, xx1⟩ := hI1
  replace hxb : AreBytes xs := hxb
  replace hxt : xs = [] ∨ nth xs (xs.length - 1) ≠ 0 := hxt
  replace hxm : lev xs % PP = lev a % PP := hxm
  replace hxl : xs.length ≤ max 18 a.length := hxl
  replace hrx : RdK .i64 V1.heap.size xs v V1 := hrx
  replace kk1 : Ext w V1 := kk1
  replace xx1 : Ext w V1 := xx1
  have e1 := kk1
  obtain ⟨ax, cx, rfl, -⟩ := id hrx
  refine wp_seq_k fun K3 hK3 => ?_
  refine wp_seq_k fun K4 hK4 => ?_
  rcases (show 17 < xs.length ∨ (xs.length = 17 ∧ 3 < nth xs 16) ∨ (xs.length = 17 ∧ nth xs 16 ≤ 3) ∨ xs.length < 17 by omega) with hq | hq | hq | hq
  · skip
    have h17 : 17 ≤ xs.length := by omega
    have hbig := small_big hxb hxt (.inl hq)
    refine region_lit ?_
    refine seq_val (.slice ax xs.length cx) 8 rfl kj kj ?_
    refine seq_val (.int .i64 ((xs.length : Nat) : Int)) 9 rfl kj kj ?_
    refine seq_val (.bool true) 10 rfl kj (run_eq (u := .bool (decide (((xs.length : Nat) : Int) > 17))) kj (congrArg Value.bool (decide_eq_true (by omega)))) ?_
    refine seq_val (.bool true) 11 rfl kj kj ?_
    refine seq_skip 12 rfl kj ?_
    refine seq_skip 13 rfl kj ?_
    refine seq_skip 14 rfl kj ?_
    refine seq_skip 15 rfl kj ?_
    refine seq_skip 16 rfl kj ?_
    refine seq_skip 17 rfl kj ?_
    refine seq_skip 18 rfl kj ?_
    refine seq_skip 19 rfl kj ?_
    refine seq_skip 20 rfl kj ?_
    refine seq_val (.bool true) 21 rfl kj kj ?_
    refine seq_nil ?_
    refine hK4 _ _ ?_
    try clear hK4 K4
    refine cond_true kj ?_
    refine wp_skip ?_
    refine hK3 _ _ ?_
    try clear hK3 K3
    refine wp_block ?_
    refine wp_seq_k fun K5 hK5 => ?_
    refine region_lit ?_
    refine seq_val (.slice none 0 0) 3 rfl kj kj ?_
    refine seq_nil ?_
    refine hK5 _ _ ?_
    try clear hK5 K5
    refine wp_seq_k fun K6 hK6 => ?_
    refine region_lit ?_
    refine seq_val (.slice none 0 0) 4 rfl kj kj ?_
    refine seq_nil ?_
    refine hK6 _ _ ?_
    try clear hK6 K6
    refine wp_seq_k fun K7 hK7 => ?_
    refine wp_seq_k fun K8 hK8 => ?_
    refine region_lit ?_
    refine seq_val (.int .i64 0) 5 rfl kj kj ?_
    refine seq_nil ?_
    refine hK8 _ _ ?_
    try clear hK8 K8
    refine wp_block ?_
    refine loop_auto (fun (s2 : Nat × Value) => [(0, .slice ax xs.length cx), (3, s2.2), (4, .slice none 0 0), (5, .int .i64 ((s2.1 : Nat) : Int))]) (fun (s2 : Nat × Value) W => (s2.1 ≤ xs.length) ∧ (OwnN .i64 3 V1.heap.size (xs.take (min s2.1 16)) s2.2 W) ∧ (Ext V1 W) ∧ (Ext w W)) (fun (s2 : Nat × Value) => xs.length - s2.1) (0, (.slice none 0 0)) ⟨rfl, rfl, rfl, rfl, trivial⟩ ⟨(Nat.zero_le _), (by rw [show min 0 16 = 0 from rfl, List.take_zero]; exact ownN_nil _ _ _ _), (Rely.Ext.refl V1), xx1⟩ fun s2 X2 V2 hI2 => ?_
    obtain ⟨i, u⟩ := s2
    obtain ⟨hi, hu, kk2, xx2⟩ := hI2
    replace hi : i ≤ xs.length := hi
    replace hu : OwnN .i64 3 V1.heap.size (xs.take (min i 16)) u V2 := hu
    replace kk2 : Ext V1 V2 := kk2
    replace xx2 : Ext w V2 := xx2
    have e2 := kk2
    refine wp_seq_k fun K9 hK9 => ?_
    refine wp_seq_k fun K10 hK10 => ?_
    refine region_lit ?_
    refine seq_val (.int .i64 ((i : Nat) : Int)) 22 rfl kj kj ?_
    refine seq_val (.slice ax xs.length cx) 23 rfl kj kj ?_
    refine seq_val (.int .i64 ((xs.length : Nat) : Int)) 24 rfl kj kj ?_
    refine seq_val (.bool (decide (((i : Nat) : Int) < ((xs.length : Nat) : Int)))) 25 rfl kj kj ?_
    refine seq_nil ?_
    refine hK10 _ _ ?_
    try clear hK10 K10
    refine cond_split (t := decide (((i : Nat) : Int) < ((xs.length : Nat) : Int))) kj (fun c11 => ?_) (fun c11 => ?_)
    · skip
      have hlt25 : i < xs.length := by have := of_decide_eq_true c11; omega
      refine wp_skip ?_
      refine hK9 _ _ ?_
      try clear hK9 K9
      refine wp_seq_k fun K12 hK12 => ?_
      refine wp_block ?_
      refine wp_seq_k fun K13 hK13 => ?_
      refine region_lit ?_
      refine seq_val (.int .i64 ((i : Nat) : Int)) 28 rfl kj kj ?_
      refine seq_val (.bool (decide (((i : Nat) : Int) < 16))) 29 rfl kj kj ?_
      refine seq_nil ?_
      refine hK13 _ _ ?_
      try clear hK13 K13
      refine cond_split (t := decide (((i : Nat) : Int) < 16)) kj (fun c14 => ?_) (fun c14 => ?_)
      · skip
        have hi16 : i < 16 := by have := of_decide_eq_true c14; omega
        have f16_2 := (hrx.ext e2)
        obtain ⟨grx15, orx15, harx15, -, hlrx15, hcrx15⟩ := rdK_at f16_2 (by omega)
        refine region_lit ?_
        refine seq_val (u) 30 rfl kj kj ?_
        refine seq_val (.slice ax xs.length cx) 31 rfl kj kj ?_
        refine seq_val (.int .i64 ((i : Nat) : Int)) 32 rfl kj kj ?_
        refine seq_val (.pointer (some ⟨grx15, orx15 + i, none⟩)) 33 rfl kj (run_indexA 54 _ _ .i64 i grx15 orx15 xs.length cx 3 ax _ harx15 rfl rfl kj kj kj kj (Nat.lt_of_lt_of_eq (show i < (xs).length by omega) (rfl : (xs).length = (xs).length).symm)) ?_
        refine seq_val (.int .i64 (nth (xs) (i))) 34 rfl kj (run_loadCell 3 _ _ (.int .i64 (nth (xs) (i))) (hcrx15 i (Nat.lt_of_lt_of_eq (show i < (xs).length by omega) (rfl : (xs).length = (xs).length).symm)) rfl kj kj) ?_
        refine seq_makeS (ints .i64 ([(nth (xs) (i))])) 3 1 35 rfl kj kj fun g17 W3 l17 e3 r17_3 => ?_
        have x3 : Ext w W3 := Ext.tr xx2 e3
        have b17 : w.heap.size ≤ g17 := Nat.le_trans xx2.size l17
        have f18_3 := (hu.ext e3)
        have y1_3 : Ext V1 W3 := (Rely.Ext.trans e2 e3)
        refine seq_appendN (k := .i64) (T := 3) (xs := xs.take (min i 16)) (ys := [(nth (xs) (i))]) (V := V1) 8 (.tmp 30) (.tmp 35) 54 rfl kj kj (by decide) 36 rfl kj kj kj f18_3 (rdK_ints (xs := [(nth (xs) (i))]) (n := 1) rfl r17_3 (row_lt r17_3) (show 1 ≤ maxLen from by decide)) (by rw [List.length_take]; show _ + 1 ≤ _; omega) y1_3 fun y1_ W4 f19 y4 l4 => ?_
        have x4 : Ext w W4 := Ext.low x3 l4 xx1.size
        refine seq_val (y1_) 3 rfl kj kj ?_
        refine seq_nil ?_
        refine hK12 _ _ ?_
        try clear hK12 K12
        refine region_lit ?_
        refine seq_val (.int .i64 ((i : Nat) : Int)) 26 rfl kj kj ?_
        refine seq_val (.int .i64 ((i + 1 : Nat) : Int)) 27 rfl kj (run_eq (u := .int .i64 (IntKind.i64.wrap (((i : Nat) : Int) + 1))) kj (congrArg (Value.int .i64) (i64n _ _ (by omega) (by omega)))) ?_
        refine seq_val (.int .i64 ((i + 1 : Nat) : Int)) 5 rfl kj kj ?_
        refine seq_nil ?_
        repeat (first | with_reducible refine goX1 ?_ | with_reducible refine goX2 ?_ | with_reducible refine goX3 ?_)
        exact goes_then ((i + 1), y1_) ⟨rfl, rfl, rfl, rfl, trivial⟩ ⟨(show i + 1 ≤ xs.length by omega), (by rw [low_take xs i hi16 hlt25]; exact f19), y4, x4⟩ (by show xs.length - (i + 1) < xs.length - i; omega)
      · skip
        have hi16 : 16 ≤ i := by have := of_decide_eq_false c14; omega
        refine wp_skip ?_
        refine hK12 _ _ ?_
        try clear hK12 K12
        refine region_lit ?_
        refine seq_val (.int .i64 ((i : Nat) : Int)) 26 rfl kj kj ?_
        refine seq_val (.int .i64 ((i + 1 : Nat) : Int)) 27 rfl kj (run_eq (u := .int .i64 (IntKind.i64.wrap (((i : Nat) : Int) + 1))) kj (congrArg (Value.int .i64) (i64n _ _ (by omega) (by omega)))) ?_
        refine seq_val (.int .i64 ((i + 1 : Nat) : Int)) 5 rfl kj kj ?_
        refine seq_nil ?_
        repeat (first | with_reducible refine goX1 ?_ | with_reducible refine goX2 ?_ | with_reducible refine goX3 ?_)
        exact goes_then ((i + 1), u) ⟨rfl, rfl, rfl, rfl, trivial⟩ ⟨(show i + 1 ≤ xs.length by omega), (by rw [low_stay xs i hi16]; exact hu), e2, xx2⟩ (by show xs.length - (i + 1) < xs.length - i; omega)
    · skip
      have heq25 : i = xs.length := by have := of_decide_eq_false c11; omega
      have hu16 : OwnN .i64 3 V1.heap.size (xs.take 16) u V2 := by have h9 := hu; rw [show min i 16 = 16 by omega] at h9; exact h9
      refine wp_exit ?_
      refine hK7 _ _ ?_
      try clear hK7 K7
      refine wp_seq_k fun K21 hK21 => ?_
      refine region_lit ?_
      have f23_2 := (hrx.ext e2)
      obtain ⟨grx22, orx22, harx22, -, hlrx22, hcrx22⟩ := rdK_at f23_2 (by omega)
      refine seq_val (u) 37 rfl kj kj ?_
      refine seq_val (.slice ax xs.length cx) 38 rfl kj kj ?_
      refine seq_val (.pointer (some ⟨grx22, orx22 + 16, none⟩)) 39 rfl kj (run_indexA 54 _ _ .i64 16 grx22 orx22 xs.length cx 3 ax _ harx22 rfl rfl kj kj kj kj (Nat.lt_of_lt_of_eq (show 16 < (xs).length by omega) (rfl : (xs).length = (xs).length).symm)) ?_
      refine seq_val (.int .i64 (nth (xs) (16))) 40 rfl kj (run_loadCell 3 _ _ (.int .i64 (nth (xs) (16))) (hcrx22 16 (Nat.lt_of_lt_of_eq (show 16 < (xs).length by omega) (rfl : (xs).length = (xs).length).symm)) rfl kj kj) ?_
      refine seq_val (.int .i64 (nth xs 16 % 4)) 41 rfl kj (run_eq (u := .int .i64 (Int.tmod ((nth (xs) (16))) (4))) kj (congrArg (Value.int .i64) (show Int.tmod (nth xs 16) 4 = nth xs 16 % 4 from Int.tmod_eq_emod_of_nonneg (by have := bytes_nth hxb 16; omega)))) ?_
      refine seq_makeS (ints .i64 ([(nth xs 16 % 4)])) 3 1 42 rfl kj kj fun g24 W3 l24 e3 r24_3 => ?_
      have x3 : Ext w W3 := Ext.tr xx2 e3
      have b24 : w.heap.size ≤ g24 := Nat.le_trans xx2.size l24
      have f25_3 := (hu16.ext e3)
      have y1_3 : Ext V1 W3 := (Rely.Ext.trans e2 e3)
      refine seq_appendN (k := .i64) (T := 3) (xs := xs.take 16) (ys := [(nth xs 16 % 4)]) (V := V1) 8 (.tmp 37) (.tmp 42) 54 rfl kj kj (by decide) 43 rfl kj kj kj f25_3 (rdK_ints (xs := [(nth xs 16 % 4)]) (n := 1) rfl r24_3 (row_lt r24_3) (show 1 ≤ maxLen from by decide)) (by rw [List.length_take]; show _ + 1 ≤ _; omega) y1_3 fun y2_ W4 f26 y4 l4 => ?_
      have x4 : Ext w W4 := Ext.low x3 l4 xx1.size
      refine seq_val (y2_) 3 rfl kj kj ?_
      refine seq_nil ?_
      refine hK21 _ _ ?_
      try clear hK21 K21
      refine wp_seq_k fun K28 hK28 => ?_
      refine wp_seq_k fun K29 hK29 => ?_
      refine region_lit ?_
      refine seq_val (.int .i64 16) 6 rfl kj kj ?_
      refine seq_nil ?_
      refine hK29 _ _ ?_
      try clear hK29 K29
      refine wp_block ?_
      refine loop_auto (fun (s3 : Nat × List Int × Value) => [(0, .slice ax xs.length cx), (3, y2_), (4, s3.2.2), (6, .int .i64 ((16 + s3.1 : Nat) : Int))]) (fun (s3 : Nat × List Int × Value) W => (16 + s3.1 ≤ xs.length) ∧ (s3.2.1.length = s3.1) ∧ (AreBytes s3.2.1) ∧ (4 * lev s3.2.1 + nth xs 16 % 4 = lev ((xs.drop 16).take s3.1) + nth xs (16 + s3.1) % 4 * p256 s3.1) ∧ (OwnN .i64 3 W4.heap.size s3.2.1 s3.2.2 W) ∧ (Ext W4 W) ∧ (Ext w W)) (fun (s3 : Nat × List Int × Value) => xs.length - (16 + s3.1)) (0, [], (.slice none 0 0)) ⟨rfl, rfl, rfl, rfl, trivial⟩ ⟨(show 16 + 0 ≤ xs.length by omega), rfl, (fun x hx => by cases hx), (by show 4 * 0 + nth xs 16 % 4 = 0 + nth xs 16 % 4 * 1; omega), (ownN_nil _ _ _ _), (Rely.Ext.refl W4), x4⟩ fun s3 X3 V3 hI3 => ?_
      obtain ⟨k, hs, u2⟩ := s3
      obtain ⟨hk, hhl, hhb, hhv, hu2, kk3, xx3⟩ := hI3
      replace hk : 16 + k ≤ xs.length := hk
      replace hhl : hs.length = k := hhl
      replace hhb : AreBytes hs := hhb
      replace hhv : 4 * lev hs + nth xs 16 % 4 = lev ((xs.drop 16).take k) + nth xs (16 + k) % 4 * p256 k := hhv
      replace hu2 : OwnN .i64 3 W4.heap.size hs u2 V3 := hu2
      replace kk3 : Ext W4 V3 := kk3
      replace xx3 : Ext w V3 := xx3
      have e5 := kk3
      refine wp_seq_k fun K30 hK30 => ?_
      refine wp_seq_k fun K31 hK31 => ?_
      refine region_lit ?_
      refine seq_val (.int .i64 ((16 + k : Nat) : Int)) 44 rfl kj kj ?_
      refine seq_val (.slice ax xs.length cx) 45 rfl kj kj ?_
      refine seq_val (.int .i64 ((xs.length : Nat) : Int)) 46 rfl kj kj ?_
      refine seq_val (.bool (decide (((16 + k : Nat) : Int) < ((xs.length : Nat) : Int)))) 47 rfl kj kj ?_
      refine seq_nil ?_
      refine hK31 _ _ ?_
      try clear hK31 K31
      refine cond_split (t := decide (((16 + k : Nat) : Int) < ((xs.length : Nat) : Int))) kj (fun c32 => ?_) (fun c32 => ?_)
      · skip
        have hlt47 : 16 + k < xs.length := by have := of_decide_eq_true c32; omega
        have f34_3 := (f23_2.ext e3)
        have f35_4 := (RdK.low f34_3 hrx l4)
        have f36_5 := (f35_4.ext e5)
        obtain ⟨grx33, orx33, harx33, -, hlrx33, hcrx33⟩ := rdK_at f36_5 (by omega)
        have hxk := bytes_nth hxb (16 + k)
        have hxk1 := bytes_nth hxb (16 + (k + 1))
        have hxk2 := bytes_nth hxb ((16 + k) + 1)
        refine wp_skip ?_
        refine hK30 _ _ ?_
        try clear hK30 K30
        refine wp_seq_k fun K37 hK37 => ?_
        refine wp_block ?_
        refine wp_seq_k fun K38 hK38 => ?_
        refine region_lit ?_
        refine seq_val (.slice ax xs.length cx) 50 rfl kj kj ?_
        refine seq_val (.int .i64 ((16 + k : Nat) : Int)) 51 rfl kj kj ?_
        refine seq_val (.pointer (some ⟨grx33, orx33 + (16 + k), none⟩)) 52 rfl kj (run_indexA 54 _ _ .i64 (16 + k) grx33 orx33 xs.length cx 3 ax _ harx33 rfl rfl kj kj kj kj (Nat.lt_of_lt_of_eq (show 16 + k < (xs).length by omega) (rfl : (xs).length = (xs).length).symm)) ?_
        refine seq_val (.int .i64 (nth (xs) ((16 + k)))) 53 rfl kj (run_loadCell 3 _ _ (.int .i64 (nth (xs) ((16 + k)))) (hcrx33 (16 + k) (Nat.lt_of_lt_of_eq (show 16 + k < (xs).length by omega) (rfl : (xs).length = (xs).length).symm)) rfl kj kj) ?_
        refine seq_val (.int .i64 (nth xs (16 + k) / 4)) 54 rfl kj (run_eq (u := .int .i64 (IntKind.i64.wrap (Int.tdiv ((nth (xs) ((16 + k)))) (4)))) kj (congrArg (Value.int .i64) (by rw [show Int.tdiv (nth xs (16 + k)) 4 = (nth xs (16 + k)) / 4 from Int.tdiv_eq_ediv_of_nonneg (by omega)]; exact IntWalk.i64_in _ (by omega)))) ?_
        refine seq_val (.int .i64 (nth xs (16 + k) / 4)) 7 rfl kj kj ?_
        refine seq_nil ?_
        refine hK38 _ _ ?_
        try clear hK38 K38
        refine wp_seq_k fun K39 hK39 => ?_
        refine wp_seq_k fun K40 hK40 => ?_
        refine region_lit ?_
        refine seq_val (.int .i64 ((16 + k : Nat) : Int)) 55 rfl kj kj ?_
        refine seq_val (.int .i64 (((16 + k) + 1 : Nat) : Int)) 56 rfl kj (run_eq (u := .int .i64 (IntKind.i64.wrap (((16 + k : Nat) : Int) + 1))) kj (congrArg (Value.int .i64) (i64n _ _ (by omega) (by omega)))) ?_
        refine seq_val (.slice ax xs.length cx) 57 rfl kj kj ?_
        refine seq_val (.int .i64 ((xs.length : Nat) : Int)) 58 rfl kj kj ?_
        refine seq_val (.bool (decide ((((16 + k) + 1 : Nat) : Int) < ((xs.length : Nat) : Int)))) 59 rfl kj kj ?_
        refine seq_nil ?_
        refine hK40 _ _ ?_
        try clear hK40 K40
        refine cond_split (t := decide ((((16 + k) + 1 : Nat) : Int) < ((xs.length : Nat) : Int))) kj (fun c41 => ?_) (fun c41 => ?_)
        · skip
          have hk1 : 16 + (k + 1) < xs.length := by have := of_decide_eq_true c41; omega
          obtain ⟨grx42, orx42, harx42, -, hlrx42, hcrx42⟩ := rdK_at f36_5 (by omega)
          refine region_lit ?_
          refine seq_val (.int .i64 (nth xs (16 + k) / 4)) 60 rfl kj kj ?_
          refine seq_val (.slice ax xs.length cx) 61 rfl kj kj ?_
          refine seq_val (.int .i64 ((16 + k : Nat) : Int)) 62 rfl kj kj ?_
          refine seq_val (.int .i64 (((16 + k) + 1 : Nat) : Int)) 63 rfl kj (run_eq (u := .int .i64 (IntKind.i64.wrap (((16 + k : Nat) : Int) + 1))) kj (congrArg (Value.int .i64) (i64n _ _ (by omega) (by omega)))) ?_
          refine seq_val (.pointer (some ⟨grx42, orx42 + ((16 + k) + 1), none⟩)) 64 rfl kj (run_indexA 54 _ _ .i64 ((16 + k) + 1) grx42 orx42 xs.length cx 3 ax _ harx42 rfl rfl kj kj kj kj (Nat.lt_of_lt_of_eq (show (16 + k) + 1 < (xs).length by omega) (rfl : (xs).length = (xs).length).symm)) ?_
          refine seq_val (.int .i64 (nth (xs) (((16 + k) + 1)))) 65 rfl kj (run_loadCell 3 _ _ (.int .i64 (nth (xs) (((16 + k) + 1)))) (hcrx42 ((16 + k) + 1) (Nat.lt_of_lt_of_eq (show (16 + k) + 1 < (xs).length by omega) (rfl : (xs).length = (xs).length).symm)) rfl kj kj) ?_
          refine seq_val (.int .i64 (nth xs ((16 + k) + 1) % 4)) 66 rfl kj (run_eq (u := .int .i64 (Int.tmod ((nth (xs) (((16 + k) + 1)))) (4))) kj (congrArg (Value.int .i64) (show Int.tmod (nth xs ((16 + k) + 1)) 4 = (nth xs ((16 + k) + 1)) % 4 from Int.tmod_eq_emod_of_nonneg (by omega)))) ?_
          refine seq_val (.int .i64 (nth xs ((16 + k) + 1) % 4 * 64)) 67 rfl kj (run_eq (u := .int .i64 (IntKind.i64.wrap ((nth xs ((16 + k) + 1) % 4) * 64))) kj (congrArg (Value.int .i64) (IntWalk.i64_in _ (by omega)))) ?_
          refine seq_val (.int .i64 (nth xs (16 + k) / 4 + nth xs ((16 + k) + 1) % 4 * 64)) 68 rfl kj (run_eq (u := .int .i64 (IntKind.i64.wrap ((nth xs (16 + k) / 4) + (nth xs ((16 + k) + 1) % 4 * 64)))) kj (congrArg (Value.int .i64) (IntWalk.i64_in _ (by omega)))) ?_
          refine seq_val (.int .i64 (nth xs (16 + k) / 4 + nth xs ((16 + k) + 1) % 4 * 64)) 7 rfl kj kj ?_
          refine seq_nil ?_
          refine hK39 _ _ ?_
          try clear hK39 K39
          refine region_lit ?_
          refine seq_val (u2) 69 rfl kj kj ?_
          refine seq_val (.int .i64 (nth xs (16 + k) / 4 + nth xs ((16 + k) + 1) % 4 * 64)) 70 rfl kj kj ?_
          refine seq_makeS (ints .i64 ([(nth xs (16 + k) / 4 + nth xs ((16 + k) + 1) % 4 * 64)])) 3 1 71 rfl kj kj fun g43 W6 l43 e6 r43_6 => ?_
          have x6 : Ext w W6 := Ext.tr xx3 e6
          have b43 : w.heap.size ≤ g43 := Nat.le_trans xx3.size l43
          have f44_6 := (hu2.ext e6)
          have y4_6 : Ext W4 W6 := (Rely.Ext.trans e5 e6)
          refine seq_appendN (k := .i64) (T := 3) (xs := hs) (ys := [(nth xs (16 + k) / 4 + nth xs ((16 + k) + 1) % 4 * 64)]) (V := W4) 8 (.tmp 69) (.tmp 71) 54 rfl kj kj (by decide) 72 rfl kj kj kj f44_6 (rdK_ints (xs := [(nth xs (16 + k) / 4 + nth xs ((16 + k) + 1) % 4 * 64)]) (n := 1) rfl r43_6 (row_lt r43_6) (show 1 ≤ maxLen from by decide)) (by show hs.length + 1 ≤ _; omega) y4_6 fun y3_ W7 f45 y7 l7 => ?_
          have x7 : Ext w W7 := Ext.low x6 l7 x4.size
          refine seq_val (y3_) 4 rfl kj kj ?_
          refine seq_nil ?_
          refine hK37 _ _ ?_
          try clear hK37 K37
          refine region_lit ?_
          refine seq_val (.int .i64 ((16 + k : Nat) : Int)) 48 rfl kj kj ?_
          refine seq_val (.int .i64 (((16 + k) + 1 : Nat) : Int)) 49 rfl kj (run_eq (u := .int .i64 (IntKind.i64.wrap (((16 + k : Nat) : Int) + 1))) kj (congrArg (Value.int .i64) (i64n _ _ (by omega) (by omega)))) ?_
          refine seq_val (.int .i64 (((16 + k) + 1 : Nat) : Int)) 6 rfl kj kj ?_
          refine seq_nil ?_
          repeat (first | with_reducible refine goX1 ?_ | with_reducible refine goX2 ?_ | with_reducible refine goX3 ?_)
          exact goes_then ((k + 1), hs ++ [(nth xs (16 + k) / 4 + nth xs ((16 + k) + 1) % 4 * 64)], y3_) ⟨rfl, rfl, rfl, rfl, trivial⟩ ⟨(show 16 + (k + 1) ≤ xs.length by omega), (show (hs ++ [(nth xs (16 + k) / 4 + nth xs ((16 + k) + 1) % 4 * 64)]).length = k + 1 by rw [List.length_append, hhl]; rfl), (show AreBytes (hs ++ [(nth xs (16 + k) / 4 + nth xs ((16 + k) + 1) % 4 * 64)]) from bytes_app hhb (bytes_one (by omega) (by omega))), (high_step (d := (nth xs (16 + k) / 4 + nth xs ((16 + k) + 1) % 4 * 64)) rfl rfl hhl hlt47 (by first | rfl | (rw [hy0]; omega)) hhv), f45, y7, x7⟩ (by show xs.length - (16 + (k + 1)) < xs.length - (16 + k); omega)
        · skip
          have hk1 : xs.length ≤ 16 + (k + 1) := by have := of_decide_eq_false c41; omega
          have hy0 := nth_ge xs _ hk1
          refine wp_skip ?_
          refine hK39 _ _ ?_
          try clear hK39 K39
          refine region_lit ?_
          refine seq_val (u2) 69 rfl kj kj ?_
          refine seq_val (.int .i64 (nth xs (16 + k) / 4)) 70 rfl kj kj ?_
          refine seq_makeS (ints .i64 ([(nth xs (16 + k) / 4)])) 3 1 71 rfl kj kj fun g47 W6 l47 e6 r47_6 => ?_
          have x6 : Ext w W6 := Ext.tr xx3 e6
          have b47 : w.heap.size ≤ g47 := Nat.le_trans xx3.size l47
          have f48_6 := (hu2.ext e6)
          have y4_6 : Ext W4 W6 := (Rely.Ext.trans e5 e6)
          refine seq_appendN (k := .i64) (T := 3) (xs := hs) (ys := [(nth xs (16 + k) / 4)]) (V := W4) 8 (.tmp 69) (.tmp 71) 54 rfl kj kj (by decide) 72 rfl kj kj kj f48_6 (rdK_ints (xs := [(nth xs (16 + k) / 4)]) (n := 1) rfl r47_6 (row_lt r47_6) (show 1 ≤ maxLen from by decide)) (by show hs.length + 1 ≤ _; omega) y4_6 fun y4_ W7 f49 y7 l7 => ?_
          have x7 : Ext w W7 := Ext.low x6 l7 x4.size
          refine seq_val (y4_) 4 rfl kj kj ?_
          refine seq_nil ?_
          refine hK37 _ _ ?_
          try clear hK37 K37
          refine region_lit ?_
          refine seq_val (.int .i64 ((16 + k : Nat) : Int)) 48 rfl kj kj ?_
          refine seq_val (.int .i64 (((16 + k) + 1 : Nat) : Int)) 49 rfl kj (run_eq (u := .int .i64 (IntKind.i64.wrap (((16 + k : Nat) : Int) + 1))) kj (congrArg (Value.int .i64) (i64n _ _ (by omega) (by omega)))) ?_
          refine seq_val (.int .i64 (((16 + k) + 1 : Nat) : Int)) 6 rfl kj kj ?_
          refine seq_nil ?_
          repeat (first | with_reducible refine goX1 ?_ | with_reducible refine goX2 ?_ | with_reducible refine goX3 ?_)
          exact goes_then ((k + 1), hs ++ [(nth xs (16 + k) / 4)], y4_) ⟨rfl, rfl, rfl, rfl, trivial⟩ ⟨(show 16 + (k + 1) ≤ xs.length by omega), (show (hs ++ [(nth xs (16 + k) / 4)]).length = k + 1 by rw [List.length_append, hhl]; rfl), (show AreBytes (hs ++ [(nth xs (16 + k) / 4)]) from bytes_app hhb (bytes_one (by omega) (by omega))), (high_step (d := (nth xs (16 + k) / 4)) rfl rfl hhl hlt47 (by first | rfl | (rw [hy0]; omega)) hhv), f49, y7, x7⟩ (by show xs.length - (16 + (k + 1)) < xs.length - (16 + k); omega)
      · skip
        have heq47 : 16 + k = xs.length := by have := of_decide_eq_false c32; omega
        have hhe : 4 * lev hs + nth xs 16 % 4 = lev (xs.drop 16) := by
          rw [hhv, List.take_of_length_le (by rw [List.length_drop]; omega), nth_ge xs _ (by omega)]; omega
        refine wp_exit ?_
        refine hK28 _ _ ?_
        try clear hK28 K28
        refine region_lit ?_
        have f51_5 := (f26.ext e5)
        obtain ⟨low, elow⟩ : ∃ z, z = xs.take 16 ++ [nth xs 16 % 4] := ⟨_, rfl⟩
        have hlw : OwnN .i64 3 V1.heap.size low y2_ V3 := elow ▸ f51_5
        obtain ⟨al, cl, rfl, -⟩ := id (OwnN.rd hlw)
        have hll : low.length = 17 := by rw [elow, List.length_append, List.length_take]; show min 16 xs.length + 1 = 17; omega
        have hlb : AreBytes low := elow ▸ bytes_app (bytes_take hxb 16) (bytes_one (by have := bytes_nth hxb 16; omega) (by omega))
        have hsp := small_split h17 elow hhe
        have hlo := small_low hxb h17 elow
        obtain ⟨ah, ch, rfl, -⟩ := id (OwnN.rd hu2)
        refine seq_val (.slice al low.length cl) 73 rfl kj kj ?_
        refine seq_val (.slice ah hs.length ch) 74 rfl kj kj ?_
        refine seq_makeS (ints .i64 ([5])) 3 1 75 rfl kj kj fun g52 W6 l52 e6 r52_6 => ?_
        have x6 : Ext w W6 := Ext.tr xx3 e6
        have b52 : w.heap.size ≤ g52 := Nat.le_trans xx3.size l52
        have f54_6 := (hu2.ext e6)
        refine seq_callR (fun v W' => (DigR W6.heap.size (lev hs * lev [5]) (hs.length + 1 + 1)) v W' ∧ Ext W6 W') 30 #[.slice ah hs.length ch, .slice (some ⟨g52, 0, none⟩) 1 1] 76 rfl kj kj ((rtimesC hs [5] _ _ _ _ _ (OwnN.rd f54_6) (rdK_ints (xs := [5]) (n := 1) rfl r52_6 (row_lt r52_6) (show 1 ≤ maxLen from by decide)) (by omega) (by decide) hhb (bytes_one (by decide) (by decide))).mono (by rintro e w' ⟨v, rfl, e1, hv⟩; exact ⟨v, rfl, hv, e1⟩)) fun vv55 W7 hh55 => ?_
        obtain ⟨hv55, e7⟩ := hh55
        have x7 : Ext w W7 := Ext.tr x6 e7
        obtain ⟨zs53, hzb53, hzv53, hzl53, hzo53⟩ := hv55
        obtain ⟨az53, cz53, rfl, -⟩ := id (OwnN.rd hzo53)
        have f57_6 := (hlw.ext e6)
        have f58_7 := (f57_6.ext e7)
        refine seq_callR (fun v W' => (DigR W7.heap.size (lev low + lev zs53) (max low.length zs53.length + 1)) v W' ∧ Ext W7 W') 31 #[.slice al low.length cl, .slice az53 zs53.length cz53] 77 rfl kj kj ((rplusC low zs53 _ _ _ _ _ (OwnN.rd f58_7) (OwnN.rd hzo53) (by omega) (by omega) hlb hzb53).mono (by rintro e w' ⟨v, rfl, e1, hv⟩; exact ⟨v, rfl, hv, e1⟩)) fun vv59 W8 hh59 => ?_
        obtain ⟨hv59, e8⟩ := hh59
        have x8 : Ext w W8 := Ext.tr x7 e8
        obtain ⟨zs56, hzb56, hzv56, hzl56, hzo56⟩ := hv59
        obtain ⟨az56, cz56, rfl, -⟩ := id (OwnN.rd hzo56)
        refine seq_callR (fun v W' => (fun v W => ∃ m, m ≤ zs56.length ∧ v = .slice az56 m cz56 ∧ lev (zs56.take m) = lev zs56 ∧ (m = 0 ∨ nth zs56 (m - 1) ≠ 0)) v W' ∧ Ext W8 W') 29 #[.slice az56 zs56.length cz56] 78 rfl kj kj ((rtrimC zs56 _ _ _ _ (OwnN.rd hzo56) (by omega)).mono (by rintro e w' ⟨v, rfl, e1, hv⟩; exact ⟨v, rfl, hv, e1⟩)) fun vv61 W9 hh61 => ?_
        obtain ⟨hv61, e9⟩ := hh61
        have x9 : Ext w W9 := Ext.tr x8 e9
        obtain ⟨m60, hm60, rfl, hv60, ht60⟩ := hv61
        have htl60 : (zs56.take m60).length = m60 := by rw [List.length_take]; omega
        refine seq_val (.slice az56 m60 cz56) 0 rfl kj kj ?_
        refine seq_nil ?_
        have hnew : lev (zs56.take m60) = lev low + 5 * lev hs := by rw [hv60, hzv56, hzv53]; simp only [lev]; omega
        have hhp := lev_nonneg hhb
        have f62_9 := (hzo56.ext e9)
        have y0_2 : Ext w V2 := (Rely.Ext.trans e1 e2)
        have y0_3 : Ext w W3 := (Rely.Ext.trans y0_2 e3)
        have y0_4 : Ext w W4 := (Ext.low y0_3 l4 e1.size)
        have y0_5 : Ext w V3 := (Rely.Ext.trans y0_4 e5)
        have y0_6 : Ext w W6 := (Rely.Ext.trans y0_5 e6)
        have y0_7 : Ext w W7 := (Rely.Ext.trans y0_6 e7)
        have y0_8 : Ext w W8 := (Rely.Ext.trans y0_7 e8)
        have y0_9 : Ext w W9 := (Rely.Ext.trans y0_8 e9)
        repeat (first | with_reducible refine goX1 ?_ | with_reducible refine goX2 ?_ | with_reducible refine goX3 ?_)
        exact goes_then ((zs56.take m60), (.slice az56 m60 cz56)) ⟨rfl, trivial⟩ ⟨(bytes_take hzb56 m60), (trimmed_take hm60 ht60), (small_mod (h := lev hs) (by rw [hnew]; omega) hxm), (by show (zs56.take m60).length ≤ _; rw [List.length_take]; omega), (RdK.here (rdK_take (OwnN.rd f62_9) m60 hm60)), y0_9, x9⟩ (by show (lev (zs56.take m60)).toNat < (lev xs).toNat; omega)
  · skip
    obtain ⟨grx63, orx63, harx63, -, hlrx63, hcrx63⟩ := rdK_at hrx (by omega)
    have h17 : 17 ≤ xs.length := by omega
    have hbig := small_big hxb hxt (.inr hq)
    refine region_lit ?_
    refine seq_val (.slice ax xs.length cx) 8 rfl kj kj ?_
    refine seq_val (.int .i64 ((xs.length : Nat) : Int)) 9 rfl kj kj ?_
    refine seq_val (.bool false) 10 rfl kj (run_eq (u := .bool (decide (((xs.length : Nat) : Int) > 17))) kj (congrArg Value.bool (decide_eq_false (by omega)))) ?_
    refine seq_val (.bool false) 11 rfl kj kj ?_
    refine seq_val (.slice ax xs.length cx) 12 rfl kj kj ?_
    refine seq_val (.int .i64 ((xs.length : Nat) : Int)) 13 rfl kj kj ?_
    refine seq_val (.bool true) 14 rfl kj (run_eq (u := .bool ((((xs.length : Nat) : Int) == 17))) kj (congrArg Value.bool (by rw [hq.1]; rfl))) ?_
    refine seq_val (.bool true) 15 rfl kj kj ?_
    refine seq_val (.slice ax xs.length cx) 16 rfl kj kj ?_
    refine seq_val (.pointer (some ⟨grx63, orx63 + 16, none⟩)) 17 rfl kj (run_indexA 54 _ _ .i64 16 grx63 orx63 xs.length cx 3 ax _ harx63 rfl rfl kj kj kj kj (Nat.lt_of_lt_of_eq (show 16 < (xs).length by omega) (rfl : (xs).length = (xs).length).symm)) ?_
    refine seq_val (.int .i64 (nth (xs) (16))) 18 rfl kj (run_loadCell 3 _ _ (.int .i64 (nth (xs) (16))) (hcrx63 16 (Nat.lt_of_lt_of_eq (show 16 < (xs).length by omega) (rfl : (xs).length = (xs).length).symm)) rfl kj kj) ?_
    refine seq_val (.bool true) 19 rfl kj (run_eq (u := .bool (decide ((nth (xs) (16)) > 3))) kj (congrArg Value.bool (decide_eq_true (by omega)))) ?_
    refine seq_val (.bool true) 20 rfl kj kj ?_
    refine seq_val (.bool true) 21 rfl kj kj ?_
    refine seq_nil ?_
    refine hK4 _ _ ?_
    try clear hK4 K4
    refine cond_true kj ?_
    refine wp_skip ?_
    refine hK3 _ _ ?_
    try clear hK3 K3
    refine wp_block ?_
    refine wp_seq_k fun K64 hK64 => ?_
    refine region_lit ?_
    refine seq_val (.slice none 0 0) 3 rfl kj kj ?_
    refine seq_nil ?_
    refine hK64 _ _ ?_
    try clear hK64 K64
    refine wp_seq_k fun K65 hK65 => ?_
    refine region_lit ?_
    refine seq_val (.slice none 0 0) 4 rfl kj kj ?_
    refine seq_nil ?_
    refine hK65 _ _ ?_
    try clear hK65 K65
    refine wp_seq_k fun K66 hK66 => ?_
    refine wp_seq_k fun K67 hK67 => ?_
    refine region_lit ?_
    refine seq_val (.int .i64 0) 5 rfl kj kj ?_
    refine seq_nil ?_
    refine hK67 _ _ ?_
    try clear hK67 K67
    refine wp_block ?_
    refine loop_auto (fun (s4 : Nat × Value) => [(0, .slice ax xs.length cx), (3, s4.2), (4, .slice none 0 0), (5, .int .i64 ((s4.1 : Nat) : Int))]) (fun (s4 : Nat × Value) W => (s4.1 ≤ xs.length) ∧ (OwnN .i64 3 V1.heap.size (xs.take (min s4.1 16)) s4.2 W) ∧ (Ext V1 W) ∧ (Ext w W)) (fun (s4 : Nat × Value) => xs.length - s4.1) (0, (.slice none 0 0)) ⟨rfl, rfl, rfl, rfl, trivial⟩ ⟨(Nat.zero_le _), (by rw [show min 0 16 = 0 from rfl, List.take_zero]; exact ownN_nil _ _ _ _), (Rely.Ext.refl V1), xx1⟩ fun s4 X4 V4 hI4 => ?_
    obtain ⟨i, u⟩ := s4
    obtain ⟨hi, hu, kk4, xx4⟩ := hI4
    replace hi : i ≤ xs.length := hi
    replace hu : OwnN .i64 3 V1.heap.size (xs.take (min i 16)) u V4 := hu
    replace kk4 : Ext V1 V4 := kk4
    replace xx4 : Ext w V4 := xx4
    have e2 := kk4
    refine wp_seq_k fun K68 hK68 => ?_
    refine wp_seq_k fun K69 hK69 => ?_
    refine region_lit ?_
    refine seq_val (.int .i64 ((i : Nat) : Int)) 22 rfl kj kj ?_
    refine seq_val (.slice ax xs.length cx) 23 rfl kj kj ?_
    refine seq_val (.int .i64 ((xs.length : Nat) : Int)) 24 rfl kj kj ?_
    refine seq_val (.bool (decide (((i : Nat) : Int) < ((xs.length : Nat) : Int)))) 25 rfl kj kj ?_
    refine seq_nil ?_
    refine hK69 _ _ ?_
    try clear hK69 K69
    refine cond_split (t := decide (((i : Nat) : Int) < ((xs.length : Nat) : Int))) kj (fun c70 => ?_) (fun c70 => ?_)
    · skip
      have hlt25 : i < xs.length := by have := of_decide_eq_true c70; omega
      refine wp_skip ?_
      refine hK68 _ _ ?_
      try clear hK68 K68
      refine wp_seq_k fun K71 hK71 => ?_
      refine wp_block ?_
      refine wp_seq_k fun K72 hK72 => ?_
      refine region_lit ?_
      refine seq_val (.int .i64 ((i : Nat) : Int)) 28 rfl kj kj ?_
      refine seq_val (.bool (decide (((i : Nat) : Int) < 16))) 29 rfl kj kj ?_
      refine seq_nil ?_
      refine hK72 _ _ ?_
      try clear hK72 K72
      refine cond_split (t := decide (((i : Nat) : Int) < 16)) kj (fun c73 => ?_) (fun c73 => ?_)
      · skip
        have hi16 : i < 16 := by have := of_decide_eq_true c73; omega
        have f75_2 := (hrx.ext e2)
        obtain ⟨grx74, orx74, harx74, -, hlrx74, hcrx74⟩ := rdK_at f75_2 (by omega)
        refine region_lit ?_
        refine seq_val (u) 30 rfl kj kj ?_
        refine seq_val (.slice ax xs.length cx) 31 rfl kj kj ?_
        refine seq_val (.int .i64 ((i : Nat) : Int)) 32 rfl kj kj ?_
        refine seq_val (.pointer (some ⟨grx74, orx74 + i, none⟩)) 33 rfl kj (run_indexA 54 _ _ .i64 i grx74 orx74 xs.length cx 3 ax _ harx74 rfl rfl kj kj kj kj (Nat.lt_of_lt_of_eq (show i < (xs).length by omega) (rfl : (xs).length = (xs).length).symm)) ?_
        refine seq_val (.int .i64 (nth (xs) (i))) 34 rfl kj (run_loadCell 3 _ _ (.int .i64 (nth (xs) (i))) (hcrx74 i (Nat.lt_of_lt_of_eq (show i < (xs).length by omega) (rfl : (xs).length = (xs).length).symm)) rfl kj kj) ?_
        refine seq_makeS (ints .i64 ([(nth (xs) (i))])) 3 1 35 rfl kj kj fun g76 W3 l76 e3 r76_3 => ?_
        have x3 : Ext w W3 := Ext.tr xx4 e3
        have b76 : w.heap.size ≤ g76 := Nat.le_trans xx4.size l76
        have f77_3 := (hu.ext e3)
        have y1_3 : Ext V1 W3 := (Rely.Ext.trans e2 e3)
        refine seq_appendN (k := .i64) (T := 3) (xs := xs.take (min i 16)) (ys := [(nth (xs) (i))]) (V := V1) 8 (.tmp 30) (.tmp 35) 54 rfl kj kj (by decide) 36 rfl kj kj kj f77_3 (rdK_ints (xs := [(nth (xs) (i))]) (n := 1) rfl r76_3 (row_lt r76_3) (show 1 ≤ maxLen from by decide)) (by rw [List.length_take]; show _ + 1 ≤ _; omega) y1_3 fun y5_ W4 f78 y4 l4 => ?_
        have x4 : Ext w W4 := Ext.low x3 l4 xx1.size
        refine seq_val (y5_) 3 rfl kj kj ?_
        refine seq_nil ?_
        refine hK71 _ _ ?_
        try clear hK71 K71
        refine region_lit ?_
        refine seq_val (.int .i64 ((i : Nat) : Int)) 26 rfl kj kj ?_
        refine seq_val (.int .i64 ((i + 1 : Nat) : Int)) 27 rfl kj (run_eq (u := .int .i64 (IntKind.i64.wrap (((i : Nat) : Int) + 1))) kj (congrArg (Value.int .i64) (i64n _ _ (by omega) (by omega)))) ?_
        refine seq_val (.int .i64 ((i + 1 : Nat) : Int)) 5 rfl kj kj ?_
        refine seq_nil ?_
        repeat (first | with_reducible refine goX1 ?_ | with_reducible refine goX2 ?_ | with_reducible refine goX3 ?_)
        exact goes_then ((i + 1), y5_) ⟨rfl, rfl, rfl, rfl, trivial⟩ ⟨(show i + 1 ≤ xs.length by omega), (by rw [low_take xs i hi16 hlt25]; exact f78), y4, x4⟩ (by show xs.length - (i + 1) < xs.length - i; omega)
      · skip
        have hi16 : 16 ≤ i := by have := of_decide_eq_false c73; omega
        refine wp_skip ?_
        refine hK71 _ _ ?_
        try clear hK71 K71
        refine region_lit ?_
        refine seq_val (.int .i64 ((i : Nat) : Int)) 26 rfl kj kj ?_
        refine seq_val (.int .i64 ((i + 1 : Nat) : Int)) 27 rfl kj (run_eq (u := .int .i64 (IntKind.i64.wrap (((i : Nat) : Int) + 1))) kj (congrArg (Value.int .i64) (i64n _ _ (by omega) (by omega)))) ?_
        refine seq_val (.int .i64 ((i + 1 : Nat) : Int)) 5 rfl kj kj ?_
        refine seq_nil ?_
        repeat (first | with_reducible refine goX1 ?_ | with_reducible refine goX2 ?_ | with_reducible refine goX3 ?_)
        exact goes_then ((i + 1), u) ⟨rfl, rfl, rfl, rfl, trivial⟩ ⟨(show i + 1 ≤ xs.length by omega), (by rw [low_stay xs i hi16]; exact hu), e2, xx4⟩ (by show xs.length - (i + 1) < xs.length - i; omega)
    · skip
      have heq25 : i = xs.length := by have := of_decide_eq_false c70; omega
      have hu16 : OwnN .i64 3 V1.heap.size (xs.take 16) u V4 := by have h9 := hu; rw [show min i 16 = 16 by omega] at h9; exact h9
      refine wp_exit ?_
      refine hK66 _ _ ?_
      try clear hK66 K66
      refine wp_seq_k fun K80 hK80 => ?_
      refine region_lit ?_
      have f82_2 := (hrx.ext e2)
      obtain ⟨grx81, orx81, harx81, -, hlrx81, hcrx81⟩ := rdK_at f82_2 (by omega)
      refine seq_val (u) 37 rfl kj kj ?_
      refine seq_val (.slice ax xs.length cx) 38 rfl kj kj ?_
      refine seq_val (.pointer (some ⟨grx81, orx81 + 16, none⟩)) 39 rfl kj (run_indexA 54 _ _ .i64 16 grx81 orx81 xs.length cx 3 ax _ harx81 rfl rfl kj kj kj kj (Nat.lt_of_lt_of_eq (show 16 < (xs).length by omega) (rfl : (xs).length = (xs).length).symm)) ?_
      refine seq_val (.int .i64 (nth (xs) (16))) 40 rfl kj (run_loadCell 3 _ _ (.int .i64 (nth (xs) (16))) (hcrx81 16 (Nat.lt_of_lt_of_eq (show 16 < (xs).length by omega) (rfl : (xs).length = (xs).length).symm)) rfl kj kj) ?_
      refine seq_val (.int .i64 (nth xs 16 % 4)) 41 rfl kj (run_eq (u := .int .i64 (Int.tmod ((nth (xs) (16))) (4))) kj (congrArg (Value.int .i64) (show Int.tmod (nth xs 16) 4 = nth xs 16 % 4 from Int.tmod_eq_emod_of_nonneg (by have := bytes_nth hxb 16; omega)))) ?_
      refine seq_makeS (ints .i64 ([(nth xs 16 % 4)])) 3 1 42 rfl kj kj fun g83 W3 l83 e3 r83_3 => ?_
      have x3 : Ext w W3 := Ext.tr xx4 e3
      have b83 : w.heap.size ≤ g83 := Nat.le_trans xx4.size l83
      have f84_3 := (hu16.ext e3)
      have y1_3 : Ext V1 W3 := (Rely.Ext.trans e2 e3)
      refine seq_appendN (k := .i64) (T := 3) (xs := xs.take 16) (ys := [(nth xs 16 % 4)]) (V := V1) 8 (.tmp 37) (.tmp 42) 54 rfl kj kj (by decide) 43 rfl kj kj kj f84_3 (rdK_ints (xs := [(nth xs 16 % 4)]) (n := 1) rfl r83_3 (row_lt r83_3) (show 1 ≤ maxLen from by decide)) (by rw [List.length_take]; show _ + 1 ≤ _; omega) y1_3 fun y6_ W4 f85 y4 l4 => ?_
      have x4 : Ext w W4 := Ext.low x3 l4 xx1.size
      refine seq_val (y6_) 3 rfl kj kj ?_
      refine seq_nil ?_
      refine hK80 _ _ ?_
      try clear hK80 K80
      refine wp_seq_k fun K87 hK87 => ?_
      refine wp_seq_k fun K88 hK88 => ?_
      refine region_lit ?_
      refine seq_val (.int .i64 16) 6 rfl kj kj ?_
      refine seq_nil ?_
      refine hK88 _ _ ?_
      try clear hK88 K88
      refine wp_block ?_
      refine loop_auto (fun (s5 : Nat × List Int × Value) => [(0, .slice ax xs.length cx), (3, y6_), (4, s5.2.2), (6, .int .i64 ((16 + s5.1 : Nat) : Int))]) (fun (s5 : Nat × List Int × Value) W => (16 + s5.1 ≤ xs.length) ∧ (s5.2.1.length = s5.1) ∧ (AreBytes s5.2.1) ∧ (4 * lev s5.2.1 + nth xs 16 % 4 = lev ((xs.drop 16).take s5.1) + nth xs (16 + s5.1) % 4 * p256 s5.1) ∧ (OwnN .i64 3 W4.heap.size s5.2.1 s5.2.2 W) ∧ (Ext W4 W) ∧ (Ext w W)) (fun (s5 : Nat × List Int × Value) => xs.length - (16 + s5.1)) (0, [], (.slice none 0 0)) ⟨rfl, rfl, rfl, rfl, trivial⟩ ⟨(show 16 + 0 ≤ xs.length by omega), rfl, (fun x hx => by cases hx), (by show 4 * 0 + nth xs 16 % 4 = 0 + nth xs 16 % 4 * 1; omega), (ownN_nil _ _ _ _), (Rely.Ext.refl W4), x4⟩ fun s5 X5 V5 hI5 => ?_
      obtain ⟨k, hs, u2⟩ := s5
      obtain ⟨hk, hhl, hhb, hhv, hu2, kk5, xx5⟩ := hI5
      replace hk : 16 + k ≤ xs.length := hk
      replace hhl : hs.length = k := hhl
      replace hhb : AreBytes hs := hhb
      replace hhv : 4 * lev hs + nth xs 16 % 4 = lev ((xs.drop 16).take k) + nth xs (16 + k) % 4 * p256 k := hhv
      replace hu2 : OwnN .i64 3 W4.heap.size hs u2 V5 := hu2
      replace kk5 : Ext W4 V5 := kk5
      replace xx5 : Ext w V5 := xx5
      have e5 := kk5
      refine wp_seq_k fun K89 hK89 => ?_
      refine wp_seq_k fun K90 hK90 => ?_
      refine region_lit ?_
      refine seq_val (.int .i64 ((16 + k : Nat) : Int)) 44 rfl kj kj ?_
      refine seq_val (.slice ax xs.length cx) 45 rfl kj kj ?_
      refine seq_val (.int .i64 ((xs.length : Nat) : Int)) 46 rfl kj kj ?_
      refine seq_val (.bool (decide (((16 + k : Nat) : Int) < ((xs.length : Nat) : Int)))) 47 rfl kj kj ?_
      refine seq_nil ?_
      refine hK90 _ _ ?_
      try clear hK90 K90
      refine cond_split (t := decide (((16 + k : Nat) : Int) < ((xs.length : Nat) : Int))) kj (fun c91 => ?_) (fun c91 => ?_)
      · skip
        have hlt47 : 16 + k < xs.length := by have := of_decide_eq_true c91; omega
        have f93_3 := (f82_2.ext e3)
        have f94_4 := (RdK.low f93_3 hrx l4)
        have f95_5 := (f94_4.ext e5)
        obtain ⟨grx92, orx92, harx92, -, hlrx92, hcrx92⟩ := rdK_at f95_5 (by omega)
        have hxk := bytes_nth hxb (16 + k)
        have hxk1 := bytes_nth hxb (16 + (k + 1))
        have hxk2 := bytes_nth hxb ((16 + k) + 1)
        refine wp_skip ?_
        refine hK89 _ _ ?_
        try clear hK89 K89
        refine wp_seq_k fun K96 hK96 => ?_
        refine wp_block ?_
        refine wp_seq_k fun K97 hK97 => ?_
        refine region_lit ?_
        refine seq_val (.slice ax xs.length cx) 50 rfl kj kj ?_
        refine seq_val (.int .i64 ((16 + k : Nat) : Int)) 51 rfl kj kj ?_
        refine seq_val (.pointer (some ⟨grx92, orx92 + (16 + k), none⟩)) 52 rfl kj (run_indexA 54 _ _ .i64 (16 + k) grx92 orx92 xs.length cx 3 ax _ harx92 rfl rfl kj kj kj kj (Nat.lt_of_lt_of_eq (show 16 + k < (xs).length by omega) (rfl : (xs).length = (xs).length).symm)) ?_
        refine seq_val (.int .i64 (nth (xs) ((16 + k)))) 53 rfl kj (run_loadCell 3 _ _ (.int .i64 (nth (xs) ((16 + k)))) (hcrx92 (16 + k) (Nat.lt_of_lt_of_eq (show 16 + k < (xs).length by omega) (rfl : (xs).length = (xs).length).symm)) rfl kj kj) ?_
        refine seq_val (.int .i64 (nth xs (16 + k) / 4)) 54 rfl kj (run_eq (u := .int .i64 (IntKind.i64.wrap (Int.tdiv ((nth (xs) ((16 + k)))) (4)))) kj (congrArg (Value.int .i64) (by rw [show Int.tdiv (nth xs (16 + k)) 4 = (nth xs (16 + k)) / 4 from Int.tdiv_eq_ediv_of_nonneg (by omega)]; exact IntWalk.i64_in _ (by omega)))) ?_
        refine seq_val (.int .i64 (nth xs (16 + k) / 4)) 7 rfl kj kj ?_
        refine seq_nil ?_
        refine hK97 _ _ ?_
        try clear hK97 K97
        refine wp_seq_k fun K98 hK98 => ?_
        refine wp_seq_k fun K99 hK99 => ?_
        refine region_lit ?_
        refine seq_val (.int .i64 ((16 + k : Nat) : Int)) 55 rfl kj kj ?_
        refine seq_val (.int .i64 (((16 + k) + 1 : Nat) : Int)) 56 rfl kj (run_eq (u := .int .i64 (IntKind.i64.wrap (((16 + k : Nat) : Int) + 1))) kj (congrArg (Value.int .i64) (i64n _ _ (by omega) (by omega)))) ?_
        refine seq_val (.slice ax xs.length cx) 57 rfl kj kj ?_
        refine seq_val (.int .i64 ((xs.length : Nat) : Int)) 58 rfl kj kj ?_
        refine seq_val (.bool (decide ((((16 + k) + 1 : Nat) : Int) < ((xs.length : Nat) : Int)))) 59 rfl kj kj ?_
        refine seq_nil ?_
        refine hK99 _ _ ?_
        try clear hK99 K99
        refine cond_split (t := decide ((((16 + k) + 1 : Nat) : Int) < ((xs.length : Nat) : Int))) kj (fun c100 => ?_) (fun c100 => ?_)
        · skip
          have hk1 : 16 + (k + 1) < xs.length := by have := of_decide_eq_true c100; omega
          obtain ⟨grx101, orx101, harx101, -, hlrx101, hcrx101⟩ := rdK_at f95_5 (by omega)
          refine region_lit ?_
          refine seq_val (.int .i64 (nth xs (16 + k) / 4)) 60 rfl kj kj ?_
          refine seq_val (.slice ax xs.length cx) 61 rfl kj kj ?_
          refine seq_val (.int .i64 ((16 + k : Nat) : Int)) 62 rfl kj kj ?_
          refine seq_val (.int .i64 (((16 + k) + 1 : Nat) : Int)) 63 rfl kj (run_eq (u := .int .i64 (IntKind.i64.wrap (((16 + k : Nat) : Int) + 1))) kj (congrArg (Value.int .i64) (i64n _ _ (by omega) (by omega)))) ?_
          refine seq_val (.pointer (some ⟨grx101, orx101 + ((16 + k) + 1), none⟩)) 64 rfl kj (run_indexA 54 _ _ .i64 ((16 + k) + 1) grx101 orx101 xs.length cx 3 ax _ harx101 rfl rfl kj kj kj kj (Nat.lt_of_lt_of_eq (show (16 + k) + 1 < (xs).length by omega) (rfl : (xs).length = (xs).length).symm)) ?_
          refine seq_val (.int .i64 (nth (xs) (((16 + k) + 1)))) 65 rfl kj (run_loadCell 3 _ _ (.int .i64 (nth (xs) (((16 + k) + 1)))) (hcrx101 ((16 + k) + 1) (Nat.lt_of_lt_of_eq (show (16 + k) + 1 < (xs).length by omega) (rfl : (xs).length = (xs).length).symm)) rfl kj kj) ?_
          refine seq_val (.int .i64 (nth xs ((16 + k) + 1) % 4)) 66 rfl kj (run_eq (u := .int .i64 (Int.tmod ((nth (xs) (((16 + k) + 1)))) (4))) kj (congrArg (Value.int .i64) (show Int.tmod (nth xs ((16 + k) + 1)) 4 = (nth xs ((16 + k) + 1)) % 4 from Int.tmod_eq_emod_of_nonneg (by omega)))) ?_
          refine seq_val (.int .i64 (nth xs ((16 + k) + 1) % 4 * 64)) 67 rfl kj (run_eq (u := .int .i64 (IntKind.i64.wrap ((nth xs ((16 + k) + 1) % 4) * 64))) kj (congrArg (Value.int .i64) (IntWalk.i64_in _ (by omega)))) ?_
          refine seq_val (.int .i64 (nth xs (16 + k) / 4 + nth xs ((16 + k) + 1) % 4 * 64)) 68 rfl kj (run_eq (u := .int .i64 (IntKind.i64.wrap ((nth xs (16 + k) / 4) + (nth xs ((16 + k) + 1) % 4 * 64)))) kj (congrArg (Value.int .i64) (IntWalk.i64_in _ (by omega)))) ?_
          refine seq_val (.int .i64 (nth xs (16 + k) / 4 + nth xs ((16 + k) + 1) % 4 * 64)) 7 rfl kj kj ?_
          refine seq_nil ?_
          refine hK98 _ _ ?_
          try clear hK98 K98
          refine region_lit ?_
          refine seq_val (u2) 69 rfl kj kj ?_
          refine seq_val (.int .i64 (nth xs (16 + k) / 4 + nth xs ((16 + k) + 1) % 4 * 64)) 70 rfl kj kj ?_
          refine seq_makeS (ints .i64 ([(nth xs (16 + k) / 4 + nth xs ((16 + k) + 1) % 4 * 64)])) 3 1 71 rfl kj kj fun g102 W6 l102 e6 r102_6 => ?_
          have x6 : Ext w W6 := Ext.tr xx5 e6
          have b102 : w.heap.size ≤ g102 := Nat.le_trans xx5.size l102
          have f103_6 := (hu2.ext e6)
          have y4_6 : Ext W4 W6 := (Rely.Ext.trans e5 e6)
          refine seq_appendN (k := .i64) (T := 3) (xs := hs) (ys := [(nth xs (16 + k) / 4 + nth xs ((16 + k) + 1) % 4 * 64)]) (V := W4) 8 (.tmp 69) (.tmp 71) 54 rfl kj kj (by decide) 72 rfl kj kj kj f103_6 (rdK_ints (xs := [(nth xs (16 + k) / 4 + nth xs ((16 + k) + 1) % 4 * 64)]) (n := 1) rfl r102_6 (row_lt r102_6) (show 1 ≤ maxLen from by decide)) (by show hs.length + 1 ≤ _; omega) y4_6 fun y7_ W7 f104 y7 l7 => ?_
          have x7 : Ext w W7 := Ext.low x6 l7 x4.size
          refine seq_val (y7_) 4 rfl kj kj ?_
          refine seq_nil ?_
          refine hK96 _ _ ?_
          try clear hK96 K96
          refine region_lit ?_
          refine seq_val (.int .i64 ((16 + k : Nat) : Int)) 48 rfl kj kj ?_
          refine seq_val (.int .i64 (((16 + k) + 1 : Nat) : Int)) 49 rfl kj (run_eq (u := .int .i64 (IntKind.i64.wrap (((16 + k : Nat) : Int) + 1))) kj (congrArg (Value.int .i64) (i64n _ _ (by omega) (by omega)))) ?_
          refine seq_val (.int .i64 (((16 + k) + 1 : Nat) : Int)) 6 rfl kj kj ?_
          refine seq_nil ?_
          repeat (first | with_reducible refine goX1 ?_ | with_reducible refine goX2 ?_ | with_reducible refine goX3 ?_)
          exact goes_then ((k + 1), hs ++ [(nth xs (16 + k) / 4 + nth xs ((16 + k) + 1) % 4 * 64)], y7_) ⟨rfl, rfl, rfl, rfl, trivial⟩ ⟨(show 16 + (k + 1) ≤ xs.length by omega), (show (hs ++ [(nth xs (16 + k) / 4 + nth xs ((16 + k) + 1) % 4 * 64)]).length = k + 1 by rw [List.length_append, hhl]; rfl), (show AreBytes (hs ++ [(nth xs (16 + k) / 4 + nth xs ((16 + k) + 1) % 4 * 64)]) from bytes_app hhb (bytes_one (by omega) (by omega))), (high_step (d := (nth xs (16 + k) / 4 + nth xs ((16 + k) + 1) % 4 * 64)) rfl rfl hhl hlt47 (by first | rfl | (rw [hy0]; omega)) hhv), f104, y7, x7⟩ (by show xs.length - (16 + (k + 1)) < xs.length - (16 + k); omega)
        · skip
          have hk1 : xs.length ≤ 16 + (k + 1) := by have := of_decide_eq_false c100; omega
          have hy0 := nth_ge xs _ hk1
          refine wp_skip ?_
          refine hK98 _ _ ?_
          try clear hK98 K98
          refine region_lit ?_
          refine seq_val (u2) 69 rfl kj kj ?_
          refine seq_val (.int .i64 (nth xs (16 + k) / 4)) 70 rfl kj kj ?_
          refine seq_makeS (ints .i64 ([(nth xs (16 + k) / 4)])) 3 1 71 rfl kj kj fun g106 W6 l106 e6 r106_6 => ?_
          have x6 : Ext w W6 := Ext.tr xx5 e6
          have b106 : w.heap.size ≤ g106 := Nat.le_trans xx5.size l106
          have f107_6 := (hu2.ext e6)
          have y4_6 : Ext W4 W6 := (Rely.Ext.trans e5 e6)
          refine seq_appendN (k := .i64) (T := 3) (xs := hs) (ys := [(nth xs (16 + k) / 4)]) (V := W4) 8 (.tmp 69) (.tmp 71) 54 rfl kj kj (by decide) 72 rfl kj kj kj f107_6 (rdK_ints (xs := [(nth xs (16 + k) / 4)]) (n := 1) rfl r106_6 (row_lt r106_6) (show 1 ≤ maxLen from by decide)) (by show hs.length + 1 ≤ _; omega) y4_6 fun y8_ W7 f108 y7 l7 => ?_
          have x7 : Ext w W7 := Ext.low x6 l7 x4.size
          refine seq_val (y8_) 4 rfl kj kj ?_
          refine seq_nil ?_
          refine hK96 _ _ ?_
          try clear hK96 K96
          refine region_lit ?_
          refine seq_val (.int .i64 ((16 + k : Nat) : Int)) 48 rfl kj kj ?_
          refine seq_val (.int .i64 (((16 + k) + 1 : Nat) : Int)) 49 rfl kj (run_eq (u := .int .i64 (IntKind.i64.wrap (((16 + k : Nat) : Int) + 1))) kj (congrArg (Value.int .i64) (i64n _ _ (by omega) (by omega)))) ?_
          refine seq_val (.int .i64 (((16 + k) + 1 : Nat) : Int)) 6 rfl kj kj ?_
          refine seq_nil ?_
          repeat (first | with_reducible refine goX1 ?_ | with_reducible refine goX2 ?_ | with_reducible refine goX3 ?_)
          exact goes_then ((k + 1), hs ++ [(nth xs (16 + k) / 4)], y8_) ⟨rfl, rfl, rfl, rfl, trivial⟩ ⟨(show 16 + (k + 1) ≤ xs.length by omega), (show (hs ++ [(nth xs (16 + k) / 4)]).length = k + 1 by rw [List.length_append, hhl]; rfl), (show AreBytes (hs ++ [(nth xs (16 + k) / 4)]) from bytes_app hhb (bytes_one (by omega) (by omega))), (high_step (d := (nth xs (16 + k) / 4)) rfl rfl hhl hlt47 (by first | rfl | (rw [hy0]; omega)) hhv), f108, y7, x7⟩ (by show xs.length - (16 + (k + 1)) < xs.length - (16 + k); omega)
      · skip
        have heq47 : 16 + k = xs.length := by have := of_decide_eq_false c91; omega
        have hhe : 4 * lev hs + nth xs 16 % 4 = lev (xs.drop 16) := by
          rw [hhv, List.take_of_length_le (by rw [List.length_drop]; omega), nth_ge xs _ (by omega)]; omega
        refine wp_exit ?_
        refine hK87 _ _ ?_
        try clear hK87 K87
        refine region_lit ?_
        have f110_5 := (f85.ext e5)
        obtain ⟨low, elow⟩ : ∃ z, z = xs.take 16 ++ [nth xs 16 % 4] := ⟨_, rfl⟩
        have hlw : OwnN .i64 3 V1.heap.size low y6_ V5 := elow ▸ f110_5
        obtain ⟨al, cl, rfl, -⟩ := id (OwnN.rd hlw)
        have hll : low.length = 17 := by rw [elow, List.length_append, List.length_take]; show min 16 xs.length + 1 = 17; omega
        have hlb : AreBytes low := elow ▸ bytes_app (bytes_take hxb 16) (bytes_one (by have := bytes_nth hxb 16; omega) (by omega))
        have hsp := small_split h17 elow hhe
        have hlo := small_low hxb h17 elow
        obtain ⟨ah, ch, rfl, -⟩ := id (OwnN.rd hu2)
        refine seq_val (.slice al low.length cl) 73 rfl kj kj ?_
        refine seq_val (.slice ah hs.length ch) 74 rfl kj kj ?_
        refine seq_makeS (ints .i64 ([5])) 3 1 75 rfl kj kj fun g111 W6 l111 e6 r111_6 => ?_
        have x6 : Ext w W6 := Ext.tr xx5 e6
        have b111 : w.heap.size ≤ g111 := Nat.le_trans xx5.size l111
        have f113_6 := (hu2.ext e6)
        refine seq_callR (fun v W' => (DigR W6.heap.size (lev hs * lev [5]) (hs.length + 1 + 1)) v W' ∧ Ext W6 W') 30 #[.slice ah hs.length ch, .slice (some ⟨g111, 0, none⟩) 1 1] 76 rfl kj kj ((rtimesC hs [5] _ _ _ _ _ (OwnN.rd f113_6) (rdK_ints (xs := [5]) (n := 1) rfl r111_6 (row_lt r111_6) (show 1 ≤ maxLen from by decide)) (by omega) (by decide) hhb (bytes_one (by decide) (by decide))).mono (by rintro e w' ⟨v, rfl, e1, hv⟩; exact ⟨v, rfl, hv, e1⟩)) fun vv114 W7 hh114 => ?_
        obtain ⟨hv114, e7⟩ := hh114
        have x7 : Ext w W7 := Ext.tr x6 e7
        obtain ⟨zs112, hzb112, hzv112, hzl112, hzo112⟩ := hv114
        obtain ⟨az112, cz112, rfl, -⟩ := id (OwnN.rd hzo112)
        have f116_6 := (hlw.ext e6)
        have f117_7 := (f116_6.ext e7)
        refine seq_callR (fun v W' => (DigR W7.heap.size (lev low + lev zs112) (max low.length zs112.length + 1)) v W' ∧ Ext W7 W') 31 #[.slice al low.length cl, .slice az112 zs112.length cz112] 77 rfl kj kj ((rplusC low zs112 _ _ _ _ _ (OwnN.rd f117_7) (OwnN.rd hzo112) (by omega) (by omega) hlb hzb112).mono (by rintro e w' ⟨v, rfl, e1, hv⟩; exact ⟨v, rfl, hv, e1⟩)) fun vv118 W8 hh118 => ?_
        obtain ⟨hv118, e8⟩ := hh118
        have x8 : Ext w W8 := Ext.tr x7 e8
        obtain ⟨zs115, hzb115, hzv115, hzl115, hzo115⟩ := hv118
        obtain ⟨az115, cz115, rfl, -⟩ := id (OwnN.rd hzo115)
        refine seq_callR (fun v W' => (fun v W => ∃ m, m ≤ zs115.length ∧ v = .slice az115 m cz115 ∧ lev (zs115.take m) = lev zs115 ∧ (m = 0 ∨ nth zs115 (m - 1) ≠ 0)) v W' ∧ Ext W8 W') 29 #[.slice az115 zs115.length cz115] 78 rfl kj kj ((rtrimC zs115 _ _ _ _ (OwnN.rd hzo115) (by omega)).mono (by rintro e w' ⟨v, rfl, e1, hv⟩; exact ⟨v, rfl, hv, e1⟩)) fun vv120 W9 hh120 => ?_
        obtain ⟨hv120, e9⟩ := hh120
        have x9 : Ext w W9 := Ext.tr x8 e9
        obtain ⟨m119, hm119, rfl, hv119, ht119⟩ := hv120
        have htl119 : (zs115.take m119).length = m119 := by rw [List.length_take]; omega
        refine seq_val (.slice az115 m119 cz115) 0 rfl kj kj ?_
        refine seq_nil ?_
        have hnew : lev (zs115.take m119) = lev low + 5 * lev hs := by rw [hv119, hzv115, hzv112]; simp only [lev]; omega
        have hhp := lev_nonneg hhb
        have f121_9 := (hzo115.ext e9)
        have y0_2 : Ext w V4 := (Rely.Ext.trans e1 e2)
        have y0_3 : Ext w W3 := (Rely.Ext.trans y0_2 e3)
        have y0_4 : Ext w W4 := (Ext.low y0_3 l4 e1.size)
        have y0_5 : Ext w V5 := (Rely.Ext.trans y0_4 e5)
        have y0_6 : Ext w W6 := (Rely.Ext.trans y0_5 e6)
        have y0_7 : Ext w W7 := (Rely.Ext.trans y0_6 e7)
        have y0_8 : Ext w W8 := (Rely.Ext.trans y0_7 e8)
        have y0_9 : Ext w W9 := (Rely.Ext.trans y0_8 e9)
        repeat (first | with_reducible refine goX1 ?_ | with_reducible refine goX2 ?_ | with_reducible refine goX3 ?_)
        exact goes_then ((zs115.take m119), (.slice az115 m119 cz115)) ⟨rfl, trivial⟩ ⟨(bytes_take hzb115 m119), (trimmed_take hm119 ht119), (small_mod (h := lev hs) (by rw [hnew]; omega) hxm), (by show (zs115.take m119).length ≤ _; rw [List.length_take]; omega), (RdK.here (rdK_take (OwnN.rd f121_9) m119 hm119)), y0_9, x9⟩ (by show (lev (zs115.take m119)).toNat < (lev xs).toNat; omega)
  · skip
    obtain ⟨grx122, orx122, harx122, -, hlrx122, hcrx122⟩ := rdK_at hrx (by omega)
    have h17 : 17 ≤ xs.length := by omega
    have hend := small_end hxb (.inr hq)
    refine region_lit ?_
    refine seq_val (.slice ax xs.length cx) 8 rfl kj kj ?_
    refine seq_val (.int .i64 ((xs.length : Nat) : Int)) 9 rfl kj kj ?_
    refine seq_val (.bool false) 10 rfl kj (run_eq (u := .bool (decide (((xs.length : Nat) : Int) > 17))) kj (congrArg Value.bool (decide_eq_false (by omega)))) ?_
    refine seq_val (.bool false) 11 rfl kj kj ?_
    refine seq_val (.slice ax xs.length cx) 12 rfl kj kj ?_
    refine seq_val (.int .i64 ((xs.length : Nat) : Int)) 13 rfl kj kj ?_
    refine seq_val (.bool true) 14 rfl kj (run_eq (u := .bool ((((xs.length : Nat) : Int) == 17))) kj (congrArg Value.bool (by rw [hq.1]; rfl))) ?_
    refine seq_val (.bool true) 15 rfl kj kj ?_
    refine seq_val (.slice ax xs.length cx) 16 rfl kj kj ?_
    refine seq_val (.pointer (some ⟨grx122, orx122 + 16, none⟩)) 17 rfl kj (run_indexA 54 _ _ .i64 16 grx122 orx122 xs.length cx 3 ax _ harx122 rfl rfl kj kj kj kj (Nat.lt_of_lt_of_eq (show 16 < (xs).length by omega) (rfl : (xs).length = (xs).length).symm)) ?_
    refine seq_val (.int .i64 (nth (xs) (16))) 18 rfl kj (run_loadCell 3 _ _ (.int .i64 (nth (xs) (16))) (hcrx122 16 (Nat.lt_of_lt_of_eq (show 16 < (xs).length by omega) (rfl : (xs).length = (xs).length).symm)) rfl kj kj) ?_
    refine seq_val (.bool false) 19 rfl kj (run_eq (u := .bool (decide ((nth (xs) (16)) > 3))) kj (congrArg Value.bool (decide_eq_false (by omega)))) ?_
    refine seq_val (.bool false) 20 rfl kj kj ?_
    refine seq_val (.bool false) 21 rfl kj kj ?_
    refine seq_nil ?_
    refine hK4 _ _ ?_
    try clear hK4 K4
    refine cond_false kj ?_
    refine wp_exit ?_
    refine hK2 _ _ ?_
    try clear hK2 K2
    refine wp_seq_k fun K123 hK123 => ?_
    refine region_lit ?_
    refine seq_val (.slice ax xs.length cx) 79 rfl kj kj ?_
    refine seq_val (.slice ax xs.length cx) 2 rfl kj kj ?_
    refine seq_nil ?_
    refine hK123 _ _ ?_
    try clear hK123 K123
    refine wp_ret ?_
    repeat (first | with_reducible refine goR1 ?_ | with_reducible refine goR2 ?_)
    exact (show bodyPost _ _ _ .ret _ _ from ret1 (.slice ax xs.length cx) rfl (res_tmp kj) ⟨_, rfl, xx1, xs, hxb, hxm, hend, (by omega), RdK.here hrx⟩)
  · skip
    have hend := small_end hxb (.inl hq)
    refine region_lit ?_
    refine seq_val (.slice ax xs.length cx) 8 rfl kj kj ?_
    refine seq_val (.int .i64 ((xs.length : Nat) : Int)) 9 rfl kj kj ?_
    refine seq_val (.bool false) 10 rfl kj (run_eq (u := .bool (decide (((xs.length : Nat) : Int) > 17))) kj (congrArg Value.bool (decide_eq_false (by omega)))) ?_
    refine seq_val (.bool false) 11 rfl kj kj ?_
    refine seq_val (.slice ax xs.length cx) 12 rfl kj kj ?_
    refine seq_val (.int .i64 ((xs.length : Nat) : Int)) 13 rfl kj kj ?_
    refine seq_val (.bool false) 14 rfl kj (run_eq (u := .bool ((((xs.length : Nat) : Int) == 17))) kj (congrArg Value.bool (beq_eq_false_iff_ne.2 (by omega)))) ?_
    refine seq_val (.bool false) 15 rfl kj kj ?_
    refine seq_skip 16 rfl kj ?_
    refine seq_skip 17 rfl kj ?_
    refine seq_skip 18 rfl kj ?_
    refine seq_skip 19 rfl kj ?_
    refine seq_val (.bool false) 20 rfl kj kj ?_
    refine seq_val (.bool false) 21 rfl kj kj ?_
    refine seq_nil ?_
    refine hK4 _ _ ?_
    try clear hK4 K4
    refine cond_false kj ?_
    refine wp_exit ?_
    refine hK2 _ _ ?_
    try clear hK2 K2
    refine wp_seq_k fun K124 hK124 => ?_
    refine region_lit ?_
    refine seq_val (.slice ax xs.length cx) 79 rfl kj kj ?_
    refine seq_val (.slice ax xs.length cx) 2 rfl kj kj ?_
    refine seq_nil ?_
    refine hK124 _ _ ?_
    try clear hK124 K124
    refine wp_ret ?_
    repeat (first | with_reducible refine goR1 ?_ | with_reducible refine goR2 ?_)
    exact (show bodyPost _ _ _ .ret _ _ from ret1 (.slice ax xs.length cx) rfl (res_tmp kj) ⟨_, rfl, xx1, xs, hxb, hxm, hend, (by omega), RdK.here hrx⟩)

end Go.Proofs.YtjldjdlhllgakaaDoor.Ae
