/- The reference's HMAC. -/
import Derived.Test.YtamlhbbphnamnaaDoorRshC
import Derived.Test.YtamlhbbphnamnaaDoorKdfO
namespace Go.Proofs.YtamlhbbphnamnaaDoor.Sha
open Go Go.RowKit
open Go.Proofs.YtamlhbbphnamnaaDoor.Rely Go.Proofs.YtamlhbbphnamnaaDoor.Auto Go.Proofs.YtamlhbbphnamnaaDoor.Own
set_option linter.unusedVariables false
set_option linter.unusedSimpArgs false

section
variable {ds : List Deferred} {P : Program} {ops : Array Oper} {Q : Exit → Act → World → Prop} {rest : List Oper} {o : Oper} {N : Nat} {L : Env} {W : World}
theorem seq_appendD {k : IntKind} {T : TypeId} (b : Nat) (s x : Operand) (t : TypeId) (ho : o.op = .call { callee := .builtin .append, args := #[s, x], argTypes := #[t, t] })
    (ht : P.underlying t = some (.slice T)) (hi : (P.info? T).map (fun i => (i.zero, i.size, i.bytes)) = some (some (.int k 0), 1, b)) (hb8 : b ≤ 8) (d : Nat) (hd : o.dst = some d) (hg : wantB ops o N L = some true) {B : Nat} {v y : Value} {xs ys : List Int} {V : World}
    (hs : Rely.look (envN N L) s = v) (hx : Rely.look (envN N L) x = y)
    (h : OwnN k T V.heap.size xs v W) (hy : RdK k B ys y W) {k2 : IntKind} {T2 : TypeId} {b2 : Nat} {zs : List Int} {z : Value} (h2 : OwnN k2 T2 b2 zs z W) (hdz : ∀ g, z.ownBlock = some g → v.ownBlock ≠ some g) (hn : xs.length + ys.length ≤ 1000000000) (hV : Ext V W)
    (kk : ∀ (u : Value) (W' : World), OwnN k T V.heap.size (xs ++ ys) u W' → Ext V W' → Below V.heap.size W W' → (OwnN k2 T2 b2 zs z W' ∧ ∀ g, z.ownBlock = some g → u.ownBlock ≠ some g) → WL P ops Q rest (actOf ds N ((d, u) :: L)) W') : WL P ops Q (o :: rest) (actOf ds N L) W := by
  obtain ⟨v', W', h1, hh2, h3, h4⟩ := append_N (ρ := Rely.look (envN N L)) (o := o) (W := W) s x t ho ht hi hb8 hs hx h hy hn hV.size
  refine seq_valw _ _ d hd hg h1 (kk v' W' hh2 (ext_own hV h h3) ⟨h3.os, h3.tape, h3.output, h3.size, fun i hi => h3.block i (Nat.lt_of_lt_of_le hi hV.size) (fun q => by have := h.ge q.symm; omega)⟩ ⟨h2.keep fun g hg => h3.block g (h2.lt hg) (fun q => hdz g hg q.symm), fun g hg => ?_⟩)
  rcases h4 with h4 | h4
  · rw [h4]; exact hdz g hg
  · rw [h4]; intro e
    have := Option.some.inj e
    have := h2.lt hg
    omega
end
theorem key_test (n i : Nat) (hn : n ≤ 64) : decide (((n + i : Nat) : Int) < 64) = decide (i < 64 - n) := decide_eq_decide.2 (by omega)
theorem keyL_long {key : List Int} (h : 64 < key.length) : dig key = keyL key := by rw [keyL, if_pos h]
theorem keyL_short {key : List Int} (h : ¬ 64 < key.length) : key = keyL key := by rw [keyL, if_neg h]
theorem padX_take (c : Int) (key : List Int) {i : Nat} (h : i < 64) : (padX c key).take (i + 1) = (padX c key).take i ++ [nth (padX c key) i] := by
  have hl : i < (padX c key).length := by rw [padX_len]; exact h
  rw [List.take_succ_eq_append_getElem hl]
  simp [nth, hl]
theorem padX_full (c : Int) (key : List Int) : (padX c key).take 64 = padX c key := List.take_of_length_le (Nat.le_of_eq (padX_len c key))
set_option maxRecDepth 20000 in
set_option maxHeartbeats 4000000 in
theorem rtagC (key text : List Int) (v1 v2 : Value) (B B2 : Nat) (w : World) (hkl : key.length ≤ 800000000) (htl : text.length ≤ 800000000) (hkb : AreBytes key) (htb : AreBytes text) (hk : RdK .u8 B key v1 w) (ht : RdK .u8 B2 text v2 w) : Calls Tryd.prog 16 #[v1, v2] w (Ret w (.agg (ints .u8 (hmac key text)))) := by
  obtain ⟨a_key, c_key, rfl, -⟩ := id hk
  obtain ⟨a_text, c_text, rfl, -⟩ := id ht
  refine enter 56 [(0, .slice a_key key.length c_key), (1, .slice a_text text.length c_text)] Tryd.func16 rfl rfl kj rfl ?_
  refine wp_seq_k fun K1 hK1 => ?_
  refine region_lit ?_
  refine seq_alloc (ints .u8 (List.replicate 32 0)) 26 4 rfl kj kj fun g2 W1 l2 e1 r2_1 => ?_
  have x1 : Ext w W1 := Ext.tr (Rely.Ext.refl w) e1
  have b2 : w.heap.size ≤ g2 := Nat.le_trans (Rely.Ext.refl w).size l2
  refine seq_nil ?_
  refine hK1 _ _ ?_
  try clear hK1 K1
  refine wp_seq_k fun K3 hK3 => ?_
  refine region_lit ?_
  refine seq_makeS (ints .u8 ([])) 5 0 11 rfl kj kj fun g4 W2 l4 e2 r4_2 => ?_
  have x2 : Ext w W2 := Ext.tr x1 e2
  have b4 : w.heap.size ≤ g4 := Nat.le_trans x1.size l4
  refine seq_val (.slice a_key key.length c_key) 12 rfl kj kj ?_
  have y1_2 : Ext W1 W2 := (Rely.Ext.trans (Rely.Ext.refl W1) e2)
  refine seq_appendN (k := .u8) (T := 5) (xs := []) (ys := key) (V := W1) 1 (.tmp 11) (.tmp 12) 22 rfl kj kj (by decide) 13 rfl kj kj kj (ownN_row (xs := []) rfl l4 r4_2 (by decide)) (RdK.ext hk x2) (by first | (rw [dig_len]; decide) | (simp only [List.length_nil]; omega)) y1_2 fun z1 W3 f5 y3 l3 => ?_
  have x3 : Ext w W3 := Ext.low x2 l3 x1.size
  have hu6 : OwnN .u8 5 W1.heap.size (key) z1 W3 := by have h := f5; simpa using h
  obtain ⟨a5_7, c5_7, rfl, -⟩ := id (OwnN.rd hu6)
  refine seq_val (.slice a5_7 ((key).length) c5_7) 5 rfl kj kj ?_
  refine seq_nil ?_
  refine hK3 _ _ ?_
  try clear hK3 K3
  refine wp_seq_k fun K8 hK8 => ?_
  refine wp_seq_k fun K9 hK9 => ?_
  refine region_lit ?_
  refine seq_val (.slice a5_7 ((key).length) c5_7) 14 rfl kj kj ?_
  refine seq_val (.int .i64 (((key).length : Nat) : Int)) 15 rfl kj kj ?_
  refine seq_val (.bool (decide ((((key).length : Nat) : Int) > 64))) 16 rfl kj kj ?_
  refine seq_nil ?_
  refine hK9 _ _ ?_
  try clear hK9 K9
  refine cond_split (t := decide ((((key).length : Nat) : Int) > 64)) kj (fun c10 => ?_) (fun c10 => ?_)
  · skip
    have hlong : 64 < key.length := by have := of_decide_eq_true c10; omega
    refine wp_seq_k fun K11 hK11 => ?_
    refine region_lit ?_
    refine seq_val (.slice a5_7 ((key).length) c5_7) 17 rfl kj kj ?_
    refine seq_call (.agg (ints .u8 (dig (key)))) 44 #[.slice a5_7 ((key).length) c5_7] 18 rfl kj kj (rshortC (key) _ _ _ (by omega) hkb (OwnN.rd hu6)) fun W4 e4 => ?_
    have x4 : Ext w W4 := Ext.tr x3 e4
    refine seq_alloc (ints .u8 (List.replicate 32 0)) 26 6 rfl kj kj fun g12 W5 l12 e5 r12_5 => ?_
    have x5 : Ext w W5 := Ext.tr x4 e5
    have b12 : w.heap.size ≤ g12 := Nat.le_trans x4.size l12
    refine seq_store g12 _ (ints .u8 (dig (key))) 26 r12_5 rfl kj (run_store_row 26 _ _ g12 26 _ _ r12_5 rfl kj kj (isz (n := 32) kj ((ints_size _ _).trans (dig_len _))) (eqsz (n := 32) ((ints_size _ _).trans (List.length_replicate (n := 32))) ((ints_size _ _).trans (dig_len _))) (ints_one _ _)) fun W6 p6 r12_6 => ?_
    have x6 : Ext w W6 := Puts.ext p6 x5 b12
    refine seq_nil ?_
    refine hK11 _ _ ?_
    try clear hK11 K11
    refine region_lit ?_
    refine seq_makeS (ints .u8 ([])) 5 0 19 rfl kj kj fun g13 W7 l13 e7 r13_7 => ?_
    have x7 : Ext w W7 := Ext.tr x6 e7
    have b13 : w.heap.size ≤ g13 := Nat.le_trans x6.size l13
    refine seq_val (.slice (some ⟨g12, 0, none⟩) 32 32) 20 rfl kj kj ?_
    have r12_7 := (row_ext r12_6 e7)
    have y6_7 : Ext W6 W7 := (Rely.Ext.trans (Rely.Ext.refl W6) e7)
    refine seq_appendN (k := .u8) (T := 5) (xs := []) (ys := dig (key)) (V := W6) 1 (.tmp 19) (.tmp 20) 22 rfl kj kj (by decide) 21 rfl kj kj kj (ownN_row (xs := []) rfl l13 r13_7 (by decide)) (rdK_ints (xs := dig (key)) (n := 32) (dig_len _) r12_7 (row_lt r12_7) (show 32 ≤ maxLen from by decide)) (by first | (rw [dig_len]; decide) | (simp only [List.length_nil]; omega)) y6_7 fun z2 W8 f14 y8 l8 => ?_
    have x8 : Ext w W8 := Ext.low x7 l8 x6.size
    have hu15 : OwnN .u8 5 W6.heap.size (dig (key)) z2 W8 := by have h := f14; simpa using h
    obtain ⟨a5_16, c5_16, rfl, -⟩ := id (OwnN.rd hu15)
    refine seq_val (.slice a5_16 ((dig (key)).length) c5_16) 5 rfl kj kj ?_
    refine seq_nil ?_
    refine hK8 _ _ ?_
    try clear hK8 K8
    refine wp_seq_k fun K17 hK17 => ?_
    refine wp_block ?_
    have hk0 : OwnN .u8 5 W6.heap.size (keyL key ++ List.replicate 0 0) (.slice a5_16 ((dig (key)).length) c5_16) W8 := by rw [List.replicate_zero, List.append_nil, ← keyL_long hlong]; exact hu15
    have hkl := keyL_len key
    refine loop_auto (fun (s1 : Nat × Value) => [(1, .slice a_text text.length c_text), (4, .pointer (some ⟨g2, 0, none⟩)), (5, s1.2)]) (fun (s1 : Nat × Value) W => (s1.1 ≤ 64 - (keyL key).length) ∧ (OwnN .u8 5 W6.heap.size (keyL key ++ List.replicate s1.1 0) s1.2 W) ∧ (Below W6.heap.size W8 W) ∧ (Ext w W)) (fun (s1 : Nat × Value) => 64 - (keyL key).length - s1.1) (0, .slice a5_16 ((dig (key)).length) c5_16) ⟨rfl, rfl, rfl, trivial⟩ ⟨(Nat.zero_le _), hk0, (RowKit.Below.refl _ W8), x8⟩ fun s1 X1 V1 hI1 => ?_
    obtain ⟨i, u⟩ := s1
    obtain ⟨hi, hu, kk1, xx1⟩ := hI1
    replace hi : i ≤ 64 - (keyL key).length := hi
    replace hu : OwnN .u8 5 W6.heap.size (keyL key ++ List.replicate i 0) u V1 := hu
    replace kk1 : Below W6.heap.size W8 V1 := kk1
    replace xx1 : Ext w V1 := xx1
    have l9 := kk1
    obtain ⟨a5, c5, rfl, -⟩ := id (OwnN.rd hu)
    refine wp_seq_k fun K18 hK18 => ?_
    refine wp_seq_k fun K19 hK19 => ?_
    refine region_lit ?_
    refine seq_val (.slice a5 ((keyL key ++ List.replicate i 0).length) c5) 22 rfl kj kj ?_
    refine seq_val (.int .i64 (((keyL key ++ List.replicate i 0).length : Nat) : Int)) 23 rfl kj kj ?_
    refine seq_val (.bool (decide (i < 64 - (keyL key).length))) 24 rfl kj (run_eq (u := .bool (decide ((((keyL key ++ List.replicate i 0).length : Nat) : Int) < 64))) kj (congrArg Value.bool (by rw [List.length_append, List.length_replicate]; exact key_test _ _ hkl))) ?_
    refine seq_nil ?_
    refine hK19 _ _ ?_
    try clear hK19 K19
    refine cond_split (t := decide (i < 64 - (keyL key).length)) kj (fun c20 => ?_) (fun c20 => ?_)
    · skip
      have hlt24 : i < 64 - (keyL key).length := by have := of_decide_eq_true c20; omega
      refine wp_skip ?_
      refine hK18 _ _ ?_
      try clear hK18 K18
      refine wp_block ?_
      refine region_lit ?_
      refine seq_val (.slice a5 ((keyL key ++ List.replicate i 0).length) c5) 25 rfl kj kj ?_
      refine seq_makeS (ints .u8 ([0])) 5 1 26 rfl kj kj fun g21 W10 l21 e10 r21_10 => ?_
      have x10 : Ext w W10 := Ext.tr xx1 e10
      have b21 : w.heap.size ≤ g21 := Nat.le_trans xx1.size l21
      have f22_10 := (hu.ext e10)
      have y6_9 : Ext W6 V1 := (Ext.low y8 l9 (Rely.Ext.refl W6).size)
      have y6_10 : Ext W6 W10 := (Rely.Ext.trans y6_9 e10)
      refine seq_appendN (k := .u8) (T := 5) (xs := keyL key ++ List.replicate i 0) (ys := [0]) (V := W6) 1 (.tmp 25) (.tmp 26) 22 rfl kj kj (by decide) 27 rfl kj kj kj f22_10 (rdK_ints (xs := [0]) (n := 1) rfl r21_10 (row_lt r21_10) (show 1 ≤ maxLen from by decide)) (by simp only [List.length_append, List.length_replicate, List.length_cons, List.length_nil]; omega) y6_10 fun z3 W11 f23 y11 l11 => ?_
      have x11 : Ext w W11 := Ext.low x10 l11 x6.size
      refine seq_val (z3) 5 rfl kj kj ?_
      refine seq_nil ?_
      repeat (first | with_reducible refine goX1 ?_ | with_reducible refine goX2 ?_ | with_reducible refine goX3 ?_)
      exact goes_then ((i + 1), z3) ⟨rfl, rfl, rfl, trivial⟩ ⟨(by omega), (by rw [List.replicate_succ', ← List.append_assoc]; exact f23), (RowKit.Below.trans (RowKit.Below.trans l9 (RowKit.Below.mono e10 y6_9.size)) l11), x11⟩ (by show 64 - (keyL key).length - (i + 1) < 64 - (keyL key).length - i; omega)
    · skip
      have heq24 : i = 64 - (keyL key).length := by have := of_decide_eq_false c20; omega
      subst heq24
      have hkB : OwnN .u8 5 W6.heap.size (keyB key) (.slice a5 (keyL key ++ List.replicate (64 - (keyL key).length) 0).length c5) V1 := hu
      refine wp_exit ?_
      refine hK17 _ _ ?_
      try clear hK17 K17
      refine wp_seq_k fun K25 hK25 => ?_
      refine region_lit ?_
      refine seq_val (.slice none 0 0) 7 rfl kj kj ?_
      refine seq_nil ?_
      refine hK25 _ _ ?_
      try clear hK25 K25
      refine wp_seq_k fun K26 hK26 => ?_
      refine region_lit ?_
      refine seq_val (.slice none 0 0) 8 rfl kj kj ?_
      refine seq_nil ?_
      refine hK26 _ _ ?_
      try clear hK26 K26
      refine wp_seq_k fun K27 hK27 => ?_
      refine wp_seq_k fun K28 hK28 => ?_
      refine region_lit ?_
      refine seq_val (.int .i64 0) 9 rfl kj kj ?_
      refine seq_nil ?_
      refine hK28 _ _ ?_
      try clear hK28 K28
      refine wp_block ?_
      have r2_2 := (row_ext r2_1 e2)
      have r2_3 := (low_row l3 r2_2 (row_lt r2_1))
      have r2_4 := (row_ext r2_3 e4)
      have r2_5 := (row_ext r2_4 e5)
      have r2_6 := (Puts.row p6 r2_5 (ne_of_old r2_4 l12))
      have r2_7 := (row_ext r2_6 e7)
      have r2_8 := (low_row l8 r2_7 (row_lt r2_6))
      have r2_9 := (low_row l9 r2_8 (row_lt r2_6))
      refine loop_auto (fun (s2 : Nat × Value × Value) => [(1, .slice a_text text.length c_text), (4, .pointer (some ⟨g2, 0, none⟩)), (5, .slice a5 ((keyL key ++ List.replicate (64 - (keyL key).length) 0).length) c5), (7, s2.2.1), (8, s2.2.2), (9, .int .i64 ((s2.1 : Nat) : Int))]) (fun (s2 : Nat × Value × Value) W => (s2.1 ≤ 64) ∧ (OwnN .u8 5 V1.heap.size ((padX 54 key).take s2.1) s2.2.1 W) ∧ (OwnN .u8 5 V1.heap.size ((padX 92 key).take s2.1) s2.2.2 W) ∧ (∀ g, s2.2.2.ownBlock = some g → s2.2.1.ownBlock ≠ some g) ∧ (Ext V1 W) ∧ (Ext w W)) (fun (s2 : Nat × Value × Value) => 64 - s2.1) (0, (.slice none 0 0), (.slice none 0 0)) ⟨rfl, rfl, rfl, rfl, rfl, rfl, trivial⟩ ⟨(Nat.zero_le _), (ownN_nil _ _ _ _), (ownN_nil _ _ _ _), (fun g e => by cases e), (Rely.Ext.refl V1), xx1⟩ fun s2 X2 V2 hI2 => ?_
      obtain ⟨i, u, v⟩ := s2
      obtain ⟨hi, hu, hv, hd, kk2, xx2⟩ := hI2
      replace hi : i ≤ 64 := hi
      replace hu : OwnN .u8 5 V1.heap.size ((padX 54 key).take i) u V2 := hu
      replace hv : OwnN .u8 5 V1.heap.size ((padX 92 key).take i) v V2 := hv
      replace hd : ∀ g, v.ownBlock = some g → u.ownBlock ≠ some g := hd
      replace kk2 : Ext V1 V2 := kk2
      replace xx2 : Ext w V2 := xx2
      have e10 := kk2
      have f30_10 := (hkB.ext e10)
      have hnk_29 : (keyB key).length = 64 := (keyB_len key)
      obtain ⟨gck_29, ock_29, hak_29, hlk_29, hck_29⟩ := rdK_open (OwnN.rd f30_10) (by rw [hnk_29]; omega)
      refine wp_seq_k fun K31 hK31 => ?_
      refine wp_seq_k fun K32 hK32 => ?_
      refine region_lit ?_
      refine seq_val (.int .i64 ((i : Nat) : Int)) 28 rfl kj kj ?_
      refine seq_val (.bool (decide (((i : Nat) : Int) < 64))) 29 rfl kj kj ?_
      refine seq_nil ?_
      refine hK32 _ _ ?_
      try clear hK32 K32
      refine cond_split (t := decide (((i : Nat) : Int) < 64)) kj (fun c33 => ?_) (fun c33 => ?_)
      · skip
        have hlt29 : i < 64 := by have := of_decide_eq_true c33; omega
        refine wp_skip ?_
        refine hK31 _ _ ?_
        try clear hK31 K31
        refine wp_seq_k fun K34 hK34 => ?_
        refine wp_block ?_
        refine wp_seq_k fun K35 hK35 => ?_
        refine region_lit ?_
        refine seq_val (u) 32 rfl kj kj ?_
        refine seq_val (.slice a5 ((keyL key ++ List.replicate (64 - (keyL key).length) 0).length) c5) 33 rfl kj kj ?_
        refine seq_val (.int .i64 ((i : Nat) : Int)) 34 rfl kj kj ?_
        refine seq_val (.pointer (some ⟨gck_29, ock_29 + i, none⟩)) 35 rfl kj (run_indexA 22 _ _ .i64 i gck_29 ock_29 ((keyL key ++ List.replicate (64 - (keyL key).length) 0).length) c5 5 a5 _ hak_29 rfl rfl kj kj kj kj (Nat.lt_of_lt_of_eq (show i < 64 by omega) hnk_29.symm)) ?_
        refine seq_val (.int .u8 (nth (keyB key) (i))) 36 rfl kj (run_loadCell 5 _ _ (.int .u8 (nth (keyB key) (i))) (hck_29 i (Nat.lt_of_lt_of_eq (show i < 64 by omega) hnk_29.symm)) rfl kj kj) ?_
        refine seq_val (.int .u8 (nth (padX 54 key) i)) 37 rfl kj (run_eq (u := .int .u8 (bits .xor .u8 ((nth (keyB key) (i))) (54))) kj (congrArg (Value.int .u8) (nth_padX 54 key hlt29).symm)) ?_
        refine seq_makeS (ints .u8 ([(nth (padX 54 key) i)])) 5 1 38 rfl kj kj fun g36 W11 l36 e11 r36_11 => ?_
        have x11 : Ext w W11 := Ext.tr xx2 e11
        have b36 : w.heap.size ≤ g36 := Nat.le_trans xx2.size l36
        have f38_11 := (hv.ext e11)
        have f39_11 := (hu.ext e11)
        have y9_11 : Ext V1 W11 := (Rely.Ext.trans e10 e11)
        refine seq_appendD (k := .u8) (T := 5) (xs := (padX 54 key).take i) (ys := [(nth (padX 54 key) i)]) (V := V1) 1 (.tmp 32) (.tmp 38) 22 rfl kj kj (by decide) 39 rfl kj kj kj f39_11 (rdK_ints (xs := [(nth (padX 54 key) i)]) (n := 1) rfl r36_11 (row_lt r36_11) (show 1 ≤ maxLen from by decide)) f38_11 hd (by rw [List.length_take, padX_len]; show _ + 1 ≤ _; omega) y9_11 fun z4 W12 f40 y12 l12 hP37 => ?_
        have x12 : Ext w W12 := Ext.low x11 l12 xx1.size
        refine seq_val (z4) 7 rfl kj kj ?_
        refine seq_nil ?_
        refine hK35 _ _ ?_
        try clear hK35 K35
        refine region_lit ?_
        have f43_11 := (f30_10.ext e11)
        have f44_12 := (OwnN.low (n := 0) f43_11 hkB l12)
        have hnk_42 : (keyB key).length = 64 := (keyB_len key)
        obtain ⟨gck_42, ock_42, hak_42, hlk_42, hck_42⟩ := rdK_open (OwnN.rd f44_12) (by rw [hnk_42]; omega)
        refine seq_val (v) 40 rfl kj kj ?_
        refine seq_val (.slice a5 ((keyL key ++ List.replicate (64 - (keyL key).length) 0).length) c5) 41 rfl kj kj ?_
        refine seq_val (.int .i64 ((i : Nat) : Int)) 42 rfl kj kj ?_
        refine seq_val (.pointer (some ⟨gck_42, ock_42 + i, none⟩)) 43 rfl kj (run_indexA 22 _ _ .i64 i gck_42 ock_42 ((keyL key ++ List.replicate (64 - (keyL key).length) 0).length) c5 5 a5 _ hak_42 rfl rfl kj kj kj kj (Nat.lt_of_lt_of_eq (show i < 64 by omega) hnk_42.symm)) ?_
        refine seq_val (.int .u8 (nth (keyB key) (i))) 44 rfl kj (run_loadCell 5 _ _ (.int .u8 (nth (keyB key) (i))) (hck_42 i (Nat.lt_of_lt_of_eq (show i < 64 by omega) hnk_42.symm)) rfl kj kj) ?_
        refine seq_val (.int .u8 (nth (padX 92 key) i)) 45 rfl kj (run_eq (u := .int .u8 (bits .xor .u8 ((nth (keyB key) (i))) (92))) kj (congrArg (Value.int .u8) (nth_padX 92 key hlt29).symm)) ?_
        refine seq_makeS (ints .u8 ([(nth (padX 92 key) i)])) 5 1 46 rfl kj kj fun g45 W13 l45 e13 r45_13 => ?_
        have x13 : Ext w W13 := Ext.tr x12 e13
        have b45 : w.heap.size ≤ g45 := Nat.le_trans x12.size l45
        have f47_13 := (f40.ext e13)
        have f48_13 := (hP37.1.ext e13)
        have y9_13 : Ext V1 W13 := (Rely.Ext.trans y12 e13)
        refine seq_appendD (k := .u8) (T := 5) (xs := (padX 92 key).take i) (ys := [(nth (padX 92 key) i)]) (V := V1) 1 (.tmp 40) (.tmp 46) 22 rfl kj kj (by decide) 47 rfl kj kj kj f48_13 (rdK_ints (xs := [(nth (padX 92 key) i)]) (n := 1) rfl r45_13 (row_lt r45_13) (show 1 ≤ maxLen from by decide)) f47_13 (fun g e h => hP37.2 g h e) (by rw [List.length_take, padX_len]; show _ + 1 ≤ _; omega) y9_13 fun z5 W14 f49 y14 l14 hP46 => ?_
        have x14 : Ext w W14 := Ext.low x13 l14 xx1.size
        refine seq_val (z5) 8 rfl kj kj ?_
        refine seq_nil ?_
        refine hK34 _ _ ?_
        try clear hK34 K34
        refine region_lit ?_
        refine seq_val (.int .i64 ((i : Nat) : Int)) 30 rfl kj kj ?_
        refine seq_val (.int .i64 ((i + 1 : Nat) : Int)) 31 rfl kj (run_eq (u := .int .i64 (IntKind.i64.wrap (((i : Nat) : Int) + 1))) kj (congrArg (Value.int .i64) (i64n _ _ (by omega) (by omega)))) ?_
        refine seq_val (.int .i64 ((i + 1 : Nat) : Int)) 9 rfl kj kj ?_
        refine seq_nil ?_
        repeat (first | with_reducible refine goX1 ?_ | with_reducible refine goX2 ?_ | with_reducible refine goX3 ?_)
        exact goes_then ((i + 1), z4, z5) ⟨rfl, rfl, rfl, rfl, rfl, rfl, trivial⟩ ⟨(by omega), (by rw [padX_take _ _ hlt29]; exact hP46.1), (by rw [padX_take _ _ hlt29]; exact f49), (fun g e h => hP46.2 g h e), y14, x14⟩ (by show 64 - (i + 1) < 64 - i; omega)
      · skip
        have heq29 : i = 64 := by have := of_decide_eq_false c33; omega
        subst heq29
        rw [padX_full] at hu hv
        refine wp_exit ?_
        refine hK27 _ _ ?_
        try clear hK27 K27
        refine wp_seq_k fun K51 hK51 => ?_
        refine region_lit ?_
        refine seq_val (u) 48 rfl kj kj ?_
        refine seq_val (.slice a_text text.length c_text) 49 rfl kj kj ?_
        refine seq_appendD (k := .u8) (T := 5) (xs := padX 54 key) (ys := text) (V := V1) 1 (.tmp 48) (.tmp 49) 22 rfl kj kj (by decide) 50 rfl kj kj kj hu (RdK.ext ht xx2) hv hd (by rw [padX_len]; omega) e10 fun z6 W11 f53 y11 l11 hP52 => ?_
        have x11 : Ext w W11 := Ext.low xx2 l11 xx1.size
        refine seq_call (.agg (ints .u8 (dig (padX 54 key ++ text)))) 44 #[z6] 51 rfl kj kj (rshortC (padX 54 key ++ text) _ _ _ (by rw [List.length_append, padX_len]; omega) (bytes_app (padX_bytes _ _) htb) (OwnN.rd f53)) fun W12 e12 => ?_
        have x12 : Ext w W12 := Ext.tr x11 e12
        have f55_12 := (hP52.1.ext e12)
        refine seq_alloc (ints .u8 (List.replicate 32 0)) 26 10 rfl kj kj fun g56 W13 l56 e13 r56_13 => ?_
        have x13 : Ext w W13 := Ext.tr x12 e13
        have b56 : w.heap.size ≤ g56 := Nat.le_trans x12.size l56
        refine seq_store g56 _ (ints .u8 (dig (padX 54 key ++ text))) 26 r56_13 rfl kj (run_store_row 26 _ _ g56 26 _ _ r56_13 rfl kj kj (isz (n := 32) kj ((ints_size _ _).trans (dig_len _))) (eqsz (n := 32) ((ints_size _ _).trans (List.length_replicate (n := 32))) ((ints_size _ _).trans (dig_len _))) (ints_one _ _)) fun W14 p14 r56_14 => ?_
        have x14 : Ext w W14 := Puts.ext p14 x13 b56
        refine seq_nil ?_
        refine hK51 _ _ ?_
        try clear hK51 K51
        refine wp_seq_k fun K57 hK57 => ?_
        refine region_lit ?_
        have nb10 : (v : Value).ownBlock ≠ some g56 := fun e => by have h1 := OwnN.lt f55_12 e; have h2 := l56; omega
        refine seq_val (v) 52 rfl kj kj ?_
        refine seq_val (.slice (some ⟨g56, 0, none⟩) 32 32) 53 rfl kj kj ?_
        have f58_13 := (f55_12.ext e13)
        have f59_14 := (f58_13.puts p14 nb10)
        have y9_12 : Ext V1 W12 := (Rely.Ext.trans y11 e12)
        have y9_13 : Ext V1 W13 := (Rely.Ext.trans y9_12 e13)
        have y9_14 : Ext V1 W14 := (Puts.ext p14 y9_13 (Nat.le_trans y9_12.size l56))
        refine seq_appendN (k := .u8) (T := 5) (xs := padX 92 key) (ys := dig (padX 54 key ++ text)) (V := V1) 1 (.tmp 52) (.tmp 53) 22 rfl kj kj (by decide) 54 rfl kj kj kj f59_14 (rdK_ints (xs := dig (padX 54 key ++ text)) (n := 32) (dig_len _) r56_14 (row_lt r56_14) (show 32 ≤ maxLen from by decide)) (by rw [padX_len, dig_len]; decide) y9_14 fun z7 W15 f60 y15 l15 => ?_
        have x15 : Ext w W15 := Ext.low x14 l15 xx1.size
        refine seq_call (.agg (ints .u8 (dig (padX 92 key ++ dig (padX 54 key ++ text))))) 44 #[z7] 55 rfl kj kj (rshortC (padX 92 key ++ dig (padX 54 key ++ text)) _ _ _ (by rw [List.length_append, padX_len, dig_len]; decide) (bytes_app (padX_bytes _ _) (dig_bytes _)) (OwnN.rd f60)) fun W16 e16 => ?_
        have x16 : Ext w W16 := Ext.tr x15 e16
        have r2_10 := (row_ext r2_9 e10)
        have r2_11 := (low_row l11 r2_10 (row_lt r2_9))
        have r2_12 := (row_ext r2_11 e12)
        have r2_13 := (row_ext r2_12 e13)
        have r2_14 := (Puts.row p14 r2_13 (ne_of_old r2_12 l56))
        have r2_15 := (low_row l15 r2_14 (row_lt r2_9))
        have r2_16 := (row_ext r2_15 e16)
        refine seq_store g2 _ (ints .u8 (dig (padX 92 key ++ dig (padX 54 key ++ text)))) 26 r2_16 rfl kj (run_store_row 26 _ _ g2 26 _ _ r2_16 rfl kj kj (isz (n := 32) kj ((ints_size _ _).trans (dig_len _))) (eqsz (n := 32) ((ints_size _ _).trans (List.length_replicate (n := 32))) ((ints_size _ _).trans (dig_len _))) (ints_one _ _)) fun W17 p17 r2_17 => ?_
        have x17 : Ext w W17 := Puts.ext p17 x16 b2
        refine seq_nil ?_
        refine hK57 _ _ ?_
        try clear hK57 K57
        refine wp_ret ?_
        repeat (first | with_reducible refine goR1 ?_ | with_reducible refine goR2 ?_)
        exact (show bodyPost _ _ _ .ret _ _ from ret1 (.agg (ints .u8 (dig (padX 92 key ++ dig (padX 54 key ++ text))))) rfl (res_cell g2 26 _ r2_17 kj kj (isz (n := 32) kj ((ints_size _ _).trans (dig_len _)))) ⟨rfl, x17⟩)
  · skip
    have hlong : ¬ 64 < key.length := by have := of_decide_eq_false c10; omega
    refine wp_skip ?_
    refine hK8 _ _ ?_
    try clear hK8 K8
    refine wp_seq_k fun K62 hK62 => ?_
    refine wp_block ?_
    have hk0 : OwnN .u8 5 W1.heap.size (keyL key ++ List.replicate 0 0) (.slice a5_7 ((key).length) c5_7) W3 := by rw [List.replicate_zero, List.append_nil, ← keyL_short hlong]; exact hu6
    have hkl := keyL_len key
    refine loop_auto (fun (s3 : Nat × Value) => [(1, .slice a_text text.length c_text), (4, .pointer (some ⟨g2, 0, none⟩)), (5, s3.2)]) (fun (s3 : Nat × Value) W => (s3.1 ≤ 64 - (keyL key).length) ∧ (OwnN .u8 5 W1.heap.size (keyL key ++ List.replicate s3.1 0) s3.2 W) ∧ (Below W1.heap.size W3 W) ∧ (Ext w W)) (fun (s3 : Nat × Value) => 64 - (keyL key).length - s3.1) (0, .slice a5_7 ((key).length) c5_7) ⟨rfl, rfl, rfl, trivial⟩ ⟨(Nat.zero_le _), hk0, (RowKit.Below.refl _ W3), x3⟩ fun s3 X3 V3 hI3 => ?_
    obtain ⟨i, u⟩ := s3
    obtain ⟨hi, hu, kk3, xx3⟩ := hI3
    replace hi : i ≤ 64 - (keyL key).length := hi
    replace hu : OwnN .u8 5 W1.heap.size (keyL key ++ List.replicate i 0) u V3 := hu
    replace kk3 : Below W1.heap.size W3 V3 := kk3
    replace xx3 : Ext w V3 := xx3
    have l4 := kk3
    obtain ⟨a5, c5, rfl, -⟩ := id (OwnN.rd hu)
    refine wp_seq_k fun K63 hK63 => ?_
    refine wp_seq_k fun K64 hK64 => ?_
    refine region_lit ?_
    refine seq_val (.slice a5 ((keyL key ++ List.replicate i 0).length) c5) 22 rfl kj kj ?_
    refine seq_val (.int .i64 (((keyL key ++ List.replicate i 0).length : Nat) : Int)) 23 rfl kj kj ?_
    refine seq_val (.bool (decide (i < 64 - (keyL key).length))) 24 rfl kj (run_eq (u := .bool (decide ((((keyL key ++ List.replicate i 0).length : Nat) : Int) < 64))) kj (congrArg Value.bool (by rw [List.length_append, List.length_replicate]; exact key_test _ _ hkl))) ?_
    refine seq_nil ?_
    refine hK64 _ _ ?_
    try clear hK64 K64
    refine cond_split (t := decide (i < 64 - (keyL key).length)) kj (fun c65 => ?_) (fun c65 => ?_)
    · skip
      have hlt24 : i < 64 - (keyL key).length := by have := of_decide_eq_true c65; omega
      refine wp_skip ?_
      refine hK63 _ _ ?_
      try clear hK63 K63
      refine wp_block ?_
      refine region_lit ?_
      refine seq_val (.slice a5 ((keyL key ++ List.replicate i 0).length) c5) 25 rfl kj kj ?_
      refine seq_makeS (ints .u8 ([0])) 5 1 26 rfl kj kj fun g66 W5 l66 e5 r66_5 => ?_
      have x5 : Ext w W5 := Ext.tr xx3 e5
      have b66 : w.heap.size ≤ g66 := Nat.le_trans xx3.size l66
      have f67_5 := (hu.ext e5)
      have y1_4 : Ext W1 V3 := (Ext.low y3 l4 (Rely.Ext.refl W1).size)
      have y1_5 : Ext W1 W5 := (Rely.Ext.trans y1_4 e5)
      refine seq_appendN (k := .u8) (T := 5) (xs := keyL key ++ List.replicate i 0) (ys := [0]) (V := W1) 1 (.tmp 25) (.tmp 26) 22 rfl kj kj (by decide) 27 rfl kj kj kj f67_5 (rdK_ints (xs := [0]) (n := 1) rfl r66_5 (row_lt r66_5) (show 1 ≤ maxLen from by decide)) (by simp only [List.length_append, List.length_replicate, List.length_cons, List.length_nil]; omega) y1_5 fun z8 W6 f68 y6 l6 => ?_
      have x6 : Ext w W6 := Ext.low x5 l6 x1.size
      refine seq_val (z8) 5 rfl kj kj ?_
      refine seq_nil ?_
      repeat (first | with_reducible refine goX1 ?_ | with_reducible refine goX2 ?_ | with_reducible refine goX3 ?_)
      exact goes_then ((i + 1), z8) ⟨rfl, rfl, rfl, trivial⟩ ⟨(by omega), (by rw [List.replicate_succ', ← List.append_assoc]; exact f68), (RowKit.Below.trans (RowKit.Below.trans l4 (RowKit.Below.mono e5 y1_4.size)) l6), x6⟩ (by show 64 - (keyL key).length - (i + 1) < 64 - (keyL key).length - i; omega)
    · skip
      have heq24 : i = 64 - (keyL key).length := by have := of_decide_eq_false c65; omega
      subst heq24
      have hkB : OwnN .u8 5 W1.heap.size (keyB key) (.slice a5 (keyL key ++ List.replicate (64 - (keyL key).length) 0).length c5) V3 := hu
      refine wp_exit ?_
      refine hK62 _ _ ?_
      try clear hK62 K62
      refine wp_seq_k fun K70 hK70 => ?_
      refine region_lit ?_
      refine seq_val (.slice none 0 0) 7 rfl kj kj ?_
      refine seq_nil ?_
      refine hK70 _ _ ?_
      try clear hK70 K70
      refine wp_seq_k fun K71 hK71 => ?_
      refine region_lit ?_
      refine seq_val (.slice none 0 0) 8 rfl kj kj ?_
      refine seq_nil ?_
      refine hK71 _ _ ?_
      try clear hK71 K71
      refine wp_seq_k fun K72 hK72 => ?_
      refine wp_seq_k fun K73 hK73 => ?_
      refine region_lit ?_
      refine seq_val (.int .i64 0) 9 rfl kj kj ?_
      refine seq_nil ?_
      refine hK73 _ _ ?_
      try clear hK73 K73
      refine wp_block ?_
      have r2_2 := (row_ext r2_1 e2)
      have r2_3 := (low_row l3 r2_2 (row_lt r2_1))
      have r2_4 := (low_row l4 r2_3 (row_lt r2_1))
      refine loop_auto (fun (s4 : Nat × Value × Value) => [(1, .slice a_text text.length c_text), (4, .pointer (some ⟨g2, 0, none⟩)), (5, .slice a5 ((keyL key ++ List.replicate (64 - (keyL key).length) 0).length) c5), (7, s4.2.1), (8, s4.2.2), (9, .int .i64 ((s4.1 : Nat) : Int))]) (fun (s4 : Nat × Value × Value) W => (s4.1 ≤ 64) ∧ (OwnN .u8 5 V3.heap.size ((padX 54 key).take s4.1) s4.2.1 W) ∧ (OwnN .u8 5 V3.heap.size ((padX 92 key).take s4.1) s4.2.2 W) ∧ (∀ g, s4.2.2.ownBlock = some g → s4.2.1.ownBlock ≠ some g) ∧ (Ext V3 W) ∧ (Ext w W)) (fun (s4 : Nat × Value × Value) => 64 - s4.1) (0, (.slice none 0 0), (.slice none 0 0)) ⟨rfl, rfl, rfl, rfl, rfl, rfl, trivial⟩ ⟨(Nat.zero_le _), (ownN_nil _ _ _ _), (ownN_nil _ _ _ _), (fun g e => by cases e), (Rely.Ext.refl V3), xx3⟩ fun s4 X4 V4 hI4 => ?_
      obtain ⟨i, u, v⟩ := s4
      obtain ⟨hi, hu, hv, hd, kk4, xx4⟩ := hI4
      replace hi : i ≤ 64 := hi
      replace hu : OwnN .u8 5 V3.heap.size ((padX 54 key).take i) u V4 := hu
      replace hv : OwnN .u8 5 V3.heap.size ((padX 92 key).take i) v V4 := hv
      replace hd : ∀ g, v.ownBlock = some g → u.ownBlock ≠ some g := hd
      replace kk4 : Ext V3 V4 := kk4
      replace xx4 : Ext w V4 := xx4
      have e5 := kk4
      have f75_5 := (hkB.ext e5)
      have hnk_74 : (keyB key).length = 64 := (keyB_len key)
      obtain ⟨gck_74, ock_74, hak_74, hlk_74, hck_74⟩ := rdK_open (OwnN.rd f75_5) (by rw [hnk_74]; omega)
      refine wp_seq_k fun K76 hK76 => ?_
      refine wp_seq_k fun K77 hK77 => ?_
      refine region_lit ?_
      refine seq_val (.int .i64 ((i : Nat) : Int)) 28 rfl kj kj ?_
      refine seq_val (.bool (decide (((i : Nat) : Int) < 64))) 29 rfl kj kj ?_
      refine seq_nil ?_
      refine hK77 _ _ ?_
      try clear hK77 K77
      refine cond_split (t := decide (((i : Nat) : Int) < 64)) kj (fun c78 => ?_) (fun c78 => ?_)
      · skip
        have hlt29 : i < 64 := by have := of_decide_eq_true c78; omega
        refine wp_skip ?_
        refine hK76 _ _ ?_
        try clear hK76 K76
        refine wp_seq_k fun K79 hK79 => ?_
        refine wp_block ?_
        refine wp_seq_k fun K80 hK80 => ?_
        refine region_lit ?_
        refine seq_val (u) 32 rfl kj kj ?_
        refine seq_val (.slice a5 ((keyL key ++ List.replicate (64 - (keyL key).length) 0).length) c5) 33 rfl kj kj ?_
        refine seq_val (.int .i64 ((i : Nat) : Int)) 34 rfl kj kj ?_
        refine seq_val (.pointer (some ⟨gck_74, ock_74 + i, none⟩)) 35 rfl kj (run_indexA 22 _ _ .i64 i gck_74 ock_74 ((keyL key ++ List.replicate (64 - (keyL key).length) 0).length) c5 5 a5 _ hak_74 rfl rfl kj kj kj kj (Nat.lt_of_lt_of_eq (show i < 64 by omega) hnk_74.symm)) ?_
        refine seq_val (.int .u8 (nth (keyB key) (i))) 36 rfl kj (run_loadCell 5 _ _ (.int .u8 (nth (keyB key) (i))) (hck_74 i (Nat.lt_of_lt_of_eq (show i < 64 by omega) hnk_74.symm)) rfl kj kj) ?_
        refine seq_val (.int .u8 (nth (padX 54 key) i)) 37 rfl kj (run_eq (u := .int .u8 (bits .xor .u8 ((nth (keyB key) (i))) (54))) kj (congrArg (Value.int .u8) (nth_padX 54 key hlt29).symm)) ?_
        refine seq_makeS (ints .u8 ([(nth (padX 54 key) i)])) 5 1 38 rfl kj kj fun g81 W6 l81 e6 r81_6 => ?_
        have x6 : Ext w W6 := Ext.tr xx4 e6
        have b81 : w.heap.size ≤ g81 := Nat.le_trans xx4.size l81
        have f83_6 := (hv.ext e6)
        have f84_6 := (hu.ext e6)
        have y4_6 : Ext V3 W6 := (Rely.Ext.trans e5 e6)
        refine seq_appendD (k := .u8) (T := 5) (xs := (padX 54 key).take i) (ys := [(nth (padX 54 key) i)]) (V := V3) 1 (.tmp 32) (.tmp 38) 22 rfl kj kj (by decide) 39 rfl kj kj kj f84_6 (rdK_ints (xs := [(nth (padX 54 key) i)]) (n := 1) rfl r81_6 (row_lt r81_6) (show 1 ≤ maxLen from by decide)) f83_6 hd (by rw [List.length_take, padX_len]; show _ + 1 ≤ _; omega) y4_6 fun z9 W7 f85 y7 l7 hP82 => ?_
        have x7 : Ext w W7 := Ext.low x6 l7 xx3.size
        refine seq_val (z9) 7 rfl kj kj ?_
        refine seq_nil ?_
        refine hK80 _ _ ?_
        try clear hK80 K80
        refine region_lit ?_
        have f88_6 := (f75_5.ext e6)
        have f89_7 := (OwnN.low (n := 0) f88_6 hkB l7)
        have hnk_87 : (keyB key).length = 64 := (keyB_len key)
        obtain ⟨gck_87, ock_87, hak_87, hlk_87, hck_87⟩ := rdK_open (OwnN.rd f89_7) (by rw [hnk_87]; omega)
        refine seq_val (v) 40 rfl kj kj ?_
        refine seq_val (.slice a5 ((keyL key ++ List.replicate (64 - (keyL key).length) 0).length) c5) 41 rfl kj kj ?_
        refine seq_val (.int .i64 ((i : Nat) : Int)) 42 rfl kj kj ?_
        refine seq_val (.pointer (some ⟨gck_87, ock_87 + i, none⟩)) 43 rfl kj (run_indexA 22 _ _ .i64 i gck_87 ock_87 ((keyL key ++ List.replicate (64 - (keyL key).length) 0).length) c5 5 a5 _ hak_87 rfl rfl kj kj kj kj (Nat.lt_of_lt_of_eq (show i < 64 by omega) hnk_87.symm)) ?_
        refine seq_val (.int .u8 (nth (keyB key) (i))) 44 rfl kj (run_loadCell 5 _ _ (.int .u8 (nth (keyB key) (i))) (hck_87 i (Nat.lt_of_lt_of_eq (show i < 64 by omega) hnk_87.symm)) rfl kj kj) ?_
        refine seq_val (.int .u8 (nth (padX 92 key) i)) 45 rfl kj (run_eq (u := .int .u8 (bits .xor .u8 ((nth (keyB key) (i))) (92))) kj (congrArg (Value.int .u8) (nth_padX 92 key hlt29).symm)) ?_
        refine seq_makeS (ints .u8 ([(nth (padX 92 key) i)])) 5 1 46 rfl kj kj fun g90 W8 l90 e8 r90_8 => ?_
        have x8 : Ext w W8 := Ext.tr x7 e8
        have b90 : w.heap.size ≤ g90 := Nat.le_trans x7.size l90
        have f92_8 := (f85.ext e8)
        have f93_8 := (hP82.1.ext e8)
        have y4_8 : Ext V3 W8 := (Rely.Ext.trans y7 e8)
        refine seq_appendD (k := .u8) (T := 5) (xs := (padX 92 key).take i) (ys := [(nth (padX 92 key) i)]) (V := V3) 1 (.tmp 40) (.tmp 46) 22 rfl kj kj (by decide) 47 rfl kj kj kj f93_8 (rdK_ints (xs := [(nth (padX 92 key) i)]) (n := 1) rfl r90_8 (row_lt r90_8) (show 1 ≤ maxLen from by decide)) f92_8 (fun g e h => hP82.2 g h e) (by rw [List.length_take, padX_len]; show _ + 1 ≤ _; omega) y4_8 fun z10 W9 f94 y9 l9 hP91 => ?_
        have x9 : Ext w W9 := Ext.low x8 l9 xx3.size
        refine seq_val (z10) 8 rfl kj kj ?_
        refine seq_nil ?_
        refine hK79 _ _ ?_
        try clear hK79 K79
        refine region_lit ?_
        refine seq_val (.int .i64 ((i : Nat) : Int)) 30 rfl kj kj ?_
        refine seq_val (.int .i64 ((i + 1 : Nat) : Int)) 31 rfl kj (run_eq (u := .int .i64 (IntKind.i64.wrap (((i : Nat) : Int) + 1))) kj (congrArg (Value.int .i64) (i64n _ _ (by omega) (by omega)))) ?_
        refine seq_val (.int .i64 ((i + 1 : Nat) : Int)) 9 rfl kj kj ?_
        refine seq_nil ?_
        repeat (first | with_reducible refine goX1 ?_ | with_reducible refine goX2 ?_ | with_reducible refine goX3 ?_)
        exact goes_then ((i + 1), z9, z10) ⟨rfl, rfl, rfl, rfl, rfl, rfl, trivial⟩ ⟨(by omega), (by rw [padX_take _ _ hlt29]; exact hP91.1), (by rw [padX_take _ _ hlt29]; exact f94), (fun g e h => hP91.2 g h e), y9, x9⟩ (by show 64 - (i + 1) < 64 - i; omega)
      · skip
        have heq29 : i = 64 := by have := of_decide_eq_false c78; omega
        subst heq29
        rw [padX_full] at hu hv
        refine wp_exit ?_
        refine hK72 _ _ ?_
        try clear hK72 K72
        refine wp_seq_k fun K96 hK96 => ?_
        refine region_lit ?_
        refine seq_val (u) 48 rfl kj kj ?_
        refine seq_val (.slice a_text text.length c_text) 49 rfl kj kj ?_
        refine seq_appendD (k := .u8) (T := 5) (xs := padX 54 key) (ys := text) (V := V3) 1 (.tmp 48) (.tmp 49) 22 rfl kj kj (by decide) 50 rfl kj kj kj hu (RdK.ext ht xx4) hv hd (by rw [padX_len]; omega) e5 fun z11 W6 f98 y6 l6 hP97 => ?_
        have x6 : Ext w W6 := Ext.low xx4 l6 xx3.size
        refine seq_call (.agg (ints .u8 (dig (padX 54 key ++ text)))) 44 #[z11] 51 rfl kj kj (rshortC (padX 54 key ++ text) _ _ _ (by rw [List.length_append, padX_len]; omega) (bytes_app (padX_bytes _ _) htb) (OwnN.rd f98)) fun W7 e7 => ?_
        have x7 : Ext w W7 := Ext.tr x6 e7
        have f100_7 := (hP97.1.ext e7)
        refine seq_alloc (ints .u8 (List.replicate 32 0)) 26 10 rfl kj kj fun g101 W8 l101 e8 r101_8 => ?_
        have x8 : Ext w W8 := Ext.tr x7 e8
        have b101 : w.heap.size ≤ g101 := Nat.le_trans x7.size l101
        refine seq_store g101 _ (ints .u8 (dig (padX 54 key ++ text))) 26 r101_8 rfl kj (run_store_row 26 _ _ g101 26 _ _ r101_8 rfl kj kj (isz (n := 32) kj ((ints_size _ _).trans (dig_len _))) (eqsz (n := 32) ((ints_size _ _).trans (List.length_replicate (n := 32))) ((ints_size _ _).trans (dig_len _))) (ints_one _ _)) fun W9 p9 r101_9 => ?_
        have x9 : Ext w W9 := Puts.ext p9 x8 b101
        refine seq_nil ?_
        refine hK96 _ _ ?_
        try clear hK96 K96
        refine wp_seq_k fun K102 hK102 => ?_
        refine region_lit ?_
        have nb10 : (v : Value).ownBlock ≠ some g101 := fun e => by have h1 := OwnN.lt f100_7 e; have h2 := l101; omega
        refine seq_val (v) 52 rfl kj kj ?_
        refine seq_val (.slice (some ⟨g101, 0, none⟩) 32 32) 53 rfl kj kj ?_
        have f103_8 := (f100_7.ext e8)
        have f104_9 := (f103_8.puts p9 nb10)
        have y4_7 : Ext V3 W7 := (Rely.Ext.trans y6 e7)
        have y4_8 : Ext V3 W8 := (Rely.Ext.trans y4_7 e8)
        have y4_9 : Ext V3 W9 := (Puts.ext p9 y4_8 (Nat.le_trans y4_7.size l101))
        refine seq_appendN (k := .u8) (T := 5) (xs := padX 92 key) (ys := dig (padX 54 key ++ text)) (V := V3) 1 (.tmp 52) (.tmp 53) 22 rfl kj kj (by decide) 54 rfl kj kj kj f104_9 (rdK_ints (xs := dig (padX 54 key ++ text)) (n := 32) (dig_len _) r101_9 (row_lt r101_9) (show 32 ≤ maxLen from by decide)) (by rw [padX_len, dig_len]; decide) y4_9 fun z12 W10 f105 y10 l10 => ?_
        have x10 : Ext w W10 := Ext.low x9 l10 xx3.size
        refine seq_call (.agg (ints .u8 (dig (padX 92 key ++ dig (padX 54 key ++ text))))) 44 #[z12] 55 rfl kj kj (rshortC (padX 92 key ++ dig (padX 54 key ++ text)) _ _ _ (by rw [List.length_append, padX_len, dig_len]; decide) (bytes_app (padX_bytes _ _) (dig_bytes _)) (OwnN.rd f105)) fun W11 e11 => ?_
        have x11 : Ext w W11 := Ext.tr x10 e11
        have r2_5 := (row_ext r2_4 e5)
        have r2_6 := (low_row l6 r2_5 (row_lt r2_4))
        have r2_7 := (row_ext r2_6 e7)
        have r2_8 := (row_ext r2_7 e8)
        have r2_9 := (Puts.row p9 r2_8 (ne_of_old r2_7 l101))
        have r2_10 := (low_row l10 r2_9 (row_lt r2_4))
        have r2_11 := (row_ext r2_10 e11)
        refine seq_store g2 _ (ints .u8 (dig (padX 92 key ++ dig (padX 54 key ++ text)))) 26 r2_11 rfl kj (run_store_row 26 _ _ g2 26 _ _ r2_11 rfl kj kj (isz (n := 32) kj ((ints_size _ _).trans (dig_len _))) (eqsz (n := 32) ((ints_size _ _).trans (List.length_replicate (n := 32))) ((ints_size _ _).trans (dig_len _))) (ints_one _ _)) fun W12 p12 r2_12 => ?_
        have x12 : Ext w W12 := Puts.ext p12 x11 b2
        refine seq_nil ?_
        refine hK102 _ _ ?_
        try clear hK102 K102
        refine wp_ret ?_
        repeat (first | with_reducible refine goR1 ?_ | with_reducible refine goR2 ?_)
        exact (show bodyPost _ _ _ .ret _ _ from ret1 (.agg (ints .u8 (dig (padX 92 key ++ dig (padX 54 key ++ text))))) rfl (res_cell g2 26 _ r2_12 kj kj (isz (n := 32) kj ((ints_size _ _).trans (dig_len _)))) ⟨rfl, x12⟩)

end Go.Proofs.YtamlhbbphnamnaaDoor.Sha
