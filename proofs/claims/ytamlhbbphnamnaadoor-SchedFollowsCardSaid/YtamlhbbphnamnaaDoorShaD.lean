/- SHA-256: bytes are added. -/
import Derived.Test.YtamlhbbphnamnaaDoorShaC
namespace Go.Proofs.YtamlhbbphnamnaaDoor.Sha
open Go Go.RowKit
open Go.Proofs.YtamlhbbphnamnaaDoor.Rely Go.Proofs.YtamlhbbphnamnaaDoor.Auto Go.Proofs.YtamlhbbphnamnaaDoor.Own
set_option linter.unusedVariables false
set_option linter.unusedSimpArgs false

set_option maxHeartbeats 4000000 in
theorem addC (g B : Nat) (t ys : List Int) (v : Value) (tc : TypeId) (w : World) (hc : w.heap[1]? = some (.cells (ints .u64 cubesI) tc)) (hcg : 1 ≠ g) (hB : ys = [] ∨ v.ownBlock ≠ some g) (hyb : AreBytes ys) (hlen : t.length + ys.length ≤ 1000000000) (hd : HasD g t w) (hy : RdK .u8 B ys v w) :
    Calls Tryd.prog 42 #[.pointer (some ⟨g, 0, none⟩), v] w (fun e W => e = .returned (.tuple #[]) ∧ ExtB g w W ∧ HasD g (t ++ ys) W) := by
  obtain ⟨a0, c0, rfl, -⟩ := id hy
  refine enter 40 [(0, .pointer (some ⟨g, 0, none⟩)), (1, .slice a0 ys.length c0)] Tryd.func42 rfl rfl kj rfl ?_
  refine wp_seq_k fun K3 hK3 => ?_
  refine wp_seq_k fun K4 hK4 => ?_
  refine region_lit ?_
  refine seq_val (.pointer (some ⟨g, 0, none⟩)) 5 rfl kj kj ?_
  refine seq_val (.bool false) 6 rfl kj kj ?_
  refine seq_nil ?_
  refine hK4 _ _ ?_
  try clear hK4 K4
  refine cond_false kj ?_
  refine wp_skip ?_
  refine hK3 _ _ ?_
  try clear hK3 K3
  refine wp_block ?_
  have hyb2 : ∀ {k : Nat}, AreBytes (ys.drop k) := fun x hx => hyb x (List.mem_of_mem_drop hx)
  refine loop_auto (fun (s1 : Nat × Option Addr × Nat) => [(0, .pointer (some ⟨g, 0, none⟩)), (1, .slice s1.2.1 (ys.length - s1.1) s1.2.2)]) (fun (s1 : Nat × Option Addr × Nat) W => (s1.1 ≤ ys.length) ∧ (RdK .u8 B (ys.drop s1.1) (.slice s1.2.1 (ys.length - s1.1) s1.2.2) W) ∧ (s1.1 < ys.length → (Value.slice s1.2.1 (ys.length - s1.1) s1.2.2).ownBlock ≠ some g) ∧ (HasD g (t ++ ys.take s1.1) W) ∧ (ExtB g w W)) (fun (s1 : Nat × Option Addr × Nat) => ys.length - s1.1) (0, a0, c0) ⟨rfl, rfl, trivial⟩ ⟨(Nat.zero_le _), hy, (fun h => hB.resolve_left (fun e => by rw [e] at h; exact absurd h (Nat.lt_irrefl _))), (by simpa using hd), (ExtB.refl g w)⟩ fun s1 X1 V1 hI1 => ?_
  obtain ⟨k, a, c⟩ := s1
  obtain ⟨hk, hr, hnb, hD, xx1⟩ := hI1
  replace hk : k ≤ ys.length := hk
  replace hr : RdK .u8 B (ys.drop k) (.slice a (ys.length - k) c) V1 := hr
  replace hnb : k < ys.length → (Value.slice a (ys.length - k) c).ownBlock ≠ some g := hnb
  replace hD : HasD g (t ++ ys.take k) V1 := hD
  replace xx1 : ExtB g w V1 := xx1
  refine wp_seq_k fun K5 hK5 => ?_
  refine wp_seq_k fun K6 hK6 => ?_
  refine region_lit ?_
  refine seq_val (.slice a (ys.length - k) c) 7 rfl kj kj ?_
  refine seq_val (.int .i64 ((ys.length - k : Nat) : Int)) 8 rfl kj kj ?_
  refine seq_val (.bool (decide (((ys.length - k : Nat) : Int) > 0))) 9 rfl kj kj ?_
  refine seq_nil ?_
  refine hK6 _ _ ?_
  try clear hK6 K6
  refine cond_split (t := decide (((ys.length - k : Nat) : Int) > 0)) kj (fun c7 => ?_) (fun c7 => ?_)
  · skip
    have hk2 : k < ys.length := by have := of_decide_eq_true c7; omega
    obtain ⟨b, hbl, hbb, hbp, hmany, hrow⟩ := hD
    obtain ⟨t1, ht1⟩ : ∃ z, z = t ++ ys.take k := ⟨_, rfl⟩
    rw [← ht1] at hbp hmany hrow
    have hlt1 : t1.length = t.length + k := by rw [ht1, List.length_append, List.length_take]; omega
    obtain ⟨m, hm⟩ : ∃ z, z = t1.length := ⟨_, rfl⟩
    obtain ⟨s, hs⟩ : ∃ z, z = absorb S0 t1 (t1.length / 64) := ⟨_, rfl⟩
    obtain ⟨n, hn⟩ : ∃ z, z = min (ys.drop k).length (64 - m % 64) := ⟨_, rfl⟩
    have hn0 : 0 < n := by rw [hn, List.length_drop]; omega
    have hn1 : n ≤ ys.length - k := by rw [hn, List.length_drop]; omega
    have hn2 : n ≤ 64 - m % 64 := by rw [hn]; omega
    rw [← hs, ← hm] at hrow
    replace hrow : V1.heap[g]? = some (.cells (cat [ints .u32 ([wv s.a, wv s.b, wv s.c, wv s.d, wv s.e, wv s.f, wv s.g, wv s.h]), ints .u8 (b), #[.int .i64 ((m : Nat) : Int)]]) 90) := hrow
    refine wp_skip ?_
    refine hK5 _ _ ?_
    try clear hK5 K5
    refine wp_block ?_
    refine wp_seq_k fun K8 hK8 => ?_
    refine any_regionE 10 [⟨none, [(0, none)]⟩, ⟨none, [(10, some 0)]⟩, ⟨none, [(11, some 1)]⟩, ⟨none, [(0, none)]⟩, ⟨none, [(13, some 3)]⟩, ⟨none, [(14, some 4)]⟩, ⟨none, [(15, some 5)]⟩, ⟨none, [(16, some 6)]⟩, ⟨none, [(12, some 2), (17, some 7)]⟩, ⟨none, [(1, none)]⟩] kj kj fun F hF => ?_
    refine e_val (rl_ext _) (.pointer (some ⟨g, 0, none⟩)) kj kj (fun W => by kernel_rfl) ?_
    refine e_val (rl_ext _) (.pointer (some ⟨g, 0, none⟩)) kj kj (fun W => by kernel_rfl) ?_
    refine e_val (rl_ext _) (.pointer (some ⟨g, 8, none⟩)) kj kj (fun W => by kernel_rfl) ?_
    refine e_val (rl_ext _) (.pointer (some ⟨g, 0, none⟩)) kj kj (fun W => by kernel_rfl) ?_
    refine e_val (rl_ext _) (.pointer (some ⟨g, 0, none⟩)) kj kj (fun W => by kernel_rfl) ?_
    refine e_val (rl_ext _) (.pointer (some ⟨g, 72, none⟩)) kj kj (fun W => by kernel_rfl) ?_
    refine e_read (rl_ext _) (.int .i64 ((m : Nat) : Int)) kj kj (fun W hR => (run_loadC1 3 _ g 72 90 _ (.int .i64 ((m : Nat) : Int)) _ (row_ext (row_ext hrow (ext_drew _)) hR) rfl kj (cat_part [ints .u32 ([wv s.a, wv s.b, wv s.c, wv s.d, wv s.e, wv s.f, wv s.g, wv s.h]), ints .u8 (b)] [#[.int .i64 ((m : Nat) : Int)]] [] 72 (by rw [cat_cons, cat_cons]; simp only [Array.size_append, cat, ((ints_size _ _).trans hbl)]; rfl) 0 _ rfl) kj)) ?_
    refine e_val (rl_ext _) (.int .i64 ((m % 64 : Nat) : Int)) kj kj (fun W => (run_eq (u := .int .i64 (Int.tmod (((m : Nat) : Int)) (64))) kj (congrArg (Value.int .i64) (nat_rem _ 64)))) ?_
    refine e_val (rl_ext _) (.slice (some ⟨g, 8 + (m % 64), none⟩) (64 - (m % 64)) (64 - (m % 64))) kj kj (fun W => (run_sliceA 62 _ _ _ (m % 64) 64 64 g 8 5 rfl kj kj kj ⟨.i64, by kernel_rfl⟩ rfl (by omega) (by omega) (by omega))) ?_
    refine e_val (rl_ext _) (.slice a (ys.length - k) c) kj kj (fun W => by kernel_rfl) ?_
    refine e_nil (hF _ fun W2 e2 => ?_)
    simp only [List.nil_append, List.cons_append, List.take_succ_cons, List.take_zero, List.drop_succ_cons, List.drop_zero, finE, up]
    clear hF
    have x2 : ExtB g w W2 := ExtB.ext xx1 e2
    have r2_2 := (row_ext hrow e2)
    have f9_2 := (hr.ext e2)
    have hbl2 : (into b (ys.drop k) (m % 64) n).length = 64 := into_len hbl (by rw [List.length_drop]; omega) (by omega)
    refine seq_copyD (.tmp 18) (.tmp 19) 22 22 20 rfl kj rfl kj (q := m % 64) (n := n) (b := b) rfl hbl kj kj f9_2 r2_2 (by omega) hn (by rw [List.length_drop]; omega) fun W3 p3 r2_3 => ?_
    have x3 : ExtB g w W3 := ExtB.puts x2 p3
    refine seq_val (.int .i64 ((n : Nat) : Int)) 4 rfl kj kj ?_
    refine seq_nil ?_
    refine hK8 _ _ ?_
    try clear hK8 K8
    refine wp_seq_k fun K10 hK10 => ?_
    refine region_lit ?_
    refine seq_val (.slice a (ys.length - k) c) 21 rfl kj kj ?_
    refine seq_val (.int .i64 ((n : Nat) : Int)) 22 rfl kj kj ?_
    have f11_3 := (f9_2.putsN p3 (hnb hk2))
    refine seq_sliceRest 22 (.tmp 21) (.tmp 22) n (ys.length - k - n) 5 23 rfl rfl kj kj f11_3 kj kj .i64 kj (by rw [List.length_drop]; omega) (by rw [List.length_drop]) fun a2 c2 hr2 hob => ?_
    have hnb2 : (Value.slice a2 (ys.length - k - n) c2).ownBlock ≠ some g := by rw [hob]; exact hnb hk2
    refine seq_val (.slice a2 (ys.length - k - n) c2) 1 rfl kj kj ?_
    refine seq_nil ?_
    refine hK10 _ _ ?_
    try clear hK10 K10
    refine wp_seq_k fun K12 hK12 => ?_
    refine region_lit ?_
    refine seq_val (.pointer (some ⟨g, 0, none⟩)) 24 rfl kj kj ?_
    refine seq_val (.pointer (some ⟨g, 0, none⟩)) 25 rfl kj kj ?_
    refine seq_val (.pointer (some ⟨g, 72, none⟩)) 26 rfl kj kj ?_
    refine seq_val (.int .i64 ((m : Nat) : Int)) 27 rfl kj (run_loadC1 3 _ g 72 90 _ (.int .i64 ((m : Nat) : Int)) _ r2_3 rfl kj (cat_part [ints .u32 ([wv s.a, wv s.b, wv s.c, wv s.d, wv s.e, wv s.f, wv s.g, wv s.h]), ints .u8 (into b (ys.drop k) (m % 64) n)] [#[.int .i64 ((m : Nat) : Int)]] [] 72 (by rw [cat_cons, cat_cons]; simp only [Array.size_append, cat, ((ints_size _ _).trans hbl2)]; rfl) 0 _ rfl) kj) ?_
    refine seq_val (.int .i64 ((n : Nat) : Int)) 28 rfl kj kj ?_
    refine seq_val (.int .i64 ((m + n : Nat) : Int)) 29 rfl kj (run_eq (u := .int .i64 (IntKind.i64.wrap (((m : Nat) : Int) + ((n : Nat) : Int)))) kj (congrArg (Value.int .i64) (i64n _ _ (by omega) (by omega)))) ?_
    refine seq_val (.pointer (some ⟨g, 0, none⟩)) 30 rfl kj kj ?_
    refine seq_val (.pointer (some ⟨g, 72, none⟩)) 31 rfl kj kj ?_
    refine seq_store g _ (cat [ints .u32 ([wv s.a, wv s.b, wv s.c, wv s.d, wv s.e, wv s.f, wv s.g, wv s.h]), ints .u8 (into b (ys.drop k) (m % 64) n), #[.int .i64 ((m + n : Nat) : Int)]]) 90 r2_3 rfl kj (run_storeQ 3 _ _ g 72 90 [ints .u32 ([wv s.a, wv s.b, wv s.c, wv s.d, wv s.e, wv s.f, wv s.g, wv s.h]), ints .u8 (into b (ys.drop k) (m % 64) n)] [] _ (.int .i64 ((m + n : Nat) : Int)) r2_3 rfl kj kj kj (by rw [cat_cons, cat_cons]; simp only [Array.size_append, cat, ((ints_size _ _).trans hbl2)]; rfl) rfl rfl) fun W4 p4 r2_4 => ?_
    have x4 : ExtB g w W4 := ExtB.puts x3 p4
    refine seq_nil ?_
    refine hK12 _ _ ?_
    try clear hK12 K12
    refine wp_seq_k fun K13 hK13 => ?_
    refine region_lit ?_
    refine seq_val (.pointer (some ⟨g, 0, none⟩)) 32 rfl kj kj ?_
    refine seq_val (.pointer (some ⟨g, 0, none⟩)) 33 rfl kj kj ?_
    refine seq_val (.pointer (some ⟨g, 72, none⟩)) 34 rfl kj kj ?_
    refine seq_val (.int .i64 ((m + n : Nat) : Int)) 35 rfl kj (run_loadC1 3 _ g 72 90 _ (.int .i64 ((m + n : Nat) : Int)) _ r2_4 rfl kj (cat_part [ints .u32 ([wv s.a, wv s.b, wv s.c, wv s.d, wv s.e, wv s.f, wv s.g, wv s.h]), ints .u8 (into b (ys.drop k) (m % 64) n)] [#[.int .i64 ((m + n : Nat) : Int)]] [] 72 (by rw [cat_cons, cat_cons]; simp only [Array.size_append, cat, ((ints_size _ _).trans hbl2)]; rfl) 0 _ rfl) kj) ?_
    refine seq_val (.int .i64 (((m + n) % 64 : Nat) : Int)) 36 rfl kj (run_eq (u := .int .i64 (Int.tmod (((m + n : Nat) : Int)) (64))) kj (congrArg (Value.int .i64) (nat_rem _ 64))) ?_
    refine seq_val (.bool (((((m + n) % 64 : Nat) : Int) == 0))) 37 rfl kj kj ?_
    refine seq_nil ?_
    refine hK13 _ _ ?_
    try clear hK13 K13
    refine cond_split (t := ((((m + n) % 64 : Nat) : Int) == 0)) kj (fun c14 => ?_) (fun c14 => ?_)
    · skip
      have hmod : (m + n) % 64 = 0 := by have := c14; have h2 := eq_of_beq this; omega
      refine region_lit ?_
      refine seq_val (.pointer (some ⟨g, 0, none⟩)) 38 rfl kj kj ?_
      have r1_2 := (row_ext (ExtB.row xx1 hc hcg) e2)
      have r1_3 := (Puts.row p3 r1_2 hcg)
      have r1_4 := (Puts.row p4 r1_3 hcg)
      refine seq_callR (fun v W' => v = .tuple #[] ∧ ExtB g W4 W' ∧ W'.heap[g]? = some (.cells (cat [ints .u32 ((blk s (into b (ys.drop k) (m % 64) n)).l.map wv), ints .u8 (into b (ys.drop k) (m % 64) n), #[.int .i64 ((m + n : Nat) : Int)]]) 90)) 53 #[.pointer (some ⟨g, 0, none⟩)] 39 rfl kj kj ((turnB g s _ hbl2 (into_bytes hbb hyb2) _ tc _ r1_4 r2_4).mono fun e w' h => ⟨_, h.1, rfl, h.2⟩) fun v W5 h => ?_
      obtain ⟨rfl, q5, r2_5⟩ := h
      have x5 : ExtB g w W5 := ExtB.trans x4 q5
      refine seq_nil ?_
      have f15_4 := (hr2.putsN p4 hnb2)
      have f16_5 := (f15_4.extN q5 hnb2)
      have hr3 : RdK .u8 B (ys.drop (k + n)) (.slice a2 (ys.length - (k + n)) c2) W5 := by
        have h := f16_5
        rw [List.drop_drop, show ys.length - k - n = ys.length - (k + n) by omega] at h
        exact h
      have hlen3 : (t1 ++ (ys.drop k).take n).length = m + n := by rw [List.length_append, List.length_take, List.length_drop]; omega
      have hnb3 : (Value.slice a2 (ys.length - (k + n)) c2).ownBlock ≠ some g := by rw [show ys.length - (k + n) = ys.length - k - n by omega]; exact hnb2
      have hT : t ++ ys.take (k + n) = t1 ++ (ys.drop k).take n := by rw [ht1, List.append_assoc, List.take_add]
      have hzn : n ≤ (ys.drop k).length := by rw [List.length_drop]; omega
      have hb0 : (into b (ys.drop k) (m % 64) n).take ((t ++ ys.take (k + n)).length % 64) = (t ++ ys.take (k + n)).drop (64 * ((t ++ ys.take (k + n)).length / 64)) := by
        rw [hT, hlen3, hmod, List.take_zero, List.drop_of_length_le (by omega)]
      have hst : blk s (into b (ys.drop k) (m % 64) n) = absorb S0 (t ++ ys.take (k + n)) ((t ++ ys.take (k + n)).length / 64) := by rw [hT, hs, hm]; exact into_turn hbl hzn hbp (by omega)
      have hD2 : HasD g (t ++ ys.take (k + n)) W5 := ⟨_, hbl2, into_bytes hbb hyb2, hb0, by rw [hT, hlen3]; omega, by rw [← hst, hT, hlen3]; exact r2_5⟩
      repeat (first | with_reducible refine goX1 ?_ | with_reducible refine goX2 ?_ | with_reducible refine goX3 ?_)
      exact goes_then (k + n, a2, c2) ⟨rfl, (congrArg (fun z => Value.slice a2 z c2) (by omega)), trivial⟩ ⟨(by omega), hr3, (fun _ => hnb3), hD2, x5⟩ (by show ys.length - (k + n) < ys.length - k; omega)
    · skip
      have hmod : ¬ (m + n) % 64 = 0 := by have := c14; intro h0; rw [h0] at this; exact absurd this (by decide)
      refine wp_skip ?_
      have f17_4 := (hr2.putsN p4 hnb2)
      have hr3 : RdK .u8 B (ys.drop (k + n)) (.slice a2 (ys.length - (k + n)) c2) W4 := by
        have h := f17_4
        rw [List.drop_drop, show ys.length - k - n = ys.length - (k + n) by omega] at h
        exact h
      have hlen3 : (t1 ++ (ys.drop k).take n).length = m + n := by rw [List.length_append, List.length_take, List.length_drop]; omega
      have hnb3 : (Value.slice a2 (ys.length - (k + n)) c2).ownBlock ≠ some g := by rw [show ys.length - (k + n) = ys.length - k - n by omega]; exact hnb2
      have hT : t ++ ys.take (k + n) = t1 ++ (ys.drop k).take n := by rw [ht1, List.append_assoc, List.take_add]
      have hzn : n ≤ (ys.drop k).length := by rw [List.length_drop]; omega
      have hb0 : (into b (ys.drop k) (m % 64) n).take ((t ++ ys.take (k + n)).length % 64) = (t ++ ys.take (k + n)).drop (64 * ((t ++ ys.take (k + n)).length / 64)) := by
        rw [hT, hm]; exact into_stay hbl hzn hbp (by omega)
      have hst : s = absorb S0 (t ++ ys.take (k + n)) ((t ++ ys.take (k + n)).length / 64) := by rw [hT, hs]; exact (stay_state hzn (by omega)).symm
      have hD2 : HasD g (t ++ ys.take (k + n)) W4 := ⟨_, hbl2, into_bytes hbb hyb2, hb0, by rw [hT, hlen3]; omega, by rw [← hst, hT, hlen3]; exact r2_4⟩
      repeat (first | with_reducible refine goX1 ?_ | with_reducible refine goX2 ?_ | with_reducible refine goX3 ?_)
      exact goes_then (k + n, a2, c2) ⟨rfl, (congrArg (fun z => Value.slice a2 z c2) (by omega)), trivial⟩ ⟨(by omega), hr3, (fun _ => hnb3), hD2, x4⟩ (by show ys.length - (k + n) < ys.length - k; omega)
  · skip
    have hk2 : k = ys.length := by have := of_decide_eq_false c7; omega
    refine wp_exit ?_
    repeat (first | with_reducible refine goX1 ?_ | with_reducible refine goX2 ?_ | with_reducible refine goX3 ?_)
    exact (show bodyPost _ _ _ .normal _ _ from end0 rfl ⟨rfl, xx1, by rw [hk2, List.take_length] at hD; exact hD⟩)

end Go.Proofs.YtamlhbbphnamnaaDoor.Sha
