/- Poly1305: a piece is taken. -/
import Derived.Test.YtjldjdlhllgakaaDoorAeC
namespace Go.Proofs.YtjldjdlhllgakaaDoor.Ae
open Go Go.RowKit
open Go.Proofs.YtjldjdlhllgakaaDoor.Rely Go.Proofs.YtjldjdlhllgakaaDoor.Auto Go.Proofs.YtjldjdlhllgakaaDoor.Own Go.Proofs.YtjldjdlhllgakaaDoor.Sha
set_option linter.unusedVariables false
set_option linter.unusedSimpArgs false

open Go.Proofs.YtjldjdlhllgakaaDoor.Sha Go.Proofs.YtjldjdlhllgakaaDoor.Cha
theorem run_storeQ {P : Program} {ρ : Operand → Value} {o : Oper} {w : World} (ty : TypeId) (x y : Operand) (g off : Nat) (t : TypeId) (pre post : List (Array Value)) (u v : Value) (hg : w.heap[g]? = some (.cells (cat (pre ++ ([#[u]] ++ post))) t))
    (ho : o.op = .store ty x y) (hx : ρ x = .pointer (some ⟨g, off, none⟩)) (hy : ρ y = v) (hi : (P.info? ty).map (·.size) = some 1) (hp : (cat pre).size = off) (h1 : v.oneCell' = true) (hcs : v.cells = #[v]) :
    (execOp ρ o).run P w = .ok .skip (w.setRow g (cat (pre ++ ([#[v]] ++ post)))) := by
  subst hp
  have hs : Nat.blt (cat pre).size (cat (pre ++ ([#[u]] ++ post))).size = true := by
    have : (cat pre).size < (cat (pre ++ ([#[u]] ++ post))).size := by
      rw [cat_append, cat_append, Array.size_append, Array.size_append]
      have e1 : (cat [#[u]]).size = 1 := rfl
      omega
    simpa using this
  have e : (cat (pre ++ ([#[u]] ++ post))).setIfInBounds (cat pre).size v = cat (pre ++ ([#[v]] ++ post)) := by
    rw [cat_append, cat_append, cat_append, cat_append]
    have e1 : ∀ z, cat [#[z]] = #[z] := fun z => rfl
    rw [e1, e1, Array.setIfInBounds_append_right (Nat.le_refl _), Nat.sub_self, Array.setIfInBounds_append_left (by simp)]
    rfl
  rw [← e]
  exact run_storeC1 ty x y g _ t _ v hg ho hx hy hi hs h1 hcs
theorem rdK_prt {k : IntKind} {T : TypeId} {g n0 n l h : Nat} {xs : List Int} (pre post : List (Array Value)) {W : World} (hp : (cat pre).size = n0) (hn : xs.length = n) (r : W.heap[g]? = some (.cells (cat (pre ++ ([ints k xs] ++ post))) T)) (h1 : l ≤ h) (h2 : h ≤ n) (h3 : n ≤ maxLen) :
    RdK k W.heap.size ((xs.drop l).take (h - l)) (.slice (some ⟨g, n0 + l, none⟩) (h - l) (n - l)) W :=
  rdK_row (n0 + l) (by rw [List.length_take, List.length_drop]; omega) r (fun i hi => by
    rw [nth_take _ _ _ hi, nth_drop]
    exact get_part pre post xs n0 (l + i) _ hp (by omega) (by omega)) (row_lt r) (by omega) (by omega)
theorem mulV_mod (v : Int) : mulV v % PP = v % PP := by
  unfold mulV PP
  omega
theorem mulV_lt (v : Int) (h0 : 0 ≤ v) (h : v < 115792089237316195423570985008687907853269984665640564039457584007913129639936) : 0 ≤ mulV v ∧ mulV v < 2041694201525630780780247644590609268736 := by
  unfold mulV
  omega
theorem lev_piece {c : List Int} (hb : AreBytes c) (hl : c.length ≤ 16) : 0 ≤ lev (c ++ [1]) ∧ lev (c ++ [1]) ≤ 680564733841876926926749214863536422912 := by
  have h1 := lev_lt hb
  have h0 := lev_nonneg hb
  rw [lev_snoc]
  have h2 : p256 16 = p256 c.length * p256 (16 - c.length) := by rw [← p256_add]; congr 1; omega
  have h3 := p256_pos (16 - c.length)
  have h4 : p256 c.length * 1 ≤ p256 c.length * p256 (16 - c.length) := Int.mul_le_mul_of_nonneg_left (by omega) (Int.le_of_lt (p256_pos _))
  have h5 := p256_pos c.length
  rw [p16] at h2
  omega
theorem set_take (pl : List Int) (m : Nat) (h : m < pl.length) : ((pl.set m 1).drop 0).take (m + 1 - 0) = pl.take m ++ [1] := by
  show (pl.set m 1).take (m + 1) = _
  rw [take_succ _ m (by rw [List.length_set]; exact h)]
  congr 1
  · rw [List.take_set_of_le (Nat.le_refl _)]
  · simp [nth, h]
/-- a piece taken into the sum -/
def turnV (r S : Int) (c : List Int) : Int := mulV ((S + lev (c ++ [1])) * r)
theorem turnV_lt {r S : Int} {c : List Int} (hS : 0 ≤ S ∧ S < 2041694201525630780780247644590609268736) (hr : 0 ≤ r ∧ r < 21267647932558653966460912964485513216) (hb : AreBytes c) (hl : c.length ≤ 16) : 0 ≤ turnV r S c ∧ turnV r S c < 2041694201525630780780247644590609268736 := by
  obtain ⟨h0, h1⟩ := lev_piece hb hl
  exact mulV_lt _ (Int.mul_nonneg (by omega) hr.1) (mul_bound (by omega) hr.1 (by omega) hr.2)
set_option maxRecDepth 100000 in
set_option maxHeartbeats 4000000 in
theorem turnC (g : Nat) (r s S : Int) (pl : List Int) (m : Nat) (w : World) (hr : 0 ≤ r ∧ r < 21267647932558653966460912964485513216) (hS : 0 ≤ S ∧ S < 2041694201525630780780247644590609268736) (hpl : pl.length = 17) (hpb : AreBytes pl) (hm : m ≤ 16) (hg : w.heap[g]? = some (.cells (cat [ints .u64 (nw3 r), ints .u64 (nw3 s), ints .u64 (nw3 (S)), ints .u8 (pl), #[.int .i64 ((m : Nat) : Int)]]) 72)) :
    Calls Tryd.prog 39 #[.pointer (some ⟨g, 0, none⟩)] w (fun e W => e = .returned (.tuple #[]) ∧ ExtB g w W ∧ W.heap[g]? = some (.cells (cat [ints .u64 (nw3 r), ints .u64 (nw3 s), ints .u64 (nw3 (turnV r S (pl.take m))), ints .u8 (pl.set m 1), #[.int .i64 0]]) 72)) := by
  have hpl1 : (pl.set m 1).length = 17 := by rw [List.length_set, hpl]
  have hpb1 : AreBytes (pl.set m 1) := bytes_set hpb _ (by decide) (by decide)
  have hset := set_take pl m (by omega)
  obtain ⟨hc0, hc1⟩ : 0 ≤ lev (((pl.set m 1).drop 0).take (m + 1 - 0)) ∧ lev (((pl.set m 1).drop 0).take (m + 1 - 0)) ≤ 680564733841876926926749214863536422912 := by rw [hset]; exact lev_piece (bytes_take hpb m) (by rw [List.length_take]; omega)
  refine enter 36 [(0, .pointer (some ⟨g, 0, none⟩))] Tryd.func39 rfl rfl kj rfl ?_
  refine wp_seq_k fun K2 hK2 => ?_
  refine any_region 8 [⟨none, [(0, none)]⟩, ⟨none, [(0, none)]⟩, ⟨none, [(3, some 1)]⟩, ⟨none, [(4, some 2)]⟩, ⟨none, [(5, some 3)]⟩, ⟨none, [(2, some 0)]⟩, ⟨none, [(7, some 5)]⟩, ⟨none, [(8, some 6), (6, some 4)]⟩] kj kj fun F hF => ?_
  refine any_val (.pointer (some ⟨g, 0, none⟩)) kj kj (fun W => by kernel_rfl) ?_
  refine any_val (.pointer (some ⟨g, 0, none⟩)) kj kj (fun W => by kernel_rfl) ?_
  refine any_val (.pointer (some ⟨g, 0, none⟩)) kj kj (fun W => by kernel_rfl) ?_
  refine any_val (.pointer (some ⟨g, 26, none⟩)) kj kj (fun W => by kernel_rfl) ?_
  refine any_read (.int .i64 ((m : Nat) : Int)) kj kj (fun W hR => (run_loadC1 3 _ g 26 72 _ (.int .i64 ((m : Nat) : Int)) _ (row_ext (row_ext hg (ext_drew _)) hR) rfl kj (cat_part [ints .u64 (nw3 r), ints .u64 (nw3 s), ints .u64 (nw3 (S)), ints .u8 (pl)] [#[.int .i64 ((m : Nat) : Int)]] [] 26 (by rw [cat_cons, cat_cons, cat_cons, cat_cons]; simp only [Array.size_append, cat, ((ints_size _ _).trans (nw3_len _)), ((ints_size _ _).trans hpl)]; rfl) 0 _ rfl) kj)) ?_
  refine any_val (.pointer (some ⟨g, 0, none⟩)) kj kj (fun W => by kernel_rfl) ?_
  refine any_val (.pointer (some ⟨g, 9, none⟩)) kj kj (fun W => by kernel_rfl) ?_
  refine any_val (.pointer (some ⟨g, 9 + m * 1, none⟩)) kj kj (fun W => (run_indexAddr 70 _ _ .i64 m g 9 17 5 1 rfl kj kj kj kj (show m < 17 by omega))) ?_
  refine steps_nil (hF _ kj fun W1 e1 => ?_)
  simp only [ups, up, Kn.val, List.take_succ_cons, List.take_zero, List.drop_succ_cons, List.drop_zero, List.nil_append, List.cons_append]
  clear hF
  have x1 : ExtB g w W1 := ExtB.ext (ExtB.refl g w) e1
  have r1_1 := (row_ext hg e1)
  refine seq_store g _ (cat [ints .u64 (nw3 r), ints .u64 (nw3 s), ints .u64 (nw3 (S)), ints .u8 ((pl).set m 1), #[.int .i64 ((m : Nat) : Int)]]) 72 r1_1 rfl kj (run_storeP 5 _ _ g (9 + m * 1) 72 [ints .u64 (nw3 r), ints .u64 (nw3 s), ints .u64 (nw3 (S))] [#[.int .i64 ((m : Nat) : Int)]] pl 9 m _ r1_1 rfl kj kj kj (by rw [cat_cons, cat_cons, cat_cons]; simp only [Array.size_append, cat, ((ints_size _ _).trans (nw3_len _))]; rfl) (by omega) (Nat.lt_of_lt_of_eq (show m < 17 by omega) hpl.symm)) fun W2 p2 r1_2 => ?_
  have x2 : ExtB g w W2 := ExtB.puts x1 p2
  refine seq_nil ?_
  refine hK2 _ _ ?_
  try clear hK2 K2
  refine wp_seq_k fun K3 hK3 => ?_
  refine any_region 23 [⟨none, [(0, none)]⟩, ⟨none, [(0, none)]⟩, ⟨none, [(11, some 1)]⟩, ⟨none, [(12, some 2)]⟩, ⟨none, [(13, some 3)]⟩, ⟨none, [(0, none)]⟩, ⟨none, [(15, some 5)]⟩, ⟨none, [(16, some 6)]⟩, ⟨none, [(0, none)]⟩, ⟨none, [(18, some 8)]⟩, ⟨none, [(19, some 9)]⟩, ⟨none, [(20, some 10)]⟩, ⟨none, [(21, some 11)]⟩, ⟨none, [(17, some 7), (22, some 12)]⟩, ⟨none, [(23, some 13)]⟩, ⟨none, [(14, some 4), (24, some 14)]⟩, ⟨none, [(0, none)]⟩, ⟨none, [(26, some 16)]⟩, ⟨none, [(27, some 17)]⟩, ⟨none, [(28, some 18)]⟩, ⟨none, [(25, some 15), (29, some 19)]⟩, ⟨none, [(10, some 0)]⟩, ⟨none, [(31, some 21)]⟩] kj kj fun F hF => ?_
  refine any_val (.pointer (some ⟨g, 0, none⟩)) kj kj (fun W => by kernel_rfl) ?_
  refine any_val (.pointer (some ⟨g, 0, none⟩)) kj kj (fun W => by kernel_rfl) ?_
  refine any_val (.pointer (some ⟨g, 0, none⟩)) kj kj (fun W => by kernel_rfl) ?_
  refine any_val (.pointer (some ⟨g, 6, none⟩)) kj kj (fun W => by kernel_rfl) ?_
  refine any_read (.agg (ints .u64 (nw3 (S)))) kj kj (fun W hR => (run_load_part 66 _ g 6 72 _ _ _ (row_ext (row_ext r1_2 (ext_drew _)) hR) rfl kj (cat_part [ints .u64 (nw3 r), ints .u64 (nw3 s)] [ints .u64 (nw3 (S))] [ints .u8 ((pl).set m 1), #[.int .i64 ((m : Nat) : Int)]] 6 (by rw [cat_cons, cat_cons]; simp only [Array.size_append, cat, ((ints_size _ _).trans (nw3_len _))]; rfl)) kj (isz (n := 3) kj ((ints_size _ _).trans (nw3_len _))))) ?_
  refine any_val (.pointer (some ⟨g, 0, none⟩)) kj kj (fun W => by kernel_rfl) ?_
  refine any_val (.pointer (some ⟨g, 0, none⟩)) kj kj (fun W => by kernel_rfl) ?_
  refine any_val (.pointer (some ⟨g, 9, none⟩)) kj kj (fun W => by kernel_rfl) ?_
  refine any_val (.pointer (some ⟨g, 0, none⟩)) kj kj (fun W => by kernel_rfl) ?_
  refine any_val (.pointer (some ⟨g, 0, none⟩)) kj kj (fun W => by kernel_rfl) ?_
  refine any_val (.pointer (some ⟨g, 26, none⟩)) kj kj (fun W => by kernel_rfl) ?_
  refine any_read (.int .i64 ((m : Nat) : Int)) kj kj (fun W hR => (run_loadC1 3 _ g 26 72 _ (.int .i64 ((m : Nat) : Int)) _ (row_ext (row_ext r1_2 (ext_drew _)) hR) rfl kj (cat_part [ints .u64 (nw3 r), ints .u64 (nw3 s), ints .u64 (nw3 (S)), ints .u8 ((pl).set m 1)] [#[.int .i64 ((m : Nat) : Int)]] [] 26 (by rw [cat_cons, cat_cons, cat_cons, cat_cons]; simp only [Array.size_append, cat, ((ints_size _ _).trans ((List.length_set ..).trans hpl)), ((ints_size _ _).trans (nw3_len _))]; rfl) 0 _ rfl) kj)) ?_
  refine any_val (.int .i64 (((m + 1 : Nat) : Int))) kj kj (fun W => (run_eq (u := .int .i64 (IntKind.i64.wrap (((m : Nat) : Int) + 1))) kj (congrArg (Value.int .i64) (IntWalk.i64_in _ (by omega))))) ?_
  refine any_val (.slice (some ⟨g, 9 + 0, none⟩) ((m + 1) - 0) (17 - 0)) kj kj (fun W => (run_sliceA 70 _ _ _ 0 (m + 1) 17 g 9 5 rfl kj kj kj rfl ⟨.i64, by kernel_rfl⟩ (by omega) (by omega) (by omega))) ?_
  refine any_call (.agg (ints .u64 (nw3 (lev (((pl.set m 1).drop 0).take (m + 1 - 0)))))) 38 #[.slice (some ⟨g, 9 + 0, none⟩) ((m + 1) - 0) (17 - 0)] kj kj (fun W => by kernel_rfl) (fun W hR => (valueC (((pl.set m 1).drop 0).take (m + 1 - 0)) _ _ W (rdK_prt (n0 := 9) (l := 0) (h := m + 1) [ints .u64 (nw3 r), ints .u64 (nw3 s), ints .u64 (nw3 (S))] [#[.int .i64 ((m : Nat) : Int)]] kj hpl1 (row_ext (row_ext r1_2 (ext_drew _)) hR) (by omega) (by omega) (by decide)) (by rw [List.length_take]; omega) (bytes_take (bytes_drop hpb1 0) _))) ?_
  refine any_call (.agg (ints .u64 (nw3 (S + lev (((pl.set m 1).drop 0).take (m + 1 - 0)))))) 40 #[.agg (ints .u64 (nw3 (S))), .agg (ints .u64 (nw3 (lev (((pl.set m 1).drop 0).take (m + 1 - 0)))))] kj kj (fun W => by kernel_rfl) (fun W hR => (plusC S (lev (((pl.set m 1).drop 0).take (m + 1 - 0))) hS.1 hc0 (by omega) (by omega) (by omega)) W) ?_
  refine any_val (.pointer (some ⟨g, 0, none⟩)) kj kj (fun W => by kernel_rfl) ?_
  refine any_val (.pointer (some ⟨g, 0, none⟩)) kj kj (fun W => by kernel_rfl) ?_
  refine any_val (.pointer (some ⟨g, 0, none⟩)) kj kj (fun W => by kernel_rfl) ?_
  refine any_read (.agg (ints .u64 (nw3 r))) kj kj (fun W hR => (run_load_part 66 _ g 0 72 _ _ _ (row_ext (row_ext r1_2 (ext_drew _)) hR) rfl kj (cat_part [] [ints .u64 (nw3 r)] [ints .u64 (nw3 s), ints .u64 (nw3 (S)), ints .u8 ((pl).set m 1), #[.int .i64 ((m : Nat) : Int)]] 0 kj) kj (isz (n := 3) kj ((ints_size _ _).trans (nw3_len _))))) ?_
  refine any_call (.agg (ints .u64 (nw3 (mulV ((S + lev (((pl.set m 1).drop 0).take (m + 1 - 0))) * r))))) 47 #[.agg (ints .u64 (nw3 (S + lev (((pl.set m 1).drop 0).take (m + 1 - 0))))), .agg (ints .u64 (nw3 r))] kj kj (fun W => by kernel_rfl) (fun W hR => (multiplyC (S + lev (((pl.set m 1).drop 0).take (m + 1 - 0))) r (by omega) hr.1 (by omega) hr.2) W) ?_
  refine any_val (.pointer (some ⟨g, 0, none⟩)) kj kj (fun W => by kernel_rfl) ?_
  refine any_val (.pointer (some ⟨g, 6, none⟩)) kj kj (fun W => by kernel_rfl) ?_
  refine steps_nil (hF _ kj fun W3 e3 => ?_)
  simp only [ups, up, Kn.val, List.take_succ_cons, List.take_zero, List.drop_succ_cons, List.drop_zero, List.nil_append, List.cons_append]
  clear hF
  have x3 : ExtB g w W3 := ExtB.ext x2 e3
  have r1_3 := (row_ext r1_2 e3)
  refine seq_store g _ (cat [ints .u64 (nw3 r), ints .u64 (nw3 s), ints .u64 (nw3 (mulV ((S + lev (((pl.set m 1).drop 0).take (m + 1 - 0))) * r))), ints .u8 ((pl).set m 1), #[.int .i64 ((m : Nat) : Int)]]) 72 r1_3 rfl kj (run_store_cat 66 _ _ g 6 72 [ints .u64 (nw3 r), ints .u64 (nw3 s)] [ints .u64 (nw3 (S))] [ints .u64 (nw3 (mulV ((S + lev (((pl.set m 1).drop 0).take (m + 1 - 0))) * r)))] [ints .u8 ((pl).set m 1), #[.int .i64 ((m : Nat) : Int)]] r1_3 rfl kj kj (isz (n := 3) kj ((ints_size _ _).trans (nw3_len _))) (by rw [cat_cons, cat_cons]; simp only [Array.size_append, cat, ((ints_size _ _).trans (nw3_len _))]; rfl) (eqsz (n := 3) ((ints_size _ _).trans (nw3_len _)) ((ints_size _ _).trans (nw3_len _))) (ints_one _ _)) fun W4 p4 r1_4 => ?_
  have x4 : ExtB g w W4 := ExtB.puts x3 p4
  refine seq_nil ?_
  refine hK3 _ _ ?_
  try clear hK3 K3
  refine region_lit ?_
  refine seq_val (.pointer (some ⟨g, 0, none⟩)) 33 rfl kj kj ?_
  refine seq_val (.pointer (some ⟨g, 0, none⟩)) 34 rfl kj kj ?_
  refine seq_val (.pointer (some ⟨g, 26, none⟩)) 35 rfl kj kj ?_
  refine seq_store g _ (cat [ints .u64 (nw3 r), ints .u64 (nw3 s), ints .u64 (nw3 (mulV ((S + lev (((pl.set m 1).drop 0).take (m + 1 - 0))) * r))), ints .u8 ((pl).set m 1), #[.int .i64 0]]) 72 r1_4 rfl kj (run_storeQ 3 _ _ g 26 72 [ints .u64 (nw3 r), ints .u64 (nw3 s), ints .u64 (nw3 (mulV ((S + lev (((pl.set m 1).drop 0).take (m + 1 - 0))) * r))), ints .u8 ((pl).set m 1)] [] _ (.int .i64 0) r1_4 rfl kj kj kj (by rw [cat_cons, cat_cons, cat_cons, cat_cons]; simp only [Array.size_append, cat, ((ints_size _ _).trans ((List.length_set ..).trans hpl)), ((ints_size _ _).trans (nw3_len _))]; rfl) rfl rfl) fun W5 p5 r1_5 => ?_
  have x5 : ExtB g w W5 := ExtB.puts x4 p5
  refine seq_nil ?_
  repeat (first | with_reducible refine goX1 ?_ | with_reducible refine goX2 ?_ | with_reducible refine goX3 ?_)
  exact (show bodyPost _ _ _ .normal _ _ from end0 rfl ⟨rfl, x5, by have h9 := r1_5; rw [hset] at h9; exact h9⟩)

end Go.Proofs.YtjldjdlhllgakaaDoor.Ae
