/- Poly1305: bytes are taken in. -/
import Derived.Test.YtjldjdlhllgakaaDoorAeD
namespace Go.Proofs.YtjldjdlhllgakaaDoor.Ae
open Go Go.RowKit
open Go.Proofs.YtjldjdlhllgakaaDoor.Rely Go.Proofs.YtjldjdlhllgakaaDoor.Auto Go.Proofs.YtjldjdlhllgakaaDoor.Own Go.Proofs.YtjldjdlhllgakaaDoor.Sha
set_option linter.unusedVariables false
set_option linter.unusedSimpArgs false

open Go.Proofs.YtjldjdlhllgakaaDoor.Sha Go.Proofs.YtjldjdlhllgakaaDoor.Cha
section
variable {ds : List Deferred} {P : Program} {ops : Array Oper} {Q : Exit → Act → World → Prop} {rest : List Oper} {o : Oper} {N : Nat} {L : Env} {W : World}
theorem seq_copyP {k : IntKind} {e : TypeId} (x y : Operand) (tx ty : TypeId) (d : Nat) (ho : o.op = .call { callee := .builtin .copy, args := #[x, y], argTypes := #[tx, ty] }) (hu : P.underlying tx = some (.slice e)) (hsz : (P.info? e).map (·.size) = some 1) (hd : o.dst = some d) (hgd : wantB ops o N L = some true)
    {g n0 off dl dc n B : Nat} (pre post : List (Array Value)) {xs z : List Int} {v : Value} {T : TypeId} (hp : (cat pre).size = n0) (hx : Rely.look (envN N L) x = .slice (some ⟨g, n0 + off, none⟩) dl dc) (hy : Rely.look (envN N L) y = v) (hr : RdK k B z v W)
    (hg : W.heap[g]? = some (.cells (cat (pre ++ ([ints k xs] ++ post))) T)) (hq : off + dl ≤ xs.length) (hn : n = min z.length dl) (h0 : 0 < n)
    (kk : ∀ W' : World, Puts W g W' → W'.heap[g]? = some (.cells (cat (pre ++ ([ints k (xs.take off ++ z.take n ++ xs.drop (off + n))] ++ post))) T) → WL P ops Q rest (actOf ds N ((d, .int .i64 ((n : Nat) : Int)) :: L)) W') : WL P ops Q (o :: rest) (actOf ds N L) W := by
  obtain ⟨a, cap, rfl, y2, y3, y4, y5⟩ := hr
  have hgo : ∀ W', (Builtin.copy_ #[tx, ty] o.type #[.slice (some ⟨g, n0 + off, none⟩) dl dc, .slice a z.length cap]).run P W = .ok (goInt n) W' → (execOp (Rely.look (envN N L)) o).run P W = .ok (.value (.int .i64 ((n : Nat) : Int))) W' := fun W' h => by
    unfold execOp
    simp only [ho, resolve, invoke, builtin, Sem.run_bind, Sem.run_pure, Result.andThen_ok, List.map_toArray, List.map_cons, List.map_nil, hx, hy, h, goInt]
  obtain ⟨gz, oz, rfl, z2, z3, z4⟩ := y5.resolve_left (fun e => by rw [e] at hn; simp at hn; omega)
  have hlen : ((z.take n).map (Value.int k)).length = n := by simp; omega
  have hsz2 : (cat (pre ++ ([ints k xs] ++ post))).size = n0 + xs.length + (cat post).size := by
    rw [cat_append, cat_append, Array.size_append, Array.size_append, hp]
    show n0 + ((cat [ints k xs]).size + (cat post).size) = _
    rw [show cat [ints k xs] = ints k xs by simp [cat], ints_size]; omega
  have h := run_copy_row (P := P) W tx ty o.type e g (n0 + off) dl dc ⟨gz, oz, none⟩ z.length cap (cat (pre ++ ([ints k xs] ++ post))) T ((z.take n).map (Value.int k)) hu hsz hg (by rw [hlen]; exact hn)
    (newsK (k := k) (ys := z.take n) fun i hi => by
      rw [List.length_take] at hi
      rw [z4 i (by omega)]
      simp [nth, show i < n by omega]) (by rw [hlen, hsz2]; omega) (onesK k _)
  rw [hlen] at h
  have hpl : (cat pre).toList.length = n0 := by rw [Array.length_toList, hp]
  have e1 : ((cat (pre ++ ([ints k xs] ++ post))).toList.take (n0 + off) ++ (z.take n).map (Value.int k) ++ (cat (pre ++ ([ints k xs] ++ post))).toList.drop (n0 + off + n)).toArray = cat (pre ++ ([ints k (xs.take off ++ z.take n ++ xs.drop (off + n))] ++ post)) := by
    apply Array.ext'
    have ec : ∀ ys : List Int, (cat (pre ++ ([ints k ys] ++ post))).toList = (cat pre).toList ++ (ys.map (Value.int k) ++ (cat post).toList) := fun ys => by
      rw [cat_append, cat_append]
      simp [cat, ints]
    show (cat (pre ++ ([ints k xs] ++ post))).toList.take (n0 + off) ++ (z.take n).map (Value.int k) ++ (cat (pre ++ ([ints k xs] ++ post))).toList.drop (n0 + off + n) = _
    rw [ec, ec, List.take_append, List.take_of_length_le (by omega), hpl, show n0 + off - n0 = off by omega, List.take_append_of_le_length (by rw [List.length_map]; omega), List.drop_append, List.drop_of_length_le (by omega), hpl, show n0 + off + n - n0 = off + n by omega, List.nil_append, List.drop_append_of_le_length (by rw [List.length_map]; omega)]
    simp only [List.map_append, List.map_take, List.map_drop, List.append_assoc]
  rw [e1] at h
  exact seq_valw _ _ d hd hgd (hgo _ h) (kk _ (puts_setRow _ _ _) (setRow_heap _ _ _ _ _ _ hg))
end
theorem polyN_pre (r : Int) (u z : List Int) : ∀ n, 16 * n ≤ u.length → polyN r (u ++ z) n = polyN r u n
  | 0, _ => rfl
  | n + 1, h => by
    unfold polyN
    rw [polyN_pre r u z n (by omega), List.drop_append_of_le_length (by omega), List.take_append_of_le_length (by rw [List.length_drop]; omega)]
theorem stepA {r S : Int} {u z : List Int} {q m : Nat} (hu : u.length = 16 * q + m) (hz : z.length = 16 - m) (hm : m < 16) (hS : S % PP = polyN r u q) : turnV r S (u.drop (16 * q) ++ z) % PP = polyN r (u ++ z) (q + 1) := by
  unfold polyN turnV
  rw [polyN_pre r u z q (by omega), List.drop_append_of_le_length (by omega), List.take_of_length_le (by rw [List.length_append, List.length_drop]; omega)]
  exact small_next hS (mulV_mod _)
theorem into_take {pl z : List Int} {m n : Nat} (hm : m ≤ pl.length) (hz : z.length = n) : (pl.take m ++ z ++ pl.drop (m + n)).take (m + n) = pl.take m ++ z := by
  have h1 : (pl.take m ++ z).length = m + n := by rw [List.length_append, List.length_take, hz]; omega
  rw [List.take_append_of_le_length (by omega), List.take_of_length_le (by omega)]
theorem into_len {pl z : List Int} {m n : Nat} (hm : m + n ≤ pl.length) (hz : z.length = n) : (pl.take m ++ z ++ pl.drop (m + n)).length = pl.length := by
  rw [List.length_append, List.length_append, List.length_take, List.length_drop, hz]; omega
theorem take_add' (ys : List Int) (k n : Nat) : ys.take (k + n) = ys.take k ++ (ys.drop k).take n := List.take_add ..
/-- a marker that has taken in a text -/
def Mk (g : Nat) (r s : Int) (t : List Int) (W : World) : Prop := ∃ (S : Int) (pl : List Int) (q m : Nat), t.length = 16 * q + m ∧ m < 16 ∧ W.heap[g]? = some (.cells (cat [ints .u64 (nw3 r), ints .u64 (nw3 s), ints .u64 (nw3 (S)), ints .u8 (pl), #[.int .i64 ((m : Nat) : Int)]]) 72) ∧ S % PP = polyN r t q ∧ (0 ≤ S ∧ S < 2041694201525630780780247644590609268736) ∧ pl.length = 17 ∧ AreBytes pl ∧ pl.take m = t.drop (16 * q)
set_option maxRecDepth 100000 in
set_option maxHeartbeats 4000000 in
theorem addC (g : Nat) (r s : Int) (t ys : List Int) (v : Value) (B : Nat) (w : World) (hr : 0 ≤ r ∧ r < 21267647932558653966460912964485513216) (hBg : B ≤ g) (hy : RdK .u8 B ys v w) (hyb : AreBytes ys) (hyl : ys.length ≤ 3000000) (hM : Mk g r s t w) :
    Calls Tryd.prog 25 #[.pointer (some ⟨g, 0, none⟩), v] w (fun e W => e = .returned (.tuple #[]) ∧ ExtB g w W ∧ Mk g r s (t ++ ys) W) := by
  obtain ⟨S0, pl0, q0, m0, hq0, hm0, hg, hSm0, hS0, hpl0, hpb0, hpt0⟩ := hM
  refine enter 36 [(0, .pointer (some ⟨g, 0, none⟩)), (1, v)] Tryd.func25 rfl rfl kj rfl ?_
  refine wp_block ?_
  refine loop_auto (fun (s1 : Nat × Nat × Nat × Int × List Int × Value) => [(0, .pointer (some ⟨g, 0, none⟩)), (1, s1.2.2.2.2.2)]) (fun (s1 : Nat × Nat × Nat × Int × List Int × Value) W => (s1.1 ≤ ys.length) ∧ (RdK .u8 B (ys.drop s1.1) s1.2.2.2.2.2 W) ∧ (t.length + s1.1 = 16 * s1.2.2.1 + s1.2.1 ∧ s1.2.1 < 16) ∧ (s1.2.2.2.1 % PP = polyN r (t ++ ys.take s1.1) s1.2.2.1) ∧ (0 ≤ s1.2.2.2.1 ∧ s1.2.2.2.1 < 2041694201525630780780247644590609268736) ∧ (s1.2.2.2.2.1.length = 17) ∧ (AreBytes s1.2.2.2.2.1) ∧ (s1.2.2.2.2.1.take s1.2.1 = (t ++ ys.take s1.1).drop (16 * s1.2.2.1)) ∧ (W.heap[g]? = some (.cells (cat [ints .u64 (nw3 r), ints .u64 (nw3 s), ints .u64 (nw3 (s1.2.2.2.1)), ints .u8 (s1.2.2.2.2.1), #[.int .i64 ((s1.2.1 : Nat) : Int)]]) 72)) ∧ (Keeps [g] w W) ∧ (ExtB g w W)) (fun (s1 : Nat × Nat × Nat × Int × List Int × Value) => ys.length - s1.1) (0, m0, q0, S0, pl0, v) ⟨rfl, rfl, trivial⟩ ⟨(Nat.zero_le _), (show RdK .u8 B (ys.drop 0) v w from hy), ⟨hq0, hm0⟩, (show S0 % PP = polyN r (t ++ ys.take 0) q0 by rw [List.take_zero, List.append_nil]; exact hSm0), hS0, hpl0, hpb0, (show pl0.take m0 = (t ++ ys.take 0).drop (16 * q0) by rw [List.take_zero, List.append_nil]; exact hpt0), hg, (Keeps.refl [g] w), (ExtB.refl g w)⟩ fun s1 X1 V1 hI1 => ?_
  obtain ⟨k, m, q, S, pl, bv⟩ := s1
  obtain ⟨hk, hrb, hmq, hSm, hS, hpl, hpb, hpt, q1_1, kk1, xx1⟩ := hI1
  replace hk : k ≤ ys.length := hk
  replace hrb : RdK .u8 B (ys.drop k) bv V1 := hrb
  replace hmq : t.length + k = 16 * q + m ∧ m < 16 := hmq
  replace hSm : S % PP = polyN r (t ++ ys.take k) q := hSm
  replace hS : 0 ≤ S ∧ S < 2041694201525630780780247644590609268736 := hS
  replace hpl : pl.length = 17 := hpl
  replace hpb : AreBytes pl := hpb
  replace hpt : pl.take m = (t ++ ys.take k).drop (16 * q) := hpt
  replace q1_1 : V1.heap[g]? = some (.cells (cat [ints .u64 (nw3 r), ints .u64 (nw3 s), ints .u64 (nw3 (S)), ints .u8 (pl), #[.int .i64 ((m : Nat) : Int)]]) 72) := q1_1
  replace kk1 : Keeps [g] w V1 := kk1
  replace xx1 : ExtB g w V1 := xx1
  have q1 := kk1
  obtain ⟨ab, cb, rfl, hcb, -, -, -⟩ := id hrb
  have hld : (ys.drop k).length = ys.length - k := List.length_drop ..
  refine wp_seq_k fun K2 hK2 => ?_
  refine wp_seq_k fun K3 hK3 => ?_
  refine region_lit ?_
  refine seq_val (.slice ab ((ys.drop k).length) cb) 5 rfl kj kj ?_
  refine seq_val (.int .i64 (((ys.drop k).length : Nat) : Int)) 6 rfl kj kj ?_
  refine seq_val (.bool (decide ((((ys.drop k).length : Nat) : Int) > 0))) 7 rfl kj kj ?_
  refine seq_nil ?_
  refine hK3 _ _ ?_
  try clear hK3 K3
  refine cond_split (t := decide ((((ys.drop k).length : Nat) : Int) > 0)) kj (fun c4 => ?_) (fun c4 => ?_)
  · skip
    have hlt : k < ys.length := by have := of_decide_eq_true c4; omega
    refine wp_skip ?_
    refine hK2 _ _ ?_
    try clear hK2 K2
    refine wp_block ?_
    refine wp_seq_k fun K5 hK5 => ?_
    rcases (show 16 - m ≤ ys.length - k ∨ ys.length - k < 16 - m by omega) with hq | hq
    · skip
      obtain ⟨n, en⟩ : ∃ z, z = (16 - m) := ⟨_, rfl⟩
      have hn0 : 0 < n ∧ m + n ≤ 16 ∧ k + n ≤ ys.length := by omega
      have hnm : n = min (ys.drop k).length (16 - m) := by omega
      refine any_regionE 9 [⟨none, [(0, none)]⟩, ⟨none, [(8, some 0)]⟩, ⟨none, [(9, some 1)]⟩, ⟨none, [(0, none)]⟩, ⟨none, [(11, some 3)]⟩, ⟨none, [(12, some 4)]⟩, ⟨none, [(13, some 5)]⟩, ⟨none, [(10, some 2), (14, some 6)]⟩, ⟨none, [(1, none)]⟩] kj kj fun F hF => ?_
      refine e_val (rl_ext _) (.pointer (some ⟨g, 0, none⟩)) kj kj (fun W => by kernel_rfl) ?_
      refine e_val (rl_ext _) (.pointer (some ⟨g, 0, none⟩)) kj kj (fun W => by kernel_rfl) ?_
      refine e_val (rl_ext _) (.pointer (some ⟨g, 9, none⟩)) kj kj (fun W => by kernel_rfl) ?_
      refine e_val (rl_ext _) (.pointer (some ⟨g, 0, none⟩)) kj kj (fun W => by kernel_rfl) ?_
      refine e_val (rl_ext _) (.pointer (some ⟨g, 0, none⟩)) kj kj (fun W => by kernel_rfl) ?_
      refine e_val (rl_ext _) (.pointer (some ⟨g, 26, none⟩)) kj kj (fun W => by kernel_rfl) ?_
      refine e_read (rl_ext _) (.int .i64 ((m : Nat) : Int)) kj kj (fun W hR => (run_loadC1 3 _ g 26 72 _ (.int .i64 ((m : Nat) : Int)) _ (row_ext (row_ext q1_1 (ext_drew _)) hR) rfl kj (cat_part [ints .u64 (nw3 r), ints .u64 (nw3 s), ints .u64 (nw3 (S)), ints .u8 (pl)] [#[.int .i64 ((m : Nat) : Int)]] [] 26 (by rw [cat_cons, cat_cons, cat_cons, cat_cons]; simp only [Array.size_append, cat, ((ints_size _ _).trans (nw3_len _)), ((ints_size _ _).trans hpl)]; rfl) 0 _ rfl) kj)) ?_
      refine e_val (rl_ext _) (.slice (some ⟨g, 9 + m, none⟩) (16 - m) (17 - m)) kj kj (fun W => (run_sliceA 70 _ _ _ m 16 17 g 9 5 rfl kj kj kj ⟨.i64, by kernel_rfl⟩ ⟨.i64, by kernel_rfl⟩ (by omega) (by omega) (by omega))) ?_
      refine e_val (rl_ext _) (.slice ab ((ys.drop k).length) cb) kj kj (fun W => by kernel_rfl) ?_
      refine e_nil (hF _ fun W2 e2 => ?_)
      simp only [List.nil_append, List.cons_append, List.take_succ_cons, List.take_zero, List.drop_succ_cons, List.drop_zero, finE, up]
      clear hF
      have x2 : ExtB g w W2 := ExtB.ext xx1 e2
      have r1_2 := (row_ext q1_1 e2)
      have f6_2 := (hrb.ext e2)
      refine seq_copyP (k := .u8) (e := 5) (n0 := 9) (off := m) (dl := 16 - m) (dc := 17 - m) (n := n) (.tmp 15) (.tmp 16) 24 24 17 rfl kj kj rfl kj [ints .u64 (nw3 r), ints .u64 (nw3 s), ints .u64 (nw3 (S))] [#[.int .i64 ((m : Nat) : Int)]] (xs := pl) (z := ys.drop k) kj kj kj f6_2 r1_2 (by rw [hpl]; omega) hnm hn0.1 fun W3 p3 r1_3 => ?_
      have x3 : ExtB g w W3 := ExtB.puts x2 p3
      obtain ⟨z, ez⟩ : ∃ z, z = (ys.drop k).take n := ⟨_, rfl⟩
      have hzl : z.length = n := by rw [ez, List.length_take]; omega
      have hzb : AreBytes z := ez ▸ bytes_take (bytes_drop hyb k) n
      rw [← ez] at r1_3
      obtain ⟨pl1, epl1⟩ : ∃ y, y = pl.take m ++ z ++ pl.drop (m + n) := ⟨_, rfl⟩
      have hpl1 : pl1.length = 17 := by rw [epl1, into_len (by omega) hzl, hpl]
      have hpb1 : AreBytes pl1 := epl1 ▸ bytes_app (bytes_app (bytes_take hpb m) hzb) (bytes_drop hpb _)
      rw [← epl1] at r1_3
      have hpt1 : pl1.take (m + n) = pl.take m ++ z := by rw [epl1]; exact into_take (by omega) hzl
      refine seq_val (.int .i64 ((n : Nat) : Int)) 4 rfl kj kj ?_
      refine seq_nil ?_
      refine hK5 _ _ ?_
      try clear hK5 K5
      refine wp_seq_k fun K7 hK7 => ?_
      refine region_lit ?_
      refine seq_val (.slice ab ((ys.drop k).length) cb) 18 rfl kj kj ?_
      refine seq_val (.int .i64 ((n : Nat) : Int)) 19 rfl kj kj ?_
      refine seq_val (.slice (restA ab cb n) ((ys.drop k).length - n) (cb - n)) 20 rfl kj (run_sliceD (len := (ys.drop k).length) 24 _ _ n 5 rfl kj kj kj .i64 kj (by omega) hcb) ?_
      refine seq_val (.slice (restA ab cb n) ((ys.drop k).length - n) (cb - n)) 1 rfl kj kj ?_
      refine seq_nil ?_
      refine hK7 _ _ ?_
      try clear hK7 K7
      refine wp_seq_k fun K8 hK8 => ?_
      refine region_lit ?_
      refine seq_val (.pointer (some ⟨g, 0, none⟩)) 21 rfl kj kj ?_
      refine seq_val (.pointer (some ⟨g, 0, none⟩)) 22 rfl kj kj ?_
      refine seq_val (.pointer (some ⟨g, 26, none⟩)) 23 rfl kj kj ?_
      refine seq_val (.int .i64 ((m : Nat) : Int)) 24 rfl kj (run_loadC1 3 _ g 26 72 _ (.int .i64 ((m : Nat) : Int)) _ r1_3 rfl kj (cat_part [ints .u64 (nw3 r), ints .u64 (nw3 s), ints .u64 (nw3 (S)), ints .u8 (pl1)] [#[.int .i64 ((m : Nat) : Int)]] [] 26 (by rw [cat_cons, cat_cons, cat_cons, cat_cons]; simp only [Array.size_append, cat, ((ints_size _ _).trans (nw3_len _)), ((ints_size _ _).trans hpl1)]; rfl) 0 _ rfl) kj) ?_
      refine seq_val (.int .i64 ((n : Nat) : Int)) 25 rfl kj kj ?_
      refine seq_val (.int .i64 ((m + n : Nat) : Int)) 26 rfl kj (run_eq (u := .int .i64 (IntKind.i64.wrap (((m : Nat) : Int) + ((n : Nat) : Int)))) kj (congrArg (Value.int .i64) (i64n _ _ (by omega) (by omega)))) ?_
      refine seq_val (.pointer (some ⟨g, 0, none⟩)) 27 rfl kj kj ?_
      refine seq_val (.pointer (some ⟨g, 26, none⟩)) 28 rfl kj kj ?_
      refine seq_store g _ (cat [ints .u64 (nw3 r), ints .u64 (nw3 s), ints .u64 (nw3 (S)), ints .u8 (pl1), #[.int .i64 ((m + n : Nat) : Int)]]) 72 r1_3 rfl kj (run_storeQ 3 _ _ g 26 72 [ints .u64 (nw3 r), ints .u64 (nw3 s), ints .u64 (nw3 (S)), ints .u8 (pl1)] [] _ (.int .i64 ((m + n : Nat) : Int)) r1_3 rfl kj kj kj (by rw [cat_cons, cat_cons, cat_cons, cat_cons]; simp only [Array.size_append, cat, ((ints_size _ _).trans (nw3_len _)), ((ints_size _ _).trans hpl1)]; rfl) rfl rfl) fun W4 p4 r1_4 => ?_
      have x4 : ExtB g w W4 := ExtB.puts x3 p4
      refine seq_nil ?_
      refine hK8 _ _ ?_
      try clear hK8 K8
      refine wp_seq_k fun K9 hK9 => ?_
      refine region_lit ?_
      refine seq_val (.pointer (some ⟨g, 0, none⟩)) 29 rfl kj kj ?_
      refine seq_val (.pointer (some ⟨g, 0, none⟩)) 30 rfl kj kj ?_
      refine seq_val (.pointer (some ⟨g, 26, none⟩)) 31 rfl kj kj ?_
      refine seq_val (.int .i64 ((m + n : Nat) : Int)) 32 rfl kj (run_loadC1 3 _ g 26 72 _ (.int .i64 ((m + n : Nat) : Int)) _ r1_4 rfl kj (cat_part [ints .u64 (nw3 r), ints .u64 (nw3 s), ints .u64 (nw3 (S)), ints .u8 (pl1)] [#[.int .i64 ((m + n : Nat) : Int)]] [] 26 (by rw [cat_cons, cat_cons, cat_cons, cat_cons]; simp only [Array.size_append, cat, ((ints_size _ _).trans (nw3_len _)), ((ints_size _ _).trans hpl1)]; rfl) 0 _ rfl) kj) ?_
      refine seq_val (.bool true) 33 rfl kj (run_eq (u := .bool ((((m + n : Nat) : Int) == 16))) kj (congrArg Value.bool (by rw [show m + n = 16 by omega]; rfl))) ?_
      refine seq_nil ?_
      refine hK9 _ _ ?_
      try clear hK9 K9
      refine cond_true kj ?_
      refine region_lit ?_
      refine seq_val (.pointer (some ⟨g, 0, none⟩)) 34 rfl kj kj ?_
      refine seq_callR (fun v W' => v = .tuple #[] ∧ ExtB g W4 W' ∧ W'.heap[g]? = some (.cells (cat [ints .u64 (nw3 r), ints .u64 (nw3 s), ints .u64 (nw3 (turnV r S (pl1.take (m + n)))), ints .u8 (pl1.set (m + n) 1), #[.int .i64 0]]) 72)) 39 #[.pointer (some ⟨g, 0, none⟩)] 35 rfl kj kj ((turnC g r s S pl1 (m + n) _ hr hS hpl1 hpb1 hn0.2.1 r1_4).mono fun e w' h => ⟨_, h.1, rfl, h.2⟩) fun v W5 h => ?_
      obtain ⟨rfl, q5, r1_5⟩ := h
      have hpl2 : (pl1.set (m + n) 1).length = 17 := by rw [List.length_set, hpl1]
      have x5 : ExtB g w W5 := ExtB.trans x4 q5
      refine seq_nil ?_
      have f10_3 := (f6_2.puts p3 hBg)
      have f11_4 := (f10_3.puts p4 hBg)
      have f12_5 := (f11_4.extB q5 hBg)
      have hu : (t ++ ys.take k).length = 16 * q + m := by rw [List.length_append, List.length_take]; omega
      have htk : t ++ ys.take (k + n) = (t ++ ys.take k) ++ z := by rw [take_add' ys k n, ← ez, List.append_assoc]
      repeat (first | with_reducible refine goX1 ?_ | with_reducible refine goX2 ?_ | with_reducible refine goX3 ?_)
      exact goes_then ((k + n), 0, (q + 1), (turnV r S (pl1.take (m + n))), (pl1.set (m + n) 1), (.slice (restA ab cb n) ((ys.drop k).length - n) (cb - n))) ⟨rfl, rfl, trivial⟩ ⟨(show k + n ≤ ys.length by omega), (by rw [show ys.drop (k + n) = (ys.drop k).drop n from (List.drop_drop ..).symm]; exact rdK_drop f12_5 n (by omega)), (show t.length + (k + n) = 16 * (q + 1) + 0 ∧ 0 < 16 by omega), (show _ = polyN r (t ++ ys.take (k + n)) (q + 1) by rw [hpt1, hpt, htk]; exact stepA hu (by omega) hmq.2 hSm), (turnV_lt hS hr (bytes_take hpb1 _) (by rw [List.length_take]; omega)), hpl2, (bytes_set hpb1 _ (by decide) (by decide)), (show (pl1.set (m + n) 1).take 0 = (t ++ ys.take (k + n)).drop (16 * (q + 1)) by rw [htk, List.take_zero, List.drop_of_length_le (by rw [List.length_append, hu]; omega)]), r1_5, (Keeps.but (Keeps.puts (Keeps.puts (Keeps.step q1 e2) p3 (.inl (by simp))) p4 (.inl (by simp))) q5 (.inl (by simp))), x5⟩ (by show ys.length - (k + n) < ys.length - k; omega)
    · skip
      obtain ⟨n, en⟩ : ∃ z, z = (ys.length - k) := ⟨_, rfl⟩
      have hn0 : 0 < n ∧ m + n ≤ 16 ∧ k + n ≤ ys.length := by omega
      have hnm : n = min (ys.drop k).length (16 - m) := by omega
      refine any_regionE 9 [⟨none, [(0, none)]⟩, ⟨none, [(8, some 0)]⟩, ⟨none, [(9, some 1)]⟩, ⟨none, [(0, none)]⟩, ⟨none, [(11, some 3)]⟩, ⟨none, [(12, some 4)]⟩, ⟨none, [(13, some 5)]⟩, ⟨none, [(10, some 2), (14, some 6)]⟩, ⟨none, [(1, none)]⟩] kj kj fun F hF => ?_
      refine e_val (rl_ext _) (.pointer (some ⟨g, 0, none⟩)) kj kj (fun W => by kernel_rfl) ?_
      refine e_val (rl_ext _) (.pointer (some ⟨g, 0, none⟩)) kj kj (fun W => by kernel_rfl) ?_
      refine e_val (rl_ext _) (.pointer (some ⟨g, 9, none⟩)) kj kj (fun W => by kernel_rfl) ?_
      refine e_val (rl_ext _) (.pointer (some ⟨g, 0, none⟩)) kj kj (fun W => by kernel_rfl) ?_
      refine e_val (rl_ext _) (.pointer (some ⟨g, 0, none⟩)) kj kj (fun W => by kernel_rfl) ?_
      refine e_val (rl_ext _) (.pointer (some ⟨g, 26, none⟩)) kj kj (fun W => by kernel_rfl) ?_
      refine e_read (rl_ext _) (.int .i64 ((m : Nat) : Int)) kj kj (fun W hR => (run_loadC1 3 _ g 26 72 _ (.int .i64 ((m : Nat) : Int)) _ (row_ext (row_ext q1_1 (ext_drew _)) hR) rfl kj (cat_part [ints .u64 (nw3 r), ints .u64 (nw3 s), ints .u64 (nw3 (S)), ints .u8 (pl)] [#[.int .i64 ((m : Nat) : Int)]] [] 26 (by rw [cat_cons, cat_cons, cat_cons, cat_cons]; simp only [Array.size_append, cat, ((ints_size _ _).trans (nw3_len _)), ((ints_size _ _).trans hpl)]; rfl) 0 _ rfl) kj)) ?_
      refine e_val (rl_ext _) (.slice (some ⟨g, 9 + m, none⟩) (16 - m) (17 - m)) kj kj (fun W => (run_sliceA 70 _ _ _ m 16 17 g 9 5 rfl kj kj kj ⟨.i64, by kernel_rfl⟩ ⟨.i64, by kernel_rfl⟩ (by omega) (by omega) (by omega))) ?_
      refine e_val (rl_ext _) (.slice ab ((ys.drop k).length) cb) kj kj (fun W => by kernel_rfl) ?_
      refine e_nil (hF _ fun W2 e2 => ?_)
      simp only [List.nil_append, List.cons_append, List.take_succ_cons, List.take_zero, List.drop_succ_cons, List.drop_zero, finE, up]
      clear hF
      have x2 : ExtB g w W2 := ExtB.ext xx1 e2
      have r1_2 := (row_ext q1_1 e2)
      have f13_2 := (hrb.ext e2)
      refine seq_copyP (k := .u8) (e := 5) (n0 := 9) (off := m) (dl := 16 - m) (dc := 17 - m) (n := n) (.tmp 15) (.tmp 16) 24 24 17 rfl kj kj rfl kj [ints .u64 (nw3 r), ints .u64 (nw3 s), ints .u64 (nw3 (S))] [#[.int .i64 ((m : Nat) : Int)]] (xs := pl) (z := ys.drop k) kj kj kj f13_2 r1_2 (by rw [hpl]; omega) hnm hn0.1 fun W3 p3 r1_3 => ?_
      have x3 : ExtB g w W3 := ExtB.puts x2 p3
      obtain ⟨z, ez⟩ : ∃ z, z = (ys.drop k).take n := ⟨_, rfl⟩
      have hzl : z.length = n := by rw [ez, List.length_take]; omega
      have hzb : AreBytes z := ez ▸ bytes_take (bytes_drop hyb k) n
      rw [← ez] at r1_3
      obtain ⟨pl1, epl1⟩ : ∃ y, y = pl.take m ++ z ++ pl.drop (m + n) := ⟨_, rfl⟩
      have hpl1 : pl1.length = 17 := by rw [epl1, into_len (by omega) hzl, hpl]
      have hpb1 : AreBytes pl1 := epl1 ▸ bytes_app (bytes_app (bytes_take hpb m) hzb) (bytes_drop hpb _)
      rw [← epl1] at r1_3
      have hpt1 : pl1.take (m + n) = pl.take m ++ z := by rw [epl1]; exact into_take (by omega) hzl
      refine seq_val (.int .i64 ((n : Nat) : Int)) 4 rfl kj kj ?_
      refine seq_nil ?_
      refine hK5 _ _ ?_
      try clear hK5 K5
      refine wp_seq_k fun K14 hK14 => ?_
      refine region_lit ?_
      refine seq_val (.slice ab ((ys.drop k).length) cb) 18 rfl kj kj ?_
      refine seq_val (.int .i64 ((n : Nat) : Int)) 19 rfl kj kj ?_
      refine seq_val (.slice (restA ab cb n) ((ys.drop k).length - n) (cb - n)) 20 rfl kj (run_sliceD (len := (ys.drop k).length) 24 _ _ n 5 rfl kj kj kj .i64 kj (by omega) hcb) ?_
      refine seq_val (.slice (restA ab cb n) ((ys.drop k).length - n) (cb - n)) 1 rfl kj kj ?_
      refine seq_nil ?_
      refine hK14 _ _ ?_
      try clear hK14 K14
      refine wp_seq_k fun K15 hK15 => ?_
      refine region_lit ?_
      refine seq_val (.pointer (some ⟨g, 0, none⟩)) 21 rfl kj kj ?_
      refine seq_val (.pointer (some ⟨g, 0, none⟩)) 22 rfl kj kj ?_
      refine seq_val (.pointer (some ⟨g, 26, none⟩)) 23 rfl kj kj ?_
      refine seq_val (.int .i64 ((m : Nat) : Int)) 24 rfl kj (run_loadC1 3 _ g 26 72 _ (.int .i64 ((m : Nat) : Int)) _ r1_3 rfl kj (cat_part [ints .u64 (nw3 r), ints .u64 (nw3 s), ints .u64 (nw3 (S)), ints .u8 (pl1)] [#[.int .i64 ((m : Nat) : Int)]] [] 26 (by rw [cat_cons, cat_cons, cat_cons, cat_cons]; simp only [Array.size_append, cat, ((ints_size _ _).trans (nw3_len _)), ((ints_size _ _).trans hpl1)]; rfl) 0 _ rfl) kj) ?_
      refine seq_val (.int .i64 ((n : Nat) : Int)) 25 rfl kj kj ?_
      refine seq_val (.int .i64 ((m + n : Nat) : Int)) 26 rfl kj (run_eq (u := .int .i64 (IntKind.i64.wrap (((m : Nat) : Int) + ((n : Nat) : Int)))) kj (congrArg (Value.int .i64) (i64n _ _ (by omega) (by omega)))) ?_
      refine seq_val (.pointer (some ⟨g, 0, none⟩)) 27 rfl kj kj ?_
      refine seq_val (.pointer (some ⟨g, 26, none⟩)) 28 rfl kj kj ?_
      refine seq_store g _ (cat [ints .u64 (nw3 r), ints .u64 (nw3 s), ints .u64 (nw3 (S)), ints .u8 (pl1), #[.int .i64 ((m + n : Nat) : Int)]]) 72 r1_3 rfl kj (run_storeQ 3 _ _ g 26 72 [ints .u64 (nw3 r), ints .u64 (nw3 s), ints .u64 (nw3 (S)), ints .u8 (pl1)] [] _ (.int .i64 ((m + n : Nat) : Int)) r1_3 rfl kj kj kj (by rw [cat_cons, cat_cons, cat_cons, cat_cons]; simp only [Array.size_append, cat, ((ints_size _ _).trans (nw3_len _)), ((ints_size _ _).trans hpl1)]; rfl) rfl rfl) fun W4 p4 r1_4 => ?_
      have x4 : ExtB g w W4 := ExtB.puts x3 p4
      refine seq_nil ?_
      refine hK15 _ _ ?_
      try clear hK15 K15
      refine wp_seq_k fun K16 hK16 => ?_
      refine region_lit ?_
      refine seq_val (.pointer (some ⟨g, 0, none⟩)) 29 rfl kj kj ?_
      refine seq_val (.pointer (some ⟨g, 0, none⟩)) 30 rfl kj kj ?_
      refine seq_val (.pointer (some ⟨g, 26, none⟩)) 31 rfl kj kj ?_
      refine seq_val (.int .i64 ((m + n : Nat) : Int)) 32 rfl kj (run_loadC1 3 _ g 26 72 _ (.int .i64 ((m + n : Nat) : Int)) _ r1_4 rfl kj (cat_part [ints .u64 (nw3 r), ints .u64 (nw3 s), ints .u64 (nw3 (S)), ints .u8 (pl1)] [#[.int .i64 ((m + n : Nat) : Int)]] [] 26 (by rw [cat_cons, cat_cons, cat_cons, cat_cons]; simp only [Array.size_append, cat, ((ints_size _ _).trans (nw3_len _)), ((ints_size _ _).trans hpl1)]; rfl) 0 _ rfl) kj) ?_
      refine seq_val (.bool false) 33 rfl kj (run_eq (u := .bool ((((m + n : Nat) : Int) == 16))) kj (congrArg Value.bool (beq_eq_false_iff_ne.2 (by omega)))) ?_
      refine seq_nil ?_
      refine hK16 _ _ ?_
      try clear hK16 K16
      refine cond_false kj ?_
      refine wp_skip ?_
      have f17_3 := (f13_2.puts p3 hBg)
      have f18_4 := (f17_3.puts p4 hBg)
      have hu : (t ++ ys.take k).length = 16 * q + m := by rw [List.length_append, List.length_take]; omega
      have htk : t ++ ys.take (k + n) = (t ++ ys.take k) ++ z := by rw [take_add' ys k n, ← ez, List.append_assoc]
      repeat (first | with_reducible refine goX1 ?_ | with_reducible refine goX2 ?_ | with_reducible refine goX3 ?_)
      exact goes_then ((k + n), (m + n), q, S, pl1, (.slice (restA ab cb n) ((ys.drop k).length - n) (cb - n))) ⟨rfl, rfl, trivial⟩ ⟨(show k + n ≤ ys.length by omega), (by rw [show ys.drop (k + n) = (ys.drop k).drop n from (List.drop_drop ..).symm]; exact rdK_drop f18_4 n (by omega)), (show t.length + (k + n) = 16 * q + (m + n) ∧ m + n < 16 by omega), (show _ = polyN r (t ++ ys.take (k + n)) q by rw [htk, polyN_pre _ _ _ _ (by omega)]; exact hSm), hS, hpl1, hpb1, (show pl1.take (m + n) = (t ++ ys.take (k + n)).drop (16 * q) by rw [htk, hpt1, hpt]; exact (List.drop_append_of_le_length (by omega)).symm), r1_4, (Keeps.puts (Keeps.puts (Keeps.step q1 e2) p3 (.inl (by simp))) p4 (.inl (by simp))), x4⟩ (by show ys.length - (k + n) < ys.length - k; omega)
  · skip
    have hke : k = ys.length := by have := of_decide_eq_false c4; omega
    refine wp_exit ?_
    repeat (first | with_reducible refine goX1 ?_ | with_reducible refine goX2 ?_ | with_reducible refine goX3 ?_)
    exact (show bodyPost _ _ _ .normal _ _ from end0 rfl ⟨rfl, xx1, S, pl, q, m, by rw [List.length_append]; omega, hmq.2, q1_1, by rw [hke, List.take_length] at hSm; exact hSm, hS, hpl, hpb, by rw [hke, List.take_length] at hpt; exact hpt⟩)

end Go.Proofs.YtjldjdlhllgakaaDoor.Ae
