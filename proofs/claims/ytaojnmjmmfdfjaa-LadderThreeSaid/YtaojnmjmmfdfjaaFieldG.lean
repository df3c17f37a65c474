/- The number of bytes. -/
import Derived.Test.YtaojnmjmmfdfjaaFieldF
import Derived.Laws.BitsAllLaws
namespace Go.Proofs.Ytaojnmjmmfdfjaa.Field
open Go Go.RowKit
open Go.Proofs.Ytaojnmjmmfdfjaa.Rely
set_option linter.unusedVariables false

/-- nothing but the tape has gone on -/
def Drew (w w' : World) : Prop := ∃ n, w' = w.drewN n
theorem Drew.refl (w : World) : Drew w w := ⟨0, rfl⟩
theorem Drew.trans {a b c : World} : Drew a b → Drew b c → Drew a c := fun ⟨m, h⟩ ⟨n, k⟩ => ⟨m + n, by subst h; subst k; simp⟩
/-- an array of integers, indexed -/
theorem run_index_ints {P : Program} (W : World) {t e : TypeId} {n : Nat} {k ki : IntKind} (ht : P.underlying t = some (.array n e)) (he : P.underlying e = some (.int k)) (hq : (P.info? e).map (·.size) = some 1)
    (xs : List Int) (hl : xs.length = n) (i : Nat) (hi : i < n) : (Instr.index t (.agg (ints k xs)) (.int ki (i : Int))).run P W = .ok (.int k (nth xs i)) W := by
  have hp : P.plainKey e = true := by simp [Program.plainKey, he]
  have a1 := run_part_plain W hp (ints_get k xs i (by omega))
  unfold Instr.index
  cases hI : P.info? e with
  | none => simp [hI] at hq
  | some inf =>
    have hs : inf.size = 1 := by simpa [hI] using hq
    have h1 : ((0 : Int) ≤ (i : Int) ∧ (i : Int) < (n : Int)) := by omega
    simp [asIntOf, run_underlying ht, Sem.run_bind, sizeOf, typeInfo, hI, hs, hi, a1]

/-- what the bytes from position o on stand for, m of them -/
def leAt (xs : List Int) (o : Nat) : Nat → Int
  | 0 => 0
  | m + 1 => leAt xs o m + nth xs (o + m) * 256 ^ m
/-- the four words after k bytes -/
def pw (xs : List Int) (k : Nat) : List Int := [leAt xs 0 (min 8 k), leAt xs 8 (min 8 (k - 8)), leAt xs 16 (min 8 (k - 16)), leAt xs 24 (min 8 (k - 24))]

theorem leAt_range (xs : List Int) (hb : AreBytes xs) (o : Nat) : ∀ m, 0 ≤ leAt xs o m ∧ leAt xs o m < 256 ^ m
  | 0 => by simp [leAt]
  | m + 1 => by
    have ih := leAt_range xs hb o m
    have h := hb.nth (o + m)
    have hp : (0 : Int) ≤ 256 ^ m := by have := ih.1; have := ih.2; omega
    have h1 : 0 ≤ nth xs (o + m) * 256 ^ m := Int.mul_nonneg h.1 hp
    have h2 : nth xs (o + m) * 256 ^ m ≤ 255 * 256 ^ m := Int.mul_le_mul_of_nonneg_right h.2 hp
    have e : (256 : Int) ^ (m + 1) = 256 * 256 ^ m := by rw [Int.pow_succ, Int.mul_comm]
    rw [leAt, e]
    have := ih.1
    have := ih.2
    omega
theorem or_shift (s x : Int) (m : Nat) (hm : m < 8) (hs : 0 ≤ s ∧ s < 256 ^ m) (hx : 0 ≤ x ∧ x ≤ 255) :
    bits .or .u64 s (x * 2 ^ (8 * m)) = s + x * 256 ^ m ∧ 0 ≤ x * 2 ^ (8 * m) ∧ x * 2 ^ (8 * m) < 18446744073709551616 := by
  obtain ⟨S, rfl⟩ := Int.eq_ofNat_of_zero_le hs.1
  obtain ⟨X, rfl⟩ := Int.eq_ofNat_of_zero_le hx.1
  have key : ∀ i : Nat, S < 2 ^ i → X * 2 ^ i < 18446744073709551616 → S < 18446744073709551616 → bits .or .u64 (S : Int) ((X * 2 ^ i : Nat) : Int) = ((S + X * 2 ^ i : Nat) : Int) := fun i h1 h2 h3 => by
    rw [u64_or_nat S _ h3 h2, Nat.or_comm, Nat.mul_comm, ← Nat.two_pow_add_eq_or_of_lt h1, Nat.add_comm]
  have hX : X ≤ 255 := by omega
  rcases (by omega : m = 0 ∨ m = 1 ∨ m = 2 ∨ m = 3 ∨ m = 4 ∨ m = 5 ∨ m = 6 ∨ m = 7) with rfl | rfl | rfl | rfl | rfl | rfl | rfl | rfl
  · have h := key 0 (by have := hs.2; omega) (by omega) (by have := hs.2; omega)
    have e : (2 : Int) ^ (8 * 0) = 1 := by decide
    have f : (256 : Int) ^ 0 = 1 := by decide
    rw [e, f]
    refine ⟨?_, by omega, by omega⟩
    have g : ((X * 2 ^ 0 : Nat) : Int) = (X : Int) * 1 := by omega
    rw [g] at h
    rw [h]
    omega
  · have h := key 8 (by have := hs.2; omega) (by omega) (by have := hs.2; omega)
    have e : (2 : Int) ^ (8 * 1) = 256 := by decide
    have f : (256 : Int) ^ 1 = 256 := by decide
    rw [e, f]
    refine ⟨?_, by omega, by omega⟩
    have g : ((X * 2 ^ 8 : Nat) : Int) = (X : Int) * 256 := by omega
    rw [g] at h
    rw [h]
    omega
  · have h := key 16 (by have := hs.2; omega) (by omega) (by have := hs.2; omega)
    have e : (2 : Int) ^ (8 * 2) = 65536 := by decide
    have f : (256 : Int) ^ 2 = 65536 := by decide
    rw [e, f]
    refine ⟨?_, by omega, by omega⟩
    have g : ((X * 2 ^ 16 : Nat) : Int) = (X : Int) * 65536 := by omega
    rw [g] at h
    rw [h]
    omega
  · have h := key 24 (by have := hs.2; omega) (by omega) (by have := hs.2; omega)
    have e : (2 : Int) ^ (8 * 3) = 16777216 := by decide
    have f : (256 : Int) ^ 3 = 16777216 := by decide
    rw [e, f]
    refine ⟨?_, by omega, by omega⟩
    have g : ((X * 2 ^ 24 : Nat) : Int) = (X : Int) * 16777216 := by omega
    rw [g] at h
    rw [h]
    omega
  · have h := key 32 (by have := hs.2; omega) (by omega) (by have := hs.2; omega)
    have e : (2 : Int) ^ (8 * 4) = 4294967296 := by decide
    have f : (256 : Int) ^ 4 = 4294967296 := by decide
    rw [e, f]
    refine ⟨?_, by omega, by omega⟩
    have g : ((X * 2 ^ 32 : Nat) : Int) = (X : Int) * 4294967296 := by omega
    rw [g] at h
    rw [h]
    omega
  · have h := key 40 (by have := hs.2; omega) (by omega) (by have := hs.2; omega)
    have e : (2 : Int) ^ (8 * 5) = 1099511627776 := by decide
    have f : (256 : Int) ^ 5 = 1099511627776 := by decide
    rw [e, f]
    refine ⟨?_, by omega, by omega⟩
    have g : ((X * 2 ^ 40 : Nat) : Int) = (X : Int) * 1099511627776 := by omega
    rw [g] at h
    rw [h]
    omega
  · have h := key 48 (by have := hs.2; omega) (by omega) (by have := hs.2; omega)
    have e : (2 : Int) ^ (8 * 6) = 281474976710656 := by decide
    have f : (256 : Int) ^ 6 = 281474976710656 := by decide
    rw [e, f]
    refine ⟨?_, by omega, by omega⟩
    have g : ((X * 2 ^ 48 : Nat) : Int) = (X : Int) * 281474976710656 := by omega
    rw [g] at h
    rw [h]
    omega
  · have h := key 56 (by have := hs.2; omega) (by omega) (by have := hs.2; omega)
    have e : (2 : Int) ^ (8 * 7) = 72057594037927936 := by decide
    have f : (256 : Int) ^ 7 = 72057594037927936 := by decide
    rw [e, f]
    refine ⟨?_, by omega, by omega⟩
    have g : ((X * 2 ^ 56 : Nat) : Int) = (X : Int) * 72057594037927936 := by omega
    rw [g] at h
    rw [h]
    omega
/-- a round of From: the word that is read, and the word that is written -/
theorem pw_round (xs : List Int) (hb : AreBytes xs) (k : Nat) (hk : k < 32) : ∃ s s', (ints .u64 (pw xs k))[k / 8]? = some (.int .u64 s) ∧
    IntKind.u64.wrap (nth xs k * 2 ^ (8 * (k % 8))) = nth xs k * 2 ^ (8 * (k % 8)) ∧
    bits .or .u64 s (nth xs k * 2 ^ (8 * (k % 8))) = s' ∧ (ints .u64 (pw xs k)).setIfInBounds (k / 8) (.int .u64 s') = ints .u64 (pw xs (k + 1)) := by
  have key := fun o m (hm : m < 8) => or_shift (leAt xs o m) (nth xs (o + m)) m hm (leAt_range xs hb o m) (hb.nth (o + m))
  rcases (by omega : k = 0 ∨ k = 1 ∨ k = 2 ∨ k = 3 ∨ k = 4 ∨ k = 5 ∨ k = 6 ∨ k = 7 ∨ k = 8 ∨ k = 9 ∨ k = 10 ∨ k = 11 ∨ k = 12 ∨ k = 13 ∨ k = 14 ∨ k = 15 ∨ k = 16 ∨ k = 17 ∨ k = 18 ∨ k = 19 ∨ k = 20 ∨ k = 21 ∨ k = 22 ∨ k = 23 ∨ k = 24 ∨ k = 25 ∨ k = 26 ∨ k = 27 ∨ k = 28 ∨ k = 29 ∨ k = 30 ∨ k = 31) with rfl | rfl | rfl | rfl | rfl | rfl | rfl | rfl | rfl | rfl | rfl | rfl | rfl | rfl | rfl | rfl | rfl | rfl | rfl | rfl | rfl | rfl | rfl | rfl | rfl | rfl | rfl | rfl | rfl | rfl | rfl | rfl
  · exact ⟨leAt xs 0 0, leAt xs 0 1, rfl, wrap64 _ (key 0 0 (by decide)).2, (key 0 0 (by decide)).1, rfl⟩
  · exact ⟨leAt xs 0 1, leAt xs 0 2, rfl, wrap64 _ (key 0 1 (by decide)).2, (key 0 1 (by decide)).1, rfl⟩
  · exact ⟨leAt xs 0 2, leAt xs 0 3, rfl, wrap64 _ (key 0 2 (by decide)).2, (key 0 2 (by decide)).1, rfl⟩
  · exact ⟨leAt xs 0 3, leAt xs 0 4, rfl, wrap64 _ (key 0 3 (by decide)).2, (key 0 3 (by decide)).1, rfl⟩
  · exact ⟨leAt xs 0 4, leAt xs 0 5, rfl, wrap64 _ (key 0 4 (by decide)).2, (key 0 4 (by decide)).1, rfl⟩
  · exact ⟨leAt xs 0 5, leAt xs 0 6, rfl, wrap64 _ (key 0 5 (by decide)).2, (key 0 5 (by decide)).1, rfl⟩
  · exact ⟨leAt xs 0 6, leAt xs 0 7, rfl, wrap64 _ (key 0 6 (by decide)).2, (key 0 6 (by decide)).1, rfl⟩
  · exact ⟨leAt xs 0 7, leAt xs 0 8, rfl, wrap64 _ (key 0 7 (by decide)).2, (key 0 7 (by decide)).1, rfl⟩
  · exact ⟨leAt xs 8 0, leAt xs 8 1, rfl, wrap64 _ (key 8 0 (by decide)).2, (key 8 0 (by decide)).1, rfl⟩
  · exact ⟨leAt xs 8 1, leAt xs 8 2, rfl, wrap64 _ (key 8 1 (by decide)).2, (key 8 1 (by decide)).1, rfl⟩
  · exact ⟨leAt xs 8 2, leAt xs 8 3, rfl, wrap64 _ (key 8 2 (by decide)).2, (key 8 2 (by decide)).1, rfl⟩
  · exact ⟨leAt xs 8 3, leAt xs 8 4, rfl, wrap64 _ (key 8 3 (by decide)).2, (key 8 3 (by decide)).1, rfl⟩
  · exact ⟨leAt xs 8 4, leAt xs 8 5, rfl, wrap64 _ (key 8 4 (by decide)).2, (key 8 4 (by decide)).1, rfl⟩
  · exact ⟨leAt xs 8 5, leAt xs 8 6, rfl, wrap64 _ (key 8 5 (by decide)).2, (key 8 5 (by decide)).1, rfl⟩
  · exact ⟨leAt xs 8 6, leAt xs 8 7, rfl, wrap64 _ (key 8 6 (by decide)).2, (key 8 6 (by decide)).1, rfl⟩
  · exact ⟨leAt xs 8 7, leAt xs 8 8, rfl, wrap64 _ (key 8 7 (by decide)).2, (key 8 7 (by decide)).1, rfl⟩
  · exact ⟨leAt xs 16 0, leAt xs 16 1, rfl, wrap64 _ (key 16 0 (by decide)).2, (key 16 0 (by decide)).1, rfl⟩
  · exact ⟨leAt xs 16 1, leAt xs 16 2, rfl, wrap64 _ (key 16 1 (by decide)).2, (key 16 1 (by decide)).1, rfl⟩
  · exact ⟨leAt xs 16 2, leAt xs 16 3, rfl, wrap64 _ (key 16 2 (by decide)).2, (key 16 2 (by decide)).1, rfl⟩
  · exact ⟨leAt xs 16 3, leAt xs 16 4, rfl, wrap64 _ (key 16 3 (by decide)).2, (key 16 3 (by decide)).1, rfl⟩
  · exact ⟨leAt xs 16 4, leAt xs 16 5, rfl, wrap64 _ (key 16 4 (by decide)).2, (key 16 4 (by decide)).1, rfl⟩
  · exact ⟨leAt xs 16 5, leAt xs 16 6, rfl, wrap64 _ (key 16 5 (by decide)).2, (key 16 5 (by decide)).1, rfl⟩
  · exact ⟨leAt xs 16 6, leAt xs 16 7, rfl, wrap64 _ (key 16 6 (by decide)).2, (key 16 6 (by decide)).1, rfl⟩
  · exact ⟨leAt xs 16 7, leAt xs 16 8, rfl, wrap64 _ (key 16 7 (by decide)).2, (key 16 7 (by decide)).1, rfl⟩
  · exact ⟨leAt xs 24 0, leAt xs 24 1, rfl, wrap64 _ (key 24 0 (by decide)).2, (key 24 0 (by decide)).1, rfl⟩
  · exact ⟨leAt xs 24 1, leAt xs 24 2, rfl, wrap64 _ (key 24 1 (by decide)).2, (key 24 1 (by decide)).1, rfl⟩
  · exact ⟨leAt xs 24 2, leAt xs 24 3, rfl, wrap64 _ (key 24 2 (by decide)).2, (key 24 2 (by decide)).1, rfl⟩
  · exact ⟨leAt xs 24 3, leAt xs 24 4, rfl, wrap64 _ (key 24 3 (by decide)).2, (key 24 3 (by decide)).1, rfl⟩
  · exact ⟨leAt xs 24 4, leAt xs 24 5, rfl, wrap64 _ (key 24 4 (by decide)).2, (key 24 4 (by decide)).1, rfl⟩
  · exact ⟨leAt xs 24 5, leAt xs 24 6, rfl, wrap64 _ (key 24 5 (by decide)).2, (key 24 5 (by decide)).1, rfl⟩
  · exact ⟨leAt xs 24 6, leAt xs 24 7, rfl, wrap64 _ (key 24 6 (by decide)).2, (key 24 6 (by decide)).1, rfl⟩
  · exact ⟨leAt xs 24 7, leAt xs 24 8, rfl, wrap64 _ (key 24 7 (by decide)).2, (key 24 7 (by decide)).1, rfl⟩
theorem alloc3_fst (w : World) (a b c : Obj) : (((w.alloc a).alloc b).alloc c).heap[w.heap.size]? = some a := by
  rw [Below.heap_alloc _ _ _ (by simp; omega), Below.heap_alloc _ _ _ (by simp)]
  exact heap_alloc_new w a

theorem set3 (w : World) (a b : Obj) (cs : Array Value) (t : TypeId) (n i : Nat) (v : Value) :
    ((((w.alloc a).alloc b).alloc (.cells cs t)).drewN n).setCell ⟨w.heap.size + 1 + 1, i, none⟩ v = (((w.alloc a).alloc b).alloc (.cells (cs.setIfInBounds i v) t)).drewN n := by
  have h : ∀ W : World, (W.drewN n).setCell ⟨w.heap.size + 1 + 1, i, none⟩ v = (W.setCell ⟨w.heap.size + 1 + 1, i, none⟩ v).drewN n := fun _ => rfl
  rw [h]
  congr 1
  go_simp

theorem le32 (xs : List Int) : val (leAt xs 0 8) (leAt xs 8 8) (leAt xs 16 8) (leAt xs 24 8) = leAt xs 0 32 := by
  simp only [leAt, val, Int.reducePow, Nat.reduceAdd]
  omega
theorem word_isW (xs : List Int) (hb : AreBytes xs) (o : Nat) : isW (leAt xs o 8) := by
  have h := leAt_range xs hb o 8
  have e : (256 : Int) ^ 8 = 18446744073709551616 := by decide
  rw [e] at h
  exact h
theorem low255 (a b c d n : Int) (ha : isW a) (hb : isW b) (hc : isW c) (hd : isW d) (e : val a b c d = n) :
    val a b c (d % 9223372036854775808) = n % 57896044618658097711785492504343953926634992332820282019728792003956564819968 ∧ val a b c (d % 9223372036854775808) < 2 * p := by
  subst e
  unfold isW at *
  unfold val p
  omega

set_option maxRecDepth 100000 in
theorem from_ (xs : List Int) (hl : xs.length = 32) (hb : AreBytes xs) (w : World) : Calls Try.prog 20 #[.agg (ints .u8 xs)] w (Ret w (num (leAt xs 0 32 % 57896044618658097711785492504343953926634992332820282019728792003956564819968 % p))) := by
  go_enter Try.func20, Try.ntmps20
  have hi : (Try.prog.info? 23).map (·.size) = some (ints .u8 xs).size := by rw [infoKey, ints_size, hl]
  go_wp2_with first
    | (with_reducible show wpList _ _ _ ((⟨_, .load 23 _, _, _, _, _⟩ : Oper) :: _) _ _
       refine wpList_load_row rfl 23 _ rfl w.heap.size rfl 23 (ints .u8 xs) (0, 0) _ (alloc3_fst _ _ _ _) Try.underlying23 rfl hi ?_)
  go_loopw [7] (fun i wr => ∃ k : Nat, k ≤ 32 ∧ i = .int .i64 k ∧ ∃ b nq, b.size = 4 ∧ wr = (((w.alloc (.cells (ints .u8 xs) 23)).alloc (.cells b 29)).alloc (.cells (ints .u64 (pw xs k)) 27)).drewN nq) (fun i _ => 32 - (intOf i).toNat)
  case atStart => exact ⟨0, by omega, rfl, _, 0, rfl, rfl⟩
  case round =>
    obtain ⟨k, hk, rfl, b, nq, hbs, rfl⟩ := hrel
    by_cases hlt : k < 32
    · obtain ⟨s, s', hg, hw, ho, hs⟩ := pw_round xs hb k hlt
      have hx : (ints .u8 xs)[k]? = some (.int .u8 (nth xs k)) := ints_get _ _ _ (by omega)
      have q0 : (0 : Int) ≤ (k : Int) / 8 := by omega
      have q1 : (k : Int) / 8 < 4 := by omega
      have q2 : IntKind.i64.wrap ((k : Int) / 8) = (k : Int) / 8 := IntWalk.i64_in _ (by omega)
      have qm : (k : Int).tmod 8 = (k : Int) % 8 := Int.tmod_eq_emod_of_nonneg (by omega)
      have q3 : IntKind.i64.wrap ((k : Int) % 8) = (k : Int) % 8 := IntWalk.i64_in _ (by omega)
      have q4 : IntKind.i64.wrap (8 * ((k : Int) % 8)) = 8 * ((k : Int) % 8) := IntWalk.i64_in _ (by omega)
      have q5 : ((k : Int) / 8).toNat = k / 8 := by omega
      have q6 : (8 * ((k : Int) % 8)).toNat = 8 * (k % 8) := by omega
      have q7 : (0 : Int) ≤ 8 * ((k : Int) % 8) := by omega
      have q8 : 8 * ((k : Int) % 8) < 64 := by omega
      have q9 := wrap64 (nth xs k) (by have := hb.nth k; unfold isW; omega)
      have hX : ∀ W, (Instr.index 23 (.agg (ints .u8 xs)) (.int .i64 (k : Int))).run Try.prog W = .ok (.int .u8 (nth xs k)) W := fun W => run_index_ints W Try.underlying23 Try.underlying5 (by kernel_rfl) xs hl k hlt
      go_wp2
      have hc : ∀ W, Drew ((((w.alloc (.cells (ints .u8 xs) 23)).alloc (.cells b 29)).alloc (.cells (ints .u64 (pw xs k)) 27)).drewN nq).drew W → W.cell? ⟨w.heap.size + 1 + 1, k / 8, none⟩ = some (.int .u64 s) := fun W hR => by
        obtain ⟨m, rfl⟩ := hR
        have h2 := alloc3_new w (.cells (ints .u8 xs) 23) (.cells b 29) (.cells (ints .u64 (pw xs k)) 27)
        exact (cell_of_row _ (w.heap.size + 2) (k / 8) _ _ _ h2).trans hg
      have HC := Lib.hid hc
      clear hc
      refine wp_region_rely Drew 12 34 [⟨none, [(4, none)]⟩, ⟨none, [(11, some 0)]⟩, ⟨none, [(3, none), (12, some 1)]⟩, ⟨none, [(13, some 2)]⟩, ⟨none, [(5, none)]⟩, ⟨none, [(15, some 4)]⟩, ⟨none, [(4, none)]⟩, ⟨none, [(17, some 6)]⟩, ⟨none, [(18, some 7)]⟩, ⟨none, [(16, some 5), (19, some 8)]⟩, ⟨none, [(14, some 3), (20, some 9)]⟩, ⟨none, [(3, none), (12, some 1)]⟩] (by kernel_rfl) (by kernel_rfl) rfl Drew.refl Drew.trans (fun F r0 hr hF => ?_)
      have f3 : r0 3 = .pointer (some ⟨w.heap.size + 1 + 1, 0, none⟩) := by rw [hr]; rfl
      have f4 : r0 4 = .int .i64 k := by rw [hr]; rfl
      have f5 : r0 5 = .int .u8 (nth xs k) := by rw [hr]; rfl
      clear hr
      simp only [List.take_succ_cons, List.take_zero]
      repeat
        (try simp only [List.cons_append, List.nil_append]
         apply step_const
         (intro ρ W hR hh
          have hcell := HC.out W hR
          simp only [Holds, List.getD_cons_zero, List.getD_cons_succ, f3, f4, f5] at hh
          simp only [guarded, relyAt]
          go_simp
          first
            | exact ⟨Drew.refl _, rfl⟩
            | exact Drew.refl _))
      simp only [List.cons_append, List.nil_append]
      refine hF.out fun W hR => ?_
      obtain ⟨m, rfl⟩ := hR
      simp only [List.take_succ_cons, List.take_zero, List.drop_succ_cons, List.drop_zero, fin, forall_eq, Act.put, List.setIfInBounds_toArray, List.set_cons_zero, List.set_cons_succ]
      go_wp2
      refine ⟨⟨k + 1, by omega, by go_num, b, nq + 1 + m, hbs, ?_⟩, by simp [intOf]; omega⟩
      rw [set3, hs]
    · obtain rfl : k = 32 := by omega
      have l0 := word_isW xs hb 0
      have l1 := word_isW xs hb 8
      have l2 := word_isW xs hb 16
      have l3 := word_isW xs hb 24
      have hp : ints .u64 (pw xs 32) = #[.int .u64 (leAt xs 0 8), .int .u64 (leAt xs 8 8), .int .u64 (leAt xs 16 8), .int .u64 (leAt xs 24 8)] := rfl
      have ho := top_off _ l3
      have C : ∀ w, Calls Try.prog 50 #[.int .u64 (leAt xs 0 8), .int .u64 (leAt xs 8 8), .int .u64 (leAt xs 16 8), .int .u64 (leAt xs 24 8 % 9223372036854775808)] w (Ret w (num (leAt xs 0 32 % 57896044618658097711785492504343953926634992332820282019728792003956564819968 % p))) := fun w => by
        have lo := low255 _ _ _ _ _ l0 l1 l2 l3 (le32 xs)
        have := reduced _ _ _ _ l0 l1 l2 (by unfold isW; omega) lo.2 w
        rw [lo.1] at this
        exact this
      generalize leAt xs 0 32 % 57896044618658097711785492504343953926634992332820282019728792003956564819968 % p = r at *
      rw [hp]
      generalize leAt xs 0 8 = z0 at *
      generalize leAt xs 8 8 = z1 at *
      generalize leAt xs 16 8 = z2 at *
      generalize leAt xs 24 8 = z3 at *
      have HC := Lib.hid C
      clear C hp l0 l1 l2 l3
      go_wp2_with first
        | (go_at_call 50
           (with_reducible refine (HC.out _).mono ?_)
           rintro e w' ⟨rfl, hw⟩)
        | (with_reducible show wpList _ _ _ ((⟨_, .store 29 _ _, _, _, _, _⟩ : Oper) :: _) _ _
           refine wpList_store_row rfl 29 _ _ rfl (w.heap.size + 1) (numA r) rfl rfl 29 b ((hw.block _ (by simp)).trans (alloc3_mid _ _ _ _)) infoNum hbs (numA_one _) ?_)
      exact bodyPost_ret (results_num (t := 2) rfl rfl (setRow_heap _ _ _ _ _ _ ((hw.block _ (by simp)).trans (alloc3_mid _ _ _ _)))) rfl ⟨rfl, below_setRow (Ext.trans (Ext.trans (ext3 _ _ _ _) (ext_drewN _ _)) hw) (by omega) _⟩
end Go.Proofs.Ytaojnmjmmfdfjaa.Field
