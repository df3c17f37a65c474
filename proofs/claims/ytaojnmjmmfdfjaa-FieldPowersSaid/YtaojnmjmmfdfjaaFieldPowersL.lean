/- The walk of the law FieldPowers. -/
import Derived.Test.YtaojnmjmmfdfjaaPowG
import Derived.Test.YtaojnmjmmfdfjaaPowH
import Derived.Test.YtaojnmjmmfdfjaaRelyIn
namespace Go.Proofs.Ytaojnmjmmfdfjaa.Field
open Go Go.RowKit Go.Shelf
open Go.Proofs.Ytaojnmjmmfdfjaa.Rely
attribute [local go_sem] Oper.semAt_some
set_option linter.unusedVariables false

theorem and_one64 (n : Int) : bits .and .i64 n 1 = n % 2 := by
  have h1 : (BitVec.ofInt 64 1).toNat = 2 ^ 1 - 1 := by decide
  have key : (BitVec.ofInt 64 n &&& BitVec.ofInt 64 1).toNat = (n % ((2 ^ 64 : Nat) : Int)).toNat % 2 ^ 1 := by
    rw [BitVec.toNat_and, BitVec.toNat_ofInt, h1, Nat.and_two_pow_sub_one_eq_mod]
  show IntKind.i64.wrap ((BitVec.ofInt 64 n &&& BitVec.ofInt 64 1).toNat : Nat) = n % 2
  rw [key, IntKind.wrap_i64]
  omega
theorem bitsOf_get (es : List Int) (i : Nat) (hi : i < 256) : (bitsOf es)[i]? = some (bitAt es (255 - i)) := by
  simp only [bitsOf, List.getElem?_map, List.getElem?_range hi, Option.map_some]
set_option maxRecDepth 100000 in
set_option maxHeartbeats 8000000 in
theorem powers (xs es : List Int) (n : Int) (hx : xs.length = 32) (hel : es.length = 32) (hbx : AreBytes xs) (hbe : AreBytes es) (hn : -9223372036854775808 ≤ n ∧ n ≤ 9223372036854775807) (w : World) :
    Calls Try.prog 10 #[.agg (ints .u8 xs), .agg (ints .u8 es), .int .i64 n] w fun e w' => e = .returned (.bool true) ∧ Below w.heap.size w w' := by
  have HFX : Hid (∀ w, Calls Try.prog 20 #[.agg (ints .u8 xs)] w (Ret w (num (keyNum xs)))) := Lib.hid (from_ xs hx hbx)
  have HLX : Hid (∀ w, Calls Try.prog 21 #[.agg (ints .u8 xs)] w (Ret w (lnum (keyNum xs)))) := Lib.hid (lFrom xs hx hbx)
  have iX := keyNum_isN xs
  generalize keyNum xs = x at *
  have HLP : Hid (∀ w, Calls Try.prog 38 #[lnum x, lnum (leAt es 0 32)] w (Ret w (lnum (pwBits x (bitsOf es))))) := Lib.hid fun w => by
    have := lPower x (leAt es 0 32) iX (le_range es hbe) w
    rw [lbits_eq es hbe] at this
    exact this
  have HAL : Hid (∀ w, Calls Try.prog 18 #[] w (Ret w (.bool true))) := Lib.hid alive
  have hgk : (Try.prog.info? 23).map (·.size) = some (ints .u8 xs).size := by rw [infoKey, ints_size, hx]
  refine (callsIn_wide (n := 3)).1 ?_
  refine callsIn_of_wp_marks Try.func10 rfl trivial ?_ rfl
  simp only [Try.ntmps10, List.size_toArray, List.length_cons, List.length_nil, Nat.reduceAdd, Nat.reduceSub, Array.replicate_succ, Array.replicate_zero, List.push_toArray, List.append_toArray, List.nil_append, List.cons_append]
  gi_wp2_with first
    | (refine ⟨trivial, ?_⟩
       gi_at_call 18
       refine (callsIn_wide.2 (HAL.out _)).mono ?_
       rintro e w1 ⟨rfl, hw1⟩
       have hA1 := row_ext (alloc4_1 w (.cells (ints .u8 xs) 23) (.cells (ints .u8 es) 23) (.cells #[.int .i64 n] 3) (.cells #[.bool false] 4)) hw1
       have hE1 := row_ext (alloc4_2 w (.cells (ints .u8 xs) 23) (.cells (ints .u8 es) 23) (.cells #[.int .i64 n] 3) (.cells #[.bool false] 4)) hw1
       have hM1 := row_ext (alloc4_3 w (.cells (ints .u8 xs) 23) (.cells (ints .u8 es) 23) (.cells #[.int .i64 n] 3) (.cells #[.bool false] 4)) hw1
       have hB1 := row_ext (alloc4_4 w (.cells (ints .u8 xs) 23) (.cells (ints .u8 es) 23) (.cells #[.int .i64 n] 3) (.cells #[.bool false] 4)) hw1
       have he1 := Ext.trans (ext4 w (.cells (ints .u8 xs) 23) (.cells (ints .u8 es) 23) (.cells #[.int .i64 n] 3) (.cells #[.bool false] 4)) hw1
       clear hw1 HAL)
    | (refine ⟨trivial, ?_⟩
       gi_at_call 20
       refine (callsIn_wide.2 (HFX.out _)).mono ?_
       rintro e w2 ⟨rfl, hw2⟩
       have hA2 := row_ext hA1 hw2
       have hE2 := row_ext hE1 hw2
       have hM2 := row_ext hM1 hw2
       have hB2 := row_ext hB1 hw2
       have he2 := Ext.trans he1 hw2
       clear hw2 HFX hA1 hE1 hM1 hB1 he1)
    | (with_reducible show wpListIn _ _ _ _ _ ((⟨_, .load 23 _, _, _, _, _⟩ : Oper) :: _) _ _
       refine wpListIn_load_row rfl 23 _ rfl w.heap.size rfl 23 _ (0, 0) _ hA1 Try.underlying23 rfl hgk ?_)
    | (with_reducible show wpListIn _ _ _ _ _ ((⟨_, .store 29 _ _, _, _, _, _⟩ : Oper) :: _) _ _
       refine wpListIn_store_row rfl 29 _ _ rfl w2.heap.size (numA x) rfl rfl 29 _ (heap_alloc_new _ _) infoNum rfl (numA_one _) ?_
       have hX3 := setRow_heap _ _ _ (numA x) _ _ (heap_alloc_new w2 (.cells #[.int .u64 0, .int .u64 0, .int .u64 0, .int .u64 0] 29))
       have hS := ext_setRow (ext_alloc w2 (.cells #[.int .u64 0, .int .u64 0, .int .u64 0, .int .u64 0] 29)) (Nat.le_refl _) (numA x)
       have hA3 := row_ext hA2 hS
       have hE3 := row_ext hE2 hS
       have hM3 := row_ext hM2 hS
       have hB3 := row_ext hB2 hS
       have he3 := Ext.trans he2 hS
       have hgx : w.heap.size + 1 + 1 + 1 < w2.heap.size := row_lt hB2
       generalize (w2.alloc (.cells #[.int .u64 0, .int .u64 0, .int .u64 0, .int .u64 0] 29)).setRow w2.heap.size (numA x) = V3 at *
       generalize w2.heap.size = gx at *
       clear hS hA2 hE2 hM2 hB2 he2)
  have hK4 := alloc2_1 V3 (.cells #[.int .i64 0] 3) (.cells (ints .i64 (mix 16 (pairAt es) (fun _ => 0) 0)) 32)
  have hN4 := alloc2_2 V3 (.cells #[.int .i64 0] 3) (.cells (ints .i64 (mix 16 (pairAt es) (fun _ => 0) 0)) 32)
  have hX4 : Ext V3 ((V3.alloc (.cells #[.int .i64 0] 3)).alloc (.cells (ints .i64 (mix 16 (pairAt es) (fun _ => 0) 0)) 32)) := Ext.trans (ext_alloc _ _) (ext_alloc _ _)
  rw [show (.cells #[.int .i64 0, .int .i64 0, .int .i64 0, .int .i64 0, .int .i64 0, .int .i64 0, .int .i64 0, .int .i64 0, .int .i64 0, .int .i64 0, .int .i64 0, .int .i64 0, .int .i64 0, .int .i64 0, .int .i64 0, .int .i64 0] 32 : Obj) = .cells (ints .i64 (mix 16 (pairAt es) (fun _ => 0) 0)) 32 from rfl]
  have lA := row_lt hA3
  have lE := row_lt hE3
  have lM := row_lt hM3
  have lB := row_lt hB3
  have lX := row_lt hX3
  generalize (V3.alloc (.cells #[.int .i64 0] 3)).alloc (.cells (ints .i64 (mix 16 (pairAt es) (fun _ => 0) 0)) 32) = V4 at *
  have hA4 := row_ext hA3 hX4
  have hE4 := row_ext hE3 hX4
  have hM4 := row_ext hM3 hX4
  have hB4 := row_ext hB3 hX4
  have hXX4 := row_ext hX3 hX4
  have he4 := Ext.trans he3 hX4
  generalize V3.heap.size = gk at *
  clear hA3 hE3 hM3 hB3 hX3 hX4 he3
  have lK := row_lt hK4
  have lN := row_lt hN4
  gi_loopw [10, 17] (fun c i wr => ∃ k : Nat, k ≤ 16 ∧ i = .int .i64 k ∧ Below (gk + 1) V4 wr ∧ wr.heap[gk + 1]? = some (.cells (ints .i64 (mix 16 (pairAt es) (fun _ => 0) k)) 32)) (fun _ i _ => 16 - (intOf i).toNat)
  case atStart => exact ⟨0, by omega, rfl, Below.refl _ _, hN4⟩
  case round =>
    obtain ⟨k, hk, rfl, hW, hN⟩ := hrel
    by_cases hlt : k < 16
    · have hEw := (hW.block (w.heap.size + 1) (by omega)).trans hE4
      have hX : (ints .u8 es)[2 * k]? = some (.int .u8 (nth es (2 * k))) := ints_get _ _ _ (by omega)
      have hY : (ints .u8 es)[2 * k + 1]? = some (.int .u8 (nth es (2 * k + 1))) := ints_get _ _ _ (by omega)
      have hZ : (ints .i64 (mix 16 (pairAt es) (fun _ => 0) k))[k]? = some (.int .i64 0) := by rw [ints_get _ _ _ (by rw [mix_len]; omega), mix_nth _ _ _ _ _ (by omega), if_neg (by omega)]
      have hS : (ints .i64 (mix 16 (pairAt es) (fun _ => 0) k)).setIfInBounds k (.int .i64 (pairAt es k)) = ints .i64 (mix 16 (pairAt es) (fun _ => 0) (k + 1)) := by rw [ints_set, ← mix_set _ _ _ _ (by omega)]
      have b1 := hbe.nth (2 * k)
      have b2 := hbe.nth (2 * k + 1)
      rw [show pairAt es k = nth es (2 * k) + 256 * nth es (2 * k + 1) from rfl] at hS
      generalize hlx : nth es (2 * k) = lx at *
      generalize hly : nth es (2 * k + 1) = ly at *
      have q1 : IntKind.i64.wrap (2 * (k : Int)) = 2 * (k : Int) := IntWalk.i64_in _ (by omega)
      have q2 : (2 * (k : Int)).toNat = 2 * k := by omega
      have q3 : (0 : Int) ≤ 2 * (k : Int) := by omega
      have q4 : 2 * (k : Int) < 32 := by omega
      have q5 : IntKind.i64.wrap (2 * (k : Int) + 1) = 2 * (k : Int) + 1 := IntWalk.i64_in _ (by omega)
      have q6 : (2 * (k : Int) + 1).toNat = 2 * k + 1 := by omega
      have q7 : (0 : Int) ≤ 2 * (k : Int) + 1 := by omega
      have q8 : 2 * (k : Int) + 1 < 32 := by omega
      have q9 : (k : Int) < 16 := by omega
      have w1 : IntKind.i64.wrap lx = lx := IntWalk.i64_in _ (by omega)
      have w2 : IntKind.i64.wrap ly = ly := IntWalk.i64_in _ (by omega)
      have w3 : IntKind.i64.wrap (256 * ly) = 256 * ly := IntWalk.i64_in _ (by omega)
      have w4 : IntKind.i64.wrap (lx + 256 * ly) = lx + 256 * ly := IntWalk.i64_in _ (by omega)
      have HX : Hid (∀ W, Ext wr.drew W → W.cell? ⟨w.heap.size + 1, 2 * k, none⟩ = some (.int .u8 lx)) := Lib.hid fun W hR => row_cell (row_ext (row_ext hEw (ext_drew _)) hR) hX
      have HY : Hid (∀ W, Ext wr.drew W → W.cell? ⟨w.heap.size + 1, 2 * k + 1, none⟩ = some (.int .u8 ly)) := Lib.hid fun W hR => row_cell (row_ext (row_ext hEw (ext_drew _)) hR) hY
      gi_wp2
      refine wpIn_region_rely Ext 15 81 [⟨none, [(10, none)]⟩, ⟨none, [(10, none)]⟩, ⟨none, [(21, some 1)]⟩, ⟨none, [(4, none), (22, some 2)]⟩, ⟨none, [(23, some 3)]⟩, ⟨none, [(24, some 4)]⟩, ⟨none, [(10, none)]⟩, ⟨none, [(26, some 6)]⟩, ⟨none, [(27, some 7)]⟩, ⟨none, [(4, none), (28, some 8)]⟩, ⟨none, [(29, some 9)]⟩, ⟨none, [(30, some 10)]⟩, ⟨none, [(31, some 11)]⟩, ⟨none, [(25, some 5), (32, some 12)]⟩, ⟨none, [(9, none), (20, some 0)]⟩] (fun _ => trivial) (fun h => by cases h) (fun h => callsIn_wide.2 h) (by kernel_rfl) (by kernel_rfl) (by kernel_rfl) rfl Ext.refl Ext.trans (fun F r0 hr hF => ?_)
      have f4 : r0 4 = .pointer (some ⟨w.heap.size + 1, 0, none⟩) := by rw [hr]; rfl
      have f9 : r0 9 = .pointer (some ⟨gk + 1, 0, none⟩) := by rw [hr]; rfl
      have f10 : r0 10 = .int .i64 k := by rw [hr]; rfl
      clear hr
      simp only [List.take_succ_cons, List.take_zero]
      repeat
        (try simp only [List.cons_append, List.nil_append]
         apply step_const
         (intro ρ W hR hh
          have hcx := HX.out W hR
          have hcy := HY.out W hR
          simp only [Holds, List.getD_cons_zero, List.getD_cons_succ, f4, f9, f10] at hh
          simp only [guarded, relyAt]
          go_simp
          first
            | exact ⟨Ext.refl _, rfl⟩
            | exact Ext.refl _))
      simp only [List.cons_append, List.nil_append]
      refine hF.out fun W hRW => ?_
      simp only [List.take_succ_cons, List.take_zero, List.drop_succ_cons, List.drop_zero, fin, forall_eq, Act.put, List.setIfInBounds_toArray, List.set_cons_zero, List.set_cons_succ]
      clear HX HY hF f4 f9 f10
      have hE' := Ext.trans (ext_drew wr) hRW
      have hN' := row_ext hN hE'
      have hW' : Below (gk + 1) V4 W := hW.trans (below_ext hE' (by have := row_lt hN; omega))
      have hcx := row_cell hN' hZ
      have hfx := row_frozen hN' k
      gi_wp2
      exact ⟨⟨k + 1, by omega, by go_num, hW'.setCell (p := ⟨gk + 1, k, none⟩) (Nat.le_refl _) _, (set_row _ _ hN').trans (by rw [hS])⟩, by simp [intOf]; omega⟩
    · obtain rfl : k = 16 := by omega
      have hNl : (ints .i64 (mix 16 (pairAt es) (fun _ => 0) 16)) = ints .i64 (lims (leAt es 0 32)) := by rw [mix_full _ _ _ _ (Nat.le_refl _), lims_le es hbe]
      rw [hNl] at hN
      have hA5 := (hW.block w.heap.size (by omega)).trans hA4
      have hE5 := (hW.block (w.heap.size + 1) (by omega)).trans hE4
      have hM5 := (hW.block (w.heap.size + 1 + 1) (by omega)).trans hM4
      have hB5 := (hW.block (w.heap.size + 1 + 1 + 1) (by omega)).trans hB4
      have hX5 := (hW.block gx (by omega)).trans hXX4
      have hK5 := (hW.block gk (by omega)).trans hK4
      have he5 : Ext w wr := Below.trans he4 (hW.mono (show w.heap.size ≤ gk + 1 by omega))
      clear hA4 hE4 hM4 hB4 hXX4 hK4 hN4 he4 hW hNl
      have hcm := row_cell hM5 (k := 0) (v := .int .i64 n) rfl
      have hfm := row_frozen hM5 0
      obtain ⟨u, hu⟩ : ∃ u, u = IntKind.u64.wrap n := ⟨_, rfl⟩
      have hur : 0 ≤ u ∧ u < 18446744073709551616 := by rw [hu, IntKind.wrap_u64]; omega
      have w0 := hu.symm
      have w1 : u.tmod 300 = u % 300 := Int.tmod_eq_emod_of_nonneg hur.1
      have w2 : IntKind.u64.wrap (u % 300) = u % 300 := by rw [IntKind.wrap_u64]; omega
      have w3 : IntKind.i64.wrap (u % 300) = u % 300 := IntWalk.i64_in _ (by omega)
      have w4 : IntKind.i64.wrap (1 + u % 300) = 1 + u % 300 := IntWalk.i64_in _ (by omega)
      clear hu
      have HBC : Hid (∀ w, Calls Try.prog 36 #[.agg (ints .u8 es)] w (Gives w (BitsV es))) := Lib.hid (bits_call es)
      have hM6 := set_row 0 (.int .i64 (1 + u % 300)) hM5
      have hA6 := (set_row_other (W := wr) 0 (.int .i64 (1 + u % 300)) (show w.heap.size ≠ w.heap.size + 1 + 1 by omega)).trans hA5
      have hE6 := (set_row_other (W := wr) 0 (.int .i64 (1 + u % 300)) (show w.heap.size + 1 ≠ w.heap.size + 1 + 1 by omega)).trans hE5
      have hB6 := (set_row_other (W := wr) 0 (.int .i64 (1 + u % 300)) (show w.heap.size + 1 + 1 + 1 ≠ w.heap.size + 1 + 1 by omega)).trans hB5
      have hX6 := (set_row_other (W := wr) 0 (.int .i64 (1 + u % 300)) (show gx ≠ w.heap.size + 1 + 1 by omega)).trans hX5
      have hK6 := (set_row_other (W := wr) 0 (.int .i64 (1 + u % 300)) (show gk ≠ w.heap.size + 1 + 1 by omega)).trans hK5
      have hN6 := (set_row_other (W := wr) 0 (.int .i64 (1 + u % 300)) (show gk + 1 ≠ w.heap.size + 1 + 1 by omega)).trans hN
      have he6 := ext_set he5 (show w.heap.size ≤ w.heap.size + 1 + 1 by omega) 0 (.int .i64 (1 + u % 300))
      generalize hV6 : wr.setCell ⟨w.heap.size + 1 + 1, 0, none⟩ (.int .i64 (1 + u % 300)) = V6 at *
      clear hA5 hE5 hM5 hB5 hX5 hK5 hN he5
      gi_wp2_with first
        | (refine ⟨trivial, ?_⟩
           gi_at_call 36
           refine (callsIn_wide.2 (HBC.out _)).mono ?_
           rintro e w7 ⟨v, rfl, hw7, kb, rfl, hkb⟩)
        | (with_reducible show wpListIn _ _ _ _ _ ((⟨_, .load 23 _, _, _, _, _⟩ : Oper) :: _) _ _
           refine wpListIn_load_row rfl 23 _ rfl (w.heap.size + 1) rfl 23 _ (0, 0) _ hE6 Try.underlying23 rfl (by rw [infoKey, ints_size, hel]) ?_)
      have hA7 := row_ext hA6 hw7
      have hE7 := row_ext hE6 hw7
      have hM7 := row_ext hM6 hw7
      have hB7 := row_ext hB6 hw7
      have hX7 := row_ext hX6 hw7
      have hK7 := row_ext hK6 hw7
      have hN7 := row_ext hN6 hw7
      have he7 := Ext.trans he6 hw7
      clear hA6 hE6 hM6 hB6 hX6 hK6 hN6 he6 hw7 HBC hcm hfm hV6 w0 w1 w2 w3 w4
      have hM7 : w7.heap[w.heap.size + 1 + 1]? = some (.cells #[.int .i64 (1 + u % 300)] 3) := hM7
      have hmr : 1 ≤ 1 + u % 300 ∧ 1 + u % 300 ≤ 300 := by omega
      generalize 1 + u % 300 = m at *
      have hkk : kb ≠ gk := fun e => by
        subst e
        rw [hK7] at hkb
        simp only [Option.some.injEq, Obj.cells.injEq] at hkb
        exact absurd hkb.2.1 (by decide)
      have hkl := row_lt hkb
      have hsz := he7.size
      have hlg := row_lt hN7
      refine wpIn_rangeFunc_ownF rfl (by omega) (gf := 59) (lb := #[.pointer (some ⟨kb, 0, none⟩)]) rfl trivial (enters_of Try.func59 (by kernel_rfl) rfl)
        (bits_stops_same _ (by omega) kb es hel hbe w7 hkb) Same.trans' (same_book hkl) (Below.refl _ _) (fun _ => rfl)
        (fun pre W => (W.heap[w.heap.size]? = some (.cells (ints .u8 xs) 23) ∧ W.heap[w.heap.size + 1]? = some (.cells (ints .u8 es) 23) ∧ W.heap[w.heap.size + 1 + 1]? = some (.cells #[.int .i64 m] 3) ∧ W.heap[w.heap.size + 1 + 1 + 1]? = some (.cells #[.bool false] 4) ∧ W.heap[gx]? = some (.cells (numA x) 29) ∧ W.heap[gk]? = some (.cells #[.int .i64 (pre.length : Int)] 3) ∧ W.heap[gk + 1]? = some (.cells (ints .i64 (lims (leAt es 0 32))) 32)) ∧ (pre.length : Int) < m ∧ Below w.heap.size w W)
        (fun c pre W => (c = .ret ∧ ∃ pre' y, pre = pre' ++ [y] ∧ (bitsOf es)[pre'.length]? ≠ some y) ∨ (c = .exit 2 ∧ (W.heap[w.heap.size]? = some (.cells (ints .u8 xs) 23) ∧ W.heap[w.heap.size + 1]? = some (.cells (ints .u8 es) 23) ∧ W.heap[w.heap.size + 1 + 1]? = some (.cells #[.int .i64 m] 3) ∧ W.heap[w.heap.size + 1 + 1 + 1]? = some (.cells #[.bool false] 4) ∧ W.heap[gx]? = some (.cells (numA x) 29) ∧ W.heap[gk]? = some (.cells #[.int .i64 (pre.length : Int)] 3) ∧ W.heap[gk + 1]? = some (.cells (ints .i64 (lims (leAt es 0 32))) 32)) ∧ (pre.length : Int) = m ∧ Below w.heap.size w W))
        (fun s A B row hs hg hr => by
          obtain ⟨⟨h1, h2, h3, h4, h5, h6, h7⟩, hl, hB⟩ := hs
          have hr' : ∀ r, row = some r → ∃ o : Obj, A.heap[r]? = some o ∧ o.isCells = false := fun r e => (hr r e).2
          exact ⟨⟨row_kept h1 hg hr', row_kept h2 hg hr', row_kept h3 hg hr', row_kept h4 hg hr', row_kept h5 hg hr', row_kept h6 hg hr', row_kept h7 hg hr'⟩, hl, ownFrom_below (β := Unit) (Nat.le_refl _) hsz () A B row hB hg hr⟩)
        (fun c s A B row hs hg hr => by
          rcases hs with hs | ⟨hc, ⟨h1, h2, h3, h4, h5, h6, h7⟩, hl, hB⟩
          · exact .inl hs
          · have hr' : ∀ r, row = some r → ∃ o : Obj, A.heap[r]? = some o ∧ o.isCells = false := fun r e => (hr r e).2
            exact .inr ⟨hc, ⟨row_kept h1 hg hr', row_kept h2 hg hr', row_kept h3 hg hr', row_kept h4 hg hr', row_kept h5 hg hr', row_kept h6 hg hr', row_kept h7 hg hr'⟩, hl, ownFrom_below (β := Unit) (Nat.le_refl _) hsz () A B row hB hg hr⟩)
        ⟨⟨hA7, hE7, hM7, hB7, hX7, hK7, hN7⟩, by show (0 : Int) < m; omega, he7⟩
        (fun y => { tmps := #[.agg (ints .u8 xs), .agg (ints .u8 es), .int .i64 n, .pointer (some ⟨w.heap.size, 0, none⟩), .pointer (some ⟨w.heap.size + 1, 0, none⟩), .pointer (some ⟨w.heap.size + 1 + 1, 0, none⟩), .pointer (some ⟨w.heap.size + 1 + 1 + 1, 0, none⟩), .pointer (some ⟨gx, 0, none⟩), .pointer (some ⟨gk, 0, none⟩), .pointer (some ⟨gk + 1, 0, none⟩), u10, .int .i64 y, undef, .bool true, .bool false,
          .agg (ints .u8 xs), num x, .int .i64 16, .bool false, u19, u20, u21, u22, u23, u24, u25, u26, u27, u28, u29, u30, u31, u32, u33, u34, u35, .int .i64 n, .int .u64 u, .int .u64 (u % 300), .int .i64 (u % 300), .int .i64 m, .agg (ints .u8 es), .func (.func 59) #[] #[.pointer (some ⟨kb, 0, none⟩)], .int .i64 y, undef, undef, undef, undef, undef, undef, undef, undef, undef, undef, undef, undef, undef, undef, undef, undef, undef, undef, undef, undef, undef, undef, undef, undef, undef, undef, undef, undef, undef, undef, undef, undef, undef, undef, undef, undef, undef], defers := [] }) ?assign ?body ?done ?stop
      case assign =>
        intro l y W K hK
        gi_wp2
        exact hK
      case body =>
        clear hA7 hE7 hM7 hB7 hX7 hK7 hN7 he7
        rintro l pre y W ⟨⟨h1, h2, h3, h4, h5, h6, h7⟩, hl, hB⟩ hlen
        have lg := row_lt h7
        have hbg := bitsOf_get es pre.length hlen
        obtain ⟨j, hj⟩ : ∃ j, j = 255 - pre.length := ⟨_, rfl⟩
        have hj2 : (255 : Int) - (pre.length : Int) = (j : Int) := by omega
        rw [← hj, ← lbit_eq es hbe j (by omega)] at hbg
        have eb : lbit (leAt es 0 32) j = limb (leAt es 0 32) (j / 16) / 2 ^ (j % 16) % 2 := rfl
        rw [eb] at hbg
        have HBG := Lib.hid hbg
        clear hbg eb
        have hX : (ints .i64 (lims (leAt es 0 32)))[j / 16]? = some (.int .i64 (limb (leAt es 0 32) (j / 16))) := by rw [ints_get _ _ _ (by rw [lims_len]; omega), lims_nth _ _ (by omega)]
        have b1 := limb_range (leAt es 0 32) (j / 16)
        have hcn := row_cell h7 hX
        have hck := row_cell h6 (k := 0) (v := .int .i64 (pre.length : Int)) rfl
        have hfk := row_frozen h6 0
        have hcb := row_cell h4 (k := 0) (v := .bool false) rfl
        have hfb := row_frozen h4 0
        have h6' := set_row 0 (.int .i64 ((pre.length : Int) + 1)) h6
        have h3' := (set_row_other (W := W) 0 (.int .i64 ((pre.length : Int) + 1)) (show w.heap.size + 1 + 1 ≠ gk by omega)).trans h3
        have hck' := row_cell h6' (k := 0) (v := .int .i64 ((pre.length : Int) + 1)) rfl
        have hcm' := row_cell h3' (k := 0) (v := .int .i64 m) rfl
        generalize limb (leAt es 0 32) (j / 16) = v at *
        have q0 : (0 : Int) ≤ (j : Int) := by omega
        have q1 : (j : Int) / 16 < 16 := by omega
        have q2 : IntKind.i64.wrap ((j : Int) / 16) = (j : Int) / 16 := IntWalk.i64_in _ (by omega)
        have qm : (j : Int).tmod 16 = (j : Int) % 16 := Int.tmod_eq_emod_of_nonneg (by omega)
        have q3 : IntKind.i64.wrap ((j : Int) % 16) = (j : Int) % 16 := IntWalk.i64_in _ (by omega)
        have q4 : (0 : Int) ≤ (j : Int) / 16 := by omega
        have q5 : ((j : Int) / 16).toNat = j / 16 := by omega
        have q6 : ((j : Int) % 16).toNat = j % 16 := by omega
        have q7 : (0 : Int) ≤ (j : Int) % 16 := by omega
        have q8 : (j : Int) % 16 < 16 := by omega
        have q9 : IntKind.u64.wrap ((j : Int) % 16) = (j : Int) % 16 := by rw [IntKind.wrap_u64]; omega
        have q10 : (j : Int) % 16 < 64 := by omega
        have q11 : IntKind.i64.wrap (j : Int) = (j : Int) := IntWalk.i64_in _ (by omega)
        have q12 : ¬ (256 ≤ (pre.length : Int)) := by omega
        have q13 : IntKind.i64.wrap ((pre.length : Int) + 1) = (pre.length : Int) + 1 := IntWalk.i64_in _ (by omega)
        have hp : (1 : Int) ≤ 2 ^ (j % 16) := by
          have : (0 : Int) < 2 ^ (j % 16) := Int.pow_pos (by decide)
          omega
        have d1 : 0 ≤ v / 2 ^ (j % 16) := Int.ediv_nonneg b1.1 (by omega)
        have d2 : v / 2 ^ (j % 16) ≤ v := Int.ediv_le_self _ b1.1
        have w1 : IntKind.i64.wrap (v / 2 ^ (j % 16)) = v / 2 ^ (j % 16) := IntWalk.i64_in _ (by omega)
        have w2 := and_one64 (v / 2 ^ (j % 16))
        clear hj d1 d2 hp b1
        have HB := Lib.hid hB
        have HL := Lib.hid hl
        clear hB hl
        by_cases hy : y = v / 2 ^ (j % 16) % 2
        · have hbit : (y != v / 2 ^ (j % 16) % 2) = false := by simpa using hy
          clear hy
          by_cases hkm : (pre.length : Int) + 1 = m
          · have HKM := Lib.hid hkm
            have hbk : ((pre.length : Int) + 1 == m) = true := by simpa using hkm
            clear hkm
            gi_wp2
            have hlen2 : (((pre ++ [y]).length : Nat) : Int) = (pre.length : Int) + 1 := by simp
            exact ⟨KeepsOthers.setCell _ _ _, .inr ⟨rfl, ⟨(set_row_other _ _ (by omega)).trans h1, (set_row_other _ _ (by omega)).trans h2, h3', (set_row_other _ _ (by omega)).trans h4, (set_row_other _ _ (by omega)).trans h5, by rw [hlen2]; exact h6', (set_row_other _ _ (by omega)).trans h7⟩, by rw [hlen2]; exact HKM.out, HB.out.setCell (p := ⟨gk, 0, none⟩) (show w.heap.size ≤ gk by omega) _⟩⟩
          · have HKM := Lib.hid hkm
            have hbk : ((pre.length : Int) + 1 == m) = false := by simpa using hkm
            clear hkm
            gi_wp2
            have hlen2 : (((pre ++ [y]).length : Nat) : Int) = (pre.length : Int) + 1 := by simp
            exact ⟨KeepsOthers.setCell _ _ _, set_row_other _ _ hkk, ⟨(set_row_other _ _ (by omega)).trans h1, (set_row_other _ _ (by omega)).trans h2, h3', (set_row_other _ _ (by omega)).trans h4, (set_row_other _ _ (by omega)).trans h5, by rw [hlen2]; exact h6', (set_row_other _ _ (by omega)).trans h7⟩, by rw [hlen2]; have := HL.out; have := HKM.out; omega, HB.out.setCell (p := ⟨gk, 0, none⟩) (show w.heap.size ≤ gk by omega) _⟩
        · have hbit : (y != v / 2 ^ (j % 16) % 2) = true := by simpa using hy
          gi_wp2
          exact ⟨KeepsOthers.setCell _ _ _, .inl ⟨rfl, pre, y, rfl, by rw [HBG.out]; intro e; exact hy (Option.some.inj e).symm⟩⟩
      case done =>
        rintro D ys W hD rfl ⟨⟨h1, h2, h3, h4, h5, h6, h7⟩, hl, hB⟩ hK
        rw [bitsOf_len] at hl h6
        have hl : (256 : Int) < m := hl
        have h6 : W.heap[gk]? = some (.cells #[.int .i64 256] 3) := h6
        gi_wp2
        have HRX : Hid (∀ V, Ext W.drew V → V.heap[gx]? = some (.cells (numA x) 29)) := Lib.hid fun V hR => row_ext (row_ext h5 (ext_drew _)) hR
        have HRE : Hid (∀ V, Ext W.drew V → V.heap[w.heap.size + 1]? = some (.cells (ints .u8 es) 23)) := Lib.hid fun V hR => row_ext (row_ext h2 (ext_drew _)) hR
        have HRA : Hid (∀ V, Ext W.drew V → V.heap[w.heap.size]? = some (.cells (ints .u8 xs) 23)) := Lib.hid fun V hR => row_ext (row_ext h1 (ext_drew _)) hR
        have HRN : Hid (∀ V, Ext W.drew V → V.heap[gk + 1]? = some (.cells (ints .i64 (lims (leAt es 0 32))) 32)) := Lib.hid fun V hR => row_ext (row_ext h7 (ext_drew _)) hR
        have HCK : Hid (∀ V, Ext W.drew V → V.cell? ⟨gk, 0, none⟩ = some (.int .i64 256)) := Lib.hid fun V hR => row_cell (row_ext (row_ext h6 (ext_drew _)) hR) rfl
        have HCM : Hid (∀ V, Ext W.drew V → V.cell? ⟨w.heap.size + 1 + 1, 0, none⟩ = some (.int .i64 m)) := Lib.hid fun V hR => row_cell (row_ext (row_ext h3 (ext_drew _)) hR) rfl
        refine wpIn_region_rely Ext 15 81 [⟨none, [(8, none)]⟩, ⟨none, [(5, none)]⟩, ⟨none, [(67, some 1)]⟩, ⟨none, [(66, some 0), (68, some 2)]⟩, ⟨none, [(69, some 3)]⟩, ⟨some (70, true), [(7, none), (70, some 4)]⟩, ⟨some (70, true), [(4, none), (70, some 4)]⟩, ⟨some (70, true), [(72, some 6), (70, some 4)]⟩, ⟨some (70, true), [(71, some 5), (73, some 7), (70, some 4)]⟩, ⟨some (70, true), [(3, none), (70, some 4)]⟩, ⟨some (70, true), [(75, some 9), (70, some 4)]⟩, ⟨some (70, true), [(9, none), (70, some 4)]⟩, ⟨some (70, true), [(76, some 10), (77, some 11), (70, some 4)]⟩, ⟨some (70, true), [(74, some 8), (78, some 12), (70, some 4)]⟩, ⟨none, [(70, some 4), (79, some 13)]⟩] (fun _ => trivial) (fun h => by cases h) (fun h => callsIn_wide.2 h) (by kernel_rfl) (by kernel_rfl) (by kernel_rfl) rfl Ext.refl Ext.trans (fun F r0 hr hF => ?_)
        have f3 : r0 3 = .pointer (some ⟨w.heap.size, 0, none⟩) := by rw [hr]; rfl
        have f4 : r0 4 = .pointer (some ⟨w.heap.size + 1, 0, none⟩) := by rw [hr]; rfl
        have f5 : r0 5 = .pointer (some ⟨w.heap.size + 1 + 1, 0, none⟩) := by rw [hr]; rfl
        have f7 : r0 7 = .pointer (some ⟨gx, 0, none⟩) := by rw [hr]; rfl
        have f8 : r0 8 = .pointer (some ⟨gk, 0, none⟩) := by rw [hr]; rfl
        have f9 : r0 9 = .pointer (some ⟨gk + 1, 0, none⟩) := by rw [hr]; rfl
        clear hr
        simp only [List.take_succ_cons, List.take_zero]
        refine step_const (.int .i64 256) (fun ρ V hR hh => ?_) ?_
        · clear hF
          have h8 : ρ 8 = .pointer (some ⟨gk, 0, none⟩) := Eq.trans hh.1 f8
          have hc := HCK.out V hR
          simp only [guarded, relyAt]
          go_simp
          exact Ext.refl _
        refine step_const (.int .i64 m) (fun ρ V hR hh => ?_) ?_
        · clear hF
          have h5 : ρ 5 = .pointer (some ⟨w.heap.size + 1 + 1, 0, none⟩) := Eq.trans hh.1 f5
          have hc := HCM.out V hR
          simp only [guarded, relyAt]
          go_simp
          exact Ext.refl _
        refine step_const (.int .i64 256) (fun ρ V hR hh => ?_) ?_
        · clear hF
          have h67 : ρ 67 = .int .i64 m := hh.1
          simp only [guarded, relyAt]
          go_simp
          exact Ext.refl _
        refine step_const (.bool true) (fun ρ V hR hh => ?_) ?_
        · clear hF
          have h66 : ρ 66 = .int .i64 256 := hh.1
          have h68 : ρ 68 = .int .i64 256 := hh.2.1
          simp only [guarded, relyAt]
          go_simp
          exact Ext.refl _
        refine step_const (.bool true) (fun ρ V hR hh => ?_) ?_
        · clear hF
          have h69 : ρ 69 = .bool true := hh.1
          simp only [guarded, relyAt]
          go_simp
          exact Ext.refl _
        refine step_const (num x) (fun ρ V hR hh => ?_) ?_
        · have h70 : ρ 70 = .bool true := hh.2.1
          simp only [guarded, h70, isB_bool, beq_self_eq_true, ↓reduceIte]
          exact load_num (.tmp _) rfl _ _ (Eq.trans hh.1 f7) (HRX.out V hR)
        refine step_const (.agg (ints .u8 es)) (fun ρ V hR hh => ?_) ?_
        · have h70 : ρ 70 = .bool true := hh.2.1
          simp only [guarded, h70, isB_bool, beq_self_eq_true, ↓reduceIte]
          exact load_key (.tmp _) rfl _ _ hel (Eq.trans hh.1 f4) (HRE.out V hR)
        refine step_fact (BitsV es) (bitsV_stable es) (fun ρ V hR hh => ?_) ?_
        · clear hF
          have h72 : ρ 72 = .agg (ints .u8 es) := hh.1
          have h70 : ρ 70 = .bool true := hh.2.1
          simp only [guarded, relyAt, h70, isB_bool, beq_self_eq_true, ↓reduceIte]
          go_simp
          exact ⟨Ext.refl _, (bits_call es _).mono fun _ _ h => h.fact⟩
        refine step_const (num (pwBits x (bitsOf es))) (fun ρ V hR hh => ?_) ?_
        · clear hF
          have h71 : ρ 71 = num x := hh.1
          have h73 : BitsV es (ρ 73) V := hh.2.1
          have h70 : ρ 70 = .bool true := hh.2.2.1
          simp only [guarded, relyAt, h70, isB_bool, beq_self_eq_true, ↓reduceIte]
          go_simp
          exact ⟨Ext.refl _, (power x iX es hel hbe _ _ h73).mono fun _ _ h => h.const⟩
        refine step_const (.agg (ints .u8 xs)) (fun ρ V hR hh => ?_) ?_
        · have h70 : ρ 70 = .bool true := hh.2.1
          simp only [guarded, h70, isB_bool, beq_self_eq_true, ↓reduceIte]
          exact load_key (.tmp _) rfl _ _ hx (Eq.trans hh.1 f3) (HRA.out V hR)
        refine step_const (lnum x) (fun ρ V hR hh => ?_) ?_
        · clear hF
          have h75 : ρ 75 = .agg (ints .u8 xs) := hh.1
          have h70 : ρ 70 = .bool true := hh.2.1
          simp only [guarded, relyAt, h70, isB_bool, beq_self_eq_true, ↓reduceIte]
          go_simp
          exact ⟨Ext.refl _, (HLX.out _).mono fun _ _ h => h.const⟩
        refine step_const (lnum (leAt es 0 32)) (fun ρ V hR hh => ?_) ?_
        · have h70 : ρ 70 = .bool true := hh.2.1
          simp only [guarded, h70, isB_bool, beq_self_eq_true, ↓reduceIte]
          exact load_lnum (.tmp _) rfl _ _ (Eq.trans hh.1 f9) (HRN.out V hR)
        refine step_const (lnum (pwBits x (bitsOf es))) (fun ρ V hR hh => ?_) ?_
        · clear hF
          have h76 : ρ 76 = lnum x := hh.1
          have h77 : ρ 77 = lnum (leAt es 0 32) := hh.2.1
          have h70 : ρ 70 = .bool true := hh.2.2.1
          simp only [guarded, relyAt, h70, isB_bool, beq_self_eq_true, ↓reduceIte]
          go_simp
          exact ⟨Ext.refl _, (HLP.out _).mono fun _ _ h => h.const⟩
        refine step_const (.bool true) (fun ρ V hR hh => ?_) ?_
        · clear hF
          have h74 : ρ 74 = num (pwBits x (bitsOf es)) := hh.1
          have h78 : ρ 78 = lnum (pwBits x (bitsOf es)) := hh.2.1
          have h70 : ρ 70 = .bool true := hh.2.2.1
          simp only [guarded, relyAt, h70, isB_bool, beq_self_eq_true, ↓reduceIte]
          go_simp
          exact ⟨Ext.refl _, (is_true _ (pwBits_isN _ _) _).mono fun _ _ h => h.const⟩
        refine step_const (.bool true) (fun ρ V hR hh => ?_) ?_
        · clear hF
          have h70 : ρ 70 = .bool true := hh.1
          have h79 : ρ 79 = .bool true := hh.2.1
          simp only [guarded, relyAt]
          go_simp
          exact Ext.refl _
        simp only [List.cons_append, List.nil_append]
        refine hF.out fun V hRV => ?_
        simp only [List.take_succ_cons, List.take_zero, List.drop_succ_cons, List.drop_zero, fin, forall_eq, Act.put, List.setIfInBounds_toArray, List.set_cons_zero, List.set_cons_succ]
        intro vb hvb
        clear hF hvb HRX HRE HRA HRN HCK HCM f3 f4 f5 f7 f8 f9
        have hEV := Ext.trans (ext_drew W) hRV
        have h4V := row_ext h4 hEV
        have hcb := row_cell h4V (k := 0) (v := .bool false) rfl
        have hfb := row_frozen h4V 0
        have hKV := row_ext hK hEV
        have hBV : Below w.heap.size w V := Ext.trans hB hEV
        clear h1 h2 h3 h4 h5 h6 h7 hK hB hEV hRV
        gi_wp2
        have hK' := (KeepsOthers.setCell V ⟨w.heap.size + 1 + 1 + 1, 0, none⟩ (.bool true)).same D _ hKV rfl
        refine ⟨by simp, .inl ⟨_, _, rfl, run_takeDeferred hK', ?_⟩⟩
        have hc5 := cell_kept (World.cell?_setCell_same' V ⟨w.heap.size + 1 + 1 + 1, 0, none⟩ (.bool true) (by rw [hcb]; rfl)) (grownBy_putObj' _ D (.deferred none)) (fun r e => by cases e; exact ⟨_, hK', rfl⟩)
        refine ⟨.bool true, ?_, rfl, (hBV.setCell (p := ⟨w.heap.size + 1 + 1 + 1, 0, none⟩) (show w.heap.size ≤ w.heap.size + 1 + 1 + 1 by omega) _).trans (belowK_b (w := w) (Nat.le_refl _) _ D _ _ (by omega) hK' rfl rfl)⟩
        simp [results, Try.f10, go_sem, hc5]
      case stop =>
        rintro D c pre W hD hpre hs hK
        rcases hs with ⟨_, pre', y, rfl, hne⟩ | ⟨rfl, ⟨h1, h2, h3, h4, h5, h6, h7⟩, hl, hB⟩
        · obtain ⟨t, ht⟩ := hpre
          exact absurd (by rw [← ht]; simp) hne
        · have hm2 : m ≤ 256 := by
            have := hpre.length_le
            rw [bitsOf_len] at this
            omega
          rw [hl] at h6
          clear hl hpre
          gi_wp2
          have HRX : Hid (∀ V, Ext W.drew V → V.heap[gx]? = some (.cells (numA x) 29)) := Lib.hid fun V hR => row_ext (row_ext h5 (ext_drew _)) hR
          have HRE : Hid (∀ V, Ext W.drew V → V.heap[w.heap.size + 1]? = some (.cells (ints .u8 es) 23)) := Lib.hid fun V hR => row_ext (row_ext h2 (ext_drew _)) hR
          have HRA : Hid (∀ V, Ext W.drew V → V.heap[w.heap.size]? = some (.cells (ints .u8 xs) 23)) := Lib.hid fun V hR => row_ext (row_ext h1 (ext_drew _)) hR
          have HRN : Hid (∀ V, Ext W.drew V → V.heap[gk + 1]? = some (.cells (ints .i64 (lims (leAt es 0 32))) 32)) := Lib.hid fun V hR => row_ext (row_ext h7 (ext_drew _)) hR
          have HCK : Hid (∀ V, Ext W.drew V → V.cell? ⟨gk, 0, none⟩ = some (.int .i64 m)) := Lib.hid fun V hR => row_cell (row_ext (row_ext h6 (ext_drew _)) hR) rfl
          have HCM : Hid (∀ V, Ext W.drew V → V.cell? ⟨w.heap.size + 1 + 1, 0, none⟩ = some (.int .i64 m)) := Lib.hid fun V hR => row_cell (row_ext (row_ext h3 (ext_drew _)) hR) rfl
          refine wpIn_region_rely Ext 15 81 [⟨none, [(8, none)]⟩, ⟨none, [(5, none)]⟩, ⟨none, [(67, some 1)]⟩, ⟨none, [(66, some 0), (68, some 2)]⟩, ⟨none, [(69, some 3)]⟩, ⟨some (70, true), [(7, none), (70, some 4)]⟩, ⟨some (70, true), [(4, none), (70, some 4)]⟩, ⟨some (70, true), [(72, some 6), (70, some 4)]⟩, ⟨some (70, true), [(71, some 5), (73, some 7), (70, some 4)]⟩, ⟨some (70, true), [(3, none), (70, some 4)]⟩, ⟨some (70, true), [(75, some 9), (70, some 4)]⟩, ⟨some (70, true), [(9, none), (70, some 4)]⟩, ⟨some (70, true), [(76, some 10), (77, some 11), (70, some 4)]⟩, ⟨some (70, true), [(74, some 8), (78, some 12), (70, some 4)]⟩, ⟨none, [(70, some 4), (79, some 13)]⟩] (fun _ => trivial) (fun h => by cases h) (fun h => callsIn_wide.2 h) (by kernel_rfl) (by kernel_rfl) (by kernel_rfl) rfl Ext.refl Ext.trans (fun F r0 hr hF => ?_)
          have f3 : r0 3 = .pointer (some ⟨w.heap.size, 0, none⟩) := by rw [hr]; rfl
          have f4 : r0 4 = .pointer (some ⟨w.heap.size + 1, 0, none⟩) := by rw [hr]; rfl
          have f5 : r0 5 = .pointer (some ⟨w.heap.size + 1 + 1, 0, none⟩) := by rw [hr]; rfl
          have f7 : r0 7 = .pointer (some ⟨gx, 0, none⟩) := by rw [hr]; rfl
          have f8 : r0 8 = .pointer (some ⟨gk, 0, none⟩) := by rw [hr]; rfl
          have f9 : r0 9 = .pointer (some ⟨gk + 1, 0, none⟩) := by rw [hr]; rfl
          clear hr
          simp only [List.take_succ_cons, List.take_zero]
          refine step_const (.int .i64 m) (fun ρ V hR hh => ?_) ?_
          · clear hF
            have h8 : ρ 8 = .pointer (some ⟨gk, 0, none⟩) := Eq.trans hh.1 f8
            have hc := HCK.out V hR
            simp only [guarded, relyAt]
            go_simp
            exact Ext.refl _
          refine step_const (.int .i64 m) (fun ρ V hR hh => ?_) ?_
          · clear hF
            have h5 : ρ 5 = .pointer (some ⟨w.heap.size + 1 + 1, 0, none⟩) := Eq.trans hh.1 f5
            have hc := HCM.out V hR
            simp only [guarded, relyAt]
            go_simp
            exact Ext.refl _
          refine step_const (.int .i64 m) (fun ρ V hR hh => ?_) ?_
          · clear hF
            have h67 : ρ 67 = .int .i64 m := hh.1
            simp only [guarded, relyAt]
            go_simp
            exact ⟨Ext.refl _, fun h => by omega⟩
          refine step_const (.bool true) (fun ρ V hR hh => ?_) ?_
          · clear hF
            have h66 : ρ 66 = .int .i64 m := hh.1
            have h68 : ρ 68 = .int .i64 m := hh.2.1
            simp only [guarded, relyAt]
            go_simp
            exact Ext.refl _
          refine step_const (.bool true) (fun ρ V hR hh => ?_) ?_
          · clear hF
            have h69 : ρ 69 = .bool true := hh.1
            simp only [guarded, relyAt]
            go_simp
            exact Ext.refl _
          refine step_const (num x) (fun ρ V hR hh => ?_) ?_
          · have h70 : ρ 70 = .bool true := hh.2.1
            simp only [guarded, h70, isB_bool, beq_self_eq_true, ↓reduceIte]
            exact load_num (.tmp _) rfl _ _ (Eq.trans hh.1 f7) (HRX.out V hR)
          refine step_const (.agg (ints .u8 es)) (fun ρ V hR hh => ?_) ?_
          · have h70 : ρ 70 = .bool true := hh.2.1
            simp only [guarded, h70, isB_bool, beq_self_eq_true, ↓reduceIte]
            exact load_key (.tmp _) rfl _ _ hel (Eq.trans hh.1 f4) (HRE.out V hR)
          refine step_fact (BitsV es) (bitsV_stable es) (fun ρ V hR hh => ?_) ?_
          · clear hF
            have h72 : ρ 72 = .agg (ints .u8 es) := hh.1
            have h70 : ρ 70 = .bool true := hh.2.1
            simp only [guarded, relyAt, h70, isB_bool, beq_self_eq_true, ↓reduceIte]
            go_simp
            exact ⟨Ext.refl _, (bits_call es _).mono fun _ _ h => h.fact⟩
          refine step_const (num (pwBits x (bitsOf es))) (fun ρ V hR hh => ?_) ?_
          · clear hF
            have h71 : ρ 71 = num x := hh.1
            have h73 : BitsV es (ρ 73) V := hh.2.1
            have h70 : ρ 70 = .bool true := hh.2.2.1
            simp only [guarded, relyAt, h70, isB_bool, beq_self_eq_true, ↓reduceIte]
            go_simp
            exact ⟨Ext.refl _, (power x iX es hel hbe _ _ h73).mono fun _ _ h => h.const⟩
          refine step_const (.agg (ints .u8 xs)) (fun ρ V hR hh => ?_) ?_
          · have h70 : ρ 70 = .bool true := hh.2.1
            simp only [guarded, h70, isB_bool, beq_self_eq_true, ↓reduceIte]
            exact load_key (.tmp _) rfl _ _ hx (Eq.trans hh.1 f3) (HRA.out V hR)
          refine step_const (lnum x) (fun ρ V hR hh => ?_) ?_
          · clear hF
            have h75 : ρ 75 = .agg (ints .u8 xs) := hh.1
            have h70 : ρ 70 = .bool true := hh.2.1
            simp only [guarded, relyAt, h70, isB_bool, beq_self_eq_true, ↓reduceIte]
            go_simp
            exact ⟨Ext.refl _, (HLX.out _).mono fun _ _ h => h.const⟩
          refine step_const (lnum (leAt es 0 32)) (fun ρ V hR hh => ?_) ?_
          · have h70 : ρ 70 = .bool true := hh.2.1
            simp only [guarded, h70, isB_bool, beq_self_eq_true, ↓reduceIte]
            exact load_lnum (.tmp _) rfl _ _ (Eq.trans hh.1 f9) (HRN.out V hR)
          refine step_const (lnum (pwBits x (bitsOf es))) (fun ρ V hR hh => ?_) ?_
          · clear hF
            have h76 : ρ 76 = lnum x := hh.1
            have h77 : ρ 77 = lnum (leAt es 0 32) := hh.2.1
            have h70 : ρ 70 = .bool true := hh.2.2.1
            simp only [guarded, relyAt, h70, isB_bool, beq_self_eq_true, ↓reduceIte]
            go_simp
            exact ⟨Ext.refl _, (HLP.out _).mono fun _ _ h => h.const⟩
          refine step_const (.bool true) (fun ρ V hR hh => ?_) ?_
          · clear hF
            have h74 : ρ 74 = num (pwBits x (bitsOf es)) := hh.1
            have h78 : ρ 78 = lnum (pwBits x (bitsOf es)) := hh.2.1
            have h70 : ρ 70 = .bool true := hh.2.2.1
            simp only [guarded, relyAt, h70, isB_bool, beq_self_eq_true, ↓reduceIte]
            go_simp
            exact ⟨Ext.refl _, (is_true _ (pwBits_isN _ _) _).mono fun _ _ h => h.const⟩
          refine step_const (.bool true) (fun ρ V hR hh => ?_) ?_
          · clear hF
            have h70 : ρ 70 = .bool true := hh.1
            have h79 : ρ 79 = .bool true := hh.2.1
            simp only [guarded, relyAt]
            go_simp
            exact Ext.refl _
          simp only [List.cons_append, List.nil_append]
          refine hF.out fun V hRV => ?_
          simp only [List.take_succ_cons, List.take_zero, List.drop_succ_cons, List.drop_zero, fin, forall_eq, Act.put, List.setIfInBounds_toArray, List.set_cons_zero, List.set_cons_succ]
          intro vb hvb
          clear hF hvb HRX HRE HRA HRN HCK HCM f3 f4 f5 f7 f8 f9
          have hEV := Ext.trans (ext_drew W) hRV
          have h4V := row_ext h4 hEV
          have hcb := row_cell h4V (k := 0) (v := .bool false) rfl
          have hfb := row_frozen h4V 0
          have hKV := row_ext hK hEV
          have hBV : Below w.heap.size w V := Ext.trans hB hEV
          clear h1 h2 h3 h4 h5 h6 h7 hK hB hEV hRV
          gi_wp2
          have hK' := (KeepsOthers.setCell V ⟨w.heap.size + 1 + 1 + 1, 0, none⟩ (.bool true)).same D _ hKV rfl
          refine ⟨by simp, .inl ⟨_, _, rfl, run_takeDeferred hK', ?_⟩⟩
          have hc5 := cell_kept (World.cell?_setCell_same' V ⟨w.heap.size + 1 + 1 + 1, 0, none⟩ (.bool true) (by rw [hcb]; rfl)) (grownBy_putObj' _ D (.deferred none)) (fun r e => by cases e; exact ⟨_, hK', rfl⟩)
          refine ⟨.bool true, ?_, rfl, (hBV.setCell (p := ⟨w.heap.size + 1 + 1 + 1, 0, none⟩) (show w.heap.size ≤ w.heap.size + 1 + 1 + 1 by omega) _).trans (belowK_b (w := w) (Nat.le_refl _) _ D _ _ (by omega) hK' rfl rfl)⟩
          simp [results, Try.f10, go_sem, hc5]
end Go.Proofs.Ytaojnmjmmfdfjaa.Field
