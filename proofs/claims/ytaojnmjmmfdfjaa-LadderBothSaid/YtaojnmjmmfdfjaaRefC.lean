/- The document's numbers: the reduction of parts of any size. -/
import Derived.Test.YtaojnmjmmfdfjaaRefB
namespace Go.Proofs.Ytaojnmjmmfdfjaa.Field
open Go Go.RowKit
open Go.Proofs.Ytaojnmjmmfdfjaa.Rely
set_option linter.unusedVariables false

/-- n after r rounds -/
def it : Nat → Int → Int
  | 0, n => n
  | r + 1, n => foldV (it r n)
theorem it_range (n : Int) (h : 0 ≤ n ∧ n < 65536 ^ 32) (r : Nat) (hr : r < 4) : 0 ≤ it r n ∧ it r n < 65536 ^ 32 := by
  have f := four n h
  rcases (by omega : r = 0 ∨ r = 1 ∨ r = 2 ∨ r = 3) with rfl | rfl | rfl | rfl
  · exact h
  · exact ⟨f.1, f.2.1⟩
  · exact ⟨f.2.2.1, f.2.2.2.1⟩
  · exact ⟨f.2.2.2.2.1, f.2.2.2.2.2.1⟩
theorem it_four (n : Int) (h : 0 ≤ n ∧ n < 65536 ^ 32) : 0 ≤ it 4 n ∧ it 4 n < 65536 ^ 16 ∧ it 4 n % 57896044618658097711785492504343953926634992332820282019728792003956564819949 = n % 57896044618658097711785492504343953926634992332820282019728792003956564819949 := by
  have f := four n h
  exact ⟨f.2.2.2.2.2.2.1, f.2.2.2.2.2.2.2.1, f.2.2.2.2.2.2.2.2⟩
/-- the places while they are folded -/
def fmix (S : Int) (k : Nat) : List Int := (List.range 32).map fun i => if i < k then fold38 S i else if 16 ≤ i ∧ i < 16 + k then 0 else limb S i
theorem fmix_len (S : Int) (k : Nat) : (fmix S k).length = 32 := by simp [fmix]
theorem fmix_nth (S : Int) (k i : Nat) (hi : i < 32) : nth (fmix S k) i = if i < k then fold38 S i else if 16 ≤ i ∧ i < 16 + k then 0 else limb S i := by simp [nth, fmix, hi]
theorem fmix_zero (S : Int) : fmix S 0 = (List.range 32).map (limb S) := by
  unfold fmix
  refine List.map_congr_left fun i hi => ?_
  rw [if_neg (by omega), if_neg (by omega)]
theorem fmix_full (S : Int) : fmix S 16 = (List.range 32).map (fold38 S) := by
  unfold fmix
  refine List.map_congr_left fun i hi => ?_
  have := List.mem_range.1 hi
  by_cases h : i < 16
  · rw [if_pos h]
  · rw [if_neg h, if_pos (by omega)]
    unfold fold38
    rw [if_neg h]
theorem fmix_set (S : Int) (k : Nat) (hk : k < 16) : ((fmix S k).set k (limb S k + 38 * limb S (k + 16))).set (k + 16) 0 = fmix S (k + 1) := by
  apply List.ext_getElem
  · simp [fmix]
  · intro i h1 h2
    simp only [fmix, List.getElem_set, List.getElem_map, List.getElem_range]
    rcases (by omega : i = k + 16 ∨ i = k ∨ i < k ∨ (k < i ∧ i < 16) ∨ (16 ≤ i ∧ i < 16 + k) ∨ 16 + k < i) with h | h | h | h | h | h
    · subst h
      rw [if_pos rfl, if_neg (show ¬ k + 16 < k + 1 by omega), if_pos (show 16 ≤ k + 16 ∧ k + 16 < 16 + (k + 1) by omega)]
    · subst h
      rw [if_neg (show ¬ i + 16 = i by omega), if_pos rfl, if_pos (show i < i + 1 by omega)]
      unfold fold38
      rw [if_pos hk]
    · rw [if_neg (show ¬ k + 16 = i by omega), if_neg (show ¬ k = i by omega), if_pos h, if_pos (show i < k + 1 by omega)]
    · rw [if_neg (show ¬ k + 16 = i by omega), if_neg (show ¬ k = i by omega), if_neg (show ¬ i < k by omega), if_neg (show ¬ i < k + 1 by omega), if_neg (show ¬ (16 ≤ i ∧ i < 16 + k) by omega), if_neg (show ¬ (16 ≤ i ∧ i < 16 + (k + 1)) by omega)]
    · rw [if_neg (show ¬ k + 16 = i by omega), if_neg (show ¬ k = i by omega), if_neg (show ¬ i < k by omega), if_neg (show ¬ i < k + 1 by omega), if_pos (show (16 ≤ i ∧ i < 16 + k) by omega), if_pos (show (16 ≤ i ∧ i < 16 + (k + 1)) by omega)]
    · rw [if_neg (show ¬ k + 16 = i by omega), if_neg (show ¬ k = i by omega), if_neg (show ¬ i < k by omega), if_neg (show ¬ i < k + 1 by omega), if_neg (show ¬ (16 ≤ i ∧ i < 16 + k) by omega), if_neg (show ¬ (16 ≤ i ∧ i < 16 + (k + 1)) by omega)]
/-- the last carry: 2^255 counts 19 times -/
def out5 (S : Int) (i : Nat) : Int := if i = 15 then limb S 15 % 32768 else limb S i
def g5 (S : Int) (i : Nat) : Int := out5 S i + (if i = 0 then 19 * (limb S 15 / 32768) else 0)
def S5 (S : Int) : Int := S % 57896044618658097711785492504343953926634992332820282019728792003956564819968 + 19 * (S / 57896044618658097711785492504343953926634992332820282019728792003956564819968)
theorem pvf_first (c : Int) : ∀ k, pvf (fun i => if i = 0 then c else 0) (k + 1) = c
  | 0 => by simp [pvf]
  | k + 1 => by
    rw [pvf, pvf_first c k]
    simp
theorem g5_val (S : Int) (h : 0 ≤ S ∧ S < 65536 ^ 16) : pvf (g5 S) 16 = S5 S := by
  have e1 : pvf (g5 S) 16 = pvf (out5 S) 16 + pvf (fun i => if i = 0 then 19 * (limb S 15 / 32768) else 0) 16 := pvf_add _ _ _
  have e2 : pvf (fun i => if i = 0 then 19 * (limb S 15 / 32768) else 0) 16 = 19 * (limb S 15 / 32768) := pvf_first _ 15
  have e3 : pvf (out5 S) 15 = pvf (limb S) 15 := pvf_congr (n := 15) (fun i hi => by unfold out5; rw [if_neg (by omega)]) 15 (Nat.le_refl _)
  have e4 : pvf (out5 S) 16 = pvf (out5 S) 15 + out5 S 15 * 65536 ^ 15 := rfl
  rw [e1, e2, e4, e3, pvf_limb]
  unfold out5 S5 limb
  rw [if_pos rfl]
  have f1 : (65536 : Int) ^ 15 = 1766847064778384329583297500742918515827483896875618958121606201292619776 := by decide
  have f2 : (65536 : Int) ^ 16 = 115792089237316195423570985008687907853269984665640564039457584007913129639936 := by decide
  rw [f1]
  rw [f2] at h
  omega
theorem g5_range (S : Int) (i : Nat) : 0 ≤ g5 S i ∧ g5 S i ≤ 65600 := by
  unfold g5 out5
  have h1 := limb_range S i
  have h2 := limb_range S 15
  split <;> split <;> omega
theorem out5_range (S : Int) (i : Nat) : 0 ≤ out5 S i ∧ out5 S i < 65536 := by
  unfold out5
  have h1 := limb_range S i
  have h2 := limb_range S 15
  split <;> omega
theorem S5_val (S : Int) (h : 0 ≤ S ∧ S < 65536 ^ 16) : 0 ≤ S5 S ∧ S5 S < 57896044618658097711785492504343953926634992332820282019728792003956564820006 ∧
    S5 S % 57896044618658097711785492504343953926634992332820282019728792003956564819949 = S % 57896044618658097711785492504343953926634992332820282019728792003956564819949 := by
  have f2 : (65536 : Int) ^ 16 = 115792089237316195423570985008687907853269984665640564039457584007913129639936 := by decide
  rw [f2] at h
  unfold S5
  omega
/-- what the last rounds leave -/
theorem last_sub (V : Int) (h0 : 0 ≤ V) (h : V < 57896044618658097711785492504343953926634992332820282019728792003956564820006) :
    (57896044618658097711785492504343953926634992332820282019728792003956564819949 ≤ V → V - 57896044618658097711785492504343953926634992332820282019728792003956564819949 = V % 57896044618658097711785492504343953926634992332820282019728792003956564819949) ∧
    (¬ 57896044618658097711785492504343953926634992332820282019728792003956564819949 ≤ V → V = V % 57896044618658097711785492504343953926634992332820282019728792003956564819949) := by omega

theorem info70 (xs : List Int) (h : xs.length = 32) : (Try.prog.info? 70).map (·.size) = some (ints .i64 xs).size := by
  rw [ints_size, h]
  kernel_rfl
def M : Int := 1125899906842624
set_option maxHeartbeats 4000000 in
theorem small (xs : List Int) (hl : xs.length = 32) (hr : ∀ i, i < 32 → 0 ≤ nth xs i ∧ nth xs i ≤ M) (h0 : 0 ≤ pvf (nth xs) 32 ∧ pvf (nth xs) 32 < 65536 ^ 32) (w : World) :
    Calls Try.prog 51 #[.agg (ints .i64 xs)] w (Ret w (lnum (pvf (nth xs) 32 % p))) := by
  generalize hn : pvf (nth xs) 32 = n at *
  have hit := it_range n h0
  have hfour := it_four n h0
  go_enter Try.func51, Try.ntmps51
  go_wp2_with fail
  go_loopw [4] (fun i wr => ∃ r : Nat, r ≤ 4 ∧ i = .int .i64 r ∧ Ext w wr ∧ ∃ g : Nat → Int, (∀ i, i < 32 → 0 ≤ g i ∧ g i ≤ M) ∧ pvf g 32 = it r n ∧ (1 ≤ r → ∀ i, 16 ≤ i → g i = 0) ∧
      wr.heap[w.heap.size]? = some (.cells (ints .i64 ((List.range 32).map g)) 70) ∧ (∃ b, b.size = 16 ∧ wr.heap[w.heap.size + 1]? = some (.cells b 32)) ∧
      wr.heap[w.heap.size + 1 + 1]? = some (.cells (ints .i64 (List.replicate 16 0)) 32)) (fun i _ => 4 - (intOf i).toNat)
  case atStart => exact ⟨0, by omega, rfl, ext3 _ _ _ _, nth xs, hr, hn, fun h => by omega, by rw [range_nth _ _ hl]; exact alloc3_fst _ _ _ _, ⟨_, rfl, alloc3_mid _ _ _ _⟩, alloc3_new _ _ _ _⟩
  case round =>
    obtain ⟨r, hr4, rfl, he, g, hg, hgv, hgz, hA, ⟨b, hbs, hB⟩, hC⟩ := hrel
    by_cases hlt : r < 4
    · clear hgz hfour hr hn hl h0
      have hS := hit r hlt
      go_wp2
      go_loopw [5, 6] (fun c i wq => ∃ k : Nat, k ≤ 32 ∧ i = .int .i64 k ∧ c = .int .i64 (cr g k) ∧ Ext w wq ∧ wq.heap[w.heap.size]? = some (.cells (ints .i64 (mix 32 (limb (it r n)) g k)) 70) ∧ wq.heap[w.heap.size + 1]? = some (.cells b 32) ∧
        wq.heap[w.heap.size + 1 + 1]? = some (.cells (ints .i64 (List.replicate 16 0)) 32)) (fun _ i _ => 32 - (intOf i).toNat)
      case atStart => exact ⟨0, by omega, rfl, by rw [cr_zero], he, by rw [mix_none]; exact hA, hB, hC⟩
      case round =>
        clear hA hB hC he
        obtain ⟨k, hk, rfl, rfl, he, hA, hB, hC⟩ := hrel
        by_cases hk32 : k < 32
        · have hX : (ints .i64 (mix 32 (limb (it r n)) g k))[k]? = some (.int .i64 (g k)) := by rw [ints_get _ _ _ (by rw [mix_len]; exact hk32), mix_nth _ _ _ _ _ hk32, if_neg (by omega)]
          have hS1 : (ints .i64 (mix 32 (limb (it r n)) g k)).setIfInBounds k (.int .i64 (limb (it r n) k)) = ints .i64 (mix 32 (limb (it r n)) g (k + 1)) := by rw [ints_set, mix_set _ _ _ _ hk32]
          have e1 := carry_limb g k 32 hk32
          have e2 := cr_step g k
          have b1 := hg k hk32
          have b2 := cr_range g M 32 (by decide) hg k (by omega)
          rw [hgv] at e1
          unfold M at b1 b2
          generalize hcn : cr g (k + 1) = cn at *
          generalize hcc : cr g k = cc at *
          generalize hgg : g k = gk at *
          have hcx := row_cell hA hX
          have hfx := row_frozen hA k
          have w1 : IntKind.i64.wrap (gk + cc) = gk + cc := IntWalk.i64_in _ (by omega)
          have w2 : (gk + cc).tmod 65536 = (gk + cc) % 65536 := Int.tmod_eq_emod_of_nonneg (by omega)
          have w3 : IntKind.i64.wrap ((gk + cc) % 65536) = (gk + cc) % 65536 := IntWalk.i64_in _ (by omega)
          have w4 : (gk + cc).tdiv 65536 = (gk + cc) / 65536 := Int.tdiv_eq_ediv_of_nonneg (by omega)
          have w5 : IntKind.i64.wrap ((gk + cc) / 65536) = (gk + cc) / 65536 := IntWalk.i64_in _ (by omega)
          have HG := Lib.hid hg
          clear hg
          go_wp2
          exact ⟨⟨k + 1, by omega, by go_num, by rw [hcn], ext_set he (Nat.le_refl _) _ _, (set_row _ _ hA).trans (by rw [hS1]), (set_row_other _ _ (by omega)).trans hB, (set_row_other _ _ (by omega)).trans hC⟩, by simp [intOf]; omega⟩
        · obtain rfl : k = 32 := by omega
          rw [mix_full _ _ _ _ (Nat.le_refl _), ← fmix_zero] at hA
          have HS := Lib.hid hS
          have HG := Lib.hid hgv
          clear hS hgv hg hit
          go_wp2
          go_loopw [8] (fun i wq => ∃ k : Nat, k ≤ 16 ∧ i = .int .i64 k ∧ Ext w wq ∧ wq.heap[w.heap.size]? = some (.cells (ints .i64 (fmix (it r n) k)) 70) ∧ wq.heap[w.heap.size + 1]? = some (.cells b 32) ∧
            wq.heap[w.heap.size + 1 + 1]? = some (.cells (ints .i64 (List.replicate 16 0)) 32)) (fun i _ => 16 - (intOf i).toNat)
          case atStart => exact ⟨0, by omega, rfl, he, hA, hB, hC⟩
          case round =>
            clear hA hB hC he
            obtain ⟨k, hk, rfl, he, hA, hB, hC⟩ := hrel
            by_cases hk16 : k < 16
            · have hX : (ints .i64 (fmix (it r n) k))[k]? = some (.int .i64 (limb (it r n) k)) := by rw [ints_get _ _ _ (by rw [fmix_len]; omega), fmix_nth _ _ _ (by omega), if_neg (by omega), if_neg (by omega)]
              have hY : (ints .i64 (fmix (it r n) k))[k + 16]? = some (.int .i64 (limb (it r n) (k + 16))) := by rw [ints_get _ _ _ (by rw [fmix_len]; omega), fmix_nth _ _ _ (by omega), if_neg (by omega), if_neg (by omega)]
              have hS1 : ((ints .i64 (fmix (it r n) k)).setIfInBounds k (.int .i64 (limb (it r n) k + 38 * limb (it r n) (k + 16)))).setIfInBounds (k + 16) (.int .i64 0) = ints .i64 (fmix (it r n) (k + 1)) := by rw [ints_set, ints_set, fmix_set _ _ hk16]
              have b1 := limb_range (it r n) k
              have b2 := limb_range (it r n) (k + 16)
              generalize hlx : limb (it r n) k = lx at *
              generalize hly : limb (it r n) (k + 16) = ly at *
              have q1 : IntKind.i64.wrap ((k : Int) + 16) = (k : Int) + 16 := IntWalk.i64_in _ (by omega)
              have q2 : ((k : Int) + 16).toNat = k + 16 := by omega
              have q3 : (0 : Int) ≤ (k : Int) + 16 := by omega
              have q4 : (k : Int) + 16 < 32 := by omega
              have q5 : (k : Int) < 32 := by omega
              have w1 : IntKind.i64.wrap (38 * ly) = 38 * ly := IntWalk.i64_in _ (by omega)
              have w2 : IntKind.i64.wrap (lx + 38 * ly) = lx + 38 * ly := IntWalk.i64_in _ (by omega)
              have HX : Hid (∀ W, Ext wr.drew W → W.cell? ⟨w.heap.size, k, none⟩ = some (.int .i64 lx)) := Lib.hid fun W hR => row_cell (row_ext (row_ext hA (ext_drew _)) hR) hX
              have HY : Hid (∀ W, Ext wr.drew W → W.cell? ⟨w.heap.size, k + 16, none⟩ = some (.int .i64 ly)) := Lib.hid fun W hR => row_cell (row_ext (row_ext hA (ext_drew _)) hR) hY
              go_wp2
              refine wp_region_rely Ext 11 103 [⟨none, [(8, none)]⟩, ⟨none, [(8, none)]⟩, ⟨none, [(1, none), (39, some 1)]⟩, ⟨none, [(40, some 2)]⟩, ⟨none, [(8, none)]⟩, ⟨none, [(42, some 4)]⟩, ⟨none, [(1, none), (43, some 5)]⟩, ⟨none, [(44, some 6)]⟩, ⟨none, [(45, some 7)]⟩, ⟨none, [(41, some 3), (46, some 8)]⟩, ⟨none, [(1, none), (38, some 0)]⟩] (by kernel_rfl) (by kernel_rfl) rfl Ext.refl Ext.trans (fun F r0 hr hF => ?_)
              have f1 : r0 1 = .pointer (some ⟨w.heap.size, 0, none⟩) := by rw [hr]; rfl
              have f8 : r0 8 = .int .i64 k := by rw [hr]; rfl
              clear hr
              simp only [List.take_succ_cons, List.take_zero]
              repeat
                (try simp only [List.cons_append, List.nil_append]
                 apply step_const
                 (intro ρ W hR hh
                  have hcx := HX.out W hR
                  have hcy := HY.out W hR
                  simp only [Holds, List.getD_cons_zero, List.getD_cons_succ, f1, f8] at hh
                  simp only [guarded, relyAt]
                  go_simp
                  first
                    | exact ⟨Ext.refl _, rfl⟩
                    | exact Ext.refl _))
              simp only [List.cons_append, List.nil_append]
              refine hF.out fun W hRW => ?_
              simp only [List.take_succ_cons, List.take_zero, List.drop_succ_cons, List.drop_zero, fin, forall_eq, Act.put, List.setIfInBounds_toArray, List.set_cons_zero, List.set_cons_succ]
              clear HX HY hF f1 f8
              have hE := Ext.trans (ext_drew wr) hRW
              have hA' := row_ext hA hE
              have hB' := row_ext hB hE
              have hC' := row_ext hC hE
              have hcx := row_cell hA' hX
              have hfx := row_frozen hA' k
              have hA2 := set_row k (.int .i64 (lx + 38 * ly)) hA'
              have hcy : (W.setCell ⟨w.heap.size, k, none⟩ (.int .i64 (lx + 38 * ly))).cell? ⟨w.heap.size, k + 16, none⟩ = some (.int .i64 ly) := row_cell hA2 (by rw [Array.getElem?_setIfInBounds_ne (by omega)]; exact hY)
              have hfy := row_frozen hA2 (k + 16)
              go_wp2
              exact ⟨⟨k + 1, by omega, by go_num, ext_set (ext_set (Ext.trans he hE) (Nat.le_refl _) _ _) (Nat.le_refl _) _ _, (set_row _ _ hA2).trans (by rw [hS1]), (set_row_other _ _ (by omega)).trans ((set_row_other _ _ (by omega)).trans hB'), (set_row_other _ _ (by omega)).trans ((set_row_other _ _ (by omega)).trans hC')⟩, by simp [intOf]; omega⟩
            · obtain rfl : k = 16 := by omega
              rw [fmix_full] at hA
              have hS := HS.out
              have hgv := HG.out
              clear HS HG
              go_wp2
              refine ⟨⟨r + 1, by omega, by go_num, he, fold38 (it r n), fun i _ => ?_, fold_val _ hS, fun _ i hi => ?_, hA, ⟨b, hbs, hB⟩, hC⟩, by simp [intOf]; omega⟩
              · have := fold38_range (it r n) i
                unfold M
                omega
              · unfold fold38
                rw [if_neg (by omega)]
    · obtain rfl : r = 4 := by omega
      have hz := hgz (by decide)
      have hgv : pvf g 16 = it 4 n := by rw [← hgv, pvf_high g 16 32 (by decide) fun j a _ => hz j a]
      clear hgz hr hn hl h0 hit
      obtain ⟨hN0, hN1, hN2⟩ := hfour
      generalize hN : it 4 n = N at *
      have HN := Lib.hid (And.intro hN0 (And.intro hN1 hN2))
      clear hN0 hN1 hN2 hN
      rw [show List.replicate 16 (0 : Int) = mix 16 (limb N) (fun _ => 0) 0 by rw [mix_none]; rfl] at hC
      go_wp2
      go_loopw [9, 10] (fun c i wq => ∃ k : Nat, k ≤ 16 ∧ i = .int .i64 k ∧ c = .int .i64 (cr g k) ∧ Ext w wq ∧ wq.heap[w.heap.size]? = some (.cells (ints .i64 ((List.range 32).map g)) 70) ∧ wq.heap[w.heap.size + 1]? = some (.cells b 32) ∧
        wq.heap[w.heap.size + 1 + 1]? = some (.cells (ints .i64 (mix 16 (limb N) (fun _ => 0) k)) 32)) (fun _ i _ => 16 - (intOf i).toNat)
      case atStart => exact ⟨0, by omega, rfl, by rw [cr_zero], he, hA, hB, hC⟩
      case round =>
        clear hA hB hC he
        obtain ⟨k, hk, rfl, rfl, he, hA, hB, hC⟩ := hrel
        by_cases hk16 : k < 16
        · have hX : (ints .i64 ((List.range 32).map g))[k]? = some (.int .i64 (g k)) := by rw [ints_get _ _ _ (by simp; omega)]; simp [nth, show k < 32 by omega]
          have hY : (ints .i64 (mix 16 (limb N) (fun _ => 0) k))[k]? = some (.int .i64 0) := by rw [ints_get _ _ _ (by rw [mix_len]; exact hk16), mix_nth _ _ _ _ _ hk16, if_neg (by omega)]
          have hS1 : (ints .i64 (mix 16 (limb N) (fun _ => 0) k)).setIfInBounds k (.int .i64 (limb N k)) = ints .i64 (mix 16 (limb N) (fun _ => 0) (k + 1)) := by rw [ints_set, mix_set _ _ _ _ hk16]
          have e1 := carry_limb g k 16 hk16
          have e2 := cr_step g k
          have b1 := hg k (by omega)
          have b2 := cr_range g M 32 (by decide) hg k (by omega)
          rw [hgv] at e1
          unfold M at b1 b2
          generalize hcn : cr g (k + 1) = cn at *
          generalize hcc : cr g k = cc at *
          generalize hgg : g k = gk at *
          have q5 : (k : Int) < 32 := by omega
          have hcx := row_cell hA hX
          have hcy := row_cell hC hY
          have hfx := row_frozen hC k
          have w1 : IntKind.i64.wrap (gk + cc) = gk + cc := IntWalk.i64_in _ (by omega)
          have w2 : (gk + cc).tmod 65536 = (gk + cc) % 65536 := Int.tmod_eq_emod_of_nonneg (by omega)
          have w3 : IntKind.i64.wrap ((gk + cc) % 65536) = (gk + cc) % 65536 := IntWalk.i64_in _ (by omega)
          have w4 : (gk + cc).tdiv 65536 = (gk + cc) / 65536 := Int.tdiv_eq_ediv_of_nonneg (by omega)
          have w5 : IntKind.i64.wrap ((gk + cc) / 65536) = (gk + cc) / 65536 := IntWalk.i64_in _ (by omega)
          have HG := Lib.hid hg
          clear hg hz
          go_wp2
          exact ⟨⟨k + 1, by omega, by go_num, by rw [hcn], ext_set he (by omega) _ _, (set_row_other _ _ (by omega)).trans hA, (set_row_other _ _ (by omega)).trans hB, (set_row _ _ hC).trans (by rw [hS1])⟩, by simp [intOf]; omega⟩
        · obtain rfl : k = 16 := by omega
          clear hg hz hgv hA
          have hX : (ints .i64 (mix 16 (limb N) (fun _ => 0) 16))[15]? = some (.int .i64 (limb N 15)) := by rw [ints_get _ _ _ (by rw [mix_len]; decide), mix_nth _ _ _ _ _ (by decide), if_pos (by decide)]
          have hY : (ints .i64 (mix 16 (limb N) (fun _ => 0) 16))[0]? = some (.int .i64 (limb N 0)) := by rw [ints_get _ _ _ (by rw [mix_len]; decide), mix_nth _ _ _ _ _ (by decide), if_pos (by decide)]
          have hS1 : (ints .i64 (mix 16 (limb N) (fun _ => 0) 16)).setIfInBounds 15 (.int .i64 (limb N 15 % 32768)) = ints .i64 (mix 16 (limb (S5 N)) (out5 N) 0) := by
            rw [ints_set]
            refine congrArg (ints .i64) (List.ext_getElem (by simp [mix]) fun i h1 h2 => ?_)
            have h3 : i < 16 := by simpa [mix] using h2
            simp only [mix, List.getElem_set, List.getElem_map, List.getElem_range]
            unfold out5
            by_cases h : i = 15
            · subst h; simp
            · rw [if_neg (show ¬ 15 = i by omega), if_pos h3, if_neg (show ¬ i < 0 by omega), if_neg h]
          have b1 := limb_range N 15
          have b2 := limb_range N 0
          have eg0 : limb N 0 + 19 * (limb N 15 / 32768) = g5 N 0 + cr (g5 N) 0 := by
            rw [cr_zero]
            unfold g5 out5
            simp
          generalize hm0 : g5 N 0 + cr (g5 N) 0 = m0 at *
          generalize hlx : limb N 15 = lx at *
          generalize hly : limb N 0 = ly at *
          have w1 : lx.tdiv 32768 = lx / 32768 := Int.tdiv_eq_ediv_of_nonneg (by omega)
          have w2 : IntKind.i64.wrap (lx / 32768) = lx / 32768 := IntWalk.i64_in _ (by omega)
          have w3 : lx.tmod 32768 = lx % 32768 := Int.tmod_eq_emod_of_nonneg (by omega)
          have w4 : IntKind.i64.wrap (lx % 32768) = lx % 32768 := IntWalk.i64_in _ (by omega)
          have w5 : IntKind.i64.wrap (19 * (lx / 32768)) = 19 * (lx / 32768) := IntWalk.i64_in _ (by omega)
          have w6 : IntKind.i64.wrap (ly + 19 * (lx / 32768)) = ly + 19 * (lx / 32768) := IntWalk.i64_in _ (by omega)
          have hcx := row_cell hC hX
          have hfx := row_frozen hC 15
          have hC2 := set_row 15 (.int .i64 (lx % 32768)) hC
          have hcy : (wr.setCell ⟨w.heap.size + 1 + 1, 15, none⟩ (.int .i64 (lx % 32768))).cell? ⟨w.heap.size + 1 + 1, 0, none⟩ = some (.int .i64 ly) := row_cell hC2 (by rw [Array.getElem?_setIfInBounds_ne (by decide)]; exact hY)
          rw [hS1] at hC2
          have hB2 := (set_row_other (W := wr) 15 (.int .i64 (lx % 32768)) (show w.heap.size + 1 ≠ w.heap.size + 1 + 1 by omega)).trans hB
          have he2 := ext_set he (show w.heap.size ≤ w.heap.size + 1 + 1 by omega) 15 (.int .i64 (lx % 32768))
          generalize hwz : wr.setCell ⟨w.heap.size + 1 + 1, 15, none⟩ (.int .i64 (lx % 32768)) = wz at *
          go_wp2
          clear hcx hfx hcy hX hY hS1 hC hB he hwz w1 w2 w3 w4 w5 w6
          go_loopw [13, 14] (fun c i wq => ∃ k : Nat, k ≤ 16 ∧ i = .int .i64 k ∧ (∃ m : Int, c = .int .i64 m ∧ 0 ≤ m ∧ m ≤ 4611686018427387904 ∧ (k < 16 → m = g5 N k + cr (g5 N) k)) ∧ Ext w wq ∧ wq.heap[w.heap.size + 1]? = some (.cells b 32) ∧
            wq.heap[w.heap.size + 1 + 1]? = some (.cells (ints .i64 (mix 16 (limb (S5 N)) (out5 N) k)) 32)) (fun _ i _ => 16 - (intOf i).toNat)
          case atStart => exact ⟨0, by omega, rfl, ⟨_, rfl, by omega, by omega, fun _ => by rw [hm0]⟩, he2, hB2, hC2⟩
          case round =>
            clear he2 hB2 hC2 eg0 hm0 b1 b2
            obtain ⟨k, hk, rfl, ⟨m, rfl, hm0, hm1, hme⟩, he, hB, hC⟩ := hrel
            by_cases hk16 : k < 16
            · have hme' := hme hk16
              have hX : (ints .i64 (mix 16 (limb (S5 N)) (out5 N) k))[k]? = some (.int .i64 (out5 N k)) := by rw [ints_get _ _ _ (by rw [mix_len]; exact hk16), mix_nth _ _ _ _ _ hk16, if_neg (by omega)]
              have hS1 : (ints .i64 (mix 16 (limb (S5 N)) (out5 N) k)).setIfInBounds k (.int .i64 (limb (S5 N) k)) = ints .i64 (mix 16 (limb (S5 N)) (out5 N) (k + 1)) := by rw [ints_set, mix_set _ _ _ _ hk16]
              have e1 := carry_limb (g5 N) k 16 hk16
              have e2 := cr_step (g5 N) k
              rw [g5_val N ⟨HN.out.1, HN.out.2.1⟩, ← hme'] at e1
              rw [← hme'] at e2
              have hcx := row_cell hC hX
              have hfx := row_frozen hC k
              have hC2 := set_row k (.int .i64 (limb (S5 N) k)) hC
              have hB2 := (set_row_other (W := wr) k (.int .i64 (limb (S5 N) k)) (show w.heap.size + 1 ≠ w.heap.size + 1 + 1 by omega)).trans hB
              have he2 := ext_set he (show w.heap.size ≤ w.heap.size + 1 + 1 by omega) k (.int .i64 (limb (S5 N) k))
              rw [hS1] at hC2
              have w2 : m.tmod 65536 = m % 65536 := Int.tmod_eq_emod_of_nonneg hm0
              have w3 : IntKind.i64.wrap (m % 65536) = m % 65536 := IntWalk.i64_in _ (by omega)
              have w4 : m.tdiv 65536 = m / 65536 := Int.tdiv_eq_ediv_of_nonneg hm0
              have w5 : IntKind.i64.wrap (m / 65536) = m / 65536 := IntWalk.i64_in _ (by omega)
              by_cases hk15 : k < 15
              · have hZ : (ints .i64 (mix 16 (limb (S5 N)) (out5 N) (k + 1)))[k + 1]? = some (.int .i64 (out5 N (k + 1))) := by rw [ints_get _ _ _ (by rw [mix_len]; omega), mix_nth _ _ _ _ _ (by omega), if_neg (by omega)]
                have hcz := row_cell hC2 hZ
                have hor := out5_range N (k + 1)
                have hgn : out5 N (k + 1) + cr (g5 N) (k + 1) = g5 N (k + 1) + cr (g5 N) (k + 1) := by
                  unfold g5
                  rw [if_neg (show ¬ k + 1 = 0 by omega)]
                  omega
                have q1 : IntKind.i64.wrap ((k : Int) + 1) = (k : Int) + 1 := IntWalk.i64_in _ (by omega)
                have q2 : ((k : Int) + 1).toNat = k + 1 := by omega
                have q3 : (0 : Int) ≤ (k : Int) + 1 := by omega
                have q4 : (k : Int) + 1 < 16 := by omega
                have q5 : (k : Int) < 15 := by omega
                rw [← e2] at hgn
                have Hgn := Lib.hid hgn
                clear hgn hme hme'
                generalize hoz : out5 N (k + 1) = oz at *
                generalize hwz : wr.setCell ⟨w.heap.size + 1 + 1, k, none⟩ (.int .i64 (limb (S5 N) k)) = wz at *
                have w6 : IntKind.i64.wrap (oz + m / 65536) = oz + m / 65536 := IntWalk.i64_in _ (by omega)
                go_wp2
                exact ⟨⟨k + 1, by omega, by go_num, ⟨_, rfl, by omega, by omega, fun _ => by have := Hgn.out; omega⟩, he2, hB2, hC2⟩, by simp [intOf]; omega⟩
              · obtain rfl : k = 15 := by omega
                clear hme hme'
                generalize hwz : wr.setCell ⟨w.heap.size + 1 + 1, 15, none⟩ (.int .i64 (limb (S5 N) 15)) = wz at *
                go_wp2
                exact ⟨⟨16, by omega, rfl, ⟨m, rfl, hm0, hm1, fun h => by omega⟩, he2, hB2, hC2⟩, by simp [intOf]⟩
            · obtain rfl : k = 16 := by omega
              clear hme
              have hV := S5_val N ⟨HN.out.1, HN.out.2.1⟩
              have hL := last_sub (S5 N) hV.1 hV.2.1
              have hres : lnum (S5 N % p) = lnum (n % p) := by
                have := HN.out.2.2
                unfold p
                rw [hV.2.2, this]
              rw [mix_full _ _ _ _ (Nat.le_refl _)] at hC
              have hC : wr.heap[w.heap.size + 1 + 1]? = some (.cells (ints .i64 (lims (S5 N))) 32) := hC
              clear HN
              generalize hVV : S5 N = V at *
              have hp0 : (0 : Int) ≤ p ∧ p < big := by decide
              have hVb : 0 ≤ V ∧ V < big := by unfold big; omega
              by_cases hge : p ≤ V
              · have hv : V - p = V % p := hL.1 hge
                have hvb : 0 ≤ V % p ∧ V % p < p := ⟨Int.emod_nonneg _ (by decide), Int.emod_lt_of_pos _ (by decide)⟩
                have HA : Hid (∀ w, Calls Try.prog 62 #[.agg (ints .i64 (lims V)), .agg (ints .i64 (lims p))] w (Ret w (.bool true))) := Lib.hid fun w => by
                  have := atLeast V p hVb hp0 w
                  rw [decide_eq_true hge] at this
                  exact this
                have HA2 : Hid (∀ w, Calls Try.prog 62 #[.agg (ints .i64 (lims (V % p))), .agg (ints .i64 (lims p))] w (Ret w (.bool false))) := Lib.hid fun w => by
                  have := atLeast (V % p) p ⟨hvb.1, by omega⟩ hp0 w
                  rw [decide_eq_false (by omega)] at this
                  exact this
                have HM : Hid (∀ w, Calls Try.prog 54 #[.agg (ints .i64 (lims V)), .agg (ints .i64 (lims p))] w (Ret w (.agg (ints .i64 (lims (V % p)))))) := Lib.hid fun w => by
                  have := minus V p hp0.1 hge hVb.2 w
                  rw [hv] at this
                  exact this
                generalize hR : V % p = R at *
                have HRES := Lib.hid hres
                clear hres
                clear hv hvb hge hVb hL hV hVV hR
                go_wp2
                refine wp_loop_rounds 3 ?_
                rw [rounds_succ]
                go_wp2
                refine wp_region_rely Ext 2 103 [⟨none, [(3, none)]⟩, ⟨none, []⟩] (by kernel_rfl) (by kernel_rfl) rfl Ext.refl Ext.trans (fun F r0 hr hF => ?_)
                have f3 : r0 3 = .pointer (some ⟨w.heap.size + 1 + 1, 0, none⟩) := by rw [hr]; rfl
                clear hr
                simp only [List.take_succ_cons, List.take_zero]
                refine step_const (.agg (ints .i64 (lims V))) (fun ρ W hR hh => ?_) ?_
                · exact relyAt_load_row 32 (.tmp _) rfl _ (Eq.trans hh.1 f3) 32 _ (0, 0) _ (row_ext (row_ext hC (ext_drew _)) hR) Try.underlying32 rfl (infoL _ (lims_len _))
                refine step_const (.agg (ints .i64 (lims p))) (fun ρ W hR hh => ?_) ?_
                · simp only [guarded, relyAt]
                  go_simp
                  exact ⟨Ext.refl _, (prime _).mono fun _ _ h => h.const⟩
                simp only [List.cons_append, List.nil_append]
                refine hF.out fun W1 hR1 => ?_
                simp only [List.take_succ_cons, List.take_zero, List.drop_succ_cons, List.drop_zero, fin, forall_eq, Act.put, List.setIfInBounds_toArray, List.set_cons_zero, List.set_cons_succ]
                clear hF f3
                go_wp2_with first
                  | (go_at_call 62
                     (with_reducible refine (HA.out _).mono ?_)
                     clear HA
                     rintro e w' ⟨rfl, hw⟩)
                have hBy := row_ext (row_ext (row_ext hB (ext_drew _)) hR1) hw
                have hCy := row_ext (row_ext (row_ext hC (ext_drew _)) hR1) hw
                have hey := Ext.trans (Ext.trans (Ext.trans he (ext_drew _)) hR1) hw
                clear hB hC he hw hR1
                refine wp_region_rely Ext 2 103 [⟨none, [(3, none)]⟩, ⟨none, []⟩] (by kernel_rfl) (by kernel_rfl) rfl Ext.refl Ext.trans (fun F r0 hr hF => ?_)
                have f3 : r0 3 = .pointer (some ⟨w.heap.size + 1 + 1, 0, none⟩) := by rw [hr]; rfl
                clear hr
                simp only [List.take_succ_cons, List.take_zero]
                refine step_const (.agg (ints .i64 (lims V))) (fun ρ W hR hh => ?_) ?_
                · exact relyAt_load_row 32 (.tmp _) rfl _ (Eq.trans hh.1 f3) 32 _ (0, 0) _ (row_ext (row_ext hCy (ext_drew _)) hR) Try.underlying32 rfl (infoL _ (lims_len _))
                refine step_const (.agg (ints .i64 (lims p))) (fun ρ W hR hh => ?_) ?_
                · simp only [guarded, relyAt]
                  go_simp
                  exact ⟨Ext.refl _, (prime _).mono fun _ _ h => h.const⟩
                simp only [List.cons_append, List.nil_append]
                refine hF.out fun W2 hR2 => ?_
                simp only [List.take_succ_cons, List.take_zero, List.drop_succ_cons, List.drop_zero, fin, forall_eq, Act.put, List.setIfInBounds_toArray, List.set_cons_zero, List.set_cons_succ]
                clear hF f3
                go_wp2_with first
                  | (go_at_call 54
                     (with_reducible refine (HM.out _).mono ?_)
                     clear HM
                     rintro e w'' ⟨rfl, hw⟩
                     have hBx := row_ext (row_ext (row_ext hBy (ext_drew _)) hR2) hw
                     have hCx := row_ext (row_ext (row_ext hCy (ext_drew _)) hR2) hw
                     have hex := Ext.trans (Ext.trans (Ext.trans hey (ext_drew _)) hR2) hw)
                  | (with_reducible show wpList _ _ _ ((⟨_, .store 32 _ _, _, _, _, _⟩ : Oper) :: _) _ _
                     refine wpList_store_row rfl 32 _ _ rfl (w.heap.size + 1 + 1) _ rfl rfl 32 _ hCx (infoL _ (lims_len _)) (by rw [ints_size, ints_size, lims_len, lims_len]) (ints_one _ _) ?_)
                have hCv : (w''.setRow (w.heap.size + 1 + 1) (ints .i64 (lims R))).heap[w.heap.size + 1 + 1]? = some (.cells (ints .i64 (lims R)) 32) := setRow_heap _ _ _ _ _ _ hCx
                have hBv := (setRow_other w'' (w.heap.size + 1 + 1) (w.heap.size + 1) (ints .i64 (lims R)) (by omega)).trans hBx
                have hev := ext_setRow hex (show w.heap.size ≤ w.heap.size + 1 + 1 by omega) (ints .i64 (lims R))
                generalize w''.setRow (w.heap.size + 1 + 1) (ints .i64 (lims R)) = wv at *
                clear hCx hBx hex hw hCy hBy hey hR2
                rw [rounds_succ]
                go_wp2
                refine wp_region_rely Ext 2 103 [⟨none, [(3, none)]⟩, ⟨none, []⟩] (by kernel_rfl) (by kernel_rfl) rfl Ext.refl Ext.trans (fun F r0 hr hF => ?_)
                have f3 : r0 3 = .pointer (some ⟨w.heap.size + 1 + 1, 0, none⟩) := by rw [hr]; rfl
                clear hr
                simp only [List.take_succ_cons, List.take_zero]
                refine step_const (.agg (ints .i64 (lims R))) (fun ρ W hR hh => ?_) ?_
                · exact relyAt_load_row 32 (.tmp _) rfl _ (Eq.trans hh.1 f3) 32 _ (0, 0) _ (row_ext (row_ext hCv (ext_drew _)) hR) Try.underlying32 rfl (infoL _ (lims_len _))
                refine step_const (.agg (ints .i64 (lims p))) (fun ρ W hR hh => ?_) ?_
                · simp only [guarded, relyAt]
                  go_simp
                  exact ⟨Ext.refl _, (prime _).mono fun _ _ h => h.const⟩
                simp only [List.cons_append, List.nil_append]
                refine hF.out fun W3 hR3 => ?_
                simp only [List.take_succ_cons, List.take_zero, List.drop_succ_cons, List.drop_zero, fin, forall_eq, Act.put, List.setIfInBounds_toArray, List.set_cons_zero, List.set_cons_succ]
                clear hF f3
                go_wp2_with first
                  | (go_at_call 62
                     (with_reducible refine (HA2.out _).mono ?_)
                     clear HA2
                     rintro e w4 ⟨rfl, hw4⟩
                     have hBz := row_ext (row_ext (row_ext hBv (ext_drew _)) hR3) hw4
                     have hCz := row_ext (row_ext (row_ext hCv (ext_drew _)) hR3) hw4
                     have hez := Ext.trans (Ext.trans (Ext.trans hev (ext_drew _)) hR3) hw4
                     clear hw4)
                  | (with_reducible show wpList _ _ _ ((⟨_, .load 32 _, _, _, _, _⟩ : Oper) :: _) _ _
                     refine wpList_load_row rfl 32 _ rfl (w.heap.size + 1 + 1) rfl 32 _ (0, 0) _ hCz Try.underlying32 rfl (infoL _ (lims_len _)) ?_)
                  | (with_reducible show wpList _ _ _ ((⟨_, .store 32 _ _, _, _, _, _⟩ : Oper) :: _) _ _
                     refine wpList_store_row rfl 32 _ _ rfl (w.heap.size + 1) _ rfl rfl 32 _ hBz (infoL _ (lims_len _)) (by rw [hbs, ints_size, lims_len]) (ints_one _ _) ?_)
                exact bodyPost_ret (results_cell_row (p := 2) rfl _ _ (w.heap.size + 1) 32 _ (0, 0) _ rfl (setRow_heap _ _ _ _ _ _ hBz) Try.underlying32 rfl (infoL _ (lims_len _))) rfl ⟨by rw [← HRES.out]; rfl, ext_setRow hez (by omega) _⟩
              · have hv : V = V % p := hL.2 hge
                have HA : Hid (∀ w, Calls Try.prog 62 #[.agg (ints .i64 (lims V)), .agg (ints .i64 (lims p))] w (Ret w (.bool false))) := Lib.hid fun w => by
                  have := atLeast V p hVb hp0 w
                  rw [decide_eq_false hge] at this
                  exact this
                rw [← hv] at hres
                have HRES := Lib.hid hres
                clear hres
                clear hv hge hVb hL hV hVV
                go_wp2
                refine wp_loop_rounds 2 ?_
                rw [rounds_succ]
                go_wp2
                refine wp_region_rely Ext 2 103 [⟨none, [(3, none)]⟩, ⟨none, []⟩] (by kernel_rfl) (by kernel_rfl) rfl Ext.refl Ext.trans (fun F r0 hr hF => ?_)
                have f3 : r0 3 = .pointer (some ⟨w.heap.size + 1 + 1, 0, none⟩) := by rw [hr]; rfl
                clear hr
                simp only [List.take_succ_cons, List.take_zero]
                refine step_const (.agg (ints .i64 (lims V))) (fun ρ W hR hh => ?_) ?_
                · exact relyAt_load_row 32 (.tmp _) rfl _ (Eq.trans hh.1 f3) 32 _ (0, 0) _ (row_ext (row_ext hC (ext_drew _)) hR) Try.underlying32 rfl (infoL _ (lims_len _))
                refine step_const (.agg (ints .i64 (lims p))) (fun ρ W hR hh => ?_) ?_
                · simp only [guarded, relyAt]
                  go_simp
                  exact ⟨Ext.refl _, (prime _).mono fun _ _ h => h.const⟩
                simp only [List.cons_append, List.nil_append]
                refine hF.out fun W1 hR1 => ?_
                simp only [List.take_succ_cons, List.take_zero, List.drop_succ_cons, List.drop_zero, fin, forall_eq, Act.put, List.setIfInBounds_toArray, List.set_cons_zero, List.set_cons_succ]
                clear hF f3
                go_wp2_with first
                  | (go_at_call 62
                     (with_reducible refine (HA.out _).mono ?_)
                     clear HA
                     rintro e w4 ⟨rfl, hw4⟩
                     have hBz := row_ext (row_ext (row_ext hB (ext_drew _)) hR1) hw4
                     have hCz := row_ext (row_ext (row_ext hC (ext_drew _)) hR1) hw4
                     have hez := Ext.trans (Ext.trans (Ext.trans he (ext_drew _)) hR1) hw4
                     clear hw4)
                  | (with_reducible show wpList _ _ _ ((⟨_, .load 32 _, _, _, _, _⟩ : Oper) :: _) _ _
                     refine wpList_load_row rfl 32 _ rfl (w.heap.size + 1 + 1) rfl 32 _ (0, 0) _ hCz Try.underlying32 rfl (infoL _ (lims_len _)) ?_)
                  | (with_reducible show wpList _ _ _ ((⟨_, .store 32 _ _, _, _, _, _⟩ : Oper) :: _) _ _
                     refine wpList_store_row rfl 32 _ _ rfl (w.heap.size + 1) _ rfl rfl 32 _ hBz (infoL _ (lims_len _)) (by rw [hbs, ints_size, lims_len]) (ints_one _ _) ?_)
                exact bodyPost_ret (results_cell_row (p := 2) rfl _ _ (w.heap.size + 1) 32 _ (0, 0) _ rfl (setRow_heap _ _ _ _ _ _ hBz) Try.underlying32 rfl (infoL _ (lims_len _))) rfl ⟨by rw [← HRES.out]; rfl, ext_setRow hez (by omega) _⟩
end Go.Proofs.Ytaojnmjmmfdfjaa.Field
