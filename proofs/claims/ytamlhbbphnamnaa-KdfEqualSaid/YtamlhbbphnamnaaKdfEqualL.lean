/- The walk of the law KdfEqual. -/
import Derived.Test.YtamlhbbphnamnaaKdfEq
namespace Go.Proofs.Ytamlhbbphnamnaa.kdfEqual
open Go.RowKit
open Go.Proofs.Ytamlhbbphnamnaa.Rely

theorem law (x y : Value) (xs ys : List Int) (w : World) (hx : BytesAt w x xs) (hy : BytesAt w y ys) :
    Calls Try.prog 3 #[x, y] w fun e w' => e = .returned (.bool true) ∧ Below w.heap.size w w' := by
  have hX : ∀ W, Ext w.drew W → BytesAt W x xs := fun W hR => hx.ext (Ext.trans (ext_drew w) hR)
  have hY : ∀ W, Ext w.drew W → BytesAt W y ys := fun W hR => hy.ext (Ext.trans (ext_drew w) hR)
  have hcx : ∀ W, Ext w.drew W → (convert 22 9 x).run Try.prog W = .ok (.string (strOf xs)) W := fun W hR => conv_bytes Try.underlying22 Try.underlying5 Try.underlying9 (hX W hR)
  have hcy : ∀ W, Ext w.drew W → (convert 22 9 y).run Try.prog W = .ok (.string (strOf ys)) W := fun W hR => conv_bytes Try.underlying22 Try.underlying5 Try.underlying9 (hY W hR)
  have hse : (decide (xs = ys) == ((strOf xs).toList == (strOf ys).toList)) = true := by
    obtain ⟨_, _, _, _, bx, _⟩ := hx
    obtain ⟨_, _, _, _, by', _⟩ := hy
    have e := strOf_beq bx by'
    rw [e]; exact beq_self_eq_true _
  have HX := Lib.hid hX
  have HY := Lib.hid hY
  clear hX hY
  go_enter Try.func3, Try.ntmps3
  go_wp2_with fail
  refine wp_region_rely Ext 20 24 [⟨none, []⟩, ⟨none, []⟩, ⟨none, [(5, some 0), (6, some 1)]⟩, ⟨none, [(7, some 2)]⟩, ⟨some (8, true), [(0, none), (8, some 3)]⟩, ⟨some (8, true), [(1, none), (8, some 3)]⟩, ⟨some (8, true), [(9, some 4), (10, some 5), (8, some 3)]⟩, ⟨some (8, true), [(0, none), (8, some 3)]⟩, ⟨some (8, true), [(12, some 7), (8, some 3)]⟩, ⟨some (8, true), [(1, none), (8, some 3)]⟩, ⟨some (8, true), [(14, some 9), (8, some 3)]⟩, ⟨some (8, true), [(13, some 8), (15, some 10), (8, some 3)]⟩, ⟨some (8, true), [(11, some 6), (16, some 11), (8, some 3)]⟩, ⟨none, [(8, some 3), (17, some 12)]⟩, ⟨none, [(18, some 13)]⟩, ⟨some (19, true), [(0, none), (19, some 14)]⟩, ⟨some (19, true), [(0, none), (19, some 14)]⟩, ⟨some (19, true), [(20, some 15), (21, some 16), (19, some 14)]⟩, ⟨none, [(19, some 14), (22, some 17)]⟩, ⟨none, [(23, some 18)]⟩] (by kernel_rfl) (by kernel_rfl) rfl Ext.refl Ext.trans (fun F r0 hr hF => ?_)
  have f0 : r0 0 = x := by rw [hr]; rfl
  have f1 : r0 1 = y := by rw [hr]; rfl
  clear hr
  simp only [List.take_succ_cons, List.take_zero]
  iterate 2
    (refine step_fact (fun v W => BytesAt W v [1]) (bytes_stable _) (fun a W hR hh => ?_) ?_
     · simp only [guarded, relyAt]
       go_simp
       refine ⟨ext_alloc _ _, _, _, rfl, by decide, fun x hx => by simp at hx; omega, .inr ⟨_, _, rfl, by simp, fun i hi => ?_⟩⟩
       obtain rfl : i = 0 := by simpa using hi
       simp [nth])
  repeat
    (simp only [List.cons_append, List.nil_append]
     apply step_const
     (intro ρ W hR hh
      simp only [Holds, List.getD_cons_zero, List.getD_cons_succ] at hh
      simp only [guarded, relyAt, hh, isB_bool, beq_self_eq_true, ↓reduceIte]
      go_simp
      first
        | exact ⟨Ext.refl _, rfl⟩
        | (with_reducible refine ⟨Ext.refl _, Calls.mono (equal _ _ _ _ _ hh.1 hh.2.1) ?_⟩; exact fun _ _ h => h.const)
        | (with_reducible refine ⟨Ext.refl _, Calls.mono (equal _ _ _ _ _ (HX.out _ hR) (HY.out _ hR)) ?_⟩; exact fun _ _ h => h.const)
        | (with_reducible refine ⟨Ext.refl _, Calls.mono (equal _ _ _ _ _ (HX.out _ hR) (HX.out _ hR)) ?_⟩; exact fun _ _ h => h.const)))
  simp only [List.cons_append, List.nil_append]
  refine hF.out fun W hR => ?_
  simp only [List.take_succ_cons, List.take_zero, List.drop_succ_cons, List.drop_zero, fin, forall_eq, Act.put, List.setIfInBounds_toArray, List.set_cons_zero, List.set_cons_succ]
  intro x0 h0 x1 h1
  go_wp2
  go_ret
  exact ⟨rfl, Ext.trans (ext_drew w) hR⟩
end Go.Proofs.Ytamlhbbphnamnaa.kdfEqual
