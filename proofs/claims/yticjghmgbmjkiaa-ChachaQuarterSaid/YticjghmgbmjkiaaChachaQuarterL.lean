/- The walk of the law ChachaQuarter. -/
import Derived.Test.YticjghmgbmjkiaaChaA
namespace Go.Proofs.Yticjghmgbmjkiaa.Cha
set_option linter.unusedVariables false
open Go Go.RowKit
open Go.Proofs.Yticjghmgbmjkiaa.Rely

theorem law (a b c d : Int) (w : World) : Calls Try.prog 3 #[.agg #[.int .u32 a, .int .u32 b, .int .u32 c, .int .u32 d]] w fun e w' => e = .returned (.bool true) ∧ Below w.heap.size w w' := by
  have hq := fun W => quarter a b c d W
  have HQ := Lib.hid hq
  clear hq
  generalize hr : qr ⟨a, b, c, d⟩ = r at *
  have HR := Lib.hid hr
  clear hr
  obtain ⟨ra, rb, rc, rd⟩ := r
  go_enter Try.func3, Try.ntmps3
  go_wp2_with fail
  refine (HQ.out _).mono ?_
  rintro e w' ⟨rfl, rfl⟩
  go_wp2_with fail
  refine (rQuarter a b c d _).mono ?_
  rintro e w' ⟨cap, rfl, hE, cur, hRow, hHas⟩
  rw [HR.out] at hHas
  have c0 := (hRow.cell 0).trans hHas.1
  have c1 := (hRow.cell 1).trans hHas.2.1
  have c2 := (hRow.cell 2).trans hHas.2.2.1
  have c3 := (hRow.cell 3).trans hHas.2.2.2
  have HE := Lib.hid hE
  clear hHas hRow hE
  simp only [World.size_alloc] at c0 c1 c2 c3
  go_wp2_with (go_at_call 6; refine (alive _).mono ?_; rintro e w' ⟨rfl, rfl⟩)
  go_ret
  exact ⟨rfl, Ext.trans (ext_alloc _ _) HE.out⟩
end Go.Proofs.Yticjghmgbmjkiaa.Cha
