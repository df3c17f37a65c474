/- Slices that share nothing. -/
import Derived.Test.YticjghmgbmjkiaaDoorNumK
import Derived.Test.YticjghmgbmjkiaaDoorApC
namespace Go.Proofs.YticjghmgbmjkiaaDoor.Sha
open Go Go.RowKit
open Go.Proofs.YticjghmgbmjkiaaDoor.Rely Go.Proofs.YticjghmgbmjkiaaDoor.Auto Go.Proofs.YticjghmgbmjkiaaDoor.Own
set_option linter.unusedVariables false
set_option linter.unusedSimpArgs false

theorem own_take {T : TypeId} {base n c : Nat} {xs : List Int} {a : Option Addr} {W : World} (h : OwnN .u8 T base xs (.slice a xs.length c) W) (hn : n ≤ xs.length) : OwnN .u8 T base (xs.take n) (.slice a n c) W := by
  have hl : (xs.take n).length = n := by rw [List.length_take]; omega
  obtain ⟨⟨h1, h2⟩, hm⟩ := h
  rcases h2 with ⟨h2, h3⟩ | ⟨g, c', cur, e, q2, q3, q4, q5, q6, q7⟩
  · simp only [Value.slice.injEq] at h2
    obtain ⟨rfl, h4, rfl⟩ := h2
    obtain rfl := List.length_eq_zero_iff.1 h4
    obtain rfl : n = 0 := by simpa using hn
    exact ownN_nil _ _ _ _
  · simp only [Value.slice.injEq] at e
    obtain ⟨rfl, -, rfl⟩ := e
    refine ownN_at hl q2 q3 (by omega) (by omega) q5 ?_
    have : cur.toList.take n = (cur.toList.take (xs.length * 1)).take n := by rw [List.take_take]; congr 1; omega
    rw [this, q7, List.map_take]
theorem OwnN.v {base : Nat} {xs : List Int} {v : Value} {W : World} (h : OwnN .u8 5 base xs v W) : OwnV base xs v W := by
  rcases h.1.2 with ⟨h0, h1⟩ | ⟨g, c, cur, h1, h2, h3, h4, h5, h6, h7⟩
  · exact .inl ⟨h0, List.length_eq_zero_iff.1 h1⟩
  · exact .inr ⟨g, c, cur, h1, h2, h3, by omega, h4, h5, by simpa using h7⟩
theorem CopyN.own {base : Nat} {xs : List Int} {v : Value} {W : World} (h : CopyN 5 base xs v W) : OwnN .u8 5 base xs v W := by
  obtain ⟨g, c, rfl, h2⟩ := h
  have h3 := own_take h2 (n := xs.length) (by simp)
  rwa [List.take_left] at h3
theorem CopyN.base {a b : Nat} {xs : List Int} {v : Value} {W : World} (hab : a ≤ b) (h : CopyN 5 b xs v W) : CopyN 5 a xs v W := by
  obtain ⟨g, c, rfl, h2⟩ := h
  exact ⟨g, c, rfl, h2.base hab⟩
theorem CopyN.stable (base : Nat) (xs : List Int) : Stable Ext (CopyN 5 base xs) := fun _ _ _ hR h => h.ext hR
theorem copyG (n0 : Nat) (t : List Int) (v : Value) (B : Nat) (w : World) (hlen : t.length ≤ 900000000) (hr : RdK .u8 B t v w) (h0 : n0 ≤ w.heap.size) : Calls Tryd.prog 18 #[v] w (Gives w (CopyN 5 n0 t)) :=
  (copyC t v B w hlen hr).mono fun e W' h => by
    obtain ⟨u, h1, h2, h3⟩ := h
    exact ⟨u, h1, h2, h3.base h0⟩
theorem nil_bytes (W : World) : BytesAt W (.slice none 0 0) [] := (OwnN.rd (ownN_nil .u8 5 0 W)).bytes (fun x hx => by cases hx)
/-- blocks laid one after another differ -/
theorem own_apart {k k' : IntKind} {T T' : TypeId} {b b' : Nat} {xs ys : List Int} {u v : Value} {V W' : World} (hu : OwnN k T b xs u V) (hv : OwnN k' T' b' ys v W') (h : V.heap.size ≤ b') : v.ownBlock = u.ownBlock → v.ownBlock = none := fun e => by
  cases hb : v.ownBlock with
  | none => rfl
  | some g =>
    have h1 := hv.ge hb
    have h2 := hu.lt (e.symm.trans hb)
    omega
open Go.Proofs.YticjghmgbmjkiaaDoor.Ad in
theorem apart2 {base gl : Nat} {v0 v1 : Value} {l0 l1 : List Int} {w : World} (hbase : base ≤ w.heap.size) (hrow : w.heap[gl]? = some (.cells #[v0, v1] 24)) (h0 : OwnV base l0 v0 w) (h1 : OwnV base l1 v1 w)
    (n0 : l0.length ≤ 100000) (n1 : l1.length ≤ 100000) (d01 : v0.ownBlock = v1.ownBlock → v0.ownBlock = none) :
    Calls Tryd.prog 23 #[.slice (some ⟨gl, 0, none⟩) 2 2] w fun e w' => e = .returned (.bool true) ∧ Below base w w' := by
  refine apartC base gl 2 (fun i => if i = 0 then v0 else v1) (fun i => if i = 0 then l0.length else l1.length) _ w hbase hrow (fun i hi => ?_) (by omega) (fun i hi => ?_) (fun i hi => ?_) (fun i j hi hj hn he => ?_)
  · rcases (show i = 0 ∨ i = 1 by omega) with rfl | rfl <;> rfl
  · rcases (show i = 0 ∨ i = 1 by omega) with rfl | rfl
    · exact n0
    · exact n1
  · rcases (show i = 0 ∨ i = 1 by omega) with rfl | rfl
    · exact ⟨l0, rfl, h0⟩
    · exact ⟨l1, rfl, h1⟩
  · rcases (show i = 0 ∨ i = 1 by omega) with rfl | rfl <;> rcases (show j = 0 ∨ j = 1 by omega) with rfl | rfl
    · exact absurd rfl hn
    · exact d01 he
    · exact he.trans (d01 he.symm)
    · exact absurd rfl hn
open Go.Proofs.YticjghmgbmjkiaaDoor.Ad in
theorem apart3 {base gl : Nat} {v0 v1 v2 : Value} {l0 l1 l2 : List Int} {w : World} (hbase : base ≤ w.heap.size) (hrow : w.heap[gl]? = some (.cells #[v0, v1, v2] 24)) (h0 : OwnV base l0 v0 w) (h1 : OwnV base l1 v1 w) (h2 : OwnV base l2 v2 w)
    (n0 : l0.length ≤ 100000) (n1 : l1.length ≤ 100000) (n2 : l2.length ≤ 100000) (d01 : v0.ownBlock = v1.ownBlock → v0.ownBlock = none) (d02 : v0.ownBlock = v2.ownBlock → v0.ownBlock = none) (d12 : v1.ownBlock = v2.ownBlock → v1.ownBlock = none) :
    Calls Tryd.prog 23 #[.slice (some ⟨gl, 0, none⟩) 3 3] w fun e w' => e = .returned (.bool true) ∧ Below base w w' := by
  refine apartC base gl 3 (fun i => if i = 0 then v0 else if i = 1 then v1 else v2) (fun i => if i = 0 then l0.length else if i = 1 then l1.length else l2.length) _ w hbase hrow (fun i hi => ?_) (by omega) (fun i hi => ?_) (fun i hi => ?_) (fun i j hi hj hn he => ?_)
  · rcases (show i = 0 ∨ i = 1 ∨ i = 2 by omega) with rfl | rfl | rfl <;> rfl
  · rcases (show i = 0 ∨ i = 1 ∨ i = 2 by omega) with rfl | rfl | rfl
    · exact n0
    · exact n1
    · exact n2
  · rcases (show i = 0 ∨ i = 1 ∨ i = 2 by omega) with rfl | rfl | rfl
    · exact ⟨l0, rfl, h0⟩
    · exact ⟨l1, rfl, h1⟩
    · exact ⟨l2, rfl, h2⟩
  · rcases (show i = 0 ∨ i = 1 ∨ i = 2 by omega) with rfl | rfl | rfl <;> rcases (show j = 0 ∨ j = 1 ∨ j = 2 by omega) with rfl | rfl | rfl
    · exact absurd rfl hn
    · exact d01 he
    · exact d02 he
    · exact he.trans (d01 he.symm)
    · exact absurd rfl hn
    · exact d12 he
    · exact he.trans (d02 he.symm)
    · exact he.trans (d12 he.symm)
    · exact absurd rfl hn
open Go.Proofs.YticjghmgbmjkiaaDoor.Ad in
theorem apart4 {base gl : Nat} {v0 v1 v2 v3 : Value} {l0 l1 l2 l3 : List Int} {w : World} (hbase : base ≤ w.heap.size) (hrow : w.heap[gl]? = some (.cells #[v0, v1, v2, v3] 24)) (h0 : OwnV base l0 v0 w) (h1 : OwnV base l1 v1 w) (h2 : OwnV base l2 v2 w) (h3 : OwnV base l3 v3 w)
    (n0 : l0.length ≤ 100000) (n1 : l1.length ≤ 100000) (n2 : l2.length ≤ 100000) (n3 : l3.length ≤ 100000) (d01 : v0.ownBlock = v1.ownBlock → v0.ownBlock = none) (d02 : v0.ownBlock = v2.ownBlock → v0.ownBlock = none) (d03 : v0.ownBlock = v3.ownBlock → v0.ownBlock = none) (d12 : v1.ownBlock = v2.ownBlock → v1.ownBlock = none) (d13 : v1.ownBlock = v3.ownBlock → v1.ownBlock = none) (d23 : v2.ownBlock = v3.ownBlock → v2.ownBlock = none) :
    Calls Tryd.prog 23 #[.slice (some ⟨gl, 0, none⟩) 4 4] w fun e w' => e = .returned (.bool true) ∧ Below base w w' := by
  refine apartC base gl 4 (fun i => if i = 0 then v0 else if i = 1 then v1 else if i = 2 then v2 else v3) (fun i => if i = 0 then l0.length else if i = 1 then l1.length else if i = 2 then l2.length else l3.length) _ w hbase hrow (fun i hi => ?_) (by omega) (fun i hi => ?_) (fun i hi => ?_) (fun i j hi hj hn he => ?_)
  · rcases (show i = 0 ∨ i = 1 ∨ i = 2 ∨ i = 3 by omega) with rfl | rfl | rfl | rfl <;> rfl
  · rcases (show i = 0 ∨ i = 1 ∨ i = 2 ∨ i = 3 by omega) with rfl | rfl | rfl | rfl
    · exact n0
    · exact n1
    · exact n2
    · exact n3
  · rcases (show i = 0 ∨ i = 1 ∨ i = 2 ∨ i = 3 by omega) with rfl | rfl | rfl | rfl
    · exact ⟨l0, rfl, h0⟩
    · exact ⟨l1, rfl, h1⟩
    · exact ⟨l2, rfl, h2⟩
    · exact ⟨l3, rfl, h3⟩
  · rcases (show i = 0 ∨ i = 1 ∨ i = 2 ∨ i = 3 by omega) with rfl | rfl | rfl | rfl <;> rcases (show j = 0 ∨ j = 1 ∨ j = 2 ∨ j = 3 by omega) with rfl | rfl | rfl | rfl
    · exact absurd rfl hn
    · exact d01 he
    · exact d02 he
    · exact d03 he
    · exact he.trans (d01 he.symm)
    · exact absurd rfl hn
    · exact d12 he
    · exact d13 he
    · exact he.trans (d02 he.symm)
    · exact he.trans (d12 he.symm)
    · exact absurd rfl hn
    · exact d23 he
    · exact he.trans (d03 he.symm)
    · exact he.trans (d13 he.symm)
    · exact he.trans (d23 he.symm)
    · exact absurd rfl hn

end Go.Proofs.YticjghmgbmjkiaaDoor.Sha
