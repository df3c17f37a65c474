/- What a slice of bytes says: small facts about bytes, worlds that only grow, and frames. -/
import Derived.Test.YticjghmgbmjkiaaDoorRely
import Derived.WalkKit
import Derived.ProofKit
import Derived.OpenShut
import Derived.Handy
import Derived.Laws.BitsAll
import Derived.Laws.BytesArg
import Derived.BigQuiet
import Derived.Lib.Hide
import Derived.Lib.Strings
namespace Go.Proofs.YticjghmgbmjkiaaDoor.Rely
open Go Go.RowKit

theorem ext_drewN (W : World) (n : Nat) : Ext W (W.drewN n) := ⟨rfl, rfl, rfl, Nat.le_refl _, fun _ _ => rfl⟩
theorem ext_drew (W : World) : Ext W W.drew := ⟨rfl, rfl, rfl, Nat.le_refl _, fun _ _ => rfl⟩
theorem ext_alloc (W : World) (o : Obj) : Ext W (W.alloc o) := (Below.refl _ _).alloc (Nat.le_refl _) o

/-- element i -/
def nth (xs : List Int) (i : Nat) : Int := xs.getD i 0
/-- the numbers are bytes -/
def AreBytes (bs : List Int) : Prop := ∀ x ∈ bs, 0 ≤ x ∧ x ≤ 255
theorem AreBytes.nth {bs : List Int} (h : AreBytes bs) (i : Nat) : 0 ≤ nth bs i ∧ nth bs i ≤ 255 := by
  unfold Rely.nth
  rcases Nat.lt_or_ge i bs.length with hi | hi
  · rw [List.getD_eq_getElem?_getD, List.getElem?_eq_getElem hi]; exact h _ (List.getElem_mem hi)
  · rw [List.getD_eq_getElem?_getD, List.getElem?_eq_none hi]; decide
/-- the slice's elements, one cell each -/
def CellsAt (w : World) (k : IntKind) (a : Option Addr) (n : Nat) (bs : List Int) : Prop :=
  n = 0 ∨ ∃ b off, a = some ⟨b, off, none⟩ ∧ b < w.heap.size ∧ ∀ i, i < n → w.cell? ⟨b, off + i, none⟩ = some (.int k (nth bs i))
theorem CellsAt.ext {w w' : World} {k : IntKind} {a : Option Addr} {n : Nat} {bs : List Int} (h : CellsAt w k a n bs) (e : Ext w w') : CellsAt w' k a n bs := by
  refine h.imp id ?_
  rintro ⟨b, off, ha, hlt, hc⟩
  exact ⟨b, off, ha, Nat.lt_of_lt_of_le hlt e.size, fun i hi => by rw [e.cell hlt]; exact hc i hi⟩
/-- a value that is a slice with these bytes -/
def BytesAt (w : World) (v : Value) (bs : List Int) : Prop :=
  ∃ a cap, v = .slice a bs.length cap ∧ bs.length ≤ maxLen ∧ AreBytes bs ∧ CellsAt w .u8 a bs.length bs
theorem BytesAt.ext {w w' : World} {v : Value} {bs : List Int} (h : BytesAt w v bs) (k : Ext w w') : BytesAt w' v bs := by
  obtain ⟨a, cap, hv, hl, hb, h⟩ := h
  exact ⟨a, cap, hv, hl, hb, h.ext k⟩
theorem bytes_stable (bs : List Int) : Stable Ext (fun v W => BytesAt W v bs) := fun _ _ _ hR h => h.ext hR

/-- how an argument reads -/
def IsRow (k : IntKind) (w : World) (a : Option Addr) (len cap : Nat) (zs : List Int) : Prop :=
  (a = none ∧ len = 0 ∧ cap = 0 ∧ zs = []) ∨
  ∃ x, a = some x ∧ len ≤ cap ∧ cap ≤ maxLen ∧ zs.length = cap ∧ (∀ i, i < zs.length → w.cell? (x.add i) = some (.int k (zs.getD i 0))) ∧ ∀ n ∈ zs, (Lit.int k n).wf = true

theorem lt_of_cell {w : World} {b o : Nat} {v : Value} (h : w.cell? ⟨b, o, none⟩ = some v) : b < w.heap.size := by
  rcases Nat.lt_or_ge b w.heap.size with h' | h'
  · exact h'
  · simp [World.cell?, Array.getElem?_eq_none h'] at h

theorem bytes_of_row {w : World} {a : Option Addr} {len cap : Nat} {zs : List Int} (h : IsRow .u8 w a len cap zs) : BytesAt w (.slice a len cap) (zs.take len) ∧ (zs.take len).length = len := by
  rcases h with ⟨rfl, rfl, rfl, rfl⟩ | ⟨x, rfl, hl, hm, hz, hc, hw⟩
  · exact ⟨⟨_, _, rfl, by simp, fun x hx => by simp at hx, .inl rfl⟩, rfl⟩
  · have hlen : (zs.take len).length = len := by simp; omega
    refine ⟨⟨_, _, by rw [hlen], by rw [hlen]; omega, fun n hn => ?_, ?_⟩, hlen⟩
    · have := hw n (List.mem_of_mem_take hn)
      simpa [Lit.wf, IntKind.min, IntKind.max, IntKind.signed, IntKind.bits] using this
    · rw [hlen]
      rcases Nat.eq_zero_or_pos len with h0 | h0
      · exact .inl h0
      · obtain ⟨b, off, spot⟩ := x
        have hc0 := hc 0 (by omega)
        have hspot : spot = none := by simpa [Addr.add] using World.cell?_spot hc0
        subst hspot
        have hc' : ∀ i, i < zs.length → w.cell? ⟨b, off + i, none⟩ = some (.int .u8 (zs.getD i 0)) := fun i hi => by
          have := hc i hi; rwa [WideShapes.add_plain] at this
        refine .inr ⟨b, off, rfl, lt_of_cell (hc' 0 (by omega)), fun i hi => ?_⟩
        rw [hc' i (by omega)]
        simp [nth, hi]

/-- the bytes as a text -/
def strOf (bs : List Int) : ByteArray := ⟨(bs.map fun n => UInt8.ofNat n.toNat).toArray⟩
theorem strOf_inj {xs ys : List Int} (hx : AreBytes xs) (hy : AreBytes ys) (h : strOf xs = strOf ys) : xs = ys := by
  have h' : xs.map (fun n => UInt8.ofNat n.toNat) = ys.map fun n => UInt8.ofNat n.toNat := by
    unfold strOf at h
    have := congrArg (fun b : ByteArray => b.data.toList) h
    simpa using this
  clear h
  induction xs generalizing ys with
  | nil => cases ys with | nil => rfl | cons y ys => simp at h'
  | cons x xs ih =>
    cases ys with
    | nil => simp at h'
    | cons y ys =>
      simp only [List.map_cons, List.cons.injEq] at h'
      have h1 := hx x List.mem_cons_self
      have h2 := hy y List.mem_cons_self
      have e : x.toNat = y.toNat := by
        have := congrArg UInt8.toNat h'.1
        simp only [UInt8.toNat_ofNat'] at this
        omega
      rw [ih (fun z hz => hx z (List.mem_cons_of_mem _ hz)) (fun z hz => hy z (List.mem_cons_of_mem _ hz)) h'.2]
      congr 1
      omega
theorem strOf_eq {xs ys : List Int} (hx : AreBytes xs) (hy : AreBytes ys) : (strOf xs = strOf ys) ↔ xs = ys := ⟨strOf_inj hx hy, fun h => by rw [h]⟩

theorem strOf_beq {xs ys : List Int} (hx : AreBytes xs) (hy : AreBytes ys) : ((strOf xs).toList == (strOf ys).toList) = decide (xs = ys) := by
  rw [Bool.eq_iff_iff, beq_iff_eq, decide_eq_true_eq, Lib.toList_data, Lib.toList_data]
  constructor
  · intro h
    exact strOf_inj hx hy (congrArg (fun l : List UInt8 => (⟨l.toArray⟩ : ByteArray)) h)
  · intro h; rw [h]

/-- bytes turned into a text, at types 'src' (a slice of 'e') and 'dst' (a string) -/
theorem conv_bytes {P : Program} {src e dst : TypeId} (hs : P.underlying src = some (.slice e)) (he : P.underlying e = some (.int .u8)) (hd : P.underlying dst = some .string) {x : Value} {xs : List Int} {W : World} (hx : BytesAt W x xs) :
    (convert src dst x).run P W = .ok (.string (strOf xs)) W := by
  obtain ⟨a, cap, rfl, hl, hb, h⟩ := hx
  rcases h with h | ⟨b, off, rfl, hlt, hc⟩
  · have : xs = [] := List.eq_nil_of_length_eq_zero h
    subst this
    cases a with
    | none => exact run_convert_bytes_nil W src e hs he _ _ dst hd
    | some a =>
      rw [run_convert_bytes_string W src dst e _ _ _ hs he hd]
      simp [Conv.bytesToString, strOf]
      rfl
  · have := run_convert_bytes_arg W src e hs he b off xs.length cap xs rfl (fun i hi => hc i hi) dst hd
    rw [this]
    rfl
end Go.Proofs.YticjghmgbmjkiaaDoor.Rely
