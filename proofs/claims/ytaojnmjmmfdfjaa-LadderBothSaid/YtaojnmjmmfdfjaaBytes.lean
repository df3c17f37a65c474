/- What a slice of bytes says: small facts about bytes, worlds that only grow, and frames. -/
import Derived.Test.YtaojnmjmmfdfjaaRely
import Derived.WalkKit
import Derived.ProofKit
import Derived.OpenShut
import Derived.Handy
import Derived.Laws.BitsAll
import Derived.Laws.BytesArg
import Derived.BigQuiet
import Derived.Lib.Hide
import Derived.Lib.Strings
namespace Go.Proofs.Ytaojnmjmmfdfjaa.Rely
set_option linter.unusedVariables false
open Go Go.RowKit

theorem ext_drewN (W : World) (n : Nat) : Ext W (W.drewN n) := ⟨rfl, rfl, rfl, Nat.le_refl _, fun _ _ => rfl⟩
theorem ext_drew (W : World) : Ext W W.drew := ⟨rfl, rfl, rfl, Nat.le_refl _, fun _ _ => rfl⟩
theorem ext_alloc (W : World) (o : Obj) : Ext W (W.alloc o) := (Below.refl _ _).alloc (Nat.le_refl _) o

/-- element i -/
def nth (xs : List Int) (i : Nat) : Int := xs.getD i 0
/-- the numbers are bytes -/
def AreBytes (bs : List Int) : Prop := ∀ x ∈ bs, 0 ≤ x ∧ x ≤ 255
theorem AreBytes.nth {bs : List Int} (h : AreBytes bs) (i : Nat) : 0 ≤ nth bs i ∧ nth bs i ≤ 255 := by
  unfold Rely.nth
  rcases Nat.lt_or_ge i bs.length with hi | hi
  · rw [List.getD_eq_getElem?_getD, List.getElem?_eq_getElem hi]; exact h _ (List.getElem_mem hi)
  · rw [List.getD_eq_getElem?_getD, List.getElem?_eq_none hi]; decide
/-- the slice's elements, one cell each -/
def CellsAt (w : World) (k : IntKind) (a : Option Addr) (n : Nat) (bs : List Int) : Prop :=
  n = 0 ∨ ∃ b off, a = some ⟨b, off, none⟩ ∧ b < w.heap.size ∧ ∀ i, i < n → w.cell? ⟨b, off + i, none⟩ = some (.int k (nth bs i))
theorem CellsAt.ext {w w' : World} {k : IntKind} {a : Option Addr} {n : Nat} {bs : List Int} (h : CellsAt w k a n bs) (e : Ext w w') : CellsAt w' k a n bs := by
  refine h.imp id ?_
  rintro ⟨b, off, ha, hlt, hc⟩
  exact ⟨b, off, ha, Nat.lt_of_lt_of_le hlt e.size, fun i hi => by rw [e.cell hlt]; exact hc i hi⟩
/-- a value that is a slice with these bytes -/
def BytesAt (w : World) (v : Value) (bs : List Int) : Prop :=
  ∃ a cap, v = .slice a bs.length cap ∧ bs.length ≤ maxLen ∧ AreBytes bs ∧ CellsAt w .u8 a bs.length bs
theorem BytesAt.ext {w w' : World} {v : Value} {bs : List Int} (h : BytesAt w v bs) (k : Ext w w') : BytesAt w' v bs := by
  obtain ⟨a, cap, hv, hl, hb, h⟩ := h
  exact ⟨a, cap, hv, hl, hb, h.ext k⟩
theorem bytes_stable (bs : List Int) : Stable Ext (fun v W => BytesAt W v bs) := fun _ _ _ hR h => h.ext hR

/-- how an argument reads -/
def IsRow (k : IntKind) (w : World) (a : Option Addr) (len cap : Nat) (zs : List Int) : Prop :=
  (a = none ∧ len = 0 ∧ cap = 0 ∧ zs = []) ∨
  ∃ x, a = some x ∧ len ≤ cap ∧ cap ≤ maxLen ∧ zs.length = cap ∧ (∀ i, i < zs.length → w.cell? (x.add i) = some (.int k (zs.getD i 0))) ∧ ∀ n ∈ zs, (Lit.int k n).wf = true

theorem lt_of_cell {w : World} {b o : Nat} {v : Value} (h : w.cell? ⟨b, o, none⟩ = some v) : b < w.heap.size := by
  rcases Nat.lt_or_ge b w.heap.size with h' | h'
  · exact h'
  · simp [World.cell?, Array.getElem?_eq_none h'] at h

theorem bytes_of_row {w : World} {a : Option Addr} {len cap : Nat} {zs : List Int} (h : IsRow .u8 w a len cap zs) : BytesAt w (.slice a len cap) (zs.take len) ∧ (zs.take len).length = len := by
  rcases h with ⟨rfl, rfl, rfl, rfl⟩ | ⟨x, rfl, hl, hm, hz, hc, hw⟩
  · exact ⟨⟨_, _, rfl, by simp, fun x hx => by simp at hx, .inl rfl⟩, rfl⟩
  · have hlen : (zs.take len).length = len := by simp; omega
    refine ⟨⟨_, _, by rw [hlen], by rw [hlen]; omega, fun n hn => ?_, ?_⟩, hlen⟩
    · have := hw n (List.mem_of_mem_take hn)
      simpa [Lit.wf, IntKind.min, IntKind.max, IntKind.signed, IntKind.bits] using this
    · rw [hlen]
      rcases Nat.eq_zero_or_pos len with h0 | h0
      · exact .inl h0
      · obtain ⟨b, off, spot⟩ := x
        have hc0 := hc 0 (by omega)
        have hspot : spot = none := by simpa [Addr.add] using World.cell?_spot hc0
        subst hspot
        have hc' : ∀ i, i < zs.length → w.cell? ⟨b, off + i, none⟩ = some (.int .u8 (zs.getD i 0)) := fun i hi => by
          have := hc i hi; rwa [WideShapes.add_plain] at this
        refine .inr ⟨b, off, rfl, lt_of_cell (hc' 0 (by omega)), fun i hi => ?_⟩
        rw [hc' i (by omega)]
        simp [nth, hi]

/-- the bytes as a text -/
def strOf (bs : List Int) : ByteArray := ⟨(bs.map fun n => UInt8.ofNat n.toNat).toArray⟩
theorem strOf_inj {xs ys : List Int} (hx : AreBytes xs) (hy : AreBytes ys) (h : strOf xs = strOf ys) : xs = ys := by
  have h' : xs.map (fun n => UInt8.ofNat n.toNat) = ys.map fun n => UInt8.ofNat n.toNat := by
    unfold strOf at h
    have := congrArg (fun b : ByteArray => b.data.toList) h
    simpa using this
  clear h
  induction xs generalizing ys with
  | nil => cases ys with | nil => rfl | cons y ys => simp at h'
  | cons x xs ih =>
    cases ys with
    | nil => simp at h'
    | cons y ys =>
      simp only [List.map_cons, List.cons.injEq] at h'
      have h1 := hx x List.mem_cons_self
      have h2 := hy y List.mem_cons_self
      have e : x.toNat = y.toNat := by
        have := congrArg UInt8.toNat h'.1
        simp only [UInt8.toNat_ofNat'] at this
        omega
      rw [ih (fun z hz => hx z (List.mem_cons_of_mem _ hz)) (fun z hz => hy z (List.mem_cons_of_mem _ hz)) h'.2]
      congr 1
      omega
theorem strOf_eq {xs ys : List Int} (hx : AreBytes xs) (hy : AreBytes ys) : (strOf xs = strOf ys) ↔ xs = ys := ⟨strOf_inj hx hy, fun h => by rw [h]⟩

theorem strOf_beq {xs ys : List Int} (hx : AreBytes xs) (hy : AreBytes ys) : ((strOf xs).toList == (strOf ys).toList) = decide (xs = ys) := by
  rw [Bool.eq_iff_iff, beq_iff_eq, decide_eq_true_eq, Lib.toList_data, Lib.toList_data]
  constructor
  · intro h
    exact strOf_inj hx hy (congrArg (fun l : List UInt8 => (⟨l.toArray⟩ : ByteArray)) h)
  · intro h; rw [h]

/-- bytes turned into a text, at types 'src' (a slice of 'e') and 'dst' (a string) -/
theorem conv_bytes {P : Program} {src e dst : TypeId} (hs : P.underlying src = some (.slice e)) (he : P.underlying e = some (.int .u8)) (hd : P.underlying dst = some .string) {x : Value} {xs : List Int} {W : World} (hx : BytesAt W x xs) :
    (convert src dst x).run P W = .ok (.string (strOf xs)) W := by
  obtain ⟨a, cap, rfl, hl, hb, h⟩ := hx
  rcases h with h | ⟨b, off, rfl, hlt, hc⟩
  · have : xs = [] := List.eq_nil_of_length_eq_zero h
    subst this
    cases a with
    | none => exact run_convert_bytes_nil W src e hs he _ _ dst hd
    | some a =>
      rw [run_convert_bytes_string W src dst e _ _ _ hs he hd]
      simp [Conv.bytesToString, strOf]
      rfl
  · have := run_convert_bytes_arg W src e hs he b off xs.length cap xs rfl (fun i hi => hc i hi) dst hd
    rw [this]
    rfl

/-- the cells of an array of bytes -/
def arr8 (xs : List Int) : Array Value := (xs.map (Value.int .u8)).toArray
/-- an array of bytes that came in by value -/
theorem open_arr {H : Type} {enc : TypeId × Value → H} {P : Program} {W w : World} {r : Reach} {base b0 n : Nat} {sp : Nat → Bool} {held : Bool} {t e : TypeId} {v : Value} {d : DataW H} {ps : List MemPlace} (ht : P.underlying t = some (.array n e)) (he : P.underlying e = some (.int .u8)) (hce : P.cellsOf e = 1) (hct : P.cellsOf t = n)
    (hv : Value.okWide P W r base t v) (h : DataW.Trod enc P w b0 sp held t v d ps) : ∃ xs : List Int, v = .agg (arr8 xs) ∧ xs.length = n ∧ AreBytes xs := by
  unfold Value.okWide at hv
  rw [ht] at hv
  obtain ⟨cs, rfl, hsz, -⟩ := hv
  obtain ⟨fuel, hf⟩ := h
  obtain ⟨xs, m, -, -, hl, hn, hx⟩ := DataW.trod_array ht hf
  have hcs : cs.toList.length = n := by simpa [Value.cells, hct] using hl
  have each : ∀ i, i < n → ∃ z : Int, cs.toList[i]? = some (.int .u8 z) ∧ (0 ≤ z ∧ z ≤ 255) := by
    intro i hi
    have h1 := hx i hi
    rw [hce, Nat.mul_one] at h1
    have hlt : i < cs.toList.length := by omega
    have h2 : cs.toList.drop i = cs.toList[i] :: cs.toList.drop (i + 1) := List.drop_eq_getElem_cons hlt
    have h1 : DataW.trod enc P w b0 sp held m e ((cs.toList.drop i).take 1) = xs[i]? := h1
    rw [h2] at h1
    simp only [List.take_succ_cons, List.take_zero] at h1
    obtain ⟨y, hy⟩ : ∃ y, xs[i]? = some y := ⟨xs[i], by simp [hn, hi]⟩
    rw [hy] at h1
    obtain ⟨z, hc, -, hw⟩ := DataW.trod_int he h1
    refine ⟨z, ?_, ?_⟩
    · rw [List.getElem?_eq_getElem hlt]
      simp only [List.cons.injEq] at hc
      rw [hc.1]
    · simpa [Lit.wf, IntKind.min, IntKind.max, IntKind.signed, IntKind.bits] using hw
  have all : ∀ (l : List Value), (∀ i, i < l.length → ∃ z : Int, l[i]? = some (.int .u8 z) ∧ (0 ≤ z ∧ z ≤ 255)) → ∃ zs : List Int, l = zs.map (Value.int .u8) ∧ AreBytes zs := by
    intro l
    induction l with
    | nil => exact fun _ => ⟨[], rfl, fun x hx => by simp at hx⟩
    | cons a l ih =>
      intro h
      obtain ⟨zs, h1, h2⟩ := ih fun i hi => by simpa using h (i + 1) (by simp; omega)
      obtain ⟨z, h3, h4⟩ := h 0 (by simp)
      simp only [List.getElem?_cons_zero, Option.some.injEq] at h3
      refine ⟨z :: zs, by rw [h3, h1]; rfl, fun x hx => ?_⟩
      rcases List.mem_cons.1 hx with rfl | hx
      · exact h4
      · exact h2 x hx
  obtain ⟨zs, h1, h2⟩ := all cs.toList fun i hi => each i (by omega)
  refine ⟨zs, ?_, by rw [← hcs, h1]; simp, h2⟩
  unfold arr8
  rw [← h1]
end Go.Proofs.Ytaojnmjmmfdfjaa.Rely
