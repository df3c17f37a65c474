/- Texts of this claim, joined (H0). -/
import Derived.Still
import Derived.StillTail
import Derived.Tactics
import Derived.Tactics2
import Derived.KernelRfl
import Derived.Below
import Derived.Laws.NewBlocks
import Derived.WalkKit
import Derived.ProofKit
import Derived.OpenShut
import Derived.Handy
import Derived.Laws.BitsAll
import Derived.Laws.BytesArg
import Derived.BigQuiet
import Derived.Lib.Hide
import Derived.Lib.Strings
import Derived.ChangeKeysEq
import Derived.Laws.Rows
import Derived.Laws.Tables
import Derived.RangeFuncNested
import Derived.RangeFuncBound
import Derived.RangeFuncCalls
import Derived.RangeFuncLeaves
import Derived.RangeFuncFrom
import Derived.Shelf.Abstract
import Derived.Shelf.RegionOpen
import Derived.OwnWalkIn
import Derived.TacticsInMore
import Derived.LoopNIn
import Derived.LoopIn
import Derived.MapKept
import Derived.Laws.ResultCell
import Derived.IntWalk
import Derived.Laws.MakeOwn
import Derived.LoopN
import Derived.Great.BuildSlice
import Derived.Maps.AppendAt
import Derived.ArgAppend
import Derived.Test.YtfelfmchachljaaProg
import Derived.Laws.CopyRow
import Derived.Laws.IdiomCopy
import Derived.Laws.OwnMore
import Derived.Lib.AppendZeros
import Derived.Scope

section
section
namespace Go.Proofs.Ytfelfmchachljaa.Rely
set_option linter.unusedVariables false
open Go
theorem kj {p : Prop} (h : p := by kernel_rfl) : p := h
def Qit (acc : Array Nat) (o : Oper) : Nat :=
  o.after.toList.foldl (fun s e => if Region.binds .any e then s ||| 2 ^ e.on ||| acc.getD e.on 0 else s) 0
def masks : List Oper → Array Nat → Array Nat
  | [], acc => acc
  | o :: l, acc => masks l (acc.push (Qit acc o))
def QgJ (ops : Array Oper) (listed : Array Bool) : Prop :=
  ∀ j o, ops[j]? = some o → listed.getD j false = true → ∀ e ∈ o.after, Region.binds .any e = true → listed.getD e.on false = true
abbrev Fact := Value → World → Prop
structure Src where
  guard : Option (Tmp × Bool)
  reads : List (Tmp × Option Nat)
def QdI (ops : Array Oper) (o : Oper) : Option (Option (Tmp × Bool)) :=
  match o.guard with
  | none => some none
  | some (j, b) => match (ops[j]?).bind (·.dst) with | some d => some (some (d, b)) | none => none
def QhN (l : List Oper) (M : Array Nat) (j : Nat) : Tmp × Option Nat → Bool
  | (t, some i) => decide (i < j) && (M.getD j 0).testBit i && ((l[i]?).bind (·.dst) == some t)
  | (t, none) => l.zipIdx.all fun (o, i) => o.dst != some t || (M.getD i 0).testBit j || i == j
def Qil (l : List Oper) (M : Array Nat) (j : Nat) (o : Oper) (s : Src) : Bool :=
  (QdI l.toArray o == some s.guard) && s.reads.all (QhN l M j)
def Qg6 (l : List Oper) (M : Array Nat) : Nat → List Oper → List Src → Bool
  | j, o :: os, s :: ss => Qil l M j o s && Qg6 l M (j + 1) os ss
  | _, [], [] => true
  | _, _, _ => false
def QgG (N : Nat) : List Oper → Bool
  | [] => true
  | o :: l => (match o.dst with | some d => decide (d < N) && l.all (·.dst != some d) | none => true) && QgG N l
def QfN : Nat → List Oper → Bool
  | _, [] => true
  | j, o :: l => o.after.toList.all (fun e => !Region.binds .any e || decide (e.on < j)) && QfN (j + 1) l
def QhD (M : Array Nat) (n len : Nat) : Bool :=
  (List.range len).all fun j => decide (j < n) || (List.range j).all fun i => (M.getD j 0).testBit i
def ok (l : List Oper) (n N : Nat) (S : List Src) : Bool :=
  let M := masks l #[]
  decide (n ≤ l.length) && Qg6 l M 0 (l.take n) S && QgG N (l.take n) && QfN 0 l && QhD M n l.length &&
  (l.drop n).all (fun o => match o.dst with | some d => (l.take n).all (·.dst != some d) | none => true)
def isB (b : Bool) : Value → Bool
  | .bool c => c == b
  | _ => false
def QfV (R : World → World → Prop) (W : World) (φ : Fact) (e : Ending) (W' : World) : Prop := ∃ v, e = .returned v ∧ R W W' ∧ φ v W'
def QeL (P : Program) (R : World → World → Prop) (W : World) (φ : Fact) : Result Next → Prop
  | .ok (.value v) W' => R W W' ∧ φ v W'
  | .ok .skip W' => R W W' ∧ φ undef W'
  | .ok (.enter f args) W' => R W W' ∧ Calls P f args W' (QfV R W' φ)
  | _ => False
def look (ρ : Tmp → Value) : Operand → Value
  | .tmp t => ρ t
  | .const v => v
  | .global g => .pointer (some ⟨g, 0, none⟩)
  | .func f => .func (.func f) #[] #[]
@[go_sem] theorem Qij (ρ : Tmp → Value) (t : Tmp) : look ρ (.tmp t) = ρ t := rfl
@[go_sem] theorem QhB (ρ : Tmp → Value) (v : Value) : look ρ (.const v) = v := rfl
@[go_sem] theorem Qhq (ρ : Tmp → Value) (g : Nat) : look ρ (.global g) = .pointer (some ⟨g, 0, none⟩) := rfl
@[go_sem] theorem QhV (ρ : Tmp → Value) (f : FuncId) : look ρ (.func f) = .func (.func f) #[] #[] := rfl
attribute [go_sem] QeL
def slots (a : Act) : Tmp → Value := fun t => a.tmps.getD t undef
theorem QfM (a : Act) : a.eval = look (slots a) := funext fun x => by cases x <;> rfl
def QhM (P : Program) (R : World → World → Prop) (o : Oper) (ρ : Tmp → Value) (W : World) (φ : Fact) : Prop :=
  QeL P R W φ ((execOp (look ρ) o).run P W)
def Qeo (r0 : Tmp → Value) (E : List Fact) (ρ : Tmp → Value) (W : World) : List (Tmp × Option Nat) → Prop
  | [] => True
  | (t, none) :: r => ρ t = r0 t ∧ Qeo r0 E ρ W r
  | (t, some i) :: r => (E.getD i fun _ _ => True) (ρ t) W ∧ Qeo r0 E ρ W r
def gOk (g : Option (Tmp × Bool)) (ρ : Tmp → Value) : Bool :=
  match g with
  | none => true
  | some (d, b) => isB b (ρ d)
def guarded (g : Option (Tmp × Bool)) (ρ : Tmp → Value) (p q : Prop) : Prop :=
  match g with
  | none => p
  | some (d, b) => if isB b (ρ d) = true then p else q
def opOk (P : Program) (R : World → World → Prop) (w0 : World) (r0 : Tmp → Value) (E : List Fact) (o : Oper) (s : Src) (φ : Fact) : Prop :=
  ∀ (ρ : Tmp → Value) (W : World), R w0 W → Qeo r0 E ρ W s.reads → guarded s.guard ρ (QhM P R o ρ W φ) (φ undef W)
def Qih (R : World → World → Prop) (φ : Fact) : Prop := ∀ v W W', R W W' → φ v W → φ v W'
def fin (Q : Act → World → Prop) : List Oper → List Fact → Act → World → Prop
  | o :: l, φ :: E, a, W => ∀ v, φ v W → fin Q l E (a.put o.dst v) W
  | _, _, a, W => Q a W
section
variable {P : Program} {R : World → World → Prop} {w0 : World} {r0 : Tmp → Value} {F : List Fact → Prop} {o : Oper} {os : List Oper} {s : Src} {ss : List Src} {E : List Fact}
def Ext (W W' : World) : Prop := RowKit.Below W.heap.size W W'
theorem Ext.refl (W : World) : Ext W W := RowKit.Below.refl _ _
def Ret (W : World) (v : Value) (e : Ending) (W' : World) : Prop := e = .returned v ∧ Ext W W'
theorem Ret.const {W W' : World} {v : Value} {e : Ending} (h : Ret W v e W') : QfV Ext W (fun u _ => u = v) e W' := ⟨v, h.1, h.2, rfl⟩
def QcD (W : World) (φ : Fact) (e : Ending) (W' : World) : Prop := ∃ v, e = .returned v ∧ Ext W W' ∧ φ v W'
theorem QcD.fact {W W' : World} {φ : Fact} {e : Ending} (h : QcD W φ e W') : QfV Ext W φ e W' := h
theorem Ext.trans {a b c : World} (h : Ext a b) (k : Ext b c) : Ext a c := RowKit.Below.trans h (RowKit.Below.mono k h.size)
end
section
variable {P : Program} {R : World → World → Prop} {w0 : World} {r0 : Tmp → Value}
theorem Qeo.congr {E E' : List Fact} {a : Tmp → Value} {W : World} {n : Nat} (hE : ∀ i, i < n → E.getD i (fun _ _ => True) = E'.getD i (fun _ _ => True)) :
    ∀ (r : List (Tmp × Option Nat)), (∀ x ∈ r, ∀ i, x.2 = some i → i < n) → Qeo r0 E a W r → Qeo r0 E' a W r
  | [], _, _ => trivial
  | (t, none) :: r, hr, h => ⟨h.1, Qeo.congr hE r (fun x hx => hr x (List.mem_cons_of_mem _ hx)) h.2⟩
  | (t, some i) :: r, hr, h => by
    refine ⟨?_, Qeo.congr hE r (fun x hx => hr x (List.mem_cons_of_mem _ hx)) h.2⟩
    have h1 := h.1
    rw [hE i (hr (t, some i) List.mem_cons_self i rfl)] at h1
    exact h1
variable {a0 : Act}
structure Inv (R : World → World → Prop) (w0 : World) (a0 : Act) (ops : Array Oper) (E : List Fact) (n : Nat) (listed : Array Bool) (a : Act) (W : World) (vs : Nat → Value) : Prop where
  size : listed.size = ops.size
  closed : QgJ ops listed
  rel : R w0 W
  defers : a.defers = a0.defers
  asize : a.tmps.size = a0.tmps.size
  facts : ∀ i, listed.getD i false = true → i < n → (E.getD i fun _ _ => True) (vs i) W
  vals : ∀ i o d, listed.getD i false = true → i < n → ops[i]? = some o → o.dst = some d → a.tmps[d]? = some (vs i)
  rest : ∀ t, (∀ i o, listed.getD i false = true → i < n → ops[i]? = some o → o.dst ≠ some t) → a.tmps[t]? = a0.tmps[t]?
  tail : ∀ i, n ≤ i → listed.getD i false = false
def left (ops : Array Oper) (listed : Array Bool) : Nat := (List.range ops.size).countP fun i => !listed.getD i true
theorem QdV {ops : Array Oper} {o : Oper} {a : Act} {g : Option (Tmp × Bool)} (hg : QdI ops o = some g) :
    Region.wanted o (yielded ops a.tmps) = gOk g (slots a) := by
  unfold gOk
  unfold QdI at hg
  unfold Region.wanted
  cases hgo : o.guard with
  | none =>
    simp only [hgo, Option.some.injEq] at hg
    subst hg; rfl
  | some jb =>
    obtain ⟨j, b⟩ := jb
    simp only [hgo] at hg
    cases hd : (ops[j]?).bind (·.dst) with
    | none => simp only [hd] at hg; cases hg
    | some d =>
      simp only [hd, Option.some.injEq] at hg
      subst hg
      simp only [yielded, hd, Option.bind_some, slots]
      cases ht : a.tmps[d]? with
      | none => simp [ht, undef, isB]
      | some v =>
        cases v <;> simp [ht, isB]
end
theorem put_defers (a : Act) (d : Option Tmp) (v : Value) : (a.put d v).defers = a.defers := by cases d <;> rfl
section
variable {P : Program} {R : World → World → Prop} {w0 : World} {a0 : Act}
def Qii {P : Program} {R : World → World → Prop} {Q : Exit → Act → World → Prop} {a : Act} {w : World} {l : List Oper} {n : Nat} (F : List Fact → Prop) : Prop :=
  ∀ E, (∀ W, R w.drew W → fin (fun a W => wpList P l.toArray Q (l.drop n) a W) (l.take n) E a W) → F E
theorem Qii.out {P : Program} {R : World → World → Prop} {Q : Exit → Act → World → Prop} {a : Act} {w : World} {l : List Oper} {n : Nat} {F : List Fact → Prop} (h : Qii (P := P) (R := R) (Q := Q) (a := a) (w := w) (l := l) (n := n) F) {E : List Fact}
    (k : ∀ W, R w.drew W → fin (fun a W => wpList P l.toArray Q (l.drop n) a W) (l.take n) E a W) : F E := h E k
end
end Go.Proofs.Ytfelfmchachljaa.Rely
end
section
namespace Go.Proofs.Ytfelfmchachljaa.Rely
set_option linter.unusedVariables false
open Go Go.RowKit
theorem QeW (W : World) : Ext W W.drew := ⟨rfl, rfl, rfl, Nat.le_refl _, fun _ _ => rfl⟩
theorem Qde (W : World) (o : Obj) : Ext W (W.alloc o) := (Below.refl _ _).alloc (Nat.le_refl _) o
def nth (xs : List Int) (i : Nat) : Int := xs.getD i 0
def Qao (bs : List Int) : Prop := ∀ x ∈ bs, 0 ≤ x ∧ x ≤ 255
theorem Qao.nth {bs : List Int} (h : Qao bs) (i : Nat) : 0 ≤ nth bs i ∧ nth bs i ≤ 255 := by
  unfold Rely.nth
  rcases Nat.lt_or_ge i bs.length with hi | hi
  · rw [List.getD_eq_getElem?_getD, List.getElem?_eq_getElem hi]; exact h _ (List.getElem_mem hi)
  · rw [List.getD_eq_getElem?_getD, List.getElem?_eq_none hi]; decide
def QdU (w : World) (k : IntKind) (a : Option Addr) (n : Nat) (bs : List Int) : Prop :=
  n = 0 ∨ ∃ b off, a = some ⟨b, off, none⟩ ∧ b < w.heap.size ∧ ∀ i, i < n → w.cell? ⟨b, off + i, none⟩ = some (.int k (nth bs i))
theorem QdU.ext {w w' : World} {k : IntKind} {a : Option Addr} {n : Nat} {bs : List Int} (h : QdU w k a n bs) (e : Ext w w') : QdU w' k a n bs := by
  refine h.imp id ?_
  rintro ⟨b, off, ha, hlt, hc⟩
  exact ⟨b, off, ha, Nat.lt_of_lt_of_le hlt e.size, fun i hi => by rw [e.cell hlt]; exact hc i hi⟩
def Qdj (w : World) (v : Value) (bs : List Int) : Prop :=
  ∃ a cap, v = .slice a bs.length cap ∧ bs.length ≤ maxLen ∧ Qao bs ∧ QdU w .u8 a bs.length bs
theorem Qdj.ext {w w' : World} {v : Value} {bs : List Int} (h : Qdj w v bs) (k : Ext w w') : Qdj w' v bs := by
  obtain ⟨a, cap, hv, hl, hb, h⟩ := h
  exact ⟨a, cap, hv, hl, hb, h.ext k⟩
def QhA (k : IntKind) (w : World) (a : Option Addr) (len cap : Nat) (zs : List Int) : Prop :=
  (a = none ∧ len = 0 ∧ cap = 0 ∧ zs = []) ∨
  ∃ x, a = some x ∧ len ≤ cap ∧ cap ≤ maxLen ∧ zs.length = cap ∧ (∀ i, i < zs.length → w.cell? (x.add i) = some (.int k (zs.getD i 0))) ∧ ∀ n ∈ zs, (Lit.int k n).wf = true
theorem Qdu {w : World} {b o : Nat} {v : Value} (h : w.cell? ⟨b, o, none⟩ = some v) : b < w.heap.size := by
  rcases Nat.lt_or_ge b w.heap.size with h' | h'
  · exact h'
  · simp [World.cell?, Array.getElem?_eq_none h'] at h
end Go.Proofs.Ytfelfmchachljaa.Rely
end
section
namespace Go.Proofs.Ytfelfmchachljaa.Rely
open Go Go.RowKit
def ints (k : IntKind) (xs : List Int) : Array Value := (xs.map (Value.int k)).toArray
theorem QcM (k : IntKind) (xs : List Int) (i : Nat) (h : i < xs.length) : (ints k xs)[i]? = some (.int k (nth xs i)) := by
  simp [ints, nth, h]
theorem Qad (k : IntKind) (xs : List Int) : (ints k xs).size = xs.length := by simp [ints]
theorem QcJ {P : Program} (w : World) (d : Nat) {e : TypeId} {k : IntKind} (he : P.underlying e = some (.int k)) (hc : P.cellsOf e = 1) (xs ys : List Int) : ∀ (is : List Nat), (∀ i ∈ is, i < xs.length ∧ i < ys.length) →
    (Op.eqItems (d + 1) e (P.cellsOf e) (ints k xs) (ints k ys) is).run P w = .ok (decide (∀ i ∈ is, nth xs i = nth ys i)) w
  | [], _ => by simp [Op.eqItems]
  | i :: is, h => by
    have hp : P.plainKey e = true := by simp [Program.plainKey, he]
    obtain ⟨h1, h2⟩ := h i List.mem_cons_self
    have a1 := run_part_plain w hp (QcM k xs i h1)
    have a2 := run_part_plain w hp (QcM k ys i h2)
    have a3 := run_equalIn_int (P := P) w d e k k (nth xs i) (nth ys i) he
    have ih := QcJ w d he hc xs ys is fun j hj => h j (List.mem_cons_of_mem _ hj)
    simp only [Op.eqItems, hc, Nat.mul_one, Sem.run_bind, a1, a2, a3, Result.andThen_ok]
    rw [hc] at ih
    by_cases hq : nth xs i = nth ys i
    · have : (nth xs i == nth ys i) = true := beq_iff_eq.2 hq
      rw [this]
      simp only [Bool.not_true, Bool.false_eq_true, if_false, ih, List.mem_cons, forall_eq_or_imp, hq, true_and]
    · have : (nth xs i == nth ys i) = false := beq_eq_false_iff_ne.2 hq
      rw [this]
      simp [hq]
theorem Qeg {xs ys : List Int} (hl : xs.length = ys.length) (h : ∀ i, i < xs.length → nth xs i = nth ys i) : xs = ys := by
  refine List.ext_getElem hl fun i h1 h2 => ?_
  have := h i h1
  simpa [nth, h1, h2] using this
theorem Qej {P : Program} (w : World) (d : Nat) {t e : TypeId} {n : Nat} {k : IntKind} (ht : P.underlying t = some (.array n e)) (he : P.underlying e = some (.int k)) (hc : P.cellsOf e = 1) (xs ys : List Int) (hx : xs.length = n) (hy : ys.length = n) :
    (Op.equalIn (d + 2) t (.agg (ints k xs)) (.agg (ints k ys))).run P w = .ok (decide (xs = ys)) w := by
  obtain ⟨i, hi⟩ := info_of_underlying he
  rw [run_equalIn_array w (d + 1) _ _ ht hi, QcJ w d he hc xs ys (List.range n) fun j hj => by have := List.mem_range.1 hj; omega]
  congr 1
  refine decide_eq_decide.2 ⟨fun h => Qeg (by omega) fun j hj => h j (List.mem_range.2 (by omega)), fun h => by rw [h]; exact fun _ _ => rfl⟩
theorem Qg1 {P : Program} (w : World) {t e : TypeId} {n : Nat} {k : IntKind} (ht : P.underlying t = some (.array n e)) (he : P.underlying e = some (.int k)) (hc : P.cellsOf e = 1) (xs ys : List Int) (hx : xs.length = n) (hy : ys.length = n) :
    (binOp .eql t (.agg (ints k xs)) (.agg (ints k ys))).run P w = .ok (.bool (decide (xs = ys))) w := by
  rw [run_eql_struct, Qej w 9998 ht he hc xs ys hx hy]
  rfl
end Go.Proofs.Ytfelfmchachljaa.Rely
end
section
namespace Go.Proofs.Ytfelfmchachljaa.Rely
open Go Go.RowKit
set_option linter.unusedVariables false
theorem Qa5 {W : World} {g : Nat} {o : Obj} (h : W.heap[g]? = some o) : g < W.heap.size := (Array.getElem?_eq_some_iff.1 h).1
theorem Qau {W W' : World} {g : Nat} {o : Obj} (h : W.heap[g]? = some o) (e : Ext W W') : W'.heap[g]? = some o := (e.block _ (Qa5 h)).trans h
theorem Qd5 {W : World} {g : Nat} {cs : Array Value} {t : TypeId} (h : W.heap[g]? = some (.cells cs t)) {k : Nat} {v : Value} (hk : cs[k]? = some v) : W.cell? ⟨g, k, none⟩ = some v :=
  (cell_of_row W g k cs t _ h).trans hk
end Go.Proofs.Ytfelfmchachljaa.Rely
end
section
namespace Go.Proofs.Ytfelfmchachljaa.Rely
open Go Go.RowKit
set_option linter.unusedVariables false
end Go.Proofs.Ytfelfmchachljaa.Rely
end
section
namespace Go.Proofs.Ytfelfmchachljaa.Rely
open Go Go.RowKit
set_option linter.unusedVariables false
theorem QcK {P : Program} (w : World) (g off : Nat) (t ty : TypeId) (cs ps : Array Value) (fr : Nat × Nat) (d : TypeDesc) (hg : w.heap[g]? = some (.cells cs t fr)) (hp : ∀ j v, ps[j]? = some v → cs[off + j]? = some v)
    (hu : P.underlying ty = some d) (hd : (match d with | .struct _ | .array _ _ => true | _ => false) = true) (hi : (P.info? ty).map (·.size) = some ps.size) :
    (loadVar ty ⟨g, off, none⟩).run P w = .ok (.agg ps) w := by
  have hl : (loadCells ⟨g, off, none⟩ ps.toList.length).run P w = .ok ps.toList.toArray w :=
    run_loadCells_list (P := P) w ⟨g, off, none⟩ ps.toList (fun j v hv => by
      have hadd : (⟨g, off, none⟩ : Addr).add j = ⟨g, off + j, none⟩ := by unfold Addr.add; split <;> simp_all
      rw [hadd, cell_of_row w g (off + j) cs t fr hg]
      exact hp j v (by simpa using hv))
  cases hq : P.info? ty with
  | none => simp [hq] at hi
  | some i =>
    have hs : i.size = ps.size := by simpa [hq] using hi
    have hagg : (isAgg ty).run P w = .ok true w := by
      unfold isAgg
      rw [Sem.run_bind, run_underlying hu w]
      cases d <;> simp_all
    simp only [Array.length_toList, Array.toArray_toList] at hl
    simp [loadVar, Sem.run_bind, hagg, sizeOf, typeInfo, hq, hs, hl]
def splice (cur : Array Value) (k : Nat) : List Value → Array Value
  | [] => cur
  | v :: r => splice (cur.setIfInBounds k v) (k + 1) r
theorem Qer (w : World) (g : Nat) (cur : Array Value) (t : TypeId) (hg : w.heap[g]? = some (.cells cur t)) : w.setRow g cur = w := by
  have hv : w.heap[g]? = some (.cells cur t (0, 0)) := hg
  unfold World.setRow
  cases w with
  | mk heap tape drawn os output =>
    congr 1
    apply Array.ext
    · simp
    · intro k h1 h2
      simp only [Array.getElem_modify]
      split
      · rename_i hk
        subst hk
        have := (Array.getElem?_eq_some_iff.1 hv).2
        simp [this]
      · rfl
theorem Qb6 {P : Program} (g off : Nat) (t : TypeId) : ∀ (vs : List Value) (i : Nat) (cur : Array Value) (w : World), w.heap[g]? = some (.cells cur t) → off + i + vs.length ≤ cur.size → (∀ v ∈ vs, v.oneCell' = true) →
    (storeCells ⟨g, off, none⟩ vs i).run P w = .ok () (w.setRow g (splice cur (off + i) vs))
  | [], i, cur, w, hg, hl, _ => by
    simp only [storeCells, splice]
    rw [Qer w g cur t hg]
    rfl
  | v :: rest, i, cur, w, hg, hl, h1 => by
    have hi : off + i < cur.size := by simp at hl; omega
    have hadd : (⟨g, off, none⟩ : Addr).add i = ⟨g, off + i, none⟩ := by unfold Addr.add; split <;> simp_all
    have hcell : w.cell? ⟨g, off + i, none⟩ = some cur[off + i] := by simp [World.cell?, hg, hi]
    have hfro : w.frozen? ⟨g, off + i, none⟩ = false := by simp [World.frozen?, hg]
    have hst : (store ((⟨g, off, none⟩ : Addr).add i) v).run P w = .ok () (w.setRow g (cur.setIfInBounds (off + i) v)) := by
      rw [hadd, run_store P w _ v _ (h1 v (by simp)), hcell]
      simp [hfro, setCell_eq_setRow w g (off + i) cur t (0, 0) v hg]
    have ih := Qb6 (P := P) g off t rest (i + 1) (cur.setIfInBounds (off + i) v) (w.setRow g (cur.setIfInBounds (off + i) v)) (setRow_heap w g cur _ t _ hg) (by simp at hl ⊢; omega) (fun x hx => h1 x (by simp [hx]))
    simp only [storeCells, Sem.run_bind, hst, Result.andThen_ok, ih, setRow_setRow, splice]
    rfl
theorem Qc0 {P : Program} (w : World) (g off : Nat) (t ty : TypeId) (old cells : Array Value) (hg : w.heap[g]? = some (.cells old t)) (hi : (P.info? ty).map (·.size) = some cells.size)
    (ho : off + cells.size ≤ old.size) (h1 : cells.all (·.oneCell') = true) :
    (storeVar ty ⟨g, off, none⟩ (.agg cells)).run P w = .ok () (w.setRow g (splice old off cells.toList)) := by
  have := Qb6 (P := P) g off t cells.toList 0 old w hg (by simp; omega) (fun v hv => (Array.all_eq_true_iff_forall_mem.1 h1) v (by simpa using hv))
  cases hq : P.info? ty with
  | none => simp [hq] at hi
  | some i =>
    have hs : cells.size = i.size := by simp [hq] at hi; omega
    simp [storeVar, sizeOf, typeInfo, hq, Value.cells, hs, this]
end Go.Proofs.Ytfelfmchachljaa.Rely
end
section
namespace Go.Proofs.Ytfelfmchachljaa.Rely
open Go Go.RowKit
set_option linter.unusedVariables false
theorem Qfd (vs : List Value) : ∀ (cur : Array Value) (k : Nat), k + vs.length ≤ cur.size → ∀ j, (splice cur k vs)[j]? = if k ≤ j ∧ j < k + vs.length then vs[j - k]? else cur[j]? := by
  induction vs with
  | nil =>
    intro cur k _ j
    rw [splice, if_neg (by simp only [List.length_nil]; omega)]
  | cons v r ih =>
    intro cur k hk j
    simp only [List.length_cons] at hk ⊢
    rw [splice, ih _ _ (by simp; omega)]
    by_cases h1 : k + 1 ≤ j ∧ j < k + 1 + r.length
    · rw [if_pos h1, if_pos (by omega), show j - k = (j - (k + 1)) + 1 by omega, List.getElem?_cons_succ]
    · rw [if_neg h1]
      by_cases h2 : j = k
      · subst h2
        rw [if_pos (by omega), Array.getElem?_setIfInBounds_self_of_lt (by omega), Nat.sub_self, List.getElem?_cons_zero]
      · rw [Array.getElem?_setIfInBounds_ne (Ne.symm h2), if_neg (by omega)]
end Go.Proofs.Ytfelfmchachljaa.Rely
end
section
namespace Go.Proofs.Ytfelfmchachljaa.Rely
set_option linter.unusedVariables false
open Go
section
variable {P : Program} {R : World → World → Prop} {w0 : World} {a0 : Act}
end
end Go.Proofs.Ytfelfmchachljaa.Rely
end
section
namespace Go.Proofs.Ytfelfmchachljaa.Rely
set_option linter.unusedVariables false
open Go
section
variable {P : Program} {R : World → World → Prop} {w0 : World} {a0 : Act} {Fe : Fence} {nf : Nat}
def QfZ (Fe : Fence) (nf : Nat) {P : Program} {R : World → World → Prop} {Q : Exit → Act → World → Prop} {a : Act} {w : World} {l : List Oper} {n : Nat} (F : List Fact → Prop) : Prop :=
  ∀ E, (∀ W, R w.drew W → fin (fun a W => wpListIn Fe nf P l.toArray Q (l.drop n) a W) (l.take n) E a W) → F E
theorem QfZ.out {P : Program} {R : World → World → Prop} {Q : Exit → Act → World → Prop} {a : Act} {w : World} {l : List Oper} {n : Nat} {F : List Fact → Prop} (h : QfZ Fe nf (P := P) (R := R) (Q := Q) (a := a) (w := w) (l := l) (n := n) F) {E : List Fact}
    (k : ∀ W, R w.drew W → fin (fun a W => wpListIn Fe nf P l.toArray Q (l.drop n) a W) (l.take n) E a W) : F E := h E k
end
end Go.Proofs.Ytfelfmchachljaa.Rely
end
section
namespace Go.Proofs.Ytfelfmchachljaa.Auto
open Go Go.RowKit
open Rely
set_option linter.unusedVariables false
abbrev Env := List (Nat × Value)
def get (L : Env) (t : Nat) : Value := match L with | [] => undef | (k, v) :: r => bif Nat.beq k t then v else get r t
def envN (N : Nat) (L : Env) (t : Nat) : Value := bif Nat.blt t N then get L t else undef
def QaH (ds : List Deferred) (N : Nat) (L : Env) : Act := { tmps := Array.ofFn (n := N) fun t => get L t.1, defers := ds }
variable {ds : List Deferred}
theorem Qcn (N : Nat) (L : Env) : slots (QaH ds N L) = envN N L := by
  funext t
  unfold slots QaH envN
  by_cases h : t < N
  · have : Nat.blt t N = true := by simpa using h
    simp [this, h]
  · have : Nat.blt t N = false := by
      cases hh : Nat.blt t N with
      | false => rfl
      | true => exact absurd (by simpa using hh) h
    simp [this, h]
theorem Qbs (N : Nat) (L : Env) : (QaH ds N L).eval = Rely.look (envN N L) := by rw [QfM, Qcn]
theorem Qbv (N : Nat) (L : Env) (d : Nat) (v : Value) : (QaH ds N L).put (some d) v = QaH ds N ((d, v) :: L) := by
  show (⟨(Array.ofFn (n := N) fun t => get L t.1).setIfInBounds d v, ds⟩ : Act) = ⟨Array.ofFn (n := N) fun t => get ((d, v) :: L) t.1, ds⟩
  congr 1
  apply Array.ext
  · simp
  · intro i h1 h2
    simp only [Array.size_setIfInBounds, Array.size_ofFn] at h1
    by_cases hd : d = i
    · subst hd
      simp [get]
    · rw [Array.getElem_setIfInBounds_ne (by simpa using h1) hd]
      have : Nat.beq d i = false := by
        cases h : Nat.beq d i with
        | false => rfl
        | true => exact absurd (Nat.eq_of_beq_eq_true h) hd
      simp [get, this]
def up (d : Option Nat) (v : Value) (L : Env) : Env := match d with | some t => (t, v) :: L | none => L
def QcC : List Value → Nat → Env
  | [], _ => []
  | v :: r, k => (k, v) :: QcC r (k + 1)
theorem QeU : ∀ (l : List Value) (k t : Nat), get (QcC l k) t = if k ≤ t then l.getD (t - k) undef else undef
  | [], k, t => by simp [QcC, get]
  | v :: r, k, t => by
    rw [QcC, get]
    by_cases h : k = t
    · subst h
      simp
    · have hb : Nat.beq k t = false := by
        cases hh : Nat.beq k t with
        | false => rfl
        | true => exact absurd (Nat.eq_of_beq_eq_true hh) h
      rw [hb, cond_false, QeU r (k + 1) t]
      by_cases h1 : k + 1 ≤ t
      · rw [if_pos h1, if_pos (by omega), show t - k = (t - (k + 1)) + 1 by omega]
        simp
      · rw [if_neg h1, if_neg (by omega)]
theorem entry (args : Array Value) (N : Nat) (h : args.size ≤ N) : ({ tmps := args ++ Array.replicate (N - args.size) undef, defers := [] } : Act) = QaH [] N (QcC args.toList 0) := by
  unfold QaH
  congr 1
  apply Array.ext
  · simp; omega
  · intro i h1 h2
    simp only [Array.getElem_ofFn, QeU, Nat.zero_le, if_true, Nat.sub_zero]
    by_cases hi : i < args.size
    · rw [Array.getElem_append_left hi]
      simp [hi]
    · rw [Array.getElem_append_right (by omega)]
      simp [hi]
theorem enter {P : Program} {f : FuncId} {fn : Func} {c : Code} {args : Array Value} {w : World} {R : Ending → World → Prop} (N : Nat) (L : Env)
    (hf : P.funcs[f]? = some fn) (hb : fn.body = some c) (hn : fn.ntmps = N) (hs : Nat.ble args.size N = true) (hL : QcC args.toList 0 = L)
    (h : c.wp P (bodyPost P fn R) (QaH [] N L) w) : Calls P f args w R := by
  subst hn
  subst hL
  refine calls_of_wp hf hb ?_
  rw [entry _ _ (by simpa using hs)]
  exact h
def QbJ (ops : Array Oper) (o : Oper) (N : Nat) (L : Env) : Option Bool :=
  match QdI ops o with
  | some g => some (gOk g (envN N L))
  | none => none
theorem QbY {ops : Array Oper} {o : Oper} {N : Nat} {L : Env} {b : Bool} (h : QbJ ops o N L = some b) : Region.wanted o (yielded ops (QaH ds N L).tmps) = b := by
  unfold QbJ at h
  split at h
  · rename_i g hg
    rw [QdV hg, Qcn]
    exact Option.some.inj h
  · cases h
structure WL (P : Program) (ops : Array Oper) (Q : Exit → Act → World → Prop) (rest : List Oper) (a : Act) (w : World) : Prop where
  out : wpList P ops Q rest a w
theorem Qae {P : Program} {Q : Exit → Act → World → Prop} {a : Act} {w : World} {id : Nat} {l : List Oper} (h : WL P l.toArray Q l a w) : (Code.region id l.toArray false).wp P Q a w := wp_region_lit h.out
section
variable {P : Program} {ops : Array Oper} {Q : Exit → Act → World → Prop} {rest : List Oper} {o : Oper} {N : Nat} {L : Env} {w : World}
theorem QdW (hg : QbJ ops o N L = some true) (h : ∀ K : Act → World → Prop, (∀ a w, WL P ops Q rest a w → K a w) → o.upon P (QaH ds N L) K Q ((execOp (Rely.look (envN N L)) o).run P w)) : WL P ops Q (o :: rest) (QaH ds N L) w :=
  ⟨wpList_step fun K hK => by
    rw [if_pos (QbY hg)]
    unfold Oper.wp
    rw [Qbs]
    exact h K fun a w hh => hK a w hh.out⟩
theorem Qas (d : Nat) (hd : o.dst = some d) (hg : QbJ ops o N L = some false) (k : WL P ops Q rest (QaH ds N ((d, undef) :: L)) w) : WL P ops Q (o :: rest) (QaH ds N L) w :=
  ⟨wpList_step fun K hK => by
    rw [if_neg (by rw [QbY hg]; decide), hd, Qbv]
    exact hK _ _ k.out⟩
theorem Qab (v : Value) (d : Nat) (hd : o.dst = some d) (hg : QbJ ops o N L = some true) (h : (execOp (Rely.look (envN N L)) o).run P w = .ok (.value v) w) (k : WL P ops Q rest (QaH ds N ((d, v) :: L)) w) : WL P ops Q (o :: rest) (QaH ds N L) w :=
  QdW hg fun K hK => by
    rw [h]
    show K _ _
    rw [hd, Qbv]
    exact hK _ _ k
theorem QbF (v : Value) (w' : World) (d : Nat) (hd : o.dst = some d) (hg : QbJ ops o N L = some true) (h : (execOp (Rely.look (envN N L)) o).run P w = .ok (.value v) w') (k : WL P ops Q rest (QaH ds N ((d, v) :: L)) w') : WL P ops Q (o :: rest) (QaH ds N L) w :=
  QdW hg fun K hK => by
    rw [h]
    show K _ _
    rw [hd, Qbv]
    exact hK _ _ k
theorem Qf1 (w' : World) (hd : o.dst = none) (hg : QbJ ops o N L = some true) (h : (execOp (Rely.look (envN N L)) o).run P w = .ok .skip w') (k : WL P ops Q rest (QaH ds N L) w') : WL P ops Q (o :: rest) (QaH ds N L) w :=
  QdW hg fun K hK => by
    rw [h]
    show K _ _
    rw [hd]
    exact hK _ _ k
theorem Qar (cs : Array Value) (T : TypeId) (d : Nat) (hd : o.dst = some d) (hg : QbJ ops o N L = some true) (h : (execOp (Rely.look (envN N L)) o).run P w = .ok (.value (.pointer (some ⟨w.heap.size, 0, none⟩))) (w.alloc (.cells cs T)))
    (k : ∀ (g : Nat) (W : World), w.heap.size ≤ g → Ext w W → W.heap[g]? = some (.cells cs T) → WL P ops Q rest (QaH ds N ((d, .pointer (some ⟨g, 0, none⟩)) :: L)) W) : WL P ops Q (o :: rest) (QaH ds N L) w :=
  QbF _ _ d hd hg h (k _ _ (Nat.le_refl _) (Qde _ _) (heap_alloc_new _ _))
theorem Qa8 (v : Value) (f : FuncId) (args : Array Value) (d : Nat) (hd : o.dst = some d) (hg : QbJ ops o N L = some true) (h : (execOp (Rely.look (envN N L)) o).run P w = .ok (.enter f args) w)
    (hc : Calls P f args w (Ret w v)) (k : ∀ W : World, Ext w W → WL P ops Q rest (QaH ds N ((d, v) :: L)) W) : WL P ops Q (o :: rest) (QaH ds N L) w :=
  QdW hg fun K hK => by
    rw [h]
    refine hc.mono ?_
    rintro e w' ⟨rfl, hw⟩
    show K _ _
    rw [hd, Qbv]
    exact hK _ _ (k _ hw)
theorem Qah (R : Value → World → Prop) (f : FuncId) (args : Array Value) (d : Nat) (hd : o.dst = some d) (hg : QbJ ops o N L = some true) (h : (execOp (Rely.look (envN N L)) o).run P w = .ok (.enter f args) w)
    (hc : Calls P f args w fun e w' => ∃ v, e = .returned v ∧ R v w') (k : ∀ (v : Value) (W : World), R v W → WL P ops Q rest (QaH ds N ((d, v) :: L)) W) : WL P ops Q (o :: rest) (QaH ds N L) w :=
  QdW hg fun K hK => by
    rw [h]
    refine hc.mono ?_
    rintro e w' ⟨v, rfl, hw⟩
    show K _ _
    rw [hd, Qbv]
    exact hK _ _ (k _ _ hw)
theorem Qaf (k : Q .normal (QaH ds N L) w) : WL P ops Q [] (QaH ds N L) w := ⟨k⟩
end
def Puts (w : World) (g : Nat) (W : World) : Prop := W.os = w.os ∧ W.tape = w.tape ∧ W.output = w.output ∧ W.heap.size = w.heap.size ∧ ∀ k, k ≠ g → W.heap[k]? = w.heap[k]?
theorem Qdb (w : World) (g : Nat) (cs : Array Value) : Puts w g (w.setRow g cs) := ⟨rfl, rfl, rfl, by simp, fun k hk => setRow_other _ _ _ _ hk⟩
theorem Puts.row {w W : World} {g k : Nat} {ob : Obj} (h : Puts w g W) (hk : w.heap[k]? = some ob) (hn : k ≠ g) : W.heap[k]? = some ob := (h.2.2.2.2 k hn).trans hk
theorem Puts.ext {w0 w W : World} {g : Nat} (h : Puts w g W) (he : Ext w0 w) (hg : w0.heap.size ≤ g) : Ext w0 W :=
  ⟨h.1.trans he.os, h.2.1.trans he.tape, h.2.2.1.trans he.output, by have := he.size; have := h.2.2.2.1; omega, fun k hk => (h.2.2.2.2 k (by omega)).trans (he.block k hk)⟩
theorem Ext.tr {a b c : World} (h : Ext a b) (k : Ext b c) : Ext a c := Rely.Ext.trans h k
theorem Qa2 {w : World} {k g : Nat} {ob : Obj} (hk : w.heap[k]? = some ob) (hg : w.heap.size ≤ g) : k ≠ g := by
  have := Qa5 hk
  omega
def aggB : TypeDesc → Bool
  | .struct _ => true
  | .array _ _ => true
  | _ => false
def aggD (P : Program) (ty : TypeId) : Option Bool := (P.underlying ty).map aggB
theorem Qay {P : Program} {ρ : Operand → Value} {o : Oper} {w : World} (ty : TypeId) (x : Operand) (g off : Nat) (t : TypeId) (cs ps : Array Value) (fr : Nat × Nat) (hg : w.heap[g]? = some (.cells cs t fr))
    (ho : o.op = .load ty x) (hx : ρ x = .pointer (some ⟨g, off, none⟩)) (hp : ∀ j v, ps[j]? = some v → cs[off + j]? = some v) (hu : aggD P ty = some true) (hi : (P.info? ty).map (·.size) = some ps.size) :
    (execOp ρ o).run P w = .ok (.value (.agg ps)) w := by
  unfold aggD at hu
  cases hd : P.underlying ty with
  | none => rw [hd] at hu; cases hu
  | some d =>
    rw [hd] at hu
    have hdd : aggB d = true := Option.some.inj hu
    have := QcK w g off t ty cs ps fr d hg hp hd (by cases d <;> first | rfl | cases hdd) hi
    unfold execOp
    simp only [ho, hx, Instr.loadAt, Instr.sureAddr, Sem.run_bind, Sem.run_pure, Result.andThen_ok, this]
theorem Qaz {P : Program} {ρ : Operand → Value} {o : Oper} {w : World} (ty : TypeId) (x : Operand) (g : Nat) (t : TypeId) (cs : Array Value) (fr : Nat × Nat) (hg : w.heap[g]? = some (.cells cs t fr))
    (ho : o.op = .load ty x) (hx : ρ x = .pointer (some ⟨g, 0, none⟩)) (hu : aggD P ty = some true) (hi : (P.info? ty).map (·.size) = some cs.size) :
    (execOp ρ o).run P w = .ok (.value (.agg cs)) w :=
  Qay ty x g 0 t cs cs fr hg ho hx (fun j v h => by rw [Nat.zero_add]; exact h) hu hi
theorem Qal {P : Program} {ρ : Operand → Value} {o : Oper} {w : World} (ty : TypeId) (x : Operand) (g off : Nat) (t : TypeId) (cs : Array Value) (v : Value) (fr : Nat × Nat) (hg : w.heap[g]? = some (.cells cs t fr))
    (ho : o.op = .load ty x) (hx : ρ x = .pointer (some ⟨g, off, none⟩)) (hp : cs[off]? = some v) (hu : aggD P ty = some false) :
    (execOp ρ o).run P w = .ok (.value v) w := by
  unfold aggD at hu
  cases hd : P.underlying ty with
  | none => rw [hd] at hu; cases hu
  | some d =>
    rw [hd] at hu
    have hdd : aggB d = false := Option.some.inj hu
    have hc : w.cell? ⟨g, off, none⟩ = some v := (cell_of_row w g off cs t fr hg).trans hp
    have hagg : (isAgg ty).run P w = .ok false w := by
      unfold isAgg
      rw [Sem.run_bind, run_underlying hd w]
      cases d <;> first | rfl | cases hdd
    unfold execOp
    simp [ho, hx, Instr.loadAt, Instr.sureAddr, loadVar, hagg, hc]
def sp (cur : Array Value) (k : Nat) (vs : List Value) : Array Value := splice cur k vs
theorem Qdk {P : Program} {ρ : Operand → Value} {o : Oper} {w : World} (ty : TypeId) (x y : Operand) (g off : Nat) (t : TypeId) (old cells : Array Value) (hg : w.heap[g]? = some (.cells old t))
    (ho : o.op = .store ty x y) (hx : ρ x = .pointer (some ⟨g, off, none⟩)) (hy : ρ y = .agg cells) (hi : (P.info? ty).map (·.size) = some cells.size) (hs : Nat.ble (off + cells.size) old.size = true) (h1 : cells.all (·.oneCell') = true) :
    (execOp ρ o).run P w = .ok .skip (w.setRow g (splice old off cells.toList)) := by
  unfold execOp
  simp only [ho, hx, hy, Instr.storeAt, Instr.sureAddr, Sem.run_bind, Sem.run_pure, Result.andThen_ok, Qc0 w g off t ty old cells hg hi (by simpa using hs) h1]
theorem Qat {P : Program} {ρ : Operand → Value} {o : Oper} {w : World} (ty : TypeId) (x y : Operand) (g : Nat) (t : TypeId) (old cells : Array Value) (hg : w.heap[g]? = some (.cells old t))
    (ho : o.op = .store ty x y) (hx : ρ x = .pointer (some ⟨g, 0, none⟩)) (hy : ρ y = .agg cells) (hi : (P.info? ty).map (·.size) = some cells.size) (hs : old.size = cells.size) (h1 : cells.all (·.oneCell') = true) :
    (execOp ρ o).run P w = .ok .skip (w.setRow g cells) := by
  unfold execOp
  simp only [ho, hx, hy, Instr.storeAt, Instr.sureAddr, Sem.run_bind, Sem.run_pure, Result.andThen_ok, run_storeVar_row w g t ty old cells hg hi hs h1]
theorem Qbl {P : Program} {ρ : Operand → Value} {o : Oper} {w : World} (ty : TypeId) (x y : Operand) (g off : Nat) (t : TypeId) (old : Array Value) (v : Value) (hg : w.heap[g]? = some (.cells old t))
    (ho : o.op = .store ty x y) (hx : ρ x = .pointer (some ⟨g, off, none⟩)) (hy : ρ y = v) (hi : (P.info? ty).map (·.size) = some 1) (hs : Nat.blt off old.size = true) (h1 : v.oneCell' = true) (hcs : v.cells = #[v]) :
    (execOp ρ o).run P w = .ok .skip (w.setRow g (old.setIfInBounds off v)) := by
  have hlt : off < old.size := by simpa using hs
  have hcell : w.cell? ⟨g, off, none⟩ = some old[off] := by simp [World.cell?, hg, hlt]
  have hfro : w.frozen? ⟨g, off, none⟩ = false := by simp [World.frozen?, hg]
  cases hq : P.info? ty with
  | none => simp [hq] at hi
  | some i =>
    have hs' : i.size = 1 := by simpa [hq] using hi
    have hst : (store (⟨g, off, none⟩ : Addr) v).run P w = .ok () (w.setRow g (old.setIfInBounds off v)) := by
      rw [run_store P w _ v _ h1, hcell]
      simp [hfro, setCell_eq_setRow w g off old t (0, 0) v hg]
    have hadd : (⟨g, off, none⟩ : Addr).add 0 = ⟨g, off, none⟩ := by unfold Addr.add; split <;> simp_all
    unfold execOp
    simp [ho, hx, hy, Instr.storeAt, Instr.sureAddr, storeVar, sizeOf, typeInfo, hq, hs', hcs, storeCells, hadd, hst]
section
variable {P : Program} {ops : Array Oper} {Q : Exit → Act → World → Prop} {rest : List Oper} {o : Oper} {N : Nat} {L : Env} {w : World}
theorem Qav (g : Nat) (old cs : Array Value) (t : TypeId) (hg : w.heap[g]? = some (.cells old t)) (hd : o.dst = none) (hw : QbJ ops o N L = some true) (h : (execOp (Rely.look (envN N L)) o).run P w = .ok .skip (w.setRow g cs))
    (k : ∀ W : World, Puts w g W → W.heap[g]? = some (.cells cs t) → WL P ops Q rest (QaH ds N L) W) : WL P ops Q (o :: rest) (QaH ds N L) w :=
  Qf1 _ hd hw h (k _ (Qdb _ _ _) (setRow_heap _ _ _ _ _ _ hg))
end
inductive Kn where
  | is (v : Value)
  | new (cs : Array Value) (T : TypeId)
def Kn.fact (base : Nat) : Kn → Fact
  | .is c => fun v _ => v = c
  | .new cs T => fun v W => ∃ g, v = .pointer (some ⟨g, 0, none⟩) ∧ base ≤ g ∧ W.heap[g]? = some (.cells cs T)
def steps (P : Program) (w0 : World) (base : Nat) (N : Nat) (L : Env) (F : List Kn → Prop) : List Oper → List Src → List Kn → Prop
  | o :: os, s :: ss, C => ∃ k : Kn, opOk P Ext w0 (envN N L) (C.map (Kn.fact base)) o s (k.fact base) ∧ steps P w0 base N L F os ss (C ++ [k])
  | _, _, C => F C
section
variable {P : Program} {w0 : World} {base N : Nat} {L : Env} {F : List Kn → Prop} {o : Oper} {os : List Oper} {s : Src} {ss : List Src} {C : List Kn}
end
end Go.Proofs.Ytfelfmchachljaa.Auto
end
section
namespace Go.Proofs.Ytfelfmchachljaa.Auto
open Go Go.RowKit
open Rely
set_option linter.unusedVariables false
variable {ds : List Deferred}
def cat : List (Array Value) → Array Value
  | [] => #[]
  | [a] => a
  | a :: b :: r => a ++ cat (b :: r)
theorem Qaa (a : Array Value) (r : List (Array Value)) : cat (a :: r) = a ++ cat r := by
  cases r with
  | nil => simp [cat]
  | cons b r => rfl
theorem QaD : ∀ l r : List (Array Value), cat (l ++ r) = cat l ++ cat r
  | [], r => by simp [cat]
  | a :: l, r => by rw [List.cons_append, Qaa, Qaa, QaD l r, Array.append_assoc]
theorem Qaq (pre mid post : List (Array Value)) (off : Nat) (h : (cat pre).size = off) : ∀ j v, (cat mid)[j]? = some v → (cat (pre ++ (mid ++ post)))[off + j]? = some v := fun j v hv => by
  subst h
  have hj : j < (cat mid).size := (Array.getElem?_eq_some_iff.1 hv).1
  rw [QaD, QaD, Array.getElem?_append_right (by omega), Nat.add_sub_cancel_left, Array.getElem?_append_left hj]
  exact hv
theorem Qc9 (pre mid new post : List (Array Value)) (off : Nat) (h : (cat pre).size = off) (hs : (cat new).size = (cat mid).size) : splice (cat (pre ++ (mid ++ post))) off (cat new).toList = cat (pre ++ (new ++ post)) := by
  subst h
  apply Array.ext_getElem?
  intro j
  rw [Qfd _ _ _ (by simp [QaD]; omega)]
  simp only [QaD, Array.length_toList]
  by_cases h1 : (cat pre).size ≤ j
  · by_cases h2 : j < (cat pre).size + (cat new).size
    · rw [if_pos ⟨h1, h2⟩, Array.getElem?_append_right h1, Array.getElem?_append_left (by omega)]
      simp
    · rw [if_neg (by omega), Array.getElem?_append_right h1, Array.getElem?_append_right h1, Array.getElem?_append_right (by omega), Array.getElem?_append_right (by omega), hs]
  · rw [if_neg (by omega), Array.getElem?_append_left (by omega), Array.getElem?_append_left (by omega)]
theorem QaC : ∀ l : List (Array Value), (∀ a ∈ l, a.all (·.oneCell') = true) → (cat l).all (·.oneCell') = true
  | [], _ => by simp [cat]
  | a :: r, h => by
    rw [Qaa, Array.all_append, h a List.mem_cons_self, QaC r fun b hb => h b (List.mem_cons_of_mem _ hb)]
    rfl
def okPl (pl : Nat → Option (Nat × Nat)) : Nat → List (Nat × Nat × Value × Array Value) → Prop
  | _, [] => True
  | off, (i, n, v, p) :: r => pl i = some (off, n) ∧ v.cells = p ∧ p.size = n ∧ okPl pl (off + n) r
def tot : List (Nat × Nat × Value × Array Value) → Nat
  | [] => 0
  | (_, n, _, _) :: r => n + tot r
theorem Qcb : ∀ (l : List Value) (k off : Nat) (cs : Array Value), (l.zipIdx k).foldl (fun cs (x : Value × Nat) => cs.setIfInBounds (off + x.2) x.1) cs = splice cs (off + k) l
  | [], _, _, _ => rfl
  | v :: r, k, off, cs => by
    rw [List.zipIdx_cons, List.foldl_cons, Qcb r (k + 1) off, splice]
    rfl
section
variable {P : Program} {Q : Exit → Act → World → Prop} {w : World} {N : Nat} {L : Env}
theorem cond_true {c : Operand} {x y : Code} (hc : Rely.look (envN N L) c = .bool true) (h : x.wp P Q (QaH ds N L) w) : (Code.cond c x y).wp P Q (QaH ds N L) w := wp_cond_true (by rw [Qbs]; exact hc) h
theorem cond_false {c : Operand} {x y : Code} (hc : Rely.look (envN N L) c = .bool false) (h : y.wp P Q (QaH ds N L) w) : (Code.cond c x y).wp P Q (QaH ds N L) w := wp_cond_false (by rw [Qbs]; exact hc) h
theorem Qa7 {c : Operand} {x y : Code} {t : Bool} (hc : Rely.look (envN N L) c = .bool t) (ht : t = true → x.wp P Q (QaH ds N L) w) (hf : t = false → y.wp P Q (QaH ds N L) w) : (Code.cond c x y).wp P Q (QaH ds N L) w := wp_cond_split (by rw [Qbs]; exact hc) ht hf
end
def QdS (P : Program) (w : World) (N : Nat) (L : Env) : ResultVar → Value → Prop
  | .tmp t, v => envN N L t = v
  | .cell a t, v => ∃ A, envN N L a = .pointer (some A) ∧ (loadVar t A).run P w = .ok v w
theorem Qa1 {P : Program} {w : World} {N : Nat} {L : Env} {t : Tmp} {v : Value} (h : envN N L t = v) : QdS P w N L (.tmp t) v := h
theorem QaR {P : Program} {w : World} {N : Nat} {L : Env} {a : Tmp} {ty : TypeId} (g : Nat) (t : TypeId) (cs : Array Value) (hg : w.heap[g]? = some (.cells cs t)) (ha : envN N L a = .pointer (some ⟨g, 0, none⟩)) (hu : aggD P ty = some true) (hi : (P.info? ty).map (·.size) = some cs.size) :
    QdS P w N L (.cell a ty) (.agg cs) := by
  refine ⟨_, ha, ?_⟩
  unfold aggD at hu
  cases hd : P.underlying ty with
  | none => rw [hd] at hu; cases hu
  | some d =>
    rw [hd] at hu
    have hdd : aggB d = true := Option.some.inj hu
    exact run_loadVar_row w g t ty cs (0, 0) d hg hd (by cases d <;> first | rfl | cases hdd) hi
theorem Qdv (ds : List Deferred) (N : Nat) (L : Env) (t : Nat) : (QaH ds N L).tmps.getD t undef = envN N L t := by rw [← Qcn]; rfl
def Qg7 (tmps : Array Value) : ResultVar → Sem Value := fun
    | .tmp t => pure (tmps.getD t undef)
    | .cell a t => do loadVar t (← asAddr (tmps.getD a undef))
theorem Qc1 {P : Program} {w : World} {N : Nat} {L : Env} {r : ResultVar} {v : Value} (h : QdS P w N L r v) : (Qg7 (QaH ds N L).tmps r).run P w = .ok v w := by
  cases r with
  | tmp t =>
    have h' : envN N L t = v := h
    show (pure ((QaH ds N L).tmps.getD t undef) : Sem Value).run P w = _
    rw [Qdv ds, h']
    rfl
  | cell a t =>
    obtain ⟨A, h1, h2⟩ := h
    show (do loadVar t (← asAddr ((QaH ds N L).tmps.getD a undef)) : Sem Value).run P w = _
    rw [Qdv ds, h1]
    simp [asAddr, h2]
theorem Qc2 (fn : Func) (tmps : Array Value) : results fn tmps = (do let vs ← fn.results.mapM (Qg7 tmps); pure (if h : vs.size = 1 then vs[0] else .tuple vs)) := rfl
section
variable {P : Program} {fn : Func} {R : Ending → World → Prop} {N : Nat} {L : Env} {w : World}
theorem QdZ {r : ResultVar} {v : Value} (hr : fn.results = #[r]) (h : QdS P w N L r v) : (results fn (QaH ds N L).tmps).run P w = .ok v w := by
  rw [Qc2, hr]
  simp [Qc1 h]
theorem QdY {r s : ResultVar} {u v : Value} (hr : fn.results = #[r, s]) (h : QdS P w N L r u) (k : QdS P w N L s v) : (results fn (QaH ds N L).tmps).run P w = .ok (.tuple #[u, v]) w := by
  rw [Qc2, hr]
  simp [Qc1 h, Qc1 k, Sem.run_bind]
theorem QcE (hr : fn.results = #[]) : (results fn (QaH ds N L).tmps).run P w = .ok (.tuple #[]) w := by
  rw [Qc2, hr]
  simp
theorem ret1 {r : ResultVar} (v : Value) (hr : fn.results = #[r]) (h : QdS P w N L r v) (k : R (.returned v) w) : bodyPost P fn R .ret (QaH [] N L) w := bodyPost_ret (QdZ hr h) rfl k
theorem ret2 {r s : ResultVar} (u v : Value) (hr : fn.results = #[r, s]) (h : QdS P w N L r u) (h2 : QdS P w N L s v) (k : R (.returned (.tuple #[u, v])) w) : bodyPost P fn R .ret (QaH [] N L) w := bodyPost_ret (QdY hr h h2) rfl k
theorem end0 (hr : fn.results = #[]) (k : R (.returned (.tuple #[])) w) : bodyPost P fn R .normal (QaH [] N L) w := bodyPost_end (QcE hr) rfl k
theorem ret0 (hr : fn.results = #[]) (k : R (.returned (.tuple #[])) w) : bodyPost P fn R .ret (QaH [] N L) w := bodyPost_ret (QcE hr) rfl k
end
theorem isz {P : Program} {ty : TypeId} {cs : Array Value} {n : Nat} (h : (P.info? ty).map (·.size) = some n) (hs : cs.size = n) : (P.info? ty).map (·.size) = some cs.size := by rw [h, hs]
theorem eqsz {a b : Array Value} {n : Nat} (ha : a.size = n) (hb : b.size = n) : a.size = b.size := ha.trans hb.symm
theorem Qbd {P : Program} {ρ : Operand → Value} {o : Oper} {w : World} (ty : TypeId) (x y : Operand) (g off : Nat) (t : TypeId) (pre mid new post : List (Array Value)) (hg : w.heap[g]? = some (.cells (cat (pre ++ (mid ++ post))) t))
    (ho : o.op = .store ty x y) (hx : ρ x = .pointer (some ⟨g, off, none⟩)) (hy : ρ y = .agg (cat new)) (hi : (P.info? ty).map (·.size) = some (cat new).size) (hp : (cat pre).size = off) (hs : (cat new).size = (cat mid).size) (h1 : (cat new).all (·.oneCell') = true) :
    (execOp ρ o).run P w = .ok .skip (w.setRow g (cat (pre ++ (new ++ post)))) := by
  rw [← Qc9 pre mid new post off hp hs]
  refine Qdk ty x y g off t _ _ hg ho hx hy hi ?_ h1
  simp only [QaD, Array.size_append, Nat.ble_eq]
  omega
end Go.Proofs.Ytfelfmchachljaa.Auto
end
section
namespace Go.Proofs.Ytfelfmchachljaa.Auto
open Go Go.RowKit
open Rely
set_option linter.unusedVariables false
variable {ds : List Deferred}
def isT (l : List Oper) (j : Nat) : Bool := match l[j]? with | some o => o.dst.isNone | none => false
def QgK (l : List Oper) : List Nat := (List.range l.length).filter (isT l)
section
variable {P : Program} {Rd : World → Prop} {w0 : World} {base N : Nat} {L : Env}
structure InvT (l : List Oper) (a0 : Act) (listed : Array Bool) (a : Act) (vs : Nat → Value) (C : List Kn) (U : List Nat) : Prop where
  size : listed.size = l.length
  closed : QgJ l.toArray listed
  defers : a.defers = a0.defers
  asize : a.tmps.size = a0.tmps.size
  vals : ∀ i o d, listed.getD i false = true → l[i]? = some o → o.dst = some d → a.tmps[d]? = some (vs i)
  rest : ∀ t, (∀ i o, listed.getD i false = true → l[i]? = some o → o.dst ≠ some t) → a.tmps[t]? = a0.tmps[t]?
  cst : ∀ i c, C[i]? = some (.is c) → (listed.getD i false = true ∨ U.contains i = true ∨ isT l i = true) → vs i = c
def rem (l : List Oper) (listed : Array Bool) : List Nat := (QgK l).filter fun j => !listed.getD j true
end
section
variable {P : Program} {Rd : World → Prop} {w0 : World} {base N : Nat} {L : Env}
end
section
variable {P : Program} {Rd : World → Prop} {w0 : World} {base N : Nat} {L : Env} {U : List Nat} {F : List Kn → Prop} {o : Oper} {os : List Oper} {s : Src} {ss : List Src} {C : List Kn}
end
end Go.Proofs.Ytfelfmchachljaa.Auto
end
section
namespace Go.Proofs.Ytfelfmchachljaa.Auto
open Go Go.RowKit
open Rely
set_option linter.unusedVariables false
variable {ds : List Deferred} {Fe : Fence} {nf : Nat}
structure Free (Fe : Fence) (nf : Nat) (P : Program) : Prop where
  fn : ∀ f, Fe.fn f
  dp : Fe.depth.isSome = true → 1 ≤ nf
  calls : ∀ {f : FuncId} {args : Array Value} {w : World} {T : Ending → World → Prop}, Calls P f args w T → CallsIn Fe (nf - 1) P f args w T
section
variable {P : Program} {ops : Array Oper} {Q : Exit → Act → World → Prop} {rest : List Oper} {o : Oper} {N : Nat} {L : Env} {w : World}
structure WLI (Fe : Fence) (nf : Nat) (P : Program) (ops : Array Oper) (Q : Exit → Act → World → Prop) (rest : List Oper) (a : Act) (w : World) : Prop where
  out : wpListIn Fe nf P ops Q rest a w
end
section
variable {P : Program} {ops : Array Oper} {Q : Exit → Act → World → Prop} {rest : List Oper} {o : Oper} {N : Nat} {L : Env} {w : World}
end
section
variable {P : Program} {Q : Exit → Act → World → Prop} {w : World} {N : Nat} {L : Env}
end
end Go.Proofs.Ytfelfmchachljaa.Auto
end
section
namespace Go.Proofs.Ytfelfmchachljaa.Auto
open Go Go.RowKit
open Rely
set_option linter.unusedVariables false
variable {ds : List Deferred}
section
variable {P : Program} {fn : Func} {R : Ending → World → Prop} {N : Nat} {L : Env} {w : World}
end
end Go.Proofs.Ytfelfmchachljaa.Auto
end
section
namespace Go.Proofs.Ytfelfmchachljaa.Auto
open Go Go.RowKit
open Rely
set_option linter.unusedVariables false
variable {ds : List Deferred}
theorem Qa0 {P : Program} {ρ : Operand → Value} {o : Oper} {w : World} {u v : Value} (h : (execOp ρ o).run P w = .ok (.value u) w) (e : u = v) : (execOp ρ o).run P w = .ok (.value v) w := by rw [h, e]
theorem Qcp {P : Program} {ρ : Operand → Value} {o : Oper} {w : World} (op : BinOp) (t ty : TypeId) (x y : Operand) (k k' : IntKind) (a b : Int) (v : Value) (ho : o.op = .binOp op t x y ty) (hx : ρ x = .int k a) (hy : ρ y = .int k' b)
    (h : (binOp op t (.int k a) (.int k' b)).run P w = .ok v w) : (execOp ρ o).run P w = .ok (.value v) w := by
  unfold execOp
  simp only [ho, hx, hy, Sem.run_bind]
  have hg : (eqGuard op t x y (.int k a) (.int k' b)).run P w = .ok () w := by
    unfold eqGuard
    cases op <;> rfl
  simp [hg, h]
theorem Qh8 {P : Program} {w : World} (t : TypeId) (k k' : IntKind) (a b r : Int) (hb : 0 ≤ b) (h : a.fdiv (2 ^ min b.toNat k.bits) = r) : (binOp .shr t (.int k a) (.int k' b)).run P w = .ok (.int k r) w := by
  subst h
  unfold binOp Op.shift
  simp [show ¬ b < 0 by omega]
theorem Qiy {P : Program} {w : World} (t : TypeId) (k k' : IntKind) (a b r : Int) (hb : 0 ≤ b) (h : k.wrap (a * 2 ^ min b.toNat k.bits) = r) : (binOp .shl t (.int k a) (.int k' b)).run P w = .ok (.int k r) w := by
  subst h
  unfold binOp Op.shift
  simp [show ¬ b < 0 by omega]
theorem QaK {P : Program} {ρ : Operand → Value} {o : Oper} {w : World} (ty tr : TypeId) (x y : Operand) (u v : Array Value) (r : Value) (ho : o.op = .binOp .eql ty x y tr) (hx : ρ x = .agg u) (hy : ρ y = .agg v)
    (hm : P.eqGuardType P.depth ty = false) (h : (binOp .eql ty (.agg u) (.agg v)).run P w = .ok r w) : (execOp ρ o).run P w = .ok (.value r) w := by
  unfold execOp
  simp only [ho, hx, hy, Sem.run_bind, Sem.run_pure, run_eqGuard_agg (hm := hm), Result.andThen_ok, h]
theorem QeF (n : Nat) (h : n < 9223372036854775808) : IntKind.i64.wrap (n : Int) = (n : Int) := IntWalk.i64_in _ (by omega)
def Qft (L : Env) : Env → Prop
  | [] => True
  | (t, v) :: r => get L t = v ∧ Qft L r
theorem Qeh {L : Env} : ∀ (M : Env), Qft L M → ∀ t, get (M ++ L) t = get L t
  | [], _, _ => rfl
  | (k, v) :: r, ⟨h1, h2⟩, t => by
    show (bif Nat.beq k t then v else get (r ++ L) t) = _
    cases hb : Nat.beq k t with
    | true => rw [_root_.cond_true, ← h1, Nat.eq_of_beq_eq_true hb]
    | false => rw [_root_.cond_false, Qeh r h2 t]
theorem Qem {N : Nat} {L M : Env} (h : Qft L M) : QaH ds N (M ++ L) = QaH ds N L := by
  unfold QaH
  congr 2
  funext t
  exact Qeh M h t.1
theorem Qdx {P : Program} {c : Code} {Q : Exit → Act → World → Prop} (I : Nat → Act → World → Prop)
    (round : ∀ n a w, I n a w → c.wp P (Exit.then (fun a' w' => ∃ m, m < n ∧ I m a' w') Q) a w) (n : Nat) (a : Act) (w : World) (h₀ : I n a w) : (Code.loop c).wp P Q a w := by
  intro b k cs
  have key : ∀ n a w, I n a w → ∃ e a' w', Q e a' w' ∧ Arrives P (lone (b.at a (.code c :: .inLoop c :: k)) cs w) b k cs e a' w' := by
    intro n
    induction n using Nat.strongRecOn with
    | _ n ih =>
      intro a w hI
      obtain ⟨e, a₁, w₁, hq, harr⟩ := round n a w hI b (.inLoop c :: k) cs
      cases e with
      | normal =>
        obtain ⟨m, hlt, hI₁⟩ := hq
        obtain ⟨e₂, a₂, w₂, hq₂, harr₂⟩ := ih m hlt a₁ w₁ hI₁
        exact ⟨e₂, a₂, w₂, hq₂, .of_steps (Steps.trans harr (.one step_inLoop)) harr₂⟩
      | exit id => exact ⟨_, a₁, w₁, hq, .pass (x := .inLoop c) rfl (fun _ _ => .inl (by simp)) harr⟩
      | goto l => exact ⟨_, a₁, w₁, hq, .pass (x := .inLoop c) rfl (fun _ _ => .inl (by simp)) harr⟩
      | ret => exact ⟨_, a₁, w₁, hq, .pass (x := .inLoop c) rfl (fun _ _ => .inl (by simp)) harr⟩
      | panic ch => exact ⟨_, a₁, w₁, hq, .pass (x := .inLoop c) rfl (fun _ _ => .inl (by simp)) harr⟩
      | outgrown => exact ⟨_, a₁, w₁, hq, .pass (x := .inLoop c) rfl (fun _ _ => .inl (by simp)) harr⟩
  obtain ⟨e, a', w', hq, harr⟩ := key n a w h₀
  exact ⟨e, a', w', hq, .of_steps (.one step_loop) harr⟩
def Goes {α : Type} (ds : List Deferred) (N : Nat) (live : α → Env) (I : α → World → Prop) (μ : α → Nat) (s : α) (a' : Act) (W' : World) : Prop := ∃ (s' : α) (X' : Env), a' = QaH ds N (live s' ++ X') ∧ I s' W' ∧ μ s' < μ s
theorem QaX {α : Type} {P : Program} {body : Code} {Q : Exit → Act → World → Prop} {N : Nat} {L : Env} {w : World} (live : α → Env) (I : α → World → Prop) (μ : α → Nat) (s0 : α) (hL : Qft L (live s0)) (h0 : I s0 w)
    (round : ∀ (s : α) (X : Env) (W : World), I s W → body.wp P (Exit.then (Goes ds N live I μ s) Q) (QaH ds N (live s ++ X)) W) : (Code.loop body).wp P Q (QaH ds N L) w := by
  rw [← Qem hL]
  refine Qdx (fun n a W => ∃ (s : α) (X : Env), a = QaH ds N (live s ++ X) ∧ I s W ∧ μ s = n) ?_ (μ s0) _ _ ⟨s0, L, rfl, h0, rfl⟩
  rintro n a W ⟨s, X, rfl, hI, rfl⟩
  refine wp_mono (round s X W hI) fun e a' w' h => ?_
  cases e <;> try exact h
  obtain ⟨s', X', h1, h2, h3⟩ := h
  exact ⟨μ s', h3, s', X', h1, h2, rfl⟩
theorem Qfo {α : Type} {N : Nat} {L : Env} {w : World} {live : α → Env} {I : α → World → Prop} {μ : α → Nat} {s : α} (s' : α) (hL : Qft L (live s')) (h : I s' w) (hm : μ s' < μ s) : Goes ds N live I μ s (QaH ds N L) w :=
  ⟨s', L, (Qem hL).symm, h, hm⟩
theorem QaU {α : Type} {N : Nat} {L : Env} {w : World} {live : α → Env} {I : α → World → Prop} {μ : α → Nat} {s : α} {Q : Exit → Act → World → Prop} (s' : α) (hL : Qft L (live s')) (h : I s' w) (hm : μ s' < μ s) : Exit.then (Goes ds N live I μ s) Q .normal (QaH ds N L) w :=
  Qfo s' hL h hm
end Go.Proofs.Ytfelfmchachljaa.Auto
end
end
section
namespace Go.Proofs.Ytfelfmchachljaa.Auto
open Go Go.RowKit
open Rely
set_option linter.unusedVariables false
variable {ds : List Deferred}
theorem Qfg {P : Program} {ρ : Operand → Value} {o : Oper} {w : World} (t : TypeId) (x y : Operand) (k : IntKind) (n g off len cap : Nat) (e : TypeId) (ho : o.op = .indexAddr t x y) (hx : ρ x = .slice (some ⟨g, off, none⟩) len cap) (hy : ρ y = .int k n)
    (hu : P.underlying t = some (.slice e)) (hs : (P.info? e).map (·.size) = some 1) (hn : n < len) : (execOp ρ o).run P w = .ok (.value (.pointer (some ⟨g, off + n, none⟩))) w := by
  cases hq : P.info? e with
  | none => simp [hq] at hs
  | some i =>
    have hs' : i.size = 1 := by simpa [hq] using hs
    have hadd : (⟨g, off, none⟩ : Addr).add n = ⟨g, off + n, none⟩ := by unfold Addr.add; split <;> simp_all
    have h0 : (0 : Int) ≤ (n : Int) := by omega
    have h1 : (n : Int) < (len : Int) := by omega
    unfold execOp
    simp only [ho, hx, hy]
    simp [Instr.indexAt, asIntOf, run_underlying hu, sizeOf, typeInfo, hq, hs', h0, hn, hadd]
theorem QbG {P : Program} {ρ : Operand → Value} {o : Oper} {w : World} (ty : TypeId) (x : Operand) (a : Addr) (v : Value) (hc : w.cell? a = some v)
    (ho : o.op = .load ty x) (hx : ρ x = .pointer (some a)) (hu : aggD P ty = some false) : (execOp ρ o).run P w = .ok (.value v) w := by
  unfold aggD at hu
  cases hd : P.underlying ty with
  | none => rw [hd] at hu; cases hu
  | some d =>
    rw [hd] at hu
    have hdd : aggB d = false := Option.some.inj hu
    have hagg : (isAgg ty).run P w = .ok false w := by
      unfold isAgg
      rw [Sem.run_bind, run_underlying hd w]
      cases d <;> first | rfl | cases hdd
    unfold execOp
    simp [ho, hx, Instr.loadAt, Instr.sureAddr, loadVar, hagg, hc]
section
variable {P : Program} {ops : Array Oper} {Q : Exit → Act → World → Prop} {rest : List Oper} {o : Oper} {N : Nat} {L : Env} {w : World}
theorem Qb5 (cs : Array Value) (T : TypeId) (n d : Nat) (hd : o.dst = some d) (hg : QbJ ops o N L = some true) (h : (execOp (Rely.look (envN N L)) o).run P w = .ok (.value (.slice (some ⟨w.heap.size, 0, none⟩) n n)) (w.alloc (.cells cs T)))
    (k : ∀ (g : Nat) (W : World), w.heap.size ≤ g → Ext w W → W.heap[g]? = some (.cells cs T) → WL P ops Q rest (QaH ds N ((d, .slice (some ⟨g, 0, none⟩) n n) :: L)) W) : WL P ops Q (o :: rest) (QaH ds N L) w :=
  QbF _ _ d hd hg h (k _ _ (Nat.le_refl _) (Qde _ _) (heap_alloc_new _ _))
end
section
variable {K : Act → World → Prop} {Q : Exit → Act → World → Prop} {a : Act} {w : World}
theorem goX1 {n : Nat} (h : Q (.exit n) a w) : Exit.then K Q (.exit n) a w := h
theorem goX2 {n : Nat} (h : Q .normal a w) : Exit.inBlock n Q (.exit n) a w := by
  unfold Exit.inBlock
  simpa using h
theorem goR1 (h : Q .ret a w) : Exit.then K Q .ret a w := h
theorem goR2 {n : Nat} (h : Q .ret a w) : Exit.inBlock n Q .ret a w := h
theorem goX3 {n : Nat} (h : Q .normal a w) : Exit.inBlock n Q .normal a w := h
end
end Go.Proofs.Ytfelfmchachljaa.Auto
end
section
namespace Go.Proofs.Ytfelfmchachljaa.Own
open Go Go.RowKit
open Rely Auto
set_option linter.unusedVariables false
def ExtB (g : Nat) (w W : World) : Prop := W.os = w.os ∧ W.tape = w.tape ∧ W.output = w.output ∧ w.heap.size ≤ W.heap.size ∧ ∀ k, k < w.heap.size → k ≠ g → W.heap[k]? = w.heap[k]?
theorem ExtB.refl (g : Nat) (w : World) : ExtB g w w := ⟨rfl, rfl, rfl, Nat.le_refl _, fun _ _ _ => rfl⟩
theorem ExtB.ext {g : Nat} {w W W' : World} (h : ExtB g w W) (e : Ext W W') : ExtB g w W' :=
  ⟨e.os.trans h.1, e.tape.trans h.2.1, e.output.trans h.2.2.1, Nat.le_trans h.2.2.2.1 e.size, fun k hk hn => (e.block k (Nat.lt_of_lt_of_le hk h.2.2.2.1)).trans (h.2.2.2.2 k hk hn)⟩
theorem ExtB.puts {g : Nat} {w W W' : World} (h : ExtB g w W) (p : Puts W g W') : ExtB g w W' :=
  ⟨p.1.trans h.1, p.2.1.trans h.2.1, p.2.2.1.trans h.2.2.1, by have := h.2.2.2.1; have := p.2.2.2.1; omega, fun k hk hn => (p.2.2.2.2 k hn).trans (h.2.2.2.2 k hk hn)⟩
theorem ExtB.row {g : Nat} {w W : World} {k : Nat} {ob : Obj} (h : ExtB g w W) (r : w.heap[k]? = some ob) (hn : k ≠ g) : W.heap[k]? = some ob := (h.2.2.2.2 k (by
  rcases Nat.lt_or_ge k w.heap.size with hl | hl
  · exact hl
  · rw [Array.getElem?_eq_none hl] at r; cases r) hn).trans r
theorem ExtB.up {g : Nat} {w0 w W : World} (h : Ext w0 w) (k : ExtB g w W) (lo : w0.heap.size ≤ g) : Ext w0 W :=
  ⟨k.1.trans h.os, k.2.1.trans h.tape, k.2.2.1.trans h.output, Nat.le_trans h.size k.2.2.2.1, fun i hi => (k.2.2.2.2 i (Nat.lt_of_lt_of_le hi h.size) (by omega)).trans (h.block i hi)⟩
theorem ExtB.trans {g : Nat} {a b c : World} (h : ExtB g a b) (k : ExtB g b c) : ExtB g a c :=
  ⟨k.1.trans h.1, k.2.1.trans h.2.1, k.2.2.1.trans h.2.2.1, Nat.le_trans h.2.2.2.1 k.2.2.2.1, fun i hi hn => (k.2.2.2.2 i (Nat.lt_of_lt_of_le hi h.2.2.2.1) hn).trans (h.2.2.2.2 i hi hn)⟩
def QdT (base g c : Nat) (cur : Array Value) (bs : List Int) (W : World) : Prop := base ≤ g ∧ W.heap[g]? = some (.cells cur 5) ∧ cur.size = c ∧ bs.length ≤ c ∧ c ≤ maxLen ∧ cur.toList.take bs.length = bs.map (Value.int .u8)
def OwnB (base : Nat) (bs : List Int) (v : Value) (W : World) : Prop := ∃ (g c : Nat) (cur : Array Value), v = .slice (some ⟨g, 0, none⟩) bs.length c ∧ QdT base g c cur bs W
theorem QdT.ext {base g c : Nat} {cur : Array Value} {bs : List Int} {W W' : World} (h : QdT base g c cur bs W) (e : Ext W W') : QdT base g c cur bs W' := ⟨h.1, Qau h.2.1 e, h.2.2⟩
theorem OwnB.ext {base : Nat} {bs : List Int} {v : Value} {W W' : World} (h : OwnB base bs v W) (e : Ext W W') : OwnB base bs v W' := by
  obtain ⟨g, c, cur, rfl, h⟩ := h
  exact ⟨g, c, cur, rfl, h.ext e⟩
theorem OwnB.base {a b : Nat} {bs : List Int} {v : Value} {W : World} (hab : a ≤ b) (h : OwnB b bs v W) : OwnB a bs v W := by
  obtain ⟨g, c, cur, rfl, h1, h⟩ := h
  exact ⟨g, c, cur, rfl, Nat.le_trans hab h1, h⟩
theorem QdT.cell {base g c : Nat} {cur : Array Value} {bs : List Int} {W : World} (h : QdT base g c cur bs W) : ∀ i, i < bs.length → W.cell? ⟨g, i, none⟩ = some (.int .u8 (nth bs i)) := fun i hi => by
  refine Qd5 h.2.1 ?_
  have e : (cur.toList.take bs.length)[i]? = (bs.map (Value.int .u8))[i]? := by rw [h.2.2.2.2.2]
  rw [List.getElem?_take_of_lt hi, List.getElem?_map, List.getElem?_eq_getElem hi] at e
  rw [← Array.getElem?_toList, e]
  simp [nth, hi]
theorem OwnB.bytes {base : Nat} {bs : List Int} {v : Value} {W : World} (h : OwnB base bs v W) (hb : Qao bs) : Qdj W v bs := by
  obtain ⟨g, c, cur, rfl, h⟩ := h
  refine ⟨_, _, rfl, Nat.le_trans h.2.2.2.1 h.2.2.2.2.1, hb, .inr ⟨g, 0, rfl, Qa5 h.2.1, fun i hi => ?_⟩⟩
  rw [Nat.zero_add]; exact h.cell i hi
end Go.Proofs.Ytfelfmchachljaa.Own
end
section
namespace Go.Proofs.Ytfelfmchachljaa.Own
open Go Go.RowKit
open Rely Auto
set_option linter.unusedVariables false
def OwnV (base : Nat) (bs : List Int) (v : Value) (W : World) : Prop := (v = .slice none 0 0 ∧ bs = []) ∨ OwnB base bs v W
theorem OwnV.below {base : Nat} {bs : List Int} {v : Value} {W W' : World} (h : OwnV base bs v W) (hs : ∀ g, v.ownBlock = some g → W'.heap[g]? = W.heap[g]?) : OwnV base bs v W' := by
  rcases h with h | ⟨g, c, cur, rfl, h1, h2, h3⟩
  · exact .inl h
  · exact .inr ⟨g, c, cur, rfl, h1, (hs g rfl).trans h2, h3⟩
theorem OwnV.lt {base : Nat} {bs : List Int} {v : Value} {W : World} (h : OwnV base bs v W) {g : Nat} (hg : v.ownBlock = some g) : g < W.heap.size := by
  rcases h with ⟨rfl, _⟩ | ⟨g', c, cur, rfl, h1, h2, h3⟩
  · cases hg
  · obtain rfl : g' = g := Option.some.inj hg
    exact Qa5 h2
theorem OwnV.ge {base : Nat} {bs : List Int} {v : Value} {W : World} (h : OwnV base bs v W) {g : Nat} (hg : v.ownBlock = some g) : base ≤ g := by
  rcases h with ⟨rfl, _⟩ | ⟨g', c, cur, rfl, h1, h2, h3⟩
  · cases hg
  · obtain rfl : g' = g := Option.some.inj hg
    exact h1
theorem QdT.take {base g c : Nat} {cur : Array Value} {bs : List Int} {W : World} (h : QdT base g c cur bs W) (n : Nat) : QdT base g c cur (bs.take n) W := by
  obtain ⟨h1, h2, h3, h4, h5, h6⟩ := h
  refine ⟨h1, h2, h3, by rw [List.length_take]; omega, h5, ?_⟩
  rw [List.length_take, List.map_take, ← h6, List.take_take]
  try (congr 1; omega)
def Went (v v' : Value) (W W' : World) : Prop := (∃ g n c, v = .slice (some ⟨g, 0, none⟩) n c ∧ (∃ n', v' = .slice (some ⟨g, 0, none⟩) n' c) ∧ ExtB g W W') ∨ ((∃ g, v'.ownBlock = some g ∧ W.heap.size ≤ g) ∧ Ext W W')
theorem Went.other {base : Nat} {bs : List Int} {u v v' : Value} {W W' : World} (h : Went v v' W W') (hu : OwnV base bs u W) (hn : u.ownBlock = v.ownBlock → u.ownBlock = none) : OwnV base bs u W' := by
  refine hu.below fun g hg => ?_
  have hl := hu.lt hg
  rcases h with ⟨g', n, c, rfl, _, he⟩ | ⟨_, he⟩
  · exact he.2.2.2.2 g hl (fun e => by subst e; rw [hg] at hn; exact absurd (hn rfl) (by simp))
  · exact he.block g hl
theorem Went.same {base : Nat} {bs ys : List Int} {g n c : Nat} {v v' : Value} {W W' : World} (h : Went v v' W W') (hv' : OwnB base ys v' W') (hu : OwnB base bs (.slice (some ⟨g, 0, none⟩) n c) W) (hv : ∃ m, v = .slice (some ⟨g, 0, none⟩) m c) (hp : ys.take n = bs) : OwnB base bs (.slice (some ⟨g, 0, none⟩) n c) W' := by
  rcases h with ⟨g', m, c', rfl, ⟨n', rfl⟩, he⟩ | ⟨_, he⟩
  · obtain ⟨m', e⟩ := hv
    simp only [Value.slice.injEq, Option.some.injEq, Addr.mk.injEq] at e
    obtain ⟨⟨rfl, _⟩, _, rfl⟩ := e
    obtain ⟨g2, c2, cur2, e2, o2⟩ := hv'
    simp only [Value.slice.injEq, Option.some.injEq, Addr.mk.injEq] at e2
    obtain ⟨⟨rfl, _⟩, _, rfl⟩ := e2
    have o3 := o2.take n
    rw [hp] at o3
    obtain ⟨g3, c3, cur3, e3, o4⟩ := hu
    simp only [Value.slice.injEq, Option.some.injEq, Addr.mk.injEq] at e3
    exact ⟨_, _, _, by rw [e3.2.1], o3⟩
  · exact hu.ext he
end Go.Proofs.Ytfelfmchachljaa.Own
end
section
namespace Go.Proofs.Ytfelfmchachljaa.Auto
open Go Go.RowKit
open Rely Own
set_option linter.unusedVariables false
set_option linter.unusedSimpArgs false
variable {ds : List Deferred}
inductive KE where
  | is (v : Value)
  | ex (φ : Fact)
def KE.fact : KE → Fact
  | .is c => fun v _ => v = c
  | .ex φ => φ
def KE.kn : KE → Kn
  | .is c => .is c
  | .ex _ => .new #[] 0
structure Rl (R : World → World → Prop) (w0 : World) : Prop where
  refl : ∀ W, R W W
  trans : ∀ {a b c : World}, R a b → R b c → R a c
  ext : ∀ {a b : World}, w0.heap.size ≤ a.heap.size → Ext a b → R a b
  low : ∀ {W : World}, R w0 W → Ext w0 W
def KE.ok (R : World → World → Prop) : KE → Prop
  | .is _ => True
  | .ex φ => Qih R φ
section
variable {P : Program} {R : World → World → Prop} {w0 : World} {N : Nat} {L : Env} {F : List KE → Prop} {o : Oper} {os : List Oper} {s : Src} {ss : List Src} {C : List KE}
end
def OwnN (k : IntKind) (T : TypeId) (base : Nat) (xs : List Int) (v : Value) (W : World) : Prop := W.ownsRow base T 1 v xs.length (xs.map (Value.int k)) ∧ xs.length ≤ maxLen
theorem QbV (k : IntKind) (T : TypeId) (base : Nat) (W : World) : OwnN k T base [] (.slice none 0 0) W := ⟨⟨rfl, .inl ⟨rfl, rfl⟩⟩, Nat.zero_le _⟩
theorem Qgu {k : IntKind} {T : TypeId} {base g n : Nat} {xs : List Int} {W : World} (hn : xs.length = n) (hb : base ≤ g) (r : W.heap[g]? = some (.cells (ints k xs) T)) (hm : n ≤ maxLen) : OwnN k T base xs (.slice (some ⟨g, 0, none⟩) n n) W := by
  subst hn
  exact ⟨⟨by simp, .inr ⟨g, _, _, rfl, hb, r, Nat.le_refl _, hm, by simp [ints], by rw [Nat.mul_one, List.take_of_length_le] <;> simp [ints]⟩⟩, hm⟩
theorem OwnN.keep {k : IntKind} {T : TypeId} {base : Nat} {xs : List Int} {v : Value} {W W' : World} (h : OwnN k T base xs v W) (hk : ∀ g, v.ownBlock = some g → W'.heap[g]? = W.heap[g]?) : OwnN k T base xs v W' := by
  obtain ⟨⟨h1, h2⟩, hm⟩ := h
  refine ⟨⟨h1, ?_⟩, hm⟩
  rcases h2 with h2 | ⟨g, c, cur, rfl, q2, q3, q4, q5, q6, q7⟩
  · exact .inl h2
  · exact .inr ⟨g, c, cur, rfl, q2, (hk g rfl).trans q3, q4, q5, q6, q7⟩
theorem OwnN.lt {k : IntKind} {T : TypeId} {base : Nat} {xs : List Int} {v : Value} {W : World} (h : OwnN k T base xs v W) {g : Nat} (hg : v.ownBlock = some g) : g < W.heap.size := by
  rcases h.1.2 with ⟨rfl, _⟩ | ⟨g', c, cur, rfl, q2, q3, _⟩
  · cases hg
  · obtain rfl : g' = g := Option.some.inj hg
    exact Qa5 q3
theorem OwnN.ge {k : IntKind} {T : TypeId} {base : Nat} {xs : List Int} {v : Value} {W : World} (h : OwnN k T base xs v W) {g : Nat} (hg : v.ownBlock = some g) : base ≤ g := by
  rcases h.1.2 with ⟨rfl, _⟩ | ⟨g', c, cur, rfl, q2, q3, _⟩
  · cases hg
  · obtain rfl : g' = g := Option.some.inj hg
    exact q2
theorem OwnN.ext {k : IntKind} {T : TypeId} {base : Nat} {xs : List Int} {v : Value} {W W' : World} (h : OwnN k T base xs v W) (e : Ext W W') : OwnN k T base xs v W' := h.keep fun g hg => e.block g (h.lt hg)
theorem OwnN.base {k : IntKind} {T : TypeId} {a b : Nat} {xs : List Int} {v : Value} {W : World} (hab : a ≤ b) (h : OwnN k T b xs v W) : OwnN k T a xs v W := by
  obtain ⟨⟨h1, h2⟩, hm⟩ := h
  refine ⟨⟨h1, ?_⟩, hm⟩
  rcases h2 with h2 | ⟨g, c, cur, rfl, q2, q3, q4, q5, q6, q7⟩
  · exact .inl h2
  · exact .inr ⟨g, c, cur, rfl, Nat.le_trans hab q2, q3, q4, q5, q6, q7⟩
def RdK (k : IntKind) (B : Nat) (ys : List Int) (v : Value) (W : World) : Prop := ∃ a cap, v = .slice a ys.length cap ∧ ys.length ≤ cap ∧ cap ≤ maxLen ∧ (a = none → cap = 0) ∧ (ys = [] ∨ ∃ g o, a = some ⟨g, o, none⟩ ∧ g < B ∧ g < W.heap.size ∧ ∀ i, i < ys.length → W.cell? ⟨g, o + i, none⟩ = some (.int k (nth ys i)))
theorem RdK.keep {k : IntKind} {B : Nat} {ys : List Int} {v : Value} {W W' : World} (h : RdK k B ys v W) (hs : W.heap.size ≤ W'.heap.size) (hk : ∀ g, g < B → g < W.heap.size → W'.heap[g]? = W.heap[g]?) : RdK k B ys v W' := by
  obtain ⟨a, cap, h1, h2, h3, h4, h5⟩ := h
  refine ⟨a, cap, h1, h2, h3, h4, h5.imp id ?_⟩
  rintro ⟨g, o, q1, q2, q3, q4⟩
  refine ⟨g, o, q1, q2, Nat.lt_of_lt_of_le q3 hs, fun i hi => ?_⟩
  rw [← q4 i hi]
  exact World.cell?_of_block (hk g q2 q3)
theorem RdK.ext {k : IntKind} {B : Nat} {ys : List Int} {v : Value} {W W' : World} (h : RdK k B ys v W) (e : Ext W W') : RdK k B ys v W' := h.keep e.size fun g _ hl => e.block g hl
theorem RdK.extB {k : IntKind} {B g : Nat} {ys : List Int} {v : Value} {W W' : World} (h : RdK k B ys v W) (e : ExtB g W W') (hg : B ≤ g) : RdK k B ys v W' := h.keep e.2.2.2.1 fun i hi hl => e.2.2.2.2 i hl (by omega)
theorem RdK.more {k : IntKind} {A B : Nat} {ys : List Int} {v : Value} {W : World} (h : RdK k A ys v W) (hB : A ≤ B) : RdK k B ys v W := by
  obtain ⟨a, cap, h1, h2, h3, h4, h5⟩ := h
  exact ⟨a, cap, h1, h2, h3, h4, h5.imp id fun ⟨g, o, q1, q2, q3⟩ => ⟨g, o, q1, by omega, q3⟩⟩
theorem RdK.len {k : IntKind} {B : Nat} {ys : List Int} {v : Value} {W : World} (h : RdK k B ys v W) : ys.length ≤ maxLen := by
  obtain ⟨a, cap, h1, h2, h3, h4⟩ := h
  omega
theorem Qe7 {k : IntKind} {cur : Array Value} {xs : List Int} (h : cur.toList.take xs.length = xs.map (Value.int k)) {i : Nat} (hi : i < xs.length) : cur[i]? = some (.int k (nth xs i)) := by
  have e : (cur.toList.take xs.length)[i]? = (xs.map (Value.int k))[i]? := by rw [h]
  rw [List.getElem?_take_of_lt hi, List.getElem?_map, List.getElem?_eq_getElem hi] at e
  rw [← Array.getElem?_toList, e]
  simp [nth, hi]
theorem OwnN.rd {k : IntKind} {T : TypeId} {base : Nat} {xs : List Int} {v : Value} {W : World} (h : OwnN k T base xs v W) : RdK k W.heap.size xs v W := by
  rcases h.1.2 with ⟨rfl, h0⟩ | ⟨g, c, cur, rfl, q2, q3, q4, q5, q6, q7⟩
  · have : xs = [] := List.length_eq_zero_iff.1 h0
    subst this
    exact ⟨none, 0, rfl, Nat.le_refl _, Nat.zero_le _, fun _ => rfl, .inl rfl⟩
  · refine ⟨_, _, rfl, q4, q5, (fun h => by cases h), .inr ⟨g, 0, rfl, Qa5 q3, Qa5 q3, fun i hi => ?_⟩⟩
    rw [Nat.zero_add]
    exact Qd5 q3 (Qe7 (by simpa using q7) hi)
theorem QaS {k : IntKind} {T : TypeId} {B g n c : Nat} {cs : Array Value} {xs : List Int} {W : World} (o : Nat) (hn : xs.length = n) (r : W.heap[g]? = some (.cells cs T)) (hc : ∀ i, i < n → cs[o + i]? = some (.int k (nth xs i))) (hB : g < B) (hle : n ≤ c) (hm : c ≤ maxLen) : RdK k B xs (.slice (some ⟨g, o, none⟩) n c) W := by
  subst hn
  exact ⟨_, _, rfl, hle, hm, (fun h => by cases h), .inr ⟨g, o, rfl, hB, Qa5 r, fun i hi => Qd5 r (hc i hi)⟩⟩
theorem Qcf {k : IntKind} {T : TypeId} {B g n : Nat} {xs : List Int} {W : World} (hn : xs.length = n) (r : W.heap[g]? = some (.cells (ints k xs) T)) (hB : g < B) (hm : n ≤ maxLen) : RdK k B xs (.slice (some ⟨g, 0, none⟩) n n) W :=
  QaS 0 hn r (fun i hi => by rw [Nat.zero_add]; exact QcM k xs i (by omega)) hB (Nat.le_refl _) hm
theorem RdK.bytes {B : Nat} {ys : List Int} {v : Value} {W : World} (h : RdK .u8 B ys v W) (hb : Qao ys) : Qdj W v ys := by
  obtain ⟨a, cap, rfl, h2, h3, h4, h5⟩ := h
  refine ⟨a, cap, rfl, by omega, hb, ?_⟩
  rcases h5 with rfl | ⟨g, o, q1, q2, q3, q4⟩
  · exact .inl rfl
  · exact .inr ⟨g, o, q1, q3, q4⟩
theorem rdK_of_row {k : IntKind} {w : World} {a : Option Addr} {len cap : Nat} {zs : List Int} (h : QhA k w a len cap zs) : RdK k w.heap.size (zs.take len) (.slice a len cap) w ∧ (zs.take len).length = len ∧ ∀ n ∈ zs.take len, (Lit.int k n).wf = true := by
  rcases h with ⟨rfl, rfl, rfl, rfl⟩ | ⟨x, rfl, hl, hm, hz, hc, hw⟩
  · exact ⟨⟨none, 0, rfl, Nat.le_refl _, Nat.zero_le _, fun _ => rfl, .inl rfl⟩, rfl, fun n hn => by simp at hn⟩
  · have hlen : (zs.take len).length = len := by simp; omega
    refine ⟨⟨_, _, by rw [hlen], by omega, hm, (fun h => by cases h), ?_⟩, hlen, fun n hn => hw n (List.mem_of_mem_take hn)⟩
    rcases Nat.eq_zero_or_pos len with h0 | h0
    · exact .inl (List.length_eq_zero_iff.1 (by omega))
    · obtain ⟨b, off, spot⟩ := x
      have hc0 := hc 0 (by omega)
      have hspot : spot = none := by simpa [Addr.add] using World.cell?_spot hc0
      subst hspot
      have hc' : ∀ i, i < zs.length → w.cell? ⟨b, off + i, none⟩ = some (.int k (zs.getD i 0)) := fun i hi => by
        have := hc i hi; rwa [WideShapes.add_plain] at this
      have hb := Qdu (hc' 0 (by omega))
      refine .inr ⟨b, off, rfl, hb, hb, fun i hi => ?_⟩
      rw [hlen] at hi
      rw [hc' i (by omega)]
      simp [nth, hi]
theorem Qiv {P : Program} {k : IntKind} {T : TypeId} {b : Nat} (hi : (P.info? T).map (fun i => (i.zero, i.size, i.bytes)) = some (some (.int k 0), 1, b)) : ∃ i, P.info? T = some i ∧ i.zero = some (.int k 0) ∧ i.size = 1 ∧ i.bytes = b := by
  cases hq : P.info? T with
  | none => rw [hq] at hi; cases hi
  | some i =>
    rw [hq] at hi
    simp only [Option.map_some, Option.some.injEq, Prod.mk.injEq] at hi
    exact ⟨i, rfl, hi.1, hi.2.1, hi.2.2⟩
theorem QhP (k : IntKind) (bs : List Int) : ∀ u ∈ bs.map (Value.int k), u.oneCell' = true := fun u hu => by
  obtain ⟨x, _, rfl⟩ := List.mem_map.1 hu
  rfl
theorem QhR {k : IntKind} {g o : Nat} {ys : List Int} {W : World} (h : ∀ i, i < ys.length → W.cell? ⟨g, o + i, none⟩ = some (.int k (nth ys i))) : ∀ j u, (ys.map (Value.int k))[j]? = some u → W.cell? ((⟨g, o, none⟩ : Addr).add j) = some u := fun j u hu => by
  have hj : j < ys.length := by
    rcases Nat.lt_or_ge j ys.length with hj | hj
    · exact hj
    · rw [List.getElem?_eq_none (by simpa using hj)] at hu; cases hu
  rw [WideShapes.add_plain, h j hj, ← hu, List.getElem?_map, List.getElem?_eq_getElem hj]
  simp [nth, hj]
theorem QdP {P : Program} {k : IntKind} {T : TypeId} {b : Nat} {ρ : Operand → Value} {o : Oper} {W : World} (s x : Operand) (t : TypeId) (ho : o.op = .call { callee := .builtin .append, args := #[s, x], argTypes := #[t, t] })
    (ht : P.underlying t = some (.slice T)) (hi : (P.info? T).map (fun i => (i.zero, i.size, i.bytes)) = some (some (.int k 0), 1, b)) (hb8 : b ≤ 8) {base B : Nat} {v y : Value} {xs ys : List Int} (hs : ρ s = v) (hx : ρ x = y)
    (h : OwnN k T base xs v W) (hy : RdK k B ys y W) (hn : xs.length + ys.length ≤ 1000000000) (hbase : base ≤ W.heap.size) :
    ∃ v' W', (execOp ρ o).run P W = .ok (.value v') W' ∧ OwnN k T base (xs ++ ys) v' W' ∧ W.grownBy W' v.ownBlock ∧ (v'.ownBlock = v.ownBlock ∨ v'.ownBlock = some W.heap.size) := by
  obtain ⟨i, hq, hi1, hi2, hi3⟩ := Qiv hi
  obtain ⟨a, cap, rfl, y2, y3, y4, y5⟩ := hy
  have hgo : ∀ (v' : Value) (W' : World), (Builtin.append_ #[t, t] o.type #[v, .slice a ys.length cap]).run P W = .ok v' W' → (execOp ρ o).run P W = .ok (.value v') W' := fun v' W' hr => by
    unfold execOp
    simp only [ho, resolve, invoke, builtin, Sem.run_bind, Sem.run_pure, Result.andThen_ok, List.map_toArray, List.map_cons, List.map_nil, hs, hx, hr]
  cases a with
  | none =>
    have hc0 := y4 rfl
    subst hc0
    have hy0 : ys = [] := List.length_eq_zero_iff.1 (by omega)
    subst hy0
    refine ⟨v, W, hgo _ _ (run_append_owned_none (P := P) W base t o.type T i 1 ht hq v xs.length _ h.1), by rw [List.append_nil]; exact h, ⟨rfl, rfl, rfl, Nat.le_refl _, fun _ _ _ => rfl⟩, .inl rfl⟩
  | some a =>
    have hnews : ∀ j u, (ys.map (Value.int k))[j]? = some u → W.cell? (a.add j) = some u := by
      rcases y5 with rfl | ⟨g, o, q1, q2, q3, q4⟩
      · intro j u hu; simp at hu
      · obtain rfl := Option.some.inj q1
        exact QhR q4
    obtain ⟨v', W', hr, h2, h3, _, h5⟩ := run_append_own_at (P := P) W base t o.type T i (.int k 0) 1 b ht hq hi1 hi2 hi3 rfl (by omega) v xs.length (xs.map (Value.int k)) h.1 a ys.length cap (ys.map (Value.int k)) (by simp)
      hnews (QhP k ys) (by simp only [maxLen]; omega) (by
        have : (xs.length + ys.length) * b ≤ 1000000000 * 8 := Nat.mul_le_mul hn hb8
        omega) hbase
    refine ⟨v', W', hgo _ _ hr, ⟨by rw [List.length_append, List.map_append]; exact h2, by rw [List.length_append]; simp only [maxLen]; omega⟩, h3, h5⟩
theorem Qhr {k : IntKind} {T : TypeId} {xs : List Int} {v : Value} {V W W' : World} (e : Ext V W) (h : OwnN k T V.heap.size xs v W) (g : W.grownBy W' v.ownBlock) : Ext V W' :=
  ⟨g.os.trans e.os, g.tape.trans e.tape, g.output.trans e.output, Nat.le_trans e.size g.size, fun i hi => (g.block i (Nat.lt_of_lt_of_le hi e.size) (fun q => by have := h.ge q.symm; omega)).trans (e.block i hi)⟩
section
variable {P : Program} {ops : Array Oper} {Q : Exit → Act → World → Prop} {rest : List Oper} {o : Oper} {N : Nat} {L : Env} {W : World}
theorem QbS {k : IntKind} {T : TypeId} (b : Nat) (s x : Operand) (t : TypeId) (ho : o.op = .call { callee := .builtin .append, args := #[s, x], argTypes := #[t, t] })
    (ht : P.underlying t = some (.slice T)) (hi : (P.info? T).map (fun i => (i.zero, i.size, i.bytes)) = some (some (.int k 0), 1, b)) (hb8 : b ≤ 8) (d : Nat) (hd : o.dst = some d) (hg : QbJ ops o N L = some true) {B : Nat} {v y : Value} {xs ys : List Int} {V : World}
    (hs : Rely.look (envN N L) s = v) (hx : Rely.look (envN N L) x = y)
    (h : OwnN k T V.heap.size xs v W) (hy : RdK k B ys y W) (hn : xs.length + ys.length ≤ 1000000000) (hV : Ext V W)
    (kk : ∀ (u : Value) (W' : World), OwnN k T V.heap.size (xs ++ ys) u W' → Ext V W' → Below V.heap.size W W' → WL P ops Q rest (QaH ds N ((d, u) :: L)) W') : WL P ops Q (o :: rest) (QaH ds N L) W := by
  obtain ⟨v', W', h1, h2, h3, h4⟩ := QdP (ρ := Rely.look (envN N L)) (o := o) (W := W) s x t ho ht hi hb8 hs hx h hy hn hV.size
  exact QbF _ _ d hd hg h1 (kk v' W' h2 (Qhr hV h h3) ⟨h3.os, h3.tape, h3.output, h3.size, fun i hi => h3.block i (Nat.lt_of_lt_of_le hi hV.size) (fun q => by have := h.ge q.symm; omega)⟩)
end
section
variable {P : Program} {ρ : Operand → Value} {o : Oper} {w : World}
theorem Qeu {k : IntKind} {B : Nat} {ys : List Int} {v : Value} (t : TypeId) (x z : Operand) (h : Nat) (e : TypeId) (ho : o.op = .slice t x none (some z) none) (hx : ρ x = v) (hv : RdK k B ys v w)
    (hu : P.underlying t = some (.slice e)) (hs : (P.info? e).map (·.size) = some 1) (kz : IntKind) (hz : ρ z = .int kz (h : Int)) (h1 : h ≤ ys.length) :
    ∃ u, (execOp ρ o).run P w = .ok (.value u) w ∧ RdK k B (ys.take h) u w := by
  obtain ⟨a, cap, rfl, y2, y3, y4, y5⟩ := hv
  cases hq : P.info? e with
  | none => simp [hq] at hs
  | some i =>
    have hs' : i.size = 1 := by simpa [hq] using hs
    have h2 : h ≤ cap := by omega
    refine ⟨.slice a h cap, ?_, ?_⟩
    · unfold execOp
      have hadd : ∀ a : Option Addr, Option.map (fun x => x.add 0) a = a := fun a => by
        cases a with
        | none => rfl
        | some a => obtain ⟨b, o, s⟩ := a; cases s <;> simp [Addr.add]
      simp [ho, hx, hz, Instr.sliceAt, Instr.slice, Instr.sliceBounds, run_sliceBound, run_underlying hu, sizeOf, typeInfo, hq, hs', h2, hadd]
    · have hlen : (ys.take h).length = h := by rw [List.length_take]; omega
      refine ⟨_, _, by rw [hlen], by omega, y3, y4, ?_⟩
      rcases y5 with rfl | ⟨g, off, rfl, q2, q3, q4⟩
      · exact .inl (by simp)
      · refine .inr ⟨g, off, rfl, q2, q3, fun i hi => ?_⟩
        rw [hlen] at hi
        rw [q4 i (by omega)]
        simp [nth, List.getElem?_take, hi]
end
end Go.Proofs.Ytfelfmchachljaa.Auto
end
section
namespace Go.Proofs.Ytfelfmchachljaa.Sha
open Go Go.RowKit
open Rely Auto
set_option linter.unusedVariables false
abbrev Wd := BitVec 32
structure S8 where
  a : Wd
  b : Wd
  c : Wd
  d : Wd
  e : Wd
  f : Wd
  g : Wd
  h : Wd
def S8.add (s t : S8) : S8 := ⟨s.a + t.a, s.b + t.b, s.c + t.c, s.d + t.d, s.e + t.e, s.f + t.f, s.g + t.g, s.h + t.h⟩
def S8.l (s : S8) : List Wd := [s.a, s.b, s.c, s.d, s.e, s.f, s.g, s.h]
def wby (x : Wd) : List Int := [((x.toNat / 16777216 % 256 : Nat) : Int), ((x.toNat / 65536 % 256 : Nat) : Int), ((x.toNat / 256 % 256 : Nat) : Int), ((x.toNat / 1 % 256 : Nat) : Int)]
def S8.out (s : S8) : List Int := s.l.flatMap wby
def fill (xs : List Int) (n m : Nat) : List Int := xs.take m ++ List.replicate (n - m) 0
end Go.Proofs.Ytfelfmchachljaa.Sha
end
section
namespace Go.Proofs.Ytfelfmchachljaa.Auto
open Go Go.RowKit
open Rely Own
set_option linter.unusedVariables false
theorem i64n (a : Int) (m : Nat) (e : a = (m : Int)) (h : m ≤ 9000000000000000000) : IntKind.i64.wrap a = (m : Int) := by subst e; exact IntWalk.i64_in _ (by omega)
theorem QfH {n g : Nat} {W W' : World} {ob : Obj} (h : Below n W W') (r : W.heap[g]? = some ob) (hl : g < n) : W'.heap[g]? = some ob := (h.block g hl).trans r
theorem Ext.low {w W W' : World} {n : Nat} (h : Ext w W) (l : Below n W W') (hn : w.heap.size ≤ n) : Ext w W' :=
  ⟨l.os.trans h.os, l.tape.trans h.tape, l.output.trans h.output, Nat.le_trans h.size l.size, fun k hk => (l.block k (by omega)).trans (h.block k hk)⟩
theorem ExtB.low {w W W' : World} {n g : Nat} (h : ExtB g w W) (l : Below n W W') (hn : w.heap.size ≤ n) : ExtB g w W' :=
  ⟨l.os.trans h.1, l.tape.trans h.2.1, l.output.trans h.2.2.1, Nat.le_trans h.2.2.2.1 l.size, fun k hk hne => (l.block k (by omega)).trans (h.2.2.2.2 k hk hne)⟩
theorem ExtB.putsN {w W W' : World} {g c : Nat} (h : ExtB g w W) (p : Puts W c W') (hc : w.heap.size ≤ c) : ExtB g w W' :=
  ⟨p.1.trans h.1, p.2.1.trans h.2.1, p.2.2.1.trans h.2.2.1, by have := h.2.2.2.1; have := p.2.2.2.1; omega, fun k hk hn => (p.2.2.2.2 k (by omega)).trans (h.2.2.2.2 k hk hn)⟩
end Go.Proofs.Ytfelfmchachljaa.Auto
namespace Go.Proofs.Ytfelfmchachljaa.Own
open Go Go.RowKit
theorem ExtB.size {w W : World} {g : Nat} (h : ExtB g w W) : w.heap.size ≤ W.heap.size := h.2.2.2.1
end Go.Proofs.Ytfelfmchachljaa.Own
namespace Go.Proofs.Ytfelfmchachljaa.Auto
open Go Go.RowKit
open Rely Own
set_option linter.unusedVariables false
structure Qb0 (gs : List Nat) (V W : World) : Prop where
  os : W.os = V.os
  tape : W.tape = V.tape
  output : W.output = V.output
  size : V.heap.size ≤ W.heap.size
  block : ∀ k, k < V.heap.size → k ∉ gs → W.heap[k]? = V.heap[k]?
theorem Qb0.refl (gs : List Nat) (V : World) : Qb0 gs V V := ⟨rfl, rfl, rfl, Nat.le_refl _, fun _ _ _ => rfl⟩
theorem Qb0.row {gs : List Nat} {V W : World} {b : Nat} {ob : Obj} (h : Qb0 gs V W) (r : V.heap[b]? = some ob) (hn : b ∉ gs) : W.heap[b]? = some ob := (h.block b (Qa5 r) hn).trans r
theorem Qb0.step {gs : List Nat} {V W W' : World} (h : Qb0 gs V W) (e : Ext W W') : Qb0 gs V W' :=
  ⟨e.os.trans h.os, e.tape.trans h.tape, e.output.trans h.output, Nat.le_trans h.size e.size, fun k hk hn => (e.block k (Nat.lt_of_lt_of_le hk h.size)).trans (h.block k hk hn)⟩
theorem Qb0.puts {gs : List Nat} {V W W' : World} {c : Nat} (h : Qb0 gs V W) (p : Puts W c W') (hc : c ∈ gs ∨ V.heap.size ≤ c) : Qb0 gs V W' :=
  ⟨p.1.trans h.os, p.2.1.trans h.tape, p.2.2.1.trans h.output, by have := h.size; have := p.2.2.2.1; omega, fun k hk hn => (p.2.2.2.2 k (fun e => by subst e; rcases hc with hc | hc; exact hn hc; omega)).trans (h.block k hk hn)⟩
theorem Qb0.but {gs : List Nat} {V W W' : World} {c : Nat} (h : Qb0 gs V W) (p : ExtB c W W') (hc : c ∈ gs ∨ V.heap.size ≤ c) : Qb0 gs V W' :=
  ⟨p.1.trans h.os, p.2.1.trans h.tape, p.2.2.1.trans h.output, Nat.le_trans h.size p.2.2.2.1, fun k hk hn => (p.2.2.2.2 k (Nat.lt_of_lt_of_le hk h.size) (fun e => by subst e; rcases hc with hc | hc; exact hn hc; omega)).trans (h.block k hk hn)⟩
theorem Qb0.low {gs : List Nat} {V W W' : World} {n : Nat} (h : Qb0 gs V W) (l : Below n W W') (hn : V.heap.size ≤ n) : Qb0 gs V W' :=
  ⟨l.os.trans h.os, l.tape.trans h.tape, l.output.trans h.output, Nat.le_trans h.size l.size, fun k hk hm => (l.block k (by omega)).trans (h.block k hk hm)⟩
theorem Qb0.keeps {gs hs : List Nat} {V W W' : World} (h : Qb0 gs V W) (q : Qb0 hs W W') (hc : ∀ c ∈ hs, c ∈ gs ∨ V.heap.size ≤ c) : Qb0 gs V W' :=
  ⟨q.os.trans h.os, q.tape.trans h.tape, q.output.trans h.output, Nat.le_trans h.size q.size, fun k hk hn => (q.block k (Nat.lt_of_lt_of_le hk h.size) (fun hm => by rcases hc k hm with e | e; exact hn e; omega)).trans (h.block k hk hn)⟩
theorem Qb0.ext {hs : List Nat} {V W W' : World} (q : Qb0 hs W W') (h : Ext V W) (hc : ∀ c ∈ hs, V.heap.size ≤ c) : Ext V W' :=
  ⟨q.os.trans h.os, q.tape.trans h.tape, q.output.trans h.output, Nat.le_trans h.size q.size, fun k hk => (q.block k (Nat.lt_of_lt_of_le hk h.size) (fun hm => by have := hc k hm; omega)).trans (h.block k hk)⟩
theorem OwnN.low {k : IntKind} {T : TypeId} {base n : Nat} {xs : List Int} {v : Value} {V W W' : World} (h : OwnN k T base xs v W) (hV : OwnN k T base xs v V) (l : Below V.heap.size W W') : OwnN k T base xs v W' := h.keep fun g hg => l.block g (hV.lt hg)
theorem RdK.low {k : IntKind} {B : Nat} {xs : List Int} {v : Value} {V W W' : World} (h : RdK k B xs v W) (hV : RdK k B xs v V) (l : Below V.heap.size W W') : RdK k B xs v W' := by
  obtain ⟨a, cap, rfl, h2, h3, h4, h5⟩ := h
  refine ⟨a, cap, rfl, h2, h3, h4, ?_⟩
  rcases h5 with h5 | ⟨g, o, q1, q2, q3, q4⟩
  · exact .inl h5
  · rcases Nat.eq_zero_or_pos xs.length with h0 | h0
    · exact .inl (List.length_eq_zero_iff.1 h0)
    · obtain ⟨a', cap', e, -, -, -, h5'⟩ := hV
      simp only [Value.slice.injEq] at e
      obtain ⟨rfl, -, rfl⟩ := e
      have hlt : g < V.heap.size := by
        rcases h5' with h5' | ⟨g', o', e', -, q3', -⟩
        · rw [h5'] at h0; simp at h0
        · rw [q1] at e'; simp only [Option.some.injEq, Addr.mk.injEq] at e'; rw [e'.1]; exact q3'
      exact .inr ⟨g, o, q1, q2, Nat.lt_of_lt_of_le q3 l.size, fun i hi => by rw [← q4 i hi]; exact World.cell?_of_block (l.block g hlt)⟩
theorem RdK.puts {k : IntKind} {B c : Nat} {ys : List Int} {v : Value} {W W' : World} (h : RdK k B ys v W) (p : Puts W c W') (hc : B ≤ c) : RdK k B ys v W' := h.keep (Nat.le_of_eq p.2.2.2.1.symm) fun g hg _ => p.2.2.2.2 g (by omega)
theorem OwnN.puts {k : IntKind} {T : TypeId} {base c : Nat} {xs : List Int} {v : Value} {W W' : World} (h : OwnN k T base xs v W) (p : Puts W c W') (hc : v.ownBlock ≠ some c) : OwnN k T base xs v W' := h.keep fun g hg => p.2.2.2.2 g (fun e => hc (by rw [hg, e]))
theorem RdK.keepN {k : IntKind} {B : Nat} {ys : List Int} {v : Value} {W W' : World} (h : RdK k B ys v W) (hs : W.heap.size ≤ W'.heap.size) (hk : ∀ g, v.ownBlock = some g → g < W.heap.size → W'.heap[g]? = W.heap[g]?) : RdK k B ys v W' := by
  obtain ⟨a, cap, rfl, h2, h3, h4, h5⟩ := h
  refine ⟨a, cap, rfl, h2, h3, h4, h5.imp id ?_⟩
  rintro ⟨g, o, rfl, q2, q3, q4⟩
  refine ⟨g, o, rfl, q2, Nat.lt_of_lt_of_le q3 hs, fun i hi => ?_⟩
  rw [← q4 i hi]
  exact World.cell?_of_block (hk g rfl q3)
theorem RdK.putsN {k : IntKind} {B c : Nat} {ys : List Int} {v : Value} {W W' : World} (h : RdK k B ys v W) (p : Puts W c W') (hn : v.ownBlock ≠ some c) : RdK k B ys v W' := h.keepN (Nat.le_of_eq p.2.2.2.1.symm) fun g hg _ => p.2.2.2.2 g (fun q => hn (by rw [hg, q]))
theorem RdK.here {k : IntKind} {B : Nat} {ys : List Int} {v : Value} {W : World} (h : RdK k B ys v W) : RdK k W.heap.size ys v W := by
  obtain ⟨a, cap, rfl, h2, h3, h4, h5⟩ := h
  exact ⟨a, cap, rfl, h2, h3, h4, h5.imp id fun ⟨g, o, q1, q2, q3, q4⟩ => ⟨g, o, q1, q3, q3, q4⟩⟩
theorem RdK.keeps {k : IntKind} {B : Nat} {gs : List Nat} {ys : List Int} {v : Value} {V W : World} (h : RdK k B ys v V) (q : Qb0 gs V W) (hc : ∀ c ∈ gs, B ≤ c) : RdK k B ys v W := h.keep q.size fun g hg hl => q.block g hl (fun hm => by have := hc g hm; omega)
theorem Qan (k : IntKind) (xs : List Int) : (ints k xs).all (·.oneCell') = true := by
  rw [← Array.all_toList, List.all_eq_true]
  intro v hv
  simp only [ints, List.mem_map] at hv
  obtain ⟨x, _, rfl⟩ := hv
  rfl
theorem QaJ {k : IntKind} (pre post : List (Array Value)) (xs : List Int) (n0 i off : Nat) (hp : (cat pre).size = n0) (hoff : off = n0 + i) (hi : i < xs.length) : (cat (pre ++ ([ints k xs] ++ post)))[off]? = some (.int k (nth xs i)) := by
  subst hoff
  exact Qaq pre [ints k xs] post n0 hp i _ (QcM k xs i hi)
theorem Qak (v : Value) (h : v.oneCell' = true) : (#[v].all (·.oneCell')) = true := by simp [h]
theorem QaV {P : Program} (t : TypeId) {e : TypeId} {k : IntKind} (xs ys : List Int) {n : Nat} {b : Bool} (h : decide (xs = ys) = b) (hx : xs.length = n) (hy : ys.length = n) (ht : P.underlying t = some (.array n e)) (he : P.underlying e = some (.int k)) (hc : P.cellsOf e = 1) (w : World) :
    (binOp .eql t (.agg (ints k xs)) (.agg (ints k ys))).run P w = .ok (.bool b) w := by
  subst h; exact Qg1 w ht he hc xs ys hx hy
section
variable {ds : List Deferred} {P : Program} {ops : Array Oper} {Q : Exit → Act → World → Prop} {rest : List Oper} {o : Oper} {N : Nat} {L : Env} {W : World}
end
end Go.Proofs.Ytfelfmchachljaa.Auto
end
section
namespace Go.Proofs.Ytfelfmchachljaa.Auto
open Go Go.RowKit
open Rely Own
set_option linter.unusedVariables false
set_option linter.unusedSimpArgs false
section
variable {P : Program} {w : World} {k kn : IntKind} {T : TypeId} {t tn ty : TypeId}
end
end Go.Proofs.Ytfelfmchachljaa.Auto
end
section
namespace Go.Proofs.Ytfelfmchachljaa.Sha
open Go Go.RowKit
open Rely Auto Own
set_option linter.unusedVariables false
set_option linter.unusedSimpArgs false
theorem Qd7 {k : IntKind} {B : Nat} {ys : List Int} {a : Option Addr} {n c : Nat} {W : World} (h : RdK k B ys (.slice a n c) W) (h0 : 0 < ys.length) : ∃ g o, a = some ⟨g, o, none⟩ ∧ g < B ∧ ∀ i, i < ys.length → W.cell? ⟨g, o + i, none⟩ = some (.int k (nth ys i)) := by
  obtain ⟨a', cap', e, h2, h3, h4, h5⟩ := h
  simp only [Value.slice.injEq] at e
  obtain ⟨rfl, -, -⟩ := e
  rcases h5 with h5 | ⟨g, o, q1, q2, q3, q4⟩
  · rw [h5] at h0; simp at h0
  · exact ⟨g, o, q1, q2, q4⟩
section
variable {P : Program} {ρ : Operand → Value} {o : Oper} {w : World}
theorem Qce (t : TypeId) (x y : Operand) (k : IntKind) (n g off len cap : Nat) (e : TypeId) (a : Option Addr) (z : Int) (ha : a = some ⟨g, off, none⟩) (hz : z = (n : Int)) (ho : o.op = .indexAddr t x y) (hx : ρ x = .slice a len cap) (hy : ρ y = .int k z)
    (hu : P.underlying t = some (.slice e)) (hs : (P.info? e).map (·.size) = some 1) (hn : n < len) : (execOp ρ o).run P w = .ok (.value (.pointer (some ⟨g, off + n, none⟩))) w := by
  subst ha; subst hz
  exact Qfg t x y k n g off len cap e ho hx hy hu hs hn
end
theorem QcI {k : IntKind} {T : TypeId} {base g : Nat} {xs : List Int} {v : Value} {W : World} (h : OwnN k T base xs v W) (hg : W.heap.size ≤ g) : v.ownBlock ≠ some g := fun e => by have := h.lt e; omega
section
variable {ds : List Deferred} {Fe : Fence} {nf : Nat} {P : Program} {ops : Array Oper} {Q : Exit → Act → World → Prop} {rest : List Oper} {o : Oper} {N : Nat} {L : Env} {w : World}
end
section
variable {ds : List Deferred} {P : Program} {ops : Array Oper} {Q : Exit → Act → World → Prop} {rest : List Oper} {o : Oper} {N : Nat} {L : Env} {w : World}
end
end Go.Proofs.Ytfelfmchachljaa.Sha
end
section
namespace Go.Proofs.Ytfelfmchachljaa.Sha
open Go Go.RowKit
open Rely Auto Own
set_option linter.unusedVariables false
set_option linter.unusedSimpArgs false
section
variable {P : Program} {ρ : Operand → Value} {o : Oper} {w : World}
theorem Qff (t : TypeId) (x z : Operand) (h : Nat) (e : TypeId) (ho : o.op = .slice t x none (some z) none) {a : Option Addr} {len cap : Nat} (hx : ρ x = .slice a len cap)
    (hu : P.underlying t = some (.slice e)) (hs : (P.info? e).map (·.size) = some 1) (kz : IntKind) (hz : ρ z = .int kz (h : Int)) (h2 : h ≤ cap) :
    (execOp ρ o).run P w = .ok (.value (.slice a h cap)) w := by
  cases hq : P.info? e with
  | none => simp [hq] at hs
  | some i =>
    have hs' : i.size = 1 := by simpa [hq] using hs
    unfold execOp
    have hadd : ∀ a : Option Addr, Option.map (fun x => x.add 0) a = a := fun a => by
      cases a with
      | none => rfl
      | some a => obtain ⟨b, o, s⟩ := a; cases s <;> simp [Addr.add]
    simp [ho, hx, hz, Instr.sliceAt, Instr.slice, Instr.sliceBounds, run_sliceBound, run_underlying hu, sizeOf, typeInfo, hq, hs', h2, hadd]
end
section
variable {ds : List Deferred} {P : Program} {ops : Array Oper} {Q : Exit → Act → World → Prop} {rest : List Oper} {o : Oper} {N : Nat} {L : Env} {w : World}
end
def QfY (T : TypeId) (base : Nat) (t : List Int) (v : Value) (W : World) : Prop := ∃ g c, v = .slice (some ⟨g, 0, none⟩) t.length c ∧ OwnN .u8 T base (t ++ [165, 90]) (.slice (some ⟨g, 0, none⟩) (t ++ [165, 90]).length c) W
theorem QfY.ext {T : TypeId} {base : Nat} {t : List Int} {v : Value} {W W' : World} (h : QfY T base t v W) (e : Ext W W') : QfY T base t v W' := by
  obtain ⟨g, c, rfl, h2⟩ := h
  exact ⟨g, c, rfl, h2.ext e⟩
theorem QfY.rd {T : TypeId} {base : Nat} {t : List Int} {v : Value} {W : World} (h : QfY T base t v W) : RdK .u8 W.heap.size t v W := by
  obtain ⟨g, c, rfl, h2⟩ := h
  obtain ⟨a, cap, e, q2, q3, q4, q5⟩ := OwnN.rd h2
  simp only [Value.slice.injEq] at e
  obtain ⟨rfl, -, rfl⟩ := e
  rw [List.length_append] at q2
  refine ⟨_, _, rfl, by omega, q3, q4, .inr ?_⟩
  rcases q5 with q5 | ⟨g', o, e1, e2, e3, e4⟩
  · simp at q5
  · refine ⟨g', o, e1, e2, e3, fun i hi => ?_⟩
    rw [e4 i (by rw [List.length_append]; omega)]
    simp [nth, List.getElem?_append_left hi]
def Qda (a : Option Addr) (c l : Nat) : Option Addr := if c = l then a else a.map fun z => z.add l
theorem Qdm {P : Program} {ρ : Operand → Value} {o : Oper} {w : World} (t : TypeId) (x z : Operand) (l : Nat) (e : TypeId) (ho : o.op = .slice t x (some z) none none) {a : Option Addr} {len cap : Nat} (hx : ρ x = .slice a len cap)
    (hu : P.underlying t = some (.slice e)) (hs : (P.info? e).map (·.size) = some 1) (kz : IntKind) (hz : ρ z = .int kz (l : Int)) (h1 : l ≤ len) (h2 : len ≤ cap) :
    (execOp ρ o).run P w = .ok (.value (.slice (Qda a cap l) (len - l) (cap - l))) w := by
  cases hq : P.info? e with
  | none => simp [hq] at hs
  | some i =>
    have hs' : i.size = 1 := by simpa [hq] using hs
    unfold execOp Qda
    have hadd : ∀ a : Option Addr, Option.map (fun x => x.add 0) a = a := fun a => by
      cases a with
      | none => rfl
      | some a => obtain ⟨b, o, s⟩ := a; cases s <;> simp [Addr.add]
    by_cases hc : cap = l
    · simp [ho, hx, hz, Instr.sliceAt, Instr.slice, Instr.sliceBounds, run_sliceBound, run_underlying hu, sizeOf, typeInfo, hq, hs', h1, h2, hadd, hc]
    · simp [ho, hx, hz, Instr.sliceAt, Instr.slice, Instr.sliceBounds, run_sliceBound, run_underlying hu, sizeOf, typeInfo, hq, hs', h1, h2, hadd, hc]
theorem QeM {k : IntKind} {B n c : Nat} {ys : List Int} {a : Option Addr} {W : World} (h : RdK k B ys (.slice a n c) W) (l : Nat) (hl : l ≤ ys.length) : RdK k B (ys.drop l) (.slice (Qda a c l) (n - l) (c - l)) W := by
  obtain ⟨a', cap, e, h2, h3, h4, h5⟩ := h
  simp only [Value.slice.injEq] at e
  obtain ⟨rfl, rfl, rfl⟩ := e
  refine ⟨_, _, by rw [List.length_drop], by rw [List.length_drop]; omega, by omega, ?_, ?_⟩
  · intro e
    unfold Qda at e
    split at e
    · omega
    · have := h4 (by cases a <;> simp_all); omega
  · rcases h5 with h5 | ⟨g, o, rfl, q2, q3, q4⟩
    · left; rw [h5]; simp
    · rcases Nat.lt_or_ge l ys.length with hlt | hge
      · right
        refine ⟨g, o + l, ?_, q2, q3, fun i hi => ?_⟩
        · unfold Qda
          rw [if_neg (by omega), Option.map_some]
          simp [Addr.add]
        · rw [List.length_drop] at hi
          rw [Nat.add_assoc, q4 (l + i) (by omega)]
          simp [nth]
      · left; exact List.drop_of_length_le hge
theorem Qgm {k : IntKind} {B n c : Nat} {ys : List Int} {a : Option Addr} {W : World} (h : RdK k B ys (.slice a n c) W) (l : Nat) (hl : l ≤ ys.length) : RdK k B (ys.take l) (.slice a l c) W := by
  obtain ⟨a', cap, e, h2, h3, h4, h5⟩ := h
  simp only [Value.slice.injEq] at e
  obtain ⟨rfl, rfl, rfl⟩ := e
  have hlen : (ys.take l).length = l := by rw [List.length_take]; omega
  refine ⟨_, _, by rw [hlen], by omega, h3, h4, ?_⟩
  rcases h5 with rfl | ⟨g, off, rfl, q2, q3, q4⟩
  · exact .inl (by simp)
  · refine .inr ⟨g, off, rfl, q2, q3, fun i hi => ?_⟩
    rw [hlen] at hi
    rw [q4 i (by omega)]
    simp [nth, List.getElem?_take, hi]
set_option maxHeartbeats 4000000 in
theorem numE (n : Int) (h0 : n ≠ 0) (w : World) : Calls Try.prog 93 #[.iface 102 (.int .i64 n)] w (Ret w (.int .i64 n)) := by
  refine enter 19 [(0, .iface 102 (.int .i64 n))] Try.func93 rfl rfl kj rfl ?_
  refine wp_seq_k fun K1 hK1 => ?_
  refine Qae ?_
  refine Qab (.int .i64 0) 2 rfl kj kj ?_
  refine Qaf ?_
  refine hK1 _ _ ?_
  refine wp_seq_k fun K2 hK2 => ?_
  refine wp_seq_k fun K3 hK3 => ?_
  refine Qae ?_
  refine Qab (.iface 102 (.int .i64 n)) 5 rfl kj kj ?_
  refine Qab (.bool false) 6 rfl kj kj ?_
  refine Qaf ?_
  refine hK3 _ _ ?_
  refine cond_false kj ?_
  refine wp_skip ?_
  refine hK2 _ _ ?_
  refine wp_seq_k fun K4 hK4 => ?_
  refine Qae ?_
  refine Qab (.iface 102 (.int .i64 n)) 8 rfl kj kj ?_
  refine Qab (.tuple #[.int .i64 n, .bool true]) 9 rfl kj kj ?_
  refine Qab (.tuple #[.int .i64 n, .bool true]) 7 rfl kj kj ?_
  refine Qab (.int .i64 n) 10 rfl kj kj ?_
  refine Qab (.bool true) 11 rfl kj kj ?_
  refine Qab (.int .i64 n) 3 rfl kj kj ?_
  refine Qab (.bool true) 4 rfl kj kj ?_
  refine Qaf ?_
  refine hK4 _ _ ?_
  refine wp_seq_k fun K5 hK5 => ?_
  refine wp_seq_k fun K6 hK6 => ?_
  refine Qae ?_
  refine Qab (.bool true) 12 rfl kj kj ?_
  refine Qab (.bool false) 13 rfl kj kj ?_
  refine Qab (.bool false) 14 rfl kj kj ?_
  refine Qab (.int .i64 n) 15 rfl kj kj ?_
  refine Qab (.bool false) 16 rfl kj (Qa0 (u := .bool ((n == 0))) kj (congrArg Value.bool (beq_eq_false_iff_ne.2 h0))) ?_
  refine Qab (.bool false) 17 rfl kj kj ?_
  refine Qaf ?_
  refine hK6 _ _ ?_
  refine cond_false kj ?_
  refine wp_skip ?_
  refine hK5 _ _ ?_
  refine wp_seq_k fun K7 hK7 => ?_
  refine Qae ?_
  refine Qab (.int .i64 n) 18 rfl kj kj ?_
  refine Qab (.int .i64 n) 2 rfl kj kj ?_
  refine Qaf ?_
  refine hK7 _ _ ?_
  refine wp_ret ?_
  repeat (first | with_reducible refine goR1 ?_ | with_reducible refine goR2 ?_)
  exact (show bodyPost _ _ _ .ret _ _ from ret1 (.int .i64 n) rfl (Qa1 kj) ⟨rfl, (Rely.Ext.refl w)⟩)
end Go.Proofs.Ytfelfmchachljaa.Sha
end
section
namespace Go.Proofs.Ytfelfmchachljaa.Auto
open Go Go.RowKit
open Rely Own
set_option linter.unusedVariables false
variable {ds : List Deferred}
section
variable {P : Program} {ops : Array Oper} {Q : Exit → Act → World → Prop} {rest : List Oper} {o : Oper} {N : Nat} {L : Env} {w : World}
end
def Qcj (gs : List Nat) (A B : World) : Prop := A.heap.size ≤ B.heap.size ∧ ∀ k cs t fr, A.heap[k]? = some (.cells cs t fr) → k ∉ gs → B.heap[k]? = some (.cells cs t fr)
theorem Qcj.refl (gs : List Nat) (A : World) : Qcj gs A A := ⟨Nat.le_refl _, fun _ _ _ _ h _ => h⟩
theorem Qcj.trans {gs : List Nat} {A B C : World} (h : Qcj gs A B) (k : Qcj gs B C) : Qcj gs A C := ⟨Nat.le_trans h.1 k.1, fun i cs t fr q n => k.2 i cs t fr (h.2 i cs t fr q n) n⟩
theorem Qcj.ext {gs : List Nat} {A B : World} (e : Ext A B) : Qcj gs A B := ⟨e.size, fun k cs t fr q _ => (e.block k (Qa5 q)).trans q⟩
theorem Qcj.keeps {gs : List Nat} {A B : World} (e : Qb0 gs A B) : Qcj gs A B := ⟨e.size, fun k cs t fr q n => (e.block k (Qa5 q) n).trans q⟩
theorem Qcj.book {gs : List Nat} {w : World} (W : World) (l : Nat) (o o' : Obj) (hl : w.heap.size ≤ l) (h : W.heap[l]? = some o) (hc : o.isCells = false) (_ : o.isWalk = false) : Qcj gs W (W.putObj l o') :=
  ⟨by simp, fun k cs t fr q _ => (World.putObj_heap_other (fun e => by subst e; rw [h] at q; cases q; cases hc)).trans q⟩
theorem Qcj.row {gs : List Nat} {A B : World} {k : Nat} {cs : Array Value} {t : TypeId} (h : Qcj gs A B) (r : A.heap[k]? = some (.cells cs t)) (n : k ∉ gs) : B.heap[k]? = some (.cells cs t) := h.2 k cs t _ r n
theorem Qcj.cell {gs : List Nat} {A B : World} {b off : Nat} {v : Value} (h : Qcj gs A B) (hc : A.cell? ⟨b, off, none⟩ = some v) (n : b ∉ gs) : B.cell? ⟨b, off, none⟩ = some v := by
  unfold World.cell? at hc ⊢
  cases hb : A.heap[b]? with
  | none => simp [hb] at hc
  | some ob =>
    cases ob with
    | cells cs t fr => rw [h.2 b cs t fr hb n]; rw [hb] at hc; exact hc
    | _ => simp [hb] at hc
def Grew (w W : World) : Prop := w.heap.size ≤ W.heap.size
theorem Grew.refl (w : World) : Grew w w := Nat.le_refl _
theorem Grew.size {w W : World} (h : Grew w W) : w.heap.size ≤ W.heap.size := h
theorem Grew.ext {w W W' : World} (h : Grew w W) (e : Ext W W') : Grew w W' := Nat.le_trans h e.size
theorem Grew.puts {w W W' : World} {g : Nat} (h : Grew w W) (p : Puts W g W') : Grew w W' := Nat.le_trans h (Nat.le_of_eq p.2.2.2.1.symm)
theorem Grew.below {w W : World} {n : Nat} (h : Below n w W) : Grew w W := h.size
end Go.Proofs.Ytfelfmchachljaa.Auto
end
section
namespace Go.Proofs.Ytfelfmchachljaa.Auto
open Go Go.RowKit
open Rely Own
set_option linter.unusedVariables false
set_option linter.unusedSimpArgs false
variable {ds : List Deferred}
section
variable {P : Program} {R : World → World → Prop} {w0 : World} {N : Nat} {L : Env} {F : List KE → Prop} {o : Oper} {os : List Oper} {s : Src} {ss : List Src} {C : List KE}
end
def Qen (g : Nat) (X Y : Obj) (A B : World) : Prop := ExtB g A B ∧ (B.heap[g]? = A.heap[g]? ∨ B.heap[g]? = some Y)
theorem QfK (g : Nat) (A : World) : ExtB g A A := ⟨rfl, rfl, rfl, Nat.le_refl _, fun _ _ _ => rfl⟩
theorem Qfp {g : Nat} {A B C : World} (h : ExtB g A B) (k : ExtB g B C) : ExtB g A C :=
  ⟨k.1.trans h.1, k.2.1.trans h.2.1, k.2.2.1.trans h.2.2.1, Nat.le_trans h.2.2.2.1 k.2.2.2.1, fun i hi hn => (k.2.2.2.2 i (Nat.lt_of_lt_of_le hi h.2.2.2.1) hn).trans (h.2.2.2.2 i hi hn)⟩
theorem Qen.refl (g : Nat) (X Y : Obj) (A : World) : Qen g X Y A A := ⟨QfK g A, .inl rfl⟩
theorem Qen.trans {g : Nat} {X Y : Obj} {A B C : World} (h : Qen g X Y A B) (k : Qen g X Y B C) : Qen g X Y A C :=
  ⟨Qfp h.1 k.1, by
    rcases k.2 with q | q
    · rcases h.2 with r | r
      · exact .inl (q.trans r)
      · exact .inr (q.trans r)
    · exact .inr q⟩
theorem Qen.row {g : Nat} {X Y : Obj} {A B : World} (h : Qen g X Y A B) (hX : A.heap[g]? = some X) : B.heap[g]? = some X ∨ B.heap[g]? = some Y := by
  rcases h.2 with q | q
  · exact .inl (q.trans hX)
  · exact .inr q
end Go.Proofs.Ytfelfmchachljaa.Auto
end
section
namespace Go.Proofs.Ytfelfmchachljaa.Wr
open Go Go.RowKit
open Rely Auto Own Sha
set_option linter.unusedVariables false
set_option linter.unusedSimpArgs false
theorem typW {W : World} {a b : Nat} {c d : Array Value} {s t : TypeId} (h : W.heap[a]? = some (.cells c s)) (k : W.heap[b]? = some (.cells d t)) (hn : s ≠ t) : a ≠ b := fun e => by
  subst e
  rw [h] at k
  simp only [Option.some.injEq, Obj.cells.injEq] at k
  exact hn k.2.1
theorem QdD {k : IntKind} {T : TypeId} {base : Nat} {xs : List Int} {v : Value} {W : World} (h : OwnN k T base xs v W) {g : Nat} (hg : v.ownBlock = some g) : ∃ cur, W.heap[g]? = some (.cells cur T) := by
  rcases h.1.2 with ⟨rfl, _⟩ | ⟨g', c, cur, rfl, q2, q3, _⟩
  · cases hg
  · obtain rfl : g' = g := Option.some.inj hg
    exact ⟨cur, q3⟩
theorem Qcy {k : IntKind} {T T' : TypeId} {base g : Nat} {xs : List Int} {v : Value} {W : World} {c : Array Value} (h : OwnN k T base xs v W) (r : W.heap[g]? = some (.cells c T')) (hn : T ≠ T') : v.ownBlock ≠ some g := fun e => by
  obtain ⟨cur, q⟩ := QdD h e
  exact typW q r hn rfl
theorem Qbe {k : IntKind} {T : TypeId} {b g : Nat} {xs : List Int} {v : Value} {W W' : World} (h : OwnN k T b xs v W) (q : ExtB g W W') (hn : v.ownBlock ≠ some g) : OwnN k T b xs v W' := h.keep fun k hk => q.2.2.2.2 k (h.lt hk) (fun e => hn (by rw [hk, e]))
theorem Qbf {k : IntKind} {T : TypeId} {base g : Nat} {xs : List Int} {v : Value} {W : World} (h : OwnN k T base xs v W) (hg : g < base) : v.ownBlock ≠ some g := fun e => by
  have := h.ge e
  omega
theorem Qa3 {a b : List Int} (ha : Qao a) (hb : Qao b) : Qao (a ++ b) := fun x hx => (List.mem_append.1 hx).elim (ha x) (hb x)
structure GW (base gw : Nat) (w W : World) : Prop where
  os : W.os = w.os
  tape : W.tape = w.tape
  output : W.output = w.output
  size : w.heap.size ≤ W.heap.size
  block : ∀ k, k < w.heap.size → k ≠ gw → (k < base ∨ ∀ cs fr, w.heap[k]? ≠ some (.cells cs 5 fr)) → W.heap[k]? = w.heap[k]?
theorem GW.refl (base gw : Nat) (w : World) : GW base gw w w := ⟨rfl, rfl, rfl, Nat.le_refl _, fun _ _ _ _ => rfl⟩
theorem GW.trans {base gw : Nat} {u w W : World} (h : GW base gw u w) (k : GW base gw w W) : GW base gw u W :=
  ⟨k.os.trans h.os, k.tape.trans h.tape, k.output.trans h.output, Nat.le_trans h.size k.size, fun i hi hn hc => by
    have e := h.block i hi hn hc
    refine (k.block i (Nat.lt_of_lt_of_le hi h.size) hn ?_).trans e
    rcases hc with hc | hc
    · exact .inl hc
    · exact .inr fun cs fr => by rw [e]; exact hc cs fr⟩
theorem GW.of_ext {base gw : Nat} {w W : World} (e : Ext w W) : GW base gw w W := ⟨e.os, e.tape, e.output, e.size, fun k hk _ _ => e.block k hk⟩
theorem GW.ext {base gw : Nat} {u w W : World} (h : GW base gw u w) (e : Ext w W) : GW base gw u W := h.trans (GW.of_ext e)
theorem GW.of_but {base gw : Nat} {w W : World} (e : ExtB gw w W) : GW base gw w W := ⟨e.1, e.2.1, e.2.2.1, e.2.2.2.1, fun k hk hn _ => e.2.2.2.2 k hk hn⟩
theorem GW.put {base gw g : Nat} {u w W : World} (h : GW base gw u w) (p : Puts w g W) (hg : u.heap.size ≤ g) : GW base gw u W :=
  ⟨p.1.trans h.os, p.2.1.trans h.tape, p.2.2.1.trans h.output, by have := h.size; have := p.2.2.2.1; omega, fun k hk hn hc => (p.2.2.2.2 k (by omega)).trans (h.block k hk hn hc)⟩
theorem GW.putg {base gw : Nat} {u w W : World} (h : GW base gw u w) (p : Puts w gw W) : GW base gw u W :=
  ⟨p.1.trans h.os, p.2.1.trans h.tape, p.2.2.1.trans h.output, by have := h.size; have := p.2.2.2.1; omega, fun k hk hn hc => (p.2.2.2.2 k hn).trans (h.block k hk hn hc)⟩
theorem GW.row {base gw g : Nat} {w W : World} {c : Array Value} {T : TypeId} (h : GW base gw w W) (r : w.heap[g]? = some (.cells c T)) (hT : T ≠ 5) (hn : g ≠ gw) : W.heap[g]? = some (.cells c T) :=
  (h.block g (Qa5 r) hn (.inr fun cs fr e => by rw [r] at e; simp only [Option.some.injEq, Obj.cells.injEq] at e; exact hT e.2.1)).trans r
theorem GW.toExt {base gw : Nat} {w W : World} (h : GW base gw w W) (hb : w.heap.size ≤ base) (hg : w.heap.size ≤ gw) : Ext w W := ⟨h.os, h.tape, h.output, h.size, fun k hk => h.block k hk (by omega) (.inl (by omega))⟩
theorem Qgl {base gw : Nat} {w W : World} {ys : List Int} {v : Value} (h : RdK .u8 base ys v w) (q : GW base gw w W) (hb : base ≤ gw) : RdK .u8 base ys v W := h.keep q.size fun g hg hl => q.block g hl (by omega) (.inl hg)
def WSt (base gw : Nat) (s : Option (List Int)) (W : World) : Prop := ∃ (u : Value) (xs : List Int) (bad : Bool), W.heap[gw]? = some (.cells #[u, .bool bad] 174) ∧ OwnN .u8 5 base xs u W ∧ xs.length ≤ 65536 ∧ Qao xs ∧ s = bif bad then none else some xs
theorem WSt.lt {base gw : Nat} {s : Option (List Int)} {W : World} (h : WSt base gw s W) : gw < W.heap.size := by
  obtain ⟨u, xs, bad, h1, -⟩ := h
  exact Qa5 h1
theorem WSt.ext {base gw : Nat} {s : Option (List Int)} {w W : World} (h : WSt base gw s w) (e : Ext w W) : WSt base gw s W := by
  obtain ⟨u, xs, bad, h1, h2, h3⟩ := h
  exact ⟨u, xs, bad, Qau h1 e, h2.ext e, h3⟩
theorem WSt.put {base gw g : Nat} {s : Option (List Int)} {w W : World} {c : Array Value} {T : TypeId} (h : WSt base gw s w) (p : Puts w g W) (r : w.heap[g]? = some (.cells c T)) (hT : T ≠ 5) (hn : gw ≠ g) : WSt base gw s W := by
  obtain ⟨u, xs, bad, h1, h2, h3⟩ := h
  exact ⟨u, xs, bad, Puts.row p h1 hn, h2.puts p (Qcy h2 r (Ne.symm hT)), h3⟩
def rawS (s : Option (List Int)) (ys : List Int) : Option (List Int) := s.bind fun xs => if xs.length + ys.length ≤ 65536 then some (xs ++ ys) else none
def byV (n : Int) (k : Nat) : Int := IntKind.u8.wrap (n.fdiv (2 ^ (8 * k)))
theorem Qdh (n : Int) (k : Nat) : Qao [byV n k] := fun x hx => by
  simp only [List.mem_cons, List.not_mem_nil, or_false] at hx
  subst hx
  have h3 : ∀ z : Int, IntKind.u8.wrap z = z % 256 := fun _ => rfl
  unfold byV
  rw [h3]; omega
def numR (n : Int) : Nat → Option (List Int) → Option (List Int)
  | 0, s => s
  | k + 1, s => numR n k (rawS s [byV n k])
def okN (n : Int) (size : Nat) : Bool := decide (0 ≤ n) && (n.fdiv (2 ^ (8 * size)) == 0)
def Qax (s : Option (List Int)) (ok : Bool) : Option (List Int) := bif ok then s else none
def numS (s : Option (List Int)) (n : Int) (size : Nat) : Option (List Int) := numR n size (Qax s (okN n size))
def QaE (s : Option (List Int)) (n : Int) : Option (List Int) := numS (Qax s (decide (n < 32))) n 1
def bytS (s : Option (List Int)) (ys : List Int) : Option (List Int) := rawS (numS s ((ys.length : Nat) : Int) 2) ys
end Go.Proofs.Ytfelfmchachljaa.Wr
end
section
namespace Go.Proofs.Ytfelfmchachljaa.Wr
open Go Go.RowKit
open Rely Auto Own Sha
set_option linter.unusedVariables false
set_option linter.unusedSimpArgs false
set_option maxHeartbeats 4000000 in
theorem QhT (gw : Nat) (u : Value) (ok : Bool) (w : World) (hg : w.heap[gw]? = some (.cells #[u, .bool true] 174)) : Calls Try.prog 98 #[.pointer (some ⟨gw, 0, none⟩), .bool ok] w (fun e W => e = .returned (.tuple #[]) ∧ ExtB gw w W ∧ W.heap[gw]? = some (.cells (cat [#[u], #[.bool true]]) 174)) := by
  refine enter 15 [(0, .pointer (some ⟨gw, 0, none⟩)), (1, .bool ok)] Try.func98 rfl rfl kj rfl ?_
  refine Qae ?_
  refine Qab (.pointer (some ⟨gw, 0, none⟩)) 4 rfl kj kj ?_
  refine Qab (.pointer (some ⟨gw, 0, none⟩)) 5 rfl kj kj ?_
  refine Qab (.pointer (some ⟨gw, 0, none⟩)) 6 rfl kj kj ?_
  refine Qab (.pointer (some ⟨gw, 1, none⟩)) 7 rfl kj kj ?_
  refine Qab (.bool true) 8 rfl kj (Qal 4 _ gw 1 174 _ (.bool true) _ hg rfl kj kj kj) ?_
  refine Qab (.bool true) 9 rfl kj kj ?_
  refine Qas 10 rfl kj ?_
  refine Qas 11 rfl kj ?_
  refine Qab (.bool true) 12 rfl kj kj ?_
  refine Qab (.pointer (some ⟨gw, 0, none⟩)) 13 rfl kj kj ?_
  refine Qab (.pointer (some ⟨gw, 1, none⟩)) 14 rfl kj kj ?_
  refine Qav gw _ (cat [#[u], #[.bool true]]) 174 hg rfl kj (Qbl 4 _ _ gw 1 174 _ (.bool true) hg rfl kj kj kj kj kj rfl) fun W1 p1 r1_1 => ?_
  have x1 : ExtB gw w W1 := ExtB.puts (ExtB.refl gw w) p1
  refine Qaf ?_
  repeat (first | with_reducible refine goX1 ?_ | with_reducible refine goX2 ?_ | with_reducible refine goX3 ?_)
  exact (show bodyPost _ _ _ .normal _ _ from end0 rfl ⟨rfl, x1, r1_1⟩)
set_option maxHeartbeats 4000000 in
theorem QhS (gw : Nat) (u : Value) (ok : Bool) (w : World) (hg : w.heap[gw]? = some (.cells #[u, .bool false] 174)) : Calls Try.prog 98 #[.pointer (some ⟨gw, 0, none⟩), .bool ok] w (fun e W => e = .returned (.tuple #[]) ∧ ExtB gw w W ∧ W.heap[gw]? = some (.cells (cat [#[u], #[.bool (!ok)]]) 174)) := by
  refine enter 15 [(0, .pointer (some ⟨gw, 0, none⟩)), (1, .bool ok)] Try.func98 rfl rfl kj rfl ?_
  refine Qae ?_
  refine Qab (.pointer (some ⟨gw, 0, none⟩)) 4 rfl kj kj ?_
  refine Qab (.pointer (some ⟨gw, 0, none⟩)) 5 rfl kj kj ?_
  refine Qab (.pointer (some ⟨gw, 0, none⟩)) 6 rfl kj kj ?_
  refine Qab (.pointer (some ⟨gw, 1, none⟩)) 7 rfl kj kj ?_
  refine Qab (.bool false) 8 rfl kj (Qal 4 _ gw 1 174 _ (.bool false) _ hg rfl kj kj kj) ?_
  refine Qab (.bool false) 9 rfl kj kj ?_
  refine Qab (.bool ok) 10 rfl kj kj ?_
  refine Qab (.bool (!ok)) 11 rfl kj kj ?_
  refine Qab (.bool (!ok)) 12 rfl kj kj ?_
  refine Qab (.pointer (some ⟨gw, 0, none⟩)) 13 rfl kj kj ?_
  refine Qab (.pointer (some ⟨gw, 1, none⟩)) 14 rfl kj kj ?_
  refine Qav gw _ (cat [#[u], #[.bool (!ok)]]) 174 hg rfl kj (Qbl 4 _ _ gw 1 174 _ (.bool (!ok)) hg rfl kj kj kj kj kj rfl) fun W1 p1 r1_1 => ?_
  have x1 : ExtB gw w W1 := ExtB.puts (ExtB.refl gw w) p1
  refine Qaf ?_
  repeat (first | with_reducible refine goX1 ?_ | with_reducible refine goX2 ?_ | with_reducible refine goX3 ?_)
  exact (show bodyPost _ _ _ .normal _ _ from end0 rfl ⟨rfl, x1, r1_1⟩)
theorem QfF (gw : Nat) (u : Value) (bad ok : Bool) (w : World) (hg : w.heap[gw]? = some (.cells #[u, .bool bad] 174)) : Calls Try.prog 98 #[.pointer (some ⟨gw, 0, none⟩), .bool ok] w (fun e W => e = .returned (.tuple #[]) ∧ ExtB gw w W ∧ W.heap[gw]? = some (.cells #[u, .bool (bad || !ok)] 174)) := by
  cases bad with
  | true => exact QhT gw u ok w hg
  | false => exact QhS gw u ok w hg
theorem QbA (base gw : Nat) (s : Option (List Int)) (ok : Bool) (w : World) (h : WSt base gw s w) : Calls Try.prog 98 #[.pointer (some ⟨gw, 0, none⟩), .bool ok] w (fun e W => e = .returned (.tuple #[]) ∧ GW base gw w W ∧ WSt base gw (Qax s ok) W) := by
  obtain ⟨u, xs, bad, h1, h2, h3, h4, rfl⟩ := h
  refine (QfF gw u bad ok w h1).mono fun e W hh => ⟨hh.1, GW.of_but hh.2.1, u, xs, _, hh.2.2, ?_, h3, h4, ?_⟩
  · exact h2.keep fun g hg => hh.2.1.2.2.2.2 g (h2.lt hg) (fun e => Qcy h2 h1 (by decide) (by rw [hg, e]))
  · cases bad <;> cases ok <;> rfl
end Go.Proofs.Ytfelfmchachljaa.Wr
end
section
namespace Go.Proofs.Ytfelfmchachljaa.Wr
open Go Go.RowKit
open Rely Auto Own Sha
set_option linter.unusedVariables false
set_option linter.unusedSimpArgs false
section
variable {ds : List Deferred} {P : Program} {ops : Array Oper} {Q : Exit → Act → World → Prop} {rest : List Oper} {o : Oper} {N : Nat} {L : Env} {W : World}
theorem Qes (base gw b : Nat) (s x : Operand) (t : TypeId) (ho : o.op = .call { callee := .builtin .append, args := #[s, x], argTypes := #[t, t] })
    (ht : P.underlying t = some (.slice 5)) (hi : (P.info? 5).map (fun i => (i.zero, i.size, i.bytes)) = some (some (.int .u8 0), 1, b)) (hb8 : b ≤ 8) (d : Nat) (hd : o.dst = some d) (hg : QbJ ops o N L = some true) {B : Nat} {v y : Value} {xs ys : List Int}
    (hs : Rely.look (envN N L) s = v) (hx : Rely.look (envN N L) x = y) (h : OwnN .u8 5 base xs v W) (hy : RdK .u8 B ys y W) (hn : xs.length + ys.length ≤ 1000000000) (hV : base ≤ W.heap.size) {c : Array Value} (r : W.heap[gw]? = some (.cells c 174))
    (kk : ∀ (u : Value) (W' : World), OwnN .u8 5 base (xs ++ ys) u W' → GW base gw W W' → W'.heap[gw]? = some (.cells c 174) → WL P ops Q rest (QaH ds N ((d, u) :: L)) W') : WL P ops Q (o :: rest) (QaH ds N L) W := by
  obtain ⟨v', W', h1, h2, h3, h4⟩ := QdP (ρ := Rely.look (envN N L)) (o := o) (W := W) s x t ho ht hi hb8 hs hx h hy hn hV
  refine QbF _ _ d hd hg h1 (kk v' W' h2 ⟨h3.os, h3.tape, h3.output, h3.size, fun i hi hne hc => h3.block i hi (fun q => ?_)⟩ ((h3.block gw (Qa5 r) (fun q => Qcy h r (by decide) q.symm)).trans r))
  rcases hc with hc | hc
  · have := h.ge q.symm; omega
  · obtain ⟨cur, e⟩ := QdD h q.symm
    exact hc cur _ e
end
set_option maxHeartbeats 4000000 in
theorem Qip (base gw : Nat) (u v : Value) (xs ys : List Int) (w : World) (hbw : base ≤ w.heap.size) (hg : w.heap[gw]? = some (.cells #[u, .bool true] 174)) (ho : OwnN .u8 5 base xs u w) (hxl : xs.length ≤ 65536) (hyl : ys.length ≤ 1000000) (hst : ∀ W, ExtB gw w W → RdK .u8 W.heap.size ys v W) (ok : Bool) (hok : decide (((xs.length + ys.length : Nat) : Int) ≤ 65536) = ok) :
    Calls Try.prog 104 #[.pointer (some ⟨gw, 0, none⟩), v] w (fun e W => e = .returned (.tuple #[]) ∧ GW base gw w W ∧ ∃ u', W.heap[gw]? = some (.cells (cat [#[u'], #[.bool true]]) 174) ∧ OwnN .u8 5 base (xs) u' W) := by
  obtain ⟨a_u, c_u, rfl, -⟩ := id (OwnN.rd ho)
  obtain ⟨a_y, c_y, rfl, -⟩ := id (hst _ (ExtB.refl gw w))
  refine enter 29 [(0, .pointer (some ⟨gw, 0, none⟩)), (1, .slice a_y ys.length c_y)] Try.func104 rfl rfl kj rfl ?_
  refine wp_seq_k fun K2 hK2 => ?_
  refine Qae ?_
  refine Qab (.pointer (some ⟨gw, 0, none⟩)) 4 rfl kj kj ?_
  refine Qab (.pointer (some ⟨gw, 0, none⟩)) 5 rfl kj kj ?_
  refine Qab (.pointer (some ⟨gw, 0, none⟩)) 6 rfl kj kj ?_
  refine Qab (.pointer (some ⟨gw, 0, none⟩)) 7 rfl kj kj ?_
  refine Qab (.slice a_u xs.length c_u) 8 rfl kj (Qal 26 _ gw 0 174 _ (.slice a_u xs.length c_u) _ hg rfl kj kj kj) ?_
  refine Qab (.int .i64 ((xs.length : Nat) : Int)) 9 rfl kj kj ?_
  refine Qab (.slice a_y ys.length c_y) 10 rfl kj kj ?_
  refine Qab (.int .i64 ((ys.length : Nat) : Int)) 11 rfl kj kj ?_
  refine Qab (.int .i64 ((xs.length + ys.length : Nat) : Int)) 12 rfl kj (Qa0 (u := .int .i64 (IntKind.i64.wrap (((xs.length : Nat) : Int) + ((ys.length : Nat) : Int)))) kj (congrArg (Value.int .i64) (i64n _ _ (by omega) (by omega)))) ?_
  refine Qab (.bool (ok)) 13 rfl kj (Qa0 (u := .bool (decide (((xs.length + ys.length : Nat) : Int) ≤ 65536))) kj (congrArg Value.bool hok)) ?_
  refine Qah (fun v W' => v = .tuple #[] ∧ ExtB gw w W' ∧ W'.heap[gw]? = some (.cells (cat [#[.slice a_u xs.length c_u], #[.bool true]]) 174)) 98 #[.pointer (some ⟨gw, 0, none⟩), .bool (ok)] 14 rfl kj kj ((QfF gw _ _ _ _ hg).mono (by intro e w' h; exact ⟨_, h.1, rfl, h.2⟩)) fun v W1 h3 => ?_
  obtain ⟨rfl, q1, r1_1⟩ := h3
  have x1 : GW base gw w W1 := GW.trans (GW.refl base gw w) (GW.of_but q1)
  refine Qaf ?_
  refine hK2 _ _ ?_
  refine wp_seq_k fun K4 hK4 => ?_
  refine Qae ?_
  refine Qab (.pointer (some ⟨gw, 0, none⟩)) 15 rfl kj kj ?_
  refine Qab (.pointer (some ⟨gw, 0, none⟩)) 16 rfl kj kj ?_
  refine Qab (.pointer (some ⟨gw, 1, none⟩)) 17 rfl kj kj ?_
  refine Qab (.bool true) 18 rfl kj (Qal 4 _ gw 1 174 _ (.bool true) _ r1_1 rfl kj kj kj) ?_
  refine Qab (.bool false) 19 rfl kj kj ?_
  refine Qaf ?_
  refine hK4 _ _ ?_
  refine cond_false kj ?_
  refine wp_skip ?_
  repeat (first | with_reducible refine goX1 ?_ | with_reducible refine goX2 ?_ | with_reducible refine goX3 ?_)
  have f5_1 := (Qbe ho q1 (Qcy ho hg (by decide)))
  exact (show bodyPost _ _ _ .normal _ _ from end0 rfl ⟨rfl, x1, _, r1_1, f5_1⟩)
set_option maxHeartbeats 4000000 in
theorem Qio (base gw : Nat) (u v : Value) (xs ys : List Int) (w : World) (hbw : base ≤ w.heap.size) (hg : w.heap[gw]? = some (.cells #[u, .bool false] 174)) (ho : OwnN .u8 5 base xs u w) (hxl : xs.length ≤ 65536) (hyl : ys.length ≤ 1000000) (hst : ∀ W, ExtB gw w W → RdK .u8 W.heap.size ys v W) (h : 65536 < xs.length + ys.length) :
    Calls Try.prog 104 #[.pointer (some ⟨gw, 0, none⟩), v] w (fun e W => e = .returned (.tuple #[]) ∧ GW base gw w W ∧ ∃ u', W.heap[gw]? = some (.cells (cat [#[u'], #[.bool true]]) 174) ∧ OwnN .u8 5 base (xs) u' W) := by
  obtain ⟨a_u, c_u, rfl, -⟩ := id (OwnN.rd ho)
  obtain ⟨a_y, c_y, rfl, -⟩ := id (hst _ (ExtB.refl gw w))
  refine enter 29 [(0, .pointer (some ⟨gw, 0, none⟩)), (1, .slice a_y ys.length c_y)] Try.func104 rfl rfl kj rfl ?_
  refine wp_seq_k fun K2 hK2 => ?_
  refine Qae ?_
  refine Qab (.pointer (some ⟨gw, 0, none⟩)) 4 rfl kj kj ?_
  refine Qab (.pointer (some ⟨gw, 0, none⟩)) 5 rfl kj kj ?_
  refine Qab (.pointer (some ⟨gw, 0, none⟩)) 6 rfl kj kj ?_
  refine Qab (.pointer (some ⟨gw, 0, none⟩)) 7 rfl kj kj ?_
  refine Qab (.slice a_u xs.length c_u) 8 rfl kj (Qal 26 _ gw 0 174 _ (.slice a_u xs.length c_u) _ hg rfl kj kj kj) ?_
  refine Qab (.int .i64 ((xs.length : Nat) : Int)) 9 rfl kj kj ?_
  refine Qab (.slice a_y ys.length c_y) 10 rfl kj kj ?_
  refine Qab (.int .i64 ((ys.length : Nat) : Int)) 11 rfl kj kj ?_
  refine Qab (.int .i64 ((xs.length + ys.length : Nat) : Int)) 12 rfl kj (Qa0 (u := .int .i64 (IntKind.i64.wrap (((xs.length : Nat) : Int) + ((ys.length : Nat) : Int)))) kj (congrArg (Value.int .i64) (i64n _ _ (by omega) (by omega)))) ?_
  refine Qab (.bool false) 13 rfl kj (Qa0 (u := .bool (decide (((xs.length + ys.length : Nat) : Int) ≤ 65536))) kj (congrArg Value.bool (decide_eq_false (by omega)))) ?_
  refine Qah (fun v W' => v = .tuple #[] ∧ ExtB gw w W' ∧ W'.heap[gw]? = some (.cells (cat [#[.slice a_u xs.length c_u], #[.bool true]]) 174)) 98 #[.pointer (some ⟨gw, 0, none⟩), .bool false] 14 rfl kj kj ((QfF gw _ _ _ _ hg).mono (by intro e w' h; exact ⟨_, h.1, rfl, h.2⟩)) fun v W1 h3 => ?_
  obtain ⟨rfl, q1, r1_1⟩ := h3
  have x1 : GW base gw w W1 := GW.trans (GW.refl base gw w) (GW.of_but q1)
  refine Qaf ?_
  refine hK2 _ _ ?_
  refine wp_seq_k fun K4 hK4 => ?_
  refine Qae ?_
  refine Qab (.pointer (some ⟨gw, 0, none⟩)) 15 rfl kj kj ?_
  refine Qab (.pointer (some ⟨gw, 0, none⟩)) 16 rfl kj kj ?_
  refine Qab (.pointer (some ⟨gw, 1, none⟩)) 17 rfl kj kj ?_
  refine Qab (.bool true) 18 rfl kj (Qal 4 _ gw 1 174 _ (.bool true) _ r1_1 rfl kj kj kj) ?_
  refine Qab (.bool false) 19 rfl kj kj ?_
  refine Qaf ?_
  refine hK4 _ _ ?_
  refine cond_false kj ?_
  refine wp_skip ?_
  repeat (first | with_reducible refine goX1 ?_ | with_reducible refine goX2 ?_ | with_reducible refine goX3 ?_)
  have f5_1 := (Qbe ho q1 (Qcy ho hg (by decide)))
  exact (show bodyPost _ _ _ .normal _ _ from end0 rfl ⟨rfl, x1, _, r1_1, f5_1⟩)
set_option maxHeartbeats 4000000 in
theorem Qin (base gw : Nat) (u v : Value) (xs ys : List Int) (w : World) (hbw : base ≤ w.heap.size) (hg : w.heap[gw]? = some (.cells #[u, .bool false] 174)) (ho : OwnN .u8 5 base xs u w) (hxl : xs.length ≤ 65536) (hyl : ys.length ≤ 1000000) (hst : ∀ W, ExtB gw w W → RdK .u8 W.heap.size ys v W) (h : xs.length + ys.length ≤ 65536) :
    Calls Try.prog 104 #[.pointer (some ⟨gw, 0, none⟩), v] w (fun e W => e = .returned (.tuple #[]) ∧ GW base gw w W ∧ ∃ u', W.heap[gw]? = some (.cells (cat [#[u'], #[.bool false]]) 174) ∧ OwnN .u8 5 base (xs ++ ys) u' W) := by
  obtain ⟨a_u, c_u, rfl, -⟩ := id (OwnN.rd ho)
  obtain ⟨a_y, c_y, rfl, -⟩ := id (hst _ (ExtB.refl gw w))
  refine enter 29 [(0, .pointer (some ⟨gw, 0, none⟩)), (1, .slice a_y ys.length c_y)] Try.func104 rfl rfl kj rfl ?_
  refine wp_seq_k fun K2 hK2 => ?_
  refine Qae ?_
  refine Qab (.pointer (some ⟨gw, 0, none⟩)) 4 rfl kj kj ?_
  refine Qab (.pointer (some ⟨gw, 0, none⟩)) 5 rfl kj kj ?_
  refine Qab (.pointer (some ⟨gw, 0, none⟩)) 6 rfl kj kj ?_
  refine Qab (.pointer (some ⟨gw, 0, none⟩)) 7 rfl kj kj ?_
  refine Qab (.slice a_u xs.length c_u) 8 rfl kj (Qal 26 _ gw 0 174 _ (.slice a_u xs.length c_u) _ hg rfl kj kj kj) ?_
  refine Qab (.int .i64 ((xs.length : Nat) : Int)) 9 rfl kj kj ?_
  refine Qab (.slice a_y ys.length c_y) 10 rfl kj kj ?_
  refine Qab (.int .i64 ((ys.length : Nat) : Int)) 11 rfl kj kj ?_
  refine Qab (.int .i64 ((xs.length + ys.length : Nat) : Int)) 12 rfl kj (Qa0 (u := .int .i64 (IntKind.i64.wrap (((xs.length : Nat) : Int) + ((ys.length : Nat) : Int)))) kj (congrArg (Value.int .i64) (i64n _ _ (by omega) (by omega)))) ?_
  refine Qab (.bool true) 13 rfl kj (Qa0 (u := .bool (decide (((xs.length + ys.length : Nat) : Int) ≤ 65536))) kj (congrArg Value.bool (decide_eq_true (by omega)))) ?_
  refine Qah (fun v W' => v = .tuple #[] ∧ ExtB gw w W' ∧ W'.heap[gw]? = some (.cells (cat [#[.slice a_u xs.length c_u], #[.bool false]]) 174)) 98 #[.pointer (some ⟨gw, 0, none⟩), .bool true] 14 rfl kj kj ((QfF gw _ _ _ _ hg).mono (by intro e w' h; exact ⟨_, h.1, rfl, h.2⟩)) fun v W1 h3 => ?_
  obtain ⟨rfl, q1, r1_1⟩ := h3
  have x1 : GW base gw w W1 := GW.trans (GW.refl base gw w) (GW.of_but q1)
  refine Qaf ?_
  refine hK2 _ _ ?_
  refine wp_seq_k fun K4 hK4 => ?_
  refine Qae ?_
  refine Qab (.pointer (some ⟨gw, 0, none⟩)) 15 rfl kj kj ?_
  refine Qab (.pointer (some ⟨gw, 0, none⟩)) 16 rfl kj kj ?_
  refine Qab (.pointer (some ⟨gw, 1, none⟩)) 17 rfl kj kj ?_
  refine Qab (.bool false) 18 rfl kj (Qal 4 _ gw 1 174 _ (.bool false) _ r1_1 rfl kj kj kj) ?_
  refine Qab (.bool true) 19 rfl kj kj ?_
  refine Qaf ?_
  refine hK4 _ _ ?_
  refine cond_true kj ?_
  refine Qae ?_
  refine Qab (.pointer (some ⟨gw, 0, none⟩)) 20 rfl kj kj ?_
  refine Qab (.pointer (some ⟨gw, 0, none⟩)) 21 rfl kj kj ?_
  refine Qab (.pointer (some ⟨gw, 0, none⟩)) 22 rfl kj kj ?_
  refine Qab (.pointer (some ⟨gw, 0, none⟩)) 23 rfl kj kj ?_
  refine Qab (.slice a_u xs.length c_u) 24 rfl kj (Qal 26 _ gw 0 174 _ (.slice a_u xs.length c_u) _ r1_1 rfl kj kj kj) ?_
  refine Qab (.slice a_y ys.length c_y) 25 rfl kj kj ?_
  have f5_1 := (Qbe ho q1 (Qcy ho hg (by decide)))
  refine Qes base gw 1 (.tmp 24) (.tmp 25) 26 rfl kj kj (by decide) 26 rfl kj kj kj f5_1 (hst _ q1) (by omega) (Nat.le_trans hbw x1.size) r1_1 fun u2 W2 ho2 q2 r1_2 => ?_
  have x2 : GW base gw w W2 := GW.trans x1 q2
  have hnb2 : u2.ownBlock ≠ some gw := Qcy ho2 r1_2 (by decide)
  obtain ⟨a2_, c2_, rfl, -⟩ := id (OwnN.rd ho2)
  refine Qab (.pointer (some ⟨gw, 0, none⟩)) 27 rfl kj kj ?_
  refine Qab (.pointer (some ⟨gw, 0, none⟩)) 28 rfl kj kj ?_
  refine Qav gw _ (cat [#[.slice a2_ ((xs ++ ys).length) c2_], #[.bool false]]) 174 r1_2 rfl kj (Qbl 26 _ _ gw 0 174 _ (.slice a2_ ((xs ++ ys).length) c2_) r1_2 rfl kj kj kj kj kj rfl) fun W3 p3 r1_3 => ?_
  have x3 : GW base gw w W3 := GW.putg x2 p3
  refine Qaf ?_
  repeat (first | with_reducible refine goX1 ?_ | with_reducible refine goX2 ?_ | with_reducible refine goX3 ?_)
  have f7_3 := (ho2.puts p3 hnb2)
  exact (show bodyPost _ _ _ .normal _ _ from end0 rfl ⟨rfl, x3, _, r1_3, f7_3⟩)
theorem rawW (base gw : Nat) (s : Option (List Int)) (ys : List Int) (v : Value) (w : World) (hbw : base ≤ w.heap.size) (h : WSt base gw s w) (hyl : ys.length ≤ 1000000) (hyb : Qao ys) (hst : ∀ W, ExtB gw w W → RdK .u8 W.heap.size ys v W) : Calls Try.prog 104 #[.pointer (some ⟨gw, 0, none⟩), v] w (fun e W => e = .returned (.tuple #[]) ∧ GW base gw w W ∧ WSt base gw (rawS s ys) W) := by
  obtain ⟨u, xs, bad, h1, h2, h3, h4, rfl⟩ := h
  cases bad with
  | true =>
    refine (Qip base gw u v xs ys w hbw h1 h2 h3 hyl hst _ rfl).mono fun e W ⟨a, b, u', c, d⟩ => ⟨a, b, u', xs, true, c, d, h3, h4, rfl⟩
  | false =>
    by_cases hf : xs.length + ys.length ≤ 65536
    · refine (Qin base gw u v xs ys w hbw h1 h2 h3 hyl hst hf).mono fun e W ⟨a, b, u', c, d⟩ => ⟨a, b, u', xs ++ ys, false, c, d, by rw [List.length_append]; omega, Qa3 h4 hyb, ?_⟩
      show rawS (some xs) ys = some (xs ++ ys)
      exact if_pos hf
    · refine (Qio base gw u v xs ys w hbw h1 h2 h3 hyl hst (by omega)).mono fun e W ⟨a, b, u', c, d⟩ => ⟨a, b, u', xs, true, c, d, h3, h4, ?_⟩
      show rawS (some xs) ys = none
      exact if_neg hf
end Go.Proofs.Ytfelfmchachljaa.Wr
end
section
namespace Go.Proofs.Ytfelfmchachljaa.Wr
open Go Go.RowKit
open Rely Auto Own Sha
set_option linter.unusedVariables false
set_option linter.unusedSimpArgs false
theorem shrZ (n : Int) (k : Nat) (hk : k ≤ 4) : n.fdiv (2 ^ min (((8 * k : Nat) : Int)).toNat IntKind.i64.bits) = n.fdiv (2 ^ (8 * k)) := by
  rw [Int.toNat_natCast, Nat.min_eq_left (show 8 * k ≤ IntKind.i64.bits by show 8 * k ≤ 64; omega)]
set_option maxHeartbeats 4000000 in
theorem Qgv (base gw : Nat) (s : Option (List Int)) (n : Int) (size : Nat) (w : World) (hbw : base ≤ w.heap.size) (h : WSt base gw s w) (hsz : size ≤ 4) (hn : 0 ≤ n) : Calls Try.prog 105 #[.pointer (some ⟨gw, 0, none⟩), .int .i64 n, .int .i64 ((size : Nat) : Int)] w (fun e W => e = .returned (.tuple #[]) ∧ GW base gw w W ∧ WSt base gw (numS s n size) W) := by
 have hgw := h.lt
 have hok : okN n size = (n.fdiv (2 ^ (8 * size)) == 0) := by unfold okN; simp [hn]
 refine enter 29 [(0, .pointer (some ⟨gw, 0, none⟩)), (1, .int .i64 n), (2, .int .i64 ((size : Nat) : Int))] Try.func105 rfl rfl kj rfl ?_
 refine wp_seq_k fun K1 hK1 => ?_
 refine Qae ?_
 refine Qab (.pointer (some ⟨gw, 0, none⟩)) 6 rfl kj kj ?_
 refine Qab (.int .i64 n) 7 rfl kj kj ?_
 refine Qab (.bool true) 8 rfl kj (Qa0 (u := .bool (decide (n ≥ 0))) kj (congrArg Value.bool (decide_eq_true (by omega)))) ?_
 refine Qab (.bool true) 9 rfl kj kj ?_
 refine Qab (.int .i64 n) 10 rfl kj kj ?_
 refine Qab (.int .i64 ((size : Nat) : Int)) 11 rfl kj kj ?_
 refine Qab (.int .i64 ((8 * size : Nat) : Int)) 12 rfl kj (Qa0 (u := .int .i64 (IntKind.i64.wrap (8 * ((size : Nat) : Int)))) kj (congrArg (Value.int .i64) (i64n _ _ (by omega) (by omega)))) ?_
 refine Qab (.int .i64 (n.fdiv (2 ^ (8 * size)))) 13 rfl kj (Qcp .shr _ _ _ _ .i64 .i64 _ _ _ rfl kj kj (Qh8 _ _ _ _ _ _ (by omega) (shrZ n size (by omega)))) ?_
 refine Qab (.bool (n.fdiv (2 ^ (8 * size)) == 0)) 14 rfl kj (Qa0 (u := .bool (((n.fdiv (2 ^ (8 * size))) == 0))) kj (congrArg Value.bool rfl)) ?_
 refine Qab (.bool (n.fdiv (2 ^ (8 * size)) == 0)) 15 rfl kj kj ?_
 refine Qah (fun v W' => v = .tuple #[] ∧ GW base gw w W' ∧ WSt base gw (Qax s (n.fdiv (2 ^ (8 * size)) == 0)) W') 98 #[.pointer (some ⟨gw, 0, none⟩), .bool (n.fdiv (2 ^ (8 * size)) == 0)] 16 rfl kj kj ((QbA base gw s (n.fdiv (2 ^ (8 * size)) == 0) _ h).mono (by rintro e w' ⟨rfl, h1, h2⟩; exact ⟨_, rfl, rfl, h1, h2⟩)) fun v2 W1 h2 => ?_
 obtain ⟨rfl, q1, ws2⟩ := h2
 have x1 : GW base gw w W1 := GW.trans (GW.refl base gw w) q1
 refine Qaf ?_
 refine hK1 _ _ ?_
 refine wp_block ?_
 refine QaX (fun (s1 : Nat × Option (List Int)) => [(0, .pointer (some ⟨gw, 0, none⟩)), (1, .int .i64 n), (2, .int .i64 ((s1.1 : Nat) : Int))]) (fun (s1 : Nat × Option (List Int)) W => (s1.1 ≤ size) ∧ (WSt base gw s1.2 W) ∧ (numR n s1.1 s1.2 = numR n size (Qax s (n.fdiv (2 ^ (8 * size)) == 0))) ∧ (GW base gw w W)) (fun (s1 : Nat × Option (List Int)) => s1.1) (size, Qax s (n.fdiv (2 ^ (8 * size)) == 0)) ⟨rfl, rfl, rfl, trivial⟩ ⟨(Nat.le_refl _), ws2, rfl, x1⟩ fun s1 X1 V1 hI1 => ?_
 obtain ⟨j, sc⟩ := s1
 obtain ⟨hj, hws, hnum, xx1⟩ := hI1
 replace hj : j ≤ size := hj
 replace hws : WSt base gw sc V1 := hws
 replace hnum : numR n j sc = numR n size (Qax s (n.fdiv (2 ^ (8 * size)) == 0)) := hnum
 replace xx1 : GW base gw w V1 := xx1
 refine wp_seq_k fun K3 hK3 => ?_
 refine wp_seq_k fun K4 hK4 => ?_
 refine Qae ?_
 refine Qab (.int .i64 ((j : Nat) : Int)) 17 rfl kj kj ?_
 refine Qab (.bool (decide (((j : Nat) : Int) > 0))) 18 rfl kj kj ?_
 refine Qaf ?_
 refine hK4 _ _ ?_
 refine Qa7 (t := decide (((j : Nat) : Int) > 0)) kj (fun c5 => ?_) (fun c5 => ?_)
 ·skip
  obtain ⟨jp, hjp⟩ : ∃ jp, j = jp + 1 := ⟨j - 1, by have := of_decide_eq_true c5; omega⟩
  refine wp_skip ?_
  refine hK3 _ _ ?_
  refine wp_block ?_
  refine wp_seq_k fun K6 hK6 => ?_
  refine Qae ?_
  refine Qab (.int .i64 ((j : Nat) : Int)) 19 rfl kj kj ?_
  refine Qab (.int .i64 (((jp : Nat) : Int))) 20 rfl kj (Qa0 (u := .int .i64 (IntKind.i64.wrap (((j : Nat) : Int) - 1))) kj (congrArg (Value.int .i64) (by rw [show ((j : Nat) : Int) - 1 = ((jp : Nat) : Int) by omega]; exact IntWalk.i64_in _ (by omega)))) ?_
  refine Qab (.int .i64 (((jp : Nat) : Int))) 2 rfl kj kj ?_
  refine Qaf ?_
  refine hK6 _ _ ?_
  refine Qae ?_
  refine Qab (.pointer (some ⟨gw, 0, none⟩)) 21 rfl kj kj ?_
  refine Qab (.int .i64 n) 22 rfl kj kj ?_
  refine Qab (.int .i64 (((jp : Nat) : Int))) 23 rfl kj kj ?_
  refine Qab (.int .i64 ((8 * jp : Nat) : Int)) 24 rfl kj (Qa0 (u := .int .i64 (IntKind.i64.wrap (8 * (((jp : Nat) : Int))))) kj (congrArg (Value.int .i64) (i64n _ _ (by omega) (by omega)))) ?_
  refine Qab (.int .i64 (n.fdiv (2 ^ (8 * jp)))) 25 rfl kj (Qcp .shr _ _ _ _ .i64 .i64 _ _ _ rfl kj kj (Qh8 _ _ _ _ _ _ (by omega) (shrZ n jp (by omega)))) ?_
  refine Qab (.int .u8 (byV n jp)) 26 rfl kj (Qa0 (u := .int .u8 (IntKind.u8.wrap (n.fdiv (2 ^ (8 * jp))))) kj (congrArg (Value.int .u8) rfl)) ?_
  refine Qb5 (ints .u8 ([(byV n jp)])) 5 1 27 rfl kj kj fun g7 W3 l7 e3 r7_3 => ?_
  have x3 : GW base gw w W3 := GW.ext xx1 e3
  have ws8 := WSt.ext hws e3
  have b7 : w.heap.size ≤ g7 := Nat.le_trans xx1.size l7
  refine Qah (fun v W' => v = .tuple #[] ∧ GW base gw W3 W' ∧ WSt base gw (rawS sc [byV n jp]) W') 104 #[.pointer (some ⟨gw, 0, none⟩), .slice (some ⟨g7, 0, none⟩) 1 1] 28 rfl kj kj ((rawW base gw sc [byV n jp] _ _ (Nat.le_trans hbw x3.size) ws8 (by show 1 ≤ 1000000; decide) (Qdh n jp) (fun W e => Qcf (xs := [byV n jp]) (n := 1) rfl (ExtB.row e r7_3 (Ne.symm (Nat.ne_of_lt (Nat.lt_of_lt_of_le hgw b7)))) (Qa5 (ExtB.row e r7_3 (Ne.symm (Nat.ne_of_lt (Nat.lt_of_lt_of_le hgw b7))))) (by decide))).mono (by rintro e w' ⟨rfl, h1, h2⟩; exact ⟨_, rfl, rfl, h1, h2⟩)) fun v9 W4 h9 => ?_
  obtain ⟨rfl, q4, ws9⟩ := h9
  have x4 : GW base gw w W4 := GW.trans x3 q4
  refine Qaf ?_
  repeat (first | with_reducible refine goX1 ?_ | with_reducible refine goX2 ?_ | with_reducible refine goX3 ?_)
  exact QaU (jp, rawS sc [byV n jp]) ⟨rfl, rfl, rfl, trivial⟩ ⟨(by omega), ws9, (by have h7 := hnum; rw [hjp] at h7; exact h7), x4⟩ (by omega)
 ·skip
  have hj0 : j = 0 := by have := of_decide_eq_false c5; omega
  refine wp_exit ?_
  repeat (first | with_reducible refine goX1 ?_ | with_reducible refine goX2 ?_ | with_reducible refine goX3 ?_)
  exact (show bodyPost _ _ _ .normal _ _ from end0 rfl ⟨rfl, xx1, by have h9 : sc = numR n size (Qax s (n.fdiv (2 ^ (8 * size)) == 0)) := (by have h7 := hnum; rw [hj0] at h7; exact h7); rw [h9] at hws; have h8 : okN n size = (n.fdiv (2 ^ (8 * size)) == 0) := hok; unfold numS; rw [h8]; exact hws⟩)
set_option maxHeartbeats 4000000 in
theorem Qgw (base gw : Nat) (s : Option (List Int)) (n : Int) (size : Nat) (w : World) (hbw : base ≤ w.heap.size) (h : WSt base gw s w) (hsz : size ≤ 4) (hn : n < 0) : Calls Try.prog 105 #[.pointer (some ⟨gw, 0, none⟩), .int .i64 n, .int .i64 ((size : Nat) : Int)] w (fun e W => e = .returned (.tuple #[]) ∧ GW base gw w W ∧ WSt base gw (numS s n size) W) := by
 have hgw := h.lt
 have hok : okN n size = false := by unfold okN; simp [show ¬ 0 ≤ n by omega]
 refine enter 29 [(0, .pointer (some ⟨gw, 0, none⟩)), (1, .int .i64 n), (2, .int .i64 ((size : Nat) : Int))] Try.func105 rfl rfl kj rfl ?_
 refine wp_seq_k fun K1 hK1 => ?_
 refine Qae ?_
 refine Qab (.pointer (some ⟨gw, 0, none⟩)) 6 rfl kj kj ?_
 refine Qab (.int .i64 n) 7 rfl kj kj ?_
 refine Qab (.bool false) 8 rfl kj (Qa0 (u := .bool (decide (n ≥ 0))) kj (congrArg Value.bool (decide_eq_false (by omega)))) ?_
 refine Qab (.bool false) 9 rfl kj kj ?_
 refine Qas 10 rfl kj ?_
 refine Qas 11 rfl kj ?_
 refine Qas 12 rfl kj ?_
 refine Qas 13 rfl kj ?_
 refine Qas 14 rfl kj ?_
 refine Qab (.bool false) 15 rfl kj kj ?_
 refine Qah (fun v W' => v = .tuple #[] ∧ GW base gw w W' ∧ WSt base gw (Qax s false) W') 98 #[.pointer (some ⟨gw, 0, none⟩), .bool false] 16 rfl kj kj ((QbA base gw s false _ h).mono (by rintro e w' ⟨rfl, h1, h2⟩; exact ⟨_, rfl, rfl, h1, h2⟩)) fun v2 W1 h2 => ?_
 obtain ⟨rfl, q1, ws2⟩ := h2
 have x1 : GW base gw w W1 := GW.trans (GW.refl base gw w) q1
 refine Qaf ?_
 refine hK1 _ _ ?_
 refine wp_block ?_
 refine QaX (fun (s1 : Nat × Option (List Int)) => [(0, .pointer (some ⟨gw, 0, none⟩)), (1, .int .i64 n), (2, .int .i64 ((s1.1 : Nat) : Int))]) (fun (s1 : Nat × Option (List Int)) W => (s1.1 ≤ size) ∧ (WSt base gw s1.2 W) ∧ (numR n s1.1 s1.2 = numR n size (Qax s false)) ∧ (GW base gw w W)) (fun (s1 : Nat × Option (List Int)) => s1.1) (size, Qax s false) ⟨rfl, rfl, rfl, trivial⟩ ⟨(Nat.le_refl _), ws2, rfl, x1⟩ fun s1 X1 V1 hI1 => ?_
 obtain ⟨j, sc⟩ := s1
 obtain ⟨hj, hws, hnum, xx1⟩ := hI1
 replace hj : j ≤ size := hj
 replace hws : WSt base gw sc V1 := hws
 replace hnum : numR n j sc = numR n size (Qax s false) := hnum
 replace xx1 : GW base gw w V1 := xx1
 refine wp_seq_k fun K3 hK3 => ?_
 refine wp_seq_k fun K4 hK4 => ?_
 refine Qae ?_
 refine Qab (.int .i64 ((j : Nat) : Int)) 17 rfl kj kj ?_
 refine Qab (.bool (decide (((j : Nat) : Int) > 0))) 18 rfl kj kj ?_
 refine Qaf ?_
 refine hK4 _ _ ?_
 refine Qa7 (t := decide (((j : Nat) : Int) > 0)) kj (fun c5 => ?_) (fun c5 => ?_)
 ·skip
  obtain ⟨jp, hjp⟩ : ∃ jp, j = jp + 1 := ⟨j - 1, by have := of_decide_eq_true c5; omega⟩
  refine wp_skip ?_
  refine hK3 _ _ ?_
  refine wp_block ?_
  refine wp_seq_k fun K6 hK6 => ?_
  refine Qae ?_
  refine Qab (.int .i64 ((j : Nat) : Int)) 19 rfl kj kj ?_
  refine Qab (.int .i64 (((jp : Nat) : Int))) 20 rfl kj (Qa0 (u := .int .i64 (IntKind.i64.wrap (((j : Nat) : Int) - 1))) kj (congrArg (Value.int .i64) (by rw [show ((j : Nat) : Int) - 1 = ((jp : Nat) : Int) by omega]; exact IntWalk.i64_in _ (by omega)))) ?_
  refine Qab (.int .i64 (((jp : Nat) : Int))) 2 rfl kj kj ?_
  refine Qaf ?_
  refine hK6 _ _ ?_
  refine Qae ?_
  refine Qab (.pointer (some ⟨gw, 0, none⟩)) 21 rfl kj kj ?_
  refine Qab (.int .i64 n) 22 rfl kj kj ?_
  refine Qab (.int .i64 (((jp : Nat) : Int))) 23 rfl kj kj ?_
  refine Qab (.int .i64 ((8 * jp : Nat) : Int)) 24 rfl kj (Qa0 (u := .int .i64 (IntKind.i64.wrap (8 * (((jp : Nat) : Int))))) kj (congrArg (Value.int .i64) (i64n _ _ (by omega) (by omega)))) ?_
  refine Qab (.int .i64 (n.fdiv (2 ^ (8 * jp)))) 25 rfl kj (Qcp .shr _ _ _ _ .i64 .i64 _ _ _ rfl kj kj (Qh8 _ _ _ _ _ _ (by omega) (shrZ n jp (by omega)))) ?_
  refine Qab (.int .u8 (byV n jp)) 26 rfl kj (Qa0 (u := .int .u8 (IntKind.u8.wrap (n.fdiv (2 ^ (8 * jp))))) kj (congrArg (Value.int .u8) rfl)) ?_
  refine Qb5 (ints .u8 ([(byV n jp)])) 5 1 27 rfl kj kj fun g7 W3 l7 e3 r7_3 => ?_
  have x3 : GW base gw w W3 := GW.ext xx1 e3
  have ws8 := WSt.ext hws e3
  have b7 : w.heap.size ≤ g7 := Nat.le_trans xx1.size l7
  refine Qah (fun v W' => v = .tuple #[] ∧ GW base gw W3 W' ∧ WSt base gw (rawS sc [byV n jp]) W') 104 #[.pointer (some ⟨gw, 0, none⟩), .slice (some ⟨g7, 0, none⟩) 1 1] 28 rfl kj kj ((rawW base gw sc [byV n jp] _ _ (Nat.le_trans hbw x3.size) ws8 (by show 1 ≤ 1000000; decide) (Qdh n jp) (fun W e => Qcf (xs := [byV n jp]) (n := 1) rfl (ExtB.row e r7_3 (Ne.symm (Nat.ne_of_lt (Nat.lt_of_lt_of_le hgw b7)))) (Qa5 (ExtB.row e r7_3 (Ne.symm (Nat.ne_of_lt (Nat.lt_of_lt_of_le hgw b7))))) (by decide))).mono (by rintro e w' ⟨rfl, h1, h2⟩; exact ⟨_, rfl, rfl, h1, h2⟩)) fun v9 W4 h9 => ?_
  obtain ⟨rfl, q4, ws9⟩ := h9
  have x4 : GW base gw w W4 := GW.trans x3 q4
  refine Qaf ?_
  repeat (first | with_reducible refine goX1 ?_ | with_reducible refine goX2 ?_ | with_reducible refine goX3 ?_)
  exact QaU (jp, rawS sc [byV n jp]) ⟨rfl, rfl, rfl, trivial⟩ ⟨(by omega), ws9, (by have h7 := hnum; rw [hjp] at h7; exact h7), x4⟩ (by omega)
 ·skip
  have hj0 : j = 0 := by have := of_decide_eq_false c5; omega
  refine wp_exit ?_
  repeat (first | with_reducible refine goX1 ?_ | with_reducible refine goX2 ?_ | with_reducible refine goX3 ?_)
  exact (show bodyPost _ _ _ .normal _ _ from end0 rfl ⟨rfl, xx1, by have h9 : sc = numR n size (Qax s false) := (by have h7 := hnum; rw [hj0] at h7; exact h7); rw [h9] at hws; have h8 : okN n size = false := hok; unfold numS; rw [h8]; exact hws⟩)
theorem QaW (base gw : Nat) (s : Option (List Int)) (n : Int) (size : Nat) (w : World) (hbw : base ≤ w.heap.size) (h : WSt base gw s w) (hsz : size ≤ 4) : Calls Try.prog 105 #[.pointer (some ⟨gw, 0, none⟩), .int .i64 n, .int .i64 ((size : Nat) : Int)] w (fun e W => e = .returned (.tuple #[]) ∧ GW base gw w W ∧ WSt base gw (numS s n size) W) := by
  by_cases hn : 0 ≤ n
  · exact Qgv base gw s n size w hbw h hsz hn
  · exact Qgw base gw s n size w hbw h hsz (by omega)
set_option maxHeartbeats 4000000 in
theorem QdG (base gw : Nat) (s : Option (List Int)) (n : Int) (w : World) (hbw : base ≤ w.heap.size) (h : WSt base gw s w) : Calls Try.prog 106 #[.pointer (some ⟨gw, 0, none⟩), .int .i64 n] w (fun e W => e = .returned (.tuple #[]) ∧ GW base gw w W ∧ WSt base gw (QaE s n) W) := by
  have hgw := h.lt
  refine enter 11 [(0, .pointer (some ⟨gw, 0, none⟩)), (1, .int .i64 n)] Try.func106 rfl rfl kj rfl ?_
  refine wp_seq_k fun K1 hK1 => ?_
  refine Qae ?_
  refine Qab (.pointer (some ⟨gw, 0, none⟩)) 4 rfl kj kj ?_
  refine Qab (.int .i64 n) 5 rfl kj kj ?_
  refine Qab (.bool (decide (n < 32))) 6 rfl kj kj ?_
  refine Qah (fun v W' => v = .tuple #[] ∧ GW base gw w W' ∧ WSt base gw (Qax s (decide (n < 32))) W') 98 #[.pointer (some ⟨gw, 0, none⟩), .bool (decide (n < 32))] 7 rfl kj kj ((QbA base gw s (decide (n < 32)) _ h).mono (by rintro e w' ⟨rfl, h1, h2⟩; exact ⟨_, rfl, rfl, h1, h2⟩)) fun v2 W1 h2 => ?_
  obtain ⟨rfl, q1, ws2⟩ := h2
  have x1 : GW base gw w W1 := GW.trans (GW.refl base gw w) q1
  refine Qaf ?_
  refine hK1 _ _ ?_
  refine Qae ?_
  refine Qab (.pointer (some ⟨gw, 0, none⟩)) 8 rfl kj kj ?_
  refine Qab (.int .i64 n) 9 rfl kj kj ?_
  refine Qah (fun v W' => v = .tuple #[] ∧ GW base gw W1 W' ∧ WSt base gw (numS (Qax s (decide (n < 32))) n 1) W') 105 #[.pointer (some ⟨gw, 0, none⟩), .int .i64 n, .int .i64 1] 10 rfl kj kj ((QaW base gw _ n 1 _ (Nat.le_trans hbw x1.size) ws2 (by decide)).mono (by rintro e w' ⟨rfl, h1, h2⟩; exact ⟨_, rfl, rfl, h1, h2⟩)) fun v3 W2 h3 => ?_
  obtain ⟨rfl, q2, ws3⟩ := h3
  have x2 : GW base gw w W2 := GW.trans x1 q2
  refine Qaf ?_
  repeat (first | with_reducible refine goX1 ?_ | with_reducible refine goX2 ?_ | with_reducible refine goX3 ?_)
  exact (show bodyPost _ _ _ .normal _ _ from end0 rfl ⟨rfl, x2, ws3⟩)
set_option maxHeartbeats 4000000 in
theorem QgH (base gw : Nat) (s : Option (List Int)) (ys : List Int) (v : Value) (w : World) (hbw : base ≤ w.heap.size) (hbg : base ≤ gw) (h : WSt base gw s w) (hyl : ys.length ≤ 1000000) (hyb : Qao ys) (hy : RdK .u8 base ys v w) : Calls Try.prog 117 #[.pointer (some ⟨gw, 0, none⟩), v] w (fun e W => e = .returned (.tuple #[]) ∧ GW base gw w W ∧ WSt base gw (bytS s ys) W) := by
  have hgw := h.lt
  obtain ⟨a_y, c_y, rfl, -⟩ := id hy
  refine enter 11 [(0, .pointer (some ⟨gw, 0, none⟩)), (1, .slice a_y ys.length c_y)] Try.func117 rfl rfl kj rfl ?_
  refine wp_seq_k fun K1 hK1 => ?_
  refine Qae ?_
  refine Qab (.pointer (some ⟨gw, 0, none⟩)) 4 rfl kj kj ?_
  refine Qab (.slice a_y ys.length c_y) 5 rfl kj kj ?_
  refine Qab (.int .i64 ((ys.length : Nat) : Int)) 6 rfl kj kj ?_
  refine Qah (fun v W' => v = .tuple #[] ∧ GW base gw w W' ∧ WSt base gw (numS (s) ((ys.length : Nat) : Int) 2) W') 105 #[.pointer (some ⟨gw, 0, none⟩), .int .i64 ((ys.length : Nat) : Int), .int .i64 2] 7 rfl kj kj ((QaW base gw _ ((ys.length : Nat) : Int) 2 _ (Nat.le_trans hbw (GW.refl base gw w).size) h (by decide)).mono (by rintro e w' ⟨rfl, h1, h2⟩; exact ⟨_, rfl, rfl, h1, h2⟩)) fun v2 W1 h2 => ?_
  obtain ⟨rfl, q1, ws2⟩ := h2
  have x1 : GW base gw w W1 := GW.trans (GW.refl base gw w) q1
  refine Qaf ?_
  refine hK1 _ _ ?_
  refine Qae ?_
  refine Qab (.pointer (some ⟨gw, 0, none⟩)) 8 rfl kj kj ?_
  refine Qab (.slice a_y ys.length c_y) 9 rfl kj kj ?_
  refine Qah (fun v W' => v = .tuple #[] ∧ GW base gw W1 W' ∧ WSt base gw (rawS (numS (s) ((ys.length : Nat) : Int) 2) ys) W') 104 #[.pointer (some ⟨gw, 0, none⟩), .slice a_y ys.length c_y] 10 rfl kj kj ((rawW base gw _ ys _ _ (Nat.le_trans hbw x1.size) ws2 (by omega) hyb (fun W e => RdK.here (RdK.extB (Qgl hy x1 hbg) e hbg))).mono (by rintro e w' ⟨rfl, h1, h2⟩; exact ⟨_, rfl, rfl, h1, h2⟩)) fun v3 W2 h3 => ?_
  obtain ⟨rfl, q2, ws3⟩ := h3
  have x2 : GW base gw w W2 := GW.trans x1 q2
  refine Qaf ?_
  repeat (first | with_reducible refine goX1 ?_ | with_reducible refine goX2 ?_ | with_reducible refine goX3 ?_)
  exact (show bodyPost _ _ _ .normal _ _ from end0 rfl ⟨rfl, x2, ws3⟩)
end Go.Proofs.Ytfelfmchachljaa.Wr
end
section
namespace Go.Proofs.Ytfelfmchachljaa.Wr
open Go Go.RowKit
open Rely Auto Own Sha
set_option linter.unusedVariables false
set_option linter.unusedSimpArgs false
theorem GW.back {base gw : Nat} {u w W : World} (h : Ext u w) (q : GW base gw w W) (hb : u.heap.size ≤ base) (hg : u.heap.size ≤ gw) : Ext u W :=
  ⟨q.os.trans h.os, q.tape.trans h.tape, q.output.trans h.output, Nat.le_trans h.size q.size, fun k hk => (q.block k (Nat.lt_of_lt_of_le hk h.size) (by omega) (.inl (by omega))).trans (h.block k hk)⟩
def PutR (base : Nat) : Option (List Int) → Value → World → Prop
  | none => fun v W => v = .tuple #[.slice none 0 0, .iface 102 (.int .i64 3)]
  | some xs => fun v W => ∃ u, v = .tuple #[u, .nilIface] ∧ OwnN .u8 5 base xs u W
def QdC (s : Option (List Int)) (grp : List Int) (ep fr no : Int) (sealed : List Int) : Option (List Int) := bytS (numS (QaE (numS (rawS s grp) ep 4) fr) no 4) sealed
set_option maxHeartbeats 4000000 in
theorem Qhi (base gw : Nat) (s : Option (List Int)) (grp : List Int) (ep fr no : Int) (sealed : List Int) (a_s : Option Addr) (c_s : Nat) (w : World) (hbw : base ≤ w.heap.size) (hbg : base ≤ gw) (h : WSt base gw s w) (hgl : grp.length = 32) (hgb : Qao grp) (hsl : sealed.length ≤ 1000000) (hsb : Qao sealed) (hs : RdK .u8 base sealed (.slice a_s sealed.length c_s) w) : Calls Try.prog 82 #[.pointer (some ⟨gw, 0, none⟩), .agg (cat [ints .u8 (grp), #[.int .i64 ep], #[.int .i64 fr], #[.int .i64 no], #[.slice a_s sealed.length c_s]])] w (fun e W => e = .returned (.tuple #[]) ∧ GW base gw w W ∧ WSt base gw (QdC s grp ep fr no sealed) W) := by
  have hgw := h.lt
  refine enter 24 [(0, .pointer (some ⟨gw, 0, none⟩)), (1, .agg (cat [ints .u8 (grp), #[.int .i64 ep], #[.int .i64 fr], #[.int .i64 no], #[.slice a_s sealed.length c_s]]))] Try.func82 rfl rfl kj rfl ?_
  refine wp_seq_k fun K1 hK1 => ?_
  refine Qae ?_
  refine Qar (cat [ints .u8 (grp), #[.int .i64 ep], #[.int .i64 fr], #[.int .i64 no], #[.slice a_s sealed.length c_s]]) 81 3 rfl kj kj fun g2 W1 l2 e1 r2_1 => ?_
  have x1 : GW base gw w W1 := GW.ext (GW.refl base gw w) e1
  have ws3 := WSt.ext h e1
  have b2 : w.heap.size ≤ g2 := Nat.le_trans (GW.refl base gw w).size l2
  refine Qaf ?_
  refine hK1 _ _ ?_
  refine wp_seq_k fun K4 hK4 => ?_
  refine Qae ?_
  refine Qab (.pointer (some ⟨gw, 0, none⟩)) 4 rfl kj kj ?_
  refine Qab (.pointer (some ⟨g2, 0, none⟩)) 5 rfl kj kj ?_
  refine Qab (.slice (some ⟨g2, 0, none⟩) 32 32) 6 rfl kj kj ?_
  refine Qah (fun v W' => v = .tuple #[] ∧ GW base gw W1 W' ∧ WSt base gw (rawS (s) grp) W') 104 #[.pointer (some ⟨gw, 0, none⟩), .slice (some ⟨g2, 0, none⟩) 32 32] 7 rfl kj kj ((rawW base gw _ grp _ _ (Nat.le_trans hbw x1.size) ws3 (by rw [hgl]; decide) hgb (fun W e => (QaS 0 hgl (ExtB.row e r2_1 (Ne.symm (Nat.ne_of_lt (Nat.lt_of_lt_of_le hgw b2)))) (fun i hi => QaJ [] [#[.int .i64 ep], #[.int .i64 fr], #[.int .i64 no], #[.slice a_s sealed.length c_s]] grp 0 i (0 + i) kj rfl (by rw [hgl]; exact hi)) (Qa5 (ExtB.row e r2_1 (Ne.symm (Nat.ne_of_lt (Nat.lt_of_lt_of_le hgw b2))))) (Nat.le_refl _) (by decide)))).mono (by rintro e w' ⟨rfl, h1, h2⟩; exact ⟨_, rfl, rfl, h1, h2⟩)) fun v5 W2 h5 => ?_
  obtain ⟨rfl, q2, ws5⟩ := h5
  have x2 : GW base gw w W2 := GW.trans x1 q2
  refine Qaf ?_
  refine hK4 _ _ ?_
  refine wp_seq_k fun K6 hK6 => ?_
  refine Qae ?_
  refine Qab (.pointer (some ⟨gw, 0, none⟩)) 8 rfl kj kj ?_
  refine Qab (.pointer (some ⟨g2, 32, none⟩)) 9 rfl kj kj ?_
  have r2_2 := (GW.row q2 r2_1 (by decide) (Ne.symm (Nat.ne_of_lt (Nat.lt_of_lt_of_le hgw b2))))
  refine Qab (.int .i64 ep) 10 rfl kj (Qal 3 _ g2 32 81 _ (.int .i64 ep) _ r2_2 rfl kj (Qaq [ints .u8 (grp)] [#[.int .i64 ep]] [#[.int .i64 fr], #[.int .i64 no], #[.slice a_s sealed.length c_s]] 32 ((Qad _ _).trans hgl) 0 _ rfl) kj) ?_
  refine Qah (fun v W' => v = .tuple #[] ∧ GW base gw W2 W' ∧ WSt base gw (numS (rawS (s) grp) ep 4) W') 105 #[.pointer (some ⟨gw, 0, none⟩), .int .i64 ep, .int .i64 4] 11 rfl kj kj ((QaW base gw _ ep 4 _ (Nat.le_trans hbw x2.size) ws5 (by decide)).mono (by rintro e w' ⟨rfl, h1, h2⟩; exact ⟨_, rfl, rfl, h1, h2⟩)) fun v7 W3 h7 => ?_
  obtain ⟨rfl, q3, ws7⟩ := h7
  have x3 : GW base gw w W3 := GW.trans x2 q3
  refine Qaf ?_
  refine hK6 _ _ ?_
  refine wp_seq_k fun K8 hK8 => ?_
  refine Qae ?_
  refine Qab (.pointer (some ⟨gw, 0, none⟩)) 12 rfl kj kj ?_
  refine Qab (.pointer (some ⟨g2, 33, none⟩)) 13 rfl kj kj ?_
  have r2_3 := (GW.row q3 r2_2 (by decide) (Ne.symm (Nat.ne_of_lt (Nat.lt_of_lt_of_le hgw b2))))
  refine Qab (.int .i64 fr) 14 rfl kj (Qal 3 _ g2 33 81 _ (.int .i64 fr) _ r2_3 rfl kj (Qaq [ints .u8 (grp), #[.int .i64 ep]] [#[.int .i64 fr]] [#[.int .i64 no], #[.slice a_s sealed.length c_s]] 33 (by rw [Qaa, Qaa]; simp only [Array.size_append, cat, ((Qad _ _).trans hgl)]; rfl) 0 _ rfl) kj) ?_
  refine Qah (fun v W' => v = .tuple #[] ∧ GW base gw W3 W' ∧ WSt base gw (QaE (numS (rawS (s) grp) ep 4) fr) W') 106 #[.pointer (some ⟨gw, 0, none⟩), .int .i64 fr] 15 rfl kj kj ((QdG base gw _ fr _ (Nat.le_trans hbw x3.size) ws7).mono (by rintro e w' ⟨rfl, h1, h2⟩; exact ⟨_, rfl, rfl, h1, h2⟩)) fun v9 W4 h9 => ?_
  obtain ⟨rfl, q4, ws9⟩ := h9
  have x4 : GW base gw w W4 := GW.trans x3 q4
  refine Qaf ?_
  refine hK8 _ _ ?_
  refine wp_seq_k fun K10 hK10 => ?_
  refine Qae ?_
  refine Qab (.pointer (some ⟨gw, 0, none⟩)) 16 rfl kj kj ?_
  refine Qab (.pointer (some ⟨g2, 34, none⟩)) 17 rfl kj kj ?_
  have r2_4 := (GW.row q4 r2_3 (by decide) (Ne.symm (Nat.ne_of_lt (Nat.lt_of_lt_of_le hgw b2))))
  refine Qab (.int .i64 no) 18 rfl kj (Qal 3 _ g2 34 81 _ (.int .i64 no) _ r2_4 rfl kj (Qaq [ints .u8 (grp), #[.int .i64 ep], #[.int .i64 fr]] [#[.int .i64 no]] [#[.slice a_s sealed.length c_s]] 34 (by rw [Qaa, Qaa, Qaa]; simp only [Array.size_append, cat, ((Qad _ _).trans hgl)]; rfl) 0 _ rfl) kj) ?_
  refine Qah (fun v W' => v = .tuple #[] ∧ GW base gw W4 W' ∧ WSt base gw (numS (QaE (numS (rawS (s) grp) ep 4) fr) no 4) W') 105 #[.pointer (some ⟨gw, 0, none⟩), .int .i64 no, .int .i64 4] 19 rfl kj kj ((QaW base gw _ no 4 _ (Nat.le_trans hbw x4.size) ws9 (by decide)).mono (by rintro e w' ⟨rfl, h1, h2⟩; exact ⟨_, rfl, rfl, h1, h2⟩)) fun v11 W5 h11 => ?_
  obtain ⟨rfl, q5, ws11⟩ := h11
  have x5 : GW base gw w W5 := GW.trans x4 q5
  refine Qaf ?_
  refine hK10 _ _ ?_
  refine Qae ?_
  refine Qab (.pointer (some ⟨gw, 0, none⟩)) 20 rfl kj kj ?_
  refine Qab (.pointer (some ⟨g2, 35, none⟩)) 21 rfl kj kj ?_
  have r2_5 := (GW.row q5 r2_4 (by decide) (Ne.symm (Nat.ne_of_lt (Nat.lt_of_lt_of_le hgw b2))))
  refine Qab (.slice a_s sealed.length c_s) 22 rfl kj (Qal 26 _ g2 35 81 _ (.slice a_s sealed.length c_s) _ r2_5 rfl kj (Qaq [ints .u8 (grp), #[.int .i64 ep], #[.int .i64 fr], #[.int .i64 no]] [#[.slice a_s sealed.length c_s]] [] 35 (by rw [Qaa, Qaa, Qaa, Qaa]; simp only [Array.size_append, cat, ((Qad _ _).trans hgl)]; rfl) 0 _ rfl) kj) ?_
  refine Qah (fun v W' => v = .tuple #[] ∧ GW base gw W5 W' ∧ WSt base gw (bytS (numS (QaE (numS (rawS (s) grp) ep 4) fr) no 4) sealed) W') 117 #[.pointer (some ⟨gw, 0, none⟩), .slice a_s sealed.length c_s] 23 rfl kj kj ((QgH base gw _ sealed _ _ (Nat.le_trans hbw x5.size) hbg ws11 (by omega) hsb (Qgl hs x5 hbg)).mono (by rintro e w' ⟨rfl, h1, h2⟩; exact ⟨_, rfl, rfl, h1, h2⟩)) fun v12 W6 h12 => ?_
  obtain ⟨rfl, q6, ws12⟩ := h12
  have x6 : GW base gw w W6 := GW.trans x5 q6
  refine Qaf ?_
  repeat (first | with_reducible refine goX1 ?_ | with_reducible refine goX2 ?_ | with_reducible refine goX3 ?_)
  exact (show bodyPost _ _ _ .normal _ _ from end0 rfl ⟨rfl, x6, ws12⟩)
end Go.Proofs.Ytfelfmchachljaa.Wr
end
section
namespace Go.Proofs.Ytfelfmchachljaa.Wr
open Go Go.RowKit
open Rely Auto Own Sha
set_option linter.unusedVariables false
set_option linter.unusedSimpArgs false
set_option maxHeartbeats 4000000 in
theorem Qed (grp : List Int) (ep fr no : Int) (sealed : List Int) (a_s : Option Addr) (c_s : Nat) (w : World) (hgl : grp.length = 32) (hgb : Qao grp) (hsl : sealed.length ≤ 1000000) (hsb : Qao sealed) (hs : RdK .u8 w.heap.size sealed (.slice a_s sealed.length c_s) w) : Calls Try.prog 81 #[.agg (cat [ints .u8 (grp), #[.int .i64 ep], #[.int .i64 fr], #[.int .i64 no], #[.slice a_s sealed.length c_s]]), .func (.func 82) #[] #[]] w (QcD w (PutR w.heap.size (QdC (some []) grp ep fr no sealed))) := by
 refine enter 22 [(0, .agg (cat [ints .u8 (grp), #[.int .i64 ep], #[.int .i64 fr], #[.int .i64 no], #[.slice a_s sealed.length c_s]])), (1, .func (.func 82) #[] #[])] Try.func81 rfl rfl kj rfl ?_
 refine wp_seq_k fun K1 hK1 => ?_
 refine Qae ?_
 refine Qar (cat [ints .u8 (grp), #[.int .i64 ep], #[.int .i64 fr], #[.int .i64 no], #[.slice a_s sealed.length c_s]]) 81 2 rfl kj kj fun g2 W1 l2 e1 r2_1 => ?_
 have x1 : Ext w W1 := Ext.tr (Rely.Ext.refl w) e1
 have b2 : w.heap.size ≤ g2 := Nat.le_trans (Rely.Ext.refl w).size l2
 refine Qab (.slice none 0 0) 4 rfl kj kj ?_
 refine Qab (.nilIface) 5 rfl kj kj ?_
 refine Qaf ?_
 refine hK1 _ _ ?_
 refine wp_seq_k fun K3 hK3 => ?_
 refine Qae ?_
 refine Qab (.agg (cat [#[.slice none 0 0], #[.bool false]])) 7 rfl kj kj ?_
 refine Qar (cat [#[.slice none 0 0], #[.bool false]]) 174 8 rfl kj kj fun g4 W2 l4 e2 r4_2 => ?_
 have x2 : Ext w W2 := Ext.tr x1 e2
 have b4 : w.heap.size ≤ g4 := Nat.le_trans x1.size l4
 refine Qab (.pointer (some ⟨g4, 0, none⟩)) 6 rfl kj kj ?_
 refine Qaf ?_
 refine hK3 _ _ ?_
 refine wp_seq_k fun K5 hK5 => ?_
 refine Qae ?_
 refine Qab (.func (.func 82) #[] #[]) 9 rfl kj kj ?_
 refine Qab (.pointer (some ⟨g4, 0, none⟩)) 10 rfl kj kj ?_
 have r2_2 := (Qau r2_1 e2)
 refine Qab (.agg (cat [ints .u8 (grp), #[.int .i64 ep], #[.int .i64 fr], #[.int .i64 no], #[.slice a_s sealed.length c_s]])) 11 rfl kj (Qaz 81 _ g2 81 _ _ r2_2 rfl kj kj (isz (n := 36) kj (by rw [Qaa, Qaa, Qaa, Qaa, Qaa]; simp only [Array.size_append, cat, ((Qad _ _).trans hgl)]; rfl))) ?_
 refine Qah (fun v W' => v = .tuple #[] ∧ GW W1.heap.size g4 W2 W' ∧ WSt W1.heap.size g4 (QdC (some []) grp ep fr no sealed) W') 82 #[.pointer (some ⟨g4, 0, none⟩), .agg (cat [ints .u8 (grp), #[.int .i64 ep], #[.int .i64 fr], #[.int .i64 no], #[.slice a_s sealed.length c_s]])] 12 rfl kj kj ((Qhi W1.heap.size g4 (some []) grp ep fr no sealed a_s c_s _ (Nat.le_trans (Nat.le_refl _) e2.size) l4 ⟨_, [], false, r4_2, QbV .u8 5 _ _, Nat.zero_le _, (fun x hx => by cases hx), rfl⟩ hgl hgb hsl hsb (RdK.more (RdK.ext hs x2) (Nat.le_trans (Nat.le_refl _) e1.size))).mono (by rintro e w' ⟨rfl, h1, h2⟩; exact ⟨_, rfl, rfl, h1, h2⟩)) fun v6 W3 h6 => ?_
 obtain ⟨rfl, q3, u, xs, bad, rb3, ho, -, -, hS⟩ := h6
 have x3 : Ext w W3 := GW.back x2 q3 (Nat.le_trans (Nat.le_refl _) e1.size) b4
 obtain ⟨au, cu, rfl, -⟩ := id (OwnN.rd ho)
 refine Qaf ?_
 refine hK5 _ _ ?_
 refine wp_seq_k fun K7 hK7 => ?_
 refine wp_seq_k fun K8 hK8 => ?_
 refine Qae ?_
 refine Qab (.pointer (some ⟨g4, 0, none⟩)) 13 rfl kj kj ?_
 refine Qab (.pointer (some ⟨g4, 0, none⟩)) 14 rfl kj kj ?_
 refine Qab (.pointer (some ⟨g4, 1, none⟩)) 15 rfl kj kj ?_
 refine Qab (.bool bad) 16 rfl kj (Qal 4 _ g4 1 174 _ (.bool bad) _ rb3 rfl kj kj kj) ?_
 refine Qaf ?_
 refine hK8 _ _ ?_
 refine Qa7 (t := bad) kj (fun c9 => ?_) (fun c9 => ?_)
 ·skip
  refine wp_seq_k fun K10 hK10 => ?_
  refine Qae ?_
  refine Qab (.iface 102 (.int .i64 3)) 17 rfl kj kj ?_
  refine Qab (.slice none 0 0) 4 rfl kj kj ?_
  refine Qab (.iface 102 (.int .i64 3)) 5 rfl kj kj ?_
  refine Qaf ?_
  refine hK10 _ _ ?_
  refine wp_ret ?_
  repeat (first | with_reducible refine goR1 ?_ | with_reducible refine goR2 ?_)
  exact (show bodyPost _ _ _ .ret _ _ from ret2 (.slice none 0 0) (.iface 102 (.int .i64 3)) rfl (Qa1 kj) (Qa1 kj) ⟨_, rfl, x3, by rw [hS, c9]; exact rfl⟩)
 ·skip
  refine wp_skip ?_
  refine hK7 _ _ ?_
  refine wp_seq_k fun K11 hK11 => ?_
  refine Qae ?_
  refine Qab (.pointer (some ⟨g4, 0, none⟩)) 18 rfl kj kj ?_
  refine Qab (.pointer (some ⟨g4, 0, none⟩)) 19 rfl kj kj ?_
  refine Qab (.pointer (some ⟨g4, 0, none⟩)) 20 rfl kj kj ?_
  refine Qab (.slice au xs.length cu) 21 rfl kj (Qal 26 _ g4 0 174 _ (.slice au xs.length cu) _ rb3 rfl kj kj kj) ?_
  refine Qab (.slice au xs.length cu) 4 rfl kj kj ?_
  refine Qab (.nilIface) 5 rfl kj kj ?_
  refine Qaf ?_
  refine hK11 _ _ ?_
  refine wp_ret ?_
  repeat (first | with_reducible refine goR1 ?_ | with_reducible refine goR2 ?_)
  exact (show bodyPost _ _ _ .ret _ _ from ret2 (.slice au xs.length cu) (.nilIface) rfl (Qa1 kj) (Qa1 kj) ⟨_, rfl, x3, by rw [hS, c9]; exact ⟨_, rfl, OwnN.base (Nat.le_trans (Nat.le_refl _) e1.size) ho⟩⟩)
set_option maxHeartbeats 4000000 in
theorem Qdi (grp : List Int) (ep fr no : Int) (sealed : List Int) (a_s : Option Addr) (c_s : Nat) (w : World) (hgl : grp.length = 32) (hgb : Qao grp) (hsl : sealed.length ≤ 1000000) (hsb : Qao sealed) (hs : RdK .u8 w.heap.size sealed (.slice a_s sealed.length c_s) w) (hS : QdC (some []) grp ep fr no sealed = none) : Calls Try.prog 34 #[.agg (cat [ints .u8 (grp), #[.int .i64 ep], #[.int .i64 fr], #[.int .i64 no], #[.slice a_s sealed.length c_s]])] w (QcD w (PutR w.heap.size (none))) := by
  refine enter 8 [(0, .agg (cat [ints .u8 (grp), #[.int .i64 ep], #[.int .i64 fr], #[.int .i64 no], #[.slice a_s sealed.length c_s]]))] Try.func34 rfl rfl kj rfl ?_
  refine wp_seq_k fun K1 hK1 => ?_
  refine Qae ?_
  refine Qar (cat [ints .u8 (grp), #[.int .i64 ep], #[.int .i64 fr], #[.int .i64 no], #[.slice a_s sealed.length c_s]]) 81 1 rfl kj kj fun g2 W1 l2 e1 r2_1 => ?_
  have x1 : Ext w W1 := Ext.tr (Rely.Ext.refl w) e1
  have b2 : w.heap.size ≤ g2 := Nat.le_trans (Rely.Ext.refl w).size l2
  refine Qab (.slice none 0 0) 2 rfl kj kj ?_
  refine Qab (.nilIface) 3 rfl kj kj ?_
  refine Qaf ?_
  refine hK1 _ _ ?_
  refine wp_seq_k fun K3 hK3 => ?_
  refine Qae ?_
  refine Qab (.agg (cat [ints .u8 (grp), #[.int .i64 ep], #[.int .i64 fr], #[.int .i64 no], #[.slice a_s sealed.length c_s]])) 4 rfl kj (Qaz 81 _ g2 81 _ _ r2_1 rfl kj kj (isz (n := 36) kj (by rw [Qaa, Qaa, Qaa, Qaa, Qaa]; simp only [Array.size_append, cat, ((Qad _ _).trans hgl)]; rfl))) ?_
  refine Qah (fun v W' => (PutR W1.heap.size (QdC (some []) grp ep fr no sealed)) v W' ∧ Ext W1 W') 81 #[.agg (cat [ints .u8 (grp), #[.int .i64 ep], #[.int .i64 fr], #[.int .i64 no], #[.slice a_s sealed.length c_s]]), .func (.func 82) #[] #[]] 5 rfl kj kj ((Qed grp ep fr no sealed a_s c_s _ hgl hgb hsl hsb (RdK.here (RdK.ext hs x1))).mono (by rintro e w' ⟨v, rfl, e1, hv⟩; exact ⟨v, rfl, hv, e1⟩)) fun vv4 W2 hh4 => ?_
  obtain ⟨hv4, e2⟩ := hh4
  have x2 : Ext w W2 := Ext.tr x1 e2
  rw [hS] at hv4
  have hv2 : vv4 = .tuple #[.slice none 0 0, .iface 102 (.int .i64 3)] := hv4
  subst hv2
  refine Qab (.slice none 0 0) 6 rfl kj kj ?_
  refine Qab (.iface 102 (.int .i64 3)) 7 rfl kj kj ?_
  refine Qab (.slice none 0 0) 2 rfl kj kj ?_
  refine Qab (.iface 102 (.int .i64 3)) 3 rfl kj kj ?_
  refine Qaf ?_
  refine hK3 _ _ ?_
  refine wp_ret ?_
  repeat (first | with_reducible refine goR1 ?_ | with_reducible refine goR2 ?_)
  exact (show bodyPost _ _ _ .ret _ _ from ret2 (.slice none 0 0) (.iface 102 (.int .i64 3)) rfl (Qa1 kj) (Qa1 kj) ⟨_, rfl, x2, rfl⟩)
set_option maxHeartbeats 4000000 in
theorem Qct (grp : List Int) (ep fr no : Int) (sealed : List Int) (a_s : Option Addr) (c_s : Nat) (w : World) (hgl : grp.length = 32) (hgb : Qao grp) (hsl : sealed.length ≤ 1000000) (hsb : Qao sealed) (hs : RdK .u8 w.heap.size sealed (.slice a_s sealed.length c_s) w) (xs : List Int) (hS : QdC (some []) grp ep fr no sealed = some xs) : Calls Try.prog 34 #[.agg (cat [ints .u8 (grp), #[.int .i64 ep], #[.int .i64 fr], #[.int .i64 no], #[.slice a_s sealed.length c_s]])] w (QcD w (PutR w.heap.size (some xs))) := by
  refine enter 8 [(0, .agg (cat [ints .u8 (grp), #[.int .i64 ep], #[.int .i64 fr], #[.int .i64 no], #[.slice a_s sealed.length c_s]]))] Try.func34 rfl rfl kj rfl ?_
  refine wp_seq_k fun K1 hK1 => ?_
  refine Qae ?_
  refine Qar (cat [ints .u8 (grp), #[.int .i64 ep], #[.int .i64 fr], #[.int .i64 no], #[.slice a_s sealed.length c_s]]) 81 1 rfl kj kj fun g2 W1 l2 e1 r2_1 => ?_
  have x1 : Ext w W1 := Ext.tr (Rely.Ext.refl w) e1
  have b2 : w.heap.size ≤ g2 := Nat.le_trans (Rely.Ext.refl w).size l2
  refine Qab (.slice none 0 0) 2 rfl kj kj ?_
  refine Qab (.nilIface) 3 rfl kj kj ?_
  refine Qaf ?_
  refine hK1 _ _ ?_
  refine wp_seq_k fun K3 hK3 => ?_
  refine Qae ?_
  refine Qab (.agg (cat [ints .u8 (grp), #[.int .i64 ep], #[.int .i64 fr], #[.int .i64 no], #[.slice a_s sealed.length c_s]])) 4 rfl kj (Qaz 81 _ g2 81 _ _ r2_1 rfl kj kj (isz (n := 36) kj (by rw [Qaa, Qaa, Qaa, Qaa, Qaa]; simp only [Array.size_append, cat, ((Qad _ _).trans hgl)]; rfl))) ?_
  refine Qah (fun v W' => (PutR W1.heap.size (QdC (some []) grp ep fr no sealed)) v W' ∧ Ext W1 W') 81 #[.agg (cat [ints .u8 (grp), #[.int .i64 ep], #[.int .i64 fr], #[.int .i64 no], #[.slice a_s sealed.length c_s]]), .func (.func 82) #[] #[]] 5 rfl kj kj ((Qed grp ep fr no sealed a_s c_s _ hgl hgb hsl hsb (RdK.here (RdK.ext hs x1))).mono (by rintro e w' ⟨v, rfl, e1, hv⟩; exact ⟨v, rfl, hv, e1⟩)) fun vv4 W2 hh4 => ?_
  obtain ⟨hv4, e2⟩ := hh4
  have x2 : Ext w W2 := Ext.tr x1 e2
  rw [hS] at hv4
  obtain ⟨u5_, rfl, hu5_⟩ := hv4
  obtain ⟨a5_, c5_, rfl, -⟩ := id (OwnN.rd hu5_)
  refine Qab (.slice a5_ ((xs).length) c5_) 6 rfl kj kj ?_
  refine Qab (.nilIface) 7 rfl kj kj ?_
  refine Qab (.slice a5_ ((xs).length) c5_) 2 rfl kj kj ?_
  refine Qab (.nilIface) 3 rfl kj kj ?_
  refine Qaf ?_
  refine hK3 _ _ ?_
  refine wp_ret ?_
  repeat (first | with_reducible refine goR1 ?_ | with_reducible refine goR2 ?_)
  exact (show bodyPost _ _ _ .ret _ _ from ret2 (.slice a5_ ((xs).length) c5_) (.nilIface) rfl (Qa1 kj) (Qa1 kj) ⟨_, rfl, x2, _, rfl, OwnN.base x1.size hu5_⟩)
end Go.Proofs.Ytfelfmchachljaa.Wr
end
section
namespace Go.Proofs.Ytfelfmchachljaa.Wr
open Go Go.RowKit
open Rely Auto Own Sha
set_option linter.unusedVariables false
set_option linter.unusedSimpArgs false
def beV (n : Int) : Nat → List Int
  | 0 => []
  | k + 1 => byV n k :: beV n k
theorem QaI (n : Int) : ∀ k, (beV n k).length = k
  | 0 => rfl
  | k + 1 => by unfold beV; rw [List.length_cons, QaI n k]
theorem QaT (n : Int) : ∀ k, Qao (beV n k)
  | 0 => fun x hx => by cases hx
  | k + 1 => fun x hx => by
    unfold beV at hx
    rcases List.mem_cons.1 hx with h | h
    · exact Qdh n k x (by simp [h])
    · exact QaT n k x h
theorem QhC (z : Int) : IntKind.u8.wrap z = z % 256 := rfl
def inB (n last : Int) : Bool := decide (0 ≤ n) && decide (n ≤ last)
def hgB (ep fr : Int) : Bool := inB ep 4294967295 && inB fr 31
theorem Qbw {n last : Int} (h : inB n last = true) : 0 ≤ n ∧ n ≤ last := by
  unfold inB at h
  simpa using h
def Qci (grp : List Int) (ep fr : Int) : List Int := grp ++ beV ep 4 ++ [byV fr 0]
def rowV (ys : List Int) : List Int := beV ((ys.length : Nat) : Int) 2 ++ ys
def fitV (ys : List Int) : Option (List Int) := if ys.length ≤ 65536 then some ys else none
end Go.Proofs.Ytfelfmchachljaa.Wr
end
section
namespace Go.Proofs.Ytfelfmchachljaa.Wr
open Go Go.RowKit
open Rely Auto Own Sha
set_option linter.unusedVariables false
set_option linter.unusedSimpArgs false
structure OncU (base n : Nat) (ys : List Int) (W W' : World) : Prop where
  os : W'.os = W.os
  tape : W'.tape = W.tape
  output : W'.output = W.output
  size : W.heap.size ≤ W'.heap.size
  block : ∀ g, g < W.heap.size → W'.heap[g]? = W.heap[g]? ∨ (base ≤ g ∧ ∃ cs cs', W.heap[g]? = some (.cells cs 5) ∧ W'.heap[g]? = some (.cells cs' 5) ∧ cs'.size = cs.size ∧ ∀ i, cs'[i]? = cs[i]? ∨ (n ≤ i ∧ cs'[i]? = some (.int .u8 (nth ys (i - n)))))
theorem OncU.refl (base n : Nat) (ys : List Int) (W : World) : OncU base n ys W W := ⟨rfl, rfl, rfl, Nat.le_refl _, fun _ _ => .inl rfl⟩
theorem OncU.trans {base n : Nat} {ys : List Int} {a b c : World} (h : OncU base n ys a b) (k : OncU base n ys b c) : OncU base n ys a c := by
  refine ⟨k.os.trans h.os, k.tape.trans h.tape, k.output.trans h.output, Nat.le_trans h.size k.size, fun g hg => ?_⟩
  rcases k.block g (Nat.lt_of_lt_of_le hg h.size) with h2 | ⟨hb, cs, cs', r1, r2, r3, r4⟩
  · rw [h2]; exact h.block g hg
  · rcases h.block g hg with h1 | ⟨_, ds, ds', s1, s2, s3, s4⟩
    · exact .inr ⟨hb, cs, cs', h1 ▸ r1, r2, r3, r4⟩
    · rw [s2] at r1
      simp only [Option.some.injEq, Obj.cells.injEq, and_true, true_and] at r1
      obtain rfl := r1
      refine .inr ⟨hb, ds, cs', s1, r2, r3.trans s3, fun i => ?_⟩
      rcases r4 i with r | ⟨r, r'⟩
      · rw [r]; exact s4 i
      · exact .inr ⟨r, r'⟩
theorem OncU.ext {base n : Nat} {ys : List Int} {a b : World} (e : Ext a b) : OncU base n ys a b := ⟨e.os, e.tape, e.output, e.size, fun g hg => .inl (e.block g hg)⟩
theorem OncU.low {n : Nat} {ys : List Int} {w0 W : World} (h : OncU w0.heap.size n ys w0 W) : Ext w0 W :=
  ⟨h.os, h.tape, h.output, h.size, fun g hg => by
    rcases h.block g hg with h | ⟨hb, _⟩
    · exact h
    · omega⟩
def refP (grp : List Int) (ep fr no : Int) (sealed : List Int) : Option (List Int) := if hgB ep fr = true ∧ inB no 4294967295 = true ∧ sealed.length ≤ 65535 then fitV (Qci grp ep fr ++ beV no 4 ++ rowV sealed) else none
end Go.Proofs.Ytfelfmchachljaa.Wr
end
section
namespace Go.Proofs.Ytfelfmchachljaa.Wk
open Go Go.RowKit
open Rely Auto Own Sha
set_option linter.unusedVariables false
set_option linter.unusedSimpArgs false
variable {P : Program} {ops : Array Oper} {Q : Exit → Act → World → Prop}
def allR (P : Program) (ops : Array Oper) (Q : Exit → Act → World → Prop) (Rd : World → Prop) : Nat → Array Bool → Act → World → Prop
  | 0, listed, a, w => Region.ready .any ops listed = [] ∧ Q .normal a w
  | fuel + 1, listed, a, w => (Region.ready .any ops listed = [] → Q .normal a w) ∧ ∀ i ∈ Region.ready .any ops listed, wpOp P ops Q i (fun a' w' => Rd w' ∧ allR P ops Q Rd fuel (listed.setIfInBounds i true) a' w') a w
theorem QdQ {Rd : World → Prop} : ∀ (fuel : Nat) (listed : Array Bool) (a : Act) (w : World), allR P ops Q Rd fuel listed a w → wpAny P .any ops Q fuel listed a w
  | 0, _, _, _, h => h
  | _ + 1, _, _, _, h => ⟨h.1, fun i hi => wpOp_mono (fun a w h => QdQ _ _ a w h.2) (h.2 i hi)⟩
def Qbx (P : Program) (ops : Array Oper) (Rd : World → Prop) (o : Oper) (v : Value) (a : Act) : Prop :=
  (Region.wanted o (yielded ops a.tmps) = true ∧ ∀ w, Rd w → (execOp a.eval o).run P w = .ok (.value v) w) ∨ (Region.wanted o (yielded ops a.tmps) = false ∧ v = undef)
theorem Qbx.wpOp {Rd : World → Prop} {i : Nat} {o : Oper} {v : Value} {a : Act} (hi : ops[i]? = some o) (hy : Qbx P ops Rd o v a) {K : Act → World → Prop} {w : World} (hw : Rd w) (h : K (a.put o.dst v) w) : wpOp P ops Q i K a w := by
  unfold Go.wpOp
  simp only [hi]
  rcases hy with ⟨hw1, hv⟩ | ⟨hw1, rfl⟩
  · simp only [hw1, if_true, Oper.wp, hv w hw, Oper.upon]; exact .inl h
  · simp only [hw1, Bool.false_eq_true, if_false]; exact h
theorem Qbx.same {Rd : World → Prop} {o : Oper} {v : Value} {a a' : Act} (hy : Qbx P ops Rd o v a) (he : execOp a'.eval o = execOp a.eval o) (hw : Region.wanted o (yielded ops a'.tmps) = Region.wanted o (yielded ops a.tmps)) : Qbx P ops Rd o v a' := by
  unfold Qbx at *
  rw [he, hw]
  exact hy
theorem Qhk {Rd : World → Prop} {j : Nat} {oi oj : Oper} {v : Value} (hj : ops[j]? = some oj) (hap : oi.apart ops oj = true) (hsi : ∀ cs b, oi.op ≠ .select cs b) (hsj : ∀ cs b, oj.op ≠ .select cs b)
    (hQ : ∀ c a w, Q (.panic c) (a.put oi.dst v) w → Q (.panic c) a w) {K : Act → World → Prop} {a : Act} {w : World} (hy : Qbx P ops Rd oi v a) (h : wpOp P ops Q j K (a.put oi.dst v) w) :
    wpOp P ops Q j (fun a' w' => Qbx P ops Rd oi v a' ∧ K (a'.put oi.dst v) w') a w := by
  obtain ⟨h1, h2, h3⟩ := Oper.apart_spec hap
  have keep : ∀ (a : Act), Qbx P ops Rd oi v a → ∀ u, Qbx P ops Rd oi v (a.put oj.dst u) := fun a hy u => hy.same (execOp_put oi hsi a oj.dst u h3) (wanted_put oi a oj.dst u h3)
  have keepD : ∀ d, Qbx P ops Rd oi v { a with defers := d :: a.defers } := fun d => hy.same rfl rfl
  unfold wpOp at *
  simp only [hj] at *
  rw [wanted_put oj a oi.dst v h1] at h
  split
  · rename_i hw
    simp only [hw, if_true] at h
    rcases h with h | ⟨hasks, hlets⟩
    case inr => exact .inr ⟨by unfold Oper.asks at *; rw [execOp_put oj hsj a oi.dst v h1] at hasks; exact hasks, hlets⟩
    refine .inl ?_
    unfold Oper.wp at *
    rw [execOp_put oj hsj a oi.dst v h1] at h
    generalize (execOp a.eval oj).run P w = r at *
    cases r with
    | ok n w' =>
      cases n <;> simp only [Oper.upon] at h ⊢
      case value u => exact ⟨keep a hy u, by rw [← Act.put_comm a v u h2]; exact h⟩
      case skip => exact ⟨keep a hy _, by rw [← Act.put_comm a v undef h2]; exact h⟩
      case defer d =>
        refine ⟨keep _ (keepD d) _, ?_⟩
        rw [← Act.put_comm _ v undef h2, ← Act.put_defers]
        exact h
      case enter f args =>
        refine Calls.mono h fun e w'' he => ?_
        cases e with
        | returned u => exact ⟨keep a hy u, by rw [← Act.put_comm a v u h2]; exact he⟩
        | panicked c => exact hQ _ _ _ he
        | outgrown => exact he
      case row row args => exact Rows.mono h fun u w'' he => ⟨keep a hy u, by rw [← Act.put_comm a v u h2]; exact he⟩
    | halt x w' =>
      cases x <;> simp only [Oper.upon] at h ⊢
      case panic u => exact hQ _ _ _ h
  · rename_i hw
    simp only [hw] at h
    exact ⟨keep a hy _, by rw [← Act.put_comm a v undef h2]; exact h⟩
theorem Qfs {Rd : World → Prop} {i : Nat} {oi : Oper} {v : Value} (hi : ops[i]? = some oi) (hsel : ∀ (j : Nat) (o : Oper) cs b, ops[j]? = some o → o.op ≠ .select cs b) (hQ : ∀ c a w, Q (.panic c) (a.put oi.dst v) w → Q (.panic c) a w) :
    ∀ (fuel : Nat) (listed : Array Bool) (a : Act) (w : World), Rd w →
      (∀ j oj, ops[j]? = some oj → j ≠ i → listed.getD j true = false → (∀ e ∈ oj.after, Region.binds .any e = true → e.on ≠ i) → oi.apart ops oj = true) →
      i ∈ Region.ready .any ops listed → Qbx P ops Rd oi v a → allR P ops Q Rd fuel (listed.setIfInBounds i true) (a.put oi.dst v) w → allR P ops Q Rd (fuel + 1) listed a w := by
  intro fuel
  induction fuel with
  | zero =>
    intro listed a w hw _ hr hy H
    refine ⟨fun h => (by rw [h] at hr; cases hr), fun j hj => ?_⟩
    by_cases hji : j = i
    · subst hji; exact hy.wpOp hi hw ⟨hw, H⟩
    · have := ready_mono hj hji
      rw [H.1] at this
      cases this
  | succ fuel ih =>
    intro listed a w hw hfree hr hy H
    refine ⟨fun h => (by rw [h] at hr; cases hr), fun j hj => ?_⟩
    by_cases hji : j = i
    · subst hji; exact hy.wpOp hi hw ⟨hw, H⟩
    · have h1 := H.2 j (ready_mono hj hji)
      obtain ⟨hjun, oj, hoj, hall⟩ := mem_ready.1 hj
      have hnot : ∀ e ∈ oj.after, Region.binds .any e = true → e.on ≠ i := fun e he hb heq => by
        have h1 := hall e he hb
        have h0 := (mem_ready.1 hr).1
        rw [heq] at h1
        rcases Nat.lt_or_ge i listed.size with h' | h'
        · simp [h'] at h0 h1; rw [h0] at h1; cases h1
        · simp [Array.getElem?_eq_none h'] at h1
      have h2 := Qhk hoj (hfree j oj hoj hji hjun hnot) (fun cs b => hsel i oi cs b hi) (fun cs b => hsel j oj cs b hoj) hQ hy h1
      have hfree' : ∀ k ok, ops[k]? = some ok → k ≠ i → (listed.setIfInBounds j true).getD k true = false → (∀ e ∈ ok.after, Region.binds .any e = true → e.on ≠ i) → oi.apart ops ok = true := fun k ok hk hki hun hno => by
        refine hfree k ok hk hki ?_ hno
        by_cases hjk : j = k
        · subst hjk; exact hjun
        · rw [getD_set_ne true hjk] at hun; exact hun
      refine wpOp_mono (fun a' w' h3 => ⟨h3.2.1, ih (listed.setIfInBounds j true) a' w' h3.2.1 hfree' (ready_mono hr (Ne.symm hji)) h3.1 ?_⟩) h2
      rw [Array.setIfInBounds_comm _ _ hji]
      exact h3.2.2
structure WB (P : Program) (ops : Array Oper) (Q : Exit → Act → World → Prop) (Rd : World → Prop) (fuel : Nat) (listed : Array Bool) (a : Act) (w : World) : Prop where
  out : Rd w → allR P ops Q Rd fuel listed a w
structure WO (P : Program) (ops : Array Oper) (Q : Exit → Act → World → Prop) (Rd : World → Prop) (k fuel : Nat) (listed : Array Bool) (a : Act) (w : World) : Prop where
  out : wpOp P ops Q k (fun a' w' => Rd w' ∧ allR P ops Q Rd fuel (listed.setIfInBounds k true) a' w') a w
variable {o : Oper} {N : Nat} {L : Env} {w V : World} {ds : List Deferred} {fuel : Nat} {listed : Array Bool} {k : Nat} {a : Act} {Rd : World → Prop}
theorem Qec {id : Nat} {l : List Oper} (hm : P.follows .mixedOrders = true) (h : ∀ W, Ext w W → WB P l.toArray Q (Ext W) l.length (Array.replicate l.length false) (QaH ds N L) W) : (Code.region id l.toArray true).wp P Q (QaH ds N L) w := by
  refine wp_region_any hm ?_
  have := QdQ _ _ _ _ ((h w.drew (QeW w)).out (Ext.refl _))
  simpa using this
theorem QcG {id : Nat} {l : List Oper} (Rd : World → Prop) (hm : P.follows .mixedOrders = true) (h : ∀ W, Ext w W → Rd W ∧ WB P l.toArray Q Rd l.length (Array.replicate l.length false) (QaH ds N L) W) : (Code.region id l.toArray true).wp P Q (QaH ds N L) w := by
  refine wp_region_any hm ?_
  obtain ⟨h1, h2⟩ := h w.drew (QeW w)
  have := QdQ _ _ _ _ (h2.out h1)
  simpa using this
theorem QbE (k : Nat) (v : Value) (d : Nat) (ho : ops[k]? = some o) (hd : o.dst = some d) (hg : QbJ ops o N L = some true) (hc : (Region.noSelect ops && Region.free .any ops listed k && (Region.ready .any ops listed).contains k) = true)
    (hQ : ∀ c a w, Q (.panic c) (a.put o.dst v) w → Q (.panic c) a w) (h : ∀ W, Rd W → (execOp (Rely.look (envN N L)) o).run P W = .ok (.value v) W) (kk : WB P ops Q Rd fuel (listed.setIfInBounds k true) (QaH ds N ((d, v) :: L)) w) : WB P ops Q Rd (fuel + 1) listed (QaH ds N L) w := by
  simp only [Bool.and_eq_true] at hc
  refine ⟨fun hw => Qfs ho (Region.noSelect_spec hc.1.1) hQ fuel listed _ w hw (Region.free_spec ho hc.1.2) (by simpa using hc.2) (.inl ⟨QbY hg, fun W hW => ?_⟩) ?_⟩
  · rw [Qbs]; exact h W hW
  · rw [hd, Qbv]; exact kk.out hw
theorem QeI (k : Nat) (hr : Region.ready .any ops listed = [k]) (h : WO P ops Q Rd k fuel listed a w) : WB P ops Q Rd (fuel + 1) listed a w :=
  ⟨fun _ => ⟨fun h0 => (by rw [hr] at h0; cases h0), fun i hi => by rw [hr] at hi; obtain rfl : i = k := by simpa using hi
                                                                    exact h.out⟩⟩
theorem QeH (ho : ops[k]? = some o) (R : Value → World → Prop) (f : FuncId) (args : Array Value) (d : Nat) (hd : o.dst = some d) (hg : QbJ ops o N L = some true)
    (h : (execOp (Rely.look (envN N L)) o).run P w = .ok (.enter f args) w) (hc : Calls P f args w fun e w' => ∃ v, e = .returned v ∧ R v w') (hR : ∀ v W, R v W → Rd W) (kk : ∀ (v : Value) (W : World), R v W → WB P ops Q Rd fuel (listed.setIfInBounds k true) (QaH ds N ((d, v) :: L)) W) : WO P ops Q Rd k fuel listed (QaH ds N L) w := by
  refine ⟨?_⟩
  unfold wpOp
  rw [ho]
  simp only [QbY hg, if_true]
  refine .inl ?_
  unfold Oper.wp
  rw [Qbs, h]
  refine hc.mono ?_
  rintro e w' ⟨v, rfl, hw⟩
  show _ ∧ allR _ _ _ _ _ _ _ _
  rw [hd, Qbv]
  exact ⟨hR v w' hw, (kk v w' hw).out (hR v w' hw)⟩
theorem Qg5 (ho : ops[k]? = some o) (R : Value → World → Prop) (d : Nat) (hd : o.dst = some d) (hg : QbJ ops o N L = some true) (h : ∃ v W, (execOp (Rely.look (envN N L)) o).run P w = .ok (.value v) W ∧ R v W) (hR : ∀ v W, R v W → Rd W)
    (kk : ∀ (v : Value) (W : World), R v W → WB P ops Q Rd fuel (listed.setIfInBounds k true) (QaH ds N ((d, v) :: L)) W) : WO P ops Q Rd k fuel listed (QaH ds N L) w := by
  obtain ⟨v, W, h1, h2⟩ := h
  refine ⟨?_⟩
  unfold wpOp
  rw [ho]
  simp only [QbY hg, if_true]
  refine .inl ?_
  unfold Oper.wp
  rw [Qbs, h1]
  show _ ∧ allR _ _ _ _ _ _ _ _
  rw [hd, Qbv]
  exact ⟨hR v W h2, (kk v W h2).out (hR v W h2)⟩
def Ef (P : Program) (o : Oper) (ρ : Operand → Value) (W : World) (φ : Value → World → Prop) : Prop :=
  (∃ v W', (execOp ρ o).run P W = .ok (.value v) W' ∧ Ext W W' ∧ φ v W') ∨ ∃ f args, (execOp ρ o).run P W = .ok (.enter f args) W ∧ Calls P f args W fun e W' => ∃ v, e = .returned v ∧ Ext W W' ∧ φ v W'
theorem Ef.put {φ : Value → World → Prop} {d : Nat} {v : Value} (h : Ef P o a.eval w φ) (hs : ∀ cs b, o.op ≠ .select cs b) (hd : ∀ e, some d = some e → e ∉ o.looksAt ops) : Ef P o (a.put (some d) v).eval w φ := by
  unfold Ef
  rw [execOp_put (ops := ops) o hs a (some d) v hd]
  exact h
theorem Qfv (hr : Region.ready .any ops listed = []) (h : Q .normal (QaH ds N L) w) : WB P ops Q Rd fuel listed (QaH ds N L) w :=
  ⟨fun _ => by cases fuel with
    | zero => exact ⟨hr, h⟩
    | succ n => exact ⟨fun _ => h, by rw [hr]; simp⟩⟩
end Go.Proofs.Ytfelfmchachljaa.Wk
end
section
namespace Go.Proofs.Ytfelfmchachljaa.Wr
open Go Go.RowKit
open Rely Auto Own Sha
set_option linter.unusedVariables false
set_option linter.unusedSimpArgs false
theorem ExtB.tr {g : Nat} {a b c : World} (h : ExtB g a b) (k : ExtB g b c) : ExtB g a c := ⟨k.1.trans h.1, k.2.1.trans h.2.1, k.2.2.1.trans h.2.2.1, Nat.le_trans h.2.2.2.1 k.2.2.2.1, fun i hi hn => (k.2.2.2.2 i (Nat.lt_of_lt_of_le hi h.2.2.2.1) hn).trans (h.2.2.2.2 i hi hn)⟩
def Qag (s : Option (List Int)) (n : Nat) : List Int := match s with
  | none => []
  | some xs => if n ≤ xs.length then xs.take n else []
def Qac (s : Option (List Int)) (n : Nat) : Option (List Int) := s.bind fun xs => if n ≤ xs.length then some (xs.drop n) else none
def RSt (B gr : Nat) (s : Option (List Int)) (W : World) : Prop := ∃ (u : Value) (xs : List Int) (bad : Bool), W.heap[gr]? = some (.cells #[u, .bool bad] 179) ∧ RdK .u8 B xs u W ∧ Qao xs ∧ s = bif bad then none else some xs
theorem RSt.lt {B gr : Nat} {s : Option (List Int)} {W : World} (h : RSt B gr s W) : gr < W.heap.size := by
  obtain ⟨u, xs, bad, h1, -⟩ := h
  exact Qa5 h1
theorem RSt.keep {B gr : Nat} {s : Option (List Int)} {w W : World} (h : RSt B gr s w) (hB : B ≤ gr) (hs : w.heap.size ≤ W.heap.size) (hk : ∀ k, k ≤ gr → k < w.heap.size → W.heap[k]? = w.heap[k]?) : RSt B gr s W := by
  obtain ⟨u, xs, bad, h1, h2, h3⟩ := h
  exact ⟨u, xs, bad, (hk gr (Nat.le_refl _) (Qa5 h1)).trans h1, h2.keep hs fun g hg hl => hk g (by omega) hl, h3⟩
theorem RSt.bytes {B gr : Nat} {s : Option (List Int)} {W : World} (h : RSt B gr s W) (n : Nat) : Qao (Qag s n) := by
  obtain ⟨u, xs, bad, -, -, h3, rfl⟩ := h
  cases bad with
  | true => exact fun x hx => by cases hx
  | false =>
    show Qao (if n ≤ xs.length then xs.take n else [])
    split
    · exact fun x hx => h3 x (List.mem_of_mem_take hx)
    · exact fun x hx => by cases hx
theorem RSt.ext {B gr : Nat} {s : Option (List Int)} {w W : World} (h : RSt B gr s w) (hB : B ≤ gr) (e : Ext w W) : RSt B gr s W := h.keep hB e.size fun k _ hl => e.block k hl
theorem RSt.put {B gr g : Nat} {s : Option (List Int)} {w W : World} (h : RSt B gr s w) (hB : B ≤ gr) (p : Puts w g W) (hg : gr < g) : RSt B gr s W := h.keep hB (by have := p.2.2.2.1; omega) fun k hk _ => p.2.2.2.2 k (by omega)
theorem RSt.low {B gr n : Nat} {s : Option (List Int)} {w W : World} (h : RSt B gr s w) (hB : B ≤ gr) (l : Below n w W) (hg : gr < n) : RSt B gr s W := h.keep hB l.size fun k hk _ => l.block k (by omega)
theorem Qai (s : Option (List Int)) (n : Nat) : (Qag s n).length ≤ n := by
  unfold Qag
  cases s with
  | none => exact Nat.zero_le _
  | some xs =>
    show (if n ≤ xs.length then xs.take n else []).length ≤ n
    split
    · rw [List.length_take]; omega
    · exact Nat.zero_le _
def Qbj (B gr : Nat) (w : World) (s : Option (List Int)) (φ : Value → World → Prop) (e : Ending) (W : World) : Prop := ∃ v, e = .returned v ∧ ExtB gr w W ∧ RSt B gr s W ∧ φ v W
theorem Qhn (B : Nat) (W : World) : RdK .u8 B [] (.slice none 0 0) W := ⟨none, 0, rfl, Nat.zero_le _, Nat.zero_le _, fun _ => rfl, .inl rfl⟩
theorem Qcc : Qao [] := fun x hx => by cases hx
theorem QcA {xs : List Int} (h : Qao xs) (n : Nat) : Qao (xs.take n) := fun x hx => h x (List.mem_of_mem_take hx)
theorem QbN {xs : List Int} (h : Qao xs) (n : Nat) : Qao (xs.drop n) := fun x hx => h x (List.mem_of_mem_drop hx)
set_option maxHeartbeats 4000000 in
theorem QgV (gr : Nat) (u : Value) (ok : Bool) (w : World) (hg : w.heap[gr]? = some (.cells #[u, .bool true] 179)) : Calls Try.prog 103 #[.pointer (some ⟨gr, 0, none⟩), .bool ok] w (fun e W => e = .returned (.tuple #[]) ∧ ExtB gr w W ∧ W.heap[gr]? = some (.cells (cat [#[u], #[.bool true]]) 179)) := by
  refine enter 15 [(0, .pointer (some ⟨gr, 0, none⟩)), (1, .bool ok)] Try.func103 rfl rfl kj rfl ?_
  refine Qae ?_
  refine Qab (.pointer (some ⟨gr, 0, none⟩)) 4 rfl kj kj ?_
  refine Qab (.pointer (some ⟨gr, 0, none⟩)) 5 rfl kj kj ?_
  refine Qab (.pointer (some ⟨gr, 0, none⟩)) 6 rfl kj kj ?_
  refine Qab (.pointer (some ⟨gr, 1, none⟩)) 7 rfl kj kj ?_
  refine Qab (.bool true) 8 rfl kj (Qal 4 _ gr 1 179 _ (.bool true) _ hg rfl kj kj kj) ?_
  refine Qab (.bool true) 9 rfl kj kj ?_
  refine Qas 10 rfl kj ?_
  refine Qas 11 rfl kj ?_
  refine Qab (.bool true) 12 rfl kj kj ?_
  refine Qab (.pointer (some ⟨gr, 0, none⟩)) 13 rfl kj kj ?_
  refine Qab (.pointer (some ⟨gr, 1, none⟩)) 14 rfl kj kj ?_
  refine Qav gr _ (cat [#[u], #[.bool true]]) 179 hg rfl kj (Qbl 4 _ _ gr 1 179 _ (.bool true) hg rfl kj kj kj kj kj rfl) fun W1 p1 r1_1 => ?_
  have x1 : ExtB gr w W1 := ExtB.puts (ExtB.refl gr w) p1
  refine Qaf ?_
  repeat (first | with_reducible refine goX1 ?_ | with_reducible refine goX2 ?_ | with_reducible refine goX3 ?_)
  exact (show bodyPost _ _ _ .normal _ _ from end0 rfl ⟨rfl, x1, r1_1⟩)
set_option maxHeartbeats 4000000 in
theorem QgU (gr : Nat) (u : Value) (ok : Bool) (w : World) (hg : w.heap[gr]? = some (.cells #[u, .bool false] 179)) : Calls Try.prog 103 #[.pointer (some ⟨gr, 0, none⟩), .bool ok] w (fun e W => e = .returned (.tuple #[]) ∧ ExtB gr w W ∧ W.heap[gr]? = some (.cells (cat [#[u], #[.bool (!ok)]]) 179)) := by
  refine enter 15 [(0, .pointer (some ⟨gr, 0, none⟩)), (1, .bool ok)] Try.func103 rfl rfl kj rfl ?_
  refine Qae ?_
  refine Qab (.pointer (some ⟨gr, 0, none⟩)) 4 rfl kj kj ?_
  refine Qab (.pointer (some ⟨gr, 0, none⟩)) 5 rfl kj kj ?_
  refine Qab (.pointer (some ⟨gr, 0, none⟩)) 6 rfl kj kj ?_
  refine Qab (.pointer (some ⟨gr, 1, none⟩)) 7 rfl kj kj ?_
  refine Qab (.bool false) 8 rfl kj (Qal 4 _ gr 1 179 _ (.bool false) _ hg rfl kj kj kj) ?_
  refine Qab (.bool false) 9 rfl kj kj ?_
  refine Qab (.bool ok) 10 rfl kj kj ?_
  refine Qab (.bool (!ok)) 11 rfl kj kj ?_
  refine Qab (.bool (!ok)) 12 rfl kj kj ?_
  refine Qab (.pointer (some ⟨gr, 0, none⟩)) 13 rfl kj kj ?_
  refine Qab (.pointer (some ⟨gr, 1, none⟩)) 14 rfl kj kj ?_
  refine Qav gr _ (cat [#[u], #[.bool (!ok)]]) 179 hg rfl kj (Qbl 4 _ _ gr 1 179 _ (.bool (!ok)) hg rfl kj kj kj kj kj rfl) fun W1 p1 r1_1 => ?_
  have x1 : ExtB gr w W1 := ExtB.puts (ExtB.refl gr w) p1
  refine Qaf ?_
  repeat (first | with_reducible refine goX1 ?_ | with_reducible refine goX2 ?_ | with_reducible refine goX3 ?_)
  exact (show bodyPost _ _ _ .normal _ _ from end0 rfl ⟨rfl, x1, r1_1⟩)
theorem QeK (gr : Nat) (u : Value) (bad ok : Bool) (w : World) (hg : w.heap[gr]? = some (.cells #[u, .bool bad] 179)) : Calls Try.prog 103 #[.pointer (some ⟨gr, 0, none⟩), .bool ok] w (fun e W => e = .returned (.tuple #[]) ∧ ExtB gr w W ∧ W.heap[gr]? = some (.cells #[u, .bool (bad || !ok)] 179)) := by
  cases bad with
  | true => exact QgV gr u ok w hg
  | false => exact QgU gr u ok w hg
theorem Qcv (B gr : Nat) (s : Option (List Int)) (ok : Bool) (w : World) (hB : B ≤ gr) (h : RSt B gr s w) : Calls Try.prog 103 #[.pointer (some ⟨gr, 0, none⟩), .bool ok] w (Qbj B gr w (Qax s ok) fun v _ => v = .tuple #[]) := by
  obtain ⟨u, xs, bad, h1, h2, h3, rfl⟩ := h
  refine (QeK gr u bad ok w h1).mono fun e W hh => ⟨_, hh.1, hh.2.1, ⟨u, xs, _, hh.2.2, h2.extB hh.2.1 hB, h3, ?_⟩, rfl⟩
  cases bad <;> cases ok <;> rfl
set_option maxHeartbeats 4000000 in
theorem QhJ (B gr : Nat) (a_u : Option Addr) (c_u : Nat) (xs : List Int) (n : Nat) (w : World) (hB : B ≤ gr) (hg : w.heap[gr]? = some (.cells #[.slice a_u xs.length c_u, .bool true] 179)) (ho : RdK .u8 B xs (.slice a_u xs.length c_u) w) (hcu : xs.length ≤ c_u) (ok : Bool) (hok : decide (((n : Nat) : Int) ≤ ((xs.length : Nat) : Int)) = ok) :
    Calls Try.prog 124 #[.pointer (some ⟨gr, 0, none⟩), .int .i64 ((n : Nat) : Int)] w (fun e W => e = .returned (.slice none 0 0) ∧ ExtB gr w W ∧ W.heap[gr]? = some (.cells (cat [#[.slice a_u xs.length c_u], #[.bool true]]) 179)) := by
  refine enter 35 [(0, .pointer (some ⟨gr, 0, none⟩)), (1, .int .i64 ((n : Nat) : Int))] Try.func124 rfl rfl kj rfl ?_
  refine wp_seq_k fun K2 hK2 => ?_
  refine Qae ?_
  refine Qab (.slice none 0 0) 4 rfl kj kj ?_
  refine Qaf ?_
  refine hK2 _ _ ?_
  refine wp_seq_k fun K3 hK3 => ?_
  refine Qae ?_
  refine Qab (.pointer (some ⟨gr, 0, none⟩)) 6 rfl kj kj ?_
  refine Qab (.pointer (some ⟨gr, 0, none⟩)) 7 rfl kj kj ?_
  refine Qab (.pointer (some ⟨gr, 0, none⟩)) 8 rfl kj kj ?_
  refine Qab (.pointer (some ⟨gr, 0, none⟩)) 9 rfl kj kj ?_
  refine Qab (.slice a_u xs.length c_u) 10 rfl kj (Qal 26 _ gr 0 179 _ (.slice a_u xs.length c_u) _ hg rfl kj kj kj) ?_
  refine Qab (.int .i64 ((xs.length : Nat) : Int)) 11 rfl kj kj ?_
  refine Qab (.int .i64 ((n : Nat) : Int)) 12 rfl kj kj ?_
  refine Qab (.bool (ok)) 13 rfl kj (Qa0 (u := .bool (decide (((xs.length : Nat) : Int) ≥ ((n : Nat) : Int)))) kj (congrArg Value.bool hok)) ?_
  refine Qah (fun v W' => v = .tuple #[] ∧ ExtB gr w W' ∧ W'.heap[gr]? = some (.cells (cat [#[.slice a_u xs.length c_u], #[.bool true]]) 179)) 103 #[.pointer (some ⟨gr, 0, none⟩), .bool (ok)] 14 rfl kj kj ((QeK gr _ _ _ _ hg).mono (by intro e w' h; exact ⟨_, h.1, rfl, h.2⟩)) fun v W1 h4 => ?_
  obtain ⟨rfl, q1, r1_1⟩ := h4
  have x1 : ExtB gr w W1 := ExtB.tr (ExtB.refl gr w) q1
  refine Qaf ?_
  refine hK3 _ _ ?_
  refine wp_seq_k fun K5 hK5 => ?_
  refine wp_seq_k fun K6 hK6 => ?_
  refine Qae ?_
  refine Qab (.pointer (some ⟨gr, 0, none⟩)) 15 rfl kj kj ?_
  refine Qab (.pointer (some ⟨gr, 0, none⟩)) 16 rfl kj kj ?_
  refine Qab (.pointer (some ⟨gr, 1, none⟩)) 17 rfl kj kj ?_
  refine Qab (.bool true) 18 rfl kj (Qal 4 _ gr 1 179 _ (.bool true) _ r1_1 rfl kj kj kj) ?_
  refine Qaf ?_
  refine hK6 _ _ ?_
  refine cond_true kj ?_
  refine wp_seq_k fun K7 hK7 => ?_
  refine Qae ?_
  refine Qab (.slice none 0 0) 4 rfl kj kj ?_
  refine Qaf ?_
  refine hK7 _ _ ?_
  refine wp_ret ?_
  repeat (first | with_reducible refine goR1 ?_ | with_reducible refine goR2 ?_)
  exact (show bodyPost _ _ _ .ret _ _ from ret1 (.slice none 0 0) rfl (Qa1 kj) ⟨rfl, x1, r1_1⟩)
set_option maxHeartbeats 4000000 in
theorem QhI (B gr : Nat) (a_u : Option Addr) (c_u : Nat) (xs : List Int) (n : Nat) (w : World) (hB : B ≤ gr) (hg : w.heap[gr]? = some (.cells #[.slice a_u xs.length c_u, .bool false] 179)) (ho : RdK .u8 B xs (.slice a_u xs.length c_u) w) (hcu : xs.length ≤ c_u) (h : xs.length < n) :
    Calls Try.prog 124 #[.pointer (some ⟨gr, 0, none⟩), .int .i64 ((n : Nat) : Int)] w (fun e W => e = .returned (.slice none 0 0) ∧ ExtB gr w W ∧ W.heap[gr]? = some (.cells (cat [#[.slice a_u xs.length c_u], #[.bool true]]) 179)) := by
  refine enter 35 [(0, .pointer (some ⟨gr, 0, none⟩)), (1, .int .i64 ((n : Nat) : Int))] Try.func124 rfl rfl kj rfl ?_
  refine wp_seq_k fun K2 hK2 => ?_
  refine Qae ?_
  refine Qab (.slice none 0 0) 4 rfl kj kj ?_
  refine Qaf ?_
  refine hK2 _ _ ?_
  refine wp_seq_k fun K3 hK3 => ?_
  refine Qae ?_
  refine Qab (.pointer (some ⟨gr, 0, none⟩)) 6 rfl kj kj ?_
  refine Qab (.pointer (some ⟨gr, 0, none⟩)) 7 rfl kj kj ?_
  refine Qab (.pointer (some ⟨gr, 0, none⟩)) 8 rfl kj kj ?_
  refine Qab (.pointer (some ⟨gr, 0, none⟩)) 9 rfl kj kj ?_
  refine Qab (.slice a_u xs.length c_u) 10 rfl kj (Qal 26 _ gr 0 179 _ (.slice a_u xs.length c_u) _ hg rfl kj kj kj) ?_
  refine Qab (.int .i64 ((xs.length : Nat) : Int)) 11 rfl kj kj ?_
  refine Qab (.int .i64 ((n : Nat) : Int)) 12 rfl kj kj ?_
  refine Qab (.bool false) 13 rfl kj (Qa0 (u := .bool (decide (((xs.length : Nat) : Int) ≥ ((n : Nat) : Int)))) kj (congrArg Value.bool (decide_eq_false (by omega)))) ?_
  refine Qah (fun v W' => v = .tuple #[] ∧ ExtB gr w W' ∧ W'.heap[gr]? = some (.cells (cat [#[.slice a_u xs.length c_u], #[.bool true]]) 179)) 103 #[.pointer (some ⟨gr, 0, none⟩), .bool false] 14 rfl kj kj ((QeK gr _ _ _ _ hg).mono (by intro e w' h; exact ⟨_, h.1, rfl, h.2⟩)) fun v W1 h4 => ?_
  obtain ⟨rfl, q1, r1_1⟩ := h4
  have x1 : ExtB gr w W1 := ExtB.tr (ExtB.refl gr w) q1
  refine Qaf ?_
  refine hK3 _ _ ?_
  refine wp_seq_k fun K5 hK5 => ?_
  refine wp_seq_k fun K6 hK6 => ?_
  refine Qae ?_
  refine Qab (.pointer (some ⟨gr, 0, none⟩)) 15 rfl kj kj ?_
  refine Qab (.pointer (some ⟨gr, 0, none⟩)) 16 rfl kj kj ?_
  refine Qab (.pointer (some ⟨gr, 1, none⟩)) 17 rfl kj kj ?_
  refine Qab (.bool true) 18 rfl kj (Qal 4 _ gr 1 179 _ (.bool true) _ r1_1 rfl kj kj kj) ?_
  refine Qaf ?_
  refine hK6 _ _ ?_
  refine cond_true kj ?_
  refine wp_seq_k fun K7 hK7 => ?_
  refine Qae ?_
  refine Qab (.slice none 0 0) 4 rfl kj kj ?_
  refine Qaf ?_
  refine hK7 _ _ ?_
  refine wp_ret ?_
  repeat (first | with_reducible refine goR1 ?_ | with_reducible refine goR2 ?_)
  exact (show bodyPost _ _ _ .ret _ _ from ret1 (.slice none 0 0) rfl (Qa1 kj) ⟨rfl, x1, r1_1⟩)
set_option maxHeartbeats 4000000 in
theorem QhH (B gr : Nat) (a_u : Option Addr) (c_u : Nat) (xs : List Int) (n : Nat) (w : World) (hB : B ≤ gr) (hg : w.heap[gr]? = some (.cells #[.slice a_u xs.length c_u, .bool false] 179)) (ho : RdK .u8 B xs (.slice a_u xs.length c_u) w) (hcu : xs.length ≤ c_u) (h : n ≤ xs.length) :
    Calls Try.prog 124 #[.pointer (some ⟨gr, 0, none⟩), .int .i64 ((n : Nat) : Int)] w (fun e W => e = .returned (.slice a_u n c_u) ∧ ExtB gr w W ∧ W.heap[gr]? = some (.cells (cat [#[.slice (Qda a_u c_u n) (xs.length - n) (c_u - n)], #[.bool false]]) 179)) := by
  refine enter 35 [(0, .pointer (some ⟨gr, 0, none⟩)), (1, .int .i64 ((n : Nat) : Int))] Try.func124 rfl rfl kj rfl ?_
  refine wp_seq_k fun K2 hK2 => ?_
  refine Qae ?_
  refine Qab (.slice none 0 0) 4 rfl kj kj ?_
  refine Qaf ?_
  refine hK2 _ _ ?_
  refine wp_seq_k fun K3 hK3 => ?_
  refine Qae ?_
  refine Qab (.pointer (some ⟨gr, 0, none⟩)) 6 rfl kj kj ?_
  refine Qab (.pointer (some ⟨gr, 0, none⟩)) 7 rfl kj kj ?_
  refine Qab (.pointer (some ⟨gr, 0, none⟩)) 8 rfl kj kj ?_
  refine Qab (.pointer (some ⟨gr, 0, none⟩)) 9 rfl kj kj ?_
  refine Qab (.slice a_u xs.length c_u) 10 rfl kj (Qal 26 _ gr 0 179 _ (.slice a_u xs.length c_u) _ hg rfl kj kj kj) ?_
  refine Qab (.int .i64 ((xs.length : Nat) : Int)) 11 rfl kj kj ?_
  refine Qab (.int .i64 ((n : Nat) : Int)) 12 rfl kj kj ?_
  refine Qab (.bool true) 13 rfl kj (Qa0 (u := .bool (decide (((xs.length : Nat) : Int) ≥ ((n : Nat) : Int)))) kj (congrArg Value.bool (decide_eq_true (by omega)))) ?_
  refine Qah (fun v W' => v = .tuple #[] ∧ ExtB gr w W' ∧ W'.heap[gr]? = some (.cells (cat [#[.slice a_u xs.length c_u], #[.bool false]]) 179)) 103 #[.pointer (some ⟨gr, 0, none⟩), .bool true] 14 rfl kj kj ((QeK gr _ _ _ _ hg).mono (by intro e w' h; exact ⟨_, h.1, rfl, h.2⟩)) fun v W1 h4 => ?_
  obtain ⟨rfl, q1, r1_1⟩ := h4
  have x1 : ExtB gr w W1 := ExtB.tr (ExtB.refl gr w) q1
  refine Qaf ?_
  refine hK3 _ _ ?_
  refine wp_seq_k fun K5 hK5 => ?_
  refine wp_seq_k fun K6 hK6 => ?_
  refine Qae ?_
  refine Qab (.pointer (some ⟨gr, 0, none⟩)) 15 rfl kj kj ?_
  refine Qab (.pointer (some ⟨gr, 0, none⟩)) 16 rfl kj kj ?_
  refine Qab (.pointer (some ⟨gr, 1, none⟩)) 17 rfl kj kj ?_
  refine Qab (.bool false) 18 rfl kj (Qal 4 _ gr 1 179 _ (.bool false) _ r1_1 rfl kj kj kj) ?_
  refine Qaf ?_
  refine hK6 _ _ ?_
  refine cond_false kj ?_
  refine wp_skip ?_
  refine hK5 _ _ ?_
  refine wp_seq_k fun K7 hK7 => ?_
  refine Qae ?_
  refine Qab (.pointer (some ⟨gr, 0, none⟩)) 19 rfl kj kj ?_
  refine Qab (.pointer (some ⟨gr, 0, none⟩)) 20 rfl kj kj ?_
  refine Qab (.pointer (some ⟨gr, 0, none⟩)) 21 rfl kj kj ?_
  refine Qab (.slice a_u xs.length c_u) 22 rfl kj (Qal 26 _ gr 0 179 _ (.slice a_u xs.length c_u) _ r1_1 rfl kj kj kj) ?_
  refine Qab (.int .i64 ((n : Nat) : Int)) 23 rfl kj kj ?_
  refine Qab (.slice a_u n c_u) 24 rfl kj (Qff 26 _ _ n 5 rfl (a := a_u) (len := xs.length) (cap := c_u) kj kj kj .i64 kj (by omega)) ?_
  refine Qab (.slice a_u n c_u) 5 rfl kj kj ?_
  refine Qaf ?_
  refine hK7 _ _ ?_
  refine wp_seq_k fun K8 hK8 => ?_
  refine Qae ?_
  refine Qab (.pointer (some ⟨gr, 0, none⟩)) 25 rfl kj kj ?_
  refine Qab (.pointer (some ⟨gr, 0, none⟩)) 26 rfl kj kj ?_
  refine Qab (.pointer (some ⟨gr, 0, none⟩)) 27 rfl kj kj ?_
  refine Qab (.pointer (some ⟨gr, 0, none⟩)) 28 rfl kj kj ?_
  refine Qab (.slice a_u xs.length c_u) 29 rfl kj (Qal 26 _ gr 0 179 _ (.slice a_u xs.length c_u) _ r1_1 rfl kj kj kj) ?_
  refine Qab (.int .i64 ((n : Nat) : Int)) 30 rfl kj kj ?_
  refine Qab (.slice (Qda a_u c_u n) (xs.length - n) (c_u - n)) 31 rfl kj (Qdm 26 _ _ n 5 rfl (a := a_u) (len := xs.length) (cap := c_u) kj kj kj .i64 kj h hcu) ?_
  refine Qab (.pointer (some ⟨gr, 0, none⟩)) 32 rfl kj kj ?_
  refine Qab (.pointer (some ⟨gr, 0, none⟩)) 33 rfl kj kj ?_
  refine Qav gr _ (cat [#[.slice (Qda a_u c_u n) (xs.length - n) (c_u - n)], #[.bool false]]) 179 r1_1 rfl kj (Qbl 26 _ _ gr 0 179 _ (.slice (Qda a_u c_u n) (xs.length - n) (c_u - n)) r1_1 rfl kj kj kj kj kj rfl) fun W2 p2 r1_2 => ?_
  have x2 : ExtB gr w W2 := ExtB.puts x1 p2
  refine Qaf ?_
  refine hK8 _ _ ?_
  refine wp_seq_k fun K9 hK9 => ?_
  refine Qae ?_
  refine Qab (.slice a_u n c_u) 34 rfl kj kj ?_
  refine Qab (.slice a_u n c_u) 4 rfl kj kj ?_
  refine Qaf ?_
  refine hK9 _ _ ?_
  refine wp_ret ?_
  repeat (first | with_reducible refine goR1 ?_ | with_reducible refine goR2 ?_)
  exact (show bodyPost _ _ _ .ret _ _ from ret1 (.slice a_u n c_u) rfl (Qa1 kj) ⟨rfl, x2, r1_2⟩)
theorem Qgg (B gr : Nat) (s : Option (List Int)) (n : Nat) (w : World) (hB : B ≤ gr) (h : RSt B gr s w) : Calls Try.prog 124 #[.pointer (some ⟨gr, 0, none⟩), .int .i64 ((n : Nat) : Int)] w (Qbj B gr w (Qac s n) fun v W => RdK .u8 B (Qag s n) v W ∧ Qao (Qag s n)) := by
  obtain ⟨u, xs, bad, h1, h2, h3, rfl⟩ := h
  obtain ⟨a_u, c_u, rfl, hcu, -⟩ := id h2
  cases bad with
  | true => exact (QhJ B gr a_u c_u xs n w hB h1 h2 hcu _ rfl).mono fun e W ⟨a, b, c⟩ => ⟨_, a, b, ⟨_, xs, true, c, h2.extB b hB, h3, rfl⟩, Qhn _ _, Qcc⟩
  | false =>
    by_cases hf : n ≤ xs.length
    · refine (QhH B gr a_u c_u xs n w hB h1 h2 hcu hf).mono fun e W ⟨a, b, c⟩ => ⟨_, a, b, ⟨_, xs.drop n, false, c, QeM (h2.extB b hB) n hf, QbN h3 n, if_pos hf⟩, ?_⟩
      show RdK .u8 B (if n ≤ xs.length then xs.take n else []) _ W ∧ Qao (if n ≤ xs.length then xs.take n else [])
      rw [if_pos hf]
      exact ⟨Qgm (h2.extB b hB) n hf, QcA h3 n⟩
    · refine (QhI B gr a_u c_u xs n w hB h1 h2 hcu (by omega)).mono fun e W ⟨a, b, c⟩ => ⟨_, a, b, ⟨_, xs, true, c, h2.extB b hB, h3, if_neg hf⟩, ?_⟩
      show RdK .u8 B (if n ≤ xs.length then xs.take n else []) _ W ∧ Qao (if n ≤ xs.length then xs.take n else [])
      rw [if_neg hf]
      exact ⟨Qhn _ _, Qcc⟩
end Go.Proofs.Ytfelfmchachljaa.Wr
end
section
namespace Go.Proofs.Ytfelfmchachljaa.Wr
open Go Go.RowKit
open Rely Auto Own Sha
set_option linter.unusedVariables false
set_option linter.unusedSimpArgs false
def bigN (ys : List Int) : Nat := ys.foldl (fun n b => n * 256 + b.toNat) 0
theorem QfT (ys : List Int) (i : Nat) (h : i < ys.length) : bigN (ys.take (i + 1)) = bigN (ys.take i) * 256 + (nth ys i).toNat := by
  have e : ys.take (i + 1) = ys.take i ++ [nth ys i] := by
    rw [List.take_add_one, List.getElem?_eq_getElem h]
    unfold nth
    rw [List.getD_eq_getElem?_getD, List.getElem?_eq_getElem h]
    rfl
  unfold bigN
  rw [e, List.foldl_append]
  rfl
theorem Qig (ys : List Int) (hb : Qao ys) : ∀ a : Nat, ys.foldl (fun n b => n * 256 + b.toNat) a < (a + 1) * 256 ^ ys.length := by
  induction ys with
  | nil => intro a; show a < (a + 1) * 1; omega
  | cons y ys ih =>
    intro a
    have h1 := ih (fun x hx => hb x (List.mem_cons_of_mem _ hx)) (a * 256 + y.toNat)
    have h2 := hb y List.mem_cons_self
    refine Nat.lt_of_lt_of_le h1 ?_
    rw [List.length_cons, Nat.pow_succ, Nat.mul_comm (256 ^ ys.length) 256, ← Nat.mul_assoc]
    exact Nat.mul_le_mul_right _ (by omega)
theorem QcB (ys : List Int) (hb : Qao ys) (n : Nat) (hn : ys.length ≤ n) : bigN ys < 256 ^ n := by
  have h := Qig ys hb 0
  rw [Nat.zero_add, Nat.one_mul] at h
  exact Nat.lt_of_lt_of_le h (Nat.pow_le_pow_right (by decide) hn)
theorem Qg4 (ys : List Int) (hb : Qao ys) (hn : ys.length ≤ 4) : bigN ys < 4294967296 := QcB ys hb 4 hn
theorem Qhj (a b c : Nat) (hb : b < 256) (hc : a * 256 + b = c) (hs : c < 4611686018427387904) : bits .or .i64 ((a * 256 : Nat) : Int) ((b : Nat) : Int) = ((c : Nat) : Int) := by
  have h : bits .or .i64 ((a * 256 : Nat) : Int) ((b : Nat) : Int) = IntKind.i64.wrap (((BitVec.ofInt 64 ((a * 256 : Nat) : Int)) ||| (BitVec.ofInt 64 ((b : Nat) : Int))).toNat : Int) := rfl
  rw [h, BitVec.toNat_or, BitVec.toNat_ofInt, BitVec.toNat_ofInt]
  have e1 : (((a * 256 : Nat) : Int) % ((2 ^ 64 : Nat) : Int)).toNat = 2 ^ 8 * a := by omega
  have e2 : (((b : Nat) : Int) % ((2 ^ 64 : Nat) : Int)).toNat = b := by omega
  rw [e1, e2, ← Nat.two_pow_add_eq_or_of_lt (i := 8) (by omega) a, show 2 ^ 8 * a + b = c by omega]
  exact IntWalk.i64_in _ (by omega)
theorem Qf0 (a : Nat) (h : a * 256 < 4611686018427387904) : IntKind.i64.wrap (((a : Nat) : Int) * 2 ^ min (8 : Int).toNat IntKind.i64.bits) = ((a * 256 : Nat) : Int) := by
  rw [show (2 : Int) ^ min (8 : Int).toNat IntKind.i64.bits = 256 by decide]
  exact (IntWalk.i64_in _ (by omega)).trans (by omega)
theorem Qix {ys : List Int} (hb : Qao ys) (i : Nat) : IntKind.i64.wrap (nth ys i) = (((nth ys i).toNat : Nat) : Int) ∧ (nth ys i).toNat < 256 := by
  have h : 0 ≤ nth ys i ∧ nth ys i ≤ 255 := by
    unfold nth
    rw [List.getD_eq_getElem?_getD]
    cases e : ys[i]? with
    | none => exact ⟨Int.le_refl _, by decide⟩
    | some x => exact hb x (List.mem_of_getElem? e)
  exact ⟨(IntWalk.i64_in _ (by omega)).trans (by omega), by omega⟩
set_option maxHeartbeats 4000000 in
theorem QaQ (B gr : Nat) (s : Option (List Int)) (size : Nat) (w : World) (hB : B ≤ gr) (h : RSt B gr s w) (hsz : size ≤ 4) : Calls Try.prog 110 #[.pointer (some ⟨gr, 0, none⟩), .int .i64 ((size : Nat) : Int)] w (Qbj B gr w (Qac s size) fun v _ => v = .int .i64 ((bigN (Qag s size) : Nat) : Int)) := by
 have hgr := h.lt
 refine enter 23 [(0, .pointer (some ⟨gr, 0, none⟩)), (1, .int .i64 ((size : Nat) : Int))] Try.func110 rfl rfl kj rfl ?_
 refine wp_seq_k fun K1 hK1 => ?_
 refine Qae ?_
 refine Qab (.int .i64 0) 4 rfl kj kj ?_
 refine Qaf ?_
 refine hK1 _ _ ?_
 refine wp_seq_k fun K2 hK2 => ?_
 refine Qae ?_
 refine Qab (.int .i64 0) 5 rfl kj kj ?_
 refine Qaf ?_
 refine hK2 _ _ ?_
 refine wp_seq_k fun K3 hK3 => ?_
 refine wp_seq_k fun K4 hK4 => ?_
 refine Qae ?_
 refine Qab (.pointer (some ⟨gr, 0, none⟩)) 8 rfl kj kj ?_
 refine Qab (.int .i64 ((size : Nat) : Int)) 9 rfl kj kj ?_
 refine Qah (fun v W' => ExtB gr w W' ∧ RSt B gr (Qac (s) size) W' ∧ (fun (v : Value) (W : World) => RdK .u8 B (Qag (s) size) v W ∧ Qao (Qag (s) size)) v W') 124 #[.pointer (some ⟨gr, 0, none⟩), .int .i64 ((size : Nat) : Int)] 10 rfl kj kj (Qgg B gr _ size _ hB h) fun vv5 W1 hh5 => ?_
 obtain ⟨q1, rs5, hv5⟩ := hh5
 have x1 : ExtB gr w W1 := ExtB.tr (ExtB.refl gr w) q1
 obtain ⟨hr, hyb⟩ := hv5
 have hyl := Qai s size
 obtain ⟨ys, hys⟩ : ∃ z, z = Qag s size := ⟨_, rfl⟩
 rw [← hys] at hr hyb hyl
 obtain ⟨a_y, c_y, rfl, -⟩ := id hr
 refine Qab (.int .i64 ((ys.length : Nat) : Int)) 11 rfl kj kj ?_
 refine Qab (.int .i64 0) 12 rfl kj kj ?_
 refine Qaf ?_
 refine hK4 _ _ ?_
 refine wp_block ?_
 refine QaX (fun (s1 : Nat) => [(5, .int .i64 ((bigN (ys.take s1) : Nat) : Int)), (10, .slice a_y ys.length c_y), (11, .int .i64 ((ys.length : Nat) : Int)), (12, .int .i64 ((s1 : Nat) : Int))]) (fun (s1 : Nat) W => (s1 ≤ ys.length) ∧ (Ext W1 W) ∧ (ExtB gr w W)) (fun (s1 : Nat) => ys.length - s1) 0 ⟨rfl, rfl, rfl, rfl, trivial⟩ ⟨(Nat.zero_le _), (Rely.Ext.refl W1), x1⟩ fun s1 X1 V1 hI1 => ?_
 obtain ⟨i, hs1⟩ : ∃ z, z = s1 := ⟨_, rfl⟩
 subst hs1
 obtain ⟨hi, kk1, xx1⟩ := hI1
 replace hi : i ≤ ys.length := hi
 replace kk1 : Ext W1 V1 := kk1
 replace xx1 : ExtB gr w V1 := xx1
 have e2 := kk1
 refine wp_seq_k fun K6 hK6 => ?_
 refine Qae ?_
 refine Qab (.bool (decide (((i : Nat) : Int) < ((ys.length : Nat) : Int)))) 13 rfl kj kj ?_
 refine Qaf ?_
 refine hK6 _ _ ?_
 refine wp_seq_k fun K7 hK7 => ?_
 refine Qa7 (t := decide (((i : Nat) : Int) < ((ys.length : Nat) : Int))) kj (fun c8 => ?_) (fun c8 => ?_)
 ·skip
  have hlt13 : i < ys.length := by have := of_decide_eq_true c8; omega
  have f10_2 := (hr.ext e2)
  have hny_9 : (ys).length = ys.length := rfl
  obtain ⟨gcy_9, ocy_9, hay_9, hly_9, hcy_9⟩ := Qd7 f10_2 (by rw [hny_9]; omega)
  have hq := QfT ys i hlt13
  have hq1 := Qg4 (ys.take i) (QcA hyb i) (by rw [List.length_take]; omega)
  obtain ⟨hq2, hq3⟩ := Qix hyb i
  refine wp_skip ?_
  refine hK7 _ _ ?_
  refine wp_seq_k fun K11 hK11 => ?_
  refine wp_block ?_
  refine wp_seq_k fun K12 hK12 => ?_
  refine Qae ?_
  refine Qab (.pointer (some ⟨gcy_9, ocy_9 + i, none⟩)) 14 rfl kj (Qce 26 _ _ .i64 i gcy_9 ocy_9 ys.length c_y 5 a_y _ hay_9 rfl rfl kj kj kj kj (Nat.lt_of_lt_of_eq (show i < ys.length by omega) hny_9.symm)) ?_
  refine Qab (.int .u8 (nth (ys) (i))) 15 rfl kj (QbG 5 _ _ (.int .u8 (nth (ys) (i))) (hcy_9 i (Nat.lt_of_lt_of_eq (show i < ys.length by omega) hny_9.symm)) rfl kj kj) ?_
  refine Qab (.int .u8 (nth (ys) (i))) 7 rfl kj kj ?_
  refine Qaf ?_
  refine hK12 _ _ ?_
  refine Qae ?_
  refine Qab (.int .i64 ((bigN (ys.take i) : Nat) : Int)) 16 rfl kj kj ?_
  refine Qab (.int .i64 (((bigN (ys.take i) * 256 : Nat) : Int))) 17 rfl kj (Qcp .shl _ _ _ _ .i64 .u64 _ _ _ rfl kj kj (Qiy _ _ _ _ _ _ (by decide) (Qf0 _ (by omega)))) ?_
  refine Qab (.int .u8 (nth (ys) (i))) 18 rfl kj kj ?_
  refine Qab (.int .i64 ((((nth ys i).toNat : Nat) : Int))) 19 rfl kj (Qa0 (u := .int .i64 (IntKind.i64.wrap (nth (ys) (i)))) kj (congrArg (Value.int .i64) hq2)) ?_
  refine Qab (.int .i64 (((bigN (ys.take (i + 1)) : Nat) : Int))) 20 rfl kj (Qa0 (u := .int .i64 (bits .or .i64 (((bigN (ys.take i) * 256 : Nat) : Int)) ((((nth ys i).toNat : Nat) : Int)))) kj (congrArg (Value.int .i64) (Qhj _ _ _ hq3 hq.symm (by omega)))) ?_
  refine Qab (.int .i64 (((bigN (ys.take (i + 1)) : Nat) : Int))) 5 rfl kj kj ?_
  refine Qaf ?_
  refine hK11 _ _ ?_
  refine Qae ?_
  refine Qab (.int .i64 ((i + 1 : Nat) : Int)) 21 rfl kj (Qa0 (u := .int .i64 (IntKind.i64.wrap (((i : Nat) : Int) + 1))) kj (congrArg (Value.int .i64) (i64n _ _ (by omega) (by omega)))) ?_
  refine Qab (.int .i64 ((i + 1 : Nat) : Int)) 12 rfl kj kj ?_
  refine Qaf ?_
  repeat (first | with_reducible refine goX1 ?_ | with_reducible refine goX2 ?_ | with_reducible refine goX3 ?_)
  exact QaU (i + 1) ⟨rfl, rfl, rfl, rfl, trivial⟩ ⟨(by omega), e2, xx1⟩ (by omega)
 ·skip
  have heq13 : i = ys.length := by have := of_decide_eq_false c8; omega
  refine wp_exit ?_
  refine hK3 _ _ ?_
  refine wp_seq_k fun K13 hK13 => ?_
  refine Qae ?_
  refine Qab (.int .i64 ((bigN (ys.take i) : Nat) : Int)) 22 rfl kj kj ?_
  refine Qab (.int .i64 ((bigN (ys.take i) : Nat) : Int)) 4 rfl kj kj ?_
  refine Qaf ?_
  refine hK13 _ _ ?_
  refine wp_ret ?_
  repeat (first | with_reducible refine goR1 ?_ | with_reducible refine goR2 ?_)
  have rs14 := (RSt.ext rs5 hB e2)
  exact (show bodyPost _ _ _ .ret _ _ from ret1 (.int .i64 ((bigN (ys.take i) : Nat) : Int)) rfl (Qa1 kj) ⟨_, rfl, xx1, rs14, by rw [heq13, List.take_length, hys]⟩)
def Qaj (s : Option (List Int)) : Option (List Int) := Qax (Qac s 1) (decide (((bigN (Qag s 1) : Nat) : Int) < 32))
set_option maxHeartbeats 4000000 in
theorem QcF (B gr : Nat) (s : Option (List Int)) (w : World) (hB : B ≤ gr) (h : RSt B gr s w) : Calls Try.prog 111 #[.pointer (some ⟨gr, 0, none⟩)] w (Qbj B gr w (Qaj s) fun v _ => v = .int .i64 ((bigN (Qag s 1) : Nat) : Int)) := by
  have hgr := h.lt
  refine enter 11 [(0, .pointer (some ⟨gr, 0, none⟩))] Try.func111 rfl rfl kj rfl ?_
  refine wp_seq_k fun K1 hK1 => ?_
  refine Qae ?_
  refine Qab (.int .i64 0) 2 rfl kj kj ?_
  refine Qaf ?_
  refine hK1 _ _ ?_
  refine wp_seq_k fun K2 hK2 => ?_
  refine Qae ?_
  refine Qab (.pointer (some ⟨gr, 0, none⟩)) 4 rfl kj kj ?_
  refine Qah (fun v W' => ExtB gr w W' ∧ RSt B gr (Qac (s) 1) W' ∧ (fun (v : Value) (_ : World) => v = .int .i64 ((bigN (Qag (s) 1) : Nat) : Int)) v W') 110 #[.pointer (some ⟨gr, 0, none⟩), .int .i64 1] 5 rfl kj kj (QaQ B gr _ 1 _ hB h (by decide)) fun vv3 W1 hh3 => ?_
  obtain ⟨q1, rs3, hv3⟩ := hh3
  have x1 : ExtB gr w W1 := ExtB.tr (ExtB.refl gr w) q1
  subst hv3
  refine Qab (.int .i64 ((bigN (Qag (s) 1) : Nat) : Int)) 3 rfl kj kj ?_
  refine Qaf ?_
  refine hK2 _ _ ?_
  refine wp_seq_k fun K4 hK4 => ?_
  refine Qae ?_
  refine Qab (.pointer (some ⟨gr, 0, none⟩)) 6 rfl kj kj ?_
  refine Qab (.int .i64 ((bigN (Qag (s) 1) : Nat) : Int)) 7 rfl kj kj ?_
  refine Qab (.bool (decide (((bigN (Qag (s) 1) : Nat) : Int) < 32))) 8 rfl kj kj ?_
  refine Qah (fun v W' => ExtB gr W1 W' ∧ RSt B gr (Qax (Qac (s) 1) (decide (((bigN (Qag (s) 1) : Nat) : Int) < 32))) W' ∧ (fun (v : Value) (_ : World) => v = .tuple #[]) v W') 103 #[.pointer (some ⟨gr, 0, none⟩), .bool (decide (((bigN (Qag (s) 1) : Nat) : Int) < 32))] 9 rfl kj kj (Qcv B gr _ (decide (((bigN (Qag (s) 1) : Nat) : Int) < 32)) _ hB rs3) fun vv5 W2 hh5 => ?_
  obtain ⟨q2, rs5, hv5⟩ := hh5
  have x2 : ExtB gr w W2 := ExtB.tr x1 q2
  subst hv5
  refine Qaf ?_
  refine hK4 _ _ ?_
  refine wp_seq_k fun K6 hK6 => ?_
  refine Qae ?_
  refine Qab (.int .i64 ((bigN (Qag (s) 1) : Nat) : Int)) 10 rfl kj kj ?_
  refine Qab (.int .i64 ((bigN (Qag (s) 1) : Nat) : Int)) 2 rfl kj kj ?_
  refine Qaf ?_
  refine hK6 _ _ ?_
  refine wp_ret ?_
  repeat (first | with_reducible refine goR1 ?_ | with_reducible refine goR2 ?_)
  exact (show bodyPost _ _ _ .ret _ _ from ret1 (.int .i64 ((bigN (Qag (s) 1) : Nat) : Int)) rfl (Qa1 kj) ⟨_, rfl, x2, rs5, rfl⟩)
end Go.Proofs.Ytfelfmchachljaa.Wr
end
section
namespace Go.Proofs.Ytfelfmchachljaa.Wr
open Go Go.RowKit
open Rely Auto Own Sha
set_option linter.unusedVariables false
set_option linter.unusedSimpArgs false
open Wk
theorem Qf2 {P : Program} {ρ : Operand → Value} {o : Oper} {W : World} {k : IntKind} {e : TypeId} (x y : Operand) (tx ty : TypeId) (ho : o.op = .call { callee := .builtin .copy, args := #[x, y], argTypes := #[tx, ty] }) (hu : P.underlying tx = some (.slice e)) (hsz : (P.info? e).map (·.size) = some 1)
    {g off dl dc n B : Nat} {xs z : List Int} {v : Value} {T : TypeId} (hx : ρ x = .slice (some ⟨g, off, none⟩) dl dc) (hy : ρ y = v) (hr : RdK k B z v W)
    (hg : W.heap[g]? = some (.cells (ints k xs) T)) (hq : off + dl ≤ xs.length) (hn : n = min z.length dl) :
    ∃ W' : World, (execOp ρ o).run P W = .ok (.value (.int .i64 ((n : Nat) : Int))) W' ∧ Puts W g W' ∧ W'.heap[g]? = some (.cells (ints k (xs.take off ++ z.take n ++ xs.drop (off + n))) T) := by
  obtain ⟨a, cap, rfl, y2, y3, y4, y5⟩ := hr
  have hgo : ∀ W', (Builtin.copy_ #[tx, ty] o.type #[.slice (some ⟨g, off, none⟩) dl dc, .slice a z.length cap]).run P W = .ok (goInt n) W' → (execOp ρ o).run P W = .ok (.value (.int .i64 ((n : Nat) : Int))) W' := fun W' h => by
    unfold execOp
    simp only [ho, resolve, invoke, builtin, Sem.run_bind, Sem.run_pure, Result.andThen_ok, List.map_toArray, List.map_cons, List.map_nil, hx, hy, h, goInt]
  rcases Nat.eq_zero_or_pos n with h0 | h0
  · refine ⟨W, hgo W ?_, ⟨rfl, rfl, rfl, rfl, fun _ _ => rfl⟩, ?_⟩
    · rw [h0]; exact run_copy_none W tx ty o.type e _ _ _ _ _ _ hu hsz (hn.symm.trans h0)
    · rw [h0, List.take_zero, List.append_nil, Nat.add_zero, List.take_append_drop]; exact hg
  · obtain ⟨gz, oz, rfl, z2, z3, z4⟩ := y5.resolve_left (fun e => by rw [e] at hn; simp at hn; omega)
    have hlen : ((z.take n).map (Value.int k)).length = n := by simp; omega
    have h := run_copy_row (P := P) W tx ty o.type e g off dl dc ⟨gz, oz, none⟩ z.length cap (ints k xs) T ((z.take n).map (Value.int k)) hu hsz hg (by rw [hlen]; exact hn)
      (QhR (k := k) (ys := z.take n) fun i hi => by
        rw [List.length_take] at hi
        rw [z4 i (by omega)]
        simp [nth, show i < n by omega]) (by rw [hlen, Qad]; omega) (QhP k _)
    rw [hlen] at h
    have e1 : ((ints k xs).toList.take off ++ (z.take n).map (Value.int k) ++ (ints k xs).toList.drop (off + n)).toArray = ints k (xs.take off ++ z.take n ++ xs.drop (off + n)) := by
      apply Array.ext'
      show (xs.map (Value.int k)).take off ++ (z.take n).map (Value.int k) ++ (xs.map (Value.int k)).drop (off + n) = (xs.take off ++ z.take n ++ xs.drop (off + n)).map (Value.int k)
      simp only [List.map_append, List.map_take, List.map_drop]
    rw [e1] at h
    exact ⟨_, hgo _ h, Qdb _ _ _, setRow_heap _ _ _ _ _ _ hg⟩
theorem Qea {P : Program} {ρ : Operand → Value} {o : Oper} {W : World} {k : IntKind} {e : TypeId} (x y : Operand) (tx ty : TypeId) (ho : o.op = .call { callee := .builtin .copy, args := #[x, y], argTypes := #[tx, ty] }) (hu : P.underlying tx = some (.slice e)) (hsz : (P.info? e).map (·.size) = some 1)
    {g off dl dc n B : Nat} {xs ys z : List Int} {v : Value} {T : TypeId} (hx : ρ x = .slice (some ⟨g, off, none⟩) dl dc) (hy : ρ y = v) (hr : RdK k B z v W)
    (hg : W.heap[g]? = some (.cells (ints k xs) T)) (hq : off + dl ≤ xs.length) (hn : n = min z.length dl) (hY : xs.take off ++ z.take n ++ xs.drop (off + n) = ys) :
    ∃ W' : World, (execOp ρ o).run P W = .ok (.value (.int .i64 ((n : Nat) : Int))) W' ∧ Puts W g W' ∧ W'.heap[g]? = some (.cells (ints k ys) T) := hY ▸ Qf2 x y tx ty ho hu hsz hx hy hr hg hq hn
set_option maxHeartbeats 4000000 in
theorem Qh0 (w : World) : Calls Try.prog 129 #[.slice none 0 0] w (QcD w (OwnN .u8 5 w.heap.size [])) := by
  refine enter 8 [(0, .slice none 0 0)] Try.func129 rfl rfl kj rfl ?_
  refine wp_seq_k fun K1 hK1 => ?_
  refine Qae ?_
  refine Qab (.slice none 0 0) 2 rfl kj kj ?_
  refine Qaf ?_
  refine hK1 _ _ ?_
  refine wp_seq_k fun K2 hK2 => ?_
  refine wp_seq_k fun K3 hK3 => ?_
  refine Qae ?_
  refine Qab (.slice none 0 0) 3 rfl kj kj ?_
  refine Qab (.bool true) 4 rfl kj kj ?_
  refine Qaf ?_
  refine hK3 _ _ ?_
  refine cond_true kj ?_
  refine wp_seq_k fun K4 hK4 => ?_
  refine Qae ?_
  refine Qab (.slice none 0 0) 2 rfl kj kj ?_
  refine Qaf ?_
  refine hK4 _ _ ?_
  refine wp_ret ?_
  repeat (first | with_reducible refine goR1 ?_ | with_reducible refine goR2 ?_)
  exact (show bodyPost _ _ _ .ret _ _ from ret1 (.slice none 0 0) rfl (Qa1 kj) ⟨_, rfl, (Rely.Ext.refl w), QbV .u8 5 _ _⟩)
set_option maxHeartbeats 4000000 in
theorem Qhz (text : List Int) (ad : Addr) (cp B : Nat) (w : World) (htl : text.length ≤ 900000000) (ht : RdK .u8 B text (.slice (some ad) text.length cp) w) : Calls Try.prog 129 #[.slice (some ad) text.length cp] w (QcD w (OwnN .u8 5 w.heap.size text)) := by
  refine enter 8 [(0, .slice (some ad) text.length cp)] Try.func129 rfl rfl kj rfl ?_
  refine wp_seq_k fun K1 hK1 => ?_
  refine Qae ?_
  refine Qab (.slice none 0 0) 2 rfl kj kj ?_
  refine Qaf ?_
  refine hK1 _ _ ?_
  refine wp_seq_k fun K2 hK2 => ?_
  refine wp_seq_k fun K3 hK3 => ?_
  refine Qae ?_
  refine Qab (.slice (some ad) text.length cp) 3 rfl kj kj ?_
  refine Qab (.bool false) 4 rfl kj kj ?_
  refine Qaf ?_
  refine hK3 _ _ ?_
  refine cond_false kj ?_
  refine wp_skip ?_
  refine hK2 _ _ ?_
  refine wp_seq_k fun K4 hK4 => ?_
  refine Qae ?_
  refine Qb5 (ints .u8 ([])) 5 0 5 rfl kj kj fun g5 W1 l5 e1 r5_1 => ?_
  have x1 : Ext w W1 := Ext.tr (Rely.Ext.refl w) e1
  have b5 : w.heap.size ≤ g5 := Nat.le_trans (Rely.Ext.refl w).size l5
  refine Qab (.slice (some ad) text.length cp) 6 rfl kj kj ?_
  have y0_1 : Ext w W1 := (Rely.Ext.trans (Rely.Ext.refl w) e1)
  refine QbS (k := .u8) (T := 5) (xs := []) (ys := text) (V := w) 1 (.tmp 5) (.tmp 6) 26 rfl kj kj (by decide) 7 rfl kj kj kj (Qgu (xs := []) rfl l5 r5_1 (by decide)) (RdK.ext ht x1) (by simp; omega) y0_1 fun u1 W2 f6 y2 l2 => ?_
  have x2 : Ext w W2 := Ext.low x1 l2 (Rely.Ext.refl w).size
  refine Qab (u1) 2 rfl kj kj ?_
  refine Qaf ?_
  refine hK4 _ _ ?_
  refine wp_ret ?_
  repeat (first | with_reducible refine goR1 ?_ | with_reducible refine goR2 ?_)
  exact (show bodyPost _ _ _ .ret _ _ from ret1 (u1) rfl (Qa1 kj) ⟨_, rfl, x2, f6⟩)
theorem Qg9 {P : Program} {ρ : Operand → Value} {o : Oper} {W : World} {g : Nat} {Y : Obj} {v : Value} (h : ∃ W' : World, (execOp ρ o).run P W = .ok (.value v) W' ∧ Puts W g W' ∧ W'.heap[g]? = some Y) : ∃ u W', (execOp ρ o).run P W = .ok (.value u) W' ∧ (u = v ∧ Puts W g W' ∧ W'.heap[g]? = some Y) := by
  obtain ⟨W', e1, p1, r1⟩ := h
  exact ⟨_, W', e1, rfl, p1, r1⟩
theorem Qib (text : List Int) (v : Value) (B : Nat) (w : World) (htl : text.length ≤ 900000000) (ht : RdK .u8 B text v w) : Calls Try.prog 129 #[v] w (QcD w (OwnN .u8 5 w.heap.size text)) := by
  obtain ⟨a, c, rfl, h1, h2, h3, h4⟩ := id ht
  cases a with
  | none =>
    obtain rfl := h3 rfl
    obtain rfl : text = [] := List.length_eq_zero_iff.1 (by omega)
    exact Qh0 w
  | some ad => exact Qhz text ad c B w htl ht
def rowL (s : Option (List Int)) : List Int := Qag (Qac s 2) (bigN (Qag s 2))
def rowR (s : Option (List Int)) : Option (List Int) := Qac (Qac s 2) (bigN (Qag s 2))
def keyV (ys : List Int) : List Int := ys ++ (List.replicate 32 0).drop ys.length
theorem Qam (ys : List Int) (h : ys.length ≤ 32) : (keyV ys).length = 32 := by unfold keyV; rw [List.length_append, List.length_drop, List.length_replicate]; omega
theorem Qbr (ys : List Int) (h : Qao ys) : Qao (keyV ys) := Qa3 h (QbN (fun x hx => by rw [(List.mem_replicate.1 hx).2]; decide) _)
set_option maxHeartbeats 4000000 in
theorem Qf5 (B gr : Nat) (s : Option (List Int)) (w : World) (hB : B ≤ gr) (h : RSt B gr s w) : Calls Try.prog 118 #[.pointer (some ⟨gr, 0, none⟩)] w (Qbj B gr w (rowR s) fun v W => OwnN .u8 5 w.heap.size (rowL s) v W ∧ Qao (rowL s) ∧ (rowL s).length ≤ 65535) := by
  have hgr := h.lt
  have hn : bigN (Qag s 2) < 65536 := QcB (Qag s 2) (h.bytes 2) 2 (Qai s 2)
  have hn2 : (rowL s).length ≤ 65535 := by
    have := Qai (Qac s 2) (bigN (Qag s 2))
    unfold rowL
    omega
  refine enter 8 [(0, .pointer (some ⟨gr, 0, none⟩))] Try.func118 rfl rfl kj rfl ?_
  refine wp_seq_k fun K1 hK1 => ?_
  refine Qae ?_
  refine Qab (.slice none 0 0) 2 rfl kj kj ?_
  refine Qaf ?_
  refine hK1 _ _ ?_
  refine wp_seq_k fun K2 hK2 => ?_
  refine Qae ?_
  refine Qab (.pointer (some ⟨gr, 0, none⟩)) 3 rfl kj kj ?_
  refine Qab (.pointer (some ⟨gr, 0, none⟩)) 4 rfl kj kj ?_
  refine Qah (fun v W' => ExtB gr w W' ∧ RSt B gr (Qac (s) 2) W' ∧ (fun (v : Value) (_ : World) => v = .int .i64 ((bigN (Qag (s) 2) : Nat) : Int)) v W') 110 #[.pointer (some ⟨gr, 0, none⟩), .int .i64 2] 5 rfl kj kj (QaQ B gr _ 2 _ hB h (by decide)) fun vv3 W1 hh3 => ?_
  obtain ⟨q1, rs3, hv3⟩ := hh3
  have x1 : ExtB gr w W1 := ExtB.tr (ExtB.refl gr w) q1
  subst hv3
  refine Qah (fun v W' => ExtB gr W1 W' ∧ RSt B gr (Qac (Qac (s) 2) (bigN (Qag s 2))) W' ∧ (fun (v : Value) (W : World) => RdK .u8 B (Qag (Qac (s) 2) (bigN (Qag s 2))) v W ∧ Qao (Qag (Qac (s) 2) (bigN (Qag s 2)))) v W') 124 #[.pointer (some ⟨gr, 0, none⟩), .int .i64 ((bigN (Qag (s) 2) : Nat) : Int)] 6 rfl kj kj (Qgg B gr _ (bigN (Qag s 2)) _ hB rs3) fun vv4 W2 hh4 => ?_
  obtain ⟨q2, rs4, hv4⟩ := hh4
  have x2 : ExtB gr w W2 := ExtB.tr x1 q2
  obtain ⟨hr, hyb⟩ := hv4
  have hyl := Qai (Qac s 2) (bigN (Qag s 2))
  change RdK .u8 B (rowL s) _ _ at hr
  change Qao (rowL s) at hyb
  change (rowL s).length ≤ _ at hyl
  obtain ⟨a_y, c_y, rfl, -⟩ := id hr
  refine Qah (fun v W' => (OwnN .u8 5 W2.heap.size (rowL s)) v W' ∧ Ext W2 W') 129 #[.slice a_y ((rowL s).length) c_y] 7 rfl kj kj ((Qib (rowL s) _ _ _ (by omega) hr).mono (by rintro e w' ⟨v, rfl, e1, hv⟩; exact ⟨v, rfl, hv, e1⟩)) fun vv5 W3 hh5 => ?_
  obtain ⟨hv5, e3⟩ := hh5
  have x3 : ExtB gr w W3 := ExtB.ext x2 e3
  refine Qab (vv5) 2 rfl kj kj ?_
  refine Qaf ?_
  refine hK2 _ _ ?_
  refine wp_ret ?_
  repeat (first | with_reducible refine goR1 ?_ | with_reducible refine goR2 ?_)
  have rs6 := (RSt.ext rs4 hB e3)
  exact (show bodyPost _ _ _ .ret _ _ from ret1 (vv5) rfl (Qa1 kj) ⟨_, rfl, x3, rs6, OwnN.base x2.size hv5, hyb, hn2⟩)
set_option maxHeartbeats 4000000 in
theorem Qb7 (B gr : Nat) (s : Option (List Int)) (w : World) (hB : B ≤ gr) (h : RSt B gr s w) : Calls Try.prog 109 #[.pointer (some ⟨gr, 0, none⟩)] w (Qbj B gr w (Qac s 32) fun v _ => v = .agg (ints .u8 (keyV (Qag s 32)))) := by
  have hgr := h.lt
  refine enter 9 [(0, .pointer (some ⟨gr, 0, none⟩))] Try.func109 rfl rfl kj rfl ?_
  refine wp_seq_k fun K1 hK1 => ?_
  refine Qae ?_
  refine Qar (ints .u8 (List.replicate 32 0)) 40 2 rfl kj kj fun g2 W1 l2 e1 r2_1 => ?_
  have x1 : ExtB gr w W1 := ExtB.ext (ExtB.refl gr w) e1
  have b2 : w.heap.size ≤ g2 := Nat.le_trans (ExtB.refl gr w).size l2
  refine Qaf ?_
  refine hK1 _ _ ?_
  refine wp_seq_k fun K3 hK3 => ?_
  refine Qae ?_
  refine Qar (ints .u8 (List.replicate 32 0)) 40 3 rfl kj kj fun g4 W2 l4 e2 r4_2 => ?_
  have x2 : ExtB gr w W2 := ExtB.ext x1 e2
  have b4 : w.heap.size ≤ g4 := Nat.le_trans x1.size l4
  refine Qaf ?_
  refine hK3 _ _ ?_
  refine wp_seq_k fun K5 hK5 => ?_
  refine QcG (fun _ => True) kj fun W3 e3 => ⟨trivial, ?_⟩
  have x3 : ExtB gr w W3 := ExtB.ext x2 e3
  refine QbE 0 (.slice (some ⟨g4, 0, none⟩) 32 32) 4 rfl rfl kj kj (fun _ _ _ h => h) (fun W hR => by kernel_rfl) ?_
  refine QbE 1 (.pointer (some ⟨gr, 0, none⟩)) 5 rfl rfl kj kj (fun _ _ _ h => h) (fun W hR => by kernel_rfl) ?_
  refine QeI 2 kj ?_
  have rs6 := (RSt.ext (RSt.ext (RSt.ext h hB e1) hB e2) hB e3)
  refine QeH rfl (fun v W' => ExtB gr W3 W' ∧ RSt B gr (Qac (s) 32) W' ∧ (fun (v : Value) (W : World) => RdK .u8 B (Qag (s) 32) v W ∧ Qao (Qag (s) 32)) v W') 124 #[.pointer (some ⟨gr, 0, none⟩), .int .i64 32] 6 rfl kj kj (Qgg B gr _ 32 _ hB rs6) (fun _ _ _ => trivial) fun vv7 W4 hh7 => ?_
  obtain ⟨q4, rs7, hv7⟩ := hh7
  have x4 : ExtB gr w W4 := ExtB.tr x3 q4
  obtain ⟨hr, hyb⟩ := hv7
  have hyl := Qai s 32
  obtain ⟨ys, hys⟩ : ∃ z, z = Qag s 32 := ⟨_, rfl⟩
  rw [← hys] at hr hyb hyl
  obtain ⟨a_y, c_y, rfl, -⟩ := id hr
  refine QeI 3 kj ?_
  have r4_3 := (Qau r4_2 e3)
  have r4_4 := (ExtB.row q4 r4_3 (Ne.symm (Nat.ne_of_lt (Nat.lt_of_lt_of_le hgr b4))))
  refine Qg5 rfl (fun v W' => v = .int .i64 ((ys.length : Nat) : Int) ∧ Puts W4 g4 W' ∧ W'.heap[g4]? = some (.cells (ints .u8 (keyV ys)) 40)) 7 rfl kj (Qg9 (Qea (k := .u8) (e := 5) (.tmp 4) (.tmp 6) 26 26 rfl kj kj (off := 0) (dl := 32) (dc := 32) (n := ys.length) (xs := List.replicate 32 0) (ys := keyV ys) kj kj hr r4_4 (by decide) (by omega) (by unfold keyV; rw [List.take_zero, List.nil_append, List.take_length, Nat.zero_add]))) (fun _ _ _ => trivial) fun v8 W5 h8 => ?_
  obtain ⟨rfl, p5, r4_5⟩ := h8
  have x5 : ExtB gr w W5 := ExtB.putsN x4 p5 b4
  refine Qfv kj ?_
  refine hK5 _ _ ?_
  refine wp_seq_k fun K9 hK9 => ?_
  refine Qae ?_
  refine Qab (.agg (ints .u8 (keyV ys))) 8 rfl kj (Qaz 40 _ g4 40 _ _ r4_5 rfl kj kj (isz (n := 32) kj ((Qad _ _).trans (Qam ys hyl)))) ?_
  have r2_2 := (Qau r2_1 e2)
  have r2_3 := (Qau r2_2 e3)
  have r2_4 := (ExtB.row q4 r2_3 (Ne.symm (Nat.ne_of_lt (Nat.lt_of_lt_of_le hgr b2))))
  have r2_5 := (Puts.row p5 r2_4 (Qa2 r2_1 l4))
  refine Qav g2 _ (ints .u8 (keyV ys)) 40 r2_5 rfl kj (Qat 40 _ _ g2 40 _ _ r2_5 rfl kj kj (isz (n := 32) kj ((Qad _ _).trans (Qam ys hyl))) (eqsz (n := 32) ((Qad _ _).trans (List.length_replicate (n := 32))) ((Qad _ _).trans (Qam ys hyl))) (Qan _ _)) fun W6 p6 r2_6 => ?_
  have x6 : ExtB gr w W6 := ExtB.putsN x5 p6 b2
  refine Qaf ?_
  refine hK9 _ _ ?_
  refine wp_ret ?_
  repeat (first | with_reducible refine goR1 ?_ | with_reducible refine goR2 ?_)
  have rs10 := (RSt.put (RSt.put rs7 hB p5 (Nat.lt_of_lt_of_le hgr b4)) hB p6 (Nat.lt_of_lt_of_le hgr b2))
  exact (show bodyPost _ _ _ .ret _ _ from ret1 (.agg (ints .u8 (keyV ys))) rfl (QaR g2 40 _ r2_6 kj kj (isz (n := 32) kj ((Qad _ _).trans (Qam ys hyl)))) ⟨_, rfl, x6, rs10, by rw [← hys]⟩)
end Go.Proofs.Ytfelfmchachljaa.Wr
end
section
namespace Go.Proofs.Ytfelfmchachljaa.Wr
open Go Go.RowKit
open Rely Auto Own Sha
set_option linter.unusedVariables false
set_option linter.unusedSimpArgs false
theorem QdJ (pl : Nat → Option (Nat × Nat)) : ∀ (ps : List (Nat × Nat × Value × Array Value)) (pre : List (Array Value)) (rest : Array Value) (off : Nat), (cat pre).size = off → okPl pl off ps → tot ps = rest.size →
    Instr.fill pl (cat pre ++ rest) (ps.map fun x => (x.1, x.2.2.1)) = some (cat (pre ++ ps.map fun x => x.2.2.2))
  | [], pre, rest, off, _, _, ht => by
    have : rest = #[] := Array.eq_empty_of_size_eq_zero ht.symm
    subst this
    simp [Instr.fill]
  | (i, n, v, p) :: r, pre, rest, off, hoff, ⟨h1, h2, h3, h4⟩, ht => by
    subst h2
    have hn : n ≤ rest.size := by rw [← ht, tot]; omega
    simp only [List.map_cons, Instr.fill, h1, h3]
    rw [if_neg (by simp; omega)]
    have hz : (v.cells.zipIdx.foldl (fun cs (x : Value × Nat) => cs.setIfInBounds (off + x.2) x.1) (cat pre ++ rest)) = cat (pre ++ [v.cells]) ++ rest.extract n rest.size := by
      have e1 : v.cells.zipIdx = (v.cells.toList.zipIdx 0).toArray := by
        apply Array.ext'
        simp
      rw [e1, List.foldl_toArray', Qcb]
      · have e2 : rest = rest.extract 0 n ++ rest.extract n rest.size := by
          rw [Array.extract_append_extract, Nat.max_eq_right hn]
          simp
        have e3 : (cat pre ++ rest) = cat (pre ++ ([rest.extract 0 n] ++ [rest.extract n rest.size])) := by
          rw [QaD]
          congr 1
        rw [Nat.add_zero, e3]
        have := Qc9 pre [rest.extract 0 n] [v.cells] [rest.extract n rest.size] off hoff (by show v.cells.size = (rest.extract 0 n).size; simp; omega)
        rw [show (cat [v.cells]).toList = v.cells.toList from rfl] at this
        rw [this, ← List.append_assoc, QaD (pre ++ [v.cells])]
        rfl
      · rfl
    have key := QdJ pl r (pre ++ [v.cells]) (rest.extract n rest.size) (off + n) (by rw [QaD]; show (cat pre ++ v.cells).size = _; simp; omega) h4 (by simp; rw [← ht, tot]; omega)
    rw [← hz] at key
    rw [List.append_assoc] at key
    exact key
theorem QbL {P : Program} {ρ : Operand → Value} {o : Oper} {w : World} (t : TypeId) (parts : Array (Nat × Operand)) (z : Value) (places : Array (Nat × Nat)) (ps : List (Nat × Nat × Value × Array Value))
    (ho : o.op = .build t parts) (hv : (parts.map fun (i, x) => (i, ρ x)).toList = ps.map fun x => (x.1, x.2.2.1)) (hp : okPl (fun i => places[i]?) 0 ps) (ht : tot ps = z.cells.size)
    (hz : (zeroValue t).run P w = .ok z w) (hu : P.underlying t = some (.struct (P.fieldsOf t))) (hm : ((P.fieldsOf t).mapM fun f => do pure (f.offset, ← sizeOf f.type) : Sem (Array (Nat × Nat))).run P w = .ok places w) :
    (execOp ρ o).run P w = .ok (.value (.agg (cat (ps.map fun x => x.2.2.2)))) w := by
  have := QdJ (fun i => places[i]?) ps [] z.cells 0 rfl hp ht
  rw [show cat [] ++ z.cells = z.cells by simp [cat], List.nil_append] at this
  rw [← hv] at this
  have hB : (Instr.build t (parts.map fun (i, x) => (i, ρ x))).run P w = .ok (.agg (cat (ps.map fun x => x.2.2.2))) w := by
    unfold Instr.build
    rw [Sem.run_bind, hz, Result.andThen_ok, Sem.run_bind, run_underlying hu w, Result.andThen_ok]
    show (Sem.run P _ w) = _
    rw [Sem.run_bind, hm, Result.andThen_ok]
    simp only [this]
    rfl
  unfold execOp
  simp only [ho, Sem.run_bind, hB, Result.andThen_ok, Sem.run_pure]
def pS1 (s : Option (List Int)) : Option (List Int) := Qac s 32
def pS2 (s : Option (List Int)) : Option (List Int) := Qac (pS1 s) 4
def pS3 (s : Option (List Int)) : Option (List Int) := Qaj (pS2 s)
def pS4 (s : Option (List Int)) : Option (List Int) := Qac (pS3 s) 4
def pGrp (s : Option (List Int)) : List Int := keyV (Qag s 32)
def pEp (s : Option (List Int)) : Int := ((bigN (Qag (pS1 s) 4) : Nat) : Int)
def pFr (s : Option (List Int)) : Int := ((bigN (Qag (pS2 s) 1) : Nat) : Int)
def pNo (s : Option (List Int)) : Int := ((bigN (Qag (pS3 s) 4) : Nat) : Int)
def pSe (s : Option (List Int)) : List Int := rowL (pS4 s)
def QbB (s : Option (List Int)) : Option (List Int) := rowR (pS4 s)
set_option maxHeartbeats 4000000 in
theorem Qd4 (B gr : Nat) (s : Option (List Int)) (w : World) (hB : B ≤ gr) (h : RSt B gr s w) : Calls Try.prog 84 #[.pointer (some ⟨gr, 0, none⟩)] w (Qbj B gr w (QbB s) fun v W => ∃ (a_s : Option Addr) (c_s : Nat), v = .agg (cat [ints .u8 (pGrp s), #[.int .i64 (pEp s)], #[.int .i64 (pFr s)], #[.int .i64 (pNo s)], #[.slice a_s (pSe s).length c_s]]) ∧ OwnN .u8 5 w.heap.size (pSe s) (.slice a_s (pSe s).length c_s) W ∧ Qao (pSe s) ∧ (pSe s).length ≤ 65535) := by
  have hgr := h.lt
  refine enter 14 [(0, .pointer (some ⟨gr, 0, none⟩))] Try.func84 rfl rfl kj rfl ?_
  refine wp_seq_k fun K1 hK1 => ?_
  refine Qae ?_
  refine Qar (cat [(Array.replicate 32 (.int .u8 0)), #[.int .i64 0], #[.int .i64 0], #[.int .i64 0], #[.slice none 0 0]]) 81 2 rfl kj kj fun g2 W1 l2 e1 r2_1 => ?_
  have x1 : ExtB gr w W1 := ExtB.ext (ExtB.refl gr w) e1
  have b2 : w.heap.size ≤ g2 := Nat.le_trans (ExtB.refl gr w).size l2
  refine Qaf ?_
  refine hK1 _ _ ?_
  refine wp_seq_k fun K3 hK3 => ?_
  refine Qae ?_
  refine Qab (.pointer (some ⟨gr, 0, none⟩)) 3 rfl kj kj ?_
  have rs4 := (RSt.ext h hB e1)
  refine Qah (fun v W' => ExtB gr W1 W' ∧ RSt B gr (Qac (s) 32) W' ∧ (fun (v : Value) (_ : World) => v = .agg (ints .u8 (keyV (Qag (s) 32)))) v W') 109 #[.pointer (some ⟨gr, 0, none⟩)] 4 rfl kj kj (Qb7 B gr _ _ hB rs4) fun vv5 W2 hh5 => ?_
  obtain ⟨q2, rs5, hv5⟩ := hh5
  have x2 : ExtB gr w W2 := ExtB.tr x1 q2
  subst hv5
  refine Qab (.pointer (some ⟨gr, 0, none⟩)) 5 rfl kj kj ?_
  refine Qah (fun v W' => ExtB gr W2 W' ∧ RSt B gr (Qac (Qac (s) 32) 4) W' ∧ (fun (v : Value) (_ : World) => v = .int .i64 ((bigN (Qag (Qac (s) 32) 4) : Nat) : Int)) v W') 110 #[.pointer (some ⟨gr, 0, none⟩), .int .i64 4] 6 rfl kj kj (QaQ B gr _ 4 _ hB rs5 (by decide)) fun vv6 W3 hh6 => ?_
  obtain ⟨q3, rs6, hv6⟩ := hh6
  have x3 : ExtB gr w W3 := ExtB.tr x2 q3
  subst hv6
  refine Qab (.pointer (some ⟨gr, 0, none⟩)) 7 rfl kj kj ?_
  refine Qah (fun v W' => ExtB gr W3 W' ∧ RSt B gr (Qaj (Qac (Qac (s) 32) 4)) W' ∧ (fun (v : Value) (_ : World) => v = .int .i64 ((bigN (Qag (Qac (Qac (s) 32) 4) 1) : Nat) : Int)) v W') 111 #[.pointer (some ⟨gr, 0, none⟩)] 8 rfl kj kj (QcF B gr _ _ hB rs6) fun vv7 W4 hh7 => ?_
  obtain ⟨q4, rs7, hv7⟩ := hh7
  have x4 : ExtB gr w W4 := ExtB.tr x3 q4
  subst hv7
  refine Qab (.pointer (some ⟨gr, 0, none⟩)) 9 rfl kj kj ?_
  refine Qah (fun v W' => ExtB gr W4 W' ∧ RSt B gr (Qac (Qaj (Qac (Qac (s) 32) 4)) 4) W' ∧ (fun (v : Value) (_ : World) => v = .int .i64 ((bigN (Qag (Qaj (Qac (Qac (s) 32) 4)) 4) : Nat) : Int)) v W') 110 #[.pointer (some ⟨gr, 0, none⟩), .int .i64 4] 10 rfl kj kj (QaQ B gr _ 4 _ hB rs7 (by decide)) fun vv8 W5 hh8 => ?_
  obtain ⟨q5, rs8, hv8⟩ := hh8
  have x5 : ExtB gr w W5 := ExtB.tr x4 q5
  subst hv8
  refine Qab (.pointer (some ⟨gr, 0, none⟩)) 11 rfl kj kj ?_
  refine Qah (fun v W' => ExtB gr W5 W' ∧ RSt B gr (rowR (Qac (Qaj (Qac (Qac (s) 32) 4)) 4)) W' ∧ (fun (v : Value) (W : World) => OwnN .u8 5 W5.heap.size (rowL (Qac (Qaj (Qac (Qac (s) 32) 4)) 4)) v W ∧ Qao (rowL (Qac (Qaj (Qac (Qac (s) 32) 4)) 4)) ∧ (rowL (Qac (Qaj (Qac (Qac (s) 32) 4)) 4)).length ≤ 65535) v W') 118 #[.pointer (some ⟨gr, 0, none⟩)] 12 rfl kj kj (Qf5 B gr _ _ hB rs8) fun vv9 W6 hh9 => ?_
  obtain ⟨q6, rs9, hv9⟩ := hh9
  have x6 : ExtB gr w W6 := ExtB.tr x5 q6
  obtain ⟨ho10, hb10, hl10⟩ := hv9
  obtain ⟨a10_, c10_, rfl, -⟩ := id (OwnN.rd ho10)
  refine Qab (.agg (cat [ints .u8 (keyV (Qag (s) 32)), #[.int .i64 ((bigN (Qag (Qac (s) 32) 4) : Nat) : Int)], #[.int .i64 ((bigN (Qag (Qac (Qac (s) 32) 4) 1) : Nat) : Int)], #[.int .i64 ((bigN (Qag (Qaj (Qac (Qac (s) 32) 4)) 4) : Nat) : Int)], #[.slice a10_ ((rowL (Qac (Qaj (Qac (Qac (s) 32) 4)) 4)).length) c10_]])) 13 rfl kj (QbL 81 _ (.agg (cat [(Array.replicate 32 (.int .u8 0)), #[.int .i64 0], #[.int .i64 0], #[.int .i64 0], #[.slice none 0 0]])) #[(0, 32), (32, 1), (33, 1), (34, 1), (35, 1)] [(0, 32, .agg (ints .u8 (keyV (Qag (s) 32))), ints .u8 (keyV (Qag (s) 32))), (1, 1, .int .i64 ((bigN (Qag (Qac (s) 32) 4) : Nat) : Int), #[.int .i64 ((bigN (Qag (Qac (s) 32) 4) : Nat) : Int)]), (2, 1, .int .i64 ((bigN (Qag (Qac (Qac (s) 32) 4) 1) : Nat) : Int), #[.int .i64 ((bigN (Qag (Qac (Qac (s) 32) 4) 1) : Nat) : Int)]), (3, 1, .int .i64 ((bigN (Qag (Qaj (Qac (Qac (s) 32) 4)) 4) : Nat) : Int), #[.int .i64 ((bigN (Qag (Qaj (Qac (Qac (s) 32) 4)) 4) : Nat) : Int)]), (4, 1, .slice a10_ ((rowL (Qac (Qaj (Qac (Qac (s) 32) 4)) 4)).length) c10_, #[.slice a10_ ((rowL (Qac (Qaj (Qac (Qac (s) 32) 4)) 4)).length) c10_])] rfl kj ⟨kj, rfl, ((Qad _ _).trans (Qam _ (Qai (s) 32))), kj, rfl, kj, kj, rfl, kj, kj, rfl, kj, kj, rfl, kj, trivial⟩ kj kj kj kj) ?_
  have r2_2 := (ExtB.row q2 r2_1 (Ne.symm (Nat.ne_of_lt (Nat.lt_of_lt_of_le hgr b2))))
  have r2_3 := (ExtB.row q3 r2_2 (Ne.symm (Nat.ne_of_lt (Nat.lt_of_lt_of_le hgr b2))))
  have r2_4 := (ExtB.row q4 r2_3 (Ne.symm (Nat.ne_of_lt (Nat.lt_of_lt_of_le hgr b2))))
  have r2_5 := (ExtB.row q5 r2_4 (Ne.symm (Nat.ne_of_lt (Nat.lt_of_lt_of_le hgr b2))))
  have r2_6 := (ExtB.row q6 r2_5 (Ne.symm (Nat.ne_of_lt (Nat.lt_of_lt_of_le hgr b2))))
  refine Qav g2 _ (cat [ints .u8 (keyV (Qag (s) 32)), #[.int .i64 ((bigN (Qag (Qac (s) 32) 4) : Nat) : Int)], #[.int .i64 ((bigN (Qag (Qac (Qac (s) 32) 4) 1) : Nat) : Int)], #[.int .i64 ((bigN (Qag (Qaj (Qac (Qac (s) 32) 4)) 4) : Nat) : Int)], #[.slice a10_ ((rowL (Qac (Qaj (Qac (Qac (s) 32) 4)) 4)).length) c10_]]) 81 r2_6 rfl kj (Qat 81 _ _ g2 81 _ _ r2_6 rfl kj kj (isz (n := 36) kj (by rw [Qaa, Qaa, Qaa, Qaa, Qaa]; simp only [Array.size_append, cat, ((Qad _ _).trans (Qam _ (Qai (s) 32)))]; rfl)) (eqsz (n := 36) kj (by rw [Qaa, Qaa, Qaa, Qaa, Qaa]; simp only [Array.size_append, cat, ((Qad _ _).trans (Qam _ (Qai (s) 32)))]; rfl)) (QaC _ (by intro a ha; simp only [List.mem_cons, List.not_mem_nil, or_false] at ha; rcases ha with rfl | rfl | rfl | rfl | rfl; exact (Qan _ _); exact (Qak _ rfl); exact (Qak _ rfl); exact (Qak _ rfl); exact (Qak _ rfl)))) fun W7 p7 r2_7 => ?_
  have x7 : ExtB gr w W7 := ExtB.putsN x6 p7 b2
  refine Qaf ?_
  refine hK3 _ _ ?_
  refine wp_ret ?_
  repeat (first | with_reducible refine goR1 ?_ | with_reducible refine goR2 ?_)
  have f11_7 := (ho10.puts p7 (Qbf ho10 (Qa5 r2_5)))
  have rs12 := (RSt.put rs9 hB p7 (Nat.lt_of_lt_of_le hgr b2))
  exact (show bodyPost _ _ _ .ret _ _ from ret1 (.agg (cat [ints .u8 (keyV (Qag (s) 32)), #[.int .i64 ((bigN (Qag (Qac (s) 32) 4) : Nat) : Int)], #[.int .i64 ((bigN (Qag (Qac (Qac (s) 32) 4) 1) : Nat) : Int)], #[.int .i64 ((bigN (Qag (Qaj (Qac (Qac (s) 32) 4)) 4) : Nat) : Int)], #[.slice a10_ ((rowL (Qac (Qaj (Qac (Qac (s) 32) 4)) 4)).length) c10_]])) rfl (QaR g2 81 _ r2_7 kj kj (isz (n := 36) kj (by rw [Qaa, Qaa, Qaa, Qaa, Qaa]; simp only [Array.size_append, cat, ((Qad _ _).trans (Qam _ (Qai (s) 32)))]; rfl))) ⟨_, rfl, x7, rs12, _, _, rfl, ⟨OwnN.base x5.2.2.2.1 f11_7, hb10, hl10⟩⟩)
end Go.Proofs.Ytfelfmchachljaa.Wr
end
section
namespace Go.Proofs.Ytfelfmchachljaa.Wr
open Go Go.RowKit
open Rely Auto Own Sha
set_option linter.unusedVariables false
set_option linter.unusedSimpArgs false
open Wk
def QaY (ys : List Int) : List Int := ys ++ (List.replicate 64 0).drop ys.length
theorem Qa6 (ys : List Int) (h : ys.length ≤ 64) : (QaY ys).length = 64 := by unfold QaY; rw [List.length_append, List.length_drop, List.length_replicate]; omega
theorem Qep (ys : List Int) (h : Qao ys) : Qao (QaY ys) := Qa3 h (QbN (fun x hx => by rw [(List.mem_replicate.1 hx).2]; decide) _)
set_option maxHeartbeats 4000000 in
theorem QdX (B gr : Nat) (s : Option (List Int)) (w : World) (hB : B ≤ gr) (h : RSt B gr s w) : Calls Try.prog 112 #[.pointer (some ⟨gr, 0, none⟩)] w (Qbj B gr w (Qac s 64) fun v _ => v = .agg (ints .u8 (QaY (Qag s 64)))) := by
  have hgr := h.lt
  refine enter 9 [(0, .pointer (some ⟨gr, 0, none⟩))] Try.func112 rfl rfl kj rfl ?_
  refine wp_seq_k fun K1 hK1 => ?_
  refine Qae ?_
  refine Qar (ints .u8 (List.replicate 64 0)) 45 2 rfl kj kj fun g2 W1 l2 e1 r2_1 => ?_
  have x1 : ExtB gr w W1 := ExtB.ext (ExtB.refl gr w) e1
  have b2 : w.heap.size ≤ g2 := Nat.le_trans (ExtB.refl gr w).size l2
  refine Qaf ?_
  refine hK1 _ _ ?_
  refine wp_seq_k fun K3 hK3 => ?_
  refine Qae ?_
  refine Qar (ints .u8 (List.replicate 64 0)) 45 3 rfl kj kj fun g4 W2 l4 e2 r4_2 => ?_
  have x2 : ExtB gr w W2 := ExtB.ext x1 e2
  have b4 : w.heap.size ≤ g4 := Nat.le_trans x1.size l4
  refine Qaf ?_
  refine hK3 _ _ ?_
  refine wp_seq_k fun K5 hK5 => ?_
  refine QcG (fun _ => True) kj fun W3 e3 => ⟨trivial, ?_⟩
  have x3 : ExtB gr w W3 := ExtB.ext x2 e3
  refine QbE 0 (.slice (some ⟨g4, 0, none⟩) 64 64) 4 rfl rfl kj kj (fun _ _ _ h => h) (fun W hR => by kernel_rfl) ?_
  refine QbE 1 (.pointer (some ⟨gr, 0, none⟩)) 5 rfl rfl kj kj (fun _ _ _ h => h) (fun W hR => by kernel_rfl) ?_
  refine QeI 2 kj ?_
  have rs6 := (RSt.ext (RSt.ext (RSt.ext h hB e1) hB e2) hB e3)
  refine QeH rfl (fun v W' => ExtB gr W3 W' ∧ RSt B gr (Qac (s) 64) W' ∧ (fun (v : Value) (W : World) => RdK .u8 B (Qag (s) 64) v W ∧ Qao (Qag (s) 64)) v W') 124 #[.pointer (some ⟨gr, 0, none⟩), .int .i64 64] 6 rfl kj kj (Qgg B gr _ 64 _ hB rs6) (fun _ _ _ => trivial) fun vv7 W4 hh7 => ?_
  obtain ⟨q4, rs7, hv7⟩ := hh7
  have x4 : ExtB gr w W4 := ExtB.tr x3 q4
  obtain ⟨hr, hyb⟩ := hv7
  have hyl := Qai s 64
  obtain ⟨ys, hys⟩ : ∃ z, z = Qag s 64 := ⟨_, rfl⟩
  rw [← hys] at hr hyb hyl
  obtain ⟨a_y, c_y, rfl, -⟩ := id hr
  refine QeI 3 kj ?_
  have r4_3 := (Qau r4_2 e3)
  have r4_4 := (ExtB.row q4 r4_3 (Ne.symm (Nat.ne_of_lt (Nat.lt_of_lt_of_le hgr b4))))
  refine Qg5 rfl (fun v W' => v = .int .i64 ((ys.length : Nat) : Int) ∧ Puts W4 g4 W' ∧ W'.heap[g4]? = some (.cells (ints .u8 (QaY ys)) 45)) 7 rfl kj (Qg9 (Qea (k := .u8) (e := 5) (.tmp 4) (.tmp 6) 26 26 rfl kj kj (off := 0) (dl := 64) (dc := 64) (n := ys.length) (xs := List.replicate 64 0) (ys := QaY ys) kj kj hr r4_4 (by decide) (by omega) (by unfold QaY; rw [List.take_zero, List.nil_append, List.take_length, Nat.zero_add]))) (fun _ _ _ => trivial) fun v8 W5 h8 => ?_
  obtain ⟨rfl, p5, r4_5⟩ := h8
  have x5 : ExtB gr w W5 := ExtB.putsN x4 p5 b4
  refine Qfv kj ?_
  refine hK5 _ _ ?_
  refine wp_seq_k fun K9 hK9 => ?_
  refine Qae ?_
  refine Qab (.agg (ints .u8 (QaY ys))) 8 rfl kj (Qaz 45 _ g4 45 _ _ r4_5 rfl kj kj (isz (n := 64) kj ((Qad _ _).trans (Qa6 ys hyl)))) ?_
  have r2_2 := (Qau r2_1 e2)
  have r2_3 := (Qau r2_2 e3)
  have r2_4 := (ExtB.row q4 r2_3 (Ne.symm (Nat.ne_of_lt (Nat.lt_of_lt_of_le hgr b2))))
  have r2_5 := (Puts.row p5 r2_4 (Qa2 r2_1 l4))
  refine Qav g2 _ (ints .u8 (QaY ys)) 45 r2_5 rfl kj (Qat 45 _ _ g2 45 _ _ r2_5 rfl kj kj (isz (n := 64) kj ((Qad _ _).trans (Qa6 ys hyl))) (eqsz (n := 64) ((Qad _ _).trans (List.length_replicate (n := 64))) ((Qad _ _).trans (Qa6 ys hyl))) (Qan _ _)) fun W6 p6 r2_6 => ?_
  have x6 : ExtB gr w W6 := ExtB.putsN x5 p6 b2
  refine Qaf ?_
  refine hK9 _ _ ?_
  refine wp_ret ?_
  repeat (first | with_reducible refine goR1 ?_ | with_reducible refine goR2 ?_)
  have rs10 := (RSt.put (RSt.put rs7 hB p5 (Nat.lt_of_lt_of_le hgr b4)) hB p6 (Nat.lt_of_lt_of_le hgr b2))
  exact (show bodyPost _ _ _ .ret _ _ from ret1 (.agg (ints .u8 (QaY ys))) rfl (QaR g2 45 _ r2_6 kj kj (isz (n := 64) kj ((Qad _ _).trans (Qa6 ys hyl)))) ⟨_, rfl, x6, rs10, by rw [← hys]⟩)
end Go.Proofs.Ytfelfmchachljaa.Wr
end
section
namespace Go.Proofs.Ytfelfmchachljaa.Wr
open Go Go.RowKit
open Rely Auto Own Sha
set_option linter.unusedVariables false
set_option linter.unusedSimpArgs false
section
variable {ds : List Deferred} {P : Program} {ops : Array Oper} {Q : Exit → Act → World → Prop} {rest : List Oper} {o : Oper} {N : Nat} {L : Env} {W : World}
theorem Qet {k : IntKind} {T : TypeId} (base b : Nat) (s x : Operand) (t : TypeId) (ho : o.op = .call { callee := .builtin .append, args := #[s, x], argTypes := #[t, t] })
    (ht : P.underlying t = some (.slice T)) (hi : (P.info? T).map (fun i => (i.zero, i.size, i.bytes)) = some (some (.int k 0), 1, b)) (hb8 : b ≤ 8) (d : Nat) (hd : o.dst = some d) (hg : QbJ ops o N L = some true) {B : Nat} {v y : Value} {xs ys : List Int}
    (hs : Rely.look (envN N L) s = v) (hx : Rely.look (envN N L) x = y)
    (h : OwnN k T base xs v W) (hy : RdK k B ys y W) (hn : xs.length + ys.length ≤ 1000000000) (hV : base ≤ W.heap.size)
    (kk : ∀ (u : Value) (W' : World), OwnN k T base (xs ++ ys) u W' → Below base W W' → WL P ops Q rest (QaH ds N ((d, u) :: L)) W') : WL P ops Q (o :: rest) (QaH ds N L) W := by
  obtain ⟨v', W', h1, h2, h3, h4⟩ := QdP (ρ := Rely.look (envN N L)) (o := o) (W := W) s x t ho ht hi hb8 hs hx h hy hn hV
  exact QbF _ _ d hd hg h1 (kk v' W' h2 ⟨h3.os, h3.tape, h3.output, h3.size, fun i hi => h3.block i (Nat.lt_of_lt_of_le hi hV) (fun q => by have := h.ge q.symm; omega)⟩)
end
def itR (s : Option (List Int)) : Nat → Option (List Int)
  | 0 => s
  | i + 1 => Qaj (itR s i)
def itL (s : Option (List Int)) : Nat → List Int
  | 0 => []
  | i + 1 => itL s i ++ [((bigN (Qag (itR s i) 1) : Nat) : Int)]
theorem QeE (s : Option (List Int)) : ∀ i, (itL s i).length = i
  | 0 => rfl
  | i + 1 => by unfold itL; rw [List.length_append, QeE s i]; rfl
theorem Qb4 : Qaj none = none := by unfold Qaj Qax Qac; cases decide (((bigN (Qag none 1) : Nat) : Int) < 32) <;> rfl
theorem QdH (s : Option (List Int)) (i : Nat) (h : itR s i = none) : ∀ n, i ≤ n → itR s n = none
  | 0, hn => by obtain rfl : i = 0 := by omega
                exact h
  | n + 1, hn => by
    by_cases e : i = n + 1
    · rw [← e]; exact h
    · show Qaj (itR s n) = none
      rw [QdH s i h n (by omega)]
      exact Qb4
set_option maxHeartbeats 4000000 in
theorem Qcm (B gr : Nat) (s : Option (List Int)) (w : World) (hB : B ≤ gr) (h : RSt B gr s w) : Calls Try.prog 123 #[.pointer (some ⟨gr, 0, none⟩), .func (.func 111) #[] #[]] w (Qbj B gr w (itR (Qac s 1) (bigN (Qag s 1))) fun v W => ∃ xs, OwnN .i64 3 w.heap.size xs v W ∧ xs.length ≤ 255 ∧ (itR (Qac s 1) (bigN (Qag s 1)) ≠ none → xs = itL (Qac s 1) (bigN (Qag s 1)))) := by
 have hgr := h.lt
 have hN : bigN (Qag s 1) < 256 := QcB _ (h.bytes 1) 1 (Qai s 1)
 refine enter 22 [(0, .pointer (some ⟨gr, 0, none⟩)), (1, .func (.func 111) #[] #[])] Try.func123 rfl rfl kj rfl ?_
 refine wp_seq_k fun K1 hK1 => ?_
 refine Qae ?_
 refine Qab (.slice none 0 0) 4 rfl kj kj ?_
 refine Qaf ?_
 refine hK1 _ _ ?_
 refine wp_seq_k fun K2 hK2 => ?_
 refine Qae ?_
 refine Qab (.slice none 0 0) 5 rfl kj kj ?_
 refine Qaf ?_
 refine hK2 _ _ ?_
 refine wp_seq_k fun K3 hK3 => ?_
 refine wp_seq_k fun K4 hK4 => ?_
 refine Qae ?_
 refine Qab (.pointer (some ⟨gr, 0, none⟩)) 6 rfl kj kj ?_
 refine Qah (fun v W' => ExtB gr w W' ∧ RSt B gr (Qac (s) 1) W' ∧ (fun (v : Value) (_ : World) => v = .int .i64 ((bigN (Qag (s) 1) : Nat) : Int)) v W') 110 #[.pointer (some ⟨gr, 0, none⟩), .int .i64 1] 7 rfl kj kj (QaQ B gr _ 1 _ hB h (by decide)) fun vv5 W1 hh5 => ?_
 obtain ⟨q1, rs5, hv5⟩ := hh5
 have x1 : ExtB gr w W1 := ExtB.tr (ExtB.refl gr w) q1
 subst hv5
 refine Qab (.int .i64 0) 8 rfl kj kj ?_
 refine Qaf ?_
 refine hK4 _ _ ?_
 refine wp_block ?_
 refine QaX (fun (s1 : Nat × Value) => [(0, .pointer (some ⟨gr, 0, none⟩)), (1, .func (.func 111) #[] #[]), (5, s1.2), (7, .int .i64 ((bigN (Qag (s) 1) : Nat) : Int)), (8, .int .i64 ((s1.1 : Nat) : Int))]) (fun (s1 : Nat × Value) W => (s1.1 ≤ bigN (Qag s 1)) ∧ (RSt B gr (itR (Qac s 1) s1.1) W) ∧ (OwnN .i64 3 w.heap.size (itL (Qac s 1) s1.1) s1.2 W) ∧ (ExtB gr w W)) (fun (s1 : Nat × Value) => bigN (Qag s 1) - s1.1) (0, (.slice none 0 0)) ⟨rfl, rfl, rfl, rfl, rfl, trivial⟩ ⟨(Nat.zero_le _), rs5, (QbV _ _ _ _), x1⟩ fun s1 X1 V1 hI1 => ?_
 obtain ⟨i, u⟩ := s1
 obtain ⟨hi, hrs, hu, xx1⟩ := hI1
 replace hi : i ≤ bigN (Qag s 1) := hi
 replace hrs : RSt B gr (itR (Qac s 1) i) V1 := hrs
 replace hu : OwnN .i64 3 w.heap.size (itL (Qac s 1) i) u V1 := hu
 replace xx1 : ExtB gr w V1 := xx1
 refine wp_seq_k fun K6 hK6 => ?_
 refine Qae ?_
 refine Qab (.bool (decide (((i : Nat) : Int) < ((bigN (Qag (s) 1) : Nat) : Int)))) 9 rfl kj kj ?_
 refine Qaf ?_
 refine hK6 _ _ ?_
 refine wp_seq_k fun K7 hK7 => ?_
 refine Qa7 (t := decide (((i : Nat) : Int) < ((bigN (Qag (s) 1) : Nat) : Int))) kj (fun c8 => ?_) (fun c8 => ?_)
 ·skip
  have hlt9 : i < bigN (Qag s 1) := by have := of_decide_eq_true c8; omega
  obtain ⟨u9, xs9, bad, rb9, -, -, hsc⟩ := id hrs
  refine wp_skip ?_
  refine hK7 _ _ ?_
  refine wp_seq_k fun K11 hK11 => ?_
  refine wp_block ?_
  refine wp_seq_k fun K12 hK12 => ?_
  refine wp_seq_k fun K13 hK13 => ?_
  refine Qae ?_
  refine Qab (.pointer (some ⟨gr, 0, none⟩)) 10 rfl kj kj ?_
  refine Qab (.pointer (some ⟨gr, 0, none⟩)) 11 rfl kj kj ?_
  refine Qab (.pointer (some ⟨gr, 1, none⟩)) 12 rfl kj kj ?_
  refine Qab (.bool bad) 13 rfl kj (Qal 4 _ gr 1 179 _ (.bool bad) _ rb9 rfl kj kj kj) ?_
  refine Qaf ?_
  refine hK13 _ _ ?_
  refine Qa7 (t := bad) kj (fun c14 => ?_) (fun c14 => ?_)
  ·skip
   have hbad : bad = true := c14
   have h9 : itR (Qac s 1) i = none := by rw [hsc, hbad]; rfl
   have h8 : itR (Qac s 1) (bigN (Qag s 1)) = none := QdH _ i h9 _ hi
   have hrs3 : RSt B gr (itR (Qac s 1) (bigN (Qag s 1))) V1 := by rw [h8, ← h9]; exact hrs
   refine wp_seq_k fun K15 hK15 => ?_
   refine Qae ?_
   refine Qab (.slice none 0 0) 4 rfl kj kj ?_
   refine Qaf ?_
   refine hK15 _ _ ?_
   refine wp_ret ?_
   repeat (first | with_reducible refine goR1 ?_ | with_reducible refine goR2 ?_)
   exact (show bodyPost _ _ _ .ret _ _ from ret1 (.slice none 0 0) rfl (Qa1 kj) ⟨_, rfl, xx1, hrs3, [], QbV _ _ _ _, by decide, fun hne => absurd h8 hne⟩)
  ·skip
   refine wp_skip ?_
   refine hK12 _ _ ?_
   refine Qae ?_
   refine Qab (u) 14 rfl kj kj ?_
   refine Qab (.func (.func 111) #[] #[]) 15 rfl kj kj ?_
   refine Qab (.pointer (some ⟨gr, 0, none⟩)) 16 rfl kj kj ?_
   refine Qah (fun v W' => ExtB gr V1 W' ∧ RSt B gr (Qaj (itR (Qac s 1) i)) W' ∧ (fun (v : Value) (_ : World) => v = .int .i64 ((bigN (Qag (itR (Qac s 1) i) 1) : Nat) : Int)) v W') 111 #[.pointer (some ⟨gr, 0, none⟩)] 17 rfl kj kj (QcF B gr _ _ hB hrs) fun vv16 W3 hh16 => ?_
   obtain ⟨q3, rs16, hv16⟩ := hh16
   have x3 : ExtB gr w W3 := ExtB.tr xx1 q3
   subst hv16
   refine Qb5 (ints .i64 ([((bigN (Qag (itR (Qac s 1) i) 1) : Nat) : Int)])) 3 1 18 rfl kj kj fun g17 W4 l17 e4 r17_4 => ?_
   have x4 : ExtB gr w W4 := ExtB.ext x3 e4
   have b17 : w.heap.size ≤ g17 := Nat.le_trans x3.size l17
   have f18_3 := (Qbe hu q3 (Qbf hu (Nat.lt_of_lt_of_le hgr (ExtB.refl gr w).2.2.2.1)))
   have f19_4 := (f18_3.ext e4)
   refine Qet (k := .i64) (T := 3) w.heap.size 8 (.tmp 14) (.tmp 18) 41 rfl kj kj (by decide) 19 rfl kj kj kj f19_4 (Qcf (xs := [((bigN (Qag (itR (Qac s 1) i) 1) : Nat) : Int)]) (n := 1) rfl r17_4 (Qa5 r17_4) (show 1 ≤ maxLen from by decide)) (by rw [QeE]; show i + 1 ≤ _; omega) x4.2.2.2.1 fun u2 W5 hu2 l5 => ?_
   have x5 : ExtB gr w W5 := ExtB.low x4 l5 (Nat.le_refl _)
   refine Qab (u2) 5 rfl kj kj ?_
   refine Qaf ?_
   refine hK11 _ _ ?_
   refine Qae ?_
   refine Qab (.int .i64 ((i + 1 : Nat) : Int)) 20 rfl kj (Qa0 (u := .int .i64 (IntKind.i64.wrap (((i : Nat) : Int) + 1))) kj (congrArg (Value.int .i64) (i64n _ _ (by omega) (by omega)))) ?_
   refine Qab (.int .i64 ((i + 1 : Nat) : Int)) 8 rfl kj kj ?_
   refine Qaf ?_
   have rs20 := (RSt.low (RSt.ext rs16 hB e4) hB l5 hgr)
   repeat (first | with_reducible refine goX1 ?_ | with_reducible refine goX2 ?_ | with_reducible refine goX3 ?_)
   exact QaU ((i + 1), u2) ⟨rfl, rfl, rfl, rfl, rfl, trivial⟩ ⟨(by omega), rs20, hu2, x5⟩ (by omega)
 ·skip
  have heq9 : i = bigN (Qag s 1) := by have := of_decide_eq_false c8; omega
  have hrs2 := hrs
  rw [heq9] at hrs2
  refine wp_exit ?_
  refine hK3 _ _ ?_
  refine wp_seq_k fun K21 hK21 => ?_
  refine Qae ?_
  refine Qab (u) 21 rfl kj kj ?_
  refine Qab (u) 4 rfl kj kj ?_
  refine Qaf ?_
  refine hK21 _ _ ?_
  refine wp_ret ?_
  repeat (first | with_reducible refine goR1 ?_ | with_reducible refine goR2 ?_)
  exact (show bodyPost _ _ _ .ret _ _ from ret1 (u) rfl (Qa1 kj) ⟨_, rfl, xx1, hrs2, _, hu, by rw [QeE]; omega, fun _ => by rw [heq9]⟩)
end Go.Proofs.Ytfelfmchachljaa.Wr
end
