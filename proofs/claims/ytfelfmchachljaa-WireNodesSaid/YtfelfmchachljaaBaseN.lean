/- Merged: Rely, Bytes, Arr, Rows2, RangeKit, Parts, PartsIn, RelyD, RelyIn, Auto, AutoB, AutoT, AutoIn, AutoR, AutoI. -/
import Derived.Still
import Derived.StillTail
import Derived.Tactics
import Derived.Tactics2
import Derived.KernelRfl
import Derived.Below
import Derived.Laws.NewBlocks
import Derived.WalkKit
import Derived.ProofKit
import Derived.OpenShut
import Derived.Handy
import Derived.Laws.BitsAll
import Derived.Laws.BytesArg
import Derived.BigQuiet
import Derived.Lib.Hide
import Derived.Lib.Strings
import Derived.ChangeKeysEq
import Derived.Laws.Rows
import Derived.Laws.Tables
import Derived.RangeFuncNested
import Derived.RangeFuncBound
import Derived.RangeFuncCalls
import Derived.RangeFuncLeaves
import Derived.RangeFuncFrom
import Derived.Shelf.Abstract
import Derived.Shelf.RegionOpen
import Derived.OwnWalkIn
import Derived.TacticsInMore
import Derived.LoopNIn
import Derived.LoopIn
import Derived.MapKept
import Derived.Laws.ResultCell
import Derived.IntWalk

/-! A law for a region that draws its order: each operation is proved by itself, in every world that the region may have come to, from what is known of its operands; whatever order the tape picks, what is known of all results holds behind the region. -/
section
namespace Go.Proofs.Ytfelfmchachljaa.Rely
set_option linter.unusedVariables false
open Go
theorem kj {p : Prop} (h : p := by kernel_rfl) : p := h

/-! ### Which operation waits for which -/
def mask1 (acc : Array Nat) (o : Oper) : Nat :=
  o.after.toList.foldl (fun s e => if Region.binds .any e then s ||| 2 ^ e.on ||| acc.getD e.on 0 else s) 0
def masks : List Oper → Array Nat → Array Nat
  | [], acc => acc
  | o :: l, acc => masks l (acc.push (mask1 acc o))

theorem fold_bit (acc : Array Nat) (i : Nat) : ∀ (es : List Edge) (s : Nat),
    (es.foldl (fun s e => if Region.binds .any e then s ||| 2 ^ e.on ||| acc.getD e.on 0 else s) s).testBit i = true →
    s.testBit i = true ∨ ∃ e ∈ es, Region.binds .any e = true ∧ (e.on = i ∨ (acc.getD e.on 0).testBit i = true)
  | [], s, h => .inl h
  | e :: es, s, h => by
    rw [List.foldl_cons] at h
    rcases fold_bit acc i es _ h with h | ⟨e', h1, h2⟩
    · by_cases hb : Region.binds .any e = true
      · rw [if_pos hb, Nat.testBit_or, Nat.testBit_or, Bool.or_eq_true, Bool.or_eq_true] at h
        rcases h with (h | h) | h
        · exact .inl h
        · rw [Nat.testBit_two_pow] at h
          exact .inr ⟨e, List.mem_cons_self, hb, .inl (of_decide_eq_true h)⟩
        · exact .inr ⟨e, List.mem_cons_self, hb, .inr h⟩
      · rw [if_neg hb] at h
        exact .inl h
    · exact .inr ⟨e', List.mem_cons_of_mem _ h1, h2⟩

def Closed (ops : Array Oper) (listed : Array Bool) : Prop :=
  ∀ j o, ops[j]? = some o → listed.getD j false = true → ∀ e ∈ o.after, Region.binds .any e = true → listed.getD e.on false = true

/-- i is listed wherever all that j waits for is listed -/
def Anc (ops : Array Oper) (i j : Nat) : Prop :=
  ∀ listed, Closed ops listed → (∀ o, ops[j]? = some o → ∀ e ∈ o.after, Region.binds .any e = true → listed.getD e.on false = true) → listed.getD i false = true

theorem masks_anc (ops : Array Oper) : ∀ (l : List Oper) (acc : Array Nat), (∀ j, l[j]? = ops[acc.size + j]?) →
    (∀ j i, (acc.getD j 0).testBit i = true → Anc ops i j) → ∀ j i, ((masks l acc).getD j 0).testBit i = true → Anc ops i j
  | [], acc, _, h => h
  | o :: l, acc, hl, h => by
    refine masks_anc ops l (acc.push (mask1 acc o)) (fun j => ?_) (fun j i hj => ?_)
    · have := hl (j + 1)
      simp only [List.getElem?_cons_succ] at this
      rw [this, Array.size_push]
      congr 1
      omega
    · have ho : ops[acc.size]? = some o := by have := hl 0; simpa using this.symm
      rcases Nat.lt_trichotomy j acc.size with hlt | heq | hgt
      · refine h j i ?_
        have e : (acc.push (mask1 acc o)).getD j 0 = acc.getD j 0 := by
          simp [Array.getElem?_push, Nat.ne_of_lt hlt]
        rw [← e]; exact hj
      · subst heq
        have e : (acc.push (mask1 acc o)).getD acc.size 0 = mask1 acc o := by simp
        rw [e] at hj
        rcases fold_bit acc i _ _ hj with h0 | ⟨ed, hm, hb, hon⟩
        · simp at h0
        · rcases hon with rfl | hon
          · exact fun listed _ hall => hall o ho _ (Array.mem_toList_iff.1 hm) hb
          · exact fun listed hc hall => h _ _ hon listed hc fun o' ho' e' he' hb' => hc _ o' ho' (hall o ho _ (Array.mem_toList_iff.1 hm) hb) e' he' hb'
      · have e : (acc.push (mask1 acc o)).getD j 0 = 0 := by
          simp [Array.getElem?_push, Nat.ne_of_gt hgt, Array.getElem?_eq_none (Nat.le_of_lt hgt)]
        rw [e] at hj
        simp at hj

theorem Closed.anc {ops : Array Oper} {listed : Array Bool} (hc : Closed ops listed) {i j : Nat} (h : Anc ops i j) (hj : listed.getD j false = true) : listed.getD i false = true :=
  h listed hc fun o ho e he hb => hc j o ho hj e he hb

theorem anc_of_ready {ops : Array Oper} {listed : Array Bool} (hc : Closed ops listed) {i j : Nat} (hj : j ∈ Region.ready .any ops listed) (h : Anc ops i j) : listed.getD i false = true := by
  obtain ⟨_, o, ho, hall⟩ := mem_ready.1 hj
  refine h listed hc fun o' ho' e he hb => ?_
  obtain rfl : o = o' := Option.some.inj (ho.symm.trans ho')
  exact hall e he hb

theorem Closed.set {ops : Array Oper} {listed : Array Bool} (hc : Closed ops listed) {i : Nat} (hi : i ∈ Region.ready .any ops listed) : Closed ops (listed.setIfInBounds i true) := by
  intro j o ho hj e he hb
  obtain ⟨_, oi, hoi, hall⟩ := mem_ready.1 hi
  by_cases hij : i = j
  · subst hij
    obtain rfl : oi = o := Option.some.inj (hoi.symm.trans ho)
    exact getD_set_true (hall e he hb)
  · rw [getD_set_ne false hij] at hj
    exact getD_set_true (hc j o ho hj e he hb)

/-! ### What is looked at, and the check by program -/
abbrev Fact := Value → World → Prop
/-- of an operation: its guard's slot, and of each slot that it reads which operation of the region has written it -/
structure Src where
  guard : Option (Tmp × Bool)
  reads : List (Tmp × Option Nat)

def guardOf (ops : Array Oper) (o : Oper) : Option (Option (Tmp × Bool)) :=
  match o.guard with
  | none => some none
  | some (j, b) => match (ops[j]?).bind (·.dst) with | some d => some (some (d, b)) | none => none

/-- the writer of a slot -/
def readOk (l : List Oper) (M : Array Nat) (j : Nat) : Tmp × Option Nat → Bool
  | (t, some i) => decide (i < j) && (M.getD j 0).testBit i && ((l[i]?).bind (·.dst) == some t)
  | (t, none) => l.zipIdx.all fun (o, i) => o.dst != some t || (M.getD i 0).testBit j || i == j

def srcOk (l : List Oper) (M : Array Nat) (j : Nat) (o : Oper) (s : Src) : Bool :=
  (guardOf l.toArray o == some s.guard) && s.reads.all (readOk l M j)

def srcsOk (l : List Oper) (M : Array Nat) : Nat → List Oper → List Src → Bool
  | j, o :: os, s :: ss => srcOk l M j o s && srcsOk l M (j + 1) os ss
  | _, [], [] => true
  | _, _, _ => false

def dstsOk (N : Nat) : List Oper → Bool
  | [] => true
  | o :: l => (match o.dst with | some d => decide (d < N) && l.all (·.dst != some d) | none => true) && dstsOk N l

def edgesOk : Nat → List Oper → Bool
  | _, [] => true
  | j, o :: l => o.after.toList.all (fun e => !Region.binds .any e || decide (e.on < j)) && edgesOk (j + 1) l

/-- the last ones, from n on, wait for all ahead of them -/
def tailOk (M : Array Nat) (n len : Nat) : Bool :=
  (List.range len).all fun j => decide (j < n) || (List.range j).all fun i => (M.getD j 0).testBit i

def ok (l : List Oper) (n N : Nat) (S : List Src) : Bool :=
  let M := masks l #[]
  decide (n ≤ l.length) && srcsOk l M 0 (l.take n) S && dstsOk N (l.take n) && edgesOk 0 l && tailOk M n l.length &&
  (l.drop n).all (fun o => match o.dst with | some d => (l.take n).all (·.dst != some d) | none => true)

/-! ### What is asked of each operation -/
def isB (b : Bool) : Value → Bool
  | .bool c => c == b
  | _ => false
/-- what a call is asked for -/
def RetsTo (R : World → World → Prop) (W : World) (φ : Fact) (e : Ending) (W' : World) : Prop := ∃ v, e = .returned v ∧ R W W' ∧ φ v W'

def relyUpon (P : Program) (R : World → World → Prop) (W : World) (φ : Fact) : Result Next → Prop
  | .ok (.value v) W' => R W W' ∧ φ v W'
  | .ok .skip W' => R W W' ∧ φ undef W'
  | .ok (.enter f args) W' => R W W' ∧ Calls P f args W' (RetsTo R W' φ)
  | _ => False

/-- an operand, the slots' values being ρ -/
def look (ρ : Tmp → Value) : Operand → Value
  | .tmp t => ρ t
  | .const v => v
  | .global g => .pointer (some ⟨g, 0, none⟩)
  | .func f => .func (.func f) #[] #[]
@[go_sem] theorem look_tmp (ρ : Tmp → Value) (t : Tmp) : look ρ (.tmp t) = ρ t := rfl
@[go_sem] theorem look_const (ρ : Tmp → Value) (v : Value) : look ρ (.const v) = v := rfl
@[go_sem] theorem look_global (ρ : Tmp → Value) (g : Nat) : look ρ (.global g) = .pointer (some ⟨g, 0, none⟩) := rfl
@[go_sem] theorem look_func (ρ : Tmp → Value) (f : FuncId) : look ρ (.func f) = .func (.func f) #[] #[] := rfl
attribute [go_sem] relyUpon
def slots (a : Act) : Tmp → Value := fun t => a.tmps.getD t undef
theorem eval_look (a : Act) : a.eval = look (slots a) := funext fun x => by cases x <;> rfl

def relyAt (P : Program) (R : World → World → Prop) (o : Oper) (ρ : Tmp → Value) (W : World) (φ : Fact) : Prop :=
  relyUpon P R W φ ((execOp (look ρ) o).run P W)

def Holds (r0 : Tmp → Value) (E : List Fact) (ρ : Tmp → Value) (W : World) : List (Tmp × Option Nat) → Prop
  | [] => True
  | (t, none) :: r => ρ t = r0 t ∧ Holds r0 E ρ W r
  | (t, some i) :: r => (E.getD i fun _ _ => True) (ρ t) W ∧ Holds r0 E ρ W r

def gOk (g : Option (Tmp × Bool)) (ρ : Tmp → Value) : Bool :=
  match g with
  | none => true
  | some (d, b) => isB b (ρ d)

def guarded (g : Option (Tmp × Bool)) (ρ : Tmp → Value) (p q : Prop) : Prop :=
  match g with
  | none => p
  | some (d, b) => if isB b (ρ d) = true then p else q

def opOk (P : Program) (R : World → World → Prop) (w0 : World) (r0 : Tmp → Value) (E : List Fact) (o : Oper) (s : Src) (φ : Fact) : Prop :=
  ∀ (ρ : Tmp → Value) (W : World), R w0 W → Holds r0 E ρ W s.reads → guarded s.guard ρ (relyAt P R o ρ W φ) (φ undef W)

def Stable (R : World → World → Prop) (φ : Fact) : Prop := ∀ v W W', R W W' → φ v W → φ v W'

def fin (Q : Act → World → Prop) : List Oper → List Fact → Act → World → Prop
  | o :: l, φ :: E, a, W => ∀ v, φ v W → fin Q l E (a.put o.dst v) W
  | _, _, a, W => Q a W

/-- one operation after the other, in the order of the text; at the end, of all that was found: F -/
def relies (P : Program) (R : World → World → Prop) (w0 : World) (r0 : Tmp → Value) (F : List Fact → Prop) : List Oper → List Src → List Fact → Prop
  | o :: os, s :: ss, E => ∃ φ, Stable R φ ∧ opOk P R w0 r0 E o s φ ∧ relies P R w0 r0 F os ss (E ++ [φ])
  | _, _, E => F E

section
variable {P : Program} {R : World → World → Prop} {w0 : World} {r0 : Tmp → Value} {F : List Fact → Prop} {o : Oper} {os : List Oper} {s : Src} {ss : List Src} {E : List Fact}
theorem step_fact (φ : Fact) (hs : Stable R φ) (h : ∀ (ρ : Tmp → Value) (W : World), R w0 W → Holds r0 E ρ W s.reads → guarded s.guard ρ (relyAt P R o ρ W φ) (φ undef W))
    (hk : relies P R w0 r0 F os ss (E ++ [φ])) : relies P R w0 r0 F (o :: os) (s :: ss) E := ⟨φ, hs, h, hk⟩
/-- blocks that lie stay as they are -/
def Ext (W W' : World) : Prop := RowKit.Below W.heap.size W W'
theorem Ext.refl (W : World) : Ext W W := RowKit.Below.refl _ _
/-- a call hands back v and leaves all that lies as it is -/
def Ret (W : World) (v : Value) (e : Ending) (W' : World) : Prop := e = .returned v ∧ Ext W W'
theorem Ret.const {W W' : World} {v : Value} {e : Ending} (h : Ret W v e W') : RetsTo Ext W (fun u _ => u = v) e W' := ⟨v, h.1, h.2, rfl⟩
/-- a call hands back something of which φ is known -/
def Gives (W : World) (φ : Fact) (e : Ending) (W' : World) : Prop := ∃ v, e = .returned v ∧ Ext W W' ∧ φ v W'
theorem Gives.fact {W W' : World} {φ : Fact} {e : Ending} (h : Gives W φ e W') : RetsTo Ext W φ e W' := h
theorem Ext.trans {a b c : World} (h : Ext a b) (k : Ext b c) : Ext a c := RowKit.Below.trans h (RowKit.Below.mono k h.size)
end

/-! ### The proof -/
section
variable {P : Program} {R : World → World → Prop} {w0 : World} {r0 : Tmp → Value}

theorem Holds.congr {E E' : List Fact} {a : Tmp → Value} {W : World} {n : Nat} (hE : ∀ i, i < n → E.getD i (fun _ _ => True) = E'.getD i (fun _ _ => True)) :
    ∀ (r : List (Tmp × Option Nat)), (∀ x ∈ r, ∀ i, x.2 = some i → i < n) → Holds r0 E a W r → Holds r0 E' a W r
  | [], _, _ => trivial
  | (t, none) :: r, hr, h => ⟨h.1, Holds.congr hE r (fun x hx => hr x (List.mem_cons_of_mem _ hx)) h.2⟩
  | (t, some i) :: r, hr, h => by
    refine ⟨?_, Holds.congr hE r (fun x hx => hr x (List.mem_cons_of_mem _ hx)) h.2⟩
    have h1 := h.1
    rw [hE i (hr (t, some i) List.mem_cons_self i rfl)] at h1
    exact h1

/-- all that the walk has found: one list of facts -/
theorem relies_found {l : List Oper} {M : Array Nat} {F : List Fact → Prop} : ∀ (os : List Oper) (ss : List Src) (E : List Fact), relies P R w0 r0 F os ss E → srcsOk l M E.length os ss = true → (∀ φ ∈ E, Stable R φ) →
    ∃ E' : List Fact, E'.length = E.length + os.length ∧ (∀ i, i < E.length → E'.getD i (fun _ _ => True) = E.getD i (fun _ _ => True)) ∧ (∀ φ ∈ E', Stable R φ) ∧
      (∀ j o s, os[j]? = some o → ss[j]? = some s → opOk P R w0 r0 E' o s (E'.getD (E.length + j) fun _ _ => True)) ∧ F E'
  | [], [], E, h, _, hs => ⟨E, by simp, fun _ _ => rfl, hs, fun j o s h => by simp at h, h⟩
  | [], s :: ss, E, h, hok, hs => by simp [srcsOk] at hok
  | o :: os, [], E, h, hok, hs => by simp [srcsOk] at hok
  | o :: os, s :: ss, E, h, hok, hs => by
    obtain ⟨φ, hst, hop, hrest⟩ := h
    simp only [srcsOk, Bool.and_eq_true] at hok
    obtain ⟨hok1, hok2⟩ := hok
    have hlen : (E ++ [φ]).length = E.length + 1 := by simp
    obtain ⟨E', hl, hE, hS, hO, hF⟩ := relies_found os ss (E ++ [φ]) hrest (by rw [hlen]; exact hok2) (fun ψ hψ => by
      rcases List.mem_append.1 hψ with h | h
      · exact hs ψ h
      · rw [List.mem_singleton.1 h]; exact hst)
    have hE1 : ∀ i, i < E.length → E'.getD i (fun _ _ => True) = E.getD i (fun _ _ => True) := fun i hi => by
      rw [hE i (by omega)]
      simp [List.getElem?_append, hi]
    refine ⟨E', by simp at hl ⊢; omega, hE1, hS, fun j oj sj hj hsj => ?_, hF⟩
    cases j with
    | zero =>
      simp only [List.getElem?_cons_zero, Option.some.injEq] at hj hsj
      subst hj; subst hsj
      have hφ : E'.getD E.length (fun _ _ => True) = φ := by
        rw [hE E.length (by omega)]; simp
      rw [Nat.add_zero, hφ]
      intro a W hR hh
      refine hop a W hR (Holds.congr hE1 _ (fun x hx i hi => ?_) hh)
      simp only [srcOk, Bool.and_eq_true] at hok1
      have := List.all_eq_true.1 hok1.2 x hx
      obtain ⟨t, si⟩ := x
      simp only at hi
      subst hi
      simp only [readOk, Bool.and_eq_true, decide_eq_true_eq] at this
      exact this.1.1
    | succ j =>
      have := hO j oj sj (by simpa using hj) (by simpa using hsj)
      rw [hlen, show E.length + 1 + j = E.length + (j + 1) by omega] at this
      exact this

variable {a0 : Act}
structure Inv (R : World → World → Prop) (w0 : World) (a0 : Act) (ops : Array Oper) (E : List Fact) (n : Nat) (listed : Array Bool) (a : Act) (W : World) (vs : Nat → Value) : Prop where
  size : listed.size = ops.size
  closed : Closed ops listed
  rel : R w0 W
  defers : a.defers = a0.defers
  asize : a.tmps.size = a0.tmps.size
  facts : ∀ i, listed.getD i false = true → i < n → (E.getD i fun _ _ => True) (vs i) W
  vals : ∀ i o d, listed.getD i false = true → i < n → ops[i]? = some o → o.dst = some d → a.tmps[d]? = some (vs i)
  rest : ∀ t, (∀ i o, listed.getD i false = true → i < n → ops[i]? = some o → o.dst ≠ some t) → a.tmps[t]? = a0.tmps[t]?
  tail : ∀ i, n ≤ i → listed.getD i false = false

def left (ops : Array Oper) (listed : Array Bool) : Nat := (List.range ops.size).countP fun i => !listed.getD i true

theorem countP_range_set (p q : Nat → Bool) (i : Nat) (hp : p i = true) (hq : q i = false) (he : ∀ j, j ≠ i → p j = q j) : ∀ n, i < n → (List.range n).countP p = (List.range n).countP q + 1
  | 0, h => absurd h (Nat.not_lt_zero _)
  | n + 1, h => by
    rw [List.range_succ, List.countP_append, List.countP_append]
    by_cases hin : i = n
    · subst hin
      have : (List.range i).countP p = (List.range i).countP q := List.countP_congr fun x hx => by
        rw [he x (by have := List.mem_range.1 hx; omega)]
      rw [this]
      simp [hp, hq]
    · have := countP_range_set p q i hp hq he n (by omega)
      rw [this]
      simp only [List.countP_singleton, he n (fun h => hin h.symm)]
      omega

theorem left_set {ops : Array Oper} {listed : Array Bool} {i : Nat} (hi : listed.getD i true = false) (hs : listed.size = ops.size) : left ops listed = left ops (listed.setIfInBounds i true) + 1 := by
  have hlt : i < listed.size := by
    rcases Nat.lt_or_ge i listed.size with h | h
    · exact h
    · simp [Array.getElem?_eq_none h] at hi
  refine countP_range_set _ _ i (by simp only [hi, Bool.not_false]) ?_ (fun j hj => ?_) _ (by omega)
  · simp [Array.getElem?_setIfInBounds_self_of_lt hlt]
  · rw [getD_set_ne true (Ne.symm hj)]

theorem edges_lt {l : List Oper} : ∀ (k : Nat), edgesOk k l = true → ∀ j o e, l[j]? = some o → e ∈ o.after → Region.binds .any e = true → e.on < k + j := by
  induction l with
  | nil => intro k _ j o e h; simp at h
  | cons x l ih =>
    intro k h j o e hj he hb
    simp only [edgesOk, Bool.and_eq_true] at h
    cases j with
    | zero =>
      simp only [List.getElem?_cons_zero, Option.some.injEq] at hj
      subst hj
      have := List.all_eq_true.1 h.1 e (Array.mem_toList_iff.2 he)
      simpa [hb] using this
    | succ j =>
      have := ih (k + 1) h.2 j o e (by simpa using hj) he hb
      omega

theorem ready_of_left {l : List Oper} (he : edgesOk 0 l = true) {listed : Array Bool} : ∀ i, i < l.length → listed.getD i true = false → ∃ j, j ∈ Region.ready .any l.toArray listed := by
  intro i
  induction i using Nat.strongRecOn with
  | _ i ih =>
    intro hi hun
    by_cases h : ∃ k, k < i ∧ listed.getD k true = false
    · obtain ⟨k, hk, hk2⟩ := h
      exact ih k hk (by omega) hk2
    · refine ⟨i, mem_ready.2 ⟨hun, l[i], by simp [hi], fun e hm hb => ?_⟩⟩
      have hlt := edges_lt 0 he i l[i] e (by simp [hi]) hm hb
      cases hx : listed.getD e.on false with
      | true => rfl
      | false =>
        exfalso
        refine h ⟨e.on, by omega, ?_⟩
        have hil : i < listed.size := by
          rcases Nat.lt_or_ge i listed.size with h | h
          · exact h
          · simp [Array.getElem?_eq_none h] at hun
        exact getD_in (by omega) hx

theorem left_pos {ops : Array Oper} {listed : Array Bool} {i : Nat} (hi : i < ops.size) (h : listed.getD i true = false) : 0 < left ops listed :=
  List.countP_pos_iff.2 ⟨i, List.mem_range.2 hi, by simp only [h, Bool.not_false]⟩

theorem wpOp_of_wanted {ops : Array Oper} {Q : Exit → Act → World → Prop} {i : Nat} {o : Oper} {K : Act → World → Prop} {a : Act} {w : World} (ho : ops[i]? = some o)
    (h : if Region.wanted o (yielded ops a.tmps) then o.wp P a w K Q else K (a.put o.dst undef) w) : wpOp P ops Q i K a w := by
  unfold wpOp
  rw [ho]
  simp only
  split at h
  · rename_i hw; rw [if_pos hw]; exact .inl h
  · rename_i hw; rw [if_neg hw]; exact h

theorem relyAt_wp {o : Oper} {a : Act} {W : World} {φ : Fact} {K : Act → World → Prop} {Q : Exit → Act → World → Prop} (htr : ∀ {a b c : World}, R a b → R b c → R a c) (h : relyAt P R o (slots a) W φ)
    (hk : ∀ v W', R W W' → φ v W' → K (a.put o.dst v) W') : o.wp P a W K Q := by
  unfold relyAt at h
  rw [← eval_look] at h
  unfold Oper.wp
  generalize (execOp a.eval o).run P W = r at *
  cases r with
  | halt x w => exact h.elim
  | ok n W1 =>
    cases n <;> simp only [relyUpon] at h <;> try exact h.elim
    case value v => exact hk v W1 h.1 h.2
    case skip => exact hk undef W1 h.1 h.2
    case enter f args =>
      obtain ⟨h1, h2⟩ := h
      refine Calls.mono h2 fun e W2 ⟨v, he, hr, hp⟩ => ?_
      subst he
      exact hk v W2 (htr h1 hr) hp

theorem wanted_guard {ops : Array Oper} {o : Oper} {a : Act} {g : Option (Tmp × Bool)} (hg : guardOf ops o = some g) :
    Region.wanted o (yielded ops a.tmps) = gOk g (slots a) := by
  unfold gOk
  unfold guardOf at hg
  unfold Region.wanted
  cases hgo : o.guard with
  | none =>
    simp only [hgo, Option.some.injEq] at hg
    subst hg; rfl
  | some jb =>
    obtain ⟨j, b⟩ := jb
    simp only [hgo] at hg
    cases hd : (ops[j]?).bind (·.dst) with
    | none => simp only [hd] at hg; cases hg
    | some d =>
      simp only [hd, Option.some.injEq] at hg
      subst hg
      simp only [yielded, hd, Option.bind_some, slots]
      cases ht : a.tmps[d]? with
      | none => simp [ht, undef, isB]
      | some v =>
        cases v <;> simp [ht, isB]
end

/-! ### The textual order's frame -/
def putsFrom : List Oper → (Nat → Value) → Nat → Act → Act
  | [], _, _, a => a
  | o :: os, vs, k, a => putsFrom os vs (k + 1) (a.put o.dst (vs k))

theorem put_size (a : Act) (d : Option Tmp) (v : Value) : (a.put d v).tmps.size = a.tmps.size := by cases d <;> simp [Act.put]
theorem put_defers (a : Act) (d : Option Tmp) (v : Value) : (a.put d v).defers = a.defers := by cases d <;> rfl
theorem put_get_ne (a : Act) (d : Option Tmp) (v : Value) (t : Nat) (h : d ≠ some t) : (a.put d v).tmps[t]? = a.tmps[t]? := by
  cases d with
  | none => rfl
  | some d => simp only [Act.put]; rw [Array.getElem?_setIfInBounds_ne (fun e => h (by rw [e]))]
theorem put_get_eq (a : Act) (t : Nat) (v : Value) (h : t < a.tmps.size) : (a.put (some t) v).tmps[t]? = some v := by
  simp only [Act.put]; rw [Array.getElem?_setIfInBounds_self_of_lt h]

theorem putsFrom_size : ∀ (os : List Oper) (vs : Nat → Value) (k : Nat) (a : Act), (putsFrom os vs k a).tmps.size = a.tmps.size ∧ (putsFrom os vs k a).defers = a.defers
  | [], _, _, _ => ⟨rfl, rfl⟩
  | o :: os, vs, k, a => by
    have := putsFrom_size os vs (k + 1) (a.put o.dst (vs k))
    exact ⟨this.1.trans (put_size _ _ _), this.2.trans (put_defers _ _ _)⟩

theorem putsFrom_none : ∀ (os : List Oper) (vs : Nat → Value) (k : Nat) (a : Act) (t : Nat), (∀ o ∈ os, o.dst ≠ some t) → (putsFrom os vs k a).tmps[t]? = a.tmps[t]?
  | [], _, _, _, _, _ => rfl
  | o :: os, vs, k, a, t, h => by
    show (putsFrom os vs (k + 1) (a.put o.dst (vs k))).tmps[t]? = _
    rw [putsFrom_none os vs (k + 1) _ t (fun o' ho' => h o' (List.mem_cons_of_mem _ ho')), put_get_ne _ _ _ _ (h o List.mem_cons_self)]

theorem putsFrom_some {N : Nat} : ∀ (os : List Oper) (vs : Nat → Value) (k : Nat) (a : Act) (t i : Nat) (o : Oper), dstsOk N os = true → a.tmps.size = N → os[i]? = some o → o.dst = some t → (putsFrom os vs k a).tmps[t]? = some (vs (k + i))
  | [], _, _, _, _, _, _, _, _, h, _ => by simp at h
  | x :: os, vs, k, a, t, i, o, hd, hN, hi, ho => by
    simp only [dstsOk, Bool.and_eq_true] at hd
    show (putsFrom os vs (k + 1) (a.put x.dst (vs k))).tmps[t]? = _
    cases i with
    | zero =>
      simp only [List.getElem?_cons_zero, Option.some.injEq] at hi
      subst hi
      have h1 := hd.1
      rw [ho] at h1
      simp only [Bool.and_eq_true, decide_eq_true_eq] at h1
      have hlt0 : t < N := h1.1
      have hlt : t < a.tmps.size := by omega
      rw [putsFrom_none os vs (k + 1) _ t (fun o' ho' he => by
        have := List.all_eq_true.1 h1.2 o' ho'
        rw [he] at this
        simp at this), ho, put_get_eq _ _ _ hlt]
      rfl
    | succ i =>
      have := putsFrom_some os vs (k + 1) (a.put x.dst (vs k)) t i o hd.2 (by rw [put_size]; exact hN) (by simpa using hi) ho
      rw [this]
      congr 2
      omega

theorem fin_run {Q : Act → World → Prop} {W : World} : ∀ (os : List Oper) (E : List Fact) (a : Act) (vs : Nat → Value) (k : Nat), fin Q os E a W → E.length = os.length →
    (∀ i, i < os.length → (E.getD i fun _ _ => True) (vs (k + i)) W) → Q (putsFrom os vs k a) W
  | [], [], a, vs, k, h, _, _ => h
  | [], _ :: _, _, _, _, _, hl, _ => by simp at hl
  | _ :: _, [], _, _, _, _, hl, _ => by simp at hl
  | o :: os, φ :: E, a, vs, k, h, hl, hf => by
    have h0 := hf 0 (by simp)
    refine fin_run os E (a.put o.dst (vs k)) vs (k + 1) (h (vs k) (by simpa using h0)) (by simpa using hl) (fun i hi => ?_)
    have := hf (i + 1) (by simpa using hi)
    rw [show k + (i + 1) = k + 1 + i by omega] at this
    simpa using this

theorem dsts_ne {N : Nat} : ∀ (os : List Oper), dstsOk N os = true → ∀ (i j : Nat) (x y : Oper) (d : Nat), os[i]? = some x → os[j]? = some y → i ≠ j → x.dst = some d → y.dst ≠ some d
  | [], _, _, _, _, _, _, h, _, _, _ => by simp at h
  | z :: os, hd, i, j, x, y, d, hx, hy, hne, hxd => by
    simp only [dstsOk, Bool.and_eq_true] at hd
    cases i with
    | zero =>
      simp only [List.getElem?_cons_zero, Option.some.injEq] at hx
      subst hx
      cases j with
      | zero => exact absurd rfl hne
      | succ j =>
        have h1 := hd.1
        rw [hxd] at h1
        simp only [Bool.and_eq_true] at h1
        have := List.all_eq_true.1 h1.2 y (List.mem_of_getElem? (by simpa using hy))
        intro he
        rw [he] at this
        simp at this
    | succ i =>
      cases j with
      | zero =>
        simp only [List.getElem?_cons_zero, Option.some.injEq] at hy
        subst hy
        intro he
        have h1 := hd.1
        rw [he] at h1
        simp only [Bool.and_eq_true] at h1
        have := List.all_eq_true.1 h1.2 x (List.mem_of_getElem? (by simpa using hx))
        rw [hxd] at this
        simp at this
      | succ j => exact dsts_ne os hd.2 i j x y d (by simpa using hx) (by simpa using hy) (by omega) hxd

theorem dsts_lt {N : Nat} : ∀ (os : List Oper), dstsOk N os = true → ∀ (i : Nat) (x : Oper) (d : Nat), os[i]? = some x → x.dst = some d → d < N
  | [], _, _, _, _, h, _ => by simp at h
  | z :: os, hd, i, x, d, hx, hxd => by
    simp only [dstsOk, Bool.and_eq_true] at hd
    cases i with
    | zero =>
      simp only [List.getElem?_cons_zero, Option.some.injEq] at hx
      subst hx
      have h1 := hd.1
      rw [hxd] at h1
      simp only [Bool.and_eq_true, decide_eq_true_eq] at h1
      exact h1.1
    | succ i => exact dsts_lt os hd.2 i x d (by simpa using hx) hxd

theorem srcs_get {l : List Oper} {M : Array Nat} : ∀ (os : List Oper) (ss : List Src) (k : Nat), srcsOk l M k os ss = true → ∀ j o, os[j]? = some o → ∃ s, ss[j]? = some s ∧ srcOk l M (k + j) o s = true
  | [], _, _, _, _, _, h => by simp at h
  | _ :: _, [], _, h, _, _, _ => by simp [srcsOk] at h
  | o :: os, s :: ss, k, h, j, oj, hj => by
    simp only [srcsOk, Bool.and_eq_true] at h
    cases j with
    | zero =>
      simp only [List.getElem?_cons_zero, Option.some.injEq] at hj
      subst hj
      exact ⟨s, rfl, h.1⟩
    | succ j =>
      obtain ⟨s', h1, h2⟩ := srcs_get os ss (k + 1) h.2 j oj (by simpa using hj)
      exact ⟨s', by simpa using h1, by rw [show k + (j + 1) = k + 1 + j by omega]; exact h2⟩

theorem srcs_len {l : List Oper} {M : Array Nat} : ∀ (os : List Oper) (ss : List Src) (k : Nat), srcsOk l M k os ss = true → ss.length = os.length
  | [], [], _, _ => rfl
  | [], _ :: _, _, h => by simp [srcsOk] at h
  | _ :: _, [], _, h => by simp [srcsOk] at h
  | o :: os, s :: ss, k, h => by
    simp only [srcsOk, Bool.and_eq_true] at h
    simp [srcs_len os ss (k + 1) h.2]

section
variable {P : Program} {R : World → World → Prop} {w0 : World} {a0 : Act}

theorem getD_false_of_true {listed : Array Bool} {i : Nat} (h : listed.getD i false = true) : listed.getD i true = true := by
  rcases Nat.lt_or_ge i listed.size with h' | h'
  · simp [h'] at h ⊢; exact h
  · simp [Array.getElem?_eq_none h'] at h

theorem tail_sound {l : List Oper} {n : Nat} {Q : Exit → Act → World → Prop} (hM : tailOk (masks l #[]) n l.length = true) (he : edgesOk 0 l = true) :
    ∀ (fuel m : Nat) (listed : Array Bool) (a : Act) (W : World), n ≤ m → m ≤ l.length → listed.size = l.length → Closed l.toArray listed → (∀ i, i < m → listed.getD i false = true) → (∀ i, m ≤ i → listed.getD i false = false) →
      fuel = l.length - m → wpList P l.toArray Q (l.drop m) a W → wpAny P .any l.toArray Q fuel listed a W := by
  have only : ∀ (m : Nat) (listed : Array Bool), n ≤ m → Closed l.toArray listed → (∀ i, i < m → listed.getD i false = true) → (∀ i, m ≤ i → listed.getD i false = false) → ∀ j ∈ Region.ready .any l.toArray listed, j = m ∧ m < l.length := by
    intro m listed hm hc h1 h2 j hj
    obtain ⟨hu, o, ho, _⟩ := mem_ready.1 hj
    have hjl : j < l.length := by have := (Array.getElem?_eq_some_iff.1 ho).1; simpa using this
    have hjm : m ≤ j := by
      rcases Nat.lt_or_ge j m with h | h
      · have := getD_false_of_true (h1 j h); rw [this] at hu; cases hu
      · exact h
    rcases Nat.eq_or_lt_of_le hjm with h | h
    · exact ⟨h.symm, by omega⟩
    · exfalso
      have h3 := List.all_eq_true.1 hM j (List.mem_range.2 hjl)
      simp only [Bool.or_eq_true, decide_eq_true_eq] at h3
      rcases h3 with h3 | h3
      · omega
      · have h4 := List.all_eq_true.1 h3 m (List.mem_range.2 h)
        have ha := masks_anc l.toArray l #[] (fun j => by simp) (fun j i h => by simp at h) j m h4
        have := anc_of_ready hc hj ha
        rw [h2 m (Nat.le_refl _)] at this
        cases this
  intro fuel
  induction fuel with
  | zero =>
    intro m listed a W hn hm hs hc h1 h2 hf h
    have hml : m = l.length := by omega
    subst hml
    refine ⟨?_, by simpa [wpList] using h⟩
    cases hr : Region.ready .any l.toArray listed with
    | nil => rfl
    | cons x xs => have := only _ listed hn hc h1 h2 x (by rw [hr]; exact List.mem_cons_self); omega
  | succ fuel ih =>
    intro m listed a W hn hm hs hc h1 h2 hf h
    have hml : m < l.length := by omega
    obtain ⟨o, ho⟩ : ∃ o, l[m]? = some o := ⟨l[m], by simp [hml]⟩
    have hd : l.drop m = o :: l.drop (m + 1) := by
      rw [List.drop_eq_getElem_cons hml]
      congr 1
      exact Option.some.inj (by rw [← ho]; simp [hml])
    refine ⟨fun hr => ?_, fun j hj => ?_⟩
    · obtain ⟨j, hj⟩ := ready_of_left he (listed := listed) m hml (getD_in (by omega) (h2 m (Nat.le_refl _)))
      rw [hr] at hj; cases hj
    · obtain ⟨rfl, _⟩ := only m listed hn hc h1 h2 j hj
      rw [hd] at h
      have h' : wpOp P l.toArray Q j (wpList P l.toArray Q (l.drop (j + 1))) a W := by
        unfold wpOp
        have : (l.toArray)[j]? = some o := by simpa using ho
        rw [this]
        exact h
      refine wpOp_mono (fun a' W' h2' => ih (j + 1) _ a' W' (by omega) hml (by simp [hs]) (hc.set hj) (fun i hi => ?_) (fun i hi => ?_) (by omega) h2') h'
      · by_cases hij : j = i
        · subst hij; simp [Array.getElem?_setIfInBounds_self_of_lt (show j < listed.size by omega)]
        · rw [getD_set_ne false hij]; exact h1 i (by omega)
      · rw [getD_set_ne false (by omega)]; exact h2 i (by omega)

theorem wpAny_of_rely {l : List Oper} {n N : Nat} {S : List Src} {E : List Fact} {Q : Exit → Act → World → Prop} (hok : ok l n N S = true) (hN : a0.tmps.size = N) (hrf : ∀ a, R a a) (htr : ∀ {a b c : World}, R a b → R b c → R a c)
    (hE : E.length = (l.take n).length) (hst : ∀ φ ∈ E, Stable R φ)
    (hop : ∀ j o s, (l.take n)[j]? = some o → S[j]? = some s → opOk P R w0 (slots a0) E o s (E.getD j fun _ _ => True))
    (hfin : ∀ W, R w0 W → fin (fun a W => wpList P l.toArray Q (l.drop n) a W) (l.take n) E a0 W) :
    ∀ (fuel : Nat) (listed : Array Bool) (a : Act) (W : World) (vs : Nat → Value), Inv R w0 a0 l.toArray E n listed a W vs → fuel = left l.toArray listed → wpAny P .any l.toArray Q fuel listed a W := by
  simp only [ok, Bool.and_eq_true, decide_eq_true_eq] at hok
  obtain ⟨⟨⟨⟨⟨hn, hsrc⟩, hdst⟩, hedge⟩, htail⟩, hdt⟩ := hok
  have hlen : (l.take n).length = n := by simp [hn]
  have hget : ∀ i, i < n → (l.take n)[i]? = l[i]? := fun i hi => by simp [hi]
  have hgd : ∀ i, (E.getD i fun _ _ => True) = (fun _ _ => True) ∨ (E.getD i fun _ _ => True) ∈ E := fun i => by
    rcases Nat.lt_or_ge i E.length with h | h
    · right; simp [h]
    · left; simp [List.getElem?_eq_none h]
  have hstg : ∀ i, Stable R (E.getD i fun _ _ => True) := fun i => by
    rcases hgd i with h | h
    · rw [h]; exact fun _ _ _ _ _ => trivial
    · exact hst _ h
  have hanc : ∀ j i, ((masks l #[]).getD j 0).testBit i = true → Anc l.toArray i j := masks_anc l.toArray l #[] (fun j => by simp) (fun j i h => by simp at h)
  have count : ∀ (listed : Array Bool), (∀ i, i < n → listed.getD i true = true) → (∀ i, n ≤ i → i < l.length → listed.getD i true = false) → left l.toArray listed = l.length - n := by
    intro listed h1 h2
    unfold left
    simp only [List.size_toArray]
    have : ∀ m, m ≤ l.length → (List.range m).countP (fun i => !listed.getD i true) = m - n := by
      intro m
      induction m with
      | zero => intro _; simp
      | succ m ih =>
        intro hm
        rw [List.range_succ, List.countP_append, ih (by omega), List.countP_singleton]
        by_cases hmn : m < n
        · simp only [h1 m hmn, Bool.not_true, Bool.false_eq_true, if_false]; omega
        · simp only [h2 m (by omega) (by omega), Bool.not_false, if_true]; omega
    exact this l.length (Nat.le_refl _)
  have done : ∀ (fuel : Nat) (listed : Array Bool) (a : Act) (W : World) (vs : Nat → Value), Inv R w0 a0 l.toArray E n listed a W vs → fuel = left l.toArray listed → (∀ i, i < n → listed.getD i true = true) → wpAny P .any l.toArray Q fuel listed a W := by
    intro fuel listed a W vs inv hf hall
    have hs : listed.size = l.length := by simpa using inv.size
    have hall' : ∀ i, i < n → listed.getD i false = true := fun i hi => by
      cases hx : listed.getD i false with
      | true => rfl
      | false => have := getD_in (by omega) hx; rw [hall i hi] at this; cases this
    refine tail_sound htail hedge fuel n listed a W (Nat.le_refl _) hn hs inv.closed hall' inv.tail (by rw [hf]; exact count listed hall (fun i h1 h2 => getD_in (by omega) (inv.tail i h1))) ?_
    have hq := fin_run (l.take n) E a0 vs 0 (hfin W inv.rel) hE (fun i hi => by
      rw [Nat.zero_add]
      exact inv.facts i (hall' i (by omega)) (by omega))
    have heq : putsFrom (l.take n) vs 0 a0 = a := by
      have hsz := putsFrom_size (l.take n) vs 0 a0
      have ht : (putsFrom (l.take n) vs 0 a0).tmps = a.tmps := by
        refine Array.ext_getElem? fun t => ?_
        by_cases hw : ∃ (i : Nat) (o : Oper), (l.take n)[i]? = some o ∧ o.dst = some t
        · obtain ⟨i, o, hi, ho⟩ := hw
          have hin : i < n := by have := (List.getElem?_eq_some_iff.1 hi).1; omega
          rw [putsFrom_some (l.take n) vs 0 a0 t i o hdst hN hi ho, Nat.zero_add]
          exact (inv.vals i o t (hall' i hin) hin (by rw [hget i hin] at hi; simpa using hi) ho).symm
        · rw [putsFrom_none (l.take n) vs 0 a0 t (fun o ho he => by
            obtain ⟨i, hi⟩ := List.mem_iff_getElem?.1 ho
            exact hw ⟨i, o, hi, he⟩)]
          refine (inv.rest t fun i o _ hin hi he => hw ⟨i, o, by rw [hget i hin]; simpa using hi, he⟩).symm
      have hd := hsz.2.trans inv.defers.symm
      generalize putsFrom (l.take n) vs 0 a0 = b at *
      cases a; cases b
      simp_all
    rw [heq] at hq
    exact hq
  have main : ∀ (fuel : Nat) (listed : Array Bool) (a : Act) (W : World) (vs : Nat → Value), Inv R w0 a0 l.toArray E n listed a W vs → fuel = left l.toArray listed → wpAny P .any l.toArray Q fuel listed a W := by
    intro fuel
    induction fuel with
    | zero =>
      intro listed a W vs inv hf
      refine done 0 listed a W vs inv hf fun i hi => ?_
      cases hx : listed.getD i true with
      | true => rfl
      | false =>
        have := left_pos (ops := l.toArray) (by simp; omega) hx
        omega
    | succ fuel ih =>
      intro listed a W vs inv hf
      by_cases hA : ∀ i, i < n → listed.getD i true = true
      · exact done _ listed a W vs inv hf hA
      · have hs : listed.size = l.length := by simpa using inv.size
        obtain ⟨i0, hi0, hu0⟩ : ∃ i, i < n ∧ listed.getD i true = false := by
          refine Classical.byContradiction fun hc => hA fun i hi => ?_
          cases hx : listed.getD i true with
          | true => rfl
          | false => exact absurd ⟨i, hi, hx⟩ hc
        refine ⟨fun hr => ?_, fun j hj => ?_⟩
        · obtain ⟨j, hj⟩ := ready_of_left hedge (listed := listed) i0 (by omega) hu0
          rw [hr] at hj; cases hj
        · obtain ⟨hju, oj, hoj, _⟩ := mem_ready.1 hj
          have hoj' : l[j]? = some oj := by simpa using hoj
          have hjl : j < l.length := (List.getElem?_eq_some_iff.1 hoj').1
          have hjn : j < n := by
            rcases Nat.lt_or_ge j n with h | h
            · exact h
            · exfalso
              have h3 := List.all_eq_true.1 htail j (List.mem_range.2 hjl)
              simp only [Bool.or_eq_true, decide_eq_true_eq] at h3
              rcases h3 with h3 | h3
              · omega
              · have h4 := List.all_eq_true.1 h3 i0 (List.mem_range.2 (by omega))
                have := anc_of_ready inv.closed hj (hanc j i0 h4)
                rw [getD_false_of_true this] at hu0
                cases hu0
          obtain ⟨s, hsj, hso⟩ := srcs_get (l.take n) S 0 hsrc j oj (by rw [hget j hjn]; exact hoj')
          rw [Nat.zero_add] at hso
          simp only [srcOk, Bool.and_eq_true] at hso
          obtain ⟨hg, hrd⟩ := hso
          have hg' : guardOf l.toArray oj = some s.guard := by simpa using hg
          have holds : ∀ (r : List (Tmp × Option Nat)), r.all (readOk l (masks l #[]) j) = true → Holds (slots a0) E (slots a) W r := by
            intro r
            induction r with
            | nil => intro _; trivial
            | cons x r ihr =>
              intro hr
              simp only [List.all_cons, Bool.and_eq_true] at hr
              obtain ⟨t, si⟩ := x
              cases si with
              | none =>
                refine ⟨?_, ihr hr.2⟩
                have h1 := hr.1
                simp only [readOk] at h1
                have h2 : a.tmps[t]? = a0.tmps[t]? := inv.rest t fun i o hli hin hio hd => by
                  have h3 := List.all_eq_true.1 h1 (o, i) (by
                    rw [List.mem_iff_getElem?]
                    refine ⟨i, ?_⟩
                    rw [List.getElem?_zipIdx]
                    have : l[i]? = some o := by simpa using hio
                    simp [this])
                  simp only [hd, bne_self_eq_false, Bool.false_or, Bool.or_eq_true, beq_iff_eq] at h3
                  have hlj : listed.getD j false = true := by
                    rcases h3 with h3 | h3
                    · exact inv.closed.anc (hanc i j h3) hli
                    · rw [← h3]; exact hli
                  rw [getD_false_of_true hlj] at hju
                  cases hju
                simp only [slots, Array.getD_eq_getD_getElem?, h2]
              | some i =>
                refine ⟨?_, ihr hr.2⟩
                have h1 := hr.1
                simp only [readOk, Bool.and_eq_true, decide_eq_true_eq, beq_iff_eq] at h1
                obtain ⟨⟨hij, hbit⟩, hdi⟩ := h1
                have hli := anc_of_ready inv.closed hj (hanc j i hbit)
                obtain ⟨oi, hoi, hdi'⟩ : ∃ oi, l[i]? = some oi ∧ oi.dst = some t := by
                  cases hx : l[i]? with
                  | none => rw [hx] at hdi; cases hdi
                  | some oi => rw [hx] at hdi; exact ⟨oi, rfl, hdi⟩
                have hv := inv.vals i oi t hli (by omega) (by simpa using hoi) hdi'
                have : slots a t = vs i := by simp only [slots, Array.getD_eq_getD_getElem?, hv, Option.getD_some]
                rw [this]
                exact inv.facts i hli (by omega)
          have hopj := hop j oj s (by rw [hget j hjn]; exact hoj') hsj (slots a) W inv.rel (holds s.reads hrd)
          have next : ∀ v W', R W W' → (E.getD j fun _ _ => True) v W' → wpAny P .any l.toArray Q fuel (listed.setIfInBounds j true) (a.put oj.dst v) W' := by
            intro v W' hR hφ
            have hjs : j < listed.size := by omega
            have hlist : ∀ i, (listed.setIfInBounds j true).getD i false = true → i = j ∨ listed.getD i false = true := fun i hi => by
              by_cases hij : j = i
              · exact .inl hij.symm
              · rw [getD_set_ne false hij] at hi; exact .inr hi
            refine ih _ _ W' (fun i => if i = j then v else vs i) ⟨by simp [inv.size], inv.closed.set hj, htr inv.rel hR, (put_defers _ _ _).trans inv.defers, (put_size _ _ _).trans inv.asize, ?_, ?_, ?_, ?_⟩ ?_
            · intro i hi hin
              by_cases hij : i = j
              · subst hij; simpa using hφ
              · simp only [hij, if_false]
                rcases hlist i hi with h | h
                · exact absurd h hij
                · exact hstg i _ _ _ hR (inv.facts i h hin)
            · intro i o d hi hin hio hd
              by_cases hij : i = j
              · subst hij
                obtain rfl : o = oj := Option.some.inj (hio.symm.trans hoj)
                rw [hd, put_get_eq _ _ _ (by rw [inv.asize, hN]; exact dsts_lt (l.take n) hdst i o d (by rw [hget i hin]; exact hoj') hd)]
                simp
              · simp only [hij, if_false]
                rcases hlist i hi with h | h
                · exact absurd h hij
                · rw [put_get_ne _ _ _ _ (dsts_ne (l.take n) hdst i j o oj d (by rw [hget i hin]; simpa using hio) (by rw [hget j hjn]; exact hoj') hij hd)]
                  exact inv.vals i o d h hin hio hd
            · intro t ht
              rw [put_get_ne _ _ _ _ (ht j oj (by simp [Array.getElem?_setIfInBounds_self_of_lt hjs]) hjn hoj)]
              exact inv.rest t fun i o hi hin hio => ht i o (getD_set_true hi) hin hio
            · intro i hi
              rw [getD_set_ne false (by omega)]
              exact inv.tail i hi
            · have := left_set hju inv.size
              omega
          refine wpOp_of_wanted hoj ?_
          rw [wanted_guard hg']
          by_cases hb : gOk s.guard (slots a) = true
          · rw [if_pos hb]
            refine relyAt_wp (R := R) (W := W) (φ := E.getD j fun _ _ => True) (fun {_ _ _} h1 h2 => htr h1 h2) ?_ next
            cases hgd' : s.guard with
            | none => rw [hgd'] at hopj; exact hopj
            | some db =>
              rw [hgd'] at hopj hb
              exact (if_pos hb).mp hopj
          · rw [if_neg hb]
            refine next undef W (hrf W) ?_
            cases hgd' : s.guard with
            | none => rw [hgd'] at hb; exact absurd rfl hb
            | some db =>
              rw [hgd'] at hopj hb
              exact (if_neg hb).mp hopj
  exact main

/-- what stands behind the region -/
def After {P : Program} {R : World → World → Prop} {Q : Exit → Act → World → Prop} {a : Act} {w : World} {l : List Oper} {n : Nat} (F : List Fact → Prop) : Prop :=
  ∀ E, (∀ W, R w.drew W → fin (fun a W => wpList P l.toArray Q (l.drop n) a W) (l.take n) E a W) → F E
theorem After.out {P : Program} {R : World → World → Prop} {Q : Exit → Act → World → Prop} {a : Act} {w : World} {l : List Oper} {n : Nat} {F : List Fact → Prop} (h : After (P := P) (R := R) (Q := Q) (a := a) (w := w) (l := l) (n := n) F) {E : List Fact}
    (k : ∀ W, R w.drew W → fin (fun a W => wpList P l.toArray Q (l.drop n) a W) (l.take n) E a W) : F E := h E k

/-- THE LAW. 'n': so many operations are taken in whatever order; those behind them wait for all ahead of them and are walked as ever. 'N': the frame's size. -/
theorem wp_region_rely {id : Nat} {Q : Exit → Act → World → Prop} {a : Act} {w : World} {l : List Oper} (R : World → World → Prop) (n N : Nat) (S : List Src) (hm : P.follows .mixedOrders = true) (hok : ok l n N S = true) (hN : a.tmps.size = N)
    (hrf : ∀ a, R a a) (htr : ∀ {a b c : World}, R a b → R b c → R a c)
    (h : ∀ (F : List Fact → Prop) (r0 : Tmp → Value), r0 = slots a → After (P := P) (R := R) (Q := Q) (a := a) (w := w) (l := l) (n := n) F → relies P R w.drew r0 F (l.take n) S []) : (Code.region id l.toArray true).wp P Q a w := by
  have hok' := hok
  simp only [ok, Bool.and_eq_true, decide_eq_true_eq] at hok'
  obtain ⟨⟨⟨⟨⟨hn, hsrc⟩, hdst⟩, hedge⟩, htail⟩, hdt⟩ := hok'
  obtain ⟨E, hl, _, hst, hop, hfin⟩ := relies_found (M := masks l #[]) (l.take n) S [] (h (fun E => ∀ W, R w.drew W → fin (fun a W => wpList P l.toArray Q (l.drop n) a W) (l.take n) E a W) _ rfl (show After _ from fun _ h => h)) hsrc (fun _ h => by cases h)
  refine wp_region_any hm ?_
  have hcount : l.toArray.size = left l.toArray (Array.replicate l.toArray.size false) := by
    unfold left
    have : ∀ m, m ≤ l.toArray.size → (List.range m).countP (fun i => !(Array.replicate l.toArray.size false).getD i true) = m := by
      intro m
      induction m with
      | zero => intro _; simp
      | succ m ih =>
        intro hm
        rw [List.range_succ, List.countP_append, ih (by omega), List.countP_singleton]
        have : (Array.replicate l.toArray.size false).getD m true = false := by simp at hm ⊢; simp [show m < l.length by omega]
        simp only [this, Bool.not_false, if_true]
    exact (this _ (Nat.le_refl _)).symm
  refine wpAny_of_rely (R := R) (w0 := w.drew) (a0 := a) hok hN hrf htr (by simpa using hl) hst (fun j o s hj hs => by simpa using hop j o s hj hs) hfin _ _ a _ (fun _ => undef) ⟨by simp, ?_, hrf _, rfl, rfl, ?_, ?_, ?_, ?_⟩ hcount
  · intro j o ho hl
    rw [getD_replicate_false] at hl; cases hl
  · intro i hi; rw [getD_replicate_false] at hi; cases hi
  · intro i o d hi; rw [getD_replicate_false] at hi; cases hi
  · intro t _; rfl
  · intro i _; exact getD_replicate_false _ _
end
end Go.Proofs.Ytfelfmchachljaa.Rely
end

/-! What a slice of bytes says: small facts about bytes, worlds that only grow, and frames. -/
section
namespace Go.Proofs.Ytfelfmchachljaa.Rely
set_option linter.unusedVariables false
open Go Go.RowKit

theorem ext_drew (W : World) : Ext W W.drew := ⟨rfl, rfl, rfl, Nat.le_refl _, fun _ _ => rfl⟩
theorem ext_alloc (W : World) (o : Obj) : Ext W (W.alloc o) := (Below.refl _ _).alloc (Nat.le_refl _) o

/-- element i -/
def nth (xs : List Int) (i : Nat) : Int := xs.getD i 0
/-- the numbers are bytes -/
def AreBytes (bs : List Int) : Prop := ∀ x ∈ bs, 0 ≤ x ∧ x ≤ 255
theorem AreBytes.nth {bs : List Int} (h : AreBytes bs) (i : Nat) : 0 ≤ nth bs i ∧ nth bs i ≤ 255 := by
  unfold Rely.nth
  rcases Nat.lt_or_ge i bs.length with hi | hi
  · rw [List.getD_eq_getElem?_getD, List.getElem?_eq_getElem hi]; exact h _ (List.getElem_mem hi)
  · rw [List.getD_eq_getElem?_getD, List.getElem?_eq_none hi]; decide
/-- the slice's elements, one cell each -/
def CellsAt (w : World) (k : IntKind) (a : Option Addr) (n : Nat) (bs : List Int) : Prop :=
  n = 0 ∨ ∃ b off, a = some ⟨b, off, none⟩ ∧ b < w.heap.size ∧ ∀ i, i < n → w.cell? ⟨b, off + i, none⟩ = some (.int k (nth bs i))
theorem CellsAt.ext {w w' : World} {k : IntKind} {a : Option Addr} {n : Nat} {bs : List Int} (h : CellsAt w k a n bs) (e : Ext w w') : CellsAt w' k a n bs := by
  refine h.imp id ?_
  rintro ⟨b, off, ha, hlt, hc⟩
  exact ⟨b, off, ha, Nat.lt_of_lt_of_le hlt e.size, fun i hi => by rw [e.cell hlt]; exact hc i hi⟩
/-- a value that is a slice with these bytes -/
def BytesAt (w : World) (v : Value) (bs : List Int) : Prop :=
  ∃ a cap, v = .slice a bs.length cap ∧ bs.length ≤ maxLen ∧ AreBytes bs ∧ CellsAt w .u8 a bs.length bs
theorem BytesAt.ext {w w' : World} {v : Value} {bs : List Int} (h : BytesAt w v bs) (k : Ext w w') : BytesAt w' v bs := by
  obtain ⟨a, cap, hv, hl, hb, h⟩ := h
  exact ⟨a, cap, hv, hl, hb, h.ext k⟩
/-- how an argument reads -/
def IsRow (k : IntKind) (w : World) (a : Option Addr) (len cap : Nat) (zs : List Int) : Prop :=
  (a = none ∧ len = 0 ∧ cap = 0 ∧ zs = []) ∨
  ∃ x, a = some x ∧ len ≤ cap ∧ cap ≤ maxLen ∧ zs.length = cap ∧ (∀ i, i < zs.length → w.cell? (x.add i) = some (.int k (zs.getD i 0))) ∧ ∀ n ∈ zs, (Lit.int k n).wf = true

theorem lt_of_cell {w : World} {b o : Nat} {v : Value} (h : w.cell? ⟨b, o, none⟩ = some v) : b < w.heap.size := by
  rcases Nat.lt_or_ge b w.heap.size with h' | h'
  · exact h'
  · simp [World.cell?, Array.getElem?_eq_none h'] at h

/-- the bytes as a text -/
def strOf (bs : List Int) : ByteArray := ⟨(bs.map fun n => UInt8.ofNat n.toNat).toArray⟩
theorem strOf_inj {xs ys : List Int} (hx : AreBytes xs) (hy : AreBytes ys) (h : strOf xs = strOf ys) : xs = ys := by
  have h' : xs.map (fun n => UInt8.ofNat n.toNat) = ys.map fun n => UInt8.ofNat n.toNat := by
    unfold strOf at h
    have := congrArg (fun b : ByteArray => b.data.toList) h
    simpa using this
  clear h
  induction xs generalizing ys with
  | nil => cases ys with | nil => rfl | cons y ys => simp at h'
  | cons x xs ih =>
    cases ys with
    | nil => simp at h'
    | cons y ys =>
      simp only [List.map_cons, List.cons.injEq] at h'
      have h1 := hx x List.mem_cons_self
      have h2 := hy y List.mem_cons_self
      have e : x.toNat = y.toNat := by
        have := congrArg UInt8.toNat h'.1
        simp only [UInt8.toNat_ofNat'] at this
        omega
      rw [ih (fun z hz => hx z (List.mem_cons_of_mem _ hz)) (fun z hz => hy z (List.mem_cons_of_mem _ hz)) h'.2]
      congr 1
      omega
theorem strOf_beq {xs ys : List Int} (hx : AreBytes xs) (hy : AreBytes ys) : ((strOf xs).toList == (strOf ys).toList) = decide (xs = ys) := by
  rw [Bool.eq_iff_iff, beq_iff_eq, decide_eq_true_eq, Lib.toList_data, Lib.toList_data]
  constructor
  · intro h
    exact strOf_inj hx hy (congrArg (fun l : List UInt8 => (⟨l.toArray⟩ : ByteArray)) h)
  · intro h; rw [h]

/-- bytes turned into a text, at types 'src' (a slice of 'e') and 'dst' (a string) -/
theorem conv_bytes {P : Program} {src e dst : TypeId} (hs : P.underlying src = some (.slice e)) (he : P.underlying e = some (.int .u8)) (hd : P.underlying dst = some .string) {x : Value} {xs : List Int} {W : World} (hx : BytesAt W x xs) :
    (convert src dst x).run P W = .ok (.string (strOf xs)) W := by
  obtain ⟨a, cap, rfl, hl, hb, h⟩ := hx
  rcases h with h | ⟨b, off, rfl, hlt, hc⟩
  · have : xs = [] := List.eq_nil_of_length_eq_zero h
    subst this
    cases a with
    | none => exact run_convert_bytes_nil W src e hs he _ _ dst hd
    | some a =>
      rw [run_convert_bytes_string W src dst e _ _ _ hs he hd]
      simp [Conv.bytesToString, strOf]
      rfl
  · have := run_convert_bytes_arg W src e hs he b off xs.length cap xs rfl (fun i hi => hc i hi) dst hd
    rw [this]
    rfl

/-- the cells of an array of bytes -/
def arr8 (xs : List Int) : Array Value := (xs.map (Value.int .u8)).toArray
/-- an array of bytes that came in by value -/
theorem open_arr {H : Type} {enc : TypeId × Value → H} {P : Program} {W w : World} {r : Reach} {base b0 n : Nat} {sp : Nat → Bool} {held : Bool} {t e : TypeId} {v : Value} {d : DataW H} {ps : List MemPlace} (ht : P.underlying t = some (.array n e)) (he : P.underlying e = some (.int .u8)) (hce : P.cellsOf e = 1) (hct : P.cellsOf t = n)
    (hv : Value.okWide P W r base t v) (h : DataW.Trod enc P w b0 sp held t v d ps) : ∃ xs : List Int, v = .agg (arr8 xs) ∧ xs.length = n ∧ AreBytes xs := by
  unfold Value.okWide at hv
  rw [ht] at hv
  obtain ⟨cs, rfl, hsz, -⟩ := hv
  obtain ⟨fuel, hf⟩ := h
  obtain ⟨xs, m, -, -, hl, hn, hx⟩ := DataW.trod_array ht hf
  have hcs : cs.toList.length = n := by simpa [Value.cells, hct] using hl
  have each : ∀ i, i < n → ∃ z : Int, cs.toList[i]? = some (.int .u8 z) ∧ (0 ≤ z ∧ z ≤ 255) := by
    intro i hi
    have h1 := hx i hi
    rw [hce, Nat.mul_one] at h1
    have hlt : i < cs.toList.length := by omega
    have h2 : cs.toList.drop i = cs.toList[i] :: cs.toList.drop (i + 1) := List.drop_eq_getElem_cons hlt
    have h1 : DataW.trod enc P w b0 sp held m e ((cs.toList.drop i).take 1) = xs[i]? := h1
    rw [h2] at h1
    simp only [List.take_succ_cons, List.take_zero] at h1
    obtain ⟨y, hy⟩ : ∃ y, xs[i]? = some y := ⟨xs[i], by simp [hn, hi]⟩
    rw [hy] at h1
    obtain ⟨z, hc, -, hw⟩ := DataW.trod_int he h1
    refine ⟨z, ?_, ?_⟩
    · rw [List.getElem?_eq_getElem hlt]
      simp only [List.cons.injEq] at hc
      rw [hc.1]
    · simpa [Lit.wf, IntKind.min, IntKind.max, IntKind.signed, IntKind.bits] using hw
  have all : ∀ (l : List Value), (∀ i, i < l.length → ∃ z : Int, l[i]? = some (.int .u8 z) ∧ (0 ≤ z ∧ z ≤ 255)) → ∃ zs : List Int, l = zs.map (Value.int .u8) ∧ AreBytes zs := by
    intro l
    induction l with
    | nil => exact fun _ => ⟨[], rfl, fun x hx => by simp at hx⟩
    | cons a l ih =>
      intro h
      obtain ⟨zs, h1, h2⟩ := ih fun i hi => by simpa using h (i + 1) (by simp; omega)
      obtain ⟨z, h3, h4⟩ := h 0 (by simp)
      simp only [List.getElem?_cons_zero, Option.some.injEq] at h3
      refine ⟨z :: zs, by rw [h3, h1]; rfl, fun x hx => ?_⟩
      rcases List.mem_cons.1 hx with rfl | hx
      · exact h4
      · exact h2 x hx
  obtain ⟨zs, h1, h2⟩ := all cs.toList fun i hi => each i (by omega)
  refine ⟨zs, ?_, by rw [← hcs, h1]; simp, h2⟩
  unfold arr8
  rw [← h1]
end Go.Proofs.Ytfelfmchachljaa.Rely
end

/-! Arrays of integers as values: equality, and blocks that hold one. -/
section
namespace Go.Proofs.Ytfelfmchachljaa.Rely
open Go Go.RowKit

/-- the cells of an array of integers -/
def ints (k : IntKind) (xs : List Int) : Array Value := (xs.map (Value.int k)).toArray
theorem ints_get (k : IntKind) (xs : List Int) (i : Nat) (h : i < xs.length) : (ints k xs)[i]? = some (.int k (nth xs i)) := by
  simp [ints, nth, h]
theorem ints_size (k : IntKind) (xs : List Int) : (ints k xs).size = xs.length := by simp [ints]
theorem ints_set (k : IntKind) (xs : List Int) (i : Nat) (v : Int) : (ints k xs).setIfInBounds i (.int k v) = ints k (xs.set i v) := by
  unfold ints
  simp [List.map_set]
theorem eqItems_ints {P : Program} (w : World) (d : Nat) {e : TypeId} {k : IntKind} (he : P.underlying e = some (.int k)) (hc : P.cellsOf e = 1) (xs ys : List Int) : ∀ (is : List Nat), (∀ i ∈ is, i < xs.length ∧ i < ys.length) →
    (Op.eqItems (d + 1) e (P.cellsOf e) (ints k xs) (ints k ys) is).run P w = .ok (decide (∀ i ∈ is, nth xs i = nth ys i)) w
  | [], _ => by simp [Op.eqItems]
  | i :: is, h => by
    have hp : P.plainKey e = true := by simp [Program.plainKey, he]
    obtain ⟨h1, h2⟩ := h i List.mem_cons_self
    have a1 := run_part_plain w hp (ints_get k xs i h1)
    have a2 := run_part_plain w hp (ints_get k ys i h2)
    have a3 := run_equalIn_int (P := P) w d e k k (nth xs i) (nth ys i) he
    have ih := eqItems_ints w d he hc xs ys is fun j hj => h j (List.mem_cons_of_mem _ hj)
    simp only [Op.eqItems, hc, Nat.mul_one, Sem.run_bind, a1, a2, a3, Result.andThen_ok]
    rw [hc] at ih
    by_cases hq : nth xs i = nth ys i
    · have : (nth xs i == nth ys i) = true := beq_iff_eq.2 hq
      rw [this]
      simp only [Bool.not_true, Bool.false_eq_true, if_false, ih, List.mem_cons, forall_eq_or_imp, hq, true_and]
    · have : (nth xs i == nth ys i) = false := beq_eq_false_iff_ne.2 hq
      rw [this]
      simp [hq]

theorem list_ext_nth {xs ys : List Int} (hl : xs.length = ys.length) (h : ∀ i, i < xs.length → nth xs i = nth ys i) : xs = ys := by
  refine List.ext_getElem hl fun i h1 h2 => ?_
  have := h i h1
  simpa [nth, h1, h2] using this

/-- two arrays of integers are compared -/
theorem equalIn_ints {P : Program} (w : World) (d : Nat) {t e : TypeId} {n : Nat} {k : IntKind} (ht : P.underlying t = some (.array n e)) (he : P.underlying e = some (.int k)) (hc : P.cellsOf e = 1) (xs ys : List Int) (hx : xs.length = n) (hy : ys.length = n) :
    (Op.equalIn (d + 2) t (.agg (ints k xs)) (.agg (ints k ys))).run P w = .ok (decide (xs = ys)) w := by
  obtain ⟨i, hi⟩ := info_of_underlying he
  rw [run_equalIn_array w (d + 1) _ _ ht hi, eqItems_ints w d he hc xs ys (List.range n) fun j hj => by have := List.mem_range.1 hj; omega]
  congr 1
  refine decide_eq_decide.2 ⟨fun h => list_ext_nth (by omega) fun j hj => h j (List.mem_range.2 (by omega)), fun h => by rw [h]; exact fun _ _ => rfl⟩
theorem eql_ints {P : Program} (w : World) {t e : TypeId} {n : Nat} {k : IntKind} (ht : P.underlying t = some (.array n e)) (he : P.underlying e = some (.int k)) (hc : P.cellsOf e = 1) (xs ys : List Int) (hx : xs.length = n) (hy : ys.length = n) :
    (binOp .eql t (.agg (ints k xs)) (.agg (ints k ys))).run P w = .ok (.bool (decide (xs = ys))) w := by
  rw [run_eql_struct, equalIn_ints w 9998 ht he hc xs ys hx hy]
  rfl
theorem neq_ints {P : Program} (w : World) {t e : TypeId} {n : Nat} {k : IntKind} (ht : P.underlying t = some (.array n e)) (he : P.underlying e = some (.int k)) (hc : P.cellsOf e = 1) (xs ys : List Int) (hx : xs.length = n) (hy : ys.length = n) :
    (binOp .neq t (.agg (ints k xs)) (.agg (ints k ys))).run P w = .ok (.bool (!decide (xs = ys))) w := by
  rw [run_neq_struct, equalIn_ints w 9998 ht he hc xs ys hx hy]
  rfl

end Go.Proofs.Ytfelfmchachljaa.Rely
end

/-! Blocks that hold a row: reading, storing, what stays. -/
section
namespace Go.Proofs.Ytfelfmchachljaa.Rely
open Go Go.RowKit
set_option linter.unusedVariables false

theorem row_lt {W : World} {g : Nat} {o : Obj} (h : W.heap[g]? = some o) : g < W.heap.size := (Array.getElem?_eq_some_iff.1 h).1
theorem row_ext {W W' : World} {g : Nat} {o : Obj} (h : W.heap[g]? = some o) (e : Ext W W') : W'.heap[g]? = some o := (e.block _ (row_lt h)).trans h
theorem row_cell {W : World} {g : Nat} {cs : Array Value} {t : TypeId} (h : W.heap[g]? = some (.cells cs t)) {k : Nat} {v : Value} (hk : cs[k]? = some v) : W.cell? ⟨g, k, none⟩ = some v :=
  (cell_of_row W g k cs t _ h).trans hk
theorem row_frozen {W : World} {g : Nat} {cs : Array Value} {t : TypeId} (h : W.heap[g]? = some (.cells cs t)) (k : Nat) : W.frozen? ⟨g, k, none⟩ = false := frozen_of_row W g k cs t h
end Go.Proofs.Ytfelfmchachljaa.Rely
end

/-! Loads and stores of whole rows inside a fence. -/
section
namespace Go.Proofs.Ytfelfmchachljaa.Rely
open Go Go.RowKit
set_option linter.unusedVariables false

/-- a row abides what the loop's own book-keeping turns -/
theorem row_kept {W W' : World} {row : Option Nat} {g : Nat} {cs : Array Value} {t : TypeId} (h : W.heap[g]? = some (.cells cs t)) (hg : W.grownBy W' row) (hr : ∀ r, row = some r → ∃ o : Obj, W.heap[r]? = some o ∧ o.isCells = false) : W'.heap[g]? = some (.cells cs t) :=
  (hg.block g (row_lt h) fun e => by
    obtain ⟨o, ho, hc⟩ := hr g e.symm
    rw [h] at ho
    cases ho
    cases hc).trans h
theorem keeps_ext {W W' : World} (h : Ext W W') : KeepsOthers W W' := ⟨h.size, fun k o hk _ => row_ext hk h⟩
end Go.Proofs.Ytfelfmchachljaa.Rely
end

/-! Parts of a row: a struct inside a struct or an array, read as a whole. -/
section
namespace Go.Proofs.Ytfelfmchachljaa.Rely
open Go Go.RowKit
set_option linter.unusedVariables false

theorem run_loadVar_part {P : Program} (w : World) (g off : Nat) (t ty : TypeId) (cs ps : Array Value) (fr : Nat × Nat) (d : TypeDesc) (hg : w.heap[g]? = some (.cells cs t fr)) (hp : ∀ j v, ps[j]? = some v → cs[off + j]? = some v)
    (hu : P.underlying ty = some d) (hd : (match d with | .struct _ | .array _ _ => true | _ => false) = true) (hi : (P.info? ty).map (·.size) = some ps.size) :
    (loadVar ty ⟨g, off, none⟩).run P w = .ok (.agg ps) w := by
  have hl : (loadCells ⟨g, off, none⟩ ps.toList.length).run P w = .ok ps.toList.toArray w :=
    run_loadCells_list (P := P) w ⟨g, off, none⟩ ps.toList (fun j v hv => by
      have hadd : (⟨g, off, none⟩ : Addr).add j = ⟨g, off + j, none⟩ := by unfold Addr.add; split <;> simp_all
      rw [hadd, cell_of_row w g (off + j) cs t fr hg]
      exact hp j v (by simpa using hv))
  cases hq : P.info? ty with
  | none => simp [hq] at hi
  | some i =>
    have hs : i.size = ps.size := by simpa [hq] using hi
    have hagg : (isAgg ty).run P w = .ok true w := by
      unfold isAgg
      rw [Sem.run_bind, run_underlying hu w]
      cases d <;> simp_all
    simp only [Array.length_toList, Array.toArray_toList] at hl
    simp [loadVar, Sem.run_bind, hagg, sizeOf, typeInfo, hq, hs, hl]
/-- cells written over a row, from place k on -/
def splice (cur : Array Value) (k : Nat) : List Value → Array Value
  | [] => cur
  | v :: r => splice (cur.setIfInBounds k v) (k + 1) r
theorem setRow_same (w : World) (g : Nat) (cur : Array Value) (t : TypeId) (hg : w.heap[g]? = some (.cells cur t)) : w.setRow g cur = w := by
  have hv : w.heap[g]? = some (.cells cur t (0, 0)) := hg
  unfold World.setRow
  cases w with
  | mk heap tape drawn os output =>
    congr 1
    apply Array.ext
    · simp
    · intro k h1 h2
      simp only [Array.getElem_modify]
      split
      · rename_i hk
        subst hk
        have := (Array.getElem?_eq_some_iff.1 hv).2
        simp [this]
      · rfl
theorem run_storeCells_part {P : Program} (g off : Nat) (t : TypeId) : ∀ (vs : List Value) (i : Nat) (cur : Array Value) (w : World), w.heap[g]? = some (.cells cur t) → off + i + vs.length ≤ cur.size → (∀ v ∈ vs, v.oneCell' = true) →
    (storeCells ⟨g, off, none⟩ vs i).run P w = .ok () (w.setRow g (splice cur (off + i) vs))
  | [], i, cur, w, hg, hl, _ => by
    simp only [storeCells, splice]
    rw [setRow_same w g cur t hg]
    rfl
  | v :: rest, i, cur, w, hg, hl, h1 => by
    have hi : off + i < cur.size := by simp at hl; omega
    have hadd : (⟨g, off, none⟩ : Addr).add i = ⟨g, off + i, none⟩ := by unfold Addr.add; split <;> simp_all
    have hcell : w.cell? ⟨g, off + i, none⟩ = some cur[off + i] := by simp [World.cell?, hg, hi]
    have hfro : w.frozen? ⟨g, off + i, none⟩ = false := by simp [World.frozen?, hg]
    have hst : (store ((⟨g, off, none⟩ : Addr).add i) v).run P w = .ok () (w.setRow g (cur.setIfInBounds (off + i) v)) := by
      rw [hadd, run_store P w _ v _ (h1 v (by simp)), hcell]
      simp [hfro, setCell_eq_setRow w g (off + i) cur t (0, 0) v hg]
    have ih := run_storeCells_part (P := P) g off t rest (i + 1) (cur.setIfInBounds (off + i) v) (w.setRow g (cur.setIfInBounds (off + i) v)) (setRow_heap w g cur _ t _ hg) (by simp at hl ⊢; omega) (fun x hx => h1 x (by simp [hx]))
    simp only [storeCells, Sem.run_bind, hst, Result.andThen_ok, ih, setRow_setRow, splice]
    rfl
theorem run_storeVar_part {P : Program} (w : World) (g off : Nat) (t ty : TypeId) (old cells : Array Value) (hg : w.heap[g]? = some (.cells old t)) (hi : (P.info? ty).map (·.size) = some cells.size)
    (ho : off + cells.size ≤ old.size) (h1 : cells.all (·.oneCell') = true) :
    (storeVar ty ⟨g, off, none⟩ (.agg cells)).run P w = .ok () (w.setRow g (splice old off cells.toList)) := by
  have := run_storeCells_part (P := P) g off t cells.toList 0 old w hg (by simp; omega) (fun v hv => (Array.all_eq_true_iff_forall_mem.1 h1) v (by simpa using hv))
  cases hq : P.info? ty with
  | none => simp [hq] at hi
  | some i =>
    have hs : cells.size = i.size := by simp [hq] at hi; omega
    simp [storeVar, sizeOf, typeInfo, hq, Value.cells, hs, this]
end Go.Proofs.Ytfelfmchachljaa.Rely
end

/-! Parts of rows: stores, and loads and stores inside a fence. -/
section
namespace Go.Proofs.Ytfelfmchachljaa.Rely
open Go Go.RowKit
set_option linter.unusedVariables false

theorem splice_get (vs : List Value) : ∀ (cur : Array Value) (k : Nat), k + vs.length ≤ cur.size → ∀ j, (splice cur k vs)[j]? = if k ≤ j ∧ j < k + vs.length then vs[j - k]? else cur[j]? := by
  induction vs with
  | nil =>
    intro cur k _ j
    rw [splice, if_neg (by simp only [List.length_nil]; omega)]
  | cons v r ih =>
    intro cur k hk j
    simp only [List.length_cons] at hk ⊢
    rw [splice, ih _ _ (by simp; omega)]
    by_cases h1 : k + 1 ≤ j ∧ j < k + 1 + r.length
    · rw [if_pos h1, if_pos (by omega), show j - k = (j - (k + 1)) + 1 by omega, List.getElem?_cons_succ]
    · rw [if_neg h1]
      by_cases h2 : j = k
      · subst h2
        rw [if_pos (by omega), Array.getElem?_setIfInBounds_self_of_lt (by omega), Nat.sub_self, List.getElem?_cons_zero]
      · rw [Array.getElem?_setIfInBounds_ne (Ne.symm h2), if_neg (by omega)]
end Go.Proofs.Ytfelfmchachljaa.Rely
end

/-! The law for a region that draws its order, where it makes variables: the blocks that it makes are apart, whatever the order. -/
section
namespace Go.Proofs.Ytfelfmchachljaa.Rely
set_option linter.unusedVariables false
open Go

def allocsOk (l : List Oper) (D : List Nat) : Bool := D.all fun j => match l[j]? with | some o => (match o.op with | .alloc _ => true | _ => false) && o.guard.isNone | none => false
def Pairs (D : List Nat) (n : Nat) (listed : Array Bool) (vs : Nat → Value) : Prop :=
  ∀ i k, i ∈ D → k ∈ D → listed.getD i false = true → listed.getD k false = true → i < n → k < n → i ≠ k → vs i ≠ vs k
def finP (Q : Act → World → Prop) (D : List Nat) : List Oper → List Fact → Nat → List Value → Act → World → Prop
  | o :: l, φ :: E, k, acc, a, W => ∀ v, φ v W → (D.contains k = true → ∀ u ∈ acc, u ≠ v) → finP Q D l E (k + 1) (if D.contains k = true then acc ++ [v] else acc) (a.put o.dst v) W
  | _, _, _, _, a, W => Q a W

theorem fin_runP {Q : Act → World → Prop} {W : World} {D : List Nat} : ∀ (os : List Oper) (E : List Fact) (a : Act) (vs : Nat → Value) (k : Nat) (acc : List Value), finP Q D os E k acc a W → E.length = os.length →
    (∀ i, i < os.length → (E.getD i fun _ _ => True) (vs (k + i)) W) → (∀ u ∈ acc, ∃ i, i ∈ D ∧ i < k ∧ u = vs i) → (∀ i j, i ∈ D → j ∈ D → i < k + os.length → j < k + os.length → i ≠ j → vs i ≠ vs j) → Q (putsFrom os vs k a) W
  | [], [], a, vs, k, acc, h, _, _, _, _ => h
  | [], _ :: _, _, _, _, _, _, hl, _, _, _ => by simp at hl
  | _ :: _, [], _, _, _, _, _, hl, _, _, _ => by simp at hl
  | o :: os, φ :: E, a, vs, k, acc, h, hl, hf, ha, hp => by
    have h0 := hf 0 (by simp)
    have hlen : (o :: os).length = os.length + 1 := rfl
    refine fin_runP os E (a.put o.dst (vs k)) vs (k + 1) _ (h (vs k) (by simpa using h0) (fun hk u hu => ?_)) (by simpa using hl) (fun i hi => ?_) (fun u hu => ?_) (fun i j hi hj hin hjn hne => hp i j hi hj (by omega) (by omega) hne)
    · obtain ⟨i, hiD, hik, rfl⟩ := ha u hu
      exact hp i k hiD (by simpa using hk) (by omega) (by omega) (by omega)
    · have := hf (i + 1) (by simpa using hi)
      rw [show k + (i + 1) = k + 1 + i by omega] at this
      simpa using this
    · by_cases hk : D.contains k = true
      · rw [if_pos hk] at hu
        rcases List.mem_append.1 hu with hu | hu
        · obtain ⟨i, h1, h2, h3⟩ := ha u hu
          exact ⟨i, h1, by omega, h3⟩
        · exact ⟨k, by simpa using hk, by omega, List.mem_singleton.1 hu⟩
      · rw [if_neg hk] at hu
        obtain ⟨i, h1, h2, h3⟩ := ha u hu
        exact ⟨i, h1, by omega, h3⟩

section
variable {P : Program} {R : World → World → Prop} {w0 : World} {a0 : Act}
theorem allocs_get {l : List Oper} {D : List Nat} {j : Nat} {o : Oper} (hD : allocsOk l D = true) (hj : j ∈ D) (ho : l[j]? = some o) : (∃ ty, o.op = .alloc ty) ∧ o.guard = none := by
  have h := List.all_eq_true.1 hD j hj
  rw [ho] at h
  simp only [Bool.and_eq_true] at h
  refine ⟨?_, by simpa using h.2⟩
  have h1 := h.1
  cases hop : o.op <;> rw [hop] at h1 <;> first | exact ⟨_, rfl⟩ | cases h1
theorem noguard {l : List Oper} {D : List Nat} {j : Nat} {o : Oper} {g : Option (Tmp × Bool)} (hD : allocsOk l D = true) (hj : j ∈ D) (ho : l[j]? = some o) (hg : guardOf l.toArray o = some g) : g = none := by
  have h := (allocs_get hD hj ho).2
  unfold guardOf at hg
  rw [h] at hg
  simpa using hg.symm
theorem relyAt_fresh {l : List Oper} {D : List Nat} {j : Nat} {o : Oper} {ρ : Tmp → Value} {W : World} {φ : Fact} (hD : allocsOk l D = true) (ho : l[j]? = some o) (h : relyAt P R o ρ W φ) :
    relyAt P R o ρ W (fun v W' => φ v W' ∧ (j ∈ D → v = .pointer (some ⟨W.heap.size, 0, none⟩))) := by
  by_cases hj : j ∈ D
  · obtain ⟨⟨ty, hop⟩, _⟩ := allocs_get hD hj ho
    unfold relyAt execOp at h ⊢
    simp only [hop, Instr.alloc, Sem.run_bind] at h ⊢
    cases hz : (zeroValue ty).run P W with
    | halt x w1 => rw [hz] at h; exact h.elim
    | ok z w1 =>
      obtain rfl := Go.MapKept.run_zeroValue_world hz
      rw [hz] at h
      exact ⟨h.1, h.2, fun _ => rfl⟩
  · unfold relyAt at h ⊢
    generalize (execOp (look ρ) o).run P W = r at *
    cases r with
    | halt x w1 => exact h
    | ok x w1 =>
      cases x <;> try exact h
      case value v => exact ⟨h.1, h.2, fun hc => absurd hc hj⟩
      case skip => exact ⟨h.1, h.2, fun hc => absurd hc hj⟩
      case enter f args => exact ⟨h.1, Calls.mono h.2 fun e W2 ⟨v, he, hr, hp⟩ => ⟨v, he, hr, hp, fun hc => absurd hc hj⟩⟩

end
end Go.Proofs.Ytfelfmchachljaa.Rely
end

/-! XRely's law inside a fence: a region that draws its order, where the walk is a fenced one (ranges over functions). -/
section
namespace Go.Proofs.Ytfelfmchachljaa.Rely
set_option linter.unusedVariables false
open Go
section
variable {P : Program} {R : World → World → Prop} {w0 : World} {a0 : Act} {Fe : Fence} {nf : Nat}

theorem wpOpIn_of_wanted {ops : Array Oper} {Q : Exit → Act → World → Prop} {i : Nat} {o : Oper} {K : Act → World → Prop} {a : Act} {w : World} (ho : ops[i]? = some o) (hfn : ∀ f, Fe.fn f)
    (h : if Region.wanted o (yielded ops a.tmps) then o.wpIn Fe nf P a w K Q else K (a.put o.dst undef) w) : wpOpIn Fe nf P ops Q i K a w := by
  unfold wpOpIn
  rw [ho]
  simp only
  split at h
  · rename_i hw; rw [if_pos hw]; exact h
  · rename_i hw; rw [if_neg hw]; exact ⟨fun f _ => hfn f, h⟩
theorem relyAt_wpIn {o : Oper} {a : Act} {W : World} {φ : Fact} {K : Act → World → Prop} {Q : Exit → Act → World → Prop} (hnd : ∀ c, o.op ≠ .defer c) (hfn : ∀ f, Fe.fn f) (hdp : Fe.depth.isSome = true → 1 ≤ nf)
    (hC : ∀ {f : FuncId} {args : Array Value} {w : World} {T : Ending → World → Prop}, Calls P f args w T → CallsIn Fe (nf - 1) P f args w T)
    (htr : ∀ {a b c : World}, R a b → R b c → R a c) (h : relyAt P R o (slots a) W φ)
    (hk : ∀ v W', R W W' → φ v W' → K (a.put o.dst v) W') : o.wpIn Fe nf P a W K Q := by
  unfold relyAt at h
  rw [← eval_look] at h
  unfold Oper.wpIn
  rw [Oper.semAt_plain Fe _ _ hnd]
  refine ⟨fun f _ => hfn f, ?_⟩
  generalize (execOp a.eval o).run P W = r at *
  cases r with
  | halt x w => exact h.elim
  | ok n W1 =>
    cases n <;> simp only [relyUpon] at h <;> try exact h.elim
    case value v => exact hk v W1 h.1 h.2
    case skip => exact hk undef W1 h.1 h.2
    case enter f args =>
      obtain ⟨h1, h2⟩ := h
      refine ⟨hdp, CallsIn.mono (hC h2) fun e W2 ⟨v, he, hr, hp⟩ => ?_⟩
      subst he
      exact hk v W2 (htr h1 hr) hp

theorem tail_soundIn {l : List Oper} {n : Nat} {Q : Exit → Act → World → Prop} (hM : tailOk (masks l #[]) n l.length = true) (he : edgesOk 0 l = true) :
    ∀ (fuel m : Nat) (listed : Array Bool) (a : Act) (W : World), n ≤ m → m ≤ l.length → listed.size = l.length → Closed l.toArray listed → (∀ i, i < m → listed.getD i false = true) → (∀ i, m ≤ i → listed.getD i false = false) →
      fuel = l.length - m → wpListIn Fe nf P l.toArray Q (l.drop m) a W → wpAnyIn Fe nf P .any l.toArray Q fuel listed a W := by
  have only : ∀ (m : Nat) (listed : Array Bool), n ≤ m → Closed l.toArray listed → (∀ i, i < m → listed.getD i false = true) → (∀ i, m ≤ i → listed.getD i false = false) → ∀ j ∈ Region.ready .any l.toArray listed, j = m ∧ m < l.length := by
    intro m listed hm hc h1 h2 j hj
    obtain ⟨hu, o, ho, _⟩ := mem_ready.1 hj
    have hjl : j < l.length := by have := (Array.getElem?_eq_some_iff.1 ho).1; simpa using this
    have hjm : m ≤ j := by
      rcases Nat.lt_or_ge j m with h | h
      · have := getD_false_of_true (h1 j h); rw [this] at hu; cases hu
      · exact h
    rcases Nat.eq_or_lt_of_le hjm with h | h
    · exact ⟨h.symm, by omega⟩
    · exfalso
      have h3 := List.all_eq_true.1 hM j (List.mem_range.2 hjl)
      simp only [Bool.or_eq_true, decide_eq_true_eq] at h3
      rcases h3 with h3 | h3
      · omega
      · have h4 := List.all_eq_true.1 h3 m (List.mem_range.2 h)
        have ha := masks_anc l.toArray l #[] (fun j => by simp) (fun j i h => by simp at h) j m h4
        have := anc_of_ready hc hj ha
        rw [h2 m (Nat.le_refl _)] at this
        cases this
  intro fuel
  induction fuel with
  | zero =>
    intro m listed a W hn hm hs hc h1 h2 hf h
    have hml : m = l.length := by omega
    subst hml
    refine ⟨?_, by simpa [wpListIn] using h⟩
    cases hr : Region.ready .any l.toArray listed with
    | nil => rfl
    | cons x xs => have := only _ listed hn hc h1 h2 x (by rw [hr]; exact List.mem_cons_self); omega
  | succ fuel ih =>
    intro m listed a W hn hm hs hc h1 h2 hf h
    have hml : m < l.length := by omega
    obtain ⟨o, ho⟩ : ∃ o, l[m]? = some o := ⟨l[m], by simp [hml]⟩
    have hd : l.drop m = o :: l.drop (m + 1) := by
      rw [List.drop_eq_getElem_cons hml]
      congr 1
      exact Option.some.inj (by rw [← ho]; simp [hml])
    refine ⟨fun hr => ?_, fun j hj => ?_⟩
    · obtain ⟨j, hj⟩ := ready_of_left he (listed := listed) m hml (getD_in (by omega) (h2 m (Nat.le_refl _)))
      rw [hr] at hj; cases hj
    · obtain ⟨rfl, _⟩ := only m listed hn hc h1 h2 j hj
      rw [hd] at h
      have h' : wpOpIn Fe nf P l.toArray Q j (wpListIn Fe nf P l.toArray Q (l.drop (j + 1))) a W := by
        unfold wpOpIn
        have : (l.toArray)[j]? = some o := by simpa using ho
        rw [this]
        exact h
      refine wpOpIn_mono (fun a' W' h2' => ih (j + 1) _ a' W' (by omega) hml (by simp [hs]) (hc.set hj) (fun i hi => ?_) (fun i hi => ?_) (by omega) h2') h'
      · by_cases hij : j = i
        · subst hij; simp [Array.getElem?_setIfInBounds_self_of_lt (show j < listed.size by omega)]
        · rw [getD_set_ne false hij]; exact h1 i (by omega)
      · rw [getD_set_ne false (by omega)]; exact h2 i (by omega)

theorem wpAnyIn_of_rely {l : List Oper} {n N : Nat} {S : List Src} {E : List Fact} {Q : Exit → Act → World → Prop} (hfn : ∀ f, Fe.fn f) (hdp : Fe.depth.isSome = true → 1 ≤ nf) (hC : ∀ {f : FuncId} {args : Array Value} {w : World} {T : Ending → World → Prop}, Calls P f args w T → CallsIn Fe (nf - 1) P f args w T) (hnd : ∀ o ∈ l, ∀ c, o.op ≠ .defer c) (hok : ok l n N S = true) (hN : a0.tmps.size = N) (hrf : ∀ a, R a a) (htr : ∀ {a b c : World}, R a b → R b c → R a c)
    (hE : E.length = (l.take n).length) (hst : ∀ φ ∈ E, Stable R φ)
    (hop : ∀ j o s, (l.take n)[j]? = some o → S[j]? = some s → opOk P R w0 (slots a0) E o s (E.getD j fun _ _ => True))
    (hfin : ∀ W, R w0 W → fin (fun a W => wpListIn Fe nf P l.toArray Q (l.drop n) a W) (l.take n) E a0 W) :
    ∀ (fuel : Nat) (listed : Array Bool) (a : Act) (W : World) (vs : Nat → Value), Inv R w0 a0 l.toArray E n listed a W vs → fuel = left l.toArray listed → wpAnyIn Fe nf P .any l.toArray Q fuel listed a W := by
  simp only [ok, Bool.and_eq_true, decide_eq_true_eq] at hok
  obtain ⟨⟨⟨⟨⟨hn, hsrc⟩, hdst⟩, hedge⟩, htail⟩, hdt⟩ := hok
  have hlen : (l.take n).length = n := by simp [hn]
  have hget : ∀ i, i < n → (l.take n)[i]? = l[i]? := fun i hi => by simp [hi]
  have hgd : ∀ i, (E.getD i fun _ _ => True) = (fun _ _ => True) ∨ (E.getD i fun _ _ => True) ∈ E := fun i => by
    rcases Nat.lt_or_ge i E.length with h | h
    · right; simp [h]
    · left; simp [List.getElem?_eq_none h]
  have hstg : ∀ i, Stable R (E.getD i fun _ _ => True) := fun i => by
    rcases hgd i with h | h
    · rw [h]; exact fun _ _ _ _ _ => trivial
    · exact hst _ h
  have hanc : ∀ j i, ((masks l #[]).getD j 0).testBit i = true → Anc l.toArray i j := masks_anc l.toArray l #[] (fun j => by simp) (fun j i h => by simp at h)
  have count : ∀ (listed : Array Bool), (∀ i, i < n → listed.getD i true = true) → (∀ i, n ≤ i → i < l.length → listed.getD i true = false) → left l.toArray listed = l.length - n := by
    intro listed h1 h2
    unfold left
    simp only [List.size_toArray]
    have : ∀ m, m ≤ l.length → (List.range m).countP (fun i => !listed.getD i true) = m - n := by
      intro m
      induction m with
      | zero => intro _; simp
      | succ m ih =>
        intro hm
        rw [List.range_succ, List.countP_append, ih (by omega), List.countP_singleton]
        by_cases hmn : m < n
        · simp only [h1 m hmn, Bool.not_true, Bool.false_eq_true, if_false]; omega
        · simp only [h2 m (by omega) (by omega), Bool.not_false, if_true]; omega
    exact this l.length (Nat.le_refl _)
  have done : ∀ (fuel : Nat) (listed : Array Bool) (a : Act) (W : World) (vs : Nat → Value), Inv R w0 a0 l.toArray E n listed a W vs → fuel = left l.toArray listed → (∀ i, i < n → listed.getD i true = true) → wpAnyIn Fe nf P .any l.toArray Q fuel listed a W := by
    intro fuel listed a W vs inv hf hall
    have hs : listed.size = l.length := by simpa using inv.size
    have hall' : ∀ i, i < n → listed.getD i false = true := fun i hi => by
      cases hx : listed.getD i false with
      | true => rfl
      | false => have := getD_in (by omega) hx; rw [hall i hi] at this; cases this
    refine tail_soundIn htail hedge fuel n listed a W (Nat.le_refl _) hn hs inv.closed hall' inv.tail (by rw [hf]; exact count listed hall (fun i h1 h2 => getD_in (by omega) (inv.tail i h1))) ?_
    have hq := fin_run (l.take n) E a0 vs 0 (hfin W inv.rel) hE (fun i hi => by
      rw [Nat.zero_add]
      exact inv.facts i (hall' i (by omega)) (by omega))
    have heq : putsFrom (l.take n) vs 0 a0 = a := by
      have hsz := putsFrom_size (l.take n) vs 0 a0
      have ht : (putsFrom (l.take n) vs 0 a0).tmps = a.tmps := by
        refine Array.ext_getElem? fun t => ?_
        by_cases hw : ∃ (i : Nat) (o : Oper), (l.take n)[i]? = some o ∧ o.dst = some t
        · obtain ⟨i, o, hi, ho⟩ := hw
          have hin : i < n := by have := (List.getElem?_eq_some_iff.1 hi).1; omega
          rw [putsFrom_some (l.take n) vs 0 a0 t i o hdst hN hi ho, Nat.zero_add]
          exact (inv.vals i o t (hall' i hin) hin (by rw [hget i hin] at hi; simpa using hi) ho).symm
        · rw [putsFrom_none (l.take n) vs 0 a0 t (fun o ho he => by
            obtain ⟨i, hi⟩ := List.mem_iff_getElem?.1 ho
            exact hw ⟨i, o, hi, he⟩)]
          refine (inv.rest t fun i o _ hin hi he => hw ⟨i, o, by rw [hget i hin]; simpa using hi, he⟩).symm
      have hd := hsz.2.trans inv.defers.symm
      generalize putsFrom (l.take n) vs 0 a0 = b at *
      cases a; cases b
      simp_all
    rw [heq] at hq
    exact hq
  have main : ∀ (fuel : Nat) (listed : Array Bool) (a : Act) (W : World) (vs : Nat → Value), Inv R w0 a0 l.toArray E n listed a W vs → fuel = left l.toArray listed → wpAnyIn Fe nf P .any l.toArray Q fuel listed a W := by
    intro fuel
    induction fuel with
    | zero =>
      intro listed a W vs inv hf
      refine done 0 listed a W vs inv hf fun i hi => ?_
      cases hx : listed.getD i true with
      | true => rfl
      | false =>
        have := left_pos (ops := l.toArray) (by simp; omega) hx
        omega
    | succ fuel ih =>
      intro listed a W vs inv hf
      by_cases hA : ∀ i, i < n → listed.getD i true = true
      · exact done _ listed a W vs inv hf hA
      · have hs : listed.size = l.length := by simpa using inv.size
        obtain ⟨i0, hi0, hu0⟩ : ∃ i, i < n ∧ listed.getD i true = false := by
          refine Classical.byContradiction fun hc => hA fun i hi => ?_
          cases hx : listed.getD i true with
          | true => rfl
          | false => exact absurd ⟨i, hi, hx⟩ hc
        refine ⟨fun hr => ?_, fun j hj => ?_⟩
        · obtain ⟨j, hj⟩ := ready_of_left hedge (listed := listed) i0 (by omega) hu0
          rw [hr] at hj; cases hj
        · obtain ⟨hju, oj, hoj, _⟩ := mem_ready.1 hj
          have hoj' : l[j]? = some oj := by simpa using hoj
          have hjl : j < l.length := (List.getElem?_eq_some_iff.1 hoj').1
          have hjn : j < n := by
            rcases Nat.lt_or_ge j n with h | h
            · exact h
            · exfalso
              have h3 := List.all_eq_true.1 htail j (List.mem_range.2 hjl)
              simp only [Bool.or_eq_true, decide_eq_true_eq] at h3
              rcases h3 with h3 | h3
              · omega
              · have h4 := List.all_eq_true.1 h3 i0 (List.mem_range.2 (by omega))
                have := anc_of_ready inv.closed hj (hanc j i0 h4)
                rw [getD_false_of_true this] at hu0
                cases hu0
          obtain ⟨s, hsj, hso⟩ := srcs_get (l.take n) S 0 hsrc j oj (by rw [hget j hjn]; exact hoj')
          rw [Nat.zero_add] at hso
          simp only [srcOk, Bool.and_eq_true] at hso
          obtain ⟨hg, hrd⟩ := hso
          have hg' : guardOf l.toArray oj = some s.guard := by simpa using hg
          have holds : ∀ (r : List (Tmp × Option Nat)), r.all (readOk l (masks l #[]) j) = true → Holds (slots a0) E (slots a) W r := by
            intro r
            induction r with
            | nil => intro _; trivial
            | cons x r ihr =>
              intro hr
              simp only [List.all_cons, Bool.and_eq_true] at hr
              obtain ⟨t, si⟩ := x
              cases si with
              | none =>
                refine ⟨?_, ihr hr.2⟩
                have h1 := hr.1
                simp only [readOk] at h1
                have h2 : a.tmps[t]? = a0.tmps[t]? := inv.rest t fun i o hli hin hio hd => by
                  have h3 := List.all_eq_true.1 h1 (o, i) (by
                    rw [List.mem_iff_getElem?]
                    refine ⟨i, ?_⟩
                    rw [List.getElem?_zipIdx]
                    have : l[i]? = some o := by simpa using hio
                    simp [this])
                  simp only [hd, bne_self_eq_false, Bool.false_or, Bool.or_eq_true, beq_iff_eq] at h3
                  have hlj : listed.getD j false = true := by
                    rcases h3 with h3 | h3
                    · exact inv.closed.anc (hanc i j h3) hli
                    · rw [← h3]; exact hli
                  rw [getD_false_of_true hlj] at hju
                  cases hju
                simp only [slots, Array.getD_eq_getD_getElem?, h2]
              | some i =>
                refine ⟨?_, ihr hr.2⟩
                have h1 := hr.1
                simp only [readOk, Bool.and_eq_true, decide_eq_true_eq, beq_iff_eq] at h1
                obtain ⟨⟨hij, hbit⟩, hdi⟩ := h1
                have hli := anc_of_ready inv.closed hj (hanc j i hbit)
                obtain ⟨oi, hoi, hdi'⟩ : ∃ oi, l[i]? = some oi ∧ oi.dst = some t := by
                  cases hx : l[i]? with
                  | none => rw [hx] at hdi; cases hdi
                  | some oi => rw [hx] at hdi; exact ⟨oi, rfl, hdi⟩
                have hv := inv.vals i oi t hli (by omega) (by simpa using hoi) hdi'
                have : slots a t = vs i := by simp only [slots, Array.getD_eq_getD_getElem?, hv, Option.getD_some]
                rw [this]
                exact inv.facts i hli (by omega)
          have hopj := hop j oj s (by rw [hget j hjn]; exact hoj') hsj (slots a) W inv.rel (holds s.reads hrd)
          have next : ∀ v W', R W W' → (E.getD j fun _ _ => True) v W' → wpAnyIn Fe nf P .any l.toArray Q fuel (listed.setIfInBounds j true) (a.put oj.dst v) W' := by
            intro v W' hR hφ
            have hjs : j < listed.size := by omega
            have hlist : ∀ i, (listed.setIfInBounds j true).getD i false = true → i = j ∨ listed.getD i false = true := fun i hi => by
              by_cases hij : j = i
              · exact .inl hij.symm
              · rw [getD_set_ne false hij] at hi; exact .inr hi
            refine ih _ _ W' (fun i => if i = j then v else vs i) ⟨by simp [inv.size], inv.closed.set hj, htr inv.rel hR, (put_defers _ _ _).trans inv.defers, (put_size _ _ _).trans inv.asize, ?_, ?_, ?_, ?_⟩ ?_
            · intro i hi hin
              by_cases hij : i = j
              · subst hij; simpa using hφ
              · simp only [hij, if_false]
                rcases hlist i hi with h | h
                · exact absurd h hij
                · exact hstg i _ _ _ hR (inv.facts i h hin)
            · intro i o d hi hin hio hd
              by_cases hij : i = j
              · subst hij
                obtain rfl : o = oj := Option.some.inj (hio.symm.trans hoj)
                rw [hd, put_get_eq _ _ _ (by rw [inv.asize, hN]; exact dsts_lt (l.take n) hdst i o d (by rw [hget i hin]; exact hoj') hd)]
                simp
              · simp only [hij, if_false]
                rcases hlist i hi with h | h
                · exact absurd h hij
                · rw [put_get_ne _ _ _ _ (dsts_ne (l.take n) hdst i j o oj d (by rw [hget i hin]; simpa using hio) (by rw [hget j hjn]; exact hoj') hij hd)]
                  exact inv.vals i o d h hin hio hd
            · intro t ht
              rw [put_get_ne _ _ _ _ (ht j oj (by simp [Array.getElem?_setIfInBounds_self_of_lt hjs]) hjn hoj)]
              exact inv.rest t fun i o hi hin hio => ht i o (getD_set_true hi) hin hio
            · intro i hi
              rw [getD_set_ne false (by omega)]
              exact inv.tail i hi
            · have := left_set hju inv.size
              omega
          refine wpOpIn_of_wanted hoj hfn ?_
          rw [wanted_guard hg']
          by_cases hb : gOk s.guard (slots a) = true
          · rw [if_pos hb]
            refine relyAt_wpIn (R := R) (W := W) (φ := E.getD j fun _ _ => True) (hnd oj (List.mem_of_getElem? hoj')) hfn hdp hC (fun {_ _ _} h1 h2 => htr h1 h2) ?_ next
            cases hgd' : s.guard with
            | none => rw [hgd'] at hopj; exact hopj
            | some db =>
              rw [hgd'] at hopj hb
              exact (if_pos hb).mp hopj
          · rw [if_neg hb]
            refine next undef W (hrf W) ?_
            cases hgd' : s.guard with
            | none => rw [hgd'] at hb; exact absurd rfl hb
            | some db =>
              rw [hgd'] at hopj hb
              exact (if_neg hb).mp hopj
  exact main

/-- what stands behind the region -/
def AfterIn (Fe : Fence) (nf : Nat) {P : Program} {R : World → World → Prop} {Q : Exit → Act → World → Prop} {a : Act} {w : World} {l : List Oper} {n : Nat} (F : List Fact → Prop) : Prop :=
  ∀ E, (∀ W, R w.drew W → fin (fun a W => wpListIn Fe nf P l.toArray Q (l.drop n) a W) (l.take n) E a W) → F E
theorem AfterIn.out {P : Program} {R : World → World → Prop} {Q : Exit → Act → World → Prop} {a : Act} {w : World} {l : List Oper} {n : Nat} {F : List Fact → Prop} (h : AfterIn Fe nf (P := P) (R := R) (Q := Q) (a := a) (w := w) (l := l) (n := n) F) {E : List Fact}
    (k : ∀ W, R w.drew W → fin (fun a W => wpListIn Fe nf P l.toArray Q (l.drop n) a W) (l.take n) E a W) : F E := h E k

/-- THE LAW. 'n': so many operations are taken in whatever order; those behind them wait for all ahead of them and are walked as ever. 'N': the frame's size. -/
theorem wpIn_region_rely {id : Nat} {Q : Exit → Act → World → Prop} {a : Act} {w : World} {l : List Oper} (R : World → World → Prop) (n N : Nat) (S : List Src) (hfn : ∀ f, Fe.fn f) (hdp : Fe.depth.isSome = true → 1 ≤ nf) (hC : ∀ {f : FuncId} {args : Array Value} {w : World} {T : Ending → World → Prop}, Calls P f args w T → CallsIn Fe (nf - 1) P f args w T) (hdf : (l.all fun o => match o.op with | .defer _ => false | _ => true) = true) (hm : P.follows .mixedOrders = true) (hok : ok l n N S = true) (hN : a.tmps.size = N)
    (hrf : ∀ a, R a a) (htr : ∀ {a b c : World}, R a b → R b c → R a c)
    (h : ∀ (F : List Fact → Prop) (r0 : Tmp → Value), r0 = slots a → AfterIn Fe nf (P := P) (R := R) (Q := Q) (a := a) (w := w) (l := l) (n := n) F → relies P R w.drew r0 F (l.take n) S []) : (Code.region id l.toArray true).wpIn Fe nf P Q a w := by
  have hnd : ∀ o ∈ l, ∀ c, o.op ≠ .defer c := fun o ho c hc => by
    have := List.all_eq_true.1 hdf o ho
    rw [hc] at this
    cases this
  have hok' := hok
  simp only [ok, Bool.and_eq_true, decide_eq_true_eq] at hok'
  obtain ⟨⟨⟨⟨⟨hn, hsrc⟩, hdst⟩, hedge⟩, htail⟩, hdt⟩ := hok'
  obtain ⟨E, hl, _, hst, hop, hfin⟩ := relies_found (M := masks l #[]) (l.take n) S [] (h (fun E => ∀ W, R w.drew W → fin (fun a W => wpListIn Fe nf P l.toArray Q (l.drop n) a W) (l.take n) E a W) _ rfl (show AfterIn Fe nf _ from fun _ h => h)) hsrc (fun _ h => by cases h)
  refine wpIn_region_any hm ?_
  have hcount : l.toArray.size = left l.toArray (Array.replicate l.toArray.size false) := by
    unfold left
    have : ∀ m, m ≤ l.toArray.size → (List.range m).countP (fun i => !(Array.replicate l.toArray.size false).getD i true) = m := by
      intro m
      induction m with
      | zero => intro _; simp
      | succ m ih =>
        intro hm
        rw [List.range_succ, List.countP_append, ih (by omega), List.countP_singleton]
        have : (Array.replicate l.toArray.size false).getD m true = false := by simp at hm ⊢; simp [show m < l.length by omega]
        simp only [this, Bool.not_false, if_true]
    exact (this _ (Nat.le_refl _)).symm
  refine wpAnyIn_of_rely (R := R) (w0 := w.drew) (a0 := a) hfn hdp hC hnd hok hN hrf htr (by simpa using hl) hst (fun j o s hj hs => by simpa using hop j o s hj hs) hfin _ _ a _ (fun _ => undef) ⟨by simp, ?_, hrf _, rfl, rfl, ?_, ?_, ?_, ?_⟩ hcount
  · intro j o ho hl
    rw [getD_replicate_false] at hl; cases hl
  · intro i hi; rw [getD_replicate_false] at hi; cases hi
  · intro i o d hi; rw [getD_replicate_false] at hi; cases hi
  · intro t _; rfl
  · intro i _; exact getD_replicate_false _ _
end
end Go.Proofs.Ytfelfmchachljaa.Rely
end

/-! A walk by program: frames as lists of slots, one law for each kind of operation, in regions that draw and in such that don't. -/
section
namespace Go.Proofs.Ytfelfmchachljaa.Auto
open Go Go.RowKit
open Go.Proofs.Ytfelfmchachljaa.Rely
set_option linter.unusedVariables false

/-! ### Frames -/
abbrev Env := List (Nat × Value)
def get (L : Env) (t : Nat) : Value := match L with | [] => undef | (k, v) :: r => bif Nat.beq k t then v else get r t
def envN (N : Nat) (L : Env) (t : Nat) : Value := bif Nat.blt t N then get L t else undef
def actOf (ds : List Deferred) (N : Nat) (L : Env) : Act := { tmps := Array.ofFn (n := N) fun t => get L t.1, defers := ds }
variable {ds : List Deferred}

theorem slots_actOf (N : Nat) (L : Env) : slots (actOf ds N L) = envN N L := by
  funext t
  unfold slots actOf envN
  by_cases h : t < N
  · have : Nat.blt t N = true := by simpa using h
    simp [this, h]
  · have : Nat.blt t N = false := by
      cases hh : Nat.blt t N with
      | false => rfl
      | true => exact absurd (by simpa using hh) h
    simp [this, h]
theorem eval_actOf (N : Nat) (L : Env) : (actOf ds N L).eval = Rely.look (envN N L) := by rw [eval_look, slots_actOf]
theorem size_actOf (N : Nat) (L : Env) : (actOf ds N L).tmps.size = N := by simp [actOf]
theorem put_actOf (N : Nat) (L : Env) (d : Nat) (v : Value) : (actOf ds N L).put (some d) v = actOf ds N ((d, v) :: L) := by
  show (⟨(Array.ofFn (n := N) fun t => get L t.1).setIfInBounds d v, ds⟩ : Act) = ⟨Array.ofFn (n := N) fun t => get ((d, v) :: L) t.1, ds⟩
  congr 1
  apply Array.ext
  · simp
  · intro i h1 h2
    simp only [Array.size_setIfInBounds, Array.size_ofFn] at h1
    by_cases hd : d = i
    · subst hd
      simp [get]
    · rw [Array.getElem_setIfInBounds_ne (by simpa using h1) hd]
      have : Nat.beq d i = false := by
        cases h : Nat.beq d i with
        | false => rfl
        | true => exact absurd (Nat.eq_of_beq_eq_true h) hd
      simp [get, this]
def up (d : Option Nat) (v : Value) (L : Env) : Env := match d with | some t => (t, v) :: L | none => L
theorem put_up (N : Nat) (L : Env) (d : Option Nat) (v : Value) : (actOf ds N L).put d v = actOf ds N (up d v L) := by
  cases d
  · rfl
  · exact put_actOf _ _ _ _
def argsEnv : List Value → Nat → Env
  | [], _ => []
  | v :: r, k => (k, v) :: argsEnv r (k + 1)
theorem get_args : ∀ (l : List Value) (k t : Nat), get (argsEnv l k) t = if k ≤ t then l.getD (t - k) undef else undef
  | [], k, t => by simp [argsEnv, get]
  | v :: r, k, t => by
    rw [argsEnv, get]
    by_cases h : k = t
    · subst h
      simp
    · have hb : Nat.beq k t = false := by
        cases hh : Nat.beq k t with
        | false => rfl
        | true => exact absurd (Nat.eq_of_beq_eq_true hh) h
      rw [hb, cond_false, get_args r (k + 1) t]
      by_cases h1 : k + 1 ≤ t
      · rw [if_pos h1, if_pos (by omega), show t - k = (t - (k + 1)) + 1 by omega]
        simp
      · rw [if_neg h1, if_neg (by omega)]
theorem entry (args : Array Value) (N : Nat) (h : args.size ≤ N) : ({ tmps := args ++ Array.replicate (N - args.size) undef, defers := [] } : Act) = actOf [] N (argsEnv args.toList 0) := by
  unfold actOf
  congr 1
  apply Array.ext
  · simp; omega
  · intro i h1 h2
    simp only [Array.getElem_ofFn, get_args, Nat.zero_le, if_true, Nat.sub_zero]
    by_cases hi : i < args.size
    · rw [Array.getElem_append_left hi]
      simp [hi]
    · rw [Array.getElem_append_right (by omega)]
      simp [hi]
theorem enter {P : Program} {f : FuncId} {fn : Func} {c : Code} {args : Array Value} {w : World} {R : Ending → World → Prop} (N : Nat) (L : Env)
    (hf : P.funcs[f]? = some fn) (hb : fn.body = some c) (hn : fn.ntmps = N) (hs : Nat.ble args.size N = true) (hL : argsEnv args.toList 0 = L)
    (h : c.wp P (bodyPost P fn R) (actOf [] N L) w) : Calls P f args w R := by
  subst hn
  subst hL
  refine calls_of_wp hf hb ?_
  rw [entry _ _ (by simpa using hs)]
  exact h

/-! ### Guards -/
def wantB (ops : Array Oper) (o : Oper) (N : Nat) (L : Env) : Option Bool :=
  match guardOf ops o with
  | some g => some (gOk g (envN N L))
  | none => none
theorem wanted_of {ops : Array Oper} {o : Oper} {N : Nat} {L : Env} {b : Bool} (h : wantB ops o N L = some b) : Region.wanted o (yielded ops (actOf ds N L).tmps) = b := by
  unfold wantB at h
  split at h
  · rename_i g hg
    rw [wanted_guard hg, slots_actOf]
    exact Option.some.inj h
  · cases h

/-! ### Operations in the order of the text -/
/-- what is left of a region, in a box (so that nothing is run by the way) -/
structure WL (P : Program) (ops : Array Oper) (Q : Exit → Act → World → Prop) (rest : List Oper) (a : Act) (w : World) : Prop where
  out : wpList P ops Q rest a w
theorem region_lit {P : Program} {Q : Exit → Act → World → Prop} {a : Act} {w : World} {id : Nat} {l : List Oper} (h : WL P l.toArray Q l a w) : (Code.region id l.toArray false).wp P Q a w := wp_region_lit h.out
section
variable {P : Program} {ops : Array Oper} {Q : Exit → Act → World → Prop} {rest : List Oper} {o : Oper} {N : Nat} {L : Env} {w : World}
theorem seq_op (hg : wantB ops o N L = some true) (h : ∀ K : Act → World → Prop, (∀ a w, WL P ops Q rest a w → K a w) → o.upon P (actOf ds N L) K Q ((execOp (Rely.look (envN N L)) o).run P w)) : WL P ops Q (o :: rest) (actOf ds N L) w :=
  ⟨wpList_step fun K hK => by
    rw [if_pos (wanted_of hg)]
    unfold Oper.wp
    rw [eval_actOf]
    exact h K fun a w hh => hK a w hh.out⟩
theorem seq_skip (d : Nat) (hd : o.dst = some d) (hg : wantB ops o N L = some false) (k : WL P ops Q rest (actOf ds N ((d, undef) :: L)) w) : WL P ops Q (o :: rest) (actOf ds N L) w :=
  ⟨wpList_step fun K hK => by
    rw [if_neg (by rw [wanted_of hg]; decide), hd, put_actOf]
    exact hK _ _ k.out⟩
theorem seq_val (v : Value) (d : Nat) (hd : o.dst = some d) (hg : wantB ops o N L = some true) (h : (execOp (Rely.look (envN N L)) o).run P w = .ok (.value v) w) (k : WL P ops Q rest (actOf ds N ((d, v) :: L)) w) : WL P ops Q (o :: rest) (actOf ds N L) w :=
  seq_op hg fun K hK => by
    rw [h]
    show K _ _
    rw [hd, put_actOf]
    exact hK _ _ k
theorem seq_valw (v : Value) (w' : World) (d : Nat) (hd : o.dst = some d) (hg : wantB ops o N L = some true) (h : (execOp (Rely.look (envN N L)) o).run P w = .ok (.value v) w') (k : WL P ops Q rest (actOf ds N ((d, v) :: L)) w') : WL P ops Q (o :: rest) (actOf ds N L) w :=
  seq_op hg fun K hK => by
    rw [h]
    show K _ _
    rw [hd, put_actOf]
    exact hK _ _ k
theorem seq_voidw (w' : World) (hd : o.dst = none) (hg : wantB ops o N L = some true) (h : (execOp (Rely.look (envN N L)) o).run P w = .ok .skip w') (k : WL P ops Q rest (actOf ds N L) w') : WL P ops Q (o :: rest) (actOf ds N L) w :=
  seq_op hg fun K hK => by
    rw [h]
    show K _ _
    rw [hd]
    exact hK _ _ k
/-- a new block -/
theorem seq_alloc (cs : Array Value) (T : TypeId) (d : Nat) (hd : o.dst = some d) (hg : wantB ops o N L = some true) (h : (execOp (Rely.look (envN N L)) o).run P w = .ok (.value (.pointer (some ⟨w.heap.size, 0, none⟩))) (w.alloc (.cells cs T)))
    (k : ∀ (g : Nat) (W : World), w.heap.size ≤ g → Ext w W → W.heap[g]? = some (.cells cs T) → WL P ops Q rest (actOf ds N ((d, .pointer (some ⟨g, 0, none⟩)) :: L)) W) : WL P ops Q (o :: rest) (actOf ds N L) w :=
  seq_valw _ _ d hd hg h (k _ _ (Nat.le_refl _) (ext_alloc _ _) (heap_alloc_new _ _))
/-- a call that leaves all blocks as they are -/
theorem seq_call (v : Value) (f : FuncId) (args : Array Value) (d : Nat) (hd : o.dst = some d) (hg : wantB ops o N L = some true) (h : (execOp (Rely.look (envN N L)) o).run P w = .ok (.enter f args) w)
    (hc : Calls P f args w (Ret w v)) (k : ∀ W : World, Ext w W → WL P ops Q rest (actOf ds N ((d, v) :: L)) W) : WL P ops Q (o :: rest) (actOf ds N L) w :=
  seq_op hg fun K hK => by
    rw [h]
    refine hc.mono ?_
    rintro e w' ⟨rfl, hw⟩
    show K _ _
    rw [hd, put_actOf]
    exact hK _ _ (k _ hw)
/-- a call of which something is known of what it hands back and of the world behind it -/
theorem seq_callR (R : Value → World → Prop) (f : FuncId) (args : Array Value) (d : Nat) (hd : o.dst = some d) (hg : wantB ops o N L = some true) (h : (execOp (Rely.look (envN N L)) o).run P w = .ok (.enter f args) w)
    (hc : Calls P f args w fun e w' => ∃ v, e = .returned v ∧ R v w') (k : ∀ (v : Value) (W : World), R v W → WL P ops Q rest (actOf ds N ((d, v) :: L)) W) : WL P ops Q (o :: rest) (actOf ds N L) w :=
  seq_op hg fun K hK => by
    rw [h]
    refine hc.mono ?_
    rintro e w' ⟨v, rfl, hw⟩
    show K _ _
    rw [hd, put_actOf]
    exact hK _ _ (k _ _ hw)
theorem seq_nil (k : Q .normal (actOf ds N L) w) : WL P ops Q [] (actOf ds N L) w := ⟨k⟩
end

/-! ### Reading and writing blocks -/
/-- of one block the row is another one -/
def Puts (w : World) (g : Nat) (W : World) : Prop := W.os = w.os ∧ W.tape = w.tape ∧ W.output = w.output ∧ W.heap.size = w.heap.size ∧ ∀ k, k ≠ g → W.heap[k]? = w.heap[k]?
theorem puts_setRow (w : World) (g : Nat) (cs : Array Value) : Puts w g (w.setRow g cs) := ⟨rfl, rfl, rfl, by simp, fun k hk => setRow_other _ _ _ _ hk⟩
theorem Puts.row {w W : World} {g k : Nat} {ob : Obj} (h : Puts w g W) (hk : w.heap[k]? = some ob) (hn : k ≠ g) : W.heap[k]? = some ob := (h.2.2.2.2 k hn).trans hk
theorem Puts.ext {w0 w W : World} {g : Nat} (h : Puts w g W) (he : Ext w0 w) (hg : w0.heap.size ≤ g) : Ext w0 W :=
  ⟨h.1.trans he.os, h.2.1.trans he.tape, h.2.2.1.trans he.output, by have := he.size; have := h.2.2.2.1; omega, fun k hk => (h.2.2.2.2 k (by omega)).trans (he.block k hk)⟩
theorem Ext.tr {a b c : World} (h : Ext a b) (k : Ext b c) : Ext a c := Rely.Ext.trans h k
theorem ne_of_old {w : World} {k g : Nat} {ob : Obj} (hk : w.heap[k]? = some ob) (hg : w.heap.size ≤ g) : k ≠ g := by
  have := row_lt hk
  omega
theorem ne_of_new {w : World} {k g : Nat} {ob : Obj} (hk : w.heap[k]? = some ob) (hg : w.heap.size ≤ g) : g ≠ k := by
  have := row_lt hk
  omega

def aggB : TypeDesc → Bool
  | .struct _ => true
  | .array _ _ => true
  | _ => false
def aggD (P : Program) (ty : TypeId) : Option Bool := (P.underlying ty).map aggB
theorem run_load_part {P : Program} {ρ : Operand → Value} {o : Oper} {w : World} (ty : TypeId) (x : Operand) (g off : Nat) (t : TypeId) (cs ps : Array Value) (fr : Nat × Nat) (hg : w.heap[g]? = some (.cells cs t fr))
    (ho : o.op = .load ty x) (hx : ρ x = .pointer (some ⟨g, off, none⟩)) (hp : ∀ j v, ps[j]? = some v → cs[off + j]? = some v) (hu : aggD P ty = some true) (hi : (P.info? ty).map (·.size) = some ps.size) :
    (execOp ρ o).run P w = .ok (.value (.agg ps)) w := by
  unfold aggD at hu
  cases hd : P.underlying ty with
  | none => rw [hd] at hu; cases hu
  | some d =>
    rw [hd] at hu
    have hdd : aggB d = true := Option.some.inj hu
    have := run_loadVar_part w g off t ty cs ps fr d hg hp hd (by cases d <;> first | rfl | cases hdd) hi
    unfold execOp
    simp only [ho, hx, Instr.loadAt, Instr.sureAddr, Sem.run_bind, Sem.run_pure, Result.andThen_ok, this]
theorem run_load_row {P : Program} {ρ : Operand → Value} {o : Oper} {w : World} (ty : TypeId) (x : Operand) (g : Nat) (t : TypeId) (cs : Array Value) (fr : Nat × Nat) (hg : w.heap[g]? = some (.cells cs t fr))
    (ho : o.op = .load ty x) (hx : ρ x = .pointer (some ⟨g, 0, none⟩)) (hu : aggD P ty = some true) (hi : (P.info? ty).map (·.size) = some cs.size) :
    (execOp ρ o).run P w = .ok (.value (.agg cs)) w :=
  run_load_part ty x g 0 t cs cs fr hg ho hx (fun j v h => by rw [Nat.zero_add]; exact h) hu hi
theorem run_loadC1 {P : Program} {ρ : Operand → Value} {o : Oper} {w : World} (ty : TypeId) (x : Operand) (g off : Nat) (t : TypeId) (cs : Array Value) (v : Value) (fr : Nat × Nat) (hg : w.heap[g]? = some (.cells cs t fr))
    (ho : o.op = .load ty x) (hx : ρ x = .pointer (some ⟨g, off, none⟩)) (hp : cs[off]? = some v) (hu : aggD P ty = some false) :
    (execOp ρ o).run P w = .ok (.value v) w := by
  unfold aggD at hu
  cases hd : P.underlying ty with
  | none => rw [hd] at hu; cases hu
  | some d =>
    rw [hd] at hu
    have hdd : aggB d = false := Option.some.inj hu
    have hc : w.cell? ⟨g, off, none⟩ = some v := (cell_of_row w g off cs t fr hg).trans hp
    have hagg : (isAgg ty).run P w = .ok false w := by
      unfold isAgg
      rw [Sem.run_bind, run_underlying hd w]
      cases d <;> first | rfl | cases hdd
    unfold execOp
    simp [ho, hx, Instr.loadAt, Instr.sureAddr, loadVar, hagg, hc]
/-- cells written from a place on -/
def sp (cur : Array Value) (k : Nat) (vs : List Value) : Array Value := splice cur k vs
theorem run_store_part {P : Program} {ρ : Operand → Value} {o : Oper} {w : World} (ty : TypeId) (x y : Operand) (g off : Nat) (t : TypeId) (old cells : Array Value) (hg : w.heap[g]? = some (.cells old t))
    (ho : o.op = .store ty x y) (hx : ρ x = .pointer (some ⟨g, off, none⟩)) (hy : ρ y = .agg cells) (hi : (P.info? ty).map (·.size) = some cells.size) (hs : Nat.ble (off + cells.size) old.size = true) (h1 : cells.all (·.oneCell') = true) :
    (execOp ρ o).run P w = .ok .skip (w.setRow g (splice old off cells.toList)) := by
  unfold execOp
  simp only [ho, hx, hy, Instr.storeAt, Instr.sureAddr, Sem.run_bind, Sem.run_pure, Result.andThen_ok, run_storeVar_part w g off t ty old cells hg hi (by simpa using hs) h1]
theorem run_store_row {P : Program} {ρ : Operand → Value} {o : Oper} {w : World} (ty : TypeId) (x y : Operand) (g : Nat) (t : TypeId) (old cells : Array Value) (hg : w.heap[g]? = some (.cells old t))
    (ho : o.op = .store ty x y) (hx : ρ x = .pointer (some ⟨g, 0, none⟩)) (hy : ρ y = .agg cells) (hi : (P.info? ty).map (·.size) = some cells.size) (hs : old.size = cells.size) (h1 : cells.all (·.oneCell') = true) :
    (execOp ρ o).run P w = .ok .skip (w.setRow g cells) := by
  unfold execOp
  simp only [ho, hx, hy, Instr.storeAt, Instr.sureAddr, Sem.run_bind, Sem.run_pure, Result.andThen_ok, run_storeVar_row w g t ty old cells hg hi hs h1]
theorem run_storeC1 {P : Program} {ρ : Operand → Value} {o : Oper} {w : World} (ty : TypeId) (x y : Operand) (g off : Nat) (t : TypeId) (old : Array Value) (v : Value) (hg : w.heap[g]? = some (.cells old t))
    (ho : o.op = .store ty x y) (hx : ρ x = .pointer (some ⟨g, off, none⟩)) (hy : ρ y = v) (hi : (P.info? ty).map (·.size) = some 1) (hs : Nat.blt off old.size = true) (h1 : v.oneCell' = true) (hcs : v.cells = #[v]) :
    (execOp ρ o).run P w = .ok .skip (w.setRow g (old.setIfInBounds off v)) := by
  have hlt : off < old.size := by simpa using hs
  have hcell : w.cell? ⟨g, off, none⟩ = some old[off] := by simp [World.cell?, hg, hlt]
  have hfro : w.frozen? ⟨g, off, none⟩ = false := by simp [World.frozen?, hg]
  cases hq : P.info? ty with
  | none => simp [hq] at hi
  | some i =>
    have hs' : i.size = 1 := by simpa [hq] using hi
    have hst : (store (⟨g, off, none⟩ : Addr) v).run P w = .ok () (w.setRow g (old.setIfInBounds off v)) := by
      rw [run_store P w _ v _ h1, hcell]
      simp [hfro, setCell_eq_setRow w g off old t (0, 0) v hg]
    have hadd : (⟨g, off, none⟩ : Addr).add 0 = ⟨g, off, none⟩ := by unfold Addr.add; split <;> simp_all
    unfold execOp
    simp [ho, hx, hy, Instr.storeAt, Instr.sureAddr, storeVar, sizeOf, typeInfo, hq, hs', hcs, storeCells, hadd, hst]
section
variable {P : Program} {ops : Array Oper} {Q : Exit → Act → World → Prop} {rest : List Oper} {o : Oper} {N : Nat} {L : Env} {w : World}
/-- a store: the block's row is another one behind it -/
theorem seq_store (g : Nat) (old cs : Array Value) (t : TypeId) (hg : w.heap[g]? = some (.cells old t)) (hd : o.dst = none) (hw : wantB ops o N L = some true) (h : (execOp (Rely.look (envN N L)) o).run P w = .ok .skip (w.setRow g cs))
    (k : ∀ W : World, Puts w g W → W.heap[g]? = some (.cells cs t) → WL P ops Q rest (actOf ds N L) W) : WL P ops Q (o :: rest) (actOf ds N L) w :=
  seq_voidw _ hd hw h (k _ (puts_setRow _ _ _) (setRow_heap _ _ _ _ _ _ hg))
end

/-! ### Regions that draw -/
def envS (N : Nat) (L : Env) (C : List Value) : List (Tmp × Option Nat) → Env
  | [] => []
  | (t, some i) :: r => (t, C.getD i undef) :: envS N L C r
  | (t, none) :: r => (t, envN N L t) :: envS N L C r
/-- what is known of each operation: its value, or that it is a new block -/
inductive Kn where
  | is (v : Value)
  | new (cs : Array Value) (T : TypeId)
def Kn.fact (base : Nat) : Kn → Fact
  | .is c => fun v _ => v = c
  | .new cs T => fun v W => ∃ g, v = .pointer (some ⟨g, 0, none⟩) ∧ base ≤ g ∧ W.heap[g]? = some (.cells cs T)
def Kn.val : Kn → Value
  | .is c => c
  | .new _ _ => undef
theorem Kn.stable (base : Nat) (k : Kn) : Stable Ext (k.fact base) := by
  cases k with
  | is c => exact fun _ _ _ _ h => h
  | new cs T => exact fun v W W' hR ⟨g, h1, h2, h3⟩ => ⟨g, h1, h2, row_ext h3 hR⟩
/-- one operation after the other -/
def steps (P : Program) (w0 : World) (base : Nat) (N : Nat) (L : Env) (F : List Kn → Prop) : List Oper → List Src → List Kn → Prop
  | o :: os, s :: ss, C => ∃ k : Kn, opOk P Ext w0 (envN N L) (C.map (Kn.fact base)) o s (k.fact base) ∧ steps P w0 base N L F os ss (C ++ [k])
  | _, _, C => F C
theorem steps_relies {P : Program} {w0 : World} {base N : Nat} {L : Env} {F : List Kn → Prop} {G : List Fact → Prop} (hFG : ∀ C, F C → G (C.map (Kn.fact base))) : ∀ (os : List Oper) (ss : List Src) (C : List Kn), steps P w0 base N L F os ss C → relies P Ext w0 (envN N L) G os ss (C.map (Kn.fact base))
  | [], _, C, h => hFG C (by simpa [steps] using h)
  | _ :: _, [], C, h => hFG C (by simpa [steps] using h)
  | o :: os, s :: ss, C, ⟨k, h1, h2⟩ => by
    refine ⟨k.fact base, Kn.stable base k, h1, ?_⟩
    have := steps_relies hFG os ss (C ++ [k]) h2
    simpa using this

/-- slots that the operations read, by what is known -/
theorem envS_holds {N : Nat} {L : Env} {base : Nat} {C : List Kn} {ρ : Tmp → Value} {W : World} : ∀ (r : List (Tmp × Option Nat)), (r.all fun x => match x.2 with | some i => (match C[i]? with | some (.is _) => true | _ => false) | none => true) = true →
    Holds (envN N L) (C.map (Kn.fact base)) ρ W r → ∀ t, (r.any fun x => Nat.beq x.1 t) = true → ρ t = get (envS N L (C.map Kn.val) r) t
  | [], _, _, t, h => by simp at h
  | (u, none) :: r, ha, hh, t, h => by
    simp only [List.all_cons, Bool.and_eq_true] at ha
    rw [envS, get]
    by_cases hu : Nat.beq u t = true
    · rw [hu, cond_true, ← Nat.eq_of_beq_eq_true hu]
      exact hh.1
    · have hu' : Nat.beq u t = false := by
        cases hb : Nat.beq u t with
        | false => rfl
        | true => exact absurd hb hu
      rw [hu', cond_false]
      refine envS_holds r ha.2 hh.2 t ?_
      simp only [List.any_cons, hu', Bool.false_or] at h
      exact h
  | (u, some i) :: r, ha, hh, t, h => by
    simp only [List.all_cons, Bool.and_eq_true] at ha
    rw [envS, get]
    by_cases hu : Nat.beq u t = true
    · rw [hu, cond_true, ← Nat.eq_of_beq_eq_true hu]
      have h1 := hh.1
      have h2 := ha.1
      cases hc : C[i]? with
      | none => simp [hc] at h2
      | some k =>
        cases k with
        | new cs T => simp [hc] at h2
        | is c =>
          simp only [List.getD_eq_getElem?_getD, List.getElem?_map, hc, Option.map_some, Option.getD_some, Kn.fact] at h1
          simp [hc, Kn.val, h1]
    · have hu' : Nat.beq u t = false := by
        cases hb : Nat.beq u t with
        | false => rfl
        | true => exact absurd hb hu
      rw [hu', cond_false]
      refine envS_holds r ha.2 hh.2 t ?_
      simp only [List.any_cons, hu', Bool.false_or] at h
      exact h

/-- what is checked of an operation by program: all that it looks at is known -/
def seen (C : List Kn) (o : Oper) (s : Src) : Bool :=
  (match o.op with | .select _ _ => false | _ => true) &&
  (s.reads.all fun x => match x.2 with | some i => (match C[i]? with | some (.is _) => true | _ => false) | none => true) &&
  (o.op.operands.toList.all fun x => match x with | .tmp t => s.reads.any fun x => Nat.beq x.1 t | _ => true) &&
  (match s.guard with | some (d, _) => s.reads.any fun x => Nat.beq x.1 d | none => true)
theorem seen_look {N : Nat} {L : Env} {base : Nat} {C : List Kn} {o : Oper} {s : Src} {ρ : Tmp → Value} {W : World} (hs : seen C o s = true) (hh : Holds (envN N L) (C.map (Kn.fact base)) ρ W s.reads) :
    execOp (Rely.look ρ) o = execOp (Rely.look (get (envS N L (C.map Kn.val) s.reads))) o := by
  simp only [seen, Bool.and_eq_true] at hs
  obtain ⟨⟨⟨h1, h2⟩, h3⟩, h4⟩ := hs
  refine execOp_congr o (fun cs b hc => by rw [hc] at h1; cases h1) fun x hx => ?_
  cases x with
  | tmp t =>
    have := List.all_eq_true.1 h3 (.tmp t) (Array.mem_toList_iff.2 hx)
    exact envS_holds s.reads h2 hh t this
  | const v => rfl
  | global g => rfl
  | func f => rfl
theorem seen_guard {N : Nat} {L : Env} {base : Nat} {C : List Kn} {o : Oper} {s : Src} {ρ : Tmp → Value} {W : World} (hs : seen C o s = true) (hh : Holds (envN N L) (C.map (Kn.fact base)) ρ W s.reads) (p q : Prop) :
    guarded s.guard ρ p q = guarded s.guard (get (envS N L (C.map Kn.val) s.reads)) p q := by
  simp only [seen, Bool.and_eq_true] at hs
  obtain ⟨⟨⟨h1, h2⟩, h3⟩, h4⟩ := hs
  cases hg : s.guard with
  | none => rfl
  | some db =>
    obtain ⟨d, b⟩ := db
    rw [hg] at h4
    show (if isB b (ρ d) = true then p else q) = (if isB b (get (envS N L (C.map Kn.val) s.reads) d) = true then p else q)
    rw [envS_holds s.reads h2 hh d h4]
theorem guarded_pos {g : Option (Tmp × Bool)} {ρ : Tmp → Value} {p q : Prop} (hg : gOk g ρ = true) (h : p) : guarded g ρ p q := by
  cases g with
  | none => exact h
  | some db => exact (if_pos hg).mpr h
theorem guarded_neg {g : Option (Tmp × Bool)} {ρ : Tmp → Value} {p q : Prop} (hg : gOk g ρ = false) (h : q) : guarded g ρ p q := by
  cases g with
  | none => cases hg
  | some db =>
    unfold guarded
    unfold gOk at hg
    simp only [hg, Bool.false_eq_true, if_false]
    exact h

section
variable {P : Program} {w0 : World} {base N : Nat} {L : Env} {F : List Kn → Prop} {o : Oper} {os : List Oper} {s : Src} {ss : List Src} {C : List Kn}
theorem any_op (k : Kn) (hs : seen C o s = true) (hg : gOk s.guard (get (envS N L (C.map Kn.val) s.reads)) = true)
    (h : ∀ W, Ext w0 W → relyUpon P Ext W (k.fact base) ((execOp (Rely.look (get (envS N L (C.map Kn.val) s.reads))) o).run P W))
    (hk : steps P w0 base N L F os ss (C ++ [k])) : steps P w0 base N L F (o :: os) (s :: ss) C :=
  ⟨k, fun ρ W hR hh => by
    rw [seen_guard hs hh]
    refine guarded_pos hg ?_
    unfold relyAt
    rw [seen_look hs hh]
    exact h W hR, hk⟩
theorem any_skip (hs : seen C o s = true) (hg : gOk s.guard (get (envS N L (C.map Kn.val) s.reads)) = false)
    (hk : steps P w0 base N L F os ss (C ++ [.is undef])) : steps P w0 base N L F (o :: os) (s :: ss) C :=
  ⟨.is undef, fun ρ W hR hh => by
    rw [seen_guard hs hh]
    exact guarded_neg hg rfl, hk⟩
/-- a value that doesn't hang on the world -/
theorem any_val (v : Value) (hs : seen C o s = true) (hg : gOk s.guard (get (envS N L (C.map Kn.val) s.reads)) = true)
    (h : ∀ W, (execOp (Rely.look (get (envS N L (C.map Kn.val) s.reads))) o).run P W = .ok (.value v) W)
    (hk : steps P w0 base N L F os ss (C ++ [.is v])) : steps P w0 base N L F (o :: os) (s :: ss) C :=
  any_op (.is v) hs hg (fun W _ => by rw [h]; exact ⟨Ext.refl _, rfl⟩) hk
/-- a value read out of the world -/
theorem any_read (v : Value) (hs : seen C o s = true) (hg : gOk s.guard (get (envS N L (C.map Kn.val) s.reads)) = true)
    (h : ∀ W, Ext w0 W → (execOp (Rely.look (get (envS N L (C.map Kn.val) s.reads))) o).run P W = .ok (.value v) W)
    (hk : steps P w0 base N L F os ss (C ++ [.is v])) : steps P w0 base N L F (o :: os) (s :: ss) C :=
  any_op (.is v) hs hg (fun W hR => by rw [h W hR]; exact ⟨Ext.refl _, rfl⟩) hk
theorem any_call (v : Value) (f : FuncId) (args : Array Value) (hs : seen C o s = true) (hg : gOk s.guard (get (envS N L (C.map Kn.val) s.reads)) = true)
    (h : ∀ W, (execOp (Rely.look (get (envS N L (C.map Kn.val) s.reads))) o).run P W = .ok (.enter f args) W) (hc : ∀ W, Ext w0 W → Calls P f args W (Ret W v))
    (hk : steps P w0 base N L F os ss (C ++ [.is v])) : steps P w0 base N L F (o :: os) (s :: ss) C :=
  any_op (.is v) hs hg (fun W hR => by
    rw [h]
    exact ⟨Ext.refl _, (hc W hR).mono fun _ _ h => h.const⟩) hk
end
/-- the slots behind the region -/
def ups (L : Env) : List Oper → List Kn → Env
  | o :: os, k :: C => ups (up o.dst k.val L) os C
  | _, _ => L
theorem fin_ups {Q : Act → World → Prop} {base N : Nat} {W : World} : ∀ (os : List Oper) (C : List Kn) (L : Env), (C.all fun k => match k with | .is _ => true | _ => false) = true → Q (actOf ds N (ups L os C)) W → fin Q os (C.map (Kn.fact base)) (actOf ds N L) W
  | [], C, L, _, h => by cases C <;> exact h
  | _ :: _, [], L, _, h => h
  | o :: os, k :: C, L, ha, h => by
    simp only [List.all_cons, Bool.and_eq_true] at ha
    intro v hv
    cases k with
    | new _ _ => simp at ha
    | is c =>
      obtain rfl : v = c := hv
      rw [put_up]
      exact fin_ups os C _ ha.2 h
theorem any_region {P : Program} {id : Nat} {Q : Exit → Act → World → Prop} {N : Nat} {L : Env} {w : World} {l : List Oper} (n : Nat) (S : List Src) (hm : P.follows .mixedOrders = true) (hok : ok l n N S = true)
    (h : ∀ F : List Kn → Prop, (∀ C, (C.all fun k => match k with | .is _ => true | _ => false) = true → (∀ W, Ext w W → WL P l.toArray Q (l.drop n) (actOf ds N (ups L (l.take n) C)) W) → F C) → steps P w.drew 0 N L F (l.take n) S []) :
    (Code.region id l.toArray true).wp P Q (actOf ds N L) w := by
  refine wp_region_rely Ext n N S hm hok (size_actOf N L) Ext.refl Ext.trans fun F r0 hr hF => ?_
  rw [slots_actOf] at hr
  subst hr
  have := h (fun C => (C.all fun k => match k with | .is _ => true | _ => false) = true ∧ ∀ W, Ext w W → WL P l.toArray Q (l.drop n) (actOf ds N (ups L (l.take n) C)) W) (fun C h1 h2 => ⟨h1, h2⟩)
  exact steps_relies (F := fun C => (C.all fun k => match k with | .is _ => true | _ => false) = true ∧ ∀ W, Ext w W → WL P l.toArray Q (l.drop n) (actOf ds N (ups L (l.take n) C)) W) (G := F)
    (fun C h => hF.out fun W hR => fin_ups (Q := fun a W => wpList P l.toArray Q (l.drop n) a W) _ _ _ h.1 (h.2 W (Rely.Ext.trans (ext_drew w) hR)).out) _ _ [] this

/-- the slots behind the region; new blocks have names of their own -/
def fins (base : Nat) (Q : Env → World → Prop) : List Oper → List Kn → List Nat → Env → World → Prop
  | o :: os, .is c :: C, acc, L, W => fins base Q os C acc (up o.dst c L) W
  | o :: os, .new cs T :: C, acc, L, W => ∀ g, base ≤ g → W.heap[g]? = some (.cells cs T) → (∀ u ∈ acc, g ≠ u) → fins base Q os C (acc ++ [g]) (up o.dst (.pointer (some ⟨g, 0, none⟩)) L) W
  | _, _, _, L, W => Q L W
def newsOf : List Kn → Nat → List Nat
  | [], _ => []
  | .is _ :: r, k => newsOf r (k + 1)
  | .new _ _ :: r, k => k :: newsOf r (k + 1)
theorem newsOf_ge : ∀ (C : List Kn) (k i : Nat), i ∈ newsOf C k → k ≤ i
  | [], _, _, h => by cases h
  | .is _ :: r, k, i, h => by have := newsOf_ge r (k + 1) i h; omega
  | .new _ _ :: r, k, i, h => by
    rcases List.mem_cons.1 h with h | h
    · omega
    · have := newsOf_ge r (k + 1) i h; omega
theorem newsOf_get (C0 : List Kn) : ∀ (C : List Kn) (k : Nat), (∀ j, C[j]? = C0[k + j]?) → ∀ i ∈ newsOf C k, ∃ cs T, C0[i]? = some (.new cs T)
  | [], _, _, _, h => by cases h
  | .is _ :: r, k, hl, i, h => newsOf_get C0 r (k + 1) (fun j => by have := hl (j + 1); rw [List.getElem?_cons_succ] at this; rw [this]; congr 1; omega) i h
  | .new cs T :: r, k, hl, i, h => by
    rcases List.mem_cons.1 h with h | h
    · subst h
      have := hl 0
      exact ⟨cs, T, by simpa using this.symm⟩
    · exact newsOf_get C0 r (k + 1) (fun j => by have := hl (j + 1); rw [List.getElem?_cons_succ] at this; rw [this]; congr 1; omega) i h
theorem finP_fins {Q : Act → World → Prop} {base N : Nat} {W : World} {D : List Nat} : ∀ (os : List Oper) (C : List Kn) (k : Nat) (accN : List Nat) (L : Env), (∀ i, k ≤ i → (D.contains i = true ↔ i ∈ newsOf C k)) →
    fins base (fun L W => Q (actOf ds N L) W) os C accN L W → finP Q D os (C.map (Kn.fact base)) k (accN.map fun g => .pointer (some ⟨g, 0, none⟩)) (actOf ds N L) W
  | [], C, _, _, L, _, h => by cases C <;> exact h
  | _ :: _, [], _, _, L, _, h => h
  | o :: os, .is c :: C, k, accN, L, hD, h => by
    intro v hv _
    obtain rfl : v = c := hv
    have hk : ¬ D.contains k = true := fun hh => by
      have := newsOf_ge C (k + 1) k ((hD k (Nat.le_refl _)).1 hh)
      omega
    rw [if_neg hk, put_up]
    exact finP_fins os C (k + 1) accN _ (fun i hi => hD i (by omega)) h
  | o :: os, .new cs T :: C, k, accN, L, hD, h => by
    intro v hv hne
    obtain ⟨g, rfl, h1, h2⟩ := hv
    have hk : D.contains k = true := (hD k (Nat.le_refl _)).2 List.mem_cons_self
    rw [if_pos hk, put_up]
    have := finP_fins os C (k + 1) (accN ++ [g]) _ (fun i hi => ⟨fun hh => by
      rcases List.mem_cons.1 ((hD i (by omega)).1 hh) with e | e
      · omega
      · exact e, fun hh => (hD i (by omega)).2 (List.mem_cons_of_mem _ hh)⟩) (h g h1 h2 fun u hu e => hne hk _ (List.mem_map.2 ⟨u, hu, rfl⟩) (by rw [e]))
    rw [List.map_append] at this
    exact this
end Go.Proofs.Ytfelfmchachljaa.Auto
end

/-! A walk by program, further: rows of parts, conditions, ends of calls. -/
section
namespace Go.Proofs.Ytfelfmchachljaa.Auto
open Go Go.RowKit
open Go.Proofs.Ytfelfmchachljaa.Rely
set_option linter.unusedVariables false
variable {ds : List Deferred}

/-! ### Rows of parts -/
def cat : List (Array Value) → Array Value
  | [] => #[]
  | [a] => a
  | a :: b :: r => a ++ cat (b :: r)
theorem cat_cons (a : Array Value) (r : List (Array Value)) : cat (a :: r) = a ++ cat r := by
  cases r with
  | nil => simp [cat]
  | cons b r => rfl
theorem cat_append : ∀ l r : List (Array Value), cat (l ++ r) = cat l ++ cat r
  | [], r => by simp [cat]
  | a :: l, r => by rw [List.cons_append, cat_cons, cat_cons, cat_append l r, Array.append_assoc]
theorem cat_part (pre mid post : List (Array Value)) (off : Nat) (h : (cat pre).size = off) : ∀ j v, (cat mid)[j]? = some v → (cat (pre ++ (mid ++ post)))[off + j]? = some v := fun j v hv => by
  subst h
  have hj : j < (cat mid).size := (Array.getElem?_eq_some_iff.1 hv).1
  rw [cat_append, cat_append, Array.getElem?_append_right (by omega), Nat.add_sub_cancel_left, Array.getElem?_append_left hj]
  exact hv
theorem cat_splice (pre mid new post : List (Array Value)) (off : Nat) (h : (cat pre).size = off) (hs : (cat new).size = (cat mid).size) : splice (cat (pre ++ (mid ++ post))) off (cat new).toList = cat (pre ++ (new ++ post)) := by
  subst h
  apply Array.ext_getElem?
  intro j
  rw [splice_get _ _ _ (by simp [cat_append]; omega)]
  simp only [cat_append, Array.length_toList]
  by_cases h1 : (cat pre).size ≤ j
  · by_cases h2 : j < (cat pre).size + (cat new).size
    · rw [if_pos ⟨h1, h2⟩, Array.getElem?_append_right h1, Array.getElem?_append_left (by omega)]
      simp
    · rw [if_neg (by omega), Array.getElem?_append_right h1, Array.getElem?_append_right h1, Array.getElem?_append_right (by omega), Array.getElem?_append_right (by omega), hs]
  · rw [if_neg (by omega), Array.getElem?_append_left (by omega), Array.getElem?_append_left (by omega)]
theorem cat_one : ∀ l : List (Array Value), (∀ a ∈ l, a.all (·.oneCell') = true) → (cat l).all (·.oneCell') = true
  | [], _ => by simp [cat]
  | a :: r, h => by
    rw [cat_cons, Array.all_append, h a List.mem_cons_self, cat_one r fun b hb => h b (List.mem_cons_of_mem _ hb)]
    rfl

/-! ### Building a struct or an array of parts -/
def okPl (pl : Nat → Option (Nat × Nat)) : Nat → List (Nat × Nat × Value × Array Value) → Prop
  | _, [] => True
  | off, (i, n, v, p) :: r => pl i = some (off, n) ∧ v.cells = p ∧ p.size = n ∧ okPl pl (off + n) r
def tot : List (Nat × Nat × Value × Array Value) → Nat
  | [] => 0
  | (_, n, _, _) :: r => n + tot r
theorem foldl_splice : ∀ (l : List Value) (k off : Nat) (cs : Array Value), (l.zipIdx k).foldl (fun cs (x : Value × Nat) => cs.setIfInBounds (off + x.2) x.1) cs = splice cs (off + k) l
  | [], _, _, _ => rfl
  | v :: r, k, off, cs => by
    rw [List.zipIdx_cons, List.foldl_cons, foldl_splice r (k + 1) off, splice]
    rfl
/-! ### Conditions -/
section
variable {P : Program} {Q : Exit → Act → World → Prop} {w : World} {N : Nat} {L : Env}
theorem cond_true {c : Operand} {x y : Code} (hc : Rely.look (envN N L) c = .bool true) (h : x.wp P Q (actOf ds N L) w) : (Code.cond c x y).wp P Q (actOf ds N L) w := wp_cond_true (by rw [eval_actOf]; exact hc) h
theorem cond_false {c : Operand} {x y : Code} (hc : Rely.look (envN N L) c = .bool false) (h : y.wp P Q (actOf ds N L) w) : (Code.cond c x y).wp P Q (actOf ds N L) w := wp_cond_false (by rw [eval_actOf]; exact hc) h
theorem cond_split {c : Operand} {x y : Code} {t : Bool} (hc : Rely.look (envN N L) c = .bool t) (ht : t = true → x.wp P Q (actOf ds N L) w) (hf : t = false → y.wp P Q (actOf ds N L) w) : (Code.cond c x y).wp P Q (actOf ds N L) w := wp_cond_split (by rw [eval_actOf]; exact hc) ht hf
end

/-! ### Ends -/
/-- what a result slot hands back -/
def ResIs (P : Program) (w : World) (N : Nat) (L : Env) : ResultVar → Value → Prop
  | .tmp t, v => envN N L t = v
  | .cell a t, v => ∃ A, envN N L a = .pointer (some A) ∧ (loadVar t A).run P w = .ok v w
theorem res_tmp {P : Program} {w : World} {N : Nat} {L : Env} {t : Tmp} {v : Value} (h : envN N L t = v) : ResIs P w N L (.tmp t) v := h
theorem res_cell {P : Program} {w : World} {N : Nat} {L : Env} {a : Tmp} {ty : TypeId} (g : Nat) (t : TypeId) (cs : Array Value) (hg : w.heap[g]? = some (.cells cs t)) (ha : envN N L a = .pointer (some ⟨g, 0, none⟩)) (hu : aggD P ty = some true) (hi : (P.info? ty).map (·.size) = some cs.size) :
    ResIs P w N L (.cell a ty) (.agg cs) := by
  refine ⟨_, ha, ?_⟩
  unfold aggD at hu
  cases hd : P.underlying ty with
  | none => rw [hd] at hu; cases hu
  | some d =>
    rw [hd] at hu
    have hdd : aggB d = true := Option.some.inj hu
    exact run_loadVar_row w g t ty cs (0, 0) d hg hd (by cases d <;> first | rfl | cases hdd) hi
theorem getD_actOf (ds : List Deferred) (N : Nat) (L : Env) (t : Nat) : (actOf ds N L).tmps.getD t undef = envN N L t := by rw [← slots_actOf]; rfl
def resOne (tmps : Array Value) : ResultVar → Sem Value := fun
    | .tmp t => pure (tmps.getD t undef)
    | .cell a t => do loadVar t (← asAddr (tmps.getD a undef))
theorem run_resOne {P : Program} {w : World} {N : Nat} {L : Env} {r : ResultVar} {v : Value} (h : ResIs P w N L r v) : (resOne (actOf ds N L).tmps r).run P w = .ok v w := by
  cases r with
  | tmp t =>
    have h' : envN N L t = v := h
    show (pure ((actOf ds N L).tmps.getD t undef) : Sem Value).run P w = _
    rw [getD_actOf ds, h']
    rfl
  | cell a t =>
    obtain ⟨A, h1, h2⟩ := h
    show (do loadVar t (← asAddr ((actOf ds N L).tmps.getD a undef)) : Sem Value).run P w = _
    rw [getD_actOf ds, h1]
    simp [asAddr, h2]
theorem results_eq (fn : Func) (tmps : Array Value) : results fn tmps = (do let vs ← fn.results.mapM (resOne tmps); pure (if h : vs.size = 1 then vs[0] else .tuple vs)) := rfl
section
variable {P : Program} {fn : Func} {R : Ending → World → Prop} {N : Nat} {L : Env} {w : World}
theorem run_results1 {r : ResultVar} {v : Value} (hr : fn.results = #[r]) (h : ResIs P w N L r v) : (results fn (actOf ds N L).tmps).run P w = .ok v w := by
  rw [results_eq, hr]
  simp [run_resOne h]
theorem run_results2 {r s : ResultVar} {u v : Value} (hr : fn.results = #[r, s]) (h : ResIs P w N L r u) (k : ResIs P w N L s v) : (results fn (actOf ds N L).tmps).run P w = .ok (.tuple #[u, v]) w := by
  rw [results_eq, hr]
  simp [run_resOne h, run_resOne k, Sem.run_bind]
theorem run_results0 (hr : fn.results = #[]) : (results fn (actOf ds N L).tmps).run P w = .ok (.tuple #[]) w := by
  rw [results_eq, hr]
  simp
theorem ret1 {r : ResultVar} (v : Value) (hr : fn.results = #[r]) (h : ResIs P w N L r v) (k : R (.returned v) w) : bodyPost P fn R .ret (actOf [] N L) w := bodyPost_ret (run_results1 hr h) rfl k
theorem ret2 {r s : ResultVar} (u v : Value) (hr : fn.results = #[r, s]) (h : ResIs P w N L r u) (h2 : ResIs P w N L s v) (k : R (.returned (.tuple #[u, v])) w) : bodyPost P fn R .ret (actOf [] N L) w := bodyPost_ret (run_results2 hr h h2) rfl k
theorem end0 (hr : fn.results = #[]) (k : R (.returned (.tuple #[])) w) : bodyPost P fn R .normal (actOf [] N L) w := bodyPost_end (run_results0 hr) rfl k
theorem ret0 (hr : fn.results = #[]) (k : R (.returned (.tuple #[])) w) : bodyPost P fn R .ret (actOf [] N L) w := bodyPost_ret (run_results0 hr) rfl k
end
theorem steps_nil {P : Program} {w0 : World} {base N : Nat} {L : Env} {F : List Kn → Prop} {ss : List Src} {C : List Kn} (h : F C) : steps P w0 base N L F [] ss C := by cases ss <;> exact h
theorem isz {P : Program} {ty : TypeId} {cs : Array Value} {n : Nat} (h : (P.info? ty).map (·.size) = some n) (hs : cs.size = n) : (P.info? ty).map (·.size) = some cs.size := by rw [h, hs]
theorem eqsz {a b : Array Value} {n : Nat} (ha : a.size = n) (hb : b.size = n) : a.size = b.size := ha.trans hb.symm
theorem run_store_cat {P : Program} {ρ : Operand → Value} {o : Oper} {w : World} (ty : TypeId) (x y : Operand) (g off : Nat) (t : TypeId) (pre mid new post : List (Array Value)) (hg : w.heap[g]? = some (.cells (cat (pre ++ (mid ++ post))) t))
    (ho : o.op = .store ty x y) (hx : ρ x = .pointer (some ⟨g, off, none⟩)) (hy : ρ y = .agg (cat new)) (hi : (P.info? ty).map (·.size) = some (cat new).size) (hp : (cat pre).size = off) (hs : (cat new).size = (cat mid).size) (h1 : (cat new).all (·.oneCell') = true) :
    (execOp ρ o).run P w = .ok .skip (w.setRow g (cat (pre ++ (new ++ post)))) := by
  rw [← cat_splice pre mid new post off hp hs]
  refine run_store_part ty x y g off t _ _ hg ho hx hy hi ?_ h1
  simp only [cat_append, Array.size_append, Nat.ble_eq]
  omega
end Go.Proofs.Ytfelfmchachljaa.Auto
end

/-! Regions that draw, whose stores wait for all but some operations that look at nothing but values: these may come ahead of the stores or behind them. -/
section
namespace Go.Proofs.Ytfelfmchachljaa.Auto
open Go Go.RowKit
open Go.Proofs.Ytfelfmchachljaa.Rely
set_option linter.unusedVariables false
variable {ds : List Deferred}

def isT (l : List Oper) (j : Nat) : Bool := match l[j]? with | some o => o.dst.isNone | none => false
/-- the stores wait for all but the free ones, and for one another -/
def tailT (l : List Oper) (M : Array Nat) (U : List Nat) : Bool :=
  (List.range l.length).all fun j => !isT l j || ((List.range l.length).all fun i => i == j || (if isT l i then decide (j < i) || (M.getD j 0).testBit i else U.contains i || (M.getD j 0).testBit i))
/-- what a store reads is written ahead of it or nowhere -/
def readsT (l : List Oper) (s : Src) : Bool := s.reads.all fun x => match x.2 with | some _ => true | none => l.all fun o => o.dst != some x.1
def storesT (l : List Oper) (S : List Src) : Bool :=
  (List.range l.length).all fun j => !isT l j || (match l[j]?, S[j]? with | some o, some s => readsT l s && s.guard.isNone && (match o.op with | .select _ _ => false | _ => true) && (o.op.operands.toList.all fun x => match x with | .tmp t => s.reads.any fun y => Nat.beq y.1 t | _ => true) | _, _ => false)
def okT (l : List Oper) (N : Nat) (S : List Src) (U : List Nat) : Bool :=
  let M := masks l #[]
  srcsOk l M 0 l S && dstsOk N l && edgesOk 0 l && tailT l M U && storesT l S && U.all (fun j => !isT l j)

/-- the stores, one after the other, seen from the frame behind the region -/
def TailRun (P : Program) (Rd : World → Prop) (l : List Oper) (af : Act) (K : World → Prop) : List Nat → World → Prop
  | [], W => K W
  | j :: r, W => ∃ o W', l[j]? = some o ∧ (execOp af.eval o).run P W = .ok .skip W' ∧ Rd W' ∧ TailRun P Rd l af K r W'
def tailsOf (l : List Oper) : List Nat := (List.range l.length).filter (isT l)

/-- an operation that looks at values alone -/
def pureOk (P : Program) (Rd : World → Prop) (N : Nat) (L : Env) (C : List Kn) (o : Oper) (s : Src) (k : Kn) : Prop :=
  seen C o s = true ∧ ∃ c, k = .is c ∧ ∀ W, Rd W → guarded s.guard (get (envS N L (C.map Kn.val) s.reads)) ((execOp (Rely.look (get (envS N L (C.map Kn.val) s.reads))) o).run P W = .ok (.value c) W) (undef = c)
def stepsT (P : Program) (Rd : World → Prop) (w0 : World) (base : Nat) (N : Nat) (L : Env) (U : List Nat) (F : List Kn → Prop) : List Oper → List Src → List Kn → Prop
  | o :: os, s :: ss, C => ∃ k : Kn, (o.dst.isNone = true → k = .is undef) ∧ (o.dst.isNone = false → if U.contains C.length = true then pureOk P Rd N L C o s k else opOk P Ext w0 (envN N L) (C.map (Kn.fact base)) o s (k.fact base)) ∧ stepsT P Rd w0 base N L U F os ss (C ++ [k])
  | _, _, C => F C

section
variable {P : Program} {Rd : World → Prop} {w0 : World} {base N : Nat} {L : Env}
/-- all that was found -/
theorem stepsT_found {U : List Nat} {F : List Kn → Prop} : ∀ (os : List Oper) (ss : List Src) (C : List Kn), ss.length = os.length → stepsT P Rd w0 base N L U F os ss C →
    ∃ C' : List Kn, C'.length = C.length + os.length ∧ (∀ i, i < C.length → C'[i]? = C[i]?) ∧ F C' ∧
      (∀ j o s, os[j]? = some o → ss[j]? = some s → ∃ k, C'[C.length + j]? = some k ∧ (o.dst.isNone = true → k = .is undef) ∧ (o.dst.isNone = false → if U.contains (C.length + j) = true then pureOk P Rd N L (C'.take (C.length + j)) o s k else opOk P Ext w0 (envN N L) ((C'.take (C.length + j)).map (Kn.fact base)) o s (k.fact base)))
  | [], [], C, _, h => ⟨C, by simp, fun _ _ => rfl, h, fun j o s h => by simp at h⟩
  | [], _ :: _, _, hl, _ => by simp at hl
  | _ :: _, [], _, hl, _ => by simp at hl
  | o :: os, s :: ss, C, hl, ⟨k, h1, h2, h3⟩ => by
    obtain ⟨C', hlen, hC, hF, hO⟩ := stepsT_found os ss (C ++ [k]) (by simpa using hl) h3
    have hlen1 : (C ++ [k]).length = C.length + 1 := by simp
    have hC1 : ∀ i, i < C.length → C'[i]? = C[i]? := fun i hi => by
      rw [hC i (by omega), List.getElem?_append_left hi]
    have htake : C'.take C.length = C := by
      apply List.ext_getElem?
      intro i
      rw [List.getElem?_take]
      by_cases hi : i < C.length
      · rw [if_pos hi, hC1 i hi]
      · rw [if_neg hi, List.getElem?_eq_none (by omega)]
    refine ⟨C', by rw [hlen, hlen1, List.length_cons]; omega, hC1, hF, fun j oj sj hj hsj => ?_⟩
    cases j with
    | zero =>
      simp only [List.getElem?_cons_zero, Option.some.injEq] at hj hsj
      subst hj; subst hsj
      refine ⟨k, by rw [Nat.add_zero, hC C.length (by omega)]; simp, h1, fun hd => ?_⟩
      rw [Nat.add_zero, htake]
      exact h2 hd
    | succ j =>
      obtain ⟨k', hk1, hk2, hk3⟩ := hO j oj sj (by simpa using hj) (by simpa using hsj)
      rw [hlen1] at hk1 hk3
      rw [show C.length + (j + 1) = C.length + 1 + j by omega]
      exact ⟨k', hk1, hk2, hk3⟩

/-- what is known while the region runs -/
structure InvT (l : List Oper) (a0 : Act) (listed : Array Bool) (a : Act) (vs : Nat → Value) (C : List Kn) (U : List Nat) : Prop where
  size : listed.size = l.length
  closed : Closed l.toArray listed
  defers : a.defers = a0.defers
  asize : a.tmps.size = a0.tmps.size
  vals : ∀ i o d, listed.getD i false = true → l[i]? = some o → o.dst = some d → a.tmps[d]? = some (vs i)
  rest : ∀ t, (∀ i o, listed.getD i false = true → l[i]? = some o → o.dst ≠ some t) → a.tmps[t]? = a0.tmps[t]?
  cst : ∀ i c, C[i]? = some (.is c) → (listed.getD i false = true ∨ U.contains i = true ∨ isT l i = true) → vs i = c

def rem (l : List Oper) (listed : Array Bool) : List Nat := (tailsOf l).filter fun j => !listed.getD j true
def Phase (P : Program) (Rd : World → Prop) (l : List Oper) (w0 : World) (base : Nat) (a0 : Act) (listed : Array Bool) (W : World) (vs : Nat → Value) (C : List Kn) (U D : List Nat) (Q : Exit → Act → World → Prop) : Prop :=
  ((∀ i, isT l i = true → listed.getD i false = false) ∧ Ext w0 W ∧ (∀ i k, C[i]? = some k → listed.getD i false = true → k.fact base (vs i) W) ∧ Pairs D l.length listed vs) ∨
  ((∀ i, i < l.length → isT l i = false → U.contains i = false → listed.getD i false = true) ∧ Rd W ∧ TailRun P Rd l (putsFrom l vs 0 a0) (fun W' => Q .normal (putsFrom l vs 0 a0) W') (rem l listed) W)
end

theorem isT_some {l : List Oper} {j : Nat} {o : Oper} (h : l[j]? = some o) : isT l j = o.dst.isNone := by simp [isT, h]
theorem mem_tails {l : List Oper} {j : Nat} : j ∈ tailsOf l ↔ isT l j = true := by
  unfold tailsOf
  rw [List.mem_filter, List.mem_range]
  constructor
  · exact fun h => h.2
  · intro h
    refine ⟨?_, h⟩
    cases hx : l[j]? with
    | none => simp [isT, hx] at h
    | some o => exact (List.getElem?_eq_some_iff.1 hx).1
theorem mem_rem {l : List Oper} {listed : Array Bool} {j : Nat} : j ∈ rem l listed ↔ isT l j = true ∧ listed.getD j true = false := by
  unfold rem
  rw [List.mem_filter, mem_tails]
  simp
theorem rem_sorted (l : List Oper) (listed : Array Bool) : (rem l listed).Pairwise (· < ·) := (List.pairwise_lt_range.filter _).filter _
theorem rem_set {l : List Oper} {listed : Array Bool} {j : Nat} (hj : j < listed.size) : rem l (listed.setIfInBounds j true) = (rem l listed).filter fun i => i != j := by
  unfold rem
  rw [List.filter_filter]
  apply List.filter_congr
  intro i hi
  by_cases hij : i = j
  · subst hij
    simp [Array.getElem?_setIfInBounds_self_of_lt hj]
  · rw [getD_set_ne true (Ne.symm hij)]
    simp [hij]
theorem filter_ne {j : Nat} {r : List Nat} (h : (j :: r).Pairwise (· < ·)) : (j :: r).filter (fun i => i != j) = r := by
  rw [List.filter_cons]
  simp only [bne_self_eq_false, Bool.false_eq_true, if_false]
  rw [List.filter_eq_self]
  intro i hi
  have := (List.pairwise_cons.1 h).1 i hi
  simp
  omega
theorem holdsC {N : Nat} {L : Env} {base : Nat} {C : List Kn} {ρ : Tmp → Value} {W : World} : ∀ (r : List (Tmp × Option Nat)), (r.all fun x => match x.2 with | some i => (match C[i]? with | some (.is _) => true | _ => false) | none => true) = true →
    (∀ t, (t, none) ∈ r → ρ t = envN N L t) → (∀ t i c, (t, some i) ∈ r → C[i]? = some (.is c) → ρ t = c) → Holds (envN N L) (C.map (Kn.fact base)) ρ W r
  | [], _, _, _ => trivial
  | (t, none) :: r, ha, h1, h2 => by
    simp only [List.all_cons, Bool.and_eq_true] at ha
    exact ⟨h1 t List.mem_cons_self, holdsC r ha.2 (fun t ht => h1 t (List.mem_cons_of_mem _ ht)) fun t i c ht => h2 t i c (List.mem_cons_of_mem _ ht)⟩
  | (t, some i) :: r, ha, h1, h2 => by
    simp only [List.all_cons, Bool.and_eq_true] at ha
    refine ⟨?_, holdsC r ha.2 (fun t ht => h1 t (List.mem_cons_of_mem _ ht)) fun t i c ht => h2 t i c (List.mem_cons_of_mem _ ht)⟩
    have h3 := ha.1
    cases hc : C[i]? with
    | none => simp [hc] at h3
    | some k =>
      cases k with
      | new _ _ => simp [hc] at h3
      | is c =>
        simp only [List.getD_eq_getElem?_getD, List.getElem?_map, hc, Option.map_some, Option.getD_some, Kn.fact]
        exact h2 t i c List.mem_cons_self hc

section
variable {P : Program} {Rd : World → Prop} {w0 : World} {base N : Nat} {L : Env}
theorem wpAny_of_T {l : List Oper} {S : List Src} {C : List Kn} {U D : List Nat} {Q : Exit → Act → World → Prop} (hD : allocsOk l D = true) (hDC : ∀ j ∈ D, ∃ cs T, C[j]? = some (.new cs T)) (hok : okT l N S U = true)
    (hC : C.length = l.length) (hRd : ∀ W, Ext w0 W → Rd W)
    (hop : ∀ j o s, l[j]? = some o → S[j]? = some s → ∃ k, C[j]? = some k ∧ (o.dst.isNone = true → k = .is undef) ∧ (o.dst.isNone = false → if U.contains j = true then pureOk P Rd N L (C.take j) o s k else opOk P Ext w0 (envN N L) ((C.take j).map (Kn.fact base)) o s (k.fact base)))
    (hfin : ∀ W, Ext w0 W → finP (fun af W => TailRun P Rd l af (fun W' => Q .normal af W') (tailsOf l) W) D l (C.map (Kn.fact base)) 0 [] (actOf ds N L) W) :
    ∀ (fuel : Nat) (listed : Array Bool) (a : Act) (W : World) (vs : Nat → Value), InvT l (actOf ds N L) listed a vs C U → Phase P Rd l w0 base (actOf ds N L) listed W vs C U D Q → fuel = left l.toArray listed → wpAny P .any l.toArray Q fuel listed a W := by
  simp only [okT, Bool.and_eq_true] at hok
  obtain ⟨⟨⟨⟨⟨hsrc, hdst⟩, hedge⟩, htail⟩, hst⟩, hUT⟩ := hok
  have hN : (actOf ds N L).tmps.size = N := size_actOf N L
  have hanc : ∀ j i, ((masks l #[]).getD j 0).testBit i = true → Anc l.toArray i j := masks_anc l.toArray l #[] (fun j => by simp) (fun j i h => by simp at h)
  have hsl : S.length = l.length := srcs_len l S 0 hsrc
  have frame : ∀ (listed : Array Bool) (a : Act) (vs : Nat → Value), InvT l (actOf ds N L) listed a vs C U → (∀ i, i < l.length → listed.getD i true = true) → putsFrom l vs 0 (actOf ds N L) = a := by
    intro listed a vs inv hall
    have hall' : ∀ i, i < l.length → listed.getD i false = true := fun i hi => by
      cases hx : listed.getD i false with
      | true => rfl
      | false => have := getD_in (by have := inv.size; omega) hx; rw [hall i hi] at this; cases this
    have hsz := putsFrom_size l vs 0 (actOf ds N L)
    have ht : (putsFrom l vs 0 (actOf ds N L)).tmps = a.tmps := by
      refine Array.ext_getElem? fun t => ?_
      by_cases hw : ∃ (i : Nat) (o : Oper), l[i]? = some o ∧ o.dst = some t
      · obtain ⟨i, o, hi, ho⟩ := hw
        have hin : i < l.length := (List.getElem?_eq_some_iff.1 hi).1
        rw [putsFrom_some l vs 0 (actOf ds N L) t i o hdst hN hi ho, Nat.zero_add]
        exact (inv.vals i o t (hall' i hin) hi ho).symm
      · rw [putsFrom_none l vs 0 (actOf ds N L) t (fun o ho he => by
          obtain ⟨i, hi⟩ := List.mem_iff_getElem?.1 ho
          exact hw ⟨i, o, hi, he⟩)]
        refine (inv.rest t fun i o _ hi he => hw ⟨i, o, hi, he⟩).symm
    have hd := hsz.2.trans inv.defers.symm
    generalize putsFrom l vs 0 (actOf ds N L) = b at *
    cases a; cases b
    simp_all
  -- the stores begin
  have begin_ : ∀ (listed : Array Bool) (a : Act) (W : World) (vs : Nat → Value), InvT l (actOf ds N L) listed a vs C U → (∀ i, isT l i = true → listed.getD i false = false) → Ext w0 W → (∀ i k, C[i]? = some k → listed.getD i false = true → k.fact base (vs i) W) → Pairs D l.length listed vs →
      (∀ i, i < l.length → isT l i = false → U.contains i = false → listed.getD i false = true) → TailRun P Rd l (putsFrom l vs 0 (actOf ds N L)) (fun W' => Q .normal (putsFrom l vs 0 (actOf ds N L)) W') (rem l listed) W := by
    intro listed a W vs inv hT hR hf hp hall
    have hrem : rem l listed = tailsOf l := by
      unfold rem
      rw [List.filter_eq_self]
      intro i hi
      have h1 := mem_tails.1 hi
      have h2 := hT i h1
      have hil : i < l.length := by
        cases hx : l[i]? with
        | none => simp [isT, hx] at h1
        | some o => exact (List.getElem?_eq_some_iff.1 hx).1
      rw [getD_in (by have := inv.size; omega) h2]
      rfl
    rw [hrem]
    have hDl : ∀ i, i ∈ D → listed.getD i false = true := fun i hi => by
      obtain ⟨cs, T, hc⟩ := hDC i hi
      have hil : i < l.length := by rw [← hC]; exact (List.getElem?_eq_some_iff.1 hc).1
      obtain ⟨o, ho⟩ : ∃ o, l[i]? = some o := ⟨l[i], by simp [hil]⟩
      obtain ⟨s, hs⟩ : ∃ s, S[i]? = some s := ⟨S[i]'(by omega), by simp [show i < S.length by omega]⟩
      obtain ⟨k, hk, hk1, hk2⟩ := hop i o s ho hs
      obtain rfl : k = .new cs T := Option.some.inj (hk.symm.trans hc)
      refine hall i hil ?_ ?_
      · rw [isT_some ho]
        cases hx : o.dst.isNone with
        | false => rfl
        | true => exact absurd (hk1 hx) (fun e => by cases e)
      · cases hx : U.contains i with
        | false => rfl
        | true =>
          have hdn : o.dst.isNone = false := by
            cases hy : o.dst.isNone with
            | false => rfl
            | true => exact absurd (hk1 hy) (fun e => by cases e)
          have := hk2 hdn
          rw [if_pos hx] at this
          obtain ⟨_, c, hc', _⟩ := this
          cases hc'
    refine fin_runP (D := D) l (C.map (Kn.fact base)) (actOf ds N L) vs 0 [] (hfin W hR) (by simp [hC]) (fun i hi => ?_) (fun u hu => by cases hu) (fun i k hi hk hin hkn hne => hp i k hi hk (hDl i hi) (hDl k hk) (by omega) (by omega) hne)
    rw [Nat.zero_add]
    obtain ⟨k, hk⟩ : ∃ k, C[i]? = some k := ⟨C[i]'(by omega), by simp [show i < C.length by omega]⟩
    have e1 : (C.map (Kn.fact base)).getD i (fun _ _ => True) = k.fact base := by simp [hk]
    rw [e1]
    by_cases hli : listed.getD i false = true
    · exact hf i k hk hli
    · obtain ⟨o, ho⟩ : ∃ o, l[i]? = some o := ⟨l[i], by simp [hi]⟩
      obtain ⟨s, hs⟩ : ∃ s, S[i]? = some s := ⟨S[i]'(by omega), by simp [show i < S.length by omega]⟩
      obtain ⟨k', hk', hk1, hk2⟩ := hop i o s ho hs
      obtain rfl : k' = k := Option.some.inj (hk'.symm.trans hk)
      cases hx : o.dst.isNone with
      | true =>
        have hkk := hk1 hx
        rw [hkk]
        exact inv.cst i undef (hkk ▸ hk) (.inr (.inr (by rw [isT_some ho]; exact hx)))
      | false =>
        have hiU : U.contains i = true := by
          cases hy : U.contains i with
          | true => rfl
          | false => exact absurd (hall i hi (by rw [isT_some ho]; exact hx) hy) hli
        have := hk2 hx
        rw [if_pos hiU] at this
        obtain ⟨_, c, hc', _⟩ := this
        rw [hc']
        exact inv.cst i c (hc' ▸ hk) (.inr (.inl hiU))
  intro fuel
  induction fuel with
  | zero =>
    intro listed a W vs inv ph hf
    have hall : ∀ i, i < l.length → listed.getD i true = true := fun i hi => by
      cases hx : listed.getD i true with
      | true => rfl
      | false =>
        have := left_pos (ops := l.toArray) (by simpa using hi) hx
        omega
    refine ⟨?_, ?_⟩
    · cases hr : Region.ready .any l.toArray listed with
      | nil => rfl
      | cons x xs =>
        obtain ⟨hu, o, ho, _⟩ := mem_ready.1 (show x ∈ Region.ready .any l.toArray listed by rw [hr]; exact List.mem_cons_self)
        have hxl : x < l.length := by have := (Array.getElem?_eq_some_iff.1 ho).1; simpa using this
        rw [hall x hxl] at hu
        cases hu
    · have hrem : rem l listed = [] := by
        rw [List.eq_nil_iff_forall_not_mem]
        intro j hj
        obtain ⟨h1, h2⟩ := mem_rem.1 hj
        have hjl : j < l.length := by
          cases hx : l[j]? with
          | none => simp [isT, hx] at h1
          | some o => exact (List.getElem?_eq_some_iff.1 hx).1
        rw [hall j hjl] at h2
        cases h2
      have ht : TailRun P Rd l (putsFrom l vs 0 (actOf ds N L)) (fun W' => Q .normal (putsFrom l vs 0 (actOf ds N L)) W') (rem l listed) W := by
        rcases ph with ⟨h1, h2, h3, h4⟩ | ⟨_, _, h2⟩
        · refine begin_ listed a W vs inv h1 h2 h3 h4 fun i hi _ _ => ?_
          cases hx : listed.getD i false with
          | true => rfl
          | false => have := getD_in (by have := inv.size; omega) hx; rw [hall i hi] at this; cases this
        · exact h2
      rw [hrem, frame listed a vs inv hall] at ht
      exact ht
  | succ fuel ih =>
    intro listed a W vs inv ph hf
    have hs : listed.size = l.length := inv.size
    refine ⟨fun hr => ?_, fun j hj => ?_⟩
    · exfalso
      by_cases hA : ∀ i, i < l.length → listed.getD i true = true
      · have : left l.toArray listed = 0 := by
          unfold left
          rw [List.countP_eq_zero]
          intro i hi
          have := hA i (by simpa using List.mem_range.1 hi)
          simp only [this, Bool.not_true, Bool.false_eq_true, not_false_iff]
        omega
      · obtain ⟨i0, hi0, hu0⟩ : ∃ i, i < l.length ∧ listed.getD i true = false := by
          refine Classical.byContradiction fun hc => hA fun i hi => ?_
          cases hx : listed.getD i true with
          | true => rfl
          | false => exact absurd ⟨i, hi, hx⟩ hc
        obtain ⟨j, hj⟩ := ready_of_left hedge (listed := listed) i0 hi0 hu0
        rw [hr] at hj; cases hj
    · obtain ⟨hju, oj, hoj, _⟩ := mem_ready.1 hj
      have hoj' : l[j]? = some oj := by simpa using hoj
      have hjl : j < l.length := (List.getElem?_eq_some_iff.1 hoj').1
      have hjs : j < listed.size := by omega
      have hnl : ¬ listed.getD j false = true := fun h => by rw [getD_false_of_true h] at hju; cases hju
      obtain ⟨s, hsj, hso⟩ := srcs_get l S 0 hsrc j oj hoj'
      rw [Nat.zero_add] at hso
      simp only [srcOk, Bool.and_eq_true] at hso
      obtain ⟨hg, hrd⟩ := hso
      have hg' : guardOf l.toArray oj = some s.guard := by simpa using hg
      have readS : ∀ t i, (t, some i) ∈ s.reads → i < j ∧ listed.getD i false = true ∧ ∃ oi, l[i]? = some oi ∧ oi.dst = some t := fun t i hti => by
        have h1 := List.all_eq_true.1 hrd (t, some i) hti
        simp only [readOk, Bool.and_eq_true, decide_eq_true_eq, beq_iff_eq] at h1
        obtain ⟨⟨hij, hbit⟩, hdi⟩ := h1
        refine ⟨hij, anc_of_ready inv.closed hj (hanc j i hbit), ?_⟩
        cases hx : l[i]? with
        | none => rw [hx] at hdi; cases hdi
        | some oi => rw [hx] at hdi; exact ⟨oi, rfl, hdi⟩
      have readN : ∀ t, (t, none) ∈ s.reads → a.tmps[t]? = (actOf ds N L).tmps[t]? := fun t htn => inv.rest t fun i o hli hio hd => by
        have h1 := List.all_eq_true.1 hrd (t, none) htn
        simp only [readOk] at h1
        have h3 := List.all_eq_true.1 h1 (o, i) (by
          rw [List.mem_iff_getElem?]
          refine ⟨i, ?_⟩
          rw [List.getElem?_zipIdx]
          simp [hio])
        simp only [hd, bne_self_eq_false, Bool.false_or, Bool.or_eq_true, beq_iff_eq] at h3
        have hlj : listed.getD j false = true := by
          rcases h3 with h3 | h3
          · exact inv.closed.anc (hanc i j h3) hli
          · rw [← h3]; exact hli
        exact hnl hlj
      have slotS : ∀ t i, (t, some i) ∈ s.reads → slots a t = vs i := fun t i hti => by
        obtain ⟨_, hli, oi, hoi, hdi⟩ := readS t i hti
        have hv := inv.vals i oi t hli hoi hdi
        simp only [slots, Array.getD_eq_getD_getElem?, hv, Option.getD_some]
      have slotN : ∀ t, (t, none) ∈ s.reads → slots a t = envN N L t := fun t htn => by
        rw [← slots_actOf (ds := ds)]
        simp only [slots, Array.getD_eq_getD_getElem?, readN t htn]
      have hlist : ∀ i, (listed.setIfInBounds j true).getD i false = true → i = j ∨ listed.getD i false = true := fun i hi => by
        by_cases hij : j = i
        · exact .inl hij.symm
        · rw [getD_set_ne false hij] at hi; exact .inr hi
      obtain ⟨k, hk, hk1, hk2⟩ := hop j oj s hoj' hsj
      cases hdn : oj.dst.isNone with
      | true =>
        have hTj : isT l j = true := by rw [isT_some hoj']; exact hdn
        have hdnone : oj.dst = none := by simpa using hdn
        have htj := List.all_eq_true.1 htail j (List.mem_range.2 hjl)
        simp only [hTj, Bool.not_true, Bool.false_or] at htj
        have hall : ∀ i, i < l.length → isT l i = false → U.contains i = false → listed.getD i false = true := fun i hi h1 h2 => by
          have h3 := List.all_eq_true.1 htj i (List.mem_range.2 hi)
          simp only [Bool.or_eq_true, beq_iff_eq] at h3
          rcases h3 with h3 | h3
          · rw [h3, hTj] at h1; cases h1
          · rw [h1] at h3
            simp only [Bool.false_eq_true, if_false, h2, Bool.false_or] at h3
            exact anc_of_ready inv.closed hj (hanc j i h3)
        have hrun : TailRun P Rd l (putsFrom l vs 0 (actOf ds N L)) (fun W' => Q .normal (putsFrom l vs 0 (actOf ds N L)) W') (rem l listed) W := by
          rcases ph with ⟨h1, h2, h3, h4⟩ | ⟨_, _, h2⟩
          · exact begin_ listed a W vs inv h1 h2 h3 h4 hall
          · exact h2
        have hjr : j ∈ rem l listed := mem_rem.2 ⟨hTj, hju⟩
        have hsorted := rem_sorted l listed
        have hset := rem_set (l := l) (listed := listed) hjs
        cases hr : rem l listed with
        | nil => rw [hr] at hjr; cases hjr
        | cons h r =>
          rw [hr] at hrun hjr hsorted hset
          have hhj : h = j := by
            rcases List.mem_cons.1 hjr with e | e
            · exact e.symm
            · exfalso
              have hlt := (List.pairwise_cons.1 hsorted).1 j e
              obtain ⟨hTh, hlh⟩ := mem_rem.1 (show h ∈ rem l listed by rw [hr]; exact List.mem_cons_self)
              have h3 := List.all_eq_true.1 htj h (List.mem_range.2 (by omega))
              simp only [Bool.or_eq_true, beq_iff_eq, hTh, if_true, decide_eq_true_eq] at h3
              rcases h3 with h3 | h3 | h3
              · omega
              · omega
              · have := anc_of_ready inv.closed hj (hanc j h h3)
                rw [getD_false_of_true this] at hlh
                cases hlh
          subst hhj
          rw [filter_ne hsorted] at hset
          obtain ⟨o', W', ho', hrunj, hrdj, hrest⟩ := hrun
          obtain rfl : o' = oj := Option.some.inj (ho'.symm.trans hoj')
          have hstj := List.all_eq_true.1 hst h (List.mem_range.2 hjl)
          simp only [hTj, Bool.not_true, Bool.false_or, hoj', hsj, Bool.and_eq_true] at hstj
          obtain ⟨⟨⟨hs1, hs2⟩, hs3⟩, hs4⟩ := hstj
          have hcong : execOp a.eval o' = execOp (putsFrom l vs 0 (actOf ds N L)).eval o' := by
            refine execOp_congr o' (fun cs b hc => by rw [hc] at hs3; cases hs3) fun x hx => ?_
            cases x with
            | tmp t =>
              have h5 := List.all_eq_true.1 hs4 (.tmp t) (Array.mem_toList_iff.2 hx)
              obtain ⟨⟨t', si⟩, hm, hb⟩ := List.any_eq_true.1 h5
              have ht' : t' = t := Nat.eq_of_beq_eq_true hb
              subst ht'
              show a.tmps.getD t' undef = (putsFrom l vs 0 (actOf ds N L)).tmps.getD t' undef
              cases si with
              | none =>
                have h6 := List.all_eq_true.1 hs1 (t', none) hm
                rw [Array.getD_eq_getD_getElem?, Array.getD_eq_getD_getElem?, readN t' hm, putsFrom_none l vs 0 (actOf ds N L) t' fun o ho he => by
                  have := List.all_eq_true.1 h6 o ho
                  rw [he] at this
                  simp at this]
              | some i =>
                obtain ⟨_, hli, oi, hoi, hdi⟩ := readS t' i hm
                rw [Array.getD_eq_getD_getElem?, Array.getD_eq_getD_getElem?, inv.vals i oi t' hli hoi hdi, putsFrom_some l vs 0 (actOf ds N L) t' i oi hdst hN hoi hdi, Nat.zero_add]
            | const v => rfl
            | global g => rfl
            | func f => rfl
          refine wpOp_of_wanted hoj ?_
          have hgn : s.guard = none := by simpa using hs2
          rw [wanted_guard hg', hgn]
          simp only [gOk, if_true]
          unfold Oper.wp
          rw [hcong, hrunj]
          show wpAny P .any l.toArray Q fuel (listed.setIfInBounds h true) (a.put o'.dst undef) W'
          rw [hdnone]
          refine ih _ a W' vs ⟨by simp [inv.size], inv.closed.set hj, inv.defers, inv.asize, fun i o d hi hio hd => ?_, fun t ht => ?_, fun i c hc hi => ?_⟩ (.inr ⟨fun i hi h1 h2 => getD_set_true (hall i hi h1 h2), hrdj, ?_⟩) ?_
          · rcases hlist i hi with e | e
            · subst e
              obtain rfl : o = o' := Option.some.inj (hio.symm.trans hoj')
              rw [hdnone] at hd; cases hd
            · exact inv.vals i o d e hio hd
          · exact inv.rest t fun i o hi hio => ht i o (getD_set_true hi) hio
          · refine inv.cst i c hc ?_
            rcases hi with hi | hi
            · rcases hlist i hi with e | e
              · exact .inr (.inr (e ▸ hTj))
              · exact .inl e
            · exact .inr hi
          · rw [hset]; exact hrest
          · have := left_set (ops := l.toArray) hju (by rw [List.size_toArray]; exact inv.size)
            omega
      | false =>
        have hTj : isT l j = false := by rw [isT_some hoj']; exact hdn
        have hkk := hk2 hdn
        have hrem' : rem l (listed.setIfInBounds j true) = rem l listed := by
          rw [rem_set hjs, List.filter_eq_self]
          intro i hi
          have := (mem_rem.1 hi).1
          simp only [bne_iff_ne, ne_eq]
          intro e
          rw [e, hTj] at this
          cases this
        have htl : ∀ {P : Nat → Prop}, (∀ i, isT l i = true → listed.getD i false = false) → ∀ i, isT l i = true → (listed.setIfInBounds j true).getD i false = false := fun h i hi => by
          have hij : j ≠ i := fun e => by rw [e, hi] at hTj; cases hTj
          rw [getD_set_ne false hij]
          exact h i hi
        cases hU : U.contains j with
        | true =>
          rw [if_pos hU] at hkk
          obtain ⟨hseen, c, rfl, hrun⟩ := hkk
          have hseen' := hseen
          simp only [seen, Bool.and_eq_true] at hseen'
          have htk : ∀ i, i < j → (C.take j)[i]? = C[i]? := fun i hi => by rw [List.getElem?_take, if_pos hi]
          have hh : Holds (envN N L) ((C.take j).map (Kn.fact base)) (slots a) W s.reads := holdsC s.reads hseen'.1.1.2 slotN fun t i c hti hc => by
            obtain ⟨hij, hli, _⟩ := readS t i hti
            rw [htk i hij] at hc
            rw [slotS t i hti]
            exact inv.cst i c hc (.inl hli)
          have hvj : vs j = c := inv.cst j c hk (.inr (.inl hU))
          have hrdW : Rd W := by
            rcases ph with ⟨_, h2, _, _⟩ | ⟨_, h2, _⟩
            · exact hRd W h2
            · exact h2
          have hr := hrun W hrdW
          rw [← seen_guard hseen hh, ← seen_look hseen hh, ← eval_look] at hr
          have next : wpAny P .any l.toArray Q fuel (listed.setIfInBounds j true) (a.put oj.dst c) W := by
            refine ih _ _ W vs ⟨by simp [inv.size], inv.closed.set hj, (put_defers _ _ _).trans inv.defers, (put_size _ _ _).trans inv.asize, fun i o d hi hio hd => ?_, fun t ht => ?_, fun i c' hc hi => ?_⟩ ?_ ?_
            · by_cases hij : i = j
              · subst hij
                obtain rfl : o = oj := Option.some.inj (hio.symm.trans hoj')
                rw [hd, put_get_eq _ _ _ (by rw [inv.asize, hN]; exact dsts_lt l hdst i o d hoj' hd), hvj]
              · rcases hlist i hi with e | e
                · exact absurd e hij
                · rw [put_get_ne _ _ _ _ (dsts_ne l hdst i j o oj d hio hoj' hij hd)]
                  exact inv.vals i o d e hio hd
            · rw [put_get_ne _ _ _ _ (ht j oj (by simp [Array.getElem?_setIfInBounds_self_of_lt hjs]) hoj')]
              exact inv.rest t fun i o hi hio => ht i o (getD_set_true hi) hio
            · refine inv.cst i c' hc ?_
              rcases hi with hi | hi
              · rcases hlist i hi with e | e
                · exact .inr (.inl (e ▸ hU))
                · exact .inl e
              · exact .inr hi
            · rcases ph with ⟨h1, h2, h3, h4⟩ | ⟨h1, h1r, h2⟩
              · refine .inl ⟨htl (P := fun _ => True) h1, h2, fun i k' hk' hi => ?_, fun i k' hi hk' hli hlk hin hkn hne => ?_⟩
                · rcases hlist i hi with e | e
                  · subst e
                    obtain rfl : k' = .is c := Option.some.inj (hk'.symm.trans hk)
                    exact hvj
                  · exact h3 i k' hk' e
                · have nj : ∀ i, i ∈ D → i ≠ j := fun i hi e => by
                    obtain ⟨cs, T, hc⟩ := hDC i hi
                    rw [e, hk] at hc
                    cases hc
                  exact h4 i k' hi hk' ((hlist i hli).resolve_left (nj i hi)) ((hlist k' hlk).resolve_left (nj k' hk')) hin hkn hne
              · refine .inr ⟨fun i hi e1 e2 => getD_set_true (h1 i hi e1 e2), h1r, ?_⟩
                rw [hrem']
                exact h2
            · have := left_set (ops := l.toArray) hju (by rw [List.size_toArray]; exact inv.size)
              omega
          refine wpOp_of_wanted hoj ?_
          rw [wanted_guard hg']
          by_cases hb : gOk s.guard (slots a) = true
          · rw [if_pos hb]
            have hr' : (execOp a.eval oj).run P W = .ok (.value c) W := by
              cases hgd' : s.guard with
              | none => rw [hgd'] at hr; exact hr
              | some db =>
                rw [hgd'] at hr hb
                exact (if_pos hb).mp hr
            unfold Oper.wp
            rw [hr']
            exact next
          · rw [if_neg hb]
            have hc' : undef = c := by
              cases hgd' : s.guard with
              | none => rw [hgd'] at hb; exact absurd rfl hb
              | some db =>
                rw [hgd'] at hr hb
                exact (if_neg hb).mp hr
            rw [hc']
            exact next
        | false =>
          rw [if_neg (by rw [hU]; decide)] at hkk
          obtain ⟨h1, h2, h3, h4⟩ : (∀ i, isT l i = true → listed.getD i false = false) ∧ Ext w0 W ∧ (∀ i k, C[i]? = some k → listed.getD i false = true → k.fact base (vs i) W) ∧ Pairs D l.length listed vs := by
            rcases ph with h | ⟨h1, _⟩
            · exact h
            · exact absurd (h1 j hjl hTj hU) hnl
          have holds : ∀ (r : List (Tmp × Option Nat)), (∀ x ∈ r, x ∈ s.reads) → Holds (envN N L) ((C.take j).map (Kn.fact base)) (slots a) W r := by
            intro r
            induction r with
            | nil => intro _; trivial
            | cons x r ihr =>
              intro hr
              obtain ⟨t, si⟩ := x
              have hm := hr _ List.mem_cons_self
              cases si with
              | none => exact ⟨slotN t hm, ihr fun x hx => hr x (List.mem_cons_of_mem _ hx)⟩
              | some i =>
                refine ⟨?_, ihr fun x hx => hr x (List.mem_cons_of_mem _ hx)⟩
                obtain ⟨hij, hli, _⟩ := readS t i hm
                rw [slotS t i hm]
                obtain ⟨ki, hki⟩ : ∃ ki, C[i]? = some ki := ⟨C[i]'(by omega), by simp [show i < C.length by omega]⟩
                have e1 : ((C.take j).map (Kn.fact base)).getD i (fun _ _ => True) = ki.fact base := by
                  simp [hij, hki]
                rw [e1]
                exact h3 i ki hki hli
          have hopj := hkk (slots a) W h2 (holds s.reads fun _ h => h)
          have next : ∀ v W', Ext W W' → (k.fact base v W' ∧ (j ∈ D → v = .pointer (some ⟨W.heap.size, 0, none⟩))) → wpAny P .any l.toArray Q fuel (listed.setIfInBounds j true) (a.put oj.dst v) W' := by
            intro v W' hR ⟨hφ, hfresh⟩
            refine ih _ _ W' (fun i => if i = j then v else vs i) ⟨by simp [inv.size], inv.closed.set hj, (put_defers _ _ _).trans inv.defers, (put_size _ _ _).trans inv.asize, fun i o d hi hio hd => ?_, fun t ht => ?_, fun i c' hc hi => ?_⟩ (.inl ⟨htl (P := fun _ => True) h1, Rely.Ext.trans h2 hR, fun i k' hk' hi => ?_, fun i k' hi hk' hli hlk hin hkn hne => ?_⟩) ?_
            · by_cases hij : i = j
              · subst hij
                obtain rfl : o = oj := Option.some.inj (hio.symm.trans hoj')
                rw [hd, put_get_eq _ _ _ (by rw [inv.asize, hN]; exact dsts_lt l hdst i o d hoj' hd)]
                simp
              · simp only [hij, if_false]
                rcases hlist i hi with e | e
                · exact absurd e hij
                · rw [put_get_ne _ _ _ _ (dsts_ne l hdst i j o oj d hio hoj' hij hd)]
                  exact inv.vals i o d e hio hd
            · rw [put_get_ne _ _ _ _ (ht j oj (by simp [Array.getElem?_setIfInBounds_self_of_lt hjs]) hoj')]
              exact inv.rest t fun i o hi hio => ht i o (getD_set_true hi) hio
            · by_cases hij : i = j
              · subst hij
                obtain rfl : k = .is c' := Option.some.inj (hk.symm.trans hc)
                have hv : v = c' := hφ
                simpa using hv
              · simp only [hij, if_false]
                refine inv.cst i c' hc ?_
                rcases hi with hi | hi
                · exact .inl ((hlist i hi).resolve_left hij)
                · exact .inr hi
            · by_cases hij : i = j
              · subst hij
                obtain rfl : k' = k := Option.some.inj (hk'.symm.trans hk)
                simpa using hφ
              · simp only [hij, if_false]
                exact Kn.stable base k' _ _ _ hR (h3 i k' hk' ((hlist i hi).resolve_left hij))
            · have old : ∀ m, m ∈ D → listed.getD m false = true → j ∈ D → vs m ≠ v := fun m hm hl hjD he => by
                obtain ⟨cs, T, hc⟩ := hDC m hm
                obtain ⟨g, hg1, _, hg2⟩ := h3 m _ hc hl
                rw [hg1, hfresh hjD] at he
                simp only [Value.pointer.injEq, Option.some.injEq, Addr.mk.injEq, and_true] at he
                have := row_lt hg2
                omega
              by_cases hij : i = j
              · by_cases hkj : k' = j
                · exact absurd (hij.trans hkj.symm) hne
                · simp only [hij, hkj, if_true, if_false]
                  exact (old k' hk' ((hlist k' hlk).resolve_left hkj) (hij ▸ hi)).symm
              · by_cases hkj : k' = j
                · simp only [hij, hkj, if_true, if_false]
                  exact old i hi ((hlist i hli).resolve_left hij) (hkj ▸ hk')
                · simp only [hij, hkj, if_false]
                  exact h4 i k' hi hk' ((hlist i hli).resolve_left hij) ((hlist k' hlk).resolve_left hkj) hin hkn hne
            · have := left_set (ops := l.toArray) hju (by rw [List.size_toArray]; exact inv.size)
              omega
          refine wpOp_of_wanted hoj ?_
          rw [wanted_guard hg']
          by_cases hb : gOk s.guard (slots a) = true
          · rw [if_pos hb]
            refine relyAt_wp (R := Ext) (W := W) (φ := fun v W' => k.fact base v W' ∧ (j ∈ D → v = .pointer (some ⟨W.heap.size, 0, none⟩))) (fun {_ _ _} h1 h2 => Rely.Ext.trans h1 h2) ?_ next
            cases hgd' : s.guard with
            | none => rw [hgd'] at hopj; exact relyAt_fresh hD hoj' hopj
            | some db =>
              rw [hgd'] at hopj hb
              exact relyAt_fresh hD hoj' ((if_pos hb).mp hopj)
          · rw [if_neg hb]
            refine next undef W (Ext.refl W) ⟨?_, fun hjD => absurd (noguard hD hjD hoj' hg') (fun e => hb (by rw [e]; rfl))⟩
            cases hgd' : s.guard with
            | none => rw [hgd'] at hb; exact absurd rfl hb
            | some db =>
              rw [hgd'] at hopj hb
              exact (if_neg hb).mp hopj
end

section
variable {P : Program} {Rd : World → Prop} {w0 : World} {base N : Nat} {L : Env} {U : List Nat} {F : List Kn → Prop} {o : Oper} {os : List Oper} {s : Src} {ss : List Src} {C : List Kn}
theorem t_store (hd : o.dst = none) (hk : stepsT P Rd w0 base N L U F os ss (C ++ [.is undef])) : stepsT P Rd w0 base N L U F (o :: os) (s :: ss) C :=
  ⟨.is undef, fun _ => rfl, (fun h => by rw [hd] at h; cases h), hk⟩
theorem t_op (k : Kn) (hu : U.contains C.length = false) (hs : seen C o s = true) (hg : gOk s.guard (get (envS N L (C.map Kn.val) s.reads)) = true) (hd : o.dst.isNone = false)
    (h : ∀ W, Ext w0 W → relyUpon P Ext W (k.fact base) ((execOp (Rely.look (get (envS N L (C.map Kn.val) s.reads))) o).run P W))
    (hk : stepsT P Rd w0 base N L U F os ss (C ++ [k])) : stepsT P Rd w0 base N L U F (o :: os) (s :: ss) C :=
  ⟨k, (fun hn => by rw [hd] at hn; cases hn), (fun _ => by
    rw [if_neg (by rw [hu]; decide)]
    intro ρ W hR hh
    rw [seen_guard hs hh]
    refine guarded_pos hg ?_
    unfold relyAt
    rw [seen_look hs hh]
    exact h W hR), hk⟩
/-- a value read out of what no store of the region touches, of an operation that may come late -/
theorem t_readU (v : Value) (hu : U.contains C.length = true) (hs : seen C o s = true) (hg : gOk s.guard (get (envS N L (C.map Kn.val) s.reads)) = true) (hd : o.dst.isNone = false)
    (h : ∀ W, Rd W → (execOp (Rely.look (get (envS N L (C.map Kn.val) s.reads))) o).run P W = .ok (.value v) W)
    (hk : stepsT P Rd w0 base N L U F os ss (C ++ [.is v])) : stepsT P Rd w0 base N L U F (o :: os) (s :: ss) C :=
  ⟨.is v, (fun hn => by rw [hd] at hn; cases hn), (fun _ => by
    rw [if_pos hu]
    exact ⟨hs, v, rfl, fun W hW => guarded_pos hg (h W hW)⟩), hk⟩
theorem t_read (v : Value) (hu : U.contains C.length = false) (hs : seen C o s = true) (hg : gOk s.guard (get (envS N L (C.map Kn.val) s.reads)) = true) (hd : o.dst.isNone = false)
    (h : ∀ W, Ext w0 W → (execOp (Rely.look (get (envS N L (C.map Kn.val) s.reads))) o).run P W = .ok (.value v) W)
    (hk : stepsT P Rd w0 base N L U F os ss (C ++ [.is v])) : stepsT P Rd w0 base N L U F (o :: os) (s :: ss) C :=
  t_op (.is v) hu hs hg hd (fun W hR => by rw [h W hR]; exact ⟨Ext.refl _, rfl⟩) hk
theorem t_nil (h : F C) : stepsT P Rd w0 base N L U F [] ss C := by cases ss <;> exact h
end
/-- the stores, one after the other, seen from what is known of the slots -/
def TailEnv (P : Program) (Rd : World → Prop) (l : List Oper) (N : Nat) (L : Env) (K : World → Prop) : List Nat → World → Prop
  | [], W => K W
  | j :: r, W => ∃ o W', l[j]? = some o ∧ (execOp (Rely.look (envN N L)) o).run P W = .ok .skip W' ∧ Rd W' ∧ TailEnv P Rd l N L K r W'
theorem tail_env {P : Program} {Rd : World → Prop} {l : List Oper} {N : Nat} {L : Env} {K : World → Prop} : ∀ (ts : List Nat) (W : World), TailEnv P Rd l N L K ts W → TailRun P Rd l (actOf ds N L) K ts W
  | [], _, h => h
  | j :: r, W, ⟨o, W', h1, h2, hr, h3⟩ => ⟨o, W', h1, by rw [eval_actOf]; exact h2, hr, tail_env r W' h3⟩
theorem te_nil {P : Program} {Rd : World → Prop} {l : List Oper} {N : Nat} {L : Env} {K : World → Prop} {W : World} (h : K W) : TailEnv P Rd l N L K [] W := h
theorem te_store {P : Program} {Rd : World → Prop} {l : List Oper} {N : Nat} {L : Env} {K : World → Prop} {w : World} {j : Nat} {r : List Nat} (o : Oper) (g : Nat) (old cs : Array Value) (t : TypeId) (hg : w.heap[g]? = some (.cells old t)) (ho : l[j]? = some o)
    (h : (execOp (Rely.look (envN N L)) o).run P w = .ok .skip (w.setRow g cs)) (hr : ∀ W : World, Puts w g W → Rd W) (k : ∀ W : World, Puts w g W → W.heap[g]? = some (.cells cs t) → TailEnv P Rd l N L K r W) : TailEnv P Rd l N L K (j :: r) w :=
  ⟨o, _, ho, h, hr _ (puts_setRow _ _ _), k _ (puts_setRow _ _ _) (setRow_heap _ _ _ _ _ _ hg)⟩
theorem any_regionT {P : Program} {id : Nat} {Q : Exit → Act → World → Prop} {N : Nat} {L : Env} {w : World} {l : List Oper} (Rd : World → Prop) (S : List Src) (D U : List Nat) (hD : allocsOk l D = true) (hm : P.follows .mixedOrders = true) (hok : okT l N S U = true) (hRd : ∀ W, Ext w W → Rd W)
    (h : ∀ F : List Kn → Prop, (∀ C, newsOf C 0 = D → (∀ W, Ext w W → fins w.heap.size (fun L W => TailEnv P Rd l N L (fun W' => Q .normal (actOf ds N L) W') (tailsOf l) W) l C [] L W) → F C) → stepsT P Rd w.drew w.heap.size N L U F l S []) :
    (Code.region id l.toArray true).wp P Q (actOf ds N L) w := by
  have hok' := hok
  simp only [okT, Bool.and_eq_true] at hok'
  obtain ⟨⟨⟨⟨⟨hsrc, hdst⟩, hedge⟩, htail⟩, hst⟩, hUT⟩ := hok'
  obtain ⟨C, hlen, _, hF, hO⟩ := stepsT_found l S [] (srcs_len l S 0 hsrc) (h (fun C => newsOf C 0 = D ∧ ∀ W, Ext w W → fins w.heap.size (fun L W => TailEnv P Rd l N L (fun W' => Q .normal (actOf ds N L) W') (tailsOf l) W) l C [] L W) (fun C h1 h2 => ⟨h1, h2⟩))
  have hCl : C.length = l.length := by simpa using hlen
  refine wp_region_any hm ?_
  have hcount : l.toArray.size = left l.toArray (Array.replicate l.toArray.size false) := by
    unfold left
    have : ∀ m, m ≤ l.toArray.size → (List.range m).countP (fun i => !(Array.replicate l.toArray.size false).getD i true) = m := by
      intro m
      induction m with
      | zero => intro _; simp
      | succ m ih =>
        intro hm
        rw [List.range_succ, List.countP_append, ih (by omega), List.countP_singleton]
        have : (Array.replicate l.toArray.size false).getD m true = false := by simp at hm ⊢; simp [show m < l.length by omega]
        simp only [this, Bool.not_false, if_true]
    exact (this _ (Nat.le_refl _)).symm
  refine wpAny_of_T (P := P) (w0 := w.drew) (base := w.heap.size) (N := N) (L := L) (S := S) (C := C) (U := U) (D := D) (Rd := Rd) hD (fun j hj => newsOf_get C C 0 (fun j => by rw [Nat.zero_add]) j (by rw [hF.1]; exact hj)) hok hCl (fun W hW => hRd W (Rely.Ext.trans (ext_drew w) hW)) (fun j o s hj hs => by simpa using hO j o s hj hs) (fun W hR => ?_) _ _ _ _ (fun i => match C[i]? with | some (.is c) => c | _ => undef) ⟨by simp, ?_, rfl, rfl, ?_, fun t _ => rfl, fun i c hc _ => by simp [hc]⟩ (.inl ⟨fun i _ => getD_replicate_false _ _, Ext.refl _, ?_, ?_⟩) hcount
  · have := hF.2 W (Rely.Ext.trans (ext_drew w) hR)
    have key := finP_fins (ds := ds) (Q := fun af W => TailRun P Rd l af (fun W' => Q .normal af W') (tailsOf l) W) (N := N) (base := w.heap.size) (W := W) (D := D) l C 0 [] L (fun i _ => by rw [hF.1]; simp)
    refine key ?_
    have mono : ∀ (os : List Oper) (C : List Kn) (acc : List Nat) (L : Env) (A B : Env → World → Prop), (∀ L W, A L W → B L W) → fins w.heap.size A os C acc L W → fins w.heap.size B os C acc L W := by
      intro os
      induction os with
      | nil => intro C acc L A B h hh; cases C <;> exact h _ _ hh
      | cons o os ih =>
        intro C acc L A B h hh
        cases C with
        | nil => exact h _ _ hh
        | cons k C =>
          cases k with
          | is c => exact ih C acc _ A B h hh
          | new cs T => exact fun g h1 h2 h3 => ih C _ _ A B h (hh g h1 h2 h3)
    exact mono l C [] L _ _ (fun L W h => tail_env _ _ h) this
  · intro j o ho hl
    rw [getD_replicate_false] at hl; cases hl
  · intro i o d hi; rw [getD_replicate_false] at hi; cases hi
  · intro i k _ hi; rw [getD_replicate_false] at hi; cases hi
  · intro i k _ _ hi; rw [getD_replicate_false] at hi; cases hi
end Go.Proofs.Ytfelfmchachljaa.Auto
end

/-! The laws of a walk by program inside the body of a range over a function. -/
section
namespace Go.Proofs.Ytfelfmchachljaa.Auto
open Go Go.RowKit
open Go.Proofs.Ytfelfmchachljaa.Rely
set_option linter.unusedVariables false
variable {ds : List Deferred} {Fe : Fence} {nf : Nat}

/-- a fence that asks nothing -/
structure Free (Fe : Fence) (nf : Nat) (P : Program) : Prop where
  fn : ∀ f, Fe.fn f
  dp : Fe.depth.isSome = true → 1 ≤ nf
  calls : ∀ {f : FuncId} {args : Array Value} {w : World} {T : Ending → World → Prop}, Calls P f args w T → CallsIn Fe (nf - 1) P f args w T
theorem free_wide (l nf : Nat) (P : Program) : Free (Fence.wide.inRound l) nf P := ⟨fun _ => trivial, (fun h => by cases h), fun h => callsIn_wide.2 h⟩
def noDefer (o : Oper) : Bool := match o.op with | .defer _ => false | _ => true
theorem noDefer_ne {o : Oper} (h : noDefer o = true) : ∀ c, o.op ≠ .defer c := fun c hc => by
  unfold noDefer at h
  rw [hc] at h
  cases h

/-! ### Operations in the order of the text -/
section
variable {P : Program} {ops : Array Oper} {Q : Exit → Act → World → Prop} {rest : List Oper} {o : Oper} {N : Nat} {L : Env} {w : World}
structure WLI (Fe : Fence) (nf : Nat) (P : Program) (ops : Array Oper) (Q : Exit → Act → World → Prop) (rest : List Oper) (a : Act) (w : World) : Prop where
  out : wpListIn Fe nf P ops Q rest a w
theorem region_litIn {P : Program} {Q : Exit → Act → World → Prop} {a : Act} {w : World} {id : Nat} {l : List Oper} (h : WLI Fe nf P l.toArray Q l a w) : (Code.region id l.toArray false).wpIn Fe nf P Q a w := wpIn_region_lit h.out
theorem in_op (hF : Free Fe nf P) (hnd : noDefer o = true) (hg : wantB ops o N L = some true) (h : ∀ K : Act → World → Prop, (∀ a w, WLI Fe nf P ops Q rest a w → K a w) → o.uponIn Fe nf P (actOf ds N L) K Q ((execOp (Rely.look (envN N L)) o).run P w)) : WLI Fe nf P ops Q (o :: rest) (actOf ds N L) w :=
  ⟨wpListIn_step fun K hK => by
    rw [if_pos (wanted_of hg)]
    unfold Oper.wpIn
    rw [Oper.semAt_plain Fe _ _ (noDefer_ne hnd), eval_actOf]
    exact ⟨fun f _ => hF.fn f, h K fun a w hh => hK a w hh.out⟩⟩
theorem in_val (v : Value) (d : Nat) (hd : o.dst = some d) (hF : Free Fe nf P) (hnd : noDefer o = true) (hg : wantB ops o N L = some true) (h : (execOp (Rely.look (envN N L)) o).run P w = .ok (.value v) w) (k : WLI Fe nf P ops Q rest (actOf ds N ((d, v) :: L)) w) : WLI Fe nf P ops Q (o :: rest) (actOf ds N L) w :=
  in_op hF hnd hg fun K hK => by
    rw [h]
    show K _ _
    rw [hd, put_actOf]
    exact hK _ _ k
theorem in_valw (v : Value) (w' : World) (d : Nat) (hd : o.dst = some d) (hF : Free Fe nf P) (hnd : noDefer o = true) (hg : wantB ops o N L = some true) (h : (execOp (Rely.look (envN N L)) o).run P w = .ok (.value v) w') (k : WLI Fe nf P ops Q rest (actOf ds N ((d, v) :: L)) w') : WLI Fe nf P ops Q (o :: rest) (actOf ds N L) w :=
  in_op hF hnd hg fun K hK => by
    rw [h]
    show K _ _
    rw [hd, put_actOf]
    exact hK _ _ k
theorem in_voidw (w' : World) (hd : o.dst = none) (hF : Free Fe nf P) (hnd : noDefer o = true) (hg : wantB ops o N L = some true) (h : (execOp (Rely.look (envN N L)) o).run P w = .ok .skip w') (k : WLI Fe nf P ops Q rest (actOf ds N L) w') : WLI Fe nf P ops Q (o :: rest) (actOf ds N L) w :=
  in_op hF hnd hg fun K hK => by
    rw [h]
    show K _ _
    rw [hd]
    exact hK _ _ k
/-- a new block -/
theorem in_alloc (cs : Array Value) (T : TypeId) (d : Nat) (hd : o.dst = some d) (hF : Free Fe nf P) (hnd : noDefer o = true) (hg : wantB ops o N L = some true) (h : (execOp (Rely.look (envN N L)) o).run P w = .ok (.value (.pointer (some ⟨w.heap.size, 0, none⟩))) (w.alloc (.cells cs T)))
    (k : ∀ (g : Nat) (W : World), w.heap.size ≤ g → Ext w W → W.heap[g]? = some (.cells cs T) → WLI Fe nf P ops Q rest (actOf ds N ((d, .pointer (some ⟨g, 0, none⟩)) :: L)) W) : WLI Fe nf P ops Q (o :: rest) (actOf ds N L) w :=
  in_valw _ _ d hd hF hnd hg h (k _ _ (Nat.le_refl _) (ext_alloc _ _) (heap_alloc_new _ _))
theorem in_nil (k : Q .normal (actOf ds N L) w) : WLI Fe nf P ops Q [] (actOf ds N L) w := ⟨k⟩
end

section
variable {P : Program} {ops : Array Oper} {Q : Exit → Act → World → Prop} {rest : List Oper} {o : Oper} {N : Nat} {L : Env} {w : World}
/-- a store: the block's row is another one behind it -/
theorem in_store (g : Nat) (old cs : Array Value) (t : TypeId) (hg : w.heap[g]? = some (.cells old t)) (hd : o.dst = none) (hF : Free Fe nf P) (hnd : noDefer o = true) (hw : wantB ops o N L = some true) (h : (execOp (Rely.look (envN N L)) o).run P w = .ok .skip (w.setRow g cs))
    (k : ∀ W : World, Puts w g W → W.heap[g]? = some (.cells cs t) → WLI Fe nf P ops Q rest (actOf ds N L) W) : WLI Fe nf P ops Q (o :: rest) (actOf ds N L) w :=
  in_voidw _ hd hF hnd hw h (k _ (puts_setRow _ _ _) (setRow_heap _ _ _ _ _ _ hg))
end

/-! ### Conditions -/
section
variable {P : Program} {Q : Exit → Act → World → Prop} {w : World} {N : Nat} {L : Env}
theorem in_cond_split {c : Operand} {x y : Code} {t : Bool} (hc : Rely.look (envN N L) c = .bool t) (ht : t = true → x.wpIn Fe nf P Q (actOf ds N L) w) (hf : t = false → y.wpIn Fe nf P Q (actOf ds N L) w) : (Code.cond c x y).wpIn Fe nf P Q (actOf ds N L) w := wpIn_cond_split (by rw [eval_actOf]; exact hc) ht hf
end

end Go.Proofs.Ytfelfmchachljaa.Auto
end

/-! A walk by program: ranges over functions. -/
section
namespace Go.Proofs.Ytfelfmchachljaa.Auto
open Go Go.RowKit
open Go.Proofs.Ytfelfmchachljaa.Rely
set_option linter.unusedVariables false
variable {ds : List Deferred}

theorem enterM {P : Program} {f : FuncId} {fn : Func} {c : Code} {args : Array Value} {w : World} {R : Ending → World → Prop} (N : Nat) (L : Env)
    (hf : P.funcs[f]? = some fn) (hb : fn.body = some c) (hn : fn.ntmps = N) (hs : Nat.ble args.size N = true) (hL : argsEnv args.toList 0 = L)
    (h : c.wp P (bodyPostM Fence.wide 3 P fn R) (actOf [] N L) w) : Calls P f args w R := by
  subst hn
  subst hL
  refine (callsIn_wide (n := 3)).1 (callsIn_of_wp_marks hf hb trivial (wpIn_wide.2 ?_) rfl)
  rw [entry _ _ (by simpa using hs)]
  exact h
abbrev mark (D : Nat) : Deferred := { target := .collected D, args := #[] }
theorem round_frame (N : Nat) (L : Env) (p : Nat) (v : Value) : ({ tmps := (#[p].zip #[v]).foldl (fun t (p, v) => t.setIfInBounds p v) (actOf ds N L).tmps, defers := [] } : Act) = actOf [] N ((p, v) :: L) := by
  rw [← put_actOf]
  simp [Act.put, actOf]
/-! ### The book of the loop -/
theorem putD_row {W : World} {g D : Nat} {cs : Array Value} {t : TypeId} {b : Option (List Deferred)} (h : W.heap[g]? = some (.cells cs t)) (hD : W.heap[D]? = some (.deferred b)) (o : Obj) : (W.putObj D o).heap[g]? = some (.cells cs t) :=
  row_kept h (grownBy_putObj' W D o) (fun r e => by cases e; exact ⟨_, hD, rfl⟩)
theorem putD_ext {w W : World} {D : Nat} {ob : Obj} (h : Ext w W) (hl : w.heap.size ≤ D) (hD : W.heap[D]? = some ob) (o : Obj) : Ext w (W.putObj D o) :=
  ⟨h.os, h.tape, h.output, by have := h.size; simpa using this, fun k hk => (World.putObj_heap_other (fun e => by omega)).trans (h.block k hk)⟩
theorem keeps_puts {W W' : World} {g : Nat} {cs : Array Value} {t : TypeId} (hp : Puts W g W') (hg : W.heap[g]? = some (.cells cs t)) : KeepsOthers W W' :=
  ⟨Nat.le_of_eq hp.2.2.2.1.symm, fun k o hk ho => by
    refine (hp.2.2.2.2 k fun e => ?_).trans hk
    subst e
    rw [hg] at hk
    cases hk
    cases ho⟩
section
variable {P : Program} {fn : Func} {R : Ending → World → Prop} {N : Nat} {L : Env} {w : World}
theorem retM2 {D : Nat} {r s : ResultVar} (u v : Value) (hr : fn.results = #[r, s]) (hD : w.heap[D]? = some (.deferred (some []))) (h : ResIs P (w.putObj D (.deferred none)) N L r u) (h2 : ResIs P (w.putObj D (.deferred none)) N L s v) (k : R (.returned (.tuple #[u, v])) (w.putObj D (.deferred none))) : bodyPostM Fence.wide 3 P fn R .ret (actOf [mark D] N L) w :=
  ⟨by simp, .inl ⟨_, _, rfl, run_takeDeferred hD, ⟨_, run_results2 hr h h2, k⟩⟩⟩
end
end Go.Proofs.Ytfelfmchachljaa.Auto
end

/-! A walk by program: numbers, indexes, loops. -/
section
namespace Go.Proofs.Ytfelfmchachljaa.Auto
open Go Go.RowKit
open Go.Proofs.Ytfelfmchachljaa.Rely
set_option linter.unusedVariables false
variable {ds : List Deferred}

theorem run_eq {P : Program} {ρ : Operand → Value} {o : Oper} {w : World} {u v : Value} (h : (execOp ρ o).run P w = .ok (.value u) w) (e : u = v) : (execOp ρ o).run P w = .ok (.value v) w := by rw [h, e]
theorem run_bin {P : Program} {ρ : Operand → Value} {o : Oper} {w : World} (op : BinOp) (t ty : TypeId) (x y : Operand) (k k' : IntKind) (a b : Int) (v : Value) (ho : o.op = .binOp op t x y ty) (hx : ρ x = .int k a) (hy : ρ y = .int k' b)
    (h : (binOp op t (.int k a) (.int k' b)).run P w = .ok v w) : (execOp ρ o).run P w = .ok (.value v) w := by
  unfold execOp
  simp only [ho, hx, hy, Sem.run_bind]
  have hg : (eqGuard op t x y (.int k a) (.int k' b)).run P w = .ok () w := by
    unfold eqGuard
    cases op <;> rfl
  simp [hg, h]
theorem b_shr {P : Program} {w : World} (t : TypeId) (k k' : IntKind) (a b r : Int) (hb : 0 ≤ b) (h : a.fdiv (2 ^ min b.toNat k.bits) = r) : (binOp .shr t (.int k a) (.int k' b)).run P w = .ok (.int k r) w := by
  subst h
  unfold binOp Op.shift
  simp [show ¬ b < 0 by omega]
theorem b_shl {P : Program} {w : World} (t : TypeId) (k k' : IntKind) (a b r : Int) (hb : 0 ≤ b) (h : k.wrap (a * 2 ^ min b.toNat k.bits) = r) : (binOp .shl t (.int k a) (.int k' b)).run P w = .ok (.int k r) w := by
  subst h
  unfold binOp Op.shift
  simp [show ¬ b < 0 by omega]
theorem run_eql_agg {P : Program} {ρ : Operand → Value} {o : Oper} {w : World} (ty tr : TypeId) (x y : Operand) (u v : Array Value) (r : Value) (ho : o.op = .binOp .eql ty x y tr) (hx : ρ x = .agg u) (hy : ρ y = .agg v)
    (hm : P.eqGuardType P.depth ty = false) (h : (binOp .eql ty (.agg u) (.agg v)).run P w = .ok r w) : (execOp ρ o).run P w = .ok (.value r) w := by
  unfold execOp
  simp only [ho, hx, hy, Sem.run_bind, Sem.run_pure, run_eqGuard_agg (hm := hm), Result.andThen_ok, h]
theorem run_neq_agg {P : Program} {ρ : Operand → Value} {o : Oper} {w : World} (ty tr : TypeId) (x y : Operand) (u v : Array Value) (r : Value) (ho : o.op = .binOp .neq ty x y tr) (hx : ρ x = .agg u) (hy : ρ y = .agg v)
    (hm : P.eqGuardType P.depth ty = false) (h : (binOp .neq ty (.agg u) (.agg v)).run P w = .ok r w) : (execOp ρ o).run P w = .ok (.value r) w := by
  unfold execOp
  simp only [ho, hx, hy, Sem.run_bind, Sem.run_pure, run_eqGuard_agg (hm := hm), Result.andThen_ok, h]
/-! ### Numbers in their ranges -/
theorem i64_nat (n : Nat) (h : n < 9223372036854775808) : IntKind.i64.wrap (n : Int) = (n : Int) := IntWalk.i64_in _ (by omega)
theorem i64_quo (n d : Nat) (h : n < 9223372036854775808) : IntKind.i64.wrap (Int.tdiv (n : Int) (d : Int)) = ((n / d : Nat) : Int) := by
  rw [← Int.ofNat_tdiv]
  exact i64_nat _ (Nat.lt_of_le_of_lt (Nat.div_le_self _ _) h)
theorem nat_rem (n d : Nat) : Int.tmod (n : Int) (d : Int) = ((n % d : Nat) : Int) := (Int.ofNat_tmod n d).symm
/-! ### Places in an array behind a pointer -/
theorem run_indexAddr {P : Program} {ρ : Operand → Value} {o : Oper} {w : World} (t : TypeId) (x y : Operand) (k : IntKind) (n g off len : Nat) (e : TypeId) (sz : Nat) (ho : o.op = .indexAddr t x y) (hx : ρ x = .pointer (some ⟨g, off, none⟩)) (hy : ρ y = .int k n)
    (hu : P.underlying t = some (.array len e)) (hs : (P.info? e).map (·.size) = some sz) (hn : n < len) : (execOp ρ o).run P w = .ok (.value (.pointer (some ⟨g, off + n * sz, none⟩))) w := by
  have hadd : (⟨g, off, none⟩ : Addr).add (n * sz) = ⟨g, off + n * sz, none⟩ := by unfold Addr.add; split <;> simp_all
  have hsz : (sizeOf e).run P w = .ok sz w := by
    cases hq : P.info? e with
    | none => simp [hq] at hs
    | some i =>
      have : i.size = sz := by simpa [hq] using hs
      simp [sizeOf, typeInfo, hq, this]
  unfold execOp
  simp only [ho, hx, hy, Instr.indexAt, Instr.sureAddr, asIntOf, Sem.run_bind, run_underlying hu w, Result.andThen_ok, Sem.run_pure]
  rw [if_pos ⟨by omega, by omega⟩]
  simp [hsz, hadd]
theorem run_index0 {P : Program} {ρ : Operand → Value} {o : Oper} {w : World} (t : TypeId) (x y : Operand) (k : IntKind) (n g len : Nat) (e : TypeId) (ho : o.op = .indexAddr t x y) (hx : ρ x = .pointer (some ⟨g, 0, none⟩)) (hy : ρ y = .int k n)
    (hu : P.underlying t = some (.array len e)) (hs : (P.info? e).map (·.size) = some 1) (hn : n < len) : (execOp ρ o).run P w = .ok (.value (.pointer (some ⟨g, n, none⟩))) w := by
  have := run_indexAddr (w := w) t x y k n g 0 len e 1 ho hx hy hu hs hn
  rw [Nat.zero_add, Nat.mul_one] at this
  exact this

theorem run_storeI {P : Program} {ρ : Operand → Value} {o : Oper} {w : World} {k : IntKind} (ty : TypeId) (x y : Operand) (g off : Nat) (t : TypeId) (xs : List Int) (v : Int) (hg : w.heap[g]? = some (.cells (ints k xs) t))
    (ho : o.op = .store ty x y) (hx : ρ x = .pointer (some ⟨g, off, none⟩)) (hy : ρ y = .int k v) (hi : (P.info? ty).map (·.size) = some 1) (hs : off < xs.length) :
    (execOp ρ o).run P w = .ok .skip (w.setRow g (ints k (xs.set off v))) := by
  rw [← ints_set]
  exact run_storeC1 ty x y g off t _ _ hg ho hx hy hi (by rw [ints_size]; simpa using hs) rfl rfl

/-! ### Loops -/
def Agree (L : Env) : Env → Prop
  | [] => True
  | (t, v) :: r => get L t = v ∧ Agree L r
theorem get_agree {L : Env} : ∀ (M : Env), Agree L M → ∀ t, get (M ++ L) t = get L t
  | [], _, _ => rfl
  | (k, v) :: r, ⟨h1, h2⟩, t => by
    show (bif Nat.beq k t then v else get (r ++ L) t) = _
    cases hb : Nat.beq k t with
    | true => rw [_root_.cond_true, ← h1, Nat.eq_of_beq_eq_true hb]
    | false => rw [_root_.cond_false, get_agree r h2 t]
theorem act_agree {N : Nat} {L M : Env} (h : Agree L M) : actOf ds N (M ++ L) = actOf ds N L := by
  unfold actOf
  congr 2
  funext t
  exact get_agree M h t.1
theorem wp_loop_ghost {P : Program} {c : Code} {Q : Exit → Act → World → Prop} (I : Nat → Act → World → Prop)
    (round : ∀ n a w, I n a w → c.wp P (Exit.then (fun a' w' => ∃ m, m < n ∧ I m a' w') Q) a w) (n : Nat) (a : Act) (w : World) (h₀ : I n a w) : (Code.loop c).wp P Q a w := by
  intro b k cs
  have key : ∀ n a w, I n a w → ∃ e a' w', Q e a' w' ∧ Arrives P (lone (b.at a (.code c :: .inLoop c :: k)) cs w) b k cs e a' w' := by
    intro n
    induction n using Nat.strongRecOn with
    | _ n ih =>
      intro a w hI
      obtain ⟨e, a₁, w₁, hq, harr⟩ := round n a w hI b (.inLoop c :: k) cs
      cases e with
      | normal =>
        obtain ⟨m, hlt, hI₁⟩ := hq
        obtain ⟨e₂, a₂, w₂, hq₂, harr₂⟩ := ih m hlt a₁ w₁ hI₁
        exact ⟨e₂, a₂, w₂, hq₂, .of_steps (Steps.trans harr (.one step_inLoop)) harr₂⟩
      | exit id => exact ⟨_, a₁, w₁, hq, .pass (x := .inLoop c) rfl (fun _ _ => .inl (by simp)) harr⟩
      | goto l => exact ⟨_, a₁, w₁, hq, .pass (x := .inLoop c) rfl (fun _ _ => .inl (by simp)) harr⟩
      | ret => exact ⟨_, a₁, w₁, hq, .pass (x := .inLoop c) rfl (fun _ _ => .inl (by simp)) harr⟩
      | panic ch => exact ⟨_, a₁, w₁, hq, .pass (x := .inLoop c) rfl (fun _ _ => .inl (by simp)) harr⟩
      | outgrown => exact ⟨_, a₁, w₁, hq, .pass (x := .inLoop c) rfl (fun _ _ => .inl (by simp)) harr⟩
  obtain ⟨e, a', w', hq, harr⟩ := key n a w h₀
  exact ⟨e, a', w', hq, .of_steps (.one step_loop) harr⟩
/-- what a round of a loop must come to -/
def Goes {α : Type} (ds : List Deferred) (N : Nat) (live : α → Env) (I : α → World → Prop) (μ : α → Nat) (s : α) (a' : Act) (W' : World) : Prop := ∃ (s' : α) (X' : Env), a' = actOf ds N (live s' ++ X') ∧ I s' W' ∧ μ s' < μ s
theorem loop_auto {α : Type} {P : Program} {body : Code} {Q : Exit → Act → World → Prop} {N : Nat} {L : Env} {w : World} (live : α → Env) (I : α → World → Prop) (μ : α → Nat) (s0 : α) (hL : Agree L (live s0)) (h0 : I s0 w)
    (round : ∀ (s : α) (X : Env) (W : World), I s W → body.wp P (Exit.then (Goes ds N live I μ s) Q) (actOf ds N (live s ++ X)) W) : (Code.loop body).wp P Q (actOf ds N L) w := by
  rw [← act_agree hL]
  refine wp_loop_ghost (fun n a W => ∃ (s : α) (X : Env), a = actOf ds N (live s ++ X) ∧ I s W ∧ μ s = n) ?_ (μ s0) _ _ ⟨s0, L, rfl, h0, rfl⟩
  rintro n a W ⟨s, X, rfl, hI, rfl⟩
  refine wp_mono (round s X W hI) fun e a' w' h => ?_
  cases e <;> try exact h
  obtain ⟨s', X', h1, h2, h3⟩ := h
  exact ⟨μ s', h3, s', X', h1, h2, rfl⟩
theorem next_round {α : Type} {N : Nat} {L : Env} {w : World} {live : α → Env} {I : α → World → Prop} {μ : α → Nat} {s : α} (s' : α) (hL : Agree L (live s')) (h : I s' w) (hm : μ s' < μ s) : Goes ds N live I μ s (actOf ds N L) w :=
  ⟨s', L, (act_agree hL).symm, h, hm⟩
theorem goes_then {α : Type} {N : Nat} {L : Env} {w : World} {live : α → Env} {I : α → World → Prop} {μ : α → Nat} {s : α} {Q : Exit → Act → World → Prop} (s' : α) (hL : Agree L (live s')) (h : I s' w) (hm : μ s' < μ s) : Exit.then (Goes ds N live I μ s) Q .normal (actOf ds N L) w :=
  next_round s' hL h hm
end Go.Proofs.Ytfelfmchachljaa.Auto
end
