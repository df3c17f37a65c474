/-
  A law for a region that draws its order: each operation is proved by itself, in every world that the region may have come to, from what is known of its operands; whatever order the tape picks, what is known of all results holds behind the region.
-/
import Derived.Still
import Derived.StillTail
import Derived.Tactics
import Derived.Tactics2
import Derived.KernelRfl
import Derived.Below
import Derived.Laws.NewBlocks
namespace Go.Proofs.Ytaojnmjmmfdfjaa.Rely
set_option linter.unusedVariables false
open Go

/-! ### Which operation waits for which -/
def mask1 (acc : Array Nat) (o : Oper) : Nat :=
  o.after.toList.foldl (fun s e => if Region.binds .any e then s ||| 2 ^ e.on ||| acc.getD e.on 0 else s) 0
def masks : List Oper → Array Nat → Array Nat
  | [], acc => acc
  | o :: l, acc => masks l (acc.push (mask1 acc o))

theorem fold_bit (acc : Array Nat) (i : Nat) : ∀ (es : List Edge) (s : Nat),
    (es.foldl (fun s e => if Region.binds .any e then s ||| 2 ^ e.on ||| acc.getD e.on 0 else s) s).testBit i = true →
    s.testBit i = true ∨ ∃ e ∈ es, Region.binds .any e = true ∧ (e.on = i ∨ (acc.getD e.on 0).testBit i = true)
  | [], s, h => .inl h
  | e :: es, s, h => by
    rw [List.foldl_cons] at h
    rcases fold_bit acc i es _ h with h | ⟨e', h1, h2⟩
    · by_cases hb : Region.binds .any e = true
      · rw [if_pos hb, Nat.testBit_or, Nat.testBit_or, Bool.or_eq_true, Bool.or_eq_true] at h
        rcases h with (h | h) | h
        · exact .inl h
        · rw [Nat.testBit_two_pow] at h
          exact .inr ⟨e, List.mem_cons_self, hb, .inl (of_decide_eq_true h)⟩
        · exact .inr ⟨e, List.mem_cons_self, hb, .inr h⟩
      · rw [if_neg hb] at h
        exact .inl h
    · exact .inr ⟨e', List.mem_cons_of_mem _ h1, h2⟩

def Closed (ops : Array Oper) (listed : Array Bool) : Prop :=
  ∀ j o, ops[j]? = some o → listed.getD j false = true → ∀ e ∈ o.after, Region.binds .any e = true → listed.getD e.on false = true

/-- i is listed wherever all that j waits for is listed -/
def Anc (ops : Array Oper) (i j : Nat) : Prop :=
  ∀ listed, Closed ops listed → (∀ o, ops[j]? = some o → ∀ e ∈ o.after, Region.binds .any e = true → listed.getD e.on false = true) → listed.getD i false = true

theorem masks_anc (ops : Array Oper) : ∀ (l : List Oper) (acc : Array Nat), (∀ j, l[j]? = ops[acc.size + j]?) →
    (∀ j i, (acc.getD j 0).testBit i = true → Anc ops i j) → ∀ j i, ((masks l acc).getD j 0).testBit i = true → Anc ops i j
  | [], acc, _, h => h
  | o :: l, acc, hl, h => by
    refine masks_anc ops l (acc.push (mask1 acc o)) (fun j => ?_) (fun j i hj => ?_)
    · have := hl (j + 1)
      simp only [List.getElem?_cons_succ] at this
      rw [this, Array.size_push]
      congr 1
      omega
    · have ho : ops[acc.size]? = some o := by have := hl 0; simpa using this.symm
      rcases Nat.lt_trichotomy j acc.size with hlt | heq | hgt
      · refine h j i ?_
        have e : (acc.push (mask1 acc o)).getD j 0 = acc.getD j 0 := by
          simp [Array.getElem?_push, Nat.ne_of_lt hlt]
        rw [← e]; exact hj
      · subst heq
        have e : (acc.push (mask1 acc o)).getD acc.size 0 = mask1 acc o := by simp
        rw [e] at hj
        rcases fold_bit acc i _ _ hj with h0 | ⟨ed, hm, hb, hon⟩
        · simp at h0
        · rcases hon with rfl | hon
          · exact fun listed _ hall => hall o ho _ (Array.mem_toList_iff.1 hm) hb
          · exact fun listed hc hall => h _ _ hon listed hc fun o' ho' e' he' hb' => hc _ o' ho' (hall o ho _ (Array.mem_toList_iff.1 hm) hb) e' he' hb'
      · have e : (acc.push (mask1 acc o)).getD j 0 = 0 := by
          simp [Array.getElem?_push, Nat.ne_of_gt hgt, Array.getElem?_eq_none (Nat.le_of_lt hgt)]
        rw [e] at hj
        simp at hj

theorem Closed.anc {ops : Array Oper} {listed : Array Bool} (hc : Closed ops listed) {i j : Nat} (h : Anc ops i j) (hj : listed.getD j false = true) : listed.getD i false = true :=
  h listed hc fun o ho e he hb => hc j o ho hj e he hb

theorem anc_of_ready {ops : Array Oper} {listed : Array Bool} (hc : Closed ops listed) {i j : Nat} (hj : j ∈ Region.ready .any ops listed) (h : Anc ops i j) : listed.getD i false = true := by
  obtain ⟨_, o, ho, hall⟩ := mem_ready.1 hj
  refine h listed hc fun o' ho' e he hb => ?_
  obtain rfl : o = o' := Option.some.inj (ho.symm.trans ho')
  exact hall e he hb

theorem Closed.set {ops : Array Oper} {listed : Array Bool} (hc : Closed ops listed) {i : Nat} (hi : i ∈ Region.ready .any ops listed) : Closed ops (listed.setIfInBounds i true) := by
  intro j o ho hj e he hb
  obtain ⟨_, oi, hoi, hall⟩ := mem_ready.1 hi
  by_cases hij : i = j
  · subst hij
    obtain rfl : oi = o := Option.some.inj (hoi.symm.trans ho)
    exact getD_set_true (hall e he hb)
  · rw [getD_set_ne false hij] at hj
    exact getD_set_true (hc j o ho hj e he hb)

/-! ### What is looked at, and the check by program -/
abbrev Fact := Value → World → Prop
/-- of an operation: its guard's slot, and of each slot that it reads which operation of the region has written it -/
structure Src where
  guard : Option (Tmp × Bool)
  reads : List (Tmp × Option Nat)

def guardOf (ops : Array Oper) (o : Oper) : Option (Option (Tmp × Bool)) :=
  match o.guard with
  | none => some none
  | some (j, b) => match (ops[j]?).bind (·.dst) with | some d => some (some (d, b)) | none => none

/-- the writer of a slot -/
def readOk (l : List Oper) (M : Array Nat) (j : Nat) : Tmp × Option Nat → Bool
  | (t, some i) => decide (i < j) && (M.getD j 0).testBit i && ((l[i]?).bind (·.dst) == some t)
  | (t, none) => l.zipIdx.all fun (o, i) => o.dst != some t || (M.getD i 0).testBit j || i == j

def srcOk (l : List Oper) (M : Array Nat) (j : Nat) (o : Oper) (s : Src) : Bool :=
  (guardOf l.toArray o == some s.guard) && s.reads.all (readOk l M j)

def srcsOk (l : List Oper) (M : Array Nat) : Nat → List Oper → List Src → Bool
  | j, o :: os, s :: ss => srcOk l M j o s && srcsOk l M (j + 1) os ss
  | _, [], [] => true
  | _, _, _ => false

def dstsOk (N : Nat) : List Oper → Bool
  | [] => true
  | o :: l => (match o.dst with | some d => decide (d < N) && l.all (·.dst != some d) | none => true) && dstsOk N l

def edgesOk : Nat → List Oper → Bool
  | _, [] => true
  | j, o :: l => o.after.toList.all (fun e => !Region.binds .any e || decide (e.on < j)) && edgesOk (j + 1) l

/-- the last ones, from n on, wait for all ahead of them -/
def tailOk (M : Array Nat) (n len : Nat) : Bool :=
  (List.range len).all fun j => decide (j < n) || (List.range j).all fun i => (M.getD j 0).testBit i

def ok (l : List Oper) (n N : Nat) (S : List Src) : Bool :=
  let M := masks l #[]
  decide (n ≤ l.length) && srcsOk l M 0 (l.take n) S && dstsOk N (l.take n) && edgesOk 0 l && tailOk M n l.length &&
  (l.drop n).all (fun o => match o.dst with | some d => (l.take n).all (·.dst != some d) | none => true)

/-! ### What is asked of each operation -/
def isB (b : Bool) : Value → Bool
  | .bool c => c == b
  | _ => false
theorem isB_bool (b c : Bool) : isB b (.bool c) = (c == b) := rfl

/-- what a call is asked for -/
def RetsTo (R : World → World → Prop) (W : World) (φ : Fact) (e : Ending) (W' : World) : Prop := ∃ v, e = .returned v ∧ R W W' ∧ φ v W'

def relyUpon (P : Program) (R : World → World → Prop) (W : World) (φ : Fact) : Result Next → Prop
  | .ok (.value v) W' => R W W' ∧ φ v W'
  | .ok .skip W' => R W W' ∧ φ undef W'
  | .ok (.enter f args) W' => R W W' ∧ Calls P f args W' (RetsTo R W' φ)
  | _ => False

/-- an operand, the slots' values being ρ -/
def look (ρ : Tmp → Value) : Operand → Value
  | .tmp t => ρ t
  | .const v => v
  | .global g => .pointer (some ⟨g, 0, none⟩)
  | .func f => .func (.func f) #[] #[]
@[go_sem] theorem look_tmp (ρ : Tmp → Value) (t : Tmp) : look ρ (.tmp t) = ρ t := rfl
@[go_sem] theorem look_const (ρ : Tmp → Value) (v : Value) : look ρ (.const v) = v := rfl
@[go_sem] theorem look_global (ρ : Tmp → Value) (g : Nat) : look ρ (.global g) = .pointer (some ⟨g, 0, none⟩) := rfl
@[go_sem] theorem look_func (ρ : Tmp → Value) (f : FuncId) : look ρ (.func f) = .func (.func f) #[] #[] := rfl
attribute [go_sem] relyUpon
def slots (a : Act) : Tmp → Value := fun t => a.tmps.getD t undef
theorem eval_look (a : Act) : a.eval = look (slots a) := funext fun x => by cases x <;> rfl

def relyAt (P : Program) (R : World → World → Prop) (o : Oper) (ρ : Tmp → Value) (W : World) (φ : Fact) : Prop :=
  relyUpon P R W φ ((execOp (look ρ) o).run P W)

def Holds (r0 : Tmp → Value) (E : List Fact) (ρ : Tmp → Value) (W : World) : List (Tmp × Option Nat) → Prop
  | [] => True
  | (t, none) :: r => ρ t = r0 t ∧ Holds r0 E ρ W r
  | (t, some i) :: r => (E.getD i fun _ _ => True) (ρ t) W ∧ Holds r0 E ρ W r

def gOk (g : Option (Tmp × Bool)) (ρ : Tmp → Value) : Bool :=
  match g with
  | none => true
  | some (d, b) => isB b (ρ d)

def guarded (g : Option (Tmp × Bool)) (ρ : Tmp → Value) (p q : Prop) : Prop :=
  match g with
  | none => p
  | some (d, b) => if isB b (ρ d) = true then p else q

def opOk (P : Program) (R : World → World → Prop) (w0 : World) (r0 : Tmp → Value) (E : List Fact) (o : Oper) (s : Src) (φ : Fact) : Prop :=
  ∀ (ρ : Tmp → Value) (W : World), R w0 W → Holds r0 E ρ W s.reads → guarded s.guard ρ (relyAt P R o ρ W φ) (φ undef W)

def Stable (R : World → World → Prop) (φ : Fact) : Prop := ∀ v W W', R W W' → φ v W → φ v W'

def fin (Q : Act → World → Prop) : List Oper → List Fact → Act → World → Prop
  | o :: l, φ :: E, a, W => ∀ v, φ v W → fin Q l E (a.put o.dst v) W
  | _, _, a, W => Q a W

/-- one operation after the other, in the order of the text; at the end, of all that was found: F -/
def relies (P : Program) (R : World → World → Prop) (w0 : World) (r0 : Tmp → Value) (F : List Fact → Prop) : List Oper → List Src → List Fact → Prop
  | o :: os, s :: ss, E => ∃ φ, Stable R φ ∧ opOk P R w0 r0 E o s φ ∧ relies P R w0 r0 F os ss (E ++ [φ])
  | _, _, E => F E

section
variable {P : Program} {R : World → World → Prop} {w0 : World} {r0 : Tmp → Value} {F : List Fact → Prop} {o : Oper} {os : List Oper} {s : Src} {ss : List Src} {E : List Fact}
theorem step_const (c : Value) (h : ∀ (ρ : Tmp → Value) (W : World), R w0 W → Holds r0 E ρ W s.reads → guarded s.guard ρ (relyAt P R o ρ W fun v _ => v = c) (undef = c))
    (hk : relies P R w0 r0 F os ss (E ++ [fun v _ => v = c])) : relies P R w0 r0 F (o :: os) (s :: ss) E :=
  ⟨fun v _ => v = c, fun _ _ _ _ h => h, h, hk⟩
theorem step_fact (φ : Fact) (hs : Stable R φ) (h : ∀ (ρ : Tmp → Value) (W : World), R w0 W → Holds r0 E ρ W s.reads → guarded s.guard ρ (relyAt P R o ρ W φ) (φ undef W))
    (hk : relies P R w0 r0 F os ss (E ++ [φ])) : relies P R w0 r0 F (o :: os) (s :: ss) E := ⟨φ, hs, h, hk⟩
/-- blocks that lie stay as they are -/
def Ext (W W' : World) : Prop := RowKit.Below W.heap.size W W'
theorem Ext.refl (W : World) : Ext W W := RowKit.Below.refl _ _
/-- a call hands back v and leaves all that lies as it is -/
def Ret (W : World) (v : Value) (e : Ending) (W' : World) : Prop := e = .returned v ∧ Ext W W'
theorem Ret.const {W W' : World} {v : Value} {e : Ending} (h : Ret W v e W') : RetsTo Ext W (fun u _ => u = v) e W' := ⟨v, h.1, h.2, rfl⟩
/-- a call hands back something of which φ is known -/
def Gives (W : World) (φ : Fact) (e : Ending) (W' : World) : Prop := ∃ v, e = .returned v ∧ Ext W W' ∧ φ v W'
theorem Gives.fact {W W' : World} {φ : Fact} {e : Ending} (h : Gives W φ e W') : RetsTo Ext W φ e W' := h
theorem Ext.trans {a b c : World} (h : Ext a b) (k : Ext b c) : Ext a c := RowKit.Below.trans h (RowKit.Below.mono k h.size)
end

/-! ### The proof -/
section
variable {P : Program} {R : World → World → Prop} {w0 : World} {r0 : Tmp → Value}

theorem Holds.congr {E E' : List Fact} {a : Tmp → Value} {W : World} {n : Nat} (hE : ∀ i, i < n → E.getD i (fun _ _ => True) = E'.getD i (fun _ _ => True)) :
    ∀ (r : List (Tmp × Option Nat)), (∀ x ∈ r, ∀ i, x.2 = some i → i < n) → Holds r0 E a W r → Holds r0 E' a W r
  | [], _, _ => trivial
  | (t, none) :: r, hr, h => ⟨h.1, Holds.congr hE r (fun x hx => hr x (List.mem_cons_of_mem _ hx)) h.2⟩
  | (t, some i) :: r, hr, h => by
    refine ⟨?_, Holds.congr hE r (fun x hx => hr x (List.mem_cons_of_mem _ hx)) h.2⟩
    have h1 := h.1
    rw [hE i (hr (t, some i) List.mem_cons_self i rfl)] at h1
    exact h1

/-- all that the walk has found: one list of facts -/
theorem relies_found {l : List Oper} {M : Array Nat} {F : List Fact → Prop} : ∀ (os : List Oper) (ss : List Src) (E : List Fact), relies P R w0 r0 F os ss E → srcsOk l M E.length os ss = true → (∀ φ ∈ E, Stable R φ) →
    ∃ E' : List Fact, E'.length = E.length + os.length ∧ (∀ i, i < E.length → E'.getD i (fun _ _ => True) = E.getD i (fun _ _ => True)) ∧ (∀ φ ∈ E', Stable R φ) ∧
      (∀ j o s, os[j]? = some o → ss[j]? = some s → opOk P R w0 r0 E' o s (E'.getD (E.length + j) fun _ _ => True)) ∧ F E'
  | [], [], E, h, _, hs => ⟨E, by simp, fun _ _ => rfl, hs, fun j o s h => by simp at h, h⟩
  | [], s :: ss, E, h, hok, hs => by simp [srcsOk] at hok
  | o :: os, [], E, h, hok, hs => by simp [srcsOk] at hok
  | o :: os, s :: ss, E, h, hok, hs => by
    obtain ⟨φ, hst, hop, hrest⟩ := h
    simp only [srcsOk, Bool.and_eq_true] at hok
    obtain ⟨hok1, hok2⟩ := hok
    have hlen : (E ++ [φ]).length = E.length + 1 := by simp
    obtain ⟨E', hl, hE, hS, hO, hF⟩ := relies_found os ss (E ++ [φ]) hrest (by rw [hlen]; exact hok2) (fun ψ hψ => by
      rcases List.mem_append.1 hψ with h | h
      · exact hs ψ h
      · rw [List.mem_singleton.1 h]; exact hst)
    have hE1 : ∀ i, i < E.length → E'.getD i (fun _ _ => True) = E.getD i (fun _ _ => True) := fun i hi => by
      rw [hE i (by omega)]
      simp [List.getElem?_append, hi]
    refine ⟨E', by simp at hl ⊢; omega, hE1, hS, fun j oj sj hj hsj => ?_, hF⟩
    cases j with
    | zero =>
      simp only [List.getElem?_cons_zero, Option.some.injEq] at hj hsj
      subst hj; subst hsj
      have hφ : E'.getD E.length (fun _ _ => True) = φ := by
        rw [hE E.length (by omega)]; simp
      rw [Nat.add_zero, hφ]
      intro a W hR hh
      refine hop a W hR (Holds.congr hE1 _ (fun x hx i hi => ?_) hh)
      simp only [srcOk, Bool.and_eq_true] at hok1
      have := List.all_eq_true.1 hok1.2 x hx
      obtain ⟨t, si⟩ := x
      simp only at hi
      subst hi
      simp only [readOk, Bool.and_eq_true, decide_eq_true_eq] at this
      exact this.1.1
    | succ j =>
      have := hO j oj sj (by simpa using hj) (by simpa using hsj)
      rw [hlen, show E.length + 1 + j = E.length + (j + 1) by omega] at this
      exact this

variable {a0 : Act}
structure Inv (R : World → World → Prop) (w0 : World) (a0 : Act) (ops : Array Oper) (E : List Fact) (n : Nat) (listed : Array Bool) (a : Act) (W : World) (vs : Nat → Value) : Prop where
  size : listed.size = ops.size
  closed : Closed ops listed
  rel : R w0 W
  defers : a.defers = a0.defers
  asize : a.tmps.size = a0.tmps.size
  facts : ∀ i, listed.getD i false = true → i < n → (E.getD i fun _ _ => True) (vs i) W
  vals : ∀ i o d, listed.getD i false = true → i < n → ops[i]? = some o → o.dst = some d → a.tmps[d]? = some (vs i)
  rest : ∀ t, (∀ i o, listed.getD i false = true → i < n → ops[i]? = some o → o.dst ≠ some t) → a.tmps[t]? = a0.tmps[t]?
  tail : ∀ i, n ≤ i → listed.getD i false = false

def left (ops : Array Oper) (listed : Array Bool) : Nat := (List.range ops.size).countP fun i => !listed.getD i true

theorem countP_range_set (p q : Nat → Bool) (i : Nat) (hp : p i = true) (hq : q i = false) (he : ∀ j, j ≠ i → p j = q j) : ∀ n, i < n → (List.range n).countP p = (List.range n).countP q + 1
  | 0, h => absurd h (Nat.not_lt_zero _)
  | n + 1, h => by
    rw [List.range_succ, List.countP_append, List.countP_append]
    by_cases hin : i = n
    · subst hin
      have : (List.range i).countP p = (List.range i).countP q := List.countP_congr fun x hx => by
        rw [he x (by have := List.mem_range.1 hx; omega)]
      rw [this]
      simp [hp, hq]
    · have := countP_range_set p q i hp hq he n (by omega)
      rw [this]
      simp only [List.countP_singleton, he n (fun h => hin h.symm)]
      omega

theorem left_set {ops : Array Oper} {listed : Array Bool} {i : Nat} (hi : listed.getD i true = false) (hs : listed.size = ops.size) : left ops listed = left ops (listed.setIfInBounds i true) + 1 := by
  have hlt : i < listed.size := by
    rcases Nat.lt_or_ge i listed.size with h | h
    · exact h
    · simp [Array.getElem?_eq_none h] at hi
  refine countP_range_set _ _ i (by simp only [hi, Bool.not_false]) ?_ (fun j hj => ?_) _ (by omega)
  · simp [Array.getElem?_setIfInBounds_self_of_lt hlt]
  · rw [getD_set_ne true (Ne.symm hj)]

theorem edges_lt {l : List Oper} : ∀ (k : Nat), edgesOk k l = true → ∀ j o e, l[j]? = some o → e ∈ o.after → Region.binds .any e = true → e.on < k + j := by
  induction l with
  | nil => intro k _ j o e h; simp at h
  | cons x l ih =>
    intro k h j o e hj he hb
    simp only [edgesOk, Bool.and_eq_true] at h
    cases j with
    | zero =>
      simp only [List.getElem?_cons_zero, Option.some.injEq] at hj
      subst hj
      have := List.all_eq_true.1 h.1 e (Array.mem_toList_iff.2 he)
      simpa [hb] using this
    | succ j =>
      have := ih (k + 1) h.2 j o e (by simpa using hj) he hb
      omega

theorem ready_of_left {l : List Oper} (he : edgesOk 0 l = true) {listed : Array Bool} : ∀ i, i < l.length → listed.getD i true = false → ∃ j, j ∈ Region.ready .any l.toArray listed := by
  intro i
  induction i using Nat.strongRecOn with
  | _ i ih =>
    intro hi hun
    by_cases h : ∃ k, k < i ∧ listed.getD k true = false
    · obtain ⟨k, hk, hk2⟩ := h
      exact ih k hk (by omega) hk2
    · refine ⟨i, mem_ready.2 ⟨hun, l[i], by simp [hi], fun e hm hb => ?_⟩⟩
      have hlt := edges_lt 0 he i l[i] e (by simp [hi]) hm hb
      cases hx : listed.getD e.on false with
      | true => rfl
      | false =>
        exfalso
        refine h ⟨e.on, by omega, ?_⟩
        have hil : i < listed.size := by
          rcases Nat.lt_or_ge i listed.size with h | h
          · exact h
          · simp [Array.getElem?_eq_none h] at hun
        exact getD_in (by omega) hx

theorem left_pos {ops : Array Oper} {listed : Array Bool} {i : Nat} (hi : i < ops.size) (h : listed.getD i true = false) : 0 < left ops listed :=
  List.countP_pos_iff.2 ⟨i, List.mem_range.2 hi, by simp only [h, Bool.not_false]⟩

theorem wpOp_of_wanted {ops : Array Oper} {Q : Exit → Act → World → Prop} {i : Nat} {o : Oper} {K : Act → World → Prop} {a : Act} {w : World} (ho : ops[i]? = some o)
    (h : if Region.wanted o (yielded ops a.tmps) then o.wp P a w K Q else K (a.put o.dst undef) w) : wpOp P ops Q i K a w := by
  unfold wpOp
  rw [ho]
  simp only
  split at h
  · rename_i hw; rw [if_pos hw]; exact .inl h
  · rename_i hw; rw [if_neg hw]; exact h

theorem relyAt_wp {o : Oper} {a : Act} {W : World} {φ : Fact} {K : Act → World → Prop} {Q : Exit → Act → World → Prop} (htr : ∀ {a b c : World}, R a b → R b c → R a c) (h : relyAt P R o (slots a) W φ)
    (hk : ∀ v W', R W W' → φ v W' → K (a.put o.dst v) W') : o.wp P a W K Q := by
  unfold relyAt at h
  rw [← eval_look] at h
  unfold Oper.wp
  generalize (execOp a.eval o).run P W = r at *
  cases r with
  | halt x w => exact h.elim
  | ok n W1 =>
    cases n <;> simp only [relyUpon] at h <;> try exact h.elim
    case value v => exact hk v W1 h.1 h.2
    case skip => exact hk undef W1 h.1 h.2
    case enter f args =>
      obtain ⟨h1, h2⟩ := h
      refine Calls.mono h2 fun e W2 ⟨v, he, hr, hp⟩ => ?_
      subst he
      exact hk v W2 (htr h1 hr) hp

theorem wanted_guard {ops : Array Oper} {o : Oper} {a : Act} {g : Option (Tmp × Bool)} (hg : guardOf ops o = some g) :
    Region.wanted o (yielded ops a.tmps) = gOk g (slots a) := by
  unfold gOk
  unfold guardOf at hg
  unfold Region.wanted
  cases hgo : o.guard with
  | none =>
    simp only [hgo, Option.some.injEq] at hg
    subst hg; rfl
  | some jb =>
    obtain ⟨j, b⟩ := jb
    simp only [hgo] at hg
    cases hd : (ops[j]?).bind (·.dst) with
    | none => simp only [hd] at hg; cases hg
    | some d =>
      simp only [hd, Option.some.injEq] at hg
      subst hg
      simp only [yielded, hd, Option.bind_some, slots]
      cases ht : a.tmps[d]? with
      | none => simp [ht, undef, isB]
      | some v =>
        cases v <;> simp [ht, isB]
end

/-! ### The textual order's frame -/
def putsFrom : List Oper → (Nat → Value) → Nat → Act → Act
  | [], _, _, a => a
  | o :: os, vs, k, a => putsFrom os vs (k + 1) (a.put o.dst (vs k))

theorem put_size (a : Act) (d : Option Tmp) (v : Value) : (a.put d v).tmps.size = a.tmps.size := by cases d <;> simp [Act.put]
theorem put_defers (a : Act) (d : Option Tmp) (v : Value) : (a.put d v).defers = a.defers := by cases d <;> rfl
theorem put_get_ne (a : Act) (d : Option Tmp) (v : Value) (t : Nat) (h : d ≠ some t) : (a.put d v).tmps[t]? = a.tmps[t]? := by
  cases d with
  | none => rfl
  | some d => simp only [Act.put]; rw [Array.getElem?_setIfInBounds_ne (fun e => h (by rw [e]))]
theorem put_get_eq (a : Act) (t : Nat) (v : Value) (h : t < a.tmps.size) : (a.put (some t) v).tmps[t]? = some v := by
  simp only [Act.put]; rw [Array.getElem?_setIfInBounds_self_of_lt h]

theorem putsFrom_size : ∀ (os : List Oper) (vs : Nat → Value) (k : Nat) (a : Act), (putsFrom os vs k a).tmps.size = a.tmps.size ∧ (putsFrom os vs k a).defers = a.defers
  | [], _, _, _ => ⟨rfl, rfl⟩
  | o :: os, vs, k, a => by
    have := putsFrom_size os vs (k + 1) (a.put o.dst (vs k))
    exact ⟨this.1.trans (put_size _ _ _), this.2.trans (put_defers _ _ _)⟩

theorem putsFrom_none : ∀ (os : List Oper) (vs : Nat → Value) (k : Nat) (a : Act) (t : Nat), (∀ o ∈ os, o.dst ≠ some t) → (putsFrom os vs k a).tmps[t]? = a.tmps[t]?
  | [], _, _, _, _, _ => rfl
  | o :: os, vs, k, a, t, h => by
    show (putsFrom os vs (k + 1) (a.put o.dst (vs k))).tmps[t]? = _
    rw [putsFrom_none os vs (k + 1) _ t (fun o' ho' => h o' (List.mem_cons_of_mem _ ho')), put_get_ne _ _ _ _ (h o List.mem_cons_self)]

theorem putsFrom_some {N : Nat} : ∀ (os : List Oper) (vs : Nat → Value) (k : Nat) (a : Act) (t i : Nat) (o : Oper), dstsOk N os = true → a.tmps.size = N → os[i]? = some o → o.dst = some t → (putsFrom os vs k a).tmps[t]? = some (vs (k + i))
  | [], _, _, _, _, _, _, _, _, h, _ => by simp at h
  | x :: os, vs, k, a, t, i, o, hd, hN, hi, ho => by
    simp only [dstsOk, Bool.and_eq_true] at hd
    show (putsFrom os vs (k + 1) (a.put x.dst (vs k))).tmps[t]? = _
    cases i with
    | zero =>
      simp only [List.getElem?_cons_zero, Option.some.injEq] at hi
      subst hi
      have h1 := hd.1
      rw [ho] at h1
      simp only [Bool.and_eq_true, decide_eq_true_eq] at h1
      have hlt0 : t < N := h1.1
      have hlt : t < a.tmps.size := by omega
      rw [putsFrom_none os vs (k + 1) _ t (fun o' ho' he => by
        have := List.all_eq_true.1 h1.2 o' ho'
        rw [he] at this
        simp at this), ho, put_get_eq _ _ _ hlt]
      rfl
    | succ i =>
      have := putsFrom_some os vs (k + 1) (a.put x.dst (vs k)) t i o hd.2 (by rw [put_size]; exact hN) (by simpa using hi) ho
      rw [this]
      congr 2
      omega

theorem fin_run {Q : Act → World → Prop} {W : World} : ∀ (os : List Oper) (E : List Fact) (a : Act) (vs : Nat → Value) (k : Nat), fin Q os E a W → E.length = os.length →
    (∀ i, i < os.length → (E.getD i fun _ _ => True) (vs (k + i)) W) → Q (putsFrom os vs k a) W
  | [], [], a, vs, k, h, _, _ => h
  | [], _ :: _, _, _, _, _, hl, _ => by simp at hl
  | _ :: _, [], _, _, _, _, hl, _ => by simp at hl
  | o :: os, φ :: E, a, vs, k, h, hl, hf => by
    have h0 := hf 0 (by simp)
    refine fin_run os E (a.put o.dst (vs k)) vs (k + 1) (h (vs k) (by simpa using h0)) (by simpa using hl) (fun i hi => ?_)
    have := hf (i + 1) (by simpa using hi)
    rw [show k + (i + 1) = k + 1 + i by omega] at this
    simpa using this

theorem dsts_ne {N : Nat} : ∀ (os : List Oper), dstsOk N os = true → ∀ (i j : Nat) (x y : Oper) (d : Nat), os[i]? = some x → os[j]? = some y → i ≠ j → x.dst = some d → y.dst ≠ some d
  | [], _, _, _, _, _, _, h, _, _, _ => by simp at h
  | z :: os, hd, i, j, x, y, d, hx, hy, hne, hxd => by
    simp only [dstsOk, Bool.and_eq_true] at hd
    cases i with
    | zero =>
      simp only [List.getElem?_cons_zero, Option.some.injEq] at hx
      subst hx
      cases j with
      | zero => exact absurd rfl hne
      | succ j =>
        have h1 := hd.1
        rw [hxd] at h1
        simp only [Bool.and_eq_true] at h1
        have := List.all_eq_true.1 h1.2 y (List.mem_of_getElem? (by simpa using hy))
        intro he
        rw [he] at this
        simp at this
    | succ i =>
      cases j with
      | zero =>
        simp only [List.getElem?_cons_zero, Option.some.injEq] at hy
        subst hy
        intro he
        have h1 := hd.1
        rw [he] at h1
        simp only [Bool.and_eq_true] at h1
        have := List.all_eq_true.1 h1.2 x (List.mem_of_getElem? (by simpa using hx))
        rw [hxd] at this
        simp at this
      | succ j => exact dsts_ne os hd.2 i j x y d (by simpa using hx) (by simpa using hy) (by omega) hxd

theorem dsts_lt {N : Nat} : ∀ (os : List Oper), dstsOk N os = true → ∀ (i : Nat) (x : Oper) (d : Nat), os[i]? = some x → x.dst = some d → d < N
  | [], _, _, _, _, h, _ => by simp at h
  | z :: os, hd, i, x, d, hx, hxd => by
    simp only [dstsOk, Bool.and_eq_true] at hd
    cases i with
    | zero =>
      simp only [List.getElem?_cons_zero, Option.some.injEq] at hx
      subst hx
      have h1 := hd.1
      rw [hxd] at h1
      simp only [Bool.and_eq_true, decide_eq_true_eq] at h1
      exact h1.1
    | succ i => exact dsts_lt os hd.2 i x d (by simpa using hx) hxd

theorem srcs_get {l : List Oper} {M : Array Nat} : ∀ (os : List Oper) (ss : List Src) (k : Nat), srcsOk l M k os ss = true → ∀ j o, os[j]? = some o → ∃ s, ss[j]? = some s ∧ srcOk l M (k + j) o s = true
  | [], _, _, _, _, _, h => by simp at h
  | _ :: _, [], _, h, _, _, _ => by simp [srcsOk] at h
  | o :: os, s :: ss, k, h, j, oj, hj => by
    simp only [srcsOk, Bool.and_eq_true] at h
    cases j with
    | zero =>
      simp only [List.getElem?_cons_zero, Option.some.injEq] at hj
      subst hj
      exact ⟨s, rfl, h.1⟩
    | succ j =>
      obtain ⟨s', h1, h2⟩ := srcs_get os ss (k + 1) h.2 j oj (by simpa using hj)
      exact ⟨s', by simpa using h1, by rw [show k + (j + 1) = k + 1 + j by omega]; exact h2⟩

theorem srcs_len {l : List Oper} {M : Array Nat} : ∀ (os : List Oper) (ss : List Src) (k : Nat), srcsOk l M k os ss = true → ss.length = os.length
  | [], [], _, _ => rfl
  | [], _ :: _, _, h => by simp [srcsOk] at h
  | _ :: _, [], _, h => by simp [srcsOk] at h
  | o :: os, s :: ss, k, h => by
    simp only [srcsOk, Bool.and_eq_true] at h
    simp [srcs_len os ss (k + 1) h.2]

section
variable {P : Program} {R : World → World → Prop} {w0 : World} {a0 : Act}

theorem getD_false_of_true {listed : Array Bool} {i : Nat} (h : listed.getD i false = true) : listed.getD i true = true := by
  rcases Nat.lt_or_ge i listed.size with h' | h'
  · simp [h'] at h ⊢; exact h
  · simp [Array.getElem?_eq_none h'] at h

theorem tail_sound {l : List Oper} {n : Nat} {Q : Exit → Act → World → Prop} (hM : tailOk (masks l #[]) n l.length = true) (he : edgesOk 0 l = true) :
    ∀ (fuel m : Nat) (listed : Array Bool) (a : Act) (W : World), n ≤ m → m ≤ l.length → listed.size = l.length → Closed l.toArray listed → (∀ i, i < m → listed.getD i false = true) → (∀ i, m ≤ i → listed.getD i false = false) →
      fuel = l.length - m → wpList P l.toArray Q (l.drop m) a W → wpAny P .any l.toArray Q fuel listed a W := by
  have only : ∀ (m : Nat) (listed : Array Bool), n ≤ m → Closed l.toArray listed → (∀ i, i < m → listed.getD i false = true) → (∀ i, m ≤ i → listed.getD i false = false) → ∀ j ∈ Region.ready .any l.toArray listed, j = m ∧ m < l.length := by
    intro m listed hm hc h1 h2 j hj
    obtain ⟨hu, o, ho, _⟩ := mem_ready.1 hj
    have hjl : j < l.length := by have := (Array.getElem?_eq_some_iff.1 ho).1; simpa using this
    have hjm : m ≤ j := by
      rcases Nat.lt_or_ge j m with h | h
      · have := getD_false_of_true (h1 j h); rw [this] at hu; cases hu
      · exact h
    rcases Nat.eq_or_lt_of_le hjm with h | h
    · exact ⟨h.symm, by omega⟩
    · exfalso
      have h3 := List.all_eq_true.1 hM j (List.mem_range.2 hjl)
      simp only [Bool.or_eq_true, decide_eq_true_eq] at h3
      rcases h3 with h3 | h3
      · omega
      · have h4 := List.all_eq_true.1 h3 m (List.mem_range.2 h)
        have ha := masks_anc l.toArray l #[] (fun j => by simp) (fun j i h => by simp at h) j m h4
        have := anc_of_ready hc hj ha
        rw [h2 m (Nat.le_refl _)] at this
        cases this
  intro fuel
  induction fuel with
  | zero =>
    intro m listed a W hn hm hs hc h1 h2 hf h
    have hml : m = l.length := by omega
    subst hml
    refine ⟨?_, by simpa [wpList] using h⟩
    cases hr : Region.ready .any l.toArray listed with
    | nil => rfl
    | cons x xs => have := only _ listed hn hc h1 h2 x (by rw [hr]; exact List.mem_cons_self); omega
  | succ fuel ih =>
    intro m listed a W hn hm hs hc h1 h2 hf h
    have hml : m < l.length := by omega
    obtain ⟨o, ho⟩ : ∃ o, l[m]? = some o := ⟨l[m], by simp [hml]⟩
    have hd : l.drop m = o :: l.drop (m + 1) := by
      rw [List.drop_eq_getElem_cons hml]
      congr 1
      exact Option.some.inj (by rw [← ho]; simp [hml])
    refine ⟨fun hr => ?_, fun j hj => ?_⟩
    · obtain ⟨j, hj⟩ := ready_of_left he (listed := listed) m hml (getD_in (by omega) (h2 m (Nat.le_refl _)))
      rw [hr] at hj; cases hj
    · obtain ⟨rfl, _⟩ := only m listed hn hc h1 h2 j hj
      rw [hd] at h
      have h' : wpOp P l.toArray Q j (wpList P l.toArray Q (l.drop (j + 1))) a W := by
        unfold wpOp
        have : (l.toArray)[j]? = some o := by simpa using ho
        rw [this]
        exact h
      refine wpOp_mono (fun a' W' h2' => ih (j + 1) _ a' W' (by omega) hml (by simp [hs]) (hc.set hj) (fun i hi => ?_) (fun i hi => ?_) (by omega) h2') h'
      · by_cases hij : j = i
        · subst hij; simp [Array.getElem?_setIfInBounds_self_of_lt (show j < listed.size by omega)]
        · rw [getD_set_ne false hij]; exact h1 i (by omega)
      · rw [getD_set_ne false (by omega)]; exact h2 i (by omega)

theorem wpAny_of_rely {l : List Oper} {n N : Nat} {S : List Src} {E : List Fact} {Q : Exit → Act → World → Prop} (hok : ok l n N S = true) (hN : a0.tmps.size = N) (hrf : ∀ a, R a a) (htr : ∀ {a b c : World}, R a b → R b c → R a c)
    (hE : E.length = (l.take n).length) (hst : ∀ φ ∈ E, Stable R φ)
    (hop : ∀ j o s, (l.take n)[j]? = some o → S[j]? = some s → opOk P R w0 (slots a0) E o s (E.getD j fun _ _ => True))
    (hfin : ∀ W, R w0 W → fin (fun a W => wpList P l.toArray Q (l.drop n) a W) (l.take n) E a0 W) :
    ∀ (fuel : Nat) (listed : Array Bool) (a : Act) (W : World) (vs : Nat → Value), Inv R w0 a0 l.toArray E n listed a W vs → fuel = left l.toArray listed → wpAny P .any l.toArray Q fuel listed a W := by
  simp only [ok, Bool.and_eq_true, decide_eq_true_eq] at hok
  obtain ⟨⟨⟨⟨⟨hn, hsrc⟩, hdst⟩, hedge⟩, htail⟩, hdt⟩ := hok
  have hlen : (l.take n).length = n := by simp [hn]
  have hget : ∀ i, i < n → (l.take n)[i]? = l[i]? := fun i hi => by simp [hi]
  have hgd : ∀ i, (E.getD i fun _ _ => True) = (fun _ _ => True) ∨ (E.getD i fun _ _ => True) ∈ E := fun i => by
    rcases Nat.lt_or_ge i E.length with h | h
    · right; simp [h]
    · left; simp [List.getElem?_eq_none h]
  have hstg : ∀ i, Stable R (E.getD i fun _ _ => True) := fun i => by
    rcases hgd i with h | h
    · rw [h]; exact fun _ _ _ _ _ => trivial
    · exact hst _ h
  have hanc : ∀ j i, ((masks l #[]).getD j 0).testBit i = true → Anc l.toArray i j := masks_anc l.toArray l #[] (fun j => by simp) (fun j i h => by simp at h)
  have count : ∀ (listed : Array Bool), (∀ i, i < n → listed.getD i true = true) → (∀ i, n ≤ i → i < l.length → listed.getD i true = false) → left l.toArray listed = l.length - n := by
    intro listed h1 h2
    unfold left
    simp only [List.size_toArray]
    have : ∀ m, m ≤ l.length → (List.range m).countP (fun i => !listed.getD i true) = m - n := by
      intro m
      induction m with
      | zero => intro _; simp
      | succ m ih =>
        intro hm
        rw [List.range_succ, List.countP_append, ih (by omega), List.countP_singleton]
        by_cases hmn : m < n
        · simp only [h1 m hmn, Bool.not_true, Bool.false_eq_true, if_false]; omega
        · simp only [h2 m (by omega) (by omega), Bool.not_false, if_true]; omega
    exact this l.length (Nat.le_refl _)
  have done : ∀ (fuel : Nat) (listed : Array Bool) (a : Act) (W : World) (vs : Nat → Value), Inv R w0 a0 l.toArray E n listed a W vs → fuel = left l.toArray listed → (∀ i, i < n → listed.getD i true = true) → wpAny P .any l.toArray Q fuel listed a W := by
    intro fuel listed a W vs inv hf hall
    have hs : listed.size = l.length := by simpa using inv.size
    have hall' : ∀ i, i < n → listed.getD i false = true := fun i hi => by
      cases hx : listed.getD i false with
      | true => rfl
      | false => have := getD_in (by omega) hx; rw [hall i hi] at this; cases this
    refine tail_sound htail hedge fuel n listed a W (Nat.le_refl _) hn hs inv.closed hall' inv.tail (by rw [hf]; exact count listed hall (fun i h1 h2 => getD_in (by omega) (inv.tail i h1))) ?_
    have hq := fin_run (l.take n) E a0 vs 0 (hfin W inv.rel) hE (fun i hi => by
      rw [Nat.zero_add]
      exact inv.facts i (hall' i (by omega)) (by omega))
    have heq : putsFrom (l.take n) vs 0 a0 = a := by
      have hsz := putsFrom_size (l.take n) vs 0 a0
      have ht : (putsFrom (l.take n) vs 0 a0).tmps = a.tmps := by
        refine Array.ext_getElem? fun t => ?_
        by_cases hw : ∃ (i : Nat) (o : Oper), (l.take n)[i]? = some o ∧ o.dst = some t
        · obtain ⟨i, o, hi, ho⟩ := hw
          have hin : i < n := by have := (List.getElem?_eq_some_iff.1 hi).1; omega
          rw [putsFrom_some (l.take n) vs 0 a0 t i o hdst hN hi ho, Nat.zero_add]
          exact (inv.vals i o t (hall' i hin) hin (by rw [hget i hin] at hi; simpa using hi) ho).symm
        · rw [putsFrom_none (l.take n) vs 0 a0 t (fun o ho he => by
            obtain ⟨i, hi⟩ := List.mem_iff_getElem?.1 ho
            exact hw ⟨i, o, hi, he⟩)]
          refine (inv.rest t fun i o _ hin hi he => hw ⟨i, o, by rw [hget i hin]; simpa using hi, he⟩).symm
      have hd := hsz.2.trans inv.defers.symm
      generalize putsFrom (l.take n) vs 0 a0 = b at *
      cases a; cases b
      simp_all
    rw [heq] at hq
    exact hq
  have main : ∀ (fuel : Nat) (listed : Array Bool) (a : Act) (W : World) (vs : Nat → Value), Inv R w0 a0 l.toArray E n listed a W vs → fuel = left l.toArray listed → wpAny P .any l.toArray Q fuel listed a W := by
    intro fuel
    induction fuel with
    | zero =>
      intro listed a W vs inv hf
      refine done 0 listed a W vs inv hf fun i hi => ?_
      cases hx : listed.getD i true with
      | true => rfl
      | false =>
        have := left_pos (ops := l.toArray) (by simp; omega) hx
        omega
    | succ fuel ih =>
      intro listed a W vs inv hf
      by_cases hA : ∀ i, i < n → listed.getD i true = true
      · exact done _ listed a W vs inv hf hA
      · have hs : listed.size = l.length := by simpa using inv.size
        obtain ⟨i0, hi0, hu0⟩ : ∃ i, i < n ∧ listed.getD i true = false := by
          refine Classical.byContradiction fun hc => hA fun i hi => ?_
          cases hx : listed.getD i true with
          | true => rfl
          | false => exact absurd ⟨i, hi, hx⟩ hc
        refine ⟨fun hr => ?_, fun j hj => ?_⟩
        · obtain ⟨j, hj⟩ := ready_of_left hedge (listed := listed) i0 (by omega) hu0
          rw [hr] at hj; cases hj
        · obtain ⟨hju, oj, hoj, _⟩ := mem_ready.1 hj
          have hoj' : l[j]? = some oj := by simpa using hoj
          have hjl : j < l.length := (List.getElem?_eq_some_iff.1 hoj').1
          have hjn : j < n := by
            rcases Nat.lt_or_ge j n with h | h
            · exact h
            · exfalso
              have h3 := List.all_eq_true.1 htail j (List.mem_range.2 hjl)
              simp only [Bool.or_eq_true, decide_eq_true_eq] at h3
              rcases h3 with h3 | h3
              · omega
              · have h4 := List.all_eq_true.1 h3 i0 (List.mem_range.2 (by omega))
                have := anc_of_ready inv.closed hj (hanc j i0 h4)
                rw [getD_false_of_true this] at hu0
                cases hu0
          obtain ⟨s, hsj, hso⟩ := srcs_get (l.take n) S 0 hsrc j oj (by rw [hget j hjn]; exact hoj')
          rw [Nat.zero_add] at hso
          simp only [srcOk, Bool.and_eq_true] at hso
          obtain ⟨hg, hrd⟩ := hso
          have hg' : guardOf l.toArray oj = some s.guard := by simpa using hg
          have holds : ∀ (r : List (Tmp × Option Nat)), r.all (readOk l (masks l #[]) j) = true → Holds (slots a0) E (slots a) W r := by
            intro r
            induction r with
            | nil => intro _; trivial
            | cons x r ihr =>
              intro hr
              simp only [List.all_cons, Bool.and_eq_true] at hr
              obtain ⟨t, si⟩ := x
              cases si with
              | none =>
                refine ⟨?_, ihr hr.2⟩
                have h1 := hr.1
                simp only [readOk] at h1
                have h2 : a.tmps[t]? = a0.tmps[t]? := inv.rest t fun i o hli hin hio hd => by
                  have h3 := List.all_eq_true.1 h1 (o, i) (by
                    rw [List.mem_iff_getElem?]
                    refine ⟨i, ?_⟩
                    rw [List.getElem?_zipIdx]
                    have : l[i]? = some o := by simpa using hio
                    simp [this])
                  simp only [hd, bne_self_eq_false, Bool.false_or, Bool.or_eq_true, beq_iff_eq] at h3
                  have hlj : listed.getD j false = true := by
                    rcases h3 with h3 | h3
                    · exact inv.closed.anc (hanc i j h3) hli
                    · rw [← h3]; exact hli
                  rw [getD_false_of_true hlj] at hju
                  cases hju
                simp only [slots, Array.getD_eq_getD_getElem?, h2]
              | some i =>
                refine ⟨?_, ihr hr.2⟩
                have h1 := hr.1
                simp only [readOk, Bool.and_eq_true, decide_eq_true_eq, beq_iff_eq] at h1
                obtain ⟨⟨hij, hbit⟩, hdi⟩ := h1
                have hli := anc_of_ready inv.closed hj (hanc j i hbit)
                obtain ⟨oi, hoi, hdi'⟩ : ∃ oi, l[i]? = some oi ∧ oi.dst = some t := by
                  cases hx : l[i]? with
                  | none => rw [hx] at hdi; cases hdi
                  | some oi => rw [hx] at hdi; exact ⟨oi, rfl, hdi⟩
                have hv := inv.vals i oi t hli (by omega) (by simpa using hoi) hdi'
                have : slots a t = vs i := by simp only [slots, Array.getD_eq_getD_getElem?, hv, Option.getD_some]
                rw [this]
                exact inv.facts i hli (by omega)
          have hopj := hop j oj s (by rw [hget j hjn]; exact hoj') hsj (slots a) W inv.rel (holds s.reads hrd)
          have next : ∀ v W', R W W' → (E.getD j fun _ _ => True) v W' → wpAny P .any l.toArray Q fuel (listed.setIfInBounds j true) (a.put oj.dst v) W' := by
            intro v W' hR hφ
            have hjs : j < listed.size := by omega
            have hlist : ∀ i, (listed.setIfInBounds j true).getD i false = true → i = j ∨ listed.getD i false = true := fun i hi => by
              by_cases hij : j = i
              · exact .inl hij.symm
              · rw [getD_set_ne false hij] at hi; exact .inr hi
            refine ih _ _ W' (fun i => if i = j then v else vs i) ⟨by simp [inv.size], inv.closed.set hj, htr inv.rel hR, (put_defers _ _ _).trans inv.defers, (put_size _ _ _).trans inv.asize, ?_, ?_, ?_, ?_⟩ ?_
            · intro i hi hin
              by_cases hij : i = j
              · subst hij; simpa using hφ
              · simp only [hij, if_false]
                rcases hlist i hi with h | h
                · exact absurd h hij
                · exact hstg i _ _ _ hR (inv.facts i h hin)
            · intro i o d hi hin hio hd
              by_cases hij : i = j
              · subst hij
                obtain rfl : o = oj := Option.some.inj (hio.symm.trans hoj)
                rw [hd, put_get_eq _ _ _ (by rw [inv.asize, hN]; exact dsts_lt (l.take n) hdst i o d (by rw [hget i hin]; exact hoj') hd)]
                simp
              · simp only [hij, if_false]
                rcases hlist i hi with h | h
                · exact absurd h hij
                · rw [put_get_ne _ _ _ _ (dsts_ne (l.take n) hdst i j o oj d (by rw [hget i hin]; simpa using hio) (by rw [hget j hjn]; exact hoj') hij hd)]
                  exact inv.vals i o d h hin hio hd
            · intro t ht
              rw [put_get_ne _ _ _ _ (ht j oj (by simp [Array.getElem?_setIfInBounds_self_of_lt hjs]) hjn hoj)]
              exact inv.rest t fun i o hi hin hio => ht i o (getD_set_true hi) hin hio
            · intro i hi
              rw [getD_set_ne false (by omega)]
              exact inv.tail i hi
            · have := left_set hju inv.size
              omega
          refine wpOp_of_wanted hoj ?_
          rw [wanted_guard hg']
          by_cases hb : gOk s.guard (slots a) = true
          · rw [if_pos hb]
            refine relyAt_wp (R := R) (W := W) (φ := E.getD j fun _ _ => True) (fun {_ _ _} h1 h2 => htr h1 h2) ?_ next
            cases hgd' : s.guard with
            | none => rw [hgd'] at hopj; exact hopj
            | some db =>
              rw [hgd'] at hopj hb
              exact (if_pos hb).mp hopj
          · rw [if_neg hb]
            refine next undef W (hrf W) ?_
            cases hgd' : s.guard with
            | none => rw [hgd'] at hb; exact absurd rfl hb
            | some db =>
              rw [hgd'] at hopj hb
              exact (if_neg hb).mp hopj
  exact main

/-- what stands behind the region -/
def After {P : Program} {R : World → World → Prop} {Q : Exit → Act → World → Prop} {a : Act} {w : World} {l : List Oper} {n : Nat} (F : List Fact → Prop) : Prop :=
  ∀ E, (∀ W, R w.drew W → fin (fun a W => wpList P l.toArray Q (l.drop n) a W) (l.take n) E a W) → F E
theorem After.out {P : Program} {R : World → World → Prop} {Q : Exit → Act → World → Prop} {a : Act} {w : World} {l : List Oper} {n : Nat} {F : List Fact → Prop} (h : After (P := P) (R := R) (Q := Q) (a := a) (w := w) (l := l) (n := n) F) {E : List Fact}
    (k : ∀ W, R w.drew W → fin (fun a W => wpList P l.toArray Q (l.drop n) a W) (l.take n) E a W) : F E := h E k

/-- THE LAW. 'n': so many operations are taken in whatever order; those behind them wait for all ahead of them and are walked as ever. 'N': the frame's size. -/
theorem wp_region_rely {id : Nat} {Q : Exit → Act → World → Prop} {a : Act} {w : World} {l : List Oper} (R : World → World → Prop) (n N : Nat) (S : List Src) (hm : P.follows .mixedOrders = true) (hok : ok l n N S = true) (hN : a.tmps.size = N)
    (hrf : ∀ a, R a a) (htr : ∀ {a b c : World}, R a b → R b c → R a c)
    (h : ∀ (F : List Fact → Prop) (r0 : Tmp → Value), r0 = slots a → After (P := P) (R := R) (Q := Q) (a := a) (w := w) (l := l) (n := n) F → relies P R w.drew r0 F (l.take n) S []) : (Code.region id l.toArray true).wp P Q a w := by
  have hok' := hok
  simp only [ok, Bool.and_eq_true, decide_eq_true_eq] at hok'
  obtain ⟨⟨⟨⟨⟨hn, hsrc⟩, hdst⟩, hedge⟩, htail⟩, hdt⟩ := hok'
  obtain ⟨E, hl, _, hst, hop, hfin⟩ := relies_found (M := masks l #[]) (l.take n) S [] (h (fun E => ∀ W, R w.drew W → fin (fun a W => wpList P l.toArray Q (l.drop n) a W) (l.take n) E a W) _ rfl (show After _ from fun _ h => h)) hsrc (fun _ h => by cases h)
  refine wp_region_any hm ?_
  have hcount : l.toArray.size = left l.toArray (Array.replicate l.toArray.size false) := by
    unfold left
    have : ∀ m, m ≤ l.toArray.size → (List.range m).countP (fun i => !(Array.replicate l.toArray.size false).getD i true) = m := by
      intro m
      induction m with
      | zero => intro _; simp
      | succ m ih =>
        intro hm
        rw [List.range_succ, List.countP_append, ih (by omega), List.countP_singleton]
        have : (Array.replicate l.toArray.size false).getD m true = false := by simp at hm ⊢; simp [show m < l.length by omega]
        simp only [this, Bool.not_false, if_true]
    exact (this _ (Nat.le_refl _)).symm
  refine wpAny_of_rely (R := R) (w0 := w.drew) (a0 := a) hok hN hrf htr (by simpa using hl) hst (fun j o s hj hs => by simpa using hop j o s hj hs) hfin _ _ a _ (fun _ => undef) ⟨by simp, ?_, hrf _, rfl, rfl, ?_, ?_, ?_, ?_⟩ hcount
  · intro j o ho hl
    rw [getD_replicate_false] at hl; cases hl
  · intro i hi; rw [getD_replicate_false] at hi; cases hi
  · intro i o d hi; rw [getD_replicate_false] at hi; cases hi
  · intro t _; rfl
  · intro i _; exact getD_replicate_false _ _
end
end Go.Proofs.Ytaojnmjmmfdfjaa.Rely
