/- A walk by program: regions that draw, some of whose operations answer what is known by a fact alone (new slices, slices that a call gives); own slices of integers of any kind; slicing. -/
import Derived.Test.YtfelfmchachljaaOwnV
import Derived.Laws.CopyRow
import Derived.Laws.IdiomCopy
import Derived.Laws.OwnMore
namespace Go.Proofs.Ytfelfmchachljaa.Auto
open Go Go.RowKit
open Go.Proofs.Ytfelfmchachljaa.Rely Go.Proofs.Ytfelfmchachljaa.Own
set_option linter.unusedVariables false
set_option linter.unusedSimpArgs false
variable {ds : List Deferred}

inductive KE where
  | is (v : Value)
  | ex (φ : Fact)
def KE.fact : KE → Fact
  | .is c => fun v _ => v = c
  | .ex φ => φ
def KE.kn : KE → Kn
  | .is c => .is c
  | .ex _ => .new #[] 0
/-- what may happen to the world between the operations of a region: what lay ahead of it stays -/
structure Rl (R : World → World → Prop) (w0 : World) : Prop where
  refl : ∀ W, R W W
  trans : ∀ {a b c : World}, R a b → R b c → R a c
  ext : ∀ {a b : World}, w0.heap.size ≤ a.heap.size → Ext a b → R a b
  low : ∀ {W : World}, R w0 W → Ext w0 W
theorem rl_ext (w0 : World) : Rl Ext w0 := ⟨Rely.Ext.refl, Rely.Ext.trans, fun _ h => h, fun h => h⟩
def KE.ok (R : World → World → Prop) : KE → Prop
  | .is _ => True
  | .ex φ => Stable R φ
theorem KE.stable {R : World → World → Prop} {k : KE} (h : k.ok R) : Stable R k.fact := by
  cases k with
  | is c => exact fun _ _ _ _ h => h
  | ex φ => exact h
theorem holdsE {r0 : Tmp → Value} {C : List KE} {ρ : Tmp → Value} {W : World} : ∀ (r : List (Tmp × Option Nat)), (r.all fun x => match x.2 with | some i => (match (C.map KE.kn)[i]? with | some (.is _) => true | _ => false) | none => true) = true →
    Holds r0 (C.map KE.fact) ρ W r → Holds r0 ((C.map KE.kn).map (Kn.fact 0)) ρ W r
  | [], _, _ => trivial
  | (t, none) :: r, ha, h => by
    simp only [List.all_cons, Bool.and_eq_true] at ha
    exact ⟨h.1, holdsE r ha.2 h.2⟩
  | (t, some i) :: r, ha, h => by
    simp only [List.all_cons, Bool.and_eq_true] at ha
    refine ⟨?_, holdsE r ha.2 h.2⟩
    have h1 := h.1
    have h2 := ha.1
    simp only [List.getElem?_map] at h2
    cases hc : C[i]? with
    | none => simp [hc] at h2
    | some k =>
      cases k with
      | ex φ => simp [hc, KE.kn] at h2
      | is c =>
        simp only [List.getD_eq_getElem?_getD, List.getElem?_map, hc, Option.map_some, Option.getD_some, KE.fact] at h1
        simp [List.getD_eq_getElem?_getD, hc, KE.kn, Kn.fact, h1]
def stepsE (P : Program) (R : World → World → Prop) (w0 : World) (N : Nat) (L : Env) (F : List KE → Prop) : List Oper → List Src → List KE → Prop
  | o :: os, s :: ss, C => ∃ k : KE, k.ok R ∧ opOk P R w0 (envN N L) (C.map KE.fact) o s k.fact ∧ stepsE P R w0 N L F os ss (C ++ [k])
  | _, _, C => F C
theorem stepsE_relies {P : Program} {R : World → World → Prop} {w0 : World} {N : Nat} {L : Env} {F : List KE → Prop} {G : List Fact → Prop} (hFG : ∀ C, F C → G (C.map KE.fact)) : ∀ (os : List Oper) (ss : List Src) (C : List KE), stepsE P R w0 N L F os ss C → relies P R w0 (envN N L) G os ss (C.map KE.fact)
  | [], _, C, h => hFG C (by simpa [stepsE] using h)
  | _ :: _, [], C, h => hFG C (by simpa [stepsE] using h)
  | o :: os, s :: ss, C, ⟨k, h0, h1, h2⟩ => by
    refine ⟨k.fact, KE.stable h0, h1, ?_⟩
    have := stepsE_relies hFG os ss (C ++ [k]) h2
    simpa using this
section
variable {P : Program} {R : World → World → Prop} {w0 : World} {N : Nat} {L : Env} {F : List KE → Prop} {o : Oper} {os : List Oper} {s : Src} {ss : List Src} {C : List KE}
theorem e_op (hRl : Rl R w0) (k : KE) (hk0 : k.ok R) (hs : seen (C.map KE.kn) o s = true) (hg : gOk s.guard (get (envS N L ((C.map KE.kn).map Kn.val) s.reads)) = true)
    (h : ∀ W, R w0 W → relyUpon P R W k.fact ((execOp (Rely.look (get (envS N L ((C.map KE.kn).map Kn.val) s.reads))) o).run P W))
    (hk : stepsE P R w0 N L F os ss (C ++ [k])) : stepsE P R w0 N L F (o :: os) (s :: ss) C :=
  ⟨k, hk0, fun ρ W hR hh => by
    have hh' : Holds (envN N L) ((C.map KE.kn).map (Kn.fact 0)) ρ W s.reads := by
      refine holdsE s.reads ?_ hh
      have := hs
      simp only [seen, Bool.and_eq_true] at this
      exact this.1.1.2
    rw [seen_guard hs hh']
    refine guarded_pos hg ?_
    unfold relyAt
    rw [seen_look hs hh']
    exact h W hR, hk⟩
theorem e_skip (hs : seen (C.map KE.kn) o s = true) (hg : gOk s.guard (get (envS N L ((C.map KE.kn).map Kn.val) s.reads)) = false)
    (hk : stepsE P R w0 N L F os ss (C ++ [.is undef])) : stepsE P R w0 N L F (o :: os) (s :: ss) C :=
  ⟨.is undef, trivial, fun ρ W hR hh => by
    have hh' : Holds (envN N L) ((C.map KE.kn).map (Kn.fact 0)) ρ W s.reads := by
      refine holdsE s.reads ?_ hh
      have := hs
      simp only [seen, Bool.and_eq_true] at this
      exact this.1.1.2
    rw [seen_guard hs hh']
    exact guarded_neg hg rfl, hk⟩
theorem e_val (hRl : Rl R w0) (v : Value) (hs : seen (C.map KE.kn) o s = true) (hg : gOk s.guard (get (envS N L ((C.map KE.kn).map Kn.val) s.reads)) = true)
    (h : ∀ W, (execOp (Rely.look (get (envS N L ((C.map KE.kn).map Kn.val) s.reads))) o).run P W = .ok (.value v) W)
    (hk : stepsE P R w0 N L F os ss (C ++ [.is v])) : stepsE P R w0 N L F (o :: os) (s :: ss) C :=
  e_op hRl (.is v) trivial hs hg (fun W _ => by rw [h]; exact ⟨hRl.refl _, rfl⟩) hk
theorem e_read (hRl : Rl R w0) (v : Value) (hs : seen (C.map KE.kn) o s = true) (hg : gOk s.guard (get (envS N L ((C.map KE.kn).map Kn.val) s.reads)) = true)
    (h : ∀ W, Ext w0 W → (execOp (Rely.look (get (envS N L ((C.map KE.kn).map Kn.val) s.reads))) o).run P W = .ok (.value v) W)
    (hk : stepsE P R w0 N L F os ss (C ++ [.is v])) : stepsE P R w0 N L F (o :: os) (s :: ss) C :=
  e_op hRl (.is v) trivial hs hg (fun W hR => by rw [h W (hRl.low hR)]; exact ⟨hRl.refl _, rfl⟩) hk
theorem retsRl {A B : World → World → Prop} {W W' : World} {φ : Fact} {e : Ending} (h : RetsTo A W φ e W') (hAB : A W W' → B W W') : RetsTo B W φ e W' := by
  obtain ⟨v, h1, h2, h3⟩ := h
  exact ⟨v, h1, hAB h2, h3⟩
theorem e_call (hRl : Rl R w0) (v : Value) (f : FuncId) (args : Array Value) (hs : seen (C.map KE.kn) o s = true) (hg : gOk s.guard (get (envS N L ((C.map KE.kn).map Kn.val) s.reads)) = true)
    (h : ∀ W, (execOp (Rely.look (get (envS N L ((C.map KE.kn).map Kn.val) s.reads))) o).run P W = .ok (.enter f args) W) (hc : ∀ W, Ext w0 W → Calls P f args W (Ret W v))
    (hk : stepsE P R w0 N L F os ss (C ++ [.is v])) : stepsE P R w0 N L F (o :: os) (s :: ss) C :=
  e_op hRl (.is v) trivial hs hg (fun W hR => by
    rw [h]
    exact ⟨hRl.refl _, (hc W (hRl.low hR)).mono fun _ _ h => retsRl h.const (hRl.ext (hRl.low hR).size)⟩) hk
/-- a call that gives what a fact says -/
theorem e_callG (hRl : Rl R w0) (φ : Fact) (hφ : Stable R φ) (f : FuncId) (args : Array Value) (hs : seen (C.map KE.kn) o s = true) (hg : gOk s.guard (get (envS N L ((C.map KE.kn).map Kn.val) s.reads)) = true)
    (h : ∀ W, (execOp (Rely.look (get (envS N L ((C.map KE.kn).map Kn.val) s.reads))) o).run P W = .ok (.enter f args) W) (hc : ∀ W, Ext w0 W → Calls P f args W (Gives W φ))
    (hk : stepsE P R w0 N L F os ss (C ++ [.ex φ])) : stepsE P R w0 N L F (o :: os) (s :: ss) C :=
  e_op hRl (.ex φ) hφ hs hg (fun W hR => by
    rw [h]
    exact ⟨hRl.refl _, (hc W (hRl.low hR)).mono fun _ _ h => retsRl h.fact (hRl.ext (hRl.low hR).size)⟩) hk
/-- a call some of whose arguments are known by facts alone -/
theorem e_callX (hRl : Rl R w0) (v : Value) (f : FuncId) {rd : List (Tmp × Option Nat)}
    (h : ∀ (ρ : Tmp → Value) (W : World), Ext w0 W → Holds (envN N L) (C.map KE.fact) ρ W rd → ∃ args, (execOp (Rely.look ρ) o).run P W = .ok (.enter f args) W ∧ Calls P f args W (Ret W v))
    (hk : stepsE P R w0 N L F os ss (C ++ [.is v])) : stepsE P R w0 N L F (o :: os) (⟨none, rd⟩ :: ss) C :=
  ⟨.is v, trivial, fun ρ W hR hh => by
    obtain ⟨args, h1, h2⟩ := h ρ W (hRl.low hR) hh
    show relyUpon _ _ _ _ _
    rw [h1]
    exact ⟨hRl.refl _, h2.mono fun _ _ h => retsRl h.const (hRl.ext (hRl.low hR).size)⟩, hk⟩
/-- a call that gives a fact, some of whose arguments are known by facts alone -/
theorem e_callGX (hRl : Rl R w0) (φ : Fact) (hφ : Stable R φ) (f : FuncId) {rd : List (Tmp × Option Nat)}
    (h : ∀ (ρ : Tmp → Value) (W : World), Ext w0 W → Holds (envN N L) (C.map KE.fact) ρ W rd → ∃ args, (execOp (Rely.look ρ) o).run P W = .ok (.enter f args) W ∧ Calls P f args W (Gives W φ))
    (hk : stepsE P R w0 N L F os ss (C ++ [.ex φ])) : stepsE P R w0 N L F (o :: os) (⟨none, rd⟩ :: ss) C :=
  ⟨.ex φ, hφ, fun ρ W hR hh => by
    obtain ⟨args, h1, h2⟩ := h ρ W (hRl.low hR) hh
    show relyUpon _ _ _ _ _
    rw [h1]
    exact ⟨hRl.refl _, h2.mono fun _ _ h => retsRl h.fact (hRl.ext (hRl.low hR).size)⟩, hk⟩
/-- an operation some of whose operands are known by facts alone -/
theorem e_runX (hRl : Rl R w0) (φ : Fact) (hφ : Stable R φ) {rd : List (Tmp × Option Nat)}
    (h : ∀ (ρ : Tmp → Value) (W : World), Ext w0 W → Holds (envN N L) (C.map KE.fact) ρ W rd → ∃ v W', (execOp (Rely.look ρ) o).run P W = .ok (.value v) W' ∧ R W W' ∧ φ v W')
    (hk : stepsE P R w0 N L F os ss (C ++ [.ex φ])) : stepsE P R w0 N L F (o :: os) (⟨none, rd⟩ :: ss) C :=
  ⟨.ex φ, hφ, fun ρ W hR hh => by
    obtain ⟨v, W', h1, h2, h3⟩ := h ρ W (hRl.low hR) hh
    show relyUpon _ _ _ _ _
    rw [h1]
    exact ⟨h2, h3⟩, hk⟩
/-- a new slice (or a new variable): its row -/
def NewS (base : Nat) (cs : Array Value) (T : TypeId) (n : Nat) : Fact := fun v W => ∃ g, v = .slice (some ⟨g, 0, none⟩) n n ∧ base ≤ g ∧ W.heap[g]? = some (.cells cs T)
theorem NewS.stable (base : Nat) (cs : Array Value) (T : TypeId) (n : Nat) : Stable Ext (NewS base cs T n) := fun _ _ _ hR ⟨g, h1, h2, h3⟩ => ⟨g, h1, h2, row_ext h3 hR⟩
theorem e_newS (hRl : Rl R w0) (cs : Array Value) (T : TypeId) (n : Nat) (hst : Stable R (NewS w0.heap.size cs T n)) (hs : seen (C.map KE.kn) o s = true) (hg : gOk s.guard (get (envS N L ((C.map KE.kn).map Kn.val) s.reads)) = true)
    (h : ∀ W, (execOp (Rely.look (get (envS N L ((C.map KE.kn).map Kn.val) s.reads))) o).run P W = .ok (.value (.slice (some ⟨W.heap.size, 0, none⟩) n n)) (W.alloc (.cells cs T)))
    (hk : stepsE P R w0 N L F os ss (C ++ [.ex (NewS w0.heap.size cs T n)])) : stepsE P R w0 N L F (o :: os) (s :: ss) C :=
  e_op hRl (.ex (NewS w0.heap.size cs T n)) hst hs hg (fun W hR => by
    rw [h]
    exact ⟨hRl.ext (hRl.low hR).size (ext_alloc _ _), _, rfl, (hRl.low hR).size, heap_alloc_new _ _⟩) hk
def NewP (base : Nat) (cs : Array Value) (T : TypeId) : Fact := fun v W => ∃ g, v = .pointer (some ⟨g, 0, none⟩) ∧ base ≤ g ∧ W.heap[g]? = some (.cells cs T)
theorem NewP.stable (base : Nat) (cs : Array Value) (T : TypeId) : Stable Ext (NewP base cs T) := fun _ _ _ hR ⟨g, h1, h2, h3⟩ => ⟨g, h1, h2, row_ext h3 hR⟩
theorem e_newP (hRl : Rl R w0) (cs : Array Value) (T : TypeId) (hst : Stable R (NewP w0.heap.size cs T)) (hs : seen (C.map KE.kn) o s = true) (hg : gOk s.guard (get (envS N L ((C.map KE.kn).map Kn.val) s.reads)) = true)
    (h : ∀ W, (execOp (Rely.look (get (envS N L ((C.map KE.kn).map Kn.val) s.reads))) o).run P W = .ok (.value (.pointer (some ⟨W.heap.size, 0, none⟩))) (W.alloc (.cells cs T)))
    (hk : stepsE P R w0 N L F os ss (C ++ [.ex (NewP w0.heap.size cs T)])) : stepsE P R w0 N L F (o :: os) (s :: ss) C :=
  e_op hRl (.ex (NewP w0.heap.size cs T)) hst hs hg (fun W hR => by
    rw [h]
    exact ⟨hRl.ext (hRl.low hR).size (ext_alloc _ _), _, rfl, (hRl.low hR).size, heap_alloc_new _ _⟩) hk
theorem e_nil (h : F C) : stepsE P R w0 N L F [] ss C := by cases ss <;> exact h
end
def finE (Q : Env → World → Prop) : List Oper → List KE → Env → World → Prop
  | o :: os, .is c :: C, L, W => finE Q os C (up o.dst c L) W
  | o :: os, .ex φ :: C, L, W => ∀ v, φ v W → finE Q os C (up o.dst v L) W
  | _, _, L, W => Q L W
theorem fin_E {Q : Act → World → Prop} {N : Nat} {W : World} : ∀ (os : List Oper) (C : List KE) (L : Env), finE (fun L W => Q (actOf ds N L) W) os C L W → fin Q os (C.map KE.fact) (actOf ds N L) W
  | [], C, L, h => by cases C <;> exact h
  | _ :: _, [], L, h => h
  | o :: os, .is c :: C, L, h => by
    intro v hv
    obtain rfl : v = c := hv
    rw [put_up]
    exact fin_E os C _ h
  | o :: os, .ex φ :: C, L, h => by
    intro v hv
    rw [put_up]
    exact fin_E os C _ (h v hv)
theorem finE_mono {Q Q' : Env → World → Prop} (h : ∀ L W, Q L W → Q' L W) : ∀ (os : List Oper) (C : List KE) (L : Env) (W : World), finE Q os C L W → finE Q' os C L W
  | [], C, L, W, k => by cases C <;> exact h _ _ k
  | _ :: _, [], L, W, k => h _ _ k
  | o :: os, .is c :: C, L, W, k => finE_mono h os C _ W k
  | o :: os, .ex φ :: C, L, W, k => fun v hv => finE_mono h os C _ W (k v hv)
theorem any_regionR {P : Program} {id : Nat} {Q : Exit → Act → World → Prop} {N : Nat} {L : Env} {w : World} {l : List Oper} (R : World → World → Prop) (hRl : Rl R w.drew) (n : Nat) (S : List Src) (hm : P.follows .mixedOrders = true) (hok : ok l n N S = true)
    (h : ∀ F : List KE → Prop, (∀ C, (∀ W, R w.drew W → finE (fun L W => WL P l.toArray Q (l.drop n) (actOf ds N L) W) (l.take n) C L W) → F C) → stepsE P R w.drew N L F (l.take n) S []) :
    (Code.region id l.toArray true).wp P Q (actOf ds N L) w := by
  refine wp_region_rely R n N S hm hok (size_actOf N L) hRl.refl (fun a b => hRl.trans a b) fun F r0 hr hF => ?_
  rw [slots_actOf] at hr
  subst hr
  have := h (fun C => ∀ W, R w.drew W → finE (fun L W => WL P l.toArray Q (l.drop n) (actOf ds N L) W) (l.take n) C L W) (fun C h => h)
  exact stepsE_relies (G := F) (fun C h => hF.out fun W hR => fin_E (Q := fun a W => wpList P l.toArray Q (l.drop n) a W) _ _ _ (finE_mono (fun L W h => h.out) _ _ _ _ (h W hR))) _ _ [] this
theorem any_regionE {P : Program} {id : Nat} {Q : Exit → Act → World → Prop} {N : Nat} {L : Env} {w : World} {l : List Oper} (n : Nat) (S : List Src) (hm : P.follows .mixedOrders = true) (hok : ok l n N S = true)
    (h : ∀ F : List KE → Prop, (∀ C, (∀ W, Ext w W → finE (fun L W => WL P l.toArray Q (l.drop n) (actOf ds N L) W) (l.take n) C L W) → F C) → stepsE P Ext w.drew N L F (l.take n) S []) :
    (Code.region id l.toArray true).wp P Q (actOf ds N L) w :=
  any_regionR Ext (rl_ext _) n S hm hok fun F hF => h F fun C hC => hF C fun W hR => hC W (Rely.Ext.trans (ext_drew w) hR)

/-! Own slices of integers -/
def OwnN (k : IntKind) (T : TypeId) (base : Nat) (xs : List Int) (v : Value) (W : World) : Prop := W.ownsRow base T 1 v xs.length (xs.map (Value.int k)) ∧ xs.length ≤ maxLen
theorem ownN_open {k : IntKind} {T : TypeId} {base : Nat} {xs : List Int} {v : Value} {W : World} (h : OwnN k T base xs v W) (h0 : 0 < xs.length) :
    ∃ g c cur, v = .slice (some ⟨g, 0, none⟩) xs.length c ∧ base ≤ g ∧ W.heap[g]? = some (.cells cur T) ∧ cur.size = c ∧ xs.length ≤ c ∧ c ≤ maxLen ∧ cur.toList.take xs.length = xs.map (Value.int k) := by
  rcases h.1.2 with ⟨_, h1⟩ | ⟨g, c, cur, h1, h2, h3, h4, h5, h6, h7⟩
  · omega
  · exact ⟨g, c, cur, h1, h2, h3, by omega, h4, h5, by simpa using h7⟩
theorem ownN_nil (k : IntKind) (T : TypeId) (base : Nat) (W : World) : OwnN k T base [] (.slice none 0 0) W := ⟨⟨rfl, .inl ⟨rfl, rfl⟩⟩, Nat.zero_le _⟩
theorem ownN_row {k : IntKind} {T : TypeId} {base g n : Nat} {xs : List Int} {W : World} (hn : xs.length = n) (hb : base ≤ g) (r : W.heap[g]? = some (.cells (ints k xs) T)) (hm : n ≤ maxLen) : OwnN k T base xs (.slice (some ⟨g, 0, none⟩) n n) W := by
  subst hn
  exact ⟨⟨by simp, .inr ⟨g, _, _, rfl, hb, r, Nat.le_refl _, hm, by simp [ints], by rw [Nat.mul_one, List.take_of_length_le] <;> simp [ints]⟩⟩, hm⟩
theorem ownN_at {k : IntKind} {T : TypeId} {base g n c : Nat} {cur : Array Value} {xs : List Int} {W : World} (hn : xs.length = n) (hb : base ≤ g) (r : W.heap[g]? = some (.cells cur T)) (hc : cur.size = c) (hle : n ≤ c) (hm : c ≤ maxLen) (ht : cur.toList.take n = xs.map (Value.int k)) : OwnN k T base xs (.slice (some ⟨g, 0, none⟩) n c) W := by
  subst hn
  exact ⟨⟨by simp, .inr ⟨g, _, _, rfl, hb, r, hle, hm, by omega, by rw [Nat.mul_one]; exact ht⟩⟩, Nat.le_trans hle hm⟩
theorem OwnN.keep {k : IntKind} {T : TypeId} {base : Nat} {xs : List Int} {v : Value} {W W' : World} (h : OwnN k T base xs v W) (hk : ∀ g, v.ownBlock = some g → W'.heap[g]? = W.heap[g]?) : OwnN k T base xs v W' := by
  obtain ⟨⟨h1, h2⟩, hm⟩ := h
  refine ⟨⟨h1, ?_⟩, hm⟩
  rcases h2 with h2 | ⟨g, c, cur, rfl, q2, q3, q4, q5, q6, q7⟩
  · exact .inl h2
  · exact .inr ⟨g, c, cur, rfl, q2, (hk g rfl).trans q3, q4, q5, q6, q7⟩
theorem OwnN.lt {k : IntKind} {T : TypeId} {base : Nat} {xs : List Int} {v : Value} {W : World} (h : OwnN k T base xs v W) {g : Nat} (hg : v.ownBlock = some g) : g < W.heap.size := by
  rcases h.1.2 with ⟨rfl, _⟩ | ⟨g', c, cur, rfl, q2, q3, _⟩
  · cases hg
  · obtain rfl : g' = g := Option.some.inj hg
    exact row_lt q3
theorem OwnN.ge {k : IntKind} {T : TypeId} {base : Nat} {xs : List Int} {v : Value} {W : World} (h : OwnN k T base xs v W) {g : Nat} (hg : v.ownBlock = some g) : base ≤ g := by
  rcases h.1.2 with ⟨rfl, _⟩ | ⟨g', c, cur, rfl, q2, q3, _⟩
  · cases hg
  · obtain rfl : g' = g := Option.some.inj hg
    exact q2
theorem OwnN.ext {k : IntKind} {T : TypeId} {base : Nat} {xs : List Int} {v : Value} {W W' : World} (h : OwnN k T base xs v W) (e : Ext W W') : OwnN k T base xs v W' := h.keep fun g hg => e.block g (h.lt hg)
theorem OwnN.stable (k : IntKind) (T : TypeId) (base : Nat) (xs : List Int) : Stable Ext (OwnN k T base xs) := fun _ _ _ hR h => h.ext hR
theorem OwnN.base {k : IntKind} {T : TypeId} {a b : Nat} {xs : List Int} {v : Value} {W : World} (hab : a ≤ b) (h : OwnN k T b xs v W) : OwnN k T a xs v W := by
  obtain ⟨⟨h1, h2⟩, hm⟩ := h
  refine ⟨⟨h1, ?_⟩, hm⟩
  rcases h2 with h2 | ⟨g, c, cur, rfl, q2, q3, q4, q5, q6, q7⟩
  · exact .inl h2
  · exact .inr ⟨g, c, cur, rfl, Nat.le_trans hab q2, q3, q4, q5, q6, q7⟩
/-- a slice that is read: its block lies below B, if it has an element -/
def RdK (k : IntKind) (B : Nat) (ys : List Int) (v : Value) (W : World) : Prop := ∃ a cap, v = .slice a ys.length cap ∧ ys.length ≤ cap ∧ cap ≤ maxLen ∧ (a = none → cap = 0) ∧ (ys = [] ∨ ∃ g o, a = some ⟨g, o, none⟩ ∧ g < B ∧ g < W.heap.size ∧ ∀ i, i < ys.length → W.cell? ⟨g, o + i, none⟩ = some (.int k (nth ys i)))
theorem RdK.keep {k : IntKind} {B : Nat} {ys : List Int} {v : Value} {W W' : World} (h : RdK k B ys v W) (hs : W.heap.size ≤ W'.heap.size) (hk : ∀ g, g < B → g < W.heap.size → W'.heap[g]? = W.heap[g]?) : RdK k B ys v W' := by
  obtain ⟨a, cap, h1, h2, h3, h4, h5⟩ := h
  refine ⟨a, cap, h1, h2, h3, h4, h5.imp id ?_⟩
  rintro ⟨g, o, q1, q2, q3, q4⟩
  refine ⟨g, o, q1, q2, Nat.lt_of_lt_of_le q3 hs, fun i hi => ?_⟩
  rw [← q4 i hi]
  exact World.cell?_of_block (hk g q2 q3)
theorem RdK.ext {k : IntKind} {B : Nat} {ys : List Int} {v : Value} {W W' : World} (h : RdK k B ys v W) (e : Ext W W') : RdK k B ys v W' := h.keep e.size fun g _ hl => e.block g hl
theorem RdK.extB {k : IntKind} {B g : Nat} {ys : List Int} {v : Value} {W W' : World} (h : RdK k B ys v W) (e : ExtB g W W') (hg : B ≤ g) : RdK k B ys v W' := h.keep e.2.2.2.1 fun i hi hl => e.2.2.2.2 i hl (by omega)
theorem RdK.stable (k : IntKind) (B : Nat) (ys : List Int) : Stable Ext (RdK k B ys) := fun _ _ _ hR h => h.ext hR
theorem RdK.more {k : IntKind} {A B : Nat} {ys : List Int} {v : Value} {W : World} (h : RdK k A ys v W) (hB : A ≤ B) : RdK k B ys v W := by
  obtain ⟨a, cap, h1, h2, h3, h4, h5⟩ := h
  exact ⟨a, cap, h1, h2, h3, h4, h5.imp id fun ⟨g, o, q1, q2, q3⟩ => ⟨g, o, q1, by omega, q3⟩⟩
theorem RdK.len {k : IntKind} {B : Nat} {ys : List Int} {v : Value} {W : World} (h : RdK k B ys v W) : ys.length ≤ maxLen := by
  obtain ⟨a, cap, h1, h2, h3, h4⟩ := h
  omega
theorem nth_of_take {k : IntKind} {cur : Array Value} {xs : List Int} (h : cur.toList.take xs.length = xs.map (Value.int k)) {i : Nat} (hi : i < xs.length) : cur[i]? = some (.int k (nth xs i)) := by
  have e : (cur.toList.take xs.length)[i]? = (xs.map (Value.int k))[i]? := by rw [h]
  rw [List.getElem?_take_of_lt hi, List.getElem?_map, List.getElem?_eq_getElem hi] at e
  rw [← Array.getElem?_toList, e]
  simp [nth, hi]
theorem OwnN.rd {k : IntKind} {T : TypeId} {base : Nat} {xs : List Int} {v : Value} {W : World} (h : OwnN k T base xs v W) : RdK k W.heap.size xs v W := by
  rcases h.1.2 with ⟨rfl, h0⟩ | ⟨g, c, cur, rfl, q2, q3, q4, q5, q6, q7⟩
  · have : xs = [] := List.length_eq_zero_iff.1 h0
    subst this
    exact ⟨none, 0, rfl, Nat.le_refl _, Nat.zero_le _, fun _ => rfl, .inl rfl⟩
  · refine ⟨_, _, rfl, q4, q5, (fun h => by cases h), .inr ⟨g, 0, rfl, row_lt q3, row_lt q3, fun i hi => ?_⟩⟩
    rw [Nat.zero_add]
    exact row_cell q3 (nth_of_take (by simpa using q7) hi)
theorem rdK_row {k : IntKind} {T : TypeId} {B g n c : Nat} {cs : Array Value} {xs : List Int} {W : World} (o : Nat) (hn : xs.length = n) (r : W.heap[g]? = some (.cells cs T)) (hc : ∀ i, i < n → cs[o + i]? = some (.int k (nth xs i))) (hB : g < B) (hle : n ≤ c) (hm : c ≤ maxLen) : RdK k B xs (.slice (some ⟨g, o, none⟩) n c) W := by
  subst hn
  exact ⟨_, _, rfl, hle, hm, (fun h => by cases h), .inr ⟨g, o, rfl, hB, row_lt r, fun i hi => row_cell r (hc i hi)⟩⟩
theorem rdK_ints {k : IntKind} {T : TypeId} {B g n : Nat} {xs : List Int} {W : World} (hn : xs.length = n) (r : W.heap[g]? = some (.cells (ints k xs) T)) (hB : g < B) (hm : n ≤ maxLen) : RdK k B xs (.slice (some ⟨g, 0, none⟩) n n) W :=
  rdK_row 0 hn r (fun i hi => by rw [Nat.zero_add]; exact ints_get k xs i (by omega)) hB (Nat.le_refl _) hm
theorem RdK.bytes {B : Nat} {ys : List Int} {v : Value} {W : World} (h : RdK .u8 B ys v W) (hb : AreBytes ys) : BytesAt W v ys := by
  obtain ⟨a, cap, rfl, h2, h3, h4, h5⟩ := h
  refine ⟨a, cap, rfl, by omega, hb, ?_⟩
  rcases h5 with rfl | ⟨g, o, q1, q2, q3, q4⟩
  · exact .inl rfl
  · exact .inr ⟨g, o, q1, q3, q4⟩
/-- an argument that reads as a row -/
theorem rdK_of_row {k : IntKind} {w : World} {a : Option Addr} {len cap : Nat} {zs : List Int} (h : IsRow k w a len cap zs) : RdK k w.heap.size (zs.take len) (.slice a len cap) w ∧ (zs.take len).length = len ∧ ∀ n ∈ zs.take len, (Lit.int k n).wf = true := by
  rcases h with ⟨rfl, rfl, rfl, rfl⟩ | ⟨x, rfl, hl, hm, hz, hc, hw⟩
  · exact ⟨⟨none, 0, rfl, Nat.le_refl _, Nat.zero_le _, fun _ => rfl, .inl rfl⟩, rfl, fun n hn => by simp at hn⟩
  · have hlen : (zs.take len).length = len := by simp; omega
    refine ⟨⟨_, _, by rw [hlen], by omega, hm, (fun h => by cases h), ?_⟩, hlen, fun n hn => hw n (List.mem_of_mem_take hn)⟩
    rcases Nat.eq_zero_or_pos len with h0 | h0
    · exact .inl (List.length_eq_zero_iff.1 (by omega))
    · obtain ⟨b, off, spot⟩ := x
      have hc0 := hc 0 (by omega)
      have hspot : spot = none := by simpa [Addr.add] using World.cell?_spot hc0
      subst hspot
      have hc' : ∀ i, i < zs.length → w.cell? ⟨b, off + i, none⟩ = some (.int k (zs.getD i 0)) := fun i hi => by
        have := hc i hi; rwa [WideShapes.add_plain] at this
      have hb := lt_of_cell (hc' 0 (by omega))
      refine .inr ⟨b, off, rfl, hb, hb, fun i hi => ?_⟩
      rw [hlen] at hi
      rw [hc' i (by omega)]
      simp [nth, hi]
theorem infoK {P : Program} {k : IntKind} {T : TypeId} {b : Nat} (hi : (P.info? T).map (fun i => (i.zero, i.size, i.bytes)) = some (some (.int k 0), 1, b)) : ∃ i, P.info? T = some i ∧ i.zero = some (.int k 0) ∧ i.size = 1 ∧ i.bytes = b := by
  cases hq : P.info? T with
  | none => rw [hq] at hi; cases hi
  | some i =>
    rw [hq] at hi
    simp only [Option.map_some, Option.some.injEq, Prod.mk.injEq] at hi
    exact ⟨i, rfl, hi.1, hi.2.1, hi.2.2⟩
theorem onesK (k : IntKind) (bs : List Int) : ∀ u ∈ bs.map (Value.int k), u.oneCell' = true := fun u hu => by
  obtain ⟨x, _, rfl⟩ := List.mem_map.1 hu
  rfl
theorem newsK {k : IntKind} {g o : Nat} {ys : List Int} {W : World} (h : ∀ i, i < ys.length → W.cell? ⟨g, o + i, none⟩ = some (.int k (nth ys i))) : ∀ j u, (ys.map (Value.int k))[j]? = some u → W.cell? ((⟨g, o, none⟩ : Addr).add j) = some u := fun j u hu => by
  have hj : j < ys.length := by
    rcases Nat.lt_or_ge j ys.length with hj | hj
    · exact hj
    · rw [List.getElem?_eq_none (by simpa using hj)] at hu; cases hu
  rw [WideShapes.add_plain, h j hj, ← hu, List.getElem?_map, List.getElem?_eq_getElem hj]
  simp [nth, hj]
/-- append of a slice that is read to one's own -/
theorem append_N {P : Program} {k : IntKind} {T : TypeId} {b : Nat} {ρ : Operand → Value} {o : Oper} {W : World} (s x : Operand) (t : TypeId) (ho : o.op = .call { callee := .builtin .append, args := #[s, x], argTypes := #[t, t] })
    (ht : P.underlying t = some (.slice T)) (hi : (P.info? T).map (fun i => (i.zero, i.size, i.bytes)) = some (some (.int k 0), 1, b)) (hb8 : b ≤ 8) {base B : Nat} {v y : Value} {xs ys : List Int} (hs : ρ s = v) (hx : ρ x = y)
    (h : OwnN k T base xs v W) (hy : RdK k B ys y W) (hn : xs.length + ys.length ≤ 1000000000) (hbase : base ≤ W.heap.size) :
    ∃ v' W', (execOp ρ o).run P W = .ok (.value v') W' ∧ OwnN k T base (xs ++ ys) v' W' ∧ W.grownBy W' v.ownBlock ∧ (v'.ownBlock = v.ownBlock ∨ v'.ownBlock = some W.heap.size) := by
  obtain ⟨i, hq, hi1, hi2, hi3⟩ := infoK hi
  obtain ⟨a, cap, rfl, y2, y3, y4, y5⟩ := hy
  have hgo : ∀ (v' : Value) (W' : World), (Builtin.append_ #[t, t] o.type #[v, .slice a ys.length cap]).run P W = .ok v' W' → (execOp ρ o).run P W = .ok (.value v') W' := fun v' W' hr => by
    unfold execOp
    simp only [ho, resolve, invoke, builtin, Sem.run_bind, Sem.run_pure, Result.andThen_ok, List.map_toArray, List.map_cons, List.map_nil, hs, hx, hr]
  cases a with
  | none =>
    have hc0 := y4 rfl
    subst hc0
    have hy0 : ys = [] := List.length_eq_zero_iff.1 (by omega)
    subst hy0
    refine ⟨v, W, hgo _ _ (run_append_owned_none (P := P) W base t o.type T i 1 ht hq v xs.length _ h.1), by rw [List.append_nil]; exact h, ⟨rfl, rfl, rfl, Nat.le_refl _, fun _ _ _ => rfl⟩, .inl rfl⟩
  | some a =>
    have hnews : ∀ j u, (ys.map (Value.int k))[j]? = some u → W.cell? (a.add j) = some u := by
      rcases y5 with rfl | ⟨g, o, q1, q2, q3, q4⟩
      · intro j u hu; simp at hu
      · obtain rfl := Option.some.inj q1
        exact newsK q4
    obtain ⟨v', W', hr, h2, h3, _, h5⟩ := run_append_own_at (P := P) W base t o.type T i (.int k 0) 1 b ht hq hi1 hi2 hi3 rfl (by omega) v xs.length (xs.map (Value.int k)) h.1 a ys.length cap (ys.map (Value.int k)) (by simp)
      hnews (onesK k ys) (by simp only [maxLen]; omega) (by
        have : (xs.length + ys.length) * b ≤ 1000000000 * 8 := Nat.mul_le_mul hn hb8
        omega) hbase
    refine ⟨v', W', hgo _ _ hr, ⟨by rw [List.length_append, List.map_append]; exact h2, by rw [List.length_append]; simp only [maxLen]; omega⟩, h3, h5⟩
/-- what is known at V stays: only what lies behind it was touched -/
theorem ext_own {k : IntKind} {T : TypeId} {xs : List Int} {v : Value} {V W W' : World} (e : Ext V W) (h : OwnN k T V.heap.size xs v W) (g : W.grownBy W' v.ownBlock) : Ext V W' :=
  ⟨g.os.trans e.os, g.tape.trans e.tape, g.output.trans e.output, Nat.le_trans e.size g.size, fun i hi => (g.block i (Nat.lt_of_lt_of_le hi e.size) (fun q => by have := h.ge q.symm; omega)).trans (e.block i hi)⟩
section
variable {P : Program} {ops : Array Oper} {Q : Exit → Act → World → Prop} {rest : List Oper} {o : Oper} {N : Nat} {L : Env} {W : World}
theorem seq_appendN {k : IntKind} {T : TypeId} (b : Nat) (s x : Operand) (t : TypeId) (ho : o.op = .call { callee := .builtin .append, args := #[s, x], argTypes := #[t, t] })
    (ht : P.underlying t = some (.slice T)) (hi : (P.info? T).map (fun i => (i.zero, i.size, i.bytes)) = some (some (.int k 0), 1, b)) (hb8 : b ≤ 8) (d : Nat) (hd : o.dst = some d) (hg : wantB ops o N L = some true) {B : Nat} {v y : Value} {xs ys : List Int} {V : World}
    (hs : Rely.look (envN N L) s = v) (hx : Rely.look (envN N L) x = y)
    (h : OwnN k T V.heap.size xs v W) (hy : RdK k B ys y W) (hn : xs.length + ys.length ≤ 1000000000) (hV : Ext V W)
    (kk : ∀ (u : Value) (W' : World), OwnN k T V.heap.size (xs ++ ys) u W' → Ext V W' → Below V.heap.size W W' → WL P ops Q rest (actOf ds N ((d, u) :: L)) W') : WL P ops Q (o :: rest) (actOf ds N L) W := by
  obtain ⟨v', W', h1, h2, h3, h4⟩ := append_N (ρ := Rely.look (envN N L)) (o := o) (W := W) s x t ho ht hi hb8 hs hx h hy hn hV.size
  exact seq_valw _ _ d hd hg h1 (kk v' W' h2 (ext_own hV h h3) ⟨h3.os, h3.tape, h3.output, h3.size, fun i hi => h3.block i (Nat.lt_of_lt_of_le hi hV.size) (fun q => by have := h.ge q.symm; omega)⟩)
end
/-! Slicing -/
section
variable {P : Program} {ρ : Operand → Value} {o : Oper} {w : World}
theorem run_sliceA (t : TypeId) (x : Operand) (lo hi : Option Operand) (l h n g off : Nat) (e : TypeId) (ho : o.op = .slice t x lo hi none) (hx : ρ x = .pointer (some ⟨g, off, none⟩))
    (hu : P.underlying t = some (.array n e)) (hs : (P.info? e).map (·.size) = some 1) (hl : (match lo with | some y => ∃ k, ρ y = .int k (l : Int) | none => l = 0)) (hh : (match hi with | some y => ∃ k, ρ y = .int k (h : Int) | none => h = n)) (h1 : l ≤ h) (h2 : h ≤ n) (h3 : l < n) :
    (execOp ρ o).run P w = .ok (.value (.slice (some ⟨g, off + l, none⟩) (h - l) (n - l))) w := by
  cases hq : P.info? e with
  | none => simp [hq] at hs
  | some i =>
    have hs' : i.size = 1 := by simpa [hq] using hs
    have hadd : (⟨g, off, none⟩ : Addr).add l = ⟨g, off + l, none⟩ := WideShapes.add_plain ..
    have hne : ¬ n = l := by omega
    unfold execOp
    cases lo with
    | none =>
      subst hl
      cases hi with
      | none =>
        subst hh
        simp [ho, hx, Instr.sliceAt, Instr.sureAddr, Instr.sliceBounds, run_underlying hu, sizeOf, typeInfo, hq, hs', hadd, hne]
      | some y =>
        obtain ⟨k, hy⟩ := hh
        simp [ho, hx, hy, Instr.sliceAt, Instr.sureAddr, Instr.sliceBounds, run_sliceBound, run_underlying hu, sizeOf, typeInfo, hq, hs', hadd, hne, h2]
    | some z =>
      obtain ⟨k', hz⟩ := hl
      cases hi with
      | none =>
        subst hh
        simp [ho, hx, hz, Instr.sliceAt, Instr.sureAddr, Instr.sliceBounds, run_sliceBound, run_underlying hu, sizeOf, typeInfo, hq, hs', hadd, hne, h1]
      | some y =>
        obtain ⟨k, hy⟩ := hh
        simp [ho, hx, hy, hz, Instr.sliceAt, Instr.sureAddr, Instr.sliceBounds, run_sliceBound, run_underlying hu, sizeOf, typeInfo, hq, hs', hadd, hne, h1, h2]
/-- a slice's rest -/
theorem run_sliceRest {k : IntKind} {B : Nat} {ys : List Int} {v : Value} (t : TypeId) (x z : Operand) (l : Nat) (e : TypeId) (ho : o.op = .slice t x (some z) none none) (hx : ρ x = v) (hv : RdK k B ys v w)
    (hu : P.underlying t = some (.slice e)) (hs : (P.info? e).map (·.size) = some 1) (kz : IntKind) (hz : ρ z = .int kz (l : Int)) (h1 : l ≤ ys.length) :
    ∃ u, (execOp ρ o).run P w = .ok (.value u) w ∧ RdK k B (ys.drop l) u w ∧ u.ownBlock = v.ownBlock := by
  obtain ⟨a, cap, rfl, y2, y3, y4, y5⟩ := hv
  cases hq : P.info? e with
  | none => simp [hq] at hs
  | some i =>
    have hs' : i.size = 1 := by simpa [hq] using hs
    refine ⟨.slice (if cap = l then a else a.map (·.add l)) (ys.length - l) (cap - l), ?_, ?_⟩
    · unfold execOp
      simp [ho, hx, hz, Instr.sliceAt, Instr.slice, Instr.sliceBounds, run_sliceBound, run_underlying hu, sizeOf, typeInfo, hq, hs', h1]
    · refine ⟨⟨_, _, by rw [List.length_drop], by rw [List.length_drop]; omega, by omega, fun h => ?_, ?_⟩, ?_⟩
      · cases a with
        | none => have := y4 rfl; omega
        | some a => split at h <;> simp at h
      rotate_left
      · cases a with
        | none => split <;> rfl
        | some a =>
          split
          · rfl
          · have e : ∀ a : Addr, (a.add l).block = a.block := fun a => by unfold Addr.add; split <;> rfl
            exact congrArg some (e a)
      · rcases y5 with rfl | ⟨g, off, rfl, q2, q3, q4⟩
        · exact .inl (by simp)
        · by_cases hl : l = ys.length
          · exact .inl (by rw [hl]; simp)
          · refine .inr ⟨g, off + l, ?_, q2, q3, fun i hi => ?_⟩
            · rw [if_neg (by omega), Option.map_some, WideShapes.add_plain]
            · rw [List.length_drop] at hi
              rw [Nat.add_assoc, q4 (l + i) (by omega)]
              simp [nth]
/-- a slice's beginning -/
theorem run_sliceTo {k : IntKind} {B : Nat} {ys : List Int} {v : Value} (t : TypeId) (x z : Operand) (h : Nat) (e : TypeId) (ho : o.op = .slice t x none (some z) none) (hx : ρ x = v) (hv : RdK k B ys v w)
    (hu : P.underlying t = some (.slice e)) (hs : (P.info? e).map (·.size) = some 1) (kz : IntKind) (hz : ρ z = .int kz (h : Int)) (h1 : h ≤ ys.length) :
    ∃ u, (execOp ρ o).run P w = .ok (.value u) w ∧ RdK k B (ys.take h) u w := by
  obtain ⟨a, cap, rfl, y2, y3, y4, y5⟩ := hv
  cases hq : P.info? e with
  | none => simp [hq] at hs
  | some i =>
    have hs' : i.size = 1 := by simpa [hq] using hs
    have h2 : h ≤ cap := by omega
    refine ⟨.slice a h cap, ?_, ?_⟩
    · unfold execOp
      have hadd : ∀ a : Option Addr, Option.map (fun x => x.add 0) a = a := fun a => by
        cases a with
        | none => rfl
        | some a => obtain ⟨b, o, s⟩ := a; cases s <;> simp [Addr.add]
      simp [ho, hx, hz, Instr.sliceAt, Instr.slice, Instr.sliceBounds, run_sliceBound, run_underlying hu, sizeOf, typeInfo, hq, hs', h2, hadd]
    · have hlen : (ys.take h).length = h := by rw [List.length_take]; omega
      refine ⟨_, _, by rw [hlen], by omega, y3, y4, ?_⟩
      rcases y5 with rfl | ⟨g, off, rfl, q2, q3, q4⟩
      · exact .inl (by simp)
      · refine .inr ⟨g, off, rfl, q2, q3, fun i hi => ?_⟩
        rw [hlen] at hi
        rw [q4 i (by omega)]
        simp [nth, List.getElem?_take, hi]
end
end Go.Proofs.Ytfelfmchachljaa.Auto
