/- A walk by program: a range over a function whose variable lies in a block of its own each round; a region that draws and stores in its middle; what iterators keep of slices. -/
import Derived.Test.YtfelfmchachljaaIter
import Derived.RangeFuncNested
import Derived.Scope
namespace Go.Proofs.Ytfelfmchachljaa.Auto
open Go Go.RowKit
open Go.Proofs.Ytfelfmchachljaa.Rely Go.Proofs.Ytfelfmchachljaa.Own
set_option linter.unusedVariables false
set_option linter.unusedSimpArgs false
variable {ds : List Deferred}

theorem range_autoH {α : Type} {P : Program} {g : Operand} {p : Tmp} {assign body : Code} {Q : Exit → Act → World → Prop} {N : Nat} {L : Env} {w : World}
    {gf : Nat} {lb : Array Value} (hg : Rely.look (envN N L) g = .func (.func gf) #[] lb) (eg : ∀ args w, (callFunc gf args).run P w = .ok (.enter gf args) w)
    {enc : α → Value} {Kp : World → World → Prop} {S Sp : List α → Prop} {M : Nat} {w0 : World} (hseq : SeqStopsK Fence.wide 2 P gf lb (fun x => #[enc x]) Kp S Sp M w0)
    (hKt : ∀ {A B C : World}, Kp A B → Kp B C → Kp A C) (hKb : ∀ (W : World) (l : Nat) (o o' : Obj), w.heap.size ≤ l → W.heap[l]? = some o → o.isCells = false → o.isWalk = false → Kp W (W.putObj l o')) (hb0 : Below w0.heap.size w0 w)
    (I : List α → World → Prop) (Ix : Code → List α → World → Prop) (hI : OwnFrom w.heap.size I) (hIx : ∀ c, OwnFrom w.heap.size (Ix c)) (h0 : I [] w)
    (hKe : ∀ {A B : World}, Ext A B → Kp A B) (hIe : ∀ pre {A B : World}, I pre A → Ext A B → I pre B) (hIs : ∀ pre W, I pre W → w.heap.size ≤ W.heap.size)
    (asg : α → Nat → Env) (cs : α → Array Value) (T : TypeId)
    (hassign : ∀ (l : Nat) (x : α) (W : World) (K : Act → World → Prop), (∀ g W', W.heap.size ≤ g → Ext W W' → W'.heap[g]? = some (.cells (cs x) T) → K (actOf [] N (asg x g ++ L)) W') → assign.wpIn (Fence.wide.inRound l) 1 P (Exit.then K (fun _ _ _ => False)) (actOf [] N ((p, enc x) :: L)) W)
    (hbody : ∀ (l : Nat) (pre : List α) (x : α) (g : Nat) (W : World), w.heap.size ≤ g → I pre W → W.heap[g]? = some (.cells (cs x) T) → pre.length < M → body.wpIn (Fence.wide.inRound l) 1 P (ownPostK Kp I Ix (pre ++ [x]) W) (actOf [] N (asg x g ++ L)) W)
    (hdone : ∀ (D : Nat) (xs : List α) (W : World), w.heap.size ≤ D → S xs → I xs W → W.heap[D]? = some (.deferred (some [])) → Q .normal (actOf (mark D :: ds) N L) W)
    (hstop : ∀ (D : Nat) (c : Code) (pre : List α) (W : World), w.heap.size ≤ D → Sp pre → Ix c pre W → W.heap[D]? = some (.deferred (some [])) → c.wp P Q (actOf (mark D :: ds) N L) W) :
    (Code.rangeFunc g #[p] assign body).wp P Q (actOf ds N L) w := by
  refine (wpIn_wide (n := 3)).1 ?_
  refine wpIn_rangeFunc_ownH rfl (by omega) (by rw [eval_actOf]; exact hg) trivial eg (w0 := w0) hseq hKt hKb hb0 (fun _ => rfl) I Ix hI hIx h0
    (fun x a' W => ∃ g, a' = actOf [] N (asg x g ++ L) ∧ w.heap.size ≤ g ∧ W.heap[g]? = some (.cells (cs x) T)) ?_ (fun l pre x W K hi hK => ?_) ?_ ?_ ?_
  · rintro x a' _ X Y row ⟨g, e, hl, r⟩ hgr hr
    exact ⟨g, e, hl, row_kept r hgr (fun q e => (hr q e).2)⟩
  · rw [round_frame]
    refine hassign l x W K fun g W' hg' e r => hK _ _ ((keeps_ext e).from _) (hKe e) (hIe pre hi e) ⟨g, rfl, Nat.le_trans (hIs pre W hi) hg', r⟩
  · rintro l pre x a' W _ _ hi ⟨g, rfl, hl, r⟩ hlen
    exact wpIn_mono (hbody l pre x g W hl hi r hlen) ownPostG_of_ownPostK
  · intro D xs W h1 h2 h3 h4
    exact hdone D xs W h1 h2 h3 h4
  · intro D c pre W h1 h2 h3 h4
    exact wpIn_wide.2 (hstop D c pre W h1 h2 h3 h4)

/-! ### A region that draws, in any relation -/
section
variable {P : Program} {R : World → World → Prop} {w0 : World} {N : Nat} {L : Env} {F : List KE → Prop} {o : Oper} {os : List Oper} {s : Src} {ss : List Src} {C : List KE}
theorem x_op (k : KE) (hk0 : k.ok R) (hs : seen (C.map KE.kn) o s = true) (hg : gOk s.guard (get (envS N L ((C.map KE.kn).map Kn.val) s.reads)) = true)
    (h : ∀ W, R w0 W → relyUpon P R W k.fact ((execOp (Rely.look (get (envS N L ((C.map KE.kn).map Kn.val) s.reads))) o).run P W))
    (hk : stepsE P R w0 N L F os ss (C ++ [k])) : stepsE P R w0 N L F (o :: os) (s :: ss) C :=
  ⟨k, hk0, fun ρ W hR hh => by
    have hh' : Holds (envN N L) ((C.map KE.kn).map (Kn.fact 0)) ρ W s.reads := by
      refine holdsE s.reads ?_ hh
      have := hs
      simp only [seen, Bool.and_eq_true] at this
      exact this.1.1.2
    rw [seen_guard hs hh']
    refine guarded_pos hg ?_
    unfold relyAt
    rw [seen_look hs hh']
    exact h W hR, hk⟩
theorem x_val (hrf : ∀ W, R W W) (v : Value) (hs : seen (C.map KE.kn) o s = true) (hg : gOk s.guard (get (envS N L ((C.map KE.kn).map Kn.val) s.reads)) = true)
    (h : ∀ W, R w0 W → (execOp (Rely.look (get (envS N L ((C.map KE.kn).map Kn.val) s.reads))) o).run P W = .ok (.value v) W)
    (hk : stepsE P R w0 N L F os ss (C ++ [.is v])) : stepsE P R w0 N L F (o :: os) (s :: ss) C :=
  x_op (.is v) trivial hs hg (fun W hR => by rw [h W hR]; exact ⟨hrf _, rfl⟩) hk
theorem x_put (φ : Fact) (hφ : Stable R φ) (hs : seen (C.map KE.kn) o s = true) (hg : gOk s.guard (get (envS N L ((C.map KE.kn).map Kn.val) s.reads)) = true)
    (h : ∀ W, R w0 W → ∃ v W', (execOp (Rely.look (get (envS N L ((C.map KE.kn).map Kn.val) s.reads))) o).run P W = .ok (.value v) W' ∧ R W W' ∧ φ v W')
    (hk : stepsE P R w0 N L F os ss (C ++ [.ex φ])) : stepsE P R w0 N L F (o :: os) (s :: ss) C :=
  x_op (.ex φ) hφ hs hg (fun W hR => by obtain ⟨v, W', e, r, q⟩ := h W hR; rw [e]; exact ⟨r, q⟩) hk
end
theorem in_regionX {P : Program} {Fe : Fence} {nf : Nat} {id : Nat} {Q : Exit → Act → World → Prop} {N : Nat} {L : Env} {w : World} {l : List Oper} (R : World → World → Prop) (hrf : ∀ W, R W W) (htr : ∀ {a b c : World}, R a b → R b c → R a c) (n : Nat) (S : List Src) (hFr : Free Fe nf P) (hdf : (l.all noDefer) = true) (hm : P.follows .mixedOrders = true) (hok : ok l n N S = true)
    (h : ∀ F : List KE → Prop, (∀ C, (∀ W, R w.drew W → finE (fun L W => WLI Fe nf P l.toArray Q (l.drop n) (actOf ds N L) W) (l.take n) C L W) → F C) → stepsE P R w.drew N L F (l.take n) S []) :
    (Code.region id l.toArray true).wpIn Fe nf P Q (actOf ds N L) w := by
  refine wpIn_region_rely R n N S hFr.fn hFr.dp hFr.calls hdf hm hok (size_actOf N L) hrf (fun a b => htr a b) fun F r0 hr hF => ?_
  rw [slots_actOf] at hr
  subst hr
  have := h (fun C => ∀ W, R w.drew W → finE (fun L W => WLI Fe nf P l.toArray Q (l.drop n) (actOf ds N L) W) (l.take n) C L W) (fun C h => h)
  exact stepsE_relies (G := F) (fun C h => hF.out fun W hR => fin_E (Q := fun a W => wpListIn Fe nf P l.toArray Q (l.drop n) a W) _ _ _ (finE_mono (fun L W h => h.out) _ _ _ _ (h W hR))) _ _ [] this
/-- one block may change, from a row to another one, and new ones come -/
def Patch (g : Nat) (X Y : Obj) (A B : World) : Prop := ExtB g A B ∧ (B.heap[g]? = A.heap[g]? ∨ B.heap[g]? = some Y)
theorem extB_refl (g : Nat) (A : World) : ExtB g A A := ⟨rfl, rfl, rfl, Nat.le_refl _, fun _ _ _ => rfl⟩
theorem extB_trans {g : Nat} {A B C : World} (h : ExtB g A B) (k : ExtB g B C) : ExtB g A C :=
  ⟨k.1.trans h.1, k.2.1.trans h.2.1, k.2.2.1.trans h.2.2.1, Nat.le_trans h.2.2.2.1 k.2.2.2.1, fun i hi hn => (k.2.2.2.2 i (Nat.lt_of_lt_of_le hi h.2.2.2.1) hn).trans (h.2.2.2.2 i hi hn)⟩
theorem Patch.refl (g : Nat) (X Y : Obj) (A : World) : Patch g X Y A A := ⟨extB_refl g A, .inl rfl⟩
theorem Patch.trans {g : Nat} {X Y : Obj} {A B C : World} (h : Patch g X Y A B) (k : Patch g X Y B C) : Patch g X Y A C :=
  ⟨extB_trans h.1 k.1, by
    rcases k.2 with q | q
    · rcases h.2 with r | r
      · exact .inl (q.trans r)
      · exact .inr (q.trans r)
    · exact .inr q⟩
theorem Patch.row {g : Nat} {X Y : Obj} {A B : World} (h : Patch g X Y A B) (hX : A.heap[g]? = some X) : B.heap[g]? = some X ∨ B.heap[g]? = some Y := by
  rcases h.2 with q | q
  · exact .inl (q.trans hX)
  · exact .inr q
theorem Patch.stable (g : Nat) (X Y : Obj) (v : Value) : Stable (Patch g X Y) (fun u W => u = v ∧ W.heap[g]? = some Y) := fun _ _ _ hR h => ⟨h.1, by
  rcases hR.2 with q | q
  · exact q.trans h.2
  · exact q⟩
/-! ### What iterators keep of slices -/
theorem RdK.keepC {k : IntKind} {B : Nat} {gs : List Nat} {ys : List Int} {v : Value} {V W : World} (h : RdK k B ys v V) (q : KeepC gs V W) (hc : ∀ c ∈ gs, B ≤ c) : RdK k B ys v W := by
  obtain ⟨a, cap, rfl, h1, h2, h3, h4⟩ := h
  refine ⟨a, cap, rfl, h1, h2, h3, ?_⟩
  rcases h4 with h4 | ⟨g, o, e, hB, hl, hcell⟩
  · exact .inl h4
  · exact .inr ⟨g, o, e, hB, Nat.lt_of_lt_of_le hl q.1, fun i hi => q.cell (hcell i hi) (fun hm => by have := hc g hm; omega)⟩
theorem OwnN.keepC {k : IntKind} {T : TypeId} {base : Nat} {gs : List Nat} {xs : List Int} {v : Value} {V W : World} (h : OwnN k T base xs v V) (q : KeepC gs V W) (hc : ∀ c ∈ gs, c < base) : OwnN k T base xs v W := by
  refine h.keep fun g hg => ?_
  have hge := h.ge hg
  rcases h.1.2 with ⟨rfl, _⟩ | ⟨g', c, cur, rfl, h2, h3, _⟩
  · cases hg
  · obtain rfl : g' = g := by simpa [Value.ownBlock] using hg
    rw [h3]
    exact q.2 _ _ _ _ h3 (fun hm => by have := hc _ hm; omega)
/-! ### Parts that are filled one after another -/
theorem put_idem (xs t : List Int) (at_ m : Nat) (h1 : at_ + m ≤ xs.length) (h2 : m ≤ t.length) : (xs.take at_ ++ t.take m ++ xs.drop (at_ + m)).take at_ ++ t.take m ++ (xs.take at_ ++ t.take m ++ xs.drop (at_ + m)).drop (at_ + m) = xs.take at_ ++ t.take m ++ xs.drop (at_ + m) := by
  have l1 : (xs.take at_).length = at_ := by rw [List.length_take]; omega
  have l2 : (xs.take at_ ++ t.take m).length = at_ + m := by rw [List.length_append, l1, List.length_take]; omega
  rw [List.drop_append_of_le_length (by omega), List.drop_of_length_le (by omega : (xs.take at_ ++ t.take m).length ≤ at_ + m), List.nil_append, List.append_assoc (xs.take at_), List.take_append_of_le_length (by omega), List.take_of_length_le (by omega), ← List.append_assoc]
end Go.Proofs.Ytfelfmchachljaa.Auto
