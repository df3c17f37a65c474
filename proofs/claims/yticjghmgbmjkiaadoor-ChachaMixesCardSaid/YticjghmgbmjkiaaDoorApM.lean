/- Apart: what its second loop keeps. -/
import Derived.Test.YticjghmgbmjkiaaDoorOwnV
namespace Go.Proofs.YticjghmgbmjkiaaDoor.Ad
open Go Go.RowKit
open Go.Proofs.YticjghmgbmjkiaaDoor.Rely Go.Proofs.YticjghmgbmjkiaaDoor.Auto Go.Proofs.YticjghmgbmjkiaaDoor.Own
set_option linter.unusedVariables false

def pat (k j : Nat) : Int := ((29 * k + 5 * j + 3 : Nat) : Int) % 256
def patL (k n : Nat) : List Int := (List.range n).map (pat k)
theorem patL_len (k n : Nat) : (patL k n).length = n := by simp [patL]
theorem patL_succ (k n : Nat) : patL k (n + 1) = patL k n ++ [pat k n] := by simp [patL, List.range_succ]
theorem patL_take (k n m : Nat) (h : n ≤ m) : (patL k m).take n = patL k n := by
  unfold patL
  rw [← List.map_take, List.take_range, Nat.min_eq_left h]
theorem patL_nth (k n j : Nat) (h : j < n) : nth (patL k n) j = pat k j := by simp [nth, patL, h]
def gv (G : List Value) (i : Nat) : Value := G.getD i (.slice none 0 0)
theorem gv_old {G : List Value} {u : Value} {i : Nat} (h : i < G.length) : gv (G ++ [u]) i = gv G i := by simp [gv, List.getElem?_append_left h]
theorem gv_new (G : List Value) (u : Value) : gv (G ++ [u]) G.length = u := by simp [gv]
def Full (base L : Nat) (V : Nat → Value) (N : Nat → Nat) (W : World) : Prop := ∀ i, i < L → OwnV base (patL i (N i)) (V i) W
def GFull (base k : Nat) (N : Nat → Nat) (G : List Value) (W : World) : Prop := ∀ i, i < k → OwnB base (patL i (N i + 10)) (gv G i) W
def Gd (L k : Nat) (V : Nat → Value) (G : List Value) : Prop := ∀ i j, i < k → j < L → i ≠ j → (gv G i).ownBlock ≠ (V j).ownBlock
def Ap (L k : Nat) (V : Nat → Value) (G : List Value) (u : Value) : Prop :=
  (∀ j, j < L → j ≠ k → (V j).ownBlock = u.ownBlock → (V j).ownBlock = none) ∧ (∀ i, i < k → (gv G i).ownBlock ≠ u.ownBlock) ∧
    ((V k).ownBlock = none ∨ (V k).ownBlock ≠ u.ownBlock ∨ ∃ g n n' c, u = .slice (some ⟨g, 0, none⟩) n c ∧ V k = .slice (some ⟨g, 0, none⟩) n' c)
def Mid (base L k m : Nat) (V : Nat → Value) (N : Nat → Nat) (G : List Value) (u : Value) (W : World) : Prop :=
  OwnV base (patL k m) u W ∧ Full base L V N W ∧ GFull base k N G W ∧ Ap L k V G u
theorem OwnV.ext {base : Nat} {bs : List Int} {v : Value} {W W' : World} (h : OwnV base bs v W) (e : Ext W W') : OwnV base bs v W' := h.imp id fun h => h.ext e
theorem OwnB.v {base : Nat} {bs : List Int} {v : Value} {W : World} (h : OwnB base bs v W) : OwnV base bs v W := .inr h
theorem Full.ext {base L : Nat} {V : Nat → Value} {N : Nat → Nat} {W W' : World} (h : Full base L V N W) (e : Ext W W') : Full base L V N W' := fun i hi => OwnV.ext (h i hi) e
theorem GFull.ext {base k : Nat} {N : Nat → Nat} {G : List Value} {W W' : World} (h : GFull base k N G W) (e : Ext W W') : GFull base k N G W' := fun i hi => (h i hi).ext e
theorem Mid.ext {base L k m : Nat} {V : Nat → Value} {N : Nat → Nat} {G : List Value} {u : Value} {W W' : World} (h : Mid base L k m V N G u W) (e : Ext W W') : Mid base L k m V N G u W' :=
  ⟨OwnV.ext h.1 e, h.2.1.ext e, h.2.2.1.ext e, h.2.2.2⟩
theorem ownB_some {base : Nat} {bs : List Int} {v : Value} {W : World} (h : OwnB base bs v W) : ∃ g, v.ownBlock = some g := by
  obtain ⟨g, c, cur, rfl, _⟩ := h
  exact ⟨g, rfl⟩
theorem ownV_some {base : Nat} {bs : List Int} {v : Value} {W : World} (h : OwnV base bs v W) (hn : 0 < bs.length) : OwnB base bs v W := by
  rcases h with ⟨_, rfl⟩ | h
  · simp at hn
  · exact h
/-- at the start of a round -/
theorem Mid.start {base L k : Nat} {V : Nat → Value} {N : Nat → Nat} {G : List Value} {W : World} (hF : Full base L V N W) (hG : GFull base k N G W) (hd : ∀ i j, i < L → j < L → i ≠ j → (V i).ownBlock = (V j).ownBlock → (V i).ownBlock = none) (hg : Gd L k V G) (hk : k < L) : Mid base L k (N k) V N G (V k) W := by
  refine ⟨hF k hk, hF, hG, fun j hj hn => hd j k hj hk hn, fun i hi => hg i k hi hk (by omega), ?_⟩
  rcases hF k hk with ⟨e, _⟩ | ⟨g, c, cur, e, _⟩
  · exact .inl (by rw [e]; rfl)
  · exact .inr (.inr ⟨g, _, _, c, e, e⟩)
/-- one byte more -/
theorem Mid.append {base L k m : Nat} {V : Nat → Value} {N : Nat → Nat} {G : List Value} {u u' : Value} {W W' : World} (h : Mid base L k m V N G u W) (hk : k < L) (hm : N k ≤ m) (hw : Went u u' W W') (ho : OwnB base (patL k m ++ [pat k m]) u' W') : Mid base L k (m + 1) V N G u' W' := by
  obtain ⟨h1, hF, hG, hA1, hA2, hA3⟩ := h
  rw [← patL_succ] at ho
  have hVk : OwnV base (patL k (N k)) (V k) W' := by
    rcases hA3 with h0 | h0 | ⟨g, n, n', c, e1, e2⟩
    · exact hw.other (hF k hk) (fun _ => h0)
    · exact hw.other (hF k hk) (fun e => absurd e h0)
    · have hv := hF k hk
      rw [e2] at hv ⊢
      rcases hv with ⟨e, _⟩ | hv
      · cases e
      · have hn' : n' = N k := by
          obtain ⟨_, _, _, e, _⟩ := hv
          rw [patL_len] at e
          injection e
        exact .inr (hw.same ho hv ⟨n, e1⟩ (by rw [hn', patL_take _ _ _ (by omega)]))
  have hF' : Full base L V N W' := fun i hi => by
    by_cases e : i = k
    · subst e; exact hVk
    · exact hw.other (hF i hi) (hA1 i hi e)
  have hG' : GFull base k N G W' := fun i hi => by
    have hh := hw.other (OwnB.v (hG i hi)) (fun e => absurd e (hA2 i hi))
    exact ownV_some hh (by rw [patL_len]; omega)
  refine ⟨.inr ho, hF', hG', ?_⟩
  rcases hw with ⟨g, n, c, e1, ⟨n', e2⟩, he⟩ | ⟨⟨g, hg, hl⟩, he⟩
  · have hb : u'.ownBlock = u.ownBlock := by rw [e1, e2]; rfl
    refine ⟨by rw [hb]; exact hA1, by rw [hb]; exact hA2, ?_⟩
    rcases hA3 with h0 | h0 | ⟨g', a, b, c', q1, q2⟩
    · exact .inl h0
    · exact .inr (.inl (by rw [hb]; exact h0))
    · refine .inr (.inr ⟨g', n', b, c', ?_, q2⟩)
      rw [e1] at q1
      simp only [Value.slice.injEq, Option.some.injEq, Addr.mk.injEq] at q1
      rw [e2, q1.1.1, q1.2.2]
  · have hne : ∀ {bs : List Int} {v : Value}, OwnV base bs v W → v.ownBlock ≠ u'.ownBlock := fun hv e => by
      have := hv.lt (e.trans hg)
      omega
    exact ⟨fun j hj _ e => absurd e (hne (hF j hj)), fun i hi => hne (OwnB.v (hG i hi)), .inr (.inl (hne (hF k hk)))⟩
/-- a list of slices of one's own -/
def OwnL (base g c : Nat) (cur : Array Value) (G : List Value) (W : World) : Prop := base ≤ g ∧ W.heap[g]? = some (.cells cur 24) ∧ cur.size = c ∧ G.length ≤ c ∧ c ≤ maxLen ∧ cur.toList.take G.length = G
theorem OwnL.ext {base g c : Nat} {cur : Array Value} {G : List Value} {W W' : World} (h : OwnL base g c cur G W) (e : Ext W W') : OwnL base g c cur G W' := ⟨h.1, row_ext h.2.1 e, h.2.2⟩
theorem ne_types {W : World} {a b : Nat} {ca cb : Array Value} {ta tb : TypeId} (h : W.heap[a]? = some (.cells ca ta)) (k : W.heap[b]? = some (.cells cb tb)) (hne : ta ≠ tb) : a ≠ b := fun e => by
  subst e
  rw [h] at k
  injection k with k
  injection k with _ k2
  exact hne k2
theorem OwnV.extB {base g : Nat} {bs : List Int} {v : Value} {cur : Array Value} {W W' : World} (h : OwnV base bs v W) (r : W.heap[g]? = some (.cells cur 24)) (e : ExtB g W W') : OwnV base bs v W' := by
  refine h.below fun g' hg' => e.2.2.2.2 g' (h.lt hg') ?_
  rcases h with ⟨rfl, _⟩ | ⟨g2, c, cur2, rfl, h1, h2, h3⟩
  · cases hg'
  · obtain rfl : g2 = g' := Option.some.inj hg'
    exact ne_types h2 r (by decide)
theorem OwnL.went {base b2 g c : Nat} {cur : Array Value} {G : List Value} {v v' : Value} {bs : List Int} {W W' : World} (h : OwnL base g c cur G W) (hv : OwnV b2 bs v W) (hw : Went v v' W W') : OwnL base g c cur G W' := by
  refine ⟨h.1, ?_, h.2.2⟩
  rcases hw with ⟨g', n, c', rfl, _, he⟩ | ⟨_, he⟩
  · refine (he.2.2.2.2 g (row_lt h.2.1) ?_).trans h.2.1
    rcases hv with ⟨e, _⟩ | ⟨g2, _, _, e, _, h2, _⟩
    · cases e
    · simp only [Value.slice.injEq, Option.some.injEq, Addr.mk.injEq] at e
      rw [e.1.1]
      exact (ne_types h2 h.2.1 (by decide)).symm
  · exact row_ext h.2.1 he
/-- the end of a round: the list has one slice more -/
theorem Mid.done {base L k : Nat} {V : Nat → Value} {N : Nat → Nat} {G : List Value} {u : Value} {g : Nat} {cur : Array Value} {W W' : World} (h : Mid base L k (N k + 10) V N G u W) (hk : k < L) (hl : G.length = k) (hg : Gd L k V G) (r : W.heap[g]? = some (.cells cur 24)) (e : ExtB g W W') :
    Full base L V N W' ∧ GFull base (k + 1) N (G ++ [u]) W' ∧ Gd L (k + 1) V (G ++ [u]) := by
  obtain ⟨h1, hF, hG, hA1, hA2, hA3⟩ := h
  subst hl
  refine ⟨fun i hi => OwnV.extB (hF i hi) r e, fun i hi => ?_, fun i j hi hj hn => ?_⟩
  · by_cases q : i = G.length
    · subst q; rw [gv_new]; exact ownV_some (OwnV.extB h1 r e) (by rw [patL_len]; omega)
    · rw [gv_old (by omega)]
      exact ownV_some (OwnV.extB (OwnB.v (hG i (by omega))) r e) (by rw [patL_len]; omega)
  · by_cases q : i = G.length
    · subst q; rw [gv_new]
      obtain ⟨g', hg'⟩ := ownB_some (ownV_some h1 (by rw [patL_len]; omega))
      intro q2
      have := hA1 j hj (Ne.symm hn) q2.symm
      rw [← q2, hg'] at this; cases this
    · rw [gv_old (by omega)]; exact hg i j (by omega) hj hn
end Go.Proofs.YticjghmgbmjkiaaDoor.Ad
