/- Slices of bytes of one's own, nil or not: append, and what it leaves of others. -/
import Derived.Test.YtfelfmchachljaaOwnB
namespace Go.Proofs.Ytfelfmchachljaa.Own
open Go Go.RowKit
open Go.Proofs.Ytfelfmchachljaa.Rely Go.Proofs.Ytfelfmchachljaa.Auto
set_option linter.unusedVariables false

/-- a slice of bytes of one's own: nil, or from the first place of a block on -/
def OwnV (base : Nat) (bs : List Int) (v : Value) (W : World) : Prop := (v = .slice none 0 0 ∧ bs = []) ∨ OwnB base bs v W
theorem OwnV.below {base : Nat} {bs : List Int} {v : Value} {W W' : World} (h : OwnV base bs v W) (hs : ∀ g, v.ownBlock = some g → W'.heap[g]? = W.heap[g]?) : OwnV base bs v W' := by
  rcases h with h | ⟨g, c, cur, rfl, h1, h2, h3⟩
  · exact .inl h
  · exact .inr ⟨g, c, cur, rfl, h1, (hs g rfl).trans h2, h3⟩
theorem OwnV.lt {base : Nat} {bs : List Int} {v : Value} {W : World} (h : OwnV base bs v W) {g : Nat} (hg : v.ownBlock = some g) : g < W.heap.size := by
  rcases h with ⟨rfl, _⟩ | ⟨g', c, cur, rfl, h1, h2, h3⟩
  · cases hg
  · obtain rfl : g' = g := Option.some.inj hg
    exact row_lt h2
theorem OwnV.ge {base : Nat} {bs : List Int} {v : Value} {W : World} (h : OwnV base bs v W) {g : Nat} (hg : v.ownBlock = some g) : base ≤ g := by
  rcases h with ⟨rfl, _⟩ | ⟨g', c, cur, rfl, h1, h2, h3⟩
  · cases hg
  · obtain rfl : g' = g := Option.some.inj hg
    exact h1
/-- the same slice, fewer bytes of it being looked at: two slices of one block -/
theorem OwnAt.take {base g c : Nat} {cur : Array Value} {bs : List Int} {W : World} (h : OwnAt base g c cur bs W) (n : Nat) : OwnAt base g c cur (bs.take n) W := by
  obtain ⟨h1, h2, h3, h4, h5, h6⟩ := h
  refine ⟨h1, h2, h3, by rw [List.length_take]; omega, h5, ?_⟩
  rw [List.length_take, List.map_take, ← h6, List.take_take]
  try (congr 1; omega)
/-- what an append does to the world: it writes behind a slice, or makes a new block -/
def Went (v v' : Value) (W W' : World) : Prop := (∃ g n c, v = .slice (some ⟨g, 0, none⟩) n c ∧ (∃ n', v' = .slice (some ⟨g, 0, none⟩) n' c) ∧ ExtB g W W') ∨ ((∃ g, v'.ownBlock = some g ∧ W.heap.size ≤ g) ∧ Ext W W')
theorem append_went {ρ : Operand → Value} {o : Oper} {W : World} (s x : Operand) (t : TypeId) (ho : o.op = .call { callee := .builtin .append, args := #[s, x], argTypes := #[t, t] })
    (ht : Try.prog.underlying t = some (.slice 5)) {base b2 gx cx : Nat} {curx : Array Value} {v : Value} {xs ys : List Int} (hs : ρ s = v) (hx : ρ x = .slice (some ⟨gx, 0, none⟩) ys.length cx)
    (h : OwnV base xs v W) (hy : OwnAt b2 gx cx curx ys W) (hn : xs.length + ys.length ≤ 1000000) (h0 : 0 < ys.length) (hbase : base ≤ W.heap.size) :
    ∃ v' W', (execOp ρ o).run Try.prog W = .ok (.value v') W' ∧ OwnB base (xs ++ ys) v' W' ∧ Went v v' W W' := by
  obtain ⟨i, hq, hi1, hi2, hi3⟩ := info8'
  rcases h with ⟨rfl, rfl⟩ | ⟨g, c, cur, rfl, hO⟩
  · have hown : W.ownsRow base 5 1 (.slice none 0 0) 0 [] := ⟨rfl, .inl ⟨rfl, rfl⟩⟩
    obtain ⟨v', W', hr, h2, h3, _, h5⟩ := run_append_own_at (P := Try.prog) W base t o.type 5 i (.int .u8 0) 1 1 ht hq hi1 hi2 hi3 rfl (by omega) _ 0 [] hown ⟨gx, 0, none⟩ ys.length cx (ys.map (Value.int .u8)) (by simp)
      hy.news (ones8 ys) (by simp only [maxLen]; simp at hn; omega) (by simp at hn; omega) hbase
    rcases h2.2 with ⟨_, h0'⟩ | ⟨g', c', cur', hv, hb', hg', hle', hmax', hsz', htk'⟩
    · omega
    · subst hv
      rw [Nat.zero_add] at hr htk' hle'
      refine ⟨_, W', ?_, ⟨g', c', cur', rfl, hb', hg', by omega, by simpa using hle', hmax', by simpa using htk'⟩, .inr ⟨⟨_, h5.resolve_left (fun e => by cases e), Nat.le_refl _⟩, ext_grown h3⟩⟩
      unfold execOp
      simp only [ho, resolve, invoke, builtin, Sem.run_bind, Sem.run_pure, Result.andThen_ok, List.map_toArray, List.map_cons, List.map_nil, hs, hx, hr]
      simp
  · rcases Nat.lt_or_ge c (xs.length + ys.length) with hc | hc
    · obtain ⟨v', W', hr, h2, h3⟩ := run_append_arg_grows (P := Try.prog) W t o.type 5 i (.int .u8 0) 1 1 ht hq hi1 hi2 hi3 rfl (by omega) ⟨g, 0, none⟩ xs.length c (xs.map (Value.int .u8)) (by simp) hO.news ⟨gx, 0, none⟩ ys.length cx (ys.map (Value.int .u8)) (by simp)
        hy.news (by omega) (by simp only [maxLen]; omega) (by omega)
      rcases h2.2 with ⟨_, h0'⟩ | ⟨g', c', cur', hv, hb', hg', hle', hmax', hsz', htk'⟩
      · omega
      · subst hv
        refine ⟨.slice (some ⟨g', 0, none⟩) (xs.length + ys.length) c', W', ?_, OwnB.base hbase ⟨g', c', cur', by simp, hb', hg', by omega, by simpa using hle', hmax', by simpa using htk'⟩, .inr ⟨⟨g', rfl, hb'⟩, ext_grown h3⟩⟩
        unfold execOp
        simp only [ho, resolve, invoke, builtin, Sem.run_bind, Sem.run_pure, Result.andThen_ok, List.map_toArray, List.map_cons, List.map_nil, hs, hx, hr]
        try simp
    · obtain ⟨hb, r, hcs, hle, hmax, htk⟩ := id hO
      have hroom := run_append_room_cells (P := Try.prog) W t o.type 5 i ht hq g 0 xs.length c ⟨gx, 0, none⟩ ys.length cx (ys.map (Value.int .u8)) (by rw [hi2]; simp) hy.news (ones8 ys) hc
        (fun j hj => by
          rw [hi2, Nat.mul_one, Nat.zero_add]
          rw [List.length_map] at hj
          rw [row_cell r (Array.getElem?_eq_getElem (show xs.length + j < cur.size by omega))]; rfl)
        (fun j hj => row_frozen r _)
      have hown : W.ownsRow base 5 1 (.slice (some ⟨g, 0, none⟩) xs.length c) xs.length (xs.map (Value.int .u8)) :=
        ⟨by simp, .inr ⟨g, c, cur, rfl, hb, r, hle, hmax, by omega, by rw [Nat.mul_one]; exact htk⟩⟩
      obtain ⟨v', W', hr, h2, h3, _, h5⟩ := run_append_own_at (P := Try.prog) W base t o.type 5 i (.int .u8 0) 1 1 ht hq hi1 hi2 hi3 rfl (by omega) _ xs.length (xs.map (Value.int .u8)) hown ⟨gx, 0, none⟩ ys.length cx (ys.map (Value.int .u8)) (by simp)
        hy.news (ones8 ys) (by simp only [maxLen]; omega) (by omega) hbase
      have hvw := hr.symm.trans hroom
      simp only [Result.ok.injEq] at hvw
      rcases h2.2 with ⟨_, h0'⟩ | ⟨g', c', cur', hv, hb', hg', hle', hmax', hsz', htk'⟩
      · omega
      · obtain ⟨rfl, rfl⟩ : g' = g ∧ c' = c := by
          have e := hv.symm.trans hvw.1
          simp only [Value.slice.injEq, Option.some.injEq, Addr.mk.injEq] at e
          exact ⟨e.1.1, e.2.2⟩
        subst hv
        refine ⟨_, W', ?_, ⟨g', c', cur', rfl, hb', hg', by omega, by simpa using hle', hmax', by simpa using htk'⟩, .inl ⟨g', _, c', rfl, ⟨_, rfl⟩, ExtB.of_grown h3⟩⟩
        unfold execOp
        simp only [ho, resolve, invoke, builtin, Sem.run_bind, Sem.run_pure, Result.andThen_ok, List.map_toArray, List.map_cons, List.map_nil, hs, hx, hr]
        simp
/-- another slice, of another block, is as it was -/
theorem Went.other {base : Nat} {bs : List Int} {u v v' : Value} {W W' : World} (h : Went v v' W W') (hu : OwnV base bs u W) (hn : u.ownBlock = v.ownBlock → u.ownBlock = none) : OwnV base bs u W' := by
  refine hu.below fun g hg => ?_
  have hl := hu.lt hg
  rcases h with ⟨g', n, c, rfl, _, he⟩ | ⟨_, he⟩
  · exact he.2.2.2.2 g hl (fun e => by subst e; rw [hg] at hn; exact absurd (hn rfl) (by simp))
  · exact he.block g hl
/-- a slice of the same block, shorter, is as it was -/
theorem Went.same {base : Nat} {bs ys : List Int} {g n c : Nat} {v v' : Value} {W W' : World} (h : Went v v' W W') (hv' : OwnB base ys v' W') (hu : OwnB base bs (.slice (some ⟨g, 0, none⟩) n c) W) (hv : ∃ m, v = .slice (some ⟨g, 0, none⟩) m c) (hp : ys.take n = bs) : OwnB base bs (.slice (some ⟨g, 0, none⟩) n c) W' := by
  rcases h with ⟨g', m, c', rfl, ⟨n', rfl⟩, he⟩ | ⟨_, he⟩
  · obtain ⟨m', e⟩ := hv
    simp only [Value.slice.injEq, Option.some.injEq, Addr.mk.injEq] at e
    obtain ⟨⟨rfl, _⟩, _, rfl⟩ := e
    obtain ⟨g2, c2, cur2, e2, o2⟩ := hv'
    simp only [Value.slice.injEq, Option.some.injEq, Addr.mk.injEq] at e2
    obtain ⟨⟨rfl, _⟩, _, rfl⟩ := e2
    have o3 := o2.take n
    rw [hp] at o3
    obtain ⟨g3, c3, cur3, e3, o4⟩ := hu
    simp only [Value.slice.injEq, Option.some.injEq, Addr.mk.injEq] at e3
    exact ⟨_, _, _, by rw [e3.2.1], o3⟩
  · exact hu.ext he
/-- one byte of a slice of one's own is set -/
theorem store_own {ρ : Operand → Value} {o : Oper} {W : World} (x y : Operand) (g j : Nat) (z : Int) {base c : Nat} {cur : Array Value} {bs : List Int} (h : OwnAt base g c cur bs W) (hj : j < bs.length)
    (ho : o.op = .store 5 x y) (hx : ρ x = .pointer (some ⟨g, j, none⟩)) (hy : ρ y = .int .u8 z) :
    (execOp ρ o).run Try.prog W = .ok .skip (W.setRow g (cur.setIfInBounds j (.int .u8 z))) ∧ OwnAt base g c (cur.setIfInBounds j (.int .u8 z)) (bs.set j z) (W.setRow g (cur.setIfInBounds j (.int .u8 z))) := by
  obtain ⟨h1, h2, h3, h4, h5, h6⟩ := h
  have hjc : j < cur.size := by omega
  refine ⟨?_, h1, setRow_heap _ _ _ _ _ _ h2, by simpa using h3, by simpa using h4, h5, ?_⟩
  · exact run_storeC1 5 x y g j 5 cur (.int .u8 z) h2 ho hx hy kj (by simpa using hjc) rfl rfl
  · rw [List.length_set, List.map_set, ← h6]
    rw [show (cur.setIfInBounds j (Value.int .u8 z)).toList = cur.toList.set j (.int .u8 z) by simp]
    rw [List.take_set]
end Go.Proofs.Ytfelfmchachljaa.Own
