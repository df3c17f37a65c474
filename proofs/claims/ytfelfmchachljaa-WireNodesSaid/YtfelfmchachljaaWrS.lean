/- The reference: appending in regions that draw. -/
import Derived.Test.YtfelfmchachljaaWrR
namespace Go.Proofs.Ytfelfmchachljaa.Wr
open Go Go.RowKit
open Go.Proofs.Ytfelfmchachljaa.Rely Go.Proofs.Ytfelfmchachljaa.Auto Go.Proofs.Ytfelfmchachljaa.Own Go.Proofs.Ytfelfmchachljaa.Sha
set_option linter.unusedVariables false
set_option linter.unusedSimpArgs false

/-- blocks from base on change at most so: places n, n + 1, .. become ys -/
structure OncU (base n : Nat) (ys : List Int) (W W' : World) : Prop where
  os : W'.os = W.os
  tape : W'.tape = W.tape
  output : W'.output = W.output
  size : W.heap.size ≤ W'.heap.size
  block : ∀ g, g < W.heap.size → W'.heap[g]? = W.heap[g]? ∨ (base ≤ g ∧ ∃ cs cs', W.heap[g]? = some (.cells cs 5) ∧ W'.heap[g]? = some (.cells cs' 5) ∧ cs'.size = cs.size ∧ ∀ i, cs'[i]? = cs[i]? ∨ (n ≤ i ∧ cs'[i]? = some (.int .u8 (nth ys (i - n)))))
theorem OncU.refl (base n : Nat) (ys : List Int) (W : World) : OncU base n ys W W := ⟨rfl, rfl, rfl, Nat.le_refl _, fun _ _ => .inl rfl⟩
theorem OncU.trans {base n : Nat} {ys : List Int} {a b c : World} (h : OncU base n ys a b) (k : OncU base n ys b c) : OncU base n ys a c := by
  refine ⟨k.os.trans h.os, k.tape.trans h.tape, k.output.trans h.output, Nat.le_trans h.size k.size, fun g hg => ?_⟩
  rcases k.block g (Nat.lt_of_lt_of_le hg h.size) with h2 | ⟨hb, cs, cs', r1, r2, r3, r4⟩
  · rw [h2]; exact h.block g hg
  · rcases h.block g hg with h1 | ⟨_, ds, ds', s1, s2, s3, s4⟩
    · exact .inr ⟨hb, cs, cs', h1 ▸ r1, r2, r3, r4⟩
    · rw [s2] at r1
      simp only [Option.some.injEq, Obj.cells.injEq, and_true, true_and] at r1
      obtain rfl := r1
      refine .inr ⟨hb, ds, cs', s1, r2, r3.trans s3, fun i => ?_⟩
      rcases r4 i with r | ⟨r, r'⟩
      · rw [r]; exact s4 i
      · exact .inr ⟨r, r'⟩
theorem OncU.ext {base n : Nat} {ys : List Int} {a b : World} (e : Ext a b) : OncU base n ys a b := ⟨e.os, e.tape, e.output, e.size, fun g hg => .inl (e.block g hg)⟩
theorem OncU.low {n : Nat} {ys : List Int} {w0 W : World} (h : OncU w0.heap.size n ys w0 W) : Ext w0 W :=
  ⟨h.os, h.tape, h.output, h.size, fun g hg => by
    rcases h.block g hg with h | ⟨hb, _⟩
    · exact h
    · omega⟩
theorem rl_oncU (w0 : World) (n : Nat) (ys : List Int) : Rl (OncU w0.heap.size n ys) w0 := ⟨OncU.refl _ _ _, OncU.trans, fun _ e => OncU.ext e, OncU.low⟩
theorem take_intsU {cs : Array Value} {xs : List Int} {k : IntKind} (h : ∀ i, i < xs.length → cs[i]? = some (.int k (nth xs i))) : cs.toList.take xs.length = xs.map (Value.int k) := by
  apply List.ext_getElem?
  intro i
  rw [List.getElem?_take]
  by_cases hi : i < xs.length
  · rw [if_pos hi, Array.getElem?_toList, h i hi, List.getElem?_map, List.getElem?_eq_getElem hi]
    simp [nth, hi]
  · rw [if_neg hi, List.getElem?_map, List.getElem?_eq_none (by omega)]; rfl
theorem oncU_own {base n : Nat} {ys xs : List Int} (hx : ∀ i, i < xs.length → n ≤ i → nth xs i = nth ys (i - n)) : Stable (OncU base n ys) (OwnN .u8 5 base xs) := fun v W W' hR h => by
  rcases Nat.eq_zero_or_pos xs.length with h0 | h0
  · obtain ⟨⟨h1, h2⟩, hm⟩ := h
    refine ⟨⟨h1, ?_⟩, hm⟩
    rcases h2 with h2 | ⟨g, c, cur, rfl, q2, q3, q4, q5, q6, q7⟩
    · exact .inl h2
    · rcases hR.block g (row_lt q3) with h | ⟨hb, cs, cs', r1, r2, r3, r4⟩
      · exact .inr ⟨g, c, cur, rfl, q2, h.trans q3, q4, q5, q6, q7⟩
      · rw [q3] at r1
        simp only [Option.some.injEq, Obj.cells.injEq, and_true, true_and] at r1
        obtain rfl := r1
        refine .inr ⟨g, c, cs', rfl, q2, r2, q4, q5, r3.trans q6, ?_⟩
        obtain rfl := List.length_eq_zero_iff.1 h0
        rfl
  · obtain ⟨g, c, cur, rfl, q2, q3, q4, q5, q6, q7⟩ := ownN_open h h0
    rcases hR.block g (row_lt q3) with h2 | ⟨hb, cs, cs', r1, r2, r3, r4⟩
    · exact h.keep fun g' hg => by
        obtain rfl : g = g' := Option.some.inj hg
        exact h2
    · rw [q3] at r1
      simp only [Option.some.injEq, Obj.cells.injEq, and_true, true_and] at r1
      obtain rfl := r1
      refine ownN_at rfl q2 r2 (r3.trans q4) q5 q6 (take_intsU fun i hi => ?_)
      rcases r4 i with r | ⟨r, r'⟩
      · rw [r]; exact nth_of_take q7 hi
      · rw [r', hx i hi r]
theorem oncU_new {n : Nat} {ys : List Int} {w0 : World} : Stable (OncU w0.heap.size n ys) (NewS w0.heap.size #[] 5 0) := fun v W W' hR ⟨g, h1, h2, h3⟩ => by
  refine ⟨g, h1, h2, ?_⟩
  rcases hR.block g (row_lt h3) with h | ⟨hb, cs, cs', r1, r2, r3, r4⟩
  · exact h.trans h3
  · rw [h3] at r1
    simp only [Option.some.injEq, Obj.cells.injEq, and_true, true_and] at r1
    obtain rfl := r1
    rw [r2, Array.eq_empty_of_size_eq_zero r3]
theorem oncU_row {n m : Nat} {ys : List Int} {w0 : World} {T : TypeId} {cells : Array Value} (hT : T ≠ 5) : Stable (OncU w0.heap.size n ys) (NewS w0.heap.size cells T m) := fun v W W' hR ⟨g, h1, h2, h3⟩ => by
  refine ⟨g, h1, h2, ?_⟩
  rcases hR.block g (row_lt h3) with h | ⟨hb, cs, cs', r1, r2, r3, r4⟩
  · exact h.trans h3
  · rw [h3] at r1
    simp only [Option.some.injEq, Obj.cells.injEq] at r1
    exact absurd r1.2.1 hT
/-- append, and what it does to the slice's own block -/
theorem append_U {P : Program} {b : Nat} {ρ : Operand → Value} {o : Oper} {W : World} (s x : Operand) (t : TypeId) (ho : o.op = .call { callee := .builtin .append, args := #[s, x], argTypes := #[t, t] })
    (ht : P.underlying t = some (.slice 5)) (hi : (P.info? 5).map (fun i => (i.zero, i.size, i.bytes)) = some (some (.int .u8 0), 1, b)) (hb8 : b ≤ 8) {base B n : Nat} {v y : Value} {xs ys Y : List Int} (hs : ρ s = v) (hx : ρ x = y)
    (h : OwnN .u8 5 base xs v W) (hy : RdK .u8 B ys y W) (hn : xs.length + ys.length ≤ 1000000000) (hbase : base ≤ W.heap.size) (hY : (∃ g, v = .slice (some ⟨g, 0, none⟩) 0 0) ∨ (xs.length = n ∧ ys = Y)) :
    ∃ v' W', (execOp ρ o).run P W = .ok (.value v') W' ∧ OncU base n Y W W' ∧ OwnN .u8 5 base (xs ++ ys) v' W' := by
  obtain ⟨i, hq, hi1, hi2, hi3⟩ := infoK hi
  obtain ⟨v2, W2, r2, o2, g2, -⟩ := append_N (ρ := ρ) (o := o) (W := W) s x t ho ht hi hb8 hs hx h hy hn hbase
  refine ⟨v2, W2, r2, ?_, o2⟩
  rcases h.1.2 with ⟨h0, h0'⟩ | ⟨g, c, cur, rfl, q2, q3, q4, q5, q6, q7⟩
  · exact ⟨g2.os, g2.tape, g2.output, g2.size, fun k hk => .inl (g2.block k hk (by rw [h0]; intro e; cases e))⟩
  · have hc0 : (∃ g', (Value.slice (some ⟨g, 0, none⟩) xs.length c) = .slice (some ⟨g', 0, none⟩) 0 0) → c = 0 := fun ⟨g', e'⟩ => by
      simp only [Value.slice.injEq] at e'
      exact e'.2.2
    obtain ⟨a, cap, rfl, y2, y3, y4, y5⟩ := hy
    have hgo : ∀ (v' : Value) (W' : World), (Builtin.append_ #[t, t] o.type #[.slice (some ⟨g, 0, none⟩) xs.length c, .slice a ys.length cap]).run P W = .ok v' W' → (execOp ρ o).run P W = .ok (.value v') W' := fun v' W' hr => by
      unfold execOp
      simp only [ho, resolve, invoke, builtin, Sem.run_bind, Sem.run_pure, Result.andThen_ok, List.map_toArray, List.map_cons, List.map_nil, hs, hx, hr]
    have same : ∀ (v' : Value) (W' : World), (execOp ρ o).run P W = .ok (.value v') W' → W2 = W' := fun v' W' hr => by
      rw [r2] at hr
      injection hr
    refine ⟨g2.os, g2.tape, g2.output, g2.size, fun k hk => ?_⟩
    by_cases hkg : k = g
    · subst hkg
      cases a with
      | none =>
        have hc0 := y4 rfl
        have hy0 : ys = [] := List.length_eq_zero_iff.1 (by omega)
        subst hy0
        subst hc0
        exact .inl (by rw [same _ _ (hgo _ _ (run_append_owned_none (P := P) W base t o.type 5 i 1 ht hq _ xs.length _ h.1))])
      | some a =>
        have hnews : ∀ j u, (ys.map (Value.int .u8))[j]? = some u → W.cell? (a.add j) = some u := by
          rcases y5 with rfl | ⟨g', o', e1, e2, e3, e4⟩
          · intro j u hu; simp at hu
          · obtain rfl := Option.some.inj e1
            exact newsK e4
        by_cases hroom : xs.length + ys.length ≤ c
        · have hr := run_append_room (P := P) W t o.type 5 i ht hq k xs.length c cur q3 a ys.length cap (ys.map (Value.int .u8)) (by simp [hi2]) hnews (onesK _ ys) hroom (by rw [hi2]; simp; omega)
          have hW := same _ _ (hgo _ _ hr)
          rw [hW]
          refine .inr ⟨q2, _, _, q3, setRow_heap W k cur _ 5 _ q3, ?_, fun j => ?_⟩
          · simp only [List.size_toArray, List.length_append, List.length_take, List.length_drop, List.length_map, Array.length_toList, hi2]; omega
          · simp only [List.getElem?_toArray, hi2, Nat.mul_one]
            have hl1 : (List.take xs.length cur.toList).length = xs.length := by
              have e : cur.toList.length = cur.size := Array.length_toList
              rw [List.length_take, e]; omega
            rw [List.append_assoc]
            rcases Nat.lt_or_ge j xs.length with hj | hj
            · left
              rw [List.getElem?_append_left (by omega), List.getElem?_take, if_pos hj, Array.getElem?_toList]
            · rw [List.getElem?_append_right (by omega), hl1]
              rcases Nat.lt_or_ge (j - xs.length) ys.length with hj2 | hj2
              · right
                rcases hY with hY | ⟨rfl, rfl⟩
                · have := hc0 hY; omega
                · refine ⟨hj, ?_⟩
                  rw [List.getElem?_append_left (by rw [List.length_map]; exact hj2), List.getElem?_map, List.getElem?_eq_getElem hj2]
                  simp [nth, hj2]
              · left
                rw [List.getElem?_append_right (by rw [List.length_map]; exact hj2), List.length_map, List.getElem?_drop, Array.getElem?_toList]
                congr 1; omega
        · have holds := h.1.cells (g := k) rfl
          have hr := run_append_grow (P := P) W t o.type 5 i (.int .u8 0) ht hq hi1 ⟨k, 0, none⟩ xs.length c (xs.map (Value.int .u8)) (by simp [hi2]) (by simpa using holds) a ys.length cap (ys.map (Value.int .u8)) (by simp [hi2]) hnews (by omega) (by omega) (growslice_fits (by omega) (by
            rw [hi3]
            have : (xs.length + ys.length) * b ≤ 1000000000 * 8 := Nat.mul_le_mul hn hb8
            omega))
          have hW := same _ _ (hgo _ _ hr)
          rw [hW]
          exact .inl (heap_alloc_old W.drew _ hk)
    · exact .inl (g2.block k hk (fun e => hkg (Option.some.inj e)))

/-- append beyond the room: what lay stays -/
theorem append_G {P : Program} {ρ : Operand → Value} {o : Oper} {W : World} (s x : Operand) (t : TypeId) (ho : o.op = .call { callee := .builtin .append, args := #[s, x], argTypes := #[t, t] })
    (ht : P.underlying t = some (.slice 5)) (hi : (P.info? 5).map (fun i => (i.zero, i.size, i.bytes)) = some (some (.int .u8 0), 1, 1)) {base B c g : Nat} {y : Value} {xs ys : List Int} (hs : ρ s = .slice (some ⟨g, 0, none⟩) xs.length c) (hx : ρ x = y)
    (h : OwnN .u8 5 base xs (.slice (some ⟨g, 0, none⟩) xs.length c) W) (hy : RdK .u8 B ys y W) (hn : xs.length + ys.length ≤ 1000000000) (hbase : base ≤ W.heap.size) (hgr : c < xs.length + ys.length) (h0 : ys ≠ []) :
    ∃ v' W', (execOp ρ o).run P W = .ok (.value v') W' ∧ Ext W W' ∧ OwnN .u8 5 base (xs ++ ys) v' W' := by
  obtain ⟨i, hq, hi1, hi2, hi3⟩ := infoK hi
  obtain ⟨v2, W2, r2, o2, g2, -⟩ := append_N (ρ := ρ) (o := o) (W := W) s x t ho ht hi (by decide) hs hx h hy hn hbase
  obtain ⟨a, cap, rfl, y2, y3, y4, y5⟩ := hy
  cases a with
  | none =>
    rcases y5 with rfl | ⟨g', o', e1, _⟩
    · exact absurd rfl h0
    · cases e1
  | some a =>
    have hnews : ∀ j u, (ys.map (Value.int .u8))[j]? = some u → W.cell? (a.add j) = some u := by
      rcases y5 with rfl | ⟨g', o', e1, e2, e3, e4⟩
      · intro j u hu; simp at hu
      · obtain rfl := Option.some.inj e1
        exact newsK e4
    have holds := h.1.cells (g := g) rfl
    obtain ⟨v', W', hr, h2, h3⟩ := run_append_arg_grows (P := P) W t o.type 5 i (.int .u8 0) 1 1 ht hq hi1 hi2 hi3 rfl (by omega) ⟨g, 0, none⟩ xs.length c (xs.map (Value.int .u8)) (by simp) (by simpa using holds) a ys.length cap (ys.map (Value.int .u8)) (by simp) hnews hgr (by simp only [maxLen]; omega) (by omega)
    have hrun : (execOp ρ o).run P W = .ok (.value v') W' := by
      unfold execOp
      simp only [ho, resolve, invoke, builtin, Sem.run_bind, Sem.run_pure, Result.andThen_ok, List.map_toArray, List.map_cons, List.map_nil, hs, hx, hr]
    rw [r2] at hrun
    injection hrun with h4 h5
    exact ⟨v2, W2, r2, by rw [h5]; exact ext_grown h3, o2⟩
def refW (nm : Int) (sealed info : List Int) : Option (List Int) := if inB nm 255 = true ∧ sealed.length ≤ 65535 ∧ info.length ≤ 65535 then fitV ([byV nm 0] ++ rowV sealed ++ rowV info) else none
def refP (grp : List Int) (ep fr no : Int) (sealed : List Int) : Option (List Int) := if hgB ep fr = true ∧ inB no 4294967295 = true ∧ sealed.length ≤ 65535 then fitV (headV grp ep fr ++ beV no 4 ++ rowV sealed) else none
theorem rowV_len (ys : List Int) : (rowV ys).length = ys.length + 2 := by unfold rowV; rw [List.length_append, beV_len]; omega
theorem headV_len {grp : List Int} (ep fr : Int) (h : grp.length = 32) : (headV grp ep fr).length = 37 := by unfold headV; rw [List.length_append, List.length_append, beV_len, h]; rfl
theorem byV0 (n : Int) : IntKind.u8.wrap n = byV n 0 := by unfold byV; rw [Nat.mul_zero, Int.pow_zero, Int.fdiv_one]

end Go.Proofs.Ytfelfmchachljaa.Wr
