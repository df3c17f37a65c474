/- A walk by program: what loops touch and leave; numbers. -/
import Derived.Test.YtfelfmchachljaaAutoE
import Derived.Test.YtfelfmchachljaaShaM
namespace Go.Proofs.Ytfelfmchachljaa.Auto
open Go Go.RowKit
open Go.Proofs.Ytfelfmchachljaa.Rely Go.Proofs.Ytfelfmchachljaa.Own
set_option linter.unusedVariables false

theorem i64n (a : Int) (m : Nat) (e : a = (m : Int)) (h : m ≤ 9000000000000000000) : IntKind.i64.wrap a = (m : Int) := by subst e; exact IntWalk.i64_in _ (by omega)
theorem low_row {n g : Nat} {W W' : World} {ob : Obj} (h : Below n W W') (r : W.heap[g]? = some ob) (hl : g < n) : W'.heap[g]? = some ob := (h.block g hl).trans r
theorem Ext.low {w W W' : World} {n : Nat} (h : Ext w W) (l : Below n W W') (hn : w.heap.size ≤ n) : Ext w W' :=
  ⟨l.os.trans h.os, l.tape.trans h.tape, l.output.trans h.output, Nat.le_trans h.size l.size, fun k hk => (l.block k (by omega)).trans (h.block k hk)⟩
theorem ExtB.low {w W W' : World} {n g : Nat} (h : ExtB g w W) (l : Below n W W') (hn : w.heap.size ≤ n) : ExtB g w W' :=
  ⟨l.os.trans h.1, l.tape.trans h.2.1, l.output.trans h.2.2.1, Nat.le_trans h.2.2.2.1 l.size, fun k hk hne => (l.block k (by omega)).trans (h.2.2.2.2 k hk hne)⟩
theorem ExtB.putsN {w W W' : World} {g c : Nat} (h : ExtB g w W) (p : Puts W c W') (hc : w.heap.size ≤ c) : ExtB g w W' :=
  ⟨p.1.trans h.1, p.2.1.trans h.2.1, p.2.2.1.trans h.2.2.1, by have := h.2.2.2.1; have := p.2.2.2.1; omega, fun k hk hn => (p.2.2.2.2 k (by omega)).trans (h.2.2.2.2 k hk hn)⟩
end Go.Proofs.Ytfelfmchachljaa.Auto
namespace Go.Proofs.Ytfelfmchachljaa.Own
open Go Go.RowKit
theorem ExtB.size {w W : World} {g : Nat} (h : ExtB g w W) : w.heap.size ≤ W.heap.size := h.2.2.2.1
end Go.Proofs.Ytfelfmchachljaa.Own
namespace Go.Proofs.Ytfelfmchachljaa.Auto
open Go Go.RowKit
open Go.Proofs.Ytfelfmchachljaa.Rely Go.Proofs.Ytfelfmchachljaa.Own
set_option linter.unusedVariables false
/-- all but some blocks stay -/
structure Keeps (gs : List Nat) (V W : World) : Prop where
  os : W.os = V.os
  tape : W.tape = V.tape
  output : W.output = V.output
  size : V.heap.size ≤ W.heap.size
  block : ∀ k, k < V.heap.size → k ∉ gs → W.heap[k]? = V.heap[k]?
theorem Keeps.refl (gs : List Nat) (V : World) : Keeps gs V V := ⟨rfl, rfl, rfl, Nat.le_refl _, fun _ _ _ => rfl⟩
theorem nm_nil {b : Nat} : b ∉ ([] : List Nat) := by simp
theorem nm_cons {b g : Nat} {gs : List Nat} (h : b ≠ g) (k : b ∉ gs) : b ∉ g :: gs := by simp [h, k]
theorem ge_nil {n : Nat} : ∀ c ∈ ([] : List Nat), n ≤ c := by simp
theorem ge_cons {n g : Nat} {gs : List Nat} (h : n ≤ g) (k : ∀ c ∈ gs, n ≤ c) : ∀ c ∈ g :: gs, n ≤ c := by
  intro c hc
  rcases List.mem_cons.1 hc with rfl | hc
  · exact h
  · exact k c hc
theorem oa_nil {p : Nat → Prop} : ∀ c ∈ ([] : List Nat), p c := by simp
theorem oa_cons {p : Nat → Prop} {g : Nat} {gs : List Nat} (h : p g) (k : ∀ c ∈ gs, p c) : ∀ c ∈ g :: gs, p c := by
  intro c hc
  rcases List.mem_cons.1 hc with rfl | hc
  · exact h
  · exact k c hc
theorem Keeps.row {gs : List Nat} {V W : World} {b : Nat} {ob : Obj} (h : Keeps gs V W) (r : V.heap[b]? = some ob) (hn : b ∉ gs) : W.heap[b]? = some ob := (h.block b (row_lt r) hn).trans r
theorem Keeps.step {gs : List Nat} {V W W' : World} (h : Keeps gs V W) (e : Ext W W') : Keeps gs V W' :=
  ⟨e.os.trans h.os, e.tape.trans h.tape, e.output.trans h.output, Nat.le_trans h.size e.size, fun k hk hn => (e.block k (Nat.lt_of_lt_of_le hk h.size)).trans (h.block k hk hn)⟩
theorem Keeps.puts {gs : List Nat} {V W W' : World} {c : Nat} (h : Keeps gs V W) (p : Puts W c W') (hc : c ∈ gs ∨ V.heap.size ≤ c) : Keeps gs V W' :=
  ⟨p.1.trans h.os, p.2.1.trans h.tape, p.2.2.1.trans h.output, by have := h.size; have := p.2.2.2.1; omega, fun k hk hn => (p.2.2.2.2 k (fun e => by subst e; rcases hc with hc | hc; exact hn hc; omega)).trans (h.block k hk hn)⟩
theorem Keeps.but {gs : List Nat} {V W W' : World} {c : Nat} (h : Keeps gs V W) (p : ExtB c W W') (hc : c ∈ gs ∨ V.heap.size ≤ c) : Keeps gs V W' :=
  ⟨p.1.trans h.os, p.2.1.trans h.tape, p.2.2.1.trans h.output, Nat.le_trans h.size p.2.2.2.1, fun k hk hn => (p.2.2.2.2 k (Nat.lt_of_lt_of_le hk h.size) (fun e => by subst e; rcases hc with hc | hc; exact hn hc; omega)).trans (h.block k hk hn)⟩
theorem Keeps.low {gs : List Nat} {V W W' : World} {n : Nat} (h : Keeps gs V W) (l : Below n W W') (hn : V.heap.size ≤ n) : Keeps gs V W' :=
  ⟨l.os.trans h.os, l.tape.trans h.tape, l.output.trans h.output, Nat.le_trans h.size l.size, fun k hk hm => (l.block k (by omega)).trans (h.block k hk hm)⟩
theorem Keeps.keeps {gs hs : List Nat} {V W W' : World} (h : Keeps gs V W) (q : Keeps hs W W') (hc : ∀ c ∈ hs, c ∈ gs ∨ V.heap.size ≤ c) : Keeps gs V W' :=
  ⟨q.os.trans h.os, q.tape.trans h.tape, q.output.trans h.output, Nat.le_trans h.size q.size, fun k hk hn => (q.block k (Nat.lt_of_lt_of_le hk h.size) (fun hm => by rcases hc k hm with e | e; exact hn e; omega)).trans (h.block k hk hn)⟩
theorem Keeps.ext {hs : List Nat} {V W W' : World} (q : Keeps hs W W') (h : Ext V W) (hc : ∀ c ∈ hs, V.heap.size ≤ c) : Ext V W' :=
  ⟨q.os.trans h.os, q.tape.trans h.tape, q.output.trans h.output, Nat.le_trans h.size q.size, fun k hk => (q.block k (Nat.lt_of_lt_of_le hk h.size) (fun hm => by have := hc k hm; omega)).trans (h.block k hk)⟩
theorem OwnN.low {k : IntKind} {T : TypeId} {base n : Nat} {xs : List Int} {v : Value} {V W W' : World} (h : OwnN k T base xs v W) (hV : OwnN k T base xs v V) (l : Below V.heap.size W W') : OwnN k T base xs v W' := h.keep fun g hg => l.block g (hV.lt hg)
theorem RdK.low {k : IntKind} {B : Nat} {xs : List Int} {v : Value} {V W W' : World} (h : RdK k B xs v W) (hV : RdK k B xs v V) (l : Below V.heap.size W W') : RdK k B xs v W' := by
  obtain ⟨a, cap, rfl, h2, h3, h4, h5⟩ := h
  refine ⟨a, cap, rfl, h2, h3, h4, ?_⟩
  rcases h5 with h5 | ⟨g, o, q1, q2, q3, q4⟩
  · exact .inl h5
  · rcases Nat.eq_zero_or_pos xs.length with h0 | h0
    · exact .inl (List.length_eq_zero_iff.1 h0)
    · obtain ⟨a', cap', e, -, -, -, h5'⟩ := hV
      simp only [Value.slice.injEq] at e
      obtain ⟨rfl, -, rfl⟩ := e
      have hlt : g < V.heap.size := by
        rcases h5' with h5' | ⟨g', o', e', -, q3', -⟩
        · rw [h5'] at h0; simp at h0
        · rw [q1] at e'; simp only [Option.some.injEq, Addr.mk.injEq] at e'; rw [e'.1]; exact q3'
      exact .inr ⟨g, o, q1, q2, Nat.lt_of_lt_of_le q3 l.size, fun i hi => by rw [← q4 i hi]; exact World.cell?_of_block (l.block g hlt)⟩
theorem RdK.puts {k : IntKind} {B c : Nat} {ys : List Int} {v : Value} {W W' : World} (h : RdK k B ys v W) (p : Puts W c W') (hc : B ≤ c) : RdK k B ys v W' := h.keep (Nat.le_of_eq p.2.2.2.1.symm) fun g hg _ => p.2.2.2.2 g (by omega)
theorem OwnN.puts {k : IntKind} {T : TypeId} {base c : Nat} {xs : List Int} {v : Value} {W W' : World} (h : OwnN k T base xs v W) (p : Puts W c W') (hc : v.ownBlock ≠ some c) : OwnN k T base xs v W' := h.keep fun g hg => p.2.2.2.2 g (fun e => hc (by rw [hg, e]))
theorem RdK.keepN {k : IntKind} {B : Nat} {ys : List Int} {v : Value} {W W' : World} (h : RdK k B ys v W) (hs : W.heap.size ≤ W'.heap.size) (hk : ∀ g, v.ownBlock = some g → g < W.heap.size → W'.heap[g]? = W.heap[g]?) : RdK k B ys v W' := by
  obtain ⟨a, cap, rfl, h2, h3, h4, h5⟩ := h
  refine ⟨a, cap, rfl, h2, h3, h4, h5.imp id ?_⟩
  rintro ⟨g, o, rfl, q2, q3, q4⟩
  refine ⟨g, o, rfl, q2, Nat.lt_of_lt_of_le q3 hs, fun i hi => ?_⟩
  rw [← q4 i hi]
  exact World.cell?_of_block (hk g rfl q3)
theorem RdK.extN {k : IntKind} {B g : Nat} {ys : List Int} {v : Value} {W W' : World} (h : RdK k B ys v W) (e : ExtB g W W') (hn : v.ownBlock ≠ some g) : RdK k B ys v W' := h.keepN e.2.2.2.1 fun i hi hl => e.2.2.2.2 i hl (fun q => hn (by rw [hi, q]))
theorem RdK.putsN {k : IntKind} {B c : Nat} {ys : List Int} {v : Value} {W W' : World} (h : RdK k B ys v W) (p : Puts W c W') (hn : v.ownBlock ≠ some c) : RdK k B ys v W' := h.keepN (Nat.le_of_eq p.2.2.2.1.symm) fun g hg _ => p.2.2.2.2 g (fun q => hn (by rw [hg, q]))
theorem RdK.here {k : IntKind} {B : Nat} {ys : List Int} {v : Value} {W : World} (h : RdK k B ys v W) : RdK k W.heap.size ys v W := by
  obtain ⟨a, cap, rfl, h2, h3, h4, h5⟩ := h
  exact ⟨a, cap, rfl, h2, h3, h4, h5.imp id fun ⟨g, o, q1, q2, q3, q4⟩ => ⟨g, o, q1, q3, q3, q4⟩⟩
theorem RdK.nb {k : IntKind} {B g : Nat} {ys : List Int} {v : Value} {W : World} (h : RdK k B ys v W) (hB : B ≤ g) : ys = [] ∨ v.ownBlock ≠ some g := by
  obtain ⟨a, cap, rfl, h2, h3, h4, h5⟩ := h
  refine h5.imp id ?_
  rintro ⟨g', o, rfl, q2, q3, q4⟩ e
  have : g' = g := Option.some.inj e
  omega
theorem OwnN.nb {k : IntKind} {T : TypeId} {base g : Nat} {xs : List Int} {v : Value} {W : World} (h : OwnN k T base xs v W) (hg : g < base) : v.ownBlock ≠ some g := fun e => by have := h.ge e; omega
theorem RdK.keeps {k : IntKind} {B : Nat} {gs : List Nat} {ys : List Int} {v : Value} {V W : World} (h : RdK k B ys v V) (q : Keeps gs V W) (hc : ∀ c ∈ gs, B ≤ c) : RdK k B ys v W := h.keep q.size fun g hg hl => q.block g hl (fun hm => by have := hc g hm; omega)
theorem ints_one (k : IntKind) (xs : List Int) : (ints k xs).all (·.oneCell') = true := by
  rw [← Array.all_toList, List.all_eq_true]
  intro v hv
  simp only [ints, List.mem_map] at hv
  obtain ⟨x, _, rfl⟩ := hv
  rfl
theorem run_index_ints {P : Program} (W : World) {t e : TypeId} {n : Nat} {k ki : IntKind} (ht : P.underlying t = some (.array n e)) (he : P.underlying e = some (.int k)) (hq : (P.info? e).map (·.size) = some 1)
    (xs : List Int) (hl : xs.length = n) (i : Nat) (hi : i < n) : (Instr.index t (.agg (ints k xs)) (.int ki (i : Int))).run P W = .ok (.int k (nth xs i)) W := by
  have hp : P.plainKey e = true := by simp [Program.plainKey, he]
  have a1 := run_part_plain W hp (ints_get k xs i (by omega))
  unfold Instr.index
  cases hI : P.info? e with
  | none => simp [hI] at hq
  | some inf =>
    have hs : inf.size = 1 := by simpa [hI] using hq
    have h1 : ((0 : Int) ≤ (i : Int) ∧ (i : Int) < (n : Int)) := by omega
    simp [asIntOf, run_underlying ht, Sem.run_bind, sizeOf, typeInfo, hI, hs, hi, a1]

/-- what the bytes from position o on stand for, m of them -/
def leAt (xs : List Int) (o : Nat) : Nat → Int
  | 0 => 0
  | m + 1 => leAt xs o m + nth xs (o + m) * 256 ^ m
/-- the four words after k bytes -/
def pw (xs : List Int) (k : Nat) : List Int := [leAt xs 0 (min 8 k), leAt xs 8 (min 8 (k - 8)), leAt xs 16 (min 8 (k - 16)), leAt xs 24 (min 8 (k - 24))]
theorem run_index_il {P : Program} {ρ : Operand → Value} {o : Oper} {w : World} (t : TypeId) (x y : Operand) (ki k : IntKind) (xs : List Int) (i n : Nat) (e : TypeId) (v : Int) (ho : o.op = .index t x y) (hx : ρ x = .agg (ints k xs)) (hy : ρ y = .int ki (i : Int))
    (ht : P.underlying t = some (.array n e)) (he : P.underlying e = some (.int k)) (hq : (P.info? e).map (·.size) = some 1) (hl : xs.length = n) (hi : i < n) (hv : nth xs i = v) : (execOp ρ o).run P w = .ok (.value (.int k v)) w := by
  have h := run_index_ints (P := P) w (ki := ki) ht he hq xs hl i hi
  rw [hv] at h
  unfold execOp
  simp only [ho, hx, hy, Sem.run_bind, h, Result.andThen_ok, Sem.run_pure]
/-- a part of a row: one of its integers is stored -/
theorem set_part {k : IntKind} (pre post : List (Array Value)) (xs : List Int) (n0 i : Nat) (v : Int) (hp : (cat pre).size = n0) (hi : i < xs.length) :
    (cat (pre ++ ([ints k xs] ++ post))).setIfInBounds (n0 + i) (.int k v) = cat (pre ++ ([ints k (xs.set i v)] ++ post)) := by
  subst hp
  rw [cat_append, cat_append, cat_append, cat_append]
  have e1 : ∀ z, cat [ints k z] = ints k z := fun z => rfl
  rw [e1, e1, ← ints_set]
  have hz : i < (ints k xs).size := by rw [ints_size]; exact hi
  rw [Array.setIfInBounds_append_right (by omega), Nat.add_sub_cancel_left, Array.setIfInBounds_append_left hz]
theorem run_storeP {P : Program} {ρ : Operand → Value} {o : Oper} {w : World} {k : IntKind} (ty : TypeId) (x y : Operand) (g off : Nat) (t : TypeId) (pre post : List (Array Value)) (xs : List Int) (n0 i : Nat) (v : Int) (hg : w.heap[g]? = some (.cells (cat (pre ++ ([ints k xs] ++ post))) t))
    (ho : o.op = .store ty x y) (hx : ρ x = .pointer (some ⟨g, off, none⟩)) (hy : ρ y = .int k v) (hi : (P.info? ty).map (·.size) = some 1) (hp : (cat pre).size = n0) (hoff : off = n0 + i) (hix : i < xs.length) :
    (execOp ρ o).run P w = .ok .skip (w.setRow g (cat (pre ++ ([ints k (xs.set i v)] ++ post)))) := by
  subst hoff
  have hs : Nat.blt (n0 + i) (cat (pre ++ ([ints k xs] ++ post))).size = true := by
    have : n0 + i < (cat (pre ++ ([ints k xs] ++ post))).size := by
      rw [cat_append, cat_append, Array.size_append, Array.size_append, hp]
      have e1 : (cat [ints k xs]).size = xs.length := ints_size k xs
      omega
    simpa using this
  rw [← set_part pre post xs n0 i v hp hix]
  exact run_storeC1 ty x y g (n0 + i) t _ (.int k v) hg ho hx hy hi hs rfl rfl
theorem get_part {k : IntKind} (pre post : List (Array Value)) (xs : List Int) (n0 i off : Nat) (hp : (cat pre).size = n0) (hoff : off = n0 + i) (hi : i < xs.length) : (cat (pre ++ ([ints k xs] ++ post)))[off]? = some (.int k (nth xs i)) := by
  subst hoff
  exact cat_part pre [ints k xs] post n0 hp i _ (ints_get k xs i hi)
theorem te_storeR {P : Program} {Rd : World → Prop} {l : List Oper} {N : Nat} {L : Env} {K : World → Prop} {w : World} {j : Nat} {r : List Nat} (o : Oper) (g : Nat) (old cs : Array Value) (t : TypeId) (hg : w.heap[g]? = some (.cells old t)) (ho : l[j]? = some o)
    (h : (execOp (Rely.look (envN N L)) o).run P w = .ok .skip (w.setRow g cs)) (hr : ∀ W : World, Puts w g W → W.heap[g]? = some (.cells cs t) → Rd W) (k : ∀ W : World, Puts w g W → W.heap[g]? = some (.cells cs t) → TailEnv P Rd l N L K r W) : TailEnv P Rd l N L K (j :: r) w :=
  ⟨o, _, ho, h, hr _ (puts_setRow _ _ _) (setRow_heap _ _ _ _ _ _ hg), k _ (puts_setRow _ _ _) (setRow_heap _ _ _ _ _ _ hg)⟩
theorem one_leaf (v : Value) (h : v.oneCell' = true) : (#[v].all (·.oneCell')) = true := by simp [h]
theorem eql_lists {P : Program} (t : TypeId) {e : TypeId} {k : IntKind} (xs ys : List Int) {n : Nat} {b : Bool} (h : decide (xs = ys) = b) (hx : xs.length = n) (hy : ys.length = n) (ht : P.underlying t = some (.array n e)) (he : P.underlying e = some (.int k)) (hc : P.cellsOf e = 1) (w : World) :
    (binOp .eql t (.agg (ints k xs)) (.agg (ints k ys))).run P w = .ok (.bool b) w := by
  subst h; exact eql_ints w ht he hc xs ys hx hy
theorem neq_lists {P : Program} (t : TypeId) {e : TypeId} {k : IntKind} (xs ys : List Int) {n : Nat} {b : Bool} (h : decide (xs = ys) = b) (hx : xs.length = n) (hy : ys.length = n) (ht : P.underlying t = some (.array n e)) (he : P.underlying e = some (.int k)) (hc : P.cellsOf e = 1) (w : World) :
    (binOp .neq t (.agg (ints k xs)) (.agg (ints k ys))).run P w = .ok (.bool (!b)) w := by
  subst h; exact neq_ints w ht he hc xs ys hx hy
theorem RdK.putsP {k : IntKind} {B c : Nat} {ys : List Int} {v : Value} {W W' : World} (h : RdK k B ys v W) (p : Puts W c W') (hn : ys = [] ∨ v.ownBlock ≠ some c) : RdK k B ys v W' := by
  rcases hn with hn | hn
  · obtain ⟨a, cap, rfl, h2, h3, h4, h5⟩ := h
    exact ⟨a, cap, rfl, h2, h3, h4, .inl hn⟩
  · exact h.putsN p hn
/-- a text's bytes: a literal's row gets its mark -/
theorem freeze_puts {W : World} {g : Nat} {cs : Array Value} {T : TypeId} (m : Nat) (r : W.heap[g]? = some (.cells cs T)) : Puts W g (W.freeze ⟨g, m, none⟩ 1) ∧ (W.freeze ⟨g, m, none⟩ 1).heap[g]? = some (.cells cs T (m, m + 1)) := by
  have hl := row_lt r
  unfold World.freeze
  rw [if_neg (by decide)]
  refine ⟨⟨rfl, rfl, rfl, Array.size_modify .., fun k hk => ?_⟩, ?_⟩
  · show (W.heap.modify g _)[k]? = _
    rw [Array.getElem?_modify, if_neg (fun e => hk e.symm)]
  · show (W.heap.modify g _)[g]? = _
    rw [Array.getElem?_modify, if_pos rfl, r]
    rfl
theorem rdK_marked {k : IntKind} {T : TypeId} {g n : Nat} {xs : List Int} {fr : Nat × Nat} {W : World} (hn : xs.length = n) (r : W.heap[g]? = some (.cells (ints k xs) T fr)) (hm : n ≤ maxLen) : RdK k W.heap.size xs (.slice (some ⟨g, 0, none⟩) n n) W := by
  subst hn
  refine ⟨_, _, rfl, Nat.le_refl _, hm, (fun h => by cases h), .inr ⟨g, 0, rfl, row_lt r, row_lt r, fun i hi => ?_⟩⟩
  rw [Nat.zero_add]
  exact (cell_of_row W g i (ints k xs) T fr r).trans (ints_get k xs i hi)
section
variable {ds : List Deferred} {P : Program} {ops : Array Oper} {Q : Exit → Act → World → Prop} {rest : List Oper} {o : Oper} {N : Nat} {L : Env} {W : World}
theorem seq_convB {g n : Nat} {xs : List Int} {T : TypeId} (t e : TypeId) (x : Operand) (d : Nat) (ho : o.op = .convert t t x) (hd : o.dst = some d) (hg : wantB ops o N L = some true) (hx : Rely.look (envN N L) x = .slice (some ⟨g, 0, none⟩) n n)
    (ht : P.underlying t = some (.slice e)) (he : P.underlying e = some (.int .u8)) (hn : xs.length = n) (hm : n ≤ maxLen) (r : W.heap[g]? = some (.cells (ints .u8 xs) T))
    (k : ∀ W' : World, Puts W g W' → W'.heap[g]? = some (.cells (ints .u8 xs) T (n, n + 1)) → RdK .u8 W'.heap.size xs (.slice (some ⟨g, 0, none⟩) n n) W' → WL P ops Q rest (actOf ds N ((d, .slice (some ⟨g, 0, none⟩) n n) :: L)) W') : WL P ops Q (o :: rest) (actOf ds N L) W := by
  have hsz : (ints .u8 xs).size = n := (ints_size _ _).trans hn
  obtain ⟨h1, h2⟩ := freeze_puts n r
  refine seq_valw _ _ d hd hg ?_ (k _ h1 h2 (rdK_marked hn h2 hm))
  have hsh : W.shape? g = some (T, n) := by unfold World.shape?; rw [r]; simp [hsz]
  unfold execOp
  simp [ho, hx, convert, run_underlying ht, run_underlying he, markStringish, hsh]
end
theorem w_com (x : Sha.Wd) : bits .xor .u32 4294967295 (Sha.wv x) = Sha.wv (~~~x) := by
  have h := Sha.w_xor (BitVec.allOnes 32) x
  rw [BitVec.allOnes_xor] at h
  exact h
end Go.Proofs.Ytfelfmchachljaa.Auto
