/- A walk by program: frames as lists of slots, one law for each kind of operation, in regions that draw and in such that don't. -/
import Derived.Test.YtaojnmjmmfdfjaaPartsIn
import Derived.Test.YtaojnmjmmfdfjaaRelyD
import Derived.Test.YtaojnmjmmfdfjaaRelyIn
namespace Go.Proofs.Ytaojnmjmmfdfjaa.Auto
open Go Go.RowKit
open Go.Proofs.Ytaojnmjmmfdfjaa.Rely
set_option linter.unusedVariables false

/-! ### Frames -/
abbrev Env := List (Nat × Value)
def get (L : Env) (t : Nat) : Value := match L with | [] => undef | (k, v) :: r => bif Nat.beq k t then v else get r t
def envN (N : Nat) (L : Env) (t : Nat) : Value := bif Nat.blt t N then get L t else undef
def actOf (ds : List Deferred) (N : Nat) (L : Env) : Act := { tmps := Array.ofFn (n := N) fun t => get L t.1, defers := ds }
variable {ds : List Deferred}

theorem slots_actOf (N : Nat) (L : Env) : slots (actOf ds N L) = envN N L := by
  funext t
  unfold slots actOf envN
  by_cases h : t < N
  · have : Nat.blt t N = true := by simpa using h
    simp [this, h]
  · have : Nat.blt t N = false := by
      cases hh : Nat.blt t N with
      | false => rfl
      | true => exact absurd (by simpa using hh) h
    simp [this, h]
theorem eval_actOf (N : Nat) (L : Env) : (actOf ds N L).eval = Rely.look (envN N L) := by rw [eval_look, slots_actOf]
theorem size_actOf (N : Nat) (L : Env) : (actOf ds N L).tmps.size = N := by simp [actOf]
theorem put_actOf (N : Nat) (L : Env) (d : Nat) (v : Value) : (actOf ds N L).put (some d) v = actOf ds N ((d, v) :: L) := by
  show (⟨(Array.ofFn (n := N) fun t => get L t.1).setIfInBounds d v, ds⟩ : Act) = ⟨Array.ofFn (n := N) fun t => get ((d, v) :: L) t.1, ds⟩
  congr 1
  apply Array.ext
  · simp
  · intro i h1 h2
    simp only [Array.size_setIfInBounds, Array.size_ofFn] at h1
    by_cases hd : d = i
    · subst hd
      simp [get]
    · rw [Array.getElem_setIfInBounds_ne (by simpa using h1) hd]
      have : Nat.beq d i = false := by
        cases h : Nat.beq d i with
        | false => rfl
        | true => exact absurd (Nat.eq_of_beq_eq_true h) hd
      simp [get, this]
def up (d : Option Nat) (v : Value) (L : Env) : Env := match d with | some t => (t, v) :: L | none => L
theorem put_up (N : Nat) (L : Env) (d : Option Nat) (v : Value) : (actOf ds N L).put d v = actOf ds N (up d v L) := by
  cases d
  · rfl
  · exact put_actOf _ _ _ _
def argsEnv : List Value → Nat → Env
  | [], _ => []
  | v :: r, k => (k, v) :: argsEnv r (k + 1)
theorem get_args : ∀ (l : List Value) (k t : Nat), get (argsEnv l k) t = if k ≤ t then l.getD (t - k) undef else undef
  | [], k, t => by simp [argsEnv, get]
  | v :: r, k, t => by
    rw [argsEnv, get]
    by_cases h : k = t
    · subst h
      simp
    · have hb : Nat.beq k t = false := by
        cases hh : Nat.beq k t with
        | false => rfl
        | true => exact absurd (Nat.eq_of_beq_eq_true hh) h
      rw [hb, cond_false, get_args r (k + 1) t]
      by_cases h1 : k + 1 ≤ t
      · rw [if_pos h1, if_pos (by omega), show t - k = (t - (k + 1)) + 1 by omega]
        simp
      · rw [if_neg h1, if_neg (by omega)]
theorem entry (args : Array Value) (N : Nat) (h : args.size ≤ N) : ({ tmps := args ++ Array.replicate (N - args.size) undef, defers := [] } : Act) = actOf [] N (argsEnv args.toList 0) := by
  unfold actOf
  congr 1
  apply Array.ext
  · simp; omega
  · intro i h1 h2
    simp only [Array.getElem_ofFn, get_args, Nat.zero_le, if_true, Nat.sub_zero]
    by_cases hi : i < args.size
    · rw [Array.getElem_append_left hi]
      simp [hi]
    · rw [Array.getElem_append_right (by omega)]
      simp [hi]
theorem enter {P : Program} {f : FuncId} {fn : Func} {c : Code} {args : Array Value} {w : World} {R : Ending → World → Prop} (N : Nat) (L : Env)
    (hf : P.funcs[f]? = some fn) (hb : fn.body = some c) (hn : fn.ntmps = N) (hs : Nat.ble args.size N = true) (hL : argsEnv args.toList 0 = L)
    (h : c.wp P (bodyPost P fn R) (actOf [] N L) w) : Calls P f args w R := by
  subst hn
  subst hL
  refine calls_of_wp hf hb ?_
  rw [entry _ _ (by simpa using hs)]
  exact h

/-! ### Guards -/
def wantB (ops : Array Oper) (o : Oper) (N : Nat) (L : Env) : Option Bool :=
  match guardOf ops o with
  | some g => some (gOk g (envN N L))
  | none => none
theorem wanted_of {ops : Array Oper} {o : Oper} {N : Nat} {L : Env} {b : Bool} (h : wantB ops o N L = some b) : Region.wanted o (yielded ops (actOf ds N L).tmps) = b := by
  unfold wantB at h
  split at h
  · rename_i g hg
    rw [wanted_guard hg, slots_actOf]
    exact Option.some.inj h
  · cases h

/-! ### Operations in the order of the text -/
/-- what is left of a region, in a box (so that nothing is run by the way) -/
structure WL (P : Program) (ops : Array Oper) (Q : Exit → Act → World → Prop) (rest : List Oper) (a : Act) (w : World) : Prop where
  out : wpList P ops Q rest a w
theorem region_lit {P : Program} {Q : Exit → Act → World → Prop} {a : Act} {w : World} {id : Nat} {l : List Oper} (h : WL P l.toArray Q l a w) : (Code.region id l.toArray false).wp P Q a w := wp_region_lit h.out
section
variable {P : Program} {ops : Array Oper} {Q : Exit → Act → World → Prop} {rest : List Oper} {o : Oper} {N : Nat} {L : Env} {w : World}
theorem seq_op (hg : wantB ops o N L = some true) (h : ∀ K : Act → World → Prop, (∀ a w, WL P ops Q rest a w → K a w) → o.upon P (actOf ds N L) K Q ((execOp (Rely.look (envN N L)) o).run P w)) : WL P ops Q (o :: rest) (actOf ds N L) w :=
  ⟨wpList_step fun K hK => by
    rw [if_pos (wanted_of hg)]
    unfold Oper.wp
    rw [eval_actOf]
    exact h K fun a w hh => hK a w hh.out⟩
theorem seq_skip (d : Nat) (hd : o.dst = some d) (hg : wantB ops o N L = some false) (k : WL P ops Q rest (actOf ds N ((d, undef) :: L)) w) : WL P ops Q (o :: rest) (actOf ds N L) w :=
  ⟨wpList_step fun K hK => by
    rw [if_neg (by rw [wanted_of hg]; decide), hd, put_actOf]
    exact hK _ _ k.out⟩
theorem seq_val (v : Value) (d : Nat) (hd : o.dst = some d) (hg : wantB ops o N L = some true) (h : (execOp (Rely.look (envN N L)) o).run P w = .ok (.value v) w) (k : WL P ops Q rest (actOf ds N ((d, v) :: L)) w) : WL P ops Q (o :: rest) (actOf ds N L) w :=
  seq_op hg fun K hK => by
    rw [h]
    show K _ _
    rw [hd, put_actOf]
    exact hK _ _ k
theorem seq_valw (v : Value) (w' : World) (d : Nat) (hd : o.dst = some d) (hg : wantB ops o N L = some true) (h : (execOp (Rely.look (envN N L)) o).run P w = .ok (.value v) w') (k : WL P ops Q rest (actOf ds N ((d, v) :: L)) w') : WL P ops Q (o :: rest) (actOf ds N L) w :=
  seq_op hg fun K hK => by
    rw [h]
    show K _ _
    rw [hd, put_actOf]
    exact hK _ _ k
theorem seq_voidw (w' : World) (hd : o.dst = none) (hg : wantB ops o N L = some true) (h : (execOp (Rely.look (envN N L)) o).run P w = .ok .skip w') (k : WL P ops Q rest (actOf ds N L) w') : WL P ops Q (o :: rest) (actOf ds N L) w :=
  seq_op hg fun K hK => by
    rw [h]
    show K _ _
    rw [hd]
    exact hK _ _ k
/-- a new block -/
theorem seq_alloc (cs : Array Value) (T : TypeId) (d : Nat) (hd : o.dst = some d) (hg : wantB ops o N L = some true) (h : (execOp (Rely.look (envN N L)) o).run P w = .ok (.value (.pointer (some ⟨w.heap.size, 0, none⟩))) (w.alloc (.cells cs T)))
    (k : ∀ (g : Nat) (W : World), w.heap.size ≤ g → Ext w W → W.heap[g]? = some (.cells cs T) → WL P ops Q rest (actOf ds N ((d, .pointer (some ⟨g, 0, none⟩)) :: L)) W) : WL P ops Q (o :: rest) (actOf ds N L) w :=
  seq_valw _ _ d hd hg h (k _ _ (Nat.le_refl _) (ext_alloc _ _) (heap_alloc_new _ _))
/-- a call that leaves all blocks as they are -/
theorem seq_call (v : Value) (f : FuncId) (args : Array Value) (d : Nat) (hd : o.dst = some d) (hg : wantB ops o N L = some true) (h : (execOp (Rely.look (envN N L)) o).run P w = .ok (.enter f args) w)
    (hc : Calls P f args w (Ret w v)) (k : ∀ W : World, Ext w W → WL P ops Q rest (actOf ds N ((d, v) :: L)) W) : WL P ops Q (o :: rest) (actOf ds N L) w :=
  seq_op hg fun K hK => by
    rw [h]
    refine hc.mono ?_
    rintro e w' ⟨rfl, hw⟩
    show K _ _
    rw [hd, put_actOf]
    exact hK _ _ (k _ hw)
/-- a call of which something is known of what it hands back and of the world behind it -/
theorem seq_callR (R : Value → World → Prop) (f : FuncId) (args : Array Value) (d : Nat) (hd : o.dst = some d) (hg : wantB ops o N L = some true) (h : (execOp (Rely.look (envN N L)) o).run P w = .ok (.enter f args) w)
    (hc : Calls P f args w fun e w' => ∃ v, e = .returned v ∧ R v w') (k : ∀ (v : Value) (W : World), R v W → WL P ops Q rest (actOf ds N ((d, v) :: L)) W) : WL P ops Q (o :: rest) (actOf ds N L) w :=
  seq_op hg fun K hK => by
    rw [h]
    refine hc.mono ?_
    rintro e w' ⟨v, rfl, hw⟩
    show K _ _
    rw [hd, put_actOf]
    exact hK _ _ (k _ _ hw)
theorem seq_nil (k : Q .normal (actOf ds N L) w) : WL P ops Q [] (actOf ds N L) w := ⟨k⟩
end

/-! ### Reading and writing blocks -/
/-- of one block the row is another one -/
def Puts (w : World) (g : Nat) (W : World) : Prop := W.os = w.os ∧ W.tape = w.tape ∧ W.output = w.output ∧ W.heap.size = w.heap.size ∧ ∀ k, k ≠ g → W.heap[k]? = w.heap[k]?
theorem puts_setRow (w : World) (g : Nat) (cs : Array Value) : Puts w g (w.setRow g cs) := ⟨rfl, rfl, rfl, by simp, fun k hk => setRow_other _ _ _ _ hk⟩
theorem Puts.row {w W : World} {g k : Nat} {ob : Obj} (h : Puts w g W) (hk : w.heap[k]? = some ob) (hn : k ≠ g) : W.heap[k]? = some ob := (h.2.2.2.2 k hn).trans hk
theorem Puts.ext {w0 w W : World} {g : Nat} (h : Puts w g W) (he : Ext w0 w) (hg : w0.heap.size ≤ g) : Ext w0 W :=
  ⟨h.1.trans he.os, h.2.1.trans he.tape, h.2.2.1.trans he.output, by have := he.size; have := h.2.2.2.1; omega, fun k hk => (h.2.2.2.2 k (by omega)).trans (he.block k hk)⟩
theorem Ext.tr {a b c : World} (h : Ext a b) (k : Ext b c) : Ext a c := Rely.Ext.trans h k
theorem ne_of_old {w : World} {k g : Nat} {ob : Obj} (hk : w.heap[k]? = some ob) (hg : w.heap.size ≤ g) : k ≠ g := by
  have := row_lt hk
  omega
theorem ne_of_new {w : World} {k g : Nat} {ob : Obj} (hk : w.heap[k]? = some ob) (hg : w.heap.size ≤ g) : g ≠ k := by
  have := row_lt hk
  omega

def aggB : TypeDesc → Bool
  | .struct _ => true
  | .array _ _ => true
  | _ => false
def aggD (P : Program) (ty : TypeId) : Option Bool := (P.underlying ty).map aggB
def sliceB (cs ps : Array Value) (off : Nat) : Bool := Nat.ble (off + ps.size) cs.size
theorem run_load_part {P : Program} {ρ : Operand → Value} {o : Oper} {w : World} (ty : TypeId) (x : Operand) (g off : Nat) (t : TypeId) (cs ps : Array Value) (fr : Nat × Nat) (hg : w.heap[g]? = some (.cells cs t fr))
    (ho : o.op = .load ty x) (hx : ρ x = .pointer (some ⟨g, off, none⟩)) (hp : ∀ j v, ps[j]? = some v → cs[off + j]? = some v) (hu : aggD P ty = some true) (hi : (P.info? ty).map (·.size) = some ps.size) :
    (execOp ρ o).run P w = .ok (.value (.agg ps)) w := by
  unfold aggD at hu
  cases hd : P.underlying ty with
  | none => rw [hd] at hu; cases hu
  | some d =>
    rw [hd] at hu
    have hdd : aggB d = true := Option.some.inj hu
    have := run_loadVar_part w g off t ty cs ps fr d hg hp hd (by cases d <;> first | rfl | cases hdd) hi
    unfold execOp
    simp only [ho, hx, Instr.loadAt, Instr.sureAddr, Sem.run_bind, Sem.run_pure, Result.andThen_ok, this]
theorem run_load_row {P : Program} {ρ : Operand → Value} {o : Oper} {w : World} (ty : TypeId) (x : Operand) (g : Nat) (t : TypeId) (cs : Array Value) (fr : Nat × Nat) (hg : w.heap[g]? = some (.cells cs t fr))
    (ho : o.op = .load ty x) (hx : ρ x = .pointer (some ⟨g, 0, none⟩)) (hu : aggD P ty = some true) (hi : (P.info? ty).map (·.size) = some cs.size) :
    (execOp ρ o).run P w = .ok (.value (.agg cs)) w :=
  run_load_part ty x g 0 t cs cs fr hg ho hx (fun j v h => by rw [Nat.zero_add]; exact h) hu hi
theorem run_loadC1 {P : Program} {ρ : Operand → Value} {o : Oper} {w : World} (ty : TypeId) (x : Operand) (g off : Nat) (t : TypeId) (cs : Array Value) (v : Value) (fr : Nat × Nat) (hg : w.heap[g]? = some (.cells cs t fr))
    (ho : o.op = .load ty x) (hx : ρ x = .pointer (some ⟨g, off, none⟩)) (hp : cs[off]? = some v) (hu : aggD P ty = some false) :
    (execOp ρ o).run P w = .ok (.value v) w := by
  unfold aggD at hu
  cases hd : P.underlying ty with
  | none => rw [hd] at hu; cases hu
  | some d =>
    rw [hd] at hu
    have hdd : aggB d = false := Option.some.inj hu
    have hc : w.cell? ⟨g, off, none⟩ = some v := (cell_of_row w g off cs t fr hg).trans hp
    have hagg : (isAgg ty).run P w = .ok false w := by
      unfold isAgg
      rw [Sem.run_bind, run_underlying hd w]
      cases d <;> first | rfl | cases hdd
    unfold execOp
    simp [ho, hx, Instr.loadAt, Instr.sureAddr, loadVar, hagg, hc]
/-- cells written from a place on -/
def sp (cur : Array Value) (k : Nat) (vs : List Value) : Array Value := splice cur k vs
theorem run_store_part {P : Program} {ρ : Operand → Value} {o : Oper} {w : World} (ty : TypeId) (x y : Operand) (g off : Nat) (t : TypeId) (old cells : Array Value) (hg : w.heap[g]? = some (.cells old t))
    (ho : o.op = .store ty x y) (hx : ρ x = .pointer (some ⟨g, off, none⟩)) (hy : ρ y = .agg cells) (hi : (P.info? ty).map (·.size) = some cells.size) (hs : Nat.ble (off + cells.size) old.size = true) (h1 : cells.all (·.oneCell') = true) :
    (execOp ρ o).run P w = .ok .skip (w.setRow g (splice old off cells.toList)) := by
  unfold execOp
  simp only [ho, hx, hy, Instr.storeAt, Instr.sureAddr, Sem.run_bind, Sem.run_pure, Result.andThen_ok, run_storeVar_part w g off t ty old cells hg hi (by simpa using hs) h1]
theorem run_store_row {P : Program} {ρ : Operand → Value} {o : Oper} {w : World} (ty : TypeId) (x y : Operand) (g : Nat) (t : TypeId) (old cells : Array Value) (hg : w.heap[g]? = some (.cells old t))
    (ho : o.op = .store ty x y) (hx : ρ x = .pointer (some ⟨g, 0, none⟩)) (hy : ρ y = .agg cells) (hi : (P.info? ty).map (·.size) = some cells.size) (hs : old.size = cells.size) (h1 : cells.all (·.oneCell') = true) :
    (execOp ρ o).run P w = .ok .skip (w.setRow g cells) := by
  unfold execOp
  simp only [ho, hx, hy, Instr.storeAt, Instr.sureAddr, Sem.run_bind, Sem.run_pure, Result.andThen_ok, run_storeVar_row w g t ty old cells hg hi hs h1]
theorem run_storeC1 {P : Program} {ρ : Operand → Value} {o : Oper} {w : World} (ty : TypeId) (x y : Operand) (g off : Nat) (t : TypeId) (old : Array Value) (v : Value) (hg : w.heap[g]? = some (.cells old t))
    (ho : o.op = .store ty x y) (hx : ρ x = .pointer (some ⟨g, off, none⟩)) (hy : ρ y = v) (hi : (P.info? ty).map (·.size) = some 1) (hs : Nat.blt off old.size = true) (h1 : v.oneCell' = true) (hcs : v.cells = #[v]) :
    (execOp ρ o).run P w = .ok .skip (w.setRow g (old.setIfInBounds off v)) := by
  have hlt : off < old.size := by simpa using hs
  have hcell : w.cell? ⟨g, off, none⟩ = some old[off] := by simp [World.cell?, hg, hlt]
  have hfro : w.frozen? ⟨g, off, none⟩ = false := by simp [World.frozen?, hg]
  cases hq : P.info? ty with
  | none => simp [hq] at hi
  | some i =>
    have hs' : i.size = 1 := by simpa [hq] using hi
    have hst : (store (⟨g, off, none⟩ : Addr) v).run P w = .ok () (w.setRow g (old.setIfInBounds off v)) := by
      rw [run_store P w _ v _ h1, hcell]
      simp [hfro, setCell_eq_setRow w g off old t (0, 0) v hg]
    have hadd : (⟨g, off, none⟩ : Addr).add 0 = ⟨g, off, none⟩ := by unfold Addr.add; split <;> simp_all
    unfold execOp
    simp [ho, hx, hy, Instr.storeAt, Instr.sureAddr, storeVar, sizeOf, typeInfo, hq, hs', hcs, storeCells, hadd, hst]
section
variable {P : Program} {ops : Array Oper} {Q : Exit → Act → World → Prop} {rest : List Oper} {o : Oper} {N : Nat} {L : Env} {w : World}
/-- a store: the block's row is another one behind it -/
theorem seq_store (g : Nat) (old cs : Array Value) (t : TypeId) (hg : w.heap[g]? = some (.cells old t)) (hd : o.dst = none) (hw : wantB ops o N L = some true) (h : (execOp (Rely.look (envN N L)) o).run P w = .ok .skip (w.setRow g cs))
    (k : ∀ W : World, Puts w g W → W.heap[g]? = some (.cells cs t) → WL P ops Q rest (actOf ds N L) W) : WL P ops Q (o :: rest) (actOf ds N L) w :=
  seq_voidw _ hd hw h (k _ (puts_setRow _ _ _) (setRow_heap _ _ _ _ _ _ hg))
end

/-! ### Regions that draw -/
def envS (N : Nat) (L : Env) (C : List Value) : List (Tmp × Option Nat) → Env
  | [] => []
  | (t, some i) :: r => (t, C.getD i undef) :: envS N L C r
  | (t, none) :: r => (t, envN N L t) :: envS N L C r
/-- what is known of each operation: its value, or that it is a new block -/
inductive Kn where
  | is (v : Value)
  | new (cs : Array Value) (T : TypeId)
def Kn.fact (base : Nat) : Kn → Fact
  | .is c => fun v _ => v = c
  | .new cs T => fun v W => ∃ g, v = .pointer (some ⟨g, 0, none⟩) ∧ base ≤ g ∧ W.heap[g]? = some (.cells cs T)
def Kn.val : Kn → Value
  | .is c => c
  | .new _ _ => undef
theorem Kn.stable (base : Nat) (k : Kn) : Stable Ext (k.fact base) := by
  cases k with
  | is c => exact fun _ _ _ _ h => h
  | new cs T => exact fun v W W' hR ⟨g, h1, h2, h3⟩ => ⟨g, h1, h2, row_ext h3 hR⟩
/-- one operation after the other -/
def steps (P : Program) (w0 : World) (base : Nat) (N : Nat) (L : Env) (F : List Kn → Prop) : List Oper → List Src → List Kn → Prop
  | o :: os, s :: ss, C => ∃ k : Kn, opOk P Ext w0 (envN N L) (C.map (Kn.fact base)) o s (k.fact base) ∧ steps P w0 base N L F os ss (C ++ [k])
  | _, _, C => F C
theorem steps_relies {P : Program} {w0 : World} {base N : Nat} {L : Env} {F : List Kn → Prop} {G : List Fact → Prop} (hFG : ∀ C, F C → G (C.map (Kn.fact base))) : ∀ (os : List Oper) (ss : List Src) (C : List Kn), steps P w0 base N L F os ss C → relies P Ext w0 (envN N L) G os ss (C.map (Kn.fact base))
  | [], _, C, h => hFG C (by simpa [steps] using h)
  | _ :: _, [], C, h => hFG C (by simpa [steps] using h)
  | o :: os, s :: ss, C, ⟨k, h1, h2⟩ => by
    refine ⟨k.fact base, Kn.stable base k, h1, ?_⟩
    have := steps_relies hFG os ss (C ++ [k]) h2
    simpa using this

/-- slots that the operations read, by what is known -/
theorem envS_holds {N : Nat} {L : Env} {base : Nat} {C : List Kn} {ρ : Tmp → Value} {W : World} : ∀ (r : List (Tmp × Option Nat)), (r.all fun x => match x.2 with | some i => (match C[i]? with | some (.is _) => true | _ => false) | none => true) = true →
    Holds (envN N L) (C.map (Kn.fact base)) ρ W r → ∀ t, (r.any fun x => Nat.beq x.1 t) = true → ρ t = get (envS N L (C.map Kn.val) r) t
  | [], _, _, t, h => by simp at h
  | (u, none) :: r, ha, hh, t, h => by
    simp only [List.all_cons, Bool.and_eq_true] at ha
    rw [envS, get]
    by_cases hu : Nat.beq u t = true
    · rw [hu, cond_true, ← Nat.eq_of_beq_eq_true hu]
      exact hh.1
    · have hu' : Nat.beq u t = false := by
        cases hb : Nat.beq u t with
        | false => rfl
        | true => exact absurd hb hu
      rw [hu', cond_false]
      refine envS_holds r ha.2 hh.2 t ?_
      simp only [List.any_cons, hu', Bool.false_or] at h
      exact h
  | (u, some i) :: r, ha, hh, t, h => by
    simp only [List.all_cons, Bool.and_eq_true] at ha
    rw [envS, get]
    by_cases hu : Nat.beq u t = true
    · rw [hu, cond_true, ← Nat.eq_of_beq_eq_true hu]
      have h1 := hh.1
      have h2 := ha.1
      cases hc : C[i]? with
      | none => simp [hc] at h2
      | some k =>
        cases k with
        | new cs T => simp [hc] at h2
        | is c =>
          simp only [List.getD_eq_getElem?_getD, List.getElem?_map, hc, Option.map_some, Option.getD_some, Kn.fact] at h1
          simp [hc, Kn.val, h1]
    · have hu' : Nat.beq u t = false := by
        cases hb : Nat.beq u t with
        | false => rfl
        | true => exact absurd hb hu
      rw [hu', cond_false]
      refine envS_holds r ha.2 hh.2 t ?_
      simp only [List.any_cons, hu', Bool.false_or] at h
      exact h

/-- what is checked of an operation by program: all that it looks at is known -/
def seen (C : List Kn) (o : Oper) (s : Src) : Bool :=
  (match o.op with | .select _ _ => false | _ => true) &&
  (s.reads.all fun x => match x.2 with | some i => (match C[i]? with | some (.is _) => true | _ => false) | none => true) &&
  (o.op.operands.toList.all fun x => match x with | .tmp t => s.reads.any fun x => Nat.beq x.1 t | _ => true) &&
  (match s.guard with | some (d, _) => s.reads.any fun x => Nat.beq x.1 d | none => true)
theorem seen_look {N : Nat} {L : Env} {base : Nat} {C : List Kn} {o : Oper} {s : Src} {ρ : Tmp → Value} {W : World} (hs : seen C o s = true) (hh : Holds (envN N L) (C.map (Kn.fact base)) ρ W s.reads) :
    execOp (Rely.look ρ) o = execOp (Rely.look (get (envS N L (C.map Kn.val) s.reads))) o := by
  simp only [seen, Bool.and_eq_true] at hs
  obtain ⟨⟨⟨h1, h2⟩, h3⟩, h4⟩ := hs
  refine execOp_congr o (fun cs b hc => by rw [hc] at h1; cases h1) fun x hx => ?_
  cases x with
  | tmp t =>
    have := List.all_eq_true.1 h3 (.tmp t) (Array.mem_toList_iff.2 hx)
    exact envS_holds s.reads h2 hh t this
  | const v => rfl
  | global g => rfl
  | func f => rfl
theorem seen_guard {N : Nat} {L : Env} {base : Nat} {C : List Kn} {o : Oper} {s : Src} {ρ : Tmp → Value} {W : World} (hs : seen C o s = true) (hh : Holds (envN N L) (C.map (Kn.fact base)) ρ W s.reads) (p q : Prop) :
    guarded s.guard ρ p q = guarded s.guard (get (envS N L (C.map Kn.val) s.reads)) p q := by
  simp only [seen, Bool.and_eq_true] at hs
  obtain ⟨⟨⟨h1, h2⟩, h3⟩, h4⟩ := hs
  cases hg : s.guard with
  | none => rfl
  | some db =>
    obtain ⟨d, b⟩ := db
    rw [hg] at h4
    show (if isB b (ρ d) = true then p else q) = (if isB b (get (envS N L (C.map Kn.val) s.reads) d) = true then p else q)
    rw [envS_holds s.reads h2 hh d h4]
theorem guarded_pos {g : Option (Tmp × Bool)} {ρ : Tmp → Value} {p q : Prop} (hg : gOk g ρ = true) (h : p) : guarded g ρ p q := by
  cases g with
  | none => exact h
  | some db => exact (if_pos hg).mpr h
theorem guarded_neg {g : Option (Tmp × Bool)} {ρ : Tmp → Value} {p q : Prop} (hg : gOk g ρ = false) (h : q) : guarded g ρ p q := by
  cases g with
  | none => cases hg
  | some db =>
    unfold guarded
    unfold gOk at hg
    simp only [hg, Bool.false_eq_true, if_false]
    exact h

section
variable {P : Program} {w0 : World} {base N : Nat} {L : Env} {F : List Kn → Prop} {o : Oper} {os : List Oper} {s : Src} {ss : List Src} {C : List Kn}
theorem any_op (k : Kn) (hs : seen C o s = true) (hg : gOk s.guard (get (envS N L (C.map Kn.val) s.reads)) = true)
    (h : ∀ W, Ext w0 W → relyUpon P Ext W (k.fact base) ((execOp (Rely.look (get (envS N L (C.map Kn.val) s.reads))) o).run P W))
    (hk : steps P w0 base N L F os ss (C ++ [k])) : steps P w0 base N L F (o :: os) (s :: ss) C :=
  ⟨k, fun ρ W hR hh => by
    rw [seen_guard hs hh]
    refine guarded_pos hg ?_
    unfold relyAt
    rw [seen_look hs hh]
    exact h W hR, hk⟩
theorem any_skip (hs : seen C o s = true) (hg : gOk s.guard (get (envS N L (C.map Kn.val) s.reads)) = false)
    (hk : steps P w0 base N L F os ss (C ++ [.is undef])) : steps P w0 base N L F (o :: os) (s :: ss) C :=
  ⟨.is undef, fun ρ W hR hh => by
    rw [seen_guard hs hh]
    exact guarded_neg hg rfl, hk⟩
/-- a value that doesn't hang on the world -/
theorem any_val (v : Value) (hs : seen C o s = true) (hg : gOk s.guard (get (envS N L (C.map Kn.val) s.reads)) = true)
    (h : ∀ W, (execOp (Rely.look (get (envS N L (C.map Kn.val) s.reads))) o).run P W = .ok (.value v) W)
    (hk : steps P w0 base N L F os ss (C ++ [.is v])) : steps P w0 base N L F (o :: os) (s :: ss) C :=
  any_op (.is v) hs hg (fun W _ => by rw [h]; exact ⟨Ext.refl _, rfl⟩) hk
/-- a value read out of the world -/
theorem any_read (v : Value) (hs : seen C o s = true) (hg : gOk s.guard (get (envS N L (C.map Kn.val) s.reads)) = true)
    (h : ∀ W, Ext w0 W → (execOp (Rely.look (get (envS N L (C.map Kn.val) s.reads))) o).run P W = .ok (.value v) W)
    (hk : steps P w0 base N L F os ss (C ++ [.is v])) : steps P w0 base N L F (o :: os) (s :: ss) C :=
  any_op (.is v) hs hg (fun W hR => by rw [h W hR]; exact ⟨Ext.refl _, rfl⟩) hk
theorem any_call (v : Value) (f : FuncId) (args : Array Value) (hs : seen C o s = true) (hg : gOk s.guard (get (envS N L (C.map Kn.val) s.reads)) = true)
    (h : ∀ W, (execOp (Rely.look (get (envS N L (C.map Kn.val) s.reads))) o).run P W = .ok (.enter f args) W) (hc : ∀ W, Ext w0 W → Calls P f args W (Ret W v))
    (hk : steps P w0 base N L F os ss (C ++ [.is v])) : steps P w0 base N L F (o :: os) (s :: ss) C :=
  any_op (.is v) hs hg (fun W hR => by
    rw [h]
    exact ⟨Ext.refl _, (hc W hR).mono fun _ _ h => h.const⟩) hk
theorem any_new (cs : Array Value) (T : TypeId) (hs : seen C o s = true) (hb : base ≤ w0.heap.size) (hg : gOk s.guard (get (envS N L (C.map Kn.val) s.reads)) = true)
    (h : ∀ W, (execOp (Rely.look (get (envS N L (C.map Kn.val) s.reads))) o).run P W = .ok (.value (.pointer (some ⟨W.heap.size, 0, none⟩))) (W.alloc (.cells cs T)))
    (hk : steps P w0 base N L F os ss (C ++ [.new cs T])) : steps P w0 base N L F (o :: os) (s :: ss) C :=
  any_op (.new cs T) hs hg (fun W hR => by
    rw [h]
    refine ⟨ext_alloc _ _, _, rfl, ?_, heap_alloc_new _ _⟩
    have := hR.size
    omega) hk
end
/-- the slots behind the region -/
def ups (L : Env) : List Oper → List Kn → Env
  | o :: os, k :: C => ups (up o.dst k.val L) os C
  | _, _ => L
theorem fin_ups {Q : Act → World → Prop} {base N : Nat} {W : World} : ∀ (os : List Oper) (C : List Kn) (L : Env), (C.all fun k => match k with | .is _ => true | _ => false) = true → Q (actOf ds N (ups L os C)) W → fin Q os (C.map (Kn.fact base)) (actOf ds N L) W
  | [], C, L, _, h => by cases C <;> exact h
  | _ :: _, [], L, _, h => h
  | o :: os, k :: C, L, ha, h => by
    simp only [List.all_cons, Bool.and_eq_true] at ha
    intro v hv
    cases k with
    | new _ _ => simp at ha
    | is c =>
      obtain rfl : v = c := hv
      rw [put_up]
      exact fin_ups os C _ ha.2 h
theorem any_region {P : Program} {id : Nat} {Q : Exit → Act → World → Prop} {N : Nat} {L : Env} {w : World} {l : List Oper} (n : Nat) (S : List Src) (hm : P.follows .mixedOrders = true) (hok : ok l n N S = true)
    (h : ∀ F : List Kn → Prop, (∀ C, (C.all fun k => match k with | .is _ => true | _ => false) = true → (∀ W, Ext w W → WL P l.toArray Q (l.drop n) (actOf ds N (ups L (l.take n) C)) W) → F C) → steps P w.drew 0 N L F (l.take n) S []) :
    (Code.region id l.toArray true).wp P Q (actOf ds N L) w := by
  refine wp_region_rely Ext n N S hm hok (size_actOf N L) Ext.refl Ext.trans fun F r0 hr hF => ?_
  rw [slots_actOf] at hr
  subst hr
  have := h (fun C => (C.all fun k => match k with | .is _ => true | _ => false) = true ∧ ∀ W, Ext w W → WL P l.toArray Q (l.drop n) (actOf ds N (ups L (l.take n) C)) W) (fun C h1 h2 => ⟨h1, h2⟩)
  exact steps_relies (F := fun C => (C.all fun k => match k with | .is _ => true | _ => false) = true ∧ ∀ W, Ext w W → WL P l.toArray Q (l.drop n) (actOf ds N (ups L (l.take n) C)) W) (G := F)
    (fun C h => hF.out fun W hR => fin_ups (Q := fun a W => wpList P l.toArray Q (l.drop n) a W) _ _ _ h.1 (h.2 W (Rely.Ext.trans (ext_drew w) hR)).out) _ _ [] this

/-- the slots behind the region; new blocks have names of their own -/
def fins (base : Nat) (Q : Env → World → Prop) : List Oper → List Kn → List Nat → Env → World → Prop
  | o :: os, .is c :: C, acc, L, W => fins base Q os C acc (up o.dst c L) W
  | o :: os, .new cs T :: C, acc, L, W => ∀ g, base ≤ g → W.heap[g]? = some (.cells cs T) → (∀ u ∈ acc, g ≠ u) → fins base Q os C (acc ++ [g]) (up o.dst (.pointer (some ⟨g, 0, none⟩)) L) W
  | _, _, _, L, W => Q L W
theorem fins_mono {base : Nat} {W : World} : ∀ (os : List Oper) (C : List Kn) (acc : List Nat) (L : Env) (A B : Env → World → Prop), (∀ L W, A L W → B L W) → fins base A os C acc L W → fins base B os C acc L W
  | [], C, acc, L, A, B, h, hh => by cases C <;> exact h _ _ hh
  | o :: os, [], acc, L, A, B, h, hh => h _ _ hh
  | o :: os, .is c :: C, acc, L, A, B, h, hh => fins_mono os C acc _ A B h hh
  | o :: os, .new cs T :: C, acc, L, A, B, h, hh => fun g h1 h2 h3 => fins_mono os C _ _ A B h (hh g h1 h2 h3)
def newsOf : List Kn → Nat → List Nat
  | [], _ => []
  | .is _ :: r, k => newsOf r (k + 1)
  | .new _ _ :: r, k => k :: newsOf r (k + 1)
theorem newsOf_ge : ∀ (C : List Kn) (k i : Nat), i ∈ newsOf C k → k ≤ i
  | [], _, _, h => by cases h
  | .is _ :: r, k, i, h => by have := newsOf_ge r (k + 1) i h; omega
  | .new _ _ :: r, k, i, h => by
    rcases List.mem_cons.1 h with h | h
    · omega
    · have := newsOf_ge r (k + 1) i h; omega
theorem newsOf_get (C0 : List Kn) : ∀ (C : List Kn) (k : Nat), (∀ j, C[j]? = C0[k + j]?) → ∀ i ∈ newsOf C k, ∃ cs T, C0[i]? = some (.new cs T)
  | [], _, _, _, h => by cases h
  | .is _ :: r, k, hl, i, h => newsOf_get C0 r (k + 1) (fun j => by have := hl (j + 1); rw [List.getElem?_cons_succ] at this; rw [this]; congr 1; omega) i h
  | .new cs T :: r, k, hl, i, h => by
    rcases List.mem_cons.1 h with h | h
    · subst h
      have := hl 0
      exact ⟨cs, T, by simpa using this.symm⟩
    · exact newsOf_get C0 r (k + 1) (fun j => by have := hl (j + 1); rw [List.getElem?_cons_succ] at this; rw [this]; congr 1; omega) i h
theorem finP_fins {Q : Act → World → Prop} {base N : Nat} {W : World} {D : List Nat} : ∀ (os : List Oper) (C : List Kn) (k : Nat) (accN : List Nat) (L : Env), (∀ i, k ≤ i → (D.contains i = true ↔ i ∈ newsOf C k)) →
    fins base (fun L W => Q (actOf ds N L) W) os C accN L W → finP Q D os (C.map (Kn.fact base)) k (accN.map fun g => .pointer (some ⟨g, 0, none⟩)) (actOf ds N L) W
  | [], C, _, _, L, _, h => by cases C <;> exact h
  | _ :: _, [], _, _, L, _, h => h
  | o :: os, .is c :: C, k, accN, L, hD, h => by
    intro v hv _
    obtain rfl : v = c := hv
    have hk : ¬ D.contains k = true := fun hh => by
      have := newsOf_ge C (k + 1) k ((hD k (Nat.le_refl _)).1 hh)
      omega
    rw [if_neg hk, put_up]
    exact finP_fins os C (k + 1) accN _ (fun i hi => hD i (by omega)) h
  | o :: os, .new cs T :: C, k, accN, L, hD, h => by
    intro v hv hne
    obtain ⟨g, rfl, h1, h2⟩ := hv
    have hk : D.contains k = true := (hD k (Nat.le_refl _)).2 List.mem_cons_self
    rw [if_pos hk, put_up]
    have := finP_fins os C (k + 1) (accN ++ [g]) _ (fun i hi => ⟨fun hh => by
      rcases List.mem_cons.1 ((hD i (by omega)).1 hh) with e | e
      · omega
      · exact e, fun hh => (hD i (by omega)).2 (List.mem_cons_of_mem _ hh)⟩) (h g h1 h2 fun u hu e => hne hk _ (List.mem_map.2 ⟨u, hu, rfl⟩) (by rw [e]))
    rw [List.map_append] at this
    exact this
theorem any_regionD {P : Program} {id : Nat} {Q : Exit → Act → World → Prop} {N : Nat} {L : Env} {w : World} {l : List Oper} (n : Nat) (S : List Src) (D : List Nat) (hD : allocsOk l D = true) (hm : P.follows .mixedOrders = true) (hok : ok l n N S = true)
    (h : ∀ F : List Kn → Prop, (∀ C, newsOf C 0 = D → (∀ W, Ext w W → fins w.heap.size (fun L W => WL P l.toArray Q (l.drop n) (actOf ds N L) W) (l.take n) C [] L W) → F C) → steps P w.drew w.heap.size N L F (l.take n) S []) :
    (Code.region id l.toArray true).wp P Q (actOf ds N L) w := by
  refine wp_region_relyD Ext n N S D hD hm hok (size_actOf N L) Ext.refl Ext.trans fun F r0 hr hF => ?_
  rw [slots_actOf] at hr
  subst hr
  have := h (fun C => newsOf C 0 = D ∧ ∀ W, Ext w W → fins w.heap.size (fun L W => WL P l.toArray Q (l.drop n) (actOf ds N L) W) (l.take n) C [] L W) (fun C h1 h2 => ⟨h1, h2⟩)
  refine steps_relies (F := fun C => newsOf C 0 = D ∧ ∀ W, Ext w W → fins w.heap.size (fun L W => WL P l.toArray Q (l.drop n) (actOf ds N L) W) (l.take n) C [] L W) (G := F) (fun C h => hF.out ?_ fun W hR => ?_) _ _ [] this
  · intro j hj u W hu
    obtain ⟨cs, T, hc⟩ := newsOf_get C C 0 (fun j => by rw [Nat.zero_add]) j (by rw [h.1]; exact hj)
    have : (List.map (Kn.fact w.heap.size) C).getD j (fun _ _ => True) = Kn.fact w.heap.size (.new cs T) := by simp [hc]
    rw [this] at hu
    obtain ⟨g, h1, h2, h3⟩ := hu
    exact ⟨g, h1, row_lt h3⟩
  · exact finP_fins (Q := fun a W => wpList P l.toArray Q (l.drop n) a W) _ _ 0 [] L (fun i _ => by rw [h.1]; simp) (fins_mono _ _ _ _ _ _ (fun L W hh => hh.out) (h.2 W (Rely.Ext.trans (ext_drew w) hR)))
end Go.Proofs.Ytaojnmjmmfdfjaa.Auto
