/- A walk by program, further: rows of parts, conditions, ends of calls. -/
import Derived.Test.YtaojnmjmmfdfjaaAuto
import Derived.Laws.ResultCell
namespace Go.Proofs.Ytaojnmjmmfdfjaa.Auto
open Go Go.RowKit
open Go.Proofs.Ytaojnmjmmfdfjaa.Rely
set_option linter.unusedVariables false
variable {ds : List Deferred}

/-! ### Rows of parts -/
def cat : List (Array Value) → Array Value
  | [] => #[]
  | [a] => a
  | a :: b :: r => a ++ cat (b :: r)
theorem cat_cons (a : Array Value) (r : List (Array Value)) : cat (a :: r) = a ++ cat r := by
  cases r with
  | nil => simp [cat]
  | cons b r => rfl
theorem cat_append : ∀ l r : List (Array Value), cat (l ++ r) = cat l ++ cat r
  | [], r => by simp [cat]
  | a :: l, r => by rw [List.cons_append, cat_cons, cat_cons, cat_append l r, Array.append_assoc]
theorem cat_part (pre mid post : List (Array Value)) (off : Nat) (h : (cat pre).size = off) : ∀ j v, (cat mid)[j]? = some v → (cat (pre ++ (mid ++ post)))[off + j]? = some v := fun j v hv => by
  subst h
  have hj : j < (cat mid).size := (Array.getElem?_eq_some_iff.1 hv).1
  rw [cat_append, cat_append, Array.getElem?_append_right (by omega), Nat.add_sub_cancel_left, Array.getElem?_append_left hj]
  exact hv
theorem cat_splice (pre mid new post : List (Array Value)) (off : Nat) (h : (cat pre).size = off) (hs : (cat new).size = (cat mid).size) : splice (cat (pre ++ (mid ++ post))) off (cat new).toList = cat (pre ++ (new ++ post)) := by
  subst h
  apply Array.ext_getElem?
  intro j
  rw [splice_get _ _ _ (by simp [cat_append]; omega)]
  simp only [cat_append, Array.length_toList]
  by_cases h1 : (cat pre).size ≤ j
  · by_cases h2 : j < (cat pre).size + (cat new).size
    · rw [if_pos ⟨h1, h2⟩, Array.getElem?_append_right h1, Array.getElem?_append_left (by omega)]
      simp
    · rw [if_neg (by omega), Array.getElem?_append_right h1, Array.getElem?_append_right h1, Array.getElem?_append_right (by omega), Array.getElem?_append_right (by omega), hs]
  · rw [if_neg (by omega), Array.getElem?_append_left (by omega), Array.getElem?_append_left (by omega)]
theorem cat_one : ∀ l : List (Array Value), (∀ a ∈ l, a.all (·.oneCell') = true) → (cat l).all (·.oneCell') = true
  | [], _ => by simp [cat]
  | a :: r, h => by
    rw [cat_cons, Array.all_append, h a List.mem_cons_self, cat_one r fun b hb => h b (List.mem_cons_of_mem _ hb)]
    rfl

/-! ### Building a struct or an array of parts -/
def okPl (pl : Nat → Option (Nat × Nat)) : Nat → List (Nat × Nat × Value × Array Value) → Prop
  | _, [] => True
  | off, (i, n, v, p) :: r => pl i = some (off, n) ∧ v.cells = p ∧ p.size = n ∧ okPl pl (off + n) r
def tot : List (Nat × Nat × Value × Array Value) → Nat
  | [] => 0
  | (_, n, _, _) :: r => n + tot r
theorem foldl_splice : ∀ (l : List Value) (k off : Nat) (cs : Array Value), (l.zipIdx k).foldl (fun cs (x : Value × Nat) => cs.setIfInBounds (off + x.2) x.1) cs = splice cs (off + k) l
  | [], _, _, _ => rfl
  | v :: r, k, off, cs => by
    rw [List.zipIdx_cons, List.foldl_cons, foldl_splice r (k + 1) off, splice]
    rfl
theorem fill_cat (pl : Nat → Option (Nat × Nat)) : ∀ (ps : List (Nat × Nat × Value × Array Value)) (pre : List (Array Value)) (rest : Array Value) (off : Nat), (cat pre).size = off → okPl pl off ps → tot ps = rest.size →
    Instr.fill pl (cat pre ++ rest) (ps.map fun x => (x.1, x.2.2.1)) = some (cat (pre ++ ps.map fun x => x.2.2.2))
  | [], pre, rest, off, _, _, ht => by
    have : rest = #[] := Array.eq_empty_of_size_eq_zero ht.symm
    subst this
    simp [Instr.fill]
  | (i, n, v, p) :: r, pre, rest, off, hoff, ⟨h1, h2, h3, h4⟩, ht => by
    subst h2
    have hn : n ≤ rest.size := by rw [← ht, tot]; omega
    simp only [List.map_cons, Instr.fill, h1, h3]
    rw [if_neg (by simp; omega)]
    have hz : (v.cells.zipIdx.foldl (fun cs (x : Value × Nat) => cs.setIfInBounds (off + x.2) x.1) (cat pre ++ rest)) = cat (pre ++ [v.cells]) ++ rest.extract n rest.size := by
      have e1 : v.cells.zipIdx = (v.cells.toList.zipIdx 0).toArray := by
        apply Array.ext'
        simp
      rw [e1, List.foldl_toArray', foldl_splice]
      · have e2 : rest = rest.extract 0 n ++ rest.extract n rest.size := by
          rw [Array.extract_append_extract, Nat.max_eq_right hn]
          simp
        have e3 : (cat pre ++ rest) = cat (pre ++ ([rest.extract 0 n] ++ [rest.extract n rest.size])) := by
          rw [cat_append]
          congr 1
        rw [Nat.add_zero, e3]
        have := cat_splice pre [rest.extract 0 n] [v.cells] [rest.extract n rest.size] off hoff (by show v.cells.size = (rest.extract 0 n).size; simp; omega)
        rw [show (cat [v.cells]).toList = v.cells.toList from rfl] at this
        rw [this, ← List.append_assoc, cat_append (pre ++ [v.cells])]
        rfl
      · rfl
    have key := fill_cat pl r (pre ++ [v.cells]) (rest.extract n rest.size) (off + n) (by rw [cat_append]; show (cat pre ++ v.cells).size = _; simp; omega) h4 (by simp; rw [← ht, tot]; omega)
    rw [← hz] at key
    rw [List.append_assoc] at key
    exact key
def planOf (P : Program) (t : TypeId) : Option (Array Value × (Nat → Option (Nat × Nat))) :=
  match (zeroValue t).run P default, P.underlying t with
  | .ok z _, some (.struct fields) => match (fields.mapM fun f => do pure (f.offset, ← sizeOf f.type) : Sem _).run P default with
    | .ok places _ => some (z.cells, (places[·]?))
    | _ => none
  | .ok z _, some (.array _ elem) => match (sizeOf elem).run P default with
    | .ok size _ => some (z.cells, fun i => some (i * size, size))
    | _ => none
  | _, _ => none
theorem run_buildC {P : Program} {ρ : Operand → Value} {o : Oper} {w : World} (t : TypeId) (parts : Array (Nat × Operand)) (z : Value) (places : Array (Nat × Nat)) (ps : List (Nat × Nat × Value × Array Value))
    (ho : o.op = .build t parts) (hv : (parts.map fun (i, x) => (i, ρ x)).toList = ps.map fun x => (x.1, x.2.2.1)) (hp : okPl (fun i => places[i]?) 0 ps) (ht : tot ps = z.cells.size)
    (hz : (zeroValue t).run P w = .ok z w) (hu : P.underlying t = some (.struct (P.fieldsOf t))) (hm : ((P.fieldsOf t).mapM fun f => do pure (f.offset, ← sizeOf f.type) : Sem (Array (Nat × Nat))).run P w = .ok places w) :
    (execOp ρ o).run P w = .ok (.value (.agg (cat (ps.map fun x => x.2.2.2)))) w := by
  have := fill_cat (fun i => places[i]?) ps [] z.cells 0 rfl hp ht
  rw [show cat [] ++ z.cells = z.cells by simp [cat], List.nil_append] at this
  rw [← hv] at this
  have hB : (Instr.build t (parts.map fun (i, x) => (i, ρ x))).run P w = .ok (.agg (cat (ps.map fun x => x.2.2.2))) w := by
    unfold Instr.build
    rw [Sem.run_bind, hz, Result.andThen_ok, Sem.run_bind, run_underlying hu w, Result.andThen_ok]
    show (Sem.run P _ w) = _
    rw [Sem.run_bind, hm, Result.andThen_ok]
    simp only [this]
    rfl
  unfold execOp
  simp only [ho, Sem.run_bind, hB, Result.andThen_ok, Sem.run_pure]

/-! ### Conditions -/
section
variable {P : Program} {Q : Exit → Act → World → Prop} {w : World} {N : Nat} {L : Env}
theorem cond_true {c : Operand} {x y : Code} (hc : Rely.look (envN N L) c = .bool true) (h : x.wp P Q (actOf ds N L) w) : (Code.cond c x y).wp P Q (actOf ds N L) w := wp_cond_true (by rw [eval_actOf]; exact hc) h
theorem cond_false {c : Operand} {x y : Code} (hc : Rely.look (envN N L) c = .bool false) (h : y.wp P Q (actOf ds N L) w) : (Code.cond c x y).wp P Q (actOf ds N L) w := wp_cond_false (by rw [eval_actOf]; exact hc) h
theorem cond_split {c : Operand} {x y : Code} {t : Bool} (hc : Rely.look (envN N L) c = .bool t) (ht : t = true → x.wp P Q (actOf ds N L) w) (hf : t = false → y.wp P Q (actOf ds N L) w) : (Code.cond c x y).wp P Q (actOf ds N L) w := wp_cond_split (by rw [eval_actOf]; exact hc) ht hf
end

/-! ### Ends -/
/-- what a result slot hands back -/
def ResIs (P : Program) (w : World) (N : Nat) (L : Env) : ResultVar → Value → Prop
  | .tmp t, v => envN N L t = v
  | .cell a t, v => ∃ A, envN N L a = .pointer (some A) ∧ (loadVar t A).run P w = .ok v w
theorem res_tmp {P : Program} {w : World} {N : Nat} {L : Env} {t : Tmp} {v : Value} (h : envN N L t = v) : ResIs P w N L (.tmp t) v := h
theorem res_cell {P : Program} {w : World} {N : Nat} {L : Env} {a : Tmp} {ty : TypeId} (g : Nat) (t : TypeId) (cs : Array Value) (hg : w.heap[g]? = some (.cells cs t)) (ha : envN N L a = .pointer (some ⟨g, 0, none⟩)) (hu : aggD P ty = some true) (hi : (P.info? ty).map (·.size) = some cs.size) :
    ResIs P w N L (.cell a ty) (.agg cs) := by
  refine ⟨_, ha, ?_⟩
  unfold aggD at hu
  cases hd : P.underlying ty with
  | none => rw [hd] at hu; cases hu
  | some d =>
    rw [hd] at hu
    have hdd : aggB d = true := Option.some.inj hu
    exact run_loadVar_row w g t ty cs (0, 0) d hg hd (by cases d <;> first | rfl | cases hdd) hi
theorem res_cell1 {P : Program} {w : World} {N : Nat} {L : Env} {a : Tmp} {ty : TypeId} (g : Nat) (t : TypeId) (cs : Array Value) (v : Value) (hg : w.heap[g]? = some (.cells cs t)) (ha : envN N L a = .pointer (some ⟨g, 0, none⟩)) (hu : aggD P ty = some false) (hp : cs[0]? = some v) :
    ResIs P w N L (.cell a ty) v := by
  refine ⟨_, ha, ?_⟩
  unfold aggD at hu
  cases hd : P.underlying ty with
  | none => rw [hd] at hu; cases hu
  | some d =>
    rw [hd] at hu
    have hdd : aggB d = false := Option.some.inj hu
    have hc : w.cell? ⟨g, 0, none⟩ = some v := (cell_of_row w g 0 cs t _ hg).trans hp
    have hagg : (isAgg ty).run P w = .ok false w := by
      unfold isAgg
      rw [Sem.run_bind, run_underlying hd w]
      cases d <;> first | rfl | cases hdd
    simp [loadVar, Sem.run_bind, hagg, hc]
theorem getD_actOf (ds : List Deferred) (N : Nat) (L : Env) (t : Nat) : (actOf ds N L).tmps.getD t undef = envN N L t := by rw [← slots_actOf]; rfl
def resOne (tmps : Array Value) : ResultVar → Sem Value := fun
    | .tmp t => pure (tmps.getD t undef)
    | .cell a t => do loadVar t (← asAddr (tmps.getD a undef))
theorem run_resOne {P : Program} {w : World} {N : Nat} {L : Env} {r : ResultVar} {v : Value} (h : ResIs P w N L r v) : (resOne (actOf ds N L).tmps r).run P w = .ok v w := by
  cases r with
  | tmp t =>
    have h' : envN N L t = v := h
    show (pure ((actOf ds N L).tmps.getD t undef) : Sem Value).run P w = _
    rw [getD_actOf ds, h']
    rfl
  | cell a t =>
    obtain ⟨A, h1, h2⟩ := h
    show (do loadVar t (← asAddr ((actOf ds N L).tmps.getD a undef)) : Sem Value).run P w = _
    rw [getD_actOf ds, h1]
    simp [asAddr, h2]
theorem results_eq (fn : Func) (tmps : Array Value) : results fn tmps = (do let vs ← fn.results.mapM (resOne tmps); pure (if h : vs.size = 1 then vs[0] else .tuple vs)) := rfl
section
variable {P : Program} {fn : Func} {R : Ending → World → Prop} {N : Nat} {L : Env} {w : World}
theorem run_results1 {r : ResultVar} {v : Value} (hr : fn.results = #[r]) (h : ResIs P w N L r v) : (results fn (actOf ds N L).tmps).run P w = .ok v w := by
  rw [results_eq, hr]
  simp [run_resOne h]
theorem run_results2 {r s : ResultVar} {u v : Value} (hr : fn.results = #[r, s]) (h : ResIs P w N L r u) (k : ResIs P w N L s v) : (results fn (actOf ds N L).tmps).run P w = .ok (.tuple #[u, v]) w := by
  rw [results_eq, hr]
  simp [run_resOne h, run_resOne k, Sem.run_bind]
theorem run_results0 (hr : fn.results = #[]) : (results fn (actOf ds N L).tmps).run P w = .ok (.tuple #[]) w := by
  rw [results_eq, hr]
  simp
theorem ret1 {r : ResultVar} (v : Value) (hr : fn.results = #[r]) (h : ResIs P w N L r v) (k : R (.returned v) w) : bodyPost P fn R .ret (actOf [] N L) w := bodyPost_ret (run_results1 hr h) rfl k
theorem ret2 {r s : ResultVar} (u v : Value) (hr : fn.results = #[r, s]) (h : ResIs P w N L r u) (h2 : ResIs P w N L s v) (k : R (.returned (.tuple #[u, v])) w) : bodyPost P fn R .ret (actOf [] N L) w := bodyPost_ret (run_results2 hr h h2) rfl k
theorem end0 (hr : fn.results = #[]) (k : R (.returned (.tuple #[])) w) : bodyPost P fn R .normal (actOf [] N L) w := bodyPost_end (run_results0 hr) rfl k
theorem ret0 (hr : fn.results = #[]) (k : R (.returned (.tuple #[])) w) : bodyPost P fn R .ret (actOf [] N L) w := bodyPost_ret (run_results0 hr) rfl k
end
theorem steps_nil {P : Program} {w0 : World} {base N : Nat} {L : Env} {F : List Kn → Prop} {ss : List Src} {C : List Kn} (h : F C) : steps P w0 base N L F [] ss C := by cases ss <;> exact h
theorem isz {P : Program} {ty : TypeId} {cs : Array Value} {n : Nat} (h : (P.info? ty).map (·.size) = some n) (hs : cs.size = n) : (P.info? ty).map (·.size) = some cs.size := by rw [h, hs]
theorem eqsz {a b : Array Value} {n : Nat} (ha : a.size = n) (hb : b.size = n) : a.size = b.size := ha.trans hb.symm
theorem run_store_cat {P : Program} {ρ : Operand → Value} {o : Oper} {w : World} (ty : TypeId) (x y : Operand) (g off : Nat) (t : TypeId) (pre mid new post : List (Array Value)) (hg : w.heap[g]? = some (.cells (cat (pre ++ (mid ++ post))) t))
    (ho : o.op = .store ty x y) (hx : ρ x = .pointer (some ⟨g, off, none⟩)) (hy : ρ y = .agg (cat new)) (hi : (P.info? ty).map (·.size) = some (cat new).size) (hp : (cat pre).size = off) (hs : (cat new).size = (cat mid).size) (h1 : (cat new).all (·.oneCell') = true) :
    (execOp ρ o).run P w = .ok .skip (w.setRow g (cat (pre ++ (new ++ post)))) := by
  rw [← cat_splice pre mid new post off hp hs]
  refine run_store_part ty x y g off t _ _ hg ho hx hy hi ?_ h1
  simp only [cat_append, Array.size_append, Nat.ble_eq]
  omega
end Go.Proofs.Ytaojnmjmmfdfjaa.Auto
