/- A walk by program: numbers, indexes, loops. -/
import Derived.Test.YtaojnmjmmfdfjaaAutoR
import Derived.IntWalk
namespace Go.Proofs.Ytaojnmjmmfdfjaa.Auto
open Go Go.RowKit
open Go.Proofs.Ytaojnmjmmfdfjaa.Rely
set_option linter.unusedVariables false
variable {ds : List Deferred}

theorem run_eq {P : Program} {ρ : Operand → Value} {o : Oper} {w : World} {u v : Value} (h : (execOp ρ o).run P w = .ok (.value u) w) (e : u = v) : (execOp ρ o).run P w = .ok (.value v) w := by rw [h, e]
theorem run_bin {P : Program} {ρ : Operand → Value} {o : Oper} {w : World} (op : BinOp) (t ty : TypeId) (x y : Operand) (k k' : IntKind) (a b : Int) (v : Value) (ho : o.op = .binOp op t x y ty) (hx : ρ x = .int k a) (hy : ρ y = .int k' b)
    (h : (binOp op t (.int k a) (.int k' b)).run P w = .ok v w) : (execOp ρ o).run P w = .ok (.value v) w := by
  unfold execOp
  simp only [ho, hx, hy, Sem.run_bind]
  have hg : (eqGuard op t x y (.int k a) (.int k' b)).run P w = .ok () w := by
    unfold eqGuard
    cases op <;> rfl
  simp [hg, h]
theorem b_shr {P : Program} {w : World} (t : TypeId) (k k' : IntKind) (a b r : Int) (hb : 0 ≤ b) (h : a.fdiv (2 ^ min b.toNat k.bits) = r) : (binOp .shr t (.int k a) (.int k' b)).run P w = .ok (.int k r) w := by
  subst h
  unfold binOp Op.shift
  simp [show ¬ b < 0 by omega]
theorem b_shl {P : Program} {w : World} (t : TypeId) (k k' : IntKind) (a b r : Int) (hb : 0 ≤ b) (h : k.wrap (a * 2 ^ min b.toNat k.bits) = r) : (binOp .shl t (.int k a) (.int k' b)).run P w = .ok (.int k r) w := by
  subst h
  unfold binOp Op.shift
  simp [show ¬ b < 0 by omega]
theorem b_quo {P : Program} {w : World} (t : TypeId) (k : IntKind) (a b r : Int) (hb : b ≠ 0) (h : k.wrap (a.tdiv b) = r) : (binOp .quo t (.int k a) (.int k b)).run P w = .ok (.int k r) w := by
  subst h
  unfold binOp Op.intDiv
  simp [hb]
theorem b_rem {P : Program} {w : World} (t : TypeId) (k : IntKind) (a b r : Int) (hb : b ≠ 0) (h : a.tmod b = r) : (binOp .rem t (.int k a) (.int k b)).run P w = .ok (.int k r) w := by
  subst h
  unfold binOp Op.intDiv
  simp [hb]
theorem run_eql_agg {P : Program} {ρ : Operand → Value} {o : Oper} {w : World} (ty tr : TypeId) (x y : Operand) (u v : Array Value) (r : Value) (ho : o.op = .binOp .eql ty x y tr) (hx : ρ x = .agg u) (hy : ρ y = .agg v)
    (hm : P.eqGuardType P.depth ty = false) (h : (binOp .eql ty (.agg u) (.agg v)).run P w = .ok r w) : (execOp ρ o).run P w = .ok (.value r) w := by
  unfold execOp
  simp only [ho, hx, hy, Sem.run_bind, Sem.run_pure, run_eqGuard_agg (hm := hm), Result.andThen_ok, h]
theorem run_neq_agg {P : Program} {ρ : Operand → Value} {o : Oper} {w : World} (ty tr : TypeId) (x y : Operand) (u v : Array Value) (r : Value) (ho : o.op = .binOp .neq ty x y tr) (hx : ρ x = .agg u) (hy : ρ y = .agg v)
    (hm : P.eqGuardType P.depth ty = false) (h : (binOp .neq ty (.agg u) (.agg v)).run P w = .ok r w) : (execOp ρ o).run P w = .ok (.value r) w := by
  unfold execOp
  simp only [ho, hx, hy, Sem.run_bind, Sem.run_pure, run_eqGuard_agg (hm := hm), Result.andThen_ok, h]
/-! ### Numbers in their ranges -/
theorem i64_nat (n : Nat) (h : n < 9223372036854775808) : IntKind.i64.wrap (n : Int) = (n : Int) := IntWalk.i64_in _ (by omega)
theorem i64_quo (n d : Nat) (h : n < 9223372036854775808) : IntKind.i64.wrap (Int.tdiv (n : Int) (d : Int)) = ((n / d : Nat) : Int) := by
  rw [← Int.ofNat_tdiv]
  exact i64_nat _ (Nat.lt_of_le_of_lt (Nat.div_le_self _ _) h)
theorem nat_rem (n d : Nat) : Int.tmod (n : Int) (d : Int) = ((n % d : Nat) : Int) := (Int.ofNat_tmod n d).symm
theorem i64_sub1 (n : Nat) (h : n < 9223372036854775808) : IntKind.i64.wrap ((n : Int) - 1) = (n : Int) - 1 := IntWalk.i64_in _ (by omega)
theorem i64_add1 (n : Nat) (h : n < 9223372036854775807) : IntKind.i64.wrap ((n : Int) + 1) = ((n + 1 : Nat) : Int) := by
  rw [show ((n : Int) + 1) = ((n + 1 : Nat) : Int) by omega]
  exact i64_nat _ (by omega)
/-! ### Places in an array behind a pointer -/
theorem run_indexAddr {P : Program} {ρ : Operand → Value} {o : Oper} {w : World} (t : TypeId) (x y : Operand) (k : IntKind) (n g off len : Nat) (e : TypeId) (sz : Nat) (ho : o.op = .indexAddr t x y) (hx : ρ x = .pointer (some ⟨g, off, none⟩)) (hy : ρ y = .int k n)
    (hu : P.underlying t = some (.array len e)) (hs : (P.info? e).map (·.size) = some sz) (hn : n < len) : (execOp ρ o).run P w = .ok (.value (.pointer (some ⟨g, off + n * sz, none⟩))) w := by
  have hadd : (⟨g, off, none⟩ : Addr).add (n * sz) = ⟨g, off + n * sz, none⟩ := by unfold Addr.add; split <;> simp_all
  have hsz : (sizeOf e).run P w = .ok sz w := by
    cases hq : P.info? e with
    | none => simp [hq] at hs
    | some i =>
      have : i.size = sz := by simpa [hq] using hs
      simp [sizeOf, typeInfo, hq, this]
  unfold execOp
  simp only [ho, hx, hy, Instr.indexAt, Instr.sureAddr, asIntOf, Sem.run_bind, run_underlying hu w, Result.andThen_ok, Sem.run_pure]
  rw [if_pos ⟨by omega, by omega⟩]
  simp [hsz, hadd]
theorem run_index0 {P : Program} {ρ : Operand → Value} {o : Oper} {w : World} (t : TypeId) (x y : Operand) (k : IntKind) (n g len : Nat) (e : TypeId) (ho : o.op = .indexAddr t x y) (hx : ρ x = .pointer (some ⟨g, 0, none⟩)) (hy : ρ y = .int k n)
    (hu : P.underlying t = some (.array len e)) (hs : (P.info? e).map (·.size) = some 1) (hn : n < len) : (execOp ρ o).run P w = .ok (.value (.pointer (some ⟨g, n, none⟩))) w := by
  have := run_indexAddr (w := w) t x y k n g 0 len e 1 ho hx hy hu hs hn
  rw [Nat.zero_add, Nat.mul_one] at this
  exact this

theorem run_storeI {P : Program} {ρ : Operand → Value} {o : Oper} {w : World} {k : IntKind} (ty : TypeId) (x y : Operand) (g off : Nat) (t : TypeId) (xs : List Int) (v : Int) (hg : w.heap[g]? = some (.cells (ints k xs) t))
    (ho : o.op = .store ty x y) (hx : ρ x = .pointer (some ⟨g, off, none⟩)) (hy : ρ y = .int k v) (hi : (P.info? ty).map (·.size) = some 1) (hs : off < xs.length) :
    (execOp ρ o).run P w = .ok .skip (w.setRow g (ints k (xs.set off v))) := by
  rw [← ints_set]
  exact run_storeC1 ty x y g off t _ _ hg ho hx hy hi (by rw [ints_size]; simpa using hs) rfl rfl

/-! ### Loops -/
def Agree (L : Env) : Env → Prop
  | [] => True
  | (t, v) :: r => get L t = v ∧ Agree L r
theorem get_agree {L : Env} : ∀ (M : Env), Agree L M → ∀ t, get (M ++ L) t = get L t
  | [], _, _ => rfl
  | (k, v) :: r, ⟨h1, h2⟩, t => by
    show (bif Nat.beq k t then v else get (r ++ L) t) = _
    cases hb : Nat.beq k t with
    | true => rw [_root_.cond_true, ← h1, Nat.eq_of_beq_eq_true hb]
    | false => rw [_root_.cond_false, get_agree r h2 t]
theorem act_agree {N : Nat} {L M : Env} (h : Agree L M) : actOf ds N (M ++ L) = actOf ds N L := by
  unfold actOf
  congr 2
  funext t
  exact get_agree M h t.1
theorem wp_loop_ghost {P : Program} {c : Code} {Q : Exit → Act → World → Prop} (I : Nat → Act → World → Prop)
    (round : ∀ n a w, I n a w → c.wp P (Exit.then (fun a' w' => ∃ m, m < n ∧ I m a' w') Q) a w) (n : Nat) (a : Act) (w : World) (h₀ : I n a w) : (Code.loop c).wp P Q a w := by
  intro b k cs
  have key : ∀ n a w, I n a w → ∃ e a' w', Q e a' w' ∧ Arrives P (lone (b.at a (.code c :: .inLoop c :: k)) cs w) b k cs e a' w' := by
    intro n
    induction n using Nat.strongRecOn with
    | _ n ih =>
      intro a w hI
      obtain ⟨e, a₁, w₁, hq, harr⟩ := round n a w hI b (.inLoop c :: k) cs
      cases e with
      | normal =>
        obtain ⟨m, hlt, hI₁⟩ := hq
        obtain ⟨e₂, a₂, w₂, hq₂, harr₂⟩ := ih m hlt a₁ w₁ hI₁
        exact ⟨e₂, a₂, w₂, hq₂, .of_steps (Steps.trans harr (.one step_inLoop)) harr₂⟩
      | exit id => exact ⟨_, a₁, w₁, hq, .pass (x := .inLoop c) rfl (fun _ _ => .inl (by simp)) harr⟩
      | goto l => exact ⟨_, a₁, w₁, hq, .pass (x := .inLoop c) rfl (fun _ _ => .inl (by simp)) harr⟩
      | ret => exact ⟨_, a₁, w₁, hq, .pass (x := .inLoop c) rfl (fun _ _ => .inl (by simp)) harr⟩
      | panic ch => exact ⟨_, a₁, w₁, hq, .pass (x := .inLoop c) rfl (fun _ _ => .inl (by simp)) harr⟩
      | outgrown => exact ⟨_, a₁, w₁, hq, .pass (x := .inLoop c) rfl (fun _ _ => .inl (by simp)) harr⟩
  obtain ⟨e, a', w', hq, harr⟩ := key n a w h₀
  exact ⟨e, a', w', hq, .of_steps (.one step_loop) harr⟩
/-- what a round of a loop must come to -/
def Goes {α : Type} (ds : List Deferred) (N : Nat) (live : α → Env) (I : α → World → Prop) (μ : α → Nat) (s : α) (a' : Act) (W' : World) : Prop := ∃ (s' : α) (X' : Env), a' = actOf ds N (live s' ++ X') ∧ I s' W' ∧ μ s' < μ s
theorem loop_auto {α : Type} {P : Program} {body : Code} {Q : Exit → Act → World → Prop} {N : Nat} {L : Env} {w : World} (live : α → Env) (I : α → World → Prop) (μ : α → Nat) (s0 : α) (hL : Agree L (live s0)) (h0 : I s0 w)
    (round : ∀ (s : α) (X : Env) (W : World), I s W → body.wp P (Exit.then (Goes ds N live I μ s) Q) (actOf ds N (live s ++ X)) W) : (Code.loop body).wp P Q (actOf ds N L) w := by
  rw [← act_agree hL]
  refine wp_loop_ghost (fun n a W => ∃ (s : α) (X : Env), a = actOf ds N (live s ++ X) ∧ I s W ∧ μ s = n) ?_ (μ s0) _ _ ⟨s0, L, rfl, h0, rfl⟩
  rintro n a W ⟨s, X, rfl, hI, rfl⟩
  refine wp_mono (round s X W hI) fun e a' w' h => ?_
  cases e <;> try exact h
  obtain ⟨s', X', h1, h2, h3⟩ := h
  exact ⟨μ s', h3, s', X', h1, h2, rfl⟩
theorem next_round {α : Type} {N : Nat} {L : Env} {w : World} {live : α → Env} {I : α → World → Prop} {μ : α → Nat} {s : α} (s' : α) (hL : Agree L (live s')) (h : I s' w) (hm : μ s' < μ s) : Goes ds N live I μ s (actOf ds N L) w :=
  ⟨s', L, (act_agree hL).symm, h, hm⟩
theorem goes_then {α : Type} {N : Nat} {L : Env} {w : World} {live : α → Env} {I : α → World → Prop} {μ : α → Nat} {s : α} {Q : Exit → Act → World → Prop} (s' : α) (hL : Agree L (live s')) (h : I s' w) (hm : μ s' < μ s) : Exit.then (Goes ds N live I μ s) Q .normal (actOf ds N L) w :=
  next_round s' hL h hm
end Go.Proofs.Ytaojnmjmmfdfjaa.Auto
