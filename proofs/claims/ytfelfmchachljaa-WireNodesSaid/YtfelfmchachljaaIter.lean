/- A walk by program: the body of an iterator (its calls of yield), and what a round keeps. -/
import Derived.Test.YtfelfmchachljaaKit3
namespace Go.Proofs.Ytfelfmchachljaa.Auto
open Go Go.RowKit
open Go.Proofs.Ytfelfmchachljaa.Rely Go.Proofs.Ytfelfmchachljaa.Own
set_option linter.unusedVariables false
variable {ds : List Deferred}

theorem free_wide0 (nf : Nat) (P : Program) : Free Fence.wide nf P := ⟨fun _ => trivial, (fun h => by cases h), fun h => callsIn_wide.2 h⟩
section
variable {P : Program} {ops : Array Oper} {Q : Exit → Act → World → Prop} {rest : List Oper} {o : Oper} {N : Nat} {L : Env} {w : World}
theorem in_yield {m l : Nat} {args : Array Value} {A B : World → Prop} (d : Nat) (hd : o.dst = some d) (hnd : noDefer o = true) (hg : wantB ops o N L = some true)
    (h : (execOp (Rely.look (envN N L)) o).run P w = (Instr.yield l args).run P w)
    (hy : YieldAt Fence.wide (m - 1) P l args w fun e W' => (e = .returned (.bool true) ∧ A W') ∨ (e = .returned (.bool false) ∧ B W'))
    (kt : ∀ W', A W' → WLI Fence.wide m P ops Q rest (actOf ds N ((d, .bool true) :: L)) W') (kf : ∀ W', B W' → WLI Fence.wide m P ops Q rest (actOf ds N ((d, .bool false) :: L)) W') : WLI Fence.wide m P ops Q (o :: rest) (actOf ds N L) w :=
  in_op (free_wide0 m P) hnd hg fun K hK => by
    rw [h]
    obtain ⟨fn, tmps, assign, body, h1, h2⟩ := hy
    rw [h1, Oper.uponIn_round]
    refine ⟨(free_wide0 m P).dp, h2.mono ?_⟩
    rintro e W' (⟨rfl, a⟩ | ⟨rfl, b⟩)
    · show K _ _
      rw [hd, put_actOf]
      exact hK _ _ (kt _ a)
    · show K _ _
      rw [hd, put_actOf]
      exact hK _ _ (kf _ b)
end
theorem grown_ext {W W' : World} (e : Ext W W') : W.grownBy W' none := ⟨e.os, e.tape, e.output, e.size, fun k hk _ => e.block k hk⟩
theorem abides_ext {β : Type} {B : Nat} {J : β → World → Prop} (hJ : AbidesFrom B J) {s : β} {W W' : World} (h : J s W) (e : Ext W W') : J s W' := hJ s W W' none h (grown_ext e) (fun r q => by cases q)
/-- all cells stay, but those of some blocks -/
def KeepC (gs : List Nat) (A B : World) : Prop := A.heap.size ≤ B.heap.size ∧ ∀ k cs t fr, A.heap[k]? = some (.cells cs t fr) → k ∉ gs → B.heap[k]? = some (.cells cs t fr)
theorem KeepC.refl (gs : List Nat) (A : World) : KeepC gs A A := ⟨Nat.le_refl _, fun _ _ _ _ h _ => h⟩
theorem KeepC.trans {gs : List Nat} {A B C : World} (h : KeepC gs A B) (k : KeepC gs B C) : KeepC gs A C := ⟨Nat.le_trans h.1 k.1, fun i cs t fr q n => k.2 i cs t fr (h.2 i cs t fr q n) n⟩
theorem KeepC.ext {gs : List Nat} {A B : World} (e : Ext A B) : KeepC gs A B := ⟨e.size, fun k cs t fr q _ => (e.block k (row_lt q)).trans q⟩
theorem KeepC.keeps {gs : List Nat} {A B : World} (e : Keeps gs A B) : KeepC gs A B := ⟨e.size, fun k cs t fr q n => (e.block k (row_lt q) n).trans q⟩
theorem KeepC.book {gs : List Nat} {w : World} (W : World) (l : Nat) (o o' : Obj) (hl : w.heap.size ≤ l) (h : W.heap[l]? = some o) (hc : o.isCells = false) (_ : o.isWalk = false) : KeepC gs W (W.putObj l o') :=
  ⟨by simp, fun k cs t fr q _ => (World.putObj_heap_other (fun e => by subst e; rw [h] at q; cases q; cases hc)).trans q⟩
theorem KeepC.row {gs : List Nat} {A B : World} {k : Nat} {cs : Array Value} {t : TypeId} (h : KeepC gs A B) (r : A.heap[k]? = some (.cells cs t)) (n : k ∉ gs) : B.heap[k]? = some (.cells cs t) := h.2 k cs t _ r n
theorem KeepC.cell {gs : List Nat} {A B : World} {b off : Nat} {v : Value} (h : KeepC gs A B) (hc : A.cell? ⟨b, off, none⟩ = some v) (n : b ∉ gs) : B.cell? ⟨b, off, none⟩ = some v := by
  unfold World.cell? at hc ⊢
  cases hb : A.heap[b]? with
  | none => simp [hb] at hc
  | some ob =>
    cases ob with
    | cells cs t fr => rw [h.2 b cs t fr hb n]; rw [hb] at hc; exact hc
    | _ => simp [hb] at hc
def Grew (w W : World) : Prop := w.heap.size ≤ W.heap.size
theorem Grew.refl (w : World) : Grew w w := Nat.le_refl _
theorem Grew.size {w W : World} (h : Grew w W) : w.heap.size ≤ W.heap.size := h
theorem Grew.ext {w W W' : World} (h : Grew w W) (e : Ext W W') : Grew w W' := Nat.le_trans h e.size
theorem Grew.puts {w W W' : World} {g : Nat} (h : Grew w W) (p : Puts W g W') : Grew w W' := Nat.le_trans h (Nat.le_of_eq p.2.2.2.1.symm)
theorem Grew.keepC {w W W' : World} {gs : List Nat} (h : Grew w W) (p : KeepC gs W W') : Grew w W' := Nat.le_trans h p.1
theorem Grew.below {w W : World} {n : Nat} (h : Below n w W) : Grew w W := h.size
end Go.Proofs.Ytfelfmchachljaa.Auto
