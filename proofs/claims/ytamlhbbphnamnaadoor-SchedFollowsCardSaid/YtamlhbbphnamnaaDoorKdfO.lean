/- HMAC: long keys and short ones; appending. -/
import Derived.Test.YtamlhbbphnamnaaDoorKdfC
import Derived.Test.YtamlhbbphnamnaaDoorAppZ
namespace Go.Proofs.YtamlhbbphnamnaaDoor.Sha
open Go Go.RowKit
open Go.Proofs.YtamlhbbphnamnaaDoor.Rely Go.Proofs.YtamlhbbphnamnaaDoor.Auto Go.Proofs.YtamlhbbphnamnaaDoor.Own
set_option linter.unusedVariables false
set_option linter.unusedSimpArgs false

theorem bytes_app {a b : List Int} (ha : AreBytes a) (hb : AreBytes b) : AreBytes (a ++ b) := fun x hx => by
  rcases List.mem_append.1 hx with h | h
  · exact ha x h
  · exact hb x h
theorem hmac_congr {a b : List Int} (t : List Int) (h : keyB a = keyB b) : hmac a t = hmac b t := by unfold hmac padX; rw [h]
theorem hmac_long {key : List Int} (t : List Int) (h : 64 < key.length) : hmac key t = hmac (dig key) t := by
  refine hmac_congr t ?_
  have hd := dig_len key
  unfold keyB keyL
  rw [if_pos h, if_neg (by omega)]
theorem hmac_short {key : List Int} (t : List Int) (h : ¬ 64 < key.length) : hmac key t = hmac (key ++ List.replicate (64 - key.length) 0) t := by
  refine hmac_congr t ?_
  have hl : (key ++ List.replicate (64 - key.length) (0 : Int)).length = 64 := by simp; omega
  unfold keyB keyL
  rw [if_neg h, if_neg (by omega), hl, Nat.sub_self, List.replicate_zero, List.append_nil]
section
variable {ds : List Deferred} {P : Program} {ops : Array Oper} {Q : Exit → Act → World → Prop} {rest : List Oper} {o : Oper} {N : Nat} {L : Env} {W : World}
theorem seq_appendM {k : IntKind} {T : TypeId} (b : Nat) (s x : Operand) (t : TypeId) (ho : o.op = .call { callee := .builtin .append, args := #[s, x], argTypes := #[t, t] })
    (ht : P.underlying t = some (.slice T)) (hi : (P.info? T).map (fun i => (i.zero, i.size, i.bytes)) = some (some (.int k 0), 1, b)) (hb8 : b ≤ 8) (d : Nat) (hd : o.dst = some d) (hg : wantB ops o N L = some true) {B : Nat} {v y : Value} {xs ys : List Int} {V : World}
    (hs : Rely.look (envN N L) s = v) (hx : Rely.look (envN N L) x = y)
    (h : OwnN k T V.heap.size xs v W) (hy : RdK k B ys y W) (hn : xs.length + ys.length ≤ 1000000000) (hV : Ext V W)
    (kk : ∀ (u : Value) (W' : World), OwnN k T V.heap.size (xs ++ ys) u W' → Ext V W' → Below V.heap.size W W' → (v ≠ .slice none 0 0 → u ≠ .slice none 0 0) → WL P ops Q rest (actOf ds N ((d, u) :: L)) W') : WL P ops Q (o :: rest) (actOf ds N L) W := by
  obtain ⟨v', W', h1, h2, h3, h4⟩ := append_N (ρ := Rely.look (envN N L)) (o := o) (W := W) s x t ho ht hi hb8 hs hx h hy hn hV.size
  refine seq_valw _ _ d hd hg h1 (kk v' W' h2 (ext_own hV h h3) ⟨h3.os, h3.tape, h3.output, h3.size, fun i hi => h3.block i (Nat.lt_of_lt_of_le hi hV.size) (fun q => by have := h.ge q.symm; omega)⟩ fun hv hu => ?_)
  rcases h.1.2 with ⟨h0, _⟩ | ⟨g, c, cur, rfl, _⟩
  · exact hv h0
  · subst hu
    rcases h4 with h4 | h4 <;> cases h4
theorem seq_appendZ {k kn : IntKind} {T : TypeId} (b : Nat) (s x : Operand) (t tn : TypeId) (ho : o.op = .call { callee := .builtin .append, args := #[s, x], argTypes := #[t, tn] })
    (ht : P.underlying t = some (.slice T)) (htn : P.underlying tn = some (.int kn)) (hi : (P.info? T).map (fun i => (i.zero, i.size, i.bytes)) = some (some (.int k 0), 1, b)) (hb8 : b ≤ 8) (d : Nat) (hd : o.dst = some d) (hg : wantB ops o N L = some true) {v : Value} {xs : List Int} {V : World} {n : Nat}
    (hs : Rely.look (envN N L) s = v) (hx : Rely.look (envN N L) x = .int .i64 (n : Int)) (h : OwnN k T V.heap.size xs v W) (hn : xs.length + n ≤ 1000000000) (hV : Ext V W) (hnil : v ≠ .slice none 0 0)
    (kk : ∀ (u : Value) (W' : World), OwnN k T V.heap.size (xs ++ List.replicate n 0) u W' → Ext V W' → Below V.heap.size W W' → WL P ops Q rest (actOf ds N ((d, u) :: L)) W') : WL P ops Q (o :: rest) (actOf ds N L) W := by
  rcases h.1.2 with ⟨h0, _⟩ | ⟨g, c, cur, rfl, h2, h3, h4, h5, h6, h7⟩
  · exact absurd h0 hnil
  · obtain ⟨v', W', e1, e2, e3⟩ := append_Z (ρ := Rely.look (envN N L)) (o := o) (W := W) s x t tn ho ht htn hi hb8 hs hx h2 h3 (by omega) h4 h5 (by simpa using h7) hn hV.size
    exact seq_valw _ _ d hd hg e1 (kk v' W' e2 (ext_own hV h e3) ⟨e3.os, e3.tape, e3.output, e3.size, fun i hi => e3.block i (Nat.lt_of_lt_of_le hi hV.size) (fun q => by have := Option.some.inj q; omega)⟩)
end

end Go.Proofs.YtamlhbbphnamnaaDoor.Sha
