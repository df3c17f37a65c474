/- What a writer keeps. -/
import Derived.Test.YtfelfmchachljaaNumK
import Derived.Test.YtfelfmchachljaaAutoH
namespace Go.Proofs.Ytfelfmchachljaa.Wr
open Go Go.RowKit
open Go.Proofs.Ytfelfmchachljaa.Rely Go.Proofs.Ytfelfmchachljaa.Auto Go.Proofs.Ytfelfmchachljaa.Own Go.Proofs.Ytfelfmchachljaa.Sha
set_option linter.unusedVariables false
set_option linter.unusedSimpArgs false

theorem typW {W : World} {a b : Nat} {c d : Array Value} {s t : TypeId} (h : W.heap[a]? = some (.cells c s)) (k : W.heap[b]? = some (.cells d t)) (hn : s ≠ t) : a ≠ b := fun e => by
  subst e
  rw [h] at k
  simp only [Option.some.injEq, Obj.cells.injEq] at k
  exact hn k.2.1
theorem own_typ {k : IntKind} {T : TypeId} {base : Nat} {xs : List Int} {v : Value} {W : World} (h : OwnN k T base xs v W) {g : Nat} (hg : v.ownBlock = some g) : ∃ cur, W.heap[g]? = some (.cells cur T) := by
  rcases h.1.2 with ⟨rfl, _⟩ | ⟨g', c, cur, rfl, q2, q3, _⟩
  · cases hg
  · obtain rfl : g' = g := Option.some.inj hg
    exact ⟨cur, q3⟩
theorem nb_typ {k : IntKind} {T T' : TypeId} {base g : Nat} {xs : List Int} {v : Value} {W : World} {c : Array Value} (h : OwnN k T base xs v W) (r : W.heap[g]? = some (.cells c T')) (hn : T ≠ T') : v.ownBlock ≠ some g := fun e => by
  obtain ⟨cur, q⟩ := own_typ h e
  exact typW q r hn rfl
theorem ownN_but {k : IntKind} {T : TypeId} {b g : Nat} {xs : List Int} {v : Value} {W W' : World} (h : OwnN k T b xs v W) (q : ExtB g W W') (hn : v.ownBlock ≠ some g) : OwnN k T b xs v W' := h.keep fun k hk => q.2.2.2.2 k (h.lt hk) (fun e => hn (by rw [hk, e]))
theorem nb_old {k : IntKind} {T : TypeId} {base g : Nat} {xs : List Int} {v : Value} {W : World} (h : OwnN k T base xs v W) (hg : g < base) : v.ownBlock ≠ some g := fun e => by
  have := h.ge e
  omega
theorem bytes_app {a b : List Int} (ha : AreBytes a) (hb : AreBytes b) : AreBytes (a ++ b) := fun x hx => (List.mem_append.1 hx).elim (ha x) (hb x)
/-- nothing changes but the writer at gw, and bytes from base on -/
structure GW (base gw : Nat) (w W : World) : Prop where
  os : W.os = w.os
  tape : W.tape = w.tape
  output : W.output = w.output
  size : w.heap.size ≤ W.heap.size
  block : ∀ k, k < w.heap.size → k ≠ gw → (k < base ∨ ∀ cs fr, w.heap[k]? ≠ some (.cells cs 5 fr)) → W.heap[k]? = w.heap[k]?
theorem GW.refl (base gw : Nat) (w : World) : GW base gw w w := ⟨rfl, rfl, rfl, Nat.le_refl _, fun _ _ _ _ => rfl⟩
theorem GW.trans {base gw : Nat} {u w W : World} (h : GW base gw u w) (k : GW base gw w W) : GW base gw u W :=
  ⟨k.os.trans h.os, k.tape.trans h.tape, k.output.trans h.output, Nat.le_trans h.size k.size, fun i hi hn hc => by
    have e := h.block i hi hn hc
    refine (k.block i (Nat.lt_of_lt_of_le hi h.size) hn ?_).trans e
    rcases hc with hc | hc
    · exact .inl hc
    · exact .inr fun cs fr => by rw [e]; exact hc cs fr⟩
theorem GW.of_ext {base gw : Nat} {w W : World} (e : Ext w W) : GW base gw w W := ⟨e.os, e.tape, e.output, e.size, fun k hk _ _ => e.block k hk⟩
theorem GW.ext {base gw : Nat} {u w W : World} (h : GW base gw u w) (e : Ext w W) : GW base gw u W := h.trans (GW.of_ext e)
theorem GW.of_but {base gw : Nat} {w W : World} (e : ExtB gw w W) : GW base gw w W := ⟨e.1, e.2.1, e.2.2.1, e.2.2.2.1, fun k hk hn _ => e.2.2.2.2 k hk hn⟩
theorem GW.put {base gw g : Nat} {u w W : World} (h : GW base gw u w) (p : Puts w g W) (hg : u.heap.size ≤ g) : GW base gw u W :=
  ⟨p.1.trans h.os, p.2.1.trans h.tape, p.2.2.1.trans h.output, by have := h.size; have := p.2.2.2.1; omega, fun k hk hn hc => (p.2.2.2.2 k (by omega)).trans (h.block k hk hn hc)⟩
theorem GW.putg {base gw : Nat} {u w W : World} (h : GW base gw u w) (p : Puts w gw W) : GW base gw u W :=
  ⟨p.1.trans h.os, p.2.1.trans h.tape, p.2.2.1.trans h.output, by have := h.size; have := p.2.2.2.1; omega, fun k hk hn hc => (p.2.2.2.2 k hn).trans (h.block k hk hn hc)⟩
theorem GW.row {base gw g : Nat} {w W : World} {c : Array Value} {T : TypeId} (h : GW base gw w W) (r : w.heap[g]? = some (.cells c T)) (hT : T ≠ 5) (hn : g ≠ gw) : W.heap[g]? = some (.cells c T) :=
  (h.block g (row_lt r) hn (.inr fun cs fr e => by rw [r] at e; simp only [Option.some.injEq, Obj.cells.injEq] at e; exact hT e.2.1)).trans r
theorem GW.toExt {base gw : Nat} {w W : World} (h : GW base gw w W) (hb : w.heap.size ≤ base) (hg : w.heap.size ≤ gw) : Ext w W := ⟨h.os, h.tape, h.output, h.size, fun k hk => h.block k hk (by omega) (.inl (by omega))⟩
theorem rd_gw {base gw : Nat} {w W : World} {ys : List Int} {v : Value} (h : RdK .u8 base ys v w) (q : GW base gw w W) (hb : base ≤ gw) : RdK .u8 base ys v W := h.keep q.size fun g hg hl => q.block g hl (by omega) (.inl hg)
/-- a writer: what it has written, or that it is bad -/
def WSt (base gw : Nat) (s : Option (List Int)) (W : World) : Prop := ∃ (u : Value) (xs : List Int) (bad : Bool), W.heap[gw]? = some (.cells #[u, .bool bad] 174) ∧ OwnN .u8 5 base xs u W ∧ xs.length ≤ 65536 ∧ AreBytes xs ∧ s = bif bad then none else some xs
theorem WSt.lt {base gw : Nat} {s : Option (List Int)} {W : World} (h : WSt base gw s W) : gw < W.heap.size := by
  obtain ⟨u, xs, bad, h1, -⟩ := h
  exact row_lt h1
theorem WSt.ext {base gw : Nat} {s : Option (List Int)} {w W : World} (h : WSt base gw s w) (e : Ext w W) : WSt base gw s W := by
  obtain ⟨u, xs, bad, h1, h2, h3⟩ := h
  exact ⟨u, xs, bad, row_ext h1 e, h2.ext e, h3⟩
theorem WSt.put {base gw g : Nat} {s : Option (List Int)} {w W : World} {c : Array Value} {T : TypeId} (h : WSt base gw s w) (p : Puts w g W) (r : w.heap[g]? = some (.cells c T)) (hT : T ≠ 5) (hn : gw ≠ g) : WSt base gw s W := by
  obtain ⟨u, xs, bad, h1, h2, h3⟩ := h
  exact ⟨u, xs, bad, Puts.row p h1 hn, h2.puts p (nb_typ h2 r (Ne.symm hT)), h3⟩
/-- what comes of bytes, and of numbers, written -/
def rawS (s : Option (List Int)) (ys : List Int) : Option (List Int) := s.bind fun xs => if xs.length + ys.length ≤ 65536 then some (xs ++ ys) else none
def byV (n : Int) (k : Nat) : Int := IntKind.u8.wrap (n.fdiv (2 ^ (8 * k)))
theorem byV_bytes (n : Int) (k : Nat) : AreBytes [byV n k] := fun x hx => by
  simp only [List.mem_cons, List.not_mem_nil, or_false] at hx
  subst hx
  have h3 : ∀ z : Int, IntKind.u8.wrap z = z % 256 := fun _ => rfl
  unfold byV
  rw [h3]; omega
def numR (n : Int) : Nat → Option (List Int) → Option (List Int)
  | 0, s => s
  | k + 1, s => numR n k (rawS s [byV n k])
def okN (n : Int) (size : Nat) : Bool := decide (0 ≤ n) && (n.fdiv (2 ^ (8 * size)) == 0)
def mustS (s : Option (List Int)) (ok : Bool) : Option (List Int) := bif ok then s else none
def numS (s : Option (List Int)) (n : Int) (size : Nat) : Option (List Int) := numR n size (mustS s (okN n size))
def leafS (s : Option (List Int)) (n : Int) : Option (List Int) := numS (mustS s (decide (n < 32))) n 1
def bytS (s : Option (List Int)) (ys : List Int) : Option (List Int) := rawS (numS s ((ys.length : Nat) : Int) 2) ys

end Go.Proofs.Ytfelfmchachljaa.Wr
