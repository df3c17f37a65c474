/- Texts of this claim, joined (O5). -/
import Derived.Test.YtjldjdlhllgakaaDoorZO4
import Derived.Laws.Externs
import Derived.Shelf.Spec.BitsCarry
import Derived.Shelf.Bits.Mul64
import Derived.Laws.Bits64b
import Derived.Lib.SmallJoins
import Derived.Test.YtjldjdlhllgakaaDoorRows
import Derived.Lib.LaidTab

section
namespace Go.Proofs.YtjldjdlhllgakaaDoor.Ad
open Go Go.RowKit
open Rely Auto Own
set_option linter.unusedVariables false
theorem Qf5 (x : Int) : IntKind.u8.wrap x = x % 256 := by
  have : IntKind.u8.wrap x = x % 2 ^ 8 := rfl
  rw [this]; rfl
theorem Qjz {bs : List Int} {j k : Nat} (hj : j < bs.length) (h : bs.take j = patL k j) : (bs.set j (pat k j)).take (j + 1) = patL k (j + 1) := by
  rw [QfO, ← h, List.take_add_one, List.take_set_of_le (Nat.le_refl _), List.getElem?_set_self hj]
  rfl
theorem QiI {bs : List Int} {n k : Nat} (hn : bs.length = n) (h : bs.take n = patL k n) : bs = patL k n := by rw [← h, List.take_of_length_le (by omega)]
theorem bx {base : Nat} {w W W' : World} (hb : base ≤ w.heap.size) (x : Below base w W) (e : Ext W W') : Below base w W' := Below.trans x (Below.mono e (Nat.le_trans hb x.size))
theorem Qhn {base g : Nat} {w W W' : World} (p : Puts W g W') (x : Below base w W) (hg : base ≤ g) : Below base w W' :=
  ⟨p.1.trans x.os, p.2.1.trans x.tape, p.2.2.1.trans x.output, by have := x.size; have := p.2.2.2.1; omega, fun k hk => (p.2.2.2.2 k (by omega)).trans (x.block k hk)⟩
theorem i64n (a : Int) (m : Nat) (e : a = (m : Int)) (h : m ≤ 5000000000) : IntKind.i64.wrap a = (m : Int) := by subst e; exact IntWalk.i64_in _ (by omega)
def Fill (base L k : Nat) (V : Nat → Value) (N : Nat → Nat) (W : World) : Prop := ∀ i, i < L → ∃ bs, bs.length = N i ∧ OwnV base bs (V i) W ∧ (i < k → bs = patL i (N i))
def QeP (base L k : Nat) (V : Nat → Value) (N : Nat → Nat) (W : World) : Prop := ∀ i, i < L → i ≠ k → ∃ bs, bs.length = N i ∧ OwnV base bs (V i) W ∧ (i < k → bs = patL i (N i))
theorem Fill.others {base L k : Nat} {V : Nat → Value} {N : Nat → Nat} {W : World} (h : Fill base L k V N W) : QeP base L k V N W := fun i hi _ => h i hi
theorem QeP.fill {base L k : Nat} {V : Nat → Value} {N : Nat → Nat} {W : World} (h : QeP base L k V N W) {bs : List Int} (h1 : bs.length = N k) (h2 : OwnV base bs (V k) W) (h3 : bs = patL k (N k)) : Fill base L (k + 1) V N W := fun i hi => by
  by_cases e : i = k
  · subst e; exact ⟨bs, h1, h2, fun _ => h3⟩
  · obtain ⟨b, q1, q2, q3⟩ := h i hi e
    exact ⟨b, q1, q2, fun hl => q3 (by omega)⟩
def Dist (L : Nat) (V : Nat → Value) : Prop := ∀ i j, i < L → j < L → i ≠ j → (V i).ownBlock = (V j).ownBlock → (V i).ownBlock = none
theorem QeP.puts {base L k g n c : Nat} {V : Nat → Value} {N : Nat → Nat} {W W' : World} (h : QeP base L k V N W) (hd : Dist L V) (hk : k < L) (hv : V k = .slice (some ⟨g, 0, none⟩) n c) (p : Puts W g W') : QeP base L k V N W' := fun i hi hn => by
  obtain ⟨b, q1, q2, q3⟩ := h i hi hn
  refine ⟨b, q1, q2.below fun g' hg' => p.2.2.2.2 g' fun e => ?_, q3⟩
  subst e
  have h1 := hd i k hi hk hn (by rw [hg', hv]; rfl)
  rw [h1] at hg'; cases hg'
section
variable {ds : List Deferred} {ops : Array Oper} {Q : Exit → Act → World → Prop} {rest : List Oper} {o : Oper} {N : Nat} {L : Env} {W : World}
theorem Qhf (x y : Operand) (g j : Nat) (z : Int) {base c : Nat} {cur : Array Value} {bs : List Int} (h : QcZ base g c cur bs W) (hj : j < bs.length)
    (ho : o.op = .store 5 x y) (hx : Rely.look (envN N L) x = .pointer (some ⟨g, j, none⟩)) (hy : Rely.look (envN N L) y = .int .u8 z) (hd : o.dst = none) (hw : Qcf ops o N L = some true)
    (k : ∀ (cur' : Array Value) (W' : World), QcZ base g c cur' (bs.set j z) W' → Puts W g W' → WL Tryd.prog ops Q rest (Qa0 ds N L) W') : WL Tryd.prog ops Q (o :: rest) (Qa0 ds N L) W := by
  obtain ⟨h1, h2⟩ := Qh7 (o := o) (W := W) x y g j z h hj ho hx hy
  exact QfD _ hd hw h1 (k _ _ h2 (QbY _ _ _))
end
theorem Fill.full {base L : Nat} {V : Nat → Value} {N : Nat → Nat} {W : World} (h : Fill base L L V N W) : Full base L V N W := fun i hi => by
  obtain ⟨bs, h1, h2, h3⟩ := h i hi
  rw [← h3 hi]; exact h2
theorem Mid.done' {base L k m : Nat} {V : Nat → Value} {N : Nat → Nat} {G : List Value} {u : Value} {g : Nat} {cur : Array Value} {W W' : World} (h : Mid base L k m V N G u W) (hm : m = N k + 10) (hk : k < L) (hl : G.length = k) (hg : Gd L k V G) (r : W.heap[g]? = some (.cells cur 24)) (e : ExtB g W W') :
    Full base L V N W' ∧ Qes base (k + 1) N (G ++ [u]) W' ∧ Gd L (k + 1) V (G ++ [u]) := by
  subst hm; exact h.done hk hl hg r e
theorem Qc0 {V W : World} {b o : Nat} {v : Value} (h : V.cell? ⟨b, o, none⟩ = some v) (e : Ext V W) : W.cell? ⟨b, o, none⟩ = some v := by rw [e.cell (Qfe h)]; exact h
theorem OwnL.cell {base g c i : Nat} {cur : Array Value} {G : List Value} {W : World} (h : OwnL base g c cur G W) (hi : i < G.length) : W.cell? ⟨g, i, none⟩ = some (gv G i) := by
  refine QbO h.2.1 ?_
  have e : (cur.toList.take G.length)[i]? = G[i]? := by rw [h.2.2.2.2.2]
  rw [List.getElem?_take_of_lt hi] at e
  rw [← Array.getElem?_toList, e]
  simp [gv, hi]
theorem Qet {base g : Nat} {bs : List Int} {v v' : Value} {cur : Array Value} {W W' : World} (r : W.heap[g]? = some (.cells cur 24)) (hv : OwnV base bs v W) (hw : Went v v' W W') : W'.heap[g]? = some (.cells cur 24) := by
  rcases hw with ⟨g', n, c', rfl, _, he⟩ | ⟨_, he⟩
  · refine (he.2.2.2.2 g (QaA r) ?_).trans r
    rcases hv with ⟨e, _⟩ | ⟨g2, _, _, e, _, h2, _⟩
    · cases e
    · simp only [Value.slice.injEq, Option.some.injEq, Addr.mk.injEq] at e
      rw [e.1.1]
      exact (Qew h2 r (by decide)).symm
  · exact Qad r he
theorem Qeb {base g : Nat} {w W W' : World} (e : ExtB g W W') (x : Below base w W) (hb : base ≤ w.heap.size) (hg : base ≤ g) : Below base w W' :=
  ⟨e.1.trans x.os, e.2.1.trans x.tape, e.2.2.1.trans x.output, Nat.le_trans x.size e.2.2.2.1, fun k hk => (e.2.2.2.2 k (by have := x.size; omega) (by omega)).trans (x.block k hk)⟩
theorem Qdt {base : Nat} {bs : List Int} {v v' : Value} {w W W' : World} (hw : Went v v' W W') (hv : OwnV base bs v W) (x : Below base w W) (hb : base ≤ w.heap.size) : Below base w W' := by
  rcases hw with ⟨g', n, c', rfl, _, he⟩ | ⟨_, he⟩
  · exact Qeb he x hb (hv.ge rfl)
  · exact bx hb x he
section
variable {ds : List Deferred} {ops : Array Oper} {Q : Exit → Act → World → Prop} {rest : List Oper} {o : Oper} {N : Nat} {L : Env} {W : World}
theorem QcK (s x : Operand) (t : TypeId) (ho : o.op = .call { callee := .builtin .append, args := #[s, x], argTypes := #[t, t] })
    (ht : Tryd.prog.underlying t = some (.slice 5)) (d : Nat) (hd : o.dst = some d) (hg : Qcf ops o N L = some true) {base b2 gx cx : Nat} {curx : Array Value} {v : Value} {xs ys : List Int}
    (hs : Rely.look (envN N L) s = v) (hx : Rely.look (envN N L) x = .slice (some ⟨gx, 0, none⟩) ys.length cx)
    (h : OwnV base xs v W) (hy : QcZ b2 gx cx curx ys W) (hn : xs.length + ys.length ≤ 1000000) (h0 : 0 < ys.length) (hbase : base ≤ W.heap.size)
    (k : ∀ (u : Value) (W' : World), OwnB base (xs ++ ys) u W' → Went v u W W' → WL Tryd.prog ops Q rest (Qa0 ds N ((d, u) :: L)) W') : WL Tryd.prog ops Q (o :: rest) (Qa0 ds N L) W := by
  obtain ⟨u, W', h1, h2, h3⟩ := Qg2 (ρ := Rely.look (envN N L)) (o := o) (W := W) s x t ho ht hs hx h hy hn h0 hbase
  exact Qcy _ _ d hd hg h1 (k u W' h2 h3)
theorem Qe8 (s x : Operand) (t : TypeId) (ho : o.op = .call { callee := .builtin .append, args := #[s, x], argTypes := #[t, t] })
    (ht : Tryd.prog.underlying t = some (.slice 24)) (d : Nat) (hd : o.dst = some d) (hg : Qcf ops o N L = some true) {base g c gx m : Nat} {cur : Array Value} {u : Value} {G : List Value} (hm : G.length = m)
    (hs : Rely.look (envN N L) s = .slice (some ⟨g, 0, none⟩) m c) (hx : Rely.look (envN N L) x = .slice (some ⟨gx, 0, none⟩) 1 1)
    (h : OwnL base g c cur G W) (rx : W.heap[gx]? = some (.cells #[u] 24)) (h1c : u.oneCell' = true) (hn : m ≤ 1000) (hbase : base ≤ W.heap.size)
    (k : ∀ (g' c' : Nat) (cur' : Array Value) (W' : World), OwnL base g' c' cur' (G ++ [u]) W' → ExtB g W W' → WL Tryd.prog ops Q rest (Qa0 ds N ((d, .slice (some ⟨g', 0, none⟩) (m + 1) c') :: L)) W') : WL Tryd.prog ops Q (o :: rest) (Qa0 ds N L) W := by
  subst hm
  obtain ⟨hb, r, hcs, hle, hmax, htk⟩ := h
  have hi : (Tryd.prog.info? 24).map (fun i => (i.zero, i.size, i.bytes)) = some (some (.slice none 0 0), 1, 24) := by kernel_rfl
  cases hq : Tryd.prog.info? 24 with
  | none => rw [hq] at hi; cases hi
  | some i =>
    rw [hq] at hi
    simp only [Option.map_some, Option.some.injEq, Prod.mk.injEq] at hi
    have hown : W.ownsRow base 24 1 (.slice (some ⟨g, 0, none⟩) G.length c) G.length G :=
      ⟨by simp, .inr ⟨g, c, cur, rfl, hb, r, hle, hmax, by omega, by rw [Nat.mul_one]; exact htk⟩⟩
    obtain ⟨v', W', hr, h2, h3, _, _⟩ := run_append_own_at (P := Tryd.prog) W base t o.type 24 i (.slice none 0 0) 1 24 ht hq hi.1 hi.2.1 hi.2.2 rfl (by omega) _ G.length G hown ⟨gx, 0, none⟩ 1 1 [u] rfl
      (fun j z hz => by
        have hadd : (⟨gx, 0, none⟩ : Addr).add j = ⟨gx, j, none⟩ := by unfold Addr.add; split <;> simp_all
        rw [hadd]
        refine QbO rx ?_
        rw [← hz]; simp)
      (fun z hz => by
        have : z = u := by simpa using hz
        subst this; exact h1c) (by simp only [maxLen]; omega) (by omega) hbase
    rcases h2.2 with ⟨_, h0⟩ | ⟨g', c', cur', hv, hb', hg', hle', hmax', hsz', htk'⟩
    · omega
    · subst hv
      refine Qcy _ _ d hd hg ?_ (k g' c' cur' W' ⟨hb', hg', by omega, by simpa using hle', hmax', by simpa using htk'⟩ (ExtB.of_grown h3))
      unfold execOp
      simp only [ho, resolve, invoke, builtin, Sem.run_bind, Sem.run_pure, Result.andThen_ok, List.map_toArray, List.map_cons, List.map_nil, hs, hx, hr]
      try simp
end
set_option maxHeartbeats 4000000 in
theorem Qks (base gl L : Nat) (V : Nat → Value) (N : Nat → Nat) (rowL : Array Value) (w : World) (hbase : base ≤ w.heap.size) (hrow : w.heap[gl]? = some (.cells rowL 24)) (hcell : ∀ i, i < L → rowL[i]? = some (V i)) (hL : L ≤ 100) (hN : ∀ i, i < L → N i ≤ 100000)
  (hB : ∀ i, i < L → ∃ bs, bs.length = N i ∧ OwnV base bs (V i) w) (hd : Dist L V) : Calls Tryd.prog 19 #[.slice (some ⟨gl, 0, none⟩) L L] w fun e w' => e = .returned (.bool true) ∧ Below base w w' := by
 refine enter 117 [(0, .slice (some ⟨gl, 0, none⟩) L L)] Tryd.func19 rfl rfl (by kernel_rfl) rfl ?_
 refine wp_seq_k fun K1 hK1 => ?_
 refine Qab ?_
 refine Qaa (.bool false) 2 rfl (by kernel_rfl) (by kernel_rfl) ?_
 refine Qac ?_
 refine hK1 _ _ ?_
 refine wp_seq_k fun K2 hK2 => ?_
 refine wp_seq_k fun K3 hK3 => ?_
 refine Qab ?_
 refine Qaa (.slice (some ⟨gl, 0, none⟩) L L) 13 rfl (by kernel_rfl) (by kernel_rfl) ?_
 refine Qaa (.int .i64 ((L : Nat) : Int)) 14 rfl (by kernel_rfl) (by kernel_rfl) ?_
 refine Qaa (.int .i64 0) 15 rfl (by kernel_rfl) (by kernel_rfl) ?_
 refine Qac ?_
 refine hK3 _ _ ?_
 refine wp_block ?_
 refine QaH (fun (k : Nat) => [(0, .slice (some ⟨gl, 0, none⟩) L L), (13, .slice (some ⟨gl, 0, none⟩) L L), (14, .int .i64 ((L : Nat) : Int)), (15, .int .i64 ((k : Nat) : Int))]) (fun (k : Nat) W => k ≤ L ∧ Fill base L k V N W ∧ W.heap[gl]? = some (.cells rowL 24) ∧ Below base w W) (fun (k : Nat) => L - k) 0 ⟨rfl, rfl, rfl, rfl, trivial⟩ ⟨Nat.zero_le _, fun i hi => (by obtain ⟨bs, h1, h2⟩ := hB i hi; exact ⟨bs, h1, h2, fun h => absurd h (Nat.not_lt_zero _)⟩), hrow, (Below.refl base w)⟩ fun k X1 V1 hI => ?_
 obtain ⟨hkL, hF, rr, xx1⟩ := hI
 refine wp_seq_k fun K4 hK4 => ?_
 refine Qab ?_
 refine Qaa (.bool (decide (((k : Nat) : Int) < ((L : Nat) : Int)))) 16 rfl (by kernel_rfl) (by kernel_rfl) ?_
 refine Qac ?_
 refine hK4 _ _ ?_
 refine wp_seq_k fun K5 hK5 => ?_
 refine Qa8 (t := decide (((k : Nat) : Int) < ((L : Nat) : Int))) (by kernel_rfl) (fun c6 => ?_) (fun c6 => ?_)
 ·skip
  have hk : k < L := by have := of_decide_eq_true c6; omega
  obtain ⟨bs, hbl, hbo, hbk⟩ := hF k hk
  have hNk := hN k hk
  have hcl := hcell k hk
  obtain ⟨v, hv⟩ : ∃ v, V k = v := ⟨_, rfl⟩
  rw [hv] at hbo hcl
  rcases hbo with ⟨rfl, rfl⟩ | ⟨g, cc, cur, rfl, hO⟩
  ·skip
   have hlc : V1.cell? ⟨gl, 0 + k, none⟩ = some (.slice none 0 0) := by rw [Nat.zero_add]; exact QbO rr hcl
   refine wp_skip ?_
   refine hK5 _ _ ?_
   refine wp_seq_k fun K7 hK7 => ?_
   refine wp_block ?_
   refine wp_seq_k fun K8 hK8 => ?_
   refine Qab ?_
   refine Qaa (.int .i64 ((k : Nat) : Int)) 17 rfl (by kernel_rfl) (by kernel_rfl) ?_
   refine Qaa (.pointer (some ⟨gl, 0 + k, none⟩)) 18 rfl (by kernel_rfl) (Qbp 42 _ _ .i64 (k) gl 0 L L 24 rfl (by kernel_rfl) (by kernel_rfl) (by kernel_rfl) (by kernel_rfl) hk) ?_
   refine Qaa (.slice none 0 0) 19 rfl (by kernel_rfl) (Qav 24 _ _ (.slice none 0 0) hlc rfl (by kernel_rfl) (by kernel_rfl)) ?_
   refine Qaa (.int .i64 ((k : Nat) : Int)) 3 rfl (by kernel_rfl) (by kernel_rfl) ?_
   refine Qaa (.slice none 0 0) 4 rfl (by kernel_rfl) (by kernel_rfl) ?_
   refine Qac ?_
   refine hK8 _ _ ?_
   refine wp_seq_k fun K9 hK9 => ?_
   refine Qab ?_
   refine Qaa (.slice none 0 0) 20 rfl (by kernel_rfl) (by kernel_rfl) ?_
   refine Qaa (.int .i64 0) 21 rfl (by kernel_rfl) (by kernel_rfl) ?_
   refine Qaa (.int .i64 0) 22 rfl (by kernel_rfl) (by kernel_rfl) ?_
   refine Qac ?_
   refine hK9 _ _ ?_
   refine wp_block ?_
   refine wp_loop_rounds 1 ?_
   show Code.wp _ _ (Exit.then (Code.rounds _ _ _ 0) _) _ _
   refine wp_seq_k fun K10 hK10 => ?_
   refine Qab ?_
   refine Qaa (.bool false) 23 rfl (by kernel_rfl) (by kernel_rfl) ?_
   refine Qac ?_
   refine hK10 _ _ ?_
   refine wp_seq_k fun K11 hK11 => ?_
   refine cond_false (by kernel_rfl) ?_
   refine wp_exit ?_
   refine hK7 _ _ ?_
   refine Qab ?_
   refine Qaa (.int .i64 (((k + 1 : Nat) : Int))) 36 rfl (by kernel_rfl) (Qah (u := .int .i64 (IntKind.i64.wrap (((k : Nat) : Int) + 1))) (by kernel_rfl) (congrArg (Value.int .i64) (i64n _ _ (by omega) (by omega)))) ?_
   refine Qaa (.int .i64 (((k + 1 : Nat) : Int))) 15 rfl (by kernel_rfl) (by kernel_rfl) ?_
   refine Qac ?_
   repeat (first | with_reducible refine goX1 ?_ | with_reducible refine goX2 ?_ | with_reducible refine goX3 ?_)
   exact Qaz (k + 1) ⟨rfl, rfl, rfl, rfl, trivial⟩ ⟨hk, (hF.others.fill (bs := []) hbl (.inl ⟨hv, rfl⟩) (by rw [← hbl]; rfl)), rr, xx1⟩ (by show L - (k + 1) < L - k; omega)
  ·skip
   obtain ⟨n, hn⟩ : ∃ n, bs.length = n := ⟨_, rfl⟩
   rw [hn] at hv hcl
   have hlc : V1.cell? ⟨gl, 0 + k, none⟩ = some (.slice (some ⟨g, 0, none⟩) n cc) := by rw [Nat.zero_add]; exact QbO rr hcl
   refine wp_skip ?_
   refine hK5 _ _ ?_
   refine wp_seq_k fun K13 hK13 => ?_
   refine wp_block ?_
   refine wp_seq_k fun K14 hK14 => ?_
   refine Qab ?_
   refine Qaa (.int .i64 ((k : Nat) : Int)) 17 rfl (by kernel_rfl) (by kernel_rfl) ?_
   refine Qaa (.pointer (some ⟨gl, 0 + k, none⟩)) 18 rfl (by kernel_rfl) (Qbp 42 _ _ .i64 (k) gl 0 L L 24 rfl (by kernel_rfl) (by kernel_rfl) (by kernel_rfl) (by kernel_rfl) hk) ?_
   refine Qaa (.slice (some ⟨g, 0, none⟩) n cc) 19 rfl (by kernel_rfl) (Qav 24 _ _ (.slice (some ⟨g, 0, none⟩) n cc) hlc rfl (by kernel_rfl) (by kernel_rfl)) ?_
   refine Qaa (.int .i64 ((k : Nat) : Int)) 3 rfl (by kernel_rfl) (by kernel_rfl) ?_
   refine Qaa (.slice (some ⟨g, 0, none⟩) n cc) 4 rfl (by kernel_rfl) (by kernel_rfl) ?_
   refine Qac ?_
   refine hK14 _ _ ?_
   refine wp_seq_k fun K15 hK15 => ?_
   refine Qab ?_
   refine Qaa (.slice (some ⟨g, 0, none⟩) n cc) 20 rfl (by kernel_rfl) (by kernel_rfl) ?_
   refine Qaa (.int .i64 ((n : Nat) : Int)) 21 rfl (by kernel_rfl) (by kernel_rfl) ?_
   refine Qaa (.int .i64 0) 22 rfl (by kernel_rfl) (by kernel_rfl) ?_
   refine Qac ?_
   refine hK15 _ _ ?_
   refine wp_block ?_
   refine QaH (fun (j : Nat) => [(0, .slice (some ⟨gl, 0, none⟩) L L), (13, .slice (some ⟨gl, 0, none⟩) L L), (14, .int .i64 ((L : Nat) : Int)), (15, .int .i64 ((k : Nat) : Int)), (3, .int .i64 ((k : Nat) : Int)), (4, .slice (some ⟨g, 0, none⟩) n cc), (21, .int .i64 ((n : Nat) : Int)), (22, .int .i64 ((j : Nat) : Int))]) (fun (j : Nat) W => j ≤ n ∧ (∃ bs cur, bs.length = n ∧ QcZ base g cc cur bs W ∧ bs.take j = patL k j) ∧ QeP base L k V N W ∧ W.heap[gl]? = some (.cells rowL 24) ∧ Below base w W) (fun (j : Nat) => n - j) 0 ⟨rfl, rfl, rfl, rfl, rfl, rfl, rfl, rfl, trivial⟩ ⟨Nat.zero_le _, ⟨bs, cur, hn, hO, rfl⟩, hF.others, rr, xx1⟩ fun j X2 V2 hI2 => ?_
   clear hO hF rr xx1
   obtain ⟨hjn, ⟨bs2, cur2, hbn, hO, hbt⟩, hoth, r2, xx2⟩ := hI2
   refine wp_seq_k fun K16 hK16 => ?_
   refine Qab ?_
   refine Qaa (.bool (decide (((j : Nat) : Int) < ((n : Nat) : Int)))) 23 rfl (by kernel_rfl) (by kernel_rfl) ?_
   refine Qac ?_
   refine hK16 _ _ ?_
   refine wp_seq_k fun K17 hK17 => ?_
   refine Qa8 (t := decide (((j : Nat) : Int) < ((n : Nat) : Int))) (by kernel_rfl) (fun c18 => ?_) (fun c18 => ?_)
   ·skip
    have hj2 : j < n := by have := of_decide_eq_true c18; omega
    refine wp_skip ?_
    refine hK17 _ _ ?_
    refine wp_seq_k fun K19 hK19 => ?_
    refine wp_block ?_
    refine wp_seq_k fun K20 hK20 => ?_
    refine Qab ?_
    refine Qaa (.int .i64 ((j : Nat) : Int)) 24 rfl (by kernel_rfl) (by kernel_rfl) ?_
    refine Qaa (.int .i64 ((j : Nat) : Int)) 5 rfl (by kernel_rfl) (by kernel_rfl) ?_
    refine Qac ?_
    refine hK20 _ _ ?_
    refine Qab ?_
    refine Qaa (.slice (some ⟨g, 0, none⟩) n cc) 25 rfl (by kernel_rfl) (by kernel_rfl) ?_
    refine Qaa (.int .i64 ((j : Nat) : Int)) 26 rfl (by kernel_rfl) (by kernel_rfl) ?_
    refine Qaa (.int .i64 ((k : Nat) : Int)) 27 rfl (by kernel_rfl) (by kernel_rfl) ?_
    refine Qaa (.int .i64 (((29 * k : Nat) : Int))) 28 rfl (by kernel_rfl) (Qah (u := .int .i64 (IntKind.i64.wrap (29 * ((k : Nat) : Int)))) (by kernel_rfl) (congrArg (Value.int .i64) (i64n _ _ (by omega) (by omega)))) ?_
    refine Qaa (.int .i64 ((j : Nat) : Int)) 29 rfl (by kernel_rfl) (by kernel_rfl) ?_
    refine Qaa (.int .i64 (((5 * j : Nat) : Int))) 30 rfl (by kernel_rfl) (Qah (u := .int .i64 (IntKind.i64.wrap (5 * ((j : Nat) : Int)))) (by kernel_rfl) (congrArg (Value.int .i64) (i64n _ _ (by omega) (by omega)))) ?_
    refine Qaa (.int .i64 (((29 * k + 5 * j : Nat) : Int))) 31 rfl (by kernel_rfl) (Qah (u := .int .i64 (IntKind.i64.wrap (((29 * k : Nat) : Int) + ((5 * j : Nat) : Int)))) (by kernel_rfl) (congrArg (Value.int .i64) (i64n _ _ (by omega) (by omega)))) ?_
    refine Qaa (.int .i64 (((29 * k + 5 * j + 3 : Nat) : Int))) 32 rfl (by kernel_rfl) (Qah (u := .int .i64 (IntKind.i64.wrap (((29 * k + 5 * j : Nat) : Int) + 3))) (by kernel_rfl) (congrArg (Value.int .i64) (i64n _ _ (by omega) (by omega)))) ?_
    refine Qaa (.int .u8 (pat k j)) 33 rfl (by kernel_rfl) (Qah (u := .int .u8 (IntKind.u8.wrap (((29 * k + 5 * j + 3 : Nat) : Int)))) (by kernel_rfl) (congrArg (Value.int .u8) (Qf5 _))) ?_
    refine Qaa (.pointer (some ⟨g, j, none⟩)) 34 rfl (by kernel_rfl) (Qaq 24 _ _ .i64 (j) g n cc 5 rfl (by kernel_rfl) (by kernel_rfl) (by kernel_rfl) (by kernel_rfl) hj2) ?_
    refine Qhf (.tmp 34) (.tmp 33) g j (pat k j) hO (by omega) rfl (by kernel_rfl) (by kernel_rfl) rfl (by kernel_rfl) fun cur2 W3 hO2 p3 => ?_
    have x3 : Below base w W3 := Qhn p3 xx2 hO.1
    refine Qac ?_
    refine hK19 _ _ ?_
    refine Qab ?_
    refine Qaa (.int .i64 (((j + 1 : Nat) : Int))) 35 rfl (by kernel_rfl) (Qah (u := .int .i64 (IntKind.i64.wrap (((j : Nat) : Int) + 1))) (by kernel_rfl) (congrArg (Value.int .i64) (i64n _ _ (by omega) (by omega)))) ?_
    refine Qaa (.int .i64 (((j + 1 : Nat) : Int))) 22 rfl (by kernel_rfl) (by kernel_rfl) ?_
    refine Qac ?_
    repeat (first | with_reducible refine goX1 ?_ | with_reducible refine goX2 ?_ | with_reducible refine goX3 ?_)
    exact Qaz (j + 1) ⟨rfl, rfl, rfl, rfl, rfl, rfl, rfl, rfl, trivial⟩ ⟨hj2, ⟨_, _, (by rw [List.length_set]; exact hbn), hO2, Qjz (by omega) hbt⟩, hoth.puts hd hk hv p3, p3.row r2 (Qew r2 hO.2.1 (by decide)), x3⟩ (by show n - (j + 1) < n - j; omega)
   ·skip
    have hj2 : j = n := by have := of_decide_eq_false c18; omega
    subst hj2
    refine wp_exit ?_
    refine hK13 _ _ ?_
    refine Qab ?_
    refine Qaa (.int .i64 (((k + 1 : Nat) : Int))) 36 rfl (by kernel_rfl) (Qah (u := .int .i64 (IntKind.i64.wrap (((k : Nat) : Int) + 1))) (by kernel_rfl) (congrArg (Value.int .i64) (i64n _ _ (by omega) (by omega)))) ?_
    refine Qaa (.int .i64 (((k + 1 : Nat) : Int))) 15 rfl (by kernel_rfl) (by kernel_rfl) ?_
    refine Qac ?_
    repeat (first | with_reducible refine goX1 ?_ | with_reducible refine goX2 ?_ | with_reducible refine goX3 ?_)
    exact Qaz (k + 1) ⟨rfl, rfl, rfl, rfl, trivial⟩ ⟨hk, (hoth.fill (bs := bs2) (hbn.trans (hn.symm.trans hbl)) (by rw [hv]; exact .inr ⟨g, cc, cur2, by rw [hbn], hO⟩) (by rw [← hbl, hn]; exact QiI hbn hbt)), r2, xx2⟩ (by show L - (k + 1) < L - k; omega)
 ·skip
  have hk : k = L := by have := of_decide_eq_false c6; omega
  have hA : Full base L V N V1 := by rw [hk] at hF; exact hF.full
  clear hF hk
  refine wp_exit ?_
  refine hK2 _ _ ?_
  refine wp_seq_k fun K21 hK21 => ?_
  refine Qab ?_
  refine QaD (#[]) 24 0 37 rfl (by kernel_rfl) (by kernel_rfl) fun g22 W2 l22 e2 r22_2 => ?_
  have x2 : Below base w W2 := bx hbase xx1 e2
  have b22 : w.heap.size ≤ g22 := Nat.le_trans xx1.size l22
  refine Qaa (.slice (some ⟨g22, 0, none⟩) 0 0) 6 rfl (by kernel_rfl) (by kernel_rfl) ?_
  refine Qac ?_
  refine hK21 _ _ ?_
  refine wp_seq_k fun K23 hK23 => ?_
  refine wp_seq_k fun K24 hK24 => ?_
  refine Qab ?_
  refine Qaa (.slice (some ⟨gl, 0, none⟩) L L) 38 rfl (by kernel_rfl) (by kernel_rfl) ?_
  refine Qaa (.int .i64 ((L : Nat) : Int)) 39 rfl (by kernel_rfl) (by kernel_rfl) ?_
  refine Qaa (.int .i64 0) 40 rfl (by kernel_rfl) (by kernel_rfl) ?_
  refine Qac ?_
  refine hK24 _ _ ?_
  refine wp_block ?_
  refine QaH (fun (s : Nat × List Value × Nat × Nat × Array Value) => [(0, .slice (some ⟨gl, 0, none⟩) L L), (38, .slice (some ⟨gl, 0, none⟩) L L), (39, .int .i64 ((L : Nat) : Int)), (40, .int .i64 ((s.1 : Nat) : Int)), (6, .slice (some ⟨s.2.2.1, 0, none⟩) s.1 s.2.2.2.1)]) (fun s W => s.1 ≤ L ∧ (s.2.1).length = s.1 ∧ OwnL w.heap.size s.2.2.1 s.2.2.2.1 s.2.2.2.2 s.2.1 W ∧ Full base L V N W ∧ Qes base s.1 N s.2.1 W ∧ Gd L s.1 V s.2.1 ∧ W.heap[gl]? = some (.cells rowL 24) ∧ Below base w W) (fun s => L - s.1) (0, [], g22, 0, #[]) ⟨rfl, rfl, rfl, rfl, rfl, trivial⟩ ⟨Nat.zero_le _, rfl, ⟨b22, r22_2, rfl, Nat.le_refl _, Nat.zero_le _, rfl⟩, (hA.ext e2), fun i hi => absurd hi (Nat.not_lt_zero _), fun i j hi => absurd hi (Nat.not_lt_zero _), (Qad rr e2), x2⟩ fun s X3 V3 hI => ?_
  clear hA rr xx1
  obtain ⟨k, G, gg, cg, curg⟩ := s
  obtain ⟨hkL, hGl, hL3, hA, hG, hgd, rr, xx3⟩ := hI
  replace hkL : k ≤ L := hkL
  replace hGl : (G).length = k := hGl
  replace hL3 : OwnL w.heap.size gg cg curg G V3 := hL3
  replace hA : Full base L V N V3 := hA
  replace hG : Qes base k N G V3 := hG
  replace hgd : Gd L k V G := hgd
  replace rr : V3.heap[gl]? = some (.cells rowL 24) := rr
  replace xx3 : Below base w V3 := xx3
  refine wp_seq_k fun K25 hK25 => ?_
  refine Qab ?_
  refine Qaa (.bool (decide (((k : Nat) : Int) < ((L : Nat) : Int)))) 41 rfl (by kernel_rfl) (by kernel_rfl) ?_
  refine Qac ?_
  refine hK25 _ _ ?_
  refine wp_seq_k fun K26 hK26 => ?_
  refine Qa8 (t := decide (((k : Nat) : Int) < ((L : Nat) : Int))) (by kernel_rfl) (fun c27 => ?_) (fun c27 => ?_)
  ·skip
   have hk : k < L := by have := of_decide_eq_true c27; omega
   have hNk := hN k hk
   have hcl := hcell k hk
   have hM := Mid.start hA hG hd hgd hk
   obtain ⟨v, hv⟩ : ∃ v, V k = v := ⟨_, rfl⟩
   rw [hv] at hM hcl
   rcases id hM.1 with ⟨rfl, he⟩ | ⟨g, cc, cur, hv2, hO⟩
   ·skip
    have hn0 : N k = 0 := by have := congrArg List.length he; rwa [Qbr] at this
    have hlc : V3.cell? ⟨gl, 0 + k, none⟩ = some (.slice none 0 0) := by rw [Nat.zero_add]; exact QbO rr hcl
    refine wp_skip ?_
    refine hK26 _ _ ?_
    refine wp_seq_k fun K28 hK28 => ?_
    refine wp_block ?_
    refine wp_seq_k fun K29 hK29 => ?_
    refine Qab ?_
    refine Qaa (.int .i64 ((k : Nat) : Int)) 42 rfl (by kernel_rfl) (by kernel_rfl) ?_
    refine Qaa (.pointer (some ⟨gl, 0 + k, none⟩)) 43 rfl (by kernel_rfl) (Qbp 42 _ _ .i64 (k) gl 0 L L 24 rfl (by kernel_rfl) (by kernel_rfl) (by kernel_rfl) (by kernel_rfl) hk) ?_
    refine Qaa (.slice none 0 0) 44 rfl (by kernel_rfl) (Qav 24 _ _ (.slice none 0 0) hlc rfl (by kernel_rfl) (by kernel_rfl)) ?_
    refine Qaa (.int .i64 ((k : Nat) : Int)) 7 rfl (by kernel_rfl) (by kernel_rfl) ?_
    refine Qaa (.slice none 0 0) 8 rfl (by kernel_rfl) (by kernel_rfl) ?_
    refine Qac ?_
    refine hK29 _ _ ?_
    refine wp_seq_k fun K30 hK30 => ?_
    refine Qab ?_
    refine Qaa (.slice none 0 0) 45 rfl (by kernel_rfl) (by kernel_rfl) ?_
    refine Qaa (.int .i64 0) 46 rfl (by kernel_rfl) (by kernel_rfl) ?_
    refine Qaa (.int .i64 0) 9 rfl (by kernel_rfl) (by kernel_rfl) ?_
    refine Qac ?_
    refine hK30 _ _ ?_
    refine wp_seq_k fun K31 hK31 => ?_
    refine wp_block ?_
    refine QaH (fun (s : Nat × Value) => [(0, .slice (some ⟨gl, 0, none⟩) L L), (38, .slice (some ⟨gl, 0, none⟩) L L), (39, .int .i64 ((L : Nat) : Int)), (40, .int .i64 ((k : Nat) : Int)), (6, .slice (some ⟨gg, 0, none⟩) k cg), (7, .int .i64 ((k : Nat) : Int)), (8, s.2), (9, .int .i64 0)]) (fun s W => N k ≤ s.1 ∧ s.1 ≤ N k + 10 ∧ Mid base L k s.1 V N G s.2 W ∧ OwnL w.heap.size gg cg curg G W ∧ W.heap[gl]? = some (.cells rowL 24) ∧ Below base w W) (fun s => N k + 10 - s.1) (N k, .slice none 0 0) ⟨rfl, rfl, rfl, rfl, rfl, rfl, rfl, rfl, trivial⟩ ⟨Nat.le_refl _, Nat.le_add_right _ _, hM, hL3, rr, xx3⟩ fun s X4 V4 hI2 => ?_
    clear hM hL3 hA hG rr xx3 hlc
    obtain ⟨m, u⟩ := s
    obtain ⟨hm1, hm2, hMu, hLu, r3, xx4⟩ := hI2
    replace hm1 : N k ≤ m := hm1
    replace hm2 : m ≤ N k + 10 := hm2
    replace hMu : Mid base L k m V N G u V4 := hMu
    replace hLu : OwnL w.heap.size gg cg curg G V4 := hLu
    replace r3 : V4.heap[gl]? = some (.cells rowL 24) := r3
    replace xx4 : Below base w V4 := xx4
    rcases id hMu.1 with ⟨rfl, he3⟩ | ⟨g3, c3, cur3, hu3, hO3⟩
    ·skip
     obtain rfl : m = 0 := by have := congrArg List.length he3; rwa [Qbr] at this
     have hm3 : 0 < N k + 10 := by omega
     refine wp_seq_k fun K32 hK32 => ?_
     refine wp_seq_k fun K33 hK33 => ?_
     refine Qab ?_
     refine Qaa (.slice none 0 0) 47 rfl (by kernel_rfl) (by kernel_rfl) ?_
     refine Qaa (.int .i64 0) 48 rfl (by kernel_rfl) (by kernel_rfl) ?_
     refine Qaa (.int .i64 0) 49 rfl (by kernel_rfl) (by kernel_rfl) ?_
     refine Qaa (.int .i64 10) 50 rfl (by kernel_rfl) (by kernel_rfl) ?_
     refine Qaa (.bool true) 51 rfl (by kernel_rfl) (by kernel_rfl) ?_
     refine Qac ?_
     refine hK33 _ _ ?_
     refine cond_true (by kernel_rfl) ?_
     refine wp_skip ?_
     refine hK32 _ _ ?_
     refine wp_block ?_
     refine Qab ?_
     refine Qaa (.slice none 0 0) 52 rfl (by kernel_rfl) (by kernel_rfl) ?_
     refine Qaa (.int .i64 ((k : Nat) : Int)) 53 rfl (by kernel_rfl) (by kernel_rfl) ?_
     refine Qaa (.int .i64 (((29 * k : Nat) : Int))) 54 rfl (by kernel_rfl) (Qah (u := .int .i64 (IntKind.i64.wrap (29 * ((k : Nat) : Int)))) (by kernel_rfl) (congrArg (Value.int .i64) (i64n _ _ (by omega) (by omega)))) ?_
     refine Qaa (.slice none 0 0) 55 rfl (by kernel_rfl) (by kernel_rfl) ?_
     refine Qaa (.int .i64 0) 56 rfl (by kernel_rfl) (by kernel_rfl) ?_
     refine Qaa (.int .i64 0) 57 rfl (by kernel_rfl) (by kernel_rfl) ?_
     refine Qaa (.int .i64 (((29 * k + 5 * 0 : Nat) : Int))) 58 rfl (by kernel_rfl) (Qah (u := .int .i64 (IntKind.i64.wrap (((29 * k : Nat) : Int) + 0))) (by kernel_rfl) (congrArg (Value.int .i64) (i64n _ _ (by omega) (by omega)))) ?_
     refine Qaa (.int .i64 (((29 * k + 5 * 0 + 3 : Nat) : Int))) 59 rfl (by kernel_rfl) (Qah (u := .int .i64 (IntKind.i64.wrap (((29 * k + 5 * 0 : Nat) : Int) + 3))) (by kernel_rfl) (congrArg (Value.int .i64) (i64n _ _ (by omega) (by omega)))) ?_
     refine Qaa (.int .u8 (pat k 0)) 60 rfl (by kernel_rfl) (Qah (u := .int .u8 (IntKind.u8.wrap (((29 * k + 5 * 0 + 3 : Nat) : Int)))) (by kernel_rfl) (congrArg (Value.int .u8) (Qf5 _))) ?_
     refine QaD (ints .u8 ([(pat k 0)])) 5 1 61 rfl (by kernel_rfl) (by kernel_rfl) fun g34 W5 l34 e5 r34_5 => ?_
     have x5 : Below base w W5 := bx hbase xx4 e5
     have b34 : w.heap.size ≤ g34 := Nat.le_trans xx4.size l34
     refine QcK (.tmp 52) (.tmp 61) 24 rfl (by kernel_rfl) 62 rfl (by kernel_rfl) (by kernel_rfl) (by kernel_rfl) (OwnV.ext hMu.1 e5) (Qdy [(pat k 0)] b34 r34_5 (show 1 ≤ maxLen by decide)) (by rw [Qbr]; show 0 + 1 ≤ 1000000; omega) (show 0 < 1 by decide) (Nat.le_trans hbase x5.size) fun u2 W6 hO2 hw => ?_
     have hM2 := (hMu.ext e5).append hk hm1 hw hO2
     have hL2 := (hLu.ext e5).went (OwnV.ext hMu.1 e5) hw
     have r4 := Qet (Qad r3 e5) (OwnV.ext hMu.1 e5) hw
     have x6 : Below base w W6 := Qdt hw (OwnV.ext hMu.1 e5) x5 hbase
     refine Qaa (u2) 8 rfl (by kernel_rfl) (by kernel_rfl) ?_
     refine Qac ?_
     repeat (first | with_reducible refine goX1 ?_ | with_reducible refine goX2 ?_ | with_reducible refine goX3 ?_)
     exact Qaz (0 + 1, u2) ⟨rfl, rfl, rfl, rfl, rfl, rfl, rfl, rfl, trivial⟩ ⟨(by show N k ≤ 0 + 1; omega), (by show 0 + 1 ≤ N k + 10; omega), hM2, hL2, r4, x6⟩ (by show N k + 10 - (0 + 1) < N k + 10 - 0; omega)
    ·skip
     rw [Qbr] at hu3
     subst hu3
     refine wp_seq_k fun K35 hK35 => ?_
     refine wp_seq_k fun K36 hK36 => ?_
     refine Qab ?_
     refine Qaa (.slice (some ⟨g3, 0, none⟩) m c3) 47 rfl (by kernel_rfl) (by kernel_rfl) ?_
     refine Qaa (.int .i64 ((m : Nat) : Int)) 48 rfl (by kernel_rfl) (by kernel_rfl) ?_
     refine Qaa (.int .i64 0) 49 rfl (by kernel_rfl) (by kernel_rfl) ?_
     refine Qaa (.int .i64 10) 50 rfl (by kernel_rfl) (by kernel_rfl) ?_
     refine Qaa (.bool (decide (((m : Nat) : Int) < 10))) 51 rfl (by kernel_rfl) (by kernel_rfl) ?_
     refine Qac ?_
     refine hK36 _ _ ?_
     refine Qa8 (t := decide (((m : Nat) : Int) < 10)) (by kernel_rfl) (fun c37 => ?_) (fun c37 => ?_)
     ·skip
      have hm3 : m < N k + 10 := by have := of_decide_eq_true c37; omega
      refine wp_skip ?_
      refine hK35 _ _ ?_
      refine wp_block ?_
      refine Qab ?_
      refine Qaa (.slice (some ⟨g3, 0, none⟩) m c3) 52 rfl (by kernel_rfl) (by kernel_rfl) ?_
      refine Qaa (.int .i64 ((k : Nat) : Int)) 53 rfl (by kernel_rfl) (by kernel_rfl) ?_
      refine Qaa (.int .i64 (((29 * k : Nat) : Int))) 54 rfl (by kernel_rfl) (Qah (u := .int .i64 (IntKind.i64.wrap (29 * ((k : Nat) : Int)))) (by kernel_rfl) (congrArg (Value.int .i64) (i64n _ _ (by omega) (by omega)))) ?_
      refine Qaa (.slice (some ⟨g3, 0, none⟩) m c3) 55 rfl (by kernel_rfl) (by kernel_rfl) ?_
      refine Qaa (.int .i64 ((m : Nat) : Int)) 56 rfl (by kernel_rfl) (by kernel_rfl) ?_
      refine Qaa (.int .i64 (((5 * m : Nat) : Int))) 57 rfl (by kernel_rfl) (Qah (u := .int .i64 (IntKind.i64.wrap (5 * ((m : Nat) : Int)))) (by kernel_rfl) (congrArg (Value.int .i64) (i64n _ _ (by omega) (by omega)))) ?_
      refine Qaa (.int .i64 (((29 * k + 5 * m : Nat) : Int))) 58 rfl (by kernel_rfl) (Qah (u := .int .i64 (IntKind.i64.wrap (((29 * k : Nat) : Int) + ((5 * m : Nat) : Int)))) (by kernel_rfl) (congrArg (Value.int .i64) (i64n _ _ (by omega) (by omega)))) ?_
      refine Qaa (.int .i64 (((29 * k + 5 * m + 3 : Nat) : Int))) 59 rfl (by kernel_rfl) (Qah (u := .int .i64 (IntKind.i64.wrap (((29 * k + 5 * m : Nat) : Int) + 3))) (by kernel_rfl) (congrArg (Value.int .i64) (i64n _ _ (by omega) (by omega)))) ?_
      refine Qaa (.int .u8 (pat k m)) 60 rfl (by kernel_rfl) (Qah (u := .int .u8 (IntKind.u8.wrap (((29 * k + 5 * m + 3 : Nat) : Int)))) (by kernel_rfl) (congrArg (Value.int .u8) (Qf5 _))) ?_
      refine QaD (ints .u8 ([(pat k m)])) 5 1 61 rfl (by kernel_rfl) (by kernel_rfl) fun g38 W5 l38 e5 r38_5 => ?_
      have x5 : Below base w W5 := bx hbase xx4 e5
      have b38 : w.heap.size ≤ g38 := Nat.le_trans xx4.size l38
      refine QcK (.tmp 52) (.tmp 61) 24 rfl (by kernel_rfl) 62 rfl (by kernel_rfl) (by kernel_rfl) (by kernel_rfl) (OwnV.ext hMu.1 e5) (Qdy [(pat k m)] b38 r38_5 (show 1 ≤ maxLen by decide)) (by rw [Qbr]; show m + 1 ≤ 1000000; omega) (show 0 < 1 by decide) (Nat.le_trans hbase x5.size) fun u2 W6 hO2 hw => ?_
      have hM2 := (hMu.ext e5).append hk hm1 hw hO2
      have hL2 := (hLu.ext e5).went (OwnV.ext hMu.1 e5) hw
      have r4 := Qet (Qad r3 e5) (OwnV.ext hMu.1 e5) hw
      have x6 : Below base w W6 := Qdt hw (OwnV.ext hMu.1 e5) x5 hbase
      refine Qaa (u2) 8 rfl (by kernel_rfl) (by kernel_rfl) ?_
      refine Qac ?_
      repeat (first | with_reducible refine goX1 ?_ | with_reducible refine goX2 ?_ | with_reducible refine goX3 ?_)
      exact Qaz (m + 1, u2) ⟨rfl, rfl, rfl, rfl, rfl, rfl, rfl, rfl, trivial⟩ ⟨(by show N k ≤ m + 1; omega), (by show m + 1 ≤ N k + 10; omega), hM2, hL2, r4, x6⟩ (by show N k + 10 - (m + 1) < N k + 10 - m; omega)
     ·skip
      have hm3 : m = N k + 10 := by have := of_decide_eq_false c37; omega
      refine wp_exit ?_
      refine hK31 _ _ ?_
      refine Qab ?_
      refine Qaa (.slice (some ⟨gg, 0, none⟩) k cg) 63 rfl (by kernel_rfl) (by kernel_rfl) ?_
      refine Qaa (.slice (some ⟨g3, 0, none⟩) m c3) 64 rfl (by kernel_rfl) (by kernel_rfl) ?_
      refine QaD (#[.slice (some ⟨g3, 0, none⟩) m c3]) 24 1 65 rfl (by kernel_rfl) (by kernel_rfl) fun g39 W5 l39 e5 r39_5 => ?_
      have x5 : Below base w W5 := bx hbase xx4 e5
      have b39 : w.heap.size ≤ g39 := Nat.le_trans xx4.size l39
      refine Qe8 (.tmp 63) (.tmp 65) 42 rfl (by kernel_rfl) 66 rfl (by kernel_rfl) hGl (by kernel_rfl) (by kernel_rfl) (hLu.ext e5) r39_5 rfl (by omega) x5.size fun gg2 cg2 curg2 W6 hL4 hE => ?_
      have hD := (hMu.ext e5).done' hm3 hk hGl hgd (hLu.ext e5).2.1 hE
      have x6 : Below base w W6 := Qeb hE x5 hbase (Nat.le_trans hbase hLu.1)
      have r5 := hE.row (Qad r3 e5) (by have := QaA hrow; have := hLu.1; omega)
      refine Qaa (.slice (some ⟨gg2, 0, none⟩) (k + 1) cg2) 6 rfl (by kernel_rfl) (by kernel_rfl) ?_
      refine Qac ?_
      refine hK28 _ _ ?_
      refine Qab ?_
      refine Qaa (.int .i64 (((k + 1 : Nat) : Int))) 67 rfl (by kernel_rfl) (Qah (u := .int .i64 (IntKind.i64.wrap (((k : Nat) : Int) + 1))) (by kernel_rfl) (congrArg (Value.int .i64) (i64n _ _ (by omega) (by omega)))) ?_
      refine Qaa (.int .i64 (((k + 1 : Nat) : Int))) 40 rfl (by kernel_rfl) (by kernel_rfl) ?_
      refine Qac ?_
      repeat (first | with_reducible refine goX1 ?_ | with_reducible refine goX2 ?_ | with_reducible refine goX3 ?_)
      exact Qaz (k + 1, G ++ [.slice (some ⟨g3, 0, none⟩) m c3], gg2, cg2, curg2) ⟨rfl, rfl, rfl, rfl, rfl, trivial⟩ ⟨hk, (by show (G ++ [_]).length = k + 1; simp; omega), hL4, hD.1, hD.2.1, hD.2.2, r5, x6⟩ (by show L - (k + 1) < L - k; omega)
   ·skip
    rw [Qbr] at hv2
    subst hv2
    have hlc : V3.cell? ⟨gl, 0 + k, none⟩ = some (.slice (some ⟨g, 0, none⟩) (N k) cc) := by rw [Nat.zero_add]; exact QbO rr hcl
    refine wp_skip ?_
    refine hK26 _ _ ?_
    refine wp_seq_k fun K40 hK40 => ?_
    refine wp_block ?_
    refine wp_seq_k fun K41 hK41 => ?_
    refine Qab ?_
    refine Qaa (.int .i64 ((k : Nat) : Int)) 42 rfl (by kernel_rfl) (by kernel_rfl) ?_
    refine Qaa (.pointer (some ⟨gl, 0 + k, none⟩)) 43 rfl (by kernel_rfl) (Qbp 42 _ _ .i64 (k) gl 0 L L 24 rfl (by kernel_rfl) (by kernel_rfl) (by kernel_rfl) (by kernel_rfl) hk) ?_
    refine Qaa (.slice (some ⟨g, 0, none⟩) (N k) cc) 44 rfl (by kernel_rfl) (Qav 24 _ _ (.slice (some ⟨g, 0, none⟩) (N k) cc) hlc rfl (by kernel_rfl) (by kernel_rfl)) ?_
    refine Qaa (.int .i64 ((k : Nat) : Int)) 7 rfl (by kernel_rfl) (by kernel_rfl) ?_
    refine Qaa (.slice (some ⟨g, 0, none⟩) (N k) cc) 8 rfl (by kernel_rfl) (by kernel_rfl) ?_
    refine Qac ?_
    refine hK41 _ _ ?_
    refine wp_seq_k fun K42 hK42 => ?_
    refine Qab ?_
    refine Qaa (.slice (some ⟨g, 0, none⟩) (N k) cc) 45 rfl (by kernel_rfl) (by kernel_rfl) ?_
    refine Qaa (.int .i64 (((N k) : Nat) : Int)) 46 rfl (by kernel_rfl) (by kernel_rfl) ?_
    refine Qaa (.int .i64 (((N k) : Nat) : Int)) 9 rfl (by kernel_rfl) (by kernel_rfl) ?_
    refine Qac ?_
    refine hK42 _ _ ?_
    refine wp_seq_k fun K43 hK43 => ?_
    refine wp_block ?_
    refine QaH (fun (s : Nat × Value) => [(0, .slice (some ⟨gl, 0, none⟩) L L), (38, .slice (some ⟨gl, 0, none⟩) L L), (39, .int .i64 ((L : Nat) : Int)), (40, .int .i64 ((k : Nat) : Int)), (6, .slice (some ⟨gg, 0, none⟩) k cg), (7, .int .i64 ((k : Nat) : Int)), (8, s.2), (9, .int .i64 (((N k) : Nat) : Int))]) (fun s W => N k ≤ s.1 ∧ s.1 ≤ N k + 10 ∧ Mid base L k s.1 V N G s.2 W ∧ OwnL w.heap.size gg cg curg G W ∧ W.heap[gl]? = some (.cells rowL 24) ∧ Below base w W) (fun s => N k + 10 - s.1) (N k, .slice (some ⟨g, 0, none⟩) (N k) cc) ⟨rfl, rfl, rfl, rfl, rfl, rfl, rfl, rfl, trivial⟩ ⟨Nat.le_refl _, Nat.le_add_right _ _, hM, hL3, rr, xx3⟩ fun s X4 V4 hI2 => ?_
    clear hM hL3 hA hG rr xx3 hlc
    obtain ⟨m, u⟩ := s
    obtain ⟨hm1, hm2, hMu, hLu, r3, xx4⟩ := hI2
    replace hm1 : N k ≤ m := hm1
    replace hm2 : m ≤ N k + 10 := hm2
    replace hMu : Mid base L k m V N G u V4 := hMu
    replace hLu : OwnL w.heap.size gg cg curg G V4 := hLu
    replace r3 : V4.heap[gl]? = some (.cells rowL 24) := r3
    replace xx4 : Below base w V4 := xx4
    rcases id hMu.1 with ⟨rfl, he3⟩ | ⟨g3, c3, cur3, hu3, hO3⟩
    ·skip
     obtain rfl : m = 0 := by have := congrArg List.length he3; rwa [Qbr] at this
     have hm3 : 0 < N k + 10 := by omega
     refine wp_seq_k fun K44 hK44 => ?_
     refine wp_seq_k fun K45 hK45 => ?_
     refine Qab ?_
     refine Qaa (.slice none 0 0) 47 rfl (by kernel_rfl) (by kernel_rfl) ?_
     refine Qaa (.int .i64 0) 48 rfl (by kernel_rfl) (by kernel_rfl) ?_
     refine Qaa (.int .i64 (((N k) : Nat) : Int)) 49 rfl (by kernel_rfl) (by kernel_rfl) ?_
     refine Qaa (.int .i64 (((N k + 10 : Nat) : Int))) 50 rfl (by kernel_rfl) (Qah (u := .int .i64 (IntKind.i64.wrap ((((N k) : Nat) : Int) + 10))) (by kernel_rfl) (congrArg (Value.int .i64) (i64n _ _ (by omega) (by omega)))) ?_
     refine Qaa (.bool true) 51 rfl (by kernel_rfl) (Qah (u := .bool (decide (0 < ((N k + 10 : Nat) : Int)))) (by kernel_rfl) (congrArg Value.bool (decide_eq_true (by omega)))) ?_
     refine Qac ?_
     refine hK45 _ _ ?_
     refine cond_true (by kernel_rfl) ?_
     refine wp_skip ?_
     refine hK44 _ _ ?_
     refine wp_block ?_
     refine Qab ?_
     refine Qaa (.slice none 0 0) 52 rfl (by kernel_rfl) (by kernel_rfl) ?_
     refine Qaa (.int .i64 ((k : Nat) : Int)) 53 rfl (by kernel_rfl) (by kernel_rfl) ?_
     refine Qaa (.int .i64 (((29 * k : Nat) : Int))) 54 rfl (by kernel_rfl) (Qah (u := .int .i64 (IntKind.i64.wrap (29 * ((k : Nat) : Int)))) (by kernel_rfl) (congrArg (Value.int .i64) (i64n _ _ (by omega) (by omega)))) ?_
     refine Qaa (.slice none 0 0) 55 rfl (by kernel_rfl) (by kernel_rfl) ?_
     refine Qaa (.int .i64 0) 56 rfl (by kernel_rfl) (by kernel_rfl) ?_
     refine Qaa (.int .i64 0) 57 rfl (by kernel_rfl) (by kernel_rfl) ?_
     refine Qaa (.int .i64 (((29 * k + 5 * 0 : Nat) : Int))) 58 rfl (by kernel_rfl) (Qah (u := .int .i64 (IntKind.i64.wrap (((29 * k : Nat) : Int) + 0))) (by kernel_rfl) (congrArg (Value.int .i64) (i64n _ _ (by omega) (by omega)))) ?_
     refine Qaa (.int .i64 (((29 * k + 5 * 0 + 3 : Nat) : Int))) 59 rfl (by kernel_rfl) (Qah (u := .int .i64 (IntKind.i64.wrap (((29 * k + 5 * 0 : Nat) : Int) + 3))) (by kernel_rfl) (congrArg (Value.int .i64) (i64n _ _ (by omega) (by omega)))) ?_
     refine Qaa (.int .u8 (pat k 0)) 60 rfl (by kernel_rfl) (Qah (u := .int .u8 (IntKind.u8.wrap (((29 * k + 5 * 0 + 3 : Nat) : Int)))) (by kernel_rfl) (congrArg (Value.int .u8) (Qf5 _))) ?_
     refine QaD (ints .u8 ([(pat k 0)])) 5 1 61 rfl (by kernel_rfl) (by kernel_rfl) fun g46 W5 l46 e5 r46_5 => ?_
     have x5 : Below base w W5 := bx hbase xx4 e5
     have b46 : w.heap.size ≤ g46 := Nat.le_trans xx4.size l46
     refine QcK (.tmp 52) (.tmp 61) 24 rfl (by kernel_rfl) 62 rfl (by kernel_rfl) (by kernel_rfl) (by kernel_rfl) (OwnV.ext hMu.1 e5) (Qdy [(pat k 0)] b46 r46_5 (show 1 ≤ maxLen by decide)) (by rw [Qbr]; show 0 + 1 ≤ 1000000; omega) (show 0 < 1 by decide) (Nat.le_trans hbase x5.size) fun u2 W6 hO2 hw => ?_
     have hM2 := (hMu.ext e5).append hk hm1 hw hO2
     have hL2 := (hLu.ext e5).went (OwnV.ext hMu.1 e5) hw
     have r4 := Qet (Qad r3 e5) (OwnV.ext hMu.1 e5) hw
     have x6 : Below base w W6 := Qdt hw (OwnV.ext hMu.1 e5) x5 hbase
     refine Qaa (u2) 8 rfl (by kernel_rfl) (by kernel_rfl) ?_
     refine Qac ?_
     repeat (first | with_reducible refine goX1 ?_ | with_reducible refine goX2 ?_ | with_reducible refine goX3 ?_)
     exact Qaz (0 + 1, u2) ⟨rfl, rfl, rfl, rfl, rfl, rfl, rfl, rfl, trivial⟩ ⟨(by show N k ≤ 0 + 1; omega), (by show 0 + 1 ≤ N k + 10; omega), hM2, hL2, r4, x6⟩ (by show N k + 10 - (0 + 1) < N k + 10 - 0; omega)
    ·skip
     rw [Qbr] at hu3
     subst hu3
     refine wp_seq_k fun K47 hK47 => ?_
     refine wp_seq_k fun K48 hK48 => ?_
     refine Qab ?_
     refine Qaa (.slice (some ⟨g3, 0, none⟩) m c3) 47 rfl (by kernel_rfl) (by kernel_rfl) ?_
     refine Qaa (.int .i64 ((m : Nat) : Int)) 48 rfl (by kernel_rfl) (by kernel_rfl) ?_
     refine Qaa (.int .i64 (((N k) : Nat) : Int)) 49 rfl (by kernel_rfl) (by kernel_rfl) ?_
     refine Qaa (.int .i64 (((N k + 10 : Nat) : Int))) 50 rfl (by kernel_rfl) (Qah (u := .int .i64 (IntKind.i64.wrap ((((N k) : Nat) : Int) + 10))) (by kernel_rfl) (congrArg (Value.int .i64) (i64n _ _ (by omega) (by omega)))) ?_
     refine Qaa (.bool (decide (((m : Nat) : Int) < ((N k + 10 : Nat) : Int)))) 51 rfl (by kernel_rfl) (by kernel_rfl) ?_
     refine Qac ?_
     refine hK48 _ _ ?_
     refine Qa8 (t := decide (((m : Nat) : Int) < ((N k + 10 : Nat) : Int))) (by kernel_rfl) (fun c49 => ?_) (fun c49 => ?_)
     ·skip
      have hm3 : m < N k + 10 := by have := of_decide_eq_true c49; omega
      refine wp_skip ?_
      refine hK47 _ _ ?_
      refine wp_block ?_
      refine Qab ?_
      refine Qaa (.slice (some ⟨g3, 0, none⟩) m c3) 52 rfl (by kernel_rfl) (by kernel_rfl) ?_
      refine Qaa (.int .i64 ((k : Nat) : Int)) 53 rfl (by kernel_rfl) (by kernel_rfl) ?_
      refine Qaa (.int .i64 (((29 * k : Nat) : Int))) 54 rfl (by kernel_rfl) (Qah (u := .int .i64 (IntKind.i64.wrap (29 * ((k : Nat) : Int)))) (by kernel_rfl) (congrArg (Value.int .i64) (i64n _ _ (by omega) (by omega)))) ?_
      refine Qaa (.slice (some ⟨g3, 0, none⟩) m c3) 55 rfl (by kernel_rfl) (by kernel_rfl) ?_
      refine Qaa (.int .i64 ((m : Nat) : Int)) 56 rfl (by kernel_rfl) (by kernel_rfl) ?_
      refine Qaa (.int .i64 (((5 * m : Nat) : Int))) 57 rfl (by kernel_rfl) (Qah (u := .int .i64 (IntKind.i64.wrap (5 * ((m : Nat) : Int)))) (by kernel_rfl) (congrArg (Value.int .i64) (i64n _ _ (by omega) (by omega)))) ?_
      refine Qaa (.int .i64 (((29 * k + 5 * m : Nat) : Int))) 58 rfl (by kernel_rfl) (Qah (u := .int .i64 (IntKind.i64.wrap (((29 * k : Nat) : Int) + ((5 * m : Nat) : Int)))) (by kernel_rfl) (congrArg (Value.int .i64) (i64n _ _ (by omega) (by omega)))) ?_
      refine Qaa (.int .i64 (((29 * k + 5 * m + 3 : Nat) : Int))) 59 rfl (by kernel_rfl) (Qah (u := .int .i64 (IntKind.i64.wrap (((29 * k + 5 * m : Nat) : Int) + 3))) (by kernel_rfl) (congrArg (Value.int .i64) (i64n _ _ (by omega) (by omega)))) ?_
      refine Qaa (.int .u8 (pat k m)) 60 rfl (by kernel_rfl) (Qah (u := .int .u8 (IntKind.u8.wrap (((29 * k + 5 * m + 3 : Nat) : Int)))) (by kernel_rfl) (congrArg (Value.int .u8) (Qf5 _))) ?_
      refine QaD (ints .u8 ([(pat k m)])) 5 1 61 rfl (by kernel_rfl) (by kernel_rfl) fun g50 W5 l50 e5 r50_5 => ?_
      have x5 : Below base w W5 := bx hbase xx4 e5
      have b50 : w.heap.size ≤ g50 := Nat.le_trans xx4.size l50
      refine QcK (.tmp 52) (.tmp 61) 24 rfl (by kernel_rfl) 62 rfl (by kernel_rfl) (by kernel_rfl) (by kernel_rfl) (OwnV.ext hMu.1 e5) (Qdy [(pat k m)] b50 r50_5 (show 1 ≤ maxLen by decide)) (by rw [Qbr]; show m + 1 ≤ 1000000; omega) (show 0 < 1 by decide) (Nat.le_trans hbase x5.size) fun u2 W6 hO2 hw => ?_
      have hM2 := (hMu.ext e5).append hk hm1 hw hO2
      have hL2 := (hLu.ext e5).went (OwnV.ext hMu.1 e5) hw
      have r4 := Qet (Qad r3 e5) (OwnV.ext hMu.1 e5) hw
      have x6 : Below base w W6 := Qdt hw (OwnV.ext hMu.1 e5) x5 hbase
      refine Qaa (u2) 8 rfl (by kernel_rfl) (by kernel_rfl) ?_
      refine Qac ?_
      repeat (first | with_reducible refine goX1 ?_ | with_reducible refine goX2 ?_ | with_reducible refine goX3 ?_)
      exact Qaz (m + 1, u2) ⟨rfl, rfl, rfl, rfl, rfl, rfl, rfl, rfl, trivial⟩ ⟨(by show N k ≤ m + 1; omega), (by show m + 1 ≤ N k + 10; omega), hM2, hL2, r4, x6⟩ (by show N k + 10 - (m + 1) < N k + 10 - m; omega)
     ·skip
      have hm3 : m = N k + 10 := by have := of_decide_eq_false c49; omega
      refine wp_exit ?_
      refine hK43 _ _ ?_
      refine Qab ?_
      refine Qaa (.slice (some ⟨gg, 0, none⟩) k cg) 63 rfl (by kernel_rfl) (by kernel_rfl) ?_
      refine Qaa (.slice (some ⟨g3, 0, none⟩) m c3) 64 rfl (by kernel_rfl) (by kernel_rfl) ?_
      refine QaD (#[.slice (some ⟨g3, 0, none⟩) m c3]) 24 1 65 rfl (by kernel_rfl) (by kernel_rfl) fun g51 W5 l51 e5 r51_5 => ?_
      have x5 : Below base w W5 := bx hbase xx4 e5
      have b51 : w.heap.size ≤ g51 := Nat.le_trans xx4.size l51
      refine Qe8 (.tmp 63) (.tmp 65) 42 rfl (by kernel_rfl) 66 rfl (by kernel_rfl) hGl (by kernel_rfl) (by kernel_rfl) (hLu.ext e5) r51_5 rfl (by omega) x5.size fun gg2 cg2 curg2 W6 hL4 hE => ?_
      have hD := (hMu.ext e5).done' hm3 hk hGl hgd (hLu.ext e5).2.1 hE
      have x6 : Below base w W6 := Qeb hE x5 hbase (Nat.le_trans hbase hLu.1)
      have r5 := hE.row (Qad r3 e5) (by have := QaA hrow; have := hLu.1; omega)
      refine Qaa (.slice (some ⟨gg2, 0, none⟩) (k + 1) cg2) 6 rfl (by kernel_rfl) (by kernel_rfl) ?_
      refine Qac ?_
      refine hK40 _ _ ?_
      refine Qab ?_
      refine Qaa (.int .i64 (((k + 1 : Nat) : Int))) 67 rfl (by kernel_rfl) (Qah (u := .int .i64 (IntKind.i64.wrap (((k : Nat) : Int) + 1))) (by kernel_rfl) (congrArg (Value.int .i64) (i64n _ _ (by omega) (by omega)))) ?_
      refine Qaa (.int .i64 (((k + 1 : Nat) : Int))) 40 rfl (by kernel_rfl) (by kernel_rfl) ?_
      refine Qac ?_
      repeat (first | with_reducible refine goX1 ?_ | with_reducible refine goX2 ?_ | with_reducible refine goX3 ?_)
      exact Qaz (k + 1, G ++ [.slice (some ⟨g3, 0, none⟩) m c3], gg2, cg2, curg2) ⟨rfl, rfl, rfl, rfl, rfl, trivial⟩ ⟨hk, (by show (G ++ [_]).length = k + 1; simp; omega), hL4, hD.1, hD.2.1, hD.2.2, r5, x6⟩ (by show L - (k + 1) < L - k; omega)
  ·skip
   have hk : k = L := by have := of_decide_eq_false c27; omega
   refine wp_exit ?_
   refine hK23 _ _ ?_
   refine wp_seq_k fun K52 hK52 => ?_
   refine wp_seq_k fun K53 hK53 => ?_
   rw [hk] at hG
   rw [← hk] at hG
   refine Qab ?_
   refine Qaa (.slice (some ⟨gg, 0, none⟩) k cg) 68 rfl (by kernel_rfl) (by kernel_rfl) ?_
   refine Qaa (.int .i64 ((k : Nat) : Int)) 69 rfl (by kernel_rfl) (by kernel_rfl) ?_
   refine Qaa (.int .i64 0) 70 rfl (by kernel_rfl) (by kernel_rfl) ?_
   refine Qac ?_
   refine hK53 _ _ ?_
   refine wp_block ?_
   refine QaH (fun (i : Nat) => [(0, .slice (some ⟨gl, 0, none⟩) L L), (68, .slice (some ⟨gg, 0, none⟩) k cg), (69, .int .i64 ((k : Nat) : Int)), (70, .int .i64 ((i : Nat) : Int))]) (fun (i : Nat) W => i ≤ k ∧ Full base L V N W ∧ Qes base k N G W ∧ OwnL w.heap.size gg cg curg G W ∧ W.heap[gl]? = some (.cells rowL 24) ∧ Below base w W) (fun (i : Nat) => k - i) 0 ⟨rfl, rfl, rfl, rfl, trivial⟩ ⟨Nat.zero_le _, hA, hG, hL3, rr, xx3⟩ fun i X5 V5 hI => ?_
   clear hA hG hL3 rr xx3
   obtain ⟨hik, hA, hG, hL3, rr, xx5⟩ := hI
   refine wp_seq_k fun K54 hK54 => ?_
   refine Qab ?_
   refine Qaa (.bool (decide (((i : Nat) : Int) < ((k : Nat) : Int)))) 71 rfl (by kernel_rfl) (by kernel_rfl) ?_
   refine Qac ?_
   refine hK54 _ _ ?_
   refine wp_seq_k fun K55 hK55 => ?_
   refine Qa8 (t := decide (((i : Nat) : Int) < ((k : Nat) : Int))) (by kernel_rfl) (fun c56 => ?_) (fun c56 => ?_)
   ·skip
    have hi : i < k := by have := of_decide_eq_true c56; omega
    have hiL : i < L := by omega
    have hNi := hN i hiL
    obtain ⟨gi, ci, ui, hgi, hOi⟩ := hG i hi
    rw [Qbr] at hgi
    have hcG1 : V5.cell? ⟨gg, 0 + i, none⟩ = some (.slice (some ⟨gi, 0, none⟩) (N i + 10) ci) := by rw [Nat.zero_add, ← hgi]; exact hL3.cell (by omega)
    refine wp_skip ?_
    refine hK55 _ _ ?_
    refine wp_seq_k fun K58 hK58 => ?_
    refine wp_block ?_
    refine wp_seq_k fun K59 hK59 => ?_
    refine Qab ?_
    refine Qaa (.int .i64 ((i : Nat) : Int)) 72 rfl (by kernel_rfl) (by kernel_rfl) ?_
    refine Qaa (.pointer (some ⟨gg, 0 + i, none⟩)) 73 rfl (by kernel_rfl) (Qbp 42 _ _ .i64 (i) gg 0 k cg 24 rfl (by kernel_rfl) (by kernel_rfl) (by kernel_rfl) (by kernel_rfl) hi) ?_
    refine Qaa (.slice (some ⟨gi, 0, none⟩) (N i + 10) ci) 74 rfl (by kernel_rfl) (Qav 24 _ _ (.slice (some ⟨gi, 0, none⟩) (N i + 10) ci) hcG1 rfl (by kernel_rfl) (by kernel_rfl)) ?_
    refine Qaa (.int .i64 ((i : Nat) : Int)) 10 rfl (by kernel_rfl) (by kernel_rfl) ?_
    refine Qaa (.slice (some ⟨gi, 0, none⟩) (N i + 10) ci) 11 rfl (by kernel_rfl) (by kernel_rfl) ?_
    refine Qac ?_
    refine hK59 _ _ ?_
    refine wp_seq_k fun K61 hK61 => ?_
    refine Qab ?_
    refine Qaa (.slice (some ⟨gi, 0, none⟩) (N i + 10) ci) 75 rfl (by kernel_rfl) (by kernel_rfl) ?_
    refine Qaa (.int .i64 (((N i + 10) : Nat) : Int)) 76 rfl (by kernel_rfl) (by kernel_rfl) ?_
    refine Qaa (.int .i64 0) 77 rfl (by kernel_rfl) (by kernel_rfl) ?_
    refine Qac ?_
    refine hK61 _ _ ?_
    refine wp_block ?_
    refine QaH (fun (j : Nat) => [(0, .slice (some ⟨gl, 0, none⟩) L L), (68, .slice (some ⟨gg, 0, none⟩) k cg), (69, .int .i64 ((k : Nat) : Int)), (70, .int .i64 ((i : Nat) : Int)), (10, .int .i64 ((i : Nat) : Int)), (11, .slice (some ⟨gi, 0, none⟩) (N i + 10) ci), (76, .int .i64 ((N i + 10 : Nat) : Int)), (77, .int .i64 ((j : Nat) : Int))]) (fun (j : Nat) W => j ≤ N i + 10 ∧ Full base L V N W ∧ Qes base k N G W ∧ OwnL w.heap.size gg cg curg G W ∧ W.heap[gl]? = some (.cells rowL 24) ∧ Below base w W) (fun (j : Nat) => N i + 10 - j) 0 ⟨rfl, rfl, rfl, rfl, rfl, rfl, rfl, rfl, trivial⟩ ⟨Nat.zero_le _, hA, hG, hL3, rr, xx5⟩ fun j X6 V6 hI2 => ?_
    clear hA hG hL3 rr xx5 hcG1 hOi
    obtain ⟨hjn, hA1, hG1, hL5, r1, xx6⟩ := hI2
    refine wp_seq_k fun K62 hK62 => ?_
    refine Qab ?_
    refine Qaa (.bool (decide (((j : Nat) : Int) < ((N i + 10 : Nat) : Int)))) 78 rfl (by kernel_rfl) (by kernel_rfl) ?_
    refine Qac ?_
    refine hK62 _ _ ?_
    refine wp_seq_k fun K63 hK63 => ?_
    refine Qa8 (t := decide (((j : Nat) : Int) < ((N i + 10 : Nat) : Int))) (by kernel_rfl) (fun c64 => ?_) (fun c64 => ?_)
    ·skip
     have hj : j < N i + 10 := by have := of_decide_eq_true c64; omega
     obtain ⟨gi', ci', ui2, hgi2, hOi2⟩ := hG1 i hi
     rw [Qbr, hgi] at hgi2
     simp only [Value.slice.injEq, Option.some.injEq, Addr.mk.injEq] at hgi2
     obtain ⟨⟨rfl, _⟩, _, rfl⟩ := hgi2
     have hcg : V6.cell? ⟨gi, j, none⟩ = some (.int .u8 (pat i j)) := by rw [hOi2.cell j (by rw [Qbr]; omega), QgG _ _ _ (by omega)]
     have hcl := hcell i hiL
     have hAi := hA1 i hiL
     obtain ⟨v, hv⟩ : ∃ v, V i = v := ⟨_, rfl⟩
     rw [hv] at hAi hcl
     rcases hAi with ⟨rfl, he⟩ | ⟨gv_, cv, uv, hv2, hOv⟩
     ·skip
      have hn0 : N i = 0 := by have := congrArg List.length he; rwa [Qbr] at this
      have hcL : V6.cell? ⟨gl, 0 + i, none⟩ = some (.slice none 0 0) := by rw [Nat.zero_add]; exact QbO r1 hcl
      refine wp_skip ?_
      refine hK63 _ _ ?_
      refine wp_seq_k fun K65 hK65 => ?_
      refine wp_block ?_
      refine wp_seq_k fun K66 hK66 => ?_
      refine Qab ?_
      refine Qaa (.int .i64 ((j : Nat) : Int)) 79 rfl (by kernel_rfl) (by kernel_rfl) ?_
      refine Qaa (.int .i64 ((j : Nat) : Int)) 12 rfl (by kernel_rfl) (by kernel_rfl) ?_
      refine Qac ?_
      refine hK66 _ _ ?_
      refine wp_seq_k fun K67 hK67 => ?_
      refine Qbf 35 [⟨none, [(11, none)]⟩, ⟨none, [(12, none)]⟩, ⟨none, [(80, some 0), (81, some 1)]⟩, ⟨none, [(82, some 2)]⟩, ⟨none, [(10, none)]⟩, ⟨none, [(84, some 4)]⟩, ⟨none, [(12, none)]⟩, ⟨none, [(86, some 6)]⟩, ⟨none, [(85, some 5), (87, some 7)]⟩, ⟨none, [(88, some 8)]⟩, ⟨none, [(89, some 9)]⟩, ⟨none, [(83, some 3), (90, some 10)]⟩, ⟨none, [(91, some 11)]⟩, ⟨some (92, false), [(12, none), (92, some 12)]⟩, ⟨some (92, false), [(0, none), (92, some 12)]⟩, ⟨some (92, false), [(10, none), (92, some 12)]⟩, ⟨some (92, false), [(94, some 14), (95, some 15), (92, some 12)]⟩, ⟨some (92, false), [(96, some 16), (92, some 12)]⟩, ⟨some (92, false), [(97, some 17), (92, some 12)]⟩, ⟨some (92, false), [(93, some 13), (98, some 18), (92, some 12)]⟩, ⟨some (92, false), [(99, some 19), (92, some 12)]⟩, ⟨some (100, true), [(0, none), (100, some 20)]⟩, ⟨some (100, true), [(10, none), (100, some 20)]⟩, ⟨some (100, true), [(101, some 21), (102, some 22), (100, some 20)]⟩, ⟨some (100, true), [(103, some 23), (100, some 20)]⟩, ⟨some (100, true), [(12, none), (100, some 20)]⟩, ⟨some (100, true), [(104, some 24), (105, some 25), (100, some 20)]⟩, ⟨some (100, true), [(106, some 26), (100, some 20)]⟩, ⟨some (100, true), [(11, none), (100, some 20)]⟩, ⟨some (100, true), [(12, none), (100, some 20)]⟩, ⟨some (100, true), [(108, some 28), (109, some 29), (100, some 20)]⟩, ⟨some (100, true), [(110, some 30), (100, some 20)]⟩, ⟨some (100, true), [(107, some 27), (111, some 31), (100, some 20)]⟩, ⟨some (92, false), [(100, some 20), (112, some 32), (92, some 12)]⟩, ⟨none, [(92, some 12), (113, some 33)]⟩] (by kernel_rfl) (by kernel_rfl) fun F hF => ?_
      refine Qak (.slice (some ⟨gi, 0, none⟩) (N i + 10) ci) (by kernel_rfl) (by kernel_rfl) (fun W => by kernel_rfl) ?_
      refine Qak (.int .i64 ((j : Nat) : Int)) (by kernel_rfl) (by kernel_rfl) (fun W => by kernel_rfl) ?_
      refine Qak (.pointer (some ⟨gi, j, none⟩)) (by kernel_rfl) (by kernel_rfl) (fun W => (Qaq 24 _ _ .i64 (j) gi (N i + 10) ci 5 rfl (by kernel_rfl) (by kernel_rfl) (by kernel_rfl) (by kernel_rfl) hj)) ?_
      refine QaL (.int .u8 (pat i j)) (by kernel_rfl) (by kernel_rfl) (fun W hR => (Qav 5 _ _ (.int .u8 (pat i j)) (Qc0 hcg (Rely.Ext.trans (Qai _) hR)) rfl (by kernel_rfl) (by kernel_rfl))) ?_
      refine Qak (.int .i64 ((i : Nat) : Int)) (by kernel_rfl) (by kernel_rfl) (fun W => by kernel_rfl) ?_
      refine Qak (.int .i64 (((29 * i : Nat) : Int))) (by kernel_rfl) (by kernel_rfl) (fun W => (Qah (u := .int .i64 (IntKind.i64.wrap (29 * ((i : Nat) : Int)))) (by kernel_rfl) (congrArg (Value.int .i64) (i64n _ _ (by omega) (by omega))))) ?_
      refine Qak (.int .i64 ((j : Nat) : Int)) (by kernel_rfl) (by kernel_rfl) (fun W => by kernel_rfl) ?_
      refine Qak (.int .i64 (((5 * j : Nat) : Int))) (by kernel_rfl) (by kernel_rfl) (fun W => (Qah (u := .int .i64 (IntKind.i64.wrap (5 * ((j : Nat) : Int)))) (by kernel_rfl) (congrArg (Value.int .i64) (i64n _ _ (by omega) (by omega))))) ?_
      refine Qak (.int .i64 (((29 * i + 5 * j : Nat) : Int))) (by kernel_rfl) (by kernel_rfl) (fun W => (Qah (u := .int .i64 (IntKind.i64.wrap (((29 * i : Nat) : Int) + ((5 * j : Nat) : Int)))) (by kernel_rfl) (congrArg (Value.int .i64) (i64n _ _ (by omega) (by omega))))) ?_
      refine Qak (.int .i64 (((29 * i + 5 * j + 3 : Nat) : Int))) (by kernel_rfl) (by kernel_rfl) (fun W => (Qah (u := .int .i64 (IntKind.i64.wrap (((29 * i + 5 * j : Nat) : Int) + 3))) (by kernel_rfl) (congrArg (Value.int .i64) (i64n _ _ (by omega) (by omega))))) ?_
      refine Qak (.int .u8 (pat i j)) (by kernel_rfl) (by kernel_rfl) (fun W => (Qah (u := .int .u8 (IntKind.u8.wrap (((29 * i + 5 * j + 3 : Nat) : Int)))) (by kernel_rfl) (congrArg (Value.int .u8) (Qf5 _)))) ?_
      refine Qak (.bool false) (by kernel_rfl) (by kernel_rfl) (fun W => (Qah (u := .bool (((pat i j) != (pat i j)))) (by kernel_rfl) (congrArg Value.bool (bne_self_eq_false _)))) ?_
      refine Qak (.bool false) (by kernel_rfl) (by kernel_rfl) (fun W => by kernel_rfl) ?_
      refine Qak (.int .i64 ((j : Nat) : Int)) (by kernel_rfl) (by kernel_rfl) (fun W => by kernel_rfl) ?_
      refine Qak (.slice (some ⟨gl, 0, none⟩) L L) (by kernel_rfl) (by kernel_rfl) (fun W => by kernel_rfl) ?_
      refine Qak (.int .i64 ((i : Nat) : Int)) (by kernel_rfl) (by kernel_rfl) (fun W => by kernel_rfl) ?_
      refine Qak (.pointer (some ⟨gl, 0 + i, none⟩)) (by kernel_rfl) (by kernel_rfl) (fun W => (Qbp 42 _ _ .i64 (i) gl 0 L L 24 rfl (by kernel_rfl) (by kernel_rfl) (by kernel_rfl) (by kernel_rfl) hiL)) ?_
      refine QaL (.slice none 0 0) (by kernel_rfl) (by kernel_rfl) (fun W hR => (Qav 24 _ _ (.slice none 0 0) (Qc0 hcL (Rely.Ext.trans (Qai _) hR)) rfl (by kernel_rfl) (by kernel_rfl))) ?_
      refine Qak (.int .i64 0) (by kernel_rfl) (by kernel_rfl) (fun W => by kernel_rfl) ?_
      refine Qak (.bool false) (by kernel_rfl) (by kernel_rfl) (fun W => (Qah (u := .bool (decide (((j : Nat) : Int) < 0))) (by kernel_rfl) (congrArg Value.bool (decide_eq_false (by omega))))) ?_
      refine Qak (.bool false) (by kernel_rfl) (by kernel_rfl) (fun W => by kernel_rfl) ?_
      refine Qbj (by kernel_rfl) (by kernel_rfl) ?_
      refine Qbj (by kernel_rfl) (by kernel_rfl) ?_
      refine Qbj (by kernel_rfl) (by kernel_rfl) ?_
      refine Qbj (by kernel_rfl) (by kernel_rfl) ?_
      refine Qbj (by kernel_rfl) (by kernel_rfl) ?_
      refine Qbj (by kernel_rfl) (by kernel_rfl) ?_
      refine Qbj (by kernel_rfl) (by kernel_rfl) ?_
      refine Qbj (by kernel_rfl) (by kernel_rfl) ?_
      refine Qbj (by kernel_rfl) (by kernel_rfl) ?_
      refine Qbj (by kernel_rfl) (by kernel_rfl) ?_
      refine Qbj (by kernel_rfl) (by kernel_rfl) ?_
      refine Qbj (by kernel_rfl) (by kernel_rfl) ?_
      refine Qak (.bool false) (by kernel_rfl) (by kernel_rfl) (fun W => by kernel_rfl) ?_
      refine Qak (.bool false) (by kernel_rfl) (by kernel_rfl) (fun W => by kernel_rfl) ?_
      refine Qbn (hF _ (by kernel_rfl) fun W6 e6 => ?_)
      simp only [ups, up, Kn.val, List.take_succ_cons, List.take_zero, List.drop_succ_cons, List.drop_zero, List.nil_append, List.cons_append]
      clear hF
      have x6 : Below base w W6 := bx hbase xx6 e6
      refine Qac ?_
      refine hK67 _ _ ?_
      refine cond_false (by kernel_rfl) ?_
      refine wp_skip ?_
      refine hK65 _ _ ?_
      refine Qab ?_
      refine Qaa (.int .i64 (((j + 1 : Nat) : Int))) 115 rfl (by kernel_rfl) (Qah (u := .int .i64 (IntKind.i64.wrap (((j : Nat) : Int) + 1))) (by kernel_rfl) (congrArg (Value.int .i64) (i64n _ _ (by omega) (by omega)))) ?_
      refine Qaa (.int .i64 (((j + 1 : Nat) : Int))) 77 rfl (by kernel_rfl) (by kernel_rfl) ?_
      refine Qac ?_
      repeat (first | with_reducible refine goX1 ?_ | with_reducible refine goX2 ?_ | with_reducible refine goX3 ?_)
      exact Qaz (j + 1) ⟨rfl, rfl, rfl, rfl, rfl, rfl, rfl, rfl, trivial⟩ ⟨hj, (hA1.ext e6), (hG1.ext e6), (hL5.ext e6), (Qad r1 e6), x6⟩ (by show N i + 10 - (j + 1) < N i + 10 - j; omega)
     ·skip
      rw [Qbr] at hv2
      subst hv2
      have hcL : V6.cell? ⟨gl, 0 + i, none⟩ = some (.slice (some ⟨gv_, 0, none⟩) (N i) cv) := by rw [Nat.zero_add]; exact QbO r1 hcl
      rcases Nat.lt_or_ge j (N i) with hjN | hjN
      ·skip
       have hcv : V6.cell? ⟨gv_, j, none⟩ = some (.int .u8 (pat i j)) := by rw [hOv.cell j (by rw [Qbr]; omega), QgG _ _ _ (by omega)]
       refine wp_skip ?_
       refine hK63 _ _ ?_
       refine wp_seq_k fun K70 hK70 => ?_
       refine wp_block ?_
       refine wp_seq_k fun K71 hK71 => ?_
       refine Qab ?_
       refine Qaa (.int .i64 ((j : Nat) : Int)) 79 rfl (by kernel_rfl) (by kernel_rfl) ?_
       refine Qaa (.int .i64 ((j : Nat) : Int)) 12 rfl (by kernel_rfl) (by kernel_rfl) ?_
       refine Qac ?_
       refine hK71 _ _ ?_
       refine wp_seq_k fun K72 hK72 => ?_
       refine Qbf 35 [⟨none, [(11, none)]⟩, ⟨none, [(12, none)]⟩, ⟨none, [(80, some 0), (81, some 1)]⟩, ⟨none, [(82, some 2)]⟩, ⟨none, [(10, none)]⟩, ⟨none, [(84, some 4)]⟩, ⟨none, [(12, none)]⟩, ⟨none, [(86, some 6)]⟩, ⟨none, [(85, some 5), (87, some 7)]⟩, ⟨none, [(88, some 8)]⟩, ⟨none, [(89, some 9)]⟩, ⟨none, [(83, some 3), (90, some 10)]⟩, ⟨none, [(91, some 11)]⟩, ⟨some (92, false), [(12, none), (92, some 12)]⟩, ⟨some (92, false), [(0, none), (92, some 12)]⟩, ⟨some (92, false), [(10, none), (92, some 12)]⟩, ⟨some (92, false), [(94, some 14), (95, some 15), (92, some 12)]⟩, ⟨some (92, false), [(96, some 16), (92, some 12)]⟩, ⟨some (92, false), [(97, some 17), (92, some 12)]⟩, ⟨some (92, false), [(93, some 13), (98, some 18), (92, some 12)]⟩, ⟨some (92, false), [(99, some 19), (92, some 12)]⟩, ⟨some (100, true), [(0, none), (100, some 20)]⟩, ⟨some (100, true), [(10, none), (100, some 20)]⟩, ⟨some (100, true), [(101, some 21), (102, some 22), (100, some 20)]⟩, ⟨some (100, true), [(103, some 23), (100, some 20)]⟩, ⟨some (100, true), [(12, none), (100, some 20)]⟩, ⟨some (100, true), [(104, some 24), (105, some 25), (100, some 20)]⟩, ⟨some (100, true), [(106, some 26), (100, some 20)]⟩, ⟨some (100, true), [(11, none), (100, some 20)]⟩, ⟨some (100, true), [(12, none), (100, some 20)]⟩, ⟨some (100, true), [(108, some 28), (109, some 29), (100, some 20)]⟩, ⟨some (100, true), [(110, some 30), (100, some 20)]⟩, ⟨some (100, true), [(107, some 27), (111, some 31), (100, some 20)]⟩, ⟨some (92, false), [(100, some 20), (112, some 32), (92, some 12)]⟩, ⟨none, [(92, some 12), (113, some 33)]⟩] (by kernel_rfl) (by kernel_rfl) fun F hF => ?_
       refine Qak (.slice (some ⟨gi, 0, none⟩) (N i + 10) ci) (by kernel_rfl) (by kernel_rfl) (fun W => by kernel_rfl) ?_
       refine Qak (.int .i64 ((j : Nat) : Int)) (by kernel_rfl) (by kernel_rfl) (fun W => by kernel_rfl) ?_
       refine Qak (.pointer (some ⟨gi, j, none⟩)) (by kernel_rfl) (by kernel_rfl) (fun W => (Qaq 24 _ _ .i64 (j) gi (N i + 10) ci 5 rfl (by kernel_rfl) (by kernel_rfl) (by kernel_rfl) (by kernel_rfl) hj)) ?_
       refine QaL (.int .u8 (pat i j)) (by kernel_rfl) (by kernel_rfl) (fun W hR => (Qav 5 _ _ (.int .u8 (pat i j)) (Qc0 hcg (Rely.Ext.trans (Qai _) hR)) rfl (by kernel_rfl) (by kernel_rfl))) ?_
       refine Qak (.int .i64 ((i : Nat) : Int)) (by kernel_rfl) (by kernel_rfl) (fun W => by kernel_rfl) ?_
       refine Qak (.int .i64 (((29 * i : Nat) : Int))) (by kernel_rfl) (by kernel_rfl) (fun W => (Qah (u := .int .i64 (IntKind.i64.wrap (29 * ((i : Nat) : Int)))) (by kernel_rfl) (congrArg (Value.int .i64) (i64n _ _ (by omega) (by omega))))) ?_
       refine Qak (.int .i64 ((j : Nat) : Int)) (by kernel_rfl) (by kernel_rfl) (fun W => by kernel_rfl) ?_
       refine Qak (.int .i64 (((5 * j : Nat) : Int))) (by kernel_rfl) (by kernel_rfl) (fun W => (Qah (u := .int .i64 (IntKind.i64.wrap (5 * ((j : Nat) : Int)))) (by kernel_rfl) (congrArg (Value.int .i64) (i64n _ _ (by omega) (by omega))))) ?_
       refine Qak (.int .i64 (((29 * i + 5 * j : Nat) : Int))) (by kernel_rfl) (by kernel_rfl) (fun W => (Qah (u := .int .i64 (IntKind.i64.wrap (((29 * i : Nat) : Int) + ((5 * j : Nat) : Int)))) (by kernel_rfl) (congrArg (Value.int .i64) (i64n _ _ (by omega) (by omega))))) ?_
       refine Qak (.int .i64 (((29 * i + 5 * j + 3 : Nat) : Int))) (by kernel_rfl) (by kernel_rfl) (fun W => (Qah (u := .int .i64 (IntKind.i64.wrap (((29 * i + 5 * j : Nat) : Int) + 3))) (by kernel_rfl) (congrArg (Value.int .i64) (i64n _ _ (by omega) (by omega))))) ?_
       refine Qak (.int .u8 (pat i j)) (by kernel_rfl) (by kernel_rfl) (fun W => (Qah (u := .int .u8 (IntKind.u8.wrap (((29 * i + 5 * j + 3 : Nat) : Int)))) (by kernel_rfl) (congrArg (Value.int .u8) (Qf5 _)))) ?_
       refine Qak (.bool false) (by kernel_rfl) (by kernel_rfl) (fun W => (Qah (u := .bool (((pat i j) != (pat i j)))) (by kernel_rfl) (congrArg Value.bool (bne_self_eq_false _)))) ?_
       refine Qak (.bool false) (by kernel_rfl) (by kernel_rfl) (fun W => by kernel_rfl) ?_
       refine Qak (.int .i64 ((j : Nat) : Int)) (by kernel_rfl) (by kernel_rfl) (fun W => by kernel_rfl) ?_
       refine Qak (.slice (some ⟨gl, 0, none⟩) L L) (by kernel_rfl) (by kernel_rfl) (fun W => by kernel_rfl) ?_
       refine Qak (.int .i64 ((i : Nat) : Int)) (by kernel_rfl) (by kernel_rfl) (fun W => by kernel_rfl) ?_
       refine Qak (.pointer (some ⟨gl, 0 + i, none⟩)) (by kernel_rfl) (by kernel_rfl) (fun W => (Qbp 42 _ _ .i64 (i) gl 0 L L 24 rfl (by kernel_rfl) (by kernel_rfl) (by kernel_rfl) (by kernel_rfl) hiL)) ?_
       refine QaL (.slice (some ⟨gv_, 0, none⟩) (N i) cv) (by kernel_rfl) (by kernel_rfl) (fun W hR => (Qav 24 _ _ (.slice (some ⟨gv_, 0, none⟩) (N i) cv) (Qc0 hcL (Rely.Ext.trans (Qai _) hR)) rfl (by kernel_rfl) (by kernel_rfl))) ?_
       refine Qak (.int .i64 (((N i) : Nat) : Int)) (by kernel_rfl) (by kernel_rfl) (fun W => by kernel_rfl) ?_
       refine Qak (.bool true) (by kernel_rfl) (by kernel_rfl) (fun W => (Qah (u := .bool (decide (((j : Nat) : Int) < (((N i) : Nat) : Int)))) (by kernel_rfl) (congrArg Value.bool (decide_eq_true (by omega))))) ?_
       refine Qak (.bool true) (by kernel_rfl) (by kernel_rfl) (fun W => by kernel_rfl) ?_
       refine Qak (.slice (some ⟨gl, 0, none⟩) L L) (by kernel_rfl) (by kernel_rfl) (fun W => by kernel_rfl) ?_
       refine Qak (.int .i64 ((i : Nat) : Int)) (by kernel_rfl) (by kernel_rfl) (fun W => by kernel_rfl) ?_
       refine Qak (.pointer (some ⟨gl, 0 + i, none⟩)) (by kernel_rfl) (by kernel_rfl) (fun W => (Qbp 42 _ _ .i64 (i) gl 0 L L 24 rfl (by kernel_rfl) (by kernel_rfl) (by kernel_rfl) (by kernel_rfl) hiL)) ?_
       refine QaL (.slice (some ⟨gv_, 0, none⟩) (N i) cv) (by kernel_rfl) (by kernel_rfl) (fun W hR => (Qav 24 _ _ (.slice (some ⟨gv_, 0, none⟩) (N i) cv) (Qc0 hcL (Rely.Ext.trans (Qai _) hR)) rfl (by kernel_rfl) (by kernel_rfl))) ?_
       refine Qak (.int .i64 ((j : Nat) : Int)) (by kernel_rfl) (by kernel_rfl) (fun W => by kernel_rfl) ?_
       refine Qak (.pointer (some ⟨gv_, j, none⟩)) (by kernel_rfl) (by kernel_rfl) (fun W => (Qaq 24 _ _ .i64 (j) gv_ (N i) cv 5 rfl (by kernel_rfl) (by kernel_rfl) (by kernel_rfl) (by kernel_rfl) hjN)) ?_
       refine QaL (.int .u8 (pat i j)) (by kernel_rfl) (by kernel_rfl) (fun W hR => (Qav 5 _ _ (.int .u8 (pat i j)) (Qc0 hcv (Rely.Ext.trans (Qai _) hR)) rfl (by kernel_rfl) (by kernel_rfl))) ?_
       refine Qak (.slice (some ⟨gi, 0, none⟩) (N i + 10) ci) (by kernel_rfl) (by kernel_rfl) (fun W => by kernel_rfl) ?_
       refine Qak (.int .i64 ((j : Nat) : Int)) (by kernel_rfl) (by kernel_rfl) (fun W => by kernel_rfl) ?_
       refine Qak (.pointer (some ⟨gi, j, none⟩)) (by kernel_rfl) (by kernel_rfl) (fun W => (Qaq 24 _ _ .i64 (j) gi (N i + 10) ci 5 rfl (by kernel_rfl) (by kernel_rfl) (by kernel_rfl) (by kernel_rfl) hj)) ?_
       refine QaL (.int .u8 (pat i j)) (by kernel_rfl) (by kernel_rfl) (fun W hR => (Qav 5 _ _ (.int .u8 (pat i j)) (Qc0 hcg (Rely.Ext.trans (Qai _) hR)) rfl (by kernel_rfl) (by kernel_rfl))) ?_
       refine Qak (.bool false) (by kernel_rfl) (by kernel_rfl) (fun W => (Qah (u := .bool (((pat i j) != (pat i j)))) (by kernel_rfl) (congrArg Value.bool (bne_self_eq_false _)))) ?_
       refine Qak (.bool false) (by kernel_rfl) (by kernel_rfl) (fun W => by kernel_rfl) ?_
       refine Qak (.bool false) (by kernel_rfl) (by kernel_rfl) (fun W => by kernel_rfl) ?_
       refine Qbn (hF _ (by kernel_rfl) fun W6 e6 => ?_)
       simp only [ups, up, Kn.val, List.take_succ_cons, List.take_zero, List.drop_succ_cons, List.drop_zero, List.nil_append, List.cons_append]
       clear hF
       have x6 : Below base w W6 := bx hbase xx6 e6
       refine Qac ?_
       refine hK72 _ _ ?_
       refine cond_false (by kernel_rfl) ?_
       refine wp_skip ?_
       refine hK70 _ _ ?_
       refine Qab ?_
       refine Qaa (.int .i64 (((j + 1 : Nat) : Int))) 115 rfl (by kernel_rfl) (Qah (u := .int .i64 (IntKind.i64.wrap (((j : Nat) : Int) + 1))) (by kernel_rfl) (congrArg (Value.int .i64) (i64n _ _ (by omega) (by omega)))) ?_
       refine Qaa (.int .i64 (((j + 1 : Nat) : Int))) 77 rfl (by kernel_rfl) (by kernel_rfl) ?_
       refine Qac ?_
       repeat (first | with_reducible refine goX1 ?_ | with_reducible refine goX2 ?_ | with_reducible refine goX3 ?_)
       exact Qaz (j + 1) ⟨rfl, rfl, rfl, rfl, rfl, rfl, rfl, rfl, trivial⟩ ⟨hj, (hA1.ext e6), (hG1.ext e6), (hL5.ext e6), (Qad r1 e6), x6⟩ (by show N i + 10 - (j + 1) < N i + 10 - j; omega)
      ·skip
       refine wp_skip ?_
       refine hK63 _ _ ?_
       refine wp_seq_k fun K76 hK76 => ?_
       refine wp_block ?_
       refine wp_seq_k fun K77 hK77 => ?_
       refine Qab ?_
       refine Qaa (.int .i64 ((j : Nat) : Int)) 79 rfl (by kernel_rfl) (by kernel_rfl) ?_
       refine Qaa (.int .i64 ((j : Nat) : Int)) 12 rfl (by kernel_rfl) (by kernel_rfl) ?_
       refine Qac ?_
       refine hK77 _ _ ?_
       refine wp_seq_k fun K78 hK78 => ?_
       refine Qbf 35 [⟨none, [(11, none)]⟩, ⟨none, [(12, none)]⟩, ⟨none, [(80, some 0), (81, some 1)]⟩, ⟨none, [(82, some 2)]⟩, ⟨none, [(10, none)]⟩, ⟨none, [(84, some 4)]⟩, ⟨none, [(12, none)]⟩, ⟨none, [(86, some 6)]⟩, ⟨none, [(85, some 5), (87, some 7)]⟩, ⟨none, [(88, some 8)]⟩, ⟨none, [(89, some 9)]⟩, ⟨none, [(83, some 3), (90, some 10)]⟩, ⟨none, [(91, some 11)]⟩, ⟨some (92, false), [(12, none), (92, some 12)]⟩, ⟨some (92, false), [(0, none), (92, some 12)]⟩, ⟨some (92, false), [(10, none), (92, some 12)]⟩, ⟨some (92, false), [(94, some 14), (95, some 15), (92, some 12)]⟩, ⟨some (92, false), [(96, some 16), (92, some 12)]⟩, ⟨some (92, false), [(97, some 17), (92, some 12)]⟩, ⟨some (92, false), [(93, some 13), (98, some 18), (92, some 12)]⟩, ⟨some (92, false), [(99, some 19), (92, some 12)]⟩, ⟨some (100, true), [(0, none), (100, some 20)]⟩, ⟨some (100, true), [(10, none), (100, some 20)]⟩, ⟨some (100, true), [(101, some 21), (102, some 22), (100, some 20)]⟩, ⟨some (100, true), [(103, some 23), (100, some 20)]⟩, ⟨some (100, true), [(12, none), (100, some 20)]⟩, ⟨some (100, true), [(104, some 24), (105, some 25), (100, some 20)]⟩, ⟨some (100, true), [(106, some 26), (100, some 20)]⟩, ⟨some (100, true), [(11, none), (100, some 20)]⟩, ⟨some (100, true), [(12, none), (100, some 20)]⟩, ⟨some (100, true), [(108, some 28), (109, some 29), (100, some 20)]⟩, ⟨some (100, true), [(110, some 30), (100, some 20)]⟩, ⟨some (100, true), [(107, some 27), (111, some 31), (100, some 20)]⟩, ⟨some (92, false), [(100, some 20), (112, some 32), (92, some 12)]⟩, ⟨none, [(92, some 12), (113, some 33)]⟩] (by kernel_rfl) (by kernel_rfl) fun F hF => ?_
       refine Qak (.slice (some ⟨gi, 0, none⟩) (N i + 10) ci) (by kernel_rfl) (by kernel_rfl) (fun W => by kernel_rfl) ?_
       refine Qak (.int .i64 ((j : Nat) : Int)) (by kernel_rfl) (by kernel_rfl) (fun W => by kernel_rfl) ?_
       refine Qak (.pointer (some ⟨gi, j, none⟩)) (by kernel_rfl) (by kernel_rfl) (fun W => (Qaq 24 _ _ .i64 (j) gi (N i + 10) ci 5 rfl (by kernel_rfl) (by kernel_rfl) (by kernel_rfl) (by kernel_rfl) hj)) ?_
       refine QaL (.int .u8 (pat i j)) (by kernel_rfl) (by kernel_rfl) (fun W hR => (Qav 5 _ _ (.int .u8 (pat i j)) (Qc0 hcg (Rely.Ext.trans (Qai _) hR)) rfl (by kernel_rfl) (by kernel_rfl))) ?_
       refine Qak (.int .i64 ((i : Nat) : Int)) (by kernel_rfl) (by kernel_rfl) (fun W => by kernel_rfl) ?_
       refine Qak (.int .i64 (((29 * i : Nat) : Int))) (by kernel_rfl) (by kernel_rfl) (fun W => (Qah (u := .int .i64 (IntKind.i64.wrap (29 * ((i : Nat) : Int)))) (by kernel_rfl) (congrArg (Value.int .i64) (i64n _ _ (by omega) (by omega))))) ?_
       refine Qak (.int .i64 ((j : Nat) : Int)) (by kernel_rfl) (by kernel_rfl) (fun W => by kernel_rfl) ?_
       refine Qak (.int .i64 (((5 * j : Nat) : Int))) (by kernel_rfl) (by kernel_rfl) (fun W => (Qah (u := .int .i64 (IntKind.i64.wrap (5 * ((j : Nat) : Int)))) (by kernel_rfl) (congrArg (Value.int .i64) (i64n _ _ (by omega) (by omega))))) ?_
       refine Qak (.int .i64 (((29 * i + 5 * j : Nat) : Int))) (by kernel_rfl) (by kernel_rfl) (fun W => (Qah (u := .int .i64 (IntKind.i64.wrap (((29 * i : Nat) : Int) + ((5 * j : Nat) : Int)))) (by kernel_rfl) (congrArg (Value.int .i64) (i64n _ _ (by omega) (by omega))))) ?_
       refine Qak (.int .i64 (((29 * i + 5 * j + 3 : Nat) : Int))) (by kernel_rfl) (by kernel_rfl) (fun W => (Qah (u := .int .i64 (IntKind.i64.wrap (((29 * i + 5 * j : Nat) : Int) + 3))) (by kernel_rfl) (congrArg (Value.int .i64) (i64n _ _ (by omega) (by omega))))) ?_
       refine Qak (.int .u8 (pat i j)) (by kernel_rfl) (by kernel_rfl) (fun W => (Qah (u := .int .u8 (IntKind.u8.wrap (((29 * i + 5 * j + 3 : Nat) : Int)))) (by kernel_rfl) (congrArg (Value.int .u8) (Qf5 _)))) ?_
       refine Qak (.bool false) (by kernel_rfl) (by kernel_rfl) (fun W => (Qah (u := .bool (((pat i j) != (pat i j)))) (by kernel_rfl) (congrArg Value.bool (bne_self_eq_false _)))) ?_
       refine Qak (.bool false) (by kernel_rfl) (by kernel_rfl) (fun W => by kernel_rfl) ?_
       refine Qak (.int .i64 ((j : Nat) : Int)) (by kernel_rfl) (by kernel_rfl) (fun W => by kernel_rfl) ?_
       refine Qak (.slice (some ⟨gl, 0, none⟩) L L) (by kernel_rfl) (by kernel_rfl) (fun W => by kernel_rfl) ?_
       refine Qak (.int .i64 ((i : Nat) : Int)) (by kernel_rfl) (by kernel_rfl) (fun W => by kernel_rfl) ?_
       refine Qak (.pointer (some ⟨gl, 0 + i, none⟩)) (by kernel_rfl) (by kernel_rfl) (fun W => (Qbp 42 _ _ .i64 (i) gl 0 L L 24 rfl (by kernel_rfl) (by kernel_rfl) (by kernel_rfl) (by kernel_rfl) hiL)) ?_
       refine QaL (.slice (some ⟨gv_, 0, none⟩) (N i) cv) (by kernel_rfl) (by kernel_rfl) (fun W hR => (Qav 24 _ _ (.slice (some ⟨gv_, 0, none⟩) (N i) cv) (Qc0 hcL (Rely.Ext.trans (Qai _) hR)) rfl (by kernel_rfl) (by kernel_rfl))) ?_
       refine Qak (.int .i64 (((N i) : Nat) : Int)) (by kernel_rfl) (by kernel_rfl) (fun W => by kernel_rfl) ?_
       refine Qak (.bool false) (by kernel_rfl) (by kernel_rfl) (fun W => (Qah (u := .bool (decide (((j : Nat) : Int) < (((N i) : Nat) : Int)))) (by kernel_rfl) (congrArg Value.bool (decide_eq_false (by omega))))) ?_
       refine Qak (.bool false) (by kernel_rfl) (by kernel_rfl) (fun W => by kernel_rfl) ?_
       refine Qbj (by kernel_rfl) (by kernel_rfl) ?_
       refine Qbj (by kernel_rfl) (by kernel_rfl) ?_
       refine Qbj (by kernel_rfl) (by kernel_rfl) ?_
       refine Qbj (by kernel_rfl) (by kernel_rfl) ?_
       refine Qbj (by kernel_rfl) (by kernel_rfl) ?_
       refine Qbj (by kernel_rfl) (by kernel_rfl) ?_
       refine Qbj (by kernel_rfl) (by kernel_rfl) ?_
       refine Qbj (by kernel_rfl) (by kernel_rfl) ?_
       refine Qbj (by kernel_rfl) (by kernel_rfl) ?_
       refine Qbj (by kernel_rfl) (by kernel_rfl) ?_
       refine Qbj (by kernel_rfl) (by kernel_rfl) ?_
       refine Qbj (by kernel_rfl) (by kernel_rfl) ?_
       refine Qak (.bool false) (by kernel_rfl) (by kernel_rfl) (fun W => by kernel_rfl) ?_
       refine Qak (.bool false) (by kernel_rfl) (by kernel_rfl) (fun W => by kernel_rfl) ?_
       refine Qbn (hF _ (by kernel_rfl) fun W6 e6 => ?_)
       simp only [ups, up, Kn.val, List.take_succ_cons, List.take_zero, List.drop_succ_cons, List.drop_zero, List.nil_append, List.cons_append]
       clear hF
       have x6 : Below base w W6 := bx hbase xx6 e6
       refine Qac ?_
       refine hK78 _ _ ?_
       refine cond_false (by kernel_rfl) ?_
       refine wp_skip ?_
       refine hK76 _ _ ?_
       refine Qab ?_
       refine Qaa (.int .i64 (((j + 1 : Nat) : Int))) 115 rfl (by kernel_rfl) (Qah (u := .int .i64 (IntKind.i64.wrap (((j : Nat) : Int) + 1))) (by kernel_rfl) (congrArg (Value.int .i64) (i64n _ _ (by omega) (by omega)))) ?_
       refine Qaa (.int .i64 (((j + 1 : Nat) : Int))) 77 rfl (by kernel_rfl) (by kernel_rfl) ?_
       refine Qac ?_
       repeat (first | with_reducible refine goX1 ?_ | with_reducible refine goX2 ?_ | with_reducible refine goX3 ?_)
       exact Qaz (j + 1) ⟨rfl, rfl, rfl, rfl, rfl, rfl, rfl, rfl, trivial⟩ ⟨hj, (hA1.ext e6), (hG1.ext e6), (hL5.ext e6), (Qad r1 e6), x6⟩ (by show N i + 10 - (j + 1) < N i + 10 - j; omega)
    ·skip
     have hA2 := hA1
     have hG2 := hG1
     have hL4 := hL5
     have r2 := r1
     refine wp_exit ?_
     refine hK58 _ _ ?_
     refine Qab ?_
     refine Qaa (.int .i64 (((i + 1 : Nat) : Int))) 116 rfl (by kernel_rfl) (Qah (u := .int .i64 (IntKind.i64.wrap (((i : Nat) : Int) + 1))) (by kernel_rfl) (congrArg (Value.int .i64) (i64n _ _ (by omega) (by omega)))) ?_
     refine Qaa (.int .i64 (((i + 1 : Nat) : Int))) 70 rfl (by kernel_rfl) (by kernel_rfl) ?_
     refine Qac ?_
     repeat (first | with_reducible refine goX1 ?_ | with_reducible refine goX2 ?_ | with_reducible refine goX3 ?_)
     exact Qaz (i + 1) ⟨rfl, rfl, rfl, rfl, trivial⟩ ⟨hi, hA2, hG2, hL4, r2, xx6⟩ (by show k - (i + 1) < k - i; omega)
   ·skip
    refine wp_exit ?_
    refine hK52 _ _ ?_
    refine wp_seq_k fun K80 hK80 => ?_
    refine Qab ?_
    refine Qaa (.bool true) 2 rfl (by kernel_rfl) (by kernel_rfl) ?_
    refine Qac ?_
    refine hK80 _ _ ?_
    refine wp_ret ?_
    repeat (first | with_reducible refine goR1 ?_ | with_reducible refine goR2 ?_)
    exact (show bodyPost _ _ _ .ret _ _ from ret1 (.bool true) rfl (QaC (by kernel_rfl)) ⟨rfl, xx5⟩)
end Go.Proofs.YtjldjdlhllgakaaDoor.Ad
end
section
namespace Go.Proofs.YtjldjdlhllgakaaDoor.Sha
open Go Go.RowKit
open Rely Auto Own
set_option linter.unusedVariables false
set_option linter.unusedSimpArgs false
theorem Qi2 {T : TypeId} {base n c : Nat} {xs : List Int} {a : Option Addr} {W : World} (h : OwnN .u8 T base xs (.slice a xs.length c) W) (hn : n ≤ xs.length) : OwnN .u8 T base (xs.take n) (.slice a n c) W := by
  have hl : (xs.take n).length = n := by rw [List.length_take]; omega
  obtain ⟨⟨h1, h2⟩, hm⟩ := h
  rcases h2 with ⟨h2, h3⟩ | ⟨g, c', cur, e, q2, q3, q4, q5, q6, q7⟩
  · simp only [Value.slice.injEq] at h2
    obtain ⟨rfl, h4, rfl⟩ := h2
    obtain rfl := List.length_eq_zero_iff.1 h4
    obtain rfl : n = 0 := by simpa using hn
    exact QbW _ _ _ _
  · simp only [Value.slice.injEq] at e
    obtain ⟨rfl, -, rfl⟩ := e
    refine Qgm hl q2 q3 (by omega) (by omega) q5 ?_
    have : cur.toList.take n = (cur.toList.take (xs.length * 1)).take n := by rw [List.take_take]; congr 1; omega
    rw [this, q7, List.map_take]
theorem OwnN.v {base : Nat} {xs : List Int} {v : Value} {W : World} (h : OwnN .u8 5 base xs v W) : OwnV base xs v W := by
  rcases h.1.2 with ⟨h0, h1⟩ | ⟨g, c, cur, h1, h2, h3, h4, h5, h6, h7⟩
  · exact .inl ⟨h0, List.length_eq_zero_iff.1 h1⟩
  · exact .inr ⟨g, c, cur, h1, h2, h3, by omega, h4, h5, by simpa using h7⟩
theorem QaR.own {base : Nat} {xs : List Int} {v : Value} {W : World} (h : QaR 5 base xs v W) : OwnN .u8 5 base xs v W := by
  obtain ⟨g, c, rfl, h2⟩ := h
  have h3 := Qi2 h2 (n := xs.length) (by simp)
  rwa [List.take_left] at h3
theorem QaR.base {a b : Nat} {xs : List Int} {v : Value} {W : World} (hab : a ≤ b) (h : QaR 5 b xs v W) : QaR 5 a xs v W := by
  obtain ⟨g, c, rfl, h2⟩ := h
  exact ⟨g, c, rfl, h2.base hab⟩
theorem QaR.stable (base : Nat) (xs : List Int) : QbA Ext (QaR 5 base xs) := fun _ _ _ hR h => h.ext hR
theorem QiM (n0 : Nat) (t : List Int) (v : Value) (B : Nat) (w : World) (hlen : t.length ≤ 900000000) (hr : RdK .u8 B t v w) (h0 : n0 ≤ w.heap.size) : Calls Tryd.prog 10 #[v] w (Qcb w (QaR 5 n0 t)) :=
  (QiO t v B w hlen hr).mono fun e W' h => by
    obtain ⟨u, h1, h2, h3⟩ := h
    exact ⟨u, h1, h2, h3.base h0⟩
theorem QfR (W : World) : Qcw W (.slice none 0 0) [] := (OwnN.rd (QbW .u8 5 0 W)).bytes (fun x hx => by cases hx)
theorem QcB {k k' : IntKind} {T T' : TypeId} {b b' : Nat} {xs ys : List Int} {u v : Value} {V W' : World} (hu : OwnN k T b xs u V) (hv : OwnN k' T' b' ys v W') (h : V.heap.size ≤ b') : v.ownBlock = u.ownBlock → v.ownBlock = none := fun e => by
  cases hb : v.ownBlock with
  | none => rfl
  | some g =>
    have h1 := hv.ge hb
    have h2 := hu.lt (e.symm.trans hb)
    omega
open Ad in
theorem Qjt {base gl : Nat} {v0 v1 v2 v3 : Value} {l0 l1 l2 l3 : List Int} {w : World} (hbase : base ≤ w.heap.size) (hrow : w.heap[gl]? = some (.cells #[v0, v1, v2, v3] 24)) (h0 : OwnV base l0 v0 w) (h1 : OwnV base l1 v1 w) (h2 : OwnV base l2 v2 w) (h3 : OwnV base l3 v3 w)
    (n0 : l0.length ≤ 100000) (n1 : l1.length ≤ 100000) (n2 : l2.length ≤ 100000) (n3 : l3.length ≤ 100000) (d01 : v0.ownBlock = v1.ownBlock → v0.ownBlock = none) (d02 : v0.ownBlock = v2.ownBlock → v0.ownBlock = none) (d03 : v0.ownBlock = v3.ownBlock → v0.ownBlock = none) (d12 : v1.ownBlock = v2.ownBlock → v1.ownBlock = none) (d13 : v1.ownBlock = v3.ownBlock → v1.ownBlock = none) (d23 : v2.ownBlock = v3.ownBlock → v2.ownBlock = none) :
    Calls Tryd.prog 19 #[.slice (some ⟨gl, 0, none⟩) 4 4] w fun e w' => e = .returned (.bool true) ∧ Below base w w' := by
  refine Qks base gl 4 (fun i => if i = 0 then v0 else if i = 1 then v1 else if i = 2 then v2 else v3) (fun i => if i = 0 then l0.length else if i = 1 then l1.length else if i = 2 then l2.length else l3.length) _ w hbase hrow (fun i hi => ?_) (by omega) (fun i hi => ?_) (fun i hi => ?_) (fun i j hi hj hn he => ?_)
  · rcases (show i = 0 ∨ i = 1 ∨ i = 2 ∨ i = 3 by omega) with rfl | rfl | rfl | rfl <;> rfl
  · rcases (show i = 0 ∨ i = 1 ∨ i = 2 ∨ i = 3 by omega) with rfl | rfl | rfl | rfl
    · exact n0
    · exact n1
    · exact n2
    · exact n3
  · rcases (show i = 0 ∨ i = 1 ∨ i = 2 ∨ i = 3 by omega) with rfl | rfl | rfl | rfl
    · exact ⟨l0, rfl, h0⟩
    · exact ⟨l1, rfl, h1⟩
    · exact ⟨l2, rfl, h2⟩
    · exact ⟨l3, rfl, h3⟩
  · rcases (show i = 0 ∨ i = 1 ∨ i = 2 ∨ i = 3 by omega) with rfl | rfl | rfl | rfl <;> rcases (show j = 0 ∨ j = 1 ∨ j = 2 ∨ j = 3 by omega) with rfl | rfl | rfl | rfl
    · exact absurd rfl hn
    · exact d01 he
    · exact d02 he
    · exact d03 he
    · exact he.trans (d01 he.symm)
    · exact absurd rfl hn
    · exact d12 he
    · exact d13 he
    · exact he.trans (d02 he.symm)
    · exact he.trans (d12 he.symm)
    · exact absurd rfl hn
    · exact d23 he
    · exact he.trans (d03 he.symm)
    · exact he.trans (d13 he.symm)
    · exact he.trans (d23 he.symm)
    · exact absurd rfl hn
end Go.Proofs.YtjldjdlhllgakaaDoor.Sha
end
section
namespace Go.Proofs.YtjldjdlhllgakaaDoor.Auto
open Go Go.RowKit
open Rely Own
set_option linter.unusedVariables false
set_option linter.unusedSimpArgs false
def Qdj (u v : Value) : Prop := u.ownBlock = v.ownBlock → u.ownBlock = none
theorem Qdj.symm {u v : Value} (h : Qdj u v) : Qdj v u := fun e => e.trans (h e.symm)
def Qfh (W : World) (v : Value) : Prop := ∀ g, v.ownBlock = some g → W.heap.size ≤ g
def Qdg (D : List Nat) (E : List Fact) : Prop := ∀ j ∈ D, ∀ u W, (E.getD j fun _ _ => True) u W → ∀ g, u.ownBlock = some g → g < W.heap.size
def Qio (D : List Nat) (n : Nat) (listed : Array Bool) (vs : Nat → Value) : Prop :=
  ∀ i k, i ∈ D → k ∈ D → listed.getD i false = true → listed.getD k false = true → i < n → k < n → i ≠ k → Qdj (vs i) (vs k)
def Qgy (Q : Act → World → Prop) (D : List Nat) : List Oper → List Fact → Nat → List Value → Act → World → Prop
  | o :: l, φ :: E, k, acc, a, W => ∀ v, φ v W → (D.contains k = true → ∀ u ∈ acc, Qdj u v) → Qgy Q D l E (k + 1) (if D.contains k = true then acc ++ [v] else acc) (a.put o.dst v) W
  | _, _, _, _, a, W => Q a W
def Qgv (P : Program) (R : World → World → Prop) (w0 : World) (r0 : Tmp → Value) (E : List Fact) (o : Oper) (s : Src) (φ : Fact) : Prop :=
  s.guard = none ∧ ∀ (ρ : Tmp → Value) (W : World), R w0 W → Qcs r0 E ρ W s.reads → Qcd P R o ρ W (fun v W' => φ v W' ∧ Qfh W v)
def Qc1 (P : Program) (R : World → World → Prop) (w0 : World) (r0 : Tmp → Value) (l : List Oper) (S : List Src) (D : List Nat) (E : List Fact) : Prop :=
  ∀ j ∈ D, ∀ o s, l[j]? = some o → S[j]? = some s → Qgv P R w0 r0 E o s (E.getD j fun _ _ => True)
theorem QfZ {Q : Act → World → Prop} {W : World} {D : List Nat} : ∀ (os : List Oper) (E : List Fact) (a : Act) (vs : Nat → Value) (k : Nat) (acc : List Value), Qgy Q D os E k acc a W → E.length = os.length →
    (∀ i, i < os.length → (E.getD i fun _ _ => True) (vs (k + i)) W) → (∀ u ∈ acc, ∃ i, i ∈ D ∧ i < k ∧ u = vs i) → (∀ i j, i ∈ D → j ∈ D → i < k + os.length → j < k + os.length → i ≠ j → Qdj (vs i) (vs j)) → Q (QaU os vs k a) W
  | [], [], a, vs, k, acc, h, _, _, _, _ => h
  | [], _ :: _, _, _, _, _, _, hl, _, _, _ => by simp at hl
  | _ :: _, [], _, _, _, _, _, hl, _, _, _ => by simp at hl
  | o :: os, φ :: E, a, vs, k, acc, h, hl, hf, ha, hp => by
    have h0 := hf 0 (by simp)
    have hlen : (o :: os).length = os.length + 1 := rfl
    refine QfZ os E (a.put o.dst (vs k)) vs (k + 1) _ (h (vs k) (by simpa using h0) (fun hk u hu => ?_)) (by simpa using hl) (fun i hi => ?_) (fun u hu => ?_) (fun i j hi hj hin hjn hne => hp i j hi hj (by omega) (by omega) hne)
    · obtain ⟨i, hiD, hik, rfl⟩ := ha u hu
      exact hp i k hiD (by simpa using hk) (by omega) (by omega) (by omega)
    · have := hf (i + 1) (by simpa using hi)
      rw [show k + (i + 1) = k + 1 + i by omega] at this
      simpa using this
    · by_cases hk : D.contains k = true
      · rw [if_pos hk] at hu
        rcases List.mem_append.1 hu with hu | hu
        · obtain ⟨i, h1, h2, h3⟩ := ha u hu
          exact ⟨i, h1, by omega, h3⟩
        · exact ⟨k, by simpa using hk, by omega, List.mem_singleton.1 hu⟩
      · rw [if_neg hk] at hu
        obtain ⟨i, h1, h2, h3⟩ := ha u hu
        exact ⟨i, h1, by omega, h3⟩
section
variable {P : Program} {R : World → World → Prop} {w0 : World} {a0 : Act}
theorem Qfa {o : Oper} {ρ : Tmp → Value} {W : World} {φ ψ : Fact} (h : Qcd P R o ρ W φ) (hi : ∀ v W', φ v W' → ψ v W') : Qcd P R o ρ W ψ := by
  unfold Qcd at h ⊢
  generalize (execOp (Rely.look ρ) o).run P W = r at *
  cases r with
  | halt x w1 => exact h
  | ok x w1 =>
    cases x <;> try exact h
    case value v => exact ⟨h.1, hi _ _ h.2⟩
    case skip => exact ⟨h.1, hi _ _ h.2⟩
    case enter f args => exact ⟨h.1, Calls.mono h.2 fun e W2 ⟨v, he, hr, hp⟩ => ⟨v, he, hr, hi _ _ hp⟩⟩
theorem QeQ {l : List Oper} {n N : Nat} {S : List Src} {E : List Fact} {D : List Nat} {Q : Exit → Act → World → Prop} (hB : Qdg D E) (hfr : Qc1 P R w0 (slots a0) l S D E) (hok : ok l n N S = true) (hN : a0.tmps.size = N) (hrf : ∀ a, R a a) (htr : ∀ {a b c : World}, R a b → R b c → R a c)
    (hE : E.length = (l.take n).length) (hst : ∀ φ ∈ E, QbA R φ)
    (hop : ∀ j o s, (l.take n)[j]? = some o → S[j]? = some s → opOk P R w0 (slots a0) E o s (E.getD j fun _ _ => True))
    (hfin : ∀ W, R w0 W → Qgy (fun a W => wpList P l.toArray Q (l.drop n) a W) D (l.take n) E 0 [] a0 W) :
    ∀ (fuel : Nat) (listed : Array Bool) (a : Act) (W : World) (vs : Nat → Value), Inv R w0 a0 l.toArray E n listed a W vs → Qio D n listed vs → fuel = left l.toArray listed → wpAny P .any l.toArray Q fuel listed a W := by
  simp only [ok, Bool.and_eq_true, decide_eq_true_eq] at hok
  obtain ⟨⟨⟨⟨⟨hn, hsrc⟩, hdst⟩, hedge⟩, htail⟩, hdt⟩ := hok
  have hlen : (l.take n).length = n := by simp [hn]
  have hget : ∀ i, i < n → (l.take n)[i]? = l[i]? := fun i hi => by simp [hi]
  have hgd : ∀ i, (E.getD i fun _ _ => True) = (fun _ _ => True) ∨ (E.getD i fun _ _ => True) ∈ E := fun i => by
    rcases Nat.lt_or_ge i E.length with h | h
    · right; simp [h]
    · left; simp [List.getElem?_eq_none h]
  have hstg : ∀ i, QbA R (E.getD i fun _ _ => True) := fun i => by
    rcases hgd i with h | h
    · rw [h]; exact fun _ _ _ _ _ => trivial
    · exact hst _ h
  have hanc : ∀ j i, ((masks l #[]).getD j 0).testBit i = true → Anc l.toArray i j := QcD l.toArray l #[] (fun j => by simp) (fun j i h => by simp at h)
  have count : ∀ (listed : Array Bool), (∀ i, i < n → listed.getD i true = true) → (∀ i, n ≤ i → i < l.length → listed.getD i true = false) → left l.toArray listed = l.length - n := by
    intro listed h1 h2
    unfold left
    simp only [List.size_toArray]
    have : ∀ m, m ≤ l.length → (List.range m).countP (fun i => !listed.getD i true) = m - n := by
      intro m
      induction m with
      | zero => intro _; simp
      | succ m ih =>
        intro hm
        rw [List.range_succ, List.countP_append, ih (by omega), List.countP_singleton]
        by_cases hmn : m < n
        · simp only [h1 m hmn, Bool.not_true, Bool.false_eq_true, if_false]; omega
        · simp only [h2 m (by omega) (by omega), Bool.not_false, if_true]; omega
    exact this l.length (Nat.le_refl _)
  have done : ∀ (fuel : Nat) (listed : Array Bool) (a : Act) (W : World) (vs : Nat → Value), Inv R w0 a0 l.toArray E n listed a W vs → Qio D n listed vs → fuel = left l.toArray listed → (∀ i, i < n → listed.getD i true = true) → wpAny P .any l.toArray Q fuel listed a W := by
    intro fuel listed a W vs inv hpr hf hall
    have hs : listed.size = l.length := by simpa using inv.size
    have hall' : ∀ i, i < n → listed.getD i false = true := fun i hi => by
      cases hx : listed.getD i false with
      | true => rfl
      | false => have := getD_in (by omega) hx; rw [hall i hi] at this; cases this
    refine QeW htail hedge fuel n listed a W (Nat.le_refl _) hn hs inv.closed hall' inv.tail (by rw [hf]; exact count listed hall (fun i h1 h2 => getD_in (by omega) (inv.tail i h1))) ?_
    have hq := QfZ (D := D) (l.take n) E a0 vs 0 [] (hfin W inv.rel) hE (fun i hi => by
      rw [Nat.zero_add]
      exact inv.facts i (hall' i (by omega)) (by omega)) (fun u hu => by cases hu) (fun i k hi hk hin hkn hne => hpr i k hi hk (hall' i (by omega)) (hall' k (by omega)) (by omega) (by omega) hne)
    have heq : QaU (l.take n) vs 0 a0 = a := by
      have hsz := Qcj (l.take n) vs 0 a0
      have ht : (QaU (l.take n) vs 0 a0).tmps = a.tmps := by
        refine Array.ext_getElem? fun t => ?_
        by_cases hw : ∃ (i : Nat) (o : Oper), (l.take n)[i]? = some o ∧ o.dst = some t
        · obtain ⟨i, o, hi, ho⟩ := hw
          have hin : i < n := by have := (List.getElem?_eq_some_iff.1 hi).1; omega
          rw [QbQ (l.take n) vs 0 a0 t i o hdst hN hi ho, Nat.zero_add]
          exact (inv.vals i o t (hall' i hin) hin (by rw [hget i hin] at hi; simpa using hi) ho).symm
        · rw [QbE (l.take n) vs 0 a0 t (fun o ho he => by
            obtain ⟨i, hi⟩ := List.mem_iff_getElem?.1 ho
            exact hw ⟨i, o, hi, he⟩)]
          refine (inv.rest t fun i o _ hin hi he => hw ⟨i, o, by rw [hget i hin]; simpa using hi, he⟩).symm
      have hd := hsz.2.trans inv.defers.symm
      generalize QaU (l.take n) vs 0 a0 = b at *
      cases a; cases b
      simp_all
    rw [heq] at hq
    exact hq
  have main : ∀ (fuel : Nat) (listed : Array Bool) (a : Act) (W : World) (vs : Nat → Value), Inv R w0 a0 l.toArray E n listed a W vs → Qio D n listed vs → fuel = left l.toArray listed → wpAny P .any l.toArray Q fuel listed a W := by
    intro fuel
    induction fuel with
    | zero =>
      intro listed a W vs inv hpr hf
      refine done 0 listed a W vs inv hpr hf fun i hi => ?_
      cases hx : listed.getD i true with
      | true => rfl
      | false =>
        have := Qex (ops := l.toArray) (by simp; omega) hx
        omega
    | succ fuel ih =>
      intro listed a W vs inv hpr hf
      by_cases hA : ∀ i, i < n → listed.getD i true = true
      · exact done _ listed a W vs inv hpr hf hA
      · have hs : listed.size = l.length := by simpa using inv.size
        obtain ⟨i0, hi0, hu0⟩ : ∃ i, i < n ∧ listed.getD i true = false := by
          refine Classical.byContradiction fun hc => hA fun i hi => ?_
          cases hx : listed.getD i true with
          | true => rfl
          | false => exact absurd ⟨i, hi, hx⟩ hc
        refine ⟨fun hr => ?_, fun j hj => ?_⟩
        · obtain ⟨j, hj⟩ := QbP hedge (listed := listed) i0 (by omega) hu0
          rw [hr] at hj; cases hj
        · obtain ⟨hju, oj, hoj, _⟩ := mem_ready.1 hj
          have hoj' : l[j]? = some oj := by simpa using hoj
          have hjl : j < l.length := (List.getElem?_eq_some_iff.1 hoj').1
          have hjn : j < n := by
            rcases Nat.lt_or_ge j n with h | h
            · exact h
            · exfalso
              have h3 := List.all_eq_true.1 htail j (List.mem_range.2 hjl)
              simp only [Bool.or_eq_true, decide_eq_true_eq] at h3
              rcases h3 with h3 | h3
              · omega
              · have h4 := List.all_eq_true.1 h3 i0 (List.mem_range.2 (by omega))
                have := Qbv inv.closed hj (hanc j i0 h4)
                rw [QaV this] at hu0
                cases hu0
          obtain ⟨s, hsj, hso⟩ := QdB (l.take n) S 0 hsrc j oj (by rw [hget j hjn]; exact hoj')
          rw [Nat.zero_add] at hso
          simp only [Qgg, Bool.and_eq_true] at hso
          obtain ⟨hg, hrd⟩ := hso
          have hg' : QcQ l.toArray oj = some s.guard := by simpa using hg
          have holds : ∀ (r : List (Tmp × Option Nat)), r.all (QcU l (masks l #[]) j) = true → Qcs (slots a0) E (slots a) W r := by
            intro r
            induction r with
            | nil => intro _; trivial
            | cons x r ihr =>
              intro hr
              simp only [List.all_cons, Bool.and_eq_true] at hr
              obtain ⟨t, si⟩ := x
              cases si with
              | none =>
                refine ⟨?_, ihr hr.2⟩
                have h1 := hr.1
                simp only [QcU] at h1
                have h2 : a.tmps[t]? = a0.tmps[t]? := inv.rest t fun i o hli hin hio hd => by
                  have h3 := List.all_eq_true.1 h1 (o, i) (by
                    rw [List.mem_iff_getElem?]
                    refine ⟨i, ?_⟩
                    rw [List.getElem?_zipIdx]
                    have : l[i]? = some o := by simpa using hio
                    simp [this])
                  simp only [hd, bne_self_eq_false, Bool.false_or, Bool.or_eq_true, beq_iff_eq] at h3
                  have hlj : listed.getD j false = true := by
                    rcases h3 with h3 | h3
                    · exact inv.closed.anc (hanc i j h3) hli
                    · rw [← h3]; exact hli
                  rw [QaV hlj] at hju
                  cases hju
                simp only [slots, Array.getD_eq_getD_getElem?, h2]
              | some i =>
                refine ⟨?_, ihr hr.2⟩
                have h1 := hr.1
                simp only [QcU, Bool.and_eq_true, decide_eq_true_eq, beq_iff_eq] at h1
                obtain ⟨⟨hij, hbit⟩, hdi⟩ := h1
                have hli := Qbv inv.closed hj (hanc j i hbit)
                obtain ⟨oi, hoi, hdi'⟩ : ∃ oi, l[i]? = some oi ∧ oi.dst = some t := by
                  cases hx : l[i]? with
                  | none => rw [hx] at hdi; cases hdi
                  | some oi => rw [hx] at hdi; exact ⟨oi, rfl, hdi⟩
                have hv := inv.vals i oi t hli (by omega) (by simpa using hoi) hdi'
                have : slots a t = vs i := by simp only [slots, Array.getD_eq_getD_getElem?, hv, Option.getD_some]
                rw [this]
                exact inv.facts i hli (by omega)
          have hopj := hop j oj s (by rw [hget j hjn]; exact hoj') hsj (slots a) W inv.rel (holds s.reads hrd)
          have next : ∀ v W', R W W' → ((E.getD j fun _ _ => True) v W' ∧ (j ∈ D → Qfh W v)) → wpAny P .any l.toArray Q fuel (listed.setIfInBounds j true) (a.put oj.dst v) W' := by
            intro v W' hR ⟨hφ, hfresh⟩
            have hjs : j < listed.size := by omega
            have hlist : ∀ i, (listed.setIfInBounds j true).getD i false = true → i = j ∨ listed.getD i false = true := fun i hi => by
              by_cases hij : j = i
              · exact .inl hij.symm
              · rw [getD_set_ne false hij] at hi; exact .inr hi
            refine ih _ _ W' (fun i => if i = j then v else vs i) ⟨by simp [inv.size], inv.closed.set hj, htr inv.rel hR, (Qc5 _ _ _).trans inv.defers, (Qdc _ _ _).trans inv.asize, ?_, ?_, ?_, ?_⟩ ?_ ?_
            · intro i hi hin
              by_cases hij : i = j
              · subst hij; simpa using hφ
              · simp only [hij, if_false]
                rcases hlist i hi with h | h
                · exact absurd h hij
                · exact hstg i _ _ _ hR (inv.facts i h hin)
            · intro i o d hi hin hio hd
              by_cases hij : i = j
              · subst hij
                obtain rfl : o = oj := Option.some.inj (hio.symm.trans hoj)
                rw [hd, Qc4 _ _ _ (by rw [inv.asize, hN]; exact Qed (l.take n) hdst i o d (by rw [hget i hin]; exact hoj') hd)]
                simp
              · simp only [hij, if_false]
                rcases hlist i hi with h | h
                · exact absurd h hij
                · rw [QbC _ _ _ _ (Qec (l.take n) hdst i j o oj d (by rw [hget i hin]; simpa using hio) (by rw [hget j hjn]; exact hoj') hij hd)]
                  exact inv.vals i o d h hin hio hd
            · intro t ht
              rw [QbC _ _ _ _ (ht j oj (by simp [Array.getElem?_setIfInBounds_self_of_lt hjs]) hjn hoj)]
              exact inv.rest t fun i o hi hin hio => ht i o (getD_set_true hi) hin hio
            · intro i hi
              rw [getD_set_ne false (by omega)]
              exact inv.tail i hi
            · have old : ∀ k, k ∈ D → listed.getD k false = true → k < n → j ∈ D → Qdj (vs k) v := fun k hk hl hkn hjD he => by
                cases hg : (vs k).ownBlock with
                | none => rfl
                | some g =>
                  have h1 := hB k hk _ _ (inv.facts k hl hkn) g hg
                  have h2 := hfresh hjD g (he.symm.trans hg)
                  omega
              intro i k hi hk hli hlk hin hkn hne
              by_cases hij : i = j
              · by_cases hkj : k = j
                · exact absurd (hij.trans hkj.symm) hne
                · simp only [hij, hkj, if_true, if_false]
                  exact Qdj.symm (old k hk ((hlist k hlk).resolve_left hkj) hkn (hij ▸ hi))
              · by_cases hkj : k = j
                · simp only [hij, hkj, if_true, if_false]
                  exact old i hi ((hlist i hli).resolve_left hij) hin (hkj ▸ hk)
                · simp only [hij, hkj, if_false]
                  exact hpr i k hi hk ((hlist i hli).resolve_left hij) ((hlist k hlk).resolve_left hkj) hin hkn hne
            · have := Qd1 hju inv.size
              omega
          refine QbT hoj ?_
          rw [QbK hg']
          have hrel : gOk s.guard (slots a) = true → Qcd P R oj (slots a) W (fun v W' => (E.getD j fun _ _ => True) v W' ∧ (j ∈ D → Qfh W v)) := fun hb => by
            by_cases hjD : j ∈ D
            · exact Qfa ((hfr j hjD oj s hoj' hsj).2 (slots a) W inv.rel (holds s.reads hrd)) fun v W' h => ⟨h.1, fun _ => h.2⟩
            · refine Qfa (φ := E.getD j fun _ _ => True) ?_ fun v W' h => ⟨h, fun hc => absurd hc hjD⟩
              cases hgd' : s.guard with
              | none => rw [hgd'] at hopj; exact hopj
              | some db => rw [hgd'] at hopj hb; exact (if_pos hb).mp hopj
          by_cases hb : gOk s.guard (slots a) = true
          · rw [if_pos hb]
            exact QeC (R := R) (W := W) (φ := fun v W' => (E.getD j fun _ _ => True) v W' ∧ (j ∈ D → Qfh W v)) (fun {_ _ _} h1 h2 => htr h1 h2) (hrel hb) next
          · rw [if_neg hb]
            refine next undef W (hrf W) ⟨?_, fun hjD => absurd (hfr j hjD oj s hoj' hsj).1 (fun e => hb (by rw [e]; rfl))⟩
            cases hgd' : s.guard with
            | none => rw [hgd'] at hb; exact absurd rfl hb
            | some db =>
              rw [hgd'] at hopj hb
              exact (if_neg hb).mp hopj
  exact main
def QgY {P : Program} {R : World → World → Prop} {Q : Exit → Act → World → Prop} {a : Act} {w : World} {l : List Oper} {n : Nat} {S : List Src} {D : List Nat} (F : List Fact → Prop) : Prop :=
  ∀ E, Qdg D E → Qc1 P R w.drew (slots a) l S D E → (∀ W, R w.drew W → Qgy (fun a W => wpList P l.toArray Q (l.drop n) a W) D (l.take n) E 0 [] a W) → F E
theorem QgY.out {P : Program} {R : World → World → Prop} {Q : Exit → Act → World → Prop} {a : Act} {w : World} {l : List Oper} {n : Nat} {S : List Src} {D : List Nat} {F : List Fact → Prop} (h : QgY (P := P) (R := R) (Q := Q) (a := a) (w := w) (l := l) (n := n) (S := S) (D := D) F) {E : List Fact} (b : Qdg D E) (fr : Qc1 P R w.drew (slots a) l S D E)
    (k : ∀ W, R w.drew W → Qgy (fun a W => wpList P l.toArray Q (l.drop n) a W) D (l.take n) E 0 [] a W) : F E := h E b fr k
theorem Qe0 {id : Nat} {Q : Exit → Act → World → Prop} {a : Act} {w : World} {l : List Oper} (R : World → World → Prop) (n N : Nat) (S : List Src) (D : List Nat) (hm : P.follows .mixedOrders = true) (hok : ok l n N S = true) (hN : a.tmps.size = N)
    (hrf : ∀ a, R a a) (htr : ∀ {a b c : World}, R a b → R b c → R a c)
    (h : ∀ (F : List Fact → Prop) (r0 : Tmp → Value), r0 = slots a → QgY (P := P) (R := R) (Q := Q) (a := a) (w := w) (l := l) (n := n) (S := S) (D := D) F → relies P R w.drew r0 F (l.take n) S []) : (Code.region id l.toArray true).wp P Q a w := by
  have hok' := hok
  simp only [ok, Bool.and_eq_true, decide_eq_true_eq] at hok'
  obtain ⟨⟨⟨⟨⟨hn, hsrc⟩, hdst⟩, hedge⟩, htail⟩, hdt⟩ := hok'
  obtain ⟨E, hl, _, hst, hop, hB, hfr, hfin⟩ := QcL (M := masks l #[]) (l.take n) S [] (h (fun E => Qdg D E ∧ Qc1 P R w.drew (slots a) l S D E ∧ ∀ W, R w.drew W → Qgy (fun a W => wpList P l.toArray Q (l.drop n) a W) D (l.take n) E 0 [] a W) _ rfl (show QgY _ from fun _ b fr h => ⟨b, fr, h⟩)) hsrc (fun _ h => by cases h)
  refine wp_region_any hm ?_
  have hcount : l.toArray.size = left l.toArray (Array.replicate l.toArray.size false) := by
    unfold left
    have : ∀ m, m ≤ l.toArray.size → (List.range m).countP (fun i => !(Array.replicate l.toArray.size false).getD i true) = m := by
      intro m
      induction m with
      | zero => intro _; simp
      | succ m ih =>
        intro hm
        rw [List.range_succ, List.countP_append, ih (by omega), List.countP_singleton]
        have : (Array.replicate l.toArray.size false).getD m true = false := by simp at hm ⊢; simp [show m < l.length by omega]
        simp only [this, Bool.not_false, if_true]
    exact (this _ (Nat.le_refl _)).symm
  refine QeQ (R := R) (w0 := w.drew) (a0 := a) hB hfr hok hN hrf htr (by simpa using hl) hst (fun j o s hj hs => by simpa using hop j o s hj hs) hfin _ _ a _ (fun _ => undef) ⟨by simp, ?_, hrf _, rfl, rfl, ?_, ?_, ?_, ?_⟩ ?_ hcount
  · intro j o ho hl
    rw [getD_replicate_false] at hl; cases hl
  · intro i hi; rw [getD_replicate_false] at hi; cases hi
  · intro i o d hi; rw [getD_replicate_false] at hi; cases hi
  · intro t _; rfl
  · intro i _; exact getD_replicate_false _ _
  · intro i k _ _ hi; rw [getD_replicate_false] at hi; cases hi
end
variable {ds : List Deferred}
def Qd6 (Q : Env → World → Prop) (D : List Nat) : List Oper → List KE → Nat → List Value → Env → World → Prop
  | o :: os, .is c :: C, k, acc, L, W => bif D.contains k then ((∀ u ∈ acc, Qdj u c) → Qd6 Q D os C (k + 1) (acc ++ [c]) (up o.dst c L) W) else Qd6 Q D os C (k + 1) acc (up o.dst c L) W
  | o :: os, .ex φ :: C, k, acc, L, W => bif D.contains k then (∀ v, φ v W → (∀ u ∈ acc, Qdj u v) → Qd6 Q D os C (k + 1) (acc ++ [v]) (up o.dst v L) W) else (∀ v, φ v W → Qd6 Q D os C (k + 1) acc (up o.dst v L) W)
  | _, _, _, _, L, W => Q L W
theorem Qga {Q : Act → World → Prop} {D : List Nat} {N : Nat} {W : World} : ∀ (os : List Oper) (C : List KE) (k : Nat) (acc : List Value) (L : Env), Qd6 (fun L W => Q (Qa0 ds N L) W) D os C k acc L W → Qgy Q D os (C.map KE.fact) k acc (Qa0 ds N L) W
  | [], C, _, _, L, h => by cases C <;> exact h
  | _ :: _, [], _, _, L, h => h
  | o :: os, .is c :: C, k, acc, L, h => by
    intro v hv ha
    obtain rfl : v = c := hv
    rw [QeD]
    unfold Qd6 at h
    cases hk : D.contains k with
    | true => rw [hk] at h ha; rw [if_pos rfl]; exact Qga os C _ _ _ (h (ha rfl))
    | false => rw [hk] at h; rw [if_neg (by decide)]; exact Qga os C _ _ _ h
  | o :: os, .ex φ :: C, k, acc, L, h => by
    intro v hv ha
    rw [QeD]
    unfold Qd6 at h
    cases hk : D.contains k with
    | true => rw [hk] at h ha; rw [if_pos rfl]; exact Qga os C _ _ _ (h v hv (ha rfl))
    | false => rw [hk] at h; rw [if_neg (by decide)]; exact Qga os C _ _ _ (h v hv)
theorem QcX {Q Q' : Env → World → Prop} {D : List Nat} (h : ∀ L W, Q L W → Q' L W) : ∀ (os : List Oper) (C : List KE) (k : Nat) (acc : List Value) (L : Env) (W : World), Qd6 Q D os C k acc L W → Qd6 Q' D os C k acc L W
  | [], C, _, _, L, W, q => by cases C <;> exact h _ _ q
  | _ :: _, [], _, _, L, W, q => h _ _ q
  | o :: os, .is c :: C, k, acc, L, W, q => by
    unfold Qd6 at q ⊢
    cases hk : D.contains k with
    | true => rw [hk] at q; exact fun ha => QcX h os C _ _ _ W (q ha)
    | false => rw [hk] at q; exact QcX h os C _ _ _ W q
  | o :: os, .ex φ :: C, k, acc, L, W, q => by
    unfold Qd6 at q ⊢
    cases hk : D.contains k with
    | true => rw [hk] at q; exact fun v hv ha => QcX h os C _ _ _ W (q v hv ha)
    | false => rw [hk] at q; exact fun v hv => QcX h os C _ _ _ W (q v hv)
theorem Qeo {P : Program} {id : Nat} {Q : Exit → Act → World → Prop} {N : Nat} {L : Env} {w : World} {l : List Oper} (n : Nat) (S : List Src) (D : List Nat) (hm : P.follows .mixedOrders = true) (hok : ok l n N S = true)
    (h : ∀ F : List KE → Prop, (∀ C, Qdg D (C.map KE.fact) → Qc1 P Ext w.drew (envN N L) l S D (C.map KE.fact) → (∀ W, Ext w W → Qd6 (fun L W => WL P l.toArray Q (l.drop n) (Qa0 ds N L) W) D (l.take n) C 0 [] L W) → F C) → Qbt P Ext w.drew N L F (l.take n) S []) :
    (Code.region id l.toArray true).wp P Q (Qa0 ds N L) w := by
  refine Qe0 Ext n N S D hm hok (Qc2 N L) Rely.Ext.refl (fun a b => Rely.Ext.trans a b) fun F r0 hr hF => ?_
  rw [QbB] at hr
  subst hr
  have := h (fun C => Qdg D (C.map KE.fact) ∧ Qc1 P Ext w.drew (envN N L) l S D (C.map KE.fact) ∧ ∀ W, Ext w.drew W → Qd6 (fun L W => WL P l.toArray Q (l.drop n) (Qa0 ds N L) W) D (l.take n) C 0 [] L W) (fun C a b c => ⟨a, b, fun W hR => c W (Rely.Ext.trans (Qai w) hR)⟩)
  exact Qcg (G := F) (fun C h => hF.out h.1 (by rw [QbB]; exact h.2.1) fun W hR => Qga (Q := fun a W => wpList P l.toArray Q (l.drop n) a W) _ _ _ _ _ (QcX (fun L W h => h.out) _ _ _ _ _ _ (h.2.2 W hR))) _ _ [] this
theorem Qjs {E : List Fact} : Qdg [] E := fun j hj => by cases hj
theorem Qfz {E : List Fact} {D : List Nat} {j : Nat} (h : ∀ u W, (E.getD j fun _ _ => True) u W → ∀ g, u.ownBlock = some g → g < W.heap.size) (t : Qdg D E) : Qdg (j :: D) E := fun i hi => by
  rcases List.mem_cons.1 hi with rfl | hi
  · exact h
  · exact t i hi
section
variable {P : Program} {R : World → World → Prop} {w0 : World} {r0 : Tmp → Value} {l : List Oper} {S : List Src} {E : List Fact}
theorem Qjp : Qc1 P R w0 r0 l S [] E := fun j hj => by cases hj
theorem Qfw {D : List Nat} {j : Nat} {o : Oper} {s : Src} (ho : l[j]? = some o) (hs : S[j]? = some s) (h : Qgv P R w0 r0 E o s (E.getD j fun _ _ => True)) (t : Qc1 P R w0 r0 l S D E) : Qc1 P R w0 r0 l S (j :: D) E := fun i hi o' s' ho' hs' => by
  rcases List.mem_cons.1 hi with rfl | hi
  · obtain rfl := Option.some.inj (ho.symm.trans ho')
    obtain rfl := Option.some.inj (hs.symm.trans hs')
    exact h
  · exact t i hi o' s' ho' hs'
end
theorem Qez {P : Program} {w0 : World} {N : Nat} {L : Env} {o : Oper} {s : Src} {C : List KE} (φ : Fact) (f : FuncId) (args : Array Value) (hs : seen (C.map KE.kn) o s = true) (hg : s.guard = none)
    (h : ∀ W, (execOp (Rely.look (get (envS N L ((C.map KE.kn).map Kn.val) s.reads))) o).run P W = .ok (.enter f args) W) (hc : ∀ W, Ext w0 W → Calls P f args W (Qcb W (fun v W' => φ v W' ∧ Qfh W v))) :
    Qgv P Ext w0 (envN N L) (C.map KE.fact) o s φ :=
  ⟨hg, fun ρ W hR hh => by
    have hh' : Qcs (envN N L) ((C.map KE.kn).map (Kn.fact 0)) ρ W s.reads := by
      refine QfX s.reads ?_ hh
      have := hs
      simp only [seen, Bool.and_eq_true] at this
      exact this.1.1.2
    unfold Qcd
    rw [Qc6 hs hh', h]
    exact ⟨Rely.Ext.refl _, (hc W hR).mono fun _ _ h => h.fact⟩⟩
end Go.Proofs.YtjldjdlhllgakaaDoor.Auto
end
section
namespace Go.Proofs.YtjldjdlhllgakaaDoor.Ae
open Go Go.RowKit
open Rely Auto Own Sha
set_option linter.unusedVariables false
set_option linter.unusedSimpArgs false
open Sha Cha
theorem cat_st (A : List Value) (x y z : Value) : (A ++ [x] ++ [y] ++ [z]).toArray = cat [A.toArray, #[x], #[y], #[z]] := by
  apply Array.ext'
  simp [cat]
theorem QiN (n0 : Nat) (t : List Int) (v : Value) (B : Nat) (w : World) (hlen : t.length ≤ 900000000) (hr : RdK .u8 B t v w) (h0 : n0 ≤ w.heap.size) : Calls Tryd.prog 10 #[v] w (Qcb w (fun v W' => QaR 5 n0 t v W' ∧ Qfh w v)) :=
  (QiO t v B w hlen hr).mono fun e W' h => by
    obtain ⟨u, h1, h2, h3⟩ := h
    exact ⟨u, h1, h2, h3.base h0, fun g hg => (QaR.own h3).ge hg⟩
set_option maxHeartbeats 4000000 in
theorem QiB (key nonce ctx text : List Int) (a_n a_c a_t : Option Addr) (c_n c_c c_t : Nat) (w : World) (hkl : key.length = 32) (h1 : 1000 < nonce.length) : Calls Tryd.prog 14 #[.agg (cat [ints .u8 key, #[.slice a_n nonce.length c_n], #[.slice a_c ctx.length c_c], #[.slice a_t text.length c_t]])] w (Ret w (.bool true)) := by
  refine enter 31 [(0, .agg (cat [ints .u8 (key), #[.slice a_n nonce.length c_n], #[.slice a_c ctx.length c_c], #[.slice a_t text.length c_t]]))] Tryd.func14 rfl rfl kj rfl ?_
  refine wp_seq_k fun K1 hK1 => ?_
  refine Qab ?_
  refine Qar (cat [ints .u8 (key), #[.slice a_n nonce.length c_n], #[.slice a_c ctx.length c_c], #[.slice a_t text.length c_t]]) 33 1 rfl kj kj fun g2 W1 l2 e1 r2_1 => ?_
  have x1 : Ext w W1 := Ext.tr (Rely.Ext.refl w) e1
  have b2 : w.heap.size ≤ g2 := Nat.le_trans (Rely.Ext.refl w).size l2
  refine Qaa (.bool false) 2 rfl kj kj ?_
  refine Qac ?_
  refine hK1 _ _ ?_
  refine wp_seq_k fun K3 hK3 => ?_
  refine Qab ?_
  refine Qaa (.pointer (some ⟨g2, 32, none⟩)) 3 rfl kj kj ?_
  refine Qaa (.slice a_n nonce.length c_n) 4 rfl kj (Qae 24 _ g2 32 33 _ (.slice a_n nonce.length c_n) _ r2_1 rfl kj (QaF [ints .u8 (key)] [#[.slice a_n nonce.length c_n]] [#[.slice a_c ctx.length c_c], #[.slice a_t text.length c_t]] 32 ((Qaf _ _).trans hkl) 0 _ rfl) kj) ?_
  refine Qaa (.int .i64 ((nonce.length : Nat) : Int)) 5 rfl kj kj ?_
  refine Qaa (.bool true) 6 rfl kj (Qah (u := .bool (decide (((nonce.length : Nat) : Int) > 1000))) kj (congrArg Value.bool (decide_eq_true (by omega)))) ?_
  refine Qaa (.bool true) 7 rfl kj kj ?_
  refine Qas 8 rfl kj ?_
  refine Qas 9 rfl kj ?_
  refine Qas 10 rfl kj ?_
  refine Qas 11 rfl kj ?_
  refine Qas 12 rfl kj ?_
  refine Qas 13 rfl kj ?_
  refine Qas 14 rfl kj ?_
  refine Qas 15 rfl kj ?_
  refine Qas 16 rfl kj ?_
  refine Qas 17 rfl kj ?_
  refine Qaa (.bool true) 18 rfl kj kj ?_
  refine Qaa (.bool true) 19 rfl kj kj ?_
  refine Qas 20 rfl kj ?_
  refine Qas 21 rfl kj ?_
  refine Qas 22 rfl kj ?_
  refine Qas 23 rfl kj ?_
  refine Qas 24 rfl kj ?_
  refine Qas 25 rfl kj ?_
  refine Qas 26 rfl kj ?_
  refine Qas 27 rfl kj ?_
  refine Qas 28 rfl kj ?_
  refine Qas 29 rfl kj ?_
  refine Qaa (.bool true) 30 rfl kj kj ?_
  refine Qaa (.bool true) 2 rfl kj kj ?_
  refine Qac ?_
  refine hK3 _ _ ?_
  refine wp_ret ?_
  repeat (first | with_reducible refine goR1 ?_ | with_reducible refine goR2 ?_)
  exact (show bodyPost _ _ _ .ret _ _ from ret1 (.bool true) rfl (QaC kj) ⟨rfl, x1⟩)
set_option maxHeartbeats 4000000 in
theorem QiA (key nonce ctx text : List Int) (a_n a_c a_t : Option Addr) (c_n c_c c_t : Nat) (w : World) (hkl : key.length = 32) (h1 : nonce.length ≤ 1000) (h2 : 500 < ctx.length) (h3 : ctx.length ≤ 1048576) : Calls Tryd.prog 14 #[.agg (cat [ints .u8 key, #[.slice a_n nonce.length c_n], #[.slice a_c ctx.length c_c], #[.slice a_t text.length c_t]])] w (Ret w (.bool true)) := by
  refine enter 31 [(0, .agg (cat [ints .u8 (key), #[.slice a_n nonce.length c_n], #[.slice a_c ctx.length c_c], #[.slice a_t text.length c_t]]))] Tryd.func14 rfl rfl kj rfl ?_
  refine wp_seq_k fun K1 hK1 => ?_
  refine Qab ?_
  refine Qar (cat [ints .u8 (key), #[.slice a_n nonce.length c_n], #[.slice a_c ctx.length c_c], #[.slice a_t text.length c_t]]) 33 1 rfl kj kj fun g2 W1 l2 e1 r2_1 => ?_
  have x1 : Ext w W1 := Ext.tr (Rely.Ext.refl w) e1
  have b2 : w.heap.size ≤ g2 := Nat.le_trans (Rely.Ext.refl w).size l2
  refine Qaa (.bool false) 2 rfl kj kj ?_
  refine Qac ?_
  refine hK1 _ _ ?_
  refine wp_seq_k fun K3 hK3 => ?_
  refine Qab ?_
  refine Qaa (.pointer (some ⟨g2, 32, none⟩)) 3 rfl kj kj ?_
  refine Qaa (.slice a_n nonce.length c_n) 4 rfl kj (Qae 24 _ g2 32 33 _ (.slice a_n nonce.length c_n) _ r2_1 rfl kj (QaF [ints .u8 (key)] [#[.slice a_n nonce.length c_n]] [#[.slice a_c ctx.length c_c], #[.slice a_t text.length c_t]] 32 ((Qaf _ _).trans hkl) 0 _ rfl) kj) ?_
  refine Qaa (.int .i64 ((nonce.length : Nat) : Int)) 5 rfl kj kj ?_
  refine Qaa (.bool false) 6 rfl kj (Qah (u := .bool (decide (((nonce.length : Nat) : Int) > 1000))) kj (congrArg Value.bool (decide_eq_false (by omega)))) ?_
  refine Qaa (.bool false) 7 rfl kj kj ?_
  refine Qaa (.pointer (some ⟨g2, 33, none⟩)) 8 rfl kj kj ?_
  refine Qaa (.slice a_c ctx.length c_c) 9 rfl kj (Qae 24 _ g2 33 33 _ (.slice a_c ctx.length c_c) _ r2_1 rfl kj (QaF [ints .u8 (key), #[.slice a_n nonce.length c_n]] [#[.slice a_c ctx.length c_c]] [#[.slice a_t text.length c_t]] 33 (by rw [Qao, Qao]; simp only [Array.size_append, cat, ((Qaf _ _).trans hkl)]; rfl) 0 _ rfl) kj) ?_
  refine Qaa (.int .i64 ((ctx.length : Nat) : Int)) 10 rfl kj kj ?_
  refine Qaa (.bool true) 11 rfl kj (Qah (u := .bool (decide (((ctx.length : Nat) : Int) > 500))) kj (congrArg Value.bool (decide_eq_true (by omega)))) ?_
  refine Qaa (.bool true) 12 rfl kj kj ?_
  refine Qaa (.pointer (some ⟨g2, 33, none⟩)) 13 rfl kj kj ?_
  refine Qaa (.slice a_c ctx.length c_c) 14 rfl kj (Qae 24 _ g2 33 33 _ (.slice a_c ctx.length c_c) _ r2_1 rfl kj (QaF [ints .u8 (key), #[.slice a_n nonce.length c_n]] [#[.slice a_c ctx.length c_c]] [#[.slice a_t text.length c_t]] 33 (by rw [Qao, Qao]; simp only [Array.size_append, cat, ((Qaf _ _).trans hkl)]; rfl) 0 _ rfl) kj) ?_
  refine Qaa (.int .i64 ((ctx.length : Nat) : Int)) 15 rfl kj kj ?_
  refine Qaa (.bool true) 16 rfl kj (Qah (u := .bool (decide (((ctx.length : Nat) : Int) ≤ 1048576))) kj (congrArg Value.bool (decide_eq_true (by omega)))) ?_
  refine Qaa (.bool true) 17 rfl kj kj ?_
  refine Qaa (.bool true) 18 rfl kj kj ?_
  refine Qaa (.bool true) 19 rfl kj kj ?_
  refine Qas 20 rfl kj ?_
  refine Qas 21 rfl kj ?_
  refine Qas 22 rfl kj ?_
  refine Qas 23 rfl kj ?_
  refine Qas 24 rfl kj ?_
  refine Qas 25 rfl kj ?_
  refine Qas 26 rfl kj ?_
  refine Qas 27 rfl kj ?_
  refine Qas 28 rfl kj ?_
  refine Qas 29 rfl kj ?_
  refine Qaa (.bool true) 30 rfl kj kj ?_
  refine Qaa (.bool true) 2 rfl kj kj ?_
  refine Qac ?_
  refine hK3 _ _ ?_
  refine wp_ret ?_
  repeat (first | with_reducible refine goR1 ?_ | with_reducible refine goR2 ?_)
  exact (show bodyPost _ _ _ .ret _ _ from ret1 (.bool true) rfl (QaC kj) ⟨rfl, x1⟩)
set_option maxHeartbeats 4000000 in
theorem Qi9 (key nonce ctx text : List Int) (a_n a_c a_t : Option Addr) (c_n c_c c_t : Nat) (w : World) (hkl : key.length = 32) (h1 : nonce.length ≤ 1000) (h2 : ctx.length ≤ 500) (h3 : 500 < text.length) (h4 : text.length ≤ 1048576) : Calls Tryd.prog 14 #[.agg (cat [ints .u8 key, #[.slice a_n nonce.length c_n], #[.slice a_c ctx.length c_c], #[.slice a_t text.length c_t]])] w (Ret w (.bool true)) := by
  refine enter 31 [(0, .agg (cat [ints .u8 (key), #[.slice a_n nonce.length c_n], #[.slice a_c ctx.length c_c], #[.slice a_t text.length c_t]]))] Tryd.func14 rfl rfl kj rfl ?_
  refine wp_seq_k fun K1 hK1 => ?_
  refine Qab ?_
  refine Qar (cat [ints .u8 (key), #[.slice a_n nonce.length c_n], #[.slice a_c ctx.length c_c], #[.slice a_t text.length c_t]]) 33 1 rfl kj kj fun g2 W1 l2 e1 r2_1 => ?_
  have x1 : Ext w W1 := Ext.tr (Rely.Ext.refl w) e1
  have b2 : w.heap.size ≤ g2 := Nat.le_trans (Rely.Ext.refl w).size l2
  refine Qaa (.bool false) 2 rfl kj kj ?_
  refine Qac ?_
  refine hK1 _ _ ?_
  refine wp_seq_k fun K3 hK3 => ?_
  refine Qab ?_
  refine Qaa (.pointer (some ⟨g2, 32, none⟩)) 3 rfl kj kj ?_
  refine Qaa (.slice a_n nonce.length c_n) 4 rfl kj (Qae 24 _ g2 32 33 _ (.slice a_n nonce.length c_n) _ r2_1 rfl kj (QaF [ints .u8 (key)] [#[.slice a_n nonce.length c_n]] [#[.slice a_c ctx.length c_c], #[.slice a_t text.length c_t]] 32 ((Qaf _ _).trans hkl) 0 _ rfl) kj) ?_
  refine Qaa (.int .i64 ((nonce.length : Nat) : Int)) 5 rfl kj kj ?_
  refine Qaa (.bool false) 6 rfl kj (Qah (u := .bool (decide (((nonce.length : Nat) : Int) > 1000))) kj (congrArg Value.bool (decide_eq_false (by omega)))) ?_
  refine Qaa (.bool false) 7 rfl kj kj ?_
  refine Qaa (.pointer (some ⟨g2, 33, none⟩)) 8 rfl kj kj ?_
  refine Qaa (.slice a_c ctx.length c_c) 9 rfl kj (Qae 24 _ g2 33 33 _ (.slice a_c ctx.length c_c) _ r2_1 rfl kj (QaF [ints .u8 (key), #[.slice a_n nonce.length c_n]] [#[.slice a_c ctx.length c_c]] [#[.slice a_t text.length c_t]] 33 (by rw [Qao, Qao]; simp only [Array.size_append, cat, ((Qaf _ _).trans hkl)]; rfl) 0 _ rfl) kj) ?_
  refine Qaa (.int .i64 ((ctx.length : Nat) : Int)) 10 rfl kj kj ?_
  refine Qaa (.bool false) 11 rfl kj (Qah (u := .bool (decide (((ctx.length : Nat) : Int) > 500))) kj (congrArg Value.bool (decide_eq_false (by omega)))) ?_
  refine Qaa (.bool false) 12 rfl kj kj ?_
  refine Qas 13 rfl kj ?_
  refine Qas 14 rfl kj ?_
  refine Qas 15 rfl kj ?_
  refine Qas 16 rfl kj ?_
  refine Qaa (.bool false) 17 rfl kj kj ?_
  refine Qaa (.bool false) 18 rfl kj kj ?_
  refine Qaa (.bool false) 19 rfl kj kj ?_
  refine Qaa (.pointer (some ⟨g2, 34, none⟩)) 20 rfl kj kj ?_
  refine Qaa (.slice a_t text.length c_t) 21 rfl kj (Qae 24 _ g2 34 33 _ (.slice a_t text.length c_t) _ r2_1 rfl kj (QaF [ints .u8 (key), #[.slice a_n nonce.length c_n], #[.slice a_c ctx.length c_c]] [#[.slice a_t text.length c_t]] [] 34 (by rw [Qao, Qao, Qao]; simp only [Array.size_append, cat, ((Qaf _ _).trans hkl)]; rfl) 0 _ rfl) kj) ?_
  refine Qaa (.int .i64 ((text.length : Nat) : Int)) 22 rfl kj kj ?_
  refine Qaa (.bool true) 23 rfl kj (Qah (u := .bool (decide (((text.length : Nat) : Int) > 500))) kj (congrArg Value.bool (decide_eq_true (by omega)))) ?_
  refine Qaa (.bool true) 24 rfl kj kj ?_
  refine Qaa (.pointer (some ⟨g2, 34, none⟩)) 25 rfl kj kj ?_
  refine Qaa (.slice a_t text.length c_t) 26 rfl kj (Qae 24 _ g2 34 33 _ (.slice a_t text.length c_t) _ r2_1 rfl kj (QaF [ints .u8 (key), #[.slice a_n nonce.length c_n], #[.slice a_c ctx.length c_c]] [#[.slice a_t text.length c_t]] [] 34 (by rw [Qao, Qao, Qao]; simp only [Array.size_append, cat, ((Qaf _ _).trans hkl)]; rfl) 0 _ rfl) kj) ?_
  refine Qaa (.int .i64 ((text.length : Nat) : Int)) 27 rfl kj kj ?_
  refine Qaa (.bool true) 28 rfl kj (Qah (u := .bool (decide (((text.length : Nat) : Int) ≤ 1048576))) kj (congrArg Value.bool (decide_eq_true (by omega)))) ?_
  refine Qaa (.bool true) 29 rfl kj kj ?_
  refine Qaa (.bool true) 30 rfl kj kj ?_
  refine Qaa (.bool true) 2 rfl kj kj ?_
  refine Qac ?_
  refine hK3 _ _ ?_
  refine wp_ret ?_
  repeat (first | with_reducible refine goR1 ?_ | with_reducible refine goR2 ?_)
  exact (show bodyPost _ _ _ .ret _ _ from ret1 (.bool true) rfl (QaC kj) ⟨rfl, x1⟩)
set_option maxHeartbeats 4000000 in
theorem Qey (key nonce ctx text : List Int) (a_n a_c a_t : Option Addr) (c_n c_c c_t : Nat) (w : World) (hkl : key.length = 32) (h1 : nonce.length ≤ 1000) (h2 : ctx.length ≤ 500) (h3 : text.length ≤ 500) : Calls Tryd.prog 14 #[.agg (cat [ints .u8 key, #[.slice a_n nonce.length c_n], #[.slice a_c ctx.length c_c], #[.slice a_t text.length c_t]])] w (Ret w (.bool false)) := by
  refine enter 31 [(0, .agg (cat [ints .u8 (key), #[.slice a_n nonce.length c_n], #[.slice a_c ctx.length c_c], #[.slice a_t text.length c_t]]))] Tryd.func14 rfl rfl kj rfl ?_
  refine wp_seq_k fun K1 hK1 => ?_
  refine Qab ?_
  refine Qar (cat [ints .u8 (key), #[.slice a_n nonce.length c_n], #[.slice a_c ctx.length c_c], #[.slice a_t text.length c_t]]) 33 1 rfl kj kj fun g2 W1 l2 e1 r2_1 => ?_
  have x1 : Ext w W1 := Ext.tr (Rely.Ext.refl w) e1
  have b2 : w.heap.size ≤ g2 := Nat.le_trans (Rely.Ext.refl w).size l2
  refine Qaa (.bool false) 2 rfl kj kj ?_
  refine Qac ?_
  refine hK1 _ _ ?_
  refine wp_seq_k fun K3 hK3 => ?_
  refine Qab ?_
  refine Qaa (.pointer (some ⟨g2, 32, none⟩)) 3 rfl kj kj ?_
  refine Qaa (.slice a_n nonce.length c_n) 4 rfl kj (Qae 24 _ g2 32 33 _ (.slice a_n nonce.length c_n) _ r2_1 rfl kj (QaF [ints .u8 (key)] [#[.slice a_n nonce.length c_n]] [#[.slice a_c ctx.length c_c], #[.slice a_t text.length c_t]] 32 ((Qaf _ _).trans hkl) 0 _ rfl) kj) ?_
  refine Qaa (.int .i64 ((nonce.length : Nat) : Int)) 5 rfl kj kj ?_
  refine Qaa (.bool false) 6 rfl kj (Qah (u := .bool (decide (((nonce.length : Nat) : Int) > 1000))) kj (congrArg Value.bool (decide_eq_false (by omega)))) ?_
  refine Qaa (.bool false) 7 rfl kj kj ?_
  refine Qaa (.pointer (some ⟨g2, 33, none⟩)) 8 rfl kj kj ?_
  refine Qaa (.slice a_c ctx.length c_c) 9 rfl kj (Qae 24 _ g2 33 33 _ (.slice a_c ctx.length c_c) _ r2_1 rfl kj (QaF [ints .u8 (key), #[.slice a_n nonce.length c_n]] [#[.slice a_c ctx.length c_c]] [#[.slice a_t text.length c_t]] 33 (by rw [Qao, Qao]; simp only [Array.size_append, cat, ((Qaf _ _).trans hkl)]; rfl) 0 _ rfl) kj) ?_
  refine Qaa (.int .i64 ((ctx.length : Nat) : Int)) 10 rfl kj kj ?_
  refine Qaa (.bool false) 11 rfl kj (Qah (u := .bool (decide (((ctx.length : Nat) : Int) > 500))) kj (congrArg Value.bool (decide_eq_false (by omega)))) ?_
  refine Qaa (.bool false) 12 rfl kj kj ?_
  refine Qas 13 rfl kj ?_
  refine Qas 14 rfl kj ?_
  refine Qas 15 rfl kj ?_
  refine Qas 16 rfl kj ?_
  refine Qaa (.bool false) 17 rfl kj kj ?_
  refine Qaa (.bool false) 18 rfl kj kj ?_
  refine Qaa (.bool false) 19 rfl kj kj ?_
  refine Qaa (.pointer (some ⟨g2, 34, none⟩)) 20 rfl kj kj ?_
  refine Qaa (.slice a_t text.length c_t) 21 rfl kj (Qae 24 _ g2 34 33 _ (.slice a_t text.length c_t) _ r2_1 rfl kj (QaF [ints .u8 (key), #[.slice a_n nonce.length c_n], #[.slice a_c ctx.length c_c]] [#[.slice a_t text.length c_t]] [] 34 (by rw [Qao, Qao, Qao]; simp only [Array.size_append, cat, ((Qaf _ _).trans hkl)]; rfl) 0 _ rfl) kj) ?_
  refine Qaa (.int .i64 ((text.length : Nat) : Int)) 22 rfl kj kj ?_
  refine Qaa (.bool false) 23 rfl kj (Qah (u := .bool (decide (((text.length : Nat) : Int) > 500))) kj (congrArg Value.bool (decide_eq_false (by omega)))) ?_
  refine Qaa (.bool false) 24 rfl kj kj ?_
  refine Qas 25 rfl kj ?_
  refine Qas 26 rfl kj ?_
  refine Qas 27 rfl kj ?_
  refine Qas 28 rfl kj ?_
  refine Qaa (.bool false) 29 rfl kj kj ?_
  refine Qaa (.bool false) 30 rfl kj kj ?_
  refine Qaa (.bool false) 2 rfl kj kj ?_
  refine Qac ?_
  refine hK3 _ _ ?_
  refine wp_ret ?_
  repeat (first | with_reducible refine goR1 ?_ | with_reducible refine goR2 ?_)
  exact (show bodyPost _ _ _ .ret _ _ from ret1 (.bool false) rfl (QaC kj) ⟨rfl, x1⟩)
set_option maxRecDepth 100000 in
set_option maxHeartbeats 4000000 in
theorem Qea (key nonce ctx text : List Int) (a_n a_c a_t : Option Addr) (c_n c_c c_t : Nat) (th tq : TypeId) (w : World) (hh : w.heap[0]? = some (.cells (ints .u32 [1634760805, 857760878, 2036477234, 1797285236]) th)) (hq : w.heap[1]? = some (.cells (ints .i64 [0, 4, 8, 12, 1, 5, 9, 13, 2, 6, 10, 14, 3, 7, 11, 15, 0, 5, 10, 15, 1, 6, 11, 12, 2, 7, 8, 13, 3, 4, 9, 14]) tq)) (hkl : key.length = 32) (hkb : Qaj key) (hnb : Qaj nonce) (hcb : Qaj ctx) (htb : Qaj text) (hn : RdK .u8 w.heap.size nonce (.slice a_n nonce.length c_n) w) (hc : RdK .u8 w.heap.size ctx (.slice a_c ctx.length c_c) w) (ht : RdK .u8 w.heap.size text (.slice a_t text.length c_t) w) (hlg : ∀ W : World, Calls Tryd.prog 14 #[.agg (cat [ints .u8 key, #[.slice a_n nonce.length c_n], #[.slice a_c ctx.length c_c], #[.slice a_t text.length c_t]])] W (Ret W (.bool true))) : Calls Tryd.prog 5 #[.agg (cat [ints .u8 key, #[.slice a_n nonce.length c_n], #[.slice a_c ctx.length c_c], #[.slice a_t text.length c_t]])] w (Ret w (.bool true)) := by
  refine enter 79 [(0, .agg (cat [ints .u8 (key), #[.slice a_n nonce.length c_n], #[.slice a_c ctx.length c_c], #[.slice a_t text.length c_t]]))] Tryd.func5 rfl rfl kj rfl ?_
  refine wp_seq_k fun K3 hK3 => ?_
  refine Qab ?_
  refine Qar (cat [ints .u8 (key), #[.slice a_n nonce.length c_n], #[.slice a_c ctx.length c_c], #[.slice a_t text.length c_t]]) 33 1 rfl kj kj fun g4 W1 l4 e1 r4_1 => ?_
  have x1 : Ext w W1 := Ext.tr (Rely.Ext.refl w) e1
  have b4 : w.heap.size ≤ g4 := Nat.le_trans (Rely.Ext.refl w).size l4
  refine Qaa (.bool false) 2 rfl kj kj ?_
  refine Qac ?_
  refine hK3 _ _ ?_
  refine wp_seq_k fun K5 hK5 => ?_
  refine wp_seq_k fun K6 hK6 => ?_
  refine Qab ?_
  have r2_1 := (Qad hh e1)
  have r1_1 := (Qad hq e1)
  refine Qa6 (.bool true) 9 #[] 10 rfl kj kj ((Qg5 th tq _ r2_1 r1_1)) fun W2 e2 => ?_
  have x2 : Ext w W2 := Ext.tr x1 e2
  refine Qaa (.bool false) 11 rfl kj kj ?_
  refine Qac ?_
  refine hK6 _ _ ?_
  refine cond_false kj ?_
  refine wp_skip ?_
  refine hK5 _ _ ?_
  refine wp_seq_k fun K7 hK7 => ?_
  refine wp_seq_k fun K8 hK8 => ?_
  refine Qab ?_
  have r4_2 := (Qad r4_1 e2)
  refine Qaa (.agg (cat [ints .u8 (key), #[.slice a_n nonce.length c_n], #[.slice a_c ctx.length c_c], #[.slice a_t text.length c_t]])) 12 rfl kj (Qau 33 _ g4 33 _ _ r4_2 rfl kj kj (isz (n := 35) kj (by rw [Qao, Qao, Qao, Qao]; simp only [Array.size_append, cat, ((Qaf _ _).trans hkl)]; rfl))) ?_
  refine Qa6 (.bool true) 14 #[.agg (cat [ints .u8 (key), #[.slice a_n nonce.length c_n], #[.slice a_c ctx.length c_c], #[.slice a_t text.length c_t]])] 13 rfl kj kj ((hlg) _) fun W3 e3 => ?_
  have x3 : Ext w W3 := Ext.tr x2 e3
  refine Qac ?_
  refine hK8 _ _ ?_
  refine cond_true kj ?_
  refine wp_seq_k fun K9 hK9 => ?_
  refine Qab ?_
  refine Qaa (.bool true) 2 rfl kj kj ?_
  refine Qac ?_
  refine hK9 _ _ ?_
  refine wp_ret ?_
  repeat (first | with_reducible refine goR1 ?_ | with_reducible refine goR2 ?_)
  exact (show bodyPost _ _ _ .ret _ _ from ret1 (.bool true) rfl (QaC kj) ⟨rfl, x3⟩)
set_option maxRecDepth 100000 in
set_option maxHeartbeats 4000000 in
theorem QdZ (key nonce ctx text : List Int) (a_n a_c a_t : Option Addr) (c_n c_c c_t : Nat) (th tq : TypeId) (w : World) (hh : w.heap[0]? = some (.cells (ints .u32 [1634760805, 857760878, 2036477234, 1797285236]) th)) (hq : w.heap[1]? = some (.cells (ints .i64 [0, 4, 8, 12, 1, 5, 9, 13, 2, 6, 10, 14, 3, 7, 11, 15, 0, 5, 10, 15, 1, 6, 11, 12, 2, 7, 8, 13, 3, 4, 9, 14]) tq)) (hkl : key.length = 32) (hkb : Qaj key) (hnb : Qaj nonce) (hcb : Qaj ctx) (htb : Qaj text) (hn : RdK .u8 w.heap.size nonce (.slice a_n nonce.length c_n) w) (hc : RdK .u8 w.heap.size ctx (.slice a_c ctx.length c_c) w) (ht : RdK .u8 w.heap.size text (.slice a_t text.length c_t) w) (n : Int) (hn0 : n ≠ 0) (hlg : ∀ W : World, Calls Tryd.prog 14 #[.agg (cat [ints .u8 key, #[.slice a_n nonce.length c_n], #[.slice a_c ctx.length c_c], #[.slice a_t text.length c_t]])] W (Ret W (.bool false))) (l1 : nonce.length ≤ 1000) (l2 : ctx.length ≤ 500) (l3 : text.length ≤ 500) (hO : ∀ (v v2 v3 : Value) (B B2 B3 : Nat) (W : World), W.heap[0]? = some (.cells (ints .u32 [1634760805, 857760878, 2036477234, 1797285236]) th) → W.heap[1]? = some (.cells (ints .i64 [0, 4, 8, 12, 1, 5, 9, 13, 2, 6, 10, 14, 3, 7, 11, 15, 0, 5, 10, 15, 1, 6, 11, 12, 2, 7, 8, 13, 3, 4, 9, 14]) tq) → RdK .u8 B nonce v W → RdK .u8 B2 ctx v2 W → RdK .u8 B3 text v3 W → Calls Tryd.prog 20 #[.agg (ints .u8 key), v, v2, v3] W (Ret W (.tuple #[.slice none 0 0, .iface 45 (.int .i64 n)]))) (hRf : ∀ (v v2 v3 : Value) (B B2 B3 : Nat) (W : World), RdK .u8 B nonce v W → RdK .u8 B2 ctx v2 W → RdK .u8 B3 text v3 W → Calls Tryd.prog 21 #[.agg (ints .u8 key), v, v2, v3] W (Ret W (.tuple #[.slice none 0 0, .int .i64 n]))) : Calls Tryd.prog 5 #[.agg (cat [ints .u8 key, #[.slice a_n nonce.length c_n], #[.slice a_c ctx.length c_c], #[.slice a_t text.length c_t]])] w (Ret w (.bool true)) := by
  refine enter 79 [(0, .agg (cat [ints .u8 (key), #[.slice a_n nonce.length c_n], #[.slice a_c ctx.length c_c], #[.slice a_t text.length c_t]]))] Tryd.func5 rfl rfl kj rfl ?_
  refine wp_seq_k fun K3 hK3 => ?_
  refine Qab ?_
  refine Qar (cat [ints .u8 (key), #[.slice a_n nonce.length c_n], #[.slice a_c ctx.length c_c], #[.slice a_t text.length c_t]]) 33 1 rfl kj kj fun g4 W1 l4 e1 r4_1 => ?_
  have x1 : Ext w W1 := Ext.tr (Rely.Ext.refl w) e1
  have b4 : w.heap.size ≤ g4 := Nat.le_trans (Rely.Ext.refl w).size l4
  refine Qaa (.bool false) 2 rfl kj kj ?_
  refine Qac ?_
  refine hK3 _ _ ?_
  refine wp_seq_k fun K5 hK5 => ?_
  refine wp_seq_k fun K6 hK6 => ?_
  refine Qab ?_
  have r2_1 := (Qad hh e1)
  have r1_1 := (Qad hq e1)
  refine Qa6 (.bool true) 9 #[] 10 rfl kj kj ((Qg5 th tq _ r2_1 r1_1)) fun W2 e2 => ?_
  have x2 : Ext w W2 := Ext.tr x1 e2
  refine Qaa (.bool false) 11 rfl kj kj ?_
  refine Qac ?_
  refine hK6 _ _ ?_
  refine cond_false kj ?_
  refine wp_skip ?_
  refine hK5 _ _ ?_
  refine wp_seq_k fun K7 hK7 => ?_
  refine wp_seq_k fun K8 hK8 => ?_
  refine Qab ?_
  have r4_2 := (Qad r4_1 e2)
  refine Qaa (.agg (cat [ints .u8 (key), #[.slice a_n nonce.length c_n], #[.slice a_c ctx.length c_c], #[.slice a_t text.length c_t]])) 12 rfl kj (Qau 33 _ g4 33 _ _ r4_2 rfl kj kj (isz (n := 35) kj (by rw [Qao, Qao, Qao, Qao]; simp only [Array.size_append, cat, ((Qaf _ _).trans hkl)]; rfl))) ?_
  refine Qa6 (.bool false) 14 #[.agg (cat [ints .u8 (key), #[.slice a_n nonce.length c_n], #[.slice a_c ctx.length c_c], #[.slice a_t text.length c_t]])] 13 rfl kj kj ((hlg) _) fun W3 e3 => ?_
  have x3 : Ext w W3 := Ext.tr x2 e3
  refine Qac ?_
  refine hK8 _ _ ?_
  refine cond_false kj ?_
  refine wp_skip ?_
  refine hK7 _ _ ?_
  refine wp_seq_k fun K9 hK9 => ?_
  refine Qeo 8 [⟨none, [(1, none)]⟩, ⟨none, [(14, some 0)]⟩, ⟨none, [(15, some 1)]⟩, ⟨none, [(1, none)]⟩, ⟨none, [(17, some 3)]⟩, ⟨none, [(18, some 4)]⟩, ⟨none, [(1, none)]⟩, ⟨none, [(20, some 6)]⟩] [2, 5] kj kj fun F hF => ?_
  refine Qa2 (Qam _) (.pointer (some ⟨g4, 32, none⟩)) kj kj (fun W => by kernel_rfl) ?_
  have r4_3 := (Qad r4_2 e3)
  refine Qbm (Qam _) (.slice a_n nonce.length c_n) kj kj (fun W hR => (Qae 24 _ g4 32 33 _ (.slice a_n nonce.length c_n) _ (Qad (Qad r4_3 (Qai _)) hR) rfl kj (QaF [ints .u8 (key)] [#[.slice a_n nonce.length c_n]] [#[.slice a_c ctx.length c_c], #[.slice a_t text.length c_t]] 32 ((Qaf _ _).trans hkl) 0 _ rfl) kj)) ?_
  refine Qdr (Qam _) (QaR 5 W3.heap.size (nonce)) (QaR.stable _ _) 10 #[.slice a_n nonce.length c_n] kj kj (fun W => by kernel_rfl) (fun W hR => (QiM W3.heap.size (nonce) _ _ W (by omega) (RdK.ext (RdK.ext hn x3) (Rely.Ext.trans (Qai _) hR)) (Rely.Ext.trans (Qai _) hR).size)) ?_
  refine Qa2 (Qam _) (.pointer (some ⟨g4, 33, none⟩)) kj kj (fun W => by kernel_rfl) ?_
  refine Qbm (Qam _) (.slice a_c ctx.length c_c) kj kj (fun W hR => (Qae 24 _ g4 33 33 _ (.slice a_c ctx.length c_c) _ (Qad (Qad r4_3 (Qai _)) hR) rfl kj (QaF [ints .u8 (key), #[.slice a_n nonce.length c_n]] [#[.slice a_c ctx.length c_c]] [#[.slice a_t text.length c_t]] 33 (by rw [Qao, Qao]; simp only [Array.size_append, cat, ((Qaf _ _).trans hkl)]; rfl) 0 _ rfl) kj)) ?_
  refine Qdr (Qam _) (QaR 5 W3.heap.size (ctx)) (QaR.stable _ _) 10 #[.slice a_c ctx.length c_c] kj kj (fun W => by kernel_rfl) (fun W hR => (QiM W3.heap.size (ctx) _ _ W (by omega) (RdK.ext (RdK.ext hc x3) (Rely.Ext.trans (Qai _) hR)) (Rely.Ext.trans (Qai _) hR).size)) ?_
  refine Qa2 (Qam _) (.pointer (some ⟨g4, 34, none⟩)) kj kj (fun W => by kernel_rfl) ?_
  refine Qbm (Qam _) (.slice a_t text.length c_t) kj kj (fun W hR => (Qae 24 _ g4 34 33 _ (.slice a_t text.length c_t) _ (Qad (Qad r4_3 (Qai _)) hR) rfl kj (QaF [ints .u8 (key), #[.slice a_n nonce.length c_n], #[.slice a_c ctx.length c_c]] [#[.slice a_t text.length c_t]] [] 34 (by rw [Qao, Qao, Qao]; simp only [Array.size_append, cat, ((Qaf _ _).trans hkl)]; rfl) 0 _ rfl) kj)) ?_
  refine QcG (hF _ (Qfz (fun u W h g hg => (QaR.own h).lt hg) (Qfz (fun u W h g hg => (QaR.own h).lt hg) Qjs)) (Qfw rfl rfl (Qez (QaR 5 W3.heap.size (nonce)) 10 #[.slice a_n nonce.length c_n] kj rfl (fun W => by kernel_rfl) (fun W hR => (QiN W3.heap.size (nonce) _ _ W (by omega) (RdK.ext (RdK.ext hn x3) (Rely.Ext.trans (Qai _) hR)) (Rely.Ext.trans (Qai _) hR).size))) (Qfw rfl rfl (Qez (QaR 5 W3.heap.size (ctx)) 10 #[.slice a_c ctx.length c_c] kj rfl (fun W => by kernel_rfl) (fun W hR => (QiN W3.heap.size (ctx) _ _ W (by omega) (RdK.ext (RdK.ext hc x3) (Rely.Ext.trans (Qai _) hR)) (Rely.Ext.trans (Qai _) hR).size))) Qjp)) fun W4 e4 => ?_)
  simp only [List.nil_append, List.cons_append, List.take_succ_cons, List.take_zero, List.drop_succ_cons, List.drop_zero, List.contains_cons, List.contains_nil, Nat.reduceBEq, Nat.reduceAdd, Bool.or_false, Bool.or_true, Bool.false_or, Bool.true_or, _root_.cond_true, _root_.cond_false, Qd6, up]
  intro vv10 hv10 na10 vv11 hv11 na11
  have np10_11 : Qdj vv10 vv11 := na11 _ (by simp)
  clear hF
  have x4 : Ext w W4 := Ext.tr x3 e4
  have hq12 := hv10
  obtain ⟨gk12, ck12, rfl, -⟩ := hq12
  have hq13 := hv11
  obtain ⟨gk13, ck13, rfl, -⟩ := hq13
  refine Qaw (fun v W' => (QaR 5 W4.heap.size (text)) v W' ∧ Ext W4 W') 10 #[.slice a_t text.length c_t] 22 rfl kj kj ((QiO (text) _ _ _ (by omega) (RdK.ext ht x4)).mono (by rintro e w' ⟨v, rfl, e1, hv⟩; exact ⟨v, rfl, hv, e1⟩)) fun vv14 W5 hh14 => ?_
  obtain ⟨hv14, e5⟩ := hh14
  have x5 : Ext w W5 := Ext.tr x4 e5
  have hq15 := hv14
  obtain ⟨gk15, ck15, rfl, -⟩ := hq15
  refine Qaa (.slice (some ⟨gk12, 0, none⟩) (nonce).length ck12) 3 rfl kj kj ?_
  refine Qaa (.slice (some ⟨gk13, 0, none⟩) (ctx).length ck13) 4 rfl kj kj ?_
  refine Qaa (.slice (some ⟨gk15, 0, none⟩) (text).length ck15) 5 rfl kj kj ?_
  refine Qac ?_
  refine hK9 _ _ ?_
  refine wp_seq_k fun K16 hK16 => ?_
  refine Qab ?_
  refine Qaa (.pointer (some ⟨g4, 0, none⟩)) 24 rfl kj kj ?_
  have r4_4 := (Qad r4_3 e4)
  have r4_5 := (Qad r4_4 e5)
  refine Qaa (.agg (ints .u8 (key))) 25 rfl kj (QaY 23 _ g4 0 33 _ _ _ r4_5 rfl kj (QaF [] [ints .u8 (key)] [#[.slice a_n nonce.length c_n], #[.slice a_c ctx.length c_c], #[.slice a_t text.length c_t]] 0 kj) kj (isz (n := 32) kj ((Qaf _ _).trans hkl))) ?_
  refine Qaa (.slice (some ⟨gk12, 0, none⟩) (nonce).length ck12) 26 rfl kj kj ?_
  refine Qaa (.slice (some ⟨gk13, 0, none⟩) (ctx).length ck13) 27 rfl kj kj ?_
  refine Qaa (.slice (some ⟨gk15, 0, none⟩) (text).length ck15) 28 rfl kj kj ?_
  have r2_2 := (Qad r2_1 e2)
  have r2_3 := (Qad r2_2 e3)
  have r2_4 := (Qad r2_3 e4)
  have r2_5 := (Qad r2_4 e5)
  have r1_2 := (Qad r1_1 e2)
  have r1_3 := (Qad r1_2 e3)
  have r1_4 := (Qad r1_3 e4)
  have r1_5 := (Qad r1_4 e5)
  have f17_5 := ((QaR.own hv10).ext e5)
  have f18_5 := ((QaR.own hv11).ext e5)
  refine Qa6 (.tuple #[.slice none 0 0, .iface 45 (.int .i64 n)]) 20 #[.agg (ints .u8 (key)), .slice (some ⟨gk12, 0, none⟩) (nonce).length ck12, .slice (some ⟨gk13, 0, none⟩) (ctx).length ck13, .slice (some ⟨gk15, 0, none⟩) (text).length ck15] 29 rfl kj kj ((hO _ _ _ _ _ _ _ r2_5 r1_5 (OwnN.rd f17_5) (OwnN.rd f18_5) (OwnN.rd (QaR.own hv14)))) fun W6 e6 => ?_
  have x6 : Ext w W6 := Ext.tr x5 e6
  refine Qaa (.tuple #[.slice none 0 0, .iface 45 (.int .i64 n)]) 23 rfl kj kj ?_
  refine Qaa (.slice none 0 0) 30 rfl kj kj ?_
  refine Qaa (.iface 45 (.int .i64 n)) 31 rfl kj kj ?_
  refine Qaa (.slice none 0 0) 6 rfl kj kj ?_
  refine Qaa (.iface 45 (.int .i64 n)) 7 rfl kj kj ?_
  refine Qac ?_
  refine hK16 _ _ ?_
  refine wp_seq_k fun K19 hK19 => ?_
  refine Qab ?_
  refine Qaa (.pointer (some ⟨g4, 0, none⟩)) 33 rfl kj kj ?_
  have r4_6 := (Qad r4_5 e6)
  refine Qaa (.agg (ints .u8 (key))) 34 rfl kj (QaY 23 _ g4 0 33 _ _ _ r4_6 rfl kj (QaF [] [ints .u8 (key)] [#[.slice a_n nonce.length c_n], #[.slice a_c ctx.length c_c], #[.slice a_t text.length c_t]] 0 kj) kj (isz (n := 32) kj ((Qaf _ _).trans hkl))) ?_
  refine Qaa (.pointer (some ⟨g4, 32, none⟩)) 35 rfl kj kj ?_
  refine Qaa (.slice a_n nonce.length c_n) 36 rfl kj (Qae 24 _ g4 32 33 _ (.slice a_n nonce.length c_n) _ r4_6 rfl kj (QaF [ints .u8 (key)] [#[.slice a_n nonce.length c_n]] [#[.slice a_c ctx.length c_c], #[.slice a_t text.length c_t]] 32 ((Qaf _ _).trans hkl) 0 _ rfl) kj) ?_
  refine Qaa (.pointer (some ⟨g4, 33, none⟩)) 37 rfl kj kj ?_
  refine Qaa (.slice a_c ctx.length c_c) 38 rfl kj (Qae 24 _ g4 33 33 _ (.slice a_c ctx.length c_c) _ r4_6 rfl kj (QaF [ints .u8 (key), #[.slice a_n nonce.length c_n]] [#[.slice a_c ctx.length c_c]] [#[.slice a_t text.length c_t]] 33 (by rw [Qao, Qao]; simp only [Array.size_append, cat, ((Qaf _ _).trans hkl)]; rfl) 0 _ rfl) kj) ?_
  refine Qaa (.pointer (some ⟨g4, 34, none⟩)) 39 rfl kj kj ?_
  refine Qaa (.slice a_t text.length c_t) 40 rfl kj (Qae 24 _ g4 34 33 _ (.slice a_t text.length c_t) _ r4_6 rfl kj (QaF [ints .u8 (key), #[.slice a_n nonce.length c_n], #[.slice a_c ctx.length c_c]] [#[.slice a_t text.length c_t]] [] 34 (by rw [Qao, Qao, Qao]; simp only [Array.size_append, cat, ((Qaf _ _).trans hkl)]; rfl) 0 _ rfl) kj) ?_
  refine Qa6 (.tuple #[.slice none 0 0, .int .i64 (n)]) 21 #[.agg (ints .u8 (key)), .slice a_n nonce.length c_n, .slice a_c ctx.length c_c, .slice a_t text.length c_t] 41 rfl kj kj ((hRf _ _ _ _ _ _ _ (RdK.ext hn x6) (RdK.ext hc x6) (RdK.ext ht x6))) fun W7 e7 => ?_
  have x7 : Ext w W7 := Ext.tr x6 e7
  refine Qaa (.tuple #[.slice none 0 0, .int .i64 (n)]) 32 rfl kj kj ?_
  refine Qaa (.slice none 0 0) 42 rfl kj kj ?_
  refine Qaa (.int .i64 (n)) 43 rfl kj kj ?_
  refine Qaa (.slice none 0 0) 8 rfl kj kj ?_
  refine Qaa (.int .i64 (n)) 9 rfl kj kj ?_
  refine Qac ?_
  refine hK19 _ _ ?_
  refine wp_seq_k fun K20 hK20 => ?_
  refine Qab ?_
  refine Qaa (.slice none 0 0) 44 rfl kj kj ?_
  refine Qaa (.slice none 0 0) 45 rfl kj kj ?_
  refine Qa6 (.bool true) 17 #[.slice none 0 0, .slice none 0 0] 46 rfl kj kj ((QjY _ _ _ _ _ rfl (QfR _) (QfR _))) fun W8 e8 => ?_
  have x8 : Ext w W8 := Ext.tr x7 e8
  refine Qaa (.bool true) 47 rfl kj kj ?_
  refine Qaa (.iface 45 (.int .i64 n)) 48 rfl kj kj ?_
  refine Qa6 (.int .i64 (n)) 18 #[.iface 45 (.int .i64 n)] 49 rfl kj kj ((numE n hn0) _) fun W9 e9 => ?_
  have x9 : Ext w W9 := Ext.tr x8 e9
  refine Qaa (.int .i64 (n)) 50 rfl kj kj ?_
  refine Qaa (.bool true) 51 rfl kj (Qah (u := .bool ((n == n))) kj (congrArg Value.bool (beq_iff_eq.2 rfl))) ?_
  refine Qaa (.bool true) 52 rfl kj kj ?_
  refine Qaa (.bool true) 53 rfl kj kj ?_
  refine Qaa (.slice (some ⟨gk12, 0, none⟩) (nonce).length ck12) 54 rfl kj kj ?_
  refine Qaa (.pointer (some ⟨g4, 32, none⟩)) 55 rfl kj kj ?_
  have r4_7 := (Qad r4_6 e7)
  have r4_8 := (Qad r4_7 e8)
  have r4_9 := (Qad r4_8 e9)
  refine Qaa (.slice a_n nonce.length c_n) 56 rfl kj (Qae 24 _ g4 32 33 _ (.slice a_n nonce.length c_n) _ r4_9 rfl kj (QaF [ints .u8 (key)] [#[.slice a_n nonce.length c_n]] [#[.slice a_c ctx.length c_c], #[.slice a_t text.length c_t]] 32 ((Qaf _ _).trans hkl) 0 _ rfl) kj) ?_
  have f21_5 := (QaR.ext hv10 e5)
  have f22_6 := (QaR.ext f21_5 e6)
  have f23_7 := (QaR.ext f22_6 e7)
  have f24_8 := (QaR.ext f23_7 e8)
  have f25_9 := (QaR.ext f24_8 e9)
  refine Qa6 (.bool true) 13 #[.slice (some ⟨gk12, 0, none⟩) (nonce).length ck12, .slice a_n nonce.length c_n] 57 rfl kj kj ((Qht (nonce) _ _ _ _ _ (by omega) hnb f25_9 (RdK.ext hn x9))) fun W10 e10 => ?_
  have x10 : Ext w W10 := Ext.tr x9 e10
  refine Qaa (.bool true) 58 rfl kj kj ?_
  refine Qaa (.bool true) 59 rfl kj kj ?_
  refine Qaa (.slice (some ⟨gk13, 0, none⟩) (ctx).length ck13) 60 rfl kj kj ?_
  refine Qaa (.pointer (some ⟨g4, 33, none⟩)) 61 rfl kj kj ?_
  have r4_10 := (Qad r4_9 e10)
  refine Qaa (.slice a_c ctx.length c_c) 62 rfl kj (Qae 24 _ g4 33 33 _ (.slice a_c ctx.length c_c) _ r4_10 rfl kj (QaF [ints .u8 (key), #[.slice a_n nonce.length c_n]] [#[.slice a_c ctx.length c_c]] [#[.slice a_t text.length c_t]] 33 (by rw [Qao, Qao]; simp only [Array.size_append, cat, ((Qaf _ _).trans hkl)]; rfl) 0 _ rfl) kj) ?_
  have f26_5 := (QaR.ext hv11 e5)
  have f27_6 := (QaR.ext f26_5 e6)
  have f28_7 := (QaR.ext f27_6 e7)
  have f29_8 := (QaR.ext f28_7 e8)
  have f30_9 := (QaR.ext f29_8 e9)
  have f31_10 := (QaR.ext f30_9 e10)
  refine Qa6 (.bool true) 13 #[.slice (some ⟨gk13, 0, none⟩) (ctx).length ck13, .slice a_c ctx.length c_c] 63 rfl kj kj ((Qht (ctx) _ _ _ _ _ (by omega) hcb f31_10 (RdK.ext hc x10))) fun W11 e11 => ?_
  have x11 : Ext w W11 := Ext.tr x10 e11
  refine Qaa (.bool true) 64 rfl kj kj ?_
  refine Qaa (.bool true) 65 rfl kj kj ?_
  refine Qaa (.slice (some ⟨gk15, 0, none⟩) (text).length ck15) 66 rfl kj kj ?_
  refine Qaa (.pointer (some ⟨g4, 34, none⟩)) 67 rfl kj kj ?_
  have r4_11 := (Qad r4_10 e11)
  refine Qaa (.slice a_t text.length c_t) 68 rfl kj (Qae 24 _ g4 34 33 _ (.slice a_t text.length c_t) _ r4_11 rfl kj (QaF [ints .u8 (key), #[.slice a_n nonce.length c_n], #[.slice a_c ctx.length c_c]] [#[.slice a_t text.length c_t]] [] 34 (by rw [Qao, Qao, Qao]; simp only [Array.size_append, cat, ((Qaf _ _).trans hkl)]; rfl) 0 _ rfl) kj) ?_
  have f32_6 := (QaR.ext hv14 e6)
  have f33_7 := (QaR.ext f32_6 e7)
  have f34_8 := (QaR.ext f33_7 e8)
  have f35_9 := (QaR.ext f34_8 e9)
  have f36_10 := (QaR.ext f35_9 e10)
  have f37_11 := (QaR.ext f36_10 e11)
  refine Qa6 (.bool true) 13 #[.slice (some ⟨gk15, 0, none⟩) (text).length ck15, .slice a_t text.length c_t] 69 rfl kj kj ((Qht (text) _ _ _ _ _ (by omega) htb f37_11 (RdK.ext ht x11))) fun W12 e12 => ?_
  have x12 : Ext w W12 := Ext.tr x11 e12
  refine Qaa (.bool true) 70 rfl kj kj ?_
  refine Qaa (.bool true) 71 rfl kj kj ?_
  refine Qaa (.slice none 0 0) 72 rfl kj kj ?_
  refine Qaa (.slice (some ⟨gk12, 0, none⟩) (nonce).length ck12) 73 rfl kj kj ?_
  refine Qaa (.slice (some ⟨gk13, 0, none⟩) (ctx).length ck13) 74 rfl kj kj ?_
  refine Qaa (.slice (some ⟨gk15, 0, none⟩) (text).length ck15) 75 rfl kj kj ?_
  refine QaD (#[.slice none 0 0, .slice (some ⟨gk12, 0, none⟩) (nonce).length ck12, .slice (some ⟨gk13, 0, none⟩) (ctx).length ck13, .slice (some ⟨gk15, 0, none⟩) (text).length ck15]) 24 4 76 rfl kj kj fun g38 W13 l38 e13 r38_13 => ?_
  have x13 : Ext w W13 := Ext.tr x12 e13
  have b38 : w.heap.size ≤ g38 := Nat.le_trans x12.size l38
  have f39_6 := (f17_5.ext e6)
  have f40_7 := (f39_6.ext e7)
  have f41_8 := (f40_7.ext e8)
  have f42_9 := (f41_8.ext e9)
  have f43_10 := (f42_9.ext e10)
  have f44_11 := (f43_10.ext e11)
  have f45_12 := (f44_11.ext e12)
  have f46_13 := (f45_12.ext e13)
  have f47_6 := (f18_5.ext e6)
  have f48_7 := (f47_6.ext e7)
  have f49_8 := (f48_7.ext e8)
  have f50_9 := (f49_8.ext e9)
  have f51_10 := (f50_9.ext e10)
  have f52_11 := (f51_10.ext e11)
  have f53_12 := (f52_11.ext e12)
  have f54_13 := (f53_12.ext e13)
  have f55_6 := ((QaR.own hv14).ext e6)
  have f56_7 := (f55_6.ext e7)
  have f57_8 := (f56_7.ext e8)
  have f58_9 := (f57_8.ext e9)
  have f59_10 := (f58_9.ext e10)
  have f60_11 := (f59_10.ext e11)
  have f61_12 := (f60_11.ext e12)
  have f62_13 := (f61_12.ext e13)
  refine Qaw (fun v W' => v = .bool true ∧ Below w.heap.size W13 W') 19 #[.slice (some ⟨g38, 0, none⟩) 4 4] 77 rfl kj kj ((Qjt (l0 := []) (l1 := nonce) (l2 := ctx) (l3 := text) x13.size r38_13 (.inl ⟨rfl, rfl⟩) (OwnN.v (OwnN.base x3.size f46_13)) (OwnN.v (OwnN.base x3.size f54_13)) (OwnN.v (OwnN.base x4.size f62_13)) (by decide) (by omega) (by omega) (by omega) (fun _ => rfl) (fun _ => rfl) (fun _ => rfl) np10_11 (fun e => e.trans (QcB (QaR.own hv10) (QaR.own hv14) (Rely.Ext.refl W4).size e.symm)) (fun e => e.trans (QcB (QaR.own hv11) (QaR.own hv14) (Rely.Ext.refl W4).size e.symm))).mono (by rintro e w' ⟨h1, h2⟩; exact ⟨_, h1, rfl, h2⟩)) fun v63 W14 h63 => ?_
  obtain ⟨rfl, l14⟩ := h63
  have x14 : Ext w W14 := Below.trans x13 l14
  refine Qaa (.bool true) 78 rfl kj kj ?_
  refine Qaa (.bool true) 2 rfl kj kj ?_
  refine Qac ?_
  refine hK20 _ _ ?_
  refine wp_ret ?_
  repeat (first | with_reducible refine goR1 ?_ | with_reducible refine goR2 ?_)
  exact (show bodyPost _ _ _ .ret _ _ from ret1 (.bool true) rfl (QaC kj) ⟨rfl, x14⟩)
set_option maxRecDepth 100000 in
set_option maxHeartbeats 4000000 in
theorem Qhs (key nonce ctx text : List Int) (a_n a_c a_t : Option Addr) (c_n c_c c_t : Nat) (th tq : TypeId) (w : World) (hh : w.heap[0]? = some (.cells (ints .u32 [1634760805, 857760878, 2036477234, 1797285236]) th)) (hq : w.heap[1]? = some (.cells (ints .i64 [0, 4, 8, 12, 1, 5, 9, 13, 2, 6, 10, 14, 3, 7, 11, 15, 0, 5, 10, 15, 1, 6, 11, 12, 2, 7, 8, 13, 3, 4, 9, 14]) tq)) (hkl : key.length = 32) (hkb : Qaj key) (hnb : Qaj nonce) (hcb : Qaj ctx) (htb : Qaj text) (hn : RdK .u8 w.heap.size nonce (.slice a_n nonce.length c_n) w) (hc : RdK .u8 w.heap.size ctx (.slice a_c ctx.length c_c) w) (ht : RdK .u8 w.heap.size text (.slice a_t text.length c_t) w) (h1 : nonce.length ≤ 1000) (h2 : ctx.length ≤ 500) (h3 : text.length ≤ 500) (h : nonce.length = 12) (hsh : 16 ≤ text.length) (hne : Qbx key nonce ctx (text.take (text.length - 16)) = text.drop (text.length - 16)) : Calls Tryd.prog 5 #[.agg (cat [ints .u8 key, #[.slice a_n nonce.length c_n], #[.slice a_c ctx.length c_c], #[.slice a_t text.length c_t]])] w (Ret w (.bool true)) := by
  have lfs0 := (QbJ (QaG key nonce) 1 (text.take (text.length - 16)))
  have bfs0 := (QdY (QaG key nonce) 1 (text.take (text.length - 16)))
  obtain ⟨fs, es⟩ : ∃ z : List Int, mixV (QaG key nonce) 1 (text.take (text.length - 16)) = z := ⟨_, rfl⟩
  have lfs : fs.length ≤ 600 := by rw [es] at lfs0; first | omega | (rw [List.length_take] at lfs0; omega)
  have hfb : Qaj fs := es ▸ bfs0
  refine enter 79 [(0, .agg (cat [ints .u8 (key), #[.slice a_n nonce.length c_n], #[.slice a_c ctx.length c_c], #[.slice a_t text.length c_t]]))] Tryd.func5 rfl rfl kj rfl ?_
  refine wp_seq_k fun K3 hK3 => ?_
  refine Qab ?_
  refine Qar (cat [ints .u8 (key), #[.slice a_n nonce.length c_n], #[.slice a_c ctx.length c_c], #[.slice a_t text.length c_t]]) 33 1 rfl kj kj fun g4 W1 l4 e1 r4_1 => ?_
  have x1 : Ext w W1 := Ext.tr (Rely.Ext.refl w) e1
  have b4 : w.heap.size ≤ g4 := Nat.le_trans (Rely.Ext.refl w).size l4
  refine Qaa (.bool false) 2 rfl kj kj ?_
  refine Qac ?_
  refine hK3 _ _ ?_
  refine wp_seq_k fun K5 hK5 => ?_
  refine wp_seq_k fun K6 hK6 => ?_
  refine Qab ?_
  have r2_1 := (Qad hh e1)
  have r1_1 := (Qad hq e1)
  refine Qa6 (.bool true) 9 #[] 10 rfl kj kj ((Qg5 th tq _ r2_1 r1_1)) fun W2 e2 => ?_
  have x2 : Ext w W2 := Ext.tr x1 e2
  refine Qaa (.bool false) 11 rfl kj kj ?_
  refine Qac ?_
  refine hK6 _ _ ?_
  refine cond_false kj ?_
  refine wp_skip ?_
  refine hK5 _ _ ?_
  refine wp_seq_k fun K7 hK7 => ?_
  refine wp_seq_k fun K8 hK8 => ?_
  refine Qab ?_
  have r4_2 := (Qad r4_1 e2)
  refine Qaa (.agg (cat [ints .u8 (key), #[.slice a_n nonce.length c_n], #[.slice a_c ctx.length c_c], #[.slice a_t text.length c_t]])) 12 rfl kj (Qau 33 _ g4 33 _ _ r4_2 rfl kj kj (isz (n := 35) kj (by rw [Qao, Qao, Qao, Qao]; simp only [Array.size_append, cat, ((Qaf _ _).trans hkl)]; rfl))) ?_
  refine Qa6 (.bool false) 14 #[.agg (cat [ints .u8 (key), #[.slice a_n nonce.length c_n], #[.slice a_c ctx.length c_c], #[.slice a_t text.length c_t]])] 13 rfl kj kj ((Qey key nonce ctx text a_n a_c a_t c_n c_c c_t _ hkl h1 h2 h3)) fun W3 e3 => ?_
  have x3 : Ext w W3 := Ext.tr x2 e3
  refine Qac ?_
  refine hK8 _ _ ?_
  refine cond_false kj ?_
  refine wp_skip ?_
  refine hK7 _ _ ?_
  refine wp_seq_k fun K9 hK9 => ?_
  refine Qeo 8 [⟨none, [(1, none)]⟩, ⟨none, [(14, some 0)]⟩, ⟨none, [(15, some 1)]⟩, ⟨none, [(1, none)]⟩, ⟨none, [(17, some 3)]⟩, ⟨none, [(18, some 4)]⟩, ⟨none, [(1, none)]⟩, ⟨none, [(20, some 6)]⟩] [2, 5] kj kj fun F hF => ?_
  refine Qa2 (Qam _) (.pointer (some ⟨g4, 32, none⟩)) kj kj (fun W => by kernel_rfl) ?_
  have r4_3 := (Qad r4_2 e3)
  refine Qbm (Qam _) (.slice a_n nonce.length c_n) kj kj (fun W hR => (Qae 24 _ g4 32 33 _ (.slice a_n nonce.length c_n) _ (Qad (Qad r4_3 (Qai _)) hR) rfl kj (QaF [ints .u8 (key)] [#[.slice a_n nonce.length c_n]] [#[.slice a_c ctx.length c_c], #[.slice a_t text.length c_t]] 32 ((Qaf _ _).trans hkl) 0 _ rfl) kj)) ?_
  refine Qdr (Qam _) (QaR 5 W3.heap.size (nonce)) (QaR.stable _ _) 10 #[.slice a_n nonce.length c_n] kj kj (fun W => by kernel_rfl) (fun W hR => (QiM W3.heap.size (nonce) _ _ W (by omega) (RdK.ext (RdK.ext hn x3) (Rely.Ext.trans (Qai _) hR)) (Rely.Ext.trans (Qai _) hR).size)) ?_
  refine Qa2 (Qam _) (.pointer (some ⟨g4, 33, none⟩)) kj kj (fun W => by kernel_rfl) ?_
  refine Qbm (Qam _) (.slice a_c ctx.length c_c) kj kj (fun W hR => (Qae 24 _ g4 33 33 _ (.slice a_c ctx.length c_c) _ (Qad (Qad r4_3 (Qai _)) hR) rfl kj (QaF [ints .u8 (key), #[.slice a_n nonce.length c_n]] [#[.slice a_c ctx.length c_c]] [#[.slice a_t text.length c_t]] 33 (by rw [Qao, Qao]; simp only [Array.size_append, cat, ((Qaf _ _).trans hkl)]; rfl) 0 _ rfl) kj)) ?_
  refine Qdr (Qam _) (QaR 5 W3.heap.size (ctx)) (QaR.stable _ _) 10 #[.slice a_c ctx.length c_c] kj kj (fun W => by kernel_rfl) (fun W hR => (QiM W3.heap.size (ctx) _ _ W (by omega) (RdK.ext (RdK.ext hc x3) (Rely.Ext.trans (Qai _) hR)) (Rely.Ext.trans (Qai _) hR).size)) ?_
  refine Qa2 (Qam _) (.pointer (some ⟨g4, 34, none⟩)) kj kj (fun W => by kernel_rfl) ?_
  refine Qbm (Qam _) (.slice a_t text.length c_t) kj kj (fun W hR => (Qae 24 _ g4 34 33 _ (.slice a_t text.length c_t) _ (Qad (Qad r4_3 (Qai _)) hR) rfl kj (QaF [ints .u8 (key), #[.slice a_n nonce.length c_n], #[.slice a_c ctx.length c_c]] [#[.slice a_t text.length c_t]] [] 34 (by rw [Qao, Qao, Qao]; simp only [Array.size_append, cat, ((Qaf _ _).trans hkl)]; rfl) 0 _ rfl) kj)) ?_
  refine QcG (hF _ (Qfz (fun u W h g hg => (QaR.own h).lt hg) (Qfz (fun u W h g hg => (QaR.own h).lt hg) Qjs)) (Qfw rfl rfl (Qez (QaR 5 W3.heap.size (nonce)) 10 #[.slice a_n nonce.length c_n] kj rfl (fun W => by kernel_rfl) (fun W hR => (QiN W3.heap.size (nonce) _ _ W (by omega) (RdK.ext (RdK.ext hn x3) (Rely.Ext.trans (Qai _) hR)) (Rely.Ext.trans (Qai _) hR).size))) (Qfw rfl rfl (Qez (QaR 5 W3.heap.size (ctx)) 10 #[.slice a_c ctx.length c_c] kj rfl (fun W => by kernel_rfl) (fun W hR => (QiN W3.heap.size (ctx) _ _ W (by omega) (RdK.ext (RdK.ext hc x3) (Rely.Ext.trans (Qai _) hR)) (Rely.Ext.trans (Qai _) hR).size))) Qjp)) fun W4 e4 => ?_)
  simp only [List.nil_append, List.cons_append, List.take_succ_cons, List.take_zero, List.drop_succ_cons, List.drop_zero, List.contains_cons, List.contains_nil, Nat.reduceBEq, Nat.reduceAdd, Bool.or_false, Bool.or_true, Bool.false_or, Bool.true_or, _root_.cond_true, _root_.cond_false, Qd6, up]
  intro vv10 hv10 na10 vv11 hv11 na11
  have np10_11 : Qdj vv10 vv11 := na11 _ (by simp)
  clear hF
  have x4 : Ext w W4 := Ext.tr x3 e4
  have hq12 := hv10
  obtain ⟨gk12, ck12, rfl, -⟩ := hq12
  have hq13 := hv11
  obtain ⟨gk13, ck13, rfl, -⟩ := hq13
  refine Qaw (fun v W' => (QaR 5 W4.heap.size (text)) v W' ∧ Ext W4 W') 10 #[.slice a_t text.length c_t] 22 rfl kj kj ((QiO (text) _ _ _ (by omega) (RdK.ext ht x4)).mono (by rintro e w' ⟨v, rfl, e1, hv⟩; exact ⟨v, rfl, hv, e1⟩)) fun vv14 W5 hh14 => ?_
  obtain ⟨hv14, e5⟩ := hh14
  have x5 : Ext w W5 := Ext.tr x4 e5
  have hq15 := hv14
  obtain ⟨gk15, ck15, rfl, -⟩ := hq15
  refine Qaa (.slice (some ⟨gk12, 0, none⟩) (nonce).length ck12) 3 rfl kj kj ?_
  refine Qaa (.slice (some ⟨gk13, 0, none⟩) (ctx).length ck13) 4 rfl kj kj ?_
  refine Qaa (.slice (some ⟨gk15, 0, none⟩) (text).length ck15) 5 rfl kj kj ?_
  refine Qac ?_
  refine hK9 _ _ ?_
  refine wp_seq_k fun K16 hK16 => ?_
  refine Qab ?_
  refine Qaa (.pointer (some ⟨g4, 0, none⟩)) 24 rfl kj kj ?_
  have r4_4 := (Qad r4_3 e4)
  have r4_5 := (Qad r4_4 e5)
  refine Qaa (.agg (ints .u8 (key))) 25 rfl kj (QaY 23 _ g4 0 33 _ _ _ r4_5 rfl kj (QaF [] [ints .u8 (key)] [#[.slice a_n nonce.length c_n], #[.slice a_c ctx.length c_c], #[.slice a_t text.length c_t]] 0 kj) kj (isz (n := 32) kj ((Qaf _ _).trans hkl))) ?_
  refine Qaa (.slice (some ⟨gk12, 0, none⟩) (nonce).length ck12) 26 rfl kj kj ?_
  refine Qaa (.slice (some ⟨gk13, 0, none⟩) (ctx).length ck13) 27 rfl kj kj ?_
  refine Qaa (.slice (some ⟨gk15, 0, none⟩) (text).length ck15) 28 rfl kj kj ?_
  have r2_2 := (Qad r2_1 e2)
  have r2_3 := (Qad r2_2 e3)
  have r2_4 := (Qad r2_3 e4)
  have r2_5 := (Qad r2_4 e5)
  have r1_2 := (Qad r1_1 e2)
  have r1_3 := (Qad r1_2 e3)
  have r1_4 := (Qad r1_3 e4)
  have r1_5 := (Qad r1_4 e5)
  have f17_5 := ((QaR.own hv10).ext e5)
  have f18_5 := ((QaR.own hv11).ext e5)
  refine Qaw (fun v W' => (MixR W5.heap.size fs) v W' ∧ Ext W5 W') 20 #[.agg (ints .u8 (key)), .slice (some ⟨gk12, 0, none⟩) (nonce).length ck12, .slice (some ⟨gk13, 0, none⟩) (ctx).length ck13, .slice (some ⟨gk15, 0, none⟩) (text).length ck15] 29 rfl kj kj ((es ▸ Qjv key nonce ctx text _ _ _ _ _ _ th tq _ r2_5 r1_5 hkl (OwnN.rd f17_5) (OwnN.rd f18_5) (OwnN.rd (QaR.own hv14)) hcb htb h (by omega) (by omega) hsh hne).mono (by rintro e w' ⟨v, rfl, e1, hv⟩; exact ⟨v, rfl, hv, e1⟩)) fun vv19 W6 hh19 => ?_
  obtain ⟨hv19, e6⟩ := hh19
  have x6 : Ext w W6 := Ext.tr x5 e6
  obtain ⟨u20_, rfl, hu20_⟩ := hv19
  obtain ⟨a20_, c20_, rfl, -⟩ := id (OwnN.rd hu20_)
  refine Qaa (.tuple #[.slice a20_ ((fs).length) c20_, .nilIface]) 23 rfl kj kj ?_
  refine Qaa (.slice a20_ ((fs).length) c20_) 30 rfl kj kj ?_
  refine Qaa (.nilIface) 31 rfl kj kj ?_
  refine Qaa (.slice a20_ ((fs).length) c20_) 6 rfl kj kj ?_
  refine Qaa (.nilIface) 7 rfl kj kj ?_
  refine Qac ?_
  refine hK16 _ _ ?_
  refine wp_seq_k fun K21 hK21 => ?_
  refine Qab ?_
  refine Qaa (.pointer (some ⟨g4, 0, none⟩)) 33 rfl kj kj ?_
  have r4_6 := (Qad r4_5 e6)
  refine Qaa (.agg (ints .u8 (key))) 34 rfl kj (QaY 23 _ g4 0 33 _ _ _ r4_6 rfl kj (QaF [] [ints .u8 (key)] [#[.slice a_n nonce.length c_n], #[.slice a_c ctx.length c_c], #[.slice a_t text.length c_t]] 0 kj) kj (isz (n := 32) kj ((Qaf _ _).trans hkl))) ?_
  refine Qaa (.pointer (some ⟨g4, 32, none⟩)) 35 rfl kj kj ?_
  refine Qaa (.slice a_n nonce.length c_n) 36 rfl kj (Qae 24 _ g4 32 33 _ (.slice a_n nonce.length c_n) _ r4_6 rfl kj (QaF [ints .u8 (key)] [#[.slice a_n nonce.length c_n]] [#[.slice a_c ctx.length c_c], #[.slice a_t text.length c_t]] 32 ((Qaf _ _).trans hkl) 0 _ rfl) kj) ?_
  refine Qaa (.pointer (some ⟨g4, 33, none⟩)) 37 rfl kj kj ?_
  refine Qaa (.slice a_c ctx.length c_c) 38 rfl kj (Qae 24 _ g4 33 33 _ (.slice a_c ctx.length c_c) _ r4_6 rfl kj (QaF [ints .u8 (key), #[.slice a_n nonce.length c_n]] [#[.slice a_c ctx.length c_c]] [#[.slice a_t text.length c_t]] 33 (by rw [Qao, Qao]; simp only [Array.size_append, cat, ((Qaf _ _).trans hkl)]; rfl) 0 _ rfl) kj) ?_
  refine Qaa (.pointer (some ⟨g4, 34, none⟩)) 39 rfl kj kj ?_
  refine Qaa (.slice a_t text.length c_t) 40 rfl kj (Qae 24 _ g4 34 33 _ (.slice a_t text.length c_t) _ r4_6 rfl kj (QaF [ints .u8 (key), #[.slice a_n nonce.length c_n], #[.slice a_c ctx.length c_c]] [#[.slice a_t text.length c_t]] [] 34 (by rw [Qao, Qao, Qao]; simp only [Array.size_append, cat, ((Qaf _ _).trans hkl)]; rfl) 0 _ rfl) kj) ?_
  refine Qaw (fun v W' => (Qf1 W6.heap.size fs) v W' ∧ Ext W6 W') 21 #[.agg (ints .u8 (key)), .slice a_n nonce.length c_n, .slice a_c ctx.length c_c, .slice a_t text.length c_t] 41 rfl kj kj ((es ▸ Qj5 key nonce ctx text _ _ _ _ _ _ _ hkl hkb hnb (RdK.ext hn x6) (RdK.ext hc x6) (RdK.ext ht x6) hcb htb h (by omega) (by omega) hsh hne).mono (by rintro e w' ⟨v, rfl, e1, hv⟩; exact ⟨v, rfl, hv, e1⟩)) fun vv22 W7 hh22 => ?_
  obtain ⟨hv22, e7⟩ := hh22
  have x7 : Ext w W7 := Ext.tr x6 e7
  obtain ⟨u23_, rfl, hu23_⟩ := hv22
  obtain ⟨a23_, c23_, rfl, -⟩ := id (OwnN.rd hu23_)
  refine Qaa (.tuple #[.slice a23_ ((fs).length) c23_, .int .i64 0]) 32 rfl kj kj ?_
  refine Qaa (.slice a23_ ((fs).length) c23_) 42 rfl kj kj ?_
  refine Qaa (.int .i64 0) 43 rfl kj kj ?_
  refine Qaa (.slice a23_ ((fs).length) c23_) 8 rfl kj kj ?_
  refine Qaa (.int .i64 0) 9 rfl kj kj ?_
  refine Qac ?_
  refine hK21 _ _ ?_
  refine wp_seq_k fun K24 hK24 => ?_
  refine Qab ?_
  refine Qaa (.slice a20_ ((fs).length) c20_) 44 rfl kj kj ?_
  refine Qaa (.slice a23_ ((fs).length) c23_) 45 rfl kj kj ?_
  have f25_7 := (hu20_.ext e7)
  refine Qa6 (.bool true) 17 #[.slice a20_ ((fs).length) c20_, .slice a23_ ((fs).length) c23_] 46 rfl kj kj ((QjY _ _ _ _ _ rfl (RdK.bytes (OwnN.rd f25_7) hfb) (RdK.bytes (OwnN.rd hu23_) hfb))) fun W8 e8 => ?_
  have x8 : Ext w W8 := Ext.tr x7 e8
  refine Qaa (.bool true) 47 rfl kj kj ?_
  refine Qaa (.nilIface) 48 rfl kj kj ?_
  refine Qa6 (.int .i64 0) 18 #[.nilIface] 49 rfl kj kj ((numZ) _) fun W9 e9 => ?_
  have x9 : Ext w W9 := Ext.tr x8 e9
  refine Qaa (.int .i64 0) 50 rfl kj kj ?_
  refine Qaa (.bool true) 51 rfl kj kj ?_
  refine Qaa (.bool true) 52 rfl kj kj ?_
  refine Qaa (.bool true) 53 rfl kj kj ?_
  refine Qaa (.slice (some ⟨gk12, 0, none⟩) (nonce).length ck12) 54 rfl kj kj ?_
  refine Qaa (.pointer (some ⟨g4, 32, none⟩)) 55 rfl kj kj ?_
  have r4_7 := (Qad r4_6 e7)
  have r4_8 := (Qad r4_7 e8)
  have r4_9 := (Qad r4_8 e9)
  refine Qaa (.slice a_n nonce.length c_n) 56 rfl kj (Qae 24 _ g4 32 33 _ (.slice a_n nonce.length c_n) _ r4_9 rfl kj (QaF [ints .u8 (key)] [#[.slice a_n nonce.length c_n]] [#[.slice a_c ctx.length c_c], #[.slice a_t text.length c_t]] 32 ((Qaf _ _).trans hkl) 0 _ rfl) kj) ?_
  have f26_5 := (QaR.ext hv10 e5)
  have f27_6 := (QaR.ext f26_5 e6)
  have f28_7 := (QaR.ext f27_6 e7)
  have f29_8 := (QaR.ext f28_7 e8)
  have f30_9 := (QaR.ext f29_8 e9)
  refine Qa6 (.bool true) 13 #[.slice (some ⟨gk12, 0, none⟩) (nonce).length ck12, .slice a_n nonce.length c_n] 57 rfl kj kj ((Qht (nonce) _ _ _ _ _ (by omega) hnb f30_9 (RdK.ext hn x9))) fun W10 e10 => ?_
  have x10 : Ext w W10 := Ext.tr x9 e10
  refine Qaa (.bool true) 58 rfl kj kj ?_
  refine Qaa (.bool true) 59 rfl kj kj ?_
  refine Qaa (.slice (some ⟨gk13, 0, none⟩) (ctx).length ck13) 60 rfl kj kj ?_
  refine Qaa (.pointer (some ⟨g4, 33, none⟩)) 61 rfl kj kj ?_
  have r4_10 := (Qad r4_9 e10)
  refine Qaa (.slice a_c ctx.length c_c) 62 rfl kj (Qae 24 _ g4 33 33 _ (.slice a_c ctx.length c_c) _ r4_10 rfl kj (QaF [ints .u8 (key), #[.slice a_n nonce.length c_n]] [#[.slice a_c ctx.length c_c]] [#[.slice a_t text.length c_t]] 33 (by rw [Qao, Qao]; simp only [Array.size_append, cat, ((Qaf _ _).trans hkl)]; rfl) 0 _ rfl) kj) ?_
  have f31_5 := (QaR.ext hv11 e5)
  have f32_6 := (QaR.ext f31_5 e6)
  have f33_7 := (QaR.ext f32_6 e7)
  have f34_8 := (QaR.ext f33_7 e8)
  have f35_9 := (QaR.ext f34_8 e9)
  have f36_10 := (QaR.ext f35_9 e10)
  refine Qa6 (.bool true) 13 #[.slice (some ⟨gk13, 0, none⟩) (ctx).length ck13, .slice a_c ctx.length c_c] 63 rfl kj kj ((Qht (ctx) _ _ _ _ _ (by omega) hcb f36_10 (RdK.ext hc x10))) fun W11 e11 => ?_
  have x11 : Ext w W11 := Ext.tr x10 e11
  refine Qaa (.bool true) 64 rfl kj kj ?_
  refine Qaa (.bool true) 65 rfl kj kj ?_
  refine Qaa (.slice (some ⟨gk15, 0, none⟩) (text).length ck15) 66 rfl kj kj ?_
  refine Qaa (.pointer (some ⟨g4, 34, none⟩)) 67 rfl kj kj ?_
  have r4_11 := (Qad r4_10 e11)
  refine Qaa (.slice a_t text.length c_t) 68 rfl kj (Qae 24 _ g4 34 33 _ (.slice a_t text.length c_t) _ r4_11 rfl kj (QaF [ints .u8 (key), #[.slice a_n nonce.length c_n], #[.slice a_c ctx.length c_c]] [#[.slice a_t text.length c_t]] [] 34 (by rw [Qao, Qao, Qao]; simp only [Array.size_append, cat, ((Qaf _ _).trans hkl)]; rfl) 0 _ rfl) kj) ?_
  have f37_6 := (QaR.ext hv14 e6)
  have f38_7 := (QaR.ext f37_6 e7)
  have f39_8 := (QaR.ext f38_7 e8)
  have f40_9 := (QaR.ext f39_8 e9)
  have f41_10 := (QaR.ext f40_9 e10)
  have f42_11 := (QaR.ext f41_10 e11)
  refine Qa6 (.bool true) 13 #[.slice (some ⟨gk15, 0, none⟩) (text).length ck15, .slice a_t text.length c_t] 69 rfl kj kj ((Qht (text) _ _ _ _ _ (by omega) htb f42_11 (RdK.ext ht x11))) fun W12 e12 => ?_
  have x12 : Ext w W12 := Ext.tr x11 e12
  refine Qaa (.bool true) 70 rfl kj kj ?_
  refine Qaa (.bool true) 71 rfl kj kj ?_
  refine Qaa (.slice a20_ ((fs).length) c20_) 72 rfl kj kj ?_
  refine Qaa (.slice (some ⟨gk12, 0, none⟩) (nonce).length ck12) 73 rfl kj kj ?_
  refine Qaa (.slice (some ⟨gk13, 0, none⟩) (ctx).length ck13) 74 rfl kj kj ?_
  refine Qaa (.slice (some ⟨gk15, 0, none⟩) (text).length ck15) 75 rfl kj kj ?_
  refine QaD (#[.slice a20_ ((fs).length) c20_, .slice (some ⟨gk12, 0, none⟩) (nonce).length ck12, .slice (some ⟨gk13, 0, none⟩) (ctx).length ck13, .slice (some ⟨gk15, 0, none⟩) (text).length ck15]) 24 4 76 rfl kj kj fun g43 W13 l43 e13 r43_13 => ?_
  have x13 : Ext w W13 := Ext.tr x12 e13
  have b43 : w.heap.size ≤ g43 := Nat.le_trans x12.size l43
  have f44_8 := (f25_7.ext e8)
  have f45_9 := (f44_8.ext e9)
  have f46_10 := (f45_9.ext e10)
  have f47_11 := (f46_10.ext e11)
  have f48_12 := (f47_11.ext e12)
  have f49_13 := (f48_12.ext e13)
  have f50_6 := (f17_5.ext e6)
  have f51_7 := (f50_6.ext e7)
  have f52_8 := (f51_7.ext e8)
  have f53_9 := (f52_8.ext e9)
  have f54_10 := (f53_9.ext e10)
  have f55_11 := (f54_10.ext e11)
  have f56_12 := (f55_11.ext e12)
  have f57_13 := (f56_12.ext e13)
  have f58_6 := (f18_5.ext e6)
  have f59_7 := (f58_6.ext e7)
  have f60_8 := (f59_7.ext e8)
  have f61_9 := (f60_8.ext e9)
  have f62_10 := (f61_9.ext e10)
  have f63_11 := (f62_10.ext e11)
  have f64_12 := (f63_11.ext e12)
  have f65_13 := (f64_12.ext e13)
  have f66_6 := ((QaR.own hv14).ext e6)
  have f67_7 := (f66_6.ext e7)
  have f68_8 := (f67_7.ext e8)
  have f69_9 := (f68_8.ext e9)
  have f70_10 := (f69_9.ext e10)
  have f71_11 := (f70_10.ext e11)
  have f72_12 := (f71_11.ext e12)
  have f73_13 := (f72_12.ext e13)
  have y4_5 : Ext W4 W5 := (Rely.Ext.trans (Rely.Ext.refl W4) e5)
  refine Qaw (fun v W' => v = .bool true ∧ Below w.heap.size W13 W') 19 #[.slice (some ⟨g43, 0, none⟩) 4 4] 77 rfl kj kj ((Qjt (l0 := fs) (l1 := nonce) (l2 := ctx) (l3 := text) x13.size r43_13 (OwnN.v (OwnN.base x5.size f49_13)) (OwnN.v (OwnN.base x3.size f57_13)) (OwnN.v (OwnN.base x3.size f65_13)) (OwnN.v (OwnN.base x4.size f73_13)) (by omega) (by omega) (by omega) (by omega) (QcB (QaR.own hv10) hu20_ y4_5.size) (QcB (QaR.own hv11) hu20_ y4_5.size) (QcB (QaR.own hv14) hu20_ (Rely.Ext.refl W5).size) np10_11 (fun e => e.trans (QcB (QaR.own hv10) (QaR.own hv14) (Rely.Ext.refl W4).size e.symm)) (fun e => e.trans (QcB (QaR.own hv11) (QaR.own hv14) (Rely.Ext.refl W4).size e.symm))).mono (by rintro e w' ⟨h1, h2⟩; exact ⟨_, h1, rfl, h2⟩)) fun v74 W14 h74 => ?_
  obtain ⟨rfl, l14⟩ := h74
  have x14 : Ext w W14 := Below.trans x13 l14
  refine Qaa (.bool true) 78 rfl kj kj ?_
  refine Qaa (.bool true) 2 rfl kj kj ?_
  refine Qac ?_
  refine hK24 _ _ ?_
  refine wp_ret ?_
  repeat (first | with_reducible refine goR1 ?_ | with_reducible refine goR2 ?_)
  exact (show bodyPost _ _ _ .ret _ _ from ret1 (.bool true) rfl (QaC kj) ⟨rfl, x14⟩)
theorem Qi8 (key nonce ctx text : List Int) (a_n a_c a_t : Option Addr) (c_n c_c c_t : Nat) (th tq : TypeId) (w : World) (hh : w.heap[0]? = some (.cells (ints .u32 [1634760805, 857760878, 2036477234, 1797285236]) th)) (hq : w.heap[1]? = some (.cells (ints .i64 [0, 4, 8, 12, 1, 5, 9, 13, 2, 6, 10, 14, 3, 7, 11, 15, 0, 5, 10, 15, 1, 6, 11, 12, 2, 7, 8, 13, 3, 4, 9, 14]) tq)) (hkl : key.length = 32) (hkb : Qaj key) (hnb : Qaj nonce) (hcb : Qaj ctx) (htb : Qaj text) (hn : RdK .u8 w.heap.size nonce (.slice a_n nonce.length c_n) w) (hc : RdK .u8 w.heap.size ctx (.slice a_c ctx.length c_c) w) (ht : RdK .u8 w.heap.size text (.slice a_t text.length c_t) w) (hbn : nonce.length ≤ 1048576) (hbc : ctx.length ≤ 1048576) (hbt : text.length ≤ 1048576) : Calls Tryd.prog 5 #[.agg (cat [ints .u8 key, #[.slice a_n nonce.length c_n], #[.slice a_c ctx.length c_c], #[.slice a_t text.length c_t]])] w (Ret w (.bool true)) := by
  by_cases h1 : 1000 < nonce.length
  · exact Qea key nonce ctx text a_n a_c a_t c_n c_c c_t th tq w hh hq hkl hkb hnb hcb htb hn hc ht (fun W => QiB key nonce ctx text a_n a_c a_t c_n c_c c_t W hkl h1)
  by_cases h2 : 500 < ctx.length
  · exact Qea key nonce ctx text a_n a_c a_t c_n c_c c_t th tq w hh hq hkl hkb hnb hcb htb hn hc ht (fun W => QiA key nonce ctx text a_n a_c a_t c_n c_c c_t W hkl (by omega) h2 hbc)
  by_cases h3 : 500 < text.length
  · exact Qea key nonce ctx text a_n a_c a_t c_n c_c c_t th tq w hh hq hkl hkb hnb hcb htb hn hc ht (fun W => Qi9 key nonce ctx text a_n a_c a_t c_n c_c c_t W hkl (by omega) (by omega) h3 hbt)
  by_cases h : nonce.length = 12
  · by_cases hsh : text.length < 16
    · exact QdZ key nonce ctx text a_n a_c a_t c_n c_c c_t th tq w hh hq hkl hkb hnb hcb htb hn hc ht 2 (by decide) (fun W => Qey key nonce ctx text a_n a_c a_t c_n c_c c_t W hkl (by omega) (by omega) (by omega)) (by omega) (by omega) (by omega) (fun v v2 v3 B B2 B3 W a b c d e => Qkv key nonce ctx text v v2 v3 B B2 B3 th tq W a b hkl c d e hcb htb h (by omega) (by omega) hsh) (fun v v2 v3 B B2 B3 W c d e => Qj3 key nonce ctx text v v2 v3 B B2 B3 W hkl hkb hnb c d e hcb htb h (by omega) (by omega) hsh)
    by_cases hne : Qbx key nonce ctx (text.take (text.length - 16)) = text.drop (text.length - 16)
    · exact Qhs key nonce ctx text a_n a_c a_t c_n c_c c_t th tq w hh hq hkl hkb hnb hcb htb hn hc ht (by omega) (by omega) (by omega) h (by omega) hne
    · exact QdZ key nonce ctx text a_n a_c a_t c_n c_c c_t th tq w hh hq hkl hkb hnb hcb htb hn hc ht 2 (by decide) (fun W => Qey key nonce ctx text a_n a_c a_t c_n c_c c_t W hkl (by omega) (by omega) (by omega)) (by omega) (by omega) (by omega) (fun v v2 v3 B B2 B3 W a b c d e => Qju key nonce ctx text v v2 v3 B B2 B3 th tq W a b hkl c d e hcb htb h (by omega) (by omega) (by omega) hne) (fun v v2 v3 B B2 B3 W c d e => Qj4 key nonce ctx text v v2 v3 B B2 B3 W hkl hkb hnb c d e hcb htb h (by omega) (by omega) (by omega) hne)
  · exact QdZ key nonce ctx text a_n a_c a_t c_n c_c c_t th tq w hh hq hkl hkb hnb hcb htb hn hc ht 1 (by decide) (fun W => Qey key nonce ctx text a_n a_c a_t c_n c_c c_t W hkl (by omega) (by omega) (by omega)) (by omega) (by omega) (by omega) (fun v v2 v3 B B2 B3 W a b c d e => Qkw key nonce ctx text v v2 v3 B B2 B3 th tq W a b hkl c d e hcb htb h) (fun v v2 v3 B B2 B3 W c d e => Qj6 key nonce ctx text v v2 v3 B B2 B3 W hkl hkb hnb c d e hcb htb h)
theorem lawOpensF (key nonce ctx text : List Int) (a_n a_c a_t : Option Addr) (ln c_n lc c_c lt c_t : Nat) (th tq : TypeId) (w : World) (hh : w.heap[0]? = some (.cells (ints .u32 [1634760805, 857760878, 2036477234, 1797285236]) th)) (hq : w.heap[1]? = some (.cells (ints .i64 [0, 4, 8, 12, 1, 5, 9, 13, 2, 6, 10, 14, 3, 7, 11, 15, 0, 5, 10, 15, 1, 6, 11, 12, 2, 7, 8, 13, 3, 4, 9, 14]) tq)) (hkl : key.length = 32) (hkb : Qaj key) (hnb : Qaj nonce) (hcb : Qaj ctx) (htb : Qaj text) (hn : RdK .u8 w.heap.size nonce (.slice a_n ln c_n) w) (hc : RdK .u8 w.heap.size ctx (.slice a_c lc c_c) w) (ht : RdK .u8 w.heap.size text (.slice a_t lt c_t) w) (eln : nonce.length = ln) (elc : ctx.length = lc) (elt : text.length = lt) (hbn : ln ≤ 1048576) (hbc : lc ≤ 1048576) (hbt : lt ≤ 1048576) : Calls Tryd.prog 5 #[.agg ((key.map (Value.int .u8) ++ [Value.slice a_n ln c_n] ++ [Value.slice a_c lc c_c] ++ [Value.slice a_t lt c_t]).toArray)] w (Ret w (.bool true)) := by
  subst eln elc elt
  rw [cat_st]
  exact Qi8 key nonce ctx text a_n a_c a_t c_n c_c c_t th tq w hh hq hkl hkb hnb hcb htb hn hc ht hbn hbc hbt
end Go.Proofs.YtjldjdlhllgakaaDoor.Ae
end
section
namespace Go.Proofs.YtjldjdlhllgakaaDoor.Auto
open Go Go.RowKit Go.WideShapes
open Rely
set_option linter.unusedVariables false
section
variable {H : Type} {enc : TypeId × Value → H} {P : Program} {W w : World} {r : Reach} {base b0 : Nat} {sp : Nat → Bool} {held : Bool}
theorem open_raw {n : Nat} {t e : TypeId} {cs : List Value} {fuel : Nat} {x : DataW H × List MemPlace} (ht : P.underlying t = some (.array n e)) (he : P.underlying e = some (.int .u8)) (hce : P.cellsOf e = 1) (hct : P.cellsOf t = n)
    (hf : DataW.trod enc P w b0 sp held fuel t cs = some x) : ∃ xs : List Int, cs = xs.map (Value.int .u8) ∧ xs.length = n ∧ Qaj xs := by
  obtain ⟨xs, m, -, -, hl, hn, hx⟩ := DataW.trod_array ht hf
  have hcs : cs.length = n := by simpa [hct] using hl
  have each : ∀ i, i < n → ∃ z : Int, cs[i]? = some (.int .u8 z) ∧ (0 ≤ z ∧ z ≤ 255) := by
    intro i hi
    have h1 := hx i hi
    rw [hce, Nat.mul_one] at h1
    have hlt : i < cs.length := by omega
    have h2 : cs.drop i = cs[i] :: cs.drop (i + 1) := List.drop_eq_getElem_cons hlt
    have h1 : DataW.trod enc P w b0 sp held m e ((cs.drop i).take 1) = xs[i]? := h1
    rw [h2] at h1
    simp only [List.take_succ_cons, List.take_zero] at h1
    obtain ⟨y, hy⟩ : ∃ y, xs[i]? = some y := ⟨xs[i], by simp [hn, hi]⟩
    rw [hy] at h1
    obtain ⟨z, hc, -, hw⟩ := DataW.trod_int he h1
    refine ⟨z, ?_, ?_⟩
    · rw [List.getElem?_eq_getElem hlt]
      simp only [List.cons.injEq] at hc
      rw [hc.1]
    · simpa [Lit.wf, IntKind.min, IntKind.max, IntKind.signed, IntKind.bits] using hw
  have all : ∀ (l : List Value), (∀ i, i < l.length → ∃ z : Int, l[i]? = some (.int .u8 z) ∧ (0 ≤ z ∧ z ≤ 255)) → ∃ zs : List Int, l = zs.map (Value.int .u8) ∧ Qaj zs := by
    intro l
    induction l with
    | nil => exact fun _ => ⟨[], rfl, fun x hx => by simp at hx⟩
    | cons a l ih =>
      intro h
      obtain ⟨zs, h1, h2⟩ := ih fun i hi => by simpa using h (i + 1) (by simp; omega)
      obtain ⟨z, h3, h4⟩ := h 0 (by simp)
      simp only [List.getElem?_cons_zero, Option.some.injEq] at h3
      refine ⟨z :: zs, by rw [h3, h1]; rfl, fun x hx => ?_⟩
      rcases List.mem_cons.1 hx with e | e
      · rw [e]; exact h4
      · exact h2 x e
  obtain ⟨zs, h1, h2⟩ := all cs fun i hi => each i (by omega)
  exact ⟨zs, h1, by rw [← hcs, h1, List.length_map], h2⟩
end
end Go.Proofs.YtjldjdlhllgakaaDoor.Auto
end
section
namespace Go.Proofs.YtjldjdlhllgakaaDoor.Auto
open Go
theorem QiR {H : Type} (d : DataW H) : 0 < Rows.uptoBulk d := by
  cases d with
  | lit l => cases l <;> simp [Rows.uptoBulk]
  | _ => simp [Rows.uptoBulk]
theorem QgW {H : Type} : ∀ l : List (DataW H), l.length ≤ Rows.uptoBulkAll l
  | [] => Nat.zero_le _
  | d :: r => by
    have h1 := QiR d
    have h2 := QgW r
    simp only [Rows.uptoBulkAll, List.length_cons]
    omega
theorem bulk_slice {H : Type} (a b : List (DataW H)) : a.length ≤ Rows.uptoBulk (.slice a b) := by
  have h := QgW a
  simp only [Rows.uptoBulk]
  omega
end Go.Proofs.YtjldjdlhllgakaaDoor.Auto
end
section
namespace Go.Proofs.YtjldjdlhllgakaaDoor.Auto
open Go Go.RowKit Go.ChangeShapes Go.WideShapes Go.ChangeAt
set_option linter.unusedVariables false
section
variable {H : Type} {enc : TypeId × Value → H} {P : Program} {W w : World} {r : Reach} {base b0 : Nat} {sp : Nat → Bool} {held : Bool}
theorem open_st4U {t : TypeId} {f0 f1 f2 f3 : Field} {v : Value} {d : DataW H} {p : List MemPlace} {n0 n1 n2 n3 : Nat} (hs : P.underlying t = some (.struct #[f0, f1, f2, f3]))
    (ho : f0.offset = 0 ∧ f1.offset = n0 ∧ f2.offset = n0 + n1 ∧ f3.offset = n0 + n1 + n2) (hc : P.cellsOf f0.type = n0 ∧ P.cellsOf f1.type = n1 ∧ P.cellsOf f2.type = n2 ∧ P.cellsOf f3.type = n3) (hC : P.cellsOf t = n0 + n1 + n2 + n3)
    (hv : Value.okWide P W r base t v) (h : DataW.Trod enc P w b0 sp held t v d p) :
    ∃ (A B C D : List Value) (y0 y1 y2 y3 : DataW H × List MemPlace) (n : Nat), v = .agg (A ++ B ++ C ++ D).toArray ∧
      DataW.trod enc P w b0 sp held n f0.type A = some y0 ∧ DataW.trod enc P w b0 sp held n f1.type B = some y1 ∧ DataW.trod enc P w b0 sp held n f2.type C = some y2 ∧ DataW.trod enc P w b0 sp held n f3.type D = some y3 ∧ d = .agg [y0.1, y1.1, y2.1, y3.1] := by
  obtain ⟨cs, rfl, hsz⟩ := okWide_struct hs hv
  obtain ⟨fuel, hf⟩ := h
  obtain ⟨y0, y1, y2, y3, n, hdd, hlen, h0, h1, h2, h3⟩ := Joins.trod_struct4 hs hf
  obtain ⟨o0, o1, o2, o3⟩ := ho
  obtain ⟨c0, c1, c2, c3⟩ := hc
  rw [o0, c0] at h0
  rw [o1, c1] at h1
  rw [o2, c2] at h2
  rw [o3, c3] at h3
  refine ⟨_, _, _, _, y0, y1, y2, y3, n, ?_, h0, h1, h2, h3, congrArg Prod.fst hdd⟩
  congr 1
  have hl : cs.toList.length = n0 + n1 + n2 + n3 := by rw [Array.length_toList, hsz, hC]
  apply Array.ext'
  show cs.toList = _
  simp only [Value.cells, List.drop_zero]
  generalize cs.toList = l at hl
  have e1 : l.take n0 ++ (l.drop n0).take n1 = l.take (n0 + n1) := by rw [List.take_add]
  have e2 : l.take (n0 + n1) ++ (l.drop (n0 + n1)).take n2 = l.take (n0 + n1 + n2) := by rw [List.take_add (i := n0 + n1)]
  have e3 : l.take (n0 + n1 + n2) ++ (l.drop (n0 + n1 + n2)).take n3 = l.take (n0 + n1 + n2 + n3) := by rw [List.take_add (i := n0 + n1 + n2)]
  rw [e1, e2, e3, List.take_of_length_le (by omega)]
end
end Go.Proofs.YtjldjdlhllgakaaDoor.Auto
end
section
namespace Go.Proofs.YtjldjdlhllgakaaDoor.Auto
open Go Go.RowKit
open Rely
set_option linter.unusedVariables false
theorem Qd5 {P : Program} {w : World} : ∀ (laid : List (String × DataW Unit)) (ps : List MemPlace) (n : String) (d : DataW Unit), DataW.LaidVars P w laid ps → (n, d) ∈ laid →
    ∃ g t cs fuel p, P.globalNamed n = some g ∧ (P.globals[g]?).map (·.type) = some t ∧ w.var? P n = some cs ∧ DataW.trod (fun _ => ()) P w 0 (fun _ => true) false fuel t cs.toList = some (d, p) ∧ ∀ x ∈ MemPlace.row ⟨g, 0, none⟩ cs.size, x ∈ ps
  | [], _, _, _, _, h => by cases h
  | (n0, d0) :: r, ps, n, d, ⟨g, t, cs, fuel, p, q, h1, h2, h3, h4, h5, h6⟩, h => by
    subst h6
    rcases List.mem_cons.1 h with h | h
    · cases h
      exact ⟨g, t, cs, fuel, p, h1, h2, h3, h4, fun x hx => List.mem_append_left _ (List.mem_append_left _ hx)⟩
    · obtain ⟨g', t', cs', fuel', p', a, b, c, e, f⟩ := Qd5 r q n d h5 h
      exact ⟨g', t', cs', fuel', p', a, b, c, e, fun x hx => List.mem_append_right _ (f x hx)⟩
theorem QiC {P : Program} {w : World} {laid : List (String × DataW Unit)} {n : String} {k : IntKind} {zs : List Int} {g : Nat} {t e : TypeId} {m : Nat} (h : laidMet P laid w) (hm : (n, Lib.tabData k zs) ∈ laid)
    (hg : P.globalNamed n = some g) (hty : (P.globals[g]?).map (·.type) = some t) (ht : P.underlying t = some (.array m e)) (he : P.underlying e = some (.int k)) (hce : P.cellsOf e = 1) (hct : P.cellsOf t = m) (h0 : 0 < zs.length) :
    ∃ t, w.heap[g]? = some (.cells (ints k zs) t) := by
  obtain ⟨ps, hL, -, hC⟩ := h
  obtain ⟨g', t', cs, fuel, p, hg', ht', hvar, hd, hin⟩ := Qd5 _ _ _ _ hL hm
  obtain rfl := Option.some.inj (hg.symm.trans hg')
  obtain rfl := Option.some.inj (hty.symm.trans ht')
  have hcs := Lib.cells_of_tab ht he hce hct hd
  have hsz : 0 < cs.size := by rw [← Array.length_toList, hcs, List.length_map]; exact h0
  obtain ⟨⟨c, t2, hc⟩, -⟩ := hC g 0 (hin _ (List.mem_map.2 ⟨0, List.mem_range.2 hsz, rfl⟩))
  unfold World.var? at hvar
  rw [hg] at hvar
  simp only [Option.bind_some, hc, Option.some.injEq] at hvar
  subst hvar
  refine ⟨t2, hc.trans ?_⟩
  rw [show c = ints k zs from by rw [ints, ← hcs]]
theorem bytes_wf {bs : List Int} (h : ∀ n ∈ bs, (Lit.int .u8 n).wf = true) : Qaj bs := fun n hn => by
  have := h n hn
  simpa [Lit.wf, IntKind.min, IntKind.max, IntKind.signed, IntKind.bits] using this
end Go.Proofs.YtjldjdlhllgakaaDoor.Auto
end
section
namespace Go.Proofs.YtjldjdlhllgakaaDoor.Auto
open Go Go.RowKit
open Rely
set_option linter.unusedVariables false
theorem chunks {α : Type} (m : Nat) : ∀ (n : Nat) (cs : List α), cs.length = n * m → ((List.range n).map fun i => (cs.drop (i * m)).take m).flatten = cs
  | 0, cs, h => by
    have : cs = [] := List.length_eq_zero_iff.1 (by simpa using h)
    subst this; rfl
  | n + 1, cs, h => by
    have hm : (n + 1) * m = n * m + m := Nat.succ_mul n m
    rw [List.range_succ, List.map_append, List.flatten_append]
    have ih := chunks m n (cs.take (n * m)) (by rw [List.length_take]; omega)
    have e1 : ((List.range n).map fun i => (cs.drop (i * m)).take m) = ((List.range n).map fun i => ((cs.take (n * m)).drop (i * m)).take m) := by
      refine List.map_congr_left fun i hi => ?_
      rw [List.mem_range] at hi
      have h1 : (i + 1) * m ≤ n * m := Nat.mul_le_mul_right m hi
      rw [Nat.succ_mul] at h1
      rw [List.drop_take, List.take_take, Nat.min_eq_left (by omega)]
    rw [e1, ih]
    simp only [List.map_cons, List.map_nil, List.flatten_cons, List.flatten_nil, List.append_nil]
    have e2 : (cs.drop (n * m)).take m = cs.drop (n * m) := List.take_of_length_le (by rw [List.length_drop]; omega)
    rw [e2, List.take_append_drop]
theorem Qfx {H : Type} {enc : TypeId × Value → H} {P : Program} {w : World} {base : Nat} {sp : Nat → Bool} {held : Bool} {fuel : Nat} {t e i : TypeId} {n m : Nat} {k : IntKind} {cs : List Value} {zss : List (List Int)} {p : List MemPlace}
    (ht : P.underlying t = some (.array n e)) (he : P.underlying e = some (.array m i)) (hi : P.underlying i = some (.int k)) (hci : P.cellsOf i = 1) (hce : P.cellsOf e = m) (hct : P.cellsOf t = n * m)
    (h : DataW.trod enc P w base sp held fuel t cs = some (.agg (zss.map (Lib.tabData k)), p)) : cs = zss.flatten.map fun z => Value.int k z := by
  cases fuel with
  | zero => simp [DataW.trod] at h
  | succ fuel =>
    simp only [DataW.trod, ht, hce, hct] at h
    split at h
    · rename_i hl
      obtain ⟨xs, hm, hx⟩ := Option.map_eq_some_iff.1 h
      have hxs : xs.map (·.1) = zss.map fun z => (Lib.tabData k z : DataW H) := by
        have := congrArg Prod.fst hx
        simpa using this
      have hxl : xs.length = n := by simpa using Lib.mapM_length hm
      have hzl : zss.length = n := by
        have := congrArg List.length hxs
        simp at this
        omega
      rw [← chunks m n cs (by simpa using hl), List.map_flatten]
      congr 1
      apply List.ext_getElem?
      intro j
      by_cases hj : j < n
      · obtain ⟨b, hb, hf⟩ := Lib.mapM_at hm j j (by simp [hj])
        have h2 : (xs.map (·.1))[j]? = some b.1 := by simp [hb]
        rw [hxs, List.getElem?_map, List.getElem?_eq_getElem (by omega), Option.map_some, Option.some.injEq] at h2
        have h3 := Lib.cells_of_tab he hi hci hce (zs := zss[j]'(by omega)) (p := b.2) (by rw [h2]; exact hf)
        rw [List.getElem?_map, List.getElem?_map, List.getElem?_range hj, List.getElem?_eq_getElem (by omega), Option.map_some, Option.map_some, h3]
      · rw [List.getElem?_eq_none (by simp; omega), List.getElem?_eq_none (by simp; omega)]
    · cases h
theorem QhX {P : Program} {w : World} {laid : List (String × DataW Unit)} {n : String} {k : IntKind} {zss : List (List Int)} {g : Nat} {t e i : TypeId} {m1 m : Nat} (h : laidMet P laid w) (hm : (n, DataW.agg (zss.map (Lib.tabData k))) ∈ laid)
    (hg : P.globalNamed n = some g) (hty : (P.globals[g]?).map (·.type) = some t) (ht : P.underlying t = some (.array m1 e)) (he : P.underlying e = some (.array m i)) (hi : P.underlying i = some (.int k)) (hci : P.cellsOf i = 1) (hce : P.cellsOf e = m) (hct : P.cellsOf t = m1 * m) (h0 : 0 < zss.flatten.length) :
    ∃ t, w.heap[g]? = some (.cells (ints k zss.flatten) t) := by
  obtain ⟨ps, hL, -, hC⟩ := h
  obtain ⟨g', t', cs, fuel, p, hg', ht', hvar, hd, hin⟩ := Qd5 _ _ _ _ hL hm
  obtain rfl := Option.some.inj (hg.symm.trans hg')
  obtain rfl := Option.some.inj (hty.symm.trans ht')
  have hcs := Qfx ht he hi hci hce hct hd
  have hsz : 0 < cs.size := by rw [← Array.length_toList, hcs, List.length_map]; exact h0
  obtain ⟨⟨c, t2, hc⟩, -⟩ := hC g 0 (hin _ (List.mem_map.2 ⟨0, List.mem_range.2 hsz, rfl⟩))
  unfold World.var? at hvar
  rw [hg] at hvar
  simp only [Option.bind_some, hc, Option.some.injEq] at hvar
  subst hvar
  refine ⟨t2, hc.trans ?_⟩
  rw [show c = ints k zss.flatten from by rw [ints, ← hcs]]
end Go.Proofs.YtjldjdlhllgakaaDoor.Auto
end
