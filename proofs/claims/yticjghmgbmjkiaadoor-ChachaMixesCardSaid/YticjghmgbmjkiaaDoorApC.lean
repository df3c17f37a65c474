/- Apart. -/
import Derived.Test.YticjghmgbmjkiaaDoorAutoE
import Derived.Test.YticjghmgbmjkiaaDoorApM
namespace Go.Proofs.YticjghmgbmjkiaaDoor.Ad
open Go Go.RowKit
open Go.Proofs.YticjghmgbmjkiaaDoor.Rely Go.Proofs.YticjghmgbmjkiaaDoor.Auto Go.Proofs.YticjghmgbmjkiaaDoor.Own
set_option linter.unusedVariables false

theorem wrap8 (x : Int) : IntKind.u8.wrap x = x % 256 := by
  have : IntKind.u8.wrap x = x % 2 ^ 8 := rfl
  rw [this]; rfl
theorem set_pat {bs : List Int} {j k : Nat} (hj : j < bs.length) (h : bs.take j = patL k j) : (bs.set j (pat k j)).take (j + 1) = patL k (j + 1) := by
  rw [patL_succ, ← h, List.take_add_one, List.take_set_of_le (Nat.le_refl _), List.getElem?_set_self hj]
  rfl
theorem full_pat {bs : List Int} {n k : Nat} (hn : bs.length = n) (h : bs.take n = patL k n) : bs = patL k n := by rw [← h, List.take_of_length_le (by omega)]
theorem bx {base : Nat} {w W W' : World} (hb : base ≤ w.heap.size) (x : Below base w W) (e : Ext W W') : Below base w W' := Below.trans x (Below.mono e (Nat.le_trans hb x.size))
theorem puts_below {base g : Nat} {w W W' : World} (p : Puts W g W') (x : Below base w W) (hg : base ≤ g) : Below base w W' :=
  ⟨p.1.trans x.os, p.2.1.trans x.tape, p.2.2.1.trans x.output, by have := x.size; have := p.2.2.2.1; omega, fun k hk => (p.2.2.2.2 k (by omega)).trans (x.block k hk)⟩
theorem i64n (a : Int) (m : Nat) (e : a = (m : Int)) (h : m ≤ 5000000000) : IntKind.i64.wrap a = (m : Int) := by subst e; exact IntWalk.i64_in _ (by omega)
/-- slices filled: those below k with their own bytes -/
def Fill (base L k : Nat) (V : Nat → Value) (N : Nat → Nat) (W : World) : Prop := ∀ i, i < L → ∃ bs, bs.length = N i ∧ OwnV base bs (V i) W ∧ (i < k → bs = patL i (N i))
def Others (base L k : Nat) (V : Nat → Value) (N : Nat → Nat) (W : World) : Prop := ∀ i, i < L → i ≠ k → ∃ bs, bs.length = N i ∧ OwnV base bs (V i) W ∧ (i < k → bs = patL i (N i))
theorem Fill.others {base L k : Nat} {V : Nat → Value} {N : Nat → Nat} {W : World} (h : Fill base L k V N W) : Others base L k V N W := fun i hi _ => h i hi
theorem Others.fill {base L k : Nat} {V : Nat → Value} {N : Nat → Nat} {W : World} (h : Others base L k V N W) {bs : List Int} (h1 : bs.length = N k) (h2 : OwnV base bs (V k) W) (h3 : bs = patL k (N k)) : Fill base L (k + 1) V N W := fun i hi => by
  by_cases e : i = k
  · subst e; exact ⟨bs, h1, h2, fun _ => h3⟩
  · obtain ⟨b, q1, q2, q3⟩ := h i hi e
    exact ⟨b, q1, q2, fun hl => q3 (by omega)⟩
def Dist (L : Nat) (V : Nat → Value) : Prop := ∀ i j, i < L → j < L → i ≠ j → (V i).ownBlock = (V j).ownBlock → (V i).ownBlock = none
theorem Others.puts {base L k g n c : Nat} {V : Nat → Value} {N : Nat → Nat} {W W' : World} (h : Others base L k V N W) (hd : Dist L V) (hk : k < L) (hv : V k = .slice (some ⟨g, 0, none⟩) n c) (p : Puts W g W') : Others base L k V N W' := fun i hi hn => by
  obtain ⟨b, q1, q2, q3⟩ := h i hi hn
  refine ⟨b, q1, q2.below fun g' hg' => p.2.2.2.2 g' fun e => ?_, q3⟩
  subst e
  have h1 := hd i k hi hk hn (by rw [hg', hv]; rfl)
  rw [h1] at hg'; cases hg'
section
variable {ds : List Deferred} {ops : Array Oper} {Q : Exit → Act → World → Prop} {rest : List Oper} {o : Oper} {N : Nat} {L : Env} {W : World}
theorem seq_store8 (x y : Operand) (g j : Nat) (z : Int) {base c : Nat} {cur : Array Value} {bs : List Int} (h : OwnAt base g c cur bs W) (hj : j < bs.length)
    (ho : o.op = .store 5 x y) (hx : Rely.look (envN N L) x = .pointer (some ⟨g, j, none⟩)) (hy : Rely.look (envN N L) y = .int .u8 z) (hd : o.dst = none) (hw : wantB ops o N L = some true)
    (k : ∀ (cur' : Array Value) (W' : World), OwnAt base g c cur' (bs.set j z) W' → Puts W g W' → WL Tryd.prog ops Q rest (actOf ds N L) W') : WL Tryd.prog ops Q (o :: rest) (actOf ds N L) W := by
  obtain ⟨h1, h2⟩ := store_own (o := o) (W := W) x y g j z h hj ho hx hy
  exact seq_voidw _ hd hw h1 (k _ _ h2 (puts_setRow _ _ _))
end
theorem Fill.full {base L : Nat} {V : Nat → Value} {N : Nat → Nat} {W : World} (h : Fill base L L V N W) : Full base L V N W := fun i hi => by
  obtain ⟨bs, h1, h2, h3⟩ := h i hi
  rw [← h3 hi]; exact h2
theorem Mid.done' {base L k m : Nat} {V : Nat → Value} {N : Nat → Nat} {G : List Value} {u : Value} {g : Nat} {cur : Array Value} {W W' : World} (h : Mid base L k m V N G u W) (hm : m = N k + 10) (hk : k < L) (hl : G.length = k) (hg : Gd L k V G) (r : W.heap[g]? = some (.cells cur 24)) (e : ExtB g W W') :
    Full base L V N W' ∧ GFull base (k + 1) N (G ++ [u]) W' ∧ Gd L (k + 1) V (G ++ [u]) := by
  subst hm; exact h.done hk hl hg r e
theorem cell_ext {V W : World} {b o : Nat} {v : Value} (h : V.cell? ⟨b, o, none⟩ = some v) (e : Ext V W) : W.cell? ⟨b, o, none⟩ = some v := by rw [e.cell (lt_of_cell h)]; exact h
theorem OwnL.cell {base g c i : Nat} {cur : Array Value} {G : List Value} {W : World} (h : OwnL base g c cur G W) (hi : i < G.length) : W.cell? ⟨g, i, none⟩ = some (gv G i) := by
  refine row_cell h.2.1 ?_
  have e : (cur.toList.take G.length)[i]? = G[i]? := by rw [h.2.2.2.2.2]
  rw [List.getElem?_take_of_lt hi] at e
  rw [← Array.getElem?_toList, e]
  simp [gv, hi]
theorem row_went {base g : Nat} {bs : List Int} {v v' : Value} {cur : Array Value} {W W' : World} (r : W.heap[g]? = some (.cells cur 24)) (hv : OwnV base bs v W) (hw : Went v v' W W') : W'.heap[g]? = some (.cells cur 24) := by
  rcases hw with ⟨g', n, c', rfl, _, he⟩ | ⟨_, he⟩
  · refine (he.2.2.2.2 g (row_lt r) ?_).trans r
    rcases hv with ⟨e, _⟩ | ⟨g2, _, _, e, _, h2, _⟩
    · cases e
    · simp only [Value.slice.injEq, Option.some.injEq, Addr.mk.injEq] at e
      rw [e.1.1]
      exact (ne_types h2 r (by decide)).symm
  · exact row_ext r he
theorem extB_below {base g : Nat} {w W W' : World} (e : ExtB g W W') (x : Below base w W) (hb : base ≤ w.heap.size) (hg : base ≤ g) : Below base w W' :=
  ⟨e.1.trans x.os, e.2.1.trans x.tape, e.2.2.1.trans x.output, Nat.le_trans x.size e.2.2.2.1, fun k hk => (e.2.2.2.2 k (by have := x.size; omega) (by omega)).trans (x.block k hk)⟩
theorem went_below {base : Nat} {bs : List Int} {v v' : Value} {w W W' : World} (hw : Went v v' W W') (hv : OwnV base bs v W) (x : Below base w W) (hb : base ≤ w.heap.size) : Below base w W' := by
  rcases hw with ⟨g', n, c', rfl, _, he⟩ | ⟨_, he⟩
  · exact extB_below he x hb (hv.ge rfl)
  · exact bx hb x he
section
variable {ds : List Deferred} {ops : Array Oper} {Q : Exit → Act → World → Prop} {rest : List Oper} {o : Oper} {N : Nat} {L : Env} {W : World}
theorem seq_append8V (s x : Operand) (t : TypeId) (ho : o.op = .call { callee := .builtin .append, args := #[s, x], argTypes := #[t, t] })
    (ht : Tryd.prog.underlying t = some (.slice 5)) (d : Nat) (hd : o.dst = some d) (hg : wantB ops o N L = some true) {base b2 gx cx : Nat} {curx : Array Value} {v : Value} {xs ys : List Int}
    (hs : Rely.look (envN N L) s = v) (hx : Rely.look (envN N L) x = .slice (some ⟨gx, 0, none⟩) ys.length cx)
    (h : OwnV base xs v W) (hy : OwnAt b2 gx cx curx ys W) (hn : xs.length + ys.length ≤ 1000000) (h0 : 0 < ys.length) (hbase : base ≤ W.heap.size)
    (k : ∀ (u : Value) (W' : World), OwnB base (xs ++ ys) u W' → Went v u W W' → WL Tryd.prog ops Q rest (actOf ds N ((d, u) :: L)) W') : WL Tryd.prog ops Q (o :: rest) (actOf ds N L) W := by
  obtain ⟨u, W', h1, h2, h3⟩ := append_went (ρ := Rely.look (envN N L)) (o := o) (W := W) s x t ho ht hs hx h hy hn h0 hbase
  exact seq_valw _ _ d hd hg h1 (k u W' h2 h3)
theorem seq_appendL (s x : Operand) (t : TypeId) (ho : o.op = .call { callee := .builtin .append, args := #[s, x], argTypes := #[t, t] })
    (ht : Tryd.prog.underlying t = some (.slice 24)) (d : Nat) (hd : o.dst = some d) (hg : wantB ops o N L = some true) {base g c gx m : Nat} {cur : Array Value} {u : Value} {G : List Value} (hm : G.length = m)
    (hs : Rely.look (envN N L) s = .slice (some ⟨g, 0, none⟩) m c) (hx : Rely.look (envN N L) x = .slice (some ⟨gx, 0, none⟩) 1 1)
    (h : OwnL base g c cur G W) (rx : W.heap[gx]? = some (.cells #[u] 24)) (h1c : u.oneCell' = true) (hn : m ≤ 1000) (hbase : base ≤ W.heap.size)
    (k : ∀ (g' c' : Nat) (cur' : Array Value) (W' : World), OwnL base g' c' cur' (G ++ [u]) W' → ExtB g W W' → WL Tryd.prog ops Q rest (actOf ds N ((d, .slice (some ⟨g', 0, none⟩) (m + 1) c') :: L)) W') : WL Tryd.prog ops Q (o :: rest) (actOf ds N L) W := by
  subst hm
  obtain ⟨hb, r, hcs, hle, hmax, htk⟩ := h
  have hi : (Tryd.prog.info? 24).map (fun i => (i.zero, i.size, i.bytes)) = some (some (.slice none 0 0), 1, 24) := by kernel_rfl
  cases hq : Tryd.prog.info? 24 with
  | none => rw [hq] at hi; cases hi
  | some i =>
    rw [hq] at hi
    simp only [Option.map_some, Option.some.injEq, Prod.mk.injEq] at hi
    have hown : W.ownsRow base 24 1 (.slice (some ⟨g, 0, none⟩) G.length c) G.length G :=
      ⟨by simp, .inr ⟨g, c, cur, rfl, hb, r, hle, hmax, by omega, by rw [Nat.mul_one]; exact htk⟩⟩
    obtain ⟨v', W', hr, h2, h3, _, _⟩ := run_append_own_at (P := Tryd.prog) W base t o.type 24 i (.slice none 0 0) 1 24 ht hq hi.1 hi.2.1 hi.2.2 rfl (by omega) _ G.length G hown ⟨gx, 0, none⟩ 1 1 [u] rfl
      (fun j z hz => by
        have hadd : (⟨gx, 0, none⟩ : Addr).add j = ⟨gx, j, none⟩ := by unfold Addr.add; split <;> simp_all
        rw [hadd]
        refine row_cell rx ?_
        rw [← hz]; simp)
      (fun z hz => by
        have : z = u := by simpa using hz
        subst this; exact h1c) (by simp only [maxLen]; omega) (by omega) hbase
    rcases h2.2 with ⟨_, h0⟩ | ⟨g', c', cur', hv, hb', hg', hle', hmax', hsz', htk'⟩
    · omega
    · subst hv
      refine seq_valw _ _ d hd hg ?_ (k g' c' cur' W' ⟨hb', hg', by omega, by simpa using hle', hmax', by simpa using htk'⟩ (ExtB.of_grown h3))
      unfold execOp
      simp only [ho, resolve, invoke, builtin, Sem.run_bind, Sem.run_pure, Result.andThen_ok, List.map_toArray, List.map_cons, List.map_nil, hs, hx, hr]
      try simp
end
set_option maxHeartbeats 4000000 in
theorem apartC (base gl L : Nat) (V : Nat → Value) (N : Nat → Nat) (rowL : Array Value) (w : World) (hbase : base ≤ w.heap.size) (hrow : w.heap[gl]? = some (.cells rowL 24)) (hcell : ∀ i, i < L → rowL[i]? = some (V i)) (hL : L ≤ 100) (hN : ∀ i, i < L → N i ≤ 100000)
    (hB : ∀ i, i < L → ∃ bs, bs.length = N i ∧ OwnV base bs (V i) w) (hd : Dist L V) : Calls Tryd.prog 23 #[.slice (some ⟨gl, 0, none⟩) L L] w fun e w' => e = .returned (.bool true) ∧ Below base w w' := by
  refine enter 117 [(0, .slice (some ⟨gl, 0, none⟩) L L)] Tryd.func23 rfl rfl (by kernel_rfl) rfl ?_
  refine wp_seq_k fun K1 hK1 => ?_
  refine region_lit ?_
  refine seq_val (.bool false) 2 rfl (by kernel_rfl) (by kernel_rfl) ?_
  refine seq_nil ?_
  refine hK1 _ _ ?_
  try clear hK1 K1
  refine wp_seq_k fun K2 hK2 => ?_
  refine wp_seq_k fun K3 hK3 => ?_
  refine region_lit ?_
  refine seq_val (.slice (some ⟨gl, 0, none⟩) L L) 13 rfl (by kernel_rfl) (by kernel_rfl) ?_
  refine seq_val (.int .i64 ((L : Nat) : Int)) 14 rfl (by kernel_rfl) (by kernel_rfl) ?_
  refine seq_val (.int .i64 0) 15 rfl (by kernel_rfl) (by kernel_rfl) ?_
  refine seq_nil ?_
  refine hK3 _ _ ?_
  try clear hK3 K3
  refine wp_block ?_
  refine loop_auto (fun (k : Nat) => [(0, .slice (some ⟨gl, 0, none⟩) L L), (13, .slice (some ⟨gl, 0, none⟩) L L), (14, .int .i64 ((L : Nat) : Int)), (15, .int .i64 ((k : Nat) : Int))]) (fun (k : Nat) W => k ≤ L ∧ Fill base L k V N W ∧ W.heap[gl]? = some (.cells rowL 24) ∧ Below base w W) (fun (k : Nat) => L - k) 0 ⟨rfl, rfl, rfl, rfl, trivial⟩ ⟨Nat.zero_le _, fun i hi => (by obtain ⟨bs, h1, h2⟩ := hB i hi; exact ⟨bs, h1, h2, fun h => absurd h (Nat.not_lt_zero _)⟩), hrow, (Below.refl base w)⟩ fun k X1 V1 hI => ?_
  obtain ⟨hkL, hF, rr, xx1⟩ := hI
  refine wp_seq_k fun K4 hK4 => ?_
  refine region_lit ?_
  refine seq_val (.bool (decide (((k : Nat) : Int) < ((L : Nat) : Int)))) 16 rfl (by kernel_rfl) (by kernel_rfl) ?_
  refine seq_nil ?_
  refine hK4 _ _ ?_
  try clear hK4 K4
  refine wp_seq_k fun K5 hK5 => ?_
  refine cond_split (t := decide (((k : Nat) : Int) < ((L : Nat) : Int))) (by kernel_rfl) (fun c6 => ?_) (fun c6 => ?_)
  · skip
    have hk : k < L := by have := of_decide_eq_true c6; omega
    obtain ⟨bs, hbl, hbo, hbk⟩ := hF k hk
    have hNk := hN k hk
    have hcl := hcell k hk
    obtain ⟨v, hv⟩ : ∃ v, V k = v := ⟨_, rfl⟩
    rw [hv] at hbo hcl
    rcases hbo with ⟨rfl, rfl⟩ | ⟨g, cc, cur, rfl, hO⟩
    · skip
      have hlc : V1.cell? ⟨gl, 0 + k, none⟩ = some (.slice none 0 0) := by rw [Nat.zero_add]; exact row_cell rr hcl
      refine wp_skip ?_
      refine hK5 _ _ ?_
      try clear hK5 K5
      refine wp_seq_k fun K7 hK7 => ?_
      refine wp_block ?_
      refine wp_seq_k fun K8 hK8 => ?_
      refine region_lit ?_
      refine seq_val (.int .i64 ((k : Nat) : Int)) 17 rfl (by kernel_rfl) (by kernel_rfl) ?_
      refine seq_val (.pointer (some ⟨gl, 0 + k, none⟩)) 18 rfl (by kernel_rfl) (run_indexS 48 _ _ .i64 (k) gl 0 L L 24 rfl (by kernel_rfl) (by kernel_rfl) (by kernel_rfl) (by kernel_rfl) hk) ?_
      refine seq_val (.slice none 0 0) 19 rfl (by kernel_rfl) (run_loadCell 24 _ _ (.slice none 0 0) hlc rfl (by kernel_rfl) (by kernel_rfl)) ?_
      refine seq_val (.int .i64 ((k : Nat) : Int)) 3 rfl (by kernel_rfl) (by kernel_rfl) ?_
      refine seq_val (.slice none 0 0) 4 rfl (by kernel_rfl) (by kernel_rfl) ?_
      refine seq_nil ?_
      refine hK8 _ _ ?_
      try clear hK8 K8
      refine wp_seq_k fun K9 hK9 => ?_
      refine region_lit ?_
      refine seq_val (.slice none 0 0) 20 rfl (by kernel_rfl) (by kernel_rfl) ?_
      refine seq_val (.int .i64 0) 21 rfl (by kernel_rfl) (by kernel_rfl) ?_
      refine seq_val (.int .i64 0) 22 rfl (by kernel_rfl) (by kernel_rfl) ?_
      refine seq_nil ?_
      refine hK9 _ _ ?_
      try clear hK9 K9
      refine wp_block ?_
      refine wp_loop_rounds 1 ?_
      show Code.wp _ _ (Exit.then (Code.rounds _ _ _ 0) _) _ _
      refine wp_seq_k fun K10 hK10 => ?_
      refine region_lit ?_
      refine seq_val (.bool false) 23 rfl (by kernel_rfl) (by kernel_rfl) ?_
      refine seq_nil ?_
      refine hK10 _ _ ?_
      try clear hK10 K10
      refine wp_seq_k fun K11 hK11 => ?_
      refine cond_false (by kernel_rfl) ?_
      refine wp_exit ?_
      refine hK7 _ _ ?_
      try clear hK7 K7
      refine region_lit ?_
      refine seq_val (.int .i64 (((k + 1 : Nat) : Int))) 36 rfl (by kernel_rfl) (run_eq (u := .int .i64 (IntKind.i64.wrap (((k : Nat) : Int) + 1))) (by kernel_rfl) (congrArg (Value.int .i64) (i64n _ _ (by omega) (by omega)))) ?_
      refine seq_val (.int .i64 (((k + 1 : Nat) : Int))) 15 rfl (by kernel_rfl) (by kernel_rfl) ?_
      refine seq_nil ?_
      repeat (first | with_reducible refine goX1 ?_ | with_reducible refine goX2 ?_ | with_reducible refine goX3 ?_)
      exact goes_then (k + 1) ⟨rfl, rfl, rfl, rfl, trivial⟩ ⟨hk, (hF.others.fill (bs := []) hbl (.inl ⟨hv, rfl⟩) (by rw [← hbl]; rfl)), rr, xx1⟩ (by show L - (k + 1) < L - k; omega)
    · skip
      obtain ⟨n, hn⟩ : ∃ n, bs.length = n := ⟨_, rfl⟩
      rw [hn] at hv hcl
      have hlc : V1.cell? ⟨gl, 0 + k, none⟩ = some (.slice (some ⟨g, 0, none⟩) n cc) := by rw [Nat.zero_add]; exact row_cell rr hcl
      refine wp_skip ?_
      refine hK5 _ _ ?_
      try clear hK5 K5
      refine wp_seq_k fun K13 hK13 => ?_
      refine wp_block ?_
      refine wp_seq_k fun K14 hK14 => ?_
      refine region_lit ?_
      refine seq_val (.int .i64 ((k : Nat) : Int)) 17 rfl (by kernel_rfl) (by kernel_rfl) ?_
      refine seq_val (.pointer (some ⟨gl, 0 + k, none⟩)) 18 rfl (by kernel_rfl) (run_indexS 48 _ _ .i64 (k) gl 0 L L 24 rfl (by kernel_rfl) (by kernel_rfl) (by kernel_rfl) (by kernel_rfl) hk) ?_
      refine seq_val (.slice (some ⟨g, 0, none⟩) n cc) 19 rfl (by kernel_rfl) (run_loadCell 24 _ _ (.slice (some ⟨g, 0, none⟩) n cc) hlc rfl (by kernel_rfl) (by kernel_rfl)) ?_
      refine seq_val (.int .i64 ((k : Nat) : Int)) 3 rfl (by kernel_rfl) (by kernel_rfl) ?_
      refine seq_val (.slice (some ⟨g, 0, none⟩) n cc) 4 rfl (by kernel_rfl) (by kernel_rfl) ?_
      refine seq_nil ?_
      refine hK14 _ _ ?_
      try clear hK14 K14
      refine wp_seq_k fun K15 hK15 => ?_
      refine region_lit ?_
      refine seq_val (.slice (some ⟨g, 0, none⟩) n cc) 20 rfl (by kernel_rfl) (by kernel_rfl) ?_
      refine seq_val (.int .i64 ((n : Nat) : Int)) 21 rfl (by kernel_rfl) (by kernel_rfl) ?_
      refine seq_val (.int .i64 0) 22 rfl (by kernel_rfl) (by kernel_rfl) ?_
      refine seq_nil ?_
      refine hK15 _ _ ?_
      try clear hK15 K15
      refine wp_block ?_
      refine loop_auto (fun (j : Nat) => [(0, .slice (some ⟨gl, 0, none⟩) L L), (13, .slice (some ⟨gl, 0, none⟩) L L), (14, .int .i64 ((L : Nat) : Int)), (15, .int .i64 ((k : Nat) : Int)), (3, .int .i64 ((k : Nat) : Int)), (4, .slice (some ⟨g, 0, none⟩) n cc), (21, .int .i64 ((n : Nat) : Int)), (22, .int .i64 ((j : Nat) : Int))]) (fun (j : Nat) W => j ≤ n ∧ (∃ bs cur, bs.length = n ∧ OwnAt base g cc cur bs W ∧ bs.take j = patL k j) ∧ Others base L k V N W ∧ W.heap[gl]? = some (.cells rowL 24) ∧ Below base w W) (fun (j : Nat) => n - j) 0 ⟨rfl, rfl, rfl, rfl, rfl, rfl, rfl, rfl, trivial⟩ ⟨Nat.zero_le _, ⟨bs, cur, hn, hO, rfl⟩, hF.others, rr, xx1⟩ fun j X2 V2 hI2 => ?_
      clear hO hF rr xx1
      obtain ⟨hjn, ⟨bs2, cur2, hbn, hO, hbt⟩, hoth, r2, xx2⟩ := hI2
      refine wp_seq_k fun K16 hK16 => ?_
      refine region_lit ?_
      refine seq_val (.bool (decide (((j : Nat) : Int) < ((n : Nat) : Int)))) 23 rfl (by kernel_rfl) (by kernel_rfl) ?_
      refine seq_nil ?_
      refine hK16 _ _ ?_
      try clear hK16 K16
      refine wp_seq_k fun K17 hK17 => ?_
      refine cond_split (t := decide (((j : Nat) : Int) < ((n : Nat) : Int))) (by kernel_rfl) (fun c18 => ?_) (fun c18 => ?_)
      · skip
        have hj2 : j < n := by have := of_decide_eq_true c18; omega
        refine wp_skip ?_
        refine hK17 _ _ ?_
        try clear hK17 K17
        refine wp_seq_k fun K19 hK19 => ?_
        refine wp_block ?_
        refine wp_seq_k fun K20 hK20 => ?_
        refine region_lit ?_
        refine seq_val (.int .i64 ((j : Nat) : Int)) 24 rfl (by kernel_rfl) (by kernel_rfl) ?_
        refine seq_val (.int .i64 ((j : Nat) : Int)) 5 rfl (by kernel_rfl) (by kernel_rfl) ?_
        refine seq_nil ?_
        refine hK20 _ _ ?_
        try clear hK20 K20
        refine region_lit ?_
        refine seq_val (.slice (some ⟨g, 0, none⟩) n cc) 25 rfl (by kernel_rfl) (by kernel_rfl) ?_
        refine seq_val (.int .i64 ((j : Nat) : Int)) 26 rfl (by kernel_rfl) (by kernel_rfl) ?_
        refine seq_val (.int .i64 ((k : Nat) : Int)) 27 rfl (by kernel_rfl) (by kernel_rfl) ?_
        refine seq_val (.int .i64 (((29 * k : Nat) : Int))) 28 rfl (by kernel_rfl) (run_eq (u := .int .i64 (IntKind.i64.wrap (29 * ((k : Nat) : Int)))) (by kernel_rfl) (congrArg (Value.int .i64) (i64n _ _ (by omega) (by omega)))) ?_
        refine seq_val (.int .i64 ((j : Nat) : Int)) 29 rfl (by kernel_rfl) (by kernel_rfl) ?_
        refine seq_val (.int .i64 (((5 * j : Nat) : Int))) 30 rfl (by kernel_rfl) (run_eq (u := .int .i64 (IntKind.i64.wrap (5 * ((j : Nat) : Int)))) (by kernel_rfl) (congrArg (Value.int .i64) (i64n _ _ (by omega) (by omega)))) ?_
        refine seq_val (.int .i64 (((29 * k + 5 * j : Nat) : Int))) 31 rfl (by kernel_rfl) (run_eq (u := .int .i64 (IntKind.i64.wrap (((29 * k : Nat) : Int) + ((5 * j : Nat) : Int)))) (by kernel_rfl) (congrArg (Value.int .i64) (i64n _ _ (by omega) (by omega)))) ?_
        refine seq_val (.int .i64 (((29 * k + 5 * j + 3 : Nat) : Int))) 32 rfl (by kernel_rfl) (run_eq (u := .int .i64 (IntKind.i64.wrap (((29 * k + 5 * j : Nat) : Int) + 3))) (by kernel_rfl) (congrArg (Value.int .i64) (i64n _ _ (by omega) (by omega)))) ?_
        refine seq_val (.int .u8 (pat k j)) 33 rfl (by kernel_rfl) (run_eq (u := .int .u8 (IntKind.u8.wrap (((29 * k + 5 * j + 3 : Nat) : Int)))) (by kernel_rfl) (congrArg (Value.int .u8) (wrap8 _))) ?_
        refine seq_val (.pointer (some ⟨g, j, none⟩)) 34 rfl (by kernel_rfl) (run_indexS0 24 _ _ .i64 (j) g n cc 5 rfl (by kernel_rfl) (by kernel_rfl) (by kernel_rfl) (by kernel_rfl) hj2) ?_
        refine seq_store8 (.tmp 34) (.tmp 33) g j (pat k j) hO (by omega) rfl (by kernel_rfl) (by kernel_rfl) rfl (by kernel_rfl) fun cur2 W3 hO2 p3 => ?_
        have x3 : Below base w W3 := puts_below p3 xx2 hO.1
        refine seq_nil ?_
        refine hK19 _ _ ?_
        try clear hK19 K19
        refine region_lit ?_
        refine seq_val (.int .i64 (((j + 1 : Nat) : Int))) 35 rfl (by kernel_rfl) (run_eq (u := .int .i64 (IntKind.i64.wrap (((j : Nat) : Int) + 1))) (by kernel_rfl) (congrArg (Value.int .i64) (i64n _ _ (by omega) (by omega)))) ?_
        refine seq_val (.int .i64 (((j + 1 : Nat) : Int))) 22 rfl (by kernel_rfl) (by kernel_rfl) ?_
        refine seq_nil ?_
        repeat (first | with_reducible refine goX1 ?_ | with_reducible refine goX2 ?_ | with_reducible refine goX3 ?_)
        exact goes_then (j + 1) ⟨rfl, rfl, rfl, rfl, rfl, rfl, rfl, rfl, trivial⟩ ⟨hj2, ⟨_, _, (by rw [List.length_set]; exact hbn), hO2, set_pat (by omega) hbt⟩, hoth.puts hd hk hv p3, p3.row r2 (ne_types r2 hO.2.1 (by decide)), x3⟩ (by show n - (j + 1) < n - j; omega)
      · skip
        have hj2 : j = n := by have := of_decide_eq_false c18; omega
        subst hj2
        refine wp_exit ?_
        refine hK13 _ _ ?_
        try clear hK13 K13
        refine region_lit ?_
        refine seq_val (.int .i64 (((k + 1 : Nat) : Int))) 36 rfl (by kernel_rfl) (run_eq (u := .int .i64 (IntKind.i64.wrap (((k : Nat) : Int) + 1))) (by kernel_rfl) (congrArg (Value.int .i64) (i64n _ _ (by omega) (by omega)))) ?_
        refine seq_val (.int .i64 (((k + 1 : Nat) : Int))) 15 rfl (by kernel_rfl) (by kernel_rfl) ?_
        refine seq_nil ?_
        repeat (first | with_reducible refine goX1 ?_ | with_reducible refine goX2 ?_ | with_reducible refine goX3 ?_)
        exact goes_then (k + 1) ⟨rfl, rfl, rfl, rfl, trivial⟩ ⟨hk, (hoth.fill (bs := bs2) (hbn.trans (hn.symm.trans hbl)) (by rw [hv]; exact .inr ⟨g, cc, cur2, by rw [hbn], hO⟩) (by rw [← hbl, hn]; exact full_pat hbn hbt)), r2, xx2⟩ (by show L - (k + 1) < L - k; omega)
  · skip
    have hk : k = L := by have := of_decide_eq_false c6; omega
    have hA : Full base L V N V1 := by rw [hk] at hF; exact hF.full
    clear hF hk
    refine wp_exit ?_
    refine hK2 _ _ ?_
    try clear hK2 K2
    refine wp_seq_k fun K21 hK21 => ?_
    refine region_lit ?_
    refine seq_makeS (#[]) 24 0 37 rfl (by kernel_rfl) (by kernel_rfl) fun g22 W2 l22 e2 r22_2 => ?_
    have x2 : Below base w W2 := bx hbase xx1 e2
    have b22 : w.heap.size ≤ g22 := Nat.le_trans xx1.size l22
    refine seq_val (.slice (some ⟨g22, 0, none⟩) 0 0) 6 rfl (by kernel_rfl) (by kernel_rfl) ?_
    refine seq_nil ?_
    refine hK21 _ _ ?_
    try clear hK21 K21
    refine wp_seq_k fun K23 hK23 => ?_
    refine wp_seq_k fun K24 hK24 => ?_
    refine region_lit ?_
    refine seq_val (.slice (some ⟨gl, 0, none⟩) L L) 38 rfl (by kernel_rfl) (by kernel_rfl) ?_
    refine seq_val (.int .i64 ((L : Nat) : Int)) 39 rfl (by kernel_rfl) (by kernel_rfl) ?_
    refine seq_val (.int .i64 0) 40 rfl (by kernel_rfl) (by kernel_rfl) ?_
    refine seq_nil ?_
    refine hK24 _ _ ?_
    try clear hK24 K24
    refine wp_block ?_
    refine loop_auto (fun (s : Nat × List Value × Nat × Nat × Array Value) => [(0, .slice (some ⟨gl, 0, none⟩) L L), (38, .slice (some ⟨gl, 0, none⟩) L L), (39, .int .i64 ((L : Nat) : Int)), (40, .int .i64 ((s.1 : Nat) : Int)), (6, .slice (some ⟨s.2.2.1, 0, none⟩) s.1 s.2.2.2.1)]) (fun s W => s.1 ≤ L ∧ (s.2.1).length = s.1 ∧ OwnL w.heap.size s.2.2.1 s.2.2.2.1 s.2.2.2.2 s.2.1 W ∧ Full base L V N W ∧ GFull base s.1 N s.2.1 W ∧ Gd L s.1 V s.2.1 ∧ W.heap[gl]? = some (.cells rowL 24) ∧ Below base w W) (fun s => L - s.1) (0, [], g22, 0, #[]) ⟨rfl, rfl, rfl, rfl, rfl, trivial⟩ ⟨Nat.zero_le _, rfl, ⟨b22, r22_2, rfl, Nat.le_refl _, Nat.zero_le _, rfl⟩, (hA.ext e2), fun i hi => absurd hi (Nat.not_lt_zero _), fun i j hi => absurd hi (Nat.not_lt_zero _), (row_ext rr e2), x2⟩ fun s X3 V3 hI => ?_
    clear hA rr xx1
    obtain ⟨k, G, gg, cg, curg⟩ := s
    obtain ⟨hkL, hGl, hL3, hA, hG, hgd, rr, xx3⟩ := hI
    replace hkL : k ≤ L := hkL
    replace hGl : (G).length = k := hGl
    replace hL3 : OwnL w.heap.size gg cg curg G V3 := hL3
    replace hA : Full base L V N V3 := hA
    replace hG : GFull base k N G V3 := hG
    replace hgd : Gd L k V G := hgd
    replace rr : V3.heap[gl]? = some (.cells rowL 24) := rr
    replace xx3 : Below base w V3 := xx3
    refine wp_seq_k fun K25 hK25 => ?_
    refine region_lit ?_
    refine seq_val (.bool (decide (((k : Nat) : Int) < ((L : Nat) : Int)))) 41 rfl (by kernel_rfl) (by kernel_rfl) ?_
    refine seq_nil ?_
    refine hK25 _ _ ?_
    try clear hK25 K25
    refine wp_seq_k fun K26 hK26 => ?_
    refine cond_split (t := decide (((k : Nat) : Int) < ((L : Nat) : Int))) (by kernel_rfl) (fun c27 => ?_) (fun c27 => ?_)
    · skip
      have hk : k < L := by have := of_decide_eq_true c27; omega
      have hNk := hN k hk
      have hcl := hcell k hk
      have hM := Mid.start hA hG hd hgd hk
      obtain ⟨v, hv⟩ : ∃ v, V k = v := ⟨_, rfl⟩
      rw [hv] at hM hcl
      rcases id hM.1 with ⟨rfl, he⟩ | ⟨g, cc, cur, hv2, hO⟩
      · skip
        have hn0 : N k = 0 := by have := congrArg List.length he; rwa [patL_len] at this
        have hlc : V3.cell? ⟨gl, 0 + k, none⟩ = some (.slice none 0 0) := by rw [Nat.zero_add]; exact row_cell rr hcl
        refine wp_skip ?_
        refine hK26 _ _ ?_
        try clear hK26 K26
        refine wp_seq_k fun K28 hK28 => ?_
        refine wp_block ?_
        refine wp_seq_k fun K29 hK29 => ?_
        refine region_lit ?_
        refine seq_val (.int .i64 ((k : Nat) : Int)) 42 rfl (by kernel_rfl) (by kernel_rfl) ?_
        refine seq_val (.pointer (some ⟨gl, 0 + k, none⟩)) 43 rfl (by kernel_rfl) (run_indexS 48 _ _ .i64 (k) gl 0 L L 24 rfl (by kernel_rfl) (by kernel_rfl) (by kernel_rfl) (by kernel_rfl) hk) ?_
        refine seq_val (.slice none 0 0) 44 rfl (by kernel_rfl) (run_loadCell 24 _ _ (.slice none 0 0) hlc rfl (by kernel_rfl) (by kernel_rfl)) ?_
        refine seq_val (.int .i64 ((k : Nat) : Int)) 7 rfl (by kernel_rfl) (by kernel_rfl) ?_
        refine seq_val (.slice none 0 0) 8 rfl (by kernel_rfl) (by kernel_rfl) ?_
        refine seq_nil ?_
        refine hK29 _ _ ?_
        try clear hK29 K29
        refine wp_seq_k fun K30 hK30 => ?_
        refine region_lit ?_
        refine seq_val (.slice none 0 0) 45 rfl (by kernel_rfl) (by kernel_rfl) ?_
        refine seq_val (.int .i64 0) 46 rfl (by kernel_rfl) (by kernel_rfl) ?_
        refine seq_val (.int .i64 0) 9 rfl (by kernel_rfl) (by kernel_rfl) ?_
        refine seq_nil ?_
        refine hK30 _ _ ?_
        try clear hK30 K30
        refine wp_seq_k fun K31 hK31 => ?_
        refine wp_block ?_
        refine loop_auto (fun (s : Nat × Value) => [(0, .slice (some ⟨gl, 0, none⟩) L L), (38, .slice (some ⟨gl, 0, none⟩) L L), (39, .int .i64 ((L : Nat) : Int)), (40, .int .i64 ((k : Nat) : Int)), (6, .slice (some ⟨gg, 0, none⟩) k cg), (7, .int .i64 ((k : Nat) : Int)), (8, s.2), (9, .int .i64 0)]) (fun s W => N k ≤ s.1 ∧ s.1 ≤ N k + 10 ∧ Mid base L k s.1 V N G s.2 W ∧ OwnL w.heap.size gg cg curg G W ∧ W.heap[gl]? = some (.cells rowL 24) ∧ Below base w W) (fun s => N k + 10 - s.1) (N k, .slice none 0 0) ⟨rfl, rfl, rfl, rfl, rfl, rfl, rfl, rfl, trivial⟩ ⟨Nat.le_refl _, Nat.le_add_right _ _, hM, hL3, rr, xx3⟩ fun s X4 V4 hI2 => ?_
        clear hM hL3 hA hG rr xx3 hlc
        obtain ⟨m, u⟩ := s
        obtain ⟨hm1, hm2, hMu, hLu, r3, xx4⟩ := hI2
        replace hm1 : N k ≤ m := hm1
        replace hm2 : m ≤ N k + 10 := hm2
        replace hMu : Mid base L k m V N G u V4 := hMu
        replace hLu : OwnL w.heap.size gg cg curg G V4 := hLu
        replace r3 : V4.heap[gl]? = some (.cells rowL 24) := r3
        replace xx4 : Below base w V4 := xx4
        rcases id hMu.1 with ⟨rfl, he3⟩ | ⟨g3, c3, cur3, hu3, hO3⟩
        · skip
          obtain rfl : m = 0 := by have := congrArg List.length he3; rwa [patL_len] at this
          have hm3 : 0 < N k + 10 := by omega
          refine wp_seq_k fun K32 hK32 => ?_
          refine wp_seq_k fun K33 hK33 => ?_
          refine region_lit ?_
          refine seq_val (.slice none 0 0) 47 rfl (by kernel_rfl) (by kernel_rfl) ?_
          refine seq_val (.int .i64 0) 48 rfl (by kernel_rfl) (by kernel_rfl) ?_
          refine seq_val (.int .i64 0) 49 rfl (by kernel_rfl) (by kernel_rfl) ?_
          refine seq_val (.int .i64 10) 50 rfl (by kernel_rfl) (by kernel_rfl) ?_
          refine seq_val (.bool true) 51 rfl (by kernel_rfl) (by kernel_rfl) ?_
          refine seq_nil ?_
          refine hK33 _ _ ?_
          try clear hK33 K33
          refine cond_true (by kernel_rfl) ?_
          refine wp_skip ?_
          refine hK32 _ _ ?_
          try clear hK32 K32
          refine wp_block ?_
          refine region_lit ?_
          refine seq_val (.slice none 0 0) 52 rfl (by kernel_rfl) (by kernel_rfl) ?_
          refine seq_val (.int .i64 ((k : Nat) : Int)) 53 rfl (by kernel_rfl) (by kernel_rfl) ?_
          refine seq_val (.int .i64 (((29 * k : Nat) : Int))) 54 rfl (by kernel_rfl) (run_eq (u := .int .i64 (IntKind.i64.wrap (29 * ((k : Nat) : Int)))) (by kernel_rfl) (congrArg (Value.int .i64) (i64n _ _ (by omega) (by omega)))) ?_
          refine seq_val (.slice none 0 0) 55 rfl (by kernel_rfl) (by kernel_rfl) ?_
          refine seq_val (.int .i64 0) 56 rfl (by kernel_rfl) (by kernel_rfl) ?_
          refine seq_val (.int .i64 0) 57 rfl (by kernel_rfl) (by kernel_rfl) ?_
          refine seq_val (.int .i64 (((29 * k + 5 * 0 : Nat) : Int))) 58 rfl (by kernel_rfl) (run_eq (u := .int .i64 (IntKind.i64.wrap (((29 * k : Nat) : Int) + 0))) (by kernel_rfl) (congrArg (Value.int .i64) (i64n _ _ (by omega) (by omega)))) ?_
          refine seq_val (.int .i64 (((29 * k + 5 * 0 + 3 : Nat) : Int))) 59 rfl (by kernel_rfl) (run_eq (u := .int .i64 (IntKind.i64.wrap (((29 * k + 5 * 0 : Nat) : Int) + 3))) (by kernel_rfl) (congrArg (Value.int .i64) (i64n _ _ (by omega) (by omega)))) ?_
          refine seq_val (.int .u8 (pat k 0)) 60 rfl (by kernel_rfl) (run_eq (u := .int .u8 (IntKind.u8.wrap (((29 * k + 5 * 0 + 3 : Nat) : Int)))) (by kernel_rfl) (congrArg (Value.int .u8) (wrap8 _))) ?_
          refine seq_makeS (ints .u8 ([(pat k 0)])) 5 1 61 rfl (by kernel_rfl) (by kernel_rfl) fun g34 W5 l34 e5 r34_5 => ?_
          have x5 : Below base w W5 := bx hbase xx4 e5
          have b34 : w.heap.size ≤ g34 := Nat.le_trans xx4.size l34
          refine seq_append8V (.tmp 52) (.tmp 61) 24 rfl (by kernel_rfl) 62 rfl (by kernel_rfl) (by kernel_rfl) (by kernel_rfl) (OwnV.ext hMu.1 e5) (own_of_row [(pat k 0)] b34 r34_5 (show 1 ≤ maxLen by decide)) (by rw [patL_len]; show 0 + 1 ≤ 1000000; omega) (show 0 < 1 by decide) (Nat.le_trans hbase x5.size) fun u2 W6 hO2 hw => ?_
          have hM2 := (hMu.ext e5).append hk hm1 hw hO2
          have hL2 := (hLu.ext e5).went (OwnV.ext hMu.1 e5) hw
          have r4 := row_went (row_ext r3 e5) (OwnV.ext hMu.1 e5) hw
          have x6 : Below base w W6 := went_below hw (OwnV.ext hMu.1 e5) x5 hbase
          refine seq_val (u2) 8 rfl (by kernel_rfl) (by kernel_rfl) ?_
          refine seq_nil ?_
          repeat (first | with_reducible refine goX1 ?_ | with_reducible refine goX2 ?_ | with_reducible refine goX3 ?_)
          exact goes_then (0 + 1, u2) ⟨rfl, rfl, rfl, rfl, rfl, rfl, rfl, rfl, trivial⟩ ⟨(by show N k ≤ 0 + 1; omega), (by show 0 + 1 ≤ N k + 10; omega), hM2, hL2, r4, x6⟩ (by show N k + 10 - (0 + 1) < N k + 10 - 0; omega)
        · skip
          rw [patL_len] at hu3
          subst hu3
          refine wp_seq_k fun K35 hK35 => ?_
          refine wp_seq_k fun K36 hK36 => ?_
          refine region_lit ?_
          refine seq_val (.slice (some ⟨g3, 0, none⟩) m c3) 47 rfl (by kernel_rfl) (by kernel_rfl) ?_
          refine seq_val (.int .i64 ((m : Nat) : Int)) 48 rfl (by kernel_rfl) (by kernel_rfl) ?_
          refine seq_val (.int .i64 0) 49 rfl (by kernel_rfl) (by kernel_rfl) ?_
          refine seq_val (.int .i64 10) 50 rfl (by kernel_rfl) (by kernel_rfl) ?_
          refine seq_val (.bool (decide (((m : Nat) : Int) < 10))) 51 rfl (by kernel_rfl) (by kernel_rfl) ?_
          refine seq_nil ?_
          refine hK36 _ _ ?_
          try clear hK36 K36
          refine cond_split (t := decide (((m : Nat) : Int) < 10)) (by kernel_rfl) (fun c37 => ?_) (fun c37 => ?_)
          · skip
            have hm3 : m < N k + 10 := by have := of_decide_eq_true c37; omega
            refine wp_skip ?_
            refine hK35 _ _ ?_
            try clear hK35 K35
            refine wp_block ?_
            refine region_lit ?_
            refine seq_val (.slice (some ⟨g3, 0, none⟩) m c3) 52 rfl (by kernel_rfl) (by kernel_rfl) ?_
            refine seq_val (.int .i64 ((k : Nat) : Int)) 53 rfl (by kernel_rfl) (by kernel_rfl) ?_
            refine seq_val (.int .i64 (((29 * k : Nat) : Int))) 54 rfl (by kernel_rfl) (run_eq (u := .int .i64 (IntKind.i64.wrap (29 * ((k : Nat) : Int)))) (by kernel_rfl) (congrArg (Value.int .i64) (i64n _ _ (by omega) (by omega)))) ?_
            refine seq_val (.slice (some ⟨g3, 0, none⟩) m c3) 55 rfl (by kernel_rfl) (by kernel_rfl) ?_
            refine seq_val (.int .i64 ((m : Nat) : Int)) 56 rfl (by kernel_rfl) (by kernel_rfl) ?_
            refine seq_val (.int .i64 (((5 * m : Nat) : Int))) 57 rfl (by kernel_rfl) (run_eq (u := .int .i64 (IntKind.i64.wrap (5 * ((m : Nat) : Int)))) (by kernel_rfl) (congrArg (Value.int .i64) (i64n _ _ (by omega) (by omega)))) ?_
            refine seq_val (.int .i64 (((29 * k + 5 * m : Nat) : Int))) 58 rfl (by kernel_rfl) (run_eq (u := .int .i64 (IntKind.i64.wrap (((29 * k : Nat) : Int) + ((5 * m : Nat) : Int)))) (by kernel_rfl) (congrArg (Value.int .i64) (i64n _ _ (by omega) (by omega)))) ?_
            refine seq_val (.int .i64 (((29 * k + 5 * m + 3 : Nat) : Int))) 59 rfl (by kernel_rfl) (run_eq (u := .int .i64 (IntKind.i64.wrap (((29 * k + 5 * m : Nat) : Int) + 3))) (by kernel_rfl) (congrArg (Value.int .i64) (i64n _ _ (by omega) (by omega)))) ?_
            refine seq_val (.int .u8 (pat k m)) 60 rfl (by kernel_rfl) (run_eq (u := .int .u8 (IntKind.u8.wrap (((29 * k + 5 * m + 3 : Nat) : Int)))) (by kernel_rfl) (congrArg (Value.int .u8) (wrap8 _))) ?_
            refine seq_makeS (ints .u8 ([(pat k m)])) 5 1 61 rfl (by kernel_rfl) (by kernel_rfl) fun g38 W5 l38 e5 r38_5 => ?_
            have x5 : Below base w W5 := bx hbase xx4 e5
            have b38 : w.heap.size ≤ g38 := Nat.le_trans xx4.size l38
            refine seq_append8V (.tmp 52) (.tmp 61) 24 rfl (by kernel_rfl) 62 rfl (by kernel_rfl) (by kernel_rfl) (by kernel_rfl) (OwnV.ext hMu.1 e5) (own_of_row [(pat k m)] b38 r38_5 (show 1 ≤ maxLen by decide)) (by rw [patL_len]; show m + 1 ≤ 1000000; omega) (show 0 < 1 by decide) (Nat.le_trans hbase x5.size) fun u2 W6 hO2 hw => ?_
            have hM2 := (hMu.ext e5).append hk hm1 hw hO2
            have hL2 := (hLu.ext e5).went (OwnV.ext hMu.1 e5) hw
            have r4 := row_went (row_ext r3 e5) (OwnV.ext hMu.1 e5) hw
            have x6 : Below base w W6 := went_below hw (OwnV.ext hMu.1 e5) x5 hbase
            refine seq_val (u2) 8 rfl (by kernel_rfl) (by kernel_rfl) ?_
            refine seq_nil ?_
            repeat (first | with_reducible refine goX1 ?_ | with_reducible refine goX2 ?_ | with_reducible refine goX3 ?_)
            exact goes_then (m + 1, u2) ⟨rfl, rfl, rfl, rfl, rfl, rfl, rfl, rfl, trivial⟩ ⟨(by show N k ≤ m + 1; omega), (by show m + 1 ≤ N k + 10; omega), hM2, hL2, r4, x6⟩ (by show N k + 10 - (m + 1) < N k + 10 - m; omega)
          · skip
            have hm3 : m = N k + 10 := by have := of_decide_eq_false c37; omega
            refine wp_exit ?_
            refine hK31 _ _ ?_
            try clear hK31 K31
            refine region_lit ?_
            refine seq_val (.slice (some ⟨gg, 0, none⟩) k cg) 63 rfl (by kernel_rfl) (by kernel_rfl) ?_
            refine seq_val (.slice (some ⟨g3, 0, none⟩) m c3) 64 rfl (by kernel_rfl) (by kernel_rfl) ?_
            refine seq_makeS (#[.slice (some ⟨g3, 0, none⟩) m c3]) 24 1 65 rfl (by kernel_rfl) (by kernel_rfl) fun g39 W5 l39 e5 r39_5 => ?_
            have x5 : Below base w W5 := bx hbase xx4 e5
            have b39 : w.heap.size ≤ g39 := Nat.le_trans xx4.size l39
            refine seq_appendL (.tmp 63) (.tmp 65) 48 rfl (by kernel_rfl) 66 rfl (by kernel_rfl) hGl (by kernel_rfl) (by kernel_rfl) (hLu.ext e5) r39_5 rfl (by omega) x5.size fun gg2 cg2 curg2 W6 hL4 hE => ?_
            have hD := (hMu.ext e5).done' hm3 hk hGl hgd (hLu.ext e5).2.1 hE
            have x6 : Below base w W6 := extB_below hE x5 hbase (Nat.le_trans hbase hLu.1)
            have r5 := hE.row (row_ext r3 e5) (by have := row_lt hrow; have := hLu.1; omega)
            refine seq_val (.slice (some ⟨gg2, 0, none⟩) (k + 1) cg2) 6 rfl (by kernel_rfl) (by kernel_rfl) ?_
            refine seq_nil ?_
            refine hK28 _ _ ?_
            try clear hK28 K28
            refine region_lit ?_
            refine seq_val (.int .i64 (((k + 1 : Nat) : Int))) 67 rfl (by kernel_rfl) (run_eq (u := .int .i64 (IntKind.i64.wrap (((k : Nat) : Int) + 1))) (by kernel_rfl) (congrArg (Value.int .i64) (i64n _ _ (by omega) (by omega)))) ?_
            refine seq_val (.int .i64 (((k + 1 : Nat) : Int))) 40 rfl (by kernel_rfl) (by kernel_rfl) ?_
            refine seq_nil ?_
            repeat (first | with_reducible refine goX1 ?_ | with_reducible refine goX2 ?_ | with_reducible refine goX3 ?_)
            exact goes_then (k + 1, G ++ [.slice (some ⟨g3, 0, none⟩) m c3], gg2, cg2, curg2) ⟨rfl, rfl, rfl, rfl, rfl, trivial⟩ ⟨hk, (by show (G ++ [_]).length = k + 1; simp; omega), hL4, hD.1, hD.2.1, hD.2.2, r5, x6⟩ (by show L - (k + 1) < L - k; omega)
      · skip
        rw [patL_len] at hv2
        subst hv2
        have hlc : V3.cell? ⟨gl, 0 + k, none⟩ = some (.slice (some ⟨g, 0, none⟩) (N k) cc) := by rw [Nat.zero_add]; exact row_cell rr hcl
        refine wp_skip ?_
        refine hK26 _ _ ?_
        try clear hK26 K26
        refine wp_seq_k fun K40 hK40 => ?_
        refine wp_block ?_
        refine wp_seq_k fun K41 hK41 => ?_
        refine region_lit ?_
        refine seq_val (.int .i64 ((k : Nat) : Int)) 42 rfl (by kernel_rfl) (by kernel_rfl) ?_
        refine seq_val (.pointer (some ⟨gl, 0 + k, none⟩)) 43 rfl (by kernel_rfl) (run_indexS 48 _ _ .i64 (k) gl 0 L L 24 rfl (by kernel_rfl) (by kernel_rfl) (by kernel_rfl) (by kernel_rfl) hk) ?_
        refine seq_val (.slice (some ⟨g, 0, none⟩) (N k) cc) 44 rfl (by kernel_rfl) (run_loadCell 24 _ _ (.slice (some ⟨g, 0, none⟩) (N k) cc) hlc rfl (by kernel_rfl) (by kernel_rfl)) ?_
        refine seq_val (.int .i64 ((k : Nat) : Int)) 7 rfl (by kernel_rfl) (by kernel_rfl) ?_
        refine seq_val (.slice (some ⟨g, 0, none⟩) (N k) cc) 8 rfl (by kernel_rfl) (by kernel_rfl) ?_
        refine seq_nil ?_
        refine hK41 _ _ ?_
        try clear hK41 K41
        refine wp_seq_k fun K42 hK42 => ?_
        refine region_lit ?_
        refine seq_val (.slice (some ⟨g, 0, none⟩) (N k) cc) 45 rfl (by kernel_rfl) (by kernel_rfl) ?_
        refine seq_val (.int .i64 (((N k) : Nat) : Int)) 46 rfl (by kernel_rfl) (by kernel_rfl) ?_
        refine seq_val (.int .i64 (((N k) : Nat) : Int)) 9 rfl (by kernel_rfl) (by kernel_rfl) ?_
        refine seq_nil ?_
        refine hK42 _ _ ?_
        try clear hK42 K42
        refine wp_seq_k fun K43 hK43 => ?_
        refine wp_block ?_
        refine loop_auto (fun (s : Nat × Value) => [(0, .slice (some ⟨gl, 0, none⟩) L L), (38, .slice (some ⟨gl, 0, none⟩) L L), (39, .int .i64 ((L : Nat) : Int)), (40, .int .i64 ((k : Nat) : Int)), (6, .slice (some ⟨gg, 0, none⟩) k cg), (7, .int .i64 ((k : Nat) : Int)), (8, s.2), (9, .int .i64 (((N k) : Nat) : Int))]) (fun s W => N k ≤ s.1 ∧ s.1 ≤ N k + 10 ∧ Mid base L k s.1 V N G s.2 W ∧ OwnL w.heap.size gg cg curg G W ∧ W.heap[gl]? = some (.cells rowL 24) ∧ Below base w W) (fun s => N k + 10 - s.1) (N k, .slice (some ⟨g, 0, none⟩) (N k) cc) ⟨rfl, rfl, rfl, rfl, rfl, rfl, rfl, rfl, trivial⟩ ⟨Nat.le_refl _, Nat.le_add_right _ _, hM, hL3, rr, xx3⟩ fun s X4 V4 hI2 => ?_
        clear hM hL3 hA hG rr xx3 hlc
        obtain ⟨m, u⟩ := s
        obtain ⟨hm1, hm2, hMu, hLu, r3, xx4⟩ := hI2
        replace hm1 : N k ≤ m := hm1
        replace hm2 : m ≤ N k + 10 := hm2
        replace hMu : Mid base L k m V N G u V4 := hMu
        replace hLu : OwnL w.heap.size gg cg curg G V4 := hLu
        replace r3 : V4.heap[gl]? = some (.cells rowL 24) := r3
        replace xx4 : Below base w V4 := xx4
        rcases id hMu.1 with ⟨rfl, he3⟩ | ⟨g3, c3, cur3, hu3, hO3⟩
        · skip
          obtain rfl : m = 0 := by have := congrArg List.length he3; rwa [patL_len] at this
          have hm3 : 0 < N k + 10 := by omega
          refine wp_seq_k fun K44 hK44 => ?_
          refine wp_seq_k fun K45 hK45 => ?_
          refine region_lit ?_
          refine seq_val (.slice none 0 0) 47 rfl (by kernel_rfl) (by kernel_rfl) ?_
          refine seq_val (.int .i64 0) 48 rfl (by kernel_rfl) (by kernel_rfl) ?_
          refine seq_val (.int .i64 (((N k) : Nat) : Int)) 49 rfl (by kernel_rfl) (by kernel_rfl) ?_
          refine seq_val (.int .i64 (((N k + 10 : Nat) : Int))) 50 rfl (by kernel_rfl) (run_eq (u := .int .i64 (IntKind.i64.wrap ((((N k) : Nat) : Int) + 10))) (by kernel_rfl) (congrArg (Value.int .i64) (i64n _ _ (by omega) (by omega)))) ?_
          refine seq_val (.bool true) 51 rfl (by kernel_rfl) (run_eq (u := .bool (decide (0 < ((N k + 10 : Nat) : Int)))) (by kernel_rfl) (congrArg Value.bool (decide_eq_true (by omega)))) ?_
          refine seq_nil ?_
          refine hK45 _ _ ?_
          try clear hK45 K45
          refine cond_true (by kernel_rfl) ?_
          refine wp_skip ?_
          refine hK44 _ _ ?_
          try clear hK44 K44
          refine wp_block ?_
          refine region_lit ?_
          refine seq_val (.slice none 0 0) 52 rfl (by kernel_rfl) (by kernel_rfl) ?_
          refine seq_val (.int .i64 ((k : Nat) : Int)) 53 rfl (by kernel_rfl) (by kernel_rfl) ?_
          refine seq_val (.int .i64 (((29 * k : Nat) : Int))) 54 rfl (by kernel_rfl) (run_eq (u := .int .i64 (IntKind.i64.wrap (29 * ((k : Nat) : Int)))) (by kernel_rfl) (congrArg (Value.int .i64) (i64n _ _ (by omega) (by omega)))) ?_
          refine seq_val (.slice none 0 0) 55 rfl (by kernel_rfl) (by kernel_rfl) ?_
          refine seq_val (.int .i64 0) 56 rfl (by kernel_rfl) (by kernel_rfl) ?_
          refine seq_val (.int .i64 0) 57 rfl (by kernel_rfl) (by kernel_rfl) ?_
          refine seq_val (.int .i64 (((29 * k + 5 * 0 : Nat) : Int))) 58 rfl (by kernel_rfl) (run_eq (u := .int .i64 (IntKind.i64.wrap (((29 * k : Nat) : Int) + 0))) (by kernel_rfl) (congrArg (Value.int .i64) (i64n _ _ (by omega) (by omega)))) ?_
          refine seq_val (.int .i64 (((29 * k + 5 * 0 + 3 : Nat) : Int))) 59 rfl (by kernel_rfl) (run_eq (u := .int .i64 (IntKind.i64.wrap (((29 * k + 5 * 0 : Nat) : Int) + 3))) (by kernel_rfl) (congrArg (Value.int .i64) (i64n _ _ (by omega) (by omega)))) ?_
          refine seq_val (.int .u8 (pat k 0)) 60 rfl (by kernel_rfl) (run_eq (u := .int .u8 (IntKind.u8.wrap (((29 * k + 5 * 0 + 3 : Nat) : Int)))) (by kernel_rfl) (congrArg (Value.int .u8) (wrap8 _))) ?_
          refine seq_makeS (ints .u8 ([(pat k 0)])) 5 1 61 rfl (by kernel_rfl) (by kernel_rfl) fun g46 W5 l46 e5 r46_5 => ?_
          have x5 : Below base w W5 := bx hbase xx4 e5
          have b46 : w.heap.size ≤ g46 := Nat.le_trans xx4.size l46
          refine seq_append8V (.tmp 52) (.tmp 61) 24 rfl (by kernel_rfl) 62 rfl (by kernel_rfl) (by kernel_rfl) (by kernel_rfl) (OwnV.ext hMu.1 e5) (own_of_row [(pat k 0)] b46 r46_5 (show 1 ≤ maxLen by decide)) (by rw [patL_len]; show 0 + 1 ≤ 1000000; omega) (show 0 < 1 by decide) (Nat.le_trans hbase x5.size) fun u2 W6 hO2 hw => ?_
          have hM2 := (hMu.ext e5).append hk hm1 hw hO2
          have hL2 := (hLu.ext e5).went (OwnV.ext hMu.1 e5) hw
          have r4 := row_went (row_ext r3 e5) (OwnV.ext hMu.1 e5) hw
          have x6 : Below base w W6 := went_below hw (OwnV.ext hMu.1 e5) x5 hbase
          refine seq_val (u2) 8 rfl (by kernel_rfl) (by kernel_rfl) ?_
          refine seq_nil ?_
          repeat (first | with_reducible refine goX1 ?_ | with_reducible refine goX2 ?_ | with_reducible refine goX3 ?_)
          exact goes_then (0 + 1, u2) ⟨rfl, rfl, rfl, rfl, rfl, rfl, rfl, rfl, trivial⟩ ⟨(by show N k ≤ 0 + 1; omega), (by show 0 + 1 ≤ N k + 10; omega), hM2, hL2, r4, x6⟩ (by show N k + 10 - (0 + 1) < N k + 10 - 0; omega)
        · skip
          rw [patL_len] at hu3
          subst hu3
          refine wp_seq_k fun K47 hK47 => ?_
          refine wp_seq_k fun K48 hK48 => ?_
          refine region_lit ?_
          refine seq_val (.slice (some ⟨g3, 0, none⟩) m c3) 47 rfl (by kernel_rfl) (by kernel_rfl) ?_
          refine seq_val (.int .i64 ((m : Nat) : Int)) 48 rfl (by kernel_rfl) (by kernel_rfl) ?_
          refine seq_val (.int .i64 (((N k) : Nat) : Int)) 49 rfl (by kernel_rfl) (by kernel_rfl) ?_
          refine seq_val (.int .i64 (((N k + 10 : Nat) : Int))) 50 rfl (by kernel_rfl) (run_eq (u := .int .i64 (IntKind.i64.wrap ((((N k) : Nat) : Int) + 10))) (by kernel_rfl) (congrArg (Value.int .i64) (i64n _ _ (by omega) (by omega)))) ?_
          refine seq_val (.bool (decide (((m : Nat) : Int) < ((N k + 10 : Nat) : Int)))) 51 rfl (by kernel_rfl) (by kernel_rfl) ?_
          refine seq_nil ?_
          refine hK48 _ _ ?_
          try clear hK48 K48
          refine cond_split (t := decide (((m : Nat) : Int) < ((N k + 10 : Nat) : Int))) (by kernel_rfl) (fun c49 => ?_) (fun c49 => ?_)
          · skip
            have hm3 : m < N k + 10 := by have := of_decide_eq_true c49; omega
            refine wp_skip ?_
            refine hK47 _ _ ?_
            try clear hK47 K47
            refine wp_block ?_
            refine region_lit ?_
            refine seq_val (.slice (some ⟨g3, 0, none⟩) m c3) 52 rfl (by kernel_rfl) (by kernel_rfl) ?_
            refine seq_val (.int .i64 ((k : Nat) : Int)) 53 rfl (by kernel_rfl) (by kernel_rfl) ?_
            refine seq_val (.int .i64 (((29 * k : Nat) : Int))) 54 rfl (by kernel_rfl) (run_eq (u := .int .i64 (IntKind.i64.wrap (29 * ((k : Nat) : Int)))) (by kernel_rfl) (congrArg (Value.int .i64) (i64n _ _ (by omega) (by omega)))) ?_
            refine seq_val (.slice (some ⟨g3, 0, none⟩) m c3) 55 rfl (by kernel_rfl) (by kernel_rfl) ?_
            refine seq_val (.int .i64 ((m : Nat) : Int)) 56 rfl (by kernel_rfl) (by kernel_rfl) ?_
            refine seq_val (.int .i64 (((5 * m : Nat) : Int))) 57 rfl (by kernel_rfl) (run_eq (u := .int .i64 (IntKind.i64.wrap (5 * ((m : Nat) : Int)))) (by kernel_rfl) (congrArg (Value.int .i64) (i64n _ _ (by omega) (by omega)))) ?_
            refine seq_val (.int .i64 (((29 * k + 5 * m : Nat) : Int))) 58 rfl (by kernel_rfl) (run_eq (u := .int .i64 (IntKind.i64.wrap (((29 * k : Nat) : Int) + ((5 * m : Nat) : Int)))) (by kernel_rfl) (congrArg (Value.int .i64) (i64n _ _ (by omega) (by omega)))) ?_
            refine seq_val (.int .i64 (((29 * k + 5 * m + 3 : Nat) : Int))) 59 rfl (by kernel_rfl) (run_eq (u := .int .i64 (IntKind.i64.wrap (((29 * k + 5 * m : Nat) : Int) + 3))) (by kernel_rfl) (congrArg (Value.int .i64) (i64n _ _ (by omega) (by omega)))) ?_
            refine seq_val (.int .u8 (pat k m)) 60 rfl (by kernel_rfl) (run_eq (u := .int .u8 (IntKind.u8.wrap (((29 * k + 5 * m + 3 : Nat) : Int)))) (by kernel_rfl) (congrArg (Value.int .u8) (wrap8 _))) ?_
            refine seq_makeS (ints .u8 ([(pat k m)])) 5 1 61 rfl (by kernel_rfl) (by kernel_rfl) fun g50 W5 l50 e5 r50_5 => ?_
            have x5 : Below base w W5 := bx hbase xx4 e5
            have b50 : w.heap.size ≤ g50 := Nat.le_trans xx4.size l50
            refine seq_append8V (.tmp 52) (.tmp 61) 24 rfl (by kernel_rfl) 62 rfl (by kernel_rfl) (by kernel_rfl) (by kernel_rfl) (OwnV.ext hMu.1 e5) (own_of_row [(pat k m)] b50 r50_5 (show 1 ≤ maxLen by decide)) (by rw [patL_len]; show m + 1 ≤ 1000000; omega) (show 0 < 1 by decide) (Nat.le_trans hbase x5.size) fun u2 W6 hO2 hw => ?_
            have hM2 := (hMu.ext e5).append hk hm1 hw hO2
            have hL2 := (hLu.ext e5).went (OwnV.ext hMu.1 e5) hw
            have r4 := row_went (row_ext r3 e5) (OwnV.ext hMu.1 e5) hw
            have x6 : Below base w W6 := went_below hw (OwnV.ext hMu.1 e5) x5 hbase
            refine seq_val (u2) 8 rfl (by kernel_rfl) (by kernel_rfl) ?_
            refine seq_nil ?_
            repeat (first | with_reducible refine goX1 ?_ | with_reducible refine goX2 ?_ | with_reducible refine goX3 ?_)
            exact goes_then (m + 1, u2) ⟨rfl, rfl, rfl, rfl, rfl, rfl, rfl, rfl, trivial⟩ ⟨(by show N k ≤ m + 1; omega), (by show m + 1 ≤ N k + 10; omega), hM2, hL2, r4, x6⟩ (by show N k + 10 - (m + 1) < N k + 10 - m; omega)
          · skip
            have hm3 : m = N k + 10 := by have := of_decide_eq_false c49; omega
            refine wp_exit ?_
            refine hK43 _ _ ?_
            try clear hK43 K43
            refine region_lit ?_
            refine seq_val (.slice (some ⟨gg, 0, none⟩) k cg) 63 rfl (by kernel_rfl) (by kernel_rfl) ?_
            refine seq_val (.slice (some ⟨g3, 0, none⟩) m c3) 64 rfl (by kernel_rfl) (by kernel_rfl) ?_
            refine seq_makeS (#[.slice (some ⟨g3, 0, none⟩) m c3]) 24 1 65 rfl (by kernel_rfl) (by kernel_rfl) fun g51 W5 l51 e5 r51_5 => ?_
            have x5 : Below base w W5 := bx hbase xx4 e5
            have b51 : w.heap.size ≤ g51 := Nat.le_trans xx4.size l51
            refine seq_appendL (.tmp 63) (.tmp 65) 48 rfl (by kernel_rfl) 66 rfl (by kernel_rfl) hGl (by kernel_rfl) (by kernel_rfl) (hLu.ext e5) r51_5 rfl (by omega) x5.size fun gg2 cg2 curg2 W6 hL4 hE => ?_
            have hD := (hMu.ext e5).done' hm3 hk hGl hgd (hLu.ext e5).2.1 hE
            have x6 : Below base w W6 := extB_below hE x5 hbase (Nat.le_trans hbase hLu.1)
            have r5 := hE.row (row_ext r3 e5) (by have := row_lt hrow; have := hLu.1; omega)
            refine seq_val (.slice (some ⟨gg2, 0, none⟩) (k + 1) cg2) 6 rfl (by kernel_rfl) (by kernel_rfl) ?_
            refine seq_nil ?_
            refine hK40 _ _ ?_
            try clear hK40 K40
            refine region_lit ?_
            refine seq_val (.int .i64 (((k + 1 : Nat) : Int))) 67 rfl (by kernel_rfl) (run_eq (u := .int .i64 (IntKind.i64.wrap (((k : Nat) : Int) + 1))) (by kernel_rfl) (congrArg (Value.int .i64) (i64n _ _ (by omega) (by omega)))) ?_
            refine seq_val (.int .i64 (((k + 1 : Nat) : Int))) 40 rfl (by kernel_rfl) (by kernel_rfl) ?_
            refine seq_nil ?_
            repeat (first | with_reducible refine goX1 ?_ | with_reducible refine goX2 ?_ | with_reducible refine goX3 ?_)
            exact goes_then (k + 1, G ++ [.slice (some ⟨g3, 0, none⟩) m c3], gg2, cg2, curg2) ⟨rfl, rfl, rfl, rfl, rfl, trivial⟩ ⟨hk, (by show (G ++ [_]).length = k + 1; simp; omega), hL4, hD.1, hD.2.1, hD.2.2, r5, x6⟩ (by show L - (k + 1) < L - k; omega)
    · skip
      have hk : k = L := by have := of_decide_eq_false c27; omega
      refine wp_exit ?_
      refine hK23 _ _ ?_
      try clear hK23 K23
      refine wp_seq_k fun K52 hK52 => ?_
      refine wp_seq_k fun K53 hK53 => ?_
      rw [hk] at hG
      rw [← hk] at hG
      refine region_lit ?_
      refine seq_val (.slice (some ⟨gg, 0, none⟩) k cg) 68 rfl (by kernel_rfl) (by kernel_rfl) ?_
      refine seq_val (.int .i64 ((k : Nat) : Int)) 69 rfl (by kernel_rfl) (by kernel_rfl) ?_
      refine seq_val (.int .i64 0) 70 rfl (by kernel_rfl) (by kernel_rfl) ?_
      refine seq_nil ?_
      refine hK53 _ _ ?_
      try clear hK53 K53
      refine wp_block ?_
      refine loop_auto (fun (i : Nat) => [(0, .slice (some ⟨gl, 0, none⟩) L L), (68, .slice (some ⟨gg, 0, none⟩) k cg), (69, .int .i64 ((k : Nat) : Int)), (70, .int .i64 ((i : Nat) : Int))]) (fun (i : Nat) W => i ≤ k ∧ Full base L V N W ∧ GFull base k N G W ∧ OwnL w.heap.size gg cg curg G W ∧ W.heap[gl]? = some (.cells rowL 24) ∧ Below base w W) (fun (i : Nat) => k - i) 0 ⟨rfl, rfl, rfl, rfl, trivial⟩ ⟨Nat.zero_le _, hA, hG, hL3, rr, xx3⟩ fun i X5 V5 hI => ?_
      clear hA hG hL3 rr xx3
      obtain ⟨hik, hA, hG, hL3, rr, xx5⟩ := hI
      refine wp_seq_k fun K54 hK54 => ?_
      refine region_lit ?_
      refine seq_val (.bool (decide (((i : Nat) : Int) < ((k : Nat) : Int)))) 71 rfl (by kernel_rfl) (by kernel_rfl) ?_
      refine seq_nil ?_
      refine hK54 _ _ ?_
      try clear hK54 K54
      refine wp_seq_k fun K55 hK55 => ?_
      refine cond_split (t := decide (((i : Nat) : Int) < ((k : Nat) : Int))) (by kernel_rfl) (fun c56 => ?_) (fun c56 => ?_)
      · skip
        have hi : i < k := by have := of_decide_eq_true c56; omega
        have hiL : i < L := by omega
        have hNi := hN i hiL
        obtain ⟨gi, ci, ui, hgi, hOi⟩ := hG i hi
        rw [patL_len] at hgi
        have hcG1 : V5.cell? ⟨gg, 0 + i, none⟩ = some (.slice (some ⟨gi, 0, none⟩) (N i + 10) ci) := by rw [Nat.zero_add, ← hgi]; exact hL3.cell (by omega)
        refine wp_skip ?_
        refine hK55 _ _ ?_
        try clear hK55 K55
        refine wp_seq_k fun K58 hK58 => ?_
        refine wp_block ?_
        refine wp_seq_k fun K59 hK59 => ?_
        refine region_lit ?_
        refine seq_val (.int .i64 ((i : Nat) : Int)) 72 rfl (by kernel_rfl) (by kernel_rfl) ?_
        refine seq_val (.pointer (some ⟨gg, 0 + i, none⟩)) 73 rfl (by kernel_rfl) (run_indexS 48 _ _ .i64 (i) gg 0 k cg 24 rfl (by kernel_rfl) (by kernel_rfl) (by kernel_rfl) (by kernel_rfl) hi) ?_
        refine seq_val (.slice (some ⟨gi, 0, none⟩) (N i + 10) ci) 74 rfl (by kernel_rfl) (run_loadCell 24 _ _ (.slice (some ⟨gi, 0, none⟩) (N i + 10) ci) hcG1 rfl (by kernel_rfl) (by kernel_rfl)) ?_
        refine seq_val (.int .i64 ((i : Nat) : Int)) 10 rfl (by kernel_rfl) (by kernel_rfl) ?_
        refine seq_val (.slice (some ⟨gi, 0, none⟩) (N i + 10) ci) 11 rfl (by kernel_rfl) (by kernel_rfl) ?_
        refine seq_nil ?_
        refine hK59 _ _ ?_
        try clear hK59 K59
        refine wp_seq_k fun K61 hK61 => ?_
        refine region_lit ?_
        refine seq_val (.slice (some ⟨gi, 0, none⟩) (N i + 10) ci) 75 rfl (by kernel_rfl) (by kernel_rfl) ?_
        refine seq_val (.int .i64 (((N i + 10) : Nat) : Int)) 76 rfl (by kernel_rfl) (by kernel_rfl) ?_
        refine seq_val (.int .i64 0) 77 rfl (by kernel_rfl) (by kernel_rfl) ?_
        refine seq_nil ?_
        refine hK61 _ _ ?_
        try clear hK61 K61
        refine wp_block ?_
        refine loop_auto (fun (j : Nat) => [(0, .slice (some ⟨gl, 0, none⟩) L L), (68, .slice (some ⟨gg, 0, none⟩) k cg), (69, .int .i64 ((k : Nat) : Int)), (70, .int .i64 ((i : Nat) : Int)), (10, .int .i64 ((i : Nat) : Int)), (11, .slice (some ⟨gi, 0, none⟩) (N i + 10) ci), (76, .int .i64 ((N i + 10 : Nat) : Int)), (77, .int .i64 ((j : Nat) : Int))]) (fun (j : Nat) W => j ≤ N i + 10 ∧ Full base L V N W ∧ GFull base k N G W ∧ OwnL w.heap.size gg cg curg G W ∧ W.heap[gl]? = some (.cells rowL 24) ∧ Below base w W) (fun (j : Nat) => N i + 10 - j) 0 ⟨rfl, rfl, rfl, rfl, rfl, rfl, rfl, rfl, trivial⟩ ⟨Nat.zero_le _, hA, hG, hL3, rr, xx5⟩ fun j X6 V6 hI2 => ?_
        clear hA hG hL3 rr xx5 hcG1 hOi
        obtain ⟨hjn, hA1, hG1, hL5, r1, xx6⟩ := hI2
        refine wp_seq_k fun K62 hK62 => ?_
        refine region_lit ?_
        refine seq_val (.bool (decide (((j : Nat) : Int) < ((N i + 10 : Nat) : Int)))) 78 rfl (by kernel_rfl) (by kernel_rfl) ?_
        refine seq_nil ?_
        refine hK62 _ _ ?_
        try clear hK62 K62
        refine wp_seq_k fun K63 hK63 => ?_
        refine cond_split (t := decide (((j : Nat) : Int) < ((N i + 10 : Nat) : Int))) (by kernel_rfl) (fun c64 => ?_) (fun c64 => ?_)
        · skip
          have hj : j < N i + 10 := by have := of_decide_eq_true c64; omega
          obtain ⟨gi', ci', ui2, hgi2, hOi2⟩ := hG1 i hi
          rw [patL_len, hgi] at hgi2
          simp only [Value.slice.injEq, Option.some.injEq, Addr.mk.injEq] at hgi2
          obtain ⟨⟨rfl, _⟩, _, rfl⟩ := hgi2
          have hcg : V6.cell? ⟨gi, j, none⟩ = some (.int .u8 (pat i j)) := by rw [hOi2.cell j (by rw [patL_len]; omega), patL_nth _ _ _ (by omega)]
          have hcl := hcell i hiL
          have hAi := hA1 i hiL
          obtain ⟨v, hv⟩ : ∃ v, V i = v := ⟨_, rfl⟩
          rw [hv] at hAi hcl
          rcases hAi with ⟨rfl, he⟩ | ⟨gv_, cv, uv, hv2, hOv⟩
          · skip
            have hn0 : N i = 0 := by have := congrArg List.length he; rwa [patL_len] at this
            have hcL : V6.cell? ⟨gl, 0 + i, none⟩ = some (.slice none 0 0) := by rw [Nat.zero_add]; exact row_cell r1 hcl
            refine wp_skip ?_
            refine hK63 _ _ ?_
            try clear hK63 K63
            refine wp_seq_k fun K65 hK65 => ?_
            refine wp_block ?_
            refine wp_seq_k fun K66 hK66 => ?_
            refine region_lit ?_
            refine seq_val (.int .i64 ((j : Nat) : Int)) 79 rfl (by kernel_rfl) (by kernel_rfl) ?_
            refine seq_val (.int .i64 ((j : Nat) : Int)) 12 rfl (by kernel_rfl) (by kernel_rfl) ?_
            refine seq_nil ?_
            refine hK66 _ _ ?_
            try clear hK66 K66
            refine wp_seq_k fun K67 hK67 => ?_
            refine any_region 35 [⟨none, [(11, none)]⟩, ⟨none, [(12, none)]⟩, ⟨none, [(80, some 0), (81, some 1)]⟩, ⟨none, [(82, some 2)]⟩, ⟨none, [(10, none)]⟩, ⟨none, [(84, some 4)]⟩, ⟨none, [(12, none)]⟩, ⟨none, [(86, some 6)]⟩, ⟨none, [(85, some 5), (87, some 7)]⟩, ⟨none, [(88, some 8)]⟩, ⟨none, [(89, some 9)]⟩, ⟨none, [(83, some 3), (90, some 10)]⟩, ⟨none, [(91, some 11)]⟩, ⟨some (92, false), [(12, none), (92, some 12)]⟩, ⟨some (92, false), [(0, none), (92, some 12)]⟩, ⟨some (92, false), [(10, none), (92, some 12)]⟩, ⟨some (92, false), [(94, some 14), (95, some 15), (92, some 12)]⟩, ⟨some (92, false), [(96, some 16), (92, some 12)]⟩, ⟨some (92, false), [(97, some 17), (92, some 12)]⟩, ⟨some (92, false), [(93, some 13), (98, some 18), (92, some 12)]⟩, ⟨some (92, false), [(99, some 19), (92, some 12)]⟩, ⟨some (100, true), [(0, none), (100, some 20)]⟩, ⟨some (100, true), [(10, none), (100, some 20)]⟩, ⟨some (100, true), [(101, some 21), (102, some 22), (100, some 20)]⟩, ⟨some (100, true), [(103, some 23), (100, some 20)]⟩, ⟨some (100, true), [(12, none), (100, some 20)]⟩, ⟨some (100, true), [(104, some 24), (105, some 25), (100, some 20)]⟩, ⟨some (100, true), [(106, some 26), (100, some 20)]⟩, ⟨some (100, true), [(11, none), (100, some 20)]⟩, ⟨some (100, true), [(12, none), (100, some 20)]⟩, ⟨some (100, true), [(108, some 28), (109, some 29), (100, some 20)]⟩, ⟨some (100, true), [(110, some 30), (100, some 20)]⟩, ⟨some (100, true), [(107, some 27), (111, some 31), (100, some 20)]⟩, ⟨some (92, false), [(100, some 20), (112, some 32), (92, some 12)]⟩, ⟨none, [(92, some 12), (113, some 33)]⟩] (by kernel_rfl) (by kernel_rfl) fun F hF => ?_
            refine any_val (.slice (some ⟨gi, 0, none⟩) (N i + 10) ci) (by kernel_rfl) (by kernel_rfl) (fun W => by kernel_rfl) ?_
            refine any_val (.int .i64 ((j : Nat) : Int)) (by kernel_rfl) (by kernel_rfl) (fun W => by kernel_rfl) ?_
            refine any_val (.pointer (some ⟨gi, j, none⟩)) (by kernel_rfl) (by kernel_rfl) (fun W => (run_indexS0 24 _ _ .i64 (j) gi (N i + 10) ci 5 rfl (by kernel_rfl) (by kernel_rfl) (by kernel_rfl) (by kernel_rfl) hj)) ?_
            refine any_read (.int .u8 (pat i j)) (by kernel_rfl) (by kernel_rfl) (fun W hR => (run_loadCell 5 _ _ (.int .u8 (pat i j)) (cell_ext hcg (Rely.Ext.trans (ext_drew _) hR)) rfl (by kernel_rfl) (by kernel_rfl))) ?_
            refine any_val (.int .i64 ((i : Nat) : Int)) (by kernel_rfl) (by kernel_rfl) (fun W => by kernel_rfl) ?_
            refine any_val (.int .i64 (((29 * i : Nat) : Int))) (by kernel_rfl) (by kernel_rfl) (fun W => (run_eq (u := .int .i64 (IntKind.i64.wrap (29 * ((i : Nat) : Int)))) (by kernel_rfl) (congrArg (Value.int .i64) (i64n _ _ (by omega) (by omega))))) ?_
            refine any_val (.int .i64 ((j : Nat) : Int)) (by kernel_rfl) (by kernel_rfl) (fun W => by kernel_rfl) ?_
            refine any_val (.int .i64 (((5 * j : Nat) : Int))) (by kernel_rfl) (by kernel_rfl) (fun W => (run_eq (u := .int .i64 (IntKind.i64.wrap (5 * ((j : Nat) : Int)))) (by kernel_rfl) (congrArg (Value.int .i64) (i64n _ _ (by omega) (by omega))))) ?_
            refine any_val (.int .i64 (((29 * i + 5 * j : Nat) : Int))) (by kernel_rfl) (by kernel_rfl) (fun W => (run_eq (u := .int .i64 (IntKind.i64.wrap (((29 * i : Nat) : Int) + ((5 * j : Nat) : Int)))) (by kernel_rfl) (congrArg (Value.int .i64) (i64n _ _ (by omega) (by omega))))) ?_
            refine any_val (.int .i64 (((29 * i + 5 * j + 3 : Nat) : Int))) (by kernel_rfl) (by kernel_rfl) (fun W => (run_eq (u := .int .i64 (IntKind.i64.wrap (((29 * i + 5 * j : Nat) : Int) + 3))) (by kernel_rfl) (congrArg (Value.int .i64) (i64n _ _ (by omega) (by omega))))) ?_
            refine any_val (.int .u8 (pat i j)) (by kernel_rfl) (by kernel_rfl) (fun W => (run_eq (u := .int .u8 (IntKind.u8.wrap (((29 * i + 5 * j + 3 : Nat) : Int)))) (by kernel_rfl) (congrArg (Value.int .u8) (wrap8 _)))) ?_
            refine any_val (.bool false) (by kernel_rfl) (by kernel_rfl) (fun W => (run_eq (u := .bool (((pat i j) != (pat i j)))) (by kernel_rfl) (congrArg Value.bool (bne_self_eq_false _)))) ?_
            refine any_val (.bool false) (by kernel_rfl) (by kernel_rfl) (fun W => by kernel_rfl) ?_
            refine any_val (.int .i64 ((j : Nat) : Int)) (by kernel_rfl) (by kernel_rfl) (fun W => by kernel_rfl) ?_
            refine any_val (.slice (some ⟨gl, 0, none⟩) L L) (by kernel_rfl) (by kernel_rfl) (fun W => by kernel_rfl) ?_
            refine any_val (.int .i64 ((i : Nat) : Int)) (by kernel_rfl) (by kernel_rfl) (fun W => by kernel_rfl) ?_
            refine any_val (.pointer (some ⟨gl, 0 + i, none⟩)) (by kernel_rfl) (by kernel_rfl) (fun W => (run_indexS 48 _ _ .i64 (i) gl 0 L L 24 rfl (by kernel_rfl) (by kernel_rfl) (by kernel_rfl) (by kernel_rfl) hiL)) ?_
            refine any_read (.slice none 0 0) (by kernel_rfl) (by kernel_rfl) (fun W hR => (run_loadCell 24 _ _ (.slice none 0 0) (cell_ext hcL (Rely.Ext.trans (ext_drew _) hR)) rfl (by kernel_rfl) (by kernel_rfl))) ?_
            refine any_val (.int .i64 0) (by kernel_rfl) (by kernel_rfl) (fun W => by kernel_rfl) ?_
            refine any_val (.bool false) (by kernel_rfl) (by kernel_rfl) (fun W => (run_eq (u := .bool (decide (((j : Nat) : Int) < 0))) (by kernel_rfl) (congrArg Value.bool (decide_eq_false (by omega))))) ?_
            refine any_val (.bool false) (by kernel_rfl) (by kernel_rfl) (fun W => by kernel_rfl) ?_
            refine any_skip (by kernel_rfl) (by kernel_rfl) ?_
            refine any_skip (by kernel_rfl) (by kernel_rfl) ?_
            refine any_skip (by kernel_rfl) (by kernel_rfl) ?_
            refine any_skip (by kernel_rfl) (by kernel_rfl) ?_
            refine any_skip (by kernel_rfl) (by kernel_rfl) ?_
            refine any_skip (by kernel_rfl) (by kernel_rfl) ?_
            refine any_skip (by kernel_rfl) (by kernel_rfl) ?_
            refine any_skip (by kernel_rfl) (by kernel_rfl) ?_
            refine any_skip (by kernel_rfl) (by kernel_rfl) ?_
            refine any_skip (by kernel_rfl) (by kernel_rfl) ?_
            refine any_skip (by kernel_rfl) (by kernel_rfl) ?_
            refine any_skip (by kernel_rfl) (by kernel_rfl) ?_
            refine any_val (.bool false) (by kernel_rfl) (by kernel_rfl) (fun W => by kernel_rfl) ?_
            refine any_val (.bool false) (by kernel_rfl) (by kernel_rfl) (fun W => by kernel_rfl) ?_
            refine steps_nil (hF _ (by kernel_rfl) fun W6 e6 => ?_)
            simp only [ups, up, Kn.val, List.take_succ_cons, List.take_zero, List.drop_succ_cons, List.drop_zero, List.nil_append, List.cons_append]
            clear hF
            have x6 : Below base w W6 := bx hbase xx6 e6
            refine seq_nil ?_
            refine hK67 _ _ ?_
            try clear hK67 K67
            refine cond_false (by kernel_rfl) ?_
            refine wp_skip ?_
            refine hK65 _ _ ?_
            try clear hK65 K65
            refine region_lit ?_
            refine seq_val (.int .i64 (((j + 1 : Nat) : Int))) 115 rfl (by kernel_rfl) (run_eq (u := .int .i64 (IntKind.i64.wrap (((j : Nat) : Int) + 1))) (by kernel_rfl) (congrArg (Value.int .i64) (i64n _ _ (by omega) (by omega)))) ?_
            refine seq_val (.int .i64 (((j + 1 : Nat) : Int))) 77 rfl (by kernel_rfl) (by kernel_rfl) ?_
            refine seq_nil ?_
            repeat (first | with_reducible refine goX1 ?_ | with_reducible refine goX2 ?_ | with_reducible refine goX3 ?_)
            exact goes_then (j + 1) ⟨rfl, rfl, rfl, rfl, rfl, rfl, rfl, rfl, trivial⟩ ⟨hj, (hA1.ext e6), (hG1.ext e6), (hL5.ext e6), (row_ext r1 e6), x6⟩ (by show N i + 10 - (j + 1) < N i + 10 - j; omega)
          · skip
            rw [patL_len] at hv2
            subst hv2
            have hcL : V6.cell? ⟨gl, 0 + i, none⟩ = some (.slice (some ⟨gv_, 0, none⟩) (N i) cv) := by rw [Nat.zero_add]; exact row_cell r1 hcl
            rcases Nat.lt_or_ge j (N i) with hjN | hjN
            · skip
              have hcv : V6.cell? ⟨gv_, j, none⟩ = some (.int .u8 (pat i j)) := by rw [hOv.cell j (by rw [patL_len]; omega), patL_nth _ _ _ (by omega)]
              refine wp_skip ?_
              refine hK63 _ _ ?_
              try clear hK63 K63
              refine wp_seq_k fun K70 hK70 => ?_
              refine wp_block ?_
              refine wp_seq_k fun K71 hK71 => ?_
              refine region_lit ?_
              refine seq_val (.int .i64 ((j : Nat) : Int)) 79 rfl (by kernel_rfl) (by kernel_rfl) ?_
              refine seq_val (.int .i64 ((j : Nat) : Int)) 12 rfl (by kernel_rfl) (by kernel_rfl) ?_
              refine seq_nil ?_
              refine hK71 _ _ ?_
              try clear hK71 K71
              refine wp_seq_k fun K72 hK72 => ?_
              refine any_region 35 [⟨none, [(11, none)]⟩, ⟨none, [(12, none)]⟩, ⟨none, [(80, some 0), (81, some 1)]⟩, ⟨none, [(82, some 2)]⟩, ⟨none, [(10, none)]⟩, ⟨none, [(84, some 4)]⟩, ⟨none, [(12, none)]⟩, ⟨none, [(86, some 6)]⟩, ⟨none, [(85, some 5), (87, some 7)]⟩, ⟨none, [(88, some 8)]⟩, ⟨none, [(89, some 9)]⟩, ⟨none, [(83, some 3), (90, some 10)]⟩, ⟨none, [(91, some 11)]⟩, ⟨some (92, false), [(12, none), (92, some 12)]⟩, ⟨some (92, false), [(0, none), (92, some 12)]⟩, ⟨some (92, false), [(10, none), (92, some 12)]⟩, ⟨some (92, false), [(94, some 14), (95, some 15), (92, some 12)]⟩, ⟨some (92, false), [(96, some 16), (92, some 12)]⟩, ⟨some (92, false), [(97, some 17), (92, some 12)]⟩, ⟨some (92, false), [(93, some 13), (98, some 18), (92, some 12)]⟩, ⟨some (92, false), [(99, some 19), (92, some 12)]⟩, ⟨some (100, true), [(0, none), (100, some 20)]⟩, ⟨some (100, true), [(10, none), (100, some 20)]⟩, ⟨some (100, true), [(101, some 21), (102, some 22), (100, some 20)]⟩, ⟨some (100, true), [(103, some 23), (100, some 20)]⟩, ⟨some (100, true), [(12, none), (100, some 20)]⟩, ⟨some (100, true), [(104, some 24), (105, some 25), (100, some 20)]⟩, ⟨some (100, true), [(106, some 26), (100, some 20)]⟩, ⟨some (100, true), [(11, none), (100, some 20)]⟩, ⟨some (100, true), [(12, none), (100, some 20)]⟩, ⟨some (100, true), [(108, some 28), (109, some 29), (100, some 20)]⟩, ⟨some (100, true), [(110, some 30), (100, some 20)]⟩, ⟨some (100, true), [(107, some 27), (111, some 31), (100, some 20)]⟩, ⟨some (92, false), [(100, some 20), (112, some 32), (92, some 12)]⟩, ⟨none, [(92, some 12), (113, some 33)]⟩] (by kernel_rfl) (by kernel_rfl) fun F hF => ?_
              refine any_val (.slice (some ⟨gi, 0, none⟩) (N i + 10) ci) (by kernel_rfl) (by kernel_rfl) (fun W => by kernel_rfl) ?_
              refine any_val (.int .i64 ((j : Nat) : Int)) (by kernel_rfl) (by kernel_rfl) (fun W => by kernel_rfl) ?_
              refine any_val (.pointer (some ⟨gi, j, none⟩)) (by kernel_rfl) (by kernel_rfl) (fun W => (run_indexS0 24 _ _ .i64 (j) gi (N i + 10) ci 5 rfl (by kernel_rfl) (by kernel_rfl) (by kernel_rfl) (by kernel_rfl) hj)) ?_
              refine any_read (.int .u8 (pat i j)) (by kernel_rfl) (by kernel_rfl) (fun W hR => (run_loadCell 5 _ _ (.int .u8 (pat i j)) (cell_ext hcg (Rely.Ext.trans (ext_drew _) hR)) rfl (by kernel_rfl) (by kernel_rfl))) ?_
              refine any_val (.int .i64 ((i : Nat) : Int)) (by kernel_rfl) (by kernel_rfl) (fun W => by kernel_rfl) ?_
              refine any_val (.int .i64 (((29 * i : Nat) : Int))) (by kernel_rfl) (by kernel_rfl) (fun W => (run_eq (u := .int .i64 (IntKind.i64.wrap (29 * ((i : Nat) : Int)))) (by kernel_rfl) (congrArg (Value.int .i64) (i64n _ _ (by omega) (by omega))))) ?_
              refine any_val (.int .i64 ((j : Nat) : Int)) (by kernel_rfl) (by kernel_rfl) (fun W => by kernel_rfl) ?_
              refine any_val (.int .i64 (((5 * j : Nat) : Int))) (by kernel_rfl) (by kernel_rfl) (fun W => (run_eq (u := .int .i64 (IntKind.i64.wrap (5 * ((j : Nat) : Int)))) (by kernel_rfl) (congrArg (Value.int .i64) (i64n _ _ (by omega) (by omega))))) ?_
              refine any_val (.int .i64 (((29 * i + 5 * j : Nat) : Int))) (by kernel_rfl) (by kernel_rfl) (fun W => (run_eq (u := .int .i64 (IntKind.i64.wrap (((29 * i : Nat) : Int) + ((5 * j : Nat) : Int)))) (by kernel_rfl) (congrArg (Value.int .i64) (i64n _ _ (by omega) (by omega))))) ?_
              refine any_val (.int .i64 (((29 * i + 5 * j + 3 : Nat) : Int))) (by kernel_rfl) (by kernel_rfl) (fun W => (run_eq (u := .int .i64 (IntKind.i64.wrap (((29 * i + 5 * j : Nat) : Int) + 3))) (by kernel_rfl) (congrArg (Value.int .i64) (i64n _ _ (by omega) (by omega))))) ?_
              refine any_val (.int .u8 (pat i j)) (by kernel_rfl) (by kernel_rfl) (fun W => (run_eq (u := .int .u8 (IntKind.u8.wrap (((29 * i + 5 * j + 3 : Nat) : Int)))) (by kernel_rfl) (congrArg (Value.int .u8) (wrap8 _)))) ?_
              refine any_val (.bool false) (by kernel_rfl) (by kernel_rfl) (fun W => (run_eq (u := .bool (((pat i j) != (pat i j)))) (by kernel_rfl) (congrArg Value.bool (bne_self_eq_false _)))) ?_
              refine any_val (.bool false) (by kernel_rfl) (by kernel_rfl) (fun W => by kernel_rfl) ?_
              refine any_val (.int .i64 ((j : Nat) : Int)) (by kernel_rfl) (by kernel_rfl) (fun W => by kernel_rfl) ?_
              refine any_val (.slice (some ⟨gl, 0, none⟩) L L) (by kernel_rfl) (by kernel_rfl) (fun W => by kernel_rfl) ?_
              refine any_val (.int .i64 ((i : Nat) : Int)) (by kernel_rfl) (by kernel_rfl) (fun W => by kernel_rfl) ?_
              refine any_val (.pointer (some ⟨gl, 0 + i, none⟩)) (by kernel_rfl) (by kernel_rfl) (fun W => (run_indexS 48 _ _ .i64 (i) gl 0 L L 24 rfl (by kernel_rfl) (by kernel_rfl) (by kernel_rfl) (by kernel_rfl) hiL)) ?_
              refine any_read (.slice (some ⟨gv_, 0, none⟩) (N i) cv) (by kernel_rfl) (by kernel_rfl) (fun W hR => (run_loadCell 24 _ _ (.slice (some ⟨gv_, 0, none⟩) (N i) cv) (cell_ext hcL (Rely.Ext.trans (ext_drew _) hR)) rfl (by kernel_rfl) (by kernel_rfl))) ?_
              refine any_val (.int .i64 (((N i) : Nat) : Int)) (by kernel_rfl) (by kernel_rfl) (fun W => by kernel_rfl) ?_
              refine any_val (.bool true) (by kernel_rfl) (by kernel_rfl) (fun W => (run_eq (u := .bool (decide (((j : Nat) : Int) < (((N i) : Nat) : Int)))) (by kernel_rfl) (congrArg Value.bool (decide_eq_true (by omega))))) ?_
              refine any_val (.bool true) (by kernel_rfl) (by kernel_rfl) (fun W => by kernel_rfl) ?_
              refine any_val (.slice (some ⟨gl, 0, none⟩) L L) (by kernel_rfl) (by kernel_rfl) (fun W => by kernel_rfl) ?_
              refine any_val (.int .i64 ((i : Nat) : Int)) (by kernel_rfl) (by kernel_rfl) (fun W => by kernel_rfl) ?_
              refine any_val (.pointer (some ⟨gl, 0 + i, none⟩)) (by kernel_rfl) (by kernel_rfl) (fun W => (run_indexS 48 _ _ .i64 (i) gl 0 L L 24 rfl (by kernel_rfl) (by kernel_rfl) (by kernel_rfl) (by kernel_rfl) hiL)) ?_
              refine any_read (.slice (some ⟨gv_, 0, none⟩) (N i) cv) (by kernel_rfl) (by kernel_rfl) (fun W hR => (run_loadCell 24 _ _ (.slice (some ⟨gv_, 0, none⟩) (N i) cv) (cell_ext hcL (Rely.Ext.trans (ext_drew _) hR)) rfl (by kernel_rfl) (by kernel_rfl))) ?_
              refine any_val (.int .i64 ((j : Nat) : Int)) (by kernel_rfl) (by kernel_rfl) (fun W => by kernel_rfl) ?_
              refine any_val (.pointer (some ⟨gv_, j, none⟩)) (by kernel_rfl) (by kernel_rfl) (fun W => (run_indexS0 24 _ _ .i64 (j) gv_ (N i) cv 5 rfl (by kernel_rfl) (by kernel_rfl) (by kernel_rfl) (by kernel_rfl) hjN)) ?_
              refine any_read (.int .u8 (pat i j)) (by kernel_rfl) (by kernel_rfl) (fun W hR => (run_loadCell 5 _ _ (.int .u8 (pat i j)) (cell_ext hcv (Rely.Ext.trans (ext_drew _) hR)) rfl (by kernel_rfl) (by kernel_rfl))) ?_
              refine any_val (.slice (some ⟨gi, 0, none⟩) (N i + 10) ci) (by kernel_rfl) (by kernel_rfl) (fun W => by kernel_rfl) ?_
              refine any_val (.int .i64 ((j : Nat) : Int)) (by kernel_rfl) (by kernel_rfl) (fun W => by kernel_rfl) ?_
              refine any_val (.pointer (some ⟨gi, j, none⟩)) (by kernel_rfl) (by kernel_rfl) (fun W => (run_indexS0 24 _ _ .i64 (j) gi (N i + 10) ci 5 rfl (by kernel_rfl) (by kernel_rfl) (by kernel_rfl) (by kernel_rfl) hj)) ?_
              refine any_read (.int .u8 (pat i j)) (by kernel_rfl) (by kernel_rfl) (fun W hR => (run_loadCell 5 _ _ (.int .u8 (pat i j)) (cell_ext hcg (Rely.Ext.trans (ext_drew _) hR)) rfl (by kernel_rfl) (by kernel_rfl))) ?_
              refine any_val (.bool false) (by kernel_rfl) (by kernel_rfl) (fun W => (run_eq (u := .bool (((pat i j) != (pat i j)))) (by kernel_rfl) (congrArg Value.bool (bne_self_eq_false _)))) ?_
              refine any_val (.bool false) (by kernel_rfl) (by kernel_rfl) (fun W => by kernel_rfl) ?_
              refine any_val (.bool false) (by kernel_rfl) (by kernel_rfl) (fun W => by kernel_rfl) ?_
              refine steps_nil (hF _ (by kernel_rfl) fun W6 e6 => ?_)
              simp only [ups, up, Kn.val, List.take_succ_cons, List.take_zero, List.drop_succ_cons, List.drop_zero, List.nil_append, List.cons_append]
              clear hF
              have x6 : Below base w W6 := bx hbase xx6 e6
              refine seq_nil ?_
              refine hK72 _ _ ?_
              try clear hK72 K72
              refine cond_false (by kernel_rfl) ?_
              refine wp_skip ?_
              refine hK70 _ _ ?_
              try clear hK70 K70
              refine region_lit ?_
              refine seq_val (.int .i64 (((j + 1 : Nat) : Int))) 115 rfl (by kernel_rfl) (run_eq (u := .int .i64 (IntKind.i64.wrap (((j : Nat) : Int) + 1))) (by kernel_rfl) (congrArg (Value.int .i64) (i64n _ _ (by omega) (by omega)))) ?_
              refine seq_val (.int .i64 (((j + 1 : Nat) : Int))) 77 rfl (by kernel_rfl) (by kernel_rfl) ?_
              refine seq_nil ?_
              repeat (first | with_reducible refine goX1 ?_ | with_reducible refine goX2 ?_ | with_reducible refine goX3 ?_)
              exact goes_then (j + 1) ⟨rfl, rfl, rfl, rfl, rfl, rfl, rfl, rfl, trivial⟩ ⟨hj, (hA1.ext e6), (hG1.ext e6), (hL5.ext e6), (row_ext r1 e6), x6⟩ (by show N i + 10 - (j + 1) < N i + 10 - j; omega)
            · skip
              refine wp_skip ?_
              refine hK63 _ _ ?_
              try clear hK63 K63
              refine wp_seq_k fun K76 hK76 => ?_
              refine wp_block ?_
              refine wp_seq_k fun K77 hK77 => ?_
              refine region_lit ?_
              refine seq_val (.int .i64 ((j : Nat) : Int)) 79 rfl (by kernel_rfl) (by kernel_rfl) ?_
              refine seq_val (.int .i64 ((j : Nat) : Int)) 12 rfl (by kernel_rfl) (by kernel_rfl) ?_
              refine seq_nil ?_
              refine hK77 _ _ ?_
              try clear hK77 K77
              refine wp_seq_k fun K78 hK78 => ?_
              refine any_region 35 [⟨none, [(11, none)]⟩, ⟨none, [(12, none)]⟩, ⟨none, [(80, some 0), (81, some 1)]⟩, ⟨none, [(82, some 2)]⟩, ⟨none, [(10, none)]⟩, ⟨none, [(84, some 4)]⟩, ⟨none, [(12, none)]⟩, ⟨none, [(86, some 6)]⟩, ⟨none, [(85, some 5), (87, some 7)]⟩, ⟨none, [(88, some 8)]⟩, ⟨none, [(89, some 9)]⟩, ⟨none, [(83, some 3), (90, some 10)]⟩, ⟨none, [(91, some 11)]⟩, ⟨some (92, false), [(12, none), (92, some 12)]⟩, ⟨some (92, false), [(0, none), (92, some 12)]⟩, ⟨some (92, false), [(10, none), (92, some 12)]⟩, ⟨some (92, false), [(94, some 14), (95, some 15), (92, some 12)]⟩, ⟨some (92, false), [(96, some 16), (92, some 12)]⟩, ⟨some (92, false), [(97, some 17), (92, some 12)]⟩, ⟨some (92, false), [(93, some 13), (98, some 18), (92, some 12)]⟩, ⟨some (92, false), [(99, some 19), (92, some 12)]⟩, ⟨some (100, true), [(0, none), (100, some 20)]⟩, ⟨some (100, true), [(10, none), (100, some 20)]⟩, ⟨some (100, true), [(101, some 21), (102, some 22), (100, some 20)]⟩, ⟨some (100, true), [(103, some 23), (100, some 20)]⟩, ⟨some (100, true), [(12, none), (100, some 20)]⟩, ⟨some (100, true), [(104, some 24), (105, some 25), (100, some 20)]⟩, ⟨some (100, true), [(106, some 26), (100, some 20)]⟩, ⟨some (100, true), [(11, none), (100, some 20)]⟩, ⟨some (100, true), [(12, none), (100, some 20)]⟩, ⟨some (100, true), [(108, some 28), (109, some 29), (100, some 20)]⟩, ⟨some (100, true), [(110, some 30), (100, some 20)]⟩, ⟨some (100, true), [(107, some 27), (111, some 31), (100, some 20)]⟩, ⟨some (92, false), [(100, some 20), (112, some 32), (92, some 12)]⟩, ⟨none, [(92, some 12), (113, some 33)]⟩] (by kernel_rfl) (by kernel_rfl) fun F hF => ?_
              refine any_val (.slice (some ⟨gi, 0, none⟩) (N i + 10) ci) (by kernel_rfl) (by kernel_rfl) (fun W => by kernel_rfl) ?_
              refine any_val (.int .i64 ((j : Nat) : Int)) (by kernel_rfl) (by kernel_rfl) (fun W => by kernel_rfl) ?_
              refine any_val (.pointer (some ⟨gi, j, none⟩)) (by kernel_rfl) (by kernel_rfl) (fun W => (run_indexS0 24 _ _ .i64 (j) gi (N i + 10) ci 5 rfl (by kernel_rfl) (by kernel_rfl) (by kernel_rfl) (by kernel_rfl) hj)) ?_
              refine any_read (.int .u8 (pat i j)) (by kernel_rfl) (by kernel_rfl) (fun W hR => (run_loadCell 5 _ _ (.int .u8 (pat i j)) (cell_ext hcg (Rely.Ext.trans (ext_drew _) hR)) rfl (by kernel_rfl) (by kernel_rfl))) ?_
              refine any_val (.int .i64 ((i : Nat) : Int)) (by kernel_rfl) (by kernel_rfl) (fun W => by kernel_rfl) ?_
              refine any_val (.int .i64 (((29 * i : Nat) : Int))) (by kernel_rfl) (by kernel_rfl) (fun W => (run_eq (u := .int .i64 (IntKind.i64.wrap (29 * ((i : Nat) : Int)))) (by kernel_rfl) (congrArg (Value.int .i64) (i64n _ _ (by omega) (by omega))))) ?_
              refine any_val (.int .i64 ((j : Nat) : Int)) (by kernel_rfl) (by kernel_rfl) (fun W => by kernel_rfl) ?_
              refine any_val (.int .i64 (((5 * j : Nat) : Int))) (by kernel_rfl) (by kernel_rfl) (fun W => (run_eq (u := .int .i64 (IntKind.i64.wrap (5 * ((j : Nat) : Int)))) (by kernel_rfl) (congrArg (Value.int .i64) (i64n _ _ (by omega) (by omega))))) ?_
              refine any_val (.int .i64 (((29 * i + 5 * j : Nat) : Int))) (by kernel_rfl) (by kernel_rfl) (fun W => (run_eq (u := .int .i64 (IntKind.i64.wrap (((29 * i : Nat) : Int) + ((5 * j : Nat) : Int)))) (by kernel_rfl) (congrArg (Value.int .i64) (i64n _ _ (by omega) (by omega))))) ?_
              refine any_val (.int .i64 (((29 * i + 5 * j + 3 : Nat) : Int))) (by kernel_rfl) (by kernel_rfl) (fun W => (run_eq (u := .int .i64 (IntKind.i64.wrap (((29 * i + 5 * j : Nat) : Int) + 3))) (by kernel_rfl) (congrArg (Value.int .i64) (i64n _ _ (by omega) (by omega))))) ?_
              refine any_val (.int .u8 (pat i j)) (by kernel_rfl) (by kernel_rfl) (fun W => (run_eq (u := .int .u8 (IntKind.u8.wrap (((29 * i + 5 * j + 3 : Nat) : Int)))) (by kernel_rfl) (congrArg (Value.int .u8) (wrap8 _)))) ?_
              refine any_val (.bool false) (by kernel_rfl) (by kernel_rfl) (fun W => (run_eq (u := .bool (((pat i j) != (pat i j)))) (by kernel_rfl) (congrArg Value.bool (bne_self_eq_false _)))) ?_
              refine any_val (.bool false) (by kernel_rfl) (by kernel_rfl) (fun W => by kernel_rfl) ?_
              refine any_val (.int .i64 ((j : Nat) : Int)) (by kernel_rfl) (by kernel_rfl) (fun W => by kernel_rfl) ?_
              refine any_val (.slice (some ⟨gl, 0, none⟩) L L) (by kernel_rfl) (by kernel_rfl) (fun W => by kernel_rfl) ?_
              refine any_val (.int .i64 ((i : Nat) : Int)) (by kernel_rfl) (by kernel_rfl) (fun W => by kernel_rfl) ?_
              refine any_val (.pointer (some ⟨gl, 0 + i, none⟩)) (by kernel_rfl) (by kernel_rfl) (fun W => (run_indexS 48 _ _ .i64 (i) gl 0 L L 24 rfl (by kernel_rfl) (by kernel_rfl) (by kernel_rfl) (by kernel_rfl) hiL)) ?_
              refine any_read (.slice (some ⟨gv_, 0, none⟩) (N i) cv) (by kernel_rfl) (by kernel_rfl) (fun W hR => (run_loadCell 24 _ _ (.slice (some ⟨gv_, 0, none⟩) (N i) cv) (cell_ext hcL (Rely.Ext.trans (ext_drew _) hR)) rfl (by kernel_rfl) (by kernel_rfl))) ?_
              refine any_val (.int .i64 (((N i) : Nat) : Int)) (by kernel_rfl) (by kernel_rfl) (fun W => by kernel_rfl) ?_
              refine any_val (.bool false) (by kernel_rfl) (by kernel_rfl) (fun W => (run_eq (u := .bool (decide (((j : Nat) : Int) < (((N i) : Nat) : Int)))) (by kernel_rfl) (congrArg Value.bool (decide_eq_false (by omega))))) ?_
              refine any_val (.bool false) (by kernel_rfl) (by kernel_rfl) (fun W => by kernel_rfl) ?_
              refine any_skip (by kernel_rfl) (by kernel_rfl) ?_
              refine any_skip (by kernel_rfl) (by kernel_rfl) ?_
              refine any_skip (by kernel_rfl) (by kernel_rfl) ?_
              refine any_skip (by kernel_rfl) (by kernel_rfl) ?_
              refine any_skip (by kernel_rfl) (by kernel_rfl) ?_
              refine any_skip (by kernel_rfl) (by kernel_rfl) ?_
              refine any_skip (by kernel_rfl) (by kernel_rfl) ?_
              refine any_skip (by kernel_rfl) (by kernel_rfl) ?_
              refine any_skip (by kernel_rfl) (by kernel_rfl) ?_
              refine any_skip (by kernel_rfl) (by kernel_rfl) ?_
              refine any_skip (by kernel_rfl) (by kernel_rfl) ?_
              refine any_skip (by kernel_rfl) (by kernel_rfl) ?_
              refine any_val (.bool false) (by kernel_rfl) (by kernel_rfl) (fun W => by kernel_rfl) ?_
              refine any_val (.bool false) (by kernel_rfl) (by kernel_rfl) (fun W => by kernel_rfl) ?_
              refine steps_nil (hF _ (by kernel_rfl) fun W6 e6 => ?_)
              simp only [ups, up, Kn.val, List.take_succ_cons, List.take_zero, List.drop_succ_cons, List.drop_zero, List.nil_append, List.cons_append]
              clear hF
              have x6 : Below base w W6 := bx hbase xx6 e6
              refine seq_nil ?_
              refine hK78 _ _ ?_
              try clear hK78 K78
              refine cond_false (by kernel_rfl) ?_
              refine wp_skip ?_
              refine hK76 _ _ ?_
              try clear hK76 K76
              refine region_lit ?_
              refine seq_val (.int .i64 (((j + 1 : Nat) : Int))) 115 rfl (by kernel_rfl) (run_eq (u := .int .i64 (IntKind.i64.wrap (((j : Nat) : Int) + 1))) (by kernel_rfl) (congrArg (Value.int .i64) (i64n _ _ (by omega) (by omega)))) ?_
              refine seq_val (.int .i64 (((j + 1 : Nat) : Int))) 77 rfl (by kernel_rfl) (by kernel_rfl) ?_
              refine seq_nil ?_
              repeat (first | with_reducible refine goX1 ?_ | with_reducible refine goX2 ?_ | with_reducible refine goX3 ?_)
              exact goes_then (j + 1) ⟨rfl, rfl, rfl, rfl, rfl, rfl, rfl, rfl, trivial⟩ ⟨hj, (hA1.ext e6), (hG1.ext e6), (hL5.ext e6), (row_ext r1 e6), x6⟩ (by show N i + 10 - (j + 1) < N i + 10 - j; omega)
        · skip
          have hA2 := hA1
          have hG2 := hG1
          have hL4 := hL5
          have r2 := r1
          refine wp_exit ?_
          refine hK58 _ _ ?_
          try clear hK58 K58
          refine region_lit ?_
          refine seq_val (.int .i64 (((i + 1 : Nat) : Int))) 116 rfl (by kernel_rfl) (run_eq (u := .int .i64 (IntKind.i64.wrap (((i : Nat) : Int) + 1))) (by kernel_rfl) (congrArg (Value.int .i64) (i64n _ _ (by omega) (by omega)))) ?_
          refine seq_val (.int .i64 (((i + 1 : Nat) : Int))) 70 rfl (by kernel_rfl) (by kernel_rfl) ?_
          refine seq_nil ?_
          repeat (first | with_reducible refine goX1 ?_ | with_reducible refine goX2 ?_ | with_reducible refine goX3 ?_)
          exact goes_then (i + 1) ⟨rfl, rfl, rfl, rfl, trivial⟩ ⟨hi, hA2, hG2, hL4, r2, xx6⟩ (by show k - (i + 1) < k - i; omega)
      · skip
        refine wp_exit ?_
        refine hK52 _ _ ?_
        try clear hK52 K52
        refine wp_seq_k fun K80 hK80 => ?_
        refine region_lit ?_
        refine seq_val (.bool true) 2 rfl (by kernel_rfl) (by kernel_rfl) ?_
        refine seq_nil ?_
        refine hK80 _ _ ?_
        try clear hK80 K80
        refine wp_ret ?_
        repeat (first | with_reducible refine goR1 ?_ | with_reducible refine goR2 ?_)
        exact (show bodyPost _ _ _ .ret _ _ from ret1 (.bool true) rfl (res_tmp (by kernel_rfl)) ⟨rfl, xx5⟩)

end Go.Proofs.YticjghmgbmjkiaaDoor.Ad
