/- SHA-256: what a digest holds; bytes are copied into its block. -/
import Derived.Test.YtamlhbbphnamnaaDoorShaB
namespace Go.Proofs.YtamlhbbphnamnaaDoor.Sha
open Go Go.RowKit
open Go.Proofs.YtamlhbbphnamnaaDoor.Rely Go.Proofs.YtamlhbbphnamnaaDoor.Auto Go.Proofs.YtamlhbbphnamnaaDoor.Own
set_option linter.unusedVariables false

theorem absorb_more (s : S8) (t u : List Int) : ∀ n : Nat, 64 * n ≤ t.length → absorb s (t ++ u) n = absorb s t n
  | 0, _ => rfl
  | n + 1, h => by
    show blk (absorb s (t ++ u) n) _ = blk (absorb s t n) _
    rw [absorb_more s t u n (by omega)]
    congr 1
    rw [List.drop_append_of_le_length (by omega), List.take_append_of_le_length (by rw [List.length_drop]; omega)]
/-- a digest of a text: its state, its block, how many bytes -/
def HasD (g : Nat) (t : List Int) (W : World) : Prop := ∃ b : List Int, b.length = 64 ∧ AreBytes b ∧ b.take (t.length % 64) = t.drop (64 * (t.length / 64)) ∧ t.length ≤ 1000000000 ∧
  W.heap[g]? = some (.cells (cat [ints .u32 ((absorb S0 t (t.length / 64)).l.map wv), ints .u8 b, #[.int .i64 ((t.length : Nat) : Int)]]) 90)
theorem HasD.row {g : Nat} {t : List Int} {W W' : World} (h : HasD g t W) (e : W'.heap[g]? = W.heap[g]?) : HasD g t W' := by
  obtain ⟨b, h1, h2, h3, h4, h5⟩ := h
  exact ⟨b, h1, h2, h3, h4, e.trans h5⟩
theorem HasD.lt {g : Nat} {t : List Int} {W : World} (h : HasD g t W) : g < W.heap.size := by
  obtain ⟨b, h1, h2, h3, h4, h5⟩ := h
  exact row_lt h5
theorem HasD.ext {g : Nat} {t : List Int} {W W' : World} (h : HasD g t W) (e : Ext W W') : HasD g t W' := h.row (e.block g h.lt)
theorem HasD.stable (g : Nat) (t : List Int) : Stable Ext (fun _ => HasD g t) := fun _ _ _ hR h => h.ext hR
/-- the block behind a copy -/
def into (b z : List Int) (q n : Nat) : List Int := b.take q ++ z.take n ++ b.drop (q + n)
theorem into_len {b z : List Int} {q n : Nat} (hb : b.length = 64) (hz : n ≤ z.length) (hq : q + n ≤ 64) : (into b z q n).length = 64 := by
  simp only [into, List.length_append, List.length_take, List.length_drop]; omega
theorem into_bytes {b z : List Int} {q n : Nat} (hb : AreBytes b) (hz : AreBytes z) : AreBytes (into b z q n) := fun x hx => by
  rcases List.mem_append.1 hx with hx | hx
  · rcases List.mem_append.1 hx with hx | hx
    · exact hb x (List.mem_of_mem_take hx)
    · exact hz x (List.mem_of_mem_take hx)
  · exact hb x (List.mem_of_mem_drop hx)
theorem into_take {b z t : List Int} {n : Nat} (hb : b.length = 64) (hz : n ≤ z.length) (hp : b.take (t.length % 64) = t.drop (64 * (t.length / 64))) : (into b z (t.length % 64) n).take (t.length % 64 + n) = (t ++ z.take n).drop (64 * (t.length / 64)) := by
  have e1 : (b.take (t.length % 64) ++ z.take n).length = t.length % 64 + n := by
    rw [List.length_append, List.length_take, List.length_take]; omega
  unfold into
  rw [← e1, List.take_left, hp, List.drop_append_of_le_length (by omega)]
theorem into_stay {b z t : List Int} {n : Nat} (hb : b.length = 64) (hz : n ≤ z.length) (hp : b.take (t.length % 64) = t.drop (64 * (t.length / 64))) (hn : t.length % 64 + n < 64) :
    (into b z (t.length % 64) n).take ((t ++ z.take n).length % 64) = (t ++ z.take n).drop (64 * ((t ++ z.take n).length / 64)) := by
  have hl : (t ++ z.take n).length = t.length + n := by rw [List.length_append, List.length_take]; omega
  rw [hl, show (t.length + n) % 64 = t.length % 64 + n by omega, show (t.length + n) / 64 = t.length / 64 by omega]
  exact into_take hb hz hp
theorem into_turn {b z t : List Int} {n : Nat} (hb : b.length = 64) (hz : n ≤ z.length) (hp : b.take (t.length % 64) = t.drop (64 * (t.length / 64))) (hn : t.length % 64 + n = 64) :
    blk (absorb S0 t (t.length / 64)) (into b z (t.length % 64) n) = absorb S0 (t ++ z.take n) ((t ++ z.take n).length / 64) := by
  have hl : (t ++ z.take n).length = t.length + n := by rw [List.length_append, List.length_take]; omega
  rw [hl, show (t.length + n) / 64 = t.length / 64 + 1 by omega]
  show _ = blk (absorb S0 (t ++ z.take n) (t.length / 64)) _
  rw [absorb_more S0 t _ _ (by omega)]
  have h1 := into_take hb hz hp
  rw [hn, List.take_of_length_le (by rw [into_len hb hz (by omega)]; omega)] at h1
  rw [h1, List.take_of_length_le (l := (t ++ z.take n).drop (64 * (t.length / 64))) (by rw [List.length_drop, hl]; omega)]
theorem stay_state {z t : List Int} {n : Nat} (hz : n ≤ z.length) (hn : t.length % 64 + n < 64) : absorb S0 (t ++ z.take n) ((t ++ z.take n).length / 64) = absorb S0 t (t.length / 64) := by
  have hl : (t ++ z.take n).length = t.length + n := by rw [List.length_append, List.length_take]; omega
  rw [hl, show (t.length + n) / 64 = t.length / 64 by omega, absorb_more S0 t _ _ (by omega)]
section
variable {ds : List Deferred} {ops : Array Oper} {Q : Exit → Act → World → Prop} {rest : List Oper} {o : Oper} {N : Nat} {L : Env} {W : World}
theorem cat3 (a b c : Array Value) : (cat [a, b, c]).toList = a.toList ++ (b.toList ++ c.toList) := by
  show (a ++ (b ++ c)).toList = _
  simp
theorem copy_row {st b z : List Int} {u : Value} {q n : Nat} (hst : st.length = 8) (hb : b.length = 64) (hz : n ≤ z.length) (hq : q + n ≤ 64) :
    ((cat [ints .u32 st, ints .u8 b, #[u]]).toList.take (8 + q) ++ (z.take n).map (Value.int .u8) ++ (cat [ints .u32 st, ints .u8 b, #[u]]).toList.drop (8 + q + n)).toArray = cat [ints .u32 st, ints .u8 (into b z q n), #[u]] := by
  apply Array.ext'
  rw [cat3, cat3]
  have e1 : (ints .u32 st).toList = st.map (Value.int .u32) := rfl
  have e2 : ∀ b, (ints .u8 b).toList = b.map (Value.int .u8) := fun _ => rfl
  rw [e1, e2, e2]
  have l1 : (st.map (Value.int .u32)).length = 8 := by simpa using hst
  have l2 : (b.map (Value.int .u8)).length = 64 := by simpa using hb
  show (st.map (Value.int .u32) ++ (b.map (Value.int .u8) ++ [u])).take (8 + q) ++ (z.take n).map (Value.int .u8) ++ (st.map (Value.int .u32) ++ (b.map (Value.int .u8) ++ [u])).drop (8 + q + n) = _
  rw [show 8 + q + n = 8 + (q + n) by omega]
  rw [← l1, List.take_length_add_append, List.drop_length_add_append, List.take_append_of_le_length (by omega)]
  rw [List.drop_append_of_le_length (by omega)]
  unfold into
  simp only [List.map_append, List.map_take, List.map_drop, List.append_assoc]
theorem seq_copyD (x y : Operand) (tx ty : TypeId) (d : Nat) (ho : o.op = .call { callee := .builtin .copy, args := #[x, y], argTypes := #[tx, ty] }) (hu : Tryd.prog.underlying tx = some (.slice 5)) (hd : o.dst = some d) (hgd : wantB ops o N L = some true)
    {g q n B : Nat} {st b z : List Int} {u v : Value} {T : TypeId} (hst : st.length = 8) (hb : b.length = 64) (hx : Rely.look (envN N L) x = .slice (some ⟨g, 8 + q, none⟩) (64 - q) (64 - q)) (hy : Rely.look (envN N L) y = v) (hr : RdK .u8 B z v W)
    (hg : W.heap[g]? = some (.cells (cat [ints .u32 st, ints .u8 b, #[u]]) T)) (hq : q < 64) (hn : n = min z.length (64 - q)) (h0 : 0 < z.length)
    (k : ∀ W' : World, Puts W g W' → W'.heap[g]? = some (.cells (cat [ints .u32 st, ints .u8 (into b z q n), #[u]]) T) → WL Tryd.prog ops Q rest (actOf ds N ((d, .int .i64 ((n : Nat) : Int)) :: L)) W') : WL Tryd.prog ops Q (o :: rest) (actOf ds N L) W := by
  obtain ⟨a, cap, rfl, y2, y3, y4, y5⟩ := hr
  obtain ⟨gz, oz, rfl, z2, z3, z4⟩ := y5.resolve_left (fun e => by rw [e] at h0; simp at h0)
  have hlen : ((z.take n).map (Value.int .u8)).length = n := by simp; omega
  have hsz : (cat [ints .u32 st, ints .u8 b, #[u]]).size = 73 := by
    rw [← Array.length_toList, cat3]; simp [ints]; omega
  have h := run_copy_row (P := Tryd.prog) W tx ty o.type 5 g (8 + q) (64 - q) (64 - q) ⟨gz, oz, none⟩ z.length cap (cat [ints .u32 st, ints .u8 b, #[u]]) T ((z.take n).map (Value.int .u8)) hu kj hg (by rw [hlen]; exact hn)
    (newsK (k := .u8) (ys := z.take n) fun i hi => by
      rw [List.length_take] at hi
      rw [z4 i (by omega)]
      simp [nth, show i < n by omega]) (by rw [hlen, hsz]; omega) (onesK .u8 _)
  rw [hlen, copy_row hst hb (by omega) (by omega)] at h
  refine seq_valw (.int .i64 ((n : Nat) : Int)) _ d hd hgd ?_ (k _ (puts_setRow _ _ _) (setRow_heap _ _ _ _ _ _ hg))
  unfold execOp
  simp only [ho, resolve, invoke, builtin, Sem.run_bind, Sem.run_pure, Result.andThen_ok, List.map_toArray, List.map_cons, List.map_nil, hx, hy, h, goInt]
theorem sliceRestS {P : Program} {ρ : Operand → Value} {k : IntKind} {B : Nat} {ys : List Int} {v : Value} (t : TypeId) (x z : Operand) (l n : Nat) (e : TypeId) (ho : o.op = .slice t x (some z) none none) (hx : ρ x = v) (hv : RdK k B ys v W)
    (hu : P.underlying t = some (.slice e)) (hs : (P.info? e).map (·.size) = some 1) (kz : IntKind) (hz : ρ z = .int kz (l : Int)) (h1 : l ≤ ys.length) (hn : ys.length - l = n) :
    ∃ a c, (execOp ρ o).run P W = .ok (.value (.slice a n c)) W ∧ RdK k B (ys.drop l) (.slice a n c) W ∧ (Value.slice a n c).ownBlock = v.ownBlock := by
  obtain ⟨u, h2, h3, h5⟩ := run_sliceRest t x z l e ho hx hv hu hs kz hz h1
  obtain ⟨a, c, rfl, h4⟩ := id h3
  rw [List.length_drop, hn] at h2 h3 h5
  exact ⟨a, c, h2, h3, h5⟩
end
section
variable {ds : List Deferred} {ops : Array Oper} {Q : Exit → Act → World → Prop} {rest : List Oper} {o : Oper} {N : Nat} {L : Env} {W : World}
theorem seq_sliceRest {P : Program} {k : IntKind} {B : Nat} {ys : List Int} {v : Value} (t : TypeId) (x z : Operand) (l n : Nat) (e : TypeId) (d : Nat) (ho : o.op = .slice t x (some z) none none) (hd : o.dst = some d) (hg : wantB ops o N L = some true) (hx : Rely.look (envN N L) x = v) (hv : RdK k B ys v W)
    (hu : P.underlying t = some (.slice e)) (hs : (P.info? e).map (·.size) = some 1) (kz : IntKind) (hz : Rely.look (envN N L) z = .int kz (l : Int)) (h1 : l ≤ ys.length) (hn : ys.length - l = n)
    (kk : ∀ a c, RdK k B (ys.drop l) (.slice a n c) W → (Value.slice a n c).ownBlock = v.ownBlock → WL P ops Q rest (actOf ds N ((d, .slice a n c) :: L)) W) : WL P ops Q (o :: rest) (actOf ds N L) W := by
  obtain ⟨a, c, h2, h3, h4⟩ := sliceRestS (ρ := Rely.look (envN N L)) t x z l n e ho hx hv hu hs kz hz h1 hn
  exact seq_valw _ _ d hd hg h2 (kk a c h3 h4)
end
theorem run_storeQ {P : Program} {ρ : Operand → Value} {o : Oper} {w : World} (ty : TypeId) (x y : Operand) (g off : Nat) (t : TypeId) (pre post : List (Array Value)) (u v : Value) (hg : w.heap[g]? = some (.cells (cat (pre ++ ([#[u]] ++ post))) t))
    (ho : o.op = .store ty x y) (hx : ρ x = .pointer (some ⟨g, off, none⟩)) (hy : ρ y = v) (hi : (P.info? ty).map (·.size) = some 1) (hp : (cat pre).size = off) (h1 : v.oneCell' = true) (hcs : v.cells = #[v]) :
    (execOp ρ o).run P w = .ok .skip (w.setRow g (cat (pre ++ ([#[v]] ++ post)))) := by
  subst hp
  have hs : Nat.blt (cat pre).size (cat (pre ++ ([#[u]] ++ post))).size = true := by
    have : (cat pre).size < (cat (pre ++ ([#[u]] ++ post))).size := by
      rw [cat_append, cat_append, Array.size_append, Array.size_append]
      have e1 : (cat [#[u]]).size = 1 := rfl
      omega
    simpa using this
  have e : (cat (pre ++ ([#[u]] ++ post))).setIfInBounds (cat pre).size v = cat (pre ++ ([#[v]] ++ post)) := by
    rw [cat_append, cat_append, cat_append, cat_append]
    have e1 : ∀ z, cat [#[z]] = #[z] := fun z => rfl
    rw [e1, e1, Array.setIfInBounds_append_right (Nat.le_refl _), Nat.sub_self, Array.setIfInBounds_append_left (by simp)]
    rfl
  rw [← e]
  exact run_storeC1 ty x y g _ t _ v hg ho hx hy hi hs h1 hcs
end Go.Proofs.YtamlhbbphnamnaaDoor.Sha
