/- Rows of integers of one's own with room behind them; slices that are read, opened. -/
import Derived.Test.YtfelfmchachljaaAppZ
namespace Go.Proofs.Ytfelfmchachljaa.Sha
open Go Go.RowKit
open Go.Proofs.Ytfelfmchachljaa.Rely Go.Proofs.Ytfelfmchachljaa.Auto Go.Proofs.Ytfelfmchachljaa.Own
set_option linter.unusedVariables false
set_option linter.unusedSimpArgs false

theorem rdK_open {k : IntKind} {B : Nat} {ys : List Int} {a : Option Addr} {n c : Nat} {W : World} (h : RdK k B ys (.slice a n c) W) (h0 : 0 < ys.length) : ∃ g o, a = some ⟨g, o, none⟩ ∧ g < B ∧ ∀ i, i < ys.length → W.cell? ⟨g, o + i, none⟩ = some (.int k (nth ys i)) := by
  obtain ⟨a', cap', e, h2, h3, h4, h5⟩ := h
  simp only [Value.slice.injEq] at e
  obtain ⟨rfl, -, -⟩ := e
  rcases h5 with h5 | ⟨g, o, q1, q2, q3, q4⟩
  · rw [h5] at h0; simp at h0
  · exact ⟨g, o, q1, q2, q4⟩
section
variable {P : Program} {ρ : Operand → Value} {o : Oper} {w : World}
theorem run_indexA (t : TypeId) (x y : Operand) (k : IntKind) (n g off len cap : Nat) (e : TypeId) (a : Option Addr) (z : Int) (ha : a = some ⟨g, off, none⟩) (hz : z = (n : Int)) (ho : o.op = .indexAddr t x y) (hx : ρ x = .slice a len cap) (hy : ρ y = .int k z)
    (hu : P.underlying t = some (.slice e)) (hs : (P.info? e).map (·.size) = some 1) (hn : n < len) : (execOp ρ o).run P w = .ok (.value (.pointer (some ⟨g, off + n, none⟩))) w := by
  subst ha; subst hz
  exact run_indexS t x y k n g off len cap e ho hx hy hu hs hn
end
theorem nb_nil {v : Value} : ∀ c ∈ ([] : List Nat), v.ownBlock ≠ some c := fun _ h => by simp at h
theorem nb_cons {v : Value} {g : Nat} {gs : List Nat} (h : v.ownBlock ≠ some g) (h2 : ∀ c ∈ gs, v.ownBlock ≠ some c) : ∀ c ∈ g :: gs, v.ownBlock ≠ some c := fun c hc => by
  rcases List.mem_cons.1 hc with e | e
  · rw [e]; exact h
  · exact h2 c e
theorem OwnN.keepsL {k : IntKind} {T : TypeId} {base : Nat} {gs : List Nat} {xs : List Int} {v : Value} {V W : World} (h : OwnN k T base xs v V) (q : Keeps gs V W) (hn : ∀ c ∈ gs, v.ownBlock ≠ some c) : OwnN k T base xs v W :=
  h.keep fun g hg => q.block g (h.lt hg) (fun hm => hn g hm hg)
theorem run_extractT {P : Program} {ρ : Operand → Value} {o : Oper} {w : World} (x : Operand) (i : Nat) (vs : Array Value) (u : Value) (ho : o.op = .extract x i) (hx : ρ x = .tuple vs) (hi : vs[i]? = some u) : (execOp ρ o).run P w = .ok (.value u) w := by
  unfold execOp
  simp [ho, hx, Instr.extract, hi]
theorem nb_new {k : IntKind} {T : TypeId} {base g : Nat} {xs : List Int} {v : Value} {W : World} (h : OwnN k T base xs v W) (hg : W.heap.size ≤ g) : v.ownBlock ≠ some g := fun e => by have := h.lt e; omega
theorem rest_get {k : IntKind} {xs : List Int} {rest : Array Value} {i : Nat} (h : i < xs.length) : (ints k xs ++ rest)[i]? = some (.int k (nth xs i)) := by
  rw [Array.getElem?_append_left (by rw [ints_size]; exact h)]
  exact ints_get k xs i h
theorem rest_set (k : IntKind) (xs : List Int) (rest : Array Value) (i : Nat) (v : Int) (h : i < xs.length) : (ints k xs ++ rest).setIfInBounds i (.int k v) = ints k (xs.set i v) ++ rest := by
  apply Array.ext'
  simp [ints, List.set_append_left, h]
theorem row_eqR {W : World} {g : Nat} {k : IntKind} {a b : List Int} {rest : Array Value} {t : TypeId} (r : W.heap[g]? = some (.cells (ints k a ++ rest) t)) (h : a = b) : W.heap[g]? = some (.cells (ints k b ++ rest) t) := h ▸ r
theorem run_storeRest {P : Program} {ρ : Operand → Value} {o : Oper} {w : World} {k : IntKind} (ty : TypeId) (x y : Operand) (g off : Nat) (t : TypeId) (rest : Array Value) (xs : List Int) (v : Int) (hg : w.heap[g]? = some (.cells (ints k xs ++ rest) t))
    (ho : o.op = .store ty x y) (hx : ρ x = .pointer (some ⟨g, off, none⟩)) (hy : ρ y = .int k v) (hi : (P.info? ty).map (·.size) = some 1) (hs : off < xs.length) :
    (execOp ρ o).run P w = .ok .skip (w.setRow g (ints k (xs.set off v) ++ rest)) := by
  rw [← rest_set k xs rest off v hs]
  exact run_storeC1 ty x y g off t _ _ hg ho hx hy hi (by rw [Array.size_append, ints_size]; simp; omega) rfl rfl
theorem run_storeRestW {P : Program} {ρ : Operand → Value} {o : Oper} {w : World} (ty : TypeId) (x y : Operand) (g off : Nat) (t : TypeId) (rest : Array Value) (ws : List Wd) (z : Wd) (hg : w.heap[g]? = some (.cells (ints .u32 (ws.map wv) ++ rest) t))
    (ho : o.op = .store ty x y) (hx : ρ x = .pointer (some ⟨g, off, none⟩)) (hy : ρ y = .int .u32 (wv z)) (hi : (P.info? ty).map (·.size) = some 1) (hs : off < (ws.map wv).length) :
    (execOp ρ o).run P w = .ok .skip (w.setRow g (ints .u32 ((ws.set off z).map wv) ++ rest)) := by
  rw [List.map_set]
  exact run_storeRest ty x y g off t rest _ _ hg ho hx hy hi hs
theorem wset_len (ws : List Wd) (i : Nat) (z : Wd) : ((ws.set i z).map wv).length = (ws.map wv).length := by simp
theorem ownN_rest {k : IntKind} {T : TypeId} {base n : Nat} {xs : List Int} {v : Value} {W : World} (h : OwnN k T base xs v W) (hn : xs.length = n) (h0 : 0 < n) :
    ∃ g c rest, v = .slice (some ⟨g, 0, none⟩) n c ∧ base ≤ g ∧ W.heap[g]? = some (.cells (ints k xs ++ rest) T) ∧ n + rest.size = c ∧ c ≤ maxLen := by
  subst hn
  obtain ⟨g, c, cur, h1, h2, h3, h4, h5, h6, h7⟩ := ownN_open h h0
  have e : cur = ints k xs ++ (cur.toList.drop xs.length).toArray := by
    apply Array.ext'
    rw [Array.toList_append]
    show cur.toList = xs.map (Value.int k) ++ cur.toList.drop xs.length
    rw [← h7, List.take_append_drop]
  refine ⟨g, c, (cur.toList.drop xs.length).toArray, h1, h2, e ▸ h3, ?_, h6⟩
  have h8 : ((cur.toList.drop xs.length).toArray).size = cur.size - xs.length := by simp
  omega
theorem rdK_rest {k : IntKind} {T : TypeId} {g n c : Nat} {xs : List Int} {rest : Array Value} {W : World} (hn : xs.length = n) (r : W.heap[g]? = some (.cells (ints k xs ++ rest) T)) (hc : n + rest.size = c ∧ c ≤ maxLen) : RdK k W.heap.size xs (.slice (some ⟨g, 0, none⟩) n c) W :=
  rdK_row 0 hn r (fun i hi => by rw [Nat.zero_add]; exact rest_get (by omega)) (row_lt r) (by omega) hc.2
theorem set_td (zs : List Int) (m : Nat) (y : Int) (h : m < zs.length) : zs.take m ++ [y] ++ zs.drop (m + 1) = zs.set m y := by
  rw [List.set_eq_take_append_cons_drop, if_pos h, List.append_assoc]; rfl
theorem run_append1R {P : Program} {k : IntKind} {T : TypeId} {b : Nat} {ρ : Operand → Value} {o : Oper} {W : World} (s x : Operand) (t : TypeId) (ho : o.op = .call { callee := .builtin .append, args := #[s, x], argTypes := #[t, t] })
    (ht : P.underlying t = some (.slice T)) (hi : (P.info? T).map (fun i => (i.zero, i.size, i.bytes)) = some (some (.int k 0), 1, b)) {g m n gy : Nat} {zs : List Int} {y : Int} {Ty : TypeId} (hs : ρ s = .slice (some ⟨g, 0, none⟩) m n) (hx : ρ x = .slice (some ⟨gy, 0, none⟩) 1 1)
    (hg : W.heap[g]? = some (.cells (ints k zs) T)) (hz : zs.length = n) (hm : m < n) (hy : W.heap[gy]? = some (.cells (ints k [y]) Ty)) :
    (execOp ρ o).run P W = .ok (.value (.slice (some ⟨g, 0, none⟩) (m + 1) n)) (W.setRow g (ints k (zs.set m y))) := by
  obtain ⟨i, hq, hi1, hi2, hi3⟩ := infoK hi
  have hr := run_append_room (P := P) W t o.type T i ht hq g m n (ints k zs) hg ⟨gy, 0, none⟩ 1 1 ([y].map (Value.int k)) (by simp [hi2]) (newsK (k := k) (ys := [y]) fun j hj => by rw [Nat.zero_add]; exact row_cell hy (ints_get k [y] j hj)) (onesK _ [y]) (by omega) (by rw [hi2, ints_size]; simp; omega)
  have e : ((ints k zs).toList.take (m * i.size) ++ [y].map (Value.int k) ++ (ints k zs).toList.drop (m * i.size + ([y].map (Value.int k)).length)).toArray = ints k (zs.set m y) := by
    rw [← set_td zs m y (by omega), hi2, Nat.mul_one]
    simp [ints]
  rw [e] at hr
  unfold execOp
  simp only [ho, resolve, invoke, builtin, Sem.run_bind, Sem.run_pure, Result.andThen_ok, List.map_toArray, List.map_cons, List.map_nil, hs, hx, hr]
section
variable {ds : List Deferred} {Fe : Fence} {nf : Nat} {P : Program} {ops : Array Oper} {Q : Exit → Act → World → Prop} {rest : List Oper} {o : Oper} {N : Nat} {L : Env} {w : World}
theorem in_puts {g : Nat} {old cs : Array Value} {T : TypeId} (v : Value) (d : Nat) (hd : o.dst = some d) (hF : Free Fe nf P) (hnd : noDefer o = true) (hg : wantB ops o N L = some true) (r : w.heap[g]? = some (.cells old T)) (h : (execOp (Rely.look (envN N L)) o).run P w = .ok (.value v) (w.setRow g cs))
    (k : ∀ W' : World, Puts w g W' → W'.heap[g]? = some (.cells cs T) → WLI Fe nf P ops Q rest (actOf ds N ((d, v) :: L)) W') : WLI Fe nf P ops Q (o :: rest) (actOf ds N L) w :=
  in_valw _ _ d hd hF hnd hg h (k _ (puts_setRow _ _ _) (setRow_heap _ _ _ _ _ _ r))
theorem seq_puts {g : Nat} {old cs : Array Value} {T : TypeId} (v : Value) (d : Nat) (hd : o.dst = some d) (hg : wantB ops o N L = some true) (r : w.heap[g]? = some (.cells old T)) (h : (execOp (Rely.look (envN N L)) o).run P w = .ok (.value v) (w.setRow g cs))
    (k : ∀ W' : World, Puts w g W' → W'.heap[g]? = some (.cells cs T) → WL P ops Q rest (actOf ds N ((d, v) :: L)) W') : WL P ops Q (o :: rest) (actOf ds N L) w :=
  seq_valw _ _ d hd hg h (k _ (puts_setRow _ _ _) (setRow_heap _ _ _ _ _ _ r))
end
section
variable {ds : List Deferred} {P : Program} {ops : Array Oper} {Q : Exit → Act → World → Prop} {rest : List Oper} {o : Oper} {N : Nat} {L : Env} {w : World}
theorem seq_makeC (cs : Array Value) (T : TypeId) (m n d : Nat) (hd : o.dst = some d) (hg : wantB ops o N L = some true) (h : (execOp (Rely.look (envN N L)) o).run P w = .ok (.value (.slice (some ⟨w.heap.size, 0, none⟩) m n)) (w.alloc (.cells cs T)))
    (k : ∀ (g : Nat) (W : World), w.heap.size ≤ g → Ext w W → W.heap[g]? = some (.cells cs T) → WL P ops Q rest (actOf ds N ((d, .slice (some ⟨g, 0, none⟩) m n) :: L)) W) : WL P ops Q (o :: rest) (actOf ds N L) w :=
  seq_valw _ _ d hd hg h (k _ _ (Nat.le_refl _) (ext_alloc _ _) (heap_alloc_new _ _))
end
theorem run_makeC {P : Program} {ρ : Operand → Value} {o : Oper} {w : World} {k : IntKind} (t : TypeId) (x y : Operand) (kl kc : IntKind) (m n : Nat) (e : TypeId) (ho : o.op = .makeSlice t x y) (hx : ρ x = .int kl m) (hy : ρ y = .int kc n)
    (hu : P.underlying t = some (.slice e)) (hi : (P.info? e).map (fun i => (i.zero, i.size, i.bytes)) = some (some (.int k 0), 1, 8) ∨ (P.info? e).map (fun i => (i.zero, i.size, i.bytes)) = some (some (.int k 0), 1, 1)) (hm : m ≤ n) (hn : n ≤ 16777216) :
    (execOp ρ o).run P w = .ok (.value (.slice (some ⟨w.heap.size, 0, none⟩) m n)) (w.alloc (.cells (ints k (List.replicate n 0)) e)) := by
  cases hq : P.info? e with
  | none => rcases hi with hi | hi <;> simp [hq] at hi
  | some i =>
    have hz : i.zero = some (.int k 0) ∧ i.size = 1 ∧ i.bytes ≤ 8 := by
      rcases hi with hi | hi <;> simp [hq] at hi <;> exact ⟨hi.1, hi.2.1, by omega⟩
    have hb : (i.bytes : Int) * (n : Int) ≤ 281474976710656 := by
      have h1 : (i.bytes : Int) * (n : Int) ≤ 8 * (n : Int) := Int.mul_le_mul_of_nonneg_right (by omega) (by omega)
      omega
    have h := run_make w t e i (.int k 0) hu hq hz.1 kl kc (m : Int) (n : Int) (by omega) (by omega) hb (by omega)
    rw [hz.2.1, Int.toNat_natCast, Int.toNat_natCast, made_ints] at h
    unfold execOp
    simp only [ho, hx, hy, Sem.run_bind, Sem.run_pure, h, Result.andThen_ok]
theorem keepsO_keeps {gs : List Nat} {V W : World} (q : Keeps gs V W) (h : ∀ g ∈ gs, ∃ cs t, V.heap[g]? = some (.cells cs t)) : KeepsOthers V W :=
  ⟨q.size, fun k o hk ho => by
    by_cases e : k ∈ gs
    · obtain ⟨cs, t, r⟩ := h k e
      rw [r] at hk
      cases hk
      cases ho
    · exact (q.block k (row_lt hk) e).trans hk⟩
end Go.Proofs.Ytfelfmchachljaa.Sha
