/- Texts of this claim, joined (Q3). -/
import Derived.Test.YtoiendjhplbjjaaDoorZQ2
import Derived.Sort.LoopGhostIn
import Derived.Laws.Externs
import Derived.Shelf.Spec.BitsCarry
import Derived.Shelf.Bits.Mul64
import Derived.Laws.Bits64b

section
namespace Go.Proofs.YtoiendjhplbjjaaDoor.Cha
open Go Go.RowKit
open Rely Auto Own Sha
set_option linter.unusedVariables false
set_option linter.unusedSimpArgs false
open Sha
def QaQ (key nonce : List Int) : List Wd := [1634760805, 857760878, 2036477234, 1797285236, le4 (sub4 key 0), le4 (sub4 key 1), le4 (sub4 key 2), le4 (sub4 key 3), le4 (sub4 key 4), le4 (sub4 key 5), le4 (sub4 key 6), le4 (sub4 key 7), 0, le4 (sub4 nonce 0), le4 (sub4 nonce 1), le4 (sub4 nonce 2)]
theorem QcW (key nonce : List Int) : (QaQ key nonce).length = 16 := rfl
theorem QiK (key nonce : List Int) : ([1634760805, 857760878, 2036477234, 1797285236, wv (le4 (sub4 key 0)), wv (le4 (sub4 key 1)), wv (le4 (sub4 key 2)), wv (le4 (sub4 key 3)), wv (le4 (sub4 key 4)), wv (le4 (sub4 key 5)), wv (le4 (sub4 key 6)), wv (le4 (sub4 key 7)), 0, wv (le4 (sub4 nonce 0)), wv (le4 (sub4 nonce 1)), wv (le4 (sub4 nonce 2))] : List Int) = (QaQ key nonce).map wv := rfl
theorem Qb7 (ws : List Wd) (n : Int) : (Qbk ws n).length = 64 := QeD _ _
set_option maxRecDepth 100000 in
set_option maxHeartbeats 4000000 in
theorem Qj7 (key nonce : List Int) (v : Value) (B : Nat) (number : Int) (th tq : TypeId) (w : World) (hh : w.heap[2]? = some (.cells (ints .u32 [1634760805, 857760878, 2036477234, 1797285236]) th)) (hq : w.heap[3]? = some (.cells (ints .i64 [0, 4, 8, 12, 1, 5, 9, 13, 2, 6, 10, 14, 3, 7, 11, 15, 0, 5, 10, 15, 1, 6, 11, 12, 2, 7, 8, 13, 3, 4, 9, 14]) tq)) (hkl : key.length = 32) (hn : RdK .u8 B nonce v w) (h : nonce.length = 12) (h1 : 0 ≤ number) (h2 : number ≤ 4294967295) : Calls Tryd.prog 124 #[.agg (ints .u8 key), v, .int .i64 number] w (Ret w (.tuple #[.agg (ints .u8 (Qbk (QaQ key nonce) number)), .nilIface])) := by
  obtain ⟨a_n, c_n, rfl, -⟩ := id hn
  refine enter 21 [(0, .agg (ints .u8 (key))), (1, .slice a_n nonce.length c_n), (2, .int .i64 number)] Tryd.func124 rfl rfl kj rfl ?_
  refine wp_seq_k fun K3 hK3 => ?_
  refine Qab ?_
  refine Qaq (ints .u8 (key)) 23 3 rfl kj kj fun g4 W1 l4 e1 r4_1 => ?_
  have x1 : Ext w W1 := Ext.tr (Rely.Ext.refl w) e1
  have b4 : w.heap.size ≤ g4 := Nat.le_trans (Rely.Ext.refl w).size l4
  refine Qaq (ints .u8 (List.replicate 64 0)) 164 6 rfl kj kj fun g5 W2 l5 e2 r5_2 => ?_
  have x2 : Ext w W2 := Ext.tr x1 e2
  have b5 : w.heap.size ≤ g5 := Nat.le_trans x1.size l5
  refine Qaa (.nilIface) 7 rfl kj kj ?_
  refine Qac ?_
  refine hK3 _ _ ?_
  refine wp_seq_k fun K6 hK6 => ?_
  refine wp_seq_k fun K7 hK7 => ?_
  refine Qab ?_
  refine Qaa (.slice a_n nonce.length c_n) 9 rfl kj kj ?_
  refine Qaa (.int .i64 number) 10 rfl kj kj ?_
  refine Qax (.nilIface) 122 #[.slice a_n nonce.length c_n, .int .i64 number] 11 rfl kj kj ((check_D nonce _ _ number _ (RdK.ext hn x2) h h1 h2)) fun W3 e3 => ?_
  have x3 : Ext w W3 := Ext.tr x2 e3
  refine Qaa (.nilIface) 8 rfl kj kj ?_
  refine Qac ?_
  refine hK7 _ _ ?_
  refine wp_seq_k fun K8 hK8 => ?_
  refine Qab ?_
  refine Qaa (.nilIface) 12 rfl kj kj ?_
  refine Qaa (.bool false) 13 rfl kj kj ?_
  refine Qac ?_
  refine hK8 _ _ ?_
  refine cond_false kj ?_
  refine wp_skip ?_
  refine hK6 _ _ ?_
  refine wp_seq_k fun K9 hK9 => ?_
  refine Qab ?_
  have r4_2 := (Qad r4_1 e2)
  have r4_3 := (Qad r4_2 e3)
  refine Qaa (.agg (ints .u8 (key))) 16 rfl kj (Qas 23 _ g4 23 _ _ r4_3 rfl kj kj (isz (n := 32) kj ((Qaf _ _).trans hkl))) ?_
  refine Qaa (.slice a_n nonce.length c_n) 17 rfl kj kj ?_
  have r2_1 := (Qad hh e1)
  have r2_2 := (Qad r2_1 e2)
  have r2_3 := (Qad r2_2 e3)
  refine Qax (.agg (ints .u32 ((QaQ key nonce).map wv))) 139 #[.agg (ints .u8 (key)), .slice a_n nonce.length c_n] 18 rfl kj kj ((by rw [← QiK]; exact QiL key nonce _ _ th _ r2_3 hkl (RdK.ext hn x3) h)) fun W4 e4 => ?_
  have x4 : Ext w W4 := Ext.tr x3 e4
  refine Qaa (.int .i64 number) 19 rfl kj kj ?_
  have r1_1 := (Qad hq e1)
  have r1_2 := (Qad r1_1 e2)
  have r1_3 := (Qad r1_2 e3)
  have r1_4 := (Qad r1_3 e4)
  refine Qax (.agg (ints .u8 (Qbk (QaQ key nonce) number))) 141 #[.agg (ints .u32 ((QaQ key nonce).map wv)), .int .i64 number] 20 rfl kj kj ((QiO (QaQ key nonce) number tq _ r1_4 (QcW _ _))) fun W5 e5 => ?_
  have x5 : Ext w W5 := Ext.tr x4 e5
  have r5_3 := (Qad r5_2 e3)
  have r5_4 := (Qad r5_3 e4)
  have r5_5 := (Qad r5_4 e5)
  refine Qah g5 _ (ints .u8 (Qbk (QaQ key nonce) number)) 164 r5_5 rfl kj (Qam 164 _ _ g5 164 _ _ r5_5 rfl kj kj (isz (n := 64) kj ((Qaf _ _).trans (Qb7 _ _))) (eqsz (n := 64) ((Qaf _ _).trans (List.length_replicate (n := 64))) ((Qaf _ _).trans (Qb7 _ _))) (Qay _ _)) fun W6 p6 r5_6 => ?_
  have x6 : Ext w W6 := Puts.ext p6 x5 b5
  refine Qaa (.nilIface) 7 rfl kj kj ?_
  refine Qac ?_
  refine hK9 _ _ ?_
  refine wp_ret ?_
  repeat (first | with_reducible refine goR1 ?_ | with_reducible refine goR2 ?_)
  exact (show bodyPost _ _ _ .ret _ _ from ret2 (.agg (ints .u8 (Qbk (QaQ key nonce) number))) (.nilIface) rfl (QaU g5 164 _ r5_6 kj kj (isz (n := 64) kj ((Qaf _ _).trans (Qb7 _ _)))) (Qa9 kj) ⟨rfl, x6⟩)
end Go.Proofs.YtoiendjhplbjjaaDoor.Cha
end
section
namespace Go.Proofs.YtoiendjhplbjjaaDoor.Cha
open Go Go.RowKit
open Rely Auto Own Sha
set_option linter.unusedVariables false
set_option linter.unusedSimpArgs false
open Sha
theorem Qbb {b : List Int} (h : Qaj b) (j : Nat) : 0 ≤ nth b j ∧ nth b j < 256 := by
  unfold nth
  rw [List.getD_eq_getElem?_getD]
  rcases Nat.lt_or_ge j b.length with hj | hj
  · rw [List.getElem?_eq_getElem hj]
    have h1 := h _ (List.getElem_mem hj)
    show 0 ≤ b[j] ∧ b[j] < 256
    omega
  · rw [List.getElem?_eq_none hj]; decide
def mxv (text : List Int) (ws : List Wd) (num : Int) (f : Nat → Nat) (m : Nat) : List Int := (List.range m).map fun i => bits .xor .u8 (nth text i) (nth (Qbk ws (num + ((f (i / 64) : Nat) : Int))) (i % 64))
def mixV (ws : List Wd) (num : Int) (text : List Int) : List Int := mxv text ws num id text.length
theorem Qdo (text : List Int) (ws : List Wd) (num : Int) (f : Nat → Nat) (m : Nat) : (mxv text ws num f m).length = m := by simp [mxv]
end Go.Proofs.YtoiendjhplbjjaaDoor.Cha
end
section
namespace Go.Proofs.YtoiendjhplbjjaaDoor.Sha
open Go Go.RowKit
open Rely Auto Own
set_option linter.unusedVariables false
set_option linter.unusedSimpArgs false
section
variable {P : Program} {ρ : Operand → Value} {o : Oper} {w : World}
theorem QcY (t : TypeId) (x y : Operand) (k : IntKind) (n g off len cap : Nat) (e : TypeId) (a : Option Addr) (z : Int) (ha : a = some ⟨g, off, none⟩) (hz : z = (n : Int)) (ho : o.op = .indexAddr t x y) (hx : ρ x = .slice a len cap) (hy : ρ y = .int k z)
    (hu : P.underlying t = some (.slice e)) (hs : (P.info? e).map (·.size) = some 1) (hn : n < len) : (execOp ρ o).run P w = .ok (.value (.pointer (some ⟨g, off + n, none⟩))) w := by
  subst ha; subst hz
  exact QbW t x y k n g off len cap e ho hx hy hu hs hn
end
theorem Qct {P : Program} {ρ : Operand → Value} {o : Oper} {w : World} (x : Operand) (i : Nat) (vs : Array Value) (u : Value) (ho : o.op = .extract x i) (hx : ρ x = .tuple vs) (hi : vs[i]? = some u) : (execOp ρ o).run P w = .ok (.value u) w := by
  unfold execOp
  simp [ho, hx, Instr.extract, hi]
theorem QjV {k : IntKind} {T : TypeId} {base g : Nat} {xs : List Int} {v : Value} {W : World} (h : OwnN k T base xs v W) (hg : W.heap.size ≤ g) : v.ownBlock ≠ some g := fun e => by have := h.lt e; omega
theorem QjM (zs : List Int) (m : Nat) (y : Int) (h : m < zs.length) : zs.take m ++ [y] ++ zs.drop (m + 1) = zs.set m y := by
  rw [List.set_eq_take_append_cons_drop, if_pos h, List.append_assoc]; rfl
theorem Qfw {P : Program} {k : IntKind} {T : TypeId} {b : Nat} {ρ : Operand → Value} {o : Oper} {W : World} (s x : Operand) (t : TypeId) (ho : o.op = .call { callee := .builtin .append, args := #[s, x], argTypes := #[t, t] })
    (ht : P.underlying t = some (.slice T)) (hi : (P.info? T).map (fun i => (i.zero, i.size, i.bytes)) = some (some (.int k 0), 1, b)) {g m n gy : Nat} {zs : List Int} {y : Int} {Ty : TypeId} (hs : ρ s = .slice (some ⟨g, 0, none⟩) m n) (hx : ρ x = .slice (some ⟨gy, 0, none⟩) 1 1)
    (hg : W.heap[g]? = some (.cells (ints k zs) T)) (hz : zs.length = n) (hm : m < n) (hy : W.heap[gy]? = some (.cells (ints k [y]) Ty)) :
    (execOp ρ o).run P W = .ok (.value (.slice (some ⟨g, 0, none⟩) (m + 1) n)) (W.setRow g (ints k (zs.set m y))) := by
  obtain ⟨i, hq, hi1, hi2, hi3⟩ := Qka hi
  have hr := run_append_room (P := P) W t o.type T i ht hq g m n (ints k zs) hg ⟨gy, 0, none⟩ 1 1 ([y].map (Value.int k)) (by simp [hi2]) (QgS (k := k) (ys := [y]) fun j hj => by rw [Nat.zero_add]; exact QcD hy (Qa1 k [y] j hj)) (QgP _ [y]) (by omega) (by rw [hi2, Qaf]; simp; omega)
  have e : ((ints k zs).toList.take (m * i.size) ++ [y].map (Value.int k) ++ (ints k zs).toList.drop (m * i.size + ([y].map (Value.int k)).length)).toArray = ints k (zs.set m y) := by
    rw [← QjM zs m y (by omega), hi2, Nat.mul_one]
    simp [ints]
  rw [e] at hr
  unfold execOp
  simp only [ho, resolve, invoke, builtin, Sem.run_bind, Sem.run_pure, Result.andThen_ok, List.map_toArray, List.map_cons, List.map_nil, hs, hx, hr]
section
variable {ds : List Deferred} {Fe : Fence} {nf : Nat} {P : Program} {ops : Array Oper} {Q : Exit → Act → World → Prop} {rest : List Oper} {o : Oper} {N : Nat} {L : Env} {w : World}
theorem Qju {g : Nat} {old cs : Array Value} {T : TypeId} (v : Value) (d : Nat) (hd : o.dst = some d) (hF : Free Fe nf P) (hnd : QbX o = true) (hg : QbJ ops o N L = some true) (r : w.heap[g]? = some (.cells old T)) (h : (execOp (Rely.look (envN N L)) o).run P w = .ok (.value v) (w.setRow g cs))
    (k : ∀ W' : World, Puts w g W' → W'.heap[g]? = some (.cells cs T) → WLI Fe nf P ops Q rest (Qaz ds N ((d, v) :: L)) W') : WLI Fe nf P ops Q (o :: rest) (Qaz ds N L) w :=
  QhL _ _ d hd hF hnd hg h (k _ (Qbv _ _ _) (setRow_heap _ _ _ _ _ _ r))
end
section
variable {ds : List Deferred} {P : Program} {ops : Array Oper} {Q : Exit → Act → World → Prop} {rest : List Oper} {o : Oper} {N : Nat} {L : Env} {w : World}
theorem Qho (cs : Array Value) (T : TypeId) (m n d : Nat) (hd : o.dst = some d) (hg : QbJ ops o N L = some true) (h : (execOp (Rely.look (envN N L)) o).run P w = .ok (.value (.slice (some ⟨w.heap.size, 0, none⟩) m n)) (w.alloc (.cells cs T)))
    (k : ∀ (g : Nat) (W : World), w.heap.size ≤ g → Ext w W → W.heap[g]? = some (.cells cs T) → WL P ops Q rest (Qaz ds N ((d, .slice (some ⟨g, 0, none⟩) m n) :: L)) W) : WL P ops Q (o :: rest) (Qaz ds N L) w :=
  QbO _ _ d hd hg h (k _ _ (Nat.le_refl _) (QbS _ _) (heap_alloc_new _ _))
end
theorem Qht {P : Program} {ρ : Operand → Value} {o : Oper} {w : World} {k : IntKind} (t : TypeId) (x y : Operand) (kl kc : IntKind) (m n : Nat) (e : TypeId) (ho : o.op = .makeSlice t x y) (hx : ρ x = .int kl m) (hy : ρ y = .int kc n)
    (hu : P.underlying t = some (.slice e)) (hi : (P.info? e).map (fun i => (i.zero, i.size, i.bytes)) = some (some (.int k 0), 1, 8) ∨ (P.info? e).map (fun i => (i.zero, i.size, i.bytes)) = some (some (.int k 0), 1, 1)) (hm : m ≤ n) (hn : n ≤ 16777216) :
    (execOp ρ o).run P w = .ok (.value (.slice (some ⟨w.heap.size, 0, none⟩) m n)) (w.alloc (.cells (ints k (List.replicate n 0)) e)) := by
  cases hq : P.info? e with
  | none => rcases hi with hi | hi <;> simp [hq] at hi
  | some i =>
    have hz : i.zero = some (.int k 0) ∧ i.size = 1 ∧ i.bytes ≤ 8 := by
      rcases hi with hi | hi <;> simp [hq] at hi <;> exact ⟨hi.1, hi.2.1, by omega⟩
    have hb : (i.bytes : Int) * (n : Int) ≤ 281474976710656 := by
      have h1 : (i.bytes : Int) * (n : Int) ≤ 8 * (n : Int) := Int.mul_le_mul_of_nonneg_right (by omega) (by omega)
      omega
    have h := run_make w t e i (.int k 0) hu hq hz.1 kl kc (m : Int) (n : Int) (by omega) (by omega) hb (by omega)
    rw [hz.2.1, Int.toNat_natCast, Int.toNat_natCast, Qf9] at h
    unfold execOp
    simp only [ho, hx, hy, Sem.run_bind, Sem.run_pure, h, Result.andThen_ok]
theorem QdQ {gs : List Nat} {V W : World} (q : Qar gs V W) (h : ∀ g ∈ gs, ∃ cs t, V.heap[g]? = some (.cells cs t)) : KeepsOthers V W :=
  ⟨q.size, fun k o hk ho => by
    by_cases e : k ∈ gs
    · obtain ⟨cs, t, r⟩ := h k e
      rw [r] at hk
      cases hk
      cases ho
    · exact (q.block k (Qa8 hk) e).trans hk⟩
end Go.Proofs.YtoiendjhplbjjaaDoor.Sha
end
section
namespace Go.Proofs.YtoiendjhplbjjaaDoor.Auto
open Go Go.RowKit
open Rely Own
set_option linter.unusedVariables false
set_option linter.unusedSimpArgs false
variable {ds : List Deferred} {Fe : Fence} {nf : Nat}
section
variable {P : Program} {ops : Array Oper} {Q : Exit → Act → World → Prop} {rest : List Oper} {o : Oper} {N : Nat} {L : Env} {w : World}
theorem Qjv (v : Value) (f : FuncId) (args : Array Value) (d : Nat) (hd : o.dst = some d) (hF : Free Fe nf P) (hnd : QbX o = true) (hg : QbJ ops o N L = some true) (h : (execOp (Rely.look (envN N L)) o).run P w = .ok (.enter f args) w)
    (hc : Calls P f args w (Ret w v)) (k : ∀ W : World, Ext w W → WLI Fe nf P ops Q rest (Qaz ds N ((d, v) :: L)) W) : WLI Fe nf P ops Q (o :: rest) (Qaz ds N L) w :=
  QhM hF hnd hg fun K hK => by
    rw [h]
    refine ⟨hF.dp, (hF.calls hc).mono ?_⟩
    rintro e w' ⟨rfl, hw⟩
    show K _ _
    rw [hd, Qbn]
    exact hK _ _ (k _ hw)
end
section
variable {P : Program} {Q : Exit → Act → World → Prop} {w : World} {N : Nat} {L : Env}
end
theorem Qfx (N : Nat) (L : Env) (p q : Nat) (v u : Value) : ({ tmps := (#[p, q].zip #[v, u]).foldl (fun t (p, v) => t.setIfInBounds p v) (Qaz ds N L).tmps, defers := [] } : Act) = Qaz [] N ((q, u) :: (p, v) :: L) := by
  rw [← Qbn, ← Qbn]
  simp [Act.put, Qaz]
theorem QfT {α : Type} {P : Program} {g : Operand} {p q : Tmp} {assign body : Code} {Q : Exit → Act → World → Prop} {N : Nat} {L : Env} {w : World}
    {gf : Nat} {lb : Array Value} (hg : Rely.look (envN N L) g = .func (.func gf) #[] lb) (eg : ∀ args w, (callFunc gf args).run P w = .ok (.enter gf args) w)
    {enc enc2 : α → Value} {Kp : World → World → Prop} {S Sp : List α → Prop} {M : Nat} {w0 : World} (hseq : SeqStopsK Fence.wide 2 P gf lb (fun x => #[enc x, enc2 x]) Kp S Sp M w0)
    (hKt : ∀ {A B C : World}, Kp A B → Kp B C → Kp A C) (hKb : ∀ (W : World) (l : Nat) (o o' : Obj), w.heap.size ≤ l → W.heap[l]? = some o → o.isCells = false → o.isWalk = false → Kp W (W.putObj l o')) (hb0 : Below w0.heap.size w0 w)
    (I : List α → World → Prop) (Ix : Code → List α → World → Prop) (hI : OwnFrom w.heap.size I) (hIx : ∀ c, OwnFrom w.heap.size (Ix c)) (h0 : I [] w)
    (hKe : ∀ {A B : World}, Ext A B → Kp A B) (hIe : ∀ pre {A B : World}, I pre A → Ext A B → I pre B) (hIs : ∀ pre W, I pre W → w.heap.size ≤ W.heap.size)
    (asg : α → Nat → Env) (cs : α → Array Value) (T : TypeId)
    (hassign : ∀ (l : Nat) (x : α) (W : World) (K : Act → World → Prop), (∀ g W', W.heap.size ≤ g → Ext W W' → W'.heap[g]? = some (.cells (cs x) T) → K (Qaz [] N (asg x g ++ L)) W') → assign.wpIn (Fence.wide.inRound l) 1 P (Exit.then K (fun _ _ _ => False)) (Qaz [] N ((q, enc2 x) :: (p, enc x) :: L)) W)
    (hbody : ∀ (l : Nat) (pre : List α) (x : α) (g : Nat) (W : World), w.heap.size ≤ g → I pre W → W.heap[g]? = some (.cells (cs x) T) → pre.length < M → body.wpIn (Fence.wide.inRound l) 1 P (ownPostK Kp I Ix (pre ++ [x]) W) (Qaz [] N (asg x g ++ L)) W)
    (hdone : ∀ (D : Nat) (xs : List α) (W : World), w.heap.size ≤ D → S xs → I xs W → W.heap[D]? = some (.deferred (some [])) → Q .normal (Qaz (mark D :: ds) N L) W)
    (hstop : ∀ (D : Nat) (c : Code) (pre : List α) (W : World), w.heap.size ≤ D → Sp pre → Ix c pre W → W.heap[D]? = some (.deferred (some [])) → c.wp P Q (Qaz (mark D :: ds) N L) W) :
    (Code.rangeFunc g #[p, q] assign body).wp P Q (Qaz ds N L) w := by
  refine (wpIn_wide (n := 3)).1 ?_
  refine wpIn_rangeFunc_ownH rfl (by omega) (by rw [Qbz]; exact hg) trivial eg (w0 := w0) hseq hKt hKb hb0 (fun _ => rfl) I Ix hI hIx h0
    (fun x a' W => ∃ g, a' = Qaz [] N (asg x g ++ L) ∧ w.heap.size ≤ g ∧ W.heap[g]? = some (.cells (cs x) T)) ?_ (fun l pre x W K hi hK => ?_) ?_ ?_ ?_
  · rintro x a' _ X Y row ⟨g, e, hl, r⟩ hgr hr
    exact ⟨g, e, hl, Qb4 r hgr (fun q e => (hr q e).2)⟩
  · rw [Qfx]
    refine hassign l x W K fun g W' hg' e r => hK _ _ ((QfD e).from _) (hKe e) (hIe pre hi e) ⟨g, rfl, Nat.le_trans (hIs pre W hi) hg', r⟩
  · rintro l pre x a' W _ _ hi ⟨g, rfl, hl, r⟩ hlen
    exact wpIn_mono (hbody l pre x g W hl hi r hlen) ownPostG_of_ownPostK
  · intro D xs W h1 h2 h3 h4
    exact hdone D xs W h1 h2 h3 h4
  · intro D c pre W h1 h2 h3 h4
    exact wpIn_wide.2 (hstop D c pre W h1 h2 h3 h4)
theorem Qga {α : Type} {P : Program} {body : Code} {Q : Exit → Act → World → Prop} {N : Nat} {L : Env} {w : World} (live : α → Env) (I : α → World → Prop) (μ : α → Nat) (s0 : α) (hL : Qgk L (live s0)) (h0 : I s0 w)
    (round : ∀ (s : α) (X : Env) (W : World), I s W → body.wpIn Fe nf P (Exit.then (Goes ds N live I μ s) Q) (Qaz ds N (live s ++ X)) W) : (Code.loop body).wpIn Fe nf P Q (Qaz ds N L) w := by
  rw [← Qe3 hL]
  refine Go.wpIn_loop_ghost (fun n a W => ∃ (s : α) (X : Env), a = Qaz ds N (live s ++ X) ∧ I s W ∧ μ s = n) (μ s0) ⟨s0, L, rfl, h0, rfl⟩ ?_
  rintro n a W ⟨s, X, rfl, hI, rfl⟩
  refine wpIn_mono (round s X W hI) fun e a' w' h => ?_
  cases e <;> try exact h
  obtain ⟨s', X', h1, h2, h3⟩ := h
  exact ⟨μ s', h3, s', X', h1, h2, rfl⟩
theorem QgX {P : Program} {id : Nat} {Q : Exit → Act → World → Prop} {N : Nat} {L : Env} {w : World} {l : List Oper} (n : Nat) (S : List Src) (hFr : Free Fe nf P) (hdf : (l.all QbX) = true) (hm : P.follows .mixedOrders = true) (hok : ok l n N S = true)
    (h : ∀ F : List KE → Prop, (∀ C, (∀ W, Ext w W → finE (fun L W => WLI Fe nf P l.toArray Q (l.drop n) (Qaz ds N L) W) (l.take n) C L W) → F C) → Qbt P Ext w.drew N L F (l.take n) S []) :
    (Code.region id l.toArray true).wpIn Fe nf P Q (Qaz ds N L) w :=
  QeI Ext Rely.Ext.refl Rely.Ext.trans n S hFr hdf hm hok fun F hF => h F fun C hC => hF C fun W hR => hC W (Rely.Ext.trans (Qak w) hR)
section
variable {P : Program} {ops : Array Oper} {Q : Exit → Act → World → Prop} {rest : List Oper} {o : Oper} {N : Nat} {L : Env} {W : World}
end
theorem goXj {K : Act → World → Prop} {Q : Exit → Act → World → Prop} {a : Act} {w : World} {n m : Nat} (h : n ≠ m) (k : Q (.exit n) a w) : Exit.inBlock m Q (.exit n) a w := by
  unfold Exit.inBlock
  simp [h]
  exact k
end Go.Proofs.YtoiendjhplbjjaaDoor.Auto
end
section
namespace Go.Proofs.YtoiendjhplbjjaaDoor.Cha
open Go Go.RowKit
open Rely Auto Own Sha
set_option linter.unusedVariables false
set_option linter.unusedSimpArgs false
open Sha
set_option maxRecDepth 100000 in
set_option maxHeartbeats 4000000 in
theorem Qf2 (m : Nat) (gs : List Nat) (g1 g2 : Nat) (ws : List Wd) (number : Int) (r : Nat) (tq : TypeId) (w : World) (hr : number + (r : Int) = 4294967296) (h1 : 0 ≤ number) (h2 : number ≤ 4294967295) (hw : ws.length = 16)
  (hqw : w.heap[3]? = some (.cells (ints .i64 [0, 4, 8, 12, 1, 5, 9, 13, 2, 6, 10, 14, 3, 7, 11, 15, 0, 5, 10, 15, 1, 6, 11, 12, 2, 7, 8, 13, 3, 4, 9, 14]) tq)) (r1w : w.heap[g1]? = some (.cells #[.int .i64 number] 3)) (r2w : w.heap[g2]? = some (.cells (ints .u32 (ws.map wv)) 199)) (n1 : g1 ∉ gs) (n2 : g2 ∉ gs) (nq : 3 ∉ gs) :
  SeqStopsK Fence.wide m Tryd.prog 140 #[.pointer (some ⟨g1, 0, none⟩), .pointer (some ⟨g2, 0, none⟩)] (fun i : Nat => #[Value.int .i64 (number + ((i : Nat) : Int)), Value.agg (ints .u8 (Qbk ws (number + ((i : Nat) : Int))))]) (Qb5 gs) (fun ys => ys = List.range r) (fun ys => ∃ k, ys = List.range k ∧ k ≤ r) r w := fun l J Jx Wi hW hJ hJx hY h0 => by
 refine callsIn_wide.2 ?_
 have hqi := Qad hqw hW
 have r1 := Qad r1w hW
 have r2 := Qad r2w hW
 refine enter 17 [(0, .func (.yield l) #[] #[]), (1, .pointer (some ⟨g1, 0, none⟩)), (2, .pointer (some ⟨g2, 0, none⟩))] Tryd.func140 rfl rfl kj rfl ?_
 refine wp_seq_k fun K4 hK4 => ?_
 refine Qab ?_
 refine Qaa (.int .i64 number) 5 rfl kj (Qag 3 _ g1 0 3 _ (.int .i64 number) _ r1 rfl kj kj kj) ?_
 refine Qaa (.int .i64 number) 4 rfl kj kj ?_
 refine Qac ?_
 refine hK4 _ _ ?_
 refine wp_block ?_
 refine QaO (fun (s1 : Nat) => [(0, .func (.yield l) #[] #[]), (1, .pointer (some ⟨g1, 0, none⟩)), (2, .pointer (some ⟨g2, 0, none⟩)), (4, .int .i64 (number + ((s1 : Nat) : Int)))]) (fun (s1 : Nat) W => (s1 ≤ r) ∧ (J (List.range s1) W) ∧ (W.heap[g1]? = some (.cells #[.int .i64 number] 3)) ∧ (W.heap[g2]? = some (.cells (ints .u32 (ws.map wv)) 199)) ∧ (W.heap[3]? = some (.cells (ints .i64 [0, 4, 8, 12, 1, 5, 9, 13, 2, 6, 10, 14, 3, 7, 11, 15, 0, 5, 10, 15, 1, 6, 11, 12, 2, 7, 8, 13, 3, 4, 9, 14]) tq)) ∧ (Grew Wi W)) (fun (s1 : Nat) => r - s1) 0 ⟨rfl, rfl, rfl, (congrArg (Value.int .i64) (show number = number + ((0 : Nat) : Int) by omega)), trivial⟩ ⟨(Nat.zero_le _), (show J (List.range 0) _ from h0), r1, r2, hqi, (Grew.refl Wi)⟩ fun s1 X1 V1 hI1 => ?_
 obtain ⟨k, hs1⟩ : ∃ z, z = s1 := ⟨_, rfl⟩
 subst hs1
 obtain ⟨hkl_, hJ1, rr1, rr2, rrq, xx1⟩ := hI1
 replace hkl_ : k ≤ r := hkl_
 replace hJ1 : J (List.range k) V1 := hJ1
 replace rr1 : V1.heap[g1]? = some (.cells #[.int .i64 number] 3) := rr1
 replace rr2 : V1.heap[g2]? = some (.cells (ints .u32 (ws.map wv)) 199) := rr2
 replace rrq : V1.heap[3]? = some (.cells (ints .i64 [0, 4, 8, 12, 1, 5, 9, 13, 2, 6, 10, 14, 3, 7, 11, 15, 0, 5, 10, 15, 1, 6, 11, 12, 2, 7, 8, 13, 3, 4, 9, 14]) tq) := rrq
 replace xx1 : Grew Wi V1 := xx1
 refine wp_seq_k fun K5 hK5 => ?_
 refine wp_seq_k fun K6 hK6 => ?_
 refine Qab ?_
 refine Qaa (.int .i64 (number + ((k : Nat) : Int))) 6 rfl kj kj ?_
 refine Qaa (.bool (decide ((number + ((k : Nat) : Int)) ≤ 4294967295))) 7 rfl kj kj ?_
 refine Qac ?_
 refine hK6 _ _ ?_
 refine Qa7 (t := decide ((number + ((k : Nat) : Int)) ≤ 4294967295)) kj (fun c7 => ?_) (fun c7 => ?_)
 ·skip
  have hlt : k < r := by have := of_decide_eq_true c7; omega
  refine wp_skip ?_
  refine hK5 _ _ ?_
  refine wp_seq_k fun K8 hK8 => ?_
  refine wp_block ?_
  refine wp_seq_k fun K9 hK9 => ?_
  refine (wpIn_wide (n := m)).1 ?_
  refine Qbr ?_
  refine Qb2 (.func (.yield l) #[] #[]) 10 rfl (Qbs _ _) rfl kj kj ?_
  refine Qb2 (.int .i64 (number + ((k : Nat) : Int))) 11 rfl (Qbs _ _) rfl kj kj ?_
  refine Qb2 (.agg (ints .u32 (ws.map wv))) 12 rfl (Qbs _ _) rfl kj (Qas 199 _ g2 199 _ _ rr2 rfl kj kj (isz (n := 16) kj ((Qaf _ _).trans (QaC hw)))) ?_
  refine Qb2 (.int .i64 (number + ((k : Nat) : Int))) 13 rfl (Qbs _ _) rfl kj kj ?_
  refine Qjv (.agg (ints .u8 (Qbk ws (number + ((k : Nat) : Int))))) 141 #[.agg (ints .u32 (ws.map wv)), .int .i64 (number + ((k : Nat) : Int))] 14 rfl (Qbs _ _) rfl kj kj ((QiO ws (number + ((k : Nat) : Int)) tq _ rrq hw)) fun W2 e2 => ?_
  have x2 : Grew Wi W2 := Grew.ext xx1 e2
  have y1_2 : Ext V1 W2 := (Rely.Ext.trans (Rely.Ext.refl V1) e2)
  have f11_2 := QeN hJ hJ1 y1_2
  refine Qg2 (m := m) (l := l) (args := #[.int .i64 (number + ((k : Nat) : Int)), .agg (ints .u8 (Qbk ws (number + ((k : Nat) : Int))))]) 15 rfl rfl kj kj (hY (List.range k) k W2 f11_2 (by rw [List.length_range]; omega)) (fun W' hA => ?_) (fun W' hA => ?_)
  ·skip
   obtain ⟨W3, hW3⟩ : ∃ z, z = W' := ⟨_, rfl⟩
   rw [← hW3] at hA ⊢
   obtain ⟨hj10, hk10⟩ := hA
   have x3 : Grew Wi W3 := Grew.keepC x2 hk10
   refine Qb2 (.bool false) 16 rfl (Qbs _ _) rfl kj kj ?_
   refine Qcw ?_
   refine hK9 _ _ ?_
   refine cond_false kj ?_
   refine wp_skip ?_
   refine hK8 _ _ ?_
   refine Qab ?_
   refine Qaa (.int .i64 (number + ((k : Nat) : Int))) 8 rfl kj kj ?_
   refine Qaa (.int .i64 (number + ((k + 1 : Nat) : Int))) 9 rfl kj (Qal (u := .int .i64 (IntKind.i64.wrap ((number + ((k : Nat) : Int)) + 1))) kj (congrArg (Value.int .i64) (by rw [show number + ((k : Nat) : Int) + 1 = number + ((k + 1 : Nat) : Int) by omega]; exact IntWalk.i64_in _ (by omega)))) ?_
   refine Qaa (.int .i64 (number + ((k + 1 : Nat) : Int))) 4 rfl kj kj ?_
   refine Qac ?_
   have r2_2 := (Qad rr1 e2)
   have r2_3 := (Qb5.row hk10 r2_2 n1)
   have r3_2 := (Qad rr2 e2)
   have r3_3 := (Qb5.row hk10 r3_2 n2)
   have r1_2 := (Qad rrq e2)
   have r1_3 := (Qb5.row hk10 r1_2 nq)
   repeat (first | with_reducible refine goX1 ?_ | with_reducible refine goX2 ?_ | with_reducible refine goX3 ?_)
   exact QaI (k + 1) ⟨rfl, rfl, rfl, rfl, trivial⟩ ⟨(by omega), (by rw [List.range_succ]; exact hj10), r2_3, r3_3, r1_3, x3⟩ (by show r - (k + 1) < r - k; omega)
  ·skip
   obtain ⟨W3, hW3⟩ : ∃ z, z = W' := ⟨_, rfl⟩
   rw [← hW3] at hA ⊢
   refine Qb2 (.bool true) 16 rfl (Qbs _ _) rfl kj kj ?_
   refine Qcw ?_
   refine hK9 _ _ ?_
   refine cond_true kj ?_
   refine wp_ret ?_
   repeat (first | with_reducible refine goR1 ?_ | with_reducible refine goR2 ?_)
   exact (show bodyPost _ _ _ .ret _ _ from ret0 rfl ⟨⟨_, rfl⟩, .inr ⟨_, ⟨k + 1, List.range_succ.symm, hlt⟩, hA⟩⟩)
 ·skip
  have hke : k = r := by have := of_decide_eq_false c7; omega
  refine wp_exit ?_
  repeat (first | with_reducible refine goX1 ?_ | with_reducible refine goX2 ?_ | with_reducible refine goX3 ?_)
  exact (show bodyPost _ _ _ .normal _ _ from end0 rfl ⟨⟨_, rfl⟩, .inl ⟨_, congrArg List.range hke, hJ1⟩⟩)
set_option maxRecDepth 100000 in
set_option maxHeartbeats 4000000 in
theorem Qin (key nonce : List Int) (v : Value) (B : Nat) (number : Int) (th tq : TypeId) (w : World) (hh : w.heap[2]? = some (.cells (ints .u32 [1634760805, 857760878, 2036477234, 1797285236]) th)) (hq : w.heap[3]? = some (.cells (ints .i64 [0, 4, 8, 12, 1, 5, 9, 13, 2, 6, 10, 14, 3, 7, 11, 15, 0, 5, 10, 15, 1, 6, 11, 12, 2, 7, 8, 13, 3, 4, 9, 14]) tq)) (hkl : key.length = 32) (hn : RdK .u8 B nonce v w) (h : nonce.length = 12) (h1 : 0 ≤ number) (h2 : number ≤ 4294967295) : Calls Tryd.prog 123 #[.agg (ints .u8 key), v, .int .i64 number] w (QbT w (fun v W => ∃ g1 g2, v = .func (.func 140) #[] #[.pointer (some ⟨g1, 0, none⟩), .pointer (some ⟨g2, 0, none⟩)] ∧ w.heap.size ≤ g1 ∧ w.heap.size ≤ g2 ∧ W.heap[g1]? = some (.cells #[.int .i64 number] 3) ∧ W.heap[g2]? = some (.cells (ints .u32 ((QaQ key nonce).map wv)) 199))) := by
  obtain ⟨a_n, c_n, rfl, -⟩ := id hn
  refine enter 16 [(0, .agg (ints .u8 (key))), (1, .slice a_n nonce.length c_n), (2, .int .i64 number)] Tryd.func123 rfl rfl kj rfl ?_
  refine wp_seq_k fun K3 hK3 => ?_
  refine Qab ?_
  refine Qaq (ints .u8 (key)) 23 3 rfl kj kj fun g4 W1 l4 e1 r4_1 => ?_
  have x1 : Ext w W1 := Ext.tr (Rely.Ext.refl w) e1
  have b4 : w.heap.size ≤ g4 := Nat.le_trans (Rely.Ext.refl w).size l4
  refine Qaq (#[.int .i64 number]) 3 5 rfl kj kj fun g5 W2 l5 e2 r5_2 => ?_
  have x2 : Ext w W2 := Ext.tr x1 e2
  have b5 : w.heap.size ≤ g5 := Nat.le_trans x1.size l5
  refine Qaa (.nilFunc) 6 rfl kj kj ?_
  refine Qac ?_
  refine hK3 _ _ ?_
  refine wp_seq_k fun K6 hK6 => ?_
  refine wp_seq_k fun K7 hK7 => ?_
  refine Qab ?_
  refine Qaa (.slice a_n nonce.length c_n) 8 rfl kj kj ?_
  refine Qaa (.int .i64 number) 9 rfl kj (Qag 3 _ g5 0 3 _ (.int .i64 number) _ r5_2 rfl kj kj kj) ?_
  refine Qax (.nilIface) 122 #[.slice a_n nonce.length c_n, .int .i64 number] 10 rfl kj kj ((check_D nonce _ _ number _ (RdK.ext hn x2) h h1 h2)) fun W3 e3 => ?_
  have x3 : Ext w W3 := Ext.tr x2 e3
  refine Qaa (.bool false) 11 rfl kj kj ?_
  refine Qac ?_
  refine hK7 _ _ ?_
  refine cond_false kj ?_
  refine wp_skip ?_
  refine hK6 _ _ ?_
  refine wp_seq_k fun K8 hK8 => ?_
  refine Qab ?_
  have r4_2 := (Qad r4_1 e2)
  have r4_3 := (Qad r4_2 e3)
  refine Qaa (.agg (ints .u8 (key))) 12 rfl kj (Qas 23 _ g4 23 _ _ r4_3 rfl kj kj (isz (n := 32) kj ((Qaf _ _).trans hkl))) ?_
  refine Qaa (.slice a_n nonce.length c_n) 13 rfl kj kj ?_
  have r2_1 := (Qad hh e1)
  have r2_2 := (Qad r2_1 e2)
  have r2_3 := (Qad r2_2 e3)
  refine Qax (.agg (ints .u32 ((QaQ key nonce).map wv))) 139 #[.agg (ints .u8 (key)), .slice a_n nonce.length c_n] 14 rfl kj kj ((by rw [← QiK]; exact QiL key nonce _ _ th _ r2_3 hkl (RdK.ext hn x3) h)) fun W4 e4 => ?_
  have x4 : Ext w W4 := Ext.tr x3 e4
  refine Qaq (ints .u32 ([0, 0, 0, 0, 0, 0, 0, 0, 0, 0, 0, 0, 0, 0, 0, 0])) 199 7 rfl kj kj fun g9 W5 l9 e5 r9_5 => ?_
  have x5 : Ext w W5 := Ext.tr x4 e5
  have b9 : w.heap.size ≤ g9 := Nat.le_trans x4.size l9
  refine Qah g9 _ (ints .u32 ((QaQ key nonce).map wv)) 199 r9_5 rfl kj (Qam 199 _ _ g9 199 _ _ r9_5 rfl kj kj (isz (n := 16) kj ((Qaf _ _).trans (QaC (QcW _ _)))) (eqsz (n := 16) kj ((Qaf _ _).trans (QaC (QcW _ _)))) (Qay _ _)) fun W6 p6 r9_6 => ?_
  have x6 : Ext w W6 := Puts.ext p6 x5 b9
  refine Qac ?_
  refine hK8 _ _ ?_
  refine wp_seq_k fun K10 hK10 => ?_
  refine Qab ?_
  refine Qaa (.func (.func 140) #[] #[.pointer (some ⟨g5, 0, none⟩), .pointer (some ⟨g9, 0, none⟩)]) 15 rfl kj kj ?_
  refine Qaa (.func (.func 140) #[] #[.pointer (some ⟨g5, 0, none⟩), .pointer (some ⟨g9, 0, none⟩)]) 6 rfl kj kj ?_
  refine Qac ?_
  refine hK10 _ _ ?_
  refine wp_ret ?_
  repeat (first | with_reducible refine goR1 ?_ | with_reducible refine goR2 ?_)
  have r5_3 := (Qad r5_2 e3)
  have r5_4 := (Qad r5_3 e4)
  have r5_5 := (Qad r5_4 e5)
  have r5_6 := (Puts.row p6 r5_5 (Qae r5_4 l9))
  exact (show bodyPost _ _ _ .ret _ _ from ret1 (.func (.func 140) #[] #[.pointer (some ⟨g5, 0, none⟩), .pointer (some ⟨g9, 0, none⟩)]) rfl (Qa9 kj) ⟨_, rfl, x6, _, _, rfl, b5, b9, r5_6, r9_6⟩)
end Go.Proofs.YtoiendjhplbjjaaDoor.Cha
end
section
namespace Go.Proofs.YtoiendjhplbjjaaDoor.Cha
open Go Go.RowKit
open Rely Auto Own Sha
set_option linter.unusedVariables false
set_option linter.unusedSimpArgs false
open Sha
def pg (pre : List Nat) (j : Nat) : Nat := pre.getD j 0
theorem Qjj (pre : List Nat) (x : Nat) : pg (pre ++ [x]) pre.length = x := by simp [pg]
theorem Qk8 (pre : List Nat) (x j : Nat) (h : j < pre.length) : pg (pre ++ [x]) j = pg pre j := by
  unfold pg
  rw [List.getD_eq_getElem?_getD, List.getD_eq_getElem?_getD, List.getElem?_append_left h]
theorem Qio (k j : Nat) (h : j < k) : pg (List.range k) j = j := by
  unfold pg
  rw [List.getD_eq_getElem?_getD, List.getElem?_range h]; rfl
theorem Qgy (text : List Int) (ws : List Wd) (num : Int) (f g : Nat → Nat) (n m : Nat) (h : ∀ i, i < m → f (i / 64) = g (i / 64)) : (mxv text ws num f n).take m = (mxv text ws num g n).take m := by
  unfold mxv
  rw [← List.map_take, ← List.map_take, List.take_range]
  refine List.map_congr_left fun i hi => ?_
  rw [List.mem_range] at hi
  rw [h i (by omega)]
theorem Qh6 (text : List Int) (ws : List Wd) (num : Int) (f : Nat → Nat) (n m : Nat) (h : m < n) : nth (mxv text ws num f n) m = bits .xor .u8 (nth text m) (nth (Qbk ws (num + ((f (m / 64) : Nat) : Int))) (m % 64)) := by
  rw [show nth (mxv text ws num f n) m = (mxv text ws num f n).getD m 0 from rfl]
  unfold mxv
  rw [List.getD_eq_getElem?_getD, List.getElem?_map, List.getElem?_range h]; rfl
theorem Qjn (text : List Int) (ws : List Wd) (num : Int) (pre : List Nat) (x n : Nat) : Qb9 (mxv text ws num (pg pre) n) n (64 * pre.length) = Qb9 (mxv text ws num (pg (pre ++ [x])) n) n (64 * pre.length) := by
  unfold Qb9
  rw [Qgy text ws num (pg pre) (pg (pre ++ [x])) n _ fun i hi => (Qk8 pre x (i / 64) (by omega)).symm]
theorem QjW (text : List Int) (ws : List Wd) (num : Int) (pre : List Nat) (x n j : Nat) (hj : j < 64) (h : 64 * pre.length + j < n) : nth (mxv text ws num (pg (pre ++ [x])) n) (64 * pre.length + j) = bits .xor .u8 (nth text (64 * pre.length + j)) (nth (Qbk ws (num + ((x : Nat) : Int))) j) := by
  rw [Qh6 _ _ _ _ _ _ h, show (64 * pre.length + j) / 64 = pre.length by omega, show (64 * pre.length + j) % 64 = j by omega, Qjj]
theorem Qh7 (text : List Int) (ws : List Wd) (num : Int) (k : Nat) (h : text.length ≤ 64 * k) : mxv text ws num (pg (List.range k)) text.length = mixV ws num text := by
  have h2 := Qgy text ws num (pg (List.range k)) id text.length text.length fun i hi => Qio k (i / 64) (by omega)
  rw [List.take_of_length_le (by rw [Qdo]; omega), List.take_of_length_le (by rw [Qdo]; omega)] at h2
  exact h2
theorem QbE (ws : List Wd) (num : Int) (text : List Int) : (mixV ws num text).length = text.length := Qdo _ _ _ _ _
set_option maxRecDepth 100000 in
set_option maxHeartbeats 4000000 in
theorem QkI (key nonce text : List Int) (v v2 : Value) (B B2 : Nat) (number : Int) (th tq : TypeId) (w : World) (hh : w.heap[2]? = some (.cells (ints .u32 [1634760805, 857760878, 2036477234, 1797285236]) th)) (hq : w.heap[3]? = some (.cells (ints .i64 [0, 4, 8, 12, 1, 5, 9, 13, 2, 6, 10, 14, 3, 7, 11, 15, 0, 5, 10, 15, 1, 6, 11, 12, 2, 7, 8, 13, 3, 4, 9, 14]) tq)) (hkl : key.length = 32) (hn : RdK .u8 B nonce v w) (ht : RdK .u8 B2 text v2 w) (h : nonce.length = 12) (r : Nat) (hr : number + (r : Int) = 4294967296) (h1 : 0 ≤ number) (h2 : number ≤ 4294967295) (hfit : text.length ≤ 64 * r) (htl : text.length ≤ 2000000) : Calls Tryd.prog 103 #[.agg (ints .u8 key), v, .int .i64 number, v2] w (QbT w (fun v W => ∃ u, v = .tuple #[u, .nilIface] ∧ OwnN .u8 5 w.heap.size (mixV (QaQ key nonce) number text) u W)) := by
 obtain ⟨a_n, c_n, rfl, -⟩ := id hn
 obtain ⟨a_t, c_t, rfl, -⟩ := id ht
 refine QiW 64 [(0, .agg (ints .u8 (key))), (1, .slice a_n nonce.length c_n), (2, .int .i64 number), (3, .slice a_t text.length c_t)] Tryd.func103 rfl rfl kj rfl ?_
 refine wp_seq_k fun K3 hK3 => ?_
 refine Qab ?_
 refine Qaq (ints .u8 (key)) 23 4 rfl kj kj fun g4 W1 l4 e1 r4_1 => ?_
 have x1 : Ext w W1 := Ext.tr (Rely.Ext.refl w) e1
 have b4 : w.heap.size ≤ g4 := Nat.le_trans (Rely.Ext.refl w).size l4
 refine Qaq (#[.slice a_t text.length c_t]) 33 7 rfl kj kj fun g5 W2 l5 e2 r5_2 => ?_
 have x2 : Ext w W2 := Ext.tr x1 e2
 have b5 : w.heap.size ≤ g5 := Nat.le_trans x1.size l5
 refine Qaa (.slice none 0 0) 8 rfl kj kj ?_
 refine Qaa (.nilIface) 9 rfl kj kj ?_
 refine Qac ?_
 refine hK3 _ _ ?_
 refine wp_scope_straight ?_
 refine wp_seq_k fun K6 hK6 => ?_
 refine wp_seq_k fun K7 hK7 => ?_
 refine Qab ?_
 refine Qaa (.slice a_n nonce.length c_n) 17 rfl kj kj ?_
 refine Qaa (.int .i64 number) 18 rfl kj kj ?_
 refine Qax (.nilIface) 122 #[.slice a_n nonce.length c_n, .int .i64 number] 19 rfl kj kj ((check_D nonce _ _ number _ (RdK.ext hn x2) h h1 h2)) fun W3 e3 => ?_
 have x3 : Ext w W3 := Ext.tr x2 e3
 refine Qaa (.nilIface) 10 rfl kj kj ?_
 refine Qac ?_
 refine hK7 _ _ ?_
 refine wp_seq_k fun K8 hK8 => ?_
 refine Qab ?_
 refine Qaa (.nilIface) 20 rfl kj kj ?_
 refine Qaa (.bool false) 21 rfl kj kj ?_
 refine Qac ?_
 refine hK8 _ _ ?_
 refine cond_false kj ?_
 refine wp_skip ?_
 refine hK6 _ _ ?_
 refine wp_seq_k fun K9 hK9 => ?_
 refine wp_seq_k fun K10 hK10 => ?_
 refine Qab ?_
 have r5_3 := (Qad r5_2 e3)
 refine Qaa (.slice a_t text.length c_t) 23 rfl kj (Qag 33 _ g5 0 33 _ (.slice a_t text.length c_t) _ r5_3 rfl kj kj kj) ?_
 refine Qaa (.int .i64 ((text.length : Nat) : Int)) 24 rfl kj kj ?_
 refine Qaa (.int .i64 ((text.length + 64 : Nat) : Int)) 25 rfl kj (Qal (u := .int .i64 (IntKind.i64.wrap (((text.length : Nat) : Int) + 64))) kj (congrArg (Value.int .i64) (i64n _ _ (by omega) (by omega)))) ?_
 refine Qaa (.int .i64 (((text.length + 64) - 1 : Nat) : Int)) 26 rfl kj (Qal (u := .int .i64 (IntKind.i64.wrap (((text.length + 64 : Nat) : Int) - 1))) kj (congrArg (Value.int .i64) (i64n _ _ (by omega) (by omega)))) ?_
 refine Qaa (.int .i64 ((((text.length + 64) - 1) / 64 : Nat) : Int)) 27 rfl kj (Qal (u := .int .i64 (IntKind.i64.wrap (Int.tdiv ((((text.length + 64) - 1 : Nat) : Int)) (64)))) kj (congrArg (Value.int .i64) (QdH _ 64 (by omega)))) ?_
 refine Qaa (.int .i64 ((((text.length + 64) - 1) / 64 : Nat) : Int)) 11 rfl kj kj ?_
 refine Qac ?_
 refine hK10 _ _ ?_
 refine wp_seq_k fun K11 hK11 => ?_
 refine Qab ?_
 refine Qaa (.int .i64 ((((text.length + 64) - 1) / 64 : Nat) : Int)) 28 rfl kj kj ?_
 refine Qaa (.int .i64 number) 29 rfl kj kj ?_
 refine Qaa (.int .i64 (((r - 1 : Nat) : Int))) 30 rfl kj (Qal (u := .int .i64 (IntKind.i64.wrap (4294967295 - number))) kj (congrArg (Value.int .i64) (by rw [show (4294967295 - number : Int) = ((r - 1 : Nat) : Int) by omega]; exact IntWalk.i64_in _ (by omega)))) ?_
 refine Qaa (.int .i64 (((r - 1) + 1 : Nat) : Int)) 31 rfl kj (Qal (u := .int .i64 (IntKind.i64.wrap ((((r - 1 : Nat) : Int)) + 1))) kj (congrArg (Value.int .i64) (i64n _ _ (by omega) (by omega)))) ?_
 refine Qaa (.bool false) 32 rfl kj (Qal (u := .bool (decide (((((text.length + 64) - 1) / 64 : Nat) : Int) > (((r - 1) + 1 : Nat) : Int)))) kj (congrArg Value.bool (decide_eq_false (by omega)))) ?_
 refine Qac ?_
 refine hK11 _ _ ?_
 refine cond_false kj ?_
 refine wp_skip ?_
 refine hK9 _ _ ?_
 refine wp_seq_k fun K12 hK12 => ?_
 refine Qab ?_
 refine Qaa (.slice a_t text.length c_t) 34 rfl kj (Qag 33 _ g5 0 33 _ (.slice a_t text.length c_t) _ r5_3 rfl kj kj kj) ?_
 refine Qaa (.int .i64 ((text.length : Nat) : Int)) 35 rfl kj kj ?_
 refine Qho (ints .u8 (List.replicate (text.length) 0)) 5 0 (text.length) 36 rfl kj (Qht 33 _ _ .i64 .i64 0 (text.length) 5 rfl kj kj kj (.inr kj) (Nat.zero_le _) (by omega)) fun g13 W4 l13 e4 r13_4 => ?_
 have x4 : Ext w W4 := Ext.tr x3 e4
 have b13 : w.heap.size ≤ g13 := Nat.le_trans x3.size l13
 refine Qaq (#[.slice none 0 0]) 33 12 rfl kj kj fun g14 W5 l14 e5 r14_5 => ?_
 have x5 : Ext w W5 := Ext.tr x4 e5
 have b14 : w.heap.size ≤ g14 := Nat.le_trans x4.size l14
 refine Qah g14 _ (#[.slice (some ⟨g13, 0, none⟩) 0 text.length]) 33 r14_5 rfl kj (Qby 33 _ _ g14 0 33 _ (.slice (some ⟨g13, 0, none⟩) 0 text.length) r14_5 rfl kj kj kj kj kj rfl) fun W6 p6 r14_6 => ?_
 have x6 : Ext w W6 := Puts.ext p6 x5 b14
 refine Qac ?_
 refine hK12 _ _ ?_
 refine wp_seq_k fun K15 hK15 => ?_
 refine wp_label ?_
 refine hK15 _ _ ?_
 refine wp_seq_k fun K16 hK16 => ?_
 refine wp_seq_k fun K17 hK17 => ?_
 refine Qab ?_
 have r4_2 := (Qad r4_1 e2)
 have r4_3 := (Qad r4_2 e3)
 have r4_4 := (Qad r4_3 e4)
 have r4_5 := (Qad r4_4 e5)
 have r4_6 := (Puts.row p6 r4_5 (Qae r4_4 l14))
 refine Qaa (.agg (ints .u8 (key))) 37 rfl kj (Qas 23 _ g4 23 _ _ r4_6 rfl kj kj (isz (n := 32) kj ((Qaf _ _).trans hkl))) ?_
 refine Qaa (.slice a_n nonce.length c_n) 38 rfl kj kj ?_
 refine Qaa (.int .i64 number) 39 rfl kj kj ?_
 have r2_1 := (Qad hh e1)
 have r2_2 := (Qad r2_1 e2)
 have r2_3 := (Qad r2_2 e3)
 have r2_4 := (Qad r2_3 e4)
 have r2_5 := (Qad r2_4 e5)
 have r2_6 := (Puts.row p6 r2_5 (Qae r2_4 l14))
 have r1_1 := (Qad hq e1)
 have r1_2 := (Qad r1_1 e2)
 have r1_3 := (Qad r1_2 e3)
 have r1_4 := (Qad r1_3 e4)
 have r1_5 := (Qad r1_4 e5)
 have r1_6 := (Puts.row p6 r1_5 (Qae r1_4 l14))
 refine Qa0 (fun v W' => (fun v W => ∃ g1 g2, v = .func (.func 140) #[] #[.pointer (some ⟨g1, 0, none⟩), .pointer (some ⟨g2, 0, none⟩)] ∧ W6.heap.size ≤ g1 ∧ W6.heap.size ≤ g2 ∧ W.heap[g1]? = some (.cells #[.int .i64 number] 3) ∧ W.heap[g2]? = some (.cells (ints .u32 ((QaQ key nonce).map wv)) 199)) v W' ∧ Ext W6 W') 123 #[.agg (ints .u8 (key)), .slice a_n nonce.length c_n, .int .i64 number] 40 rfl kj kj ((Qin key nonce _ _ number th tq _ r2_6 r1_6 hkl (RdK.ext hn x6) h h1 h2).mono (by rintro e w' ⟨v, rfl, e1, hv⟩; exact ⟨v, rfl, hv, e1⟩)) fun vv18 W7 hh18 => ?_
 obtain ⟨hv18, e7⟩ := hh18
 have x7 : Ext w W7 := Ext.tr x6 e7
 obtain ⟨gp1, gp2, rfl, lp1, lp2, rp1, rp2⟩ := hv18
 refine Qac ?_
 refine hK17 _ _ ?_
 refine wp_block ?_
 have r5_4 := (Qad r5_3 e4)
 have r5_5 := (Qad r5_4 e5)
 have r5_6 := (Puts.row p6 r5_5 (Qae r5_4 l14))
 have r5_7 := (Qad r5_6 e7)
 have r14_7 := (Qad r14_6 e7)
 have r13_5 := (Qad r13_4 e5)
 have r13_6 := (Puts.row p6 r13_5 (Qae r13_4 l14))
 have r13_7 := (Qad r13_6 e7)
 have r1_7 := (Qad r1_6 e7)
 have nb712 : g5 ≠ g14 := (Qae r5_4 l14)
 have nb7O : g5 ≠ g13 := (Qae r5_3 l13)
 have nb127 : g14 ≠ g5 := (Qap r5_4 l14)
 have nb12O : g14 ≠ g13 := (Qap r13_4 l14)
 have nbO7 : g13 ≠ g5 := (Qap r5_3 l13)
 have nbO12 : g13 ≠ g14 := (Qae r13_4 l14)
 have hgs : ∀ c ∈ ([g14, g13] : List Nat), w.heap.size ≤ c := (fun c hc => by simp only [List.mem_cons, List.not_mem_nil, or_false] at hc; rcases hc with rfl | rfl; exact b14; exact b13)
 have hgp : ∀ c ∈ ([g14, g13] : List Nat), c < W6.heap.size := (fun c hc => by simp only [List.mem_cons, List.not_mem_nil, or_false] at hc; rcases hc with rfl | rfl; exact Qa8 r14_6; exact Qa8 r13_6)
 refine QfT (gf := 140) (lb := #[.pointer (some ⟨gp1, 0, none⟩), .pointer (some ⟨gp2, 0, none⟩)]) (enc := fun x : Nat => .int .i64 (number + ((x : Nat) : Int))) (enc2 := fun x : Nat => .agg (ints .u8 (Qbk (QaQ key nonce) (number + ((x : Nat) : Int))))) kj (enters_of Tryd.func140 kj rfl) (Qf2 2 [g14, g13] gp1 gp2 (QaQ key nonce) number r tq W7 hr h1 h2 (QcW _ _) r1_7 rp1 rp2 (fun hm => by have := hgp _ hm; omega) (fun hm => by have := hgp _ hm; omega) (fun hm => by have h1 := hgs _ hm; have h2 := Qa8 hq; omega)) (fun h k => Qb5.trans h k) Qb5.book (Below.refl _ _)
   (fun pre W => ((W.heap[g5]? = some (.cells (#[.slice a_t text.length c_t]) 33)) ∧ (W.heap[g14]? = some (.cells (#[.slice (some ⟨g13, 0, none⟩) (64 * pre.length) text.length]) 33)) ∧ (W.heap[g13]? = some (.cells (ints .u8 (Qb9 (mxv text (QaQ key nonce) number (pg pre) text.length) text.length (64 * pre.length))) 5)) ∧ 64 * pre.length ≤ text.length ∧ W7.heap.size ≤ W.heap.size) ∧ Ext w W)
   (fun c pre W => (c = .exit 0 ∧ text.length ≤ 64 * pre.length ∧ (W.heap[g14]? = some (.cells (#[.slice (some ⟨g13, 0, none⟩) (text.length) text.length]) 33)) ∧ (W.heap[g13]? = some (.cells (ints .u8 (Qb9 (mxv text (QaQ key nonce) number (pg pre) text.length) text.length (text.length))) 5))) ∧ Ext w W) (OwnFrom.and (Own.from (fun s A B row hs hg hr => ⟨Qb4 hs.1 hg hr, Qb4 hs.2.1 hg hr, Qb4 hs.2.2.1 hg hr, hs.2.2.2.1, Nat.le_trans hs.2.2.2.2 hg.size⟩) _) (ownFrom_below (Nat.le_refl _) x7.size)) (fun c => OwnFrom.and (Own.from (fun s A B row hs hg hr => ⟨hs.1, hs.2.1, Qb4 hs.2.2.1 hg hr, Qb4 hs.2.2.2 hg hr⟩) _) (ownFrom_below (Nat.le_refl _) x7.size)) ⟨⟨r5_7, r14_7, QaA r13_7 (QbZ _ _), Nat.zero_le _, Nat.le_refl _⟩, x7⟩ (fun e => Qb5.ext e) (fun pre A B h e => ⟨⟨Qad h.1.1 e, Qad h.1.2.1 e, Qad h.1.2.2.1 e, h.1.2.2.2.1, Nat.le_trans h.1.2.2.2.2 e.size⟩, Rely.Ext.trans h.2 e⟩) (fun pre W h => h.1.2.2.2.2) (fun x g => [(14, .pointer (some ⟨g, 0, none⟩)), (42, .agg (ints .u8 (Qbk (QaQ key nonce) (number + ((x : Nat) : Int))))), (41, .int .i64 (number + ((x : Nat) : Int)))]) (fun x => ints .u8 (Qbk (QaQ key nonce) (number + ((x : Nat) : Int)))) 164 (fun l x W K hK => ?_) (fun l pre x gP Wr hgP hI rP hp => ?_) (fun D ys W lD hS hI rD => ?_) (fun D c pre W lD hSp hIx rD => ?_)
 ·skip
  refine Qbr ?_
  refine Qg3 (ints .u8 (List.replicate 64 0)) 164 14 rfl (QaR l 1 _) rfl kj kj fun g301 W1 l301 e1 r301_1 => ?_
  have x1 : Ext W W1 := Ext.tr (Rely.Ext.refl W) e1
  have b301 : W.heap.size ≤ g301 := Nat.le_trans (Rely.Ext.refl W).size l301
  refine Qee g301 _ (ints .u8 (Qbk (QaQ key nonce) (number + ((x : Nat) : Int)))) 164 r301_1 rfl (QaR l 1 _) rfl kj (Qam 164 _ _ g301 164 _ _ r301_1 rfl kj kj (isz (n := 64) kj ((Qaf _ _).trans (Qb7 _ _))) (eqsz (n := 64) ((Qaf _ _).trans (List.length_replicate (n := 64))) ((Qaf _ _).trans (Qb7 _ _))) (Qay _ _)) fun W2 p2 r301_2 => ?_
  have x2 : Ext W W2 := Puts.ext p2 x1 b301
  refine Qcw ?_
  have y0_1 : Ext W W1 := (Rely.Ext.trans (Rely.Ext.refl W) e1)
  have y0_2 : Ext W W2 := (Puts.ext p2 y0_1 l301)
  exact hK _ _ l301 y0_2 r301_2
 ·skip
  obtain ⟨⟨q7, q12, qO, hml, hsz⟩, xx⟩ := hI
  replace qO := QaA qO (Qjn text (QaQ key nonce) number pre x text.length)
  have hl1 : (pre ++ [x]).length = pre.length + 1 := by simp
  have n147 : gP ≠ g5 := by have h1 := Qa8 r5_7; omega
  have n1412 : gP ≠ g14 := by have h1 := Qa8 r14_7; omega
  have n14O : gP ≠ g13 := by have h1 := Qa8 r13_7; omega
  refine wpIn_block ?_
  refine wpIn_seq_k fun K505 hK505 => ?_
  refine Qbr ?_
  refine Qb2 (.agg (ints .u8 (Qbk (QaQ key nonce) (number + ((x : Nat) : Int))))) 43 rfl (QaR l 1 _) rfl kj (Qas 164 _ gP 164 _ _ rP rfl kj kj (isz (n := 64) kj ((Qaf _ _).trans (Qb7 _ _)))) ?_
  refine Qb2 (.int .i64 0) 44 rfl (QaR l 1 _) rfl kj kj ?_
  refine Qcw ?_
  refine hK505 _ _ ?_
  refine wpIn_block ?_
  refine Qga (fun (s1 : Nat) => [(7, .pointer (some ⟨g5, 0, none⟩)), (12, .pointer (some ⟨g14, 0, none⟩)), (43, .agg (ints .u8 (Qbk (QaQ key nonce) (number + ((x : Nat) : Int))))), (44, .int .i64 ((s1 : Nat) : Int))]) (fun (s1 : Nat) W => (s1 ≤ 64) ∧ (64 * pre.length + s1 ≤ text.length) ∧ (W.heap[g14]? = some (.cells (#[.slice (some ⟨g13, 0, none⟩) (64 * pre.length + s1) text.length]) 33)) ∧ (W.heap[g13]? = some (.cells (ints .u8 (Qb9 (mxv text (QaQ key nonce) number (pg (pre ++ [x])) text.length) text.length (64 * pre.length + s1))) 5)) ∧ (Qar [g14, g13] Wr W) ∧ (Ext w W)) (fun (s1 : Nat) => 64 - s1) 0 ⟨rfl, rfl, rfl, rfl, trivial⟩ ⟨(Nat.zero_le _), (by omega), q12, qO, (Qar.refl [g14, g13] Wr), xx⟩ fun s1 X1 V1 hI1 => ?_
  obtain ⟨j, hs1⟩ : ∃ z, z = s1 := ⟨_, rfl⟩
  subst hs1
  obtain ⟨hj, hmj, q503_1, q501_1, kk1, xx1⟩ := hI1
  replace hj : j ≤ 64 := hj
  replace hmj : 64 * pre.length + j ≤ text.length := hmj
  replace q503_1 : V1.heap[g14]? = some (.cells (#[.slice (some ⟨g13, 0, none⟩) (64 * pre.length + j) text.length]) 33) := q503_1
  replace q501_1 : V1.heap[g13]? = some (.cells (ints .u8 (Qb9 (mxv text (QaQ key nonce) number (pg (pre ++ [x])) text.length) text.length (64 * pre.length + j))) 5) := q501_1
  replace kk1 : Qar [g14, g13] Wr V1 := kk1
  replace xx1 : Ext w V1 := xx1
  have q1 := kk1
  refine wpIn_seq_k fun K506 hK506 => ?_
  refine Qbr ?_
  refine Qb2 (.bool (decide (((j : Nat) : Int) < 64))) 45 rfl (QaR l 1 _) rfl kj kj ?_
  refine Qcw ?_
  refine hK506 _ _ ?_
  refine wpIn_seq_k fun K507 hK507 => ?_
  refine QcI (t := decide (((j : Nat) : Int) < 64)) kj (fun c508 => ?_) (fun c508 => ?_)
  ·skip
   have hlt45 : j < 64 := by have := of_decide_eq_true c508; omega
   refine wpIn_skip ?_
   refine hK507 _ _ ?_
   refine wpIn_seq_k fun K509 hK509 => ?_
   refine wpIn_block ?_
   refine wpIn_seq_k fun K510 hK510 => ?_
   refine Qbr ?_
   refine Qb2 (.int .u8 (nth (Qbk (QaQ key nonce) (number + ((x : Nat) : Int))) j)) 46 rfl (QaR l 1 _) rfl kj (Qau 164 _ _ .i64 .u8 (Qbk (QaQ key nonce) (number + ((x : Nat) : Int))) j 64 5 (nth (Qbk (QaQ key nonce) (number + ((x : Nat) : Int))) j) rfl kj kj kj kj kj (Qb7 _ _) (by omega) rfl) ?_
   refine Qb2 (.int .u8 (nth (Qbk (QaQ key nonce) (number + ((x : Nat) : Int))) j)) 16 rfl (QaR l 1 _) rfl kj kj ?_
   refine Qcw ?_
   refine hK510 _ _ ?_
   refine wpIn_seq_k fun K511 hK511 => ?_
   refine wpIn_seq_k fun K512 hK512 => ?_
   refine Qbr ?_
   refine Qb2 (.slice (some ⟨g13, 0, none⟩) (64 * pre.length + j) text.length) 47 rfl (QaR l 1 _) rfl kj (Qag 33 _ g14 0 33 _ (.slice (some ⟨g13, 0, none⟩) (64 * pre.length + j) text.length) _ q503_1 rfl kj kj kj) ?_
   refine Qb2 (.int .i64 ((64 * pre.length + j : Nat) : Int)) 48 rfl (QaR l 1 _) rfl kj kj ?_
   have r502_1 := (Qar.row q1 q7 (Qa5 nb712 (Qa5 nb7O QaT)))
   refine Qb2 (.slice a_t text.length c_t) 49 rfl (QaR l 1 _) rfl kj (Qag 33 _ g5 0 33 _ (.slice a_t text.length c_t) _ r502_1 rfl kj kj kj) ?_
   refine Qb2 (.int .i64 ((text.length : Nat) : Int)) 50 rfl (QaR l 1 _) rfl kj kj ?_
   refine Qb2 (.bool ((((64 * pre.length + j : Nat) : Int) == ((text.length : Nat) : Int)))) 51 rfl (QaR l 1 _) rfl kj kj ?_
   refine Qcw ?_
   refine hK512 _ _ ?_
   refine QcI (t := (((64 * pre.length + j : Nat) : Int) == ((text.length : Nat) : Int))) kj (fun c513 => ?_) (fun c513 => ?_)
   ·skip
    have hmn : 64 * pre.length + j = text.length := by have := eq_of_beq c513; omega
    refine wpIn_exit ?_
    repeat (first | with_reducible refine goX1 ?_ | with_reducible refine goXj (by decide) ?_)
    have hq12 := q503_1
    have hqO := q501_1
    rw [hmn] at hq12 hqO
    exact ⟨(QdQ q1 (fun c hc => by simp only [List.mem_cons, List.not_mem_nil, or_false] at hc; rcases hc with rfl | rfl; exact ⟨_, _, q12⟩; exact ⟨_, _, qO⟩)), ⟨rfl, by rw [hl1]; omega, hq12, hqO⟩, xx1⟩
   ·skip
    have hmn : 64 * pre.length + j < text.length := by
     rcases Nat.lt_or_ge (64 * pre.length + j) text.length with hh | hh
     ·exact hh
     ·exfalso; have e : (((64 * pre.length + j : Nat) : Int) == ((text.length : Nat) : Int)) = true := by rw [beq_iff_eq]; omega
      rw [e] at c513; cases c513
    obtain ⟨gt, ot, hat, -, hlt_, hct⟩ := QeB (RdK.ext ht xx1) (by omega)
    refine wpIn_skip ?_
    refine hK511 _ _ ?_
    refine QgX 9 [⟨none, [(12, none)]⟩, ⟨none, [(7, none)]⟩, ⟨none, [(12, none)]⟩, ⟨none, [(54, some 2)]⟩, ⟨none, [(53, some 1), (55, some 3)]⟩, ⟨none, [(56, some 4)]⟩, ⟨none, [(16, none)]⟩, ⟨none, [(57, some 5), (58, some 6)]⟩, ⟨none, [(59, some 7)]⟩] (QaR l 1 _) rfl kj kj fun F hF => ?_
    refine QbG (Qav _) (.slice (some ⟨g13, 0, none⟩) (64 * pre.length + j) text.length) kj kj (fun W hR => (Qag 33 _ g14 0 33 _ (.slice (some ⟨g13, 0, none⟩) (64 * pre.length + j) text.length) _ (Qad (Qad q503_1 (Qak _)) hR) rfl kj kj kj)) ?_
    refine QbG (Qav _) (.slice a_t text.length c_t) kj kj (fun W hR => (Qag 33 _ g5 0 33 _ (.slice a_t text.length c_t) _ (Qad (Qad r502_1 (Qak _)) hR) rfl kj kj kj)) ?_
    refine QbG (Qav _) (.slice (some ⟨g13, 0, none⟩) (64 * pre.length + j) text.length) kj kj (fun W hR => (Qag 33 _ g14 0 33 _ (.slice (some ⟨g13, 0, none⟩) (64 * pre.length + j) text.length) _ (Qad (Qad q503_1 (Qak _)) hR) rfl kj kj kj)) ?_
    refine QaB (Qav _) (.int .i64 ((64 * pre.length + j : Nat) : Int)) kj kj (fun W => by kernel_rfl) ?_
    refine QaB (Qav _) (.pointer (some ⟨gt, ot + (64 * pre.length + j), none⟩)) kj kj (fun W => (QcY 33 _ _ .i64 (64 * pre.length + j) gt ot text.length c_t 5 a_t _ hat rfl rfl kj kj kj kj (Nat.lt_of_lt_of_eq (show 64 * pre.length + j < text.length by omega) (rfl : text.length = text.length).symm))) ?_
    refine QbG (Qav _) (.int .u8 (nth (text) ((64 * pre.length + j)))) kj kj (fun W hR => (Qbl 5 _ _ (.int .u8 (nth (text) ((64 * pre.length + j)))) ((Below.cell (Rely.Ext.trans (Qak _) hR) hlt_).trans (hct (64 * pre.length + j) (Nat.lt_of_lt_of_eq (show 64 * pre.length + j < text.length by omega) (rfl : text.length = text.length).symm))) rfl kj kj)) ?_
    refine QaB (Qav _) (.int .u8 (nth (Qbk (QaQ key nonce) (number + ((x : Nat) : Int))) j)) kj kj (fun W => by kernel_rfl) ?_
    refine QaB (Qav _) (.int .u8 (bits .xor .u8 ((nth (text) ((64 * pre.length + j)))) ((nth (Qbk (QaQ key nonce) (number + ((x : Nat) : Int))) j)))) kj kj (fun W => by kernel_rfl) ?_
    refine QiX (Qav _) (ints .u8 ([(bits .xor .u8 ((nth (text) ((64 * pre.length + j)))) ((nth (Qbk (QaQ key nonce) (number + ((x : Nat) : Int))) j)))])) 5 1 (NewS.stable _ _ _ _) kj kj (fun W => by kernel_rfl) ?_
    refine QcU (hF _ fun W2 e2 => ?_)
    simp only [List.nil_append, List.cons_append, List.take_succ_cons, List.take_zero, List.drop_succ_cons, List.drop_zero, finE, up]
    intro vv514 hv514
    clear hF
    have x2 : Ext w W2 := Ext.tr xx1 e2
    obtain ⟨g514, rfl, l514, r514_2⟩ := hv514
    have b514 : w.heap.size ≤ g514 := Nat.le_trans xx1.size l514
    have r501_2 := (Qad q501_1 e2)
    refine Qju (.slice (some ⟨g13, 0, none⟩) (64 * pre.length + j + 1) text.length) 61 rfl (QaR l 1 _) rfl kj r501_2 (Qfw (k := .u8) (b := 1) (.tmp 52) (.tmp 60) 33 rfl kj kj kj kj r501_2 (Qcn _ _ _ (Qdo _ _ _ _ _) (by omega)) (by omega) r514_2) fun W3 p3 r501_3 => ?_
    have x3 : Ext w W3 := Puts.ext p3 x2 b13
    have r501_3_515 : W3.heap[g13]? = some (.cells (ints .u8 (Qb9 (mxv text (QaQ key nonce) number (pg (pre ++ [x])) text.length) text.length (64 * pre.length + (j + 1)))) 5) := QaA r501_3 (by rw [← QjW text (QaQ key nonce) number pre x text.length j hlt45 hmn]; exact Qca _ text.length (64 * pre.length + j) (Qdo _ _ _ _ _) hmn)
    have r503_2 := (Qad q503_1 e2)
    have r503_3 := (Puts.row p3 r503_2 nb12O)
    refine Qee g14 _ (#[.slice (some ⟨g13, 0, none⟩) (64 * pre.length + j + 1) text.length]) 33 r503_3 rfl (QaR l 1 _) rfl kj (Qby 33 _ _ g14 0 33 _ (.slice (some ⟨g13, 0, none⟩) (64 * pre.length + j + 1) text.length) r503_3 rfl kj kj kj kj kj rfl) fun W4 p4 r503_4 => ?_
    have x4 : Ext w W4 := Puts.ext p4 x3 b14
    refine Qcw ?_
    refine hK509 _ _ ?_
    refine Qbr ?_
    refine Qb2 (.int .i64 ((j + 1 : Nat) : Int)) 62 rfl (QaR l 1 _) rfl kj (Qal (u := .int .i64 (IntKind.i64.wrap (((j : Nat) : Int) + 1))) kj (congrArg (Value.int .i64) (i64n _ _ (by omega) (by omega)))) ?_
    refine Qb2 (.int .i64 ((j + 1 : Nat) : Int)) 44 rfl (QaR l 1 _) rfl kj kj ?_
    refine Qcw ?_
    have r501_4 := (Puts.row p4 r501_3_515 nbO12)
    repeat (first | with_reducible refine goX1 ?_ | with_reducible refine goX2 ?_ | with_reducible refine goX3 ?_)
    exact QaI (j + 1) ⟨rfl, rfl, rfl, rfl, trivial⟩ ⟨(by omega), (by omega), r503_4, r501_4, (Qar.puts (Qar.puts (Qar.step q1 e2) p3 (.inl (by simp))) p4 (.inl (by simp))), x4⟩ (by show 64 - (j + 1) < 64 - j; omega)
  ·skip
   have heq45 : j = 64 := by have := of_decide_eq_false c508; omega
   refine wpIn_exit ?_
   subst heq45
   repeat (first | with_reducible refine goX1 ?_ | with_reducible refine goX2 ?_ | with_reducible refine goX3 ?_)
   have r502_1 := (Qar.row q1 q7 (Qa5 nb712 (Qa5 nb7O QaT)))
   exact ⟨(QdQ q1 (fun c hc => by simp only [List.mem_cons, List.not_mem_nil, or_false] at hc; rcases hc with rfl | rfl; exact ⟨_, _, q12⟩; exact ⟨_, _, qO⟩)), (Qb5.keeps q1), ⟨r502_1, by rw [hl1, Nat.mul_add]; exact q503_1, by rw [hl1, Nat.mul_add]; exact q501_1, by rw [hl1]; omega, Nat.le_trans hsz (Nat.le_trans (Nat.le_refl _) (Qar.size q1))⟩, xx1⟩
 ·obtain ⟨⟨-, q12, qO, hml, -⟩, xx⟩ := hI
  subst hS
  rw [List.length_range] at q12 qO hml
  have hge : text.length ≤ 64 * r := by omega
  have hee : 64 * r = text.length := by omega
  rw [hee] at q12 qO
  have qO2 := QaA (QaA qO (QbN _ _ (Qdo _ _ _ _ _))) (Qh7 text (QaQ key nonce) number r hge)
  have bD : w.heap.size ≤ D := Nat.le_trans x7.size lD
  refine hK16 _ _ ?_
  refine wp_seq_k fun K20 hK20 => ?_
  refine Qab ?_
  refine Qaa (.slice (some ⟨g13, 0, none⟩) text.length text.length) 63 rfl kj (Qag 33 _ g14 0 33 _ (.slice (some ⟨g13, 0, none⟩) text.length text.length) _ q12 rfl kj kj kj) ?_
  refine Qaa (.slice (some ⟨g13, 0, none⟩) text.length text.length) 8 rfl kj kj ?_
  refine Qaa (.nilIface) 9 rfl kj kj ?_
  refine Qac ?_
  refine hK20 _ _ ?_
  refine wp_ret ?_
  repeat (first | with_reducible refine goR1 ?_ | with_reducible refine goR2 ?_)
  exact (show bodyPostM _ _ _ _ _ .ret _ _ from Qjf (.slice (some ⟨g13, 0, none⟩) text.length text.length) (.nilIface) rfl rD (Qa9 kj) (Qa9 kj) ⟨_, rfl, QeX xx bD rD _, _, rfl, Qci (QbE _ _ _) b13 (QeW qO2 rD _) (by simp only [maxLen]; omega)⟩)
 ·obtain ⟨⟨rfl, hge, q12, qO⟩, xx⟩ := hIx
  obtain ⟨kR, rfl, -⟩ := hSp
  rw [List.length_range] at hge
  have qO2 := QaA (QaA qO (QbN _ _ (Qdo _ _ _ _ _))) (Qh7 text (QaQ key nonce) number kR hge)
  have bD : w.heap.size ≤ D := Nat.le_trans x7.size lD
  refine wp_exit ?_
  refine hK16 _ _ ?_
  refine wp_seq_k fun K22 hK22 => ?_
  refine Qab ?_
  refine Qaa (.slice (some ⟨g13, 0, none⟩) text.length text.length) 63 rfl kj (Qag 33 _ g14 0 33 _ (.slice (some ⟨g13, 0, none⟩) text.length text.length) _ q12 rfl kj kj kj) ?_
  refine Qaa (.slice (some ⟨g13, 0, none⟩) text.length text.length) 8 rfl kj kj ?_
  refine Qaa (.nilIface) 9 rfl kj kj ?_
  refine Qac ?_
  refine hK22 _ _ ?_
  refine wp_ret ?_
  repeat (first | with_reducible refine goR1 ?_ | with_reducible refine goR2 ?_)
  exact (show bodyPostM _ _ _ _ _ .ret _ _ from Qjf (.slice (some ⟨g13, 0, none⟩) text.length text.length) (.nilIface) rfl rD (Qa9 kj) (Qa9 kj) ⟨_, rfl, QeX xx bD rD _, _, rfl, Qci (QbE _ _ _) b13 (QeW qO2 rD _) (by simp only [maxLen]; omega)⟩)
end Go.Proofs.YtoiendjhplbjjaaDoor.Cha
end
section
namespace Go.Proofs.YtoiendjhplbjjaaDoor.Sha
open Go Go.RowKit
open Rely Auto Own
set_option linter.unusedVariables false
set_option linter.unusedSimpArgs false
section
variable {P : Program} {ρ : Operand → Value} {o : Oper} {w : World}
theorem Qe9 (t : TypeId) (x z : Operand) (h : Nat) (e : TypeId) (ho : o.op = .slice t x none (some z) none) {a : Option Addr} {len cap : Nat} (hx : ρ x = .slice a len cap)
    (hu : P.underlying t = some (.slice e)) (hs : (P.info? e).map (·.size) = some 1) (kz : IntKind) (hz : ρ z = .int kz (h : Int)) (h2 : h ≤ cap) :
    (execOp ρ o).run P w = .ok (.value (.slice a h cap)) w := by
  cases hq : P.info? e with
  | none => simp [hq] at hs
  | some i =>
    have hs' : i.size = 1 := by simpa [hq] using hs
    unfold execOp
    have hadd : ∀ a : Option Addr, Option.map (fun x => x.add 0) a = a := fun a => by
      cases a with
      | none => rfl
      | some a => obtain ⟨b, o, s⟩ := a; cases s <;> simp [Addr.add]
    simp [ho, hx, hz, Instr.sliceAt, Instr.slice, Instr.sliceBounds, run_sliceBound, run_underlying hu, sizeOf, typeInfo, hq, hs', h2, hadd]
end
section
variable {ds : List Deferred} {P : Program} {ops : Array Oper} {Q : Exit → Act → World → Prop} {rest : List Oper} {o : Oper} {N : Nat} {L : Env} {w : World}
end
def Qid (T : TypeId) (base : Nat) (t : List Int) (v : Value) (W : World) : Prop := ∃ g c, v = .slice (some ⟨g, 0, none⟩) t.length c ∧ OwnN .u8 T base (t ++ [165, 90]) (.slice (some ⟨g, 0, none⟩) (t ++ [165, 90]).length c) W
theorem Qid.ext {T : TypeId} {base : Nat} {t : List Int} {v : Value} {W W' : World} (h : Qid T base t v W) (e : Ext W W') : Qid T base t v W' := by
  obtain ⟨g, c, rfl, h2⟩ := h
  exact ⟨g, c, rfl, h2.ext e⟩
theorem Qid.rd {T : TypeId} {base : Nat} {t : List Int} {v : Value} {W : World} (h : Qid T base t v W) : RdK .u8 W.heap.size t v W := by
  obtain ⟨g, c, rfl, h2⟩ := h
  obtain ⟨a, cap, e, q2, q3, q4, q5⟩ := OwnN.rd h2
  simp only [Value.slice.injEq] at e
  obtain ⟨rfl, -, rfl⟩ := e
  rw [List.length_append] at q2
  refine ⟨_, _, rfl, by omega, q3, q4, .inr ?_⟩
  rcases q5 with q5 | ⟨g', o, e1, e2, e3, e4⟩
  · simp at q5
  · refine ⟨g', o, e1, e2, e3, fun i hi => ?_⟩
    rw [e4 i (by rw [List.length_append]; omega)]
    simp [nth, List.getElem?_append_left hi]
set_option maxHeartbeats 4000000 in
theorem Qk6 (x y : Value) (xs ys : List Int) (w : World) (hx : Qcq w x xs) (hy : Qcq w y ys) : Calls Tryd.prog 26 #[x, y] w (Ret w (.bool (decide (xs = ys)))) := by
  have hse : ((Qdj xs).toList == (Qdj ys).toList) = decide (xs = ys) := by
    obtain ⟨_, _, _, _, bx, _⟩ := hx
    obtain ⟨_, _, _, _, by', _⟩ := hy
    exact Qhl bx by'
  refine enter 10 [(0, x), (1, y)] Tryd.func26 rfl rfl kj rfl ?_
  refine wp_seq_k fun K1 hK1 => ?_
  refine Qab ?_
  refine Qaa (.bool false) 4 rfl kj kj ?_
  refine Qac ?_
  refine hK1 _ _ ?_
  refine wp_seq_k fun K2 hK2 => ?_
  refine Qab ?_
  refine Qaa (x) 5 rfl kj kj ?_
  refine Qaa (.string (Qdj xs)) 6 rfl kj (Qeo _ x rfl kj xs hx) ?_
  refine Qaa (y) 7 rfl kj kj ?_
  refine Qaa (.string (Qdj ys)) 8 rfl kj (Qeo _ y rfl kj ys hy) ?_
  refine Qaa (.bool (decide (xs = ys))) 9 rfl kj (Qal (u := .bool ((Qdj xs).toList == (Qdj ys).toList)) kj (congrArg Value.bool hse)) ?_
  refine Qaa (.bool (decide (xs = ys))) 4 rfl kj kj ?_
  refine Qac ?_
  refine hK2 _ _ ?_
  refine wp_ret ?_
  repeat (first | with_reducible refine goR1 ?_ | with_reducible refine goR2 ?_)
  exact (show bodyPost _ _ _ .ret _ _ from ret1 (.bool (decide (xs = ys))) rfl (Qa9 kj) ⟨rfl, (Rely.Ext.refl w)⟩)
theorem Qk5 (x y : Value) (xs ys : List Int) (w : World) (e : xs = ys) (hx : Qcq w x xs) (hy : Qcq w y ys) : Calls Tryd.prog 26 #[x, y] w (Ret w (.bool true)) := by
  have h := Qk6 x y xs ys w hx hy
  rw [decide_eq_true e] at h
  exact h
def Qdl (a : Option Addr) (c l : Nat) : Option Addr := if c = l then a else a.map fun z => z.add l
theorem QdA {P : Program} {ρ : Operand → Value} {o : Oper} {w : World} (t : TypeId) (x z : Operand) (l : Nat) (e : TypeId) (ho : o.op = .slice t x (some z) none none) {a : Option Addr} {len cap : Nat} (hx : ρ x = .slice a len cap)
    (hu : P.underlying t = some (.slice e)) (hs : (P.info? e).map (·.size) = some 1) (kz : IntKind) (hz : ρ z = .int kz (l : Int)) (h1 : l ≤ len) (h2 : len ≤ cap) :
    (execOp ρ o).run P w = .ok (.value (.slice (Qdl a cap l) (len - l) (cap - l))) w := by
  cases hq : P.info? e with
  | none => simp [hq] at hs
  | some i =>
    have hs' : i.size = 1 := by simpa [hq] using hs
    unfold execOp Qdl
    have hadd : ∀ a : Option Addr, Option.map (fun x => x.add 0) a = a := fun a => by
      cases a with
      | none => rfl
      | some a => obtain ⟨b, o, s⟩ := a; cases s <;> simp [Addr.add]
    by_cases hc : cap = l
    · simp [ho, hx, hz, Instr.sliceAt, Instr.slice, Instr.sliceBounds, run_sliceBound, run_underlying hu, sizeOf, typeInfo, hq, hs', h1, h2, hadd, hc]
    · simp [ho, hx, hz, Instr.sliceAt, Instr.slice, Instr.sliceBounds, run_sliceBound, run_underlying hu, sizeOf, typeInfo, hq, hs', h1, h2, hadd, hc]
theorem QeV {k : IntKind} {B n c : Nat} {ys : List Int} {a : Option Addr} {W : World} (h : RdK k B ys (.slice a n c) W) (l : Nat) (hl : l ≤ ys.length) : RdK k B (ys.drop l) (.slice (Qdl a c l) (n - l) (c - l)) W := by
  obtain ⟨a', cap, e, h2, h3, h4, h5⟩ := h
  simp only [Value.slice.injEq] at e
  obtain ⟨rfl, rfl, rfl⟩ := e
  refine ⟨_, _, by rw [List.length_drop], by rw [List.length_drop]; omega, by omega, ?_, ?_⟩
  · intro e
    unfold Qdl at e
    split at e
    · omega
    · have := h4 (by cases a <;> simp_all); omega
  · rcases h5 with h5 | ⟨g, o, rfl, q2, q3, q4⟩
    · left; rw [h5]; simp
    · rcases Nat.lt_or_ge l ys.length with hlt | hge
      · right
        refine ⟨g, o + l, ?_, q2, q3, fun i hi => ?_⟩
        · unfold Qdl
          rw [if_neg (by omega), Option.map_some]
          simp [Addr.add]
        · rw [List.length_drop] at hi
          rw [Nat.add_assoc, q4 (l + i) (by omega)]
          simp [nth]
      · left; exact List.drop_of_length_le hge
theorem Qgp {k : IntKind} {B n c : Nat} {ys : List Int} {a : Option Addr} {W : World} (h : RdK k B ys (.slice a n c) W) (l : Nat) (hl : l ≤ ys.length) : RdK k B (ys.take l) (.slice a l c) W := by
  obtain ⟨a', cap, e, h2, h3, h4, h5⟩ := h
  simp only [Value.slice.injEq] at e
  obtain ⟨rfl, rfl, rfl⟩ := e
  have hlen : (ys.take l).length = l := by rw [List.length_take]; omega
  refine ⟨_, _, by rw [hlen], by omega, h3, h4, ?_⟩
  rcases h5 with rfl | ⟨g, off, rfl, q2, q3, q4⟩
  · exact .inl (by simp)
  · refine .inr ⟨g, off, rfl, q2, q3, fun i hi => ?_⟩
    rw [hlen] at hi
    rw [q4 i (by omega)]
    simp [nth, List.getElem?_take, hi]
end Go.Proofs.YtoiendjhplbjjaaDoor.Sha
end
section
namespace Go.Proofs.YtoiendjhplbjjaaDoor.Cha
open Go Go.RowKit
open Rely Auto Own Sha
set_option linter.unusedVariables false
set_option linter.unusedSimpArgs false
open Sha
theorem QhY (x y : Int) : bits .xor .u8 x y = (((BitVec.ofInt 8 x) ^^^ (BitVec.ofInt 8 y)).toNat : Int) := by
  have h : bits .xor .u8 x y = IntKind.u8.wrap (((BitVec.ofInt 8 x) ^^^ (BitVec.ofInt 8 y)).toNat : Int) := rfl
  have h3 : ∀ z : Int, IntKind.u8.wrap z = z % 256 := fun _ => rfl
  rw [h, h3]
  have := ((BitVec.ofInt 8 x) ^^^ (BitVec.ofInt 8 y)).isLt
  omega
theorem QdI (a b : Int) (h0 : 0 ≤ a) (h1 : a ≤ 255) : bits .xor .u8 (bits .xor .u8 a b) b = a := by
  rw [QhY, QhY]
  have e : BitVec.ofInt 8 (((BitVec.ofInt 8 a) ^^^ (BitVec.ofInt 8 b)).toNat : Int) = (BitVec.ofInt 8 a) ^^^ (BitVec.ofInt 8 b) := by
    apply BitVec.eq_of_toNat_eq
    rw [BitVec.toNat_ofInt]
    have := ((BitVec.ofInt 8 a) ^^^ (BitVec.ofInt 8 b)).isLt
    omega
  rw [e, BitVec.xor_assoc, BitVec.xor_self, BitVec.xor_zero, BitVec.toNat_ofInt]
  omega
theorem QeG (ws : List Wd) (num : Int) (text : List Int) : Qaj (mixV ws num text) := fun n hn => by
  unfold mixV mxv at hn
  obtain ⟨i, -, rfl⟩ := List.mem_map.1 hn
  rw [QhY]
  have := ((BitVec.ofInt 8 (nth text i)) ^^^ (BitVec.ofInt 8 (nth (Qbk ws (num + ((id (i / 64) : Nat) : Int))) (i % 64)))).isLt
  omega
theorem Qg0 (ws : List Wd) (num : Int) (text : List Int) (i : Nat) (h : i < text.length) : nth (mixV ws num text) i = bits .xor .u8 (nth text i) (nth (Qbk ws (num + ((i / 64 : Nat) : Int))) (i % 64)) := Qh6 text ws num id text.length i h
theorem Qjm {xs ys : List Int} (hl : xs.length = ys.length) (h : ∀ i, i < xs.length → nth xs i = nth ys i) : xs = ys := by
  apply List.ext_getElem? 
  intro i
  rcases Nat.lt_or_ge i xs.length with hi | hi
  · have h1 := h i hi
    unfold nth at h1
    rw [List.getD_eq_getElem?_getD, List.getD_eq_getElem?_getD, List.getElem?_eq_getElem hi, List.getElem?_eq_getElem (by omega)] at h1
    rw [List.getElem?_eq_getElem hi, List.getElem?_eq_getElem (by omega)]
    exact congrArg some h1
  · rw [List.getElem?_eq_none hi, List.getElem?_eq_none (by omega)]
theorem Qjq (ws : List Wd) (num : Int) (text : List Int) (hb : Qaj text) : mixV ws num (mixV ws num text) = text := by
  refine Qjm (by rw [QbE, QbE]) fun i hi => ?_
  rw [QbE, QbE] at hi
  rw [Qg0 _ _ _ _ (by rw [QbE]; exact hi), Qg0 _ _ _ _ hi]
  have h := Qbb hb i
  exact QdI _ _ (by omega) (by omega)
theorem Qfb (xs : List Int) (k i : Nat) (h : i < k) : nth (xs.take k) i = nth xs i := by
  unfold nth; rw [List.getD_eq_getElem?_getD, List.getD_eq_getElem?_getD, List.getElem?_take, if_pos h]
theorem Qgw (xs : List Int) (k i : Nat) : nth (xs.drop k) i = nth xs (k + i) := by
  unfold nth; rw [List.getD_eq_getElem?_getD, List.getD_eq_getElem?_getD, List.getElem?_drop]
def MixR (base : Nat) (xs : List Int) : Value → World → Prop := fun v W => ∃ u, v = .tuple #[u, .nilIface] ∧ OwnN .u8 5 base xs u W
theorem QcH (base : Nat) (xs : List Int) : QbA Ext (MixR base xs) := fun _ _ _ hR ⟨u, e, h⟩ => ⟨u, e, h.ext hR⟩
theorem MixG (n0 : Nat) (key nonce text : List Int) (v v2 : Value) (B B2 : Nat) (number : Int) (th tq : TypeId) (w : World) (hh : w.heap[2]? = some (.cells (ints .u32 [1634760805, 857760878, 2036477234, 1797285236]) th)) (hq : w.heap[3]? = some (.cells (ints .i64 [0, 4, 8, 12, 1, 5, 9, 13, 2, 6, 10, 14, 3, 7, 11, 15, 0, 5, 10, 15, 1, 6, 11, 12, 2, 7, 8, 13, 3, 4, 9, 14]) tq)) (hkl : key.length = 32) (hn : RdK .u8 B nonce v w) (ht : RdK .u8 B2 text v2 w) (h : nonce.length = 12) (r : Nat) (hr : number + (r : Int) = 4294967296) (h1 : 0 ≤ number) (h2 : number ≤ 4294967295) (hfit : text.length ≤ 64 * r) (htl : text.length ≤ 2000000) (hn0 : n0 ≤ w.heap.size) :
    Calls Tryd.prog 103 #[.agg (ints .u8 key), v, .int .i64 number, v2] w (QbT w (MixR n0 (mixV (QaQ key nonce) number text))) :=
  (QkI key nonce text v v2 B B2 number th tq w hh hq hkl hn ht h r hr h1 h2 hfit htl).mono fun e W' hg => by
    obtain ⟨v', e1, e2, u, e3, e4⟩ := hg
    exact ⟨v', e1, e2, u, e3, e4.base hn0⟩
end Go.Proofs.YtoiendjhplbjjaaDoor.Cha
end
section
namespace Go.Proofs.YtoiendjhplbjjaaDoor.Ae
open Go Go.RowKit
open Rely Auto Own Sha Cha
set_option linter.unusedVariables false
set_option linter.unusedSimpArgs false
def lev : List Int → Int
  | [] => 0
  | a :: t => a + 256 * lev t
def p256 (n : Nat) : Int := 256 ^ n
theorem QiP : p256 0 = 1 := rfl
theorem Qdv (n : Nat) : p256 (n + 1) = 256 * p256 n := by unfold p256; rw [Int.pow_succ, Int.mul_comm]
theorem Qdb (m n : Nat) : p256 (m + n) = p256 m * p256 n := by unfold p256; rw [Int.pow_add]
theorem QcG (n : Nat) : 0 < p256 n := Int.pow_pos (by decide)
theorem Qfd : ∀ (xs : List Int) (x : Int), lev (xs ++ [x]) = lev xs + x * p256 xs.length
  | [], x => by simp [lev, QiP]
  | a :: t, x => by
    rw [List.cons_append, lev, Qfd t x, lev, List.length_cons, Qdv]
    grind
theorem Qc4 : ∀ {xs : List Int}, Qaj xs → 0 ≤ lev xs
  | [], _ => by simp [lev]
  | a :: t, h => by
    have h1 := h a (List.mem_cons_self ..)
    have h2 := Qc4 (xs := t) fun x hx => h x (List.mem_cons_of_mem _ hx)
    rw [lev]; omega
theorem QfC : ∀ {xs : List Int}, Qaj xs → lev xs < p256 xs.length
  | [], _ => by simp [lev, QiP]
  | a :: t, h => by
    have h1 := h a (List.mem_cons_self ..)
    have h2 := QfC (xs := t) fun x hx => h x (List.mem_cons_of_mem _ hx)
    rw [lev, List.length_cons, Qdv]; omega
theorem Qdx (xs : List Int) (i : Nat) (h : i < xs.length) : lev (xs.take (i + 1)) = lev (xs.take i) + nth xs i * p256 i := by
  have e : xs.take (i + 1) = xs.take i ++ [nth xs i] := by
    rw [List.take_add_one, List.getElem?_eq_getElem h]
    simp [nth, h]
  rw [e, Qfd, List.length_take, Nat.min_eq_left (by omega)]
theorem bytes_app {a b : List Int} (ha : Qaj a) (hb : Qaj b) : Qaj (a ++ b) := fun x hx => by
  rcases List.mem_append.1 hx with h | h
  · exact ha x h
  · exact hb x h
theorem QaW {a : List Int} (ha : Qaj a) (n : Nat) : Qaj (a.take n) := fun x hx => ha x (List.mem_of_mem_take hx)
theorem Qb0 {a : List Int} (ha : Qaj a) (n : Nat) : Qaj (a.drop n) := fun x hx => ha x (List.mem_of_mem_drop hx)
theorem QbB {a : List Int} (ha : Qaj a) (n : Nat) {x : Int} (h0 : 0 ≤ x) (h1 : x ≤ 255) : Qaj (a.set n x) := fun y hy => by
  rcases List.mem_or_eq_of_mem_set hy with h | h
  · exact ha y h
  · subst h; exact ⟨h0, h1⟩
def PP : Int := 1361129467683753853853498429727072845819
def QcS (r : Int) (t : List Int) : Nat → Int
  | 0 => 0
  | n + 1 => (QcS r t n + lev (((t.drop (16 * n)).take 16) ++ [1])) * r % PP
def Qdn (r : Int) (t : List Int) : Int := QcS r t ((t.length + 15) / 16)
def by16 (v : Int) : List Int := (List.range 16).map fun i => v / p256 i % 256
def tagV (r s : Int) (t : List Int) : List Int := by16 (Qdn r t + s)
theorem QaN (v : Int) : (by16 v).length = 16 := by simp [by16]
theorem Qha (v : Int) : Qaj (by16 v) := fun x hx => by
  obtain ⟨i, -, rfl⟩ := List.mem_map.1 hx
  omega
theorem QiD (v : Int) (i : Nat) (h : i < 16) : nth (by16 v) i = v / p256 i % 256 := by
  unfold nth by16
  rw [List.getD_eq_getElem?_getD, List.getElem?_map, List.getElem?_range h]; rfl
end Go.Proofs.YtoiendjhplbjjaaDoor.Ae
end
section
namespace Go.Proofs.YtoiendjhplbjjaaDoor.Ae
open Go Go.RowKit
open Rely Auto Own Sha
set_option linter.unusedVariables false
set_option linter.unusedSimpArgs false
open Sha Cha
theorem Qem (b : List Int) (i : Nat) (h : i < b.length) : b.take (i + 1) = b.take i ++ [nth b i] := by
  rw [List.take_add_one, List.getElem?_eq_getElem h]
  simp [nth, h]
end Go.Proofs.YtoiendjhplbjjaaDoor.Ae
end
section
namespace Go.Proofs.YtoiendjhplbjjaaDoor.Ae
open Go Go.RowKit
open Rely Auto Own Sha
set_option linter.unusedVariables false
set_option linter.unusedSimpArgs false
open Sha Cha
end Go.Proofs.YtoiendjhplbjjaaDoor.Ae
end
section
namespace Go.Proofs.YtoiendjhplbjjaaDoor.Ae
open Go Go.RowKit
open Rely Auto Own Sha
set_option linter.unusedVariables false
set_option linter.unusedSimpArgs false
open Sha Cha
theorem p16 : p256 16 = 340282366920938463463374607431768211456 := by decide +kernel
end Go.Proofs.YtoiendjhplbjjaaDoor.Ae
end
section
namespace Go.Proofs.YtoiendjhplbjjaaDoor.Ae
open Go Go.RowKit
open Rely Auto Own Sha
set_option linter.unusedVariables false
set_option linter.unusedSimpArgs false
open Sha Cha
theorem Qhx {k : IntKind} {T : TypeId} {g n l h : Nat} {xs : List Int} {W : World} (hn : xs.length = n) (r : W.heap[g]? = some (.cells (ints k xs) T)) (h1 : l ≤ h) (h2 : h ≤ n) (h3 : n ≤ maxLen) : RdK k W.heap.size ((xs.drop l).take (h - l)) (.slice (some ⟨g, l, none⟩) (h - l) (n - l)) W :=
  Qdm l (by rw [List.length_take, List.length_drop]; omega) r (fun i hi => by rw [Qfb _ _ _ hi, Qgw]; exact Qa1 k xs (l + i) (by omega)) (Qa8 r) (by omega) (by omega)
def QdU (b : List Int) : List Int :=
  let b1 := b.set 3 (nth b 3 % 16)
  let b2 := b1.set 7 (nth b1 7 % 16)
  let b3 := b2.set 11 (nth b2 11 % 16)
  let b4 := b3.set 15 (nth b3 15 % 16)
  let b5 := b4.set 4 (nth b4 4 / 4 * 4)
  let b6 := b5.set 8 (nth b5 8 / 4 * 4)
  b6.set 12 (nth b6 12 / 4 * 4)
def rOf (key : List Int) : Int := lev (QdU ((key.drop 0).take (16 - 0)))
def sOf (key : List Int) : Int := lev ((key.drop 16).take (32 - 16))
theorem Qe7 {x c r q y : Int} (h : x % PP = q) (hy : y % PP = (x + c) * r % PP) : y % PP = (q + c) * r % PP := by
  rw [hy, ← h, Int.mul_emod (x + c), Int.add_emod x c, Int.mul_emod (x % PP + c), Int.add_emod (x % PP) c, Int.emod_emod_of_dvd x (Int.dvd_refl PP)]
end Go.Proofs.YtoiendjhplbjjaaDoor.Ae
end
section
namespace Go.Proofs.YtoiendjhplbjjaaDoor.Ae
open Go Go.RowKit
open Rely Auto Own Sha
set_option linter.unusedVariables false
set_option linter.unusedSimpArgs false
open Sha Cha
def isW (x : Int) : Prop := 0 ≤ x ∧ x < 18446744073709551616
theorem Qco (x y c : Int) (hx : isW x) (hy : isW y) (hc : 0 ≤ c ∧ c ≤ 1) :
    ∃ s d : Int, isW s ∧ (0 ≤ d ∧ d ≤ 1) ∧ s + 18446744073709551616 * d = x + y + c ∧
      ∀ W, (callFunc 166 #[.int .u64 x, .int .u64 y, .int .u64 c]).run Tryd.prog W = .ok (.value (.tuple #[.int .u64 s, .int .u64 d])) W := by
  unfold isW at hx hy
  refine ⟨(x + y + c) % 18446744073709551616, (x + y + c) / 18446744073709551616, ⟨by omega, by omega⟩, by omega, by omega, fun W => ?_⟩
  rw [run_callFunc_extern Tryd.func166 kj kj kj (e := add64Entry) kj, run_add64 x y c hx.1 hy.1 hc.1 hc.2]
  rfl
theorem maskN (a : Int) (h : isW a) : bits .and .u64 a 4294967295 = a % 4294967296 := by
  obtain ⟨A, rfl⟩ := Int.eq_ofNat_of_zero_le h.1
  have h := bits_and_u64_nat A 4294967295 (by have := h.2; omega) (by omega)
  have e : A &&& 4294967295 = A % 4294967296 := Nat.and_two_pow_sub_one_eq_mod A 32
  rw [e] at h
  exact h
theorem QiI (a : Int) (h : isW a) : IntKind.u64.wrap a = a := by rw [IntKind.wrap_u64]; have := h.1; have := h.2; omega
theorem Qh9 (x y : Int) (hx : isW x) (hy : isW y) :
    ∃ hi lo : Int, isW hi ∧ isW lo ∧ lo + 18446744073709551616 * hi = x * y ∧ ∀ w, Calls Tryd.prog 169 #[.int .u64 x, .int .u64 y] w (fun e w' => e = .returned (.tuple #[.int .u64 hi, .int .u64 lo]) ∧ w' = w) := by
  obtain ⟨X, rfl⟩ := Int.eq_ofNat_of_zero_le hx.1
  obtain ⟨Y, rfl⟩ := Int.eq_ofNat_of_zero_le hy.1
  have hX : X < 18446744073709551616 := by have := hx.2; omega
  have hY : Y < 18446744073709551616 := by have := hy.2; omega
  have hXY : X * Y < 18446744073709551616 * 18446744073709551616 := Nat.mul_lt_mul'' hX hY
  refine ⟨((X * Y / 18446744073709551616 : Nat) : Int), ((X * Y % 18446744073709551616 : Nat) : Int), ⟨by omega, by omega⟩, ⟨by omega, by omega⟩, ?_, fun w => ?_⟩
  · rw [← Int.natCast_mul]; omega
  obtain ⟨bd, bt, bw, hhi⟩ := Lib.mul64_hi X Y hX hY
  have ba := Lib.half_mul_le (a := X / 4294967296) (b := Y / 4294967296) (by omega) (by omega)
  have bb := Lib.half_mul_le (a := X / 4294967296) (b := Y % 4294967296) (by omega) (by omega)
  have bc := Lib.half_mul_le (a := X % 4294967296) (b := Y / 4294967296) (by omega) (by omega)
  have ba' : X / 4294967296 * (Y / 4294967296) < 18446744073709551616 := by omega
  have bb' : X / 4294967296 * (Y % 4294967296) < 18446744073709551616 := by omega
  have bc' : X % 4294967296 * (Y / 4294967296) < 18446744073709551616 := by omega
  have bh1 : X / 4294967296 * (Y / 4294967296) + (X / 4294967296 * (Y % 4294967296) + X % 4294967296 * (Y % 4294967296) / 4294967296) / 4294967296 < 18446744073709551616 := by omega
  have bh : X / 4294967296 * (Y / 4294967296) + (X / 4294967296 * (Y % 4294967296) + X % 4294967296 * (Y % 4294967296) / 4294967296) / 4294967296 + ((X / 4294967296 * (Y % 4294967296) + X % 4294967296 * (Y % 4294967296) / 4294967296) % 4294967296 + X % 4294967296 * (Y / 4294967296)) / 4294967296 < 18446744073709551616 := by omega
  go_enter Tryd.func169, Tryd.ntmps169
  go_wp2
  simp only [Mul64.maskN X hX, Mul64.maskN Y hY, Mul64.divN, Mul64.mulN, Mul64.addN, Mul64.wrapN _ bd, Mul64.wrapN _ bb', Mul64.wrapN _ bt, Mul64.maskN _ bt, Mul64.wrapN _ bc', Mul64.wrapN _ bw, Mul64.wrapN _ ba', Mul64.wrapN _ bh1, Mul64.wrapN _ bh, Mul64.wrapM (X * Y)]
  rw [hhi]
  go_ret2
  exact ⟨rfl, rfl⟩
theorem Qbo : isW 0 := ⟨by decide, by decide⟩
def nw3 (v : Int) : List Int := [v % 18446744073709551616, v / 18446744073709551616 % 18446744073709551616, v / 340282366920938463463374607431768211456 % 18446744073709551616]
theorem QiR {a b c v : Int} (ha : isW a) (hb : isW b) (hc : isW c) (h : a + 18446744073709551616 * b + 340282366920938463463374607431768211456 * c = v) : [a, b, c] = nw3 v := by
  obtain ⟨a0, a1⟩ := ha
  obtain ⟨b0, b1⟩ := hb
  obtain ⟨c0, c1⟩ := hc
  subst h
  unfold nw3
  have e1 : (a + 18446744073709551616 * b + 340282366920938463463374607431768211456 * c) % 18446744073709551616 = a := by omega
  have e2 : (a + 18446744073709551616 * b + 340282366920938463463374607431768211456 * c) / 18446744073709551616 % 18446744073709551616 = b := by omega
  have e3 : (a + 18446744073709551616 * b + 340282366920938463463374607431768211456 * c) / 340282366920938463463374607431768211456 % 18446744073709551616 = c := by omega
  rw [e1, e2, e3]
theorem Qcd (v : Int) : isW (v % 18446744073709551616) := ⟨by omega, by omega⟩
theorem Qfa (v : Int) (h0 : 0 ≤ v) (h : v < 6277101735386680763835789423207666416102355444464034512896) : v % 18446744073709551616 + 18446744073709551616 * (v / 18446744073709551616 % 18446744073709551616) + 340282366920938463463374607431768211456 * (v / 340282366920938463463374607431768211456 % 18446744073709551616) = v := by omega
theorem Qjk (t : Nat) (ht : t < 8) : 0 < p256 t ∧ 256 * p256 t ≤ 18446744073709551616 := by
  have : ∀ t : Fin 8, 0 < p256 t.1 ∧ 256 * p256 t.1 ≤ 18446744073709551616 := by decide +kernel
  exact this ⟨t, ht⟩
theorem Qh4 (u x : Int) (t : Nat) (h0 : 0 ≤ u) (h1 : u < p256 t) (hx : 0 ≤ x ∧ x < 256) (ht : t < 8) : bits .or .u64 u (x * p256 t) = u + x * p256 t := by
  obtain ⟨U, rfl⟩ := Int.eq_ofNat_of_zero_le h0
  obtain ⟨X, rfl⟩ := Int.eq_ofNat_of_zero_le hx.1
  obtain ⟨q0, q1⟩ := Qjk t ht
  have e : p256 t = ((2 ^ (8 * t) : Nat) : Int) := by unfold p256; rw [Nat.pow_mul]; simp
  have hX : X < 256 := by omega
  rw [e] at h1 q0 q1 ⊢
  have hU : U < 2 ^ (8 * t) := by omega
  have q2 : 256 * 2 ^ (8 * t) ≤ 18446744073709551616 := by omega
  have hm : X * 2 ^ (8 * t) + 2 ^ (8 * t) ≤ 18446744073709551616 := by
    have : (X + 1) * 2 ^ (8 * t) ≤ 256 * 2 ^ (8 * t) := Nat.mul_le_mul_right _ hX
    rw [Nat.succ_mul] at this; omega
  rw [← Int.natCast_mul, bits_or_u64_nat U (X * 2 ^ (8 * t)) (by omega) (by omega)]
  have h := Nat.shiftLeft_add_eq_or_of_lt hU X
  rw [Nat.shiftLeft_eq] at h
  rw [Nat.or_comm, ← h]
  rw [Int.natCast_add]; omega
theorem Qk3 (x : Int) (t : Nat) (c : Int) (hc : c = ((8 * t : Nat) : Int)) (hx : 0 ≤ x ∧ x < 256) (ht : t < 8) : IntKind.u64.wrap (x * 2 ^ min c.toNat IntKind.u64.bits) = x * p256 t := by
  subst hc
  have hm : min (((8 * t : Nat) : Int)).toNat IntKind.u64.bits = 8 * t := by show min (((8 * t : Nat) : Int)).toNat 64 = 8 * t; omega
  have e : (2 : Int) ^ (8 * t) = p256 t := by unfold p256; rw [Int.pow_mul]; rfl
  obtain ⟨q0, q1⟩ := Qjk t ht
  rw [hm, e]
  have h1 : 0 ≤ x * p256 t := Int.mul_nonneg hx.1 (by omega)
  have h2 : x * p256 t ≤ 255 * p256 t := Int.mul_le_mul_of_nonneg_right (by omega) (by omega)
  exact QiI _ ⟨h1, by omega⟩
theorem QgF (v x : Int) (i : Nat) (hi : i < 24) (h0 : 0 ≤ v) (h1 : v < p256 i) (hx : 0 ≤ x ∧ x < 256) :
    bits .or .u64 (nth (nw3 v) (i / 8)) (x * p256 (i % 8)) = nth (nw3 (v + x * p256 i)) (i / 8) ∧ (nw3 v).set (i / 8) (nth (nw3 (v + x * p256 i)) (i / 8)) = nw3 (v + x * p256 i) := by
  obtain ⟨t, et⟩ : ∃ t, t = i % 8 := ⟨_, rfl⟩
  have ht : t < 8 := by omega
  obtain ⟨q0, q1⟩ := Qjk t ht
  obtain ⟨z, ez⟩ : ∃ z, z = x * p256 t := ⟨_, rfl⟩
  have hz0 : 0 ≤ z := by rw [ez]; exact Int.mul_nonneg hx.1 (by omega)
  have hz1 : z ≤ 255 * p256 t := by rw [ez]; exact Int.mul_le_mul_of_nonneg_right (by omega) (by omega)
  rw [← et]
  have hp8 : p256 8 = 18446744073709551616 := by decide +kernel
  have hp16 : p256 16 = 340282366920938463463374607431768211456 := p16
  rcases (show i = t ∨ i = 8 + t ∨ i = 16 + t by omega) with e | e | e
  · have hd : i / 8 = 0 := by omega
    have hv : v < p256 t := by rw [e] at h1; exact h1
    have hxp : x * p256 i = z := by rw [e, ez]
    rw [hd, hxp]
    have e1 : nth (nw3 v) 0 = v := by show v % _ = v; omega
    have e2 : nth (nw3 (v + z)) 0 = v + z := by show (v + z) % _ = v + z; omega
    rw [e1, e2]
    refine ⟨by rw [Qh4 v x t h0 hv hx ht, ez], ?_⟩
    show [v + z, v / 18446744073709551616 % 18446744073709551616, v / 340282366920938463463374607431768211456 % 18446744073709551616] = [(v + z) % 18446744073709551616, (v + z) / 18446744073709551616 % 18446744073709551616, (v + z) / 340282366920938463463374607431768211456 % 18446744073709551616]
    congr 1
    · omega
    · congr 1
      · omega
      · congr 1; omega
  · have hd : i / 8 = 1 := by omega
    have hpi : p256 i = 18446744073709551616 * p256 t := by rw [e, Qdb, hp8]
    have hv : v < 18446744073709551616 * p256 t := by rw [hpi] at h1; exact h1
    have hxp : x * p256 i = 18446744073709551616 * z := by rw [hpi, ez]; grind
    rw [hd, hxp]
    have e1 : nth (nw3 v) 1 = v / 18446744073709551616 := by show v / _ % _ = v / _; omega
    have e2 : nth (nw3 (v + 18446744073709551616 * z)) 1 = v / 18446744073709551616 + z := by show (v + _ * z) / _ % _ = _; omega
    rw [e1, e2]
    refine ⟨by rw [Qh4 (v / 18446744073709551616) x t (by omega) (by omega) hx ht, ez], ?_⟩
    show [v % 18446744073709551616, v / 18446744073709551616 + z, v / 340282366920938463463374607431768211456 % 18446744073709551616] = [(v + 18446744073709551616 * z) % 18446744073709551616, (v + 18446744073709551616 * z) / 18446744073709551616 % 18446744073709551616, (v + 18446744073709551616 * z) / 340282366920938463463374607431768211456 % 18446744073709551616]
    congr 1
    · omega
    · congr 1
      · omega
      · congr 1; omega
  · have hd : i / 8 = 2 := by omega
    have hpi : p256 i = 340282366920938463463374607431768211456 * p256 t := by rw [e, Qdb, hp16]
    have hv : v < 340282366920938463463374607431768211456 * p256 t := by rw [hpi] at h1; exact h1
    have hxp : x * p256 i = 340282366920938463463374607431768211456 * z := by rw [hpi, ez]; grind
    rw [hd, hxp]
    have e1 : nth (nw3 v) 2 = v / 340282366920938463463374607431768211456 := by show v / _ % _ = v / _; omega
    have e2 : nth (nw3 (v + 340282366920938463463374607431768211456 * z)) 2 = v / 340282366920938463463374607431768211456 + z := by show (v + _ * z) / _ % _ = _; omega
    rw [e1, e2]
    refine ⟨by rw [Qh4 (v / 340282366920938463463374607431768211456) x t (by omega) (by omega) hx ht, ez], ?_⟩
    show [v % 18446744073709551616, v / 18446744073709551616 % 18446744073709551616, v / 340282366920938463463374607431768211456 + z] = [(v + 340282366920938463463374607431768211456 * z) % 18446744073709551616, (v + 340282366920938463463374607431768211456 * z) / 18446744073709551616 % 18446744073709551616, (v + 340282366920938463463374607431768211456 * z) / 340282366920938463463374607431768211456 % 18446744073709551616]
    congr 1
    · omega
    · congr 1
      · omega
      · congr 1; omega
theorem Qa2 (v : Int) : (nw3 v).length = 3 := rfl
set_option maxHeartbeats 4000000 in
theorem Qk7 (m0_ m1_ m2_ n0_ n1_ n2_ v : Int) (hm0_ : isW m0_) (hm1_ : isW m1_) (hm2_ : isW m2_) (hn0_ : isW n0_) (hn1_ : isW n1_) (hn2_ : isW n2_) (hv : (m0_ + 18446744073709551616 * m1_ + 340282366920938463463374607431768211456 * m2_) + (n0_ + 18446744073709551616 * n1_ + 340282366920938463463374607431768211456 * n2_) = v) (hlt : v < 6277101735386680763835789423207666416102355444464034512896) (w : World) :
    Calls Tryd.prog 159 #[.agg (ints .u64 [m0_, m1_, m2_]), .agg (ints .u64 [n0_, n1_, n2_])] w (Ret w (.agg (ints .u64 (nw3 v)))) := by
  refine enter 25 [(0, .agg (ints .u64 ([m0_, m1_, m2_]))), (1, .agg (ints .u64 ([n0_, n1_, n2_])))] Tryd.func159 rfl rfl kj rfl ?_
  refine wp_seq_k fun K1 hK1 => ?_
  refine Qab ?_
  refine Qaq (ints .u64 ([m0_, m1_, m2_])) 221 2 rfl kj kj fun g2 W1 l2 e1 r2_1 => ?_
  have x1 : Ext w W1 := Ext.tr (Rely.Ext.refl w) e1
  have b2 : w.heap.size ≤ g2 := Nat.le_trans (Rely.Ext.refl w).size l2
  refine Qaq (ints .u64 ([n0_, n1_, n2_])) 221 3 rfl kj kj fun g3 W2 l3 e2 r3_2 => ?_
  have x2 : Ext w W2 := Ext.tr x1 e2
  have b3 : w.heap.size ≤ g3 := Nat.le_trans x1.size l3
  refine Qaq (ints .u64 ([0, 0, 0])) 221 4 rfl kj kj fun g4 W3 l4 e3 r4_3 => ?_
  have x3 : Ext w W3 := Ext.tr x2 e3
  have b4 : w.heap.size ≤ g4 := Nat.le_trans x2.size l4
  refine Qac ?_
  refine hK1 _ _ ?_
  refine wp_seq_k fun K5 hK5 => ?_
  refine Qab ?_
  refine Qaa (.int .u64 0) 5 rfl kj kj ?_
  refine Qac ?_
  refine hK5 _ _ ?_
  refine wp_seq_k fun K6 hK6 => ?_
  refine wp_seq_k fun K7 hK7 => ?_
  refine Qab ?_
  refine Qaa (.int .i64 0) 7 rfl kj kj ?_
  refine Qac ?_
  refine hK7 _ _ ?_
  refine wp_block ?_
  refine wp_loop_rounds 4 ?_
  show Code.wp _ _ (Exit.then (Code.rounds _ _ _ 3) _) _ _
  refine wp_seq_k fun K8 hK8 => ?_
  refine Qab ?_
  refine Qaa (.bool true) 8 rfl kj kj ?_
  refine Qac ?_
  refine hK8 _ _ ?_
  refine wp_seq_k fun K9 hK9 => ?_
  refine cond_true kj ?_
  refine wp_skip ?_
  refine hK9 _ _ ?_
  refine wp_seq_k fun K10 hK10 => ?_
  refine wp_block ?_
  refine wp_seq_k fun K11 hK11 => ?_
  refine Qab ?_
  refine Qaa (.int .i64 0) 9 rfl kj kj ?_
  refine Qaa (.int .i64 0) 6 rfl kj kj ?_
  refine Qac ?_
  refine hK11 _ _ ?_
  refine Qbd (fun W => True) [⟨none, [(6, none)]⟩, ⟨none, [(6, none)]⟩, ⟨none, [(2, none), (12, some 1)]⟩, ⟨none, [(13, some 2)]⟩, ⟨none, [(6, none)]⟩, ⟨none, [(3, none), (15, some 4)]⟩, ⟨none, [(16, some 5)]⟩, ⟨none, [(5, none)]⟩, ⟨none, [(14, some 3), (17, some 6), (18, some 7)]⟩, ⟨none, [(19, some 8)]⟩, ⟨none, [(10, some 9)]⟩, ⟨none, [(10, some 9)]⟩, ⟨none, [(2, none), (11, some 0)]⟩, ⟨none, [(22, some 12), (20, some 10)]⟩, ⟨none, [(21, some 11)]⟩] [] [11, 14] kj kj kj (fun W hR => trivial) fun F hF => ?_
  refine Qaw (.int .i64 0) kj kj rfl (fun W => by kernel_rfl) ?_
  refine Qaw (.int .i64 0) kj kj rfl (fun W => by kernel_rfl) ?_
  refine Qaw (.pointer (some ⟨g2, 0, none⟩)) kj kj rfl (fun W => by kernel_rfl) ?_
  have r2_2 := (Qad r2_1 e2)
  have r2_3 := (Qad r2_2 e3)
  refine Qa6 (.int .u64 m0_) kj kj kj rfl (fun W hR => (Qag 129 _ g2 0 221 _ (.int .u64 m0_) _ (Qad (Qad r2_3 (Qak _)) hR) rfl kj kj kj)) ?_
  refine Qaw (.int .i64 0) kj kj rfl (fun W => by kernel_rfl) ?_
  refine Qaw (.pointer (some ⟨g3, 0, none⟩)) kj kj rfl (fun W => by kernel_rfl) ?_
  have r3_3 := (Qad r3_2 e3)
  refine Qa6 (.int .u64 n0_) kj kj kj rfl (fun W hR => (Qag 129 _ g3 0 221 _ (.int .u64 n0_) _ (Qad (Qad r3_3 (Qak _)) hR) rfl kj kj kj)) ?_
  refine Qaw (.int .u64 0) kj kj rfl (fun W => by kernel_rfl) ?_
  obtain ⟨s1, d1, hs1, hd1, he1, ra1⟩ := Qco (m0_) (n0_) (0) hm0_ hn0_ ⟨by decide, by decide⟩
  refine Qaw (.tuple #[.int .u64 (s1), .int .u64 (d1)]) kj kj rfl (fun W => (Qbc (f := 166) (args := #[.int .u64 m0_, .int .u64 n0_, .int .u64 0]) _ _ _ rfl kj kj (ra1 _))) ?_
  refine Qaw (.tuple #[.int .u64 (s1), .int .u64 (d1)]) kj kj rfl (fun W => by kernel_rfl) ?_
  refine Qaw (.int .u64 (s1)) kj kj rfl (fun W => by kernel_rfl) ?_
  refine Qaw (.int .u64 (d1)) kj kj rfl (fun W => by kernel_rfl) ?_
  refine Qaw (.pointer (some ⟨g2, 0, none⟩)) kj kj rfl (fun W => by kernel_rfl) ?_
  refine QaL rfl ?_
  refine Qaw (.int .u64 (d1)) kj kj rfl (fun W => by kernel_rfl) ?_
  refine Qds (hF _ kj fun W4 e4 => ?_)
  simp only [List.nil_append, List.cons_append, fins, up]
  clear hF
  have x4 : Ext w W4 := Ext.tr x3 e4
  have r2_4 := (Qad r2_3 e4)
  refine QaG _ g2 _ (ints .u64 ([(s1), m1_, m2_])) 221 r2_4 rfl (Qai 129 _ _ g2 0 221 _ _ r2_4 rfl kj kj kj (show 0 < 3 by decide)) (fun W hp => trivial) fun W5 p5 r2_5 => ?_
  have x5 : Ext w W5 := Puts.ext p5 x4 b2
  refine Qcr ?_
  refine hK10 _ _ ?_
  refine Qab ?_
  refine Qaa (.int .i64 1) 23 rfl kj kj ?_
  refine Qaa (.int .i64 1) 7 rfl kj kj ?_
  refine Qac ?_
  show Code.rounds _ _ _ 3 _ _
  show Code.wp _ _ (Exit.then (Code.rounds _ _ _ 2) _) _ _
  refine wp_seq_k fun K12 hK12 => ?_
  refine Qab ?_
  refine Qaa (.bool true) 8 rfl kj kj ?_
  refine Qac ?_
  refine hK12 _ _ ?_
  refine wp_seq_k fun K13 hK13 => ?_
  refine cond_true kj ?_
  refine wp_skip ?_
  refine hK13 _ _ ?_
  refine wp_seq_k fun K14 hK14 => ?_
  refine wp_block ?_
  refine wp_seq_k fun K15 hK15 => ?_
  refine Qab ?_
  refine Qaa (.int .i64 1) 9 rfl kj kj ?_
  refine Qaa (.int .i64 1) 6 rfl kj kj ?_
  refine Qac ?_
  refine hK15 _ _ ?_
  refine Qbd (fun W => True) [⟨none, [(6, none)]⟩, ⟨none, [(6, none)]⟩, ⟨none, [(2, none), (12, some 1)]⟩, ⟨none, [(13, some 2)]⟩, ⟨none, [(6, none)]⟩, ⟨none, [(3, none), (15, some 4)]⟩, ⟨none, [(16, some 5)]⟩, ⟨none, [(5, none)]⟩, ⟨none, [(14, some 3), (17, some 6), (18, some 7)]⟩, ⟨none, [(19, some 8)]⟩, ⟨none, [(10, some 9)]⟩, ⟨none, [(10, some 9)]⟩, ⟨none, [(2, none), (11, some 0)]⟩, ⟨none, [(22, some 12), (20, some 10)]⟩, ⟨none, [(21, some 11)]⟩] [] [11, 14] kj kj kj (fun W hR => trivial) fun F hF => ?_
  refine Qaw (.int .i64 1) kj kj rfl (fun W => by kernel_rfl) ?_
  refine Qaw (.int .i64 1) kj kj rfl (fun W => by kernel_rfl) ?_
  refine Qaw (.pointer (some ⟨g2, 1, none⟩)) kj kj rfl (fun W => by kernel_rfl) ?_
  refine Qa6 (.int .u64 m1_) kj kj kj rfl (fun W hR => (Qag 129 _ g2 1 221 _ (.int .u64 m1_) _ (Qad (Qad r2_5 (Qak _)) hR) rfl kj kj kj)) ?_
  refine Qaw (.int .i64 1) kj kj rfl (fun W => by kernel_rfl) ?_
  refine Qaw (.pointer (some ⟨g3, 1, none⟩)) kj kj rfl (fun W => by kernel_rfl) ?_
  have r3_4 := (Qad r3_3 e4)
  have r3_5 := (Puts.row p5 r3_4 (Qap r2_1 l3))
  refine Qa6 (.int .u64 n1_) kj kj kj rfl (fun W hR => (Qag 129 _ g3 1 221 _ (.int .u64 n1_) _ (Qad (Qad r3_5 (Qak _)) hR) rfl kj kj kj)) ?_
  refine Qaw (.int .u64 (d1)) kj kj rfl (fun W => by kernel_rfl) ?_
  obtain ⟨s2, d2, hs2, hd2, he2, ra2⟩ := Qco (m1_) (n1_) (d1) hm1_ hn1_ hd1
  refine Qaw (.tuple #[.int .u64 (s2), .int .u64 (d2)]) kj kj rfl (fun W => (Qbc (f := 166) (args := #[.int .u64 m1_, .int .u64 n1_, .int .u64 (d1)]) _ _ _ rfl kj kj (ra2 _))) ?_
  refine Qaw (.tuple #[.int .u64 (s2), .int .u64 (d2)]) kj kj rfl (fun W => by kernel_rfl) ?_
  refine Qaw (.int .u64 (s2)) kj kj rfl (fun W => by kernel_rfl) ?_
  refine Qaw (.int .u64 (d2)) kj kj rfl (fun W => by kernel_rfl) ?_
  refine Qaw (.pointer (some ⟨g2, 1, none⟩)) kj kj rfl (fun W => by kernel_rfl) ?_
  refine QaL rfl ?_
  refine Qaw (.int .u64 (d2)) kj kj rfl (fun W => by kernel_rfl) ?_
  refine Qds (hF _ kj fun W6 e6 => ?_)
  simp only [List.nil_append, List.cons_append, fins, up]
  clear hF
  have x6 : Ext w W6 := Ext.tr x5 e6
  have r2_6 := (Qad r2_5 e6)
  refine QaG _ g2 _ (ints .u64 ([(s1), (s2), m2_])) 221 r2_6 rfl (Qai 129 _ _ g2 1 221 _ _ r2_6 rfl kj kj kj (show 1 < 3 by decide)) (fun W hp => trivial) fun W7 p7 r2_7 => ?_
  have x7 : Ext w W7 := Puts.ext p7 x6 b2
  refine Qcr ?_
  refine hK14 _ _ ?_
  refine Qab ?_
  refine Qaa (.int .i64 2) 23 rfl kj kj ?_
  refine Qaa (.int .i64 2) 7 rfl kj kj ?_
  refine Qac ?_
  show Code.rounds _ _ _ 2 _ _
  show Code.wp _ _ (Exit.then (Code.rounds _ _ _ 1) _) _ _
  refine wp_seq_k fun K16 hK16 => ?_
  refine Qab ?_
  refine Qaa (.bool true) 8 rfl kj kj ?_
  refine Qac ?_
  refine hK16 _ _ ?_
  refine wp_seq_k fun K17 hK17 => ?_
  refine cond_true kj ?_
  refine wp_skip ?_
  refine hK17 _ _ ?_
  refine wp_seq_k fun K18 hK18 => ?_
  refine wp_block ?_
  refine wp_seq_k fun K19 hK19 => ?_
  refine Qab ?_
  refine Qaa (.int .i64 2) 9 rfl kj kj ?_
  refine Qaa (.int .i64 2) 6 rfl kj kj ?_
  refine Qac ?_
  refine hK19 _ _ ?_
  refine Qbd (fun W => True) [⟨none, [(6, none)]⟩, ⟨none, [(6, none)]⟩, ⟨none, [(2, none), (12, some 1)]⟩, ⟨none, [(13, some 2)]⟩, ⟨none, [(6, none)]⟩, ⟨none, [(3, none), (15, some 4)]⟩, ⟨none, [(16, some 5)]⟩, ⟨none, [(5, none)]⟩, ⟨none, [(14, some 3), (17, some 6), (18, some 7)]⟩, ⟨none, [(19, some 8)]⟩, ⟨none, [(10, some 9)]⟩, ⟨none, [(10, some 9)]⟩, ⟨none, [(2, none), (11, some 0)]⟩, ⟨none, [(22, some 12), (20, some 10)]⟩, ⟨none, [(21, some 11)]⟩] [] [11, 14] kj kj kj (fun W hR => trivial) fun F hF => ?_
  refine Qaw (.int .i64 2) kj kj rfl (fun W => by kernel_rfl) ?_
  refine Qaw (.int .i64 2) kj kj rfl (fun W => by kernel_rfl) ?_
  refine Qaw (.pointer (some ⟨g2, 2, none⟩)) kj kj rfl (fun W => by kernel_rfl) ?_
  refine Qa6 (.int .u64 m2_) kj kj kj rfl (fun W hR => (Qag 129 _ g2 2 221 _ (.int .u64 m2_) _ (Qad (Qad r2_7 (Qak _)) hR) rfl kj kj kj)) ?_
  refine Qaw (.int .i64 2) kj kj rfl (fun W => by kernel_rfl) ?_
  refine Qaw (.pointer (some ⟨g3, 2, none⟩)) kj kj rfl (fun W => by kernel_rfl) ?_
  have r3_6 := (Qad r3_5 e6)
  have r3_7 := (Puts.row p7 r3_6 (Qap r2_1 l3))
  refine Qa6 (.int .u64 n2_) kj kj kj rfl (fun W hR => (Qag 129 _ g3 2 221 _ (.int .u64 n2_) _ (Qad (Qad r3_7 (Qak _)) hR) rfl kj kj kj)) ?_
  refine Qaw (.int .u64 (d2)) kj kj rfl (fun W => by kernel_rfl) ?_
  obtain ⟨s3, d3, hs3, hd3, he3, ra3⟩ := Qco (m2_) (n2_) (d2) hm2_ hn2_ hd2
  refine Qaw (.tuple #[.int .u64 (s3), .int .u64 (d3)]) kj kj rfl (fun W => (Qbc (f := 166) (args := #[.int .u64 m2_, .int .u64 n2_, .int .u64 (d2)]) _ _ _ rfl kj kj (ra3 _))) ?_
  refine Qaw (.tuple #[.int .u64 (s3), .int .u64 (d3)]) kj kj rfl (fun W => by kernel_rfl) ?_
  refine Qaw (.int .u64 (s3)) kj kj rfl (fun W => by kernel_rfl) ?_
  refine Qaw (.int .u64 (d3)) kj kj rfl (fun W => by kernel_rfl) ?_
  refine Qaw (.pointer (some ⟨g2, 2, none⟩)) kj kj rfl (fun W => by kernel_rfl) ?_
  refine QaL rfl ?_
  refine Qaw (.int .u64 (d3)) kj kj rfl (fun W => by kernel_rfl) ?_
  refine Qds (hF _ kj fun W8 e8 => ?_)
  simp only [List.nil_append, List.cons_append, fins, up]
  clear hF
  have x8 : Ext w W8 := Ext.tr x7 e8
  have r2_8 := (Qad r2_7 e8)
  refine QaG _ g2 _ (ints .u64 ([(s1), (s2), (s3)])) 221 r2_8 rfl (Qai 129 _ _ g2 2 221 _ _ r2_8 rfl kj kj kj (show 2 < 3 by decide)) (fun W hp => trivial) fun W9 p9 r2_9 => ?_
  have x9 : Ext w W9 := Puts.ext p9 x8 b2
  refine Qcr ?_
  refine hK18 _ _ ?_
  refine Qab ?_
  refine Qaa (.int .i64 3) 23 rfl kj kj ?_
  refine Qaa (.int .i64 3) 7 rfl kj kj ?_
  refine Qac ?_
  show Code.rounds _ _ _ 1 _ _
  show Code.wp _ _ (Exit.then (Code.rounds _ _ _ 0) _) _ _
  refine wp_seq_k fun K20 hK20 => ?_
  refine Qab ?_
  refine Qaa (.bool false) 8 rfl kj kj ?_
  refine Qac ?_
  refine hK20 _ _ ?_
  refine wp_seq_k fun K21 hK21 => ?_
  refine cond_false kj ?_
  refine wp_exit ?_
  refine hK6 _ _ ?_
  refine wp_seq_k fun K22 hK22 => ?_
  refine Qab ?_
  refine Qaa (.agg (ints .u64 ([(s1), (s2), (s3)]))) 24 rfl kj (Qas 221 _ g2 221 _ _ r2_9 rfl kj kj (isz (n := 3) kj kj)) ?_
  have r4_4 := (Qad r4_3 e4)
  have r4_5 := (Puts.row p5 r4_4 (Qap r2_2 l4))
  have r4_6 := (Qad r4_5 e6)
  have r4_7 := (Puts.row p7 r4_6 (Qap r2_2 l4))
  have r4_8 := (Qad r4_7 e8)
  have r4_9 := (Puts.row p9 r4_8 (Qap r2_2 l4))
  refine Qah g4 _ (ints .u64 ([(s1), (s2), (s3)])) 221 r4_9 rfl kj (Qam 221 _ _ g4 221 _ _ r4_9 rfl kj kj (isz (n := 3) kj kj) (eqsz (n := 3) kj kj) (Qay _ _)) fun W10 p10 r4_10 => ?_
  have x10 : Ext w W10 := Puts.ext p10 x9 b4
  refine Qac ?_
  refine hK22 _ _ ?_
  refine wp_ret ?_
  repeat (first | with_reducible refine goR1 ?_ | with_reducible refine goR2 ?_)
  exact (show bodyPost _ _ _ .ret _ _ from ret1 (.agg (ints .u64 ([(s1), (s2), (s3)]))) rfl (QaU g4 221 _ r4_10 kj kj (isz (n := 3) kj kj)) ⟨by rw [QiR (v := v) hs1 hs2 hs3 (by obtain ⟨hs10, hs11⟩ := hs1; obtain ⟨hs20, hs21⟩ := hs2; obtain ⟨hs30, hs31⟩ := hs3; omega)], x10⟩)
theorem QfV (a b : Int) (ha : 0 ≤ a) (hb : 0 ≤ b) (ha2 : a < 6277101735386680763835789423207666416102355444464034512896) (hb2 : b < 6277101735386680763835789423207666416102355444464034512896) (hlt : a + b < 6277101735386680763835789423207666416102355444464034512896) (w : World) :
    Calls Tryd.prog 159 #[.agg (ints .u64 (nw3 a)), .agg (ints .u64 (nw3 b))] w (Ret w (.agg (ints .u64 (nw3 (a + b))))) :=
  Qk7 _ _ _ _ _ _ (a + b) (Qcd _) (Qcd _) (Qcd _) (Qcd _) (Qcd _) (Qcd _) (by rw [Qfa a ha ha2, Qfa b hb hb2]) hlt w
set_option maxHeartbeats 4000000 in
theorem Qhh (b : List Int) (v : Value) (B : Nat) (w : World) (hb : RdK .u8 B b v w) (hl : b.length ≤ 24) (hbb : Qaj b) : Calls Tryd.prog 157 #[v] w (Ret w (.agg (ints .u64 (nw3 (lev b))))) := by
 obtain ⟨a_b, c_b, rfl, -⟩ := id hb
 refine enter 27 [(0, .slice a_b b.length c_b)] Tryd.func157 rfl rfl kj rfl ?_
 refine wp_seq_k fun K1 hK1 => ?_
 refine Qab ?_
 refine Qaq (ints .u64 ([0, 0, 0])) 221 2 rfl kj kj fun g2 W1 l2 e1 r2_1 => ?_
 have x1 : Ext w W1 := Ext.tr (Rely.Ext.refl w) e1
 have b2 : w.heap.size ≤ g2 := Nat.le_trans (Rely.Ext.refl w).size l2
 refine Qac ?_
 refine hK1 _ _ ?_
 refine wp_seq_k fun K3 hK3 => ?_
 refine Qab ?_
 refine Qaq (ints .u64 ([0, 0, 0])) 221 3 rfl kj kj fun g4 W2 l4 e2 r4_2 => ?_
 have x2 : Ext w W2 := Ext.tr x1 e2
 have b4 : w.heap.size ≤ g4 := Nat.le_trans x1.size l4
 refine Qac ?_
 refine hK3 _ _ ?_
 refine wp_seq_k fun K5 hK5 => ?_
 refine wp_seq_k fun K6 hK6 => ?_
 refine Qab ?_
 refine Qaa (.slice a_b b.length c_b) 6 rfl kj kj ?_
 refine Qaa (.int .i64 ((b.length : Nat) : Int)) 7 rfl kj kj ?_
 refine Qaa (.int .i64 0) 8 rfl kj kj ?_
 refine Qac ?_
 refine hK6 _ _ ?_
 refine wp_block ?_
 have r4_2_7 : W2.heap[g4]? = some (.cells (ints .u64 (nw3 (lev (b.take 0)))) 221) := QaA r4_2 (by rw [List.take_zero]; rfl)
 refine QaO (fun (s1 : Nat) => [(2, .pointer (some ⟨g2, 0, none⟩)), (3, .pointer (some ⟨g4, 0, none⟩)), (6, .slice a_b b.length c_b), (7, .int .i64 ((b.length : Nat) : Int)), (8, .int .i64 ((s1 : Nat) : Int))]) (fun (s1 : Nat) W => (s1 ≤ b.length) ∧ (W.heap[g4]? = some (.cells (ints .u64 (nw3 (lev (b.take s1)))) 221)) ∧ (Qar [g4] W2 W) ∧ (Ext w W)) (fun (s1 : Nat) => b.length - s1) 0 ⟨rfl, rfl, rfl, rfl, rfl, trivial⟩ ⟨(Nat.zero_le _), r4_2_7, (Qar.refl [g4] W2), x2⟩ fun s1 X1 V1 hI1 => ?_
 obtain ⟨i, hs1⟩ : ∃ z, z = s1 := ⟨_, rfl⟩
 subst hs1
 obtain ⟨hi, q4_1, kk1, xx1⟩ := hI1
 replace hi : i ≤ b.length := hi
 replace q4_1 : V1.heap[g4]? = some (.cells (ints .u64 (nw3 (lev (b.take i)))) 221) := q4_1
 replace kk1 : Qar [g4] W2 V1 := kk1
 replace xx1 : Ext w V1 := xx1
 have q3 := kk1
 refine wp_seq_k fun K8 hK8 => ?_
 refine Qab ?_
 refine Qaa (.bool (decide (((i : Nat) : Int) < ((b.length : Nat) : Int)))) 9 rfl kj kj ?_
 refine Qac ?_
 refine hK8 _ _ ?_
 refine wp_seq_k fun K9 hK9 => ?_
 refine Qa7 (t := decide (((i : Nat) : Int) < ((b.length : Nat) : Int))) kj (fun c10 => ?_) (fun c10 => ?_)
 ·skip
  have hlt9 : i < b.length := by have := of_decide_eq_true c10; omega
  obtain ⟨grb11, orb11, harb11, -, hlrb11, hcrb11⟩ := QeB (RdK.ext hb xx1) (by omega)
  have hbi := Qbb hbb i
  have hn0 := Qc4 (QaW hbb i)
  have hn1 := QfC (QaW hbb i)
  rw [List.length_take, Nat.min_eq_left (by omega)] at hn1
  obtain ⟨hst1, hst2⟩ := QgF (lev (b.take i)) (nth b i) i (by omega) hn0 hn1 hbi
  rw [← Qdx b i hlt9] at hst1 hst2
  refine wp_skip ?_
  refine hK9 _ _ ?_
  refine wp_seq_k fun K12 hK12 => ?_
  refine wp_block ?_
  refine wp_seq_k fun K13 hK13 => ?_
  refine Qab ?_
  refine Qaa (.int .i64 ((i : Nat) : Int)) 10 rfl kj kj ?_
  refine Qaa (.pointer (some ⟨grb11, orb11 + i, none⟩)) 11 rfl kj (QcY 33 _ _ .i64 i grb11 orb11 b.length c_b 5 a_b _ harb11 rfl rfl kj kj kj kj (Nat.lt_of_lt_of_eq (show i < (b).length by omega) (rfl : (b).length = (b).length).symm)) ?_
  refine Qaa (.int .u8 (nth (b) (i))) 12 rfl kj (Qbl 5 _ _ (.int .u8 (nth (b) (i))) (hcrb11 i (Nat.lt_of_lt_of_eq (show i < (b).length by omega) (rfl : (b).length = (b).length).symm)) rfl kj kj) ?_
  refine Qaa (.int .i64 ((i : Nat) : Int)) 4 rfl kj kj ?_
  refine Qaa (.int .u8 (nth (b) (i))) 5 rfl kj kj ?_
  refine Qac ?_
  refine hK13 _ _ ?_
  refine QaY 10 [⟨none, [(4, none)]⟩, ⟨none, [(13, some 0)]⟩, ⟨none, [(3, none), (14, some 1)]⟩, ⟨none, [(15, some 2)]⟩, ⟨none, [(5, none)]⟩, ⟨none, [(17, some 4)]⟩, ⟨none, [(4, none)]⟩, ⟨none, [(19, some 6)]⟩, ⟨none, [(20, some 7)]⟩, ⟨none, [(18, some 5), (21, some 8)]⟩] kj kj fun F hF => ?_
  refine QaB (Qav _) (.int .i64 ((i : Nat) : Int)) kj kj (fun W => by kernel_rfl) ?_
  refine QaB (Qav _) (.int .i64 ((i / 8 : Nat) : Int)) kj kj (fun W => (Qal (u := .int .i64 (IntKind.i64.wrap (Int.tdiv (((i : Nat) : Int)) (8)))) kj (congrArg (Value.int .i64) (QdH _ 8 (by omega))))) ?_
  refine QaB (Qav _) (.pointer (some ⟨g4, i / 8, none⟩)) kj kj (fun W => (QaH _ _ _ .i64 (i / 8) _ 3 129 rfl kj kj kj kj (by omega))) ?_
  refine QbG (Qav _) (.int .u64 (nth (nw3 (lev (b.take i))) (i / 8))) kj kj (fun W hR => (Qag 129 _ g4 (i / 8) 221 _ (.int .u64 (nth (nw3 (lev (b.take i))) (i / 8))) _ (Qad (Qad q4_1 (Qak _)) hR) rfl kj (Qa1 _ _ _ (Nat.lt_of_lt_of_eq (by omega) (Qa2 _).symm)) kj)) ?_
  refine QaB (Qav _) (.int .u8 (nth (b) (i))) kj kj (fun W => by kernel_rfl) ?_
  refine QaB (Qav _) (.int .u64 (nth b i)) kj kj (fun W => (Qal (u := .int .u64 (IntKind.u64.wrap (nth (b) (i)))) kj (congrArg (Value.int .u64) (QiI _ ⟨hbi.1, by omega⟩)))) ?_
  refine QaB (Qav _) (.int .i64 ((i : Nat) : Int)) kj kj (fun W => by kernel_rfl) ?_
  refine QaB (Qav _) (.int .i64 ((i % 8 : Nat) : Int)) kj kj (fun W => (Qal (u := .int .i64 (Int.tmod (((i : Nat) : Int)) (8))) kj (congrArg (Value.int .i64) (QbY _ 8)))) ?_
  refine QaB (Qav _) (.int .i64 ((8 * (i % 8) : Nat) : Int)) kj kj (fun W => (Qal (u := .int .i64 (IntKind.i64.wrap (8 * ((i % 8 : Nat) : Int)))) kj (congrArg (Value.int .i64) (i64n _ _ (by omega) (by omega))))) ?_
  refine QaB (Qav _) (.int .u64 (nth b i * p256 (i % 8))) kj kj (fun W => (Qa3 .shl _ _ _ _ .u64 .i64 _ _ _ rfl kj kj (Qe1 _ _ _ _ _ _ (by omega) (Qk3 _ (i % 8) _ rfl hbi (by omega))))) ?_
  refine QcU (hF _ fun W4 e4 => ?_)
  simp only [List.nil_append, List.cons_append, List.take_succ_cons, List.take_zero, List.drop_succ_cons, List.drop_zero, finE, up]
  clear hF
  have x4 : Ext w W4 := Ext.tr xx1 e4
  refine Qaa (.int .u64 (nth (nw3 (lev (b.take (i + 1)))) (i / 8))) 23 rfl kj (Qal (u := .int .u64 (bits .or .u64 ((nth (nw3 (lev (b.take i))) (i / 8))) ((nth b i * p256 (i % 8))))) kj (congrArg (Value.int .u64) hst1)) ?_
  refine Qaa (.pointer (some ⟨g4, i / 8, none⟩)) 24 rfl kj (QaH _ _ _ .i64 (i / 8) _ 3 129 rfl kj kj kj kj (by omega)) ?_
  have r4_4 := (Qad q4_1 e4)
  refine Qah g4 _ (ints .u64 ((nw3 (lev (b.take i))).set (i / 8) (nth (nw3 (lev (b.take (i + 1)))) (i / 8)))) 221 r4_4 rfl kj (Qai 129 _ _ g4 (i / 8) 221 _ _ r4_4 rfl kj kj kj (Nat.lt_of_lt_of_eq (by omega) (Qa2 _).symm)) fun W5 p5 r4_5 => ?_
  have x5 : Ext w W5 := Puts.ext p5 x4 b4
  refine Qac ?_
  refine hK12 _ _ ?_
  refine Qab ?_
  refine Qaa (.int .i64 ((i + 1 : Nat) : Int)) 25 rfl kj (Qal (u := .int .i64 (IntKind.i64.wrap (((i : Nat) : Int) + 1))) kj (congrArg (Value.int .i64) (i64n _ _ (by omega) (by omega)))) ?_
  refine Qaa (.int .i64 ((i + 1 : Nat) : Int)) 8 rfl kj kj ?_
  refine Qac ?_
  repeat (first | with_reducible refine goX1 ?_ | with_reducible refine goX2 ?_ | with_reducible refine goX3 ?_)
  exact QaI (i + 1) ⟨rfl, rfl, rfl, rfl, rfl, trivial⟩ ⟨(show i + 1 ≤ b.length by omega), (QaA r4_5 hst2), (Qar.puts (Qar.step q3 e4) p5 (.inl (by simp))), x5⟩ (by show b.length - (i + 1) < b.length - i; omega)
 ·skip
  have heq9 : i = b.length := by have := of_decide_eq_false c10; omega
  subst heq9
  have r4_3_14 : V1.heap[g4]? = some (.cells (ints .u64 (nw3 (lev b))) 221) := QaA q4_1 (by rw [List.take_length])
  refine wp_exit ?_
  refine hK5 _ _ ?_
  refine wp_seq_k fun K15 hK15 => ?_
  refine Qab ?_
  refine Qaa (.agg (ints .u64 (nw3 (lev b)))) 26 rfl kj (Qas 221 _ g4 221 _ _ r4_3_14 rfl kj kj (isz (n := 3) kj ((Qaf _ _).trans (Qa2 _)))) ?_
  have r2_2 := (Qad r2_1 e2)
  have r2_3 := (Qar.row q3 r2_2 (Qa5 (Qae r2_1 l4) QaT))
  refine Qah g2 _ (ints .u64 (nw3 (lev b))) 221 r2_3 rfl kj (Qam 221 _ _ g2 221 _ _ r2_3 rfl kj kj (isz (n := 3) kj ((Qaf _ _).trans (Qa2 _))) (eqsz (n := 3) kj ((Qaf _ _).trans (Qa2 _))) (Qay _ _)) fun W4 p4 r2_4 => ?_
  have x4 : Ext w W4 := Puts.ext p4 xx1 b2
  refine Qac ?_
  refine hK15 _ _ ?_
  refine wp_ret ?_
  repeat (first | with_reducible refine goR1 ?_ | with_reducible refine goR2 ?_)
  exact (show bodyPost _ _ _ .ret _ _ from ret1 (.agg (ints .u64 (nw3 (lev b)))) rfl (QaU g2 221 _ r2_4 kj kj (isz (n := 3) kj ((Qaf _ _).trans (Qa2 _)))) ⟨rfl, x4⟩)
end Go.Proofs.YtoiendjhplbjjaaDoor.Ae
end
section
namespace Go.Proofs.YtoiendjhplbjjaaDoor.Ae
open Go Go.RowKit
open Rely Auto Own Sha
set_option linter.unusedVariables false
set_option linter.unusedSimpArgs false
open Sha Cha
theorem mulR {x y hi lo : Int} {w : World} (h : Calls Tryd.prog 169 #[.int .u64 x, .int .u64 y] w (fun e w' => e = .returned (.tuple #[.int .u64 hi, .int .u64 lo]) ∧ w' = w)) : Calls Tryd.prog 169 #[.int .u64 x, .int .u64 y] w (Ret w (.tuple #[.int .u64 hi, .int .u64 lo])) :=
  h.mono fun e w' h => ⟨h.1, h.2 ▸ Rely.Ext.refl _⟩
set_option maxRecDepth 100000 in
set_option maxHeartbeats 4000000 in
theorem QiU (g : Nat) (q0_ q1_ q2_ q3_ q4_ q5_ xx yy p : Int) (hq0_ : isW q0_) (hq1_ : isW q1_) (hq2_ : isW q2_) (hq3_ : isW q3_) (hq4_ : isW q4_) (hq5_ : isW q5_) (hxx : isW xx) (hyy : isW yy) (hp : xx * yy = p) (hlt : (q0_ + 18446744073709551616 * q1_ + 340282366920938463463374607431768211456 * q2_ + 6277101735386680763835789423207666416102355444464034512896 * q3_ + 115792089237316195423570985008687907853269984665640564039457584007913129639936 * q4_ + 2135987035920910082395021706169552114602704522356652769947041607822219725780640550022962086936576 * q5_) + 1 * p < 39402006196394479212279040100143613805079739270465446667948293404245721771497210611414266254884915640806627990306816) (w : World) (hg : w.heap[g]? = some (.cells (ints .u64 [q0_, q1_, q2_, q3_, q4_, q5_]) 237)) :
    Calls Tryd.prog 168 #[.int .i64 0, .int .u64 xx, .int .u64 yy, .pointer (some ⟨g, 0, none⟩)] w (fun e W => e = .returned (.tuple #[]) ∧ ∃ r0 r1 r2 r3 r4 r5 : Int, isW r0 ∧ isW r1 ∧ isW r2 ∧ isW r3 ∧ isW r4 ∧ isW r5 ∧ (r0 + 18446744073709551616 * r1 + 340282366920938463463374607431768211456 * r2 + 6277101735386680763835789423207666416102355444464034512896 * r3 + 115792089237316195423570985008687907853269984665640564039457584007913129639936 * r4 + 2135987035920910082395021706169552114602704522356652769947041607822219725780640550022962086936576 * r5) = (q0_ + 18446744073709551616 * q1_ + 340282366920938463463374607431768211456 * q2_ + 6277101735386680763835789423207666416102355444464034512896 * q3_ + 115792089237316195423570985008687907853269984665640564039457584007913129639936 * q4_ + 2135987035920910082395021706169552114602704522356652769947041607822219725780640550022962086936576 * q5_) + 1 * p ∧ ExtB g w W ∧ W.heap[g]? = some (.cells (ints .u64 [r0, r1, r2, r3, r4, r5]) 237)) := by
  refine enter 44 [(0, .int .i64 0), (1, .int .u64 (xx)), (2, .int .u64 (yy)), (3, .pointer (some ⟨g, 0, none⟩))] Tryd.func168 rfl rfl kj rfl ?_
  refine wp_seq_k fun K2 hK2 => ?_
  refine Qab ?_
  refine Qaa (.int .u64 (xx)) 12 rfl kj kj ?_
  refine Qaa (.int .u64 (yy)) 13 rfl kj kj ?_
  obtain ⟨hi_, lo_, hhi, hlo, hml, cml⟩ := Qh9 xx yy hxx hyy
  rw [hp] at hml
  refine Qax (.tuple #[.int .u64 (hi_), .int .u64 (lo_)]) 169 #[.int .u64 (xx), .int .u64 (yy)] 14 rfl kj kj ((mulR (cml _))) fun W1 e1 => ?_
  have x1 : ExtB g w W1 := ExtB.ext (ExtB.refl g w) e1
  refine Qaa (.tuple #[.int .u64 (hi_), .int .u64 (lo_)]) 11 rfl kj kj ?_
  refine Qaa (.int .u64 (hi_)) 15 rfl kj kj ?_
  refine Qaa (.int .u64 (lo_)) 16 rfl kj kj ?_
  refine Qaa (.int .u64 (hi_)) 7 rfl kj kj ?_
  refine Qaa (.int .u64 (lo_)) 8 rfl kj kj ?_
  refine Qac ?_
  refine hK2 _ _ ?_
  refine wp_seq_k fun K3 hK3 => ?_
  refine Qab ?_
  refine Qaa (.int .u64 0) 9 rfl kj kj ?_
  refine Qac ?_
  refine hK3 _ _ ?_
  refine wp_seq_k fun K4 hK4 => ?_
  refine Qab ?_
  refine Qaa (.int .i64 0) 18 rfl kj kj ?_
  refine Qaa (.int .i64 0) 19 rfl kj kj ?_
  refine Qaa (.pointer (some ⟨g, 0, none⟩)) 20 rfl kj kj ?_
  have r1_1 := (Qad hg e1)
  refine Qaa (.int .u64 q0_) 21 rfl kj (Qag 129 _ g 0 237 _ (.int .u64 q0_) _ r1_1 rfl kj kj kj) ?_
  refine Qaa (.int .u64 (lo_)) 22 rfl kj kj ?_
  obtain ⟨s1, d1, hs1, hd1, he1, ra1⟩ := Qco (q0_) (lo_) (0) hq0_ hlo ⟨by decide, by decide⟩
  refine Qaa (.tuple #[.int .u64 (s1), .int .u64 (d1)]) 23 rfl kj (Qbc (f := 166) (args := #[.int .u64 q0_, .int .u64 (lo_), .int .u64 0]) _ _ _ rfl kj kj (ra1 _)) ?_
  refine Qaa (.tuple #[.int .u64 (s1), .int .u64 (d1)]) 17 rfl kj kj ?_
  refine Qaa (.int .u64 (s1)) 24 rfl kj kj ?_
  refine Qaa (.int .u64 (d1)) 25 rfl kj kj ?_
  refine Qaa (.pointer (some ⟨g, 0, none⟩)) 26 rfl kj kj ?_
  refine Qah g _ (ints .u64 ([(s1), q1_, q2_, q3_, q4_, q5_])) 237 r1_1 rfl kj (Qai 129 _ _ g 0 237 _ _ r1_1 rfl kj kj kj (show 0 < 6 by decide)) fun W2 p2 r1_2 => ?_
  have x2 : ExtB g w W2 := ExtB.puts x1 p2
  refine Qaa (.int .u64 (d1)) 9 rfl kj kj ?_
  refine Qac ?_
  refine hK4 _ _ ?_
  refine wp_seq_k fun K5 hK5 => ?_
  refine Qab ?_
  refine Qaa (.int .i64 0) 27 rfl kj kj ?_
  refine Qaa (.int .i64 1) 28 rfl kj kj ?_
  refine Qaa (.int .i64 1) 10 rfl kj kj ?_
  refine Qac ?_
  refine hK5 _ _ ?_
  refine wp_block ?_
  refine wp_loop_rounds 6 ?_
  show Code.wp _ _ (Exit.then (Code.rounds _ _ _ 5) _) _ _
  refine wp_seq_k fun K6 hK6 => ?_
  refine wp_seq_k fun K7 hK7 => ?_
  refine Qab ?_
  refine Qaa (.int .i64 1) 29 rfl kj kj ?_
  refine Qaa (.bool true) 30 rfl kj kj ?_
  refine Qac ?_
  refine hK7 _ _ ?_
  refine cond_true kj ?_
  refine wp_skip ?_
  refine hK6 _ _ ?_
  refine wp_seq_k fun K8 hK8 => ?_
  refine wp_block ?_
  refine wp_seq_k fun K9 hK9 => ?_
  refine Qab ?_
  refine Qaa (.int .i64 1) 34 rfl kj kj ?_
  refine Qaa (.int .i64 1) 35 rfl kj kj ?_
  refine Qaa (.pointer (some ⟨g, 1, none⟩)) 36 rfl kj kj ?_
  refine Qaa (.int .u64 q1_) 37 rfl kj (Qag 129 _ g 1 237 _ (.int .u64 q1_) _ r1_2 rfl kj kj kj) ?_
  refine Qaa (.int .u64 (hi_)) 38 rfl kj kj ?_
  refine Qaa (.int .u64 (d1)) 39 rfl kj kj ?_
  obtain ⟨s2, d2, hs2, hd2, he2, ra2⟩ := Qco (q1_) (hi_) (d1) hq1_ hhi hd1
  refine Qaa (.tuple #[.int .u64 (s2), .int .u64 (d2)]) 40 rfl kj (Qbc (f := 166) (args := #[.int .u64 q1_, .int .u64 (hi_), .int .u64 (d1)]) _ _ _ rfl kj kj (ra2 _)) ?_
  refine Qaa (.tuple #[.int .u64 (s2), .int .u64 (d2)]) 33 rfl kj kj ?_
  refine Qaa (.int .u64 (s2)) 41 rfl kj kj ?_
  refine Qaa (.int .u64 (d2)) 42 rfl kj kj ?_
  refine Qaa (.pointer (some ⟨g, 1, none⟩)) 43 rfl kj kj ?_
  refine Qah g _ (ints .u64 ([(s1), (s2), q2_, q3_, q4_, q5_])) 237 r1_2 rfl kj (Qai 129 _ _ g 1 237 _ _ r1_2 rfl kj kj kj (show 1 < 6 by decide)) fun W3 p3 r1_3 => ?_
  have x3 : ExtB g w W3 := ExtB.puts x2 p3
  refine Qaa (.int .u64 (d2)) 9 rfl kj kj ?_
  refine Qac ?_
  refine hK9 _ _ ?_
  refine Qab ?_
  refine Qaa (.int .u64 0) 7 rfl kj kj ?_
  refine Qac ?_
  refine hK8 _ _ ?_
  refine Qab ?_
  refine Qaa (.int .i64 1) 31 rfl kj kj ?_
  refine Qaa (.int .i64 2) 32 rfl kj kj ?_
  refine Qaa (.int .i64 2) 10 rfl kj kj ?_
  refine Qac ?_
  show Code.rounds _ _ _ 5 _ _
  show Code.wp _ _ (Exit.then (Code.rounds _ _ _ 4) _) _ _
  refine wp_seq_k fun K10 hK10 => ?_
  refine wp_seq_k fun K11 hK11 => ?_
  refine Qab ?_
  refine Qaa (.int .i64 2) 29 rfl kj kj ?_
  refine Qaa (.bool true) 30 rfl kj kj ?_
  refine Qac ?_
  refine hK11 _ _ ?_
  refine cond_true kj ?_
  refine wp_skip ?_
  refine hK10 _ _ ?_
  refine wp_seq_k fun K12 hK12 => ?_
  refine wp_block ?_
  refine wp_seq_k fun K13 hK13 => ?_
  refine Qab ?_
  refine Qaa (.int .i64 2) 34 rfl kj kj ?_
  refine Qaa (.int .i64 2) 35 rfl kj kj ?_
  refine Qaa (.pointer (some ⟨g, 2, none⟩)) 36 rfl kj kj ?_
  refine Qaa (.int .u64 q2_) 37 rfl kj (Qag 129 _ g 2 237 _ (.int .u64 q2_) _ r1_3 rfl kj kj kj) ?_
  refine Qaa (.int .u64 0) 38 rfl kj kj ?_
  refine Qaa (.int .u64 (d2)) 39 rfl kj kj ?_
  obtain ⟨s3, d3, hs3, hd3, he3, ra3⟩ := Qco (q2_) (0) (d2) hq2_ Qbo hd2
  refine Qaa (.tuple #[.int .u64 (s3), .int .u64 (d3)]) 40 rfl kj (Qbc (f := 166) (args := #[.int .u64 q2_, .int .u64 0, .int .u64 (d2)]) _ _ _ rfl kj kj (ra3 _)) ?_
  refine Qaa (.tuple #[.int .u64 (s3), .int .u64 (d3)]) 33 rfl kj kj ?_
  refine Qaa (.int .u64 (s3)) 41 rfl kj kj ?_
  refine Qaa (.int .u64 (d3)) 42 rfl kj kj ?_
  refine Qaa (.pointer (some ⟨g, 2, none⟩)) 43 rfl kj kj ?_
  refine Qah g _ (ints .u64 ([(s1), (s2), (s3), q3_, q4_, q5_])) 237 r1_3 rfl kj (Qai 129 _ _ g 2 237 _ _ r1_3 rfl kj kj kj (show 2 < 6 by decide)) fun W4 p4 r1_4 => ?_
  have x4 : ExtB g w W4 := ExtB.puts x3 p4
  refine Qaa (.int .u64 (d3)) 9 rfl kj kj ?_
  refine Qac ?_
  refine hK13 _ _ ?_
  refine Qab ?_
  refine Qaa (.int .u64 0) 7 rfl kj kj ?_
  refine Qac ?_
  refine hK12 _ _ ?_
  refine Qab ?_
  refine Qaa (.int .i64 2) 31 rfl kj kj ?_
  refine Qaa (.int .i64 3) 32 rfl kj kj ?_
  refine Qaa (.int .i64 3) 10 rfl kj kj ?_
  refine Qac ?_
  show Code.rounds _ _ _ 4 _ _
  show Code.wp _ _ (Exit.then (Code.rounds _ _ _ 3) _) _ _
  refine wp_seq_k fun K14 hK14 => ?_
  refine wp_seq_k fun K15 hK15 => ?_
  refine Qab ?_
  refine Qaa (.int .i64 3) 29 rfl kj kj ?_
  refine Qaa (.bool true) 30 rfl kj kj ?_
  refine Qac ?_
  refine hK15 _ _ ?_
  refine cond_true kj ?_
  refine wp_skip ?_
  refine hK14 _ _ ?_
  refine wp_seq_k fun K16 hK16 => ?_
  refine wp_block ?_
  refine wp_seq_k fun K17 hK17 => ?_
  refine Qab ?_
  refine Qaa (.int .i64 3) 34 rfl kj kj ?_
  refine Qaa (.int .i64 3) 35 rfl kj kj ?_
  refine Qaa (.pointer (some ⟨g, 3, none⟩)) 36 rfl kj kj ?_
  refine Qaa (.int .u64 q3_) 37 rfl kj (Qag 129 _ g 3 237 _ (.int .u64 q3_) _ r1_4 rfl kj kj kj) ?_
  refine Qaa (.int .u64 0) 38 rfl kj kj ?_
  refine Qaa (.int .u64 (d3)) 39 rfl kj kj ?_
  obtain ⟨s4, d4, hs4, hd4, he4, ra4⟩ := Qco (q3_) (0) (d3) hq3_ Qbo hd3
  refine Qaa (.tuple #[.int .u64 (s4), .int .u64 (d4)]) 40 rfl kj (Qbc (f := 166) (args := #[.int .u64 q3_, .int .u64 0, .int .u64 (d3)]) _ _ _ rfl kj kj (ra4 _)) ?_
  refine Qaa (.tuple #[.int .u64 (s4), .int .u64 (d4)]) 33 rfl kj kj ?_
  refine Qaa (.int .u64 (s4)) 41 rfl kj kj ?_
  refine Qaa (.int .u64 (d4)) 42 rfl kj kj ?_
  refine Qaa (.pointer (some ⟨g, 3, none⟩)) 43 rfl kj kj ?_
  refine Qah g _ (ints .u64 ([(s1), (s2), (s3), (s4), q4_, q5_])) 237 r1_4 rfl kj (Qai 129 _ _ g 3 237 _ _ r1_4 rfl kj kj kj (show 3 < 6 by decide)) fun W5 p5 r1_5 => ?_
  have x5 : ExtB g w W5 := ExtB.puts x4 p5
  refine Qaa (.int .u64 (d4)) 9 rfl kj kj ?_
  refine Qac ?_
  refine hK17 _ _ ?_
  refine Qab ?_
  refine Qaa (.int .u64 0) 7 rfl kj kj ?_
  refine Qac ?_
  refine hK16 _ _ ?_
  refine Qab ?_
  refine Qaa (.int .i64 3) 31 rfl kj kj ?_
  refine Qaa (.int .i64 4) 32 rfl kj kj ?_
  refine Qaa (.int .i64 4) 10 rfl kj kj ?_
  refine Qac ?_
  show Code.rounds _ _ _ 3 _ _
  show Code.wp _ _ (Exit.then (Code.rounds _ _ _ 2) _) _ _
  refine wp_seq_k fun K18 hK18 => ?_
  refine wp_seq_k fun K19 hK19 => ?_
  refine Qab ?_
  refine Qaa (.int .i64 4) 29 rfl kj kj ?_
  refine Qaa (.bool true) 30 rfl kj kj ?_
  refine Qac ?_
  refine hK19 _ _ ?_
  refine cond_true kj ?_
  refine wp_skip ?_
  refine hK18 _ _ ?_
  refine wp_seq_k fun K20 hK20 => ?_
  refine wp_block ?_
  refine wp_seq_k fun K21 hK21 => ?_
  refine Qab ?_
  refine Qaa (.int .i64 4) 34 rfl kj kj ?_
  refine Qaa (.int .i64 4) 35 rfl kj kj ?_
  refine Qaa (.pointer (some ⟨g, 4, none⟩)) 36 rfl kj kj ?_
  refine Qaa (.int .u64 q4_) 37 rfl kj (Qag 129 _ g 4 237 _ (.int .u64 q4_) _ r1_5 rfl kj kj kj) ?_
  refine Qaa (.int .u64 0) 38 rfl kj kj ?_
  refine Qaa (.int .u64 (d4)) 39 rfl kj kj ?_
  obtain ⟨s5, d5, hs5, hd5, he5, ra5⟩ := Qco (q4_) (0) (d4) hq4_ Qbo hd4
  refine Qaa (.tuple #[.int .u64 (s5), .int .u64 (d5)]) 40 rfl kj (Qbc (f := 166) (args := #[.int .u64 q4_, .int .u64 0, .int .u64 (d4)]) _ _ _ rfl kj kj (ra5 _)) ?_
  refine Qaa (.tuple #[.int .u64 (s5), .int .u64 (d5)]) 33 rfl kj kj ?_
  refine Qaa (.int .u64 (s5)) 41 rfl kj kj ?_
  refine Qaa (.int .u64 (d5)) 42 rfl kj kj ?_
  refine Qaa (.pointer (some ⟨g, 4, none⟩)) 43 rfl kj kj ?_
  refine Qah g _ (ints .u64 ([(s1), (s2), (s3), (s4), (s5), q5_])) 237 r1_5 rfl kj (Qai 129 _ _ g 4 237 _ _ r1_5 rfl kj kj kj (show 4 < 6 by decide)) fun W6 p6 r1_6 => ?_
  have x6 : ExtB g w W6 := ExtB.puts x5 p6
  refine Qaa (.int .u64 (d5)) 9 rfl kj kj ?_
  refine Qac ?_
  refine hK21 _ _ ?_
  refine Qab ?_
  refine Qaa (.int .u64 0) 7 rfl kj kj ?_
  refine Qac ?_
  refine hK20 _ _ ?_
  refine Qab ?_
  refine Qaa (.int .i64 4) 31 rfl kj kj ?_
  refine Qaa (.int .i64 5) 32 rfl kj kj ?_
  refine Qaa (.int .i64 5) 10 rfl kj kj ?_
  refine Qac ?_
  show Code.rounds _ _ _ 2 _ _
  show Code.wp _ _ (Exit.then (Code.rounds _ _ _ 1) _) _ _
  refine wp_seq_k fun K22 hK22 => ?_
  refine wp_seq_k fun K23 hK23 => ?_
  refine Qab ?_
  refine Qaa (.int .i64 5) 29 rfl kj kj ?_
  refine Qaa (.bool true) 30 rfl kj kj ?_
  refine Qac ?_
  refine hK23 _ _ ?_
  refine cond_true kj ?_
  refine wp_skip ?_
  refine hK22 _ _ ?_
  refine wp_seq_k fun K24 hK24 => ?_
  refine wp_block ?_
  refine wp_seq_k fun K25 hK25 => ?_
  refine Qab ?_
  refine Qaa (.int .i64 5) 34 rfl kj kj ?_
  refine Qaa (.int .i64 5) 35 rfl kj kj ?_
  refine Qaa (.pointer (some ⟨g, 5, none⟩)) 36 rfl kj kj ?_
  refine Qaa (.int .u64 q5_) 37 rfl kj (Qag 129 _ g 5 237 _ (.int .u64 q5_) _ r1_6 rfl kj kj kj) ?_
  refine Qaa (.int .u64 0) 38 rfl kj kj ?_
  refine Qaa (.int .u64 (d5)) 39 rfl kj kj ?_
  obtain ⟨s6, d6, hs6, hd6, he6, ra6⟩ := Qco (q5_) (0) (d5) hq5_ Qbo hd5
  refine Qaa (.tuple #[.int .u64 (s6), .int .u64 (d6)]) 40 rfl kj (Qbc (f := 166) (args := #[.int .u64 q5_, .int .u64 0, .int .u64 (d5)]) _ _ _ rfl kj kj (ra6 _)) ?_
  refine Qaa (.tuple #[.int .u64 (s6), .int .u64 (d6)]) 33 rfl kj kj ?_
  refine Qaa (.int .u64 (s6)) 41 rfl kj kj ?_
  refine Qaa (.int .u64 (d6)) 42 rfl kj kj ?_
  refine Qaa (.pointer (some ⟨g, 5, none⟩)) 43 rfl kj kj ?_
  refine Qah g _ (ints .u64 ([(s1), (s2), (s3), (s4), (s5), (s6)])) 237 r1_6 rfl kj (Qai 129 _ _ g 5 237 _ _ r1_6 rfl kj kj kj (show 5 < 6 by decide)) fun W7 p7 r1_7 => ?_
  have x7 : ExtB g w W7 := ExtB.puts x6 p7
  refine Qaa (.int .u64 (d6)) 9 rfl kj kj ?_
  refine Qac ?_
  refine hK25 _ _ ?_
  refine Qab ?_
  refine Qaa (.int .u64 0) 7 rfl kj kj ?_
  refine Qac ?_
  refine hK24 _ _ ?_
  refine Qab ?_
  refine Qaa (.int .i64 5) 31 rfl kj kj ?_
  refine Qaa (.int .i64 6) 32 rfl kj kj ?_
  refine Qaa (.int .i64 6) 10 rfl kj kj ?_
  refine Qac ?_
  show Code.rounds _ _ _ 1 _ _
  show Code.wp _ _ (Exit.then (Code.rounds _ _ _ 0) _) _ _
  refine wp_seq_k fun K26 hK26 => ?_
  refine wp_seq_k fun K27 hK27 => ?_
  refine Qab ?_
  refine Qaa (.int .i64 6) 29 rfl kj kj ?_
  refine Qaa (.bool false) 30 rfl kj kj ?_
  refine Qac ?_
  refine hK27 _ _ ?_
  refine cond_false kj ?_
  refine wp_exit ?_
  repeat (first | with_reducible refine goX1 ?_ | with_reducible refine goX2 ?_ | with_reducible refine goX3 ?_)
  exact (show bodyPost _ _ _ .normal _ _ from end0 rfl ⟨rfl, s1, s2, s3, s4, s5, s6, hs1, hs2, hs3, hs4, hs5, hs6, (by obtain ⟨u1, v1⟩ := id hs1; obtain ⟨u2, v2⟩ := id hs2; obtain ⟨u3, v3⟩ := id hs3; obtain ⟨u4, v4⟩ := id hs4; obtain ⟨u5, v5⟩ := id hs5; obtain ⟨u6, v6⟩ := id hs6; obtain ⟨uq0, vq0⟩ := id hq0_; obtain ⟨uq1, vq1⟩ := id hq1_; obtain ⟨uq2, vq2⟩ := id hq2_; obtain ⟨uq3, vq3⟩ := id hq3_; obtain ⟨uq4, vq4⟩ := id hq4_; obtain ⟨uq5, vq5⟩ := id hq5_; obtain ⟨ud1, vd1⟩ := id hd1; obtain ⟨ud2, vd2⟩ := id hd2; obtain ⟨ud3, vd3⟩ := id hd3; obtain ⟨ud4, vd4⟩ := id hd4; obtain ⟨ud5, vd5⟩ := id hd5; obtain ⟨ud6, vd6⟩ := id hd6; obtain ⟨uh1, uh2⟩ := id hhi; obtain ⟨ul1, ul2⟩ := id hlo; omega), x7, r1_7⟩)
set_option maxRecDepth 100000 in
set_option maxHeartbeats 4000000 in
theorem QhC (g : Nat) (q0_ q1_ q2_ q3_ q4_ q5_ xx yy p : Int) (hq0_ : isW q0_) (hq1_ : isW q1_) (hq2_ : isW q2_) (hq3_ : isW q3_) (hq4_ : isW q4_) (hq5_ : isW q5_) (hxx : isW xx) (hyy : isW yy) (hp : xx * yy = p) (hlt : (q0_ + 18446744073709551616 * q1_ + 340282366920938463463374607431768211456 * q2_ + 6277101735386680763835789423207666416102355444464034512896 * q3_ + 115792089237316195423570985008687907853269984665640564039457584007913129639936 * q4_ + 2135987035920910082395021706169552114602704522356652769947041607822219725780640550022962086936576 * q5_) + 18446744073709551616 * p < 39402006196394479212279040100143613805079739270465446667948293404245721771497210611414266254884915640806627990306816) (w : World) (hg : w.heap[g]? = some (.cells (ints .u64 [q0_, q1_, q2_, q3_, q4_, q5_]) 237)) :
    Calls Tryd.prog 168 #[.int .i64 1, .int .u64 xx, .int .u64 yy, .pointer (some ⟨g, 0, none⟩)] w (fun e W => e = .returned (.tuple #[]) ∧ ∃ r0 r1 r2 r3 r4 r5 : Int, isW r0 ∧ isW r1 ∧ isW r2 ∧ isW r3 ∧ isW r4 ∧ isW r5 ∧ (r0 + 18446744073709551616 * r1 + 340282366920938463463374607431768211456 * r2 + 6277101735386680763835789423207666416102355444464034512896 * r3 + 115792089237316195423570985008687907853269984665640564039457584007913129639936 * r4 + 2135987035920910082395021706169552114602704522356652769947041607822219725780640550022962086936576 * r5) = (q0_ + 18446744073709551616 * q1_ + 340282366920938463463374607431768211456 * q2_ + 6277101735386680763835789423207666416102355444464034512896 * q3_ + 115792089237316195423570985008687907853269984665640564039457584007913129639936 * q4_ + 2135987035920910082395021706169552114602704522356652769947041607822219725780640550022962086936576 * q5_) + 18446744073709551616 * p ∧ ExtB g w W ∧ W.heap[g]? = some (.cells (ints .u64 [r0, r1, r2, r3, r4, r5]) 237)) := by
  refine enter 44 [(0, .int .i64 1), (1, .int .u64 (xx)), (2, .int .u64 (yy)), (3, .pointer (some ⟨g, 0, none⟩))] Tryd.func168 rfl rfl kj rfl ?_
  refine wp_seq_k fun K2 hK2 => ?_
  refine Qab ?_
  refine Qaa (.int .u64 (xx)) 12 rfl kj kj ?_
  refine Qaa (.int .u64 (yy)) 13 rfl kj kj ?_
  obtain ⟨hi_, lo_, hhi, hlo, hml, cml⟩ := Qh9 xx yy hxx hyy
  rw [hp] at hml
  refine Qax (.tuple #[.int .u64 (hi_), .int .u64 (lo_)]) 169 #[.int .u64 (xx), .int .u64 (yy)] 14 rfl kj kj ((mulR (cml _))) fun W1 e1 => ?_
  have x1 : ExtB g w W1 := ExtB.ext (ExtB.refl g w) e1
  refine Qaa (.tuple #[.int .u64 (hi_), .int .u64 (lo_)]) 11 rfl kj kj ?_
  refine Qaa (.int .u64 (hi_)) 15 rfl kj kj ?_
  refine Qaa (.int .u64 (lo_)) 16 rfl kj kj ?_
  refine Qaa (.int .u64 (hi_)) 7 rfl kj kj ?_
  refine Qaa (.int .u64 (lo_)) 8 rfl kj kj ?_
  refine Qac ?_
  refine hK2 _ _ ?_
  refine wp_seq_k fun K3 hK3 => ?_
  refine Qab ?_
  refine Qaa (.int .u64 0) 9 rfl kj kj ?_
  refine Qac ?_
  refine hK3 _ _ ?_
  refine wp_seq_k fun K4 hK4 => ?_
  refine Qab ?_
  refine Qaa (.int .i64 1) 18 rfl kj kj ?_
  refine Qaa (.int .i64 1) 19 rfl kj kj ?_
  refine Qaa (.pointer (some ⟨g, 1, none⟩)) 20 rfl kj kj ?_
  have r1_1 := (Qad hg e1)
  refine Qaa (.int .u64 q1_) 21 rfl kj (Qag 129 _ g 1 237 _ (.int .u64 q1_) _ r1_1 rfl kj kj kj) ?_
  refine Qaa (.int .u64 (lo_)) 22 rfl kj kj ?_
  obtain ⟨s1, d1, hs1, hd1, he1, ra1⟩ := Qco (q1_) (lo_) (0) hq1_ hlo ⟨by decide, by decide⟩
  refine Qaa (.tuple #[.int .u64 (s1), .int .u64 (d1)]) 23 rfl kj (Qbc (f := 166) (args := #[.int .u64 q1_, .int .u64 (lo_), .int .u64 0]) _ _ _ rfl kj kj (ra1 _)) ?_
  refine Qaa (.tuple #[.int .u64 (s1), .int .u64 (d1)]) 17 rfl kj kj ?_
  refine Qaa (.int .u64 (s1)) 24 rfl kj kj ?_
  refine Qaa (.int .u64 (d1)) 25 rfl kj kj ?_
  refine Qaa (.pointer (some ⟨g, 1, none⟩)) 26 rfl kj kj ?_
  refine Qah g _ (ints .u64 ([q0_, (s1), q2_, q3_, q4_, q5_])) 237 r1_1 rfl kj (Qai 129 _ _ g 1 237 _ _ r1_1 rfl kj kj kj (show 1 < 6 by decide)) fun W2 p2 r1_2 => ?_
  have x2 : ExtB g w W2 := ExtB.puts x1 p2
  refine Qaa (.int .u64 (d1)) 9 rfl kj kj ?_
  refine Qac ?_
  refine hK4 _ _ ?_
  refine wp_seq_k fun K5 hK5 => ?_
  refine Qab ?_
  refine Qaa (.int .i64 1) 27 rfl kj kj ?_
  refine Qaa (.int .i64 2) 28 rfl kj kj ?_
  refine Qaa (.int .i64 2) 10 rfl kj kj ?_
  refine Qac ?_
  refine hK5 _ _ ?_
  refine wp_block ?_
  refine wp_loop_rounds 5 ?_
  show Code.wp _ _ (Exit.then (Code.rounds _ _ _ 4) _) _ _
  refine wp_seq_k fun K6 hK6 => ?_
  refine wp_seq_k fun K7 hK7 => ?_
  refine Qab ?_
  refine Qaa (.int .i64 2) 29 rfl kj kj ?_
  refine Qaa (.bool true) 30 rfl kj kj ?_
  refine Qac ?_
  refine hK7 _ _ ?_
  refine cond_true kj ?_
  refine wp_skip ?_
  refine hK6 _ _ ?_
  refine wp_seq_k fun K8 hK8 => ?_
  refine wp_block ?_
  refine wp_seq_k fun K9 hK9 => ?_
  refine Qab ?_
  refine Qaa (.int .i64 2) 34 rfl kj kj ?_
  refine Qaa (.int .i64 2) 35 rfl kj kj ?_
  refine Qaa (.pointer (some ⟨g, 2, none⟩)) 36 rfl kj kj ?_
  refine Qaa (.int .u64 q2_) 37 rfl kj (Qag 129 _ g 2 237 _ (.int .u64 q2_) _ r1_2 rfl kj kj kj) ?_
  refine Qaa (.int .u64 (hi_)) 38 rfl kj kj ?_
  refine Qaa (.int .u64 (d1)) 39 rfl kj kj ?_
  obtain ⟨s2, d2, hs2, hd2, he2, ra2⟩ := Qco (q2_) (hi_) (d1) hq2_ hhi hd1
  refine Qaa (.tuple #[.int .u64 (s2), .int .u64 (d2)]) 40 rfl kj (Qbc (f := 166) (args := #[.int .u64 q2_, .int .u64 (hi_), .int .u64 (d1)]) _ _ _ rfl kj kj (ra2 _)) ?_
  refine Qaa (.tuple #[.int .u64 (s2), .int .u64 (d2)]) 33 rfl kj kj ?_
  refine Qaa (.int .u64 (s2)) 41 rfl kj kj ?_
  refine Qaa (.int .u64 (d2)) 42 rfl kj kj ?_
  refine Qaa (.pointer (some ⟨g, 2, none⟩)) 43 rfl kj kj ?_
  refine Qah g _ (ints .u64 ([q0_, (s1), (s2), q3_, q4_, q5_])) 237 r1_2 rfl kj (Qai 129 _ _ g 2 237 _ _ r1_2 rfl kj kj kj (show 2 < 6 by decide)) fun W3 p3 r1_3 => ?_
  have x3 : ExtB g w W3 := ExtB.puts x2 p3
  refine Qaa (.int .u64 (d2)) 9 rfl kj kj ?_
  refine Qac ?_
  refine hK9 _ _ ?_
  refine Qab ?_
  refine Qaa (.int .u64 0) 7 rfl kj kj ?_
  refine Qac ?_
  refine hK8 _ _ ?_
  refine Qab ?_
  refine Qaa (.int .i64 2) 31 rfl kj kj ?_
  refine Qaa (.int .i64 3) 32 rfl kj kj ?_
  refine Qaa (.int .i64 3) 10 rfl kj kj ?_
  refine Qac ?_
  show Code.rounds _ _ _ 4 _ _
  show Code.wp _ _ (Exit.then (Code.rounds _ _ _ 3) _) _ _
  refine wp_seq_k fun K10 hK10 => ?_
  refine wp_seq_k fun K11 hK11 => ?_
  refine Qab ?_
  refine Qaa (.int .i64 3) 29 rfl kj kj ?_
  refine Qaa (.bool true) 30 rfl kj kj ?_
  refine Qac ?_
  refine hK11 _ _ ?_
  refine cond_true kj ?_
  refine wp_skip ?_
  refine hK10 _ _ ?_
  refine wp_seq_k fun K12 hK12 => ?_
  refine wp_block ?_
  refine wp_seq_k fun K13 hK13 => ?_
  refine Qab ?_
  refine Qaa (.int .i64 3) 34 rfl kj kj ?_
  refine Qaa (.int .i64 3) 35 rfl kj kj ?_
  refine Qaa (.pointer (some ⟨g, 3, none⟩)) 36 rfl kj kj ?_
  refine Qaa (.int .u64 q3_) 37 rfl kj (Qag 129 _ g 3 237 _ (.int .u64 q3_) _ r1_3 rfl kj kj kj) ?_
  refine Qaa (.int .u64 0) 38 rfl kj kj ?_
  refine Qaa (.int .u64 (d2)) 39 rfl kj kj ?_
  obtain ⟨s3, d3, hs3, hd3, he3, ra3⟩ := Qco (q3_) (0) (d2) hq3_ Qbo hd2
  refine Qaa (.tuple #[.int .u64 (s3), .int .u64 (d3)]) 40 rfl kj (Qbc (f := 166) (args := #[.int .u64 q3_, .int .u64 0, .int .u64 (d2)]) _ _ _ rfl kj kj (ra3 _)) ?_
  refine Qaa (.tuple #[.int .u64 (s3), .int .u64 (d3)]) 33 rfl kj kj ?_
  refine Qaa (.int .u64 (s3)) 41 rfl kj kj ?_
  refine Qaa (.int .u64 (d3)) 42 rfl kj kj ?_
  refine Qaa (.pointer (some ⟨g, 3, none⟩)) 43 rfl kj kj ?_
  refine Qah g _ (ints .u64 ([q0_, (s1), (s2), (s3), q4_, q5_])) 237 r1_3 rfl kj (Qai 129 _ _ g 3 237 _ _ r1_3 rfl kj kj kj (show 3 < 6 by decide)) fun W4 p4 r1_4 => ?_
  have x4 : ExtB g w W4 := ExtB.puts x3 p4
  refine Qaa (.int .u64 (d3)) 9 rfl kj kj ?_
  refine Qac ?_
  refine hK13 _ _ ?_
  refine Qab ?_
  refine Qaa (.int .u64 0) 7 rfl kj kj ?_
  refine Qac ?_
  refine hK12 _ _ ?_
  refine Qab ?_
  refine Qaa (.int .i64 3) 31 rfl kj kj ?_
  refine Qaa (.int .i64 4) 32 rfl kj kj ?_
  refine Qaa (.int .i64 4) 10 rfl kj kj ?_
  refine Qac ?_
  show Code.rounds _ _ _ 3 _ _
  show Code.wp _ _ (Exit.then (Code.rounds _ _ _ 2) _) _ _
  refine wp_seq_k fun K14 hK14 => ?_
  refine wp_seq_k fun K15 hK15 => ?_
  refine Qab ?_
  refine Qaa (.int .i64 4) 29 rfl kj kj ?_
  refine Qaa (.bool true) 30 rfl kj kj ?_
  refine Qac ?_
  refine hK15 _ _ ?_
  refine cond_true kj ?_
  refine wp_skip ?_
  refine hK14 _ _ ?_
  refine wp_seq_k fun K16 hK16 => ?_
  refine wp_block ?_
  refine wp_seq_k fun K17 hK17 => ?_
  refine Qab ?_
  refine Qaa (.int .i64 4) 34 rfl kj kj ?_
  refine Qaa (.int .i64 4) 35 rfl kj kj ?_
  refine Qaa (.pointer (some ⟨g, 4, none⟩)) 36 rfl kj kj ?_
  refine Qaa (.int .u64 q4_) 37 rfl kj (Qag 129 _ g 4 237 _ (.int .u64 q4_) _ r1_4 rfl kj kj kj) ?_
  refine Qaa (.int .u64 0) 38 rfl kj kj ?_
  refine Qaa (.int .u64 (d3)) 39 rfl kj kj ?_
  obtain ⟨s4, d4, hs4, hd4, he4, ra4⟩ := Qco (q4_) (0) (d3) hq4_ Qbo hd3
  refine Qaa (.tuple #[.int .u64 (s4), .int .u64 (d4)]) 40 rfl kj (Qbc (f := 166) (args := #[.int .u64 q4_, .int .u64 0, .int .u64 (d3)]) _ _ _ rfl kj kj (ra4 _)) ?_
  refine Qaa (.tuple #[.int .u64 (s4), .int .u64 (d4)]) 33 rfl kj kj ?_
  refine Qaa (.int .u64 (s4)) 41 rfl kj kj ?_
  refine Qaa (.int .u64 (d4)) 42 rfl kj kj ?_
  refine Qaa (.pointer (some ⟨g, 4, none⟩)) 43 rfl kj kj ?_
  refine Qah g _ (ints .u64 ([q0_, (s1), (s2), (s3), (s4), q5_])) 237 r1_4 rfl kj (Qai 129 _ _ g 4 237 _ _ r1_4 rfl kj kj kj (show 4 < 6 by decide)) fun W5 p5 r1_5 => ?_
  have x5 : ExtB g w W5 := ExtB.puts x4 p5
  refine Qaa (.int .u64 (d4)) 9 rfl kj kj ?_
  refine Qac ?_
  refine hK17 _ _ ?_
  refine Qab ?_
  refine Qaa (.int .u64 0) 7 rfl kj kj ?_
  refine Qac ?_
  refine hK16 _ _ ?_
  refine Qab ?_
  refine Qaa (.int .i64 4) 31 rfl kj kj ?_
  refine Qaa (.int .i64 5) 32 rfl kj kj ?_
  refine Qaa (.int .i64 5) 10 rfl kj kj ?_
  refine Qac ?_
  show Code.rounds _ _ _ 2 _ _
  show Code.wp _ _ (Exit.then (Code.rounds _ _ _ 1) _) _ _
  refine wp_seq_k fun K18 hK18 => ?_
  refine wp_seq_k fun K19 hK19 => ?_
  refine Qab ?_
  refine Qaa (.int .i64 5) 29 rfl kj kj ?_
  refine Qaa (.bool true) 30 rfl kj kj ?_
  refine Qac ?_
  refine hK19 _ _ ?_
  refine cond_true kj ?_
  refine wp_skip ?_
  refine hK18 _ _ ?_
  refine wp_seq_k fun K20 hK20 => ?_
  refine wp_block ?_
  refine wp_seq_k fun K21 hK21 => ?_
  refine Qab ?_
  refine Qaa (.int .i64 5) 34 rfl kj kj ?_
  refine Qaa (.int .i64 5) 35 rfl kj kj ?_
  refine Qaa (.pointer (some ⟨g, 5, none⟩)) 36 rfl kj kj ?_
  refine Qaa (.int .u64 q5_) 37 rfl kj (Qag 129 _ g 5 237 _ (.int .u64 q5_) _ r1_5 rfl kj kj kj) ?_
  refine Qaa (.int .u64 0) 38 rfl kj kj ?_
  refine Qaa (.int .u64 (d4)) 39 rfl kj kj ?_
  obtain ⟨s5, d5, hs5, hd5, he5, ra5⟩ := Qco (q5_) (0) (d4) hq5_ Qbo hd4
  refine Qaa (.tuple #[.int .u64 (s5), .int .u64 (d5)]) 40 rfl kj (Qbc (f := 166) (args := #[.int .u64 q5_, .int .u64 0, .int .u64 (d4)]) _ _ _ rfl kj kj (ra5 _)) ?_
  refine Qaa (.tuple #[.int .u64 (s5), .int .u64 (d5)]) 33 rfl kj kj ?_
  refine Qaa (.int .u64 (s5)) 41 rfl kj kj ?_
  refine Qaa (.int .u64 (d5)) 42 rfl kj kj ?_
  refine Qaa (.pointer (some ⟨g, 5, none⟩)) 43 rfl kj kj ?_
  refine Qah g _ (ints .u64 ([q0_, (s1), (s2), (s3), (s4), (s5)])) 237 r1_5 rfl kj (Qai 129 _ _ g 5 237 _ _ r1_5 rfl kj kj kj (show 5 < 6 by decide)) fun W6 p6 r1_6 => ?_
  have x6 : ExtB g w W6 := ExtB.puts x5 p6
  refine Qaa (.int .u64 (d5)) 9 rfl kj kj ?_
  refine Qac ?_
  refine hK21 _ _ ?_
  refine Qab ?_
  refine Qaa (.int .u64 0) 7 rfl kj kj ?_
  refine Qac ?_
  refine hK20 _ _ ?_
  refine Qab ?_
  refine Qaa (.int .i64 5) 31 rfl kj kj ?_
  refine Qaa (.int .i64 6) 32 rfl kj kj ?_
  refine Qaa (.int .i64 6) 10 rfl kj kj ?_
  refine Qac ?_
  show Code.rounds _ _ _ 1 _ _
  show Code.wp _ _ (Exit.then (Code.rounds _ _ _ 0) _) _ _
  refine wp_seq_k fun K22 hK22 => ?_
  refine wp_seq_k fun K23 hK23 => ?_
  refine Qab ?_
  refine Qaa (.int .i64 6) 29 rfl kj kj ?_
  refine Qaa (.bool false) 30 rfl kj kj ?_
  refine Qac ?_
  refine hK23 _ _ ?_
  refine cond_false kj ?_
  refine wp_exit ?_
  repeat (first | with_reducible refine goX1 ?_ | with_reducible refine goX2 ?_ | with_reducible refine goX3 ?_)
  exact (show bodyPost _ _ _ .normal _ _ from end0 rfl ⟨rfl, q0_, s1, s2, s3, s4, s5, hq0_, hs1, hs2, hs3, hs4, hs5, (by obtain ⟨u1, v1⟩ := id hs1; obtain ⟨u2, v2⟩ := id hs2; obtain ⟨u3, v3⟩ := id hs3; obtain ⟨u4, v4⟩ := id hs4; obtain ⟨u5, v5⟩ := id hs5; obtain ⟨uq0, vq0⟩ := id hq0_; obtain ⟨uq1, vq1⟩ := id hq1_; obtain ⟨uq2, vq2⟩ := id hq2_; obtain ⟨uq3, vq3⟩ := id hq3_; obtain ⟨uq4, vq4⟩ := id hq4_; obtain ⟨uq5, vq5⟩ := id hq5_; obtain ⟨ud1, vd1⟩ := id hd1; obtain ⟨ud2, vd2⟩ := id hd2; obtain ⟨ud3, vd3⟩ := id hd3; obtain ⟨ud4, vd4⟩ := id hd4; obtain ⟨ud5, vd5⟩ := id hd5; obtain ⟨uh1, uh2⟩ := id hhi; obtain ⟨ul1, ul2⟩ := id hlo; omega), x6, r1_6⟩)
set_option maxRecDepth 100000 in
set_option maxHeartbeats 4000000 in
theorem QhB (g : Nat) (q0_ q1_ q2_ q3_ q4_ q5_ xx yy p : Int) (hq0_ : isW q0_) (hq1_ : isW q1_) (hq2_ : isW q2_) (hq3_ : isW q3_) (hq4_ : isW q4_) (hq5_ : isW q5_) (hxx : isW xx) (hyy : isW yy) (hp : xx * yy = p) (hlt : (q0_ + 18446744073709551616 * q1_ + 340282366920938463463374607431768211456 * q2_ + 6277101735386680763835789423207666416102355444464034512896 * q3_ + 115792089237316195423570985008687907853269984665640564039457584007913129639936 * q4_ + 2135987035920910082395021706169552114602704522356652769947041607822219725780640550022962086936576 * q5_) + 340282366920938463463374607431768211456 * p < 39402006196394479212279040100143613805079739270465446667948293404245721771497210611414266254884915640806627990306816) (w : World) (hg : w.heap[g]? = some (.cells (ints .u64 [q0_, q1_, q2_, q3_, q4_, q5_]) 237)) :
    Calls Tryd.prog 168 #[.int .i64 2, .int .u64 xx, .int .u64 yy, .pointer (some ⟨g, 0, none⟩)] w (fun e W => e = .returned (.tuple #[]) ∧ ∃ r0 r1 r2 r3 r4 r5 : Int, isW r0 ∧ isW r1 ∧ isW r2 ∧ isW r3 ∧ isW r4 ∧ isW r5 ∧ (r0 + 18446744073709551616 * r1 + 340282366920938463463374607431768211456 * r2 + 6277101735386680763835789423207666416102355444464034512896 * r3 + 115792089237316195423570985008687907853269984665640564039457584007913129639936 * r4 + 2135987035920910082395021706169552114602704522356652769947041607822219725780640550022962086936576 * r5) = (q0_ + 18446744073709551616 * q1_ + 340282366920938463463374607431768211456 * q2_ + 6277101735386680763835789423207666416102355444464034512896 * q3_ + 115792089237316195423570985008687907853269984665640564039457584007913129639936 * q4_ + 2135987035920910082395021706169552114602704522356652769947041607822219725780640550022962086936576 * q5_) + 340282366920938463463374607431768211456 * p ∧ ExtB g w W ∧ W.heap[g]? = some (.cells (ints .u64 [r0, r1, r2, r3, r4, r5]) 237)) := by
  refine enter 44 [(0, .int .i64 2), (1, .int .u64 (xx)), (2, .int .u64 (yy)), (3, .pointer (some ⟨g, 0, none⟩))] Tryd.func168 rfl rfl kj rfl ?_
  refine wp_seq_k fun K2 hK2 => ?_
  refine Qab ?_
  refine Qaa (.int .u64 (xx)) 12 rfl kj kj ?_
  refine Qaa (.int .u64 (yy)) 13 rfl kj kj ?_
  obtain ⟨hi_, lo_, hhi, hlo, hml, cml⟩ := Qh9 xx yy hxx hyy
  rw [hp] at hml
  refine Qax (.tuple #[.int .u64 (hi_), .int .u64 (lo_)]) 169 #[.int .u64 (xx), .int .u64 (yy)] 14 rfl kj kj ((mulR (cml _))) fun W1 e1 => ?_
  have x1 : ExtB g w W1 := ExtB.ext (ExtB.refl g w) e1
  refine Qaa (.tuple #[.int .u64 (hi_), .int .u64 (lo_)]) 11 rfl kj kj ?_
  refine Qaa (.int .u64 (hi_)) 15 rfl kj kj ?_
  refine Qaa (.int .u64 (lo_)) 16 rfl kj kj ?_
  refine Qaa (.int .u64 (hi_)) 7 rfl kj kj ?_
  refine Qaa (.int .u64 (lo_)) 8 rfl kj kj ?_
  refine Qac ?_
  refine hK2 _ _ ?_
  refine wp_seq_k fun K3 hK3 => ?_
  refine Qab ?_
  refine Qaa (.int .u64 0) 9 rfl kj kj ?_
  refine Qac ?_
  refine hK3 _ _ ?_
  refine wp_seq_k fun K4 hK4 => ?_
  refine Qab ?_
  refine Qaa (.int .i64 2) 18 rfl kj kj ?_
  refine Qaa (.int .i64 2) 19 rfl kj kj ?_
  refine Qaa (.pointer (some ⟨g, 2, none⟩)) 20 rfl kj kj ?_
  have r1_1 := (Qad hg e1)
  refine Qaa (.int .u64 q2_) 21 rfl kj (Qag 129 _ g 2 237 _ (.int .u64 q2_) _ r1_1 rfl kj kj kj) ?_
  refine Qaa (.int .u64 (lo_)) 22 rfl kj kj ?_
  obtain ⟨s1, d1, hs1, hd1, he1, ra1⟩ := Qco (q2_) (lo_) (0) hq2_ hlo ⟨by decide, by decide⟩
  refine Qaa (.tuple #[.int .u64 (s1), .int .u64 (d1)]) 23 rfl kj (Qbc (f := 166) (args := #[.int .u64 q2_, .int .u64 (lo_), .int .u64 0]) _ _ _ rfl kj kj (ra1 _)) ?_
  refine Qaa (.tuple #[.int .u64 (s1), .int .u64 (d1)]) 17 rfl kj kj ?_
  refine Qaa (.int .u64 (s1)) 24 rfl kj kj ?_
  refine Qaa (.int .u64 (d1)) 25 rfl kj kj ?_
  refine Qaa (.pointer (some ⟨g, 2, none⟩)) 26 rfl kj kj ?_
  refine Qah g _ (ints .u64 ([q0_, q1_, (s1), q3_, q4_, q5_])) 237 r1_1 rfl kj (Qai 129 _ _ g 2 237 _ _ r1_1 rfl kj kj kj (show 2 < 6 by decide)) fun W2 p2 r1_2 => ?_
  have x2 : ExtB g w W2 := ExtB.puts x1 p2
  refine Qaa (.int .u64 (d1)) 9 rfl kj kj ?_
  refine Qac ?_
  refine hK4 _ _ ?_
  refine wp_seq_k fun K5 hK5 => ?_
  refine Qab ?_
  refine Qaa (.int .i64 2) 27 rfl kj kj ?_
  refine Qaa (.int .i64 3) 28 rfl kj kj ?_
  refine Qaa (.int .i64 3) 10 rfl kj kj ?_
  refine Qac ?_
  refine hK5 _ _ ?_
  refine wp_block ?_
  refine wp_loop_rounds 4 ?_
  show Code.wp _ _ (Exit.then (Code.rounds _ _ _ 3) _) _ _
  refine wp_seq_k fun K6 hK6 => ?_
  refine wp_seq_k fun K7 hK7 => ?_
  refine Qab ?_
  refine Qaa (.int .i64 3) 29 rfl kj kj ?_
  refine Qaa (.bool true) 30 rfl kj kj ?_
  refine Qac ?_
  refine hK7 _ _ ?_
  refine cond_true kj ?_
  refine wp_skip ?_
  refine hK6 _ _ ?_
  refine wp_seq_k fun K8 hK8 => ?_
  refine wp_block ?_
  refine wp_seq_k fun K9 hK9 => ?_
  refine Qab ?_
  refine Qaa (.int .i64 3) 34 rfl kj kj ?_
  refine Qaa (.int .i64 3) 35 rfl kj kj ?_
  refine Qaa (.pointer (some ⟨g, 3, none⟩)) 36 rfl kj kj ?_
  refine Qaa (.int .u64 q3_) 37 rfl kj (Qag 129 _ g 3 237 _ (.int .u64 q3_) _ r1_2 rfl kj kj kj) ?_
  refine Qaa (.int .u64 (hi_)) 38 rfl kj kj ?_
  refine Qaa (.int .u64 (d1)) 39 rfl kj kj ?_
  obtain ⟨s2, d2, hs2, hd2, he2, ra2⟩ := Qco (q3_) (hi_) (d1) hq3_ hhi hd1
  refine Qaa (.tuple #[.int .u64 (s2), .int .u64 (d2)]) 40 rfl kj (Qbc (f := 166) (args := #[.int .u64 q3_, .int .u64 (hi_), .int .u64 (d1)]) _ _ _ rfl kj kj (ra2 _)) ?_
  refine Qaa (.tuple #[.int .u64 (s2), .int .u64 (d2)]) 33 rfl kj kj ?_
  refine Qaa (.int .u64 (s2)) 41 rfl kj kj ?_
  refine Qaa (.int .u64 (d2)) 42 rfl kj kj ?_
  refine Qaa (.pointer (some ⟨g, 3, none⟩)) 43 rfl kj kj ?_
  refine Qah g _ (ints .u64 ([q0_, q1_, (s1), (s2), q4_, q5_])) 237 r1_2 rfl kj (Qai 129 _ _ g 3 237 _ _ r1_2 rfl kj kj kj (show 3 < 6 by decide)) fun W3 p3 r1_3 => ?_
  have x3 : ExtB g w W3 := ExtB.puts x2 p3
  refine Qaa (.int .u64 (d2)) 9 rfl kj kj ?_
  refine Qac ?_
  refine hK9 _ _ ?_
  refine Qab ?_
  refine Qaa (.int .u64 0) 7 rfl kj kj ?_
  refine Qac ?_
  refine hK8 _ _ ?_
  refine Qab ?_
  refine Qaa (.int .i64 3) 31 rfl kj kj ?_
  refine Qaa (.int .i64 4) 32 rfl kj kj ?_
  refine Qaa (.int .i64 4) 10 rfl kj kj ?_
  refine Qac ?_
  show Code.rounds _ _ _ 3 _ _
  show Code.wp _ _ (Exit.then (Code.rounds _ _ _ 2) _) _ _
  refine wp_seq_k fun K10 hK10 => ?_
  refine wp_seq_k fun K11 hK11 => ?_
  refine Qab ?_
  refine Qaa (.int .i64 4) 29 rfl kj kj ?_
  refine Qaa (.bool true) 30 rfl kj kj ?_
  refine Qac ?_
  refine hK11 _ _ ?_
  refine cond_true kj ?_
  refine wp_skip ?_
  refine hK10 _ _ ?_
  refine wp_seq_k fun K12 hK12 => ?_
  refine wp_block ?_
  refine wp_seq_k fun K13 hK13 => ?_
  refine Qab ?_
  refine Qaa (.int .i64 4) 34 rfl kj kj ?_
  refine Qaa (.int .i64 4) 35 rfl kj kj ?_
  refine Qaa (.pointer (some ⟨g, 4, none⟩)) 36 rfl kj kj ?_
  refine Qaa (.int .u64 q4_) 37 rfl kj (Qag 129 _ g 4 237 _ (.int .u64 q4_) _ r1_3 rfl kj kj kj) ?_
  refine Qaa (.int .u64 0) 38 rfl kj kj ?_
  refine Qaa (.int .u64 (d2)) 39 rfl kj kj ?_
  obtain ⟨s3, d3, hs3, hd3, he3, ra3⟩ := Qco (q4_) (0) (d2) hq4_ Qbo hd2
  refine Qaa (.tuple #[.int .u64 (s3), .int .u64 (d3)]) 40 rfl kj (Qbc (f := 166) (args := #[.int .u64 q4_, .int .u64 0, .int .u64 (d2)]) _ _ _ rfl kj kj (ra3 _)) ?_
  refine Qaa (.tuple #[.int .u64 (s3), .int .u64 (d3)]) 33 rfl kj kj ?_
  refine Qaa (.int .u64 (s3)) 41 rfl kj kj ?_
  refine Qaa (.int .u64 (d3)) 42 rfl kj kj ?_
  refine Qaa (.pointer (some ⟨g, 4, none⟩)) 43 rfl kj kj ?_
  refine Qah g _ (ints .u64 ([q0_, q1_, (s1), (s2), (s3), q5_])) 237 r1_3 rfl kj (Qai 129 _ _ g 4 237 _ _ r1_3 rfl kj kj kj (show 4 < 6 by decide)) fun W4 p4 r1_4 => ?_
  have x4 : ExtB g w W4 := ExtB.puts x3 p4
  refine Qaa (.int .u64 (d3)) 9 rfl kj kj ?_
  refine Qac ?_
  refine hK13 _ _ ?_
  refine Qab ?_
  refine Qaa (.int .u64 0) 7 rfl kj kj ?_
  refine Qac ?_
  refine hK12 _ _ ?_
  refine Qab ?_
  refine Qaa (.int .i64 4) 31 rfl kj kj ?_
  refine Qaa (.int .i64 5) 32 rfl kj kj ?_
  refine Qaa (.int .i64 5) 10 rfl kj kj ?_
  refine Qac ?_
  show Code.rounds _ _ _ 2 _ _
  show Code.wp _ _ (Exit.then (Code.rounds _ _ _ 1) _) _ _
  refine wp_seq_k fun K14 hK14 => ?_
  refine wp_seq_k fun K15 hK15 => ?_
  refine Qab ?_
  refine Qaa (.int .i64 5) 29 rfl kj kj ?_
  refine Qaa (.bool true) 30 rfl kj kj ?_
  refine Qac ?_
  refine hK15 _ _ ?_
  refine cond_true kj ?_
  refine wp_skip ?_
  refine hK14 _ _ ?_
  refine wp_seq_k fun K16 hK16 => ?_
  refine wp_block ?_
  refine wp_seq_k fun K17 hK17 => ?_
  refine Qab ?_
  refine Qaa (.int .i64 5) 34 rfl kj kj ?_
  refine Qaa (.int .i64 5) 35 rfl kj kj ?_
  refine Qaa (.pointer (some ⟨g, 5, none⟩)) 36 rfl kj kj ?_
  refine Qaa (.int .u64 q5_) 37 rfl kj (Qag 129 _ g 5 237 _ (.int .u64 q5_) _ r1_4 rfl kj kj kj) ?_
  refine Qaa (.int .u64 0) 38 rfl kj kj ?_
  refine Qaa (.int .u64 (d3)) 39 rfl kj kj ?_
  obtain ⟨s4, d4, hs4, hd4, he4, ra4⟩ := Qco (q5_) (0) (d3) hq5_ Qbo hd3
  refine Qaa (.tuple #[.int .u64 (s4), .int .u64 (d4)]) 40 rfl kj (Qbc (f := 166) (args := #[.int .u64 q5_, .int .u64 0, .int .u64 (d3)]) _ _ _ rfl kj kj (ra4 _)) ?_
  refine Qaa (.tuple #[.int .u64 (s4), .int .u64 (d4)]) 33 rfl kj kj ?_
  refine Qaa (.int .u64 (s4)) 41 rfl kj kj ?_
  refine Qaa (.int .u64 (d4)) 42 rfl kj kj ?_
  refine Qaa (.pointer (some ⟨g, 5, none⟩)) 43 rfl kj kj ?_
  refine Qah g _ (ints .u64 ([q0_, q1_, (s1), (s2), (s3), (s4)])) 237 r1_4 rfl kj (Qai 129 _ _ g 5 237 _ _ r1_4 rfl kj kj kj (show 5 < 6 by decide)) fun W5 p5 r1_5 => ?_
  have x5 : ExtB g w W5 := ExtB.puts x4 p5
  refine Qaa (.int .u64 (d4)) 9 rfl kj kj ?_
  refine Qac ?_
  refine hK17 _ _ ?_
  refine Qab ?_
  refine Qaa (.int .u64 0) 7 rfl kj kj ?_
  refine Qac ?_
  refine hK16 _ _ ?_
  refine Qab ?_
  refine Qaa (.int .i64 5) 31 rfl kj kj ?_
  refine Qaa (.int .i64 6) 32 rfl kj kj ?_
  refine Qaa (.int .i64 6) 10 rfl kj kj ?_
  refine Qac ?_
  show Code.rounds _ _ _ 1 _ _
  show Code.wp _ _ (Exit.then (Code.rounds _ _ _ 0) _) _ _
  refine wp_seq_k fun K18 hK18 => ?_
  refine wp_seq_k fun K19 hK19 => ?_
  refine Qab ?_
  refine Qaa (.int .i64 6) 29 rfl kj kj ?_
  refine Qaa (.bool false) 30 rfl kj kj ?_
  refine Qac ?_
  refine hK19 _ _ ?_
  refine cond_false kj ?_
  refine wp_exit ?_
  repeat (first | with_reducible refine goX1 ?_ | with_reducible refine goX2 ?_ | with_reducible refine goX3 ?_)
  exact (show bodyPost _ _ _ .normal _ _ from end0 rfl ⟨rfl, q0_, q1_, s1, s2, s3, s4, hq0_, hq1_, hs1, hs2, hs3, hs4, (by obtain ⟨u1, v1⟩ := id hs1; obtain ⟨u2, v2⟩ := id hs2; obtain ⟨u3, v3⟩ := id hs3; obtain ⟨u4, v4⟩ := id hs4; obtain ⟨uq0, vq0⟩ := id hq0_; obtain ⟨uq1, vq1⟩ := id hq1_; obtain ⟨uq2, vq2⟩ := id hq2_; obtain ⟨uq3, vq3⟩ := id hq3_; obtain ⟨uq4, vq4⟩ := id hq4_; obtain ⟨uq5, vq5⟩ := id hq5_; obtain ⟨ud1, vd1⟩ := id hd1; obtain ⟨ud2, vd2⟩ := id hd2; obtain ⟨ud3, vd3⟩ := id hd3; obtain ⟨ud4, vd4⟩ := id hd4; obtain ⟨uh1, uh2⟩ := id hhi; obtain ⟨ul1, ul2⟩ := id hlo; omega), x5, r1_5⟩)
set_option maxRecDepth 100000 in
set_option maxHeartbeats 4000000 in
theorem QiT (g : Nat) (q0_ q1_ q2_ q3_ q4_ q5_ xx yy p : Int) (hq0_ : isW q0_) (hq1_ : isW q1_) (hq2_ : isW q2_) (hq3_ : isW q3_) (hq4_ : isW q4_) (hq5_ : isW q5_) (hxx : isW xx) (hyy : isW yy) (hp : xx * yy = p) (hlt : (q0_ + 18446744073709551616 * q1_ + 340282366920938463463374607431768211456 * q2_ + 6277101735386680763835789423207666416102355444464034512896 * q3_ + 115792089237316195423570985008687907853269984665640564039457584007913129639936 * q4_ + 2135987035920910082395021706169552114602704522356652769947041607822219725780640550022962086936576 * q5_) + 6277101735386680763835789423207666416102355444464034512896 * p < 39402006196394479212279040100143613805079739270465446667948293404245721771497210611414266254884915640806627990306816) (w : World) (hg : w.heap[g]? = some (.cells (ints .u64 [q0_, q1_, q2_, q3_, q4_, q5_]) 237)) :
    Calls Tryd.prog 168 #[.int .i64 3, .int .u64 xx, .int .u64 yy, .pointer (some ⟨g, 0, none⟩)] w (fun e W => e = .returned (.tuple #[]) ∧ ∃ r0 r1 r2 r3 r4 r5 : Int, isW r0 ∧ isW r1 ∧ isW r2 ∧ isW r3 ∧ isW r4 ∧ isW r5 ∧ (r0 + 18446744073709551616 * r1 + 340282366920938463463374607431768211456 * r2 + 6277101735386680763835789423207666416102355444464034512896 * r3 + 115792089237316195423570985008687907853269984665640564039457584007913129639936 * r4 + 2135987035920910082395021706169552114602704522356652769947041607822219725780640550022962086936576 * r5) = (q0_ + 18446744073709551616 * q1_ + 340282366920938463463374607431768211456 * q2_ + 6277101735386680763835789423207666416102355444464034512896 * q3_ + 115792089237316195423570985008687907853269984665640564039457584007913129639936 * q4_ + 2135987035920910082395021706169552114602704522356652769947041607822219725780640550022962086936576 * q5_) + 6277101735386680763835789423207666416102355444464034512896 * p ∧ ExtB g w W ∧ W.heap[g]? = some (.cells (ints .u64 [r0, r1, r2, r3, r4, r5]) 237)) := by
  refine enter 44 [(0, .int .i64 3), (1, .int .u64 (xx)), (2, .int .u64 (yy)), (3, .pointer (some ⟨g, 0, none⟩))] Tryd.func168 rfl rfl kj rfl ?_
  refine wp_seq_k fun K2 hK2 => ?_
  refine Qab ?_
  refine Qaa (.int .u64 (xx)) 12 rfl kj kj ?_
  refine Qaa (.int .u64 (yy)) 13 rfl kj kj ?_
  obtain ⟨hi_, lo_, hhi, hlo, hml, cml⟩ := Qh9 xx yy hxx hyy
  rw [hp] at hml
  refine Qax (.tuple #[.int .u64 (hi_), .int .u64 (lo_)]) 169 #[.int .u64 (xx), .int .u64 (yy)] 14 rfl kj kj ((mulR (cml _))) fun W1 e1 => ?_
  have x1 : ExtB g w W1 := ExtB.ext (ExtB.refl g w) e1
  refine Qaa (.tuple #[.int .u64 (hi_), .int .u64 (lo_)]) 11 rfl kj kj ?_
  refine Qaa (.int .u64 (hi_)) 15 rfl kj kj ?_
  refine Qaa (.int .u64 (lo_)) 16 rfl kj kj ?_
  refine Qaa (.int .u64 (hi_)) 7 rfl kj kj ?_
  refine Qaa (.int .u64 (lo_)) 8 rfl kj kj ?_
  refine Qac ?_
  refine hK2 _ _ ?_
  refine wp_seq_k fun K3 hK3 => ?_
  refine Qab ?_
  refine Qaa (.int .u64 0) 9 rfl kj kj ?_
  refine Qac ?_
  refine hK3 _ _ ?_
  refine wp_seq_k fun K4 hK4 => ?_
  refine Qab ?_
  refine Qaa (.int .i64 3) 18 rfl kj kj ?_
  refine Qaa (.int .i64 3) 19 rfl kj kj ?_
  refine Qaa (.pointer (some ⟨g, 3, none⟩)) 20 rfl kj kj ?_
  have r1_1 := (Qad hg e1)
  refine Qaa (.int .u64 q3_) 21 rfl kj (Qag 129 _ g 3 237 _ (.int .u64 q3_) _ r1_1 rfl kj kj kj) ?_
  refine Qaa (.int .u64 (lo_)) 22 rfl kj kj ?_
  obtain ⟨s1, d1, hs1, hd1, he1, ra1⟩ := Qco (q3_) (lo_) (0) hq3_ hlo ⟨by decide, by decide⟩
  refine Qaa (.tuple #[.int .u64 (s1), .int .u64 (d1)]) 23 rfl kj (Qbc (f := 166) (args := #[.int .u64 q3_, .int .u64 (lo_), .int .u64 0]) _ _ _ rfl kj kj (ra1 _)) ?_
  refine Qaa (.tuple #[.int .u64 (s1), .int .u64 (d1)]) 17 rfl kj kj ?_
  refine Qaa (.int .u64 (s1)) 24 rfl kj kj ?_
  refine Qaa (.int .u64 (d1)) 25 rfl kj kj ?_
  refine Qaa (.pointer (some ⟨g, 3, none⟩)) 26 rfl kj kj ?_
  refine Qah g _ (ints .u64 ([q0_, q1_, q2_, (s1), q4_, q5_])) 237 r1_1 rfl kj (Qai 129 _ _ g 3 237 _ _ r1_1 rfl kj kj kj (show 3 < 6 by decide)) fun W2 p2 r1_2 => ?_
  have x2 : ExtB g w W2 := ExtB.puts x1 p2
  refine Qaa (.int .u64 (d1)) 9 rfl kj kj ?_
  refine Qac ?_
  refine hK4 _ _ ?_
  refine wp_seq_k fun K5 hK5 => ?_
  refine Qab ?_
  refine Qaa (.int .i64 3) 27 rfl kj kj ?_
  refine Qaa (.int .i64 4) 28 rfl kj kj ?_
  refine Qaa (.int .i64 4) 10 rfl kj kj ?_
  refine Qac ?_
  refine hK5 _ _ ?_
  refine wp_block ?_
  refine wp_loop_rounds 3 ?_
  show Code.wp _ _ (Exit.then (Code.rounds _ _ _ 2) _) _ _
  refine wp_seq_k fun K6 hK6 => ?_
  refine wp_seq_k fun K7 hK7 => ?_
  refine Qab ?_
  refine Qaa (.int .i64 4) 29 rfl kj kj ?_
  refine Qaa (.bool true) 30 rfl kj kj ?_
  refine Qac ?_
  refine hK7 _ _ ?_
  refine cond_true kj ?_
  refine wp_skip ?_
  refine hK6 _ _ ?_
  refine wp_seq_k fun K8 hK8 => ?_
  refine wp_block ?_
  refine wp_seq_k fun K9 hK9 => ?_
  refine Qab ?_
  refine Qaa (.int .i64 4) 34 rfl kj kj ?_
  refine Qaa (.int .i64 4) 35 rfl kj kj ?_
  refine Qaa (.pointer (some ⟨g, 4, none⟩)) 36 rfl kj kj ?_
  refine Qaa (.int .u64 q4_) 37 rfl kj (Qag 129 _ g 4 237 _ (.int .u64 q4_) _ r1_2 rfl kj kj kj) ?_
  refine Qaa (.int .u64 (hi_)) 38 rfl kj kj ?_
  refine Qaa (.int .u64 (d1)) 39 rfl kj kj ?_
  obtain ⟨s2, d2, hs2, hd2, he2, ra2⟩ := Qco (q4_) (hi_) (d1) hq4_ hhi hd1
  refine Qaa (.tuple #[.int .u64 (s2), .int .u64 (d2)]) 40 rfl kj (Qbc (f := 166) (args := #[.int .u64 q4_, .int .u64 (hi_), .int .u64 (d1)]) _ _ _ rfl kj kj (ra2 _)) ?_
  refine Qaa (.tuple #[.int .u64 (s2), .int .u64 (d2)]) 33 rfl kj kj ?_
  refine Qaa (.int .u64 (s2)) 41 rfl kj kj ?_
  refine Qaa (.int .u64 (d2)) 42 rfl kj kj ?_
  refine Qaa (.pointer (some ⟨g, 4, none⟩)) 43 rfl kj kj ?_
  refine Qah g _ (ints .u64 ([q0_, q1_, q2_, (s1), (s2), q5_])) 237 r1_2 rfl kj (Qai 129 _ _ g 4 237 _ _ r1_2 rfl kj kj kj (show 4 < 6 by decide)) fun W3 p3 r1_3 => ?_
  have x3 : ExtB g w W3 := ExtB.puts x2 p3
  refine Qaa (.int .u64 (d2)) 9 rfl kj kj ?_
  refine Qac ?_
  refine hK9 _ _ ?_
  refine Qab ?_
  refine Qaa (.int .u64 0) 7 rfl kj kj ?_
  refine Qac ?_
  refine hK8 _ _ ?_
  refine Qab ?_
  refine Qaa (.int .i64 4) 31 rfl kj kj ?_
  refine Qaa (.int .i64 5) 32 rfl kj kj ?_
  refine Qaa (.int .i64 5) 10 rfl kj kj ?_
  refine Qac ?_
  show Code.rounds _ _ _ 2 _ _
  show Code.wp _ _ (Exit.then (Code.rounds _ _ _ 1) _) _ _
  refine wp_seq_k fun K10 hK10 => ?_
  refine wp_seq_k fun K11 hK11 => ?_
  refine Qab ?_
  refine Qaa (.int .i64 5) 29 rfl kj kj ?_
  refine Qaa (.bool true) 30 rfl kj kj ?_
  refine Qac ?_
  refine hK11 _ _ ?_
  refine cond_true kj ?_
  refine wp_skip ?_
  refine hK10 _ _ ?_
  refine wp_seq_k fun K12 hK12 => ?_
  refine wp_block ?_
  refine wp_seq_k fun K13 hK13 => ?_
  refine Qab ?_
  refine Qaa (.int .i64 5) 34 rfl kj kj ?_
  refine Qaa (.int .i64 5) 35 rfl kj kj ?_
  refine Qaa (.pointer (some ⟨g, 5, none⟩)) 36 rfl kj kj ?_
  refine Qaa (.int .u64 q5_) 37 rfl kj (Qag 129 _ g 5 237 _ (.int .u64 q5_) _ r1_3 rfl kj kj kj) ?_
  refine Qaa (.int .u64 0) 38 rfl kj kj ?_
  refine Qaa (.int .u64 (d2)) 39 rfl kj kj ?_
  obtain ⟨s3, d3, hs3, hd3, he3, ra3⟩ := Qco (q5_) (0) (d2) hq5_ Qbo hd2
  refine Qaa (.tuple #[.int .u64 (s3), .int .u64 (d3)]) 40 rfl kj (Qbc (f := 166) (args := #[.int .u64 q5_, .int .u64 0, .int .u64 (d2)]) _ _ _ rfl kj kj (ra3 _)) ?_
  refine Qaa (.tuple #[.int .u64 (s3), .int .u64 (d3)]) 33 rfl kj kj ?_
  refine Qaa (.int .u64 (s3)) 41 rfl kj kj ?_
  refine Qaa (.int .u64 (d3)) 42 rfl kj kj ?_
  refine Qaa (.pointer (some ⟨g, 5, none⟩)) 43 rfl kj kj ?_
  refine Qah g _ (ints .u64 ([q0_, q1_, q2_, (s1), (s2), (s3)])) 237 r1_3 rfl kj (Qai 129 _ _ g 5 237 _ _ r1_3 rfl kj kj kj (show 5 < 6 by decide)) fun W4 p4 r1_4 => ?_
  have x4 : ExtB g w W4 := ExtB.puts x3 p4
  refine Qaa (.int .u64 (d3)) 9 rfl kj kj ?_
  refine Qac ?_
  refine hK13 _ _ ?_
  refine Qab ?_
  refine Qaa (.int .u64 0) 7 rfl kj kj ?_
  refine Qac ?_
  refine hK12 _ _ ?_
  refine Qab ?_
  refine Qaa (.int .i64 5) 31 rfl kj kj ?_
  refine Qaa (.int .i64 6) 32 rfl kj kj ?_
  refine Qaa (.int .i64 6) 10 rfl kj kj ?_
  refine Qac ?_
  show Code.rounds _ _ _ 1 _ _
  show Code.wp _ _ (Exit.then (Code.rounds _ _ _ 0) _) _ _
  refine wp_seq_k fun K14 hK14 => ?_
  refine wp_seq_k fun K15 hK15 => ?_
  refine Qab ?_
  refine Qaa (.int .i64 6) 29 rfl kj kj ?_
  refine Qaa (.bool false) 30 rfl kj kj ?_
  refine Qac ?_
  refine hK15 _ _ ?_
  refine cond_false kj ?_
  refine wp_exit ?_
  repeat (first | with_reducible refine goX1 ?_ | with_reducible refine goX2 ?_ | with_reducible refine goX3 ?_)
  exact (show bodyPost _ _ _ .normal _ _ from end0 rfl ⟨rfl, q0_, q1_, q2_, s1, s2, s3, hq0_, hq1_, hq2_, hs1, hs2, hs3, (by obtain ⟨u1, v1⟩ := id hs1; obtain ⟨u2, v2⟩ := id hs2; obtain ⟨u3, v3⟩ := id hs3; obtain ⟨uq0, vq0⟩ := id hq0_; obtain ⟨uq1, vq1⟩ := id hq1_; obtain ⟨uq2, vq2⟩ := id hq2_; obtain ⟨uq3, vq3⟩ := id hq3_; obtain ⟨uq4, vq4⟩ := id hq4_; obtain ⟨uq5, vq5⟩ := id hq5_; obtain ⟨ud1, vd1⟩ := id hd1; obtain ⟨ud2, vd2⟩ := id hd2; obtain ⟨ud3, vd3⟩ := id hd3; obtain ⟨uh1, uh2⟩ := id hhi; obtain ⟨ul1, ul2⟩ := id hlo; omega), x4, r1_4⟩)
set_option maxRecDepth 100000 in
set_option maxHeartbeats 4000000 in
theorem QjY (g : Nat) (q0_ q1_ q2_ q3_ q4_ q5_ xx yy p : Int) (hq0_ : isW q0_) (hq1_ : isW q1_) (hq2_ : isW q2_) (hq3_ : isW q3_) (hq4_ : isW q4_) (hq5_ : isW q5_) (hxx : isW xx) (hyy : isW yy) (hp : xx * yy = p) (hlt : (q0_ + 18446744073709551616 * q1_ + 340282366920938463463374607431768211456 * q2_ + 6277101735386680763835789423207666416102355444464034512896 * q3_ + 115792089237316195423570985008687907853269984665640564039457584007913129639936 * q4_ + 2135987035920910082395021706169552114602704522356652769947041607822219725780640550022962086936576 * q5_) + 115792089237316195423570985008687907853269984665640564039457584007913129639936 * p < 39402006196394479212279040100143613805079739270465446667948293404245721771497210611414266254884915640806627990306816) (w : World) (hg : w.heap[g]? = some (.cells (ints .u64 [q0_, q1_, q2_, q3_, q4_, q5_]) 237)) :
    Calls Tryd.prog 168 #[.int .i64 4, .int .u64 xx, .int .u64 yy, .pointer (some ⟨g, 0, none⟩)] w (fun e W => e = .returned (.tuple #[]) ∧ ∃ r0 r1 r2 r3 r4 r5 : Int, isW r0 ∧ isW r1 ∧ isW r2 ∧ isW r3 ∧ isW r4 ∧ isW r5 ∧ (r0 + 18446744073709551616 * r1 + 340282366920938463463374607431768211456 * r2 + 6277101735386680763835789423207666416102355444464034512896 * r3 + 115792089237316195423570985008687907853269984665640564039457584007913129639936 * r4 + 2135987035920910082395021706169552114602704522356652769947041607822219725780640550022962086936576 * r5) = (q0_ + 18446744073709551616 * q1_ + 340282366920938463463374607431768211456 * q2_ + 6277101735386680763835789423207666416102355444464034512896 * q3_ + 115792089237316195423570985008687907853269984665640564039457584007913129639936 * q4_ + 2135987035920910082395021706169552114602704522356652769947041607822219725780640550022962086936576 * q5_) + 115792089237316195423570985008687907853269984665640564039457584007913129639936 * p ∧ ExtB g w W ∧ W.heap[g]? = some (.cells (ints .u64 [r0, r1, r2, r3, r4, r5]) 237)) := by
  refine enter 44 [(0, .int .i64 4), (1, .int .u64 (xx)), (2, .int .u64 (yy)), (3, .pointer (some ⟨g, 0, none⟩))] Tryd.func168 rfl rfl kj rfl ?_
  refine wp_seq_k fun K2 hK2 => ?_
  refine Qab ?_
  refine Qaa (.int .u64 (xx)) 12 rfl kj kj ?_
  refine Qaa (.int .u64 (yy)) 13 rfl kj kj ?_
  obtain ⟨hi_, lo_, hhi, hlo, hml, cml⟩ := Qh9 xx yy hxx hyy
  rw [hp] at hml
  refine Qax (.tuple #[.int .u64 (hi_), .int .u64 (lo_)]) 169 #[.int .u64 (xx), .int .u64 (yy)] 14 rfl kj kj ((mulR (cml _))) fun W1 e1 => ?_
  have x1 : ExtB g w W1 := ExtB.ext (ExtB.refl g w) e1
  refine Qaa (.tuple #[.int .u64 (hi_), .int .u64 (lo_)]) 11 rfl kj kj ?_
  refine Qaa (.int .u64 (hi_)) 15 rfl kj kj ?_
  refine Qaa (.int .u64 (lo_)) 16 rfl kj kj ?_
  refine Qaa (.int .u64 (hi_)) 7 rfl kj kj ?_
  refine Qaa (.int .u64 (lo_)) 8 rfl kj kj ?_
  refine Qac ?_
  refine hK2 _ _ ?_
  refine wp_seq_k fun K3 hK3 => ?_
  refine Qab ?_
  refine Qaa (.int .u64 0) 9 rfl kj kj ?_
  refine Qac ?_
  refine hK3 _ _ ?_
  refine wp_seq_k fun K4 hK4 => ?_
  refine Qab ?_
  refine Qaa (.int .i64 4) 18 rfl kj kj ?_
  refine Qaa (.int .i64 4) 19 rfl kj kj ?_
  refine Qaa (.pointer (some ⟨g, 4, none⟩)) 20 rfl kj kj ?_
  have r1_1 := (Qad hg e1)
  refine Qaa (.int .u64 q4_) 21 rfl kj (Qag 129 _ g 4 237 _ (.int .u64 q4_) _ r1_1 rfl kj kj kj) ?_
  refine Qaa (.int .u64 (lo_)) 22 rfl kj kj ?_
  obtain ⟨s1, d1, hs1, hd1, he1, ra1⟩ := Qco (q4_) (lo_) (0) hq4_ hlo ⟨by decide, by decide⟩
  refine Qaa (.tuple #[.int .u64 (s1), .int .u64 (d1)]) 23 rfl kj (Qbc (f := 166) (args := #[.int .u64 q4_, .int .u64 (lo_), .int .u64 0]) _ _ _ rfl kj kj (ra1 _)) ?_
  refine Qaa (.tuple #[.int .u64 (s1), .int .u64 (d1)]) 17 rfl kj kj ?_
  refine Qaa (.int .u64 (s1)) 24 rfl kj kj ?_
  refine Qaa (.int .u64 (d1)) 25 rfl kj kj ?_
  refine Qaa (.pointer (some ⟨g, 4, none⟩)) 26 rfl kj kj ?_
  refine Qah g _ (ints .u64 ([q0_, q1_, q2_, q3_, (s1), q5_])) 237 r1_1 rfl kj (Qai 129 _ _ g 4 237 _ _ r1_1 rfl kj kj kj (show 4 < 6 by decide)) fun W2 p2 r1_2 => ?_
  have x2 : ExtB g w W2 := ExtB.puts x1 p2
  refine Qaa (.int .u64 (d1)) 9 rfl kj kj ?_
  refine Qac ?_
  refine hK4 _ _ ?_
  refine wp_seq_k fun K5 hK5 => ?_
  refine Qab ?_
  refine Qaa (.int .i64 4) 27 rfl kj kj ?_
  refine Qaa (.int .i64 5) 28 rfl kj kj ?_
  refine Qaa (.int .i64 5) 10 rfl kj kj ?_
  refine Qac ?_
  refine hK5 _ _ ?_
  refine wp_block ?_
  refine wp_loop_rounds 2 ?_
  show Code.wp _ _ (Exit.then (Code.rounds _ _ _ 1) _) _ _
  refine wp_seq_k fun K6 hK6 => ?_
  refine wp_seq_k fun K7 hK7 => ?_
  refine Qab ?_
  refine Qaa (.int .i64 5) 29 rfl kj kj ?_
  refine Qaa (.bool true) 30 rfl kj kj ?_
  refine Qac ?_
  refine hK7 _ _ ?_
  refine cond_true kj ?_
  refine wp_skip ?_
  refine hK6 _ _ ?_
  refine wp_seq_k fun K8 hK8 => ?_
  refine wp_block ?_
  refine wp_seq_k fun K9 hK9 => ?_
  refine Qab ?_
  refine Qaa (.int .i64 5) 34 rfl kj kj ?_
  refine Qaa (.int .i64 5) 35 rfl kj kj ?_
  refine Qaa (.pointer (some ⟨g, 5, none⟩)) 36 rfl kj kj ?_
  refine Qaa (.int .u64 q5_) 37 rfl kj (Qag 129 _ g 5 237 _ (.int .u64 q5_) _ r1_2 rfl kj kj kj) ?_
  refine Qaa (.int .u64 (hi_)) 38 rfl kj kj ?_
  refine Qaa (.int .u64 (d1)) 39 rfl kj kj ?_
  obtain ⟨s2, d2, hs2, hd2, he2, ra2⟩ := Qco (q5_) (hi_) (d1) hq5_ hhi hd1
  refine Qaa (.tuple #[.int .u64 (s2), .int .u64 (d2)]) 40 rfl kj (Qbc (f := 166) (args := #[.int .u64 q5_, .int .u64 (hi_), .int .u64 (d1)]) _ _ _ rfl kj kj (ra2 _)) ?_
  refine Qaa (.tuple #[.int .u64 (s2), .int .u64 (d2)]) 33 rfl kj kj ?_
  refine Qaa (.int .u64 (s2)) 41 rfl kj kj ?_
  refine Qaa (.int .u64 (d2)) 42 rfl kj kj ?_
  refine Qaa (.pointer (some ⟨g, 5, none⟩)) 43 rfl kj kj ?_
  refine Qah g _ (ints .u64 ([q0_, q1_, q2_, q3_, (s1), (s2)])) 237 r1_2 rfl kj (Qai 129 _ _ g 5 237 _ _ r1_2 rfl kj kj kj (show 5 < 6 by decide)) fun W3 p3 r1_3 => ?_
  have x3 : ExtB g w W3 := ExtB.puts x2 p3
  refine Qaa (.int .u64 (d2)) 9 rfl kj kj ?_
  refine Qac ?_
  refine hK9 _ _ ?_
  refine Qab ?_
  refine Qaa (.int .u64 0) 7 rfl kj kj ?_
  refine Qac ?_
  refine hK8 _ _ ?_
  refine Qab ?_
  refine Qaa (.int .i64 5) 31 rfl kj kj ?_
  refine Qaa (.int .i64 6) 32 rfl kj kj ?_
  refine Qaa (.int .i64 6) 10 rfl kj kj ?_
  refine Qac ?_
  show Code.rounds _ _ _ 1 _ _
  show Code.wp _ _ (Exit.then (Code.rounds _ _ _ 0) _) _ _
  refine wp_seq_k fun K10 hK10 => ?_
  refine wp_seq_k fun K11 hK11 => ?_
  refine Qab ?_
  refine Qaa (.int .i64 6) 29 rfl kj kj ?_
  refine Qaa (.bool false) 30 rfl kj kj ?_
  refine Qac ?_
  refine hK11 _ _ ?_
  refine cond_false kj ?_
  refine wp_exit ?_
  repeat (first | with_reducible refine goX1 ?_ | with_reducible refine goX2 ?_ | with_reducible refine goX3 ?_)
  exact (show bodyPost _ _ _ .normal _ _ from end0 rfl ⟨rfl, q0_, q1_, q2_, q3_, s1, s2, hq0_, hq1_, hq2_, hq3_, hs1, hs2, (by obtain ⟨u1, v1⟩ := id hs1; obtain ⟨u2, v2⟩ := id hs2; obtain ⟨uq0, vq0⟩ := id hq0_; obtain ⟨uq1, vq1⟩ := id hq1_; obtain ⟨uq2, vq2⟩ := id hq2_; obtain ⟨uq3, vq3⟩ := id hq3_; obtain ⟨uq4, vq4⟩ := id hq4_; obtain ⟨uq5, vq5⟩ := id hq5_; obtain ⟨ud1, vd1⟩ := id hd1; obtain ⟨ud2, vd2⟩ := id hd2; obtain ⟨uh1, uh2⟩ := id hhi; obtain ⟨ul1, ul2⟩ := id hlo; omega), x3, r1_3⟩)
end Go.Proofs.YtoiendjhplbjjaaDoor.Ae
end
section
namespace Go.Proofs.YtoiendjhplbjjaaDoor.Ae
open Go Go.RowKit
open Rely Auto Own Sha
set_option linter.unusedVariables false
set_option linter.unusedSimpArgs false
open Sha Cha
def mulV (v : Int) : Int := v % 1361129467683753853853498429727072845824 + 5 * (v / 1361129467683753853853498429727072845824)
theorem shr2 (q : Int) (h : isW q) : q.fdiv (2 ^ min (2 : Int).toNat IntKind.u64.bits) = q / 4 := by
  have e : (2 : Int) ^ min (2 : Int).toNat IntKind.u64.bits = 4 := by decide
  rw [e, Int.fdiv_eq_ediv_of_nonneg _ (by decide)]
theorem Qk4 (q : Int) (h : isW q) : IntKind.u64.wrap (q * 2 ^ min (62 : Int).toNat IntKind.u64.bits) = q % 4 * 4611686018427387904 := by
  have e : (2 : Int) ^ min (62 : Int).toNat IntKind.u64.bits = 4611686018427387904 := by decide
  have h3 : ∀ z : Int, IntKind.u64.wrap z = z % 18446744073709551616 := fun _ => rfl
  rw [e, h3]
  obtain ⟨h1, h2⟩ := h
  omega
theorem or62 (q r : Int) (hq : isW q) (hr : isW r) : bits .or .u64 (q / 4) (r % 4 * 4611686018427387904) = q / 4 + r % 4 * 4611686018427387904 := by
  obtain ⟨q0, q1⟩ := hq
  obtain ⟨r0, r1⟩ := hr
  obtain ⟨A, hA⟩ := Int.eq_ofNat_of_zero_le (show 0 ≤ q / 4 by omega)
  obtain ⟨C, hC⟩ := Int.eq_ofNat_of_zero_le (show 0 ≤ r % 4 by omega)
  rw [hA, hC]
  have hA2 : A < 2 ^ 62 := by omega
  have hC2 : C < 4 := by omega
  have e : ((C : Nat) : Int) * 4611686018427387904 = ((C * 4611686018427387904 : Nat) : Int) := by rw [Int.natCast_mul]; rfl
  rw [e, bits_or_u64_nat A (C * 4611686018427387904) (by omega) (by omega)]
  have h := Nat.shiftLeft_add_eq_or_of_lt hA2 C
  rw [Nat.shiftLeft_eq] at h
  rw [Nat.or_comm, ← show C * 2 ^ 62 = C * 4611686018427387904 from rfl, ← h]
  rw [Int.natCast_add]; omega
theorem and3 (q : Int) (h : isW q) : bits .and .u64 q 3 = q % 4 := by
  obtain ⟨A, rfl⟩ := Int.eq_ofNat_of_zero_le h.1
  have h := bits_and_u64_nat A 3 (by have := h.2; omega) (by omega)
  have e : A &&& 3 = A % 4 := Nat.and_two_pow_sub_one_eq_mod A 2
  rw [e] at h
  exact h
theorem Qjo {a0 a1 a2 a3 a4 a5 e0 e1 f0 f1 f2 f3 f4 f5 v : Int} (ha0 : isW a0) (ha1 : isW a1) (ha2 : isW a2) (ha3 : isW a3) (ha4 : isW a4) (ha5 : isW a5) (hf0 : isW f0) (hf1 : isW f1) (hf2 : isW f2) (hf3 : isW f3) (hf4 : isW f4) (hf5 : isW f5)
    (ha : (a0 + 18446744073709551616 * a1 + 340282366920938463463374607431768211456 * a2 + 6277101735386680763835789423207666416102355444464034512896 * a3 + 115792089237316195423570985008687907853269984665640564039457584007913129639936 * a4 + 2135987035920910082395021706169552114602704522356652769947041607822219725780640550022962086936576 * a5) = v) (hv : v < 115792089237316195423570985008687907853269984665640564039457584007913129639936) (h0 : e0 = a2 / 4 + a3 % 4 * 4611686018427387904) (h1 : e1 = a3 / 4)
    (hf : (f0 + 18446744073709551616 * f1 + 340282366920938463463374607431768211456 * f2 + 6277101735386680763835789423207666416102355444464034512896 * f3 + 115792089237316195423570985008687907853269984665640564039457584007913129639936 * f4 + 2135987035920910082395021706169552114602704522356652769947041607822219725780640550022962086936576 * f5) = (a0 + 18446744073709551616 * a1 + 340282366920938463463374607431768211456 * (a2 % 4)) + 5 * e0 + 18446744073709551616 * (5 * e1)) : f0 + 18446744073709551616 * f1 + 340282366920938463463374607431768211456 * f2 = mulV v := by
  obtain ⟨a0a, a0b⟩ := ha0
  obtain ⟨a1a, a1b⟩ := ha1
  obtain ⟨a2a, a2b⟩ := ha2
  obtain ⟨a3a, a3b⟩ := ha3
  obtain ⟨a4a, -⟩ := ha4
  obtain ⟨a5a, -⟩ := ha5
  obtain ⟨f0a, f0b⟩ := hf0
  obtain ⟨f1a, f1b⟩ := hf1
  obtain ⟨f2a, f2b⟩ := hf2
  obtain ⟨f3a, -⟩ := hf3
  obtain ⟨f4a, -⟩ := hf4
  obtain ⟨f5a, -⟩ := hf5
  have z5 : a5 = 0 := by omega
  have z4 : a4 = 0 := by omega
  subst z5 z4
  have e3 : v = a0 + 18446744073709551616 * a1 + 340282366920938463463374607431768211456 * (a2 % 4) + 1361129467683753853853498429727072845824 * (a2 / 4 + 4611686018427387904 * a3) := by omega
  have hl : 0 ≤ a0 + 18446744073709551616 * a1 + 340282366920938463463374607431768211456 * (a2 % 4) ∧ a0 + 18446744073709551616 * a1 + 340282366920938463463374607431768211456 * (a2 % 4) < 1361129467683753853853498429727072845824 := by omega
  have hm : v % 1361129467683753853853498429727072845824 = a0 + 18446744073709551616 * a1 + 340282366920938463463374607431768211456 * (a2 % 4) := by omega
  have hd : v / 1361129467683753853853498429727072845824 = a2 / 4 + 4611686018427387904 * a3 := by omega
  have he : e0 + 18446744073709551616 * e1 = a2 / 4 + 4611686018427387904 * a3 := by omega
  have hlt : a2 / 4 + 4611686018427387904 * a3 < 85070591730234615865843651857942052864 := by omega
  have hsum : (f0 + 18446744073709551616 * f1 + 340282366920938463463374607431768211456 * f2 + 6277101735386680763835789423207666416102355444464034512896 * f3 + 115792089237316195423570985008687907853269984665640564039457584007913129639936 * f4 + 2135987035920910082395021706169552114602704522356652769947041607822219725780640550022962086936576 * f5) < 2722258935367507707706996859454145691648 := by omega
  have y5 : f5 = 0 := by omega
  have y4 : f4 = 0 := by omega
  have y3 : f3 = 0 := by omega
  subst y5 y4 y3
  unfold mulV
  rw [hm, hd]
  omega
theorem Qf7 {a b : Int} (ha : 0 ≤ a) (hb : 0 ≤ b) (ha2 : a < 5444517870735015415413993718908291383296) (hb2 : b < 21267647932558653966460912964485513216) : a * b < 115792089237316195423570985008687907853269984665640564039457584007913129639936 := by
  have h1 : a * b ≤ a * 21267647932558653966460912964485513216 := Int.mul_le_mul_of_nonneg_left (by omega) ha
  omega
set_option maxRecDepth 100000 in
set_option maxHeartbeats 4000000 in
theorem mulW (m0_ m1_ m2_ n0_ n1_ n2_ va vb : Int) (hm0_ : isW m0_) (hm1_ : isW m1_) (hm2_ : isW m2_) (hn0_ : isW n0_) (hn1_ : isW n1_) (hn2_ : isW n2_) (hva : (m0_ + 18446744073709551616 * m1_ + 340282366920938463463374607431768211456 * m2_) = va) (hvb : (n0_ + 18446744073709551616 * n1_ + 340282366920938463463374607431768211456 * n2_) = vb) (hal : va < 5444517870735015415413993718908291383296) (hbl : vb < 21267647932558653966460912964485513216) (w : World) :
    Calls Tryd.prog 165 #[.agg (ints .u64 [m0_, m1_, m2_]), .agg (ints .u64 [n0_, n1_, n2_])] w (Ret w (.agg (ints .u64 (nw3 (mulV (va * vb)))))) := by
  obtain ⟨p00, ep00⟩ : ∃ z, z = m0_ * n0_ := ⟨_, rfl⟩
  have hp00 : 0 ≤ p00 := by rw [ep00]; exact Int.mul_nonneg hm0_.1 hn0_.1
  obtain ⟨p01, ep01⟩ : ∃ z, z = m0_ * n1_ := ⟨_, rfl⟩
  have hp01 : 0 ≤ p01 := by rw [ep01]; exact Int.mul_nonneg hm0_.1 hn1_.1
  obtain ⟨p02, ep02⟩ : ∃ z, z = m0_ * n2_ := ⟨_, rfl⟩
  have hp02 : 0 ≤ p02 := by rw [ep02]; exact Int.mul_nonneg hm0_.1 hn2_.1
  obtain ⟨p10, ep10⟩ : ∃ z, z = m1_ * n0_ := ⟨_, rfl⟩
  have hp10 : 0 ≤ p10 := by rw [ep10]; exact Int.mul_nonneg hm1_.1 hn0_.1
  obtain ⟨p11, ep11⟩ : ∃ z, z = m1_ * n1_ := ⟨_, rfl⟩
  have hp11 : 0 ≤ p11 := by rw [ep11]; exact Int.mul_nonneg hm1_.1 hn1_.1
  obtain ⟨p12, ep12⟩ : ∃ z, z = m1_ * n2_ := ⟨_, rfl⟩
  have hp12 : 0 ≤ p12 := by rw [ep12]; exact Int.mul_nonneg hm1_.1 hn2_.1
  obtain ⟨p20, ep20⟩ : ∃ z, z = m2_ * n0_ := ⟨_, rfl⟩
  have hp20 : 0 ≤ p20 := by rw [ep20]; exact Int.mul_nonneg hm2_.1 hn0_.1
  obtain ⟨p21, ep21⟩ : ∃ z, z = m2_ * n1_ := ⟨_, rfl⟩
  have hp21 : 0 ≤ p21 := by rw [ep21]; exact Int.mul_nonneg hm2_.1 hn1_.1
  obtain ⟨p22, ep22⟩ : ∃ z, z = m2_ * n2_ := ⟨_, rfl⟩
  have hp22 : 0 ≤ p22 := by rw [ep22]; exact Int.mul_nonneg hm2_.1 hn2_.1
  have hT : 1 * p00 + 18446744073709551616 * p01 + 340282366920938463463374607431768211456 * p02 + 18446744073709551616 * p10 + 340282366920938463463374607431768211456 * p11 + 6277101735386680763835789423207666416102355444464034512896 * p12 + 340282366920938463463374607431768211456 * p20 + 6277101735386680763835789423207666416102355444464034512896 * p21 + 115792089237316195423570985008687907853269984665640564039457584007913129639936 * p22 = va * vb := by rw [ep00, ep01, ep02, ep10, ep11, ep12, ep20, ep21, ep22, ← hva, ← hvb]; grind
  have hTl : 1 * p00 + 18446744073709551616 * p01 + 340282366920938463463374607431768211456 * p02 + 18446744073709551616 * p10 + 340282366920938463463374607431768211456 * p11 + 6277101735386680763835789423207666416102355444464034512896 * p12 + 340282366920938463463374607431768211456 * p20 + 6277101735386680763835789423207666416102355444464034512896 * p21 + 115792089237316195423570985008687907853269984665640564039457584007913129639936 * p22 < 115792089237316195423570985008687907853269984665640564039457584007913129639936 := by
    rw [hT]
    obtain ⟨a0, a1⟩ := id hm0_; obtain ⟨a2, a3⟩ := id hm1_; obtain ⟨a4, a5⟩ := id hm2_; obtain ⟨c0, c1⟩ := id hn0_; obtain ⟨c2, c3⟩ := id hn1_; obtain ⟨c4, c5⟩ := id hn2_
    exact Qf7 (by omega) (by omega) hal hbl
  refine enter 70 [(0, .agg (ints .u64 ([m0_, m1_, m2_]))), (1, .agg (ints .u64 ([n0_, n1_, n2_])))] Tryd.func165 rfl rfl kj rfl ?_
  refine wp_seq_k fun K1 hK1 => ?_
  refine Qab ?_
  refine Qaq (ints .u64 ([m0_, m1_, m2_])) 221 2 rfl kj kj fun g2 W1 l2 e1 r2_1 => ?_
  have x1 : Ext w W1 := Ext.tr (Rely.Ext.refl w) e1
  have b2 : w.heap.size ≤ g2 := Nat.le_trans (Rely.Ext.refl w).size l2
  refine Qaq (ints .u64 ([n0_, n1_, n2_])) 221 3 rfl kj kj fun g3 W2 l3 e2 r3_2 => ?_
  have x2 : Ext w W2 := Ext.tr x1 e2
  have b3 : w.heap.size ≤ g3 := Nat.le_trans x1.size l3
  refine Qaq (ints .u64 ([0, 0, 0])) 221 4 rfl kj kj fun g4 W3 l4 e3 r4_3 => ?_
  have x3 : Ext w W3 := Ext.tr x2 e3
  have b4 : w.heap.size ≤ g4 := Nat.le_trans x2.size l4
  refine Qac ?_
  refine hK1 _ _ ?_
  refine wp_seq_k fun K5 hK5 => ?_
  refine Qab ?_
  refine Qaq (ints .u64 ([0, 0, 0, 0, 0, 0])) 237 5 rfl kj kj fun g6 W4 l6 e4 r6_4 => ?_
  have x4 : Ext w W4 := Ext.tr x3 e4
  have b6 : w.heap.size ≤ g6 := Nat.le_trans x3.size l6
  refine Qac ?_
  refine hK5 _ _ ?_
  refine wp_seq_k fun K7 hK7 => ?_
  refine Qab ?_
  refine Qaa (.func (.func 168) #[] #[.pointer (some ⟨g6, 0, none⟩)]) 14 rfl kj kj ?_
  refine Qaa (.func (.func 168) #[] #[.pointer (some ⟨g6, 0, none⟩)]) 6 rfl kj kj ?_
  refine Qac ?_
  refine hK7 _ _ ?_
  refine wp_seq_k fun K8 hK8 => ?_
  refine wp_seq_k fun K9 hK9 => ?_
  refine Qab ?_
  have r2_2 := (Qad r2_1 e2)
  have r2_3 := (Qad r2_2 e3)
  have r2_4 := (Qad r2_3 e4)
  refine Qaa (.agg (ints .u64 ([m0_, m1_, m2_]))) 15 rfl kj (Qas 221 _ g2 221 _ _ r2_4 rfl kj kj (isz (n := 3) kj kj)) ?_
  refine Qaa (.int .i64 0) 16 rfl kj kj ?_
  refine Qac ?_
  refine hK9 _ _ ?_
  refine wp_block ?_
  refine wp_loop_rounds 4 ?_
  show Code.wp _ _ (Exit.then (Code.rounds _ _ _ 3) _) _ _
  refine wp_seq_k fun K10 hK10 => ?_
  refine Qab ?_
  refine Qaa (.bool true) 17 rfl kj kj ?_
  refine Qac ?_
  refine hK10 _ _ ?_
  refine wp_seq_k fun K11 hK11 => ?_
  refine cond_true kj ?_
  refine wp_skip ?_
  refine hK11 _ _ ?_
  refine wp_seq_k fun K12 hK12 => ?_
  refine wp_block ?_
  refine wp_seq_k fun K13 hK13 => ?_
  refine Qab ?_
  refine Qaa (.int .i64 0) 18 rfl kj kj ?_
  refine Qaa (.int .u64 m0_) 19 rfl kj (Qau 221 _ _ .i64 .u64 ([m0_, m1_, m2_]) 0 3 129 m0_ rfl kj kj kj kj kj rfl (by decide) rfl) ?_
  refine Qaa (.int .i64 0) 7 rfl kj kj ?_
  refine Qaa (.int .u64 m0_) 8 rfl kj kj ?_
  refine Qac ?_
  refine hK13 _ _ ?_
  refine wp_seq_k fun K14 hK14 => ?_
  refine Qab ?_
  have r3_3 := (Qad r3_2 e3)
  have r3_4 := (Qad r3_3 e4)
  refine Qaa (.agg (ints .u64 ([n0_, n1_, n2_]))) 20 rfl kj (Qas 221 _ g3 221 _ _ r3_4 rfl kj kj (isz (n := 3) kj kj)) ?_
  refine Qaa (.int .i64 0) 21 rfl kj kj ?_
  refine Qac ?_
  refine hK14 _ _ ?_
  refine wp_block ?_
  refine wp_loop_rounds 4 ?_
  show Code.wp _ _ (Exit.then (Code.rounds _ _ _ 3) _) _ _
  refine wp_seq_k fun K15 hK15 => ?_
  refine Qab ?_
  refine Qaa (.bool true) 22 rfl kj kj ?_
  refine Qac ?_
  refine hK15 _ _ ?_
  refine wp_seq_k fun K16 hK16 => ?_
  refine cond_true kj ?_
  refine wp_skip ?_
  refine hK16 _ _ ?_
  refine wp_seq_k fun K17 hK17 => ?_
  refine wp_block ?_
  refine wp_seq_k fun K18 hK18 => ?_
  refine Qab ?_
  refine Qaa (.int .i64 0) 23 rfl kj kj ?_
  refine Qaa (.int .u64 n0_) 24 rfl kj (Qau 221 _ _ .i64 .u64 ([n0_, n1_, n2_]) 0 3 129 n0_ rfl kj kj kj kj kj rfl (by decide) rfl) ?_
  refine Qaa (.int .i64 0) 9 rfl kj kj ?_
  refine Qaa (.int .u64 n0_) 10 rfl kj kj ?_
  refine Qac ?_
  refine hK18 _ _ ?_
  refine Qab ?_
  refine Qaa (.func (.func 168) #[] #[.pointer (some ⟨g6, 0, none⟩)]) 25 rfl kj kj ?_
  refine Qaa (.int .i64 0) 26 rfl kj kj ?_
  refine Qaa (.int .i64 0) 27 rfl kj kj ?_
  refine Qaa (.int .i64 0) 28 rfl kj kj ?_
  refine Qaa (.int .u64 m0_) 29 rfl kj kj ?_
  refine Qaa (.int .u64 n0_) 30 rfl kj kj ?_
  refine Qa0 (fun v W' => v = .tuple #[] ∧ ∃ r0 r1 r2 r3 r4 r5 : Int, isW r0 ∧ isW r1 ∧ isW r2 ∧ isW r3 ∧ isW r4 ∧ isW r5 ∧ (r0 + 18446744073709551616 * r1 + 340282366920938463463374607431768211456 * r2 + 6277101735386680763835789423207666416102355444464034512896 * r3 + 115792089237316195423570985008687907853269984665640564039457584007913129639936 * r4 + 2135987035920910082395021706169552114602704522356652769947041607822219725780640550022962086936576 * r5) = (0 + 18446744073709551616 * 0 + 340282366920938463463374607431768211456 * 0 + 6277101735386680763835789423207666416102355444464034512896 * 0 + 115792089237316195423570985008687907853269984665640564039457584007913129639936 * 0 + 2135987035920910082395021706169552114602704522356652769947041607822219725780640550022962086936576 * 0) + 1 * p00 ∧ ExtB g6 W4 W' ∧ W'.heap[g6]? = some (.cells (ints .u64 [r0, r1, r2, r3, r4, r5]) 237)) 168 #[.int .i64 0, .int .u64 m0_, .int .u64 n0_, .pointer (some ⟨g6, 0, none⟩)] 31 rfl kj kj ((QiU g6 0 0 0 0 0 0 m0_ n0_ p00 Qbo Qbo Qbo Qbo Qbo Qbo hm0_ hn0_ ep00.symm (by omega) _ r6_4).mono fun e w' h => ⟨_, h.1, rfl, h.2⟩) fun v W5 h => ?_
  obtain ⟨rfl, z1w0, z1w1, z1w2, z1w3, z1w4, z1w5, hz1w0, hz1w1, hz1w2, hz1w3, hz1w4, hz1w5, hV1, q5, r6_5⟩ := h
  have x5 : Ext w W5 := ExtB.up x4 q5 b6
  have hS1 : (z1w0 + 18446744073709551616 * z1w1 + 340282366920938463463374607431768211456 * z1w2 + 6277101735386680763835789423207666416102355444464034512896 * z1w3 + 115792089237316195423570985008687907853269984665640564039457584007913129639936 * z1w4 + 2135987035920910082395021706169552114602704522356652769947041607822219725780640550022962086936576 * z1w5) = 1 * p00 := by omega
  refine Qac ?_
  refine hK17 _ _ ?_
  refine Qab ?_
  refine Qaa (.int .i64 1) 32 rfl kj kj ?_
  refine Qaa (.int .i64 1) 21 rfl kj kj ?_
  refine Qac ?_
  show Code.rounds _ _ _ 3 _ _
  show Code.wp _ _ (Exit.then (Code.rounds _ _ _ 2) _) _ _
  refine wp_seq_k fun K19 hK19 => ?_
  refine Qab ?_
  refine Qaa (.bool true) 22 rfl kj kj ?_
  refine Qac ?_
  refine hK19 _ _ ?_
  refine wp_seq_k fun K20 hK20 => ?_
  refine cond_true kj ?_
  refine wp_skip ?_
  refine hK20 _ _ ?_
  refine wp_seq_k fun K21 hK21 => ?_
  refine wp_block ?_
  refine wp_seq_k fun K22 hK22 => ?_
  refine Qab ?_
  refine Qaa (.int .i64 1) 23 rfl kj kj ?_
  refine Qaa (.int .u64 n1_) 24 rfl kj (Qau 221 _ _ .i64 .u64 ([n0_, n1_, n2_]) 1 3 129 n1_ rfl kj kj kj kj kj rfl (by decide) rfl) ?_
  refine Qaa (.int .i64 1) 9 rfl kj kj ?_
  refine Qaa (.int .u64 n1_) 10 rfl kj kj ?_
  refine Qac ?_
  refine hK22 _ _ ?_
  refine Qab ?_
  refine Qaa (.func (.func 168) #[] #[.pointer (some ⟨g6, 0, none⟩)]) 25 rfl kj kj ?_
  refine Qaa (.int .i64 0) 26 rfl kj kj ?_
  refine Qaa (.int .i64 1) 27 rfl kj kj ?_
  refine Qaa (.int .i64 1) 28 rfl kj kj ?_
  refine Qaa (.int .u64 m0_) 29 rfl kj kj ?_
  refine Qaa (.int .u64 n1_) 30 rfl kj kj ?_
  refine Qa0 (fun v W' => v = .tuple #[] ∧ ∃ r0 r1 r2 r3 r4 r5 : Int, isW r0 ∧ isW r1 ∧ isW r2 ∧ isW r3 ∧ isW r4 ∧ isW r5 ∧ (r0 + 18446744073709551616 * r1 + 340282366920938463463374607431768211456 * r2 + 6277101735386680763835789423207666416102355444464034512896 * r3 + 115792089237316195423570985008687907853269984665640564039457584007913129639936 * r4 + 2135987035920910082395021706169552114602704522356652769947041607822219725780640550022962086936576 * r5) = (z1w0 + 18446744073709551616 * z1w1 + 340282366920938463463374607431768211456 * z1w2 + 6277101735386680763835789423207666416102355444464034512896 * z1w3 + 115792089237316195423570985008687907853269984665640564039457584007913129639936 * z1w4 + 2135987035920910082395021706169552114602704522356652769947041607822219725780640550022962086936576 * z1w5) + 18446744073709551616 * p01 ∧ ExtB g6 W5 W' ∧ W'.heap[g6]? = some (.cells (ints .u64 [r0, r1, r2, r3, r4, r5]) 237)) 168 #[.int .i64 1, .int .u64 m0_, .int .u64 n1_, .pointer (some ⟨g6, 0, none⟩)] 31 rfl kj kj ((QhC g6 z1w0 z1w1 z1w2 z1w3 z1w4 z1w5 m0_ n1_ p01 hz1w0 hz1w1 hz1w2 hz1w3 hz1w4 hz1w5 hm0_ hn1_ ep01.symm (by rw [hS1]; omega) _ r6_5).mono fun e w' h => ⟨_, h.1, rfl, h.2⟩) fun v W6 h => ?_
  obtain ⟨rfl, z2w0, z2w1, z2w2, z2w3, z2w4, z2w5, hz2w0, hz2w1, hz2w2, hz2w3, hz2w4, hz2w5, hV2, q6, r6_6⟩ := h
  have x6 : Ext w W6 := ExtB.up x5 q6 b6
  have hS2 : (z2w0 + 18446744073709551616 * z2w1 + 340282366920938463463374607431768211456 * z2w2 + 6277101735386680763835789423207666416102355444464034512896 * z2w3 + 115792089237316195423570985008687907853269984665640564039457584007913129639936 * z2w4 + 2135987035920910082395021706169552114602704522356652769947041607822219725780640550022962086936576 * z2w5) = 1 * p00 + 18446744073709551616 * p01 := by omega
  refine Qac ?_
  refine hK21 _ _ ?_
  refine Qab ?_
  refine Qaa (.int .i64 2) 32 rfl kj kj ?_
  refine Qaa (.int .i64 2) 21 rfl kj kj ?_
  refine Qac ?_
  show Code.rounds _ _ _ 2 _ _
  show Code.wp _ _ (Exit.then (Code.rounds _ _ _ 1) _) _ _
  refine wp_seq_k fun K23 hK23 => ?_
  refine Qab ?_
  refine Qaa (.bool true) 22 rfl kj kj ?_
  refine Qac ?_
  refine hK23 _ _ ?_
  refine wp_seq_k fun K24 hK24 => ?_
  refine cond_true kj ?_
  refine wp_skip ?_
  refine hK24 _ _ ?_
  refine wp_seq_k fun K25 hK25 => ?_
  refine wp_block ?_
  refine wp_seq_k fun K26 hK26 => ?_
  refine Qab ?_
  refine Qaa (.int .i64 2) 23 rfl kj kj ?_
  refine Qaa (.int .u64 n2_) 24 rfl kj (Qau 221 _ _ .i64 .u64 ([n0_, n1_, n2_]) 2 3 129 n2_ rfl kj kj kj kj kj rfl (by decide) rfl) ?_
  refine Qaa (.int .i64 2) 9 rfl kj kj ?_
  refine Qaa (.int .u64 n2_) 10 rfl kj kj ?_
  refine Qac ?_
  refine hK26 _ _ ?_
  refine Qab ?_
  refine Qaa (.func (.func 168) #[] #[.pointer (some ⟨g6, 0, none⟩)]) 25 rfl kj kj ?_
  refine Qaa (.int .i64 0) 26 rfl kj kj ?_
  refine Qaa (.int .i64 2) 27 rfl kj kj ?_
  refine Qaa (.int .i64 2) 28 rfl kj kj ?_
  refine Qaa (.int .u64 m0_) 29 rfl kj kj ?_
  refine Qaa (.int .u64 n2_) 30 rfl kj kj ?_
  refine Qa0 (fun v W' => v = .tuple #[] ∧ ∃ r0 r1 r2 r3 r4 r5 : Int, isW r0 ∧ isW r1 ∧ isW r2 ∧ isW r3 ∧ isW r4 ∧ isW r5 ∧ (r0 + 18446744073709551616 * r1 + 340282366920938463463374607431768211456 * r2 + 6277101735386680763835789423207666416102355444464034512896 * r3 + 115792089237316195423570985008687907853269984665640564039457584007913129639936 * r4 + 2135987035920910082395021706169552114602704522356652769947041607822219725780640550022962086936576 * r5) = (z2w0 + 18446744073709551616 * z2w1 + 340282366920938463463374607431768211456 * z2w2 + 6277101735386680763835789423207666416102355444464034512896 * z2w3 + 115792089237316195423570985008687907853269984665640564039457584007913129639936 * z2w4 + 2135987035920910082395021706169552114602704522356652769947041607822219725780640550022962086936576 * z2w5) + 340282366920938463463374607431768211456 * p02 ∧ ExtB g6 W6 W' ∧ W'.heap[g6]? = some (.cells (ints .u64 [r0, r1, r2, r3, r4, r5]) 237)) 168 #[.int .i64 2, .int .u64 m0_, .int .u64 n2_, .pointer (some ⟨g6, 0, none⟩)] 31 rfl kj kj ((QhB g6 z2w0 z2w1 z2w2 z2w3 z2w4 z2w5 m0_ n2_ p02 hz2w0 hz2w1 hz2w2 hz2w3 hz2w4 hz2w5 hm0_ hn2_ ep02.symm (by rw [hS2]; omega) _ r6_6).mono fun e w' h => ⟨_, h.1, rfl, h.2⟩) fun v W7 h => ?_
  obtain ⟨rfl, z3w0, z3w1, z3w2, z3w3, z3w4, z3w5, hz3w0, hz3w1, hz3w2, hz3w3, hz3w4, hz3w5, hV3, q7, r6_7⟩ := h
  have x7 : Ext w W7 := ExtB.up x6 q7 b6
  have hS3 : (z3w0 + 18446744073709551616 * z3w1 + 340282366920938463463374607431768211456 * z3w2 + 6277101735386680763835789423207666416102355444464034512896 * z3w3 + 115792089237316195423570985008687907853269984665640564039457584007913129639936 * z3w4 + 2135987035920910082395021706169552114602704522356652769947041607822219725780640550022962086936576 * z3w5) = 1 * p00 + 18446744073709551616 * p01 + 340282366920938463463374607431768211456 * p02 := by omega
  refine Qac ?_
  refine hK25 _ _ ?_
  refine Qab ?_
  refine Qaa (.int .i64 3) 32 rfl kj kj ?_
  refine Qaa (.int .i64 3) 21 rfl kj kj ?_
  refine Qac ?_
  show Code.rounds _ _ _ 1 _ _
  show Code.wp _ _ (Exit.then (Code.rounds _ _ _ 0) _) _ _
  refine wp_seq_k fun K27 hK27 => ?_
  refine Qab ?_
  refine Qaa (.bool false) 22 rfl kj kj ?_
  refine Qac ?_
  refine hK27 _ _ ?_
  refine wp_seq_k fun K28 hK28 => ?_
  refine cond_false kj ?_
  refine wp_exit ?_
  refine hK12 _ _ ?_
  refine Qab ?_
  refine Qaa (.int .i64 1) 33 rfl kj kj ?_
  refine Qaa (.int .i64 1) 16 rfl kj kj ?_
  refine Qac ?_
  show Code.rounds _ _ _ 3 _ _
  show Code.wp _ _ (Exit.then (Code.rounds _ _ _ 2) _) _ _
  refine wp_seq_k fun K29 hK29 => ?_
  refine Qab ?_
  refine Qaa (.bool true) 17 rfl kj kj ?_
  refine Qac ?_
  refine hK29 _ _ ?_
  refine wp_seq_k fun K30 hK30 => ?_
  refine cond_true kj ?_
  refine wp_skip ?_
  refine hK30 _ _ ?_
  refine wp_seq_k fun K31 hK31 => ?_
  refine wp_block ?_
  refine wp_seq_k fun K32 hK32 => ?_
  refine Qab ?_
  refine Qaa (.int .i64 1) 18 rfl kj kj ?_
  refine Qaa (.int .u64 m1_) 19 rfl kj (Qau 221 _ _ .i64 .u64 ([m0_, m1_, m2_]) 1 3 129 m1_ rfl kj kj kj kj kj rfl (by decide) rfl) ?_
  refine Qaa (.int .i64 1) 7 rfl kj kj ?_
  refine Qaa (.int .u64 m1_) 8 rfl kj kj ?_
  refine Qac ?_
  refine hK32 _ _ ?_
  refine wp_seq_k fun K33 hK33 => ?_
  refine Qab ?_
  have r3_5 := (ExtB.row q5 r3_4 (Qae r3_3 l6))
  have r3_6 := (ExtB.row q6 r3_5 (Qae r3_3 l6))
  have r3_7 := (ExtB.row q7 r3_6 (Qae r3_3 l6))
  refine Qaa (.agg (ints .u64 ([n0_, n1_, n2_]))) 20 rfl kj (Qas 221 _ g3 221 _ _ r3_7 rfl kj kj (isz (n := 3) kj kj)) ?_
  refine Qaa (.int .i64 0) 21 rfl kj kj ?_
  refine Qac ?_
  refine hK33 _ _ ?_
  refine wp_block ?_
  refine wp_loop_rounds 4 ?_
  show Code.wp _ _ (Exit.then (Code.rounds _ _ _ 3) _) _ _
  refine wp_seq_k fun K34 hK34 => ?_
  refine Qab ?_
  refine Qaa (.bool true) 22 rfl kj kj ?_
  refine Qac ?_
  refine hK34 _ _ ?_
  refine wp_seq_k fun K35 hK35 => ?_
  refine cond_true kj ?_
  refine wp_skip ?_
  refine hK35 _ _ ?_
  refine wp_seq_k fun K36 hK36 => ?_
  refine wp_block ?_
  refine wp_seq_k fun K37 hK37 => ?_
  refine Qab ?_
  refine Qaa (.int .i64 0) 23 rfl kj kj ?_
  refine Qaa (.int .u64 n0_) 24 rfl kj (Qau 221 _ _ .i64 .u64 ([n0_, n1_, n2_]) 0 3 129 n0_ rfl kj kj kj kj kj rfl (by decide) rfl) ?_
  refine Qaa (.int .i64 0) 9 rfl kj kj ?_
  refine Qaa (.int .u64 n0_) 10 rfl kj kj ?_
  refine Qac ?_
  refine hK37 _ _ ?_
  refine Qab ?_
  refine Qaa (.func (.func 168) #[] #[.pointer (some ⟨g6, 0, none⟩)]) 25 rfl kj kj ?_
  refine Qaa (.int .i64 1) 26 rfl kj kj ?_
  refine Qaa (.int .i64 0) 27 rfl kj kj ?_
  refine Qaa (.int .i64 1) 28 rfl kj kj ?_
  refine Qaa (.int .u64 m1_) 29 rfl kj kj ?_
  refine Qaa (.int .u64 n0_) 30 rfl kj kj ?_
  refine Qa0 (fun v W' => v = .tuple #[] ∧ ∃ r0 r1 r2 r3 r4 r5 : Int, isW r0 ∧ isW r1 ∧ isW r2 ∧ isW r3 ∧ isW r4 ∧ isW r5 ∧ (r0 + 18446744073709551616 * r1 + 340282366920938463463374607431768211456 * r2 + 6277101735386680763835789423207666416102355444464034512896 * r3 + 115792089237316195423570985008687907853269984665640564039457584007913129639936 * r4 + 2135987035920910082395021706169552114602704522356652769947041607822219725780640550022962086936576 * r5) = (z3w0 + 18446744073709551616 * z3w1 + 340282366920938463463374607431768211456 * z3w2 + 6277101735386680763835789423207666416102355444464034512896 * z3w3 + 115792089237316195423570985008687907853269984665640564039457584007913129639936 * z3w4 + 2135987035920910082395021706169552114602704522356652769947041607822219725780640550022962086936576 * z3w5) + 18446744073709551616 * p10 ∧ ExtB g6 W7 W' ∧ W'.heap[g6]? = some (.cells (ints .u64 [r0, r1, r2, r3, r4, r5]) 237)) 168 #[.int .i64 1, .int .u64 m1_, .int .u64 n0_, .pointer (some ⟨g6, 0, none⟩)] 31 rfl kj kj ((QhC g6 z3w0 z3w1 z3w2 z3w3 z3w4 z3w5 m1_ n0_ p10 hz3w0 hz3w1 hz3w2 hz3w3 hz3w4 hz3w5 hm1_ hn0_ ep10.symm (by rw [hS3]; omega) _ r6_7).mono fun e w' h => ⟨_, h.1, rfl, h.2⟩) fun v W8 h => ?_
  obtain ⟨rfl, z4w0, z4w1, z4w2, z4w3, z4w4, z4w5, hz4w0, hz4w1, hz4w2, hz4w3, hz4w4, hz4w5, hV4, q8, r6_8⟩ := h
  have x8 : Ext w W8 := ExtB.up x7 q8 b6
  have hS4 : (z4w0 + 18446744073709551616 * z4w1 + 340282366920938463463374607431768211456 * z4w2 + 6277101735386680763835789423207666416102355444464034512896 * z4w3 + 115792089237316195423570985008687907853269984665640564039457584007913129639936 * z4w4 + 2135987035920910082395021706169552114602704522356652769947041607822219725780640550022962086936576 * z4w5) = 1 * p00 + 18446744073709551616 * p01 + 340282366920938463463374607431768211456 * p02 + 18446744073709551616 * p10 := by omega
  refine Qac ?_
  refine hK36 _ _ ?_
  refine Qab ?_
  refine Qaa (.int .i64 1) 32 rfl kj kj ?_
  refine Qaa (.int .i64 1) 21 rfl kj kj ?_
  refine Qac ?_
  show Code.rounds _ _ _ 3 _ _
  show Code.wp _ _ (Exit.then (Code.rounds _ _ _ 2) _) _ _
  refine wp_seq_k fun K38 hK38 => ?_
  refine Qab ?_
  refine Qaa (.bool true) 22 rfl kj kj ?_
  refine Qac ?_
  refine hK38 _ _ ?_
  refine wp_seq_k fun K39 hK39 => ?_
  refine cond_true kj ?_
  refine wp_skip ?_
  refine hK39 _ _ ?_
  refine wp_seq_k fun K40 hK40 => ?_
  refine wp_block ?_
  refine wp_seq_k fun K41 hK41 => ?_
  refine Qab ?_
  refine Qaa (.int .i64 1) 23 rfl kj kj ?_
  refine Qaa (.int .u64 n1_) 24 rfl kj (Qau 221 _ _ .i64 .u64 ([n0_, n1_, n2_]) 1 3 129 n1_ rfl kj kj kj kj kj rfl (by decide) rfl) ?_
  refine Qaa (.int .i64 1) 9 rfl kj kj ?_
  refine Qaa (.int .u64 n1_) 10 rfl kj kj ?_
  refine Qac ?_
  refine hK41 _ _ ?_
  refine Qab ?_
  refine Qaa (.func (.func 168) #[] #[.pointer (some ⟨g6, 0, none⟩)]) 25 rfl kj kj ?_
  refine Qaa (.int .i64 1) 26 rfl kj kj ?_
  refine Qaa (.int .i64 1) 27 rfl kj kj ?_
  refine Qaa (.int .i64 2) 28 rfl kj kj ?_
  refine Qaa (.int .u64 m1_) 29 rfl kj kj ?_
  refine Qaa (.int .u64 n1_) 30 rfl kj kj ?_
  refine Qa0 (fun v W' => v = .tuple #[] ∧ ∃ r0 r1 r2 r3 r4 r5 : Int, isW r0 ∧ isW r1 ∧ isW r2 ∧ isW r3 ∧ isW r4 ∧ isW r5 ∧ (r0 + 18446744073709551616 * r1 + 340282366920938463463374607431768211456 * r2 + 6277101735386680763835789423207666416102355444464034512896 * r3 + 115792089237316195423570985008687907853269984665640564039457584007913129639936 * r4 + 2135987035920910082395021706169552114602704522356652769947041607822219725780640550022962086936576 * r5) = (z4w0 + 18446744073709551616 * z4w1 + 340282366920938463463374607431768211456 * z4w2 + 6277101735386680763835789423207666416102355444464034512896 * z4w3 + 115792089237316195423570985008687907853269984665640564039457584007913129639936 * z4w4 + 2135987035920910082395021706169552114602704522356652769947041607822219725780640550022962086936576 * z4w5) + 340282366920938463463374607431768211456 * p11 ∧ ExtB g6 W8 W' ∧ W'.heap[g6]? = some (.cells (ints .u64 [r0, r1, r2, r3, r4, r5]) 237)) 168 #[.int .i64 2, .int .u64 m1_, .int .u64 n1_, .pointer (some ⟨g6, 0, none⟩)] 31 rfl kj kj ((QhB g6 z4w0 z4w1 z4w2 z4w3 z4w4 z4w5 m1_ n1_ p11 hz4w0 hz4w1 hz4w2 hz4w3 hz4w4 hz4w5 hm1_ hn1_ ep11.symm (by rw [hS4]; omega) _ r6_8).mono fun e w' h => ⟨_, h.1, rfl, h.2⟩) fun v W9 h => ?_
  obtain ⟨rfl, z5w0, z5w1, z5w2, z5w3, z5w4, z5w5, hz5w0, hz5w1, hz5w2, hz5w3, hz5w4, hz5w5, hV5, q9, r6_9⟩ := h
  have x9 : Ext w W9 := ExtB.up x8 q9 b6
  have hS5 : (z5w0 + 18446744073709551616 * z5w1 + 340282366920938463463374607431768211456 * z5w2 + 6277101735386680763835789423207666416102355444464034512896 * z5w3 + 115792089237316195423570985008687907853269984665640564039457584007913129639936 * z5w4 + 2135987035920910082395021706169552114602704522356652769947041607822219725780640550022962086936576 * z5w5) = 1 * p00 + 18446744073709551616 * p01 + 340282366920938463463374607431768211456 * p02 + 18446744073709551616 * p10 + 340282366920938463463374607431768211456 * p11 := by omega
  refine Qac ?_
  refine hK40 _ _ ?_
  refine Qab ?_
  refine Qaa (.int .i64 2) 32 rfl kj kj ?_
  refine Qaa (.int .i64 2) 21 rfl kj kj ?_
  refine Qac ?_
  show Code.rounds _ _ _ 2 _ _
  show Code.wp _ _ (Exit.then (Code.rounds _ _ _ 1) _) _ _
  refine wp_seq_k fun K42 hK42 => ?_
  refine Qab ?_
  refine Qaa (.bool true) 22 rfl kj kj ?_
  refine Qac ?_
  refine hK42 _ _ ?_
  refine wp_seq_k fun K43 hK43 => ?_
  refine cond_true kj ?_
  refine wp_skip ?_
  refine hK43 _ _ ?_
  refine wp_seq_k fun K44 hK44 => ?_
  refine wp_block ?_
  refine wp_seq_k fun K45 hK45 => ?_
  refine Qab ?_
  refine Qaa (.int .i64 2) 23 rfl kj kj ?_
  refine Qaa (.int .u64 n2_) 24 rfl kj (Qau 221 _ _ .i64 .u64 ([n0_, n1_, n2_]) 2 3 129 n2_ rfl kj kj kj kj kj rfl (by decide) rfl) ?_
  refine Qaa (.int .i64 2) 9 rfl kj kj ?_
  refine Qaa (.int .u64 n2_) 10 rfl kj kj ?_
  refine Qac ?_
  refine hK45 _ _ ?_
  refine Qab ?_
  refine Qaa (.func (.func 168) #[] #[.pointer (some ⟨g6, 0, none⟩)]) 25 rfl kj kj ?_
  refine Qaa (.int .i64 1) 26 rfl kj kj ?_
  refine Qaa (.int .i64 2) 27 rfl kj kj ?_
  refine Qaa (.int .i64 3) 28 rfl kj kj ?_
  refine Qaa (.int .u64 m1_) 29 rfl kj kj ?_
  refine Qaa (.int .u64 n2_) 30 rfl kj kj ?_
  refine Qa0 (fun v W' => v = .tuple #[] ∧ ∃ r0 r1 r2 r3 r4 r5 : Int, isW r0 ∧ isW r1 ∧ isW r2 ∧ isW r3 ∧ isW r4 ∧ isW r5 ∧ (r0 + 18446744073709551616 * r1 + 340282366920938463463374607431768211456 * r2 + 6277101735386680763835789423207666416102355444464034512896 * r3 + 115792089237316195423570985008687907853269984665640564039457584007913129639936 * r4 + 2135987035920910082395021706169552114602704522356652769947041607822219725780640550022962086936576 * r5) = (z5w0 + 18446744073709551616 * z5w1 + 340282366920938463463374607431768211456 * z5w2 + 6277101735386680763835789423207666416102355444464034512896 * z5w3 + 115792089237316195423570985008687907853269984665640564039457584007913129639936 * z5w4 + 2135987035920910082395021706169552114602704522356652769947041607822219725780640550022962086936576 * z5w5) + 6277101735386680763835789423207666416102355444464034512896 * p12 ∧ ExtB g6 W9 W' ∧ W'.heap[g6]? = some (.cells (ints .u64 [r0, r1, r2, r3, r4, r5]) 237)) 168 #[.int .i64 3, .int .u64 m1_, .int .u64 n2_, .pointer (some ⟨g6, 0, none⟩)] 31 rfl kj kj ((QiT g6 z5w0 z5w1 z5w2 z5w3 z5w4 z5w5 m1_ n2_ p12 hz5w0 hz5w1 hz5w2 hz5w3 hz5w4 hz5w5 hm1_ hn2_ ep12.symm (by rw [hS5]; omega) _ r6_9).mono fun e w' h => ⟨_, h.1, rfl, h.2⟩) fun v W10 h => ?_
  obtain ⟨rfl, z6w0, z6w1, z6w2, z6w3, z6w4, z6w5, hz6w0, hz6w1, hz6w2, hz6w3, hz6w4, hz6w5, hV6, q10, r6_10⟩ := h
  have x10 : Ext w W10 := ExtB.up x9 q10 b6
  have hS6 : (z6w0 + 18446744073709551616 * z6w1 + 340282366920938463463374607431768211456 * z6w2 + 6277101735386680763835789423207666416102355444464034512896 * z6w3 + 115792089237316195423570985008687907853269984665640564039457584007913129639936 * z6w4 + 2135987035920910082395021706169552114602704522356652769947041607822219725780640550022962086936576 * z6w5) = 1 * p00 + 18446744073709551616 * p01 + 340282366920938463463374607431768211456 * p02 + 18446744073709551616 * p10 + 340282366920938463463374607431768211456 * p11 + 6277101735386680763835789423207666416102355444464034512896 * p12 := by omega
  refine Qac ?_
  refine hK44 _ _ ?_
  refine Qab ?_
  refine Qaa (.int .i64 3) 32 rfl kj kj ?_
  refine Qaa (.int .i64 3) 21 rfl kj kj ?_
  refine Qac ?_
  show Code.rounds _ _ _ 1 _ _
  show Code.wp _ _ (Exit.then (Code.rounds _ _ _ 0) _) _ _
  refine wp_seq_k fun K46 hK46 => ?_
  refine Qab ?_
  refine Qaa (.bool false) 22 rfl kj kj ?_
  refine Qac ?_
  refine hK46 _ _ ?_
  refine wp_seq_k fun K47 hK47 => ?_
  refine cond_false kj ?_
  refine wp_exit ?_
  refine hK31 _ _ ?_
  refine Qab ?_
  refine Qaa (.int .i64 2) 33 rfl kj kj ?_
  refine Qaa (.int .i64 2) 16 rfl kj kj ?_
  refine Qac ?_
  show Code.rounds _ _ _ 2 _ _
  show Code.wp _ _ (Exit.then (Code.rounds _ _ _ 1) _) _ _
  refine wp_seq_k fun K48 hK48 => ?_
  refine Qab ?_
  refine Qaa (.bool true) 17 rfl kj kj ?_
  refine Qac ?_
  refine hK48 _ _ ?_
  refine wp_seq_k fun K49 hK49 => ?_
  refine cond_true kj ?_
  refine wp_skip ?_
  refine hK49 _ _ ?_
  refine wp_seq_k fun K50 hK50 => ?_
  refine wp_block ?_
  refine wp_seq_k fun K51 hK51 => ?_
  refine Qab ?_
  refine Qaa (.int .i64 2) 18 rfl kj kj ?_
  refine Qaa (.int .u64 m2_) 19 rfl kj (Qau 221 _ _ .i64 .u64 ([m0_, m1_, m2_]) 2 3 129 m2_ rfl kj kj kj kj kj rfl (by decide) rfl) ?_
  refine Qaa (.int .i64 2) 7 rfl kj kj ?_
  refine Qaa (.int .u64 m2_) 8 rfl kj kj ?_
  refine Qac ?_
  refine hK51 _ _ ?_
  refine wp_seq_k fun K52 hK52 => ?_
  refine Qab ?_
  have r3_8 := (ExtB.row q8 r3_7 (Qae r3_3 l6))
  have r3_9 := (ExtB.row q9 r3_8 (Qae r3_3 l6))
  have r3_10 := (ExtB.row q10 r3_9 (Qae r3_3 l6))
  refine Qaa (.agg (ints .u64 ([n0_, n1_, n2_]))) 20 rfl kj (Qas 221 _ g3 221 _ _ r3_10 rfl kj kj (isz (n := 3) kj kj)) ?_
  refine Qaa (.int .i64 0) 21 rfl kj kj ?_
  refine Qac ?_
  refine hK52 _ _ ?_
  refine wp_block ?_
  refine wp_loop_rounds 4 ?_
  show Code.wp _ _ (Exit.then (Code.rounds _ _ _ 3) _) _ _
  refine wp_seq_k fun K53 hK53 => ?_
  refine Qab ?_
  refine Qaa (.bool true) 22 rfl kj kj ?_
  refine Qac ?_
  refine hK53 _ _ ?_
  refine wp_seq_k fun K54 hK54 => ?_
  refine cond_true kj ?_
  refine wp_skip ?_
  refine hK54 _ _ ?_
  refine wp_seq_k fun K55 hK55 => ?_
  refine wp_block ?_
  refine wp_seq_k fun K56 hK56 => ?_
  refine Qab ?_
  refine Qaa (.int .i64 0) 23 rfl kj kj ?_
  refine Qaa (.int .u64 n0_) 24 rfl kj (Qau 221 _ _ .i64 .u64 ([n0_, n1_, n2_]) 0 3 129 n0_ rfl kj kj kj kj kj rfl (by decide) rfl) ?_
  refine Qaa (.int .i64 0) 9 rfl kj kj ?_
  refine Qaa (.int .u64 n0_) 10 rfl kj kj ?_
  refine Qac ?_
  refine hK56 _ _ ?_
  refine Qab ?_
  refine Qaa (.func (.func 168) #[] #[.pointer (some ⟨g6, 0, none⟩)]) 25 rfl kj kj ?_
  refine Qaa (.int .i64 2) 26 rfl kj kj ?_
  refine Qaa (.int .i64 0) 27 rfl kj kj ?_
  refine Qaa (.int .i64 2) 28 rfl kj kj ?_
  refine Qaa (.int .u64 m2_) 29 rfl kj kj ?_
  refine Qaa (.int .u64 n0_) 30 rfl kj kj ?_
  refine Qa0 (fun v W' => v = .tuple #[] ∧ ∃ r0 r1 r2 r3 r4 r5 : Int, isW r0 ∧ isW r1 ∧ isW r2 ∧ isW r3 ∧ isW r4 ∧ isW r5 ∧ (r0 + 18446744073709551616 * r1 + 340282366920938463463374607431768211456 * r2 + 6277101735386680763835789423207666416102355444464034512896 * r3 + 115792089237316195423570985008687907853269984665640564039457584007913129639936 * r4 + 2135987035920910082395021706169552114602704522356652769947041607822219725780640550022962086936576 * r5) = (z6w0 + 18446744073709551616 * z6w1 + 340282366920938463463374607431768211456 * z6w2 + 6277101735386680763835789423207666416102355444464034512896 * z6w3 + 115792089237316195423570985008687907853269984665640564039457584007913129639936 * z6w4 + 2135987035920910082395021706169552114602704522356652769947041607822219725780640550022962086936576 * z6w5) + 340282366920938463463374607431768211456 * p20 ∧ ExtB g6 W10 W' ∧ W'.heap[g6]? = some (.cells (ints .u64 [r0, r1, r2, r3, r4, r5]) 237)) 168 #[.int .i64 2, .int .u64 m2_, .int .u64 n0_, .pointer (some ⟨g6, 0, none⟩)] 31 rfl kj kj ((QhB g6 z6w0 z6w1 z6w2 z6w3 z6w4 z6w5 m2_ n0_ p20 hz6w0 hz6w1 hz6w2 hz6w3 hz6w4 hz6w5 hm2_ hn0_ ep20.symm (by rw [hS6]; omega) _ r6_10).mono fun e w' h => ⟨_, h.1, rfl, h.2⟩) fun v W11 h => ?_
  obtain ⟨rfl, z7w0, z7w1, z7w2, z7w3, z7w4, z7w5, hz7w0, hz7w1, hz7w2, hz7w3, hz7w4, hz7w5, hV7, q11, r6_11⟩ := h
  have x11 : Ext w W11 := ExtB.up x10 q11 b6
  have hS7 : (z7w0 + 18446744073709551616 * z7w1 + 340282366920938463463374607431768211456 * z7w2 + 6277101735386680763835789423207666416102355444464034512896 * z7w3 + 115792089237316195423570985008687907853269984665640564039457584007913129639936 * z7w4 + 2135987035920910082395021706169552114602704522356652769947041607822219725780640550022962086936576 * z7w5) = 1 * p00 + 18446744073709551616 * p01 + 340282366920938463463374607431768211456 * p02 + 18446744073709551616 * p10 + 340282366920938463463374607431768211456 * p11 + 6277101735386680763835789423207666416102355444464034512896 * p12 + 340282366920938463463374607431768211456 * p20 := by omega
  refine Qac ?_
  refine hK55 _ _ ?_
  refine Qab ?_
  refine Qaa (.int .i64 1) 32 rfl kj kj ?_
  refine Qaa (.int .i64 1) 21 rfl kj kj ?_
  refine Qac ?_
  show Code.rounds _ _ _ 3 _ _
  show Code.wp _ _ (Exit.then (Code.rounds _ _ _ 2) _) _ _
  refine wp_seq_k fun K57 hK57 => ?_
  refine Qab ?_
  refine Qaa (.bool true) 22 rfl kj kj ?_
  refine Qac ?_
  refine hK57 _ _ ?_
  refine wp_seq_k fun K58 hK58 => ?_
  refine cond_true kj ?_
  refine wp_skip ?_
  refine hK58 _ _ ?_
  refine wp_seq_k fun K59 hK59 => ?_
  refine wp_block ?_
  refine wp_seq_k fun K60 hK60 => ?_
  refine Qab ?_
  refine Qaa (.int .i64 1) 23 rfl kj kj ?_
  refine Qaa (.int .u64 n1_) 24 rfl kj (Qau 221 _ _ .i64 .u64 ([n0_, n1_, n2_]) 1 3 129 n1_ rfl kj kj kj kj kj rfl (by decide) rfl) ?_
  refine Qaa (.int .i64 1) 9 rfl kj kj ?_
  refine Qaa (.int .u64 n1_) 10 rfl kj kj ?_
  refine Qac ?_
  refine hK60 _ _ ?_
  refine Qab ?_
  refine Qaa (.func (.func 168) #[] #[.pointer (some ⟨g6, 0, none⟩)]) 25 rfl kj kj ?_
  refine Qaa (.int .i64 2) 26 rfl kj kj ?_
  refine Qaa (.int .i64 1) 27 rfl kj kj ?_
  refine Qaa (.int .i64 3) 28 rfl kj kj ?_
  refine Qaa (.int .u64 m2_) 29 rfl kj kj ?_
  refine Qaa (.int .u64 n1_) 30 rfl kj kj ?_
  refine Qa0 (fun v W' => v = .tuple #[] ∧ ∃ r0 r1 r2 r3 r4 r5 : Int, isW r0 ∧ isW r1 ∧ isW r2 ∧ isW r3 ∧ isW r4 ∧ isW r5 ∧ (r0 + 18446744073709551616 * r1 + 340282366920938463463374607431768211456 * r2 + 6277101735386680763835789423207666416102355444464034512896 * r3 + 115792089237316195423570985008687907853269984665640564039457584007913129639936 * r4 + 2135987035920910082395021706169552114602704522356652769947041607822219725780640550022962086936576 * r5) = (z7w0 + 18446744073709551616 * z7w1 + 340282366920938463463374607431768211456 * z7w2 + 6277101735386680763835789423207666416102355444464034512896 * z7w3 + 115792089237316195423570985008687907853269984665640564039457584007913129639936 * z7w4 + 2135987035920910082395021706169552114602704522356652769947041607822219725780640550022962086936576 * z7w5) + 6277101735386680763835789423207666416102355444464034512896 * p21 ∧ ExtB g6 W11 W' ∧ W'.heap[g6]? = some (.cells (ints .u64 [r0, r1, r2, r3, r4, r5]) 237)) 168 #[.int .i64 3, .int .u64 m2_, .int .u64 n1_, .pointer (some ⟨g6, 0, none⟩)] 31 rfl kj kj ((QiT g6 z7w0 z7w1 z7w2 z7w3 z7w4 z7w5 m2_ n1_ p21 hz7w0 hz7w1 hz7w2 hz7w3 hz7w4 hz7w5 hm2_ hn1_ ep21.symm (by rw [hS7]; omega) _ r6_11).mono fun e w' h => ⟨_, h.1, rfl, h.2⟩) fun v W12 h => ?_
  obtain ⟨rfl, z8w0, z8w1, z8w2, z8w3, z8w4, z8w5, hz8w0, hz8w1, hz8w2, hz8w3, hz8w4, hz8w5, hV8, q12, r6_12⟩ := h
  have x12 : Ext w W12 := ExtB.up x11 q12 b6
  have hS8 : (z8w0 + 18446744073709551616 * z8w1 + 340282366920938463463374607431768211456 * z8w2 + 6277101735386680763835789423207666416102355444464034512896 * z8w3 + 115792089237316195423570985008687907853269984665640564039457584007913129639936 * z8w4 + 2135987035920910082395021706169552114602704522356652769947041607822219725780640550022962086936576 * z8w5) = 1 * p00 + 18446744073709551616 * p01 + 340282366920938463463374607431768211456 * p02 + 18446744073709551616 * p10 + 340282366920938463463374607431768211456 * p11 + 6277101735386680763835789423207666416102355444464034512896 * p12 + 340282366920938463463374607431768211456 * p20 + 6277101735386680763835789423207666416102355444464034512896 * p21 := by omega
  refine Qac ?_
  refine hK59 _ _ ?_
  refine Qab ?_
  refine Qaa (.int .i64 2) 32 rfl kj kj ?_
  refine Qaa (.int .i64 2) 21 rfl kj kj ?_
  refine Qac ?_
  show Code.rounds _ _ _ 2 _ _
  show Code.wp _ _ (Exit.then (Code.rounds _ _ _ 1) _) _ _
  refine wp_seq_k fun K61 hK61 => ?_
  refine Qab ?_
  refine Qaa (.bool true) 22 rfl kj kj ?_
  refine Qac ?_
  refine hK61 _ _ ?_
  refine wp_seq_k fun K62 hK62 => ?_
  refine cond_true kj ?_
  refine wp_skip ?_
  refine hK62 _ _ ?_
  refine wp_seq_k fun K63 hK63 => ?_
  refine wp_block ?_
  refine wp_seq_k fun K64 hK64 => ?_
  refine Qab ?_
  refine Qaa (.int .i64 2) 23 rfl kj kj ?_
  refine Qaa (.int .u64 n2_) 24 rfl kj (Qau 221 _ _ .i64 .u64 ([n0_, n1_, n2_]) 2 3 129 n2_ rfl kj kj kj kj kj rfl (by decide) rfl) ?_
  refine Qaa (.int .i64 2) 9 rfl kj kj ?_
  refine Qaa (.int .u64 n2_) 10 rfl kj kj ?_
  refine Qac ?_
  refine hK64 _ _ ?_
  refine Qab ?_
  refine Qaa (.func (.func 168) #[] #[.pointer (some ⟨g6, 0, none⟩)]) 25 rfl kj kj ?_
  refine Qaa (.int .i64 2) 26 rfl kj kj ?_
  refine Qaa (.int .i64 2) 27 rfl kj kj ?_
  refine Qaa (.int .i64 4) 28 rfl kj kj ?_
  refine Qaa (.int .u64 m2_) 29 rfl kj kj ?_
  refine Qaa (.int .u64 n2_) 30 rfl kj kj ?_
  refine Qa0 (fun v W' => v = .tuple #[] ∧ ∃ r0 r1 r2 r3 r4 r5 : Int, isW r0 ∧ isW r1 ∧ isW r2 ∧ isW r3 ∧ isW r4 ∧ isW r5 ∧ (r0 + 18446744073709551616 * r1 + 340282366920938463463374607431768211456 * r2 + 6277101735386680763835789423207666416102355444464034512896 * r3 + 115792089237316195423570985008687907853269984665640564039457584007913129639936 * r4 + 2135987035920910082395021706169552114602704522356652769947041607822219725780640550022962086936576 * r5) = (z8w0 + 18446744073709551616 * z8w1 + 340282366920938463463374607431768211456 * z8w2 + 6277101735386680763835789423207666416102355444464034512896 * z8w3 + 115792089237316195423570985008687907853269984665640564039457584007913129639936 * z8w4 + 2135987035920910082395021706169552114602704522356652769947041607822219725780640550022962086936576 * z8w5) + 115792089237316195423570985008687907853269984665640564039457584007913129639936 * p22 ∧ ExtB g6 W12 W' ∧ W'.heap[g6]? = some (.cells (ints .u64 [r0, r1, r2, r3, r4, r5]) 237)) 168 #[.int .i64 4, .int .u64 m2_, .int .u64 n2_, .pointer (some ⟨g6, 0, none⟩)] 31 rfl kj kj ((QjY g6 z8w0 z8w1 z8w2 z8w3 z8w4 z8w5 m2_ n2_ p22 hz8w0 hz8w1 hz8w2 hz8w3 hz8w4 hz8w5 hm2_ hn2_ ep22.symm (by rw [hS8]; omega) _ r6_12).mono fun e w' h => ⟨_, h.1, rfl, h.2⟩) fun v W13 h => ?_
  obtain ⟨rfl, z9w0, z9w1, z9w2, z9w3, z9w4, z9w5, hz9w0, hz9w1, hz9w2, hz9w3, hz9w4, hz9w5, hV9, q13, r6_13⟩ := h
  have x13 : Ext w W13 := ExtB.up x12 q13 b6
  have hS9 : (z9w0 + 18446744073709551616 * z9w1 + 340282366920938463463374607431768211456 * z9w2 + 6277101735386680763835789423207666416102355444464034512896 * z9w3 + 115792089237316195423570985008687907853269984665640564039457584007913129639936 * z9w4 + 2135987035920910082395021706169552114602704522356652769947041607822219725780640550022962086936576 * z9w5) = 1 * p00 + 18446744073709551616 * p01 + 340282366920938463463374607431768211456 * p02 + 18446744073709551616 * p10 + 340282366920938463463374607431768211456 * p11 + 6277101735386680763835789423207666416102355444464034512896 * p12 + 340282366920938463463374607431768211456 * p20 + 6277101735386680763835789423207666416102355444464034512896 * p21 + 115792089237316195423570985008687907853269984665640564039457584007913129639936 * p22 := by omega
  refine Qac ?_
  refine hK63 _ _ ?_
  refine Qab ?_
  refine Qaa (.int .i64 3) 32 rfl kj kj ?_
  refine Qaa (.int .i64 3) 21 rfl kj kj ?_
  refine Qac ?_
  show Code.rounds _ _ _ 1 _ _
  show Code.wp _ _ (Exit.then (Code.rounds _ _ _ 0) _) _ _
  refine wp_seq_k fun K65 hK65 => ?_
  refine Qab ?_
  refine Qaa (.bool false) 22 rfl kj kj ?_
  refine Qac ?_
  refine hK65 _ _ ?_
  refine wp_seq_k fun K66 hK66 => ?_
  refine cond_false kj ?_
  refine wp_exit ?_
  refine hK50 _ _ ?_
  refine Qab ?_
  refine Qaa (.int .i64 3) 33 rfl kj kj ?_
  refine Qaa (.int .i64 3) 16 rfl kj kj ?_
  refine Qac ?_
  show Code.rounds _ _ _ 1 _ _
  show Code.wp _ _ (Exit.then (Code.rounds _ _ _ 0) _) _ _
  refine wp_seq_k fun K67 hK67 => ?_
  refine Qab ?_
  refine Qaa (.bool false) 17 rfl kj kj ?_
  refine Qac ?_
  refine hK67 _ _ ?_
  refine wp_seq_k fun K68 hK68 => ?_
  refine cond_false kj ?_
  refine wp_exit ?_
  refine hK8 _ _ ?_
  refine wp_seq_k fun K69 hK69 => ?_
  refine Qab ?_
  obtain ⟨e0_, ee0⟩ : ∃ z, z = z9w2 / 4 + z9w3 % 4 * 4611686018427387904 := ⟨_, rfl⟩
  obtain ⟨e1_, ee1⟩ : ∃ z, z = z9w3 / 4 := ⟨_, rfl⟩
  have he0 : isW e0_ := by obtain ⟨a1, a2⟩ := id hz9w2; obtain ⟨a3, a4⟩ := id hz9w3; exact ⟨by omega, by omega⟩
  have he1 : isW e1_ := by obtain ⟨a3, a4⟩ := id hz9w3; exact ⟨by omega, by omega⟩
  refine Qaa (.pointer (some ⟨g6, 2, none⟩)) 34 rfl kj kj ?_
  refine Qaa (.int .u64 z9w2) 35 rfl kj (Qag 129 _ g6 2 237 _ (.int .u64 z9w2) _ r6_13 rfl kj kj kj) ?_
  refine Qaa (.int .u64 (z9w2 / 4)) 36 rfl kj (Qa3 .shr _ _ _ _ .u64 .u64 _ _ _ rfl kj kj (Qbg _ _ _ _ _ _ (by decide) (shr2 _ hz9w2))) ?_
  refine Qaa (.pointer (some ⟨g6, 3, none⟩)) 37 rfl kj kj ?_
  refine Qaa (.int .u64 z9w3) 38 rfl kj (Qag 129 _ g6 3 237 _ (.int .u64 z9w3) _ r6_13 rfl kj kj kj) ?_
  refine Qaa (.int .u64 (z9w3 % 4 * 4611686018427387904)) 39 rfl kj (Qa3 .shl _ _ _ _ .u64 .u64 _ _ _ rfl kj kj (Qe1 _ _ _ _ _ _ (by decide) (Qk4 _ hz9w3))) ?_
  refine Qaa (.int .u64 (e0_)) 40 rfl kj (Qal (u := .int .u64 (bits .or .u64 ((z9w2 / 4)) ((z9w3 % 4 * 4611686018427387904)))) kj (congrArg (Value.int .u64) ((or62 _ _ hz9w2 hz9w3).trans ee0.symm))) ?_
  refine Qaa (.pointer (some ⟨g6, 3, none⟩)) 41 rfl kj kj ?_
  refine Qaa (.int .u64 z9w3) 42 rfl kj (Qag 129 _ g6 3 237 _ (.int .u64 z9w3) _ r6_13 rfl kj kj kj) ?_
  refine Qaa (.int .u64 (e1_)) 43 rfl kj (Qa3 .shr _ _ _ _ .u64 .u64 _ _ _ rfl kj kj (Qbg _ _ _ _ _ _ (by decide) ((shr2 _ hz9w3).trans ee1.symm))) ?_
  refine Qaa (.agg (ints .u64 ([(e0_), (e1_)]))) 44 rfl kj kj ?_
  refine Qaq (ints .u64 ([0, 0])) 240 11 rfl kj kj fun g70 W14 l70 e14 r70_14 => ?_
  have x14 : Ext w W14 := Ext.tr x13 e14
  have b70 : w.heap.size ≤ g70 := Nat.le_trans x13.size l70
  refine Qah g70 _ (ints .u64 ([(e0_), (e1_)])) 240 r70_14 rfl kj (Qam 240 _ _ g70 240 _ _ r70_14 rfl kj kj (isz (n := 2) kj kj) (eqsz (n := 2) kj kj) (Qay _ _)) fun W15 p15 r70_15 => ?_
  have x15 : Ext w W15 := Puts.ext p15 x14 b70
  refine Qac ?_
  refine hK69 _ _ ?_
  refine wp_seq_k fun K71 hK71 => ?_
  refine Qab ?_
  refine Qaa (.pointer (some ⟨g6, 0, none⟩)) 45 rfl kj kj ?_
  have r6_14 := (Qad r6_13 e14)
  have r6_15 := (Puts.row p15 r6_14 (Qae r6_13 l70))
  refine Qaa (.int .u64 z9w0) 46 rfl kj (Qag 129 _ g6 0 237 _ (.int .u64 z9w0) _ r6_15 rfl kj kj kj) ?_
  refine Qaa (.pointer (some ⟨g6, 1, none⟩)) 47 rfl kj kj ?_
  refine Qaa (.int .u64 z9w1) 48 rfl kj (Qag 129 _ g6 1 237 _ (.int .u64 z9w1) _ r6_15 rfl kj kj kj) ?_
  refine Qaa (.pointer (some ⟨g6, 2, none⟩)) 49 rfl kj kj ?_
  refine Qaa (.int .u64 z9w2) 50 rfl kj (Qag 129 _ g6 2 237 _ (.int .u64 z9w2) _ r6_15 rfl kj kj kj) ?_
  refine Qaa (.int .u64 (z9w2 % 4)) 51 rfl kj (Qal (u := .int .u64 (bits .and .u64 (z9w2) (3))) kj (congrArg (Value.int .u64) (and3 _ hz9w2))) ?_
  refine Qaa (.agg (ints .u64 ([z9w0, z9w1, (z9w2 % 4), 0, 0, 0]))) 52 rfl kj kj ?_
  refine Qah g6 _ (ints .u64 ([z9w0, z9w1, (z9w2 % 4), 0, 0, 0])) 237 r6_15 rfl kj (Qam 237 _ _ g6 237 _ _ r6_15 rfl kj kj (isz (n := 6) kj kj) (eqsz (n := 6) kj kj) (Qay _ _)) fun W16 p16 r6_16 => ?_
  have x16 : Ext w W16 := Puts.ext p16 x15 b6
  obtain ⟨aq0, bq0⟩ := id hz9w0
  obtain ⟨aq1, bq1⟩ := id hz9w1
  obtain ⟨aq2, bq2⟩ := id hz9w2
  obtain ⟨aq3, bq3⟩ := id hz9w3
  obtain ⟨aq4, bq4⟩ := id hz9w4
  obtain ⟨aq5, bq5⟩ := id hz9w5
  obtain ⟨ae0, be0⟩ := id he0
  obtain ⟨ae1, be1⟩ := id he1
  refine Qac ?_
  refine hK71 _ _ ?_
  refine wp_seq_k fun K72 hK72 => ?_
  refine wp_seq_k fun K73 hK73 => ?_
  refine Qab ?_
  have r70_16 := (Puts.row p16 r70_15 (Qap r6_13 l70))
  refine Qaa (.agg (ints .u64 ([(e0_), (e1_)]))) 53 rfl kj (Qas 240 _ g70 240 _ _ r70_16 rfl kj kj (isz (n := 2) kj kj)) ?_
  refine Qaa (.int .i64 0) 54 rfl kj kj ?_
  refine Qac ?_
  refine hK73 _ _ ?_
  refine wp_block ?_
  refine wp_loop_rounds 3 ?_
  show Code.wp _ _ (Exit.then (Code.rounds _ _ _ 2) _) _ _
  refine wp_seq_k fun K74 hK74 => ?_
  refine Qab ?_
  refine Qaa (.bool true) 55 rfl kj kj ?_
  refine Qac ?_
  refine hK74 _ _ ?_
  refine wp_seq_k fun K75 hK75 => ?_
  refine cond_true kj ?_
  refine wp_skip ?_
  refine hK75 _ _ ?_
  refine wp_seq_k fun K76 hK76 => ?_
  refine wp_block ?_
  refine wp_seq_k fun K77 hK77 => ?_
  refine Qab ?_
  refine Qaa (.int .i64 0) 56 rfl kj kj ?_
  refine Qaa (.int .u64 (e0_)) 57 rfl kj (Qau 240 _ _ .i64 .u64 ([(e0_), (e1_)]) 0 2 129 (e0_) rfl kj kj kj kj kj rfl (by decide) rfl) ?_
  refine Qaa (.int .i64 0) 12 rfl kj kj ?_
  refine Qaa (.int .u64 (e0_)) 13 rfl kj kj ?_
  refine Qac ?_
  refine hK77 _ _ ?_
  refine Qab ?_
  refine Qaa (.func (.func 168) #[] #[.pointer (some ⟨g6, 0, none⟩)]) 58 rfl kj kj ?_
  refine Qaa (.int .i64 0) 59 rfl kj kj ?_
  refine Qaa (.int .u64 (e0_)) 60 rfl kj kj ?_
  refine Qa0 (fun v W' => v = .tuple #[] ∧ ∃ r0 r1 r2 r3 r4 r5 : Int, isW r0 ∧ isW r1 ∧ isW r2 ∧ isW r3 ∧ isW r4 ∧ isW r5 ∧ (r0 + 18446744073709551616 * r1 + 340282366920938463463374607431768211456 * r2 + 6277101735386680763835789423207666416102355444464034512896 * r3 + 115792089237316195423570985008687907853269984665640564039457584007913129639936 * r4 + 2135987035920910082395021706169552114602704522356652769947041607822219725780640550022962086936576 * r5) = (z9w0 + 18446744073709551616 * z9w1 + 340282366920938463463374607431768211456 * (z9w2 % 4) + 6277101735386680763835789423207666416102355444464034512896 * 0 + 115792089237316195423570985008687907853269984665640564039457584007913129639936 * 0 + 2135987035920910082395021706169552114602704522356652769947041607822219725780640550022962086936576 * 0) + 1 * (5 * e0_) ∧ ExtB g6 W16 W' ∧ W'.heap[g6]? = some (.cells (ints .u64 [r0, r1, r2, r3, r4, r5]) 237)) 168 #[.int .i64 0, .int .u64 (e0_), .int .u64 5, .pointer (some ⟨g6, 0, none⟩)] 61 rfl kj kj ((QiU g6 z9w0 z9w1 (z9w2 % 4) 0 0 0 e0_ 5 (5 * e0_) hz9w0 hz9w1 ⟨by omega, by omega⟩ Qbo Qbo Qbo he0 ⟨by decide, by decide⟩ (by omega) (by omega) _ r6_16).mono fun e w' h => ⟨_, h.1, rfl, h.2⟩) fun v W17 h => ?_
  obtain ⟨rfl, z10w0, z10w1, z10w2, z10w3, z10w4, z10w5, hz10w0, hz10w1, hz10w2, hz10w3, hz10w4, hz10w5, hV10, q17, r6_17⟩ := h
  have x17 : Ext w W17 := ExtB.up x16 q17 b6
  have hS10 : (z10w0 + 18446744073709551616 * z10w1 + 340282366920938463463374607431768211456 * z10w2 + 6277101735386680763835789423207666416102355444464034512896 * z10w3 + 115792089237316195423570985008687907853269984665640564039457584007913129639936 * z10w4 + 2135987035920910082395021706169552114602704522356652769947041607822219725780640550022962086936576 * z10w5) = (z9w0 + 18446744073709551616 * z9w1 + 340282366920938463463374607431768211456 * (z9w2 % 4)) + 1 * (5 * e0_) := by omega
  refine Qac ?_
  refine hK76 _ _ ?_
  refine Qab ?_
  refine Qaa (.int .i64 1) 62 rfl kj kj ?_
  refine Qaa (.int .i64 1) 54 rfl kj kj ?_
  refine Qac ?_
  show Code.rounds _ _ _ 2 _ _
  show Code.wp _ _ (Exit.then (Code.rounds _ _ _ 1) _) _ _
  refine wp_seq_k fun K78 hK78 => ?_
  refine Qab ?_
  refine Qaa (.bool true) 55 rfl kj kj ?_
  refine Qac ?_
  refine hK78 _ _ ?_
  refine wp_seq_k fun K79 hK79 => ?_
  refine cond_true kj ?_
  refine wp_skip ?_
  refine hK79 _ _ ?_
  refine wp_seq_k fun K80 hK80 => ?_
  refine wp_block ?_
  refine wp_seq_k fun K81 hK81 => ?_
  refine Qab ?_
  refine Qaa (.int .i64 1) 56 rfl kj kj ?_
  refine Qaa (.int .u64 (e1_)) 57 rfl kj (Qau 240 _ _ .i64 .u64 ([(e0_), (e1_)]) 1 2 129 (e1_) rfl kj kj kj kj kj rfl (by decide) rfl) ?_
  refine Qaa (.int .i64 1) 12 rfl kj kj ?_
  refine Qaa (.int .u64 (e1_)) 13 rfl kj kj ?_
  refine Qac ?_
  refine hK81 _ _ ?_
  refine Qab ?_
  refine Qaa (.func (.func 168) #[] #[.pointer (some ⟨g6, 0, none⟩)]) 58 rfl kj kj ?_
  refine Qaa (.int .i64 1) 59 rfl kj kj ?_
  refine Qaa (.int .u64 (e1_)) 60 rfl kj kj ?_
  refine Qa0 (fun v W' => v = .tuple #[] ∧ ∃ r0 r1 r2 r3 r4 r5 : Int, isW r0 ∧ isW r1 ∧ isW r2 ∧ isW r3 ∧ isW r4 ∧ isW r5 ∧ (r0 + 18446744073709551616 * r1 + 340282366920938463463374607431768211456 * r2 + 6277101735386680763835789423207666416102355444464034512896 * r3 + 115792089237316195423570985008687907853269984665640564039457584007913129639936 * r4 + 2135987035920910082395021706169552114602704522356652769947041607822219725780640550022962086936576 * r5) = (z10w0 + 18446744073709551616 * z10w1 + 340282366920938463463374607431768211456 * z10w2 + 6277101735386680763835789423207666416102355444464034512896 * z10w3 + 115792089237316195423570985008687907853269984665640564039457584007913129639936 * z10w4 + 2135987035920910082395021706169552114602704522356652769947041607822219725780640550022962086936576 * z10w5) + 18446744073709551616 * (5 * e1_) ∧ ExtB g6 W17 W' ∧ W'.heap[g6]? = some (.cells (ints .u64 [r0, r1, r2, r3, r4, r5]) 237)) 168 #[.int .i64 1, .int .u64 (e1_), .int .u64 5, .pointer (some ⟨g6, 0, none⟩)] 61 rfl kj kj ((QhC g6 z10w0 z10w1 z10w2 z10w3 z10w4 z10w5 e1_ 5 (5 * e1_) hz10w0 hz10w1 hz10w2 hz10w3 hz10w4 hz10w5 he1 ⟨by decide, by decide⟩ (by omega) (by rw [hS10]; omega) _ r6_17).mono fun e w' h => ⟨_, h.1, rfl, h.2⟩) fun v W18 h => ?_
  obtain ⟨rfl, z11w0, z11w1, z11w2, z11w3, z11w4, z11w5, hz11w0, hz11w1, hz11w2, hz11w3, hz11w4, hz11w5, hV11, q18, r6_18⟩ := h
  have x18 : Ext w W18 := ExtB.up x17 q18 b6
  have hS11 : (z11w0 + 18446744073709551616 * z11w1 + 340282366920938463463374607431768211456 * z11w2 + 6277101735386680763835789423207666416102355444464034512896 * z11w3 + 115792089237316195423570985008687907853269984665640564039457584007913129639936 * z11w4 + 2135987035920910082395021706169552114602704522356652769947041607822219725780640550022962086936576 * z11w5) = (z9w0 + 18446744073709551616 * z9w1 + 340282366920938463463374607431768211456 * (z9w2 % 4)) + 1 * (5 * e0_) + 18446744073709551616 * (5 * e1_) := by omega
  refine Qac ?_
  refine hK80 _ _ ?_
  refine Qab ?_
  refine Qaa (.int .i64 2) 62 rfl kj kj ?_
  refine Qaa (.int .i64 2) 54 rfl kj kj ?_
  refine Qac ?_
  show Code.rounds _ _ _ 1 _ _
  show Code.wp _ _ (Exit.then (Code.rounds _ _ _ 0) _) _ _
  refine wp_seq_k fun K82 hK82 => ?_
  refine Qab ?_
  refine Qaa (.bool false) 55 rfl kj kj ?_
  refine Qac ?_
  refine hK82 _ _ ?_
  refine wp_seq_k fun K83 hK83 => ?_
  refine cond_false kj ?_
  refine wp_exit ?_
  refine hK72 _ _ ?_
  refine wp_seq_k fun K84 hK84 => ?_
  refine Qab ?_
  refine Qaa (.pointer (some ⟨g6, 0, none⟩)) 63 rfl kj kj ?_
  refine Qaa (.int .u64 z11w0) 64 rfl kj (Qag 129 _ g6 0 237 _ (.int .u64 z11w0) _ r6_18 rfl kj kj kj) ?_
  refine Qaa (.pointer (some ⟨g6, 1, none⟩)) 65 rfl kj kj ?_
  refine Qaa (.int .u64 z11w1) 66 rfl kj (Qag 129 _ g6 1 237 _ (.int .u64 z11w1) _ r6_18 rfl kj kj kj) ?_
  refine Qaa (.pointer (some ⟨g6, 2, none⟩)) 67 rfl kj kj ?_
  refine Qaa (.int .u64 z11w2) 68 rfl kj (Qag 129 _ g6 2 237 _ (.int .u64 z11w2) _ r6_18 rfl kj kj kj) ?_
  refine Qaa (.agg (ints .u64 ([z11w0, z11w1, z11w2]))) 69 rfl kj kj ?_
  have r4_4 := (Qad r4_3 e4)
  have r4_5 := (ExtB.row q5 r4_4 (Qae r4_3 l6))
  have r4_6 := (ExtB.row q6 r4_5 (Qae r4_3 l6))
  have r4_7 := (ExtB.row q7 r4_6 (Qae r4_3 l6))
  have r4_8 := (ExtB.row q8 r4_7 (Qae r4_3 l6))
  have r4_9 := (ExtB.row q9 r4_8 (Qae r4_3 l6))
  have r4_10 := (ExtB.row q10 r4_9 (Qae r4_3 l6))
  have r4_11 := (ExtB.row q11 r4_10 (Qae r4_3 l6))
  have r4_12 := (ExtB.row q12 r4_11 (Qae r4_3 l6))
  have r4_13 := (ExtB.row q13 r4_12 (Qae r4_3 l6))
  have r4_14 := (Qad r4_13 e14)
  have r4_15 := (Puts.row p15 r4_14 (Qae r4_13 l70))
  have r4_16 := (Puts.row p16 r4_15 (Qae r4_3 l6))
  have r4_17 := (ExtB.row q17 r4_16 (Qae r4_3 l6))
  have r4_18 := (ExtB.row q18 r4_17 (Qae r4_3 l6))
  refine Qah g4 _ (ints .u64 ([z11w0, z11w1, z11w2])) 221 r4_18 rfl kj (Qam 221 _ _ g4 221 _ _ r4_18 rfl kj kj (isz (n := 3) kj kj) (eqsz (n := 3) kj kj) (Qay _ _)) fun W19 p19 r4_19 => ?_
  have x19 : Ext w W19 := Puts.ext p19 x18 b4
  refine Qac ?_
  refine hK84 _ _ ?_
  refine wp_ret ?_
  repeat (first | with_reducible refine goR1 ?_ | with_reducible refine goR2 ?_)
  exact (show bodyPost _ _ _ .ret _ _ from ret1 (.agg (ints .u64 ([z11w0, z11w1, z11w2]))) rfl (QaU g4 221 _ r4_19 kj kj (isz (n := 3) kj kj)) ⟨by rw [QiR (v := mulV (va * vb)) hz11w0 hz11w1 hz11w2 (Qjo hz9w0 hz9w1 hz9w2 hz9w3 hz9w4 hz9w5 hz11w0 hz11w1 hz11w2 hz11w3 hz11w4 hz11w5 (hS9.trans hT) (by rw [← hT]; exact hTl) ee0 ee1 (by rw [hS11]; omega))], x19⟩)
theorem Qh8 (a b : Int) (ha : 0 ≤ a) (hb : 0 ≤ b) (hal : a < 5444517870735015415413993718908291383296) (hbl : b < 21267647932558653966460912964485513216) (w : World) :
    Calls Tryd.prog 165 #[.agg (ints .u64 (nw3 a)), .agg (ints .u64 (nw3 b))] w (Ret w (.agg (ints .u64 (nw3 (mulV (a * b)))))) :=
  mulW _ _ _ _ _ _ a b (Qcd _) (Qcd _) (Qcd _) (Qcd _) (Qcd _) (Qcd _) (Qfa a ha (by omega)) (Qfa b hb (by omega)) hal hbl w
end Go.Proofs.YtoiendjhplbjjaaDoor.Ae
end
section
namespace Go.Proofs.YtoiendjhplbjjaaDoor.Ae
open Go Go.RowKit
open Rely Auto Own Sha
set_option linter.unusedVariables false
set_option linter.unusedSimpArgs false
open Sha Cha
theorem run_storeQ {P : Program} {ρ : Operand → Value} {o : Oper} {w : World} (ty : TypeId) (x y : Operand) (g off : Nat) (t : TypeId) (pre post : List (Array Value)) (u v : Value) (hg : w.heap[g]? = some (.cells (cat (pre ++ ([#[u]] ++ post))) t))
    (ho : o.op = .store ty x y) (hx : ρ x = .pointer (some ⟨g, off, none⟩)) (hy : ρ y = v) (hi : (P.info? ty).map (·.size) = some 1) (hp : (cat pre).size = off) (h1 : v.oneCell' = true) (hcs : v.cells = #[v]) :
    (execOp ρ o).run P w = .ok .skip (w.setRow g (cat (pre ++ ([#[v]] ++ post)))) := by
  subst hp
  have hs : Nat.blt (cat pre).size (cat (pre ++ ([#[u]] ++ post))).size = true := by
    have : (cat pre).size < (cat (pre ++ ([#[u]] ++ post))).size := by
      rw [Qa4, Qa4, Array.size_append, Array.size_append]
      have e1 : (cat [#[u]]).size = 1 := rfl
      omega
    simpa using this
  have e : (cat (pre ++ ([#[u]] ++ post))).setIfInBounds (cat pre).size v = cat (pre ++ ([#[v]] ++ post)) := by
    rw [Qa4, Qa4, Qa4, Qa4]
    have e1 : ∀ z, cat [#[z]] = #[z] := fun z => rfl
    rw [e1, e1, Array.setIfInBounds_append_right (Nat.le_refl _), Nat.sub_self, Array.setIfInBounds_append_left (by simp)]
    rfl
  rw [← e]
  exact Qby ty x y g _ t _ v hg ho hx hy hi hs h1 hcs
theorem Qjg {k : IntKind} {T : TypeId} {g n0 n l h : Nat} {xs : List Int} (pre post : List (Array Value)) {W : World} (hp : (cat pre).size = n0) (hn : xs.length = n) (r : W.heap[g]? = some (.cells (cat (pre ++ ([ints k xs] ++ post))) T)) (h1 : l ≤ h) (h2 : h ≤ n) (h3 : n ≤ maxLen) :
    RdK k W.heap.size ((xs.drop l).take (h - l)) (.slice (some ⟨g, n0 + l, none⟩) (h - l) (n - l)) W :=
  Qdm (n0 + l) (by rw [List.length_take, List.length_drop]; omega) r (fun i hi => by
    rw [Qfb _ _ _ hi, Qgw]
    exact QbF pre post xs n0 (l + i) _ hp (by omega) (by omega)) (Qa8 r) (by omega) (by omega)
theorem Qgz (v : Int) : mulV v % PP = v % PP := by
  unfold mulV PP
  omega
theorem Qjp (v : Int) (h0 : 0 ≤ v) (h : v < 115792089237316195423570985008687907853269984665640564039457584007913129639936) : 0 ≤ mulV v ∧ mulV v < 2041694201525630780780247644590609268736 := by
  unfold mulV
  omega
theorem QfB {c : List Int} (hb : Qaj c) (hl : c.length ≤ 16) : 0 ≤ lev (c ++ [1]) ∧ lev (c ++ [1]) ≤ 680564733841876926926749214863536422912 := by
  have h1 := QfC hb
  have h0 := Qc4 hb
  rw [Qfd]
  have h2 : p256 16 = p256 c.length * p256 (16 - c.length) := by rw [← Qdb]; congr 1; omega
  have h3 := QcG (16 - c.length)
  have h4 : p256 c.length * 1 ≤ p256 c.length * p256 (16 - c.length) := Int.mul_le_mul_of_nonneg_left (by omega) (Int.le_of_lt (QcG _))
  have h5 := QcG c.length
  rw [p16] at h2
  omega
theorem Qii (pl : List Int) (m : Nat) (h : m < pl.length) : ((pl.set m 1).drop 0).take (m + 1 - 0) = pl.take m ++ [1] := by
  show (pl.set m 1).take (m + 1) = _
  rw [Qem _ m (by rw [List.length_set]; exact h)]
  congr 1
  · rw [List.take_set_of_le (Nat.le_refl _)]
  · simp [nth, h]
def Qel (r S : Int) (c : List Int) : Int := mulV ((S + lev (c ++ [1])) * r)
theorem Qgm {r S : Int} {c : List Int} (hS : 0 ≤ S ∧ S < 2041694201525630780780247644590609268736) (hr : 0 ≤ r ∧ r < 21267647932558653966460912964485513216) (hb : Qaj c) (hl : c.length ≤ 16) : 0 ≤ Qel r S c ∧ Qel r S c < 2041694201525630780780247644590609268736 := by
  obtain ⟨h0, h1⟩ := QfB hb hl
  exact Qjp _ (Int.mul_nonneg (by omega) hr.1) (Qf7 (by omega) hr.1 (by omega) hr.2)
set_option maxRecDepth 100000 in
set_option maxHeartbeats 4000000 in
theorem turnC (g : Nat) (r s S : Int) (pl : List Int) (m : Nat) (w : World) (hr : 0 ≤ r ∧ r < 21267647932558653966460912964485513216) (hS : 0 ≤ S ∧ S < 2041694201525630780780247644590609268736) (hpl : pl.length = 17) (hpb : Qaj pl) (hm : m ≤ 16) (hg : w.heap[g]? = some (.cells (cat [ints .u64 (nw3 r), ints .u64 (nw3 s), ints .u64 (nw3 (S)), ints .u8 (pl), #[.int .i64 ((m : Nat) : Int)]]) 226)) :
    Calls Tryd.prog 158 #[.pointer (some ⟨g, 0, none⟩)] w (fun e W => e = .returned (.tuple #[]) ∧ ExtB g w W ∧ W.heap[g]? = some (.cells (cat [ints .u64 (nw3 r), ints .u64 (nw3 s), ints .u64 (nw3 (Qel r S (pl.take m))), ints .u8 (pl.set m 1), #[.int .i64 0]]) 226)) := by
  have hpl1 : (pl.set m 1).length = 17 := by rw [List.length_set, hpl]
  have hpb1 : Qaj (pl.set m 1) := QbB hpb _ (by decide) (by decide)
  have hset := Qii pl m (by omega)
  obtain ⟨hc0, hc1⟩ : 0 ≤ lev (((pl.set m 1).drop 0).take (m + 1 - 0)) ∧ lev (((pl.set m 1).drop 0).take (m + 1 - 0)) ≤ 680564733841876926926749214863536422912 := by rw [hset]; exact QfB (QaW hpb m) (by rw [List.length_take]; omega)
  refine enter 36 [(0, .pointer (some ⟨g, 0, none⟩))] Tryd.func158 rfl rfl kj rfl ?_
  refine wp_seq_k fun K2 hK2 => ?_
  refine QaX 8 [⟨none, [(0, none)]⟩, ⟨none, [(0, none)]⟩, ⟨none, [(3, some 1)]⟩, ⟨none, [(4, some 2)]⟩, ⟨none, [(5, some 3)]⟩, ⟨none, [(2, some 0)]⟩, ⟨none, [(7, some 5)]⟩, ⟨none, [(8, some 6), (6, some 4)]⟩] kj kj fun F hF => ?_
  refine Qao (.pointer (some ⟨g, 0, none⟩)) kj kj (fun W => by kernel_rfl) ?_
  refine Qao (.pointer (some ⟨g, 0, none⟩)) kj kj (fun W => by kernel_rfl) ?_
  refine Qao (.pointer (some ⟨g, 0, none⟩)) kj kj (fun W => by kernel_rfl) ?_
  refine Qao (.pointer (some ⟨g, 26, none⟩)) kj kj (fun W => by kernel_rfl) ?_
  refine QaK (.int .i64 ((m : Nat) : Int)) kj kj (fun W hR => (Qag 3 _ g 26 226 _ (.int .i64 ((m : Nat) : Int)) _ (Qad (Qad hg (Qak _)) hR) rfl kj (QaE [ints .u64 (nw3 r), ints .u64 (nw3 s), ints .u64 (nw3 (S)), ints .u8 (pl)] [#[.int .i64 ((m : Nat) : Int)]] [] 26 (by rw [Qan, Qan, Qan, Qan]; simp only [Array.size_append, cat, ((Qaf _ _).trans (Qa2 _)), ((Qaf _ _).trans hpl)]; rfl) 0 _ rfl) kj)) ?_
  refine Qao (.pointer (some ⟨g, 0, none⟩)) kj kj (fun W => by kernel_rfl) ?_
  refine Qao (.pointer (some ⟨g, 9, none⟩)) kj kj (fun W => by kernel_rfl) ?_
  refine Qao (.pointer (some ⟨g, 9 + m * 1, none⟩)) kj kj (fun W => (Qdu 224 _ _ .i64 m g 9 17 5 1 rfl kj kj kj kj (show m < 17 by omega))) ?_
  refine Qbh (hF _ kj fun W1 e1 => ?_)
  simp only [ups, up, Kn.val, List.take_succ_cons, List.take_zero, List.drop_succ_cons, List.drop_zero, List.nil_append, List.cons_append]
  clear hF
  have x1 : ExtB g w W1 := ExtB.ext (ExtB.refl g w) e1
  have r1_1 := (Qad hg e1)
  refine Qah g _ (cat [ints .u64 (nw3 r), ints .u64 (nw3 s), ints .u64 (nw3 (S)), ints .u8 ((pl).set m 1), #[.int .i64 ((m : Nat) : Int)]]) 226 r1_1 rfl kj (Qba 5 _ _ g (9 + m * 1) 226 [ints .u64 (nw3 r), ints .u64 (nw3 s), ints .u64 (nw3 (S))] [#[.int .i64 ((m : Nat) : Int)]] pl 9 m _ r1_1 rfl kj kj kj (by rw [Qan, Qan, Qan]; simp only [Array.size_append, cat, ((Qaf _ _).trans (Qa2 _))]; rfl) (by omega) (Nat.lt_of_lt_of_eq (show m < 17 by omega) hpl.symm)) fun W2 p2 r1_2 => ?_
  have x2 : ExtB g w W2 := ExtB.puts x1 p2
  refine Qac ?_
  refine hK2 _ _ ?_
  refine wp_seq_k fun K3 hK3 => ?_
  refine QaX 23 [⟨none, [(0, none)]⟩, ⟨none, [(0, none)]⟩, ⟨none, [(11, some 1)]⟩, ⟨none, [(12, some 2)]⟩, ⟨none, [(13, some 3)]⟩, ⟨none, [(0, none)]⟩, ⟨none, [(15, some 5)]⟩, ⟨none, [(16, some 6)]⟩, ⟨none, [(0, none)]⟩, ⟨none, [(18, some 8)]⟩, ⟨none, [(19, some 9)]⟩, ⟨none, [(20, some 10)]⟩, ⟨none, [(21, some 11)]⟩, ⟨none, [(17, some 7), (22, some 12)]⟩, ⟨none, [(23, some 13)]⟩, ⟨none, [(14, some 4), (24, some 14)]⟩, ⟨none, [(0, none)]⟩, ⟨none, [(26, some 16)]⟩, ⟨none, [(27, some 17)]⟩, ⟨none, [(28, some 18)]⟩, ⟨none, [(25, some 15), (29, some 19)]⟩, ⟨none, [(10, some 0)]⟩, ⟨none, [(31, some 21)]⟩] kj kj fun F hF => ?_
  refine Qao (.pointer (some ⟨g, 0, none⟩)) kj kj (fun W => by kernel_rfl) ?_
  refine Qao (.pointer (some ⟨g, 0, none⟩)) kj kj (fun W => by kernel_rfl) ?_
  refine Qao (.pointer (some ⟨g, 0, none⟩)) kj kj (fun W => by kernel_rfl) ?_
  refine Qao (.pointer (some ⟨g, 6, none⟩)) kj kj (fun W => by kernel_rfl) ?_
  refine QaK (.agg (ints .u64 (nw3 (S)))) kj kj (fun W hR => (QaF 221 _ g 6 226 _ _ _ (Qad (Qad r1_2 (Qak _)) hR) rfl kj (QaE [ints .u64 (nw3 r), ints .u64 (nw3 s)] [ints .u64 (nw3 (S))] [ints .u8 ((pl).set m 1), #[.int .i64 ((m : Nat) : Int)]] 6 (by rw [Qan, Qan]; simp only [Array.size_append, cat, ((Qaf _ _).trans (Qa2 _))]; rfl)) kj (isz (n := 3) kj ((Qaf _ _).trans (Qa2 _))))) ?_
  refine Qao (.pointer (some ⟨g, 0, none⟩)) kj kj (fun W => by kernel_rfl) ?_
  refine Qao (.pointer (some ⟨g, 0, none⟩)) kj kj (fun W => by kernel_rfl) ?_
  refine Qao (.pointer (some ⟨g, 9, none⟩)) kj kj (fun W => by kernel_rfl) ?_
  refine Qao (.pointer (some ⟨g, 0, none⟩)) kj kj (fun W => by kernel_rfl) ?_
  refine Qao (.pointer (some ⟨g, 0, none⟩)) kj kj (fun W => by kernel_rfl) ?_
  refine Qao (.pointer (some ⟨g, 26, none⟩)) kj kj (fun W => by kernel_rfl) ?_
  refine QaK (.int .i64 ((m : Nat) : Int)) kj kj (fun W hR => (Qag 3 _ g 26 226 _ (.int .i64 ((m : Nat) : Int)) _ (Qad (Qad r1_2 (Qak _)) hR) rfl kj (QaE [ints .u64 (nw3 r), ints .u64 (nw3 s), ints .u64 (nw3 (S)), ints .u8 ((pl).set m 1)] [#[.int .i64 ((m : Nat) : Int)]] [] 26 (by rw [Qan, Qan, Qan, Qan]; simp only [Array.size_append, cat, ((Qaf _ _).trans ((List.length_set ..).trans hpl)), ((Qaf _ _).trans (Qa2 _))]; rfl) 0 _ rfl) kj)) ?_
  refine Qao (.int .i64 (((m + 1 : Nat) : Int))) kj kj (fun W => (Qal (u := .int .i64 (IntKind.i64.wrap (((m : Nat) : Int) + 1))) kj (congrArg (Value.int .i64) (IntWalk.i64_in _ (by omega))))) ?_
  refine Qao (.slice (some ⟨g, 9 + 0, none⟩) ((m + 1) - 0) (17 - 0)) kj kj (fun W => (Qbe 224 _ _ _ 0 (m + 1) 17 g 9 5 rfl kj kj kj rfl ⟨.i64, by kernel_rfl⟩ (by omega) (by omega) (by omega))) ?_
  refine QcK (.agg (ints .u64 (nw3 (lev (((pl.set m 1).drop 0).take (m + 1 - 0)))))) 157 #[.slice (some ⟨g, 9 + 0, none⟩) ((m + 1) - 0) (17 - 0)] kj kj (fun W => by kernel_rfl) (fun W hR => (Qhh (((pl.set m 1).drop 0).take (m + 1 - 0)) _ _ W (Qjg (n0 := 9) (l := 0) (h := m + 1) [ints .u64 (nw3 r), ints .u64 (nw3 s), ints .u64 (nw3 (S))] [#[.int .i64 ((m : Nat) : Int)]] kj hpl1 (Qad (Qad r1_2 (Qak _)) hR) (by omega) (by omega) (by decide)) (by rw [List.length_take]; omega) (QaW (Qb0 hpb1 0) _))) ?_
  refine QcK (.agg (ints .u64 (nw3 (S + lev (((pl.set m 1).drop 0).take (m + 1 - 0)))))) 159 #[.agg (ints .u64 (nw3 (S))), .agg (ints .u64 (nw3 (lev (((pl.set m 1).drop 0).take (m + 1 - 0)))))] kj kj (fun W => by kernel_rfl) (fun W hR => (QfV S (lev (((pl.set m 1).drop 0).take (m + 1 - 0))) hS.1 hc0 (by omega) (by omega) (by omega)) W) ?_
  refine Qao (.pointer (some ⟨g, 0, none⟩)) kj kj (fun W => by kernel_rfl) ?_
  refine Qao (.pointer (some ⟨g, 0, none⟩)) kj kj (fun W => by kernel_rfl) ?_
  refine Qao (.pointer (some ⟨g, 0, none⟩)) kj kj (fun W => by kernel_rfl) ?_
  refine QaK (.agg (ints .u64 (nw3 r))) kj kj (fun W hR => (QaF 221 _ g 0 226 _ _ _ (Qad (Qad r1_2 (Qak _)) hR) rfl kj (QaE [] [ints .u64 (nw3 r)] [ints .u64 (nw3 s), ints .u64 (nw3 (S)), ints .u8 ((pl).set m 1), #[.int .i64 ((m : Nat) : Int)]] 0 kj) kj (isz (n := 3) kj ((Qaf _ _).trans (Qa2 _))))) ?_
  refine QcK (.agg (ints .u64 (nw3 (mulV ((S + lev (((pl.set m 1).drop 0).take (m + 1 - 0))) * r))))) 165 #[.agg (ints .u64 (nw3 (S + lev (((pl.set m 1).drop 0).take (m + 1 - 0))))), .agg (ints .u64 (nw3 r))] kj kj (fun W => by kernel_rfl) (fun W hR => (Qh8 (S + lev (((pl.set m 1).drop 0).take (m + 1 - 0))) r (by omega) hr.1 (by omega) hr.2) W) ?_
  refine Qao (.pointer (some ⟨g, 0, none⟩)) kj kj (fun W => by kernel_rfl) ?_
  refine Qao (.pointer (some ⟨g, 6, none⟩)) kj kj (fun W => by kernel_rfl) ?_
  refine Qbh (hF _ kj fun W3 e3 => ?_)
  simp only [ups, up, Kn.val, List.take_succ_cons, List.take_zero, List.drop_succ_cons, List.drop_zero, List.nil_append, List.cons_append]
  clear hF
  have x3 : ExtB g w W3 := ExtB.ext x2 e3
  have r1_3 := (Qad r1_2 e3)
  refine Qah g _ (cat [ints .u64 (nw3 r), ints .u64 (nw3 s), ints .u64 (nw3 (mulV ((S + lev (((pl.set m 1).drop 0).take (m + 1 - 0))) * r))), ints .u8 ((pl).set m 1), #[.int .i64 ((m : Nat) : Int)]]) 226 r1_3 rfl kj (Qcg 221 _ _ g 6 226 [ints .u64 (nw3 r), ints .u64 (nw3 s)] [ints .u64 (nw3 (S))] [ints .u64 (nw3 (mulV ((S + lev (((pl.set m 1).drop 0).take (m + 1 - 0))) * r)))] [ints .u8 ((pl).set m 1), #[.int .i64 ((m : Nat) : Int)]] r1_3 rfl kj kj (isz (n := 3) kj ((Qaf _ _).trans (Qa2 _))) (by rw [Qan, Qan]; simp only [Array.size_append, cat, ((Qaf _ _).trans (Qa2 _))]; rfl) (eqsz (n := 3) ((Qaf _ _).trans (Qa2 _)) ((Qaf _ _).trans (Qa2 _))) (Qay _ _)) fun W4 p4 r1_4 => ?_
  have x4 : ExtB g w W4 := ExtB.puts x3 p4
  refine Qac ?_
  refine hK3 _ _ ?_
  refine Qab ?_
  refine Qaa (.pointer (some ⟨g, 0, none⟩)) 33 rfl kj kj ?_
  refine Qaa (.pointer (some ⟨g, 0, none⟩)) 34 rfl kj kj ?_
  refine Qaa (.pointer (some ⟨g, 26, none⟩)) 35 rfl kj kj ?_
  refine Qah g _ (cat [ints .u64 (nw3 r), ints .u64 (nw3 s), ints .u64 (nw3 (mulV ((S + lev (((pl.set m 1).drop 0).take (m + 1 - 0))) * r))), ints .u8 ((pl).set m 1), #[.int .i64 0]]) 226 r1_4 rfl kj (run_storeQ 3 _ _ g 26 226 [ints .u64 (nw3 r), ints .u64 (nw3 s), ints .u64 (nw3 (mulV ((S + lev (((pl.set m 1).drop 0).take (m + 1 - 0))) * r))), ints .u8 ((pl).set m 1)] [] _ (.int .i64 0) r1_4 rfl kj kj kj (by rw [Qan, Qan, Qan, Qan]; simp only [Array.size_append, cat, ((Qaf _ _).trans ((List.length_set ..).trans hpl)), ((Qaf _ _).trans (Qa2 _))]; rfl) rfl rfl) fun W5 p5 r1_5 => ?_
  have x5 : ExtB g w W5 := ExtB.puts x4 p5
  refine Qac ?_
  repeat (first | with_reducible refine goX1 ?_ | with_reducible refine goX2 ?_ | with_reducible refine goX3 ?_)
  exact (show bodyPost _ _ _ .normal _ _ from end0 rfl ⟨rfl, x5, by have h9 := r1_5; rw [hset] at h9; exact h9⟩)
end Go.Proofs.YtoiendjhplbjjaaDoor.Ae
end
section
namespace Go.Proofs.YtoiendjhplbjjaaDoor.Ae
open Go Go.RowKit
open Rely Auto Own Sha
set_option linter.unusedVariables false
set_option linter.unusedSimpArgs false
open Sha Cha
section
variable {ds : List Deferred} {P : Program} {ops : Array Oper} {Q : Exit → Act → World → Prop} {rest : List Oper} {o : Oper} {N : Nat} {L : Env} {W : World}
theorem Qfq {k : IntKind} {e : TypeId} (x y : Operand) (tx ty : TypeId) (d : Nat) (ho : o.op = .call { callee := .builtin .copy, args := #[x, y], argTypes := #[tx, ty] }) (hu : P.underlying tx = some (.slice e)) (hsz : (P.info? e).map (·.size) = some 1) (hd : o.dst = some d) (hgd : QbJ ops o N L = some true)
    {g n0 off dl dc n B : Nat} (pre post : List (Array Value)) {xs z : List Int} {v : Value} {T : TypeId} (hp : (cat pre).size = n0) (hx : Rely.look (envN N L) x = .slice (some ⟨g, n0 + off, none⟩) dl dc) (hy : Rely.look (envN N L) y = v) (hr : RdK k B z v W)
    (hg : W.heap[g]? = some (.cells (cat (pre ++ ([ints k xs] ++ post))) T)) (hq : off + dl ≤ xs.length) (hn : n = min z.length dl) (h0 : 0 < n)
    (kk : ∀ W' : World, Puts W g W' → W'.heap[g]? = some (.cells (cat (pre ++ ([ints k (xs.take off ++ z.take n ++ xs.drop (off + n))] ++ post))) T) → WL P ops Q rest (Qaz ds N ((d, .int .i64 ((n : Nat) : Int)) :: L)) W') : WL P ops Q (o :: rest) (Qaz ds N L) W := by
  obtain ⟨a, cap, rfl, y2, y3, y4, y5⟩ := hr
  have hgo : ∀ W', (Builtin.copy_ #[tx, ty] o.type #[.slice (some ⟨g, n0 + off, none⟩) dl dc, .slice a z.length cap]).run P W = .ok (goInt n) W' → (execOp (Rely.look (envN N L)) o).run P W = .ok (.value (.int .i64 ((n : Nat) : Int))) W' := fun W' h => by
    unfold execOp
    simp only [ho, resolve, invoke, builtin, Sem.run_bind, Sem.run_pure, Result.andThen_ok, List.map_toArray, List.map_cons, List.map_nil, hx, hy, h, goInt]
  obtain ⟨gz, oz, rfl, z2, z3, z4⟩ := y5.resolve_left (fun e => by rw [e] at hn; simp at hn; omega)
  have hlen : ((z.take n).map (Value.int k)).length = n := by simp; omega
  have hsz2 : (cat (pre ++ ([ints k xs] ++ post))).size = n0 + xs.length + (cat post).size := by
    rw [Qa4, Qa4, Array.size_append, Array.size_append, hp]
    show n0 + ((cat [ints k xs]).size + (cat post).size) = _
    rw [show cat [ints k xs] = ints k xs by simp [cat], Qaf]; omega
  have h := run_copy_row (P := P) W tx ty o.type e g (n0 + off) dl dc ⟨gz, oz, none⟩ z.length cap (cat (pre ++ ([ints k xs] ++ post))) T ((z.take n).map (Value.int k)) hu hsz hg (by rw [hlen]; exact hn)
    (QgS (k := k) (ys := z.take n) fun i hi => by
      rw [List.length_take] at hi
      rw [z4 i (by omega)]
      simp [nth, show i < n by omega]) (by rw [hlen, hsz2]; omega) (QgP k _)
  rw [hlen] at h
  have hpl : (cat pre).toList.length = n0 := by rw [Array.length_toList, hp]
  have e1 : ((cat (pre ++ ([ints k xs] ++ post))).toList.take (n0 + off) ++ (z.take n).map (Value.int k) ++ (cat (pre ++ ([ints k xs] ++ post))).toList.drop (n0 + off + n)).toArray = cat (pre ++ ([ints k (xs.take off ++ z.take n ++ xs.drop (off + n))] ++ post)) := by
    apply Array.ext'
    have ec : ∀ ys : List Int, (cat (pre ++ ([ints k ys] ++ post))).toList = (cat pre).toList ++ (ys.map (Value.int k) ++ (cat post).toList) := fun ys => by
      rw [Qa4, Qa4]
      simp [cat, ints]
    show (cat (pre ++ ([ints k xs] ++ post))).toList.take (n0 + off) ++ (z.take n).map (Value.int k) ++ (cat (pre ++ ([ints k xs] ++ post))).toList.drop (n0 + off + n) = _
    rw [ec, ec, List.take_append, List.take_of_length_le (by omega), hpl, show n0 + off - n0 = off by omega, List.take_append_of_le_length (by rw [List.length_map]; omega), List.drop_append, List.drop_of_length_le (by omega), hpl, show n0 + off + n - n0 = off + n by omega, List.nil_append, List.drop_append_of_le_length (by rw [List.length_map]; omega)]
    simp only [List.map_append, List.map_take, List.map_drop, List.append_assoc]
  rw [e1] at h
  exact QbO _ _ d hd hgd (hgo _ h) (kk _ (Qbv _ _ _) (setRow_heap _ _ _ _ _ _ hg))
end
theorem Qep (r : Int) (u z : List Int) : ∀ n, 16 * n ≤ u.length → QcS r (u ++ z) n = QcS r u n
  | 0, _ => rfl
  | n + 1, h => by
    unfold QcS
    rw [Qep r u z n (by omega), List.drop_append_of_le_length (by omega), List.take_append_of_le_length (by rw [List.length_drop]; omega)]
theorem Qkz {r S : Int} {u z : List Int} {q m : Nat} (hu : u.length = 16 * q + m) (hz : z.length = 16 - m) (hm : m < 16) (hS : S % PP = QcS r u q) : Qel r S (u.drop (16 * q) ++ z) % PP = QcS r (u ++ z) (q + 1) := by
  unfold QcS Qel
  rw [Qep r u z q (by omega), List.drop_append_of_le_length (by omega), List.take_of_length_le (by rw [List.length_append, List.length_drop]; omega)]
  exact Qe7 hS (Qgz _)
theorem into_take {pl z : List Int} {m n : Nat} (hm : m ≤ pl.length) (hz : z.length = n) : (pl.take m ++ z ++ pl.drop (m + n)).take (m + n) = pl.take m ++ z := by
  have h1 : (pl.take m ++ z).length = m + n := by rw [List.length_append, List.length_take, hz]; omega
  rw [List.take_append_of_le_length (by omega), List.take_of_length_le (by omega)]
theorem into_len {pl z : List Int} {m n : Nat} (hm : m + n ≤ pl.length) (hz : z.length = n) : (pl.take m ++ z ++ pl.drop (m + n)).length = pl.length := by
  rw [List.length_append, List.length_append, List.length_take, List.length_drop, hz]; omega
theorem Qfm (ys : List Int) (k n : Nat) : ys.take (k + n) = ys.take k ++ (ys.drop k).take n := List.take_add ..
def Mk (g : Nat) (r s : Int) (t : List Int) (W : World) : Prop := ∃ (S : Int) (pl : List Int) (q m : Nat), t.length = 16 * q + m ∧ m < 16 ∧ W.heap[g]? = some (.cells (cat [ints .u64 (nw3 r), ints .u64 (nw3 s), ints .u64 (nw3 (S)), ints .u8 (pl), #[.int .i64 ((m : Nat) : Int)]]) 226) ∧ S % PP = QcS r t q ∧ (0 ≤ S ∧ S < 2041694201525630780780247644590609268736) ∧ pl.length = 17 ∧ Qaj pl ∧ pl.take m = t.drop (16 * q)
set_option maxRecDepth 100000 in
set_option maxHeartbeats 4000000 in
theorem addC (g : Nat) (r s : Int) (t ys : List Int) (v : Value) (B : Nat) (w : World) (hr : 0 ≤ r ∧ r < 21267647932558653966460912964485513216) (hBg : B ≤ g) (hy : RdK .u8 B ys v w) (hyb : Qaj ys) (hyl : ys.length ≤ 3000000) (hM : Mk g r s t w) :
  Calls Tryd.prog 143 #[.pointer (some ⟨g, 0, none⟩), v] w (fun e W => e = .returned (.tuple #[]) ∧ ExtB g w W ∧ Mk g r s (t ++ ys) W) := by
 obtain ⟨S0, pl0, q0, m0, hq0, hm0, hg, hSm0, hS0, hpl0, hpb0, hpt0⟩ := hM
 refine enter 36 [(0, .pointer (some ⟨g, 0, none⟩)), (1, v)] Tryd.func143 rfl rfl kj rfl ?_
 refine wp_block ?_
 refine QaO (fun (s1 : Nat × Nat × Nat × Int × List Int × Value) => [(0, .pointer (some ⟨g, 0, none⟩)), (1, s1.2.2.2.2.2)]) (fun (s1 : Nat × Nat × Nat × Int × List Int × Value) W => (s1.1 ≤ ys.length) ∧ (RdK .u8 B (ys.drop s1.1) s1.2.2.2.2.2 W) ∧ (t.length + s1.1 = 16 * s1.2.2.1 + s1.2.1 ∧ s1.2.1 < 16) ∧ (s1.2.2.2.1 % PP = QcS r (t ++ ys.take s1.1) s1.2.2.1) ∧ (0 ≤ s1.2.2.2.1 ∧ s1.2.2.2.1 < 2041694201525630780780247644590609268736) ∧ (s1.2.2.2.2.1.length = 17) ∧ (Qaj s1.2.2.2.2.1) ∧ (s1.2.2.2.2.1.take s1.2.1 = (t ++ ys.take s1.1).drop (16 * s1.2.2.1)) ∧ (W.heap[g]? = some (.cells (cat [ints .u64 (nw3 r), ints .u64 (nw3 s), ints .u64 (nw3 (s1.2.2.2.1)), ints .u8 (s1.2.2.2.2.1), #[.int .i64 ((s1.2.1 : Nat) : Int)]]) 226)) ∧ (Qar [g] w W) ∧ (ExtB g w W)) (fun (s1 : Nat × Nat × Nat × Int × List Int × Value) => ys.length - s1.1) (0, m0, q0, S0, pl0, v) ⟨rfl, rfl, trivial⟩ ⟨(Nat.zero_le _), (show RdK .u8 B (ys.drop 0) v w from hy), ⟨hq0, hm0⟩, (show S0 % PP = QcS r (t ++ ys.take 0) q0 by rw [List.take_zero, List.append_nil]; exact hSm0), hS0, hpl0, hpb0, (show pl0.take m0 = (t ++ ys.take 0).drop (16 * q0) by rw [List.take_zero, List.append_nil]; exact hpt0), hg, (Qar.refl [g] w), (ExtB.refl g w)⟩ fun s1 X1 V1 hI1 => ?_
 obtain ⟨k, m, q, S, pl, bv⟩ := s1
 obtain ⟨hk, hrb, hmq, hSm, hS, hpl, hpb, hpt, q1_1, kk1, xx1⟩ := hI1
 replace hk : k ≤ ys.length := hk
 replace hrb : RdK .u8 B (ys.drop k) bv V1 := hrb
 replace hmq : t.length + k = 16 * q + m ∧ m < 16 := hmq
 replace hSm : S % PP = QcS r (t ++ ys.take k) q := hSm
 replace hS : 0 ≤ S ∧ S < 2041694201525630780780247644590609268736 := hS
 replace hpl : pl.length = 17 := hpl
 replace hpb : Qaj pl := hpb
 replace hpt : pl.take m = (t ++ ys.take k).drop (16 * q) := hpt
 replace q1_1 : V1.heap[g]? = some (.cells (cat [ints .u64 (nw3 r), ints .u64 (nw3 s), ints .u64 (nw3 (S)), ints .u8 (pl), #[.int .i64 ((m : Nat) : Int)]]) 226) := q1_1
 replace kk1 : Qar [g] w V1 := kk1
 replace xx1 : ExtB g w V1 := xx1
 have q1 := kk1
 obtain ⟨ab, cb, rfl, hcb, -, -, -⟩ := id hrb
 have hld : (ys.drop k).length = ys.length - k := List.length_drop ..
 refine wp_seq_k fun K2 hK2 => ?_
 refine wp_seq_k fun K3 hK3 => ?_
 refine Qab ?_
 refine Qaa (.slice ab ((ys.drop k).length) cb) 5 rfl kj kj ?_
 refine Qaa (.int .i64 (((ys.drop k).length : Nat) : Int)) 6 rfl kj kj ?_
 refine Qaa (.bool (decide ((((ys.drop k).length : Nat) : Int) > 0))) 7 rfl kj kj ?_
 refine Qac ?_
 refine hK3 _ _ ?_
 refine Qa7 (t := decide ((((ys.drop k).length : Nat) : Int) > 0)) kj (fun c4 => ?_) (fun c4 => ?_)
 ·skip
  have hlt : k < ys.length := by have := of_decide_eq_true c4; omega
  refine wp_skip ?_
  refine hK2 _ _ ?_
  refine wp_block ?_
  refine wp_seq_k fun K5 hK5 => ?_
  rcases (show 16 - m ≤ ys.length - k ∨ ys.length - k < 16 - m by omega) with hq | hq
  ·skip
   obtain ⟨n, en⟩ : ∃ z, z = (16 - m) := ⟨_, rfl⟩
   have hn0 : 0 < n ∧ m + n ≤ 16 ∧ k + n ≤ ys.length := by omega
   have hnm : n = min (ys.drop k).length (16 - m) := by omega
   refine QaY 9 [⟨none, [(0, none)]⟩, ⟨none, [(8, some 0)]⟩, ⟨none, [(9, some 1)]⟩, ⟨none, [(0, none)]⟩, ⟨none, [(11, some 3)]⟩, ⟨none, [(12, some 4)]⟩, ⟨none, [(13, some 5)]⟩, ⟨none, [(10, some 2), (14, some 6)]⟩, ⟨none, [(1, none)]⟩] kj kj fun F hF => ?_
   refine QaB (Qav _) (.pointer (some ⟨g, 0, none⟩)) kj kj (fun W => by kernel_rfl) ?_
   refine QaB (Qav _) (.pointer (some ⟨g, 0, none⟩)) kj kj (fun W => by kernel_rfl) ?_
   refine QaB (Qav _) (.pointer (some ⟨g, 9, none⟩)) kj kj (fun W => by kernel_rfl) ?_
   refine QaB (Qav _) (.pointer (some ⟨g, 0, none⟩)) kj kj (fun W => by kernel_rfl) ?_
   refine QaB (Qav _) (.pointer (some ⟨g, 0, none⟩)) kj kj (fun W => by kernel_rfl) ?_
   refine QaB (Qav _) (.pointer (some ⟨g, 26, none⟩)) kj kj (fun W => by kernel_rfl) ?_
   refine QbG (Qav _) (.int .i64 ((m : Nat) : Int)) kj kj (fun W hR => (Qag 3 _ g 26 226 _ (.int .i64 ((m : Nat) : Int)) _ (Qad (Qad q1_1 (Qak _)) hR) rfl kj (QaE [ints .u64 (nw3 r), ints .u64 (nw3 s), ints .u64 (nw3 (S)), ints .u8 (pl)] [#[.int .i64 ((m : Nat) : Int)]] [] 26 (by rw [Qan, Qan, Qan, Qan]; simp only [Array.size_append, cat, ((Qaf _ _).trans (Qa2 _)), ((Qaf _ _).trans hpl)]; rfl) 0 _ rfl) kj)) ?_
   refine QaB (Qav _) (.slice (some ⟨g, 9 + m, none⟩) (16 - m) (17 - m)) kj kj (fun W => (Qbe 224 _ _ _ m 16 17 g 9 5 rfl kj kj kj ⟨.i64, by kernel_rfl⟩ ⟨.i64, by kernel_rfl⟩ (by omega) (by omega) (by omega))) ?_
   refine QaB (Qav _) (.slice ab ((ys.drop k).length) cb) kj kj (fun W => by kernel_rfl) ?_
   refine QcU (hF _ fun W2 e2 => ?_)
   simp only [List.nil_append, List.cons_append, List.take_succ_cons, List.take_zero, List.drop_succ_cons, List.drop_zero, finE, up]
   clear hF
   have x2 : ExtB g w W2 := ExtB.ext xx1 e2
   have r1_2 := (Qad q1_1 e2)
   have f6_2 := (hrb.ext e2)
   refine Qfq (k := .u8) (e := 5) (n0 := 9) (off := m) (dl := 16 - m) (dc := 17 - m) (n := n) (.tmp 15) (.tmp 16) 33 33 17 rfl kj kj rfl kj [ints .u64 (nw3 r), ints .u64 (nw3 s), ints .u64 (nw3 (S))] [#[.int .i64 ((m : Nat) : Int)]] (xs := pl) (z := ys.drop k) kj kj kj f6_2 r1_2 (by rw [hpl]; omega) hnm hn0.1 fun W3 p3 r1_3 => ?_
   have x3 : ExtB g w W3 := ExtB.puts x2 p3
   obtain ⟨z, ez⟩ : ∃ z, z = (ys.drop k).take n := ⟨_, rfl⟩
   have hzl : z.length = n := by rw [ez, List.length_take]; omega
   have hzb : Qaj z := ez ▸ QaW (Qb0 hyb k) n
   rw [← ez] at r1_3
   obtain ⟨pl1, epl1⟩ : ∃ y, y = pl.take m ++ z ++ pl.drop (m + n) := ⟨_, rfl⟩
   have hpl1 : pl1.length = 17 := by rw [epl1, into_len (by omega) hzl, hpl]
   have hpb1 : Qaj pl1 := epl1 ▸ bytes_app (bytes_app (QaW hpb m) hzb) (Qb0 hpb _)
   rw [← epl1] at r1_3
   have hpt1 : pl1.take (m + n) = pl.take m ++ z := by rw [epl1]; exact into_take (by omega) hzl
   refine Qaa (.int .i64 ((n : Nat) : Int)) 4 rfl kj kj ?_
   refine Qac ?_
   refine hK5 _ _ ?_
   refine wp_seq_k fun K7 hK7 => ?_
   refine Qab ?_
   refine Qaa (.slice ab ((ys.drop k).length) cb) 18 rfl kj kj ?_
   refine Qaa (.int .i64 ((n : Nat) : Int)) 19 rfl kj kj ?_
   refine Qaa (.slice (Qdl ab cb n) ((ys.drop k).length - n) (cb - n)) 20 rfl kj (QdA (len := (ys.drop k).length) 33 _ _ n 5 rfl kj kj kj .i64 kj (by omega) hcb) ?_
   refine Qaa (.slice (Qdl ab cb n) ((ys.drop k).length - n) (cb - n)) 1 rfl kj kj ?_
   refine Qac ?_
   refine hK7 _ _ ?_
   refine wp_seq_k fun K8 hK8 => ?_
   refine Qab ?_
   refine Qaa (.pointer (some ⟨g, 0, none⟩)) 21 rfl kj kj ?_
   refine Qaa (.pointer (some ⟨g, 0, none⟩)) 22 rfl kj kj ?_
   refine Qaa (.pointer (some ⟨g, 26, none⟩)) 23 rfl kj kj ?_
   refine Qaa (.int .i64 ((m : Nat) : Int)) 24 rfl kj (Qag 3 _ g 26 226 _ (.int .i64 ((m : Nat) : Int)) _ r1_3 rfl kj (QaE [ints .u64 (nw3 r), ints .u64 (nw3 s), ints .u64 (nw3 (S)), ints .u8 (pl1)] [#[.int .i64 ((m : Nat) : Int)]] [] 26 (by rw [Qan, Qan, Qan, Qan]; simp only [Array.size_append, cat, ((Qaf _ _).trans (Qa2 _)), ((Qaf _ _).trans hpl1)]; rfl) 0 _ rfl) kj) ?_
   refine Qaa (.int .i64 ((n : Nat) : Int)) 25 rfl kj kj ?_
   refine Qaa (.int .i64 ((m + n : Nat) : Int)) 26 rfl kj (Qal (u := .int .i64 (IntKind.i64.wrap (((m : Nat) : Int) + ((n : Nat) : Int)))) kj (congrArg (Value.int .i64) (i64n _ _ (by omega) (by omega)))) ?_
   refine Qaa (.pointer (some ⟨g, 0, none⟩)) 27 rfl kj kj ?_
   refine Qaa (.pointer (some ⟨g, 26, none⟩)) 28 rfl kj kj ?_
   refine Qah g _ (cat [ints .u64 (nw3 r), ints .u64 (nw3 s), ints .u64 (nw3 (S)), ints .u8 (pl1), #[.int .i64 ((m + n : Nat) : Int)]]) 226 r1_3 rfl kj (run_storeQ 3 _ _ g 26 226 [ints .u64 (nw3 r), ints .u64 (nw3 s), ints .u64 (nw3 (S)), ints .u8 (pl1)] [] _ (.int .i64 ((m + n : Nat) : Int)) r1_3 rfl kj kj kj (by rw [Qan, Qan, Qan, Qan]; simp only [Array.size_append, cat, ((Qaf _ _).trans (Qa2 _)), ((Qaf _ _).trans hpl1)]; rfl) rfl rfl) fun W4 p4 r1_4 => ?_
   have x4 : ExtB g w W4 := ExtB.puts x3 p4
   refine Qac ?_
   refine hK8 _ _ ?_
   refine wp_seq_k fun K9 hK9 => ?_
   refine Qab ?_
   refine Qaa (.pointer (some ⟨g, 0, none⟩)) 29 rfl kj kj ?_
   refine Qaa (.pointer (some ⟨g, 0, none⟩)) 30 rfl kj kj ?_
   refine Qaa (.pointer (some ⟨g, 26, none⟩)) 31 rfl kj kj ?_
   refine Qaa (.int .i64 ((m + n : Nat) : Int)) 32 rfl kj (Qag 3 _ g 26 226 _ (.int .i64 ((m + n : Nat) : Int)) _ r1_4 rfl kj (QaE [ints .u64 (nw3 r), ints .u64 (nw3 s), ints .u64 (nw3 (S)), ints .u8 (pl1)] [#[.int .i64 ((m + n : Nat) : Int)]] [] 26 (by rw [Qan, Qan, Qan, Qan]; simp only [Array.size_append, cat, ((Qaf _ _).trans (Qa2 _)), ((Qaf _ _).trans hpl1)]; rfl) 0 _ rfl) kj) ?_
   refine Qaa (.bool true) 33 rfl kj (Qal (u := .bool ((((m + n : Nat) : Int) == 16))) kj (congrArg Value.bool (by rw [show m + n = 16 by omega]; rfl))) ?_
   refine Qac ?_
   refine hK9 _ _ ?_
   refine cond_true kj ?_
   refine Qab ?_
   refine Qaa (.pointer (some ⟨g, 0, none⟩)) 34 rfl kj kj ?_
   refine Qa0 (fun v W' => v = .tuple #[] ∧ ExtB g W4 W' ∧ W'.heap[g]? = some (.cells (cat [ints .u64 (nw3 r), ints .u64 (nw3 s), ints .u64 (nw3 (Qel r S (pl1.take (m + n)))), ints .u8 (pl1.set (m + n) 1), #[.int .i64 0]]) 226)) 158 #[.pointer (some ⟨g, 0, none⟩)] 35 rfl kj kj ((turnC g r s S pl1 (m + n) _ hr hS hpl1 hpb1 hn0.2.1 r1_4).mono fun e w' h => ⟨_, h.1, rfl, h.2⟩) fun v W5 h => ?_
   obtain ⟨rfl, q5, r1_5⟩ := h
   have hpl2 : (pl1.set (m + n) 1).length = 17 := by rw [List.length_set, hpl1]
   have x5 : ExtB g w W5 := ExtB.trans x4 q5
   refine Qac ?_
   have f10_3 := (f6_2.puts p3 hBg)
   have f11_4 := (f10_3.puts p4 hBg)
   have f12_5 := (f11_4.extB q5 hBg)
   have hu : (t ++ ys.take k).length = 16 * q + m := by rw [List.length_append, List.length_take]; omega
   have htk : t ++ ys.take (k + n) = (t ++ ys.take k) ++ z := by rw [Qfm ys k n, ← ez, List.append_assoc]
   repeat (first | with_reducible refine goX1 ?_ | with_reducible refine goX2 ?_ | with_reducible refine goX3 ?_)
   exact QaI ((k + n), 0, (q + 1), (Qel r S (pl1.take (m + n))), (pl1.set (m + n) 1), (.slice (Qdl ab cb n) ((ys.drop k).length - n) (cb - n))) ⟨rfl, rfl, trivial⟩ ⟨(show k + n ≤ ys.length by omega), (by rw [show ys.drop (k + n) = (ys.drop k).drop n from (List.drop_drop ..).symm]; exact QeV f12_5 n (by omega)), (show t.length + (k + n) = 16 * (q + 1) + 0 ∧ 0 < 16 by omega), (show _ = QcS r (t ++ ys.take (k + n)) (q + 1) by rw [hpt1, hpt, htk]; exact Qkz hu (by omega) hmq.2 hSm), (Qgm hS hr (QaW hpb1 _) (by rw [List.length_take]; omega)), hpl2, (QbB hpb1 _ (by decide) (by decide)), (show (pl1.set (m + n) 1).take 0 = (t ++ ys.take (k + n)).drop (16 * (q + 1)) by rw [htk, List.take_zero, List.drop_of_length_le (by rw [List.length_append, hu]; omega)]), r1_5, (Qar.but (Qar.puts (Qar.puts (Qar.step q1 e2) p3 (.inl (by simp))) p4 (.inl (by simp))) q5 (.inl (by simp))), x5⟩ (by show ys.length - (k + n) < ys.length - k; omega)
  ·skip
   obtain ⟨n, en⟩ : ∃ z, z = (ys.length - k) := ⟨_, rfl⟩
   have hn0 : 0 < n ∧ m + n ≤ 16 ∧ k + n ≤ ys.length := by omega
   have hnm : n = min (ys.drop k).length (16 - m) := by omega
   refine QaY 9 [⟨none, [(0, none)]⟩, ⟨none, [(8, some 0)]⟩, ⟨none, [(9, some 1)]⟩, ⟨none, [(0, none)]⟩, ⟨none, [(11, some 3)]⟩, ⟨none, [(12, some 4)]⟩, ⟨none, [(13, some 5)]⟩, ⟨none, [(10, some 2), (14, some 6)]⟩, ⟨none, [(1, none)]⟩] kj kj fun F hF => ?_
   refine QaB (Qav _) (.pointer (some ⟨g, 0, none⟩)) kj kj (fun W => by kernel_rfl) ?_
   refine QaB (Qav _) (.pointer (some ⟨g, 0, none⟩)) kj kj (fun W => by kernel_rfl) ?_
   refine QaB (Qav _) (.pointer (some ⟨g, 9, none⟩)) kj kj (fun W => by kernel_rfl) ?_
   refine QaB (Qav _) (.pointer (some ⟨g, 0, none⟩)) kj kj (fun W => by kernel_rfl) ?_
   refine QaB (Qav _) (.pointer (some ⟨g, 0, none⟩)) kj kj (fun W => by kernel_rfl) ?_
   refine QaB (Qav _) (.pointer (some ⟨g, 26, none⟩)) kj kj (fun W => by kernel_rfl) ?_
   refine QbG (Qav _) (.int .i64 ((m : Nat) : Int)) kj kj (fun W hR => (Qag 3 _ g 26 226 _ (.int .i64 ((m : Nat) : Int)) _ (Qad (Qad q1_1 (Qak _)) hR) rfl kj (QaE [ints .u64 (nw3 r), ints .u64 (nw3 s), ints .u64 (nw3 (S)), ints .u8 (pl)] [#[.int .i64 ((m : Nat) : Int)]] [] 26 (by rw [Qan, Qan, Qan, Qan]; simp only [Array.size_append, cat, ((Qaf _ _).trans (Qa2 _)), ((Qaf _ _).trans hpl)]; rfl) 0 _ rfl) kj)) ?_
   refine QaB (Qav _) (.slice (some ⟨g, 9 + m, none⟩) (16 - m) (17 - m)) kj kj (fun W => (Qbe 224 _ _ _ m 16 17 g 9 5 rfl kj kj kj ⟨.i64, by kernel_rfl⟩ ⟨.i64, by kernel_rfl⟩ (by omega) (by omega) (by omega))) ?_
   refine QaB (Qav _) (.slice ab ((ys.drop k).length) cb) kj kj (fun W => by kernel_rfl) ?_
   refine QcU (hF _ fun W2 e2 => ?_)
   simp only [List.nil_append, List.cons_append, List.take_succ_cons, List.take_zero, List.drop_succ_cons, List.drop_zero, finE, up]
   clear hF
   have x2 : ExtB g w W2 := ExtB.ext xx1 e2
   have r1_2 := (Qad q1_1 e2)
   have f13_2 := (hrb.ext e2)
   refine Qfq (k := .u8) (e := 5) (n0 := 9) (off := m) (dl := 16 - m) (dc := 17 - m) (n := n) (.tmp 15) (.tmp 16) 33 33 17 rfl kj kj rfl kj [ints .u64 (nw3 r), ints .u64 (nw3 s), ints .u64 (nw3 (S))] [#[.int .i64 ((m : Nat) : Int)]] (xs := pl) (z := ys.drop k) kj kj kj f13_2 r1_2 (by rw [hpl]; omega) hnm hn0.1 fun W3 p3 r1_3 => ?_
   have x3 : ExtB g w W3 := ExtB.puts x2 p3
   obtain ⟨z, ez⟩ : ∃ z, z = (ys.drop k).take n := ⟨_, rfl⟩
   have hzl : z.length = n := by rw [ez, List.length_take]; omega
   have hzb : Qaj z := ez ▸ QaW (Qb0 hyb k) n
   rw [← ez] at r1_3
   obtain ⟨pl1, epl1⟩ : ∃ y, y = pl.take m ++ z ++ pl.drop (m + n) := ⟨_, rfl⟩
   have hpl1 : pl1.length = 17 := by rw [epl1, into_len (by omega) hzl, hpl]
   have hpb1 : Qaj pl1 := epl1 ▸ bytes_app (bytes_app (QaW hpb m) hzb) (Qb0 hpb _)
   rw [← epl1] at r1_3
   have hpt1 : pl1.take (m + n) = pl.take m ++ z := by rw [epl1]; exact into_take (by omega) hzl
   refine Qaa (.int .i64 ((n : Nat) : Int)) 4 rfl kj kj ?_
   refine Qac ?_
   refine hK5 _ _ ?_
   refine wp_seq_k fun K14 hK14 => ?_
   refine Qab ?_
   refine Qaa (.slice ab ((ys.drop k).length) cb) 18 rfl kj kj ?_
   refine Qaa (.int .i64 ((n : Nat) : Int)) 19 rfl kj kj ?_
   refine Qaa (.slice (Qdl ab cb n) ((ys.drop k).length - n) (cb - n)) 20 rfl kj (QdA (len := (ys.drop k).length) 33 _ _ n 5 rfl kj kj kj .i64 kj (by omega) hcb) ?_
   refine Qaa (.slice (Qdl ab cb n) ((ys.drop k).length - n) (cb - n)) 1 rfl kj kj ?_
   refine Qac ?_
   refine hK14 _ _ ?_
   refine wp_seq_k fun K15 hK15 => ?_
   refine Qab ?_
   refine Qaa (.pointer (some ⟨g, 0, none⟩)) 21 rfl kj kj ?_
   refine Qaa (.pointer (some ⟨g, 0, none⟩)) 22 rfl kj kj ?_
   refine Qaa (.pointer (some ⟨g, 26, none⟩)) 23 rfl kj kj ?_
   refine Qaa (.int .i64 ((m : Nat) : Int)) 24 rfl kj (Qag 3 _ g 26 226 _ (.int .i64 ((m : Nat) : Int)) _ r1_3 rfl kj (QaE [ints .u64 (nw3 r), ints .u64 (nw3 s), ints .u64 (nw3 (S)), ints .u8 (pl1)] [#[.int .i64 ((m : Nat) : Int)]] [] 26 (by rw [Qan, Qan, Qan, Qan]; simp only [Array.size_append, cat, ((Qaf _ _).trans (Qa2 _)), ((Qaf _ _).trans hpl1)]; rfl) 0 _ rfl) kj) ?_
   refine Qaa (.int .i64 ((n : Nat) : Int)) 25 rfl kj kj ?_
   refine Qaa (.int .i64 ((m + n : Nat) : Int)) 26 rfl kj (Qal (u := .int .i64 (IntKind.i64.wrap (((m : Nat) : Int) + ((n : Nat) : Int)))) kj (congrArg (Value.int .i64) (i64n _ _ (by omega) (by omega)))) ?_
   refine Qaa (.pointer (some ⟨g, 0, none⟩)) 27 rfl kj kj ?_
   refine Qaa (.pointer (some ⟨g, 26, none⟩)) 28 rfl kj kj ?_
   refine Qah g _ (cat [ints .u64 (nw3 r), ints .u64 (nw3 s), ints .u64 (nw3 (S)), ints .u8 (pl1), #[.int .i64 ((m + n : Nat) : Int)]]) 226 r1_3 rfl kj (run_storeQ 3 _ _ g 26 226 [ints .u64 (nw3 r), ints .u64 (nw3 s), ints .u64 (nw3 (S)), ints .u8 (pl1)] [] _ (.int .i64 ((m + n : Nat) : Int)) r1_3 rfl kj kj kj (by rw [Qan, Qan, Qan, Qan]; simp only [Array.size_append, cat, ((Qaf _ _).trans (Qa2 _)), ((Qaf _ _).trans hpl1)]; rfl) rfl rfl) fun W4 p4 r1_4 => ?_
   have x4 : ExtB g w W4 := ExtB.puts x3 p4
   refine Qac ?_
   refine hK15 _ _ ?_
   refine wp_seq_k fun K16 hK16 => ?_
   refine Qab ?_
   refine Qaa (.pointer (some ⟨g, 0, none⟩)) 29 rfl kj kj ?_
   refine Qaa (.pointer (some ⟨g, 0, none⟩)) 30 rfl kj kj ?_
   refine Qaa (.pointer (some ⟨g, 26, none⟩)) 31 rfl kj kj ?_
   refine Qaa (.int .i64 ((m + n : Nat) : Int)) 32 rfl kj (Qag 3 _ g 26 226 _ (.int .i64 ((m + n : Nat) : Int)) _ r1_4 rfl kj (QaE [ints .u64 (nw3 r), ints .u64 (nw3 s), ints .u64 (nw3 (S)), ints .u8 (pl1)] [#[.int .i64 ((m + n : Nat) : Int)]] [] 26 (by rw [Qan, Qan, Qan, Qan]; simp only [Array.size_append, cat, ((Qaf _ _).trans (Qa2 _)), ((Qaf _ _).trans hpl1)]; rfl) 0 _ rfl) kj) ?_
   refine Qaa (.bool false) 33 rfl kj (Qal (u := .bool ((((m + n : Nat) : Int) == 16))) kj (congrArg Value.bool (beq_eq_false_iff_ne.2 (by omega)))) ?_
   refine Qac ?_
   refine hK16 _ _ ?_
   refine cond_false kj ?_
   refine wp_skip ?_
   have f17_3 := (f13_2.puts p3 hBg)
   have f18_4 := (f17_3.puts p4 hBg)
   have hu : (t ++ ys.take k).length = 16 * q + m := by rw [List.length_append, List.length_take]; omega
   have htk : t ++ ys.take (k + n) = (t ++ ys.take k) ++ z := by rw [Qfm ys k n, ← ez, List.append_assoc]
   repeat (first | with_reducible refine goX1 ?_ | with_reducible refine goX2 ?_ | with_reducible refine goX3 ?_)
   exact QaI ((k + n), (m + n), q, S, pl1, (.slice (Qdl ab cb n) ((ys.drop k).length - n) (cb - n))) ⟨rfl, rfl, trivial⟩ ⟨(show k + n ≤ ys.length by omega), (by rw [show ys.drop (k + n) = (ys.drop k).drop n from (List.drop_drop ..).symm]; exact QeV f18_4 n (by omega)), (show t.length + (k + n) = 16 * q + (m + n) ∧ m + n < 16 by omega), (show _ = QcS r (t ++ ys.take (k + n)) q by rw [htk, Qep _ _ _ _ (by omega)]; exact hSm), hS, hpl1, hpb1, (show pl1.take (m + n) = (t ++ ys.take (k + n)).drop (16 * q) by rw [htk, hpt1, hpt]; exact (List.drop_append_of_le_length (by omega)).symm), r1_4, (Qar.puts (Qar.puts (Qar.step q1 e2) p3 (.inl (by simp))) p4 (.inl (by simp))), x4⟩ (by show ys.length - (k + n) < ys.length - k; omega)
 ·skip
  have hke : k = ys.length := by have := of_decide_eq_false c4; omega
  refine wp_exit ?_
  repeat (first | with_reducible refine goX1 ?_ | with_reducible refine goX2 ?_ | with_reducible refine goX3 ?_)
  exact (show bodyPost _ _ _ .normal _ _ from end0 rfl ⟨rfl, xx1, S, pl, q, m, by rw [List.length_append]; omega, hmq.2, q1_1, by rw [hke, List.take_length] at hSm; exact hSm, hS, hpl, hpb, by rw [hke, List.take_length] at hpt; exact hpt⟩)
end Go.Proofs.YtoiendjhplbjjaaDoor.Ae
end
