/- kdf.Expand. -/
import Derived.Test.YtamlhbbphnamnaaDoorKexA
namespace Go.Proofs.YtamlhbbphnamnaaDoor.Sha
open Go Go.RowKit
open Go.Proofs.YtamlhbbphnamnaaDoor.Rely Go.Proofs.YtamlhbbphnamnaaDoor.Auto Go.Proofs.YtamlhbbphnamnaaDoor.Own
set_option linter.unusedVariables false
set_option linter.unusedSimpArgs false

theorem run_copyI {P : Program} {ρ : Operand → Value} {o : Oper} {W : World} {k : IntKind} {e : TypeId} (x y : Operand) (tx ty : TypeId) (ho : o.op = .call { callee := .builtin .copy, args := #[x, y], argTypes := #[tx, ty] }) (hu : P.underlying tx = some (.slice e)) (hsz : (P.info? e).map (·.size) = some 1)
    {g off dl dc n B : Nat} {xs z : List Int} {v : Value} {T : TypeId} (hx : ρ x = .slice (some ⟨g, off, none⟩) dl dc) (hy : ρ y = v) (hr : RdK k B z v W)
    (hg : W.heap[g]? = some (.cells (ints k xs) T)) (hq : off + dl ≤ xs.length) (hn : n = min z.length dl) :
    ∃ W' : World, (execOp ρ o).run P W = .ok (.value (.int .i64 ((n : Nat) : Int))) W' ∧ Puts W g W' ∧ W'.heap[g]? = some (.cells (ints k (xs.take off ++ z.take n ++ xs.drop (off + n))) T) := by
  obtain ⟨a, cap, rfl, y2, y3, y4, y5⟩ := hr
  have hgo : ∀ W', (Builtin.copy_ #[tx, ty] o.type #[.slice (some ⟨g, off, none⟩) dl dc, .slice a z.length cap]).run P W = .ok (goInt n) W' → (execOp ρ o).run P W = .ok (.value (.int .i64 ((n : Nat) : Int))) W' := fun W' h => by
    unfold execOp
    simp only [ho, resolve, invoke, builtin, Sem.run_bind, Sem.run_pure, Result.andThen_ok, List.map_toArray, List.map_cons, List.map_nil, hx, hy, h, goInt]
  rcases Nat.eq_zero_or_pos n with h0 | h0
  · refine ⟨W, hgo W ?_, ⟨rfl, rfl, rfl, rfl, fun _ _ => rfl⟩, ?_⟩
    · rw [h0]; exact run_copy_none W tx ty o.type e _ _ _ _ _ _ hu hsz (hn.symm.trans h0)
    · rw [h0, List.take_zero, List.append_nil, Nat.add_zero, List.take_append_drop]; exact hg
  · obtain ⟨gz, oz, rfl, z2, z3, z4⟩ := y5.resolve_left (fun e => by rw [e] at hn; simp at hn; omega)
    have hlen : ((z.take n).map (Value.int k)).length = n := by simp; omega
    have h := run_copy_row (P := P) W tx ty o.type e g off dl dc ⟨gz, oz, none⟩ z.length cap (ints k xs) T ((z.take n).map (Value.int k)) hu hsz hg (by rw [hlen]; exact hn)
      (newsK (k := k) (ys := z.take n) fun i hi => by
        rw [List.length_take] at hi
        rw [z4 i (by omega)]
        simp [nth, show i < n by omega]) (by rw [hlen, ints_size]; omega) (onesK k _)
    rw [hlen] at h
    have e1 : ((ints k xs).toList.take off ++ (z.take n).map (Value.int k) ++ (ints k xs).toList.drop (off + n)).toArray = ints k (xs.take off ++ z.take n ++ xs.drop (off + n)) := by
      apply Array.ext'
      show (xs.map (Value.int k)).take off ++ (z.take n).map (Value.int k) ++ (xs.map (Value.int k)).drop (off + n) = (xs.take off ++ z.take n ++ xs.drop (off + n)).map (Value.int k)
      simp only [List.map_append, List.map_take, List.map_drop]
    rw [e1] at h
    exact ⟨_, hgo _ h, puts_setRow _ _ _, setRow_heap _ _ _ _ _ _ hg⟩
theorem run_copyY {P : Program} {ρ : Operand → Value} {o : Oper} {W : World} {k : IntKind} {e : TypeId} (x y : Operand) (tx ty : TypeId) (ho : o.op = .call { callee := .builtin .copy, args := #[x, y], argTypes := #[tx, ty] }) (hu : P.underlying tx = some (.slice e)) (hsz : (P.info? e).map (·.size) = some 1)
    {g off dl dc n B : Nat} {xs ys z : List Int} {v : Value} {T : TypeId} (hx : ρ x = .slice (some ⟨g, off, none⟩) dl dc) (hy : ρ y = v) (hr : RdK k B z v W)
    (hg : W.heap[g]? = some (.cells (ints k xs) T)) (hq : off + dl ≤ xs.length) (hn : n = min z.length dl) (hY : xs.take off ++ z.take n ++ xs.drop (off + n) = ys) :
    ∃ W' : World, (execOp ρ o).run P W = .ok (.value (.int .i64 ((n : Nat) : Int))) W' ∧ Puts W g W' ∧ W'.heap[g]? = some (.cells (ints k ys) T) := hY ▸ run_copyI x y tx ty ho hu hsz hx hy hr hg hq hn
theorem patch_of {P : Program} {ρ : Operand → Value} {o : Oper} {W : World} {g : Nat} {X Y : Obj} {v : Value} (h : ∃ W' : World, (execOp ρ o).run P W = .ok (.value v) W' ∧ Puts W g W' ∧ W'.heap[g]? = some Y) :
    ∃ u W', (execOp ρ o).run P W = .ok (.value u) W' ∧ Patch g X Y W W' ∧ (u = v ∧ W'.heap[g]? = some Y) := by
  obtain ⟨W', e1, p1, r1⟩ := h
  exact ⟨_, W', e1, ⟨ExtB.puts (ExtB.refl _ _) p1, .inr r1⟩, rfl, r1⟩
theorem run_sliceL {P : Program} {ρ : Operand → Value} {o : Oper} {w : World} (t : TypeId) (x z : Operand) (l g len cap : Nat) (e : TypeId) (ho : o.op = .slice t x (some z) none none) (hx : ρ x = .slice (some ⟨g, 0, none⟩) len cap)
    (hu : P.underlying t = some (.slice e)) (hs : (P.info? e).map (·.size) = some 1) (kz : IntKind) (hz : ρ z = .int kz (l : Int)) (h1 : l ≤ len) (h2 : len ≤ cap) :
    (execOp ρ o).run P w = .ok (.value (.slice (some ⟨g, (if cap = l then 0 else l), none⟩) (len - l) (cap - l))) w := by
  cases hq : P.info? e with
  | none => simp [hq] at hs
  | some i =>
    have hs' : i.size = 1 := by simpa [hq] using hs
    unfold execOp
    simp [ho, hx, hz, Instr.sliceAt, Instr.slice, Instr.sliceBounds, run_sliceBound, run_underlying hu, sizeOf, typeInfo, hq, hs', h1, h2]
    split
    · simp [Addr.add]
    · simp [Addr.add]
      exact fun h => h.symm
theorem goXo {K : Act → World → Prop} {Q : Exit → Act → World → Prop} {a : Act} {w : World} {n m : Nat} (h : n ≠ m) (k : Q (.exit n) a w) : Exit.inBlock m Q (.exit n) a w := by
  unfold Exit.inBlock
  simp [h]
  exact k
theorem keeps_but {W W' : World} {g : Nat} {cs : Array Value} {t : TypeId} (h : ExtB g W W') (r : W.heap[g]? = some (.cells cs t)) : KeepsOthers W W' :=
  ⟨h.2.2.2.1, fun k o hk ho => by
    by_cases e : k = g
    · subst e
      rw [r] at hk
      cases hk
      cases ho
    · exact (h.2.2.2.2 k (row_lt hk) e).trans hk⟩
theorem keepC_but {gs : List Nat} {A B : World} {g : Nat} (h : ExtB g A B) (hm : g ∈ gs) : KeepC gs A B := ⟨h.2.2.2.1, fun k cs t fr q n => (h.2.2.2.2 k (row_lt q) (fun e => n (e ▸ hm))).trans q⟩
theorem keepC_puts {gs : List Nat} {A B : World} {g : Nat} (h : Puts A g B) (hm : g ∈ gs) : KeepC gs A B := ⟨Nat.le_of_eq h.2.2.2.1.symm, fun k cs t fr q n => (h.2.2.2.2 k (fun e => n (e ▸ hm))).trans q⟩
/-- the tags by their places, joined; so much of them as there is room, and noughts behind them -/
def okL (key info : List Int) (pre : List Nat) : List Int := (pre.map fun x => tg key info (x + 1)).flatten
def FF (key info : List Int) (n : Nat) (pre : List Nat) : List Int := (okL key info pre).take n ++ List.replicate (n - 32 * pre.length) 0
theorem okL_len (key info : List Int) : ∀ pre, (okL key info pre).length = 32 * pre.length
  | [] => rfl
  | x :: l => by
    have := okL_len key info l
    unfold okL at this ⊢
    rw [List.map_cons, List.flatten_cons, List.length_append, this, tg, hmac_len, List.length_cons]; omega
theorem okL_snoc (key info : List Int) (pre : List Nat) (x : Nat) : okL key info (pre ++ [x]) = okL key info pre ++ tg key info (x + 1) := by simp [okL]
theorem okL_range (key info : List Int) : ∀ k, okL key info (List.range k) = okm key info k
  | 0 => rfl
  | k + 1 => by rw [List.range_succ, okL_snoc, okL_range key info k, okm]
theorem FF_len (key info : List Int) (n : Nat) (pre : List Nat) : (FF key info n pre).length = n := by
  unfold FF
  rw [List.length_append, List.length_take, okL_len, List.length_replicate]; omega
theorem FF_nil (key info : List Int) (n : Nat) : List.replicate n 0 = FF key info n [] := by simp [FF, okL]
theorem ff_step (key info : List Int) (n : Nat) (pre : List Nat) (x : Nat) (h : pre.length = 0 ∨ 32 * pre.length < n) :
    (FF key info n pre).take (if n = 32 * pre.length then 0 else 32 * pre.length) ++ (tg key info (x + 1)).take (min 32 (n - 32 * pre.length)) ++ (FF key info n pre).drop ((if n = 32 * pre.length then 0 else 32 * pre.length) + min 32 (n - 32 * pre.length)) = FF key info n (pre ++ [x]) := by
  have hl := okL_len key info pre
  have ht : (tg key info (x + 1)).length = 32 := hmac_len _ _
  have hp : (pre ++ [x]).length = pre.length + 1 := by simp
  by_cases hn : n = 32 * pre.length
  · have h0 : n = 0 := by omega
    subst h0
    rw [if_pos hn]
    unfold FF
    simp
  · have hlt : 32 * pre.length < n := by omega
    rw [if_neg hn]
    unfold FF
    rw [okL_snoc, hp, List.take_of_length_le (by omega : (okL key info pre).length ≤ n), List.take_append_of_le_length (by omega), List.take_of_length_le (by omega : (okL key info pre).length ≤ 32 * pre.length),
      List.drop_append, List.drop_of_length_le (by omega : (okL key info pre).length ≤ 32 * pre.length + min 32 (n - 32 * pre.length)), List.nil_append, List.drop_replicate, List.take_append, List.take_of_length_le (by omega : (okL key info pre).length ≤ n), hl]
    congr 1
    · congr 1
      by_cases h32 : n - 32 * pre.length ≤ 32
      · rw [show min 32 (n - 32 * pre.length) = n - 32 * pre.length by omega]
      · rw [show min 32 (n - 32 * pre.length) = 32 by omega, List.take_of_length_le (by omega), List.take_of_length_le (by omega)]
    · congr 1; omega
theorem ff_again (key info : List Int) (n : Nat) (pre : List Nat) (x : Nat) (h : pre.length = 0 ∨ 32 * pre.length < n) :
    (FF key info n (pre ++ [x])).take (if n = 32 * pre.length then 0 else 32 * pre.length) ++ (tg key info (x + 1)).take (min 32 (n - 32 * pre.length)) ++ (FF key info n (pre ++ [x])).drop ((if n = 32 * pre.length then 0 else 32 * pre.length) + min 32 (n - 32 * pre.length)) = FF key info n (pre ++ [x]) := by
  have ht : (tg key info (x + 1)).length = 32 := hmac_len _ _
  rw [← ff_step key info n pre x h]
  refine put_idem _ _ _ _ ?_ (by omega)
  rw [FF_len]
  split <;> omega
theorem FF_full (key info : List Int) (n k : Nat) (h : n ≤ 32 * k) : FF key info n (List.range k) = (okm key info k).take n := by
  unfold FF
  rw [okL_range, List.length_range, show n - 32 * k = 0 by omega, List.replicate_zero, List.append_nil]
theorem tg_len1 (key info : List Int) (x : Nat) : (tg key info (x + 1)).length = 32 := hmac_len _ _
set_option maxHeartbeats 4000000 in
theorem tagsC (a_key a_info : Option Addr) (n1 n2 c1 c2 : Nat) (w : World) : Calls Tryd.prog 45 #[.slice a_key n1 c1, .slice a_info n2 c2] w (Gives w (fun v W => ∃ g1 g2, v = .func (.func 59) #[] #[.pointer (some ⟨g1, 0, none⟩), .pointer (some ⟨g2, 0, none⟩)] ∧ w.heap.size ≤ g1 ∧ w.heap.size ≤ g2 ∧ W.heap[g1]? = some (.cells #[.slice a_key n1 c1] 22) ∧ W.heap[g2]? = some (.cells #[.slice a_info n2 c2] 22))) := by
  refine enter 6 [(0, .slice a_key n1 c1), (1, .slice a_info n2 c2)] Tryd.func45 rfl rfl kj rfl ?_
  refine wp_seq_k fun K1 hK1 => ?_
  refine region_lit ?_
  refine seq_alloc (#[.slice a_key n1 c1]) 22 2 rfl kj kj fun g2 W1 l2 e1 r2_1 => ?_
  have x1 : Ext w W1 := Ext.tr (Rely.Ext.refl w) e1
  have b2 : w.heap.size ≤ g2 := Nat.le_trans (Rely.Ext.refl w).size l2
  refine seq_alloc (#[.slice a_info n2 c2]) 22 3 rfl kj kj fun g3 W2 l3 e2 r3_2 => ?_
  have x2 : Ext w W2 := Ext.tr x1 e2
  have b3 : w.heap.size ≤ g3 := Nat.le_trans x1.size l3
  refine seq_val (.nilFunc) 4 rfl kj kj ?_
  refine seq_nil ?_
  refine hK1 _ _ ?_
  try clear hK1 K1
  refine wp_seq_k fun K4 hK4 => ?_
  refine region_lit ?_
  refine seq_val (.func (.func 59) #[] #[.pointer (some ⟨g2, 0, none⟩), .pointer (some ⟨g3, 0, none⟩)]) 5 rfl kj kj ?_
  refine seq_val (.func (.func 59) #[] #[.pointer (some ⟨g2, 0, none⟩), .pointer (some ⟨g3, 0, none⟩)]) 4 rfl kj kj ?_
  refine seq_nil ?_
  refine hK4 _ _ ?_
  try clear hK4 K4
  refine wp_ret ?_
  repeat (first | with_reducible refine goR1 ?_ | with_reducible refine goR2 ?_)
  have r2_2 := (row_ext r2_1 e2)
  exact (show bodyPost _ _ _ .ret _ _ from ret1 (.func (.func 59) #[] #[.pointer (some ⟨g2, 0, none⟩), .pointer (some ⟨g3, 0, none⟩)]) rfl (res_tmp kj) ⟨_, rfl, x2, g2, g3, rfl, b2, b3, r2_2, r3_2⟩)
set_option maxHeartbeats 4000000 in
theorem kexpandNA (v1 v2 : Value) (n : Int) (w : World) (h : n < 0) : Calls Tryd.prog 19 #[v1, v2, .int .i64 n] w (Ret w (.tuple #[.slice none 0 0, .iface 38 (.int .i64 4)])) := by
  refine enter 35 [(0, v1), (1, v2), (2, .int .i64 n)] Tryd.func19 rfl rfl kj rfl ?_
  refine wp_seq_k fun K3 hK3 => ?_
  refine region_lit ?_
  refine seq_alloc (#[.int .i64 n]) 3 5 rfl kj kj fun g4 W1 l4 e1 r4_1 => ?_
  have x1 : Ext w W1 := Ext.tr (Rely.Ext.refl w) e1
  have b4 : w.heap.size ≤ g4 := Nat.le_trans (Rely.Ext.refl w).size l4
  refine seq_val (.slice none 0 0) 6 rfl kj kj ?_
  refine seq_val (.nilIface) 7 rfl kj kj ?_
  refine seq_nil ?_
  refine hK3 _ _ ?_
  try clear hK3 K3
  refine wp_scope_straight ?_
  refine wp_seq_k fun K5 hK5 => ?_
  refine wp_seq_k fun K6 hK6 => ?_
  refine region_lit ?_
  refine seq_val (.int .i64 n) 11 rfl kj (run_loadC1 3 _ g4 0 3 _ (.int .i64 n) _ r4_1 rfl kj kj kj) ?_
  refine seq_val (.bool true) 12 rfl kj (run_eq (u := .bool (decide (n < 0))) kj (congrArg Value.bool (decide_eq_true (by omega)))) ?_
  refine seq_val (.bool true) 13 rfl kj kj ?_
  refine seq_skip 14 rfl kj ?_
  refine seq_skip 15 rfl kj ?_
  refine seq_val (.bool true) 16 rfl kj kj ?_
  refine seq_nil ?_
  refine hK6 _ _ ?_
  try clear hK6 K6
  refine cond_true kj ?_
  refine wp_seq_k fun K7 hK7 => ?_
  refine region_lit ?_
  refine seq_val (.iface 38 (.int .i64 4)) 17 rfl kj kj ?_
  refine seq_val (.slice none 0 0) 6 rfl kj kj ?_
  refine seq_val (.iface 38 (.int .i64 4)) 7 rfl kj kj ?_
  refine seq_nil ?_
  refine hK7 _ _ ?_
  try clear hK7 K7
  refine wp_ret ?_
  repeat (first | with_reducible refine goR1 ?_ | with_reducible refine goR2 ?_)
  exact (show bodyPost _ _ _ .ret _ _ from ret2 (.slice none 0 0) (.iface 38 (.int .i64 4)) rfl (res_tmp kj) (res_tmp kj) ⟨rfl, x1⟩)
set_option maxHeartbeats 4000000 in
theorem kexpandNB (v1 v2 : Value) (n : Int) (w : World) (h : 8160 < n) : Calls Tryd.prog 19 #[v1, v2, .int .i64 n] w (Ret w (.tuple #[.slice none 0 0, .iface 38 (.int .i64 4)])) := by
  refine enter 35 [(0, v1), (1, v2), (2, .int .i64 n)] Tryd.func19 rfl rfl kj rfl ?_
  refine wp_seq_k fun K3 hK3 => ?_
  refine region_lit ?_
  refine seq_alloc (#[.int .i64 n]) 3 5 rfl kj kj fun g4 W1 l4 e1 r4_1 => ?_
  have x1 : Ext w W1 := Ext.tr (Rely.Ext.refl w) e1
  have b4 : w.heap.size ≤ g4 := Nat.le_trans (Rely.Ext.refl w).size l4
  refine seq_val (.slice none 0 0) 6 rfl kj kj ?_
  refine seq_val (.nilIface) 7 rfl kj kj ?_
  refine seq_nil ?_
  refine hK3 _ _ ?_
  try clear hK3 K3
  refine wp_scope_straight ?_
  refine wp_seq_k fun K5 hK5 => ?_
  refine wp_seq_k fun K6 hK6 => ?_
  refine region_lit ?_
  refine seq_val (.int .i64 n) 11 rfl kj (run_loadC1 3 _ g4 0 3 _ (.int .i64 n) _ r4_1 rfl kj kj kj) ?_
  refine seq_val (.bool false) 12 rfl kj (run_eq (u := .bool (decide (n < 0))) kj (congrArg Value.bool (decide_eq_false (by omega)))) ?_
  refine seq_val (.bool false) 13 rfl kj kj ?_
  refine seq_val (.int .i64 n) 14 rfl kj (run_loadC1 3 _ g4 0 3 _ (.int .i64 n) _ r4_1 rfl kj kj kj) ?_
  refine seq_val (.bool true) 15 rfl kj (run_eq (u := .bool (decide (n > 8160))) kj (congrArg Value.bool (decide_eq_true (by omega)))) ?_
  refine seq_val (.bool true) 16 rfl kj kj ?_
  refine seq_nil ?_
  refine hK6 _ _ ?_
  try clear hK6 K6
  refine cond_true kj ?_
  refine wp_seq_k fun K7 hK7 => ?_
  refine region_lit ?_
  refine seq_val (.iface 38 (.int .i64 4)) 17 rfl kj kj ?_
  refine seq_val (.slice none 0 0) 6 rfl kj kj ?_
  refine seq_val (.iface 38 (.int .i64 4)) 7 rfl kj kj ?_
  refine seq_nil ?_
  refine hK7 _ _ ?_
  try clear hK7 K7
  refine wp_ret ?_
  repeat (first | with_reducible refine goR1 ?_ | with_reducible refine goR2 ?_)
  exact (show bodyPost _ _ _ .ret _ _ from ret2 (.slice none 0 0) (.iface 38 (.int .i64 4)) rfl (res_tmp kj) (res_tmp kj) ⟨rfl, x1⟩)
theorem okm_take (key info : List Int) (n k : Nat) (h : n ≤ 32 * k) : ((okm key info k).take n).length = n := by
  rw [List.length_take, okm_len]; omega
set_option maxHeartbeats 4000000 in
theorem kexpandC (key info : List Int) (v1 v2 : Value) (B B2 n : Nat) (tc tq : TypeId) (w : World) (hc : w.heap[1]? = some (.cells (ints .u64 cubesI) tc)) (hq : w.heap[0]? = some (.cells (ints .u64 squaresI) tq)) (hn : n ≤ 8160) (hkl : key.length ≤ 800000000) (hil : info.length ≤ 700000000) (hkb : AreBytes key) (hib : AreBytes info) (hk : RdK .u8 B key v1 w) (hi : RdK .u8 B2 info v2 w) :
    Calls Tryd.prog 19 #[v1, v2, .int .i64 ((n : Nat) : Int)] w (Gives w (fun v W => ∃ u k, v = .tuple #[u, .nilIface] ∧ n ≤ 32 * k ∧ OwnN .u8 5 w.heap.size ((okm key info k).take n) u W)) := by
  obtain ⟨a_key, c_key, rfl, -⟩ := id hk
  obtain ⟨a_info, c_info, rfl, -⟩ := id hi
  refine enterM 35 [(0, .slice a_key key.length c_key), (1, .slice a_info info.length c_info), (2, .int .i64 ((n : Nat) : Int))] Tryd.func19 rfl rfl kj rfl ?_
  refine wp_seq_k fun K3 hK3 => ?_
  refine region_lit ?_
  refine seq_alloc (#[.int .i64 ((n : Nat) : Int)]) 3 5 rfl kj kj fun g4 W1 l4 e1 r4_1 => ?_
  have x1 : Ext w W1 := Ext.tr (Rely.Ext.refl w) e1
  have b4 : w.heap.size ≤ g4 := Nat.le_trans (Rely.Ext.refl w).size l4
  refine seq_val (.slice none 0 0) 6 rfl kj kj ?_
  refine seq_val (.nilIface) 7 rfl kj kj ?_
  refine seq_nil ?_
  refine hK3 _ _ ?_
  try clear hK3 K3
  refine wp_scope_straight ?_
  refine wp_seq_k fun K5 hK5 => ?_
  refine wp_seq_k fun K6 hK6 => ?_
  refine region_lit ?_
  refine seq_val (.int .i64 ((n : Nat) : Int)) 11 rfl kj (run_loadC1 3 _ g4 0 3 _ (.int .i64 ((n : Nat) : Int)) _ r4_1 rfl kj kj kj) ?_
  refine seq_val (.bool false) 12 rfl kj (run_eq (u := .bool (decide (((n : Nat) : Int) < 0))) kj (congrArg Value.bool (decide_eq_false (by omega)))) ?_
  refine seq_val (.bool false) 13 rfl kj kj ?_
  refine seq_val (.int .i64 ((n : Nat) : Int)) 14 rfl kj (run_loadC1 3 _ g4 0 3 _ (.int .i64 ((n : Nat) : Int)) _ r4_1 rfl kj kj kj) ?_
  refine seq_val (.bool false) 15 rfl kj (run_eq (u := .bool (decide (((n : Nat) : Int) > 8160))) kj (congrArg Value.bool (decide_eq_false (by omega)))) ?_
  refine seq_val (.bool false) 16 rfl kj kj ?_
  refine seq_nil ?_
  refine hK6 _ _ ?_
  try clear hK6 K6
  refine cond_false kj ?_
  refine wp_skip ?_
  refine hK5 _ _ ?_
  try clear hK5 K5
  refine wp_seq_k fun K7 hK7 => ?_
  refine region_lit ?_
  refine seq_val (.int .i64 ((n : Nat) : Int)) 18 rfl kj (run_loadC1 3 _ g4 0 3 _ (.int .i64 ((n : Nat) : Int)) _ r4_1 rfl kj kj kj) ?_
  refine seq_makeS (ints .u8 (List.replicate n 0)) 5 n 19 rfl kj (run_makeI 22 _ _ .i64 .i64 n 5 rfl kj kj kj (.inr kj) (by omega)) fun g8 W2 l8 e2 r8_2 => ?_
  have x2 : Ext w W2 := Ext.tr x1 e2
  have b8 : w.heap.size ≤ g8 := Nat.le_trans x1.size l8
  refine seq_alloc (#[.slice none 0 0]) 22 8 rfl kj kj fun g9 W3 l9 e3 r9_3 => ?_
  have x3 : Ext w W3 := Ext.tr x2 e3
  have b9 : w.heap.size ≤ g9 := Nat.le_trans x2.size l9
  refine seq_store g9 _ (#[.slice (some ⟨g8, 0, none⟩) n n]) 22 r9_3 rfl kj (run_storeC1 22 _ _ g9 0 22 _ (.slice (some ⟨g8, 0, none⟩) n n) r9_3 rfl kj kj kj kj kj rfl) fun W4 p4 r9_4 => ?_
  have x4 : Ext w W4 := Puts.ext p4 x3 b9
  refine seq_nil ?_
  refine hK7 _ _ ?_
  try clear hK7 K7
  refine wp_seq_k fun K10 hK10 => ?_
  refine region_lit ?_
  refine seq_alloc (#[.int .i64 0]) 3 9 rfl kj kj fun g11 W5 l11 e5 r11_5 => ?_
  have x5 : Ext w W5 := Ext.tr x4 e5
  have b11 : w.heap.size ≤ g11 := Nat.le_trans x4.size l11
  refine seq_store g11 _ (#[.int .i64 0]) 3 r11_5 rfl kj (run_storeC1 3 _ _ g11 0 3 _ (.int .i64 0) r11_5 rfl kj kj kj kj kj rfl) fun W6 p6 r11_6 => ?_
  have x6 : Ext w W6 := Puts.ext p6 x5 b11
  refine seq_nil ?_
  refine hK10 _ _ ?_
  try clear hK10 K10
  refine wp_seq_k fun K12 hK12 => ?_
  refine wp_label ?_
  refine hK12 _ _ ?_
  try clear hK12 K12
  refine wp_seq_k fun K13 hK13 => ?_
  refine wp_seq_k fun K14 hK14 => ?_
  refine region_lit ?_
  refine seq_val (.slice a_key key.length c_key) 20 rfl kj kj ?_
  refine seq_val (.slice a_info info.length c_info) 21 rfl kj kj ?_
  refine seq_callR (fun v W' => (fun v W => ∃ g1 g2, v = .func (.func 59) #[] #[.pointer (some ⟨g1, 0, none⟩), .pointer (some ⟨g2, 0, none⟩)] ∧ W6.heap.size ≤ g1 ∧ W6.heap.size ≤ g2 ∧ W.heap[g1]? = some (.cells #[.slice a_key key.length c_key] 22) ∧ W.heap[g2]? = some (.cells #[.slice a_info info.length c_info] 22)) v W' ∧ Ext W6 W') 45 #[.slice a_key key.length c_key, .slice a_info info.length c_info] 22 rfl kj kj ((tagsC a_key a_info _ _ c_key c_info _).mono (by rintro e w' ⟨v, rfl, e1, hv⟩; exact ⟨v, rfl, hv, e1⟩)) fun vv15 W7 hh15 => ?_
  obtain ⟨hv15, e7⟩ := hh15
  have x7 : Ext w W7 := Ext.tr x6 e7
  obtain ⟨gp1, gp2, rfl, lp1, lp2, rp1, rp2⟩ := hv15
  refine seq_nil ?_
  refine hK14 _ _ ?_
  try clear hK14 K14
  refine wp_block ?_
  have r4_2 := (row_ext r4_1 e2)
  have r4_3 := (row_ext r4_2 e3)
  have r4_4 := (Puts.row p4 r4_3 (ne_of_old r4_2 l9))
  have r4_5 := (row_ext r4_4 e5)
  have r4_6 := (Puts.row p6 r4_5 (ne_of_old r4_4 l11))
  have r4_7 := (row_ext r4_6 e7)
  have r9_5 := (row_ext r9_4 e5)
  have r9_6 := (Puts.row p6 r9_5 (ne_of_old r9_4 l11))
  have r9_7 := (row_ext r9_6 e7)
  have r11_7 := (row_ext r11_6 e7)
  have r8_3 := (row_ext r8_2 e3)
  have r8_4 := (Puts.row p4 r8_3 (ne_of_old r8_2 l9))
  have r8_5 := (row_ext r8_4 e5)
  have r8_6 := (Puts.row p6 r8_5 (ne_of_old r8_4 l11))
  have r8_7 := (row_ext r8_6 e7)
  have r1_1 := (row_ext hc e1)
  have r1_2 := (row_ext r1_1 e2)
  have r1_3 := (row_ext r1_2 e3)
  have r1_4 := (Puts.row p4 r1_3 (ne_of_old r1_2 l9))
  have r1_5 := (row_ext r1_4 e5)
  have r1_6 := (Puts.row p6 r1_5 (ne_of_old r1_4 l11))
  have r1_7 := (row_ext r1_6 e7)
  have r2_1 := (row_ext hq e1)
  have r2_2 := (row_ext r2_1 e2)
  have r2_3 := (row_ext r2_2 e3)
  have r2_4 := (Puts.row p4 r2_3 (ne_of_old r2_2 l9))
  have r2_5 := (row_ext r2_4 e5)
  have r2_6 := (Puts.row p6 r2_5 (ne_of_old r2_4 l11))
  have r2_7 := (row_ext r2_6 e7)
  have nb58 : g4 ≠ g9 := (ne_of_old r4_2 l9)
  have nb59 : g4 ≠ g11 := (ne_of_old r4_4 l11)
  have nb5O : g4 ≠ g8 := (ne_of_old r4_1 l8)
  have nb85 : g9 ≠ g4 := (ne_of_new r4_2 l9)
  have nb89 : g9 ≠ g11 := (ne_of_old r9_4 l11)
  have nb8O : g9 ≠ g8 := (ne_of_new r8_2 l9)
  have nb95 : g11 ≠ g4 := (ne_of_new r4_4 l11)
  have nb98 : g11 ≠ g9 := (ne_of_new r9_4 l11)
  have nb9O : g11 ≠ g8 := (ne_of_new r8_4 l11)
  have nbO5 : g8 ≠ g4 := (ne_of_new r4_1 l8)
  have nbO8 : g8 ≠ g9 := (ne_of_old r8_2 l9)
  have nbO9 : g8 ≠ g11 := (ne_of_old r8_4 l11)
  have hgs : ∀ c ∈ ([g11, g8] : List Nat), w.heap.size ≤ c := (fun c hc => by simp only [List.mem_cons, List.not_mem_nil, or_false] at hc; rcases hc with rfl | rfl; exact b11; exact b8)
  have hgl : ∀ c ∈ ([g11, g8] : List Nat), c < W7.heap.size := (fun c hc => by simp only [List.mem_cons, List.not_mem_nil, or_false] at hc; rcases hc with rfl | rfl; exact row_lt r11_7; exact row_lt r8_7)
  have hgp : ∀ c ∈ ([g11, g8] : List Nat), c < W6.heap.size := (fun c hc => by simp only [List.mem_cons, List.not_mem_nil, or_false] at hc; rcases hc with rfl | rfl; exact row_lt r11_6; exact row_lt r8_6)
  have hkL : RdK .u8 w.heap.size key (.slice a_key key.length c_key) W7 := (RdK.here hk).ext x7
  have hiL : RdK .u8 w.heap.size info (.slice a_info info.length c_info) W7 := (RdK.here hi).ext x7
  refine range_autoH (gf := 59) (lb := #[.pointer (some ⟨gp1, 0, none⟩), .pointer (some ⟨gp2, 0, none⟩)]) (enc := fun x : Nat => .agg (ints .u8 (tg key info (x + 1)))) kj (enters_of Tryd.func59 kj rfl) (tags_stops 2 [g11, g8] gp1 gp2 w.heap.size key info a_key a_info c_key c_info tc tq W7 hkl hil hkb hib x7.size hgs hgl hkL hiL r1_7 r2_7 rp1 rp2 (fun hm => by have := hgp _ hm; omega) (fun hm => by have := hgp _ hm; omega) (fun hm => by have h1 := hgs _ hm; have h2 := row_lt hc; omega) (fun hm => by have h1 := hgs _ hm; have h2 := row_lt hq; omega)) (fun h k => KeepC.trans h k) KeepC.book (Below.refl _ _)
      (fun pre W => ((W.heap[g4]? = some (.cells (#[.int .i64 ((n : Nat) : Int)]) 3)) ∧ (W.heap[g9]? = some (.cells (#[.slice (some ⟨g8, 0, none⟩) n n]) 22)) ∧ (W.heap[g11]? = some (.cells (#[.int .i64 ((32 * pre.length : Nat) : Int)]) 3)) ∧ (W.heap[g8]? = some (.cells (ints .u8 (FF key info n pre)) 5)) ∧ (pre.length = 0 ∨ 32 * pre.length < n) ∧ W7.heap.size ≤ W.heap.size) ∧ Ext w W)
      (fun c pre W => (c = .exit 0 ∧ n ≤ 32 * pre.length ∧ (W.heap[g4]? = some (.cells (#[.int .i64 ((n : Nat) : Int)]) 3)) ∧ (W.heap[g9]? = some (.cells (#[.slice (some ⟨g8, 0, none⟩) n n]) 22)) ∧ (W.heap[g8]? = some (.cells (ints .u8 (FF key info n pre)) 5))) ∧ Ext w W) (OwnFrom.and (Own.from (fun s A B row hs hg hr => ⟨row_kept hs.1 hg hr, row_kept hs.2.1 hg hr, row_kept hs.2.2.1 hg hr, row_kept hs.2.2.2.1 hg hr, hs.2.2.2.2.1, Nat.le_trans hs.2.2.2.2.2 hg.size⟩) _) (ownFrom_below (Nat.le_refl _) x7.size)) (fun c => OwnFrom.and (Own.from (fun s A B row hs hg hr => ⟨hs.1, hs.2.1, row_kept hs.2.2.1 hg hr, row_kept hs.2.2.2.1 hg hr, row_kept hs.2.2.2.2 hg hr⟩) _) (ownFrom_below (Nat.le_refl _) x7.size)) ⟨⟨r4_7, r9_7, r11_7, row_eq r8_7 (FF_nil key info n), .inl rfl, Nat.le_refl _⟩, x7⟩ (fun e => KeepC.ext e) (fun pre A B h e => ⟨⟨row_ext h.1.1 e, row_ext h.1.2.1 e, row_ext h.1.2.2.1 e, row_ext h.1.2.2.2.1 e, h.1.2.2.2.2.1, Nat.le_trans h.1.2.2.2.2.2 e.size⟩, Rely.Ext.trans h.2 e⟩) (fun pre W h => h.1.2.2.2.2.2) (fun x g => [(10, .pointer (some ⟨g, 0, none⟩)), (23, .agg (ints .u8 (tg key info (x + 1))))]) (fun x => ints .u8 (tg key info (x + 1))) 26 (fun l x W K hK => ?_) (fun l pre x g10 W hg10 hI r10 hp => ?_) (fun D ys W lD hS hI rD => ?_) (fun D c pre W lD hSp hIx rD => ?_)
  · skip
    refine region_litIn ?_
    refine in_alloc (ints .u8 (List.replicate 32 0)) 26 10 rfl (free_wide l 1 _) rfl kj kj fun g301 W1 l301 e1 r301_1 => ?_
    have x1 : Ext W W1 := Ext.tr (Rely.Ext.refl W) e1
    have b301 : W.heap.size ≤ g301 := Nat.le_trans (Rely.Ext.refl W).size l301
    refine in_store g301 _ (ints .u8 (tg key info (x + 1))) 26 r301_1 rfl (free_wide l 1 _) rfl kj (run_store_row 26 _ _ g301 26 _ _ r301_1 rfl kj kj (isz (n := 32) kj ((ints_size _ _).trans (tg_len1 _ _ _))) (eqsz (n := 32) ((ints_size _ _).trans (List.length_replicate (n := 32))) ((ints_size _ _).trans (tg_len1 _ _ _))) (ints_one _ _)) fun W2 p2 r301_2 => ?_
    have x2 : Ext W W2 := Puts.ext p2 x1 b301
    refine in_nil ?_
    have y0_1 : Ext W W1 := (Rely.Ext.trans (Rely.Ext.refl W) e1)
    have y0_2 : Ext W W2 := (Puts.ext p2 y0_1 l301)
    exact hK _ _ l301 y0_2 r301_2
  · skip
    obtain ⟨⟨q5, q8, q9, qO, hpl, hsz⟩, xx⟩ := hI
    have n105 : g10 ≠ g4 := by have h1 := row_lt r4_7; omega
    have n108 : g10 ≠ g9 := by have h1 := row_lt r9_7; omega
    have n109 : g10 ≠ g11 := by have h1 := row_lt r11_7; omega
    have n10O : g10 ≠ g8 := by have h1 := row_lt r8_7; omega
    have hl1 : (pre ++ [x]).length = pre.length + 1 := by simp
    have htl := tg_len1 key info x
    refine wpIn_block ?_
    refine wpIn_seq_k fun K506 hK506 => ?_
    refine in_regionX (Patch g8 (Obj.cells (ints .u8 (FF key info n pre)) 5) (Obj.cells (ints .u8 (FF key info n (pre ++ [x]))) 5)) (Patch.refl _ _ _) (fun h k => Patch.trans h k) 6 [⟨none, [(9, none)]⟩, ⟨none, [(8, none)]⟩, ⟨none, [(9, none)]⟩, ⟨none, [(25, some 1), (26, some 2)]⟩, ⟨none, [(10, none)]⟩, ⟨none, [(27, some 3), (28, some 4)]⟩] (free_wide l 1 _) rfl kj kj fun F hF => ?_
    refine x_val (Patch.refl _ _ _) (.int .i64 ((32 * pre.length : Nat) : Int)) kj kj (fun W hR => (run_loadC1 3 _ g11 0 3 _ (.int .i64 ((32 * pre.length : Nat) : Int)) _ (ExtB.row hR.1 (row_ext q9 (ext_drew _)) nb9O) rfl kj kj kj)) ?_
    refine x_val (Patch.refl _ _ _) (.slice (some ⟨g8, 0, none⟩) n n) kj kj (fun W hR => (run_loadC1 22 _ g9 0 22 _ (.slice (some ⟨g8, 0, none⟩) n n) _ (ExtB.row hR.1 (row_ext q8 (ext_drew _)) nb8O) rfl kj kj kj)) ?_
    refine x_val (Patch.refl _ _ _) (.int .i64 ((32 * pre.length : Nat) : Int)) kj kj (fun W hR => (run_loadC1 3 _ g11 0 3 _ (.int .i64 ((32 * pre.length : Nat) : Int)) _ (ExtB.row hR.1 (row_ext q9 (ext_drew _)) nb9O) rfl kj kj kj)) ?_
    refine x_val (Patch.refl _ _ _) (.slice (some ⟨g8, (if n = 32 * pre.length then 0 else 32 * pre.length), none⟩) (n - 32 * pre.length) (n - 32 * pre.length)) kj kj (fun W hR => run_sliceL 22 _ _ (32 * pre.length) g8 n n 5 rfl kj kj kj .i64 kj (by omega) (Nat.le_refl _)) ?_
    refine x_val (Patch.refl _ _ _) (.slice (some ⟨g10, 0, none⟩) 32 32) kj kj (fun W hR => by kernel_rfl) ?_
    refine x_put (fun u W => u = .int .i64 (((min 32 (n - 32 * pre.length)) : Nat) : Int) ∧ W.heap[g8]? = some (Obj.cells (ints .u8 (FF key info n (pre ++ [x]))) 5)) (Patch.stable _ _ _ _) kj kj (fun W hR => ?_) ?_
    · have hsrc : RdK .u8 W.heap.size (tg key info (x + 1)) (.slice (some ⟨g10, 0, none⟩) 32 32) W := rdK_ints (tg_len1 _ _ _) (ExtB.row hR.1 (row_ext r10 (ext_drew _)) n10O) (row_lt (ExtB.row hR.1 (row_ext r10 (ext_drew _)) n10O)) (by decide)
      have hoff : (if n = 32 * pre.length then 0 else 32 * pre.length) + (n - 32 * pre.length) ≤ n := by split <;> omega
      rcases hR.row (row_ext qO (ext_drew _)) with hX | hY
      · exact patch_of (run_copyY (k := .u8) (e := 5) (.tmp 27) (.tmp 28) 22 22 (by rfl) kj kj (off := (if n = 32 * pre.length then 0 else 32 * pre.length)) (dl := n - 32 * pre.length) (dc := n - 32 * pre.length) (n := (min 32 (n - 32 * pre.length))) (xs := FF key info n pre) kj kj hsrc hX (by rw [FF_len]; exact hoff) (by rw [tg_len1]) (ff_step key info n pre x hpl))
      · exact patch_of (run_copyY (k := .u8) (e := 5) (.tmp 27) (.tmp 28) 22 22 (by rfl) kj kj (off := (if n = 32 * pre.length then 0 else 32 * pre.length)) (dl := n - 32 * pre.length) (dc := n - 32 * pre.length) (n := (min 32 (n - 32 * pre.length))) (xs := FF key info n (pre ++ [x])) kj kj hsrc hY (by rw [FF_len]; exact hoff) (by rw [tg_len1]) (ff_again key info n pre x hpl))
    refine e_nil (hF _ fun W1 hR => ?_)
    simp only [List.nil_append, List.cons_append, List.take_succ_cons, List.take_zero, List.drop_succ_cons, List.drop_zero, finE, up]
    rintro v29 ⟨rfl, rO_1⟩
    clear hF
    have q1 : ExtB g8 W W1 := ExtB.trans (ExtB.ext (ExtB.refl _ _) (ext_drew _)) hR.1
    have x1 : Ext w W1 := ExtB.up xx q1 b8
    refine in_val (.int .i64 (((32 * pre.length) + (min 32 (n - 32 * pre.length)) : Nat) : Int)) 30 rfl (free_wide l 1 _) rfl kj (run_eq (u := .int .i64 (IntKind.i64.wrap (((32 * pre.length : Nat) : Int) + (((min 32 (n - 32 * pre.length)) : Nat) : Int)))) kj (congrArg (Value.int .i64) (i64n _ _ (by omega) (by omega)))) ?_
    have r503_1 := (ExtB.row q1 q9 nb9O)
    refine in_store g11 _ (#[.int .i64 (((32 * pre.length) + (min 32 (n - 32 * pre.length)) : Nat) : Int)]) 3 r503_1 rfl (free_wide l 1 _) rfl kj (run_storeC1 3 _ _ g11 0 3 _ (.int .i64 (((32 * pre.length) + (min 32 (n - 32 * pre.length)) : Nat) : Int)) r503_1 rfl kj kj kj kj kj rfl) fun W2 p2 r503_2 => ?_
    have x2 : Ext w W2 := Puts.ext p2 x1 b11
    refine in_nil ?_
    refine hK506 _ _ ?_
    try clear hK506 K506
    refine wpIn_seq_k fun K507 hK507 => ?_
    refine region_litIn ?_
    refine in_val (.int .i64 (((32 * pre.length) + (min 32 (n - 32 * pre.length)) : Nat) : Int)) 31 rfl (free_wide l 1 _) rfl kj (run_loadC1 3 _ g11 0 3 _ (.int .i64 (((32 * pre.length) + (min 32 (n - 32 * pre.length)) : Nat) : Int)) _ r503_2 rfl kj kj kj) ?_
    have r501_1 := (ExtB.row q1 q5 nb5O)
    have r501_2 := (Puts.row p2 r501_1 nb59)
    refine in_val (.int .i64 ((n : Nat) : Int)) 32 rfl (free_wide l 1 _) rfl kj (run_loadC1 3 _ g4 0 3 _ (.int .i64 ((n : Nat) : Int)) _ r501_2 rfl kj kj kj) ?_
    refine in_val (.bool (((((32 * pre.length) + (min 32 (n - 32 * pre.length)) : Nat) : Int) == ((n : Nat) : Int)))) 33 rfl (free_wide l 1 _) rfl kj kj ?_
    refine in_nil ?_
    refine hK507 _ _ ?_
    try clear hK507 K507
    refine in_cond_split (t := ((((32 * pre.length) + (min 32 (n - 32 * pre.length)) : Nat) : Int) == ((n : Nat) : Int))) kj (fun c508 => ?_) (fun c508 => ?_)
    · skip
      have hm : 32 * pre.length + min 32 (n - 32 * pre.length) = n ∨ 32 * pre.length + min 32 (n - 32 * pre.length) ≠ n := by omega
      have hge : n ≤ 32 * (pre.length + 1) := by have := eq_of_beq c508; omega
      refine wpIn_exit ?_
      repeat (first | with_reducible refine goX1 ?_ | with_reducible refine goXo (by decide) ?_)
      have r502_1 := (ExtB.row q1 q8 nb8O)
      have r502_2 := (Puts.row p2 r502_1 nb89)
      have r504_2 := (Puts.row p2 rO_1 nbO9)
      exact ⟨((keeps_but q1 qO).trans (keeps_puts p2 r503_1)), ⟨rfl, by rw [hl1]; exact hge, r501_2, r502_2, r504_2⟩, x2⟩
    · skip
      have hm : 32 * pre.length + min 32 (n - 32 * pre.length) = n ∨ 32 * pre.length + min 32 (n - 32 * pre.length) ≠ n := by omega
      have hlt : 32 * (pre.length + 1) < n := by
        have h := c508
        apply Decidable.byContradiction
        intro hc2
        have e : ((32 * pre.length + min 32 (n - 32 * pre.length) : Nat) : Int) = ((n : Nat) : Int) := by omega
        rw [e, beq_self_eq_true] at h
        exact absurd h (by decide)
      refine wpIn_skip ?_
      repeat (first | with_reducible refine goX1 ?_ | with_reducible refine goX2 ?_ | with_reducible refine goX3 ?_)
      have r502_1 := (ExtB.row q1 q8 nb8O)
      have r502_2 := (Puts.row p2 r502_1 nb89)
      have r504_2 := (Puts.row p2 rO_1 nbO9)
      exact ⟨((keeps_but q1 qO).trans (keeps_puts p2 r503_1)), (KeepC.trans (keepC_but q1 (by simp)) (keepC_puts p2 (by simp))), ⟨r501_2, r502_2, by rw [hl1, show 32 * (pre.length + 1) = 32 * pre.length + min 32 (n - 32 * pre.length) by omega]; exact r503_2, r504_2, .inr (by rw [hl1]; exact hlt), Nat.le_trans hsz (Nat.le_trans (Nat.le_trans (Nat.le_refl _) q1.2.2.2.1) (Nat.le_of_eq p2.2.2.2.1.symm))⟩, x2⟩
  · exfalso
    obtain ⟨⟨-, -, -, -, hpl, -⟩, -⟩ := hI
    subst hS
    rw [List.length_range] at hpl
    omega
  · obtain ⟨⟨rfl, hge, q5, q8, qO⟩, xx⟩ := hIx
    obtain ⟨kR, rfl, -⟩ := hSp
    rw [List.length_range] at hge
    rw [FF_full key info n kR hge] at qO
    have bD : w.heap.size ≤ D := Nat.le_trans x7.size lD
    refine wp_exit ?_
    refine hK13 _ _ ?_
    try clear hK13 K13
    refine wp_seq_k fun K17 hK17 => ?_
    refine region_lit ?_
    refine seq_val (.slice (some ⟨g8, 0, none⟩) n n) 34 rfl kj (run_loadC1 22 _ g9 0 22 _ (.slice (some ⟨g8, 0, none⟩) n n) _ q8 rfl kj kj kj) ?_
    refine seq_val (.slice (some ⟨g8, 0, none⟩) n n) 6 rfl kj kj ?_
    refine seq_val (.nilIface) 7 rfl kj kj ?_
    refine seq_nil ?_
    refine hK17 _ _ ?_
    try clear hK17 K17
    refine wp_ret ?_
    repeat (first | with_reducible refine goR1 ?_ | with_reducible refine goR2 ?_)
    exact (show bodyPostM _ _ _ _ _ .ret _ _ from retM2 (.slice (some ⟨g8, 0, none⟩) n n) (.nilIface) rfl rD (res_tmp kj) (res_tmp kj) ⟨_, rfl, putD_ext xx bD rD _, _, kR, rfl, hge, ownN_row (okm_take key info n kR hge) b8 (putD_row qO rD _) (by simp only [maxLen]; omega)⟩)

end Go.Proofs.YtamlhbbphnamnaaDoor.Sha
