/- A reader: bytes.Clone, bytes, key. -/
import Derived.Test.YtfelfmchachljaaWrM
namespace Go.Proofs.Ytfelfmchachljaa.Wr
open Go Go.RowKit
open Go.Proofs.Ytfelfmchachljaa.Rely Go.Proofs.Ytfelfmchachljaa.Auto Go.Proofs.Ytfelfmchachljaa.Own Go.Proofs.Ytfelfmchachljaa.Sha
set_option linter.unusedVariables false
set_option linter.unusedSimpArgs false

open Go.Proofs.Ytfelfmchachljaa.Wk
theorem run_copyI {P : Program} {ρ : Operand → Value} {o : Oper} {W : World} {k : IntKind} {e : TypeId} (x y : Operand) (tx ty : TypeId) (ho : o.op = .call { callee := .builtin .copy, args := #[x, y], argTypes := #[tx, ty] }) (hu : P.underlying tx = some (.slice e)) (hsz : (P.info? e).map (·.size) = some 1)
    {g off dl dc n B : Nat} {xs z : List Int} {v : Value} {T : TypeId} (hx : ρ x = .slice (some ⟨g, off, none⟩) dl dc) (hy : ρ y = v) (hr : RdK k B z v W)
    (hg : W.heap[g]? = some (.cells (ints k xs) T)) (hq : off + dl ≤ xs.length) (hn : n = min z.length dl) :
    ∃ W' : World, (execOp ρ o).run P W = .ok (.value (.int .i64 ((n : Nat) : Int))) W' ∧ Puts W g W' ∧ W'.heap[g]? = some (.cells (ints k (xs.take off ++ z.take n ++ xs.drop (off + n))) T) := by
  obtain ⟨a, cap, rfl, y2, y3, y4, y5⟩ := hr
  have hgo : ∀ W', (Builtin.copy_ #[tx, ty] o.type #[.slice (some ⟨g, off, none⟩) dl dc, .slice a z.length cap]).run P W = .ok (goInt n) W' → (execOp ρ o).run P W = .ok (.value (.int .i64 ((n : Nat) : Int))) W' := fun W' h => by
    unfold execOp
    simp only [ho, resolve, invoke, builtin, Sem.run_bind, Sem.run_pure, Result.andThen_ok, List.map_toArray, List.map_cons, List.map_nil, hx, hy, h, goInt]
  rcases Nat.eq_zero_or_pos n with h0 | h0
  · refine ⟨W, hgo W ?_, ⟨rfl, rfl, rfl, rfl, fun _ _ => rfl⟩, ?_⟩
    · rw [h0]; exact run_copy_none W tx ty o.type e _ _ _ _ _ _ hu hsz (hn.symm.trans h0)
    · rw [h0, List.take_zero, List.append_nil, Nat.add_zero, List.take_append_drop]; exact hg
  · obtain ⟨gz, oz, rfl, z2, z3, z4⟩ := y5.resolve_left (fun e => by rw [e] at hn; simp at hn; omega)
    have hlen : ((z.take n).map (Value.int k)).length = n := by simp; omega
    have h := run_copy_row (P := P) W tx ty o.type e g off dl dc ⟨gz, oz, none⟩ z.length cap (ints k xs) T ((z.take n).map (Value.int k)) hu hsz hg (by rw [hlen]; exact hn)
      (newsK (k := k) (ys := z.take n) fun i hi => by
        rw [List.length_take] at hi
        rw [z4 i (by omega)]
        simp [nth, show i < n by omega]) (by rw [hlen, ints_size]; omega) (onesK k _)
    rw [hlen] at h
    have e1 : ((ints k xs).toList.take off ++ (z.take n).map (Value.int k) ++ (ints k xs).toList.drop (off + n)).toArray = ints k (xs.take off ++ z.take n ++ xs.drop (off + n)) := by
      apply Array.ext'
      show (xs.map (Value.int k)).take off ++ (z.take n).map (Value.int k) ++ (xs.map (Value.int k)).drop (off + n) = (xs.take off ++ z.take n ++ xs.drop (off + n)).map (Value.int k)
      simp only [List.map_append, List.map_take, List.map_drop]
    rw [e1] at h
    exact ⟨_, hgo _ h, puts_setRow _ _ _, setRow_heap _ _ _ _ _ _ hg⟩
theorem run_copyY {P : Program} {ρ : Operand → Value} {o : Oper} {W : World} {k : IntKind} {e : TypeId} (x y : Operand) (tx ty : TypeId) (ho : o.op = .call { callee := .builtin .copy, args := #[x, y], argTypes := #[tx, ty] }) (hu : P.underlying tx = some (.slice e)) (hsz : (P.info? e).map (·.size) = some 1)
    {g off dl dc n B : Nat} {xs ys z : List Int} {v : Value} {T : TypeId} (hx : ρ x = .slice (some ⟨g, off, none⟩) dl dc) (hy : ρ y = v) (hr : RdK k B z v W)
    (hg : W.heap[g]? = some (.cells (ints k xs) T)) (hq : off + dl ≤ xs.length) (hn : n = min z.length dl) (hY : xs.take off ++ z.take n ++ xs.drop (off + n) = ys) :
    ∃ W' : World, (execOp ρ o).run P W = .ok (.value (.int .i64 ((n : Nat) : Int))) W' ∧ Puts W g W' ∧ W'.heap[g]? = some (.cells (ints k ys) T) := hY ▸ run_copyI x y tx ty ho hu hsz hx hy hr hg hq hn
set_option maxHeartbeats 4000000 in
theorem clone_N (w : World) : Calls Try.prog 129 #[.slice none 0 0] w (Gives w (OwnN .u8 5 w.heap.size [])) := by
  refine enter 8 [(0, .slice none 0 0)] Try.func129 rfl rfl kj rfl ?_
  refine wp_seq_k fun K1 hK1 => ?_
  refine region_lit ?_
  refine seq_val (.slice none 0 0) 2 rfl kj kj ?_
  refine seq_nil ?_
  refine hK1 _ _ ?_
  try clear hK1 K1
  refine wp_seq_k fun K2 hK2 => ?_
  refine wp_seq_k fun K3 hK3 => ?_
  refine region_lit ?_
  refine seq_val (.slice none 0 0) 3 rfl kj kj ?_
  refine seq_val (.bool true) 4 rfl kj kj ?_
  refine seq_nil ?_
  refine hK3 _ _ ?_
  try clear hK3 K3
  refine cond_true kj ?_
  refine wp_seq_k fun K4 hK4 => ?_
  refine region_lit ?_
  refine seq_val (.slice none 0 0) 2 rfl kj kj ?_
  refine seq_nil ?_
  refine hK4 _ _ ?_
  try clear hK4 K4
  refine wp_ret ?_
  repeat (first | with_reducible refine goR1 ?_ | with_reducible refine goR2 ?_)
  exact (show bodyPost _ _ _ .ret _ _ from ret1 (.slice none 0 0) rfl (res_tmp kj) ⟨_, rfl, (Rely.Ext.refl w), ownN_nil .u8 5 _ _⟩)
set_option maxHeartbeats 4000000 in
theorem clone_S (text : List Int) (ad : Addr) (cp B : Nat) (w : World) (htl : text.length ≤ 900000000) (ht : RdK .u8 B text (.slice (some ad) text.length cp) w) : Calls Try.prog 129 #[.slice (some ad) text.length cp] w (Gives w (OwnN .u8 5 w.heap.size text)) := by
  refine enter 8 [(0, .slice (some ad) text.length cp)] Try.func129 rfl rfl kj rfl ?_
  refine wp_seq_k fun K1 hK1 => ?_
  refine region_lit ?_
  refine seq_val (.slice none 0 0) 2 rfl kj kj ?_
  refine seq_nil ?_
  refine hK1 _ _ ?_
  try clear hK1 K1
  refine wp_seq_k fun K2 hK2 => ?_
  refine wp_seq_k fun K3 hK3 => ?_
  refine region_lit ?_
  refine seq_val (.slice (some ad) text.length cp) 3 rfl kj kj ?_
  refine seq_val (.bool false) 4 rfl kj kj ?_
  refine seq_nil ?_
  refine hK3 _ _ ?_
  try clear hK3 K3
  refine cond_false kj ?_
  refine wp_skip ?_
  refine hK2 _ _ ?_
  try clear hK2 K2
  refine wp_seq_k fun K4 hK4 => ?_
  refine region_lit ?_
  refine seq_makeS (ints .u8 ([])) 5 0 5 rfl kj kj fun g5 W1 l5 e1 r5_1 => ?_
  have x1 : Ext w W1 := Ext.tr (Rely.Ext.refl w) e1
  have b5 : w.heap.size ≤ g5 := Nat.le_trans (Rely.Ext.refl w).size l5
  refine seq_val (.slice (some ad) text.length cp) 6 rfl kj kj ?_
  have y0_1 : Ext w W1 := (Rely.Ext.trans (Rely.Ext.refl w) e1)
  refine seq_appendN (k := .u8) (T := 5) (xs := []) (ys := text) (V := w) 1 (.tmp 5) (.tmp 6) 26 rfl kj kj (by decide) 7 rfl kj kj kj (ownN_row (xs := []) rfl l5 r5_1 (by decide)) (RdK.ext ht x1) (by simp; omega) y0_1 fun u1 W2 f6 y2 l2 => ?_
  have x2 : Ext w W2 := Ext.low x1 l2 (Rely.Ext.refl w).size
  refine seq_val (u1) 2 rfl kj kj ?_
  refine seq_nil ?_
  refine hK4 _ _ ?_
  try clear hK4 K4
  refine wp_ret ?_
  repeat (first | with_reducible refine goR1 ?_ | with_reducible refine goR2 ?_)
  exact (show bodyPost _ _ _ .ret _ _ from ret1 (u1) rfl (res_tmp kj) ⟨_, rfl, x2, f6⟩)
theorem put_of {P : Program} {ρ : Operand → Value} {o : Oper} {W : World} {g : Nat} {Y : Obj} {v : Value} (h : ∃ W' : World, (execOp ρ o).run P W = .ok (.value v) W' ∧ Puts W g W' ∧ W'.heap[g]? = some Y) : ∃ u W', (execOp ρ o).run P W = .ok (.value u) W' ∧ (u = v ∧ Puts W g W' ∧ W'.heap[g]? = some Y) := by
  obtain ⟨W', e1, p1, r1⟩ := h
  exact ⟨_, W', e1, rfl, p1, r1⟩
theorem cloneC (text : List Int) (v : Value) (B : Nat) (w : World) (htl : text.length ≤ 900000000) (ht : RdK .u8 B text v w) : Calls Try.prog 129 #[v] w (Gives w (OwnN .u8 5 w.heap.size text)) := by
  obtain ⟨a, c, rfl, h1, h2, h3, h4⟩ := id ht
  cases a with
  | none =>
    obtain rfl := h3 rfl
    obtain rfl : text = [] := List.length_eq_zero_iff.1 (by omega)
    exact clone_N w
  | some ad => exact clone_S text ad c B w htl ht
/-- a row's bytes, and what is left -/
def rowL (s : Option (List Int)) : List Int := takeL (takeS s 2) (bigN (takeL s 2))
def rowR (s : Option (List Int)) : Option (List Int) := takeS (takeS s 2) (bigN (takeL s 2))
/-- an array of thirty-two: zeros where nothing was read -/
def keyV (ys : List Int) : List Int := ys ++ (List.replicate 32 0).drop ys.length
theorem keyV_len (ys : List Int) (h : ys.length ≤ 32) : (keyV ys).length = 32 := by unfold keyV; rw [List.length_append, List.length_drop, List.length_replicate]; omega
theorem keyV_bytes (ys : List Int) (h : AreBytes ys) : AreBytes (keyV ys) := bytes_app h (bytes_drop (fun x hx => by rw [(List.mem_replicate.1 hx).2]; decide) _)
set_option maxHeartbeats 4000000 in
theorem rbytesR (B gr : Nat) (s : Option (List Int)) (w : World) (hB : B ≤ gr) (h : RSt B gr s w) : Calls Try.prog 118 #[.pointer (some ⟨gr, 0, none⟩)] w (GivesR B gr w (rowR s) fun v W => OwnN .u8 5 w.heap.size (rowL s) v W ∧ AreBytes (rowL s) ∧ (rowL s).length ≤ 65535) := by
  have hgr := h.lt
  have hn : bigN (takeL s 2) < 65536 := bigN_lt (takeL s 2) (h.bytes 2) 2 (takeL_le s 2)
  have hn2 : (rowL s).length ≤ 65535 := by
    have := takeL_le (takeS s 2) (bigN (takeL s 2))
    unfold rowL
    omega
  refine enter 8 [(0, .pointer (some ⟨gr, 0, none⟩))] Try.func118 rfl rfl kj rfl ?_
  refine wp_seq_k fun K1 hK1 => ?_
  refine region_lit ?_
  refine seq_val (.slice none 0 0) 2 rfl kj kj ?_
  refine seq_nil ?_
  refine hK1 _ _ ?_
  try clear hK1 K1
  refine wp_seq_k fun K2 hK2 => ?_
  refine region_lit ?_
  refine seq_val (.pointer (some ⟨gr, 0, none⟩)) 3 rfl kj kj ?_
  refine seq_val (.pointer (some ⟨gr, 0, none⟩)) 4 rfl kj kj ?_
  refine seq_callR (fun v W' => ExtB gr w W' ∧ RSt B gr (takeS (s) 2) W' ∧ (fun (v : Value) (_ : World) => v = .int .i64 ((bigN (takeL (s) 2) : Nat) : Int)) v W') 110 #[.pointer (some ⟨gr, 0, none⟩), .int .i64 2] 5 rfl kj kj (rnumberR B gr _ 2 _ hB h (by decide)) fun vv3 W1 hh3 => ?_
  obtain ⟨q1, rs3, hv3⟩ := hh3
  have x1 : ExtB gr w W1 := ExtB.tr (ExtB.refl gr w) q1
  subst hv3
  refine seq_callR (fun v W' => ExtB gr W1 W' ∧ RSt B gr (takeS (takeS (s) 2) (bigN (takeL s 2))) W' ∧ (fun (v : Value) (W : World) => RdK .u8 B (takeL (takeS (s) 2) (bigN (takeL s 2))) v W ∧ AreBytes (takeL (takeS (s) 2) (bigN (takeL s 2)))) v W') 124 #[.pointer (some ⟨gr, 0, none⟩), .int .i64 ((bigN (takeL (s) 2) : Nat) : Int)] 6 rfl kj kj (rrawR B gr _ (bigN (takeL s 2)) _ hB rs3) fun vv4 W2 hh4 => ?_
  obtain ⟨q2, rs4, hv4⟩ := hh4
  have x2 : ExtB gr w W2 := ExtB.tr x1 q2
  obtain ⟨hr, hyb⟩ := hv4
  have hyl := takeL_le (takeS s 2) (bigN (takeL s 2))
  change RdK .u8 B (rowL s) _ _ at hr
  change AreBytes (rowL s) at hyb
  change (rowL s).length ≤ _ at hyl
  obtain ⟨a_y, c_y, rfl, -⟩ := id hr
  refine seq_callR (fun v W' => (OwnN .u8 5 W2.heap.size (rowL s)) v W' ∧ Ext W2 W') 129 #[.slice a_y ((rowL s).length) c_y] 7 rfl kj kj ((cloneC (rowL s) _ _ _ (by omega) hr).mono (by rintro e w' ⟨v, rfl, e1, hv⟩; exact ⟨v, rfl, hv, e1⟩)) fun vv5 W3 hh5 => ?_
  obtain ⟨hv5, e3⟩ := hh5
  have x3 : ExtB gr w W3 := ExtB.ext x2 e3
  refine seq_val (vv5) 2 rfl kj kj ?_
  refine seq_nil ?_
  refine hK2 _ _ ?_
  try clear hK2 K2
  refine wp_ret ?_
  repeat (first | with_reducible refine goR1 ?_ | with_reducible refine goR2 ?_)
  have rs6 := (RSt.ext rs4 hB e3)
  exact (show bodyPost _ _ _ .ret _ _ from ret1 (vv5) rfl (res_tmp kj) ⟨_, rfl, x3, rs6, OwnN.base x2.size hv5, hyb, hn2⟩)
set_option maxHeartbeats 4000000 in
theorem rkeyR (B gr : Nat) (s : Option (List Int)) (w : World) (hB : B ≤ gr) (h : RSt B gr s w) : Calls Try.prog 109 #[.pointer (some ⟨gr, 0, none⟩)] w (GivesR B gr w (takeS s 32) fun v _ => v = .agg (ints .u8 (keyV (takeL s 32)))) := by
  have hgr := h.lt
  refine enter 9 [(0, .pointer (some ⟨gr, 0, none⟩))] Try.func109 rfl rfl kj rfl ?_
  refine wp_seq_k fun K1 hK1 => ?_
  refine region_lit ?_
  refine seq_alloc (ints .u8 (List.replicate 32 0)) 40 2 rfl kj kj fun g2 W1 l2 e1 r2_1 => ?_
  have x1 : ExtB gr w W1 := ExtB.ext (ExtB.refl gr w) e1
  have b2 : w.heap.size ≤ g2 := Nat.le_trans (ExtB.refl gr w).size l2
  refine seq_nil ?_
  refine hK1 _ _ ?_
  try clear hK1 K1
  refine wp_seq_k fun K3 hK3 => ?_
  refine region_lit ?_
  refine seq_alloc (ints .u8 (List.replicate 32 0)) 40 3 rfl kj kj fun g4 W2 l4 e2 r4_2 => ?_
  have x2 : ExtB gr w W2 := ExtB.ext x1 e2
  have b4 : w.heap.size ≤ g4 := Nat.le_trans x1.size l4
  refine seq_nil ?_
  refine hK3 _ _ ?_
  try clear hK3 K3
  refine wp_seq_k fun K5 hK5 => ?_
  refine region_walkG (fun _ => True) kj fun W3 e3 => ⟨trivial, ?_⟩
  have x3 : ExtB gr w W3 := ExtB.ext x2 e3
  refine wb_val 0 (.slice (some ⟨g4, 0, none⟩) 32 32) 4 rfl rfl kj kj (fun _ _ _ h => h) (fun W hR => by kernel_rfl) ?_
  refine wb_val 1 (.pointer (some ⟨gr, 0, none⟩)) 5 rfl rfl kj kj (fun _ _ _ h => h) (fun W hR => by kernel_rfl) ?_
  refine wb_one 2 kj ?_
  have rs6 := (RSt.ext (RSt.ext (RSt.ext h hB e1) hB e2) hB e3)
  refine wo_callR rfl (fun v W' => ExtB gr W3 W' ∧ RSt B gr (takeS (s) 32) W' ∧ (fun (v : Value) (W : World) => RdK .u8 B (takeL (s) 32) v W ∧ AreBytes (takeL (s) 32)) v W') 124 #[.pointer (some ⟨gr, 0, none⟩), .int .i64 32] 6 rfl kj kj (rrawR B gr _ 32 _ hB rs6) (fun _ _ _ => trivial) fun vv7 W4 hh7 => ?_
  obtain ⟨q4, rs7, hv7⟩ := hh7
  have x4 : ExtB gr w W4 := ExtB.tr x3 q4
  obtain ⟨hr, hyb⟩ := hv7
  have hyl := takeL_le s 32
  obtain ⟨ys, hys⟩ : ∃ z, z = takeL s 32 := ⟨_, rfl⟩
  rw [← hys] at hr hyb hyl
  obtain ⟨a_y, c_y, rfl, -⟩ := id hr
  refine wb_one 3 kj ?_
  have r4_3 := (row_ext r4_2 e3)
  have r4_4 := (ExtB.row q4 r4_3 (Ne.symm (Nat.ne_of_lt (Nat.lt_of_lt_of_le hgr b4))))
  refine wo_run rfl (fun v W' => v = .int .i64 ((ys.length : Nat) : Int) ∧ Puts W4 g4 W' ∧ W'.heap[g4]? = some (.cells (ints .u8 (keyV ys)) 40)) 7 rfl kj (put_of (run_copyY (k := .u8) (e := 5) (.tmp 4) (.tmp 6) 26 26 rfl kj kj (off := 0) (dl := 32) (dc := 32) (n := ys.length) (xs := List.replicate 32 0) (ys := keyV ys) kj kj hr r4_4 (by decide) (by omega) (by unfold keyV; rw [List.take_zero, List.nil_append, List.take_length, Nat.zero_add]))) (fun _ _ _ => trivial) fun v8 W5 h8 => ?_
  obtain ⟨rfl, p5, r4_5⟩ := h8
  have x5 : ExtB gr w W5 := ExtB.putsN x4 p5 b4
  refine wb_nil kj ?_
  refine hK5 _ _ ?_
  try clear hK5 K5
  refine wp_seq_k fun K9 hK9 => ?_
  refine region_lit ?_
  refine seq_val (.agg (ints .u8 (keyV ys))) 8 rfl kj (run_load_row 40 _ g4 40 _ _ r4_5 rfl kj kj (isz (n := 32) kj ((ints_size _ _).trans (keyV_len ys hyl)))) ?_
  have r2_2 := (row_ext r2_1 e2)
  have r2_3 := (row_ext r2_2 e3)
  have r2_4 := (ExtB.row q4 r2_3 (Ne.symm (Nat.ne_of_lt (Nat.lt_of_lt_of_le hgr b2))))
  have r2_5 := (Puts.row p5 r2_4 (ne_of_old r2_1 l4))
  refine seq_store g2 _ (ints .u8 (keyV ys)) 40 r2_5 rfl kj (run_store_row 40 _ _ g2 40 _ _ r2_5 rfl kj kj (isz (n := 32) kj ((ints_size _ _).trans (keyV_len ys hyl))) (eqsz (n := 32) ((ints_size _ _).trans (List.length_replicate (n := 32))) ((ints_size _ _).trans (keyV_len ys hyl))) (ints_one _ _)) fun W6 p6 r2_6 => ?_
  have x6 : ExtB gr w W6 := ExtB.putsN x5 p6 b2
  refine seq_nil ?_
  refine hK9 _ _ ?_
  try clear hK9 K9
  refine wp_ret ?_
  repeat (first | with_reducible refine goR1 ?_ | with_reducible refine goR2 ?_)
  have rs10 := (RSt.put (RSt.put rs7 hB p5 (Nat.lt_of_lt_of_le hgr b4)) hB p6 (Nat.lt_of_lt_of_le hgr b2))
  exact (show bodyPost _ _ _ .ret _ _ from ret1 (.agg (ints .u8 (keyV ys))) rfl (res_cell g2 40 _ r2_6 kj kj (isz (n := 32) kj ((ints_size _ _).trans (keyV_len ys hyl)))) ⟨_, rfl, x6, rs10, by rw [← hys]⟩)

end Go.Proofs.Ytfelfmchachljaa.Wr
