/- Texts of this claim, joined (K2). -/
import Derived.Test.YtibegnjaphohaaaDoorZK1
import Derived.Lib.AppendStr
import Derived.MapKept
import Derived.ChangeMaps4
import Derived.Maps.RangeRun
import Derived.Laws.BitsAll

section
namespace Go.Proofs.YtibegnjaphohaaaDoor.Sha
open Go Go.RowKit
open Rely Auto Own
set_option linter.unusedVariables false
set_option linter.unusedSimpArgs false
theorem Qhv {P : Program} {ρ : Operand → Value} {o : Oper} {W : World} {k : IntKind} {e : TypeId} (x y : Operand) (tx ty : TypeId) (ho : o.op = .call { callee := .builtin .copy, args := #[x, y], argTypes := #[tx, ty] }) (hu : P.underlying tx = some (.slice e)) (hsz : (P.info? e).map (·.size) = some 1)
    {g off dl dc n B : Nat} {xs z : List Int} {v : Value} {T : TypeId} (hx : ρ x = .slice (some ⟨g, off, none⟩) dl dc) (hy : ρ y = v) (hr : RdK k B z v W)
    (hg : W.heap[g]? = some (.cells (ints k xs) T)) (hq : off + dl ≤ xs.length) (hn : n = min z.length dl) :
    ∃ W' : World, (execOp ρ o).run P W = .ok (.value (.int .i64 ((n : Nat) : Int))) W' ∧ Puts W g W' ∧ W'.heap[g]? = some (.cells (ints k (xs.take off ++ z.take n ++ xs.drop (off + n))) T) := by
  obtain ⟨a, cap, rfl, y2, y3, y4, y5⟩ := hr
  have hgo : ∀ W', (Builtin.copy_ #[tx, ty] o.type #[.slice (some ⟨g, off, none⟩) dl dc, .slice a z.length cap]).run P W = .ok (goInt n) W' → (execOp ρ o).run P W = .ok (.value (.int .i64 ((n : Nat) : Int))) W' := fun W' h => by
    unfold execOp
    simp only [ho, resolve, invoke, builtin, Sem.run_bind, Sem.run_pure, Result.andThen_ok, List.map_toArray, List.map_cons, List.map_nil, hx, hy, h, goInt]
  rcases Nat.eq_zero_or_pos n with h0 | h0
  · refine ⟨W, hgo W ?_, ⟨rfl, rfl, rfl, rfl, fun _ _ => rfl⟩, ?_⟩
    · rw [h0]; exact run_copy_none W tx ty o.type e _ _ _ _ _ _ hu hsz (hn.symm.trans h0)
    · rw [h0, List.take_zero, List.append_nil, Nat.add_zero, List.take_append_drop]; exact hg
  · obtain ⟨gz, oz, rfl, z2, z3, z4⟩ := y5.resolve_left (fun e => by rw [e] at hn; simp at hn; omega)
    have hlen : ((z.take n).map (Value.int k)).length = n := by simp; omega
    have h := run_copy_row (P := P) W tx ty o.type e g off dl dc ⟨gz, oz, none⟩ z.length cap (ints k xs) T ((z.take n).map (Value.int k)) hu hsz hg (by rw [hlen]; exact hn)
      (QhB (k := k) (ys := z.take n) fun i hi => by
        rw [List.length_take] at hi
        rw [z4 i (by omega)]
        simp [nth, show i < n by omega]) (by rw [hlen, Qac]; omega) (Qh9 k _)
    rw [hlen] at h
    have e1 : ((ints k xs).toList.take off ++ (z.take n).map (Value.int k) ++ (ints k xs).toList.drop (off + n)).toArray = ints k (xs.take off ++ z.take n ++ xs.drop (off + n)) := by
      apply Array.ext'
      show (xs.map (Value.int k)).take off ++ (z.take n).map (Value.int k) ++ (xs.map (Value.int k)).drop (off + n) = (xs.take off ++ z.take n ++ xs.drop (off + n)).map (Value.int k)
      simp only [List.map_append, List.map_take, List.map_drop]
    rw [e1] at h
    exact ⟨_, hgo _ h, Qbl _ _ _, setRow_heap _ _ _ _ _ _ hg⟩
theorem Qfi {P : Program} {ρ : Operand → Value} {o : Oper} {W : World} {k : IntKind} {e : TypeId} (x y : Operand) (tx ty : TypeId) (ho : o.op = .call { callee := .builtin .copy, args := #[x, y], argTypes := #[tx, ty] }) (hu : P.underlying tx = some (.slice e)) (hsz : (P.info? e).map (·.size) = some 1)
    {g off dl dc n B : Nat} {xs ys z : List Int} {v : Value} {T : TypeId} (hx : ρ x = .slice (some ⟨g, off, none⟩) dl dc) (hy : ρ y = v) (hr : RdK k B z v W)
    (hg : W.heap[g]? = some (.cells (ints k xs) T)) (hq : off + dl ≤ xs.length) (hn : n = min z.length dl) (hY : xs.take off ++ z.take n ++ xs.drop (off + n) = ys) :
    ∃ W' : World, (execOp ρ o).run P W = .ok (.value (.int .i64 ((n : Nat) : Int))) W' ∧ Puts W g W' ∧ W'.heap[g]? = some (.cells (ints k ys) T) := hY ▸ Qhv x y tx ty ho hu hsz hx hy hr hg hq hn
theorem Qgh {P : Program} {ρ : Operand → Value} {o : Oper} {W : World} {g : Nat} {X Y : Obj} {v : Value} (h : ∃ W' : World, (execOp ρ o).run P W = .ok (.value v) W' ∧ Puts W g W' ∧ W'.heap[g]? = some Y) :
    ∃ u W', (execOp ρ o).run P W = .ok (.value u) W' ∧ Qcn g X Y W W' ∧ (u = v ∧ W'.heap[g]? = some Y) := by
  obtain ⟨W', e1, p1, r1⟩ := h
  exact ⟨_, W', e1, ⟨ExtB.puts (ExtB.refl _ _) p1, .inr r1⟩, rfl, r1⟩
theorem QgH {P : Program} {ρ : Operand → Value} {o : Oper} {w : World} (t : TypeId) (x z : Operand) (l g len cap : Nat) (e : TypeId) (ho : o.op = .slice t x (some z) none none) (hx : ρ x = .slice (some ⟨g, 0, none⟩) len cap)
    (hu : P.underlying t = some (.slice e)) (hs : (P.info? e).map (·.size) = some 1) (kz : IntKind) (hz : ρ z = .int kz (l : Int)) (h1 : l ≤ len) (h2 : len ≤ cap) :
    (execOp ρ o).run P w = .ok (.value (.slice (some ⟨g, (if cap = l then 0 else l), none⟩) (len - l) (cap - l))) w := by
  cases hq : P.info? e with
  | none => simp [hq] at hs
  | some i =>
    have hs' : i.size = 1 := by simpa [hq] using hs
    unfold execOp
    simp [ho, hx, hz, Instr.sliceAt, Instr.slice, Instr.sliceBounds, run_sliceBound, run_underlying hu, sizeOf, typeInfo, hq, hs', h1, h2]
    split
    · simp [Addr.add]
    · simp [Addr.add]
      exact fun h => h.symm
theorem goXo {K : Act → World → Prop} {Q : Exit → Act → World → Prop} {a : Act} {w : World} {n m : Nat} (h : n ≠ m) (k : Q (.exit n) a w) : Exit.inBlock m Q (.exit n) a w := by
  unfold Exit.inBlock
  simp [h]
  exact k
theorem Qfx {W W' : World} {g : Nat} {cs : Array Value} {t : TypeId} (h : ExtB g W W') (r : W.heap[g]? = some (.cells cs t)) : KeepsOthers W W' :=
  ⟨h.2.2.2.1, fun k o hk ho => by
    by_cases e : k = g
    · subst e
      rw [r] at hk
      cases hk
      cases ho
    · exact (h.2.2.2.2 k (Qat hk) e).trans hk⟩
theorem QhK {gs : List Nat} {A B : World} {g : Nat} (h : ExtB g A B) (hm : g ∈ gs) : Qb7 gs A B := ⟨h.2.2.2.1, fun k cs t fr q n => (h.2.2.2.2 k (Qat q) (fun e => n (e ▸ hm))).trans q⟩
theorem QgT {gs : List Nat} {A B : World} {g : Nat} (h : Puts A g B) (hm : g ∈ gs) : Qb7 gs A B := ⟨Nat.le_of_eq h.2.2.2.1.symm, fun k cs t fr q n => (h.2.2.2.2 k (fun e => n (e ▸ hm))).trans q⟩
def okL (key info : List Int) (pre : List Nat) : List Int := (pre.map fun x => tg key info (x + 1)).flatten
def FF (key info : List Int) (n : Nat) (pre : List Nat) : List Int := (okL key info pre).take n ++ List.replicate (n - 32 * pre.length) 0
theorem QfL (key info : List Int) : ∀ pre, (okL key info pre).length = 32 * pre.length
  | [] => rfl
  | x :: l => by
    have := QfL key info l
    unfold okL at this ⊢
    rw [List.map_cons, List.flatten_cons, List.length_append, this, tg, Qbs, List.length_cons]; omega
theorem Qgl (key info : List Int) (pre : List Nat) (x : Nat) : okL key info (pre ++ [x]) = okL key info pre ++ tg key info (x + 1) := by simp [okL]
theorem Qfr (key info : List Int) : ∀ k, okL key info (List.range k) = okm key info k
  | 0 => rfl
  | k + 1 => by rw [List.range_succ, Qgl, Qfr key info k, okm]
theorem Qij (key info : List Int) (n : Nat) (pre : List Nat) : (FF key info n pre).length = n := by
  unfold FF
  rw [List.length_append, List.length_take, QfL, List.length_replicate]; omega
theorem QkK (key info : List Int) (n : Nat) : List.replicate n 0 = FF key info n [] := by simp [FF, okL]
theorem Qia (key info : List Int) (n : Nat) (pre : List Nat) (x : Nat) (h : pre.length = 0 ∨ 32 * pre.length < n) :
    (FF key info n pre).take (if n = 32 * pre.length then 0 else 32 * pre.length) ++ (tg key info (x + 1)).take (min 32 (n - 32 * pre.length)) ++ (FF key info n pre).drop ((if n = 32 * pre.length then 0 else 32 * pre.length) + min 32 (n - 32 * pre.length)) = FF key info n (pre ++ [x]) := by
  have hl := QfL key info pre
  have ht : (tg key info (x + 1)).length = 32 := Qbs _ _
  have hp : (pre ++ [x]).length = pre.length + 1 := by simp
  by_cases hn : n = 32 * pre.length
  · have h0 : n = 0 := by omega
    subst h0
    rw [if_pos hn]
    unfold FF
    simp
  · have hlt : 32 * pre.length < n := by omega
    rw [if_neg hn]
    unfold FF
    rw [Qgl, hp, List.take_of_length_le (by omega : (okL key info pre).length ≤ n), List.take_append_of_le_length (by omega), List.take_of_length_le (by omega : (okL key info pre).length ≤ 32 * pre.length),
      List.drop_append, List.drop_of_length_le (by omega : (okL key info pre).length ≤ 32 * pre.length + min 32 (n - 32 * pre.length)), List.nil_append, List.drop_replicate, List.take_append, List.take_of_length_le (by omega : (okL key info pre).length ≤ n), hl]
    congr 1
    · congr 1
      by_cases h32 : n - 32 * pre.length ≤ 32
      · rw [show min 32 (n - 32 * pre.length) = n - 32 * pre.length by omega]
      · rw [show min 32 (n - 32 * pre.length) = 32 by omega, List.take_of_length_le (by omega), List.take_of_length_le (by omega)]
    · congr 1; omega
theorem QiO (key info : List Int) (n : Nat) (pre : List Nat) (x : Nat) (h : pre.length = 0 ∨ 32 * pre.length < n) :
    (FF key info n (pre ++ [x])).take (if n = 32 * pre.length then 0 else 32 * pre.length) ++ (tg key info (x + 1)).take (min 32 (n - 32 * pre.length)) ++ (FF key info n (pre ++ [x])).drop ((if n = 32 * pre.length then 0 else 32 * pre.length) + min 32 (n - 32 * pre.length)) = FF key info n (pre ++ [x]) := by
  have ht : (tg key info (x + 1)).length = 32 := Qbs _ _
  rw [← Qia key info n pre x h]
  refine Qiz _ _ _ _ ?_ (by omega)
  rw [Qij]
  split <;> omega
theorem Qkf (key info : List Int) (n k : Nat) (h : n ≤ 32 * k) : FF key info n (List.range k) = (okm key info k).take n := by
  unfold FF
  rw [Qfr, List.length_range, show n - 32 * k = 0 by omega, List.replicate_zero, List.append_nil]
theorem Qdn (key info : List Int) (x : Nat) : (tg key info (x + 1)).length = 32 := Qbs _ _
set_option maxHeartbeats 4000000 in
theorem QkT (a_key a_info : Option Addr) (n1 n2 c1 c2 : Nat) (w : World) : Calls Tryd.prog 61 #[.slice a_key n1 c1, .slice a_info n2 c2] w (QbH w (fun v W => ∃ g1 g2, v = .func (.func 66) #[] #[.pointer (some ⟨g1, 0, none⟩), .pointer (some ⟨g2, 0, none⟩)] ∧ w.heap.size ≤ g1 ∧ w.heap.size ≤ g2 ∧ W.heap[g1]? = some (.cells #[.slice a_key n1 c1] 38) ∧ W.heap[g2]? = some (.cells #[.slice a_info n2 c2] 38))) := by
  refine enter 6 [(0, .slice a_key n1 c1), (1, .slice a_info n2 c2)] Tryd.func61 rfl rfl kj rfl ?_
  refine sgC fun K1 hK1 => ?_
  refine Qar (#[.slice a_key n1 c1]) 38 2 rfl kj kj fun g2 W1 l2 e1 r2_1 => ?_
  have x1 := Ext.tr (Rely.Ext.refl w) e1
  refine Qar (#[.slice a_info n2 c2]) 38 3 rfl kj kj fun g3 W2 l3 e2 r3_2 => ?_
  refine sg 1 kj ?_
  refine sgN hK1 ?_
  refine sgB kj ?_
  refine wp_ret ?_
  repeat (first | with_reducible refine goR1 ?_ | with_reducible refine goR2 ?_)
  exact (show bodyPost _ _ _ .ret _ _ from ret1 (.func (.func 66) #[] #[.pointer (some ⟨g2, 0, none⟩), .pointer (some ⟨g3, 0, none⟩)]) rfl (Qa7 kj) ⟨_, rfl, (Ext.tr x1 e2), g2, g3, rfl, (Nat.le_trans (Rely.Ext.refl w).size l2), (Nat.le_trans x1.size l3), (Qab r2_1 e2), r3_2⟩)
theorem QiA (key info : List Int) (n k : Nat) (h : n ≤ 32 * k) : ((okm key info k).take n).length = n := by
  rw [List.length_take, QcO]; omega
set_option maxHeartbeats 4000000 in
theorem QiH (key info : List Int) (v1 v2 : Value) (B B2 n : Nat) (tc tq : TypeId) (w : World) (hc : w.heap[2]? = some (.cells (ints .u64 QaI) tc)) (hq : w.heap[1]? = some (.cells (ints .u64 Qak) tq)) (hn : n ≤ 8160) (hkl : key.length ≤ 800000000) (hil : info.length ≤ 700000000) (hkb : Qao key) (hib : Qao info) (hk : RdK .u8 B key v1 w) (hi : RdK .u8 B2 info v2 w) :
  Calls Tryd.prog 59 #[v1, v2, .int .i64 ((n : Nat) : Int)] w (QbH w (fun v W => ∃ u k, v = .tuple #[u, .nilIface] ∧ n ≤ 32 * k ∧ OwnN .u8 5 w.heap.size ((okm key info k).take n) u W)) := by
 obtain ⟨a_key, c_key, rfl, -⟩ := id hk
 obtain ⟨a_info, c_info, rfl, -⟩ := id hi
 refine QkC 35 [(0, .slice a_key key.length c_key), (1, .slice a_info info.length c_info), (2, .int .i64 ((n : Nat) : Int))] Tryd.func59 rfl rfl kj rfl ?_
 refine sgC fun K3 hK3 => ?_
 refine Qar (#[.int .i64 ((n : Nat) : Int)]) 3 5 rfl kj kj fun g4 W1 l4 e1 r4_1 => ?_
 have x1 := Ext.tr (Rely.Ext.refl w) e1
 have b4 := Nat.le_trans (Rely.Ext.refl w).size l4
 refine sg 2 kj ?_
 refine sgN hK3 ?_
 refine wp_scope_straight ?_
 refine wp_seq_k fun K5 hK5 => ?_
 refine sgC fun K6 hK6 => ?_
 refine Qaa (.int .i64 ((n : Nat) : Int)) 11 rfl kj (Qah 3 _ g4 0 3 _ (.int .i64 ((n : Nat) : Int)) _ r4_1 rfl kj kj kj) ?_
 refine Qaa (.bool false) 12 rfl kj (Qag (u := .bool (decide (((n : Nat) : Int) < 0))) kj (congrArg Value.bool (decide_eq_false (by omega)))) ?_
 refine sg 1 kj ?_
 refine Qaa (.int .i64 ((n : Nat) : Int)) 14 rfl kj (Qah 3 _ g4 0 3 _ (.int .i64 ((n : Nat) : Int)) _ r4_1 rfl kj kj kj) ?_
 refine Qaa (.bool false) 15 rfl kj (Qag (u := .bool (decide (((n : Nat) : Int) > 8160))) kj (congrArg Value.bool (decide_eq_false (by omega)))) ?_
 refine sg 1 kj ?_
 refine sgN hK6 ?_
 refine cond_false kj ?_
 refine wp_skip ?_
 refine hK5 _ _ ?_
 refine sgC fun K7 hK7 => ?_
 refine Qaa (.int .i64 ((n : Nat) : Int)) 18 rfl kj (Qah 3 _ g4 0 3 _ (.int .i64 ((n : Nat) : Int)) _ r4_1 rfl kj kj kj) ?_
 refine QaB (ints .u8 (List.replicate n 0)) 5 n 19 rfl kj (Qfh 38 _ _ .i64 .i64 n 5 rfl kj kj kj (.inr kj) (by omega)) fun g8 W2 l8 e2 r8_2 => ?_
 have x2 := Ext.tr x1 e2
 have b8 := Nat.le_trans x1.size l8
 refine Qar (#[.slice none 0 0]) 38 8 rfl kj kj fun g9 W3 l9 e3 r9_3 => ?_
 refine Qai g9 _ (#[.slice (some ⟨g8, 0, none⟩) n n]) 38 r9_3 rfl kj (Qb6 38 _ _ g9 0 38 _ (.slice (some ⟨g8, 0, none⟩) n n) r9_3 rfl kj kj kj kj kj rfl) fun W4 p4 r9_4 => ?_
 have x4 := Puts.ext p4 (Ext.tr x2 e3) (Nat.le_trans x2.size l9)
 refine sgN hK7 ?_
 refine sgC fun K10 hK10 => ?_
 refine Qar (#[.int .i64 0]) 3 9 rfl kj kj fun g11 W5 l11 e5 r11_5 => ?_
 have b11 := Nat.le_trans x4.size l11
 refine Qai g11 _ (#[.int .i64 0]) 3 r11_5 rfl kj (Qb6 3 _ _ g11 0 3 _ (.int .i64 0) r11_5 rfl kj kj kj kj kj rfl) fun W6 p6 r11_6 => ?_
 refine sgN hK10 ?_
 refine wp_seq_k fun K12 hK12 => ?_
 refine wp_label ?_
 refine hK12 _ _ ?_
 refine wp_seq_k fun K13 hK13 => ?_
 refine sgC fun K14 hK14 => ?_
 refine sg 2 kj ?_
 refine Qa8 (fun v W' => (fun v W => ∃ g1 g2, v = .func (.func 66) #[] #[.pointer (some ⟨g1, 0, none⟩), .pointer (some ⟨g2, 0, none⟩)] ∧ W6.heap.size ≤ g1 ∧ W6.heap.size ≤ g2 ∧ W.heap[g1]? = some (.cells #[.slice a_key key.length c_key] 38) ∧ W.heap[g2]? = some (.cells #[.slice a_info info.length c_info] 38)) v W' ∧ Ext W6 W') 61 #[.slice a_key key.length c_key, .slice a_info info.length c_info] 22 rfl kj kj ((QkT a_key a_info _ _ c_key c_info _).mono (by rintro e w' ⟨v, rfl, e1, hv⟩; exact ⟨v, rfl, hv, e1⟩)) fun vv15 W7 hh15 => ?_
 obtain ⟨hv15, e7⟩ := hh15
 have x7 := Ext.tr (Puts.ext p6 (Ext.tr x4 e5) b11) e7
 obtain ⟨gp1, gp2, rfl, lp1, lp2, rp1, rp2⟩ := hv15
 refine sgN hK14 ?_
 refine wp_block ?_
 have r4_2 := (Qab r4_1 e2)
 have r4_4 := (Puts.row p4 (Qab r4_2 e3) (Qaf r4_2 l9))
 have r4_7 := (Qab (Puts.row p6 (Qab r4_4 e5) (Qaf r4_4 l11)) e7)
 have r9_7 := (Qab (Puts.row p6 (Qab r9_4 e5) (Qaf r9_4 l11)) e7)
 have r11_7 := (Qab r11_6 e7)
 have r8_4 := (Puts.row p4 (Qab r8_2 e3) (Qaf r8_2 l9))
 have r8_6 := (Puts.row p6 (Qab r8_4 e5) (Qaf r8_4 l11))
 have r8_7 := (Qab r8_6 e7)
 have r1_2 := (Qab (Qab hc e1) e2)
 have r1_4 := (Puts.row p4 (Qab r1_2 e3) (Qaf r1_2 l9))
 have r2_2 := (Qab (Qab hq e1) e2)
 have r2_4 := (Puts.row p4 (Qab r2_2 e3) (Qaf r2_2 l9))
 have nb58 : g4 ≠ g9 := (Qaf r4_2 l9)
 have nb59 : g4 ≠ g11 := (Qaf r4_4 l11)
 have nb5O : g4 ≠ g8 := (Qaf r4_1 l8)
 have nb85 : g9 ≠ g4 := (Qbe r4_2 l9)
 have nb89 : g9 ≠ g11 := (Qaf r9_4 l11)
 have nb8O : g9 ≠ g8 := (Qbe r8_2 l9)
 have nb95 : g11 ≠ g4 := (Qbe r4_4 l11)
 have nb98 : g11 ≠ g9 := (Qbe r9_4 l11)
 have nb9O : g11 ≠ g8 := (Qbe r8_4 l11)
 have nbO5 : g8 ≠ g4 := (Qbe r4_1 l8)
 have nbO8 : g8 ≠ g9 := (Qaf r8_2 l9)
 have nbO9 : g8 ≠ g11 := (Qaf r8_4 l11)
 have hgs : ∀ c ∈ ([g11, g8] : List Nat), w.heap.size ≤ c := (fun c hc => by simp only [List.mem_cons, List.not_mem_nil, or_false] at hc; rcases hc with rfl | rfl; exact b11; exact b8)
 have hgl : ∀ c ∈ ([g11, g8] : List Nat), c < W7.heap.size := (fun c hc => by simp only [List.mem_cons, List.not_mem_nil, or_false] at hc; rcases hc with rfl | rfl; exact Qat r11_7; exact Qat r8_7)
 have hgp : ∀ c ∈ ([g11, g8] : List Nat), c < W6.heap.size := (fun c hc => by simp only [List.mem_cons, List.not_mem_nil, or_false] at hc; rcases hc with rfl | rfl; exact Qat r11_6; exact Qat r8_6)
 have hkL : RdK .u8 w.heap.size key (.slice a_key key.length c_key) W7 := (RdK.here hk).ext x7
 have hiL : RdK .u8 w.heap.size info (.slice a_info info.length c_info) W7 := (RdK.here hi).ext x7
 refine QfJ (gf := 66) (lb := #[.pointer (some ⟨gp1, 0, none⟩), .pointer (some ⟨gp2, 0, none⟩)]) (enc := fun x : Nat => .agg (ints .u8 (tg key info (x + 1)))) kj (enters_of Tryd.func66 kj rfl) (QgB 2 [g11, g8] gp1 gp2 w.heap.size key info a_key a_info c_key c_info tc tq W7 hkl hil hkb hib x7.size hgs hgl hkL hiL (Qab (Puts.row p6 (Qab r1_4 e5) (Qaf r1_4 l11)) e7) (Qab (Puts.row p6 (Qab r2_4 e5) (Qaf r2_4 l11)) e7) rp1 rp2 (fun hm => by have := hgp _ hm; omega) (fun hm => by have := hgp _ hm; omega) (fun hm => by have h1 := hgs _ hm; have h2 := Qat hc; omega) (fun hm => by have h1 := hgs _ hm; have h2 := Qat hq; omega)) (fun h k => Qb7.trans h k) Qb7.book (Below.refl _ _)
   (fun pre W => ((W.heap[g4]? = some (.cells (#[.int .i64 ((n : Nat) : Int)]) 3)) ∧ (W.heap[g9]? = some (.cells (#[.slice (some ⟨g8, 0, none⟩) n n]) 38)) ∧ (W.heap[g11]? = some (.cells (#[.int .i64 ((32 * pre.length : Nat) : Int)]) 3)) ∧ (W.heap[g8]? = some (.cells (ints .u8 (FF key info n pre)) 5)) ∧ (pre.length = 0 ∨ 32 * pre.length < n) ∧ W7.heap.size ≤ W.heap.size) ∧ Ext w W)
   (fun c pre W => (c = .exit 0 ∧ n ≤ 32 * pre.length ∧ (W.heap[g4]? = some (.cells (#[.int .i64 ((n : Nat) : Int)]) 3)) ∧ (W.heap[g9]? = some (.cells (#[.slice (some ⟨g8, 0, none⟩) n n]) 38)) ∧ (W.heap[g8]? = some (.cells (ints .u8 (FF key info n pre)) 5))) ∧ Ext w W) (OwnFrom.and (Own.from (fun s A B row hs hg hr => ⟨QbQ hs.1 hg hr, QbQ hs.2.1 hg hr, QbQ hs.2.2.1 hg hr, QbQ hs.2.2.2.1 hg hr, hs.2.2.2.2.1, Nat.le_trans hs.2.2.2.2.2 hg.size⟩) _) (ownFrom_below (Nat.le_refl _) x7.size)) (fun c => OwnFrom.and (Own.from (fun s A B row hs hg hr => ⟨hs.1, hs.2.1, QbQ hs.2.2.1 hg hr, QbQ hs.2.2.2.1 hg hr, QbQ hs.2.2.2.2 hg hr⟩) _) (ownFrom_below (Nat.le_refl _) x7.size)) ⟨⟨r4_7, r9_7, r11_7, QaV r8_7 (QkK key info n), .inl rfl, Nat.le_refl _⟩, x7⟩ (fun e => Qb7.ext e) (fun pre A B h e => ⟨⟨Qab h.1.1 e, Qab h.1.2.1 e, Qab h.1.2.2.1 e, Qab h.1.2.2.2.1 e, h.1.2.2.2.2.1, Nat.le_trans h.1.2.2.2.2.2 e.size⟩, Rely.Ext.trans h.2 e⟩) (fun pre W h => h.1.2.2.2.2.2) (fun x g => [(10, .pointer (some ⟨g, 0, none⟩)), (23, .agg (ints .u8 (tg key info (x + 1))))]) (fun x => ints .u8 (tg key info (x + 1))) 23 (fun l x W K hK => ?_) (fun l pre x g10 W hg10 hI r10 hp => ?_) (fun D ys W lD hS hI rD => ?_) (fun D c pre W lD hSp hIx rD => ?_)
 ·skip
  refine Qc5 ?_
  refine QiM (ints .u8 (List.replicate 32 0)) 23 10 rfl (QbL l 1 _) rfl kj kj fun g301 W1 l301 e1 r301_1 => ?_
  have x1 := Ext.tr (Rely.Ext.refl W) e1
  refine Qgu g301 _ (ints .u8 (tg key info (x + 1))) 23 r301_1 rfl (QbL l 1 _) rfl kj (Qaq 23 _ _ g301 23 _ _ r301_1 rfl kj kj (isz (n := 32) kj ((Qac _ _).trans (Qdn _ _ _))) (eqsz (n := 32) ((Qac _ _).trans (List.length_replicate (n := 32))) ((Qac _ _).trans (Qdn _ _ _))) (Qa2 _ _)) fun W2 p2 r301_2 => ?_
  have x2 := Puts.ext p2 x1 (Nat.le_trans (Rely.Ext.refl W).size l301)
  refine Qf1 ?_
  exact hK _ _ l301 (Puts.ext p2 (Rely.Ext.trans (Rely.Ext.refl W) e1) l301) r301_2
 ·skip
  obtain ⟨⟨q5, q8, q9, qO, hpl, hsz⟩, xx⟩ := hI
  have n105 : g10 ≠ g4 := by have h1 := Qat r4_7; omega
  have n108 : g10 ≠ g9 := by have h1 := Qat r9_7; omega
  have n109 : g10 ≠ g11 := by have h1 := Qat r11_7; omega
  have n10O : g10 ≠ g8 := by have h1 := Qat r8_7; omega
  have hl1 : (pre ++ [x]).length = pre.length + 1 := by simp
  have htl := Qdn key info x
  refine wpIn_block ?_
  refine wpIn_seq_k fun K506 hK506 => ?_
  refine QgU (Qcn g8 (Obj.cells (ints .u8 (FF key info n pre)) 5) (Obj.cells (ints .u8 (FF key info n (pre ++ [x]))) 5)) (Qcn.refl _ _ _) (fun h k => Qcn.trans h k) 6 [⟨none, [(9, none)]⟩, ⟨none, [(8, none)]⟩, ⟨none, [(9, none)]⟩, ⟨none, [(25, some 1), (26, some 2)]⟩, ⟨none, [(10, none)]⟩, ⟨none, [(27, some 3), (28, some 4)]⟩] (QbL l 1 _) rfl kj kj fun F hF => ?_
  refine Qe6 (Qcn.refl _ _ _) (.int .i64 ((32 * pre.length : Nat) : Int)) kj kj (fun W hR => (Qah 3 _ g11 0 3 _ (.int .i64 ((32 * pre.length : Nat) : Int)) _ (ExtB.row hR.1 (Qab q9 (Qas _)) nb9O) rfl kj kj kj)) ?_
  refine Qe6 (Qcn.refl _ _ _) (.slice (some ⟨g8, 0, none⟩) n n) kj kj (fun W hR => (Qah 38 _ g9 0 38 _ (.slice (some ⟨g8, 0, none⟩) n n) _ (ExtB.row hR.1 (Qab q8 (Qas _)) nb8O) rfl kj kj kj)) ?_
  refine Qe6 (Qcn.refl _ _ _) (.int .i64 ((32 * pre.length : Nat) : Int)) kj kj (fun W hR => (Qah 3 _ g11 0 3 _ (.int .i64 ((32 * pre.length : Nat) : Int)) _ (ExtB.row hR.1 (Qab q9 (Qas _)) nb9O) rfl kj kj kj)) ?_
  refine Qe6 (Qcn.refl _ _ _) (.slice (some ⟨g8, (if n = 32 * pre.length then 0 else 32 * pre.length), none⟩) (n - 32 * pre.length) (n - 32 * pre.length)) kj kj (fun W hR => QgH 38 _ _ (32 * pre.length) g8 n n 5 rfl kj kj kj .i64 kj (by omega) (Nat.le_refl _)) ?_
  refine Qe6 (Qcn.refl _ _ _) (.slice (some ⟨g10, 0, none⟩) 32 32) kj kj (fun W hR => by kernel_rfl) ?_
  refine Qkh (fun u W => u = .int .i64 (((min 32 (n - 32 * pre.length)) : Nat) : Int) ∧ W.heap[g8]? = some (Obj.cells (ints .u8 (FF key info n (pre ++ [x]))) 5)) (Qcn.stable _ _ _ _) kj kj (fun W hR => ?_) ?_
  ·have hsrc : RdK .u8 W.heap.size (tg key info (x + 1)) (.slice (some ⟨g10, 0, none⟩) 32 32) W := QaK (Qdn _ _ _) (ExtB.row hR.1 (Qab r10 (Qas _)) n10O) (Qat (ExtB.row hR.1 (Qab r10 (Qas _)) n10O)) (by decide)
   have hoff : (if n = 32 * pre.length then 0 else 32 * pre.length) + (n - 32 * pre.length) ≤ n := by split <;> omega
   rcases hR.row (Qab qO (Qas _)) with hX | hY
   ·exact Qgh (Qfi (k := .u8) (e := 5) (.tmp 27) (.tmp 28) 38 38 (by rfl) kj kj (off := (if n = 32 * pre.length then 0 else 32 * pre.length)) (dl := n - 32 * pre.length) (dc := n - 32 * pre.length) (n := (min 32 (n - 32 * pre.length))) (xs := FF key info n pre) kj kj hsrc hX (by rw [Qij]; exact hoff) (by rw [Qdn]) (Qia key info n pre x hpl))
   ·exact Qgh (Qfi (k := .u8) (e := 5) (.tmp 27) (.tmp 28) 38 38 (by rfl) kj kj (off := (if n = 32 * pre.length then 0 else 32 * pre.length)) (dl := n - 32 * pre.length) (dc := n - 32 * pre.length) (n := (min 32 (n - 32 * pre.length))) (xs := FF key info n (pre ++ [x])) kj kj hsrc hY (by rw [Qij]; exact hoff) (by rw [Qdn]) (QiO key info n pre x hpl))
  refine Qcz (hF _ fun W1 hR => ?_)
  simp only [List.nil_append, List.cons_append, List.take_succ_cons, List.take_zero, List.drop_succ_cons, List.drop_zero, finE, up]
  rintro v29 ⟨rfl, rO_1⟩
  clear hF
  have q1 := ExtB.trans (ExtB.ext (ExtB.refl _ _) (Qas _)) hR.1
  have x1 := ExtB.up xx q1 b8
  refine Qd6 (.int .i64 (((32 * pre.length) + (min 32 (n - 32 * pre.length)) : Nat) : Int)) 30 rfl (QbL l 1 _) rfl kj (Qag (u := .int .i64 (IntKind.i64.wrap (((32 * pre.length : Nat) : Int) + (((min 32 (n - 32 * pre.length)) : Nat) : Int)))) kj (congrArg (Value.int .i64) (i64n _ _ (by omega) (by omega)))) ?_
  have r503_1 := (ExtB.row q1 q9 nb9O)
  refine Qgu g11 _ (#[.int .i64 (((32 * pre.length) + (min 32 (n - 32 * pre.length)) : Nat) : Int)]) 3 r503_1 rfl (QbL l 1 _) rfl kj (Qb6 3 _ _ g11 0 3 _ (.int .i64 (((32 * pre.length) + (min 32 (n - 32 * pre.length)) : Nat) : Int)) r503_1 rfl kj kj kj kj kj rfl) fun W2 p2 r503_2 => ?_
  have x2 := Puts.ext p2 x1 b11
  refine Qf1 ?_
  refine hK506 _ _ ?_
  refine wpIn_seq_k fun K507 hK507 => ?_
  refine Qc5 ?_
  refine Qd6 (.int .i64 (((32 * pre.length) + (min 32 (n - 32 * pre.length)) : Nat) : Int)) 31 rfl (QbL l 1 _) rfl kj (Qah 3 _ g11 0 3 _ (.int .i64 (((32 * pre.length) + (min 32 (n - 32 * pre.length)) : Nat) : Int)) _ r503_2 rfl kj kj kj) ?_
  have r501_2 := (Puts.row p2 (ExtB.row q1 q5 nb5O) nb59)
  refine Qd6 (.int .i64 ((n : Nat) : Int)) 32 rfl (QbL l 1 _) rfl kj (Qah 3 _ g4 0 3 _ (.int .i64 ((n : Nat) : Int)) _ r501_2 rfl kj kj kj) ?_
  refine Qd6 (.bool (((((32 * pre.length) + (min 32 (n - 32 * pre.length)) : Nat) : Int) == ((n : Nat) : Int)))) 33 rfl (QbL l 1 _) rfl kj kj ?_
  refine Qf1 ?_
  refine hK507 _ _ ?_
  refine QeS (t := ((((32 * pre.length) + (min 32 (n - 32 * pre.length)) : Nat) : Int) == ((n : Nat) : Int))) kj (fun c508 => ?_) (fun c508 => ?_)
  ·skip
   have hm : 32 * pre.length + min 32 (n - 32 * pre.length) = n ∨ 32 * pre.length + min 32 (n - 32 * pre.length) ≠ n := by omega
   have hge : n ≤ 32 * (pre.length + 1) := by have := eq_of_beq c508; omega
   refine wpIn_exit ?_
   repeat (first | with_reducible refine goX1 ?_ | with_reducible refine goXo (by decide) ?_)
   have r502_1 := (ExtB.row q1 q8 nb8O)
   have r502_2 := (Puts.row p2 r502_1 nb89)
   have r504_2 := (Puts.row p2 rO_1 nbO9)
   exact ⟨((Qfx q1 qO).trans (Qe0 p2 r503_1)), ⟨rfl, by rw [hl1]; exact hge, r501_2, r502_2, r504_2⟩, x2⟩
  ·skip
   have hm : 32 * pre.length + min 32 (n - 32 * pre.length) = n ∨ 32 * pre.length + min 32 (n - 32 * pre.length) ≠ n := by omega
   have hlt : 32 * (pre.length + 1) < n := by
    have h := c508
    apply Decidable.byContradiction
    intro hc2
    have e : ((32 * pre.length + min 32 (n - 32 * pre.length) : Nat) : Int) = ((n : Nat) : Int) := by omega
    rw [e, beq_self_eq_true] at h
    exact absurd h (by decide)
   refine wpIn_skip ?_
   repeat (first | with_reducible refine goX1 ?_ | with_reducible refine goX2 ?_ | with_reducible refine goX3 ?_)
   have r502_1 := (ExtB.row q1 q8 nb8O)
   have r502_2 := (Puts.row p2 r502_1 nb89)
   have r504_2 := (Puts.row p2 rO_1 nbO9)
   exact ⟨((Qfx q1 qO).trans (Qe0 p2 r503_1)), (Qb7.trans (QhK q1 (by simp)) (QgT p2 (by simp))), ⟨r501_2, r502_2, by rw [hl1, show 32 * (pre.length + 1) = 32 * pre.length + min 32 (n - 32 * pre.length) by omega]; exact r503_2, r504_2, .inr (by rw [hl1]; exact hlt), Nat.le_trans hsz (Nat.le_trans (Nat.le_trans (Nat.le_refl _) q1.2.2.2.1) (Nat.le_of_eq p2.2.2.2.1.symm))⟩, x2⟩
 ·exfalso
  obtain ⟨⟨-, -, -, -, hpl, -⟩, -⟩ := hI
  subst hS
  rw [List.length_range] at hpl
  omega
 ·obtain ⟨⟨rfl, hge, q5, q8, qO⟩, xx⟩ := hIx
  obtain ⟨kR, rfl, -⟩ := hSp
  rw [List.length_range] at hge
  rw [Qkf key info n kR hge] at qO
  have bD : w.heap.size ≤ D := Nat.le_trans x7.size lD
  refine wp_exit ?_
  refine hK13 _ _ ?_
  refine sgC fun K17 hK17 => ?_
  refine Qaa (.slice (some ⟨g8, 0, none⟩) n n) 34 rfl kj (Qah 38 _ g9 0 38 _ (.slice (some ⟨g8, 0, none⟩) n n) _ q8 rfl kj kj kj) ?_
  refine sg 2 kj ?_
  refine sgN hK17 ?_
  refine wp_ret ?_
  repeat (first | with_reducible refine goR1 ?_ | with_reducible refine goR2 ?_)
  exact (show bodyPostM _ _ _ _ _ .ret _ _ from Qlb (.slice (some ⟨g8, 0, none⟩) n n) (.nilIface) rfl rD (Qa7 kj) (Qa7 kj) ⟨_, rfl, Qi1 xx bD rD _, _, kR, rfl, hge, QbD (QiA key info n kR hge) b8 (Qi0 qO rD _) (by simp only [maxLen]; omega)⟩)
end Go.Proofs.YtibegnjaphohaaaDoor.Sha
end
section
namespace Go.Proofs.YtibegnjaphohaaaDoor.Sha
open Go Go.RowKit
open Rely Auto Own
set_option linter.unusedVariables false
set_option linter.unusedSimpArgs false
def kx (key info : List Int) (n : Nat) : List Int := (okm key info n).take n
theorem QfK (key info : List Int) (n : Nat) : ∀ (k d : Nat), n ≤ 32 * k → (okm key info (k + d)).take n = (okm key info k).take n
  | k, 0, _ => rfl
  | k, d + 1, h => by
    rw [show k + (d + 1) = (k + d) + 1 by omega, okm, List.take_append_of_le_length (by rw [QcO]; omega), QfK key info n k d h]
theorem Qk6 (key info : List Int) (n k : Nat) (h : n ≤ 32 * k) : (okm key info k).take n = kx key info n := by
  unfold kx
  rcases Nat.le_total k n with h1 | h1
  · obtain ⟨d, rfl⟩ : ∃ d, n = k + d := ⟨n - k, by omega⟩
    exact (QfK key info _ k d h).symm
  · obtain ⟨d, rfl⟩ : ∃ d, k = n + d := ⟨k - n, by omega⟩
    exact QfK key info _ n d (by omega)
theorem Qby (key info : List Int) (n : Nat) : (kx key info n).length = n := by unfold kx; rw [List.length_take, QcO]; omega
theorem Qfq (key info : List Int) : ∀ k, Qao (okm key info k)
  | 0 => fun x hx => by cases hx
  | k + 1 => Qb4 (Qfq key info k) (QeA key info (k + 1))
theorem Qgq (key info : List Int) (n : Nat) : Qao (kx key info n) := fun x hx => Qfq key info n x (List.mem_of_mem_take hx)
theorem QiG (key info : List Int) (v1 v2 : Value) (B B2 n : Nat) (tc tq : TypeId) (w : World) (hc : w.heap[2]? = some (.cells (ints .u64 QaI) tc)) (hq : w.heap[1]? = some (.cells (ints .u64 Qak) tq)) (hn : n ≤ 8160) (hkl : key.length ≤ 800000000) (hil : info.length ≤ 700000000) (hkb : Qao key) (hib : Qao info) (hk : RdK .u8 B key v1 w) (hi : RdK .u8 B2 info v2 w) :
    Calls Tryd.prog 59 #[v1, v2, .int .i64 ((n : Nat) : Int)] w (QbH w (fun v W => ∃ u, v = .tuple #[u, .nilIface] ∧ OwnN .u8 5 w.heap.size (kx key info n) u W)) :=
  (QiH key info v1 v2 B B2 n tc tq w hc hq hn hkl hil hkb hib hk hi).mono fun e W' ⟨v, h1, h2, u, k, h3, h4, h5⟩ => ⟨v, h1, h2, u, h3, Qk6 key info n k h4 ▸ h5⟩
end Go.Proofs.YtibegnjaphohaaaDoor.Sha
end
section
namespace Go.Proofs.YtibegnjaphohaaaDoor.Sha
open Go Go.RowKit
open Rely Auto Own
set_option linter.unusedVariables false
set_option linter.unusedSimpArgs false
section
variable {P : Program} {ρ : Operand → Value} {o : Oper} {w : World}
theorem Qhs {k : IntKind} (t : TypeId) (x y : Operand) (kl kc : IntKind) (n : Nat) (e : TypeId) (ho : o.op = .makeSlice t x y) (hx : ρ x = .int kl 0) (hy : ρ y = .int kc n)
    (hu : P.underlying t = some (.slice e)) (hi : (P.info? e).map (fun i => (i.zero, i.size, i.bytes)) = some (some (.int k 0), 1, 1)) (hn : n ≤ 1000000000) :
    (execOp ρ o).run P w = .ok (.value (.slice (some ⟨w.heap.size, 0, none⟩) 0 n)) (w.alloc (.cells (ints k (List.replicate n 0)) e)) := by
  cases hq : P.info? e with
  | none => simp [hq] at hi
  | some i =>
    have hz : i.zero = some (.int k 0) ∧ i.size = 1 ∧ i.bytes = 1 := by simpa [hq] using hi
    have hb : (i.bytes : Int) * (n : Int) ≤ 281474976710656 := by rw [hz.2.2]; omega
    have h := run_make w t e i (.int k 0) hu hq hz.1 kl kc 0 (n : Int) (by omega) (by omega) hb (by omega)
    rw [hz.2.1, Int.toNat_natCast, Qfv] at h
    unfold execOp
    simp only [ho, hx, hy, Sem.run_bind, Sem.run_pure, h, Result.andThen_ok]
    rfl
theorem QgI (t : TypeId) (x z : Operand) (h : Nat) (e : TypeId) (ho : o.op = .slice t x none (some z) none) {a : Option Addr} {len cap : Nat} (hx : ρ x = .slice a len cap)
    (hu : P.underlying t = some (.slice e)) (hs : (P.info? e).map (·.size) = some 1) (kz : IntKind) (hz : ρ z = .int kz (h : Int)) (h2 : h ≤ cap) :
    (execOp ρ o).run P w = .ok (.value (.slice a h cap)) w := by
  cases hq : P.info? e with
  | none => simp [hq] at hs
  | some i =>
    have hs' : i.size = 1 := by simpa [hq] using hs
    unfold execOp
    have hadd : ∀ a : Option Addr, Option.map (fun x => x.add 0) a = a := fun a => by
      cases a with
      | none => rfl
      | some a => obtain ⟨b, o, s⟩ := a; cases s <;> simp [Addr.add]
    simp [ho, hx, hz, Instr.sliceAt, Instr.slice, Instr.sliceBounds, run_sliceBound, run_underlying hu, sizeOf, typeInfo, hq, hs', h2, hadd]
end
section
variable {ds : List Deferred} {P : Program} {ops : Array Oper} {Q : Exit → Act → World → Prop} {rest : List Oper} {o : Oper} {N : Nat} {L : Env} {w : World}
theorem Qhq (cs : Array Value) (T : TypeId) (n d : Nat) (hd : o.dst = some d) (hg : Qbq ops o N L = some true) (h : (execOp (Rely.look (envN N L)) o).run P w = .ok (.value (.slice (some ⟨w.heap.size, 0, none⟩) 0 n)) (w.alloc (.cells cs T)))
    (k : ∀ (g : Nat) (W : World), w.heap.size ≤ g → Ext w W → W.heap[g]? = some (.cells cs T) → WL P ops Q rest (Qav ds N ((d, .slice (some ⟨g, 0, none⟩) 0 n) :: L)) W) : WL P ops Q (o :: rest) (Qav ds N L) w :=
  Qbr _ _ d hd hg h (k _ _ (Nat.le_refl _) (QbF _ _) (heap_alloc_new _ _))
end
def strB (s : ByteArray) : List Int := s.data.toList.map fun b => (b.toNat : Int)
theorem Qb9 (s : ByteArray) : (strB s).length = s.size := by unfold strB; rw [List.length_map, Array.length_toList]; rfl
theorem Qeq (s : ByteArray) : Qao (strB s) := fun x hx => by
  unfold strB at hx
  obtain ⟨b, -, rfl⟩ := List.mem_map.1 hx
  have := b.toNat_lt
  omega
theorem QgC (s : ByteArray) : Lib.strCells s = (strB s).map (Value.int .u8) := by unfold Lib.strCells strB; rw [List.map_map]; rfl
theorem QiZ {P : Program} {T : TypeId} {ρ : Operand → Value} {o : Oper} {W : World} (s x : Operand) (t u : TypeId) (ho : o.op = .call { callee := .builtin .append, args := #[s, x], argTypes := #[t, u] })
    (ht : P.underlying t = some (.slice T)) (hu : P.underlying u = some .string) (hi : (P.info? T).map (fun i => (i.zero, i.size, i.bytes)) = some (some (.int .u8 0), 1, 1)) {base : Nat} {v : Value} {xs : List Int} {lab : ByteArray} (hs : ρ s = v) (hx : ρ x = .string lab)
    (h : OwnN .u8 T base xs v W) (hn : xs.length + (strB lab).length ≤ 1000000000) (hbase : base ≤ W.heap.size) :
    ∃ v' W', (execOp ρ o).run P W = .ok (.value v') W' ∧ OwnN .u8 T base (xs ++ strB lab) v' W' ∧ W.grownBy W' v.ownBlock := by
  obtain ⟨i, hq, hi1, hi2, hi3⟩ := QjK hi
  rw [Qb9] at hn
  obtain ⟨v', W', hr, h2, h3, _⟩ := Lib.run_append_own_string (P := P) W base t u o.type T i ht hu hq hi1 hi2 hi3 v xs.length (xs.map (Value.int .u8)) h.1 lab (by simp only [maxLen]; omega) (by omega) hbase
  refine ⟨v', W', ?_, ⟨?_, by rw [List.length_append, Qb9]; simp only [maxLen]; omega⟩, h3⟩
  · unfold execOp
    simp only [ho, resolve, invoke, builtin, Sem.run_bind, Sem.run_pure, Result.andThen_ok, List.map_toArray, List.map_cons, List.map_nil, hs, hx, hr]
  · rw [List.length_append, List.map_append, Qb9, ← QgC]; exact h2
section
variable {ds : List Deferred} {P : Program} {ops : Array Oper} {Q : Exit → Act → World → Prop} {rest : List Oper} {o : Oper} {N : Nat} {L : Env} {W : World}
theorem QdO {T : TypeId} (s x : Operand) (t u : TypeId) (ho : o.op = .call { callee := .builtin .append, args := #[s, x], argTypes := #[t, u] })
    (ht : P.underlying t = some (.slice T)) (hu : P.underlying u = some .string) (hi : (P.info? T).map (fun i => (i.zero, i.size, i.bytes)) = some (some (.int .u8 0), 1, 1)) (d : Nat) (hd : o.dst = some d) (hg : Qbq ops o N L = some true) {v : Value} {xs : List Int} {lab : ByteArray} {V : World}
    (hs : Rely.look (envN N L) s = v) (hx : Rely.look (envN N L) x = .string lab)
    (h : OwnN .u8 T V.heap.size xs v W) (hn : xs.length + (strB lab).length ≤ 1000000000) (hV : Ext V W)
    (kk : ∀ (z : Value) (W' : World), OwnN .u8 T V.heap.size (xs ++ strB lab) z W' → Ext V W' → Below V.heap.size W W' → WL P ops Q rest (Qav ds N ((d, z) :: L)) W') : WL P ops Q (o :: rest) (Qav ds N L) W := by
  obtain ⟨v', W', h1, h2, h3⟩ := QiZ (ρ := Rely.look (envN N L)) (o := o) (W := W) s x t u ho ht hu hi hs hx h hn hV.size
  exact Qbr _ _ d hd hg h1 (kk v' W' h2 (QeT hV h h3) ⟨h3.os, h3.tape, h3.output, h3.size, fun i hi => h3.block i (Nat.lt_of_lt_of_le hi hV.size) (fun q => by have := h.ge q.symm; omega)⟩)
end
theorem QgY {n : Nat} {W W' : World} (h : Below n W.drew W') (hn : n ≤ W.heap.size) : Below n W W' := Below.trans ((Qas W).mono hn) h
theorem shrN (a : Nat) (s : Int) (c : Nat) (h : (2 : Int) ^ min s.toNat IntKind.i64.bits = (c : Int)) : ((a : Nat) : Int).fdiv (2 ^ min s.toNat IntKind.i64.bits) = ((a / c : Nat) : Int) := by
  rw [h, Int.fdiv_eq_ediv_of_nonneg _ (by omega)]; exact (Int.natCast_ediv a c).symm
theorem Qdj (a b : Nat) (h : a % 256 = b) : IntKind.u8.wrap ((a : Nat) : Int) = ((b : Nat) : Int) := by rw [Qih, h]
def QbN (lab : List Int) (n : Nat) : List Int := [((n / 256 : Nat) : Int), ((n % 256 : Nat) : Int), ((lab.length : Nat) : Int)]
def QcR (c : Nat) : List Int := [((c / 16777216 : Nat) : Int), ((c / 65536 % 256 : Nat) : Int), ((c / 256 % 256 : Nat) : Int), ((c % 256 : Nat) : Int)]
def Qbd (lab ctx : List Int) (n : Nat) : List Int := QbN lab n ++ lab ++ QcR ctx.length ++ ctx
theorem Qf0 (lab ctx : List Int) (n : Nat) : (Qbd lab ctx n).length = lab.length + ctx.length + 7 := by
  unfold Qbd QbN QcR
  simp only [List.length_append, List.length_cons, List.length_nil]; omega
theorem QdY (lab ctx : List Int) (n : Nat) (hl : Qao lab) (hc : Qao ctx) (h1 : lab.length ≤ 255) (h2 : ctx.length ≤ 65536) (h3 : n ≤ 8160) : Qao (Qbd lab ctx n) := by
  unfold Qbd QbN QcR
  refine Qb4 (Qb4 (Qb4 ?_ hl) ?_) hc
  · intro x hx
    simp only [List.mem_cons, List.not_mem_nil, or_false] at hx
    omega
  · intro x hx
    simp only [List.mem_cons, List.not_mem_nil, or_false] at hx
    omega
set_option maxHeartbeats 4000000 in
theorem QjJ (sec ctx : List Int) (s : ByteArray) (v2 : Value) (B2 : Nat) (tc tq : TypeId) (w : World) (hc : w.heap[2]? = some (.cells (ints .u64 QaI) tc)) (hq : w.heap[1]? = some (.cells (ints .u64 Qak) tq)) (hsl : sec.length = 32) (hsb : Qao sec) (hxb : Qao ctx) (hx : RdK .u8 B2 ctx v2 w) (n : Int) (h0 : 0 ≤ n) (h1 : n ≤ 8160) (h : 255 < (strB s).length) : Calls Tryd.prog 51 #[.agg (ints .u8 sec), .string s, v2, .int .i64 n] w (Ret w (.tuple #[.slice none 0 0, .iface 47 (.int .i64 4)])) := by
  obtain ⟨a_ctx, c_ctx, rfl, -⟩ := id hx
  refine enter 75 [(0, .agg (ints .u8 (sec))), (1, .string s), (2, .slice a_ctx ctx.length c_ctx), (3, .int .i64 n)] Tryd.func51 rfl rfl (by kernel_rfl) rfl ?_
  refine sgC fun K3 hK3 => ?_
  refine Qar (ints .u8 (sec)) 23 4 rfl (by kernel_rfl) (by kernel_rfl) fun g4 W1 l4 e1 r4_1 => ?_
  have b4 := Nat.le_trans (Rely.Ext.refl w).size l4
  refine Qaa (.slice none 0 0) 8 rfl (by kernel_rfl) (by kernel_rfl) ?_
  refine Qaa (.nilIface) 9 rfl (by kernel_rfl) (by kernel_rfl) ?_
  refine sgN hK3 ?_
  refine wp_seq_k fun K5 hK5 => ?_
  refine sgC fun K6 hK6 => ?_
  refine Qaa (.int .i64 n) 12 rfl (by kernel_rfl) (by kernel_rfl) ?_
  refine Qaa (.bool false) 13 rfl (by kernel_rfl) (Qag (u := .bool (decide (n < 0))) (by kernel_rfl) (congrArg Value.bool (decide_eq_false (by omega)))) ?_
  refine Qaa (.bool false) 14 rfl (by kernel_rfl) (by kernel_rfl) ?_
  refine Qaa (.int .i64 n) 15 rfl (by kernel_rfl) (by kernel_rfl) ?_
  refine Qaa (.bool false) 16 rfl (by kernel_rfl) (Qag (u := .bool (decide (n > 8160))) (by kernel_rfl) (congrArg Value.bool (decide_eq_false (by omega)))) ?_
  refine Qaa (.bool false) 17 rfl (by kernel_rfl) (by kernel_rfl) ?_
  refine Qaa (.bool false) 18 rfl (by kernel_rfl) (by kernel_rfl) ?_
  refine Qaa (.string s) 19 rfl (by kernel_rfl) (by kernel_rfl) ?_
  refine Qaa (.int .i64 (((strB s).length : Nat) : Int)) 20 rfl (by kernel_rfl) (Qag (u := .int .i64 ((s.size : Nat) : Int)) (by kernel_rfl) (congrArg (fun z : Nat => Value.int .i64 (z : Int)) (Qb9 s).symm)) ?_
  refine Qaa (.bool true) 21 rfl (by kernel_rfl) (Qag (u := .bool (decide ((((strB s).length : Nat) : Int) > 255))) (by kernel_rfl) (congrArg Value.bool (decide_eq_true (by omega)))) ?_
  refine Qaa (.bool true) 22 rfl (by kernel_rfl) (by kernel_rfl) ?_
  refine Qaa (.bool true) 23 rfl (by kernel_rfl) (by kernel_rfl) ?_
  refine QbA 24 rfl (by kernel_rfl) ?_
  refine QbA 25 rfl (by kernel_rfl) ?_
  refine QbA 26 rfl (by kernel_rfl) ?_
  refine Qaa (.bool true) 27 rfl (by kernel_rfl) (by kernel_rfl) ?_
  refine sgN hK6 ?_
  refine cond_true (by kernel_rfl) ?_
  refine sgC fun K7 hK7 => ?_
  refine Qaa (.iface 47 (.int .i64 4)) 28 rfl (by kernel_rfl) (by kernel_rfl) ?_
  refine Qaa (.slice none 0 0) 8 rfl (by kernel_rfl) (by kernel_rfl) ?_
  refine Qaa (.iface 47 (.int .i64 4)) 9 rfl (by kernel_rfl) (by kernel_rfl) ?_
  refine sgN hK7 ?_
  refine wp_ret ?_
  repeat (first | with_reducible refine goR1 ?_ | with_reducible refine goR2 ?_)
  exact (show bodyPost _ _ _ .ret _ _ from ret2 (.slice none 0 0) (.iface 47 (.int .i64 4)) rfl (Qa7 (by kernel_rfl)) (Qa7 (by kernel_rfl)) ⟨rfl, (Ext.tr (Rely.Ext.refl w) e1)⟩)
set_option maxHeartbeats 4000000 in
theorem Qjo (sec ctx : List Int) (s : ByteArray) (v2 : Value) (B2 : Nat) (tc tq : TypeId) (w : World) (hc : w.heap[2]? = some (.cells (ints .u64 QaI) tc)) (hq : w.heap[1]? = some (.cells (ints .u64 Qak) tq)) (hsl : sec.length = 32) (hsb : Qao sec) (hxb : Qao ctx) (hx : RdK .u8 B2 ctx v2 w) (n : Nat) (hn : n ≤ 8160) (hl : (strB s).length ≤ 255) (hc2 : ctx.length ≤ 65536) : Calls Tryd.prog 51 #[.agg (ints .u8 sec), .string s, v2, .int .i64 ((n : Nat) : Int)] w (QbH w (fun v W => ∃ u, v = .tuple #[u, .nilIface] ∧ OwnN .u8 5 w.heap.size (kx sec (Qbd (strB s) ctx n) n) u W)) := by
  obtain ⟨a_ctx, c_ctx, rfl, -⟩ := id hx
  refine enter 75 [(0, .agg (ints .u8 (sec))), (1, .string s), (2, .slice a_ctx ctx.length c_ctx), (3, .int .i64 ((n : Nat) : Int))] Tryd.func51 rfl rfl (by kernel_rfl) rfl ?_
  refine sgC fun K3 hK3 => ?_
  refine Qar (ints .u8 (sec)) 23 4 rfl (by kernel_rfl) (by kernel_rfl) fun g4 W1 l4 e1 r4_1 => ?_
  have x1 := Ext.tr (Rely.Ext.refl w) e1
  have b4 := Nat.le_trans (Rely.Ext.refl w).size l4
  refine Qaa (.slice none 0 0) 8 rfl (by kernel_rfl) (by kernel_rfl) ?_
  refine Qaa (.nilIface) 9 rfl (by kernel_rfl) (by kernel_rfl) ?_
  refine sgN hK3 ?_
  refine wp_seq_k fun K5 hK5 => ?_
  refine sgC fun K6 hK6 => ?_
  refine Qaa (.int .i64 ((n : Nat) : Int)) 12 rfl (by kernel_rfl) (by kernel_rfl) ?_
  refine Qaa (.bool false) 13 rfl (by kernel_rfl) (Qag (u := .bool (decide (((n : Nat) : Int) < 0))) (by kernel_rfl) (congrArg Value.bool (decide_eq_false (by omega)))) ?_
  refine Qaa (.bool false) 14 rfl (by kernel_rfl) (by kernel_rfl) ?_
  refine Qaa (.int .i64 ((n : Nat) : Int)) 15 rfl (by kernel_rfl) (by kernel_rfl) ?_
  refine Qaa (.bool false) 16 rfl (by kernel_rfl) (Qag (u := .bool (decide (((n : Nat) : Int) > 8160))) (by kernel_rfl) (congrArg Value.bool (decide_eq_false (by omega)))) ?_
  refine Qaa (.bool false) 17 rfl (by kernel_rfl) (by kernel_rfl) ?_
  refine Qaa (.bool false) 18 rfl (by kernel_rfl) (by kernel_rfl) ?_
  refine Qaa (.string s) 19 rfl (by kernel_rfl) (by kernel_rfl) ?_
  refine Qaa (.int .i64 (((strB s).length : Nat) : Int)) 20 rfl (by kernel_rfl) (Qag (u := .int .i64 ((s.size : Nat) : Int)) (by kernel_rfl) (congrArg (fun z : Nat => Value.int .i64 (z : Int)) (Qb9 s).symm)) ?_
  refine Qaa (.bool false) 21 rfl (by kernel_rfl) (Qag (u := .bool (decide ((((strB s).length : Nat) : Int) > 255))) (by kernel_rfl) (congrArg Value.bool (decide_eq_false (by omega)))) ?_
  refine Qaa (.bool false) 22 rfl (by kernel_rfl) (by kernel_rfl) ?_
  refine Qaa (.bool false) 23 rfl (by kernel_rfl) (by kernel_rfl) ?_
  refine Qaa (.slice a_ctx ctx.length c_ctx) 24 rfl (by kernel_rfl) (by kernel_rfl) ?_
  refine Qaa (.int .i64 ((ctx.length : Nat) : Int)) 25 rfl (by kernel_rfl) (by kernel_rfl) ?_
  refine Qaa (.bool false) 26 rfl (by kernel_rfl) (Qag (u := .bool (decide (((ctx.length : Nat) : Int) > 65536))) (by kernel_rfl) (congrArg Value.bool (decide_eq_false (by omega)))) ?_
  refine Qaa (.bool false) 27 rfl (by kernel_rfl) (by kernel_rfl) ?_
  refine sgN hK6 ?_
  refine cond_false (by kernel_rfl) ?_
  refine wp_skip ?_
  refine hK5 _ _ ?_
  refine sgC fun K7 hK7 => ?_
  refine Qaa (.string s) 29 rfl (by kernel_rfl) (by kernel_rfl) ?_
  refine Qaa (.int .i64 (((strB s).length : Nat) : Int)) 30 rfl (by kernel_rfl) (Qag (u := .int .i64 ((s.size : Nat) : Int)) (by kernel_rfl) (congrArg (fun z : Nat => Value.int .i64 (z : Int)) (Qb9 s).symm)) ?_
  refine Qaa (.int .i64 ((7 + ((strB s).length) : Nat) : Int)) 31 rfl (by kernel_rfl) (Qag (u := .int .i64 (IntKind.i64.wrap (7 + (((strB s).length : Nat) : Int)))) (by kernel_rfl) (congrArg (Value.int .i64) (i64n _ _ (by omega) (by omega)))) ?_
  refine Qaa (.slice a_ctx ctx.length c_ctx) 32 rfl (by kernel_rfl) (by kernel_rfl) ?_
  refine Qaa (.int .i64 ((ctx.length : Nat) : Int)) 33 rfl (by kernel_rfl) (by kernel_rfl) ?_
  refine Qaa (.int .i64 (((7 + ((strB s).length)) + ctx.length : Nat) : Int)) 34 rfl (by kernel_rfl) (Qag (u := .int .i64 (IntKind.i64.wrap (((7 + ((strB s).length) : Nat) : Int) + ((ctx.length : Nat) : Int)))) (by kernel_rfl) (congrArg (Value.int .i64) (i64n _ _ (by omega) (by omega)))) ?_
  refine Qhq (ints .u8 (List.replicate (7 + (strB s).length + ctx.length) 0)) 5 (7 + (strB s).length + ctx.length) 35 rfl (by kernel_rfl) (Qhs 38 _ _ .i64 .i64 (7 + (strB s).length + ctx.length) 5 rfl (by kernel_rfl) (by kernel_rfl) (by kernel_rfl) (by kernel_rfl) (by omega)) fun g8 W2 l8 e2 r8_2 => ?_
  have x2 := Ext.tr x1 e2
  have b8 := Nat.le_trans x1.size l8
  have hz0 : OwnN .u8 5 W1.heap.size [] (.slice (some ⟨g8, 0, none⟩) 0 (7 + (strB s).length + ctx.length)) W2 := QeK (n := 0) rfl l8 r8_2 (by rw [Qac, List.length_replicate]) (Nat.zero_le _) (by simp only [maxLen]; omega) rfl
  refine Qaa (.slice (some ⟨g8, 0, none⟩) 0 (7 + (strB s).length + ctx.length)) 10 rfl (by kernel_rfl) (by kernel_rfl) ?_
  refine sgN hK7 ?_
  refine sgC fun K9 hK9 => ?_
  refine Qaa (.slice (some ⟨g8, 0, none⟩) 0 (7 + (strB s).length + ctx.length)) 36 rfl (by kernel_rfl) (by kernel_rfl) ?_
  refine Qaa (.int .i64 ((n : Nat) : Int)) 37 rfl (by kernel_rfl) (by kernel_rfl) ?_
  refine Qaa (.int .i64 (((n / 256 : Nat) : Int))) 38 rfl (by kernel_rfl) (Qay .shr _ _ _ _ .i64 .u64 _ _ _ rfl (by kernel_rfl) (by kernel_rfl) (QaH _ _ _ _ _ _ (by decide) (shrN n 8 256 (by decide)))) ?_
  refine Qaa (.int .u8 (((n / 256 : Nat) : Int))) 39 rfl (by kernel_rfl) (Qag (u := .int .u8 (IntKind.u8.wrap (((n / 256 : Nat) : Int)))) (by kernel_rfl) (congrArg (Value.int .u8) (Qdj (n / 256) (n / 256) (by omega)))) ?_
  refine Qaa (.int .i64 ((n : Nat) : Int)) 40 rfl (by kernel_rfl) (by kernel_rfl) ?_
  refine Qaa (.int .u8 (((n % 256 : Nat) : Int))) 41 rfl (by kernel_rfl) (Qag (u := .int .u8 (IntKind.u8.wrap ((n : Nat) : Int))) (by kernel_rfl) (congrArg (Value.int .u8) (Qdj (n) (n % 256) (by omega)))) ?_
  refine Qaa (.string s) 42 rfl (by kernel_rfl) (by kernel_rfl) ?_
  refine Qaa (.int .i64 (((strB s).length : Nat) : Int)) 43 rfl (by kernel_rfl) (Qag (u := .int .i64 ((s.size : Nat) : Int)) (by kernel_rfl) (congrArg (fun z : Nat => Value.int .i64 (z : Int)) (Qb9 s).symm)) ?_
  refine Qaa (.int .u8 ((((strB s).length : Nat) : Int))) 44 rfl (by kernel_rfl) (Qag (u := .int .u8 (IntKind.u8.wrap (((strB s).length : Nat) : Int))) (by kernel_rfl) (congrArg (Value.int .u8) (Qdj ((strB s).length) ((strB s).length) (by omega)))) ?_
  refine QaB (ints .u8 ([(((n / 256 : Nat) : Int)), (((n % 256 : Nat) : Int)), ((((strB s).length : Nat) : Int))])) 5 3 45 rfl (by kernel_rfl) (by kernel_rfl) fun g10 W3 l10 e3 r10_3 => ?_
  have b10 := Nat.le_trans x2.size l10
  refine QaC (k := .u8) (T := 5) (xs := []) (ys := [(((n / 256 : Nat) : Int)), (((n % 256 : Nat) : Int)), ((((strB s).length : Nat) : Int))]) (V := W1) 1 (.tmp 36) (.tmp 45) 38 rfl (by kernel_rfl) (by kernel_rfl) (by decide) 46 rfl (by kernel_rfl) (by kernel_rfl) (by kernel_rfl) (hz0.ext e3) (QaK (xs := [(((n / 256 : Nat) : Int)), (((n % 256 : Nat) : Int)), ((((strB s).length : Nat) : Int))]) (n := 3) rfl r10_3 (Qat r10_3) (show 3 ≤ maxLen from by decide)) (by have : (QbN (strB s) n).length = 3 := rfl; have : (QcR ctx.length).length = 4 := rfl; simp only [List.length_append, List.length_cons, List.length_nil]; omega) (Rely.Ext.trans (Rely.Ext.trans (Rely.Ext.refl W1) e2) e3) fun z1 W4 f12 y4 l4 => ?_
  have hu14 : OwnN .u8 5 W1.heap.size (QbN (strB s) n) z1 W4 := f12
  refine Qaa (z1) 10 rfl (by kernel_rfl) (by kernel_rfl) ?_
  refine sgN hK9 ?_
  refine sgC fun K15 hK15 => ?_
  refine Qaa (z1) 47 rfl (by kernel_rfl) (by kernel_rfl) ?_
  refine Qaa (.string s) 48 rfl (by kernel_rfl) (by kernel_rfl) ?_
  refine QdO (T := 5) (xs := QbN (strB s) n) (lab := s) (V := W1) (.tmp 47) (.tmp 48) 38 9 rfl (by kernel_rfl) (by kernel_rfl) (by kernel_rfl) 49 rfl (by kernel_rfl) (by kernel_rfl) (by kernel_rfl) hu14 (by have : (QbN (strB s) n).length = 3 := rfl; (try simp only [List.length_append, List.length_cons, List.length_nil]); omega) y4 fun z2 W5 f16 y5 l5 => ?_
  have x5 := Ext.low (Ext.low (Ext.tr x2 e3) l4 x1.size) l5 x1.size
  have hu17 : OwnN .u8 5 W1.heap.size (QbN (strB s) n ++ strB s) z2 W5 := f16
  refine Qaa (z2) 10 rfl (by kernel_rfl) (by kernel_rfl) ?_
  refine sgN hK15 ?_
  refine sgC fun K18 hK18 => ?_
  refine Qaa (.slice a_ctx ctx.length c_ctx) 50 rfl (by kernel_rfl) (by kernel_rfl) ?_
  refine Qaa (.int .i64 ((ctx.length : Nat) : Int)) 51 rfl (by kernel_rfl) (by kernel_rfl) ?_
  refine Qaa (.int .i64 ((ctx.length : Nat) : Int)) 11 rfl (by kernel_rfl) (by kernel_rfl) ?_
  refine sgN hK18 ?_
  refine sgC fun K19 hK19 => ?_
  refine Qaa (z2) 52 rfl (by kernel_rfl) (by kernel_rfl) ?_
  refine Qaa (.int .i64 ((ctx.length : Nat) : Int)) 53 rfl (by kernel_rfl) (by kernel_rfl) ?_
  refine Qaa (.int .i64 (((ctx.length / 16777216 : Nat) : Int))) 54 rfl (by kernel_rfl) (Qay .shr _ _ _ _ .i64 .u64 _ _ _ rfl (by kernel_rfl) (by kernel_rfl) (QaH _ _ _ _ _ _ (by decide) (shrN ctx.length 24 16777216 (by decide)))) ?_
  refine Qaa (.int .u8 (((ctx.length / 16777216 : Nat) : Int))) 55 rfl (by kernel_rfl) (Qag (u := .int .u8 (IntKind.u8.wrap (((ctx.length / 16777216 : Nat) : Int)))) (by kernel_rfl) (congrArg (Value.int .u8) (Qdj (ctx.length / 16777216) (ctx.length / 16777216) (by omega)))) ?_
  refine Qaa (.int .i64 ((ctx.length : Nat) : Int)) 56 rfl (by kernel_rfl) (by kernel_rfl) ?_
  refine Qaa (.int .i64 (((ctx.length / 65536 : Nat) : Int))) 57 rfl (by kernel_rfl) (Qay .shr _ _ _ _ .i64 .u64 _ _ _ rfl (by kernel_rfl) (by kernel_rfl) (QaH _ _ _ _ _ _ (by decide) (shrN ctx.length 16 65536 (by decide)))) ?_
  refine Qaa (.int .u8 (((ctx.length / 65536 % 256 : Nat) : Int))) 58 rfl (by kernel_rfl) (Qag (u := .int .u8 (IntKind.u8.wrap (((ctx.length / 65536 : Nat) : Int)))) (by kernel_rfl) (congrArg (Value.int .u8) (Qdj (ctx.length / 65536) (ctx.length / 65536 % 256) (by omega)))) ?_
  refine Qaa (.int .i64 ((ctx.length : Nat) : Int)) 59 rfl (by kernel_rfl) (by kernel_rfl) ?_
  refine Qaa (.int .i64 (((ctx.length / 256 : Nat) : Int))) 60 rfl (by kernel_rfl) (Qay .shr _ _ _ _ .i64 .u64 _ _ _ rfl (by kernel_rfl) (by kernel_rfl) (QaH _ _ _ _ _ _ (by decide) (shrN ctx.length 8 256 (by decide)))) ?_
  refine Qaa (.int .u8 (((ctx.length / 256 % 256 : Nat) : Int))) 61 rfl (by kernel_rfl) (Qag (u := .int .u8 (IntKind.u8.wrap (((ctx.length / 256 : Nat) : Int)))) (by kernel_rfl) (congrArg (Value.int .u8) (Qdj (ctx.length / 256) (ctx.length / 256 % 256) (by omega)))) ?_
  refine Qaa (.int .i64 ((ctx.length : Nat) : Int)) 62 rfl (by kernel_rfl) (by kernel_rfl) ?_
  refine Qaa (.int .u8 (((ctx.length % 256 : Nat) : Int))) 63 rfl (by kernel_rfl) (Qag (u := .int .u8 (IntKind.u8.wrap ((ctx.length : Nat) : Int))) (by kernel_rfl) (congrArg (Value.int .u8) (Qdj (ctx.length) (ctx.length % 256) (by omega)))) ?_
  refine QaB (ints .u8 ([(((ctx.length / 16777216 : Nat) : Int)), (((ctx.length / 65536 % 256 : Nat) : Int)), (((ctx.length / 256 % 256 : Nat) : Int)), (((ctx.length % 256 : Nat) : Int))])) 5 4 64 rfl (by kernel_rfl) (by kernel_rfl) fun g20 W6 l20 e6 r20_6 => ?_
  have b20 := Nat.le_trans x5.size l20
  refine QaC (k := .u8) (T := 5) (xs := QbN (strB s) n ++ strB s) (ys := [(((ctx.length / 16777216 : Nat) : Int)), (((ctx.length / 65536 % 256 : Nat) : Int)), (((ctx.length / 256 % 256 : Nat) : Int)), (((ctx.length % 256 : Nat) : Int))]) (V := W1) 1 (.tmp 52) (.tmp 64) 38 rfl (by kernel_rfl) (by kernel_rfl) (by decide) 65 rfl (by kernel_rfl) (by kernel_rfl) (by kernel_rfl) (hu17.ext e6) (QaK (xs := [(((ctx.length / 16777216 : Nat) : Int)), (((ctx.length / 65536 % 256 : Nat) : Int)), (((ctx.length / 256 % 256 : Nat) : Int)), (((ctx.length % 256 : Nat) : Int))]) (n := 4) rfl r20_6 (Qat r20_6) (show 4 ≤ maxLen from by decide)) (by have : (QbN (strB s) n).length = 3 := rfl; have : (QcR ctx.length).length = 4 := rfl; simp only [List.length_append, List.length_cons, List.length_nil]; omega) (Rely.Ext.trans y5 e6) fun z3 W7 f22 y7 l7 => ?_
  have x7 := Ext.low (Ext.tr x5 e6) l7 x1.size
  have hu24 : OwnN .u8 5 W1.heap.size ((QbN (strB s) n ++ strB s) ++ QcR ctx.length) z3 W7 := f22
  refine Qaa (z3) 10 rfl (by kernel_rfl) (by kernel_rfl) ?_
  refine sgN hK19 ?_
  refine sgC fun K25 hK25 => ?_
  refine Qaa (z3) 66 rfl (by kernel_rfl) (by kernel_rfl) ?_
  refine Qaa (.slice a_ctx ctx.length c_ctx) 67 rfl (by kernel_rfl) (by kernel_rfl) ?_
  refine QaC (k := .u8) (T := 5) (xs := (QbN (strB s) n ++ strB s) ++ QcR ctx.length) (ys := ctx) (V := W1) 1 (.tmp 66) (.tmp 67) 38 rfl (by kernel_rfl) (by kernel_rfl) (by decide) 68 rfl (by kernel_rfl) (by kernel_rfl) (by kernel_rfl) hu24 (RdK.ext hx x7) (by have : (QbN (strB s) n).length = 3 := rfl; have : (QcR ctx.length).length = 4 := rfl; simp only [List.length_append, List.length_cons, List.length_nil]; omega) y7 fun z4 W8 f26 y8 l8 => ?_
  have x8 := Ext.low x7 l8 x1.size
  have hu28 : OwnN .u8 5 W1.heap.size (Qbd (strB s) ctx n) z4 W8 := f26
  refine Qaa (z4) 10 rfl (by kernel_rfl) (by kernel_rfl) ?_
  refine sgN hK25 ?_
  refine sgC fun K29 hK29 => ?_
  refine Qaa (.slice (some ⟨g4, 0, none⟩) 32 32) 69 rfl (by kernel_rfl) (by kernel_rfl) ?_
  refine Qaa (z4) 70 rfl (by kernel_rfl) (by kernel_rfl) ?_
  refine Qaa (.int .i64 ((n : Nat) : Int)) 71 rfl (by kernel_rfl) (by kernel_rfl) ?_
  obtain ⟨ai30, ci30, hai30, -⟩ := id (OwnN.rd hu28)
  have r1_1 := (Qab hc e1)
  have r2_1 := (Qab hq e1)
  have r4_8 := (Qbb l8 (Qbb l7 (Qab (Qbb l5 (Qbb l4 (Qab (Qab r4_1 e2) e3) (Qat r4_1)) (Qat r4_1)) e6) (Qat r4_1)) (Qat r4_1))
  refine Qa8 (fun v W' => (fun v W => ∃ u, v = .tuple #[u, .nilIface] ∧ OwnN .u8 5 W8.heap.size (kx sec (Qbd (strB s) ctx n) n) u W) v W' ∧ Ext W8 W') 59 #[.slice (some ⟨g4, 0, none⟩) 32 32, z4, .int .i64 ((n : Nat) : Int)] 72 rfl (by kernel_rfl) (by kernel_rfl) ((QiG sec (Qbd (strB s) ctx n) _ _ _ _ n tc tq _ (Qbb l8 (Qbb l7 (Qab (Qbb l5 (Qbb l4 (Qab (Qab r1_1 e2) e3) (Qat r1_1)) (Qat r1_1)) e6) (Qat r1_1)) (Qat r1_1)) (Qbb l8 (Qbb l7 (Qab (Qbb l5 (Qbb l4 (Qab (Qab r2_1 e2) e3) (Qat r2_1)) (Qat r2_1)) e6) (Qat r2_1)) (Qat r2_1)) hn (by omega) (by rw [Qf0]; omega) hsb (QdY _ _ _ (Qeq s) hxb hl hc2 hn) (QaK (xs := sec) (n := 32) hsl r4_8 (Qat r4_8) (show 32 ≤ maxLen from by decide)) (OwnN.rd hu28)).mono (by rintro e w' ⟨v, rfl, e1, hv⟩; exact ⟨v, rfl, hv, e1⟩)) fun vv31 W9 hh31 => ?_
  obtain ⟨hv31, e9⟩ := hh31
  obtain ⟨uu, rfl, huu⟩ := hv31
  refine Qaa (uu) 73 rfl (by kernel_rfl) (by kernel_rfl) ?_
  refine Qaa (.nilIface) 74 rfl (by kernel_rfl) (by kernel_rfl) ?_
  refine Qaa (uu) 8 rfl (by kernel_rfl) (by kernel_rfl) ?_
  refine Qaa (.nilIface) 9 rfl (by kernel_rfl) (by kernel_rfl) ?_
  refine sgN hK29 ?_
  refine wp_ret ?_
  repeat (first | with_reducible refine goR1 ?_ | with_reducible refine goR2 ?_)
  exact (show bodyPost _ _ _ .ret _ _ from ret2 (uu) (.nilIface) rfl (Qa7 (by kernel_rfl)) (Qa7 (by kernel_rfl)) ⟨_, rfl, (Ext.tr x8 e9), uu, rfl, OwnN.base x8.size huu⟩)
end Go.Proofs.YtibegnjaphohaaaDoor.Sha
end
section
namespace Go.Proofs.YtibegnjaphohaaaDoor.Sha
open Go Go.RowKit
open Rely Auto Own
set_option linter.unusedVariables false
set_option linter.unusedSimpArgs false
theorem QfE {P : Program} {ρ : Operand → Value} {o : Oper} {w : World} (t : TypeId) (x : Operand) (n : Nat) (e : TypeId) {a : Option Addr} {len cap : Nat} (ho : o.op = .sliceToArrayPointer t x) (hx : ρ x = .slice a len cap) (hu : P.underlying t = some (.array n e)) (h : n ≤ len) :
    (execOp ρ o).run P w = .ok (.value (.pointer a)) w := by
  unfold execOp
  simp [ho, hx, Instr.arrayAt, run_underlying hu, Nat.not_lt.2 h]
theorem Qfy {k : IntKind} {cur : Array Value} {xs : List Int} (h : cur.toList.take xs.length = xs.map (Value.int k)) : ∀ j v, (ints k xs)[j]? = some v → cur[0 + j]? = some v := fun j v hv => by
  rw [Nat.zero_add]
  have hj : j < xs.length := by
    have := (Array.getElem?_eq_some_iff.1 hv).1
    rwa [Qac] at this
  rw [QcP h hj, ← hv, QaY _ _ _ hj]
def Qc8 (xs : List Int) (n i : Nat) : List Int := xs.take i ++ List.replicate (n - i) 0
theorem Qf4 (xs : List Int) (n i : Nat) (h : xs.length = n) (hi : i ≤ n) : (Qc8 xs n i).length = n := by unfold Qc8; rw [List.length_append, List.length_take, List.length_replicate]; omega
theorem Qe2 (xs : List Int) (n : Nat) : List.replicate n 0 = Qc8 xs n 0 := by unfold Qc8; rw [List.take_zero, Nat.sub_zero]; rfl
theorem Qe4 (xs : List Int) (n : Nat) (h : xs.length = n) : Qc8 xs n n = xs := by unfold Qc8; rw [Nat.sub_self, List.replicate_zero, List.append_nil, List.take_of_length_le (by omega)]
theorem Qe3 (xs : List Int) (n i : Nat) (h : xs.length = n) (hi : i < n) : (Qc8 xs n i).set i (nth xs i) = Qc8 xs n (i + 1) := by
  have hl : (xs.take i).length = i := by rw [List.length_take]; omega
  unfold Qc8
  rw [List.set_append_right _ _ (by omega), hl, Nat.sub_self, show n - i = (n - (i + 1)) + 1 by omega, List.replicate_succ, List.set_cons_zero]
  have e : xs.take (i + 1) = xs.take i ++ [nth xs i] := by
    rw [List.take_add_one, List.getElem?_eq_getElem (by omega)]
    simp [nth, show i < xs.length by omega]
  rw [e, List.append_assoc]
  rfl
def Qbm (sec lab : List Int) : List Int := if lab.length ≤ 255 then kx sec (Qbd lab [] 32) 32 else List.replicate 32 0
theorem QcS (sec lab : List Int) : (Qbm sec lab).length = 32 := by
  unfold Qbm
  split
  · exact Qby _ _ _
  · exact List.length_replicate
theorem nilrd (W : World) : RdK .u8 W.heap.size [] (.slice none 0 0) W := OwnN.rd (Qbv .u8 0 0 W)
set_option maxHeartbeats 4000000 in
theorem QiT (sec : List Int) (s : ByteArray) (tc tq : TypeId) (w : World) (hc : w.heap[2]? = some (.cells (ints .u64 QaI) tc)) (hq : w.heap[1]? = some (.cells (ints .u64 Qak) tq)) (hsl : sec.length = 32) (hsb : Qao sec) (h : (strB s).length ≤ 255) : Calls Tryd.prog 40 #[.agg (ints .u8 sec), .string s] w (Ret w (.agg (ints .u8 (Qbm sec (strB s))))) := by
  refine enter 19 [(0, .agg (ints .u8 (sec))), (1, .string s)] Tryd.func40 rfl rfl kj rfl ?_
  refine sgC fun K3 hK3 => ?_
  refine Qar (ints .u8 (sec)) 23 2 rfl kj kj fun g4 W1 l4 e1 r4_1 => ?_
  have x1 := Ext.tr (Rely.Ext.refl w) e1
  have b4 := Nat.le_trans (Rely.Ext.refl w).size l4
  refine Qar (ints .u8 (List.replicate 32 0)) 23 4 rfl kj kj fun g5 W2 l5 e2 r5_2 => ?_
  refine sgN hK3 ?_
  refine sgC fun K6 hK6 => ?_
  refine Qaa (.agg (ints .u8 (sec))) 8 rfl kj (Qaw 23 _ g4 23 _ _ (Qab r4_1 e2) rfl kj kj (isz (n := 32) kj ((Qac _ _).trans hsl))) ?_
  refine sg 1 kj ?_
  refine Qa8 (fun v W' => (fun v W => ∃ u, v = .tuple #[u, .nilIface] ∧ OwnN .u8 5 W2.heap.size (kx sec (Qbd (strB s) [] 32) 32) u W) v W' ∧ Ext W2 W') 51 #[.agg (ints .u8 (sec)), .string s, .slice none 0 0, .int .i64 32] 10 rfl kj kj ((Qjo sec [] s (.slice none 0 0) _ tc tq _ (Qab (Qab hc e1) e2) (Qab (Qab hq e1) e2) hsl hsb (fun x hx => by cases hx) (nilrd _) 32 (by decide) h (by decide)).mono (by rintro e w' ⟨v, rfl, e1, hv⟩; exact ⟨v, rfl, hv, e1⟩)) fun vv7 W3 hh7 => ?_
  obtain ⟨hv7, e3⟩ := hh7
  obtain ⟨uu, rfl, huu⟩ := hv7
  obtain ⟨gu, cu, curu, rfl, -, hru, -, -, -, htu⟩ := QcZ huu (by rw [Qby]; decide)
  refine sg 5 kj ?_
  refine sgN hK6 ?_
  refine wp_seq_k fun K8 hK8 => ?_
  refine sgB kj ?_
  refine cond_false kj ?_
  refine wp_skip ?_
  refine hK8 _ _ ?_
  refine sgC fun K10 hK10 => ?_
  refine sg 1 kj ?_
  refine Qaa (.pointer (some ⟨gu, 0, none⟩)) 17 rfl kj (QfE 23 _ 32 5 (a := some ⟨gu, 0, none⟩) (len := (kx sec (Qbd (strB s) [] 32) 32).length) (cap := cu) rfl kj kj (by rw [Qby]; exact Nat.le_refl _)) ?_
  refine Qaa (.agg (ints .u8 (kx sec (Qbd (strB s) [] 32) 32))) 18 rfl kj (QaE 23 _ gu 0 5 _ _ _ (Qab hru (Rely.Ext.refl W3)) rfl kj (Qfy htu) kj (isz (n := 32) kj ((Qac _ _).trans (Qby _ _ _)))) ?_
  have r5_3 := (Qab r5_2 e3)
  refine Qai g5 _ (ints .u8 (kx sec (Qbd (strB s) [] 32) 32)) 23 r5_3 rfl kj (Qaq 23 _ _ g5 23 _ _ r5_3 rfl kj kj (isz (n := 32) kj ((Qac _ _).trans (Qby _ _ _))) (eqsz (n := 32) ((Qac _ _).trans (List.length_replicate (n := 32))) ((Qac _ _).trans (Qby _ _ _))) (Qa2 _ _)) fun W4 p4 r5_4 => ?_
  refine sgN hK10 ?_
  refine wp_ret ?_
  repeat (first | with_reducible refine goR1 ?_ | with_reducible refine goR2 ?_)
  exact (show bodyPost _ _ _ .ret _ _ from ret1 (.agg (ints .u8 (kx sec (Qbd (strB s) [] 32) 32))) rfl (QaR g5 23 _ r5_4 kj kj (isz (n := 32) kj ((Qac _ _).trans (Qby _ _ _)))) ⟨congrArg (fun z => Ending.returned (.agg (ints .u8 z))) (show _ = Qbm sec (strB s) by unfold Qbm; rw [if_pos h]), (Puts.ext p4 (Ext.tr (Ext.tr x1 e2) e3) (Nat.le_trans x1.size l5))⟩)
set_option maxHeartbeats 4000000 in
theorem QiS (sec : List Int) (s : ByteArray) (tc tq : TypeId) (w : World) (hc : w.heap[2]? = some (.cells (ints .u64 QaI) tc)) (hq : w.heap[1]? = some (.cells (ints .u64 Qak) tq)) (hsl : sec.length = 32) (hsb : Qao sec) (h : 255 < (strB s).length) : Calls Tryd.prog 40 #[.agg (ints .u8 sec), .string s] w (Ret w (.agg (ints .u8 (Qbm sec (strB s))))) := by
  refine enter 19 [(0, .agg (ints .u8 (sec))), (1, .string s)] Tryd.func40 rfl rfl kj rfl ?_
  refine sgC fun K3 hK3 => ?_
  refine Qar (ints .u8 (sec)) 23 2 rfl kj kj fun g4 W1 l4 e1 r4_1 => ?_
  have x1 := Ext.tr (Rely.Ext.refl w) e1
  have b4 := Nat.le_trans (Rely.Ext.refl w).size l4
  refine Qar (ints .u8 (List.replicate 32 0)) 23 4 rfl kj kj fun g5 W2 l5 e2 r5_2 => ?_
  refine sgN hK3 ?_
  refine sgC fun K6 hK6 => ?_
  refine Qaa (.agg (ints .u8 (sec))) 8 rfl kj (Qaw 23 _ g4 23 _ _ (Qab r4_1 e2) rfl kj kj (isz (n := 32) kj ((Qac _ _).trans hsl))) ?_
  refine sg 1 kj ?_
  refine Qax (.tuple #[.slice none 0 0, .iface 47 (.int .i64 4)]) 51 #[.agg (ints .u8 (sec)), .string s, .slice none 0 0, .int .i64 32] 10 rfl kj kj ((fun W hc hq => QjJ sec [] s (.slice none 0 0) _ tc tq W hc hq hsl hsb (fun x hx => by cases hx) (nilrd W) 32 (by decide) (by decide) h) _ (Qab (Qab hc e1) e2) (Qab (Qab hq e1) e2)) fun W3 e3 => ?_
  refine sg 5 kj ?_
  refine sgN hK6 ?_
  refine wp_seq_k fun K7 hK7 => ?_
  refine sgB kj ?_
  refine cond_true kj ?_
  refine sgC fun K9 hK9 => ?_
  refine sg 1 kj ?_
  have r5_3 := (Qab r5_2 e3)
  refine Qai g5 _ (ints .u8 (List.replicate 32 0)) 23 r5_3 rfl kj (Qaq 23 _ _ g5 23 _ _ r5_3 rfl kj kj (isz (n := 32) kj ((Qac _ _).trans (List.length_replicate (n := 32)))) (eqsz (n := 32) ((Qac _ _).trans (List.length_replicate (n := 32))) ((Qac _ _).trans (List.length_replicate (n := 32)))) (Qa2 _ _)) fun W4 p4 r5_4 => ?_
  refine sgN hK9 ?_
  refine wp_ret ?_
  repeat (first | with_reducible refine goR1 ?_ | with_reducible refine goR2 ?_)
  exact (show bodyPost _ _ _ .ret _ _ from ret1 (.agg (ints .u8 (List.replicate 32 0))) rfl (QaR g5 23 _ r5_4 kj kj (isz (n := 32) kj ((Qac _ _).trans (List.length_replicate (n := 32))))) ⟨congrArg (fun z => Ending.returned (.agg (ints .u8 z))) (show _ = Qbm sec (strB s) by unfold Qbm; rw [if_neg (by omega)]), (Puts.ext p4 (Ext.tr (Ext.tr x1 e2) e3) (Nat.le_trans x1.size l5))⟩)
theorem QfQ (sec : List Int) (s : ByteArray) (tc tq : TypeId) (w : World) (hc : w.heap[2]? = some (.cells (ints .u64 QaI) tc)) (hq : w.heap[1]? = some (.cells (ints .u64 Qak) tq)) (hsl : sec.length = 32) (hsb : Qao sec) : Calls Tryd.prog 40 #[.agg (ints .u8 sec), .string s] w (Ret w (.agg (ints .u8 (Qbm sec (strB s))))) := by
  by_cases h : (strB s).length ≤ 255
  · exact QiT sec s tc tq w hc hq hsl hsb h
  · exact QiS sec s tc tq w hc hq hsl hsb (by omega)
end Go.Proofs.YtibegnjaphohaaaDoor.Sha
end
section
namespace Go.Proofs.YtibegnjaphohaaaDoor.Auto
open Go Go.RowKit
open Rely
set_option linter.unusedVariables false
set_option linter.unusedSimpArgs false
structure MpW (es : Array MapEntry) (clock : Nat) (m : List (Int × Value)) : Prop where
  ents : es.toList.map (fun e => (e.key, e.val)) = m.map fun p => (Value.int .i64 p.1, p.2)
  nod : (m.map Prod.fst).Nodup
  born : (es.toList.map (·.born)).Nodup
  old : ∀ e ∈ es.toList, e.born < clock
def MpAt (g : Nat) (m : List (Int × Value)) (W : World) : Prop := ∃ es clock, W.heap[g]? = some (.map es clock) ∧ MpW es clock m
def mget (m : List (Int × Value)) (k : Int) (z : Value) : Value := ((m.find? fun p => p.1 == k).map Prod.snd).getD z
theorem QjD (c : Nat) : MpW #[] c [] := ⟨rfl, List.nodup_nil, List.nodup_nil, fun e h => by cases h⟩
theorem MpAt.lt {g : Nat} {m : List (Int × Value)} {W : World} (h : MpAt g m W) : g < W.heap.size := by obtain ⟨es, c, h1, -⟩ := h; exact Qat h1
theorem MpAt.keep {g : Nat} {m : List (Int × Value)} {W W' : World} (h : MpAt g m W) (e : W'.heap[g]? = W.heap[g]?) : MpAt g m W' := by obtain ⟨es, c, h1, h2⟩ := h; exact ⟨es, c, e.trans h1, h2⟩
theorem MpAt.ext {g : Nat} {m : List (Int × Value)} {W W' : World} (h : MpAt g m W) (e : Ext W W') : MpAt g m W' := h.keep (e.block g h.lt)
theorem MpAt.ne {g k : Nat} {m : List (Int × Value)} {W : World} {cs : Array Value} {T : TypeId} {fr : Nat × Nat} (h : MpAt g m W) (r : W.heap[k]? = some (.cells cs T fr)) : k ≠ g := fun e => by
  obtain ⟨es, c, h1, -⟩ := h
  rw [e, h1] at r
  cases r
theorem MpAt.puts {g k : Nat} {m : List (Int × Value)} {W W' : World} (h : MpAt g m W) (p : Puts W k W') (hn : g ≠ k) : MpAt g m W' := h.keep (p.2.2.2.2 g hn)
theorem Qcu (k : Int) : ∀ (es : List MapEntry) (m : List (Int × Value)) (i : Nat), es.map (fun e => (e.key, e.val)) = m.map (fun p => (Value.int .i64 p.1, p.2)) →
    (Instr.findNow (.int .i64) (.int .i64 k) es i = some none ∧ m.find? (fun p => p.1 == k) = none ∧ ∀ e ∈ es, e.key ≠ .int .i64 k) ∨ ∃ j v e, Instr.findNow (.int .i64) (.int .i64 k) es i = some (some (i + j, v)) ∧ m.find? (fun p => p.1 == k) = some (k, v) ∧ es[j]? = some e ∧ e.key = .int .i64 k
  | [], [], i, _ => .inl ⟨rfl, rfl, fun e h => by cases h⟩
  | [], _ :: _, i, h => by cases h
  | _ :: _, [], i, h => by cases h
  | e :: es, p :: m, i, h => by
    simp only [List.map_cons, List.cons.injEq, Prod.mk.injEq] at h
    obtain ⟨⟨h1, h2⟩, h3⟩ := h
    have hs : Instr.sameNow (.int .i64) (.int .i64 k) e.key = some (k == p.1) := by rw [h1]; simp [Instr.sameNow]
    by_cases hk : p.1 = k
    · right
      refine ⟨0, p.2, e, ?_, ?_, rfl, by rw [h1, hk]⟩
      · rw [Instr.findNow, hs, hk, beq_self_eq_true, h2]; rfl
      · rw [List.find?_cons_of_pos (by simp [hk])]; congr 1; exact Prod.ext hk rfl
    · have hs' : Instr.sameNow (.int .i64) (.int .i64 k) e.key = some false := by rw [hs]; congr 1; simp; exact fun q => hk q.symm
      rcases Qcu k es m (i + 1) h3 with ⟨q1, q2, q3⟩ | ⟨j, v, e', q1, q2, q3, q4⟩
      · left
        refine ⟨by rw [Instr.findNow, hs']; exact q1, by rw [List.find?_cons_of_neg (by simp [hk])]; exact q2, fun x hx => ?_⟩
        rcases List.mem_cons.1 hx with rfl | hx
        · rw [h1]; exact fun q => hk (by injection q)
        · exact q3 x hx
      · right
        exact ⟨j + 1, v, e', by rw [Instr.findNow, hs']; show Instr.findNow _ _ es (i + 1) = _; rw [q1, show i + 1 + j = i + (j + 1) by omega], by rw [List.find?_cons_of_neg (by simp [hk])]; exact q2, by rw [List.getElem?_cons_succ]; exact q3, q4⟩
section
variable {P : Program} {ρ : Operand → Value} {o : Oper} {w : World}
theorem Qht (t : TypeId) (m k : Operand) {kt et : TypeId} {g : Nat} {n : Int} {ms : List (Int × Value)} {z : Value} (ho : o.op = .lookup t m k false) (hm : ρ m = .map (some g)) (hk : ρ k = .int .i64 n)
    (ht : P.underlying t = some (.map kt et)) (hkt : P.underlying kt = some (.int .i64)) (h : MpAt g ms w) (hz : (zeroValue et).run P w = .ok z w) : (execOp ρ o).run P w = .ok (.value (mget ms n z)) w := by
  obtain ⟨es, c, hg, hM⟩ := h
  have hl : (Instr.lookup t (.map (some g)) (.int .i64 n) false).run P w = .ok (mget ms n z) w := by
    unfold Instr.lookup
    rw [Sem.run_bind, run_underlying ht]
    show ((getObj g >>= _) >>= _ : Sem Value).run P w = _
    rw [Sem.run_bind, Sem.run_bind, MapKept.run_getObj_map hg]
    show ((Instr.checkKey es.isEmpty 10000 kt (.int .i64 n)) >>= _ : Sem Value).run P w = _
    rw [Sem.run_bind, MapKept.run_checkKey hkt (by simp [MapKept.IsKey])]
    rcases Qcu n es.toList ms 0 hM.ents with ⟨q1, q2, -⟩ | ⟨j, v, e, q1, q2, -, -⟩
    · have hf := MapKept.run_findKey (P := P) (w := w) hkt q1
      unfold mget
      rw [q2]
      simp [Sem.run_bind, hf, Result.andThen, hz]
    · have hf := MapKept.run_findKey (P := P) (w := w) hkt q1
      unfold mget
      rw [q2]
      simp [Sem.run_bind, hf, Result.andThen]
  unfold execOp
  simp only [ho, hm, hk, Sem.run_bind, hl, Result.andThen_ok, Sem.run_pure]
theorem QiB {es : Array MapEntry} {c : Nat} {m : List (Int × Value)} (h : MpW es c m) {n : Int} {v : Value} (hn : n ∉ m.map Prod.fst) : MpW (es.push { key := .int .i64 n, val := v, born := c }) (c + 1) (m ++ [(n, v)]) := by
  refine ⟨?_, ?_, ?_, ?_⟩
  · rw [Array.toList_push, List.map_append, h.ents, List.map_append]; rfl
  · rw [List.map_append]
    refine List.nodup_append.2 ⟨h.nod, (List.nodup_cons.2 ⟨List.not_mem_nil, List.nodup_nil⟩), fun a ha b hb => ?_⟩
    rw [List.map_singleton, List.mem_singleton] at hb
    subst hb
    exact fun q => hn (q ▸ ha)
  · rw [Array.toList_push, List.map_append]
    refine List.nodup_append.2 ⟨h.born, (List.nodup_cons.2 ⟨List.not_mem_nil, List.nodup_nil⟩), fun a ha b hb => ?_⟩
    obtain ⟨e, he, rfl⟩ := List.mem_map.1 ha
    rw [List.map_singleton, List.mem_singleton] at hb
    subst hb
    exact Nat.ne_of_lt (h.old e he)
  · intro e he
    rw [Array.toList_push, List.mem_append, List.mem_singleton] at he
    rcases he with he | rfl
    · exact Nat.lt_succ_of_lt (h.old e he)
    · exact Nat.lt_succ_self _
theorem QjC {m : List (Int × Value)} {n : Int} (h : n ∉ m.map Prod.fst) : m.find? (fun p => p.1 == n) = none := by
  rw [List.find?_eq_none]
  intro p hp q
  exact h (List.mem_map.2 ⟨p, hp, by simpa using q⟩)
theorem Qgc (t : TypeId) (m k x : Operand) {kt et : TypeId} {g : Nat} {n : Int} {ms : List (Int × Value)} {v : Value} (ho : o.op = .mapUpdate t m k x) (hm : ρ m = .map (some g)) (hk : ρ k = .int .i64 n) (hx : ρ x = v)
    (ht : P.underlying t = some (.map kt et)) (hkt : P.underlying kt = some (.int .i64)) (h : MpAt g ms w) (hn : n ∉ ms.map Prod.fst) : ∃ W', (execOp ρ o).run P w = .ok .skip W' ∧ Puts w g W' ∧ MpAt g (ms ++ [(n, v)]) W' := by
  obtain ⟨es, c, hg, hM⟩ := h
  rcases Qcu n es.toList ms 0 hM.ents with ⟨q1, -, -⟩ | ⟨j, u, e, q1, q2, -, -⟩
  · have hf := MapKept.run_findKey (P := P) (w := w) hkt q1
    have hi : (Instr.mapUpdate t (.map (some g)) (.int .i64 n) v).run P w = .ok () { w with heap := w.heap.setIfInBounds g (.map (es.push { key := .int .i64 n, val := v, born := c }) (c + 1)) } := by
      unfold Instr.mapUpdate
      rw [Sem.run_bind, run_underlying ht]
      show ((getObj g) >>= _ : Sem Unit).run P w = _
      rw [Sem.run_bind, MapKept.run_getObj_map hg]
      show ((Instr.checkKey false 10000 kt (.int .i64 n)) >>= _ : Sem Unit).run P w = _
      rw [Sem.run_bind, MapKept.run_checkKey hkt (by simp [MapKept.IsKey])]
      show ((Instr.findKey kt (.int .i64 n) es.toList) >>= _ : Sem Unit).run P w = _
      rw [Sem.run_bind, hf]
      exact MapKept.run_setObj_map _ hg
    have hh := MapKept.heap_set (o' := .map (es.push { key := .int .i64 n, val := v, born := c }) (c + 1)) hg
    refine ⟨{ w with heap := w.heap.setIfInBounds g (.map (es.push { key := .int .i64 n, val := v, born := c }) (c + 1)) }, ?_, ⟨rfl, rfl, rfl, by simp, fun i hi => hh.2 i hi⟩, _, _, hh.1, QiB hM hn⟩
    unfold execOp
    rw [ho]
    show ((Instr.mapUpdate t (ρ m) (ρ k) (ρ x)) >>= _).run P w = _
    rw [hm, hk, hx, Sem.run_bind, hi]
    rfl
  · rw [QjC hn] at q2; cases q2
theorem QdG {α β : Type} (f : α → β) (p : β → Bool) : ∀ l : List α, (l.map f).filter p = (l.filter fun x => p (f x)).map f
  | [] => rfl
  | x :: l => by
    rw [List.map_cons, List.filter_cons, List.filter_cons, QdG f p l]
    split <;> rfl
theorem Qey {es : Array MapEntry} {c : Nat} {m : List (Int × Value)} (h : MpW es c m) (q : Int → Bool) (es' : Array MapEntry) (he : es'.toList = es.toList.filter fun e => match e.key with | .int _ n => q n | _ => true) : MpW es' c (m.filter fun p => q p.1) := by
  refine ⟨?_, ?_, ?_, ?_⟩
  · rw [he]
    have e1 := QdG (fun e : MapEntry => (e.key, e.val)) (fun x => match x.1 with | .int _ n => q n | _ => true) es.toList
    have e2 := QdG (fun p : Int × Value => (Value.int .i64 p.1, p.2)) (fun x => match x.1 with | .int _ n => q n | _ => true) m
    rw [← e1, h.ents, e2]
  · exact h.nod.sublist ((List.filter_sublist).map _)
  · rw [he]; exact h.born.sublist ((List.filter_sublist).map _)
  · intro e hm; rw [he] at hm; exact h.old e (List.mem_filter.1 hm).1
def nk (n : Int) (e : MapEntry) : Bool := match e.key with | .int _ x => x != n | _ => true
theorem Qex {n x : Int} {e : MapEntry} (h : e.key = .int .i64 x) : nk n e = (x != n) := by unfold nk; rw [h]
theorem Qc9 {n : Int} : ∀ (l : List MapEntry) (j : Nat) (e : MapEntry), (l.map (·.key)).Nodup → (∀ x ∈ l, ∃ a, x.key = Value.int .i64 a) → l[j]? = some e → e.key = .int .i64 n → l.eraseIdx j = l.filter (nk n)
  | [], _, _, _, _, h, _ => by simp at h
  | x :: l, 0, e, hn, hi, h, hk => by
    simp only [List.getElem?_cons_zero, Option.some.injEq] at h
    subst h
    rw [List.eraseIdx_cons_zero, List.filter_cons_of_neg (by rw [Qex hk]; simp)]
    rw [List.map_cons, List.nodup_cons] at hn
    refine (List.filter_eq_self.2 fun y hy => ?_).symm
    obtain ⟨a, ha⟩ := hi y (List.mem_cons_of_mem _ hy)
    rw [Qex ha]
    simp only [bne_iff_ne, ne_eq]
    exact fun q => hn.1 (by rw [hk, ← q, ← ha]; exact List.mem_map_of_mem (f := fun e : MapEntry => e.key) hy)
  | x :: l, j + 1, e, hn, hi, h, hk => by
    rw [List.getElem?_cons_succ] at h
    rw [List.map_cons, List.nodup_cons] at hn
    obtain ⟨a, ha⟩ := hi x (List.mem_cons_self ..)
    have hx : nk n x = true := by
      rw [Qex ha]
      simp only [bne_iff_ne, ne_eq]
      exact fun q => hn.1 (by rw [ha, q, ← hk]; exact List.mem_map_of_mem (f := fun e : MapEntry => e.key) (List.mem_of_getElem? h))
    rw [List.eraseIdx_cons_succ, List.filter_cons_of_pos hx, Qc9 l j e hn.2 (fun y hy => hi y (List.mem_cons_of_mem _ hy)) h hk]
theorem Qdv {es : Array MapEntry} {c : Nat} {m : List (Int × Value)} (h : MpW es c m) : (es.toList.map (·.key)).Nodup := by
  have e : es.toList.map (·.key) = (m.map Prod.fst).map (Value.int .i64) := by
    have := congrArg (List.map Prod.fst) h.ents
    rw [List.map_map, List.map_map] at this
    rw [List.map_map]
    exact this
  rw [e]
  exact List.Pairwise.map _ (fun a b q r => q (by injection r)) h.nod
theorem QdW {es : Array MapEntry} {c : Nat} {m : List (Int × Value)} (h : MpW es c m) {e : MapEntry} (he : e ∈ es.toList) : ∃ n, e.key = .int .i64 n := by
  have := List.mem_map_of_mem (f := fun e : MapEntry => (e.key, e.val)) he
  rw [h.ents, List.mem_map] at this
  obtain ⟨p, -, hp⟩ := this
  exact ⟨p.1, (congrArg Prod.fst hp).symm⟩
theorem QfR {kt et : TypeId} {es : Array MapEntry} {c : Nat} {m : List (Int × Value)} (h : MpW es c m) (hkt : P.underlying kt = some (.int .i64)) {g : Nat} (hg : w.heap[g]? = some (.map es c)) (n : Int) {t : TypeId} {ty : TypeId} (ht : P.underlying t = some (.map kt et)) :
    ∃ es', es'.toList = es.toList.filter (nk n) ∧ (Builtin.delete_ #[t, kt] ty #[.map (some g), .int .i64 n]).run P w = .ok (.tuple #[]) { w with heap := w.heap.setIfInBounds g (.map es' c) } := by
  rcases Qcu n es.toList m 0 h.ents with ⟨q1, -, q3⟩ | ⟨j, v, e, q1, q2, q3, q4⟩
  · refine ⟨es, (List.filter_eq_self.2 fun x hx => by
      obtain ⟨a, ha⟩ := QdW h hx
      rw [Qex ha]; simp only [bne_iff_ne, ne_eq]; exact fun q => q3 x hx (by rw [ha, q])).symm, ?_⟩
    have hf := MapKept.run_findKey (P := P) (w := w) hkt q1
    simp [Builtin.delete_, run_underlying ht, MapKept.run_getObj_map hg, MapKept.run_checkKey hkt (show MapKept.IsKey (.int .i64) (.int .i64 n) by simp [MapKept.IsKey]), hf, MapKept.run_setObj_map _ hg, Result.andThen]
  · refine ⟨es.eraseIdxIfInBounds j, ?_, ?_⟩
    · have hj : j < es.size := by have := (List.getElem?_eq_some_iff.1 q3).1; simpa using this
      rw [Array.eraseIdxIfInBounds_eq, dif_pos hj, Array.toList_eraseIdx]
      exact Qc9 _ j e (Qdv h) (fun x hx => QdW h hx) q3 q4
    · have hf := MapKept.run_findKey (P := P) (w := w) hkt q1
      rw [Nat.zero_add] at hf
      simp [Builtin.delete_, run_underlying ht, MapKept.run_getObj_map hg, MapKept.run_checkKey hkt (show MapKept.IsKey (.int .i64) (.int .i64 n) by simp [MapKept.IsKey]), hf, MapKept.run_setObj_map _ hg, Result.andThen]
theorem Qhu {w' : World} (m k : Operand) (t kt : TypeId) {g : Nat} {n : Int} (ho : o.op = .call { callee := .builtin .delete, args := #[m, k], argTypes := #[t, kt] }) (hm : ρ m = .map (some g)) (hk : ρ k = .int .i64 n)
    (h : (Builtin.delete_ #[t, kt] o.type #[.map (some g), .int .i64 n]).run P w = .ok (.tuple #[]) w') : (execOp ρ o).run P w = .ok (.value (.tuple #[])) w' := by
  unfold execOp
  simp only [ho, resolve, invoke, builtin, Sem.run_bind, Sem.run_pure, Result.andThen_ok, List.map_toArray, List.map_cons, List.map_nil, hm, hk, h]
theorem Qis (m k : Operand) (t : TypeId) {kt et : TypeId} {g : Nat} {n : Int} {ms : List (Int × Value)} (ho : o.op = .call { callee := .builtin .delete, args := #[m, k], argTypes := #[t, kt] }) (hm : ρ m = .map (some g)) (hk : ρ k = .int .i64 n)
    (ht : P.underlying t = some (.map kt et)) (hkt : P.underlying kt = some (.int .i64)) (h : MpAt g ms w) : ∃ W', (execOp ρ o).run P w = .ok (.value (.tuple #[])) W' ∧ Puts w g W' ∧ MpAt g (ms.filter fun p => p.1 != n) W' := by
  obtain ⟨es, c, hg, hM⟩ := h
  obtain ⟨es', he, hr⟩ := QfR (P := P) (w := w) hM hkt hg n (ty := o.type) ht
  have hh := MapKept.heap_set (o' := .map es' c) hg
  exact ⟨_, Qhu m k t kt ho hm hk hr, ⟨rfl, rfl, rfl, by simp, fun i hi => hh.2 i hi⟩, es', c, hh.1, Qey hM (fun x => x != n) es' he⟩
theorem Qir (m : Operand) (t : TypeId) {kt et : TypeId} {g : Nat} {ms : List (Int × Value)} (ho : o.op = .call { callee := .builtin .len, args := #[m], argTypes := #[t] }) (hm : ρ m = .map (some g)) (ht : P.underlying t = some (.map kt et)) (h : MpAt g ms w) : (execOp ρ o).run P w = .ok (.value (.int .i64 ((ms.length : Nat) : Int))) w := by
  obtain ⟨es, c, hg, hM⟩ := h
  have hl : es.size = ms.length := by have := congrArg List.length hM.ents; simpa using this
  unfold execOp
  simp [ho, resolve, invoke, builtin, Sem.run_bind, Sem.run_pure, Result.andThen_ok, hm, Builtin.len_, run_underlying ht, MapKept.run_getObj_map hg, hl, Result.andThen, goInt]
end
def km (lim : Int) (e : MapEntry) : Bool := match e.key with | .int _ x => decide (lim ≤ x) | _ => true
theorem QhF {lim x : Int} {e : MapEntry} (h : e.key = .int .i64 x) : km lim e = decide (lim ≤ x) := by unfold km; rw [h]
def rkeep (lim : Int) (sn : Array Nat) (e : MapEntry) : Bool := km lim e || !sn.contains e.born
def Qc0 (g r : Nat) (lim : Int) (es0 : Array MapEntry) (c : Nat) (sn : Array Nat) (W : World) : Prop := ∃ es : Array MapEntry, es.toList = es0.toList.filter (rkeep lim sn) ∧ W.heap[g]? = some (.map es c) ∧ W.heap[r]? = some (.mapIter (some g) c sn c)
def QcC (g r : Nat) (lim : Int) (es0 : Array MapEntry) (c : Nat) (sn : Array Nat) (e : MapEntry) (W : World) : Prop := ∃ es : Array MapEntry, es.toList = es0.toList.filter (rkeep lim sn) ∧ W.heap[g]? = some (.map es c) ∧ W.heap[r]? = some (.mapIter (some g) c (sn.push e.born) c) ∧ e ∈ es.toList ∧ sn.contains e.born = false
def rmu (es0 : Array MapEntry) (sn : Array Nat) : Nat := (es0.toList.filter fun e => !sn.contains e.born).length
theorem Qdd {α β : Type} (f : α → β) : ∀ l : List α, (l.map f).Nodup → ∀ a ∈ l, ∀ b ∈ l, f a = f b → a = b
  | [], _, a, ha, _, _, _ => by cases ha
  | x :: l, h, a, ha, b, hb, e => by
    rw [List.map_cons, List.nodup_cons] at h
    rcases List.mem_cons.1 ha with ha' | ha' <;> rcases List.mem_cons.1 hb with hb' | hb'
    · rw [ha', hb']
    · exact absurd (by rw [← ha', e]; exact List.mem_map_of_mem (f := f) hb') h.1
    · exact absurd (by rw [← hb', ← e]; exact List.mem_map_of_mem (f := f) ha') h.1
    · exact Qdd f l h.2 a ha' b hb' e
theorem Qeb {α : Type} (p q : α → Bool) : ∀ l : List α, (∀ x ∈ l, q x = true → p x = true) → ∀ a ∈ l, p a = true → q a = false → (l.filter q).length < (l.filter p).length
  | [], _, a, ha, _, _ => by cases ha
  | x :: l, h, a, ha, hp, hq => by
    have hl : (l.filter q).length ≤ (l.filter p).length := by
      have : ∀ l : List α, (∀ x ∈ l, q x = true → p x = true) → (l.filter q).length ≤ (l.filter p).length := by
        intro l
        induction l with
        | nil => exact fun _ => Nat.le_refl _
        | cons y l ih =>
          intro h
          have ih := ih fun x hx => h x (List.mem_cons_of_mem _ hx)
          rw [List.filter_cons, List.filter_cons]
          cases hqy : q y with
          | true => rw [h y (List.mem_cons_self ..) hqy]; simp only [if_true, List.length_cons]; omega
          | false =>
            simp only [Bool.false_eq_true, if_false]
            cases p y
            · simpa using ih
            · simp only [if_true, List.length_cons]; omega
      exact this l fun x hx => h x (List.mem_cons_of_mem _ hx)
    rw [List.filter_cons, List.filter_cons]
    rcases List.mem_cons.1 ha with ha | ha
    · subst ha
      rw [hp, hq]
      simp only [if_true, Bool.false_eq_true, if_false, List.length_cons]; omega
    · have ih := Qeb p q l (fun x hx => h x (List.mem_cons_of_mem _ hx)) a ha hp hq
      cases hqx : q x with
      | true => rw [h x (List.mem_cons_self ..) hqx]; simp only [if_true, List.length_cons]; omega
      | false =>
        simp only [Bool.false_eq_true, if_false]
        cases p x
        · simpa using ih
        · simp only [if_true, List.length_cons]; omega
theorem QdE (sn : Array Nat) (b x : Nat) : (sn.push b).contains x = (sn.contains x || x == b) := by
  rw [← Array.contains_toList, Array.toList_push, ← Array.contains_toList]
  rw [Bool.eq_iff_iff]
  simp [List.contains_eq_mem, List.mem_append]
theorem QcC.mu {g r : Nat} {lim : Int} {es0 : Array MapEntry} {c : Nat} {sn : Array Nat} {e : MapEntry} {W : World} (h : QcC g r lim es0 c sn e W) : rmu es0 (sn.push e.born) < rmu es0 sn := by
  obtain ⟨es, he, -, -, hm, hs⟩ := h
  unfold rmu
  rw [he] at hm
  refine Qeb _ _ _ (fun x _ hx => ?_) e (List.mem_filter.1 hm).1 (by rw [hs]; rfl) (by rw [QdE, beq_self_eq_true, Bool.or_true]; rfl)
  rw [QdE] at hx
  revert hx
  cases sn.contains x.born <;> simp
section
variable {es0 : Array MapEntry} {c : Nat} {m0 : List (Int × Value)} {g r : Nat} {lim : Int} {sn : Array Nat} {W : World}
theorem Qc0.start (hM : MpW es0 c m0) (hg : W.heap[g]? = some (.map es0 c)) (hr : W.heap[r]? = some (.mapIter (some g) c #[] c)) : Qc0 g r lim es0 c #[] W :=
  ⟨es0, (List.filter_eq_self.2 fun e _ => by unfold rkeep; simp).symm, hg, hr⟩
theorem Qc0.done (hM : MpW es0 c m0) (h : Qc0 g r lim es0 c sn W) (h0 : ∀ es, W.heap[g]? = some (.map es c) → (leftOf es sn).size = 0) : MpAt g (m0.filter fun p => decide (lim ≤ p.1)) W := by
  obtain ⟨es, he, hg, hr⟩ := h
  have hl := h0 es hg
  refine ⟨es, c, hg, Qey hM (fun x => decide (lim ≤ x)) es ?_⟩
  show _ = es0.toList.filter (km lim)
  rw [he]
  refine List.filter_congr fun e hm => ?_
  unfold rkeep
  cases hk : km lim e with
  | true => rfl
  | false =>
    rw [Bool.false_or]
    cases hs : sn.contains e.born with
    | true => rfl
    | false =>
      exfalso
      have h1 : e ∈ leftOf es sn := by
        unfold leftOf
        rw [Array.mem_filter]
        refine ⟨?_, by rw [hs]; rfl⟩
        rw [← Array.mem_toList_iff, he, List.mem_filter]
        exact ⟨hm, by unfold rkeep; rw [hs]; simp⟩
      rw [Array.eq_empty_of_size_eq_zero hl] at h1
      cases h1 with | mk h => cases h
theorem QcC.stay (hM : MpW es0 c m0) {e : MapEntry} (h : QcC g r lim es0 c sn e W) (hk : km lim e = true) : Qc0 g r lim es0 c (sn.push e.born) W := by
  obtain ⟨es, he, hg, hr, hm, hs⟩ := h
  refine ⟨es, he.trans (List.filter_congr fun f hf => ?_), hg, hr⟩
  unfold rkeep
  rw [QdE]
  by_cases hb : f.born = e.born
  · have hm' := hm
    rw [he] at hm'
    rw [Qdd (·.born) _ hM.born f hf e (List.mem_filter.1 hm').1 hb, hk]
    rfl
  · rw [show (f.born == e.born) = false from by simpa using hb, Bool.or_false]
theorem QcC.drop (hM : MpW es0 c m0) {e : MapEntry} {x : Int} (h : QcC g r lim es0 c sn e W) (hx : e.key = .int .i64 x) (hk : x < lim) {P : Program} {t kt et ty : TypeId} (ht : P.underlying t = some (.map kt et)) (hkt : P.underlying kt = some (.int .i64)) :
    ∃ W', (Builtin.delete_ #[t, kt] ty #[.map (some g), .int .i64 x]).run P W = .ok (.tuple #[]) W' ∧ Puts W g W' ∧ Qc0 g r lim es0 c (sn.push e.born) W' := by
  obtain ⟨es, he, hg, hr, hm, hs⟩ := h
  have hME : MpW es c (m0.filter fun p => true) ∨ True := .inr trivial
  have hnb : (es.toList.map (·.born)).Nodup := by rw [he]; exact hM.born.sublist ((List.filter_sublist).map _)
  have hnk : (es.toList.map (·.key)).Nodup := by rw [he]; exact (Qdv hM).sublist ((List.filter_sublist).map _)
  have hik : ∀ y ∈ es.toList, ∃ a, y.key = Value.int .i64 a := fun y hy => by rw [he] at hy; exact QdW hM (List.mem_filter.1 hy).1
  have hm' := hm
  rw [he] at hm'
  have he0 := (List.mem_filter.1 hm').1
  obtain ⟨j, hj⟩ := List.mem_iff_getElem?.1 hm
  have hgr : g ≠ r := fun q => by rw [q, hr] at hg; cases hg
  have hfn : ∀ (l : List MapEntry) (i : Nat), (∀ y ∈ l, ∃ a, y.key = Value.int .i64 a) → (∃ y ∈ l, y.key = .int .i64 x) → ∃ j v y, Instr.findNow (.int .i64) (.int .i64 x) l i = some (some (i + j, v)) ∧ l[j]? = some y ∧ y.key = .int .i64 x := by
    intro l
    induction l with
    | nil => intro i _ h; obtain ⟨y, hy, -⟩ := h; cases hy
    | cons z l ih =>
      intro i hi hy
      obtain ⟨a, ha⟩ := hi z (List.mem_cons_self ..)
      have hsn : Instr.sameNow (.int .i64) (.int .i64 x) z.key = some (x == a) := by rw [ha]; simp [Instr.sameNow]
      by_cases hxa : a = x
      · exact ⟨0, z.val, z, by rw [Instr.findNow, hsn, hxa, beq_self_eq_true]; rfl, rfl, by rw [ha, hxa]⟩
      · have hsn' : Instr.sameNow (.int .i64) (.int .i64 x) z.key = some false := by rw [hsn]; congr 1; simp; exact fun q => hxa q.symm
        obtain ⟨y, hy1, hy2⟩ := hy
        have hyl : y ∈ l := by
          rcases List.mem_cons.1 hy1 with rfl | hy1
          · rw [ha] at hy2; exact absurd (by injection hy2) hxa
          · exact hy1
        obtain ⟨j, v, y', q1, q2, q3⟩ := ih (i + 1) (fun y hy => hi y (List.mem_cons_of_mem _ hy)) ⟨y, hyl, hy2⟩
        exact ⟨j + 1, v, y', by rw [Instr.findNow, hsn']; show Instr.findNow _ _ l (i + 1) = _; rw [q1, show i + 1 + j = i + (j + 1) by omega], by rw [List.getElem?_cons_succ]; exact q2, q3⟩
  obtain ⟨j2, v, y, q1, q2, q3⟩ := hfn es.toList 0 hik ⟨e, hm, hx⟩
  have hf := MapKept.run_findKey (P := P) (w := W) hkt q1
  rw [Nat.zero_add] at hf
  have hj2 : j2 < es.size := by have := (List.getElem?_eq_some_iff.1 q2).1; simpa using this
  have hE : (es.eraseIdxIfInBounds j2).toList = es.toList.filter (nk x) := by
    rw [Array.eraseIdxIfInBounds_eq, dif_pos hj2, Array.toList_eraseIdx]
    exact Qc9 _ j2 y hnk hik q2 q3
  have hh := MapKept.heap_set (o' := .map (es.eraseIdxIfInBounds j2) c) hg
  refine ⟨{ W with heap := W.heap.setIfInBounds g (.map (es.eraseIdxIfInBounds j2) c) }, ?_, ⟨rfl, rfl, rfl, by simp, fun i hi => hh.2 i hi⟩, es.eraseIdxIfInBounds j2, ?_, hh.1, (hh.2 r (fun q => hgr q.symm)).trans hr⟩
  · simp [Builtin.delete_, run_underlying ht, MapKept.run_getObj_map hg, MapKept.run_checkKey hkt (show MapKept.IsKey (.int .i64) (.int .i64 x) by simp [MapKept.IsKey]), hf, MapKept.run_setObj_map _ hg, Result.andThen]
  · rw [hE, he, List.filter_filter]
    refine List.filter_congr fun f hfm => ?_
    unfold rkeep
    rw [QdE]
    by_cases hb : f.born = e.born
    · rw [Qdd (·.born) _ hM.born f hfm e he0 hb, Qex hx, QhF hx, decide_eq_false (by omega)]
      simp
    · have hne : f.key ≠ e.key := fun q => hb (congrArg MapEntry.born (Qdd (·.key) _ (Qdv hM) f hfm e he0 q))
      obtain ⟨a, ha⟩ := QdW hM hfm
      have hnx : nk x f = true := by rw [Qex ha]; simp only [bne_iff_ne, ne_eq]; exact fun q => hne (by rw [ha, hx, q])
      rw [hnx, show (f.born == e.born) = false from by simpa using hb, Bool.or_false, Bool.true_and]
theorem Qc0.next (hM : MpW es0 c m0) (h : Qc0 g r lim es0 c sn W) {P : Program} (ty : TypeId) :
    ((Instr.next (.pointer (some ⟨r, 0, none⟩)) false ty).run P W = .ok (.tuple #[.bool false]) W ∧ MpAt g (m0.filter fun p => decide (lim ≤ p.1)) W) ∨
    ∃ e x W1, e.key = .int .i64 x ∧ (Instr.next (.pointer (some ⟨r, 0, none⟩)) false ty).run P W = .ok (.tuple #[.bool true, .int .i64 x, e.val]) W1 ∧ Puts W r W1 ∧ QcC g r lim es0 c sn e W1 ∧ (Instr.entry (.pointer (some ⟨r, 0, none⟩))).run P W1 = .ok (.tuple #[.int .i64 x, e.val]) W1 := by
  have h' := h
  obtain ⟨es, he, hg, hr⟩ := h
  have hgr : g ≠ r := fun q => by rw [q, hr] at hg; cases hg
  have hsub : ∀ y ∈ es.toList, y ∈ es0.toList := fun y hy => by rw [he] at hy; exact (List.mem_filter.1 hy).1
  rcases run_next_at (P := P) W ty r g c c sn es c hr hg (fun y hy => hM.old y (hsub y hy)) (Nat.le_refl _) with ⟨h0, hrun⟩ | ⟨e, hm, w1, hw1, hrun⟩
  · left
    refine ⟨hrun, h'.done hM fun es2 hg2 => ?_⟩
    rw [hg] at hg2
    injection hg2 with q
    injection q with q1 _
    rw [← q1]; exact h0
  · right
    unfold leftOf at hm
    rw [Array.mem_toList_iff, Array.mem_filter] at hm
    obtain ⟨hm1, hs⟩ := hm
    have hm2 : e ∈ es.toList := by rw [Array.mem_toList_iff]; exact hm1
    obtain ⟨x, hx⟩ := QdW hM (hsub e hm2)
    have hh : w1.heap = W.heap ∧ w1.os = W.os ∧ w1.tape = W.tape ∧ w1.output = W.output := by
      rcases hw1 with rfl | rfl
      · exact ⟨rfl, rfl, rfl, rfl⟩
      · exact ⟨rfl, (Qas W).os, (Qas W).tape, (Qas W).output⟩
    have hP : Puts W r (ChangeMaps.setBlock w1 r (.mapIter (some g) c (sn.push e.born) c)) := ⟨hh.2.1, hh.2.2.1, hh.2.2.2, by simp [ChangeMaps.setBlock, hh.1], fun i hi => by simp only [ChangeMaps.setBlock, hh.1]; exact Array.getElem?_setIfInBounds_ne (fun e => hi e.symm)⟩
    have hr1 : (ChangeMaps.setBlock w1 r (.mapIter (some g) c (sn.push e.born) c)).heap[r]? = some (.mapIter (some g) c (sn.push e.born) c) := by simp only [ChangeMaps.setBlock, hh.1]; exact Array.getElem?_setIfInBounds_self_of_lt (Qat hr)
    have hg1 := (hP.2.2.2.2 g hgr).trans hg
    refine ⟨e, x, _, hx, by rw [hrun, hx], hP, ⟨es, he, hg1, hr1, hm2, by simpa using hs⟩, ?_⟩
    rw [← hx]
    exact run_entry_at _ r g c sn es c e hr1 hg1 hm2 (by rw [he]; exact hM.born.sublist ((List.filter_sublist).map _))
end
end Go.Proofs.YtibegnjaphohaaaDoor.Auto
end
section
namespace Go.Proofs.YtibegnjaphohaaaDoor.Cn
open Go Go.RowKit
open Rely Auto Own Sha
set_option linter.unusedVariables false
set_option linter.unusedSimpArgs false
theorem Qbw (v : Int) (h : -5000000000 ≤ v ∧ v ≤ 5000000000) : IntKind.i64.wrap v = v := IntWalk.i64_in _ (by omega)
theorem shrB (B j : Nat) (hj : j < 64) : ((B : Nat) : Int).fdiv (2 ^ min ((j : Nat) : Int).toNat IntKind.u64.bits) = ((B / 2 ^ j : Nat) : Int) := by
  rw [show min (((j : Nat) : Int).toNat) IntKind.u64.bits = j by show min (((j : Nat) : Int).toNat) 64 = j; omega]
  rw [Int.fdiv_eq_ediv_of_nonneg _ (Int.le_of_lt (Int.pow_pos (by decide))), Int.natCast_ediv, Int.natCast_pow]
  rfl
theorem andB (m : Nat) (h : m < 18446744073709551616) : bits .and .u64 ((m : Nat) : Int) 1 = ((m % 2 : Nat) : Int) := by
  rw [show (1 : Int) = ((1 : Nat) : Int) from rfl, bits_and_u64_nat m 1 h (by omega), Nat.and_one_is_mod]
theorem orB (a b : Nat) (ha : a < 18446744073709551616) (hb : b < 18446744073709551616) : bits .or .u64 ((a : Nat) : Int) ((b : Nat) : Int) = ((a ||| b : Nat) : Int) := by
  have h := u64_or (a : Int) b (by omega) (by omega) (by omega) (by omega)
  simpa using h
theorem QkM (m : Nat) : IntKind.u64.wrap ((m : Nat) : Int) = ((m % 18446744073709551616 : Nat) : Int) := by rw [IntKind.wrap_u64]; omega
theorem Qh4 (B a : Nat) (h : 64 ≤ a) : B * 2 ^ a % 18446744073709551616 = 0 := by
  obtain ⟨c, rfl⟩ : ∃ c, a = 64 + c := ⟨a - 64, by omega⟩
  rw [Nat.pow_add, ← Nat.mul_assoc, Nat.mul_comm B, Nat.mul_assoc]
  exact Nat.mul_mod_right _ _
theorem shlB (B a : Nat) : IntKind.u64.wrap (((B : Nat) : Int) * 2 ^ min ((a : Nat) : Int).toNat IntKind.u64.bits) = ((B * 2 ^ a % 18446744073709551616 : Nat) : Int) := by
  have e : ∀ c : Nat, ((B : Nat) : Int) * 2 ^ c = ((B * 2 ^ c : Nat) : Int) := fun c => by rw [Int.natCast_mul, Int.natCast_pow]; rfl
  rw [e, QkM]
  have hm : min (((a : Nat) : Int).toNat) IntKind.u64.bits = min a 64 := by show min (((a : Nat) : Int).toNat) 64 = min a 64; rw [Int.toNat_natCast]
  rw [hm]
  rcases Nat.lt_or_ge a 64 with h | h
  · rw [show min a 64 = a by omega]
  · rw [show min a 64 = 64 by omega, Qh4 B 64 (by omega), Qh4 B a h]
def chkW (nx : Int) (B : Nat) (n : Int) : Int := if n < 0 ∨ 4294967295 ≤ n then 8 else if 64 < nx - 1 - n then 11 else if nx - 1 - n = 0 ∨ (0 < nx - 1 - n ∧ B / 2 ^ (nx - 1 - n - 1).toNat % 2 = 1) then 7 else 0
def errV (e : Int) : Value := if e = 0 then .nilIface else .iface 47 (.int .i64 e)
set_option maxHeartbeats 4000000 in
theorem Qce (g : Nat) (nx : Int) (B : Nat) (hnx : 0 ≤ nx ∧ nx ≤ 4294967295) (hB : B < 18446744073709551616) (sec : List Int) (pl mg : Nat) (hsec : sec.length = 32) (w : World) (hg : w.heap[g]? = some (.cells (cat [#[.int .i64 nx], #[.int .u64 ((B : Nat) : Int)], ints .u8 (sec), #[.int .i64 ((pl : Nat) : Int)], #[.map (some mg)]]) 84)) : Calls Tryd.prog 55 #[.pointer (some ⟨g, 0, none⟩)] w (Ret w (.int .i64 (nx - 1))) := by
  refine enter 8 [(0, .pointer (some ⟨g, 0, none⟩))] Tryd.func55 rfl rfl kj rfl ?_
  refine sgB kj ?_
  refine sgC fun K3 hK3 => ?_
  refine sg 3 kj ?_
  refine Qaa (.int .i64 nx) 6 rfl kj (Qah 3 _ g 0 84 _ (.int .i64 nx) _ hg rfl kj (Qa0 [] [#[.int .i64 nx]] [#[.int .u64 ((B : Nat) : Int)], ints .u8 (sec), #[.int .i64 ((pl : Nat) : Int)], #[.map (some mg)]] 0 kj 0 _ rfl) kj) ?_
  refine Qaa (.int .i64 (nx - 1)) 7 rfl kj (Qag (u := .int .i64 (IntKind.i64.wrap (nx - 1))) kj (congrArg (Value.int .i64) (Qbw _ (by omega)))) ?_
  refine sg 1 kj ?_
  refine sgN hK3 ?_
  refine wp_ret ?_
  repeat (first | with_reducible refine goR1 ?_ | with_reducible refine goR2 ?_)
  exact (show bodyPost _ _ _ .ret _ _ from ret1 (.int .i64 (nx - 1)) rfl (Qa7 kj) ⟨rfl, (Rely.Ext.refl w)⟩)
set_option maxHeartbeats 4000000 in
theorem Qg5 (g : Nat) (nx : Int) (B : Nat) (hnx : 0 ≤ nx ∧ nx ≤ 4294967295) (hB : B < 18446744073709551616) (sec : List Int) (pl mg : Nat) (hsec : sec.length = 32) (w : World) (hg : w.heap[g]? = some (.cells (cat [#[.int .i64 nx], #[.int .u64 ((B : Nat) : Int)], ints .u8 (sec), #[.int .i64 ((pl : Nat) : Int)], #[.map (some mg)]]) 84)) : Calls Tryd.prog 47 #[.pointer (some ⟨g, 0, none⟩)] w (Ret w (.int .i64 (nx - 1))) := by
  refine enter 9 [(0, .pointer (some ⟨g, 0, none⟩))] Tryd.func47 rfl rfl kj rfl ?_
  refine sgB kj ?_
  refine wp_seq_k fun K3 hK3 => ?_
  refine sgB kj ?_
  refine cond_false kj ?_
  refine wp_skip ?_
  refine hK3 _ _ ?_
  refine sgC fun K5 hK5 => ?_
  refine sg 3 kj ?_
  refine Qax (.int .i64 (nx - 1)) 55 #[.pointer (some ⟨g, 0, none⟩)] 8 rfl kj kj (Qce g nx B hnx hB sec pl mg hsec _ hg) fun W1 e1 => ?_
  refine sg 1 kj ?_
  refine sgN hK5 ?_
  refine wp_ret ?_
  repeat (first | with_reducible refine goR1 ?_ | with_reducible refine goR2 ?_)
  exact (show bodyPost _ _ _ .ret _ _ from ret1 (.int .i64 (nx - 1)) rfl (Qa7 kj) ⟨rfl, (Ext.tr (Rely.Ext.refl w) e1)⟩)
set_option maxHeartbeats 4000000 in
theorem Qka (g : Nat) (nx : Int) (B : Nat) (n : Int) (hnx : 0 ≤ nx ∧ nx ≤ 4294967295) (hB : B < 18446744073709551616) (sec : List Int) (pl mg : Nat) (hsec : sec.length = 32) (w : World) (hg : w.heap[g]? = some (.cells (cat [#[.int .i64 nx], #[.int .u64 ((B : Nat) : Int)], ints .u8 (sec), #[.int .i64 ((pl : Nat) : Int)], #[.map (some mg)]]) 84)) (hc : n < 0) : Calls Tryd.prog 53 #[.pointer (some ⟨g, 0, none⟩), .int .i64 n] w (Ret w (.iface 47 (.int .i64 8))) := by
  refine enter 38 [(0, .pointer (some ⟨g, 0, none⟩)), (1, .int .i64 n)] Tryd.func53 rfl rfl kj rfl ?_
  refine sgB kj ?_
  refine wp_seq_k fun K3 hK3 => ?_
  refine sgC fun K4 hK4 => ?_
  refine sg 1 kj ?_
  refine Qaa (.bool true) 7 rfl kj (Qag (u := .bool (decide (n < 0))) kj (congrArg Value.bool (decide_eq_true (by omega)))) ?_
  refine sg 4 kj ?_
  refine sgN hK4 ?_
  refine cond_true kj ?_
  refine sgB kj ?_
  refine wp_ret ?_
  repeat (first | with_reducible refine goR1 ?_ | with_reducible refine goR2 ?_)
  exact (show bodyPost _ _ _ .ret _ _ from ret1 (.iface 47 (.int .i64 8)) rfl (Qa7 kj) ⟨rfl, (Rely.Ext.refl w)⟩)
set_option maxHeartbeats 4000000 in
theorem QjZ (g : Nat) (nx : Int) (B : Nat) (n : Int) (hnx : 0 ≤ nx ∧ nx ≤ 4294967295) (hB : B < 18446744073709551616) (sec : List Int) (pl mg : Nat) (hsec : sec.length = 32) (w : World) (hg : w.heap[g]? = some (.cells (cat [#[.int .i64 nx], #[.int .u64 ((B : Nat) : Int)], ints .u8 (sec), #[.int .i64 ((pl : Nat) : Int)], #[.map (some mg)]]) 84)) (hc : 4294967295 ≤ n) : Calls Tryd.prog 53 #[.pointer (some ⟨g, 0, none⟩), .int .i64 n] w (Ret w (.iface 47 (.int .i64 8))) := by
  refine enter 38 [(0, .pointer (some ⟨g, 0, none⟩)), (1, .int .i64 n)] Tryd.func53 rfl rfl kj rfl ?_
  refine sgB kj ?_
  refine wp_seq_k fun K3 hK3 => ?_
  refine sgC fun K4 hK4 => ?_
  refine sg 1 kj ?_
  refine Qaa (.bool false) 7 rfl kj (Qag (u := .bool (decide (n < 0))) kj (congrArg Value.bool (decide_eq_false (by omega)))) ?_
  refine sg 2 kj ?_
  refine Qaa (.bool true) 10 rfl kj (Qag (u := .bool (decide (n ≥ 4294967295))) kj (congrArg Value.bool (decide_eq_true (by omega)))) ?_
  refine sg 1 kj ?_
  refine sgN hK4 ?_
  refine cond_true kj ?_
  refine sgB kj ?_
  refine wp_ret ?_
  repeat (first | with_reducible refine goR1 ?_ | with_reducible refine goR2 ?_)
  exact (show bodyPost _ _ _ .ret _ _ from ret1 (.iface 47 (.int .i64 8)) rfl (Qa7 kj) ⟨rfl, (Rely.Ext.refl w)⟩)
set_option maxHeartbeats 4000000 in
theorem QjY (g : Nat) (nx : Int) (B : Nat) (n : Int) (hnx : 0 ≤ nx ∧ nx ≤ 4294967295) (hB : B < 18446744073709551616) (sec : List Int) (pl mg : Nat) (hsec : sec.length = 32) (w : World) (hg : w.heap[g]? = some (.cells (cat [#[.int .i64 nx], #[.int .u64 ((B : Nat) : Int)], ints .u8 (sec), #[.int .i64 ((pl : Nat) : Int)], #[.map (some mg)]]) 84)) (hn : 0 ≤ n ∧ n < 4294967295) (hc : 64 < nx - 1 - n) : Calls Tryd.prog 53 #[.pointer (some ⟨g, 0, none⟩), .int .i64 n] w (Ret w (.iface 47 (.int .i64 11))) := by
  refine enter 38 [(0, .pointer (some ⟨g, 0, none⟩)), (1, .int .i64 n)] Tryd.func53 rfl rfl kj rfl ?_
  refine sgB kj ?_
  refine wp_seq_k fun K3 hK3 => ?_
  refine sgC fun K4 hK4 => ?_
  refine sg 1 kj ?_
  refine Qaa (.bool false) 7 rfl kj (Qag (u := .bool (decide (n < 0))) kj (congrArg Value.bool (decide_eq_false (by omega)))) ?_
  refine sg 2 kj ?_
  refine Qaa (.bool false) 10 rfl kj (Qag (u := .bool (decide (n ≥ 4294967295))) kj (congrArg Value.bool (decide_eq_false (by omega)))) ?_
  refine sg 1 kj ?_
  refine sgN hK4 ?_
  refine cond_false kj ?_
  refine wp_skip ?_
  refine hK3 _ _ ?_
  refine sgC fun K5 hK5 => ?_
  refine sg 1 kj ?_
  refine Qax (.int .i64 (nx - 1)) 55 #[.pointer (some ⟨g, 0, none⟩)] 14 rfl kj kj (Qce g nx B hnx hB sec pl mg hsec _ hg) fun W1 e1 => ?_
  refine sg 1 kj ?_
  refine Qaa (.int .i64 (nx - 1 - n)) 16 rfl kj (Qag (u := .int .i64 (IntKind.i64.wrap ((nx - 1) - n))) kj (congrArg (Value.int .i64) (Qbw _ (by omega)))) ?_
  refine sg 1 kj ?_
  refine sgN hK5 ?_
  refine wp_seq_k fun K6 hK6 => ?_
  refine sgC fun K7 hK7 => ?_
  refine sg 1 kj ?_
  refine Qaa (.bool true) 18 rfl kj (Qag (u := .bool (decide ((nx - 1 - n) > 64))) kj (congrArg Value.bool (decide_eq_true (by omega)))) ?_
  refine sgN hK7 ?_
  refine cond_true kj ?_
  refine sgB kj ?_
  refine wp_ret ?_
  repeat (first | with_reducible refine goR1 ?_ | with_reducible refine goR2 ?_)
  exact (show bodyPost _ _ _ .ret _ _ from ret1 (.iface 47 (.int .i64 11)) rfl (Qa7 kj) ⟨rfl, (Ext.tr (Rely.Ext.refl w) e1)⟩)
set_option maxHeartbeats 4000000 in
theorem QjX (g : Nat) (nx : Int) (B : Nat) (n : Int) (hnx : 0 ≤ nx ∧ nx ≤ 4294967295) (hB : B < 18446744073709551616) (sec : List Int) (pl mg : Nat) (hsec : sec.length = 32) (w : World) (hg : w.heap[g]? = some (.cells (cat [#[.int .i64 nx], #[.int .u64 ((B : Nat) : Int)], ints .u8 (sec), #[.int .i64 ((pl : Nat) : Int)], #[.map (some mg)]]) 84)) (hn : 0 ≤ n ∧ n < 4294967295) (hc : nx - 1 - n = 0) : Calls Tryd.prog 53 #[.pointer (some ⟨g, 0, none⟩), .int .i64 n] w (Ret w (.iface 47 (.int .i64 7))) := by
  refine enter 38 [(0, .pointer (some ⟨g, 0, none⟩)), (1, .int .i64 n)] Tryd.func53 rfl rfl kj rfl ?_
  refine sgB kj ?_
  refine wp_seq_k fun K3 hK3 => ?_
  refine sgC fun K4 hK4 => ?_
  refine sg 1 kj ?_
  refine Qaa (.bool false) 7 rfl kj (Qag (u := .bool (decide (n < 0))) kj (congrArg Value.bool (decide_eq_false (by omega)))) ?_
  refine sg 2 kj ?_
  refine Qaa (.bool false) 10 rfl kj (Qag (u := .bool (decide (n ≥ 4294967295))) kj (congrArg Value.bool (decide_eq_false (by omega)))) ?_
  refine sg 1 kj ?_
  refine sgN hK4 ?_
  refine cond_false kj ?_
  refine wp_skip ?_
  refine hK3 _ _ ?_
  refine sgC fun K5 hK5 => ?_
  refine sg 1 kj ?_
  refine Qax (.int .i64 (nx - 1)) 55 #[.pointer (some ⟨g, 0, none⟩)] 14 rfl kj kj (Qce g nx B hnx hB sec pl mg hsec _ hg) fun W1 e1 => ?_
  refine sg 1 kj ?_
  refine Qaa (.int .i64 (nx - 1 - n)) 16 rfl kj (Qag (u := .int .i64 (IntKind.i64.wrap ((nx - 1) - n))) kj (congrArg (Value.int .i64) (Qbw _ (by omega)))) ?_
  refine sg 1 kj ?_
  refine sgN hK5 ?_
  refine wp_seq_k fun K6 hK6 => ?_
  refine sgC fun K7 hK7 => ?_
  refine sg 1 kj ?_
  refine Qaa (.bool false) 18 rfl kj (Qag (u := .bool (decide ((nx - 1 - n) > 64))) kj (congrArg Value.bool (decide_eq_false (by omega)))) ?_
  refine sgN hK7 ?_
  refine cond_false kj ?_
  refine wp_skip ?_
  refine hK6 _ _ ?_
  refine wp_seq_k fun K8 hK8 => ?_
  refine sgC fun K9 hK9 => ?_
  refine sg 1 kj ?_
  refine Qaa (.bool true) 21 rfl kj (Qag (u := .bool (((nx - 1 - n) == 0))) kj (congrArg Value.bool (by simp; omega))) ?_
  refine sg 15 kj ?_
  refine sgN hK9 ?_
  refine cond_true kj ?_
  refine sgB kj ?_
  refine wp_ret ?_
  repeat (first | with_reducible refine goR1 ?_ | with_reducible refine goR2 ?_)
  exact (show bodyPost _ _ _ .ret _ _ from ret1 (.iface 47 (.int .i64 7)) rfl (Qa7 kj) ⟨rfl, (Ext.tr (Rely.Ext.refl w) e1)⟩)
set_option maxHeartbeats 4000000 in
theorem QjW (g : Nat) (nx : Int) (B : Nat) (n : Int) (hnx : 0 ≤ nx ∧ nx ≤ 4294967295) (hB : B < 18446744073709551616) (sec : List Int) (pl mg : Nat) (hsec : sec.length = 32) (w : World) (hg : w.heap[g]? = some (.cells (cat [#[.int .i64 nx], #[.int .u64 ((B : Nat) : Int)], ints .u8 (sec), #[.int .i64 ((pl : Nat) : Int)], #[.map (some mg)]]) 84)) (hn : 0 ≤ n ∧ n < 4294967295) (j : Nat) (hj : nx - 1 - n - 1 = (j : Int)) (hj2 : j < 64) (hc : B / 2 ^ j % 2 = 1) : Calls Tryd.prog 53 #[.pointer (some ⟨g, 0, none⟩), .int .i64 n] w (Ret w (.iface 47 (.int .i64 7))) := by
  refine enter 38 [(0, .pointer (some ⟨g, 0, none⟩)), (1, .int .i64 n)] Tryd.func53 rfl rfl kj rfl ?_
  refine sgB kj ?_
  refine wp_seq_k fun K3 hK3 => ?_
  refine sgC fun K4 hK4 => ?_
  refine sg 1 kj ?_
  refine Qaa (.bool false) 7 rfl kj (Qag (u := .bool (decide (n < 0))) kj (congrArg Value.bool (decide_eq_false (by omega)))) ?_
  refine sg 2 kj ?_
  refine Qaa (.bool false) 10 rfl kj (Qag (u := .bool (decide (n ≥ 4294967295))) kj (congrArg Value.bool (decide_eq_false (by omega)))) ?_
  refine sg 1 kj ?_
  refine sgN hK4 ?_
  refine cond_false kj ?_
  refine wp_skip ?_
  refine hK3 _ _ ?_
  refine sgC fun K5 hK5 => ?_
  refine sg 1 kj ?_
  refine Qax (.int .i64 (nx - 1)) 55 #[.pointer (some ⟨g, 0, none⟩)] 14 rfl kj kj (Qce g nx B hnx hB sec pl mg hsec _ hg) fun W1 e1 => ?_
  refine sg 1 kj ?_
  refine Qaa (.int .i64 (nx - 1 - n)) 16 rfl kj (Qag (u := .int .i64 (IntKind.i64.wrap ((nx - 1) - n))) kj (congrArg (Value.int .i64) (Qbw _ (by omega)))) ?_
  refine sg 1 kj ?_
  refine sgN hK5 ?_
  refine wp_seq_k fun K6 hK6 => ?_
  refine sgC fun K7 hK7 => ?_
  refine sg 1 kj ?_
  refine Qaa (.bool false) 18 rfl kj (Qag (u := .bool (decide ((nx - 1 - n) > 64))) kj (congrArg Value.bool (decide_eq_false (by omega)))) ?_
  refine sgN hK7 ?_
  refine cond_false kj ?_
  refine wp_skip ?_
  refine hK6 _ _ ?_
  refine wp_seq_k fun K8 hK8 => ?_
  refine sgC fun K9 hK9 => ?_
  refine sg 1 kj ?_
  refine Qaa (.bool false) 21 rfl kj (Qag (u := .bool (((nx - 1 - n) == 0))) kj (congrArg Value.bool (by simp; omega))) ?_
  refine sg 2 kj ?_
  refine Qaa (.bool true) 24 rfl kj (Qag (u := .bool (decide ((nx - 1 - n) > 0))) kj (congrArg Value.bool (decide_eq_true (by omega)))) ?_
  refine sg 4 kj ?_
  refine Qaa (.int .u64 ((B : Nat) : Int)) 29 rfl kj (Qah 77 _ g 1 84 _ (.int .u64 ((B : Nat) : Int)) _ (Qab hg e1) rfl kj (Qa0 [#[.int .i64 nx]] [#[.int .u64 ((B : Nat) : Int)]] [ints .u8 (sec), #[.int .i64 ((pl : Nat) : Int)], #[.map (some mg)]] 1 kj 0 _ rfl) kj) ?_
  refine sg 1 kj ?_
  refine Qaa (.int .i64 (((j : Nat) : Int))) 31 rfl kj (Qag (u := .int .i64 (IntKind.i64.wrap ((nx - 1 - n) - 1))) kj (congrArg (Value.int .i64) (by rw [hj]; exact Qbw _ (by omega)))) ?_
  refine Qaa (.int .u64 (((B / 2 ^ j : Nat) : Int))) 32 rfl kj (Qay .shr _ _ _ _ .u64 .i64 _ _ _ rfl kj kj (QaH _ _ _ _ _ _ (by omega) (shrB B j hj2))) ?_
  refine Qaa (.int .u64 (((B / 2 ^ j % 2 : Nat) : Int))) 33 rfl kj (Qag (u := .int .u64 (bits .and .u64 (((B / 2 ^ j : Nat) : Int)) (1))) kj (congrArg (Value.int .u64) (andB _ (Nat.lt_of_le_of_lt (Nat.div_le_self _ _) hB)))) ?_
  refine Qaa (.bool true) 34 rfl kj (Qag (u := .bool ((((B / 2 ^ j % 2 : Nat) : Int) == 1))) kj (congrArg Value.bool (by rw [hc]; rfl))) ?_
  refine sg 2 kj ?_
  refine sgN hK9 ?_
  refine cond_true kj ?_
  refine sgB kj ?_
  refine wp_ret ?_
  repeat (first | with_reducible refine goR1 ?_ | with_reducible refine goR2 ?_)
  exact (show bodyPost _ _ _ .ret _ _ from ret1 (.iface 47 (.int .i64 7)) rfl (Qa7 kj) ⟨rfl, (Ext.tr (Rely.Ext.refl w) e1)⟩)
set_option maxHeartbeats 4000000 in
theorem QjV (g : Nat) (nx : Int) (B : Nat) (n : Int) (hnx : 0 ≤ nx ∧ nx ≤ 4294967295) (hB : B < 18446744073709551616) (sec : List Int) (pl mg : Nat) (hsec : sec.length = 32) (w : World) (hg : w.heap[g]? = some (.cells (cat [#[.int .i64 nx], #[.int .u64 ((B : Nat) : Int)], ints .u8 (sec), #[.int .i64 ((pl : Nat) : Int)], #[.map (some mg)]]) 84)) (hn : 0 ≤ n ∧ n < 4294967295) (j : Nat) (hj : nx - 1 - n - 1 = (j : Int)) (hj2 : j < 64) (hc : B / 2 ^ j % 2 = 0) : Calls Tryd.prog 53 #[.pointer (some ⟨g, 0, none⟩), .int .i64 n] w (Ret w (.nilIface)) := by
  refine enter 38 [(0, .pointer (some ⟨g, 0, none⟩)), (1, .int .i64 n)] Tryd.func53 rfl rfl kj rfl ?_
  refine sgB kj ?_
  refine wp_seq_k fun K3 hK3 => ?_
  refine sgC fun K4 hK4 => ?_
  refine sg 1 kj ?_
  refine Qaa (.bool false) 7 rfl kj (Qag (u := .bool (decide (n < 0))) kj (congrArg Value.bool (decide_eq_false (by omega)))) ?_
  refine sg 2 kj ?_
  refine Qaa (.bool false) 10 rfl kj (Qag (u := .bool (decide (n ≥ 4294967295))) kj (congrArg Value.bool (decide_eq_false (by omega)))) ?_
  refine sg 1 kj ?_
  refine sgN hK4 ?_
  refine cond_false kj ?_
  refine wp_skip ?_
  refine hK3 _ _ ?_
  refine sgC fun K5 hK5 => ?_
  refine sg 1 kj ?_
  refine Qax (.int .i64 (nx - 1)) 55 #[.pointer (some ⟨g, 0, none⟩)] 14 rfl kj kj (Qce g nx B hnx hB sec pl mg hsec _ hg) fun W1 e1 => ?_
  refine sg 1 kj ?_
  refine Qaa (.int .i64 (nx - 1 - n)) 16 rfl kj (Qag (u := .int .i64 (IntKind.i64.wrap ((nx - 1) - n))) kj (congrArg (Value.int .i64) (Qbw _ (by omega)))) ?_
  refine sg 1 kj ?_
  refine sgN hK5 ?_
  refine wp_seq_k fun K6 hK6 => ?_
  refine sgC fun K7 hK7 => ?_
  refine sg 1 kj ?_
  refine Qaa (.bool false) 18 rfl kj (Qag (u := .bool (decide ((nx - 1 - n) > 64))) kj (congrArg Value.bool (decide_eq_false (by omega)))) ?_
  refine sgN hK7 ?_
  refine cond_false kj ?_
  refine wp_skip ?_
  refine hK6 _ _ ?_
  refine wp_seq_k fun K8 hK8 => ?_
  refine sgC fun K9 hK9 => ?_
  refine sg 1 kj ?_
  refine Qaa (.bool false) 21 rfl kj (Qag (u := .bool (((nx - 1 - n) == 0))) kj (congrArg Value.bool (by simp; omega))) ?_
  refine sg 2 kj ?_
  refine Qaa (.bool true) 24 rfl kj (Qag (u := .bool (decide ((nx - 1 - n) > 0))) kj (congrArg Value.bool (decide_eq_true (by omega)))) ?_
  refine sg 4 kj ?_
  refine Qaa (.int .u64 ((B : Nat) : Int)) 29 rfl kj (Qah 77 _ g 1 84 _ (.int .u64 ((B : Nat) : Int)) _ (Qab hg e1) rfl kj (Qa0 [#[.int .i64 nx]] [#[.int .u64 ((B : Nat) : Int)]] [ints .u8 (sec), #[.int .i64 ((pl : Nat) : Int)], #[.map (some mg)]] 1 kj 0 _ rfl) kj) ?_
  refine sg 1 kj ?_
  refine Qaa (.int .i64 (((j : Nat) : Int))) 31 rfl kj (Qag (u := .int .i64 (IntKind.i64.wrap ((nx - 1 - n) - 1))) kj (congrArg (Value.int .i64) (by rw [hj]; exact Qbw _ (by omega)))) ?_
  refine Qaa (.int .u64 (((B / 2 ^ j : Nat) : Int))) 32 rfl kj (Qay .shr _ _ _ _ .u64 .i64 _ _ _ rfl kj kj (QaH _ _ _ _ _ _ (by omega) (shrB B j hj2))) ?_
  refine Qaa (.int .u64 (((B / 2 ^ j % 2 : Nat) : Int))) 33 rfl kj (Qag (u := .int .u64 (bits .and .u64 (((B / 2 ^ j : Nat) : Int)) (1))) kj (congrArg (Value.int .u64) (andB _ (Nat.lt_of_le_of_lt (Nat.div_le_self _ _) hB)))) ?_
  refine Qaa (.bool false) 34 rfl kj (Qag (u := .bool ((((B / 2 ^ j % 2 : Nat) : Int) == 1))) kj (congrArg Value.bool (by rw [hc]; rfl))) ?_
  refine sg 2 kj ?_
  refine sgN hK9 ?_
  refine cond_false kj ?_
  refine wp_skip ?_
  refine hK8 _ _ ?_
  refine sgB kj ?_
  refine wp_ret ?_
  repeat (first | with_reducible refine goR1 ?_ | with_reducible refine goR2 ?_)
  exact (show bodyPost _ _ _ .ret _ _ from ret1 (.nilIface) rfl (Qa7 kj) ⟨rfl, (Ext.tr (Rely.Ext.refl w) e1)⟩)
set_option maxHeartbeats 4000000 in
theorem QjU (g : Nat) (nx : Int) (B : Nat) (n : Int) (hnx : 0 ≤ nx ∧ nx ≤ 4294967295) (hB : B < 18446744073709551616) (sec : List Int) (pl mg : Nat) (hsec : sec.length = 32) (w : World) (hg : w.heap[g]? = some (.cells (cat [#[.int .i64 nx], #[.int .u64 ((B : Nat) : Int)], ints .u8 (sec), #[.int .i64 ((pl : Nat) : Int)], #[.map (some mg)]]) 84)) (hn : 0 ≤ n ∧ n < 4294967295) (hc : nx - 1 - n < 0) : Calls Tryd.prog 53 #[.pointer (some ⟨g, 0, none⟩), .int .i64 n] w (Ret w (.nilIface)) := by
  refine enter 38 [(0, .pointer (some ⟨g, 0, none⟩)), (1, .int .i64 n)] Tryd.func53 rfl rfl kj rfl ?_
  refine sgB kj ?_
  refine wp_seq_k fun K3 hK3 => ?_
  refine sgC fun K4 hK4 => ?_
  refine sg 1 kj ?_
  refine Qaa (.bool false) 7 rfl kj (Qag (u := .bool (decide (n < 0))) kj (congrArg Value.bool (decide_eq_false (by omega)))) ?_
  refine sg 2 kj ?_
  refine Qaa (.bool false) 10 rfl kj (Qag (u := .bool (decide (n ≥ 4294967295))) kj (congrArg Value.bool (decide_eq_false (by omega)))) ?_
  refine sg 1 kj ?_
  refine sgN hK4 ?_
  refine cond_false kj ?_
  refine wp_skip ?_
  refine hK3 _ _ ?_
  refine sgC fun K5 hK5 => ?_
  refine sg 1 kj ?_
  refine Qax (.int .i64 (nx - 1)) 55 #[.pointer (some ⟨g, 0, none⟩)] 14 rfl kj kj (Qce g nx B hnx hB sec pl mg hsec _ hg) fun W1 e1 => ?_
  refine sg 1 kj ?_
  refine Qaa (.int .i64 (nx - 1 - n)) 16 rfl kj (Qag (u := .int .i64 (IntKind.i64.wrap ((nx - 1) - n))) kj (congrArg (Value.int .i64) (Qbw _ (by omega)))) ?_
  refine sg 1 kj ?_
  refine sgN hK5 ?_
  refine wp_seq_k fun K6 hK6 => ?_
  refine sgC fun K7 hK7 => ?_
  refine sg 1 kj ?_
  refine Qaa (.bool false) 18 rfl kj (Qag (u := .bool (decide ((nx - 1 - n) > 64))) kj (congrArg Value.bool (decide_eq_false (by omega)))) ?_
  refine sgN hK7 ?_
  refine cond_false kj ?_
  refine wp_skip ?_
  refine hK6 _ _ ?_
  refine wp_seq_k fun K8 hK8 => ?_
  refine sgC fun K9 hK9 => ?_
  refine sg 1 kj ?_
  refine Qaa (.bool false) 21 rfl kj (Qag (u := .bool (((nx - 1 - n) == 0))) kj (congrArg Value.bool (by simp; omega))) ?_
  refine sg 2 kj ?_
  refine Qaa (.bool false) 24 rfl kj (Qag (u := .bool (decide ((nx - 1 - n) > 0))) kj (congrArg Value.bool (decide_eq_false (by omega)))) ?_
  refine sg 12 kj ?_
  refine sgN hK9 ?_
  refine cond_false kj ?_
  refine wp_skip ?_
  refine hK8 _ _ ?_
  refine sgB kj ?_
  refine wp_ret ?_
  repeat (first | with_reducible refine goR1 ?_ | with_reducible refine goR2 ?_)
  exact (show bodyPost _ _ _ .ret _ _ from ret1 (.nilIface) rfl (Qa7 kj) ⟨rfl, (Ext.tr (Rely.Ext.refl w) e1)⟩)
theorem Qig (g : Nat) (nx : Int) (B : Nat) (n : Int) (hnx : 0 ≤ nx ∧ nx ≤ 4294967295) (hB : B < 18446744073709551616) (sec : List Int) (pl mg : Nat) (hsec : sec.length = 32) (w : World) (hg : w.heap[g]? = some (.cells (cat [#[.int .i64 nx], #[.int .u64 ((B : Nat) : Int)], ints .u8 (sec), #[.int .i64 ((pl : Nat) : Int)], #[.map (some mg)]]) 84)) : Calls Tryd.prog 53 #[.pointer (some ⟨g, 0, none⟩), .int .i64 n] w (Ret w (errV (chkW nx B n))) := by
  unfold chkW
  by_cases h1 : n < 0
  · rw [if_pos (.inl h1)]; exact Qka g nx B n hnx hB sec pl mg hsec w hg h1
  by_cases h2 : 4294967295 ≤ n
  · rw [if_pos (.inr h2)]; exact QjZ g nx B n hnx hB sec pl mg hsec w hg h2
  rw [if_neg (by omega)]
  have hn : 0 ≤ n ∧ n < 4294967295 := by omega
  by_cases h3 : 64 < nx - 1 - n
  · rw [if_pos h3]; exact QjY g nx B n hnx hB sec pl mg hsec w hg hn h3
  rw [if_neg h3]
  by_cases h4 : nx - 1 - n = 0
  · rw [if_pos (.inl h4)]; exact QjX g nx B n hnx hB sec pl mg hsec w hg hn h4
  by_cases h5 : 0 < nx - 1 - n
  · obtain ⟨j, hj⟩ := Int.eq_ofNat_of_zero_le (show 0 ≤ nx - 1 - n - 1 by omega)
    have hj2 : j < 64 := by omega
    rw [hj, Int.toNat_natCast]
    have hm : B / 2 ^ j % 2 < 2 := Nat.mod_lt _ (by decide)
    by_cases h6 : B / 2 ^ j % 2 = 1
    · rw [if_pos (.inr ⟨h5, h6⟩)]; exact QjW g nx B n hnx hB sec pl mg hsec w hg hn j hj hj2 h6
    · rw [if_neg (by rintro (h | h); exact h4 h; exact h6 h.2)]; exact QjV g nx B n hnx hB sec pl mg hsec w hg hn j hj hj2 (by omega)
  · rw [if_neg (by rintro (h | h); exact h4 h; exact h5 h.1)]; exact QjU g nx B n hnx hB sec pl mg hsec w hg hn (by omega)
set_option maxHeartbeats 4000000 in
theorem Qik (g : Nat) (nx : Int) (B : Nat) (n : Int) (hnx : 0 ≤ nx ∧ nx ≤ 4294967295) (hB : B < 18446744073709551616) (sec : List Int) (pl mg : Nat) (hsec : sec.length = 32) (w : World) (hg : w.heap[g]? = some (.cells (cat [#[.int .i64 nx], #[.int .u64 ((B : Nat) : Int)], ints .u8 (sec), #[.int .i64 ((pl : Nat) : Int)], #[.map (some mg)]]) 84)) : Calls Tryd.prog 43 #[.pointer (some ⟨g, 0, none⟩), .int .i64 n] w (Ret w (errV (chkW nx B n))) := by
  refine enter 13 [(0, .pointer (some ⟨g, 0, none⟩)), (1, .int .i64 n)] Tryd.func43 rfl rfl kj rfl ?_
  refine sgB kj ?_
  refine wp_seq_k fun K3 hK3 => ?_
  refine sgB kj ?_
  refine cond_false kj ?_
  refine wp_skip ?_
  refine hK3 _ _ ?_
  refine sgC fun K5 hK5 => ?_
  refine sg 4 kj ?_
  refine Qax (errV (chkW nx B n)) 53 #[.pointer (some ⟨g, 0, none⟩), .int .i64 n] 12 rfl kj kj (Qig g nx B n hnx hB sec pl mg hsec _ hg) fun W1 e1 => ?_
  refine sg 1 kj ?_
  refine sgN hK5 ?_
  refine wp_ret ?_
  repeat (first | with_reducible refine goR1 ?_ | with_reducible refine goR2 ?_)
  exact (show bodyPost _ _ _ .ret _ _ from ret1 (errV (chkW nx B n)) rfl (Qa7 kj) ⟨rfl, (Ext.tr (Rely.Ext.refl w) e1)⟩)
theorem Qic {e : Int} (h : e ≠ 0) : errV e = .iface 47 (.int .i64 e) := by unfold errV; rw [if_neg h]
theorem Qdg {e : Int} (h : e = 0) : errV e = .nilIface := by unfold errV; rw [if_pos h]
theorem QjM (a b : Int) (h : -5000000000 ≤ a ∧ a ≤ 5000000000) (e : 0 - a = b) : IntKind.i64.wrap (0 - a) = b := by rw [e]; exact Qbw _ (by omega)
theorem Qgg (j : Nat) (h : j < 64) : 2 ^ j < 18446744073709551616 := Nat.pow_lt_pow_right (by decide) h
theorem shl1 (j : Nat) (h : j < 64) : IntKind.u64.wrap (1 * 2 ^ min ((j : Nat) : Int).toNat IntKind.u64.bits) = ((2 ^ j : Nat) : Int) := by
  have := shlB 1 j
  rw [Nat.one_mul, Nat.mod_eq_of_lt (Qgg j h)] at this
  exact this
set_option maxHeartbeats 4000000 in
theorem Qk0 (g : Nat) (nx : Int) (B : Nat) (n : Int) (hnx : 0 ≤ nx ∧ nx ≤ 4294967295) (hB : B < 18446744073709551616) (sec : List Int) (pl mg : Nat) (hsec : sec.length = 32) (w : World) (hg : w.heap[g]? = some (.cells (cat [#[.int .i64 nx], #[.int .u64 ((B : Nat) : Int)], ints .u8 (sec), #[.int .i64 ((pl : Nat) : Int)], #[.map (some mg)]]) 84)) (hc : chkW nx B n = 0) (j : Nat) (hj : nx - 1 - n - 1 = (j : Int)) (hj2 : j < 64) : Calls Tryd.prog 54 #[.pointer (some ⟨g, 0, none⟩), .int .i64 n] w (fun e w' => e = .returned .nilIface ∧ ExtB g w w' ∧ w'.heap[g]? = some (.cells (cat [#[.int .i64 nx], #[.int .u64 ((B ||| 2 ^ j : Nat) : Int)], ints .u8 (sec), #[.int .i64 ((pl : Nat) : Int)], #[.map (some mg)]]) 84)) := by
  refine enter 48 [(0, .pointer (some ⟨g, 0, none⟩)), (1, .int .i64 n)] Tryd.func54 rfl rfl kj rfl ?_
  refine sgB kj ?_
  refine wp_seq_k fun K3 hK3 => ?_
  refine sgC fun K4 hK4 => ?_
  refine sg 2 kj ?_
  refine Qax (.nilIface) 53 #[.pointer (some ⟨g, 0, none⟩), .int .i64 n] 9 rfl kj kj (Qdg hc ▸ Qig g nx B n hnx hB sec pl mg hsec _ hg) fun W1 e1 => ?_
  refine sg 1 kj ?_
  refine sgN hK4 ?_
  refine sgB kj ?_
  refine cond_false kj ?_
  refine wp_skip ?_
  refine hK3 _ _ ?_
  refine sgC fun K6 hK6 => ?_
  refine sg 2 kj ?_
  have r1_1 := (Qab hg e1)
  refine Qax (.int .i64 (nx - 1)) 55 #[.pointer (some ⟨g, 0, none⟩)] 15 rfl kj kj (Qce g nx B hnx hB sec pl mg hsec _ r1_1) fun W2 e2 => ?_
  refine Qaa (.int .i64 (n - (nx - 1))) 16 rfl kj (Qag (u := .int .i64 (IntKind.i64.wrap (n - (nx - 1)))) kj (congrArg (Value.int .i64) (Qbw _ (by omega)))) ?_
  refine sg 1 kj ?_
  refine sgN hK6 ?_
  refine wp_seq_k fun K7 hK7 => ?_
  refine sgC fun K8 hK8 => ?_
  refine sg 1 kj ?_
  refine Qaa (.bool true) 18 rfl kj (Qag (u := .bool (decide ((n - (nx - 1)) < 0))) kj (congrArg Value.bool (decide_eq_true (by omega)))) ?_
  refine sgN hK8 ?_
  refine cond_true kj ?_
  refine wp_seq_k fun K9 hK9 => ?_
  refine Qbf 11 [⟨none, [(0, none)]⟩, ⟨none, [(19, some 0)]⟩, ⟨none, [(20, some 1)]⟩, ⟨none, [(21, some 2)]⟩, ⟨none, [(6, none)]⟩, ⟨none, [(23, some 4)]⟩, ⟨none, [(24, some 5)]⟩, ⟨none, [(25, some 6)]⟩, ⟨none, [(22, some 3), (26, some 7)]⟩, ⟨none, [(19, some 0)]⟩, ⟨none, [(28, some 9)]⟩] kj kj fun F hF => ?_
  refine Qap (.pointer (some ⟨g, 0, none⟩)) kj kj (fun W => by kernel_rfl) ?_
  refine Qap (.pointer (some ⟨g, 0, none⟩)) kj kj (fun W => by kernel_rfl) ?_
  refine Qap (.pointer (some ⟨g, 1, none⟩)) kj kj (fun W => by kernel_rfl) ?_
  have r1_2 := (Qab r1_1 e2)
  refine Qba (.int .u64 ((B : Nat) : Int)) kj kj (fun W hR => (Qah 77 _ g 1 84 _ (.int .u64 ((B : Nat) : Int)) _ (Qab (Qab r1_2 (Qas _)) hR) rfl kj (Qa0 [#[.int .i64 nx]] [#[.int .u64 ((B : Nat) : Int)]] [ints .u8 (sec), #[.int .i64 ((pl : Nat) : Int)], #[.map (some mg)]] 1 kj 0 _ rfl) kj)) ?_
  refine Qap (.int .i64 (n - (nx - 1))) kj kj (fun W => by kernel_rfl) ?_
  refine Qap (.int .i64 (nx - 1 - n)) kj kj (fun W => (Qag (u := .int .i64 (IntKind.i64.wrap (0 - (n - (nx - 1))))) kj (congrArg (Value.int .i64) (QjM _ _ (by omega) (by omega))))) ?_
  refine Qap (.int .i64 (((j : Nat) : Int))) kj kj (fun W => (Qag (u := .int .i64 (IntKind.i64.wrap ((nx - 1 - n) - 1))) kj (congrArg (Value.int .i64) (by rw [hj]; exact Qbw _ (by omega))))) ?_
  refine Qap (.int .u64 (((2 ^ j : Nat) : Int))) kj kj (fun W => (Qay .shl _ _ _ _ .u64 .i64 _ _ _ rfl kj kj (Qf6 _ _ _ _ _ _ (by omega) (shl1 j hj2)))) ?_
  refine Qap (.int .u64 (((B ||| 2 ^ j : Nat) : Int))) kj kj (fun W => (Qag (u := .int .u64 (bits .or .u64 (((B : Nat) : Int)) (((2 ^ j : Nat) : Int)))) kj (congrArg (Value.int .u64) (orB _ _ hB (Qgg j hj2))))) ?_
  refine Qap (.pointer (some ⟨g, 0, none⟩)) kj kj (fun W => by kernel_rfl) ?_
  refine Qap (.pointer (some ⟨g, 1, none⟩)) kj kj (fun W => by kernel_rfl) ?_
  refine Qbo (hF _ kj fun W3 e3 => ?_)
  simp only [ups, up, Kn.val, List.take_succ_cons, List.take_zero, List.drop_succ_cons, List.drop_zero, List.nil_append, List.cons_append]
  clear hF
  have r1_3 := (Qab r1_2 e3)
  refine Qai g _ (cat [#[.int .i64 nx], #[.int .u64 (((B ||| 2 ^ j : Nat) : Int))], ints .u8 (sec), #[.int .i64 ((pl : Nat) : Int)], #[.map (some mg)]]) 84 r1_3 rfl kj (Qbt 77 _ _ g 1 84 [#[.int .i64 nx]] [ints .u8 (sec), #[.int .i64 ((pl : Nat) : Int)], #[.map (some mg)]] _ (.int .u64 (((B ||| 2 ^ j : Nat) : Int))) r1_3 rfl kj kj kj kj rfl rfl) fun W4 p4 r1_4 => ?_
  refine sgN hK9 ?_
  refine sgB kj ?_
  refine wp_ret ?_
  repeat (first | with_reducible refine goR1 ?_ | with_reducible refine goR2 ?_)
  exact (show bodyPost _ _ _ .ret _ _ from ret1 (.nilIface) rfl (Qa7 kj) ⟨rfl, (ExtB.puts (ExtB.ext (ExtB.ext (ExtB.ext (ExtB.refl g w) e1) e2) e3) p4), r1_4⟩)
set_option maxHeartbeats 4000000 in
theorem Qkz (g : Nat) (nx : Int) (B : Nat) (n : Int) (hnx : 0 ≤ nx ∧ nx ≤ 4294967295) (hB : B < 18446744073709551616) (sec : List Int) (pl mg : Nat) (hsec : sec.length = 32) (w : World) (hg : w.heap[g]? = some (.cells (cat [#[.int .i64 nx], #[.int .u64 ((B : Nat) : Int)], ints .u8 (sec), #[.int .i64 ((pl : Nat) : Int)], #[.map (some mg)]]) 84)) (hc : chkW nx B n = 0) (hn : 0 ≤ n ∧ n < 4294967295) (a : Nat) (ha : n - (nx - 1) = (a : Int)) (ha1 : 1 ≤ a) : Calls Tryd.prog 54 #[.pointer (some ⟨g, 0, none⟩), .int .i64 n] w (fun e w' => e = .returned .nilIface ∧ ExtB g w w' ∧ w'.heap[g]? = some (.cells (cat [#[.int .i64 (n + 1)], #[.int .u64 ((B * 2 ^ a % 18446744073709551616 ||| 1 * 2 ^ (a - 1) % 18446744073709551616 : Nat) : Int)], ints .u8 (sec), #[.int .i64 ((pl : Nat) : Int)], #[.map (some mg)]]) 84)) := by
  refine enter 48 [(0, .pointer (some ⟨g, 0, none⟩)), (1, .int .i64 n)] Tryd.func54 rfl rfl kj rfl ?_
  refine sgB kj ?_
  refine wp_seq_k fun K3 hK3 => ?_
  refine sgC fun K4 hK4 => ?_
  refine sg 2 kj ?_
  refine Qax (.nilIface) 53 #[.pointer (some ⟨g, 0, none⟩), .int .i64 n] 9 rfl kj kj (Qdg hc ▸ Qig g nx B n hnx hB sec pl mg hsec _ hg) fun W1 e1 => ?_
  refine sg 1 kj ?_
  refine sgN hK4 ?_
  refine sgB kj ?_
  refine cond_false kj ?_
  refine wp_skip ?_
  refine hK3 _ _ ?_
  refine sgC fun K6 hK6 => ?_
  refine sg 2 kj ?_
  have r1_1 := (Qab hg e1)
  refine Qax (.int .i64 (nx - 1)) 55 #[.pointer (some ⟨g, 0, none⟩)] 15 rfl kj kj (Qce g nx B hnx hB sec pl mg hsec _ r1_1) fun W2 e2 => ?_
  refine Qaa (.int .i64 (((a : Nat) : Int))) 16 rfl kj (Qag (u := .int .i64 (IntKind.i64.wrap (n - (nx - 1)))) kj (congrArg (Value.int .i64) (by rw [ha]; exact Qbw _ (by omega)))) ?_
  refine sg 1 kj ?_
  refine sgN hK6 ?_
  refine wp_seq_k fun K7 hK7 => ?_
  refine sgC fun K8 hK8 => ?_
  refine sg 1 kj ?_
  refine Qaa (.bool false) 18 rfl kj (Qag (u := .bool (decide (((a : Nat) : Int) < 0))) kj (congrArg Value.bool (decide_eq_false (by omega)))) ?_
  refine sgN hK8 ?_
  refine cond_false kj ?_
  refine wp_skip ?_
  refine hK7 _ _ ?_
  refine wp_seq_k fun K9 hK9 => ?_
  refine Qbf 13 [⟨none, [(0, none)]⟩, ⟨none, [(0, none)]⟩, ⟨none, [(31, some 1)]⟩, ⟨none, [(32, some 2)]⟩, ⟨none, [(33, some 3)]⟩, ⟨none, [(6, none)]⟩, ⟨none, [(34, some 4), (35, some 5)]⟩, ⟨none, [(6, none)]⟩, ⟨none, [(37, some 7)]⟩, ⟨none, [(38, some 8)]⟩, ⟨none, [(36, some 6), (39, some 9)]⟩, ⟨none, [(30, some 0)]⟩, ⟨none, [(41, some 11)]⟩] kj kj fun F hF => ?_
  refine Qap (.pointer (some ⟨g, 0, none⟩)) kj kj (fun W => by kernel_rfl) ?_
  refine Qap (.pointer (some ⟨g, 0, none⟩)) kj kj (fun W => by kernel_rfl) ?_
  refine Qap (.pointer (some ⟨g, 0, none⟩)) kj kj (fun W => by kernel_rfl) ?_
  refine Qap (.pointer (some ⟨g, 1, none⟩)) kj kj (fun W => by kernel_rfl) ?_
  have r1_2 := (Qab r1_1 e2)
  refine Qba (.int .u64 ((B : Nat) : Int)) kj kj (fun W hR => (Qah 77 _ g 1 84 _ (.int .u64 ((B : Nat) : Int)) _ (Qab (Qab r1_2 (Qas _)) hR) rfl kj (Qa0 [#[.int .i64 nx]] [#[.int .u64 ((B : Nat) : Int)]] [ints .u8 (sec), #[.int .i64 ((pl : Nat) : Int)], #[.map (some mg)]] 1 kj 0 _ rfl) kj)) ?_
  refine Qap (.int .i64 (((a : Nat) : Int))) kj kj (fun W => by kernel_rfl) ?_
  refine Qap (.int .u64 (((B * 2 ^ a % 18446744073709551616 : Nat) : Int))) kj kj (fun W => (Qay .shl _ _ _ _ .u64 .i64 _ _ _ rfl kj kj (Qf6 _ _ _ _ _ _ (by omega) (shlB B a)))) ?_
  refine Qap (.int .i64 (((a : Nat) : Int))) kj kj (fun W => by kernel_rfl) ?_
  refine Qap (.int .i64 (((a - 1 : Nat) : Int))) kj kj (fun W => (Qag (u := .int .i64 (IntKind.i64.wrap (((a : Nat) : Int) - 1))) kj (congrArg (Value.int .i64) (by rw [show ((a - 1 : Nat) : Int) = (a : Int) - 1 by omega]; exact Qbw _ (by omega))))) ?_
  refine Qap (.int .u64 (((1 * 2 ^ (a - 1) % 18446744073709551616 : Nat) : Int))) kj kj (fun W => (Qay .shl _ _ _ _ .u64 .i64 _ _ _ rfl kj kj (Qf6 _ _ _ _ _ _ (by omega) (shlB 1 (a - 1))))) ?_
  refine Qap (.int .u64 (((B * 2 ^ a % 18446744073709551616 ||| 1 * 2 ^ (a - 1) % 18446744073709551616 : Nat) : Int))) kj kj (fun W => (Qag (u := .int .u64 (bits .or .u64 (((B * 2 ^ a % 18446744073709551616 : Nat) : Int)) (((1 * 2 ^ (a - 1) % 18446744073709551616 : Nat) : Int)))) kj (congrArg (Value.int .u64) (orB _ _ (Nat.mod_lt _ (by decide)) (Nat.mod_lt _ (by decide)))))) ?_
  refine Qap (.pointer (some ⟨g, 0, none⟩)) kj kj (fun W => by kernel_rfl) ?_
  refine Qap (.pointer (some ⟨g, 1, none⟩)) kj kj (fun W => by kernel_rfl) ?_
  refine Qbo (hF _ kj fun W3 e3 => ?_)
  simp only [ups, up, Kn.val, List.take_succ_cons, List.take_zero, List.drop_succ_cons, List.drop_zero, List.nil_append, List.cons_append]
  clear hF
  have r1_3 := (Qab r1_2 e3)
  refine Qai g _ (cat [#[.int .i64 nx], #[.int .u64 (((B * 2 ^ a % 18446744073709551616 ||| 1 * 2 ^ (a - 1) % 18446744073709551616 : Nat) : Int))], ints .u8 (sec), #[.int .i64 ((pl : Nat) : Int)], #[.map (some mg)]]) 84 r1_3 rfl kj (Qbt 77 _ _ g 1 84 [#[.int .i64 nx]] [ints .u8 (sec), #[.int .i64 ((pl : Nat) : Int)], #[.map (some mg)]] _ (.int .u64 (((B * 2 ^ a % 18446744073709551616 ||| 1 * 2 ^ (a - 1) % 18446744073709551616 : Nat) : Int))) r1_3 rfl kj kj kj kj rfl rfl) fun W4 p4 r1_4 => ?_
  refine sgN hK9 ?_
  refine sgC fun K10 hK10 => ?_
  refine sg 2 kj ?_
  refine Qaa (.int .i64 (n + 1)) 45 rfl kj (Qag (u := .int .i64 (IntKind.i64.wrap (n + 1))) kj (congrArg (Value.int .i64) (Qbw _ (by omega)))) ?_
  refine sg 2 kj ?_
  refine Qai g _ (cat [#[.int .i64 (n + 1)], #[.int .u64 (((B * 2 ^ a % 18446744073709551616 ||| 1 * 2 ^ (a - 1) % 18446744073709551616 : Nat) : Int))], ints .u8 (sec), #[.int .i64 ((pl : Nat) : Int)], #[.map (some mg)]]) 84 r1_4 rfl kj (Qbt 3 _ _ g 0 84 [] [#[.int .u64 (((B * 2 ^ a % 18446744073709551616 ||| 1 * 2 ^ (a - 1) % 18446744073709551616 : Nat) : Int))], ints .u8 (sec), #[.int .i64 ((pl : Nat) : Int)], #[.map (some mg)]] _ (.int .i64 (n + 1)) r1_4 rfl kj kj kj kj rfl rfl) fun W5 p5 r1_5 => ?_
  refine sgN hK10 ?_
  refine sgB kj ?_
  refine wp_ret ?_
  repeat (first | with_reducible refine goR1 ?_ | with_reducible refine goR2 ?_)
  exact (show bodyPost _ _ _ .ret _ _ from ret1 (.nilIface) rfl (Qa7 kj) ⟨rfl, (ExtB.puts (ExtB.puts (ExtB.ext (ExtB.ext (ExtB.ext (ExtB.refl g w) e1) e2) e3) p4) p5), r1_5⟩)
theorem extB_trans {g : Nat} {a b c : World} (h : ExtB g a b) (k : ExtB g b c) : ExtB g a c := ⟨k.1.trans h.1, k.2.1.trans h.2.1, k.2.2.1.trans h.2.2.1, Nat.le_trans h.2.2.2.1 k.2.2.2.1, fun i hi hn => (k.2.2.2.2 i (Nat.lt_of_lt_of_le hi h.2.2.2.1) hn).trans (h.2.2.2.2 i hi hn)⟩
set_option maxHeartbeats 4000000 in
theorem Qlp (g : Nat) (nx : Int) (B : Nat) (n : Int) (hnx : 0 ≤ nx ∧ nx ≤ 4294967295) (hB : B < 18446744073709551616) (sec : List Int) (pl mg : Nat) (hsec : sec.length = 32) (w : World) (hg : w.heap[g]? = some (.cells (cat [#[.int .i64 nx], #[.int .u64 ((B : Nat) : Int)], ints .u8 (sec), #[.int .i64 ((pl : Nat) : Int)], #[.map (some mg)]]) 84)) (hc : chkW nx B n = 0) (j : Nat) (hj : nx - 1 - n - 1 = (j : Int)) (hj2 : j < 64) : Calls Tryd.prog 44 #[.pointer (some ⟨g, 0, none⟩), .int .i64 n] w (fun e w' => e = .returned .nilIface ∧ ExtB g w w' ∧ w'.heap[g]? = some (.cells (cat [#[.int .i64 nx], #[.int .u64 ((B ||| 2 ^ j : Nat) : Int)], ints .u8 (sec), #[.int .i64 ((pl : Nat) : Int)], #[.map (some mg)]]) 84)) := by
  refine enter 13 [(0, .pointer (some ⟨g, 0, none⟩)), (1, .int .i64 n)] Tryd.func44 rfl rfl kj rfl ?_
  refine sgB kj ?_
  refine wp_seq_k fun K3 hK3 => ?_
  refine sgB kj ?_
  refine cond_false kj ?_
  refine wp_skip ?_
  refine hK3 _ _ ?_
  refine sgC fun K5 hK5 => ?_
  refine sg 4 kj ?_
  refine Qa8 (fun v W' => v = .nilIface ∧ ExtB g w W' ∧ W'.heap[g]? = some (.cells (cat [#[.int .i64 nx], #[.int .u64 ((B ||| 2 ^ j : Nat) : Int)], ints .u8 (sec), #[.int .i64 ((pl : Nat) : Int)], #[.map (some mg)]]) 84)) 54 #[.pointer (some ⟨g, 0, none⟩), .int .i64 n] 12 rfl kj kj ((Qk0 g nx B n hnx hB sec pl mg hsec _ hg hc j hj hj2).mono fun e w' ⟨h1, h2, h3⟩ => ⟨_, h1, rfl, h2, h3⟩) fun v W1 h => ?_
  obtain ⟨rfl, q1, r1_1⟩ := h
  refine sg 1 kj ?_
  refine sgN hK5 ?_
  refine wp_ret ?_
  repeat (first | with_reducible refine goR1 ?_ | with_reducible refine goR2 ?_)
  exact (show bodyPost _ _ _ .ret _ _ from ret1 (.nilIface) rfl (Qa7 kj) ⟨rfl, (extB_trans (ExtB.refl g w) q1), r1_1⟩)
set_option maxHeartbeats 4000000 in
theorem Qlo (g : Nat) (nx : Int) (B : Nat) (n : Int) (hnx : 0 ≤ nx ∧ nx ≤ 4294967295) (hB : B < 18446744073709551616) (sec : List Int) (pl mg : Nat) (hsec : sec.length = 32) (w : World) (hg : w.heap[g]? = some (.cells (cat [#[.int .i64 nx], #[.int .u64 ((B : Nat) : Int)], ints .u8 (sec), #[.int .i64 ((pl : Nat) : Int)], #[.map (some mg)]]) 84)) (hc : chkW nx B n = 0) (hn : 0 ≤ n ∧ n < 4294967295) (a : Nat) (ha : n - (nx - 1) = (a : Int)) (ha1 : 1 ≤ a) : Calls Tryd.prog 44 #[.pointer (some ⟨g, 0, none⟩), .int .i64 n] w (fun e w' => e = .returned .nilIface ∧ ExtB g w w' ∧ w'.heap[g]? = some (.cells (cat [#[.int .i64 (n + 1)], #[.int .u64 ((B * 2 ^ a % 18446744073709551616 ||| 1 * 2 ^ (a - 1) % 18446744073709551616 : Nat) : Int)], ints .u8 (sec), #[.int .i64 ((pl : Nat) : Int)], #[.map (some mg)]]) 84)) := by
  refine enter 13 [(0, .pointer (some ⟨g, 0, none⟩)), (1, .int .i64 n)] Tryd.func44 rfl rfl kj rfl ?_
  refine sgB kj ?_
  refine wp_seq_k fun K3 hK3 => ?_
  refine sgB kj ?_
  refine cond_false kj ?_
  refine wp_skip ?_
  refine hK3 _ _ ?_
  refine sgC fun K5 hK5 => ?_
  refine sg 4 kj ?_
  refine Qa8 (fun v W' => v = .nilIface ∧ ExtB g w W' ∧ W'.heap[g]? = some (.cells (cat [#[.int .i64 (n + 1)], #[.int .u64 ((B * 2 ^ a % 18446744073709551616 ||| 1 * 2 ^ (a - 1) % 18446744073709551616 : Nat) : Int)], ints .u8 (sec), #[.int .i64 ((pl : Nat) : Int)], #[.map (some mg)]]) 84)) 54 #[.pointer (some ⟨g, 0, none⟩), .int .i64 n] 12 rfl kj kj ((Qkz g nx B n hnx hB sec pl mg hsec _ hg hc hn a ha ha1).mono fun e w' ⟨h1, h2, h3⟩ => ⟨_, h1, rfl, h2, h3⟩) fun v W1 h => ?_
  obtain ⟨rfl, q1, r1_1⟩ := h
  refine sg 1 kj ?_
  refine sgN hK5 ?_
  refine wp_ret ?_
  repeat (first | with_reducible refine goR1 ?_ | with_reducible refine goR2 ?_)
  exact (show bodyPost _ _ _ .ret _ _ from ret1 (.nilIface) rfl (Qa7 kj) ⟨rfl, (extB_trans (ExtB.refl g w) q1), r1_1⟩)
end Go.Proofs.YtibegnjaphohaaaDoor.Cn
end
section
namespace Go.Proofs.YtibegnjaphohaaaDoor.Wm
open Go Go.RowKit
open Rely Auto
set_option linter.unusedVariables false
set_option linter.unusedSimpArgs false
variable {P : Program} {ops : Array Oper} {Q : Exit → Act → World → Prop}
def allM (P : Program) (ops : Array Oper) (Q : Exit → Act → World → Prop) (Rd : World → Prop) (m : Nat) : Nat → Array Bool → Act → World → Prop
  | 0, listed, a, w => Region.ready .any ops listed = [] ∧ Q .normal a w
  | fuel + 1, listed, a, w => (Region.ready .any ops listed = [] → Q .normal a w) ∧ ∀ i ∈ Region.ready .any ops listed, wpOp P ops Q i (fun a' w' => (i ≠ m → Rd w') ∧ allM P ops Q Rd m fuel (listed.setIfInBounds i true) a' w') a w
theorem Qg2 {Rd : World → Prop} {m : Nat} : ∀ (fuel : Nat) (listed : Array Bool) (a : Act) (w : World), allM P ops Q Rd m fuel listed a w → wpAny P .any ops Q fuel listed a w
  | 0, _, _, _, h => h
  | _ + 1, _, _, _, h => ⟨h.1, fun i hi => wpOp_mono (fun a w h => Qg2 _ _ a w h.2) (h.2 i hi)⟩
def QbO (P : Program) (ops : Array Oper) (Rd : World → Prop) (o : Oper) (v : Value) (a : Act) : Prop :=
  (Region.wanted o (yielded ops a.tmps) = true ∧ ∀ w, Rd w → (execOp a.eval o).run P w = .ok (.value v) w) ∨ (Region.wanted o (yielded ops a.tmps) = false ∧ v = undef)
theorem QbO.wpOp {Rd : World → Prop} {i : Nat} {o : Oper} {v : Value} {a : Act} (hi : ops[i]? = some o) (hy : QbO P ops Rd o v a) {K : Act → World → Prop} {w : World} (hw : Rd w) (h : K (a.put o.dst v) w) : wpOp P ops Q i K a w := by
  unfold Go.wpOp
  simp only [hi]
  rcases hy with ⟨hw1, hv⟩ | ⟨hw1, rfl⟩
  · simp only [hw1, if_true, Oper.wp, hv w hw, Oper.upon]; exact .inl h
  · simp only [hw1, Bool.false_eq_true, if_false]; exact h
theorem QbO.same {Rd : World → Prop} {o : Oper} {v : Value} {a a' : Act} (hy : QbO P ops Rd o v a) (he : execOp a'.eval o = execOp a.eval o) (hw : Region.wanted o (yielded ops a'.tmps) = Region.wanted o (yielded ops a.tmps)) : QbO P ops Rd o v a' := by
  unfold QbO at *
  rw [he, hw]
  exact hy
theorem QjA {Rd : World → Prop} {j : Nat} {oi oj : Oper} {v : Value} (hj : ops[j]? = some oj) (hap : oi.apart ops oj = true) (hsi : ∀ cs b, oi.op ≠ .select cs b) (hsj : ∀ cs b, oj.op ≠ .select cs b)
    (hQ : ∀ c a w, Q (.panic c) (a.put oi.dst v) w → Q (.panic c) a w) {K : Act → World → Prop} {a : Act} {w : World} (hy : QbO P ops Rd oi v a) (h : wpOp P ops Q j K (a.put oi.dst v) w) :
    wpOp P ops Q j (fun a' w' => QbO P ops Rd oi v a' ∧ K (a'.put oi.dst v) w') a w := by
  obtain ⟨h1, h2, h3⟩ := Oper.apart_spec hap
  have keep : ∀ (a : Act), QbO P ops Rd oi v a → ∀ u, QbO P ops Rd oi v (a.put oj.dst u) := fun a hy u => hy.same (execOp_put oi hsi a oj.dst u h3) (wanted_put oi a oj.dst u h3)
  have keepD : ∀ d, QbO P ops Rd oi v { a with defers := d :: a.defers } := fun d => hy.same rfl rfl
  unfold wpOp at *
  simp only [hj] at *
  rw [wanted_put oj a oi.dst v h1] at h
  split
  · rename_i hw
    simp only [hw, if_true] at h
    rcases h with h | ⟨hasks, hlets⟩
    case inr => exact .inr ⟨by unfold Oper.asks at *; rw [execOp_put oj hsj a oi.dst v h1] at hasks; exact hasks, hlets⟩
    refine .inl ?_
    unfold Oper.wp at *
    rw [execOp_put oj hsj a oi.dst v h1] at h
    generalize (execOp a.eval oj).run P w = r at *
    cases r with
    | ok n w' =>
      cases n <;> simp only [Oper.upon] at h ⊢
      case value u => exact ⟨keep a hy u, by rw [← Act.put_comm a v u h2]; exact h⟩
      case skip => exact ⟨keep a hy _, by rw [← Act.put_comm a v undef h2]; exact h⟩
      case defer d =>
        refine ⟨keep _ (keepD d) _, ?_⟩
        rw [← Act.put_comm _ v undef h2, ← Act.put_defers]
        exact h
      case enter f args =>
        refine Calls.mono h fun e w'' he => ?_
        cases e with
        | returned u => exact ⟨keep a hy u, by rw [← Act.put_comm a v u h2]; exact he⟩
        | panicked c => exact hQ _ _ _ he
        | outgrown => exact he
      case row row args => exact Rows.mono h fun u w'' he => ⟨keep a hy u, by rw [← Act.put_comm a v u h2]; exact he⟩
    | halt x w' =>
      cases x <;> simp only [Oper.upon] at h ⊢
      case panic u => exact hQ _ _ _ h
  · rename_i hw
    simp only [hw] at h
    exact ⟨keep a hy _, by rw [← Act.put_comm a v undef h2]; exact h⟩
theorem QgZ {Rd : World → Prop} {m : Nat} {i : Nat} {oi : Oper} {v : Value} (hi : ops[i]? = some oi) (hsel : ∀ (j : Nat) (o : Oper) cs b, ops[j]? = some o → o.op ≠ .select cs b) (him : i ≠ m) (hwait : ∃ om e, ops[m]? = some om ∧ e ∈ om.after ∧ Region.binds .any e = true ∧ e.on = i) (hQ : ∀ c a w, Q (.panic c) (a.put oi.dst v) w → Q (.panic c) a w) :
    ∀ (fuel : Nat) (listed : Array Bool) (a : Act) (w : World), Rd w →
      (∀ j oj, ops[j]? = some oj → j ≠ i → listed.getD j true = false → (∀ e ∈ oj.after, Region.binds .any e = true → e.on ≠ i) → oi.apart ops oj = true) →
      i ∈ Region.ready .any ops listed → QbO P ops Rd oi v a → allM P ops Q Rd m fuel (listed.setIfInBounds i true) (a.put oi.dst v) w → allM P ops Q Rd m (fuel + 1) listed a w := by
  intro fuel
  induction fuel with
  | zero =>
    intro listed a w hw _ hr hy H
    refine ⟨fun h => (by rw [h] at hr; cases hr), fun j hj => ?_⟩
    by_cases hji : j = i
    · subst hji; exact hy.wpOp hi hw ⟨fun _ => hw, H⟩
    · have := ready_mono hj hji
      rw [H.1] at this
      cases this
  | succ fuel ih =>
    intro listed a w hw hfree hr hy H
    refine ⟨fun h => (by rw [h] at hr; cases hr), fun j hj => ?_⟩
    by_cases hji : j = i
    · subst hji; exact hy.wpOp hi hw ⟨fun _ => hw, H⟩
    · have h1 := H.2 j (ready_mono hj hji)
      obtain ⟨hjun, oj, hoj, hall⟩ := mem_ready.1 hj
      have hnot : ∀ e ∈ oj.after, Region.binds .any e = true → e.on ≠ i := fun e he hb heq => by
        have h1 := hall e he hb
        have h0 := (mem_ready.1 hr).1
        rw [heq] at h1
        rcases Nat.lt_or_ge i listed.size with h' | h'
        · simp [h'] at h0 h1; rw [h0] at h1; cases h1
        · simp [Array.getElem?_eq_none h'] at h1
      have hjm : j ≠ m := fun q => by
        subst q
        obtain ⟨om, e, hom, he, hb, heq⟩ := hwait
        rw [hoj] at hom
        exact hnot e (Option.some.inj hom ▸ he) hb heq
      have h2 := QjA hoj (hfree j oj hoj hji hjun hnot) (fun cs b => hsel i oi cs b hi) (fun cs b => hsel j oj cs b hoj) hQ hy h1
      have hfree' : ∀ k ok, ops[k]? = some ok → k ≠ i → (listed.setIfInBounds j true).getD k true = false → (∀ e ∈ ok.after, Region.binds .any e = true → e.on ≠ i) → oi.apart ops ok = true := fun k ok hk hki hun hno => by
        refine hfree k ok hk hki ?_ hno
        by_cases hjk : j = k
        · subst hjk; exact hjun
        · rw [getD_set_ne true hjk] at hun; exact hun
      refine wpOp_mono (fun a' w' h3 => ⟨fun _ => h3.2.1 hjm, ih (listed.setIfInBounds j true) a' w' (h3.2.1 hjm) hfree' (ready_mono hr (Ne.symm hji)) h3.1 ?_⟩) h2
      rw [Array.setIfInBounds_comm _ _ hji]
      exact h3.2.2
structure WM (P : Program) (ops : Array Oper) (Q : Exit → Act → World → Prop) (Rd : World → Prop) (m fuel : Nat) (listed : Array Bool) (a : Act) (w : World) : Prop where
  out : Rd w → allM P ops Q Rd m fuel listed a w
variable {o : Oper} {N : Nat} {L : Env} {w V : World} {ds : List Deferred} {fuel : Nat} {listed : Array Bool} {k m : Nat} {a : Act} {Rd : World → Prop}
theorem region_walkM {id : Nat} {l : List Oper} (Rd : World → Prop) (m : Nat) (hm : P.follows .mixedOrders = true) (h : ∀ W, Ext w W → Rd W ∧ WM P l.toArray Q Rd m l.length (Array.replicate l.length false) (Qav ds N L) W) : (Code.region id l.toArray true).wp P Q (Qav ds N L) w := by
  refine wp_region_any hm ?_
  obtain ⟨h1, h2⟩ := h w.drew (Qas w)
  have := Qg2 _ _ _ _ (h2.out h1)
  simpa using this
def waits (ops : Array Oper) (m k : Nat) : Bool := match ops[m]? with | some om => om.after.any (fun e => Region.binds .any e && e.on == k) | none => false
theorem Qg8 (h : waits ops m k = true) : ∃ om e, ops[m]? = some om ∧ e ∈ om.after ∧ Region.binds .any e = true ∧ e.on = k := by
  unfold waits at h
  split at h
  · rename_i om ho
    obtain ⟨i, hi, h1⟩ := Array.any_eq_true.1 h
    simp only [Bool.and_eq_true, beq_iff_eq] at h1
    exact ⟨om, _, ho, Array.getElem_mem hi, h1.1, h1.2⟩
  · cases h
theorem wm_val (k : Nat) (v : Value) (d : Nat) (ho : ops[k]? = some o) (hd : o.dst = some d) (hg : Qbq ops o N L = some true) (hc : (Region.noSelect ops && Region.free .any ops listed k && (Region.ready .any ops listed).contains k) = true) (hkm : k ≠ m) (hwt : waits ops m k = true)
    (hQ : ∀ c a w, Q (.panic c) (a.put o.dst v) w → Q (.panic c) a w) (h : ∀ W, Rd W → (execOp (Rely.look (envN N L)) o).run P W = .ok (.value v) W) (kk : WM P ops Q Rd m fuel (listed.setIfInBounds k true) (Qav ds N ((d, v) :: L)) w) : WM P ops Q Rd m (fuel + 1) listed (Qav ds N L) w := by
  simp only [Bool.and_eq_true] at hc
  refine ⟨fun hw => QgZ ho (Region.noSelect_spec hc.1.1) hkm (Qg8 hwt) hQ fuel listed _ w hw (Region.free_spec ho hc.1.2) (by simpa using hc.2) (.inl ⟨QbW hg, fun W hW => ?_⟩) ?_⟩
  · rw [Qbh]; exact h W hW
  · rw [hd, Qbi]; exact kk.out hw
theorem wm_call (k : Nat) (hr : Region.ready .any ops listed = [k]) (ho : ops[k]? = some o) (R : Value → World → Prop) (f : FuncId) (args : Array Value) (d : Nat) (hd : o.dst = some d) (hg : Qbq ops o N L = some true)
    (h : (execOp (Rely.look (envN N L)) o).run P w = .ok (.enter f args) w) (hc : Calls P f args w fun e w' => ∃ v, e = .returned v ∧ R v w') (hR : ∀ v W, R v W → Rd W) (kk : ∀ (v : Value) (W : World), R v W → WM P ops Q Rd m fuel (listed.setIfInBounds k true) (Qav ds N ((d, v) :: L)) W) : WM P ops Q Rd m (fuel + 1) listed (Qav ds N L) w := by
  refine ⟨fun _ => ⟨fun h0 => (by rw [hr] at h0; cases h0), fun i hi => ?_⟩⟩
  rw [hr] at hi
  obtain rfl : i = k := by simpa using hi
  unfold wpOp
  rw [ho]
  simp only [QbW hg, if_true]
  refine .inl ?_
  unfold Oper.wp
  rw [Qbh, h]
  refine hc.mono ?_
  rintro e w' ⟨v, rfl, hw⟩
  show _ ∧ allM _ _ _ _ _ _ _ _ _
  rw [hd, Qbi]
  exact ⟨fun _ => hR v w' hw, (kk v w' hw).out (hR v w' hw)⟩
theorem wm_run (k : Nat) (hr : Region.ready .any ops listed = [k]) (ho : ops[k]? = some o) (R : Value → World → Prop) (d : Nat) (hd : o.dst = some d) (hg : Qbq ops o N L = some true) (h : ∃ v W, (execOp (Rely.look (envN N L)) o).run P w = .ok (.value v) W ∧ R v W) (hR : ∀ v W, R v W → Rd W)
    (kk : ∀ (v : Value) (W : World), R v W → WM P ops Q Rd m fuel (listed.setIfInBounds k true) (Qav ds N ((d, v) :: L)) W) : WM P ops Q Rd m (fuel + 1) listed (Qav ds N L) w := by
  obtain ⟨v, W, h1, h2⟩ := h
  refine ⟨fun _ => ⟨fun h0 => (by rw [hr] at h0; cases h0), fun i hi => ?_⟩⟩
  rw [hr] at hi
  obtain rfl : i = k := by simpa using hi
  unfold wpOp
  rw [ho]
  simp only [QbW hg, if_true]
  refine .inl ?_
  unfold Oper.wp
  rw [Qbh, h1]
  show _ ∧ allM _ _ _ _ _ _ _ _ _
  rw [hd, Qbi]
  exact ⟨fun _ => hR v W h2, (kk v W h2).out (hR v W h2)⟩
theorem wm_last (hr : Region.ready .any ops listed = [m]) (hr2 : Region.ready .any ops (listed.setIfInBounds m true) = []) (ho : ops[m]? = some o) (R : World → Prop) (hd : o.dst = none) (hg : Qbq ops o N L = some true) (h : ∃ W, (execOp (Rely.look (envN N L)) o).run P w = .ok .skip W ∧ R W)
    (kk : ∀ W, R W → Q .normal (Qav ds N L) W) : WM P ops Q Rd m (fuel + 1) listed (Qav ds N L) w := by
  obtain ⟨W, h1, h2⟩ := h
  refine ⟨fun _ => ⟨fun h0 => (by rw [hr] at h0; cases h0), fun i hi => ?_⟩⟩
  rw [hr] at hi
  obtain rfl : i = m := by simpa using hi
  unfold wpOp
  rw [ho]
  simp only [QbW hg, if_true]
  refine .inl ?_
  unfold Oper.wp
  rw [Qbh, h1]
  show _ ∧ allM _ _ _ _ _ _ _ _ _
  rw [hd, show (Qav ds N L).put none undef = Qav ds N L from rfl]
  refine ⟨fun q => absurd rfl q, ?_⟩
  cases fuel with
  | zero => exact ⟨hr2, kk W h2⟩
  | succ n => exact ⟨fun _ => kk W h2, by rw [hr2]; simp⟩
theorem wm_store (g : Nat) (old cs : Array Value) (t : TypeId) (hgr : w.heap[g]? = some (.cells old t)) (hr : Region.ready .any ops listed = [m]) (hr2 : Region.ready .any ops (listed.setIfInBounds m true) = []) (ho : ops[m]? = some o) (hd : o.dst = none) (hg : Qbq ops o N L = some true) (h : (execOp (Rely.look (envN N L)) o).run P w = .ok .skip (w.setRow g cs))
    (kk : ∀ W, Puts w g W → W.heap[g]? = some (.cells cs t) → Q .normal (Qav ds N L) W) : WM P ops Q Rd m (fuel + 1) listed (Qav ds N L) w :=
  wm_last hr hr2 ho (fun W => Puts w g W ∧ W.heap[g]? = some (.cells cs t)) hd hg ⟨_, h, Qbl _ _ _, setRow_heap _ _ _ _ _ _ hgr⟩ fun W hh => kk W hh.1 hh.2
end Go.Proofs.YtibegnjaphohaaaDoor.Wm
end
section
namespace Go.Proofs.YtibegnjaphohaaaDoor.Cn
open Go Go.RowKit
open Rely Auto Own Sha
set_option linter.unusedVariables false
set_option linter.unusedSimpArgs false
theorem Qg0 (pl : Nat → Option (Nat × Nat)) : ∀ (ps : List (Nat × Nat × Value × Array Value)) (pre : List (Array Value)) (rest : Array Value) (off : Nat), (cat pre).size = off → okPl pl off ps → tot ps = rest.size →
    Instr.fill pl (cat pre ++ rest) (ps.map fun x => (x.1, x.2.2.1)) = some (cat (pre ++ ps.map fun x => x.2.2.2))
  | [], pre, rest, off, _, _, ht => by
    have : rest = #[] := Array.eq_empty_of_size_eq_zero ht.symm
    subst this
    simp [Instr.fill]
  | (i, n, v, p) :: r, pre, rest, off, hoff, ⟨h1, h2, h3, h4⟩, ht => by
    subst h2
    have hn : n ≤ rest.size := by rw [← ht, tot]; omega
    simp only [List.map_cons, Instr.fill, h1, h3]
    rw [if_neg (by simp; omega)]
    have hz : (v.cells.zipIdx.foldl (fun cs (x : Value × Nat) => cs.setIfInBounds (off + x.2) x.1) (cat pre ++ rest)) = cat (pre ++ [v.cells]) ++ rest.extract n rest.size := by
      have e1 : v.cells.zipIdx = (v.cells.toList.zipIdx 0).toArray := by
        apply Array.ext'
        simp
      rw [e1, List.foldl_toArray', Qc6]
      · have e2 : rest = rest.extract 0 n ++ rest.extract n rest.size := by
          rw [Array.extract_append_extract, Nat.max_eq_right hn]
          simp
        have e3 : (cat pre ++ rest) = cat (pre ++ ([rest.extract 0 n] ++ [rest.extract n rest.size])) := by
          rw [QaJ]
          congr 1
        rw [Nat.add_zero, e3]
        have := Qdy pre [rest.extract 0 n] [v.cells] [rest.extract n rest.size] off hoff (by show v.cells.size = (rest.extract 0 n).size; simp; omega)
        rw [show (cat [v.cells]).toList = v.cells.toList from rfl] at this
        rw [this, ← List.append_assoc, QaJ (pre ++ [v.cells])]
        rfl
      · rfl
    have key := Qg0 pl r (pre ++ [v.cells]) (rest.extract n rest.size) (off + n) (by rw [QaJ]; show (cat pre ++ v.cells).size = _; simp; omega) h4 (by simp; rw [← ht, tot]; omega)
    rw [← hz] at key
    rw [List.append_assoc] at key
    exact key
theorem Qev {P : Program} {ρ : Operand → Value} {o : Oper} {w : World} (t : TypeId) (parts : Array (Nat × Operand)) (z : Value) (places : Array (Nat × Nat)) (ps : List (Nat × Nat × Value × Array Value))
    (ho : o.op = .build t parts) (hv : (parts.map fun (i, x) => (i, ρ x)).toList = ps.map fun x => (x.1, x.2.2.1)) (hp : okPl (fun i => places[i]?) 0 ps) (ht : tot ps = z.cells.size)
    (hz : (zeroValue t).run P w = .ok z w) (hu : P.underlying t = some (.struct (P.fieldsOf t))) (hm : ((P.fieldsOf t).mapM fun f => do pure (f.offset, ← sizeOf f.type) : Sem (Array (Nat × Nat))).run P w = .ok places w) :
    (execOp ρ o).run P w = .ok (.value (.agg (cat (ps.map fun x => x.2.2.2)))) w := by
  have := Qg0 (fun i => places[i]?) ps [] z.cells 0 rfl hp ht
  rw [show cat [] ++ z.cells = z.cells by simp [cat], List.nil_append] at this
  rw [← hv] at this
  have hB : (Instr.build t (parts.map fun (i, x) => (i, ρ x))).run P w = .ok (.agg (cat (ps.map fun x => x.2.2.2))) w := by
    unfold Instr.build
    rw [Sem.run_bind, hz, Result.andThen_ok, Sem.run_bind, run_underlying hu w, Result.andThen_ok]
    show (Sem.run P _ w) = _
    rw [Sem.run_bind, hm, Result.andThen_ok]
    simp only [this]
    rfl
  unfold execOp
  simp only [ho, Sem.run_bind, hB, Result.andThen_ok, Sem.run_pure]
def sKey : ByteArray := ⟨#[107, 101, 121]⟩
def QfC : ByteArray := ⟨#[110, 101, 120, 116]⟩
def Qfe : ByteArray := ⟨#[108, 101, 102, 116]⟩
def Qd2 : ByteArray := ⟨#[114, 105, 103, 104, 116]⟩
theorem strl (s : ByteArray) (h : s.size ≤ 255) : (strB s).length ≤ 255 := by rw [Qb9]; exact h
theorem Qgb : (strB sKey).length ≤ 255 := strl _ (by decide)
@[irreducible] def keyV (sec : List Int) : List Int := kx sec (Qbd (strB sKey) [] 44) 44
@[irreducible] def nxtV (sec : List Int) : List Int := Qbm sec (strB QfC)
theorem QaF (sec : List Int) : (keyV sec).length = 44 := by unfold keyV; exact Qby _ _ _
theorem Qez (sec : List Int) : Qao (keyV sec) := by unfold keyV; exact Qgq _ _ _
theorem Qcv (sec lab : List Int) : Qao (Qbm sec lab) := by
  unfold Qbm
  split
  · exact Qgq _ _ _
  · exact fun x hx => by rw [(List.mem_replicate.1 hx).2]; decide
theorem QcG (sec : List Int) : (nxtV sec).length = 32 := by unfold nxtV; exact QcS _ _
theorem QgN (sec : List Int) : Qao (nxtV sec) := by unfold nxtV; exact Qcv _ _
def itV (sec : List Int) : Nat → List Int
  | 0 => sec
  | n + 1 => nxtV (itV sec n)
theorem Qaz {sec : List Int} (h : sec.length = 32) : ∀ n, (itV sec n).length = 32
  | 0 => h
  | n + 1 => QcG _
theorem Qbj {sec : List Int} (h : Qao sec) : ∀ n, Qao (itV sec n)
  | 0 => h
  | n + 1 => QgN _
theorem QdX (sec : List Int) (a : Nat) : ∀ b, itV (itV sec a) b = itV sec (a + b)
  | 0 => rfl
  | b + 1 => by show nxtV (itV (itV sec a) b) = nxtV (itV sec (a + b)); rw [QdX sec a b]
def QcJ (base : Nat) (num : Int) (mv : List Int) (v : Value) (W : World) : Prop := ∃ u, v = .agg (cat [#[.int .i64 num], ints .u8 (mv.take 32), #[u]]) ∧ OwnN .u8 5 base (mv.drop 32) u W
theorem QiI (k : IntKind) (xs : List Int) (n : Nat) : ints k xs = cat [ints k (xs.take n), ints k (xs.drop n)] := by
  apply Array.ext'
  simp [cat, ints, ← List.map_append]
def mpv (p : Int × List Int) : Int × Value := (p.1, .agg (ints .u8 p.2))
def lget (ms : List (Int × List Int)) (k : Int) : List Int := ((ms.find? fun p => p.1 == k).map Prod.snd).getD (List.replicate 44 0)
theorem Qgn : ∀ (ms : List (Int × List Int)) (k : Int), mget (ms.map mpv) k (.agg (ints .u8 (List.replicate 44 0))) = .agg (ints .u8 (lget ms k))
  | [], k => rfl
  | p :: ms, k => by
    unfold mget lget
    rw [List.map_cons]
    by_cases h : (p.1 == k) = true
    · rw [List.find?_cons_of_pos (p := fun q : Int × Value => q.1 == k) h, List.find?_cons_of_pos (p := fun q : Int × List Int => q.1 == k) h]; rfl
    · rw [List.find?_cons_of_neg (p := fun q : Int × Value => q.1 == k) h, List.find?_cons_of_neg (p := fun q : Int × List Int => q.1 == k) h]; exact Qgn ms k
def MsOk (ms : List (Int × List Int)) : Prop := ∀ p ∈ ms, p.2.length = 44 ∧ Qao p.2
theorem Qch {ms : List (Int × List Int)} (h : MsOk ms) (k : Int) : (lget ms k).length = 44 ∧ Qao (lget ms k) := by
  unfold lget
  cases hf : ms.find? (fun p => p.1 == k) with
  | none => exact ⟨List.length_replicate, fun x hx => by rw [(List.mem_replicate.1 hx).2]; decide⟩
  | some p => exact h p (List.mem_of_find?_eq_some hf)
set_option maxHeartbeats 4000000 in
theorem QhG (sec : List Int) (tc tq : TypeId) (w : World) (hc : w.heap[2]? = some (.cells (ints .u64 QaI) tc)) (hq : w.heap[1]? = some (.cells (ints .u64 Qak) tq)) (hsl : sec.length = 32) (hsb : Qao sec) : Calls Tryd.prog 45 #[.agg (ints .u8 sec)] w (Ret w (.agg (ints .u8 (keyV sec)))) := by
  refine enter 16 [(0, .agg (ints .u8 (sec)))] Tryd.func45 rfl rfl kj rfl ?_
  refine sgC fun K3 hK3 => ?_
  refine Qar (ints .u8 (sec)) 23 1 rfl kj kj fun g4 W1 l4 e1 r4_1 => ?_
  have x1 := Ext.tr (Rely.Ext.refl w) e1
  have b4 := Nat.le_trans (Rely.Ext.refl w).size l4
  refine Qar (ints .u8 (List.replicate 44 0)) 93 2 rfl kj kj fun g5 W2 l5 e2 r5_2 => ?_
  refine sgN hK3 ?_
  refine sgC fun K6 hK6 => ?_
  refine Qaa (.agg (ints .u8 (sec))) 6 rfl kj (Qaw 23 _ g4 23 _ _ (Qab r4_1 e2) rfl kj kj (isz (n := 32) kj ((Qac _ _).trans hsl))) ?_
  refine Qa8 (fun v W' => (fun v W => ∃ u, v = .tuple #[u, .nilIface] ∧ OwnN .u8 5 W2.heap.size (kx sec (Qbd (strB sKey) [] 44) 44) u W) v W' ∧ Ext W2 W') 51 #[.agg (ints .u8 (sec)), .string sKey, .slice none 0 0, .int .i64 44] 7 rfl kj kj ((Qjo sec [] sKey (.slice none 0 0) _ tc tq _ (Qab (Qab hc e1) e2) (Qab (Qab hq e1) e2) hsl hsb (fun x hx => by cases hx) (nilrd _) 44 (by decide) Qgb (by decide)).mono (by rintro e w' ⟨v, rfl, e1, hv⟩; exact ⟨v, rfl, hv, e1⟩)) fun vv7 W3 hh7 => ?_
  obtain ⟨hv7, e3⟩ := hh7
  obtain ⟨uu, rfl, huu⟩ := hv7
  obtain ⟨gu, cu, curu, rfl, -, hru, -, -, -, htu⟩ := QcZ huu (by rw [Qby]; decide)
  refine sg 5 kj ?_
  refine sgN hK6 ?_
  refine wp_seq_k fun K8 hK8 => ?_
  refine sgB kj ?_
  refine cond_false kj ?_
  refine wp_skip ?_
  refine hK8 _ _ ?_
  refine sgC fun K10 hK10 => ?_
  refine sg 1 kj ?_
  refine Qaa (.pointer (some ⟨gu, 0, none⟩)) 14 rfl kj (QfE 93 _ 44 5 (a := some ⟨gu, 0, none⟩) (len := (kx sec (Qbd (strB sKey) [] 44) 44).length) (cap := cu) rfl kj kj (by rw [Qby]; exact Nat.le_refl _)) ?_
  refine Qaa (.agg (ints .u8 (kx sec (Qbd (strB sKey) [] 44) 44))) 15 rfl kj (QaE 93 _ gu 0 5 _ _ _ (Qab hru (Rely.Ext.refl W3)) rfl kj (Qfy htu) kj (isz (n := 44) kj ((Qac _ _).trans (Qby _ _ _)))) ?_
  have r5_3 := (Qab r5_2 e3)
  refine Qai g5 _ (ints .u8 (kx sec (Qbd (strB sKey) [] 44) 44)) 93 r5_3 rfl kj (Qaq 93 _ _ g5 93 _ _ r5_3 rfl kj kj (isz (n := 44) kj ((Qac _ _).trans (Qby _ _ _))) (eqsz (n := 44) ((Qac _ _).trans (List.length_replicate (n := 44))) ((Qac _ _).trans (Qby _ _ _))) (Qa2 _ _)) fun W4 p4 r5_4 => ?_
  refine sgN hK10 ?_
  refine wp_ret ?_
  repeat (first | with_reducible refine goR1 ?_ | with_reducible refine goR2 ?_)
  exact (show bodyPost _ _ _ .ret _ _ from ret1 (.agg (ints .u8 (kx sec (Qbd (strB sKey) [] 44) 44))) rfl (QaR g5 93 _ r5_4 kj kj (isz (n := 44) kj ((Qac _ _).trans (Qby _ _ _)))) ⟨congrArg (fun z => Ending.returned (.agg (ints .u8 z))) (show _ = keyV sec by unfold keyV; rfl), (Puts.ext p4 (Ext.tr (Ext.tr x1 e2) e3) (Nat.le_trans x1.size l5))⟩)
theorem nxtC (sec : List Int) (tc tq : TypeId) (w : World) (hc : w.heap[2]? = some (.cells (ints .u64 QaI) tc)) (hq : w.heap[1]? = some (.cells (ints .u64 Qak) tq)) (hsl : sec.length = 32) (hsb : Qao sec) : Calls Tryd.prog 40 #[.agg (ints .u8 sec), .string QfC] w (Ret w (.agg (ints .u8 (nxtV sec)))) := by
  unfold nxtV
  exact QfQ sec QfC tc tq w hc hq hsl hsb
set_option maxHeartbeats 4000000 in
theorem Qej (sec : List Int) (tc tq : TypeId) (w : World) (hc : w.heap[2]? = some (.cells (ints .u64 QaI) tc)) (hq : w.heap[1]? = some (.cells (ints .u64 Qak) tq)) (hsl : sec.length = 32) (hsb : Qao sec) : Calls Tryd.prog 46 #[.agg (ints .u8 sec)] w (Ret w (.agg (ints .u8 (nxtV sec)))) := by
  refine enter 5 [(0, .agg (ints .u8 (sec)))] Tryd.func46 rfl rfl kj rfl ?_
  refine sgC fun K3 hK3 => ?_
  refine Qar (ints .u8 (sec)) 23 1 rfl kj kj fun g4 W1 l4 e1 r4_1 => ?_
  have x1 := Ext.tr (Rely.Ext.refl w) e1
  have b4 := Nat.le_trans (Rely.Ext.refl w).size l4
  refine Qar (ints .u8 (List.replicate 32 0)) 23 2 rfl kj kj fun g5 W2 l5 e2 r5_2 => ?_
  refine sgN hK3 ?_
  refine sgC fun K6 hK6 => ?_
  refine Qaa (.agg (ints .u8 (sec))) 3 rfl kj (Qaw 23 _ g4 23 _ _ (Qab r4_1 e2) rfl kj kj (isz (n := 32) kj ((Qac _ _).trans hsl))) ?_
  refine Qax (.agg (ints .u8 (nxtV sec))) 40 #[.agg (ints .u8 (sec)), .string QfC] 4 rfl kj kj (nxtC sec tc tq _ (Qab (Qab hc e1) e2) (Qab (Qab hq e1) e2) hsl hsb) fun W3 e3 => ?_
  have r5_3 := (Qab r5_2 e3)
  refine Qai g5 _ (ints .u8 (nxtV sec)) 23 r5_3 rfl kj (Qaq 23 _ _ g5 23 _ _ r5_3 rfl kj kj (isz (n := 32) kj ((Qac _ _).trans (QcG _))) (eqsz (n := 32) ((Qac _ _).trans (List.length_replicate (n := 32))) ((Qac _ _).trans (QcG _))) (Qa2 _ _)) fun W4 p4 r5_4 => ?_
  refine sgN hK6 ?_
  refine wp_ret ?_
  repeat (first | with_reducible refine goR1 ?_ | with_reducible refine goR2 ?_)
  exact (show bodyPost _ _ _ .ret _ _ from ret1 (.agg (ints .u8 (nxtV sec))) rfl (QaR g5 23 _ r5_4 kj kj (isz (n := 32) kj ((Qac _ _).trans (QcG _)))) ⟨rfl, (Puts.ext p4 (Ext.tr (Ext.tr x1 e2) e3) (Nat.le_trans x1.size l5))⟩)
set_option maxHeartbeats 4000000 in
theorem QjS (w : World) : Calls Tryd.prog 56 #[.slice none 0 0] w (QbH w (OwnN .u8 5 w.heap.size [])) := by
  refine enter 8 [(0, .slice none 0 0)] Tryd.func56 rfl rfl kj rfl ?_
  refine sgB kj ?_
  refine wp_seq_k fun K2 hK2 => ?_
  refine sgB kj ?_
  refine cond_true kj ?_
  refine sgB kj ?_
  refine wp_ret ?_
  repeat (first | with_reducible refine goR1 ?_ | with_reducible refine goR2 ?_)
  exact (show bodyPost _ _ _ .ret _ _ from ret1 (.slice none 0 0) rfl (Qa7 kj) ⟨_, rfl, (Rely.Ext.refl w), Qbv .u8 5 _ _⟩)
set_option maxHeartbeats 4000000 in
theorem QjR (text : List Int) (ad : Addr) (cp B : Nat) (w : World) (htl : text.length ≤ 900000000) (ht : RdK .u8 B text (.slice (some ad) text.length cp) w) : Calls Tryd.prog 56 #[.slice (some ad) text.length cp] w (QbH w (OwnN .u8 5 w.heap.size text)) := by
  refine enter 8 [(0, .slice (some ad) text.length cp)] Tryd.func56 rfl rfl kj rfl ?_
  refine sgB kj ?_
  refine wp_seq_k fun K2 hK2 => ?_
  refine sgB kj ?_
  refine cond_false kj ?_
  refine wp_skip ?_
  refine hK2 _ _ ?_
  refine sgC fun K4 hK4 => ?_
  refine QaB (ints .u8 ([])) 5 0 5 rfl kj kj fun g5 W1 l5 e1 r5_1 => ?_
  have x1 := Ext.tr (Rely.Ext.refl w) e1
  have b5 := Nat.le_trans (Rely.Ext.refl w).size l5
  refine sg 1 kj ?_
  refine QaC (k := .u8) (T := 5) (xs := []) (ys := text) (V := w) 1 (.tmp 5) (.tmp 6) 38 rfl kj kj (by decide) 7 rfl kj kj kj (QbD (xs := []) rfl l5 r5_1 (by decide)) (RdK.ext ht x1) (by simp; omega) (Rely.Ext.trans (Rely.Ext.refl w) e1) fun u1 W2 f6 y2 l2 => ?_
  refine sg 1 kj ?_
  refine sgN hK4 ?_
  refine wp_ret ?_
  repeat (first | with_reducible refine goR1 ?_ | with_reducible refine goR2 ?_)
  exact (show bodyPost _ _ _ .ret _ _ from ret1 (u1) rfl (Qa7 kj) ⟨_, rfl, (Ext.low x1 l2 (Rely.Ext.refl w).size), f6⟩)
theorem QkE (text : List Int) (v : Value) (B : Nat) (w : World) (htl : text.length ≤ 900000000) (ht : RdK .u8 B text v w) : Calls Tryd.prog 56 #[v] w (QbH w (OwnN .u8 5 w.heap.size text)) := by
  obtain ⟨a, c, rfl, h1, h2, h3, h4⟩ := id ht
  cases a with
  | none =>
    obtain rfl := h3 rfl
    obtain rfl : text = [] := List.length_eq_zero_iff.1 (by omega)
    exact QjS w
  | some ad => exact QjR text ad c B w htl ht
set_option maxHeartbeats 4000000 in
theorem Qld (k1 k2 : List Int) (num : Int) (w : World) (h1 : k1.length = 32) (h2 : k2.length = 12) : Calls Tryd.prog 48 #[.agg (cat [ints .u8 (k1), ints .u8 (k2)]), .int .i64 num] w (QbH w (fun v W => ∃ u, v = .agg (cat [#[.int .i64 num], ints .u8 k1, #[u]]) ∧ OwnN .u8 5 w.heap.size k2 u W)) := by
  refine enter 12 [(0, .agg (cat [ints .u8 (k1), ints .u8 (k2)])), (1, .int .i64 num)] Tryd.func48 rfl rfl kj rfl ?_
  refine sgC fun K1 hK1 => ?_
  refine Qar (cat [ints .u8 (k1), ints .u8 (k2)]) 93 2 rfl kj kj fun g2 W1 l2 e1 r2_1 => ?_
  have x1 := Ext.tr (Rely.Ext.refl w) e1
  have b2 := Nat.le_trans (Rely.Ext.refl w).size l2
  refine Qar (cat [#[.int .i64 0], ints .u8 (List.replicate 32 0), #[.slice none 0 0]]) 40 4 rfl kj kj fun g3 W2 l3 e2 r3_2 => ?_
  refine sgN hK1 ?_
  refine wp_seq_k fun K4 hK4 => ?_
  have r2_2 := (Qab r2_1 e2)
  refine Go.Proofs.YtibegnjaphohaaaDoor.Wm.region_walkM (fun W => W.heap[g2]? = some (.cells (cat [ints .u8 (k1), ints .u8 (k2)]) 93)) 7 kj fun W3 e3 => ⟨Qab r2_2 e3, ?_⟩
  have x3 := Ext.tr (Ext.tr x1 e2) e3
  refine Go.Proofs.YtibegnjaphohaaaDoor.Wm.wm_val 0 (.int .i64 num) 5 rfl rfl kj kj (by decide) kj (fun _ _ _ h => h) (fun W hR => by kernel_rfl) ?_
  refine Go.Proofs.YtibegnjaphohaaaDoor.Wm.wm_val 1 (.slice (some ⟨g2, 0, none⟩) 32 44) 6 rfl rfl kj kj (by decide) kj (fun _ _ _ h => h) (fun W hR => (QcD 93 _ _ _ 0 32 44 g2 0 5 rfl kj kj kj rfl ⟨.i64, by kernel_rfl⟩ (by decide) (by decide) (by decide))) ?_
  refine Go.Proofs.YtibegnjaphohaaaDoor.Wm.wm_val 2 (.pointer (some ⟨g2, 0, none⟩)) 7 rfl rfl kj kj (by decide) kj (fun _ _ _ h => h) (fun W hR => (QfE 37 _ 32 5 (a := some ⟨g2, 0, none⟩) (len := 32) (cap := 44) rfl kj kj (Nat.le_refl _))) ?_
  refine Go.Proofs.YtibegnjaphohaaaDoor.Wm.wm_val 3 (.agg (ints .u8 (k1))) 8 rfl rfl kj kj (by decide) kj (fun _ _ _ h => h) (fun W hR => (QaE 37 _ g2 0 93 _ _ _ hR rfl kj (Qa0 [] [ints .u8 (k1)] [ints .u8 (k2)] 0 kj) kj (isz (n := 32) kj ((Qac _ _).trans h1)))) ?_
  refine Go.Proofs.YtibegnjaphohaaaDoor.Wm.wm_val 4 (.slice (some ⟨g2, 32, none⟩) 12 12) 9 rfl rfl kj kj (by decide) kj (fun _ _ _ h => h) (fun W hR => (QcD 93 _ _ _ 32 44 44 g2 0 5 rfl kj kj kj ⟨.i64, by kernel_rfl⟩ rfl (by decide) (by decide) (by decide))) ?_
  have r2_3 := (Qab r2_2 e3)
  refine Go.Proofs.YtibegnjaphohaaaDoor.Wm.wm_call 5 kj rfl (fun v W' => (OwnN .u8 5 W3.heap.size k2) v W' ∧ Ext W3 W') 56 #[.slice (some ⟨g2, 32, none⟩) 12 12] 10 rfl kj kj ((QkE k2 _ _ _ (by rw [h2]; decide) (Qh1 32 h2 r2_3 (fun i hi => QbS [ints .u8 (k1)] [] k2 32 i (32 + i) ((Qac _ _).trans h1) rfl (by rw [h2]; exact hi)) (Qat r2_3) (Nat.le_refl _) (by decide))).mono (by rintro e w' ⟨v, rfl, e1, hv⟩; exact ⟨v, rfl, hv, e1⟩)) (fun v W h => Qab r2_3 h.2) fun vv5 W4 hh5 => ?_
  obtain ⟨hv5, e4⟩ := hh5
  obtain ⟨au, cu, rfl, -⟩ := id (OwnN.rd hv5)
  refine Go.Proofs.YtibegnjaphohaaaDoor.Wm.wm_val 6 (.agg (cat [#[.int .i64 num], ints .u8 (k1), #[.slice au k2.length cu]])) 11 rfl rfl kj kj (by decide) kj (fun _ _ _ h => h) (fun W hR => (Qev 40 _ (.agg (cat [#[.int .i64 0], ints .u8 (List.replicate 32 0), #[.slice none 0 0]])) #[(0, 1), (1, 32), (33, 1)] [(0, 1, .int .i64 num, #[.int .i64 num]), (1, 32, .agg (ints .u8 (k1)), ints .u8 (k1)), (2, 1, .slice au k2.length cu, #[.slice au k2.length cu])] rfl kj ⟨kj, rfl, kj, kj, rfl, ((Qac _ _).trans h1), kj, rfl, kj, trivial⟩ kj kj kj kj)) ?_
  have r3_3 := (Qab r3_2 e3)
  have r3_4 := (Qab r3_3 e4)
  refine Go.Proofs.YtibegnjaphohaaaDoor.Wm.wm_store g3 _ (cat [#[.int .i64 num], ints .u8 (k1), #[.slice au k2.length cu]]) 40 r3_4 kj kj rfl rfl kj (Qaq 40 _ _ g3 40 _ _ r3_4 rfl kj kj (isz (n := 34) kj (by rw [Qae, Qae, Qae]; simp only [Array.size_append, cat, ((Qac _ _).trans h1)]; rfl)) (eqsz (n := 34) (by rw [Qae, Qae, Qae]; simp only [Array.size_append, cat, ((Qac _ _).trans (List.length_replicate (n := 32)))]; rfl) (by rw [Qae, Qae, Qae]; simp only [Array.size_append, cat, ((Qac _ _).trans h1)]; rfl)) (QbG _ (by intro a ha; simp only [List.mem_cons, List.not_mem_nil, or_false] at ha; rcases ha with rfl | rfl | rfl; exact (QaU _ rfl); exact (Qa2 _ _); exact (QaU _ rfl)))) fun W5 p5 r3_5 => ?_
  refine hK4 _ _ ?_
  refine wp_ret ?_
  repeat (first | with_reducible refine goR1 ?_ | with_reducible refine goR2 ?_)
  exact (show bodyPost _ _ _ .ret _ _ from ret1 (.agg (cat [#[.int .i64 num], ints .u8 (k1), #[.slice au k2.length cu]])) rfl (QaR g3 40 _ r3_5 kj kj (isz (n := 34) kj (by rw [Qae, Qae, Qae]; simp only [Array.size_append, cat, ((Qac _ _).trans h1)]; rfl))) ⟨_, rfl, (Puts.ext p5 (Ext.tr x3 e4) (Nat.le_trans x1.size l3)), _, rfl, (OwnN.puts hv5 p5 (fun e => by have h8 := OwnN.ge hv5 e; have h9 := Qat r3_3; omega)).base x3.size⟩)
theorem Qkx (mv : List Int) (num : Int) (w : World) (hl : mv.length = 44) : Calls Tryd.prog 48 #[.agg (ints .u8 mv), .int .i64 num] w (QbH w (QcJ w.heap.size num mv)) := by
  rw [QiI .u8 mv 32]
  exact Qld (mv.take 32) (mv.drop 32) num w (by rw [List.length_take]; omega) (by rw [List.length_drop]; omega)
end Go.Proofs.YtibegnjaphohaaaDoor.Cn
end
section
namespace Go.Proofs.YtibegnjaphohaaaDoor.Cn
open Go Go.RowKit
open Rely Auto Own Sha
set_option linter.unusedVariables false
set_option linter.unusedSimpArgs false
theorem QcL {k : IntKind} {T : TypeId} {base g : Nat} {xs : List Int} {v : Value} {W : World} (h : OwnN k T base xs v W) (hg : g < base) : v.ownBlock ≠ some g := fun e => by
  have := h.ge e
  omega
theorem Qgj {k : IntKind} {T : TypeId} {b g : Nat} {xs : List Int} {v : Value} {W W' : World} (h : OwnN k T b xs v W) (q : ExtB g W W') (hn : v.ownBlock ≠ some g) : OwnN k T b xs v W' := h.keep fun k hk => q.2.2.2.2 k (h.lt hk) (fun e => hn (by rw [hk, e]))
theorem QaW {l : List Int} (h : l.length = 44) : (l.take 32).length = 32 := by rw [List.length_take, h]; rfl
def chkC (nx : Int) (B pl : Nat) (n : Int) : Int := if chkW nx B n ≠ 0 then chkW nx B n else if ((pl : Nat) : Int) + 256 < n then 12 else 0
set_option maxHeartbeats 4000000 in
theorem QiY (g : Nat) (nx : Int) (B : Nat) (n : Int) (hnx : 0 ≤ nx ∧ nx ≤ 4294967295) (hB : B < 18446744073709551616) (sec : List Int) (pl mg : Nat) (hsec : sec.length = 32) (w : World) (hg : w.heap[g]? = some (.cells (cat [#[.int .i64 nx], #[.int .u64 ((B : Nat) : Int)], ints .u8 (sec), #[.int .i64 ((pl : Nat) : Int)], #[.map (some mg)]]) 84)) (hc : chkW nx B n ≠ 0) : Calls Tryd.prog 32 #[.pointer (some ⟨g, 0, none⟩), .int .i64 n] w (Ret w (.iface 47 (.int .i64 (chkW nx B n)))) := by
  refine enter 22 [(0, .pointer (some ⟨g, 0, none⟩)), (1, .int .i64 n)] Tryd.func32 rfl rfl kj rfl ?_
  refine sgB kj ?_
  refine wp_seq_k fun K3 hK3 => ?_
  refine sgC fun K4 hK4 => ?_
  refine sg 4 kj ?_
  refine Qax (.iface 47 (.int .i64 (chkW nx B n))) 43 #[.pointer (some ⟨g, 0, none⟩), .int .i64 n] 10 rfl kj kj (Qic hc ▸ Qik g nx B n hnx hB sec pl mg hsec _ hg) fun W1 e1 => ?_
  refine sg 1 kj ?_
  refine sgN hK4 ?_
  refine sgB kj ?_
  refine cond_true kj ?_
  refine sgB kj ?_
  refine wp_ret ?_
  repeat (first | with_reducible refine goR1 ?_ | with_reducible refine goR2 ?_)
  exact (show bodyPost _ _ _ .ret _ _ from ret1 (.iface 47 (.int .i64 (chkW nx B n))) rfl (Qa7 kj) ⟨rfl, (Ext.tr (Rely.Ext.refl w) e1)⟩)
set_option maxHeartbeats 4000000 in
theorem QiX (g : Nat) (nx : Int) (B : Nat) (n : Int) (hnx : 0 ≤ nx ∧ nx ≤ 4294967295) (hB : B < 18446744073709551616) (sec : List Int) (pl mg : Nat) (hsec : sec.length = 32) (w : World) (hg : w.heap[g]? = some (.cells (cat [#[.int .i64 nx], #[.int .u64 ((B : Nat) : Int)], ints .u8 (sec), #[.int .i64 ((pl : Nat) : Int)], #[.map (some mg)]]) 84)) (hc : chkW nx B n = 0) (hp : pl ≤ 4294967295) (hf : ((pl : Nat) : Int) + 256 < n) : Calls Tryd.prog 32 #[.pointer (some ⟨g, 0, none⟩), .int .i64 n] w (Ret w (.iface 47 (.int .i64 12))) := by
  refine enter 22 [(0, .pointer (some ⟨g, 0, none⟩)), (1, .int .i64 n)] Tryd.func32 rfl rfl kj rfl ?_
  refine sgB kj ?_
  refine wp_seq_k fun K3 hK3 => ?_
  refine sgC fun K4 hK4 => ?_
  refine sg 4 kj ?_
  refine Qax (.nilIface) 43 #[.pointer (some ⟨g, 0, none⟩), .int .i64 n] 10 rfl kj kj (Qdg hc ▸ Qik g nx B n hnx hB sec pl mg hsec _ hg) fun W1 e1 => ?_
  refine sg 1 kj ?_
  refine sgN hK4 ?_
  refine sgB kj ?_
  refine cond_false kj ?_
  refine wp_skip ?_
  refine hK3 _ _ ?_
  refine wp_seq_k fun K6 hK6 => ?_
  refine sgC fun K7 hK7 => ?_
  refine sg 4 kj ?_
  refine Qaa (.int .i64 ((pl : Nat) : Int)) 18 rfl kj (Qah 3 _ g 34 84 _ (.int .i64 ((pl : Nat) : Int)) _ (Qab hg e1) rfl kj (Qa0 [#[.int .i64 nx], #[.int .u64 ((B : Nat) : Int)], ints .u8 (sec)] [#[.int .i64 ((pl : Nat) : Int)]] [#[.map (some mg)]] 34 (by rw [Qae, Qae, Qae]; simp only [Array.size_append, cat, ((Qac _ _).trans hsec)]; rfl) 0 _ rfl) kj) ?_
  refine Qaa (.int .i64 (((pl : Nat) : Int) + 256)) 19 rfl kj (Qag (u := .int .i64 (IntKind.i64.wrap (((pl : Nat) : Int) + 256))) kj (congrArg (Value.int .i64) (Qbw _ (by omega)))) ?_
  refine Qaa (.bool true) 20 rfl kj (Qag (u := .bool (decide (n > (((pl : Nat) : Int) + 256)))) kj (congrArg Value.bool (decide_eq_true (by omega)))) ?_
  refine sgN hK7 ?_
  refine cond_true kj ?_
  refine sgB kj ?_
  refine wp_ret ?_
  repeat (first | with_reducible refine goR1 ?_ | with_reducible refine goR2 ?_)
  exact (show bodyPost _ _ _ .ret _ _ from ret1 (.iface 47 (.int .i64 12)) rfl (Qa7 kj) ⟨rfl, (Ext.tr (Rely.Ext.refl w) e1)⟩)
set_option maxHeartbeats 4000000 in
theorem QiW (g : Nat) (nx : Int) (B : Nat) (n : Int) (hnx : 0 ≤ nx ∧ nx ≤ 4294967295) (hB : B < 18446744073709551616) (sec : List Int) (pl mg : Nat) (hsec : sec.length = 32) (w : World) (hg : w.heap[g]? = some (.cells (cat [#[.int .i64 nx], #[.int .u64 ((B : Nat) : Int)], ints .u8 (sec), #[.int .i64 ((pl : Nat) : Int)], #[.map (some mg)]]) 84)) (hc : chkW nx B n = 0) (hp : pl ≤ 4294967295) (hf : ¬ ((pl : Nat) : Int) + 256 < n) : Calls Tryd.prog 32 #[.pointer (some ⟨g, 0, none⟩), .int .i64 n] w (Ret w (.nilIface)) := by
  refine enter 22 [(0, .pointer (some ⟨g, 0, none⟩)), (1, .int .i64 n)] Tryd.func32 rfl rfl kj rfl ?_
  refine sgB kj ?_
  refine wp_seq_k fun K3 hK3 => ?_
  refine sgC fun K4 hK4 => ?_
  refine sg 4 kj ?_
  refine Qax (.nilIface) 43 #[.pointer (some ⟨g, 0, none⟩), .int .i64 n] 10 rfl kj kj (Qdg hc ▸ Qik g nx B n hnx hB sec pl mg hsec _ hg) fun W1 e1 => ?_
  refine sg 1 kj ?_
  refine sgN hK4 ?_
  refine sgB kj ?_
  refine cond_false kj ?_
  refine wp_skip ?_
  refine hK3 _ _ ?_
  refine wp_seq_k fun K6 hK6 => ?_
  refine sgC fun K7 hK7 => ?_
  refine sg 4 kj ?_
  refine Qaa (.int .i64 ((pl : Nat) : Int)) 18 rfl kj (Qah 3 _ g 34 84 _ (.int .i64 ((pl : Nat) : Int)) _ (Qab hg e1) rfl kj (Qa0 [#[.int .i64 nx], #[.int .u64 ((B : Nat) : Int)], ints .u8 (sec)] [#[.int .i64 ((pl : Nat) : Int)]] [#[.map (some mg)]] 34 (by rw [Qae, Qae, Qae]; simp only [Array.size_append, cat, ((Qac _ _).trans hsec)]; rfl) 0 _ rfl) kj) ?_
  refine Qaa (.int .i64 (((pl : Nat) : Int) + 256)) 19 rfl kj (Qag (u := .int .i64 (IntKind.i64.wrap (((pl : Nat) : Int) + 256))) kj (congrArg (Value.int .i64) (Qbw _ (by omega)))) ?_
  refine Qaa (.bool false) 20 rfl kj (Qag (u := .bool (decide (n > (((pl : Nat) : Int) + 256)))) kj (congrArg Value.bool (decide_eq_false (by omega)))) ?_
  refine sgN hK7 ?_
  refine cond_false kj ?_
  refine wp_skip ?_
  refine hK6 _ _ ?_
  refine sgB kj ?_
  refine wp_ret ?_
  repeat (first | with_reducible refine goR1 ?_ | with_reducible refine goR2 ?_)
  exact (show bodyPost _ _ _ .ret _ _ from ret1 (.nilIface) rfl (Qa7 kj) ⟨rfl, (Ext.tr (Rely.Ext.refl w) e1)⟩)
theorem QjT (g : Nat) (nx : Int) (B : Nat) (n : Int) (hnx : 0 ≤ nx ∧ nx ≤ 4294967295) (hB : B < 18446744073709551616) (sec : List Int) (pl mg : Nat) (hsec : sec.length = 32) (w : World) (hg : w.heap[g]? = some (.cells (cat [#[.int .i64 nx], #[.int .u64 ((B : Nat) : Int)], ints .u8 (sec), #[.int .i64 ((pl : Nat) : Int)], #[.map (some mg)]]) 84)) (hp : pl ≤ 4294967295) : Calls Tryd.prog 32 #[.pointer (some ⟨g, 0, none⟩), .int .i64 n] w (Ret w (errV (chkC nx B pl n))) := by
  unfold chkC
  by_cases hc : chkW nx B n = 0
  · rw [if_neg (fun h => h hc)]
    by_cases hf : ((pl : Nat) : Int) + 256 < n
    · rw [if_pos hf]; exact QiX g nx B n hnx hB sec pl mg hsec w hg hc hp hf
    · rw [if_neg hf]; exact QiW g nx B n hnx hB sec pl mg hsec w hg hc hp hf
  · rw [if_pos hc, Qic hc]; exact QiY g nx B n hnx hB sec pl mg hsec w hg hc
set_option maxHeartbeats 4000000 in
theorem Qk4 (g : Nat) (nx : Int) (B : Nat) (hnx : 0 ≤ nx ∧ nx ≤ 4294967295) (hB : B < 18446744073709551616) (sec : List Int) (pl mg : Nat) (hsec : sec.length = 32) (w : World) (hg : w.heap[g]? = some (.cells (cat [#[.int .i64 nx], #[.int .u64 ((B : Nat) : Int)], ints .u8 (sec), #[.int .i64 ((pl : Nat) : Int)], #[.map (some mg)]]) 84)) (ms : List (Int × List Int)) (hmo : MsOk ms) (hmp : MpAt mg (ms.map mpv) w) (tc tq : TypeId) (hc : w.heap[2]? = some (.cells (ints .u64 QaI) tc)) (hq : w.heap[1]? = some (.cells (ints .u64 Qak) tq)) (hsb : Qao sec) (n : Int) (hn : n < ((pl : Nat) : Int)) : Calls Tryd.prog 34 #[.pointer (some ⟨g, 0, none⟩), .int .i64 n] w (QbH w (QcJ w.heap.size n (lget ms n))) := by
  obtain ⟨es5, cl5, hes5, hM5⟩ := id hmp
  refine enter 39 [(0, .pointer (some ⟨g, 0, none⟩)), (1, .int .i64 n)] Tryd.func34 rfl rfl kj rfl ?_
  refine sgC fun K6 hK6 => ?_
  refine Qar (cat [#[.int .i64 0], ints .u8 (List.replicate 32 0), #[.slice none 0 0]]) 40 4 rfl kj kj fun g7 W1 l7 e1 r7_1 => ?_
  have x1 := Ext.tr (Rely.Ext.refl w) e1
  refine sgN hK6 ?_
  refine wp_seq_k fun K8 hK8 => ?_
  refine sgC fun K9 hK9 => ?_
  refine sg 4 kj ?_
  have r1_1 := (Qab hg e1)
  refine Qaa (.int .i64 ((pl : Nat) : Int)) 10 rfl kj (Qah 3 _ g 34 84 _ (.int .i64 ((pl : Nat) : Int)) _ r1_1 rfl kj (Qa0 [#[.int .i64 nx], #[.int .u64 ((B : Nat) : Int)], ints .u8 (sec)] [#[.int .i64 ((pl : Nat) : Int)]] [#[.map (some mg)]] 34 (by rw [Qae, Qae, Qae]; simp only [Array.size_append, cat, ((Qac _ _).trans hsec)]; rfl) 0 _ rfl) kj) ?_
  refine Qaa (.bool true) 11 rfl kj (Qag (u := .bool (decide (n < ((pl : Nat) : Int)))) kj (congrArg Value.bool (decide_eq_true (by omega)))) ?_
  refine sgN hK9 ?_
  refine cond_true kj ?_
  refine sgC fun K10 hK10 => ?_
  refine sg 3 kj ?_
  refine Qaa (.map (some mg)) 15 rfl kj (Qah 82 _ g 35 84 _ (.map (some mg)) _ r1_1 rfl kj (Qa0 [#[.int .i64 nx], #[.int .u64 ((B : Nat) : Int)], ints .u8 (sec), #[.int .i64 ((pl : Nat) : Int)]] [#[.map (some mg)]] [] 35 (by rw [Qae, Qae, Qae, Qae]; simp only [Array.size_append, cat, ((Qac _ _).trans hsec)]; rfl) 0 _ rfl) kj) ?_
  refine sg 1 kj ?_
  refine Qaa (.agg (ints .u8 (lget ms n))) 17 rfl kj (Qgn ms n ▸ Qht (kt := 3) (et := 93) (ms := ms.map mpv) (n := n) (z := .agg (ints .u8 (List.replicate 44 0))) 82 _ _ rfl kj kj kj kj ⟨_, _, (Qab hes5 e1), hM5⟩ kj) ?_
  refine sg 1 kj ?_
  refine Qa8 (fun v W' => (QcJ W1.heap.size n (lget ms n)) v W' ∧ Ext W1 W') 48 #[.agg (ints .u8 (lget ms n)), .int .i64 n] 19 rfl kj kj ((Qkx (lget ms n) n _ (Qch hmo n).1).mono (by rintro e w' ⟨v, rfl, e1, hv⟩; exact ⟨v, rfl, hv, e1⟩)) fun vv11 W2 hh11 => ?_
  obtain ⟨hv11, e2⟩ := hh11
  obtain ⟨u12, rfl, hu12⟩ := hv11
  obtain ⟨a12_, c12_, rfl, -⟩ := id (OwnN.rd hu12)
  have r7_2 := (Qab r7_1 e2)
  refine Qai g7 _ (cat [#[.int .i64 n], ints .u8 ((lget ms n).take 32), #[.slice a12_ (((lget ms n).drop 32).length) c12_]]) 40 r7_2 rfl kj (Qaq 40 _ _ g7 40 _ _ r7_2 rfl kj kj (isz (n := 34) kj (by rw [Qae, Qae, Qae]; simp only [Array.size_append, cat, ((Qac _ _).trans (QaW (Qch hmo n).1))]; rfl)) (eqsz (n := 34) (by rw [Qae, Qae, Qae]; simp only [Array.size_append, cat, ((Qac _ _).trans (List.length_replicate (n := 32)))]; rfl) (by rw [Qae, Qae, Qae]; simp only [Array.size_append, cat, ((Qac _ _).trans (QaW (Qch hmo n).1))]; rfl)) (QbG _ (by intro a ha; simp only [List.mem_cons, List.not_mem_nil, or_false] at ha; rcases ha with rfl | rfl | rfl; exact (QaU _ rfl); exact (Qa2 _ _); exact (QaU _ rfl)))) fun W3 p3 r7_3 => ?_
  refine sgN hK10 ?_
  refine wp_ret ?_
  repeat (first | with_reducible refine goR1 ?_ | with_reducible refine goR2 ?_)
  exact (show bodyPost _ _ _ .ret _ _ from ret1 (.agg (cat [#[.int .i64 n], ints .u8 ((lget ms n).take 32), #[.slice a12_ (((lget ms n).drop 32).length) c12_]])) rfl (QaR g7 40 _ r7_3 kj kj (isz (n := 34) kj (by rw [Qae, Qae, Qae]; simp only [Array.size_append, cat, ((Qac _ _).trans (QaW (Qch hmo n).1))]; rfl))) ⟨_, rfl, (Puts.ext p3 (Ext.tr x1 e2) (Nat.le_trans (Rely.Ext.refl w).size l7)), _, rfl, OwnN.base x1.size (hu12.puts p3 (QcL hu12 (Qat r7_1)))⟩)
set_option maxHeartbeats 4000000 in
theorem Qk3 (g : Nat) (nx : Int) (B : Nat) (hnx : 0 ≤ nx ∧ nx ≤ 4294967295) (hB : B < 18446744073709551616) (sec : List Int) (pl mg : Nat) (hsec : sec.length = 32) (w : World) (hg : w.heap[g]? = some (.cells (cat [#[.int .i64 nx], #[.int .u64 ((B : Nat) : Int)], ints .u8 (sec), #[.int .i64 ((pl : Nat) : Int)], #[.map (some mg)]]) 84)) (ms : List (Int × List Int)) (hmo : MsOk ms) (hmp : MpAt mg (ms.map mpv) w) (tc tq : TypeId) (hc : w.heap[2]? = some (.cells (ints .u64 QaI) tc)) (hq : w.heap[1]? = some (.cells (ints .u64 Qak) tq)) (hsb : Qao sec) (n : Nat) (hp : pl ≤ 4294967295) (hm : n ≤ 4294967294) (hn : pl ≤ n) : Calls Tryd.prog 34 #[.pointer (some ⟨g, 0, none⟩), .int .i64 ((n : Nat) : Int)] w (QbH w (QcJ w.heap.size ((n : Nat) : Int) (keyV (itV sec (n - pl))))) := by
 obtain ⟨es5, cl5, hes5, hM5⟩ := id hmp
 refine enter 39 [(0, .pointer (some ⟨g, 0, none⟩)), (1, .int .i64 ((n : Nat) : Int))] Tryd.func34 rfl rfl kj rfl ?_
 refine sgC fun K6 hK6 => ?_
 refine Qar (cat [#[.int .i64 0], ints .u8 (List.replicate 32 0), #[.slice none 0 0]]) 40 4 rfl kj kj fun g7 W1 l7 e1 r7_1 => ?_
 have x1 := Ext.tr (Rely.Ext.refl w) e1
 refine sgN hK6 ?_
 refine wp_seq_k fun K8 hK8 => ?_
 refine sgC fun K9 hK9 => ?_
 refine sg 4 kj ?_
 have r1_1 := (Qab hg e1)
 refine Qaa (.int .i64 ((pl : Nat) : Int)) 10 rfl kj (Qah 3 _ g 34 84 _ (.int .i64 ((pl : Nat) : Int)) _ r1_1 rfl kj (Qa0 [#[.int .i64 nx], #[.int .u64 ((B : Nat) : Int)], ints .u8 (sec)] [#[.int .i64 ((pl : Nat) : Int)]] [#[.map (some mg)]] 34 (by rw [Qae, Qae, Qae]; simp only [Array.size_append, cat, ((Qac _ _).trans hsec)]; rfl) 0 _ rfl) kj) ?_
 refine Qaa (.bool false) 11 rfl kj (Qag (u := .bool (decide (((n : Nat) : Int) < ((pl : Nat) : Int)))) kj (congrArg Value.bool (decide_eq_false (by omega)))) ?_
 refine sgN hK9 ?_
 refine cond_false kj ?_
 refine wp_skip ?_
 refine hK8 _ _ ?_
 refine sgC fun K10 hK10 => ?_
 refine sg 3 kj ?_
 refine Qaa (.agg (ints .u8 (sec))) 23 rfl kj (QaE 23 _ g 2 84 _ _ _ r1_1 rfl kj (Qa0 [#[.int .i64 nx], #[.int .u64 ((B : Nat) : Int)]] [ints .u8 (sec)] [#[.int .i64 ((pl : Nat) : Int)], #[.map (some mg)]] 2 kj) kj (isz (n := 32) kj ((Qac _ _).trans hsec))) ?_
 refine Qar (ints .u8 (List.replicate 32 0)) 23 5 rfl kj kj fun g11 W2 l11 e2 r11_2 => ?_
 have b11 := Nat.le_trans x1.size l11
 refine Qai g11 _ (ints .u8 (sec)) 23 r11_2 rfl kj (Qaq 23 _ _ g11 23 _ _ r11_2 rfl kj kj (isz (n := 32) kj ((Qac _ _).trans hsec)) (eqsz (n := 32) ((Qac _ _).trans (List.length_replicate (n := 32))) ((Qac _ _).trans hsec)) (Qa2 _ _)) fun W3 p3 r11_3 => ?_
 refine sgN hK10 ?_
 refine wp_seq_k fun K12 hK12 => ?_
 refine sgC fun K13 hK13 => ?_
 refine sg 4 kj ?_
 refine Qaa (.int .i64 ((pl : Nat) : Int)) 28 rfl kj (Qah 3 _ g 34 84 _ (.int .i64 ((pl : Nat) : Int)) _ (Puts.row p3 (Qab r1_1 e2) (Qaf r1_1 l11)) rfl kj (Qa0 [#[.int .i64 nx], #[.int .u64 ((B : Nat) : Int)], ints .u8 (sec)] [#[.int .i64 ((pl : Nat) : Int)]] [#[.map (some mg)]] 34 (by rw [Qae, Qae, Qae]; simp only [Array.size_append, cat, ((Qac _ _).trans hsec)]; rfl) 0 _ rfl) kj) ?_
 refine Qaa (.int .i64 (((n - pl : Nat) : Int))) 29 rfl kj (Qag (u := .int .i64 (IntKind.i64.wrap (((n : Nat) : Int) - ((pl : Nat) : Int)))) kj (congrArg (Value.int .i64) ((Qbw _ (by omega)).trans (by omega)))) ?_
 refine sg 1 kj ?_
 refine sgN hK13 ?_
 refine wp_block ?_
 refine Qa9 (fun (s1 : Nat) => [(0, .pointer (some ⟨g, 0, none⟩)), (1, .int .i64 ((n : Nat) : Int)), (4, .pointer (some ⟨g7, 0, none⟩)), (5, .pointer (some ⟨g11, 0, none⟩)), (29, .int .i64 (((n - pl : Nat) : Int))), (30, .int .i64 ((s1 : Nat) : Int))]) (fun (s1 : Nat) W => (s1 ≤ n - pl) ∧ (W.heap[g11]? = some (.cells (ints .u8 (itV sec s1)) 23)) ∧ (Qal [g11] W3 W) ∧ (Ext w W)) (fun (s1 : Nat) => n - pl - s1) 0 ⟨kj, kj, kj, kj, kj, kj, trivial⟩ ⟨(Nat.zero_le _), r11_3, (Qal.refl [g11] W3), (Puts.ext p3 (Ext.tr x1 e2) b11)⟩ fun s1 X1 V1 hI1 => ?_
 obtain ⟨i, hs1⟩ : ∃ z, z = s1 := ⟨_, rfl⟩
 subst hs1
 obtain ⟨hi, q11_1, kk1, xx1⟩ := hI1
 replace hi : i ≤ n - pl := hi
 replace q11_1 : V1.heap[g11]? = some (.cells (ints .u8 (itV sec i)) 23) := q11_1
 replace kk1 : Qal [g11] W3 V1 := kk1
 replace xx1 : Ext w V1 := xx1
 have q4 := kk1
 refine sgB kj ?_
 refine wp_seq_k fun K15 hK15 => ?_
 refine Qa5 (t := decide (((i : Nat) : Int) < ((n - pl : Nat) : Int))) kj (fun c16 => ?_) (fun c16 => ?_)
 ·skip
  have hlt31 : i < (n - pl) := by have := of_decide_eq_true c16; omega
  refine wp_skip ?_
  refine hK15 _ _ ?_
  refine wp_seq_k fun K17 hK17 => ?_
  refine wp_block ?_
  refine Qad ?_
  refine Qaa (.agg (ints .u8 (itV sec i))) 32 rfl kj (Qaw 23 _ g11 23 _ _ q11_1 rfl kj kj (isz (n := 32) kj ((Qac _ _).trans (Qaz hsec i)))) ?_
  have r2_1 := (Qab hc e1)
  have r2_2 := (Qab r2_1 e2)
  have r2_3 := (Puts.row p3 r2_2 (Qaf r2_1 l11))
  have r2_4 := (Qal.row q4 r2_3 (Qau (Qaf r2_1 l11) QaG))
  have r3_1 := (Qab hq e1)
  have r3_2 := (Qab r3_1 e2)
  have r3_3 := (Puts.row p3 r3_2 (Qaf r3_1 l11))
  have r3_4 := (Qal.row q4 r3_3 (Qau (Qaf r3_1 l11) QaG))
  refine Qax (.agg (ints .u8 (itV sec (i + 1)))) 46 #[.agg (ints .u8 (itV sec i))] 33 rfl kj kj (Qej (itV sec i) tc tq _ r2_4 r3_4 (Qaz hsec _) (Qbj hsb _)) fun W5 e5 => ?_
  have x5 := Ext.tr xx1 e5
  have r11_5 := (Qab q11_1 e5)
  refine Qai g11 _ (ints .u8 (itV sec (i + 1))) 23 r11_5 rfl kj (Qaq 23 _ _ g11 23 _ _ r11_5 rfl kj kj (isz (n := 32) kj ((Qac _ _).trans (Qaz hsec (i + 1)))) (eqsz (n := 32) ((Qac _ _).trans (Qaz hsec i)) ((Qac _ _).trans (Qaz hsec (i + 1)))) (Qa2 _ _)) fun W6 p6 r11_6 => ?_
  have x6 := Puts.ext p6 x5 b11
  refine Qaj ?_
  refine hK17 _ _ ?_
  refine Qad ?_
  refine Qaa (.int .i64 ((i + 1 : Nat) : Int)) 34 rfl kj (Qag (u := .int .i64 (IntKind.i64.wrap (((i : Nat) : Int) + 1))) kj (congrArg (Value.int .i64) (i64n _ _ (by omega) (by omega)))) ?_
  refine sg 1 kj ?_
  refine Qaj ?_
  repeat (first | with_reducible refine goX1 ?_ | with_reducible refine goX2 ?_ | with_reducible refine goX3 ?_)
  exact Qa4 (i + 1) ⟨kj, kj, kj, kj, kj, kj, trivial⟩ ⟨(by omega), r11_6, (Qal.puts (Qal.step q4 e5) p6 (.inl (by simp))), x6⟩ (by omega)
 ·skip
  have heq31 : i = (n - pl) := by have := of_decide_eq_false c16; omega
  have r11_4_18 : V1.heap[g11]? = some (.cells (ints .u8 (itV sec (n - pl))) 23) := QaV q11_1 (by rw [heq31])
  refine wp_exit ?_
  refine hK12 _ _ ?_
  refine sgC fun K19 hK19 => ?_
  refine Qaa (.agg (ints .u8 (itV sec (n - pl)))) 35 rfl kj (Qaw 23 _ g11 23 _ _ r11_4_18 rfl kj kj (isz (n := 32) kj ((Qac _ _).trans (Qaz hsec (n - pl))))) ?_
  have r2_1 := (Qab hc e1)
  have r2_2 := (Qab r2_1 e2)
  have r2_3 := (Puts.row p3 r2_2 (Qaf r2_1 l11))
  have r2_4 := (Qal.row q4 r2_3 (Qau (Qaf r2_1 l11) QaG))
  have r3_1 := (Qab hq e1)
  have r3_2 := (Qab r3_1 e2)
  have r3_3 := (Puts.row p3 r3_2 (Qaf r3_1 l11))
  have r3_4 := (Qal.row q4 r3_3 (Qau (Qaf r3_1 l11) QaG))
  refine Qax (.agg (ints .u8 (keyV (itV sec (n - pl))))) 45 #[.agg (ints .u8 (itV sec (n - pl)))] 36 rfl kj kj (QhG (itV sec (n - pl)) tc tq _ r2_4 r3_4 (Qaz hsec _) (Qbj hsb _)) fun W5 e5 => ?_
  have x5 := Ext.tr xx1 e5
  refine sg 1 kj ?_
  refine Qa8 (fun v W' => (QcJ W5.heap.size ((n : Nat) : Int) (keyV (itV sec (n - pl)))) v W' ∧ Ext W5 W') 48 #[.agg (ints .u8 (keyV (itV sec (n - pl)))), .int .i64 ((n : Nat) : Int)] 38 rfl kj kj ((Qkx (keyV (itV sec (n - pl))) ((n : Nat) : Int) _ (QaF _)).mono (by rintro e w' ⟨v, rfl, e1, hv⟩; exact ⟨v, rfl, hv, e1⟩)) fun vv20 W6 hh20 => ?_
  obtain ⟨hv20, e6⟩ := hh20
  have x6 := Ext.tr x5 e6
  obtain ⟨u21, rfl, hu21⟩ := hv20
  obtain ⟨a21_, c21_, rfl, -⟩ := id (OwnN.rd hu21)
  have r7_5 := (Qab (Qal.row q4 (Puts.row p3 (Qab r7_1 e2) (Qaf r7_1 l11)) (Qau (Qaf r7_1 l11) QaG)) e5)
  have r7_6 := (Qab r7_5 e6)
  refine Qai g7 _ (cat [#[.int .i64 ((n : Nat) : Int)], ints .u8 ((keyV (itV sec (n - pl))).take 32), #[.slice a21_ (((keyV (itV sec (n - pl))).drop 32).length) c21_]]) 40 r7_6 rfl kj (Qaq 40 _ _ g7 40 _ _ r7_6 rfl kj kj (isz (n := 34) kj (by rw [Qae, Qae, Qae]; simp only [Array.size_append, cat, ((Qac _ _).trans (QaW (QaF _)))]; rfl)) (eqsz (n := 34) (by rw [Qae, Qae, Qae]; simp only [Array.size_append, cat, ((Qac _ _).trans (List.length_replicate (n := 32)))]; rfl) (by rw [Qae, Qae, Qae]; simp only [Array.size_append, cat, ((Qac _ _).trans (QaW (QaF _)))]; rfl)) (QbG _ (by intro a ha; simp only [List.mem_cons, List.not_mem_nil, or_false] at ha; rcases ha with rfl | rfl | rfl; exact (QaU _ rfl); exact (Qa2 _ _); exact (QaU _ rfl)))) fun W7 p7 r7_7 => ?_
  refine sgN hK19 ?_
  refine wp_ret ?_
  repeat (first | with_reducible refine goR1 ?_ | with_reducible refine goR2 ?_)
  exact (show bodyPost _ _ _ .ret _ _ from ret1 (.agg (cat [#[.int .i64 ((n : Nat) : Int)], ints .u8 ((keyV (itV sec (n - pl))).take 32), #[.slice a21_ (((keyV (itV sec (n - pl))).drop 32).length) c21_]])) rfl (QaR g7 40 _ r7_7 kj kj (isz (n := 34) kj (by rw [Qae, Qae, Qae]; simp only [Array.size_append, cat, ((Qac _ _).trans (QaW (QaF _)))]; rfl))) ⟨_, rfl, (Puts.ext p7 x6 (Nat.le_trans (Rely.Ext.refl w).size l7)), _, rfl, OwnN.base x5.size (hu21.puts p7 (QcL hu21 (Qat r7_5)))⟩)
end Go.Proofs.YtibegnjaphohaaaDoor.Cn
end
section
namespace Go.Proofs.YtibegnjaphohaaaDoor.Cn
open Go Go.RowKit
open Rely Auto Own Sha
set_option linter.unusedVariables false
set_option linter.unusedSimpArgs false
theorem nb_nil {v : Value} : ∀ c ∈ ([] : List Nat), v.ownBlock ≠ some c := fun _ h => by simp at h
theorem nb_cons {v : Value} {g : Nat} {gs : List Nat} (h : v.ownBlock ≠ some g) (h2 : ∀ c ∈ gs, v.ownBlock ≠ some c) : ∀ c ∈ g :: gs, v.ownBlock ≠ some c := fun c hc => by
  rcases List.mem_cons.1 hc with e | e
  · rw [e]; exact h
  · exact h2 c e
theorem _root_.Go.Proofs.YtibegnjaphohaaaDoor.Auto.OwnN.keepsL {k : IntKind} {T : TypeId} {base : Nat} {gs : List Nat} {xs : List Int} {v : Value} {V W : World} (h : OwnN k T base xs v V) (q : Qal gs V W) (hn : ∀ c ∈ gs, v.ownBlock ≠ some c) : OwnN k T base xs v W :=
  h.keep fun g hg => q.block g (h.lt hg) (fun hm => hn g hm hg)
theorem run_extractT {P : Program} {ρ : Operand → Value} {o : Oper} {w : World} (x : Operand) (i : Nat) (vs : Array Value) (u : Value) (ho : o.op = .extract x i) (hx : ρ x = .tuple vs) (hi : vs[i]? = some u) : (execOp ρ o).run P w = .ok (.value u) w := by
  unfold execOp
  simp [ho, hx, Instr.extract, hi]
theorem QcM {k : IntKind} {T : TypeId} {base g : Nat} {xs : List Int} {v : Value} {W : World} (h : OwnN k T base xs v W) (hg : W.heap.size ≤ g) : v.ownBlock ≠ some g := fun e => by have := h.lt e; omega
section
variable {P : Program} {ρ : Operand → Value} {o : Oper} {w : World}
theorem Qet (t : TypeId) (x : Operand) {kt et : TypeId} {g : Nat} {es : Array MapEntry} {clock : Nat} (ho : o.op = .range t x) (hx : ρ x = .map (some g)) (ht : P.underlying t = some (.map kt et)) (hg : w.heap[g]? = some (.map es clock)) :
    (execOp ρ o).run P w = .ok (.value (.pointer (some ⟨w.heap.size, 0, none⟩))) (w.alloc (.mapIter (some g) clock #[] clock)) := by
  have hgo : (getObj g).run P w = .ok (.map es clock) w := by simp [getObj, Sem.run, hg]
  unfold execOp
  simp only [ho, hx, Instr.range, Sem.run_bind, run_underlying ht, hgo, Result.andThen_ok, Sem.run_pure, run_newObj_alloc]
theorem Qfg (x : Operand) {r : Nat} {v : Value} {w1 : World} (ho : o.op = .next x false) (hx : ρ x = .pointer (some ⟨r, 0, none⟩)) (h : (Instr.next (.pointer (some ⟨r, 0, none⟩)) false o.type).run P w = .ok v w1) : (execOp ρ o).run P w = .ok (.value v) w1 := by
  unfold execOp
  simp only [ho, hx, Sem.run_bind, h, Result.andThen_ok, Sem.run_pure]
theorem Qeu (x : Operand) {r : Nat} {v : Value} (ho : o.op = .entry x) (hx : ρ x = .pointer (some ⟨r, 0, none⟩)) (h : (Instr.entry (.pointer (some ⟨r, 0, none⟩))).run P w = .ok v w) : (execOp ρ o).run P w = .ok (.value v) w := by
  unfold execOp
  simp only [ho, hx, Sem.run_bind, h, Result.andThen_ok, Sem.run_pure]
end
section
variable {ds : List Deferred} {P : Program} {ops : Array Oper} {Q : Exit → Act → World → Prop} {rest : List Oper} {o : Oper} {N : Nat} {L : Env} {w : World}
theorem QfZ (ob : Obj) (mk : Nat → Value) (d : Nat) (hd : o.dst = some d) (hg : Qbq ops o N L = some true) (h : (execOp (Rely.look (envN N L)) o).run P w = .ok (.value (mk w.heap.size)) (w.alloc ob))
    (k : ∀ (g : Nat) (W : World), w.heap.size ≤ g → Ext w W → W.heap[g]? = some ob → WL P ops Q rest (Qav ds N ((d, mk g) :: L)) W) : WL P ops Q (o :: rest) (Qav ds N L) w :=
  Qbr _ _ d hd hg h (k _ _ (Nat.le_refl _) (QbF _ _) (heap_alloc_new _ _))
theorem Qes (v : Value) (w' : World) (hd : o.dst = none) (hg : Qbq ops o N L = some true) (h : (execOp (Rely.look (envN N L)) o).run P w = .ok (.value v) w') (k : WL P ops Q rest (Qav ds N L) w') : WL P ops Q (o :: rest) (Qav ds N L) w :=
  Qer hg fun K hK => by
    rw [h]
    show K _ _
    rw [hd, show (Qav ds N L).put none v = Qav ds N L from rfl]
    exact hK _ _ k
theorem Qga (m k : Operand) (t : TypeId) {kt et : TypeId} {g : Nat} {n : Int} {ms : List (Int × Value)} (ho : o.op = .call { callee := .builtin .delete, args := #[m, k], argTypes := #[t, kt] }) (hm : Rely.look (envN N L) m = .map (some g)) (hk : Rely.look (envN N L) k = .int .i64 n)
    (ht : P.underlying t = some (.map kt et)) (hkt : P.underlying kt = some (.int .i64)) (h : MpAt g ms w) (hd : o.dst = none) (hg : Qbq ops o N L = some true)
    (kk : ∀ W', Puts w g W' → MpAt g (ms.filter fun p => p.1 != n) W' → WL P ops Q rest (Qav ds N L) W') : WL P ops Q (o :: rest) (Qav ds N L) w := by
  obtain ⟨W', h1, h2, h3⟩ := Qis (ρ := Rely.look (envN N L)) (o := o) m k t ho hm hk ht hkt h
  exact Qes _ _ hd hg h1 (kk W' h2 h3)
theorem Qfc (m k : Operand) (t : TypeId) {kt et : TypeId} {g r : Nat} {lim x : Int} {es0 : Array MapEntry} {c : Nat} {sn : Array Nat} {e : MapEntry} {m0 : List (Int × Value)} (hM : MpW es0 c m0) (ho : o.op = .call { callee := .builtin .delete, args := #[m, k], argTypes := #[t, kt] }) (hm : Rely.look (envN N L) m = .map (some g)) (hk : Rely.look (envN N L) k = .int .i64 x)
    (ht : P.underlying t = some (.map kt et)) (hkt : P.underlying kt = some (.int .i64)) (h : QcC g r lim es0 c sn e w) (hx : e.key = .int .i64 x) (hl : x < lim) (hd : o.dst = none) (hg : Qbq ops o N L = some true)
    (kk : ∀ W', Puts w g W' → Qc0 g r lim es0 c (sn.push e.born) W' → WL P ops Q rest (Qav ds N L) W') : WL P ops Q (o :: rest) (Qav ds N L) w := by
  obtain ⟨W', h1, h2, h3⟩ := h.drop hM hx hl (P := P) (ty := o.type) ht hkt
  have hr : (execOp (Rely.look (envN N L)) o).run P w = .ok (.value (.tuple #[])) W' := Qhu m k t kt ho hm hk h1
  exact Qes _ _ hd hg hr (kk W' h2 h3)
theorem Qfb (x : Operand) {g r : Nat} {lim : Int} {es0 : Array MapEntry} {c : Nat} {sn : Array Nat} {m0 : List (Int × Value)} (hM : MpW es0 c m0) (ho : o.op = .next x false) (hx : Rely.look (envN N L) x = .pointer (some ⟨r, 0, none⟩)) (h : Qc0 g r lim es0 c sn w) (d : Nat) (hd : o.dst = some d) (hg : Qbq ops o N L = some true)
    (k0 : MpAt g (m0.filter fun p => decide (lim ≤ p.1)) w → WL P ops Q rest (Qav ds N ((d, .tuple #[.bool false]) :: L)) w)
    (k1 : ∀ (e : MapEntry) (y : Int) (W : World), e.key = .int .i64 y → Puts w r W → QcC g r lim es0 c sn e W → (Instr.entry (.pointer (some ⟨r, 0, none⟩))).run P W = .ok (.tuple #[.int .i64 y, e.val]) W → WL P ops Q rest (Qav ds N ((d, .tuple #[.bool true, .int .i64 y, e.val]) :: L)) W) : WL P ops Q (o :: rest) (Qav ds N L) w := by
  rcases h.next hM (P := P) o.type with ⟨h1, h2⟩ | ⟨e, y, W, h1, h2, h3, h4, h5⟩
  · exact Qbr _ _ d hd hg (Qfg x ho hx h1) (k0 h2)
  · exact Qbr _ _ d hd hg (Qfg x ho hx h2) (k1 e y W h1 h3 h4 h5)
end
theorem retG {P : Program} {f : FuncId} {a : Array Value} {w : World} {v : Value} (h : Calls P f a w (Ret w v)) : Calls P f a w (QbH w fun u _ => u = v) := h.mono fun e W hh => ⟨v, hh.1, hh.2, rfl⟩
def msNo (ms : List (Int × List Int)) (n : Int) : List (Int × List Int) := ms.filter fun p => p.1 != n
def QfO (ms : List (Int × List Int)) (lim : Int) : List (Int × List Int) := ms.filter fun p => decide (lim ≤ p.1)
def QbM (sec : List Int) (pl n : Nat) : Nat → List (Int × List Int)
  | 0 => []
  | k + 1 => QbM sec pl n k ++ (if pl + k < n ∧ n ≤ pl + k + 64 then [(((pl + k : Nat) : Int), keyV (itV sec k))] else [])
theorem Qg4 (sec : List Int) (pl n : Nat) : ∀ k, ∀ p ∈ QbM sec pl n k, ((pl : Nat) : Int) ≤ p.1 ∧ p.1 < ((pl + k : Nat) : Int)
  | 0, p, h => by cases h
  | k + 1, p, h => by
    rw [QbM, List.mem_append] at h
    rcases h with h | h
    · have := Qg4 sec pl n k p h; omega
    · split at h
      · rw [List.mem_singleton] at h; subst h; simp only; omega
      · cases h
theorem Qg3 {sec : List Int} {pl n k : Nat} (h : pl + k < n ∧ n ≤ pl + k + 64) : QbM sec pl n (k + 1) = QbM sec pl n k ++ [(((pl + k : Nat) : Int), keyV (itV sec k))] := by rw [QbM, if_pos h]
theorem QeW {sec : List Int} {pl n k : Nat} (h : ¬ (pl + k < n ∧ n ≤ pl + k + 64)) : QbM sec pl n (k + 1) = QbM sec pl n k := by rw [QbM, if_neg h, List.append_nil]
theorem QcH (q : Int → Bool) (ms : List (Int × List Int)) : (ms.map mpv).filter (fun p => q p.1) = (ms.filter fun p => q p.1).map mpv := QdG mpv (fun p => q p.1) ms
theorem QhC {ms : List (Int × List Int)} {sec : List Int} {pl n k : Nat} (hlt : ∀ p ∈ ms, p.1 < ((pl : Nat) : Int)) : ((pl + k : Nat) : Int) ∉ ((ms ++ QbM sec pl n k).map mpv).map Prod.fst := fun h => by
  rw [List.map_map, List.mem_map] at h
  obtain ⟨p, hp, he⟩ := h
  rw [List.mem_append] at hp
  have he' : p.1 = ((pl + k : Nat) : Int) := he
  rcases hp with hp | hp
  · have := hlt p hp; omega
  · have := (Qg4 sec pl n k p hp).2; omega
theorem Qfu {ms : List (Int × List Int)} {pl : Nat} {n : Int} (hlt : ∀ p ∈ ms, p.1 < ((pl : Nat) : Int)) : ∀ p ∈ msNo ms n, p.1 < ((pl : Nat) : Int) := fun p hp => hlt p (List.mem_filter.1 hp).1
theorem QeC {g r : Nat} {lim : Int} {es0 : Array MapEntry} {c : Nat} {sn : Array Nat} {e : MapEntry} {W W' : World} (h : QcC g r lim es0 c sn e W) (x : Ext W W') : QcC g r lim es0 c sn e W' := by
  obtain ⟨es, h1, h2, h3, h4⟩ := h
  exact ⟨es, h1, Qab h2 x, Qab h3 x, h4⟩
theorem Qgk (a b : Nat) (ha : a < 18446744073709551616) (hb : b < 18446744073709551616) : a ||| b < 18446744073709551616 := Nat.or_lt_two_pow (n := 64) ha hb
set_option maxHeartbeats 4000000 in
theorem Qko (g : Nat) (nx : Int) (B : Nat) (hnx : 0 ≤ nx ∧ nx ≤ 4294967295) (hB : B < 18446744073709551616) (sec : List Int) (pl mg : Nat) (hsec : sec.length = 32) (w : World) (hg : w.heap[g]? = some (.cells (cat [#[.int .i64 nx], #[.int .u64 ((B : Nat) : Int)], ints .u8 (sec), #[.int .i64 ((pl : Nat) : Int)], #[.map (some mg)]]) 84)) (ms : List (Int × List Int)) (hmo : MsOk ms) (hmp : MpAt mg (ms.map mpv) w) (tc tq : TypeId) (hc : w.heap[2]? = some (.cells (ints .u64 QaI) tc)) (hq : w.heap[1]? = some (.cells (ints .u64 Qak) tq)) (hsb : Qao sec) (n : Nat) (hm : n ≤ 4294967294) (hp : pl ≤ 4294967295) (hlt0 : ∀ p ∈ ms, p.1 < ((pl : Nat) : Int)) (hcg : 2 ≠ g) (hsg : 1 ≠ g) (hc0 : chkW nx B ((n : Nat) : Int) = 0) (hn : n < pl) (j : Nat) (hj : nx - 1 - ((n : Nat) : Int) - 1 = (j : Int)) (hj2 : j < 64) : Calls Tryd.prog 33 #[.pointer (some ⟨g, 0, none⟩), .int .i64 ((n : Nat) : Int)] w (fun e W => ∃ v, e = .returned (.tuple #[v, .nilIface]) ∧ Qal [g, mg] w W ∧ W.heap[g]? = some (.cells (cat [#[.int .i64 nx], #[.int .u64 ((B ||| 2 ^ j : Nat) : Int)], ints .u8 (itV sec (n + 1 - pl)), #[.int .i64 ((pl + (n + 1 - pl) : Nat) : Int)], #[.map (some mg)]]) 84) ∧ MpAt mg ((QfO ((msNo ms ((n : Nat) : Int)) ++ QbM sec pl n (n + 1 - pl)) (nx - 1 - 64)).map mpv) W ∧ QcJ w.heap.size ((n : Nat) : Int) (lget ms ((n : Nat) : Int)) v W) := by
 have hcm := MpAt.ne hmp hc
 have hsm := MpAt.ne hmp hq
 have hgm := MpAt.ne hmp hg
 have hl_g := Qat hg
 have hl_mg := MpAt.lt hmp
 obtain ⟨es5, cl5, hes5, hM5⟩ := id hmp
 refine enter 97 [(0, .pointer (some ⟨g, 0, none⟩)), (1, .int .i64 ((n : Nat) : Int))] Tryd.func33 rfl rfl kj rfl ?_
 refine sgC fun K6 hK6 => ?_
 refine Qar (cat [#[.int .i64 0], ints .u8 (List.replicate 32 0), #[.slice none 0 0]]) 40 4 rfl kj kj fun g7 W1 l7 e1 r7_1 => ?_
 have x1 : Qal [g, mg] w W1 := Qal.step (Qal.refl [g, mg] w) e1
 have b7 := Nat.le_trans (Qal.refl [g, mg] w).size l7
 refine sg 1 kj ?_
 refine sgN hK6 ?_
 refine sgC fun K8 hK8 => ?_
 refine sg 2 kj ?_
 have r2_1 := (Qab hc e1)
 have r3_1 := (Qab hq e1)
 have r1_1 := (Qab hg e1)
 have r4_1 := (Qab hes5 e1)
 refine Qa8 (fun v W' => (QcJ W1.heap.size ((n : Nat) : Int) (lget ms ((n : Nat) : Int))) v W' ∧ Ext W1 W') 34 #[.pointer (some ⟨g, 0, none⟩), .int .i64 ((n : Nat) : Int)] 11 rfl kj kj ((Qk4 g nx B hnx hB sec pl mg hsec _ r1_1 ms hmo ⟨_, _, r4_1, hM5⟩ tc tq r2_1 r3_1 hsb ((n : Nat) : Int) (by omega)).mono (by rintro e w' ⟨v, rfl, e1, hv⟩; exact ⟨v, rfl, hv, e1⟩)) fun vv9 W2 hh9 => ?_
 obtain ⟨hv9, e2⟩ := hh9
 have x2 : Qal [g, mg] w W2 := Qal.step x1 e2
 obtain ⟨u10, rfl, hu10⟩ := hv9
 obtain ⟨a10_, c10_, rfl, -⟩ := id (OwnN.rd hu10)
 have nbg := QcL hu10 (Qat r1_1)
 have nbm := QcL hu10 (Qat r4_1)
 refine Qar (cat [#[.int .i64 0], ints .u8 (List.replicate 32 0), #[.slice none 0 0]]) 40 6 rfl kj kj fun g11 W3 l11 e3 r11_3 => ?_
 have x3 : Qal [g, mg] w W3 := Qal.step x2 e3
 have b11 := Nat.le_trans x2.size l11
 refine Qai g11 _ (cat [#[.int .i64 ((n : Nat) : Int)], ints .u8 ((lget ms ((n : Nat) : Int)).take 32), #[.slice a10_ (((lget ms ((n : Nat) : Int)).drop 32).length) c10_]]) 40 r11_3 rfl kj (Qaq 40 _ _ g11 40 _ _ r11_3 rfl kj kj (isz (n := 34) kj (by rw [Qae, Qae, Qae]; simp only [Array.size_append, cat, ((Qac _ _).trans (QaW (Qch hmo _).1))]; rfl)) (eqsz (n := 34) (by rw [Qae, Qae, Qae]; simp only [Array.size_append, cat, ((Qac _ _).trans (List.length_replicate (n := 32)))]; rfl) (by rw [Qae, Qae, Qae]; simp only [Array.size_append, cat, ((Qac _ _).trans (QaW (Qch hmo _).1))]; rfl)) (QbG _ (by intro a ha; simp only [List.mem_cons, List.not_mem_nil, or_false] at ha; rcases ha with rfl | rfl | rfl; exact (QaU _ rfl); exact (Qa2 _ _); exact (QaU _ rfl)))) fun W4 p4 r11_4 => ?_
 have x4 : Qal [g, mg] w W4 := Qal.puts x3 p4 (.inr b11)
 refine sgN hK8 ?_
 refine wp_seq_k fun K12 hK12 => ?_
 refine sgC fun K13 hK13 => ?_
 refine sg 4 kj ?_
 refine Qa8 (fun v W' => v = .nilIface ∧ ExtB g W4 W' ∧ W'.heap[g]? = some (.cells (cat [#[.int .i64 nx], #[.int .u64 ((B ||| 2 ^ j : Nat) : Int)], ints .u8 (sec), #[.int .i64 ((pl : Nat) : Int)], #[.map (some mg)]]) 84)) 44 #[.pointer (some ⟨g, 0, none⟩), .int .i64 ((n : Nat) : Int)] 16 rfl kj kj ((Qlp g nx B ((n : Nat) : Int) hnx hB sec pl mg hsec _ (Puts.row p4 (Qab (Qab r1_1 e2) e3) (Nat.ne_of_lt (Nat.lt_of_lt_of_le hl_g b11))) hc0 j hj hj2).mono fun e w' ⟨h1, h2, h3⟩ => ⟨_, h1, rfl, h2, h3⟩) fun v W5 h => ?_
 obtain ⟨rfl, q5, r1_5⟩ := h
 have x5 : Qal [g, mg] w W5 := Qal.but x4 q5 (.inl (by simp))
 refine sg 1 kj ?_
 refine sgN hK13 ?_
 refine sgB kj ?_
 refine cond_false kj ?_
 refine wp_skip ?_
 refine hK12 _ _ ?_
 refine sgC fun K15 hK15 => ?_
 refine sg 3 kj ?_
 refine Qaa (.map (some mg)) 24 rfl kj (Qah 82 _ g 35 84 _ (.map (some mg)) _ r1_5 rfl kj (Qa0 [#[.int .i64 nx], #[.int .u64 ((B ||| 2 ^ j : Nat) : Int)], ints .u8 (sec), #[.int .i64 ((pl : Nat) : Int)]] [#[.map (some mg)]] [] 35 (by rw [Qae, Qae, Qae, Qae]; simp only [Array.size_append, cat, ((Qac _ _).trans hsec)]; rfl) 0 _ rfl) kj) ?_
 refine sg 1 kj ?_
 refine Qga (n := ((n : Nat) : Int)) (.tmp 24) (.tmp 25) 82 (kt := 3) (et := 93) rfl kj kj kj kj ⟨_, _, (ExtB.row q5 (Puts.row p4 (Qab (Qab r4_1 e2) e3) (Nat.ne_of_lt (Nat.lt_of_lt_of_le hl_mg b11))) (Ne.symm hgm)), hM5⟩ rfl kj fun W6 p6 hmp => ?_
 have x6 : Qal [g, mg] w W6 := Qal.puts x5 p6 (.inl (by simp))
 replace hmp : MpAt mg ((msNo ms ((n : Nat) : Int)).map mpv) W6 := by have h9 := hmp; rw [QcH (fun x => x != ((n : Nat) : Int))] at h9; exact h9
 obtain ⟨es16, cl16, hes16, hM16⟩ := id hmp
 refine sgN hK15 ?_
 refine wp_seq_k fun K17 hK17 => ?_
 refine wp_block ?_
 have n_7_1 : g7 ≠ g := (Ne.symm (Nat.ne_of_lt (Nat.lt_of_lt_of_le hl_g b7)))
 have n_7_4 : g7 ≠ mg := (Ne.symm (Nat.ne_of_lt (Nat.lt_of_lt_of_le hl_mg b7)))
 have n_11_1 : g11 ≠ g := (Ne.symm (Nat.ne_of_lt (Nat.lt_of_lt_of_le hl_g b11)))
 have n_11_4 : g11 ≠ mg := (Ne.symm (Nat.ne_of_lt (Nat.lt_of_lt_of_le hl_mg b11)))
 refine Qa9 (fun (s1 : Nat) => [(0, .pointer (some ⟨g, 0, none⟩)), (1, .int .i64 ((n : Nat) : Int)), (4, .pointer (some ⟨g7, 0, none⟩)), (5, .nilIface), (6, .pointer (some ⟨g11, 0, none⟩)), (7, .nilIface)]) (fun (s1 : Nat) W => (s1 ≤ n + 1 - pl) ∧ (MpAt mg (((msNo ms ((n : Nat) : Int)) ++ QbM sec pl n s1).map mpv) W) ∧ (W.heap[g]? = some (.cells (cat [#[.int .i64 nx], #[.int .u64 ((B ||| 2 ^ j : Nat) : Int)], ints .u8 (itV sec s1), #[.int .i64 ((pl + s1 : Nat) : Int)], #[.map (some mg)]]) 84)) ∧ (Qal [g, mg] W6 W) ∧ (Qal [g, mg] w W)) (fun (s1 : Nat) => n + 1 - pl - s1) 0 ⟨kj, kj, kj, kj, kj, kj, trivial⟩ ⟨(Nat.zero_le _), (by show MpAt mg (((msNo ms ((n : Nat) : Int)) ++ []).map mpv) _; rw [List.append_nil]; exact ⟨_, _, hes16, hM16⟩), (Puts.row p6 r1_5 hgm), (Qal.refl [g, mg] W6), x6⟩ fun s1 X1 V1 hI1 => ?_
 obtain ⟨k, hs1⟩ : ∃ z, z = s1 := ⟨_, rfl⟩
 subst hs1
 obtain ⟨hk, hmp, q1_1, kk1, xx1⟩ := hI1
 replace hk : k ≤ n + 1 - pl := hk
 replace hmp : MpAt mg (((msNo ms ((n : Nat) : Int)) ++ QbM sec pl n k).map mpv) V1 := hmp
 replace q1_1 : V1.heap[g]? = some (.cells (cat [#[.int .i64 nx], #[.int .u64 ((B ||| 2 ^ j : Nat) : Int)], ints .u8 (itV sec k), #[.int .i64 ((pl + k : Nat) : Int)], #[.map (some mg)]]) 84) := q1_1
 replace kk1 : Qal [g, mg] W6 V1 := kk1
 replace xx1 : Qal [g, mg] w V1 := xx1
 have q7 := kk1
 obtain ⟨es18, cl18, hes18, hM18⟩ := id hmp
 have hkp : pl + k ≤ 4294967295 := by omega
 refine wp_seq_k fun K19 hK19 => ?_
 refine sgC fun K20 hK20 => ?_
 refine sg 3 kj ?_
 refine Qaa (.int .i64 ((pl + k : Nat) : Int)) 29 rfl kj (Qah 3 _ g 34 84 _ (.int .i64 ((pl + k : Nat) : Int)) _ q1_1 rfl kj (Qa0 [#[.int .i64 nx], #[.int .u64 ((B ||| 2 ^ j : Nat) : Int)], ints .u8 (itV sec k)] [#[.int .i64 ((pl + k : Nat) : Int)]] [#[.map (some mg)]] 34 (by rw [Qae, Qae, Qae]; simp only [Array.size_append, cat, ((Qac _ _).trans (Qaz hsec k))]; rfl) 0 _ rfl) kj) ?_
 refine sg 2 kj ?_
 refine sgN hK20 ?_
 refine Qa5 (t := decide (((pl + k : Nat) : Int) ≤ ((n : Nat) : Int))) kj (fun c21 => ?_) (fun c21 => ?_)
 ·skip
  have hlt : pl + k ≤ n := by have := of_decide_eq_true c21; omega
  refine wp_skip ?_
  refine hK19 _ _ ?_
  refine wp_block ?_
  refine wp_seq_k fun K22 hK22 => ?_
  refine wp_seq_k fun K23 hK23 => ?_
  rcases (show (pl + k < n ∧ n ≤ pl + k + 64) ∨ (pl + k < n ∧ pl + k + 64 < n) ∨ pl + k = n by omega) with hcc | hcc | hcc
  ·skip
   refine Qad ?_
   refine sg 3 kj ?_
   refine Qaa (.int .i64 ((pl + k : Nat) : Int)) 35 rfl kj (Qah 3 _ g 34 84 _ (.int .i64 ((pl + k : Nat) : Int)) _ q1_1 rfl kj (Qa0 [#[.int .i64 nx], #[.int .u64 ((B ||| 2 ^ j : Nat) : Int)], ints .u8 (itV sec k)] [#[.int .i64 ((pl + k : Nat) : Int)]] [#[.map (some mg)]] 34 (by rw [Qae, Qae, Qae]; simp only [Array.size_append, cat, ((Qac _ _).trans (Qaz hsec k))]; rfl) 0 _ rfl) kj) ?_
   refine sg 1 kj ?_
   refine Qaa (.bool true) 37 rfl kj (Qag (u := .bool (decide (((pl + k : Nat) : Int) < ((n : Nat) : Int)))) kj (congrArg Value.bool (decide_eq_true (by omega)))) ?_
   refine sg 4 kj ?_
   refine Qaa (.int .i64 ((pl + k : Nat) : Int)) 42 rfl kj (Qah 3 _ g 34 84 _ (.int .i64 ((pl + k : Nat) : Int)) _ q1_1 rfl kj (Qa0 [#[.int .i64 nx], #[.int .u64 ((B ||| 2 ^ j : Nat) : Int)], ints .u8 (itV sec k)] [#[.int .i64 ((pl + k : Nat) : Int)]] [#[.map (some mg)]] 34 (by rw [Qae, Qae, Qae]; simp only [Array.size_append, cat, ((Qac _ _).trans (Qaz hsec k))]; rfl) 0 _ rfl) kj) ?_
   refine sg 1 kj ?_
   refine Qaa (.int .i64 (((n : Nat) : Int) - 64)) 44 rfl kj (Qag (u := .int .i64 (IntKind.i64.wrap (((n : Nat) : Int) - 64))) kj (congrArg (Value.int .i64) (Qbw _ (by omega)))) ?_
   refine Qaa (.bool true) 45 rfl kj (Qag (u := .bool (decide (((pl + k : Nat) : Int) ≥ (((n : Nat) : Int) - 64)))) kj (congrArg Value.bool (decide_eq_true (by omega)))) ?_
   refine sg 1 kj ?_
   refine sgN hK23 ?_
   refine cond_true kj ?_
   refine Go.Proofs.YtibegnjaphohaaaDoor.Wm.region_walkM (fun W => W.heap[g]? = some (.cells (cat [#[.int .i64 nx], #[.int .u64 ((B ||| 2 ^ j : Nat) : Int)], ints .u8 (itV sec k), #[.int .i64 ((pl + k : Nat) : Int)], #[.map (some mg)]]) 84)) 13 kj fun W8 e8 => ⟨Qab q1_1 e8, ?_⟩
   have x8 : Qal [g, mg] w W8 := Qal.step xx1 e8
   refine Go.Proofs.YtibegnjaphohaaaDoor.Wm.wm_val 0 (.pointer (some ⟨g, 0, none⟩)) 47 rfl rfl kj kj (by decide) kj (fun _ _ _ h => h) (fun W hR => by kernel_rfl) ?_
   refine Go.Proofs.YtibegnjaphohaaaDoor.Wm.wm_val 1 (.pointer (some ⟨g, 0, none⟩)) 48 rfl rfl kj kj (by decide) kj (fun _ _ _ h => h) (fun W hR => by kernel_rfl) ?_
   refine Go.Proofs.YtibegnjaphohaaaDoor.Wm.wm_val 2 (.pointer (some ⟨g, 35, none⟩)) 49 rfl rfl kj kj (by decide) kj (fun _ _ _ h => h) (fun W hR => by kernel_rfl) ?_
   refine Go.Proofs.YtibegnjaphohaaaDoor.Wm.wm_val 3 (.map (some mg)) 50 rfl rfl kj kj (by decide) kj (fun _ _ _ h => h) (fun W hR => (Qah 82 _ g 35 84 _ (.map (some mg)) _ hR rfl kj (Qa0 [#[.int .i64 nx], #[.int .u64 ((B ||| 2 ^ j : Nat) : Int)], ints .u8 (itV sec k), #[.int .i64 ((pl + k : Nat) : Int)]] [#[.map (some mg)]] [] 35 (by rw [Qae, Qae, Qae, Qae]; simp only [Array.size_append, cat, ((Qac _ _).trans (Qaz hsec k))]; rfl) 0 _ rfl) kj)) ?_
   refine Go.Proofs.YtibegnjaphohaaaDoor.Wm.wm_val 4 (.pointer (some ⟨g, 0, none⟩)) 51 rfl rfl kj kj (by decide) kj (fun _ _ _ h => h) (fun W hR => by kernel_rfl) ?_
   refine Go.Proofs.YtibegnjaphohaaaDoor.Wm.wm_val 5 (.pointer (some ⟨g, 0, none⟩)) 52 rfl rfl kj kj (by decide) kj (fun _ _ _ h => h) (fun W hR => by kernel_rfl) ?_
   refine Go.Proofs.YtibegnjaphohaaaDoor.Wm.wm_val 6 (.pointer (some ⟨g, 34, none⟩)) 53 rfl rfl kj kj (by decide) kj (fun _ _ _ h => h) (fun W hR => by kernel_rfl) ?_
   refine Go.Proofs.YtibegnjaphohaaaDoor.Wm.wm_val 7 (.int .i64 ((pl + k : Nat) : Int)) 54 rfl rfl kj kj (by decide) kj (fun _ _ _ h => h) (fun W hR => (Qah 3 _ g 34 84 _ (.int .i64 ((pl + k : Nat) : Int)) _ hR rfl kj (Qa0 [#[.int .i64 nx], #[.int .u64 ((B ||| 2 ^ j : Nat) : Int)], ints .u8 (itV sec k)] [#[.int .i64 ((pl + k : Nat) : Int)]] [#[.map (some mg)]] 34 (by rw [Qae, Qae, Qae]; simp only [Array.size_append, cat, ((Qac _ _).trans (Qaz hsec k))]; rfl) 0 _ rfl) kj)) ?_
   refine Go.Proofs.YtibegnjaphohaaaDoor.Wm.wm_val 8 (.pointer (some ⟨g, 0, none⟩)) 55 rfl rfl kj kj (by decide) kj (fun _ _ _ h => h) (fun W hR => by kernel_rfl) ?_
   refine Go.Proofs.YtibegnjaphohaaaDoor.Wm.wm_val 9 (.pointer (some ⟨g, 0, none⟩)) 56 rfl rfl kj kj (by decide) kj (fun _ _ _ h => h) (fun W hR => by kernel_rfl) ?_
   refine Go.Proofs.YtibegnjaphohaaaDoor.Wm.wm_val 10 (.pointer (some ⟨g, 2, none⟩)) 57 rfl rfl kj kj (by decide) kj (fun _ _ _ h => h) (fun W hR => by kernel_rfl) ?_
   refine Go.Proofs.YtibegnjaphohaaaDoor.Wm.wm_val 11 (.agg (ints .u8 (itV sec k))) 58 rfl rfl kj kj (by decide) kj (fun _ _ _ h => h) (fun W hR => (QaE 23 _ g 2 84 _ _ _ hR rfl kj (Qa0 [#[.int .i64 nx], #[.int .u64 ((B ||| 2 ^ j : Nat) : Int)]] [ints .u8 (itV sec k)] [#[.int .i64 ((pl + k : Nat) : Int)], #[.map (some mg)]] 2 kj) kj (isz (n := 32) kj ((Qac _ _).trans (Qaz hsec k))))) ?_
   have r1_8 := (Qab q1_1 e8)
   have r2_2 := (Qab r2_1 e2)
   have r2_3 := (Qab r2_2 e3)
   have r2_4 := (Puts.row p4 r2_3 (Qaf r2_2 l11))
   have r2_5 := (ExtB.row q5 r2_4 hcg)
   have r2_6 := (Puts.row p6 r2_5 hcm)
   have r2_7 := (Qal.row q7 r2_6 (Qau hcg (Qau hcm QaG)))
   have r2_8 := (Qab r2_7 e8)
   have r3_2 := (Qab r3_1 e2)
   have r3_3 := (Qab r3_2 e3)
   have r3_4 := (Puts.row p4 r3_3 (Qaf r3_2 l11))
   have r3_5 := (ExtB.row q5 r3_4 hsg)
   have r3_6 := (Puts.row p6 r3_5 hsm)
   have r3_7 := (Qal.row q7 r3_6 (Qau hsg (Qau hsm QaG)))
   have r3_8 := (Qab r3_7 e8)
   refine Go.Proofs.YtibegnjaphohaaaDoor.Wm.wm_call 12 kj rfl (fun v W' => (fun v _ => v = .agg (ints .u8 (keyV (itV sec k)))) v W' ∧ Ext W8 W') 45 #[.agg (ints .u8 (itV sec k))] 59 rfl kj kj ((retG (QhG (itV sec k) tc tq _ r2_8 r3_8 (Qaz hsec k) (Qbj hsb k))).mono (by rintro e w' ⟨v, rfl, e1, hv⟩; exact ⟨v, rfl, hv, e1⟩)) (fun v W h => Qab r1_8 h.2) fun vv24 W9 hh24 => ?_
   obtain ⟨hv24, e9⟩ := hh24
   have x9 : Qal [g, mg] w W9 := Qal.step x8 e9
   subst hv24
   have r1_9 := (Qab r1_8 e9)
   have r4_8 := (Qab hes18 e8)
   have r4_9 := (Qab r4_8 e9)
   refine Go.Proofs.YtibegnjaphohaaaDoor.Wm.wm_last kj kj rfl (fun W' => Puts W9 mg W' ∧ MpAt mg ((((msNo ms ((n : Nat) : Int)) ++ QbM sec pl n k).map mpv) ++ [(((pl + k : Nat) : Int), .agg (ints .u8 (keyV (itV sec k))))]) W') rfl kj (Qgc 82 _ _ _ (kt := 3) (et := 93) rfl kj kj kj kj kj ⟨_, _, r4_9, hM18⟩ (QhC (Qfu hlt0))) fun W10 hh => ?_
   obtain ⟨p10, hmp⟩ := hh
   have x10 : Qal [g, mg] w W10 := Qal.puts x9 p10 (.inl (by simp))
   replace hmp : MpAt mg (((msNo ms ((n : Nat) : Int)) ++ QbM sec pl n (k + 1)).map mpv) W10 := by rw [Qg3 hcc, ← List.append_assoc, List.map_append]; exact hmp
   obtain ⟨es25, cl25, hes25, hM25⟩ := id hmp
   refine hK22 _ _ ?_
   refine sgC fun K26 hK26 => ?_
   refine sg 4 kj ?_
   have r1_10 := (Puts.row p10 r1_9 hgm)
   refine Qaa (.agg (ints .u8 (itV sec k))) 64 rfl kj (QaE 23 _ g 2 84 _ _ _ r1_10 rfl kj (Qa0 [#[.int .i64 nx], #[.int .u64 ((B ||| 2 ^ j : Nat) : Int)]] [ints .u8 (itV sec k)] [#[.int .i64 ((pl + k : Nat) : Int)], #[.map (some mg)]] 2 kj) kj (isz (n := 32) kj ((Qac _ _).trans (Qaz hsec k)))) ?_
   refine Qax (.agg (ints .u8 (itV sec (k + 1)))) 46 #[.agg (ints .u8 (itV sec k))] 65 rfl kj kj (Qej (itV sec k) tc tq _ (Puts.row p10 (Qab r2_8 e9) hcm) (Puts.row p10 (Qab r3_8 e9) hsm) (Qaz hsec k) (Qbj hsb k)) fun W11 e11 => ?_
   have x11 : Qal [g, mg] w W11 := Qal.step x10 e11
   refine sg 2 kj ?_
   have r1_11 := (Qab r1_10 e11)
   refine Qai g _ (cat [#[.int .i64 nx], #[.int .u64 ((B ||| 2 ^ j : Nat) : Int)], ints .u8 (itV sec (k + 1)), #[.int .i64 ((pl + k : Nat) : Int)], #[.map (some mg)]]) 84 r1_11 rfl kj (Qb0 23 _ _ g 2 84 [#[.int .i64 nx], #[.int .u64 ((B ||| 2 ^ j : Nat) : Int)]] [ints .u8 (itV sec k)] [ints .u8 (itV sec (k + 1))] [#[.int .i64 ((pl + k : Nat) : Int)], #[.map (some mg)]] r1_11 rfl kj kj (isz (n := 32) kj ((Qac _ _).trans (Qaz hsec (k + 1)))) kj (eqsz (n := 32) ((Qac _ _).trans (Qaz hsec (k + 1))) ((Qac _ _).trans (Qaz hsec k))) (Qa2 _ _)) fun W12 p12 r1_12 => ?_
   have x12 : Qal [g, mg] w W12 := Qal.puts x11 p12 (.inl (by simp))
   refine sgN hK26 ?_
   refine Qad ?_
   refine sg 3 kj ?_
   refine Qaa (.int .i64 ((pl + k : Nat) : Int)) 71 rfl kj (Qah 3 _ g 34 84 _ (.int .i64 ((pl + k : Nat) : Int)) _ r1_12 rfl kj (Qa0 [#[.int .i64 nx], #[.int .u64 ((B ||| 2 ^ j : Nat) : Int)], ints .u8 (itV sec (k + 1))] [#[.int .i64 ((pl + k : Nat) : Int)]] [#[.map (some mg)]] 34 (by rw [Qae, Qae, Qae]; simp only [Array.size_append, cat, ((Qac _ _).trans (Qaz hsec (k + 1)))]; rfl) 0 _ rfl) kj) ?_
   refine Qaa (.int .i64 (((pl + (k + 1) : Nat) : Int))) 72 rfl kj (Qag (u := .int .i64 (IntKind.i64.wrap (((pl + k : Nat) : Int) + 1))) kj (congrArg (Value.int .i64) ((Qbw _ (by omega)).trans (by omega)))) ?_
   refine sg 2 kj ?_
   refine Qai g _ (cat [#[.int .i64 nx], #[.int .u64 ((B ||| 2 ^ j : Nat) : Int)], ints .u8 (itV sec (k + 1)), #[.int .i64 (((pl + (k + 1) : Nat) : Int))], #[.map (some mg)]]) 84 r1_12 rfl kj (Qbt 3 _ _ g 34 84 [#[.int .i64 nx], #[.int .u64 ((B ||| 2 ^ j : Nat) : Int)], ints .u8 (itV sec (k + 1))] [#[.map (some mg)]] _ (.int .i64 (((pl + (k + 1) : Nat) : Int))) r1_12 rfl kj kj kj (by rw [Qae, Qae, Qae]; simp only [Array.size_append, cat, ((Qac _ _).trans (Qaz hsec (k + 1)))]; rfl) rfl rfl) fun W13 p13 r1_13 => ?_
   have x13 : Qal [g, mg] w W13 := Qal.puts x12 p13 (.inl (by simp))
   refine Qaj ?_
   repeat (first | with_reducible refine goX1 ?_ | with_reducible refine goX2 ?_ | with_reducible refine goX3 ?_)
   exact Qa4 (k + 1) ⟨kj, kj, kj, kj, kj, kj, trivial⟩ ⟨(by omega), ⟨_, _, (Puts.row p13 (Puts.row p12 (Qab hes25 e11) (Ne.symm hgm)) (Ne.symm hgm)), hM25⟩, r1_13, (Qal.puts (Qal.puts (Qal.step (Qal.puts (Qal.step (Qal.step q7 e8) e9) p10 (.inl (by simp))) e11) p12 (.inl (by simp))) p13 (.inl (by simp))), x13⟩ (by omega)
  ·skip
   refine Qad ?_
   refine sg 3 kj ?_
   refine Qaa (.int .i64 ((pl + k : Nat) : Int)) 35 rfl kj (Qah 3 _ g 34 84 _ (.int .i64 ((pl + k : Nat) : Int)) _ q1_1 rfl kj (Qa0 [#[.int .i64 nx], #[.int .u64 ((B ||| 2 ^ j : Nat) : Int)], ints .u8 (itV sec k)] [#[.int .i64 ((pl + k : Nat) : Int)]] [#[.map (some mg)]] 34 (by rw [Qae, Qae, Qae]; simp only [Array.size_append, cat, ((Qac _ _).trans (Qaz hsec k))]; rfl) 0 _ rfl) kj) ?_
   refine sg 1 kj ?_
   refine Qaa (.bool true) 37 rfl kj (Qag (u := .bool (decide (((pl + k : Nat) : Int) < ((n : Nat) : Int)))) kj (congrArg Value.bool (decide_eq_true (by omega)))) ?_
   refine sg 4 kj ?_
   refine Qaa (.int .i64 ((pl + k : Nat) : Int)) 42 rfl kj (Qah 3 _ g 34 84 _ (.int .i64 ((pl + k : Nat) : Int)) _ q1_1 rfl kj (Qa0 [#[.int .i64 nx], #[.int .u64 ((B ||| 2 ^ j : Nat) : Int)], ints .u8 (itV sec k)] [#[.int .i64 ((pl + k : Nat) : Int)]] [#[.map (some mg)]] 34 (by rw [Qae, Qae, Qae]; simp only [Array.size_append, cat, ((Qac _ _).trans (Qaz hsec k))]; rfl) 0 _ rfl) kj) ?_
   refine sg 1 kj ?_
   refine Qaa (.int .i64 (((n : Nat) : Int) - 64)) 44 rfl kj (Qag (u := .int .i64 (IntKind.i64.wrap (((n : Nat) : Int) - 64))) kj (congrArg (Value.int .i64) (Qbw _ (by omega)))) ?_
   refine Qaa (.bool false) 45 rfl kj (Qag (u := .bool (decide (((pl + k : Nat) : Int) ≥ (((n : Nat) : Int) - 64)))) kj (congrArg Value.bool (decide_eq_false (by omega)))) ?_
   refine sg 1 kj ?_
   refine sgN hK23 ?_
   refine cond_false kj ?_
   refine wp_skip ?_
   refine hK22 _ _ ?_
   refine sgC fun K27 hK27 => ?_
   refine sg 4 kj ?_
   refine Qaa (.agg (ints .u8 (itV sec k))) 64 rfl kj (QaE 23 _ g 2 84 _ _ _ q1_1 rfl kj (Qa0 [#[.int .i64 nx], #[.int .u64 ((B ||| 2 ^ j : Nat) : Int)]] [ints .u8 (itV sec k)] [#[.int .i64 ((pl + k : Nat) : Int)], #[.map (some mg)]] 2 kj) kj (isz (n := 32) kj ((Qac _ _).trans (Qaz hsec k)))) ?_
   have r2_2 := (Qab r2_1 e2)
   have r2_3 := (Qab r2_2 e3)
   have r2_4 := (Puts.row p4 r2_3 (Qaf r2_2 l11))
   have r2_5 := (ExtB.row q5 r2_4 hcg)
   have r2_6 := (Puts.row p6 r2_5 hcm)
   have r2_7 := (Qal.row q7 r2_6 (Qau hcg (Qau hcm QaG)))
   have r3_2 := (Qab r3_1 e2)
   have r3_3 := (Qab r3_2 e3)
   have r3_4 := (Puts.row p4 r3_3 (Qaf r3_2 l11))
   have r3_5 := (ExtB.row q5 r3_4 hsg)
   have r3_6 := (Puts.row p6 r3_5 hsm)
   have r3_7 := (Qal.row q7 r3_6 (Qau hsg (Qau hsm QaG)))
   refine Qax (.agg (ints .u8 (itV sec (k + 1)))) 46 #[.agg (ints .u8 (itV sec k))] 65 rfl kj kj (Qej (itV sec k) tc tq _ r2_7 r3_7 (Qaz hsec k) (Qbj hsb k)) fun W8 e8 => ?_
   have x8 : Qal [g, mg] w W8 := Qal.step xx1 e8
   refine sg 2 kj ?_
   have r1_8 := (Qab q1_1 e8)
   refine Qai g _ (cat [#[.int .i64 nx], #[.int .u64 ((B ||| 2 ^ j : Nat) : Int)], ints .u8 (itV sec (k + 1)), #[.int .i64 ((pl + k : Nat) : Int)], #[.map (some mg)]]) 84 r1_8 rfl kj (Qb0 23 _ _ g 2 84 [#[.int .i64 nx], #[.int .u64 ((B ||| 2 ^ j : Nat) : Int)]] [ints .u8 (itV sec k)] [ints .u8 (itV sec (k + 1))] [#[.int .i64 ((pl + k : Nat) : Int)], #[.map (some mg)]] r1_8 rfl kj kj (isz (n := 32) kj ((Qac _ _).trans (Qaz hsec (k + 1)))) kj (eqsz (n := 32) ((Qac _ _).trans (Qaz hsec (k + 1))) ((Qac _ _).trans (Qaz hsec k))) (Qa2 _ _)) fun W9 p9 r1_9 => ?_
   have x9 : Qal [g, mg] w W9 := Qal.puts x8 p9 (.inl (by simp))
   refine sgN hK27 ?_
   refine Qad ?_
   refine sg 3 kj ?_
   refine Qaa (.int .i64 ((pl + k : Nat) : Int)) 71 rfl kj (Qah 3 _ g 34 84 _ (.int .i64 ((pl + k : Nat) : Int)) _ r1_9 rfl kj (Qa0 [#[.int .i64 nx], #[.int .u64 ((B ||| 2 ^ j : Nat) : Int)], ints .u8 (itV sec (k + 1))] [#[.int .i64 ((pl + k : Nat) : Int)]] [#[.map (some mg)]] 34 (by rw [Qae, Qae, Qae]; simp only [Array.size_append, cat, ((Qac _ _).trans (Qaz hsec (k + 1)))]; rfl) 0 _ rfl) kj) ?_
   refine Qaa (.int .i64 (((pl + (k + 1) : Nat) : Int))) 72 rfl kj (Qag (u := .int .i64 (IntKind.i64.wrap (((pl + k : Nat) : Int) + 1))) kj (congrArg (Value.int .i64) ((Qbw _ (by omega)).trans (by omega)))) ?_
   refine sg 2 kj ?_
   refine Qai g _ (cat [#[.int .i64 nx], #[.int .u64 ((B ||| 2 ^ j : Nat) : Int)], ints .u8 (itV sec (k + 1)), #[.int .i64 (((pl + (k + 1) : Nat) : Int))], #[.map (some mg)]]) 84 r1_9 rfl kj (Qbt 3 _ _ g 34 84 [#[.int .i64 nx], #[.int .u64 ((B ||| 2 ^ j : Nat) : Int)], ints .u8 (itV sec (k + 1))] [#[.map (some mg)]] _ (.int .i64 (((pl + (k + 1) : Nat) : Int))) r1_9 rfl kj kj kj (by rw [Qae, Qae, Qae]; simp only [Array.size_append, cat, ((Qac _ _).trans (Qaz hsec (k + 1)))]; rfl) rfl rfl) fun W10 p10 r1_10 => ?_
   have x10 : Qal [g, mg] w W10 := Qal.puts x9 p10 (.inl (by simp))
   refine Qaj ?_
   have r4_8 := (Qab hes18 e8)
   have r4_9 := (Puts.row p9 r4_8 (Ne.symm hgm))
   have r4_10 := (Puts.row p10 r4_9 (Ne.symm hgm))
   repeat (first | with_reducible refine goX1 ?_ | with_reducible refine goX2 ?_ | with_reducible refine goX3 ?_)
   exact Qa4 (k + 1) ⟨kj, kj, kj, kj, kj, kj, trivial⟩ ⟨(by omega), (by rw [QeW (by omega)]; exact ⟨_, _, r4_10, hM18⟩), r1_10, (Qal.puts (Qal.puts (Qal.step q7 e8) p9 (.inl (by simp))) p10 (.inl (by simp))), x10⟩ (by omega)
  ·skip
   refine Qad ?_
   refine sg 3 kj ?_
   refine Qaa (.int .i64 ((pl + k : Nat) : Int)) 35 rfl kj (Qah 3 _ g 34 84 _ (.int .i64 ((pl + k : Nat) : Int)) _ q1_1 rfl kj (Qa0 [#[.int .i64 nx], #[.int .u64 ((B ||| 2 ^ j : Nat) : Int)], ints .u8 (itV sec k)] [#[.int .i64 ((pl + k : Nat) : Int)]] [#[.map (some mg)]] 34 (by rw [Qae, Qae, Qae]; simp only [Array.size_append, cat, ((Qac _ _).trans (Qaz hsec k))]; rfl) 0 _ rfl) kj) ?_
   refine sg 1 kj ?_
   refine Qaa (.bool false) 37 rfl kj (Qag (u := .bool (decide (((pl + k : Nat) : Int) < ((n : Nat) : Int)))) kj (congrArg Value.bool (decide_eq_false (by omega)))) ?_
   refine sg 9 kj ?_
   refine sgN hK23 ?_
   refine cond_false kj ?_
   refine wp_skip ?_
   refine hK22 _ _ ?_
   refine sgC fun K28 hK28 => ?_
   refine sg 4 kj ?_
   refine Qaa (.agg (ints .u8 (itV sec k))) 64 rfl kj (QaE 23 _ g 2 84 _ _ _ q1_1 rfl kj (Qa0 [#[.int .i64 nx], #[.int .u64 ((B ||| 2 ^ j : Nat) : Int)]] [ints .u8 (itV sec k)] [#[.int .i64 ((pl + k : Nat) : Int)], #[.map (some mg)]] 2 kj) kj (isz (n := 32) kj ((Qac _ _).trans (Qaz hsec k)))) ?_
   have r2_2 := (Qab r2_1 e2)
   have r2_3 := (Qab r2_2 e3)
   have r2_4 := (Puts.row p4 r2_3 (Qaf r2_2 l11))
   have r2_5 := (ExtB.row q5 r2_4 hcg)
   have r2_6 := (Puts.row p6 r2_5 hcm)
   have r2_7 := (Qal.row q7 r2_6 (Qau hcg (Qau hcm QaG)))
   have r3_2 := (Qab r3_1 e2)
   have r3_3 := (Qab r3_2 e3)
   have r3_4 := (Puts.row p4 r3_3 (Qaf r3_2 l11))
   have r3_5 := (ExtB.row q5 r3_4 hsg)
   have r3_6 := (Puts.row p6 r3_5 hsm)
   have r3_7 := (Qal.row q7 r3_6 (Qau hsg (Qau hsm QaG)))
   refine Qax (.agg (ints .u8 (itV sec (k + 1)))) 46 #[.agg (ints .u8 (itV sec k))] 65 rfl kj kj (Qej (itV sec k) tc tq _ r2_7 r3_7 (Qaz hsec k) (Qbj hsb k)) fun W8 e8 => ?_
   have x8 : Qal [g, mg] w W8 := Qal.step xx1 e8
   refine sg 2 kj ?_
   have r1_8 := (Qab q1_1 e8)
   refine Qai g _ (cat [#[.int .i64 nx], #[.int .u64 ((B ||| 2 ^ j : Nat) : Int)], ints .u8 (itV sec (k + 1)), #[.int .i64 ((pl + k : Nat) : Int)], #[.map (some mg)]]) 84 r1_8 rfl kj (Qb0 23 _ _ g 2 84 [#[.int .i64 nx], #[.int .u64 ((B ||| 2 ^ j : Nat) : Int)]] [ints .u8 (itV sec k)] [ints .u8 (itV sec (k + 1))] [#[.int .i64 ((pl + k : Nat) : Int)], #[.map (some mg)]] r1_8 rfl kj kj (isz (n := 32) kj ((Qac _ _).trans (Qaz hsec (k + 1)))) kj (eqsz (n := 32) ((Qac _ _).trans (Qaz hsec (k + 1))) ((Qac _ _).trans (Qaz hsec k))) (Qa2 _ _)) fun W9 p9 r1_9 => ?_
   have x9 : Qal [g, mg] w W9 := Qal.puts x8 p9 (.inl (by simp))
   refine sgN hK28 ?_
   refine Qad ?_
   refine sg 3 kj ?_
   refine Qaa (.int .i64 ((pl + k : Nat) : Int)) 71 rfl kj (Qah 3 _ g 34 84 _ (.int .i64 ((pl + k : Nat) : Int)) _ r1_9 rfl kj (Qa0 [#[.int .i64 nx], #[.int .u64 ((B ||| 2 ^ j : Nat) : Int)], ints .u8 (itV sec (k + 1))] [#[.int .i64 ((pl + k : Nat) : Int)]] [#[.map (some mg)]] 34 (by rw [Qae, Qae, Qae]; simp only [Array.size_append, cat, ((Qac _ _).trans (Qaz hsec (k + 1)))]; rfl) 0 _ rfl) kj) ?_
   refine Qaa (.int .i64 (((pl + (k + 1) : Nat) : Int))) 72 rfl kj (Qag (u := .int .i64 (IntKind.i64.wrap (((pl + k : Nat) : Int) + 1))) kj (congrArg (Value.int .i64) ((Qbw _ (by omega)).trans (by omega)))) ?_
   refine sg 2 kj ?_
   refine Qai g _ (cat [#[.int .i64 nx], #[.int .u64 ((B ||| 2 ^ j : Nat) : Int)], ints .u8 (itV sec (k + 1)), #[.int .i64 (((pl + (k + 1) : Nat) : Int))], #[.map (some mg)]]) 84 r1_9 rfl kj (Qbt 3 _ _ g 34 84 [#[.int .i64 nx], #[.int .u64 ((B ||| 2 ^ j : Nat) : Int)], ints .u8 (itV sec (k + 1))] [#[.map (some mg)]] _ (.int .i64 (((pl + (k + 1) : Nat) : Int))) r1_9 rfl kj kj kj (by rw [Qae, Qae, Qae]; simp only [Array.size_append, cat, ((Qac _ _).trans (Qaz hsec (k + 1)))]; rfl) rfl rfl) fun W10 p10 r1_10 => ?_
   have x10 : Qal [g, mg] w W10 := Qal.puts x9 p10 (.inl (by simp))
   refine Qaj ?_
   have r4_8 := (Qab hes18 e8)
   have r4_9 := (Puts.row p9 r4_8 (Ne.symm hgm))
   have r4_10 := (Puts.row p10 r4_9 (Ne.symm hgm))
   repeat (first | with_reducible refine goX1 ?_ | with_reducible refine goX2 ?_ | with_reducible refine goX3 ?_)
   exact Qa4 (k + 1) ⟨kj, kj, kj, kj, kj, kj, trivial⟩ ⟨(by omega), (by rw [QeW (by omega)]; exact ⟨_, _, r4_10, hM18⟩), r1_10, (Qal.puts (Qal.puts (Qal.step q7 e8) p9 (.inl (by simp))) p10 (.inl (by simp))), x10⟩ (by omega)
 ·skip
  have heq : k = n + 1 - pl := by have := of_decide_eq_false c21; omega
  refine wp_exit ?_
  refine hK17 _ _ ?_
  refine wp_seq_k fun K29 hK29 => ?_
  refine sgC fun K30 hK30 => ?_
  refine sg 3 kj ?_
  refine Qaa (.map (some mg)) 78 rfl kj (Qah 82 _ g 35 84 _ (.map (some mg)) _ q1_1 rfl kj (Qa0 [#[.int .i64 nx], #[.int .u64 ((B ||| 2 ^ j : Nat) : Int)], ints .u8 (itV sec k), #[.int .i64 ((pl + k : Nat) : Int)]] [#[.map (some mg)]] [] 35 (by rw [Qae, Qae, Qae, Qae]; simp only [Array.size_append, cat, ((Qac _ _).trans (Qaz hsec k))]; rfl) 0 _ rfl) kj) ?_
  refine QfZ (.mapIter (some mg) cl18 #[] cl18) (fun g => .pointer (some ⟨g, 0, none⟩)) 79 rfl kj (Qet (kt := 3) (et := 93) 82 _ rfl kj kj hes18) fun g32 W8 l32 e8 r32_8 => ?_
  have x8 : Qal [g, mg] w W8 := Qal.step xx1 e8
  have b32 := Nat.le_trans xx1.size l32
  have r4_8 := (Qab hes18 e8)
  have hrg0 : Qc0 mg g32 (nx - 1 - 64) es18 cl18 #[] W8 := Qc0.start hM18 r4_8 r32_8
  refine sgN hK30 ?_
  refine wp_block ?_
  have r2_2 := (Qab r2_1 e2)
  have r2_3 := (Qab r2_2 e3)
  have r2_4 := (Puts.row p4 r2_3 (Qaf r2_2 l11))
  have r2_5 := (ExtB.row q5 r2_4 hcg)
  have r2_6 := (Puts.row p6 r2_5 hcm)
  have r2_7 := (Qal.row q7 r2_6 (Qau hcg (Qau hcm QaG)))
  have n_2_32 : 2 ≠ g32 := (Qaf r2_7 l32)
  have r3_2 := (Qab r3_1 e2)
  have r3_3 := (Qab r3_2 e3)
  have r3_4 := (Puts.row p4 r3_3 (Qaf r3_2 l11))
  have r3_5 := (ExtB.row q5 r3_4 hsg)
  have r3_6 := (Puts.row p6 r3_5 hsm)
  have r3_7 := (Qal.row q7 r3_6 (Qau hsg (Qau hsm QaG)))
  have n_3_32 : 1 ≠ g32 := (Qaf r3_7 l32)
  have r7_2 := (Qab r7_1 e2)
  have r7_7 := (Qal.row q7 (Puts.row p6 (ExtB.row q5 (Puts.row p4 (Qab r7_2 e3) (Qaf r7_2 l11)) n_7_1) n_7_4) (Qau n_7_1 (Qau n_7_4 QaG)))
  have n_7_32 : g7 ≠ g32 := (Qaf r7_7 l32)
  have r11_7 := (Qal.row q7 (Puts.row p6 (ExtB.row q5 r11_4 n_11_1) n_11_4) (Qau n_11_1 (Qau n_11_4 QaG)))
  have n_11_32 : g11 ≠ g32 := (Qaf r11_7 l32)
  have n_32_1 : g32 ≠ g := (Ne.symm (Nat.ne_of_lt (Nat.lt_of_lt_of_le hl_g b32)))
  have n_32_4 : g32 ≠ mg := (Ne.symm (Nat.ne_of_lt (Nat.lt_of_lt_of_le hl_mg b32)))
  refine Qa9 (fun (s2 : Array Nat) => [(0, .pointer (some ⟨g, 0, none⟩)), (1, .int .i64 ((n : Nat) : Int)), (4, .pointer (some ⟨g7, 0, none⟩)), (5, .nilIface), (6, .pointer (some ⟨g11, 0, none⟩)), (79, .pointer (some ⟨g32, 0, none⟩))]) (fun (s2 : Array Nat) W => (Qc0 mg g32 (nx - 1 - 64) es18 cl18 s2 W) ∧ (Qal [mg, g32] W8 W) ∧ (Qal [g, mg] w W)) (fun (s2 : Array Nat) => rmu es18 s2) #[] ⟨kj, kj, kj, kj, kj, kj, trivial⟩ ⟨hrg0, (Qal.refl [mg, g32] W8), x8⟩ fun s2 X2 V2 hI2 => ?_
  obtain ⟨sn, hs2⟩ : ∃ z, z = s2 := ⟨_, rfl⟩
  subst hs2
  obtain ⟨hrg, kk2, xx2⟩ := hI2
  replace hrg : Qc0 mg g32 (nx - 1 - 64) es18 cl18 sn V2 := hrg
  replace kk2 : Qal [mg, g32] W8 V2 := kk2
  replace xx2 : Qal [g, mg] w V2 := xx2
  have q9 := kk2
  refine sgC fun K33 hK33 => ?_
  refine Qfb (.tmp 79) hM18 rfl kj hrg 80 rfl kj (fun hmp => ?_) (fun e y WN hy pN hst hen => ?_)
  ·skip
   obtain ⟨es34, cl34, hes34, hM34⟩ := id hmp
   refine sg 1 kj ?_
   refine sgN hK33 ?_
   refine wp_seq_k fun K35 hK35 => ?_
   refine cond_false kj ?_
   refine wp_exit ?_
   refine hK29 _ _ ?_
   refine sgC fun K36 hK36 => ?_
   refine Qaa (.agg (cat [#[.int .i64 ((n : Nat) : Int)], ints .u8 ((lget ms ((n : Nat) : Int)).take 32), #[.slice a10_ (((lget ms ((n : Nat) : Int)).drop 32).length) c10_]])) 96 rfl kj (Qaw 40 _ g11 40 _ _ (Qal.row q9 (Qab r11_7 e8) (Qau n_11_4 (Qau n_11_32 QaG))) rfl kj kj (isz (n := 34) kj (by rw [Qae, Qae, Qae]; simp only [Array.size_append, cat, ((Qac _ _).trans (QaW (Qch hmo _).1))]; rfl))) ?_
   have r7_9 := (Qal.row q9 (Qab r7_7 e8) (Qau n_7_4 (Qau n_7_32 QaG)))
   refine Qai g7 _ (cat [#[.int .i64 ((n : Nat) : Int)], ints .u8 ((lget ms ((n : Nat) : Int)).take 32), #[.slice a10_ (((lget ms ((n : Nat) : Int)).drop 32).length) c10_]]) 40 r7_9 rfl kj (Qaq 40 _ _ g7 40 _ _ r7_9 rfl kj kj (isz (n := 34) kj (by rw [Qae, Qae, Qae]; simp only [Array.size_append, cat, ((Qac _ _).trans (QaW (Qch hmo _).1))]; rfl)) (eqsz (n := 34) (by rw [Qae, Qae, Qae]; simp only [Array.size_append, cat, ((Qac _ _).trans (List.length_replicate (n := 32)))]; rfl) (by rw [Qae, Qae, Qae]; simp only [Array.size_append, cat, ((Qac _ _).trans (QaW (Qch hmo _).1))]; rfl)) (QbG _ (by intro a ha; simp only [List.mem_cons, List.not_mem_nil, or_false] at ha; rcases ha with rfl | rfl | rfl; exact (QaU _ rfl); exact (Qa2 _ _); exact (QaU _ rfl)))) fun W10 p10 r7_10 => ?_
   have x10 : Qal [g, mg] w W10 := Qal.puts xx2 p10 (.inr b7)
   refine sg 1 kj ?_
   refine sgN hK36 ?_
   refine wp_ret ?_
   repeat (first | with_reducible refine goR1 ?_ | with_reducible refine goR2 ?_)
   have r1_8 := (Qab q1_1 e8)
   have r1_9 := (Qal.row q9 r1_8 (Qau hgm (Qau (Ne.symm n_32_1) QaG)))
   have r1_10 := (Puts.row p10 r1_9 (Ne.symm n_7_1))
   have r4_10 := (Puts.row p10 hes34 (Ne.symm n_7_4))
   have f41_7 := (OwnN.keepsL ((Qgj ((hu10.ext e3).puts p4 (QcM hu10 l11)) q5 nbg).puts p6 nbm) q7 (nb_cons nbg (nb_cons nbm nb_nil)))
   exact (show bodyPost _ _ _ .ret _ _ from ret2 (.agg (cat [#[.int .i64 ((n : Nat) : Int)], ints .u8 ((lget ms ((n : Nat) : Int)).take 32), #[.slice a10_ (((lget ms ((n : Nat) : Int)).drop 32).length) c10_]])) (.nilIface) rfl (QaR g7 40 _ r7_10 kj kj (isz (n := 34) kj (by rw [Qae, Qae, Qae]; simp only [Array.size_append, cat, ((Qac _ _).trans (QaW (Qch hmo _).1))]; rfl))) (Qa7 kj) ⟨_, rfl, x10, (by rw [← heq]; exact r1_10), (by have h9 : MpAt mg _ _ := ⟨_, _, r4_10, hM34⟩; rw [QcH (fun x => decide ((nx - 1 - 64) ≤ x))] at h9; rw [← heq]; exact h9), _, rfl, OwnN.base x1.size ((OwnN.keepsL (f41_7.ext e8) q9 (nb_cons nbm (nb_cons (QcM f41_7 l32) nb_nil))).puts p10 (QcL hu10 (Qat r7_1)))⟩)
  ·skip
   have p10 := pN
   have x10 : Qal [g, mg] w WN := Qal.puts xx2 p10 (.inr b32)
   refine sg 1 kj ?_
   refine sgN hK33 ?_
   refine sgT kj ?_
   refine wp_block ?_
   refine sgC fun K46 hK46 => ?_
   refine Qaa (.tuple #[.int .i64 y, e.val]) 82 rfl kj (Qeu _ rfl kj hen) ?_
   refine sg 2 kj ?_
   refine sgN hK46 ?_
   refine sgC fun K47 hK47 => ?_
   refine sg 4 kj ?_
   have r1_8 := (Qab q1_1 e8)
   have r1_9 := (Qal.row q9 r1_8 (Qau hgm (Qau (Ne.symm n_32_1) QaG)))
   have r1_10 := (Puts.row p10 r1_9 (Ne.symm n_32_1))
   refine Qax (.int .i64 (nx - 1)) 47 #[.pointer (some ⟨g, 0, none⟩)] 88 rfl kj kj (Qg5 g (nx) (B ||| 2 ^ j) hnx (Qgk _ _ hB (Qgg j hj2)) _ _ mg (Qaz hsec k) _ r1_10) fun W11 e11 => ?_
   have x11 : Qal [g, mg] w W11 := Qal.step x10 e11
   refine Qaa (.int .i64 (nx - 1 - 64)) 89 rfl kj (Qag (u := .int .i64 (IntKind.i64.wrap ((nx - 1) - 64))) kj (congrArg (Value.int .i64) (Qbw _ (by omega)))) ?_
   refine sg 1 kj ?_
   refine sgN hK47 ?_
   refine Qa5 (t := decide (y < (nx - 1 - 64))) kj (fun c48 => ?_) (fun c48 => ?_)
   ·skip
    have hcut : (y < (nx - 1 - 64)) := of_decide_eq_true c48
    refine Qad ?_
    refine sg 3 kj ?_
    have r1_11 := (Qab r1_10 e11)
    refine Qaa (.map (some mg)) 94 rfl kj (Qah 82 _ g 35 84 _ (.map (some mg)) _ r1_11 rfl kj (Qa0 [#[.int .i64 nx], #[.int .u64 ((B ||| 2 ^ j : Nat) : Int)], ints .u8 (itV sec k), #[.int .i64 ((pl + k : Nat) : Int)]] [#[.map (some mg)]] [] 35 (by rw [Qae, Qae, Qae, Qae]; simp only [Array.size_append, cat, ((Qac _ _).trans (Qaz hsec k))]; rfl) 0 _ rfl) kj) ?_
    refine sg 1 kj ?_
    refine Qfc (kt := 3) (et := 93) (.tmp 94) (.tmp 95) 82 hM18 rfl kj kj kj kj (QeC hst e11) hy hcut rfl kj fun W12 p12 hrg2 => ?_
    have x12 : Qal [g, mg] w W12 := Qal.puts x11 p12 (.inl (by simp))
    refine Qaj ?_
    repeat (first | with_reducible refine goX1 ?_ | with_reducible refine goX2 ?_ | with_reducible refine goX3 ?_)
    exact Qa4 (sn.push e.born) ⟨kj, kj, kj, kj, kj, kj, trivial⟩ ⟨hrg2, (Qal.puts (Qal.step (Qal.puts q9 p10 (.inl (by simp))) e11) p12 (.inl (by simp))), x12⟩ (QcC.mu hst)
   ·skip
    have hcut : ¬ (y < (nx - 1 - 64)) := of_decide_eq_false c48
    refine wp_skip ?_
    repeat (first | with_reducible refine goX1 ?_ | with_reducible refine goX2 ?_ | with_reducible refine goX3 ?_)
    exact Qa4 (sn.push e.born) ⟨kj, kj, kj, kj, kj, kj, trivial⟩ ⟨(QcC.stay hM18 (QeC hst e11) (by rw [QhF hy]; exact decide_eq_true (Int.not_lt.1 hcut))), (Qal.step (Qal.puts q9 p10 (.inl (by simp))) e11), x11⟩ (QcC.mu hst)
set_option maxHeartbeats 4000000 in
theorem Qkn (g : Nat) (nx : Int) (B : Nat) (hnx : 0 ≤ nx ∧ nx ≤ 4294967295) (hB : B < 18446744073709551616) (sec : List Int) (pl mg : Nat) (hsec : sec.length = 32) (w : World) (hg : w.heap[g]? = some (.cells (cat [#[.int .i64 nx], #[.int .u64 ((B : Nat) : Int)], ints .u8 (sec), #[.int .i64 ((pl : Nat) : Int)], #[.map (some mg)]]) 84)) (ms : List (Int × List Int)) (hmo : MsOk ms) (hmp : MpAt mg (ms.map mpv) w) (tc tq : TypeId) (hc : w.heap[2]? = some (.cells (ints .u64 QaI) tc)) (hq : w.heap[1]? = some (.cells (ints .u64 Qak) tq)) (hsb : Qao sec) (n : Nat) (hm : n ≤ 4294967294) (hp : pl ≤ 4294967295) (hlt0 : ∀ p ∈ ms, p.1 < ((pl : Nat) : Int)) (hcg : 2 ≠ g) (hsg : 1 ≠ g) (hc0 : chkW nx B ((n : Nat) : Int) = 0) (hn : pl ≤ n) (a : Nat) (ha : ((n : Nat) : Int) - (nx - 1) = (a : Int)) (ha1 : 1 ≤ a) : Calls Tryd.prog 33 #[.pointer (some ⟨g, 0, none⟩), .int .i64 ((n : Nat) : Int)] w (fun e W => ∃ v, e = .returned (.tuple #[v, .nilIface]) ∧ Qal [g, mg] w W ∧ W.heap[g]? = some (.cells (cat [#[.int .i64 (((n : Nat) : Int) + 1)], #[.int .u64 ((B * 2 ^ a % 18446744073709551616 ||| 1 * 2 ^ (a - 1) % 18446744073709551616 : Nat) : Int)], ints .u8 (itV sec (n + 1 - pl)), #[.int .i64 ((pl + (n + 1 - pl) : Nat) : Int)], #[.map (some mg)]]) 84) ∧ MpAt mg ((QfO ((msNo ms ((n : Nat) : Int)) ++ QbM sec pl n (n + 1 - pl)) (((n : Nat) : Int) + 1 - 1 - 64)).map mpv) W ∧ QcJ w.heap.size ((n : Nat) : Int) (keyV (itV sec (n - pl))) v W) := by
 have hcm := MpAt.ne hmp hc
 have hsm := MpAt.ne hmp hq
 have hgm := MpAt.ne hmp hg
 have hl_g := Qat hg
 have hl_mg := MpAt.lt hmp
 obtain ⟨es5, cl5, hes5, hM5⟩ := id hmp
 refine enter 97 [(0, .pointer (some ⟨g, 0, none⟩)), (1, .int .i64 ((n : Nat) : Int))] Tryd.func33 rfl rfl kj rfl ?_
 refine sgC fun K6 hK6 => ?_
 refine Qar (cat [#[.int .i64 0], ints .u8 (List.replicate 32 0), #[.slice none 0 0]]) 40 4 rfl kj kj fun g7 W1 l7 e1 r7_1 => ?_
 have x1 : Qal [g, mg] w W1 := Qal.step (Qal.refl [g, mg] w) e1
 have b7 := Nat.le_trans (Qal.refl [g, mg] w).size l7
 refine sg 1 kj ?_
 refine sgN hK6 ?_
 refine sgC fun K8 hK8 => ?_
 refine sg 2 kj ?_
 have r2_1 := (Qab hc e1)
 have r3_1 := (Qab hq e1)
 have r1_1 := (Qab hg e1)
 have r4_1 := (Qab hes5 e1)
 refine Qa8 (fun v W' => (QcJ W1.heap.size ((n : Nat) : Int) (keyV (itV sec (n - pl)))) v W' ∧ Ext W1 W') 34 #[.pointer (some ⟨g, 0, none⟩), .int .i64 ((n : Nat) : Int)] 11 rfl kj kj ((Qk3 g nx B hnx hB sec pl mg hsec _ r1_1 ms hmo ⟨_, _, r4_1, hM5⟩ tc tq r2_1 r3_1 hsb n hp hm (by omega)).mono (by rintro e w' ⟨v, rfl, e1, hv⟩; exact ⟨v, rfl, hv, e1⟩)) fun vv9 W2 hh9 => ?_
 obtain ⟨hv9, e2⟩ := hh9
 have x2 : Qal [g, mg] w W2 := Qal.step x1 e2
 obtain ⟨u10, rfl, hu10⟩ := hv9
 obtain ⟨a10_, c10_, rfl, -⟩ := id (OwnN.rd hu10)
 have nbg := QcL hu10 (Qat r1_1)
 have nbm := QcL hu10 (Qat r4_1)
 refine Qar (cat [#[.int .i64 0], ints .u8 (List.replicate 32 0), #[.slice none 0 0]]) 40 6 rfl kj kj fun g11 W3 l11 e3 r11_3 => ?_
 have x3 : Qal [g, mg] w W3 := Qal.step x2 e3
 have b11 := Nat.le_trans x2.size l11
 refine Qai g11 _ (cat [#[.int .i64 ((n : Nat) : Int)], ints .u8 ((keyV (itV sec (n - pl))).take 32), #[.slice a10_ (((keyV (itV sec (n - pl))).drop 32).length) c10_]]) 40 r11_3 rfl kj (Qaq 40 _ _ g11 40 _ _ r11_3 rfl kj kj (isz (n := 34) kj (by rw [Qae, Qae, Qae]; simp only [Array.size_append, cat, ((Qac _ _).trans (QaW (QaF _)))]; rfl)) (eqsz (n := 34) (by rw [Qae, Qae, Qae]; simp only [Array.size_append, cat, ((Qac _ _).trans (List.length_replicate (n := 32)))]; rfl) (by rw [Qae, Qae, Qae]; simp only [Array.size_append, cat, ((Qac _ _).trans (QaW (QaF _)))]; rfl)) (QbG _ (by intro a ha; simp only [List.mem_cons, List.not_mem_nil, or_false] at ha; rcases ha with rfl | rfl | rfl; exact (QaU _ rfl); exact (Qa2 _ _); exact (QaU _ rfl)))) fun W4 p4 r11_4 => ?_
 have x4 : Qal [g, mg] w W4 := Qal.puts x3 p4 (.inr b11)
 refine sgN hK8 ?_
 refine wp_seq_k fun K12 hK12 => ?_
 refine sgC fun K13 hK13 => ?_
 refine sg 4 kj ?_
 refine Qa8 (fun v W' => v = .nilIface ∧ ExtB g W4 W' ∧ W'.heap[g]? = some (.cells (cat [#[.int .i64 (((n : Nat) : Int) + 1)], #[.int .u64 ((B * 2 ^ a % 18446744073709551616 ||| 1 * 2 ^ (a - 1) % 18446744073709551616 : Nat) : Int)], ints .u8 (sec), #[.int .i64 ((pl : Nat) : Int)], #[.map (some mg)]]) 84)) 44 #[.pointer (some ⟨g, 0, none⟩), .int .i64 ((n : Nat) : Int)] 16 rfl kj kj ((Qlo g nx B ((n : Nat) : Int) hnx hB sec pl mg hsec _ (Puts.row p4 (Qab (Qab r1_1 e2) e3) (Nat.ne_of_lt (Nat.lt_of_lt_of_le hl_g b11))) hc0 (by omega) a ha ha1).mono fun e w' ⟨h1, h2, h3⟩ => ⟨_, h1, rfl, h2, h3⟩) fun v W5 h => ?_
 obtain ⟨rfl, q5, r1_5⟩ := h
 have x5 : Qal [g, mg] w W5 := Qal.but x4 q5 (.inl (by simp))
 refine sg 1 kj ?_
 refine sgN hK13 ?_
 refine sgB kj ?_
 refine cond_false kj ?_
 refine wp_skip ?_
 refine hK12 _ _ ?_
 refine sgC fun K15 hK15 => ?_
 refine sg 3 kj ?_
 refine Qaa (.map (some mg)) 24 rfl kj (Qah 82 _ g 35 84 _ (.map (some mg)) _ r1_5 rfl kj (Qa0 [#[.int .i64 (((n : Nat) : Int) + 1)], #[.int .u64 ((B * 2 ^ a % 18446744073709551616 ||| 1 * 2 ^ (a - 1) % 18446744073709551616 : Nat) : Int)], ints .u8 (sec), #[.int .i64 ((pl : Nat) : Int)]] [#[.map (some mg)]] [] 35 (by rw [Qae, Qae, Qae, Qae]; simp only [Array.size_append, cat, ((Qac _ _).trans hsec)]; rfl) 0 _ rfl) kj) ?_
 refine sg 1 kj ?_
 refine Qga (n := ((n : Nat) : Int)) (.tmp 24) (.tmp 25) 82 (kt := 3) (et := 93) rfl kj kj kj kj ⟨_, _, (ExtB.row q5 (Puts.row p4 (Qab (Qab r4_1 e2) e3) (Nat.ne_of_lt (Nat.lt_of_lt_of_le hl_mg b11))) (Ne.symm hgm)), hM5⟩ rfl kj fun W6 p6 hmp => ?_
 have x6 : Qal [g, mg] w W6 := Qal.puts x5 p6 (.inl (by simp))
 replace hmp : MpAt mg ((msNo ms ((n : Nat) : Int)).map mpv) W6 := by have h9 := hmp; rw [QcH (fun x => x != ((n : Nat) : Int))] at h9; exact h9
 obtain ⟨es16, cl16, hes16, hM16⟩ := id hmp
 refine sgN hK15 ?_
 refine wp_seq_k fun K17 hK17 => ?_
 refine wp_block ?_
 have n_7_1 : g7 ≠ g := (Ne.symm (Nat.ne_of_lt (Nat.lt_of_lt_of_le hl_g b7)))
 have n_7_4 : g7 ≠ mg := (Ne.symm (Nat.ne_of_lt (Nat.lt_of_lt_of_le hl_mg b7)))
 have n_11_1 : g11 ≠ g := (Ne.symm (Nat.ne_of_lt (Nat.lt_of_lt_of_le hl_g b11)))
 have n_11_4 : g11 ≠ mg := (Ne.symm (Nat.ne_of_lt (Nat.lt_of_lt_of_le hl_mg b11)))
 refine Qa9 (fun (s1 : Nat) => [(0, .pointer (some ⟨g, 0, none⟩)), (1, .int .i64 ((n : Nat) : Int)), (4, .pointer (some ⟨g7, 0, none⟩)), (5, .nilIface), (6, .pointer (some ⟨g11, 0, none⟩)), (7, .nilIface)]) (fun (s1 : Nat) W => (s1 ≤ n + 1 - pl) ∧ (MpAt mg (((msNo ms ((n : Nat) : Int)) ++ QbM sec pl n s1).map mpv) W) ∧ (W.heap[g]? = some (.cells (cat [#[.int .i64 (((n : Nat) : Int) + 1)], #[.int .u64 ((B * 2 ^ a % 18446744073709551616 ||| 1 * 2 ^ (a - 1) % 18446744073709551616 : Nat) : Int)], ints .u8 (itV sec s1), #[.int .i64 ((pl + s1 : Nat) : Int)], #[.map (some mg)]]) 84)) ∧ (Qal [g, mg] W6 W) ∧ (Qal [g, mg] w W)) (fun (s1 : Nat) => n + 1 - pl - s1) 0 ⟨kj, kj, kj, kj, kj, kj, trivial⟩ ⟨(Nat.zero_le _), (by show MpAt mg (((msNo ms ((n : Nat) : Int)) ++ []).map mpv) _; rw [List.append_nil]; exact ⟨_, _, hes16, hM16⟩), (Puts.row p6 r1_5 hgm), (Qal.refl [g, mg] W6), x6⟩ fun s1 X1 V1 hI1 => ?_
 obtain ⟨k, hs1⟩ : ∃ z, z = s1 := ⟨_, rfl⟩
 subst hs1
 obtain ⟨hk, hmp, q1_1, kk1, xx1⟩ := hI1
 replace hk : k ≤ n + 1 - pl := hk
 replace hmp : MpAt mg (((msNo ms ((n : Nat) : Int)) ++ QbM sec pl n k).map mpv) V1 := hmp
 replace q1_1 : V1.heap[g]? = some (.cells (cat [#[.int .i64 (((n : Nat) : Int) + 1)], #[.int .u64 ((B * 2 ^ a % 18446744073709551616 ||| 1 * 2 ^ (a - 1) % 18446744073709551616 : Nat) : Int)], ints .u8 (itV sec k), #[.int .i64 ((pl + k : Nat) : Int)], #[.map (some mg)]]) 84) := q1_1
 replace kk1 : Qal [g, mg] W6 V1 := kk1
 replace xx1 : Qal [g, mg] w V1 := xx1
 have q7 := kk1
 obtain ⟨es18, cl18, hes18, hM18⟩ := id hmp
 have hkp : pl + k ≤ 4294967295 := by omega
 refine wp_seq_k fun K19 hK19 => ?_
 refine sgC fun K20 hK20 => ?_
 refine sg 3 kj ?_
 refine Qaa (.int .i64 ((pl + k : Nat) : Int)) 29 rfl kj (Qah 3 _ g 34 84 _ (.int .i64 ((pl + k : Nat) : Int)) _ q1_1 rfl kj (Qa0 [#[.int .i64 (((n : Nat) : Int) + 1)], #[.int .u64 ((B * 2 ^ a % 18446744073709551616 ||| 1 * 2 ^ (a - 1) % 18446744073709551616 : Nat) : Int)], ints .u8 (itV sec k)] [#[.int .i64 ((pl + k : Nat) : Int)]] [#[.map (some mg)]] 34 (by rw [Qae, Qae, Qae]; simp only [Array.size_append, cat, ((Qac _ _).trans (Qaz hsec k))]; rfl) 0 _ rfl) kj) ?_
 refine sg 2 kj ?_
 refine sgN hK20 ?_
 refine Qa5 (t := decide (((pl + k : Nat) : Int) ≤ ((n : Nat) : Int))) kj (fun c21 => ?_) (fun c21 => ?_)
 ·skip
  have hlt : pl + k ≤ n := by have := of_decide_eq_true c21; omega
  refine wp_skip ?_
  refine hK19 _ _ ?_
  refine wp_block ?_
  refine wp_seq_k fun K22 hK22 => ?_
  refine wp_seq_k fun K23 hK23 => ?_
  rcases (show (pl + k < n ∧ n ≤ pl + k + 64) ∨ (pl + k < n ∧ pl + k + 64 < n) ∨ pl + k = n by omega) with hcc | hcc | hcc
  ·skip
   refine Qad ?_
   refine sg 3 kj ?_
   refine Qaa (.int .i64 ((pl + k : Nat) : Int)) 35 rfl kj (Qah 3 _ g 34 84 _ (.int .i64 ((pl + k : Nat) : Int)) _ q1_1 rfl kj (Qa0 [#[.int .i64 (((n : Nat) : Int) + 1)], #[.int .u64 ((B * 2 ^ a % 18446744073709551616 ||| 1 * 2 ^ (a - 1) % 18446744073709551616 : Nat) : Int)], ints .u8 (itV sec k)] [#[.int .i64 ((pl + k : Nat) : Int)]] [#[.map (some mg)]] 34 (by rw [Qae, Qae, Qae]; simp only [Array.size_append, cat, ((Qac _ _).trans (Qaz hsec k))]; rfl) 0 _ rfl) kj) ?_
   refine sg 1 kj ?_
   refine Qaa (.bool true) 37 rfl kj (Qag (u := .bool (decide (((pl + k : Nat) : Int) < ((n : Nat) : Int)))) kj (congrArg Value.bool (decide_eq_true (by omega)))) ?_
   refine sg 4 kj ?_
   refine Qaa (.int .i64 ((pl + k : Nat) : Int)) 42 rfl kj (Qah 3 _ g 34 84 _ (.int .i64 ((pl + k : Nat) : Int)) _ q1_1 rfl kj (Qa0 [#[.int .i64 (((n : Nat) : Int) + 1)], #[.int .u64 ((B * 2 ^ a % 18446744073709551616 ||| 1 * 2 ^ (a - 1) % 18446744073709551616 : Nat) : Int)], ints .u8 (itV sec k)] [#[.int .i64 ((pl + k : Nat) : Int)]] [#[.map (some mg)]] 34 (by rw [Qae, Qae, Qae]; simp only [Array.size_append, cat, ((Qac _ _).trans (Qaz hsec k))]; rfl) 0 _ rfl) kj) ?_
   refine sg 1 kj ?_
   refine Qaa (.int .i64 (((n : Nat) : Int) - 64)) 44 rfl kj (Qag (u := .int .i64 (IntKind.i64.wrap (((n : Nat) : Int) - 64))) kj (congrArg (Value.int .i64) (Qbw _ (by omega)))) ?_
   refine Qaa (.bool true) 45 rfl kj (Qag (u := .bool (decide (((pl + k : Nat) : Int) ≥ (((n : Nat) : Int) - 64)))) kj (congrArg Value.bool (decide_eq_true (by omega)))) ?_
   refine sg 1 kj ?_
   refine sgN hK23 ?_
   refine cond_true kj ?_
   refine Go.Proofs.YtibegnjaphohaaaDoor.Wm.region_walkM (fun W => W.heap[g]? = some (.cells (cat [#[.int .i64 (((n : Nat) : Int) + 1)], #[.int .u64 ((B * 2 ^ a % 18446744073709551616 ||| 1 * 2 ^ (a - 1) % 18446744073709551616 : Nat) : Int)], ints .u8 (itV sec k), #[.int .i64 ((pl + k : Nat) : Int)], #[.map (some mg)]]) 84)) 13 kj fun W8 e8 => ⟨Qab q1_1 e8, ?_⟩
   have x8 : Qal [g, mg] w W8 := Qal.step xx1 e8
   refine Go.Proofs.YtibegnjaphohaaaDoor.Wm.wm_val 0 (.pointer (some ⟨g, 0, none⟩)) 47 rfl rfl kj kj (by decide) kj (fun _ _ _ h => h) (fun W hR => by kernel_rfl) ?_
   refine Go.Proofs.YtibegnjaphohaaaDoor.Wm.wm_val 1 (.pointer (some ⟨g, 0, none⟩)) 48 rfl rfl kj kj (by decide) kj (fun _ _ _ h => h) (fun W hR => by kernel_rfl) ?_
   refine Go.Proofs.YtibegnjaphohaaaDoor.Wm.wm_val 2 (.pointer (some ⟨g, 35, none⟩)) 49 rfl rfl kj kj (by decide) kj (fun _ _ _ h => h) (fun W hR => by kernel_rfl) ?_
   refine Go.Proofs.YtibegnjaphohaaaDoor.Wm.wm_val 3 (.map (some mg)) 50 rfl rfl kj kj (by decide) kj (fun _ _ _ h => h) (fun W hR => (Qah 82 _ g 35 84 _ (.map (some mg)) _ hR rfl kj (Qa0 [#[.int .i64 (((n : Nat) : Int) + 1)], #[.int .u64 ((B * 2 ^ a % 18446744073709551616 ||| 1 * 2 ^ (a - 1) % 18446744073709551616 : Nat) : Int)], ints .u8 (itV sec k), #[.int .i64 ((pl + k : Nat) : Int)]] [#[.map (some mg)]] [] 35 (by rw [Qae, Qae, Qae, Qae]; simp only [Array.size_append, cat, ((Qac _ _).trans (Qaz hsec k))]; rfl) 0 _ rfl) kj)) ?_
   refine Go.Proofs.YtibegnjaphohaaaDoor.Wm.wm_val 4 (.pointer (some ⟨g, 0, none⟩)) 51 rfl rfl kj kj (by decide) kj (fun _ _ _ h => h) (fun W hR => by kernel_rfl) ?_
   refine Go.Proofs.YtibegnjaphohaaaDoor.Wm.wm_val 5 (.pointer (some ⟨g, 0, none⟩)) 52 rfl rfl kj kj (by decide) kj (fun _ _ _ h => h) (fun W hR => by kernel_rfl) ?_
   refine Go.Proofs.YtibegnjaphohaaaDoor.Wm.wm_val 6 (.pointer (some ⟨g, 34, none⟩)) 53 rfl rfl kj kj (by decide) kj (fun _ _ _ h => h) (fun W hR => by kernel_rfl) ?_
   refine Go.Proofs.YtibegnjaphohaaaDoor.Wm.wm_val 7 (.int .i64 ((pl + k : Nat) : Int)) 54 rfl rfl kj kj (by decide) kj (fun _ _ _ h => h) (fun W hR => (Qah 3 _ g 34 84 _ (.int .i64 ((pl + k : Nat) : Int)) _ hR rfl kj (Qa0 [#[.int .i64 (((n : Nat) : Int) + 1)], #[.int .u64 ((B * 2 ^ a % 18446744073709551616 ||| 1 * 2 ^ (a - 1) % 18446744073709551616 : Nat) : Int)], ints .u8 (itV sec k)] [#[.int .i64 ((pl + k : Nat) : Int)]] [#[.map (some mg)]] 34 (by rw [Qae, Qae, Qae]; simp only [Array.size_append, cat, ((Qac _ _).trans (Qaz hsec k))]; rfl) 0 _ rfl) kj)) ?_
   refine Go.Proofs.YtibegnjaphohaaaDoor.Wm.wm_val 8 (.pointer (some ⟨g, 0, none⟩)) 55 rfl rfl kj kj (by decide) kj (fun _ _ _ h => h) (fun W hR => by kernel_rfl) ?_
   refine Go.Proofs.YtibegnjaphohaaaDoor.Wm.wm_val 9 (.pointer (some ⟨g, 0, none⟩)) 56 rfl rfl kj kj (by decide) kj (fun _ _ _ h => h) (fun W hR => by kernel_rfl) ?_
   refine Go.Proofs.YtibegnjaphohaaaDoor.Wm.wm_val 10 (.pointer (some ⟨g, 2, none⟩)) 57 rfl rfl kj kj (by decide) kj (fun _ _ _ h => h) (fun W hR => by kernel_rfl) ?_
   refine Go.Proofs.YtibegnjaphohaaaDoor.Wm.wm_val 11 (.agg (ints .u8 (itV sec k))) 58 rfl rfl kj kj (by decide) kj (fun _ _ _ h => h) (fun W hR => (QaE 23 _ g 2 84 _ _ _ hR rfl kj (Qa0 [#[.int .i64 (((n : Nat) : Int) + 1)], #[.int .u64 ((B * 2 ^ a % 18446744073709551616 ||| 1 * 2 ^ (a - 1) % 18446744073709551616 : Nat) : Int)]] [ints .u8 (itV sec k)] [#[.int .i64 ((pl + k : Nat) : Int)], #[.map (some mg)]] 2 kj) kj (isz (n := 32) kj ((Qac _ _).trans (Qaz hsec k))))) ?_
   have r1_8 := (Qab q1_1 e8)
   have r2_2 := (Qab r2_1 e2)
   have r2_3 := (Qab r2_2 e3)
   have r2_4 := (Puts.row p4 r2_3 (Qaf r2_2 l11))
   have r2_5 := (ExtB.row q5 r2_4 hcg)
   have r2_6 := (Puts.row p6 r2_5 hcm)
   have r2_7 := (Qal.row q7 r2_6 (Qau hcg (Qau hcm QaG)))
   have r2_8 := (Qab r2_7 e8)
   have r3_2 := (Qab r3_1 e2)
   have r3_3 := (Qab r3_2 e3)
   have r3_4 := (Puts.row p4 r3_3 (Qaf r3_2 l11))
   have r3_5 := (ExtB.row q5 r3_4 hsg)
   have r3_6 := (Puts.row p6 r3_5 hsm)
   have r3_7 := (Qal.row q7 r3_6 (Qau hsg (Qau hsm QaG)))
   have r3_8 := (Qab r3_7 e8)
   refine Go.Proofs.YtibegnjaphohaaaDoor.Wm.wm_call 12 kj rfl (fun v W' => (fun v _ => v = .agg (ints .u8 (keyV (itV sec k)))) v W' ∧ Ext W8 W') 45 #[.agg (ints .u8 (itV sec k))] 59 rfl kj kj ((retG (QhG (itV sec k) tc tq _ r2_8 r3_8 (Qaz hsec k) (Qbj hsb k))).mono (by rintro e w' ⟨v, rfl, e1, hv⟩; exact ⟨v, rfl, hv, e1⟩)) (fun v W h => Qab r1_8 h.2) fun vv24 W9 hh24 => ?_
   obtain ⟨hv24, e9⟩ := hh24
   have x9 : Qal [g, mg] w W9 := Qal.step x8 e9
   subst hv24
   have r1_9 := (Qab r1_8 e9)
   have r4_8 := (Qab hes18 e8)
   have r4_9 := (Qab r4_8 e9)
   refine Go.Proofs.YtibegnjaphohaaaDoor.Wm.wm_last kj kj rfl (fun W' => Puts W9 mg W' ∧ MpAt mg ((((msNo ms ((n : Nat) : Int)) ++ QbM sec pl n k).map mpv) ++ [(((pl + k : Nat) : Int), .agg (ints .u8 (keyV (itV sec k))))]) W') rfl kj (Qgc 82 _ _ _ (kt := 3) (et := 93) rfl kj kj kj kj kj ⟨_, _, r4_9, hM18⟩ (QhC (Qfu hlt0))) fun W10 hh => ?_
   obtain ⟨p10, hmp⟩ := hh
   have x10 : Qal [g, mg] w W10 := Qal.puts x9 p10 (.inl (by simp))
   replace hmp : MpAt mg (((msNo ms ((n : Nat) : Int)) ++ QbM sec pl n (k + 1)).map mpv) W10 := by rw [Qg3 hcc, ← List.append_assoc, List.map_append]; exact hmp
   obtain ⟨es25, cl25, hes25, hM25⟩ := id hmp
   refine hK22 _ _ ?_
   refine sgC fun K26 hK26 => ?_
   refine sg 4 kj ?_
   have r1_10 := (Puts.row p10 r1_9 hgm)
   refine Qaa (.agg (ints .u8 (itV sec k))) 64 rfl kj (QaE 23 _ g 2 84 _ _ _ r1_10 rfl kj (Qa0 [#[.int .i64 (((n : Nat) : Int) + 1)], #[.int .u64 ((B * 2 ^ a % 18446744073709551616 ||| 1 * 2 ^ (a - 1) % 18446744073709551616 : Nat) : Int)]] [ints .u8 (itV sec k)] [#[.int .i64 ((pl + k : Nat) : Int)], #[.map (some mg)]] 2 kj) kj (isz (n := 32) kj ((Qac _ _).trans (Qaz hsec k)))) ?_
   refine Qax (.agg (ints .u8 (itV sec (k + 1)))) 46 #[.agg (ints .u8 (itV sec k))] 65 rfl kj kj (Qej (itV sec k) tc tq _ (Puts.row p10 (Qab r2_8 e9) hcm) (Puts.row p10 (Qab r3_8 e9) hsm) (Qaz hsec k) (Qbj hsb k)) fun W11 e11 => ?_
   have x11 : Qal [g, mg] w W11 := Qal.step x10 e11
   refine sg 2 kj ?_
   have r1_11 := (Qab r1_10 e11)
   refine Qai g _ (cat [#[.int .i64 (((n : Nat) : Int) + 1)], #[.int .u64 ((B * 2 ^ a % 18446744073709551616 ||| 1 * 2 ^ (a - 1) % 18446744073709551616 : Nat) : Int)], ints .u8 (itV sec (k + 1)), #[.int .i64 ((pl + k : Nat) : Int)], #[.map (some mg)]]) 84 r1_11 rfl kj (Qb0 23 _ _ g 2 84 [#[.int .i64 (((n : Nat) : Int) + 1)], #[.int .u64 ((B * 2 ^ a % 18446744073709551616 ||| 1 * 2 ^ (a - 1) % 18446744073709551616 : Nat) : Int)]] [ints .u8 (itV sec k)] [ints .u8 (itV sec (k + 1))] [#[.int .i64 ((pl + k : Nat) : Int)], #[.map (some mg)]] r1_11 rfl kj kj (isz (n := 32) kj ((Qac _ _).trans (Qaz hsec (k + 1)))) kj (eqsz (n := 32) ((Qac _ _).trans (Qaz hsec (k + 1))) ((Qac _ _).trans (Qaz hsec k))) (Qa2 _ _)) fun W12 p12 r1_12 => ?_
   have x12 : Qal [g, mg] w W12 := Qal.puts x11 p12 (.inl (by simp))
   refine sgN hK26 ?_
   refine Qad ?_
   refine sg 3 kj ?_
   refine Qaa (.int .i64 ((pl + k : Nat) : Int)) 71 rfl kj (Qah 3 _ g 34 84 _ (.int .i64 ((pl + k : Nat) : Int)) _ r1_12 rfl kj (Qa0 [#[.int .i64 (((n : Nat) : Int) + 1)], #[.int .u64 ((B * 2 ^ a % 18446744073709551616 ||| 1 * 2 ^ (a - 1) % 18446744073709551616 : Nat) : Int)], ints .u8 (itV sec (k + 1))] [#[.int .i64 ((pl + k : Nat) : Int)]] [#[.map (some mg)]] 34 (by rw [Qae, Qae, Qae]; simp only [Array.size_append, cat, ((Qac _ _).trans (Qaz hsec (k + 1)))]; rfl) 0 _ rfl) kj) ?_
   refine Qaa (.int .i64 (((pl + (k + 1) : Nat) : Int))) 72 rfl kj (Qag (u := .int .i64 (IntKind.i64.wrap (((pl + k : Nat) : Int) + 1))) kj (congrArg (Value.int .i64) ((Qbw _ (by omega)).trans (by omega)))) ?_
   refine sg 2 kj ?_
   refine Qai g _ (cat [#[.int .i64 (((n : Nat) : Int) + 1)], #[.int .u64 ((B * 2 ^ a % 18446744073709551616 ||| 1 * 2 ^ (a - 1) % 18446744073709551616 : Nat) : Int)], ints .u8 (itV sec (k + 1)), #[.int .i64 (((pl + (k + 1) : Nat) : Int))], #[.map (some mg)]]) 84 r1_12 rfl kj (Qbt 3 _ _ g 34 84 [#[.int .i64 (((n : Nat) : Int) + 1)], #[.int .u64 ((B * 2 ^ a % 18446744073709551616 ||| 1 * 2 ^ (a - 1) % 18446744073709551616 : Nat) : Int)], ints .u8 (itV sec (k + 1))] [#[.map (some mg)]] _ (.int .i64 (((pl + (k + 1) : Nat) : Int))) r1_12 rfl kj kj kj (by rw [Qae, Qae, Qae]; simp only [Array.size_append, cat, ((Qac _ _).trans (Qaz hsec (k + 1)))]; rfl) rfl rfl) fun W13 p13 r1_13 => ?_
   have x13 : Qal [g, mg] w W13 := Qal.puts x12 p13 (.inl (by simp))
   refine Qaj ?_
   repeat (first | with_reducible refine goX1 ?_ | with_reducible refine goX2 ?_ | with_reducible refine goX3 ?_)
   exact Qa4 (k + 1) ⟨kj, kj, kj, kj, kj, kj, trivial⟩ ⟨(by omega), ⟨_, _, (Puts.row p13 (Puts.row p12 (Qab hes25 e11) (Ne.symm hgm)) (Ne.symm hgm)), hM25⟩, r1_13, (Qal.puts (Qal.puts (Qal.step (Qal.puts (Qal.step (Qal.step q7 e8) e9) p10 (.inl (by simp))) e11) p12 (.inl (by simp))) p13 (.inl (by simp))), x13⟩ (by omega)
  ·skip
   refine Qad ?_
   refine sg 3 kj ?_
   refine Qaa (.int .i64 ((pl + k : Nat) : Int)) 35 rfl kj (Qah 3 _ g 34 84 _ (.int .i64 ((pl + k : Nat) : Int)) _ q1_1 rfl kj (Qa0 [#[.int .i64 (((n : Nat) : Int) + 1)], #[.int .u64 ((B * 2 ^ a % 18446744073709551616 ||| 1 * 2 ^ (a - 1) % 18446744073709551616 : Nat) : Int)], ints .u8 (itV sec k)] [#[.int .i64 ((pl + k : Nat) : Int)]] [#[.map (some mg)]] 34 (by rw [Qae, Qae, Qae]; simp only [Array.size_append, cat, ((Qac _ _).trans (Qaz hsec k))]; rfl) 0 _ rfl) kj) ?_
   refine sg 1 kj ?_
   refine Qaa (.bool true) 37 rfl kj (Qag (u := .bool (decide (((pl + k : Nat) : Int) < ((n : Nat) : Int)))) kj (congrArg Value.bool (decide_eq_true (by omega)))) ?_
   refine sg 4 kj ?_
   refine Qaa (.int .i64 ((pl + k : Nat) : Int)) 42 rfl kj (Qah 3 _ g 34 84 _ (.int .i64 ((pl + k : Nat) : Int)) _ q1_1 rfl kj (Qa0 [#[.int .i64 (((n : Nat) : Int) + 1)], #[.int .u64 ((B * 2 ^ a % 18446744073709551616 ||| 1 * 2 ^ (a - 1) % 18446744073709551616 : Nat) : Int)], ints .u8 (itV sec k)] [#[.int .i64 ((pl + k : Nat) : Int)]] [#[.map (some mg)]] 34 (by rw [Qae, Qae, Qae]; simp only [Array.size_append, cat, ((Qac _ _).trans (Qaz hsec k))]; rfl) 0 _ rfl) kj) ?_
   refine sg 1 kj ?_
   refine Qaa (.int .i64 (((n : Nat) : Int) - 64)) 44 rfl kj (Qag (u := .int .i64 (IntKind.i64.wrap (((n : Nat) : Int) - 64))) kj (congrArg (Value.int .i64) (Qbw _ (by omega)))) ?_
   refine Qaa (.bool false) 45 rfl kj (Qag (u := .bool (decide (((pl + k : Nat) : Int) ≥ (((n : Nat) : Int) - 64)))) kj (congrArg Value.bool (decide_eq_false (by omega)))) ?_
   refine sg 1 kj ?_
   refine sgN hK23 ?_
   refine cond_false kj ?_
   refine wp_skip ?_
   refine hK22 _ _ ?_
   refine sgC fun K27 hK27 => ?_
   refine sg 4 kj ?_
   refine Qaa (.agg (ints .u8 (itV sec k))) 64 rfl kj (QaE 23 _ g 2 84 _ _ _ q1_1 rfl kj (Qa0 [#[.int .i64 (((n : Nat) : Int) + 1)], #[.int .u64 ((B * 2 ^ a % 18446744073709551616 ||| 1 * 2 ^ (a - 1) % 18446744073709551616 : Nat) : Int)]] [ints .u8 (itV sec k)] [#[.int .i64 ((pl + k : Nat) : Int)], #[.map (some mg)]] 2 kj) kj (isz (n := 32) kj ((Qac _ _).trans (Qaz hsec k)))) ?_
   have r2_2 := (Qab r2_1 e2)
   have r2_3 := (Qab r2_2 e3)
   have r2_4 := (Puts.row p4 r2_3 (Qaf r2_2 l11))
   have r2_5 := (ExtB.row q5 r2_4 hcg)
   have r2_6 := (Puts.row p6 r2_5 hcm)
   have r2_7 := (Qal.row q7 r2_6 (Qau hcg (Qau hcm QaG)))
   have r3_2 := (Qab r3_1 e2)
   have r3_3 := (Qab r3_2 e3)
   have r3_4 := (Puts.row p4 r3_3 (Qaf r3_2 l11))
   have r3_5 := (ExtB.row q5 r3_4 hsg)
   have r3_6 := (Puts.row p6 r3_5 hsm)
   have r3_7 := (Qal.row q7 r3_6 (Qau hsg (Qau hsm QaG)))
   refine Qax (.agg (ints .u8 (itV sec (k + 1)))) 46 #[.agg (ints .u8 (itV sec k))] 65 rfl kj kj (Qej (itV sec k) tc tq _ r2_7 r3_7 (Qaz hsec k) (Qbj hsb k)) fun W8 e8 => ?_
   have x8 : Qal [g, mg] w W8 := Qal.step xx1 e8
   refine sg 2 kj ?_
   have r1_8 := (Qab q1_1 e8)
   refine Qai g _ (cat [#[.int .i64 (((n : Nat) : Int) + 1)], #[.int .u64 ((B * 2 ^ a % 18446744073709551616 ||| 1 * 2 ^ (a - 1) % 18446744073709551616 : Nat) : Int)], ints .u8 (itV sec (k + 1)), #[.int .i64 ((pl + k : Nat) : Int)], #[.map (some mg)]]) 84 r1_8 rfl kj (Qb0 23 _ _ g 2 84 [#[.int .i64 (((n : Nat) : Int) + 1)], #[.int .u64 ((B * 2 ^ a % 18446744073709551616 ||| 1 * 2 ^ (a - 1) % 18446744073709551616 : Nat) : Int)]] [ints .u8 (itV sec k)] [ints .u8 (itV sec (k + 1))] [#[.int .i64 ((pl + k : Nat) : Int)], #[.map (some mg)]] r1_8 rfl kj kj (isz (n := 32) kj ((Qac _ _).trans (Qaz hsec (k + 1)))) kj (eqsz (n := 32) ((Qac _ _).trans (Qaz hsec (k + 1))) ((Qac _ _).trans (Qaz hsec k))) (Qa2 _ _)) fun W9 p9 r1_9 => ?_
   have x9 : Qal [g, mg] w W9 := Qal.puts x8 p9 (.inl (by simp))
   refine sgN hK27 ?_
   refine Qad ?_
   refine sg 3 kj ?_
   refine Qaa (.int .i64 ((pl + k : Nat) : Int)) 71 rfl kj (Qah 3 _ g 34 84 _ (.int .i64 ((pl + k : Nat) : Int)) _ r1_9 rfl kj (Qa0 [#[.int .i64 (((n : Nat) : Int) + 1)], #[.int .u64 ((B * 2 ^ a % 18446744073709551616 ||| 1 * 2 ^ (a - 1) % 18446744073709551616 : Nat) : Int)], ints .u8 (itV sec (k + 1))] [#[.int .i64 ((pl + k : Nat) : Int)]] [#[.map (some mg)]] 34 (by rw [Qae, Qae, Qae]; simp only [Array.size_append, cat, ((Qac _ _).trans (Qaz hsec (k + 1)))]; rfl) 0 _ rfl) kj) ?_
   refine Qaa (.int .i64 (((pl + (k + 1) : Nat) : Int))) 72 rfl kj (Qag (u := .int .i64 (IntKind.i64.wrap (((pl + k : Nat) : Int) + 1))) kj (congrArg (Value.int .i64) ((Qbw _ (by omega)).trans (by omega)))) ?_
   refine sg 2 kj ?_
   refine Qai g _ (cat [#[.int .i64 (((n : Nat) : Int) + 1)], #[.int .u64 ((B * 2 ^ a % 18446744073709551616 ||| 1 * 2 ^ (a - 1) % 18446744073709551616 : Nat) : Int)], ints .u8 (itV sec (k + 1)), #[.int .i64 (((pl + (k + 1) : Nat) : Int))], #[.map (some mg)]]) 84 r1_9 rfl kj (Qbt 3 _ _ g 34 84 [#[.int .i64 (((n : Nat) : Int) + 1)], #[.int .u64 ((B * 2 ^ a % 18446744073709551616 ||| 1 * 2 ^ (a - 1) % 18446744073709551616 : Nat) : Int)], ints .u8 (itV sec (k + 1))] [#[.map (some mg)]] _ (.int .i64 (((pl + (k + 1) : Nat) : Int))) r1_9 rfl kj kj kj (by rw [Qae, Qae, Qae]; simp only [Array.size_append, cat, ((Qac _ _).trans (Qaz hsec (k + 1)))]; rfl) rfl rfl) fun W10 p10 r1_10 => ?_
   have x10 : Qal [g, mg] w W10 := Qal.puts x9 p10 (.inl (by simp))
   refine Qaj ?_
   have r4_8 := (Qab hes18 e8)
   have r4_9 := (Puts.row p9 r4_8 (Ne.symm hgm))
   have r4_10 := (Puts.row p10 r4_9 (Ne.symm hgm))
   repeat (first | with_reducible refine goX1 ?_ | with_reducible refine goX2 ?_ | with_reducible refine goX3 ?_)
   exact Qa4 (k + 1) ⟨kj, kj, kj, kj, kj, kj, trivial⟩ ⟨(by omega), (by rw [QeW (by omega)]; exact ⟨_, _, r4_10, hM18⟩), r1_10, (Qal.puts (Qal.puts (Qal.step q7 e8) p9 (.inl (by simp))) p10 (.inl (by simp))), x10⟩ (by omega)
  ·skip
   refine Qad ?_
   refine sg 3 kj ?_
   refine Qaa (.int .i64 ((pl + k : Nat) : Int)) 35 rfl kj (Qah 3 _ g 34 84 _ (.int .i64 ((pl + k : Nat) : Int)) _ q1_1 rfl kj (Qa0 [#[.int .i64 (((n : Nat) : Int) + 1)], #[.int .u64 ((B * 2 ^ a % 18446744073709551616 ||| 1 * 2 ^ (a - 1) % 18446744073709551616 : Nat) : Int)], ints .u8 (itV sec k)] [#[.int .i64 ((pl + k : Nat) : Int)]] [#[.map (some mg)]] 34 (by rw [Qae, Qae, Qae]; simp only [Array.size_append, cat, ((Qac _ _).trans (Qaz hsec k))]; rfl) 0 _ rfl) kj) ?_
   refine sg 1 kj ?_
   refine Qaa (.bool false) 37 rfl kj (Qag (u := .bool (decide (((pl + k : Nat) : Int) < ((n : Nat) : Int)))) kj (congrArg Value.bool (decide_eq_false (by omega)))) ?_
   refine sg 9 kj ?_
   refine sgN hK23 ?_
   refine cond_false kj ?_
   refine wp_skip ?_
   refine hK22 _ _ ?_
   refine sgC fun K28 hK28 => ?_
   refine sg 4 kj ?_
   refine Qaa (.agg (ints .u8 (itV sec k))) 64 rfl kj (QaE 23 _ g 2 84 _ _ _ q1_1 rfl kj (Qa0 [#[.int .i64 (((n : Nat) : Int) + 1)], #[.int .u64 ((B * 2 ^ a % 18446744073709551616 ||| 1 * 2 ^ (a - 1) % 18446744073709551616 : Nat) : Int)]] [ints .u8 (itV sec k)] [#[.int .i64 ((pl + k : Nat) : Int)], #[.map (some mg)]] 2 kj) kj (isz (n := 32) kj ((Qac _ _).trans (Qaz hsec k)))) ?_
   have r2_2 := (Qab r2_1 e2)
   have r2_3 := (Qab r2_2 e3)
   have r2_4 := (Puts.row p4 r2_3 (Qaf r2_2 l11))
   have r2_5 := (ExtB.row q5 r2_4 hcg)
   have r2_6 := (Puts.row p6 r2_5 hcm)
   have r2_7 := (Qal.row q7 r2_6 (Qau hcg (Qau hcm QaG)))
   have r3_2 := (Qab r3_1 e2)
   have r3_3 := (Qab r3_2 e3)
   have r3_4 := (Puts.row p4 r3_3 (Qaf r3_2 l11))
   have r3_5 := (ExtB.row q5 r3_4 hsg)
   have r3_6 := (Puts.row p6 r3_5 hsm)
   have r3_7 := (Qal.row q7 r3_6 (Qau hsg (Qau hsm QaG)))
   refine Qax (.agg (ints .u8 (itV sec (k + 1)))) 46 #[.agg (ints .u8 (itV sec k))] 65 rfl kj kj (Qej (itV sec k) tc tq _ r2_7 r3_7 (Qaz hsec k) (Qbj hsb k)) fun W8 e8 => ?_
   have x8 : Qal [g, mg] w W8 := Qal.step xx1 e8
   refine sg 2 kj ?_
   have r1_8 := (Qab q1_1 e8)
   refine Qai g _ (cat [#[.int .i64 (((n : Nat) : Int) + 1)], #[.int .u64 ((B * 2 ^ a % 18446744073709551616 ||| 1 * 2 ^ (a - 1) % 18446744073709551616 : Nat) : Int)], ints .u8 (itV sec (k + 1)), #[.int .i64 ((pl + k : Nat) : Int)], #[.map (some mg)]]) 84 r1_8 rfl kj (Qb0 23 _ _ g 2 84 [#[.int .i64 (((n : Nat) : Int) + 1)], #[.int .u64 ((B * 2 ^ a % 18446744073709551616 ||| 1 * 2 ^ (a - 1) % 18446744073709551616 : Nat) : Int)]] [ints .u8 (itV sec k)] [ints .u8 (itV sec (k + 1))] [#[.int .i64 ((pl + k : Nat) : Int)], #[.map (some mg)]] r1_8 rfl kj kj (isz (n := 32) kj ((Qac _ _).trans (Qaz hsec (k + 1)))) kj (eqsz (n := 32) ((Qac _ _).trans (Qaz hsec (k + 1))) ((Qac _ _).trans (Qaz hsec k))) (Qa2 _ _)) fun W9 p9 r1_9 => ?_
   have x9 : Qal [g, mg] w W9 := Qal.puts x8 p9 (.inl (by simp))
   refine sgN hK28 ?_
   refine Qad ?_
   refine sg 3 kj ?_
   refine Qaa (.int .i64 ((pl + k : Nat) : Int)) 71 rfl kj (Qah 3 _ g 34 84 _ (.int .i64 ((pl + k : Nat) : Int)) _ r1_9 rfl kj (Qa0 [#[.int .i64 (((n : Nat) : Int) + 1)], #[.int .u64 ((B * 2 ^ a % 18446744073709551616 ||| 1 * 2 ^ (a - 1) % 18446744073709551616 : Nat) : Int)], ints .u8 (itV sec (k + 1))] [#[.int .i64 ((pl + k : Nat) : Int)]] [#[.map (some mg)]] 34 (by rw [Qae, Qae, Qae]; simp only [Array.size_append, cat, ((Qac _ _).trans (Qaz hsec (k + 1)))]; rfl) 0 _ rfl) kj) ?_
   refine Qaa (.int .i64 (((pl + (k + 1) : Nat) : Int))) 72 rfl kj (Qag (u := .int .i64 (IntKind.i64.wrap (((pl + k : Nat) : Int) + 1))) kj (congrArg (Value.int .i64) ((Qbw _ (by omega)).trans (by omega)))) ?_
   refine sg 2 kj ?_
   refine Qai g _ (cat [#[.int .i64 (((n : Nat) : Int) + 1)], #[.int .u64 ((B * 2 ^ a % 18446744073709551616 ||| 1 * 2 ^ (a - 1) % 18446744073709551616 : Nat) : Int)], ints .u8 (itV sec (k + 1)), #[.int .i64 (((pl + (k + 1) : Nat) : Int))], #[.map (some mg)]]) 84 r1_9 rfl kj (Qbt 3 _ _ g 34 84 [#[.int .i64 (((n : Nat) : Int) + 1)], #[.int .u64 ((B * 2 ^ a % 18446744073709551616 ||| 1 * 2 ^ (a - 1) % 18446744073709551616 : Nat) : Int)], ints .u8 (itV sec (k + 1))] [#[.map (some mg)]] _ (.int .i64 (((pl + (k + 1) : Nat) : Int))) r1_9 rfl kj kj kj (by rw [Qae, Qae, Qae]; simp only [Array.size_append, cat, ((Qac _ _).trans (Qaz hsec (k + 1)))]; rfl) rfl rfl) fun W10 p10 r1_10 => ?_
   have x10 : Qal [g, mg] w W10 := Qal.puts x9 p10 (.inl (by simp))
   refine Qaj ?_
   have r4_8 := (Qab hes18 e8)
   have r4_9 := (Puts.row p9 r4_8 (Ne.symm hgm))
   have r4_10 := (Puts.row p10 r4_9 (Ne.symm hgm))
   repeat (first | with_reducible refine goX1 ?_ | with_reducible refine goX2 ?_ | with_reducible refine goX3 ?_)
   exact Qa4 (k + 1) ⟨kj, kj, kj, kj, kj, kj, trivial⟩ ⟨(by omega), (by rw [QeW (by omega)]; exact ⟨_, _, r4_10, hM18⟩), r1_10, (Qal.puts (Qal.puts (Qal.step q7 e8) p9 (.inl (by simp))) p10 (.inl (by simp))), x10⟩ (by omega)
 ·skip
  have heq : k = n + 1 - pl := by have := of_decide_eq_false c21; omega
  refine wp_exit ?_
  refine hK17 _ _ ?_
  refine wp_seq_k fun K29 hK29 => ?_
  refine sgC fun K30 hK30 => ?_
  refine sg 3 kj ?_
  refine Qaa (.map (some mg)) 78 rfl kj (Qah 82 _ g 35 84 _ (.map (some mg)) _ q1_1 rfl kj (Qa0 [#[.int .i64 (((n : Nat) : Int) + 1)], #[.int .u64 ((B * 2 ^ a % 18446744073709551616 ||| 1 * 2 ^ (a - 1) % 18446744073709551616 : Nat) : Int)], ints .u8 (itV sec k), #[.int .i64 ((pl + k : Nat) : Int)]] [#[.map (some mg)]] [] 35 (by rw [Qae, Qae, Qae, Qae]; simp only [Array.size_append, cat, ((Qac _ _).trans (Qaz hsec k))]; rfl) 0 _ rfl) kj) ?_
  refine QfZ (.mapIter (some mg) cl18 #[] cl18) (fun g => .pointer (some ⟨g, 0, none⟩)) 79 rfl kj (Qet (kt := 3) (et := 93) 82 _ rfl kj kj hes18) fun g32 W8 l32 e8 r32_8 => ?_
  have x8 : Qal [g, mg] w W8 := Qal.step xx1 e8
  have b32 := Nat.le_trans xx1.size l32
  have r4_8 := (Qab hes18 e8)
  have hrg0 : Qc0 mg g32 (((n : Nat) : Int) + 1 - 1 - 64) es18 cl18 #[] W8 := Qc0.start hM18 r4_8 r32_8
  refine sgN hK30 ?_
  refine wp_block ?_
  have r2_2 := (Qab r2_1 e2)
  have r2_3 := (Qab r2_2 e3)
  have r2_4 := (Puts.row p4 r2_3 (Qaf r2_2 l11))
  have r2_5 := (ExtB.row q5 r2_4 hcg)
  have r2_6 := (Puts.row p6 r2_5 hcm)
  have r2_7 := (Qal.row q7 r2_6 (Qau hcg (Qau hcm QaG)))
  have n_2_32 : 2 ≠ g32 := (Qaf r2_7 l32)
  have r3_2 := (Qab r3_1 e2)
  have r3_3 := (Qab r3_2 e3)
  have r3_4 := (Puts.row p4 r3_3 (Qaf r3_2 l11))
  have r3_5 := (ExtB.row q5 r3_4 hsg)
  have r3_6 := (Puts.row p6 r3_5 hsm)
  have r3_7 := (Qal.row q7 r3_6 (Qau hsg (Qau hsm QaG)))
  have n_3_32 : 1 ≠ g32 := (Qaf r3_7 l32)
  have r7_2 := (Qab r7_1 e2)
  have r7_7 := (Qal.row q7 (Puts.row p6 (ExtB.row q5 (Puts.row p4 (Qab r7_2 e3) (Qaf r7_2 l11)) n_7_1) n_7_4) (Qau n_7_1 (Qau n_7_4 QaG)))
  have n_7_32 : g7 ≠ g32 := (Qaf r7_7 l32)
  have r11_7 := (Qal.row q7 (Puts.row p6 (ExtB.row q5 r11_4 n_11_1) n_11_4) (Qau n_11_1 (Qau n_11_4 QaG)))
  have n_11_32 : g11 ≠ g32 := (Qaf r11_7 l32)
  have n_32_1 : g32 ≠ g := (Ne.symm (Nat.ne_of_lt (Nat.lt_of_lt_of_le hl_g b32)))
  have n_32_4 : g32 ≠ mg := (Ne.symm (Nat.ne_of_lt (Nat.lt_of_lt_of_le hl_mg b32)))
  refine Qa9 (fun (s2 : Array Nat) => [(0, .pointer (some ⟨g, 0, none⟩)), (1, .int .i64 ((n : Nat) : Int)), (4, .pointer (some ⟨g7, 0, none⟩)), (5, .nilIface), (6, .pointer (some ⟨g11, 0, none⟩)), (79, .pointer (some ⟨g32, 0, none⟩))]) (fun (s2 : Array Nat) W => (Qc0 mg g32 (((n : Nat) : Int) + 1 - 1 - 64) es18 cl18 s2 W) ∧ (Qal [mg, g32] W8 W) ∧ (Qal [g, mg] w W)) (fun (s2 : Array Nat) => rmu es18 s2) #[] ⟨kj, kj, kj, kj, kj, kj, trivial⟩ ⟨hrg0, (Qal.refl [mg, g32] W8), x8⟩ fun s2 X2 V2 hI2 => ?_
  obtain ⟨sn, hs2⟩ : ∃ z, z = s2 := ⟨_, rfl⟩
  subst hs2
  obtain ⟨hrg, kk2, xx2⟩ := hI2
  replace hrg : Qc0 mg g32 (((n : Nat) : Int) + 1 - 1 - 64) es18 cl18 sn V2 := hrg
  replace kk2 : Qal [mg, g32] W8 V2 := kk2
  replace xx2 : Qal [g, mg] w V2 := xx2
  have q9 := kk2
  refine sgC fun K33 hK33 => ?_
  refine Qfb (.tmp 79) hM18 rfl kj hrg 80 rfl kj (fun hmp => ?_) (fun e y WN hy pN hst hen => ?_)
  ·skip
   obtain ⟨es34, cl34, hes34, hM34⟩ := id hmp
   refine sg 1 kj ?_
   refine sgN hK33 ?_
   refine wp_seq_k fun K35 hK35 => ?_
   refine cond_false kj ?_
   refine wp_exit ?_
   refine hK29 _ _ ?_
   refine sgC fun K36 hK36 => ?_
   refine Qaa (.agg (cat [#[.int .i64 ((n : Nat) : Int)], ints .u8 ((keyV (itV sec (n - pl))).take 32), #[.slice a10_ (((keyV (itV sec (n - pl))).drop 32).length) c10_]])) 96 rfl kj (Qaw 40 _ g11 40 _ _ (Qal.row q9 (Qab r11_7 e8) (Qau n_11_4 (Qau n_11_32 QaG))) rfl kj kj (isz (n := 34) kj (by rw [Qae, Qae, Qae]; simp only [Array.size_append, cat, ((Qac _ _).trans (QaW (QaF _)))]; rfl))) ?_
   have r7_9 := (Qal.row q9 (Qab r7_7 e8) (Qau n_7_4 (Qau n_7_32 QaG)))
   refine Qai g7 _ (cat [#[.int .i64 ((n : Nat) : Int)], ints .u8 ((keyV (itV sec (n - pl))).take 32), #[.slice a10_ (((keyV (itV sec (n - pl))).drop 32).length) c10_]]) 40 r7_9 rfl kj (Qaq 40 _ _ g7 40 _ _ r7_9 rfl kj kj (isz (n := 34) kj (by rw [Qae, Qae, Qae]; simp only [Array.size_append, cat, ((Qac _ _).trans (QaW (QaF _)))]; rfl)) (eqsz (n := 34) (by rw [Qae, Qae, Qae]; simp only [Array.size_append, cat, ((Qac _ _).trans (List.length_replicate (n := 32)))]; rfl) (by rw [Qae, Qae, Qae]; simp only [Array.size_append, cat, ((Qac _ _).trans (QaW (QaF _)))]; rfl)) (QbG _ (by intro a ha; simp only [List.mem_cons, List.not_mem_nil, or_false] at ha; rcases ha with rfl | rfl | rfl; exact (QaU _ rfl); exact (Qa2 _ _); exact (QaU _ rfl)))) fun W10 p10 r7_10 => ?_
   have x10 : Qal [g, mg] w W10 := Qal.puts xx2 p10 (.inr b7)
   refine sg 1 kj ?_
   refine sgN hK36 ?_
   refine wp_ret ?_
   repeat (first | with_reducible refine goR1 ?_ | with_reducible refine goR2 ?_)
   have r1_8 := (Qab q1_1 e8)
   have r1_9 := (Qal.row q9 r1_8 (Qau hgm (Qau (Ne.symm n_32_1) QaG)))
   have r1_10 := (Puts.row p10 r1_9 (Ne.symm n_7_1))
   have r4_10 := (Puts.row p10 hes34 (Ne.symm n_7_4))
   have f41_7 := (OwnN.keepsL ((Qgj ((hu10.ext e3).puts p4 (QcM hu10 l11)) q5 nbg).puts p6 nbm) q7 (nb_cons nbg (nb_cons nbm nb_nil)))
   exact (show bodyPost _ _ _ .ret _ _ from ret2 (.agg (cat [#[.int .i64 ((n : Nat) : Int)], ints .u8 ((keyV (itV sec (n - pl))).take 32), #[.slice a10_ (((keyV (itV sec (n - pl))).drop 32).length) c10_]])) (.nilIface) rfl (QaR g7 40 _ r7_10 kj kj (isz (n := 34) kj (by rw [Qae, Qae, Qae]; simp only [Array.size_append, cat, ((Qac _ _).trans (QaW (QaF _)))]; rfl))) (Qa7 kj) ⟨_, rfl, x10, (by rw [← heq]; exact r1_10), (by have h9 : MpAt mg _ _ := ⟨_, _, r4_10, hM34⟩; rw [QcH (fun x => decide ((((n : Nat) : Int) + 1 - 1 - 64) ≤ x))] at h9; rw [← heq]; exact h9), _, rfl, OwnN.base x1.size ((OwnN.keepsL (f41_7.ext e8) q9 (nb_cons nbm (nb_cons (QcM f41_7 l32) nb_nil))).puts p10 (QcL hu10 (Qat r7_1)))⟩)
  ·skip
   have p10 := pN
   have x10 : Qal [g, mg] w WN := Qal.puts xx2 p10 (.inr b32)
   refine sg 1 kj ?_
   refine sgN hK33 ?_
   refine sgT kj ?_
   refine wp_block ?_
   refine sgC fun K46 hK46 => ?_
   refine Qaa (.tuple #[.int .i64 y, e.val]) 82 rfl kj (Qeu _ rfl kj hen) ?_
   refine sg 2 kj ?_
   refine sgN hK46 ?_
   refine sgC fun K47 hK47 => ?_
   refine sg 4 kj ?_
   have r1_8 := (Qab q1_1 e8)
   have r1_9 := (Qal.row q9 r1_8 (Qau hgm (Qau (Ne.symm n_32_1) QaG)))
   have r1_10 := (Puts.row p10 r1_9 (Ne.symm n_32_1))
   refine Qax (.int .i64 (((n : Nat) : Int) + 1 - 1)) 47 #[.pointer (some ⟨g, 0, none⟩)] 88 rfl kj kj (Qg5 g (((n : Nat) : Int) + 1) (B * 2 ^ a % 18446744073709551616 ||| 1 * 2 ^ (a - 1) % 18446744073709551616) (by omega) (Qgk _ _ (Nat.mod_lt _ (by decide)) (Nat.mod_lt _ (by decide))) _ _ mg (Qaz hsec k) _ r1_10) fun W11 e11 => ?_
   have x11 : Qal [g, mg] w W11 := Qal.step x10 e11
   refine Qaa (.int .i64 (((n : Nat) : Int) + 1 - 1 - 64)) 89 rfl kj (Qag (u := .int .i64 (IntKind.i64.wrap ((((n : Nat) : Int) + 1 - 1) - 64))) kj (congrArg (Value.int .i64) (Qbw _ (by omega)))) ?_
   refine sg 1 kj ?_
   refine sgN hK47 ?_
   refine Qa5 (t := decide (y < (((n : Nat) : Int) + 1 - 1 - 64))) kj (fun c48 => ?_) (fun c48 => ?_)
   ·skip
    have hcut : (y < (((n : Nat) : Int) + 1 - 1 - 64)) := of_decide_eq_true c48
    refine Qad ?_
    refine sg 3 kj ?_
    have r1_11 := (Qab r1_10 e11)
    refine Qaa (.map (some mg)) 94 rfl kj (Qah 82 _ g 35 84 _ (.map (some mg)) _ r1_11 rfl kj (Qa0 [#[.int .i64 (((n : Nat) : Int) + 1)], #[.int .u64 ((B * 2 ^ a % 18446744073709551616 ||| 1 * 2 ^ (a - 1) % 18446744073709551616 : Nat) : Int)], ints .u8 (itV sec k), #[.int .i64 ((pl + k : Nat) : Int)]] [#[.map (some mg)]] [] 35 (by rw [Qae, Qae, Qae, Qae]; simp only [Array.size_append, cat, ((Qac _ _).trans (Qaz hsec k))]; rfl) 0 _ rfl) kj) ?_
    refine sg 1 kj ?_
    refine Qfc (kt := 3) (et := 93) (.tmp 94) (.tmp 95) 82 hM18 rfl kj kj kj kj (QeC hst e11) hy hcut rfl kj fun W12 p12 hrg2 => ?_
    have x12 : Qal [g, mg] w W12 := Qal.puts x11 p12 (.inl (by simp))
    refine Qaj ?_
    repeat (first | with_reducible refine goX1 ?_ | with_reducible refine goX2 ?_ | with_reducible refine goX3 ?_)
    exact Qa4 (sn.push e.born) ⟨kj, kj, kj, kj, kj, kj, trivial⟩ ⟨hrg2, (Qal.puts (Qal.step (Qal.puts q9 p10 (.inl (by simp))) e11) p12 (.inl (by simp))), x12⟩ (QcC.mu hst)
   ·skip
    have hcut : ¬ (y < (((n : Nat) : Int) + 1 - 1 - 64)) := of_decide_eq_false c48
    refine wp_skip ?_
    repeat (first | with_reducible refine goX1 ?_ | with_reducible refine goX2 ?_ | with_reducible refine goX3 ?_)
    exact Qa4 (sn.push e.born) ⟨kj, kj, kj, kj, kj, kj, trivial⟩ ⟨(QcC.stay hM18 (QeC hst e11) (by rw [QhF hy]; exact decide_eq_true (Int.not_lt.1 hcut))), (Qal.step (Qal.puts q9 p10 (.inl (by simp))) e11), x11⟩ (QcC.mu hst)
end Go.Proofs.YtibegnjaphohaaaDoor.Cn
end
