/- Texts of this claim, joined (Q2). -/
import Derived.Test.YtoiendjhplbjjaaDoorZQ1
import Derived.Lib.AppendZeros

section
namespace Go.Proofs.YtoiendjhplbjjaaDoor.Sha
open Go Go.RowKit
open Rely Auto Own
set_option linter.unusedVariables false
theorem Qhe (x : Wd) : Qaj (wby x) := fun y hy => by
  simp only [wby, List.mem_cons, List.not_mem_nil, or_false] at hy
  rcases hy with h | h | h | h <;> omega
theorem Qc6 (t : List Int) : Qaj (dig t) := fun y hy => by
  unfold dig S8.out at hy
  obtain ⟨x, _, h⟩ := List.mem_flatMap.1 hy
  exact Qhe x y h
def xorb (c x : Int) : Int := bits .xor .u8 x c
theorem Qhb (c x : Int) : 0 ≤ xorb c x ∧ xorb c x ≤ 255 := by
  unfold xorb bits
  have : ∀ z : Int, IntKind.u8.wrap z = z % 2 ^ 8 := fun _ => rfl
  rw [this]; omega
def keyL (key : List Int) : List Int := if 64 < key.length then dig key else key
def keyB (key : List Int) : List Int := keyL key ++ List.replicate (64 - (keyL key).length) 0
def padX (c : Int) (key : List Int) : List Int := (keyB key).map (xorb c)
def hmac (key t : List Int) : List Int := dig (padX 92 key ++ dig (padX 54 key ++ t))
theorem Qiw (key : List Int) : (keyL key).length ≤ 64 := by
  unfold keyL
  split
  · rw [QaJ]; decide
  · omega
theorem QbI (key : List Int) : (keyB key).length = 64 := by
  have := Qiw key
  simp [keyB]; omega
theorem QaD (c : Int) (key : List Int) : (padX c key).length = 64 := by rw [padX, List.length_map, QbI]
theorem QeE (c : Int) (key : List Int) : Qaj (padX c key) := fun y hy => by
  obtain ⟨x, _, rfl⟩ := List.mem_map.1 hy
  exact Qhb c x
theorem Qed (c : Int) (key : List Int) {i : Nat} (h : i < 64) : nth (padX c key) i = bits .xor .u8 (nth (keyB key) i) c := by
  have hl := QbI key
  show nth ((keyB key).map (xorb c)) i = xorb c (nth (keyB key) i)
  simp [nth, List.getD_eq_getElem?_getD, show i < (keyB key).length by omega]
theorem Qbw (key t : List Int) : (hmac key t).length = 32 := QaJ _
theorem QeJ (key t : List Int) : Qaj (hmac key t) := Qc6 _
def puts (xs ys : List Int) (m : Nat) : List Int := xs.take m ++ ys.drop m
theorem Qgr {xs ys : List Int} {n m : Nat} (hx : xs.length = n) (hy : ys.length = n) (hm : m ≤ n) : (puts xs ys m).length = n := by simp [puts]; omega
theorem Qfz (xs ys : List Int) : puts xs ys 0 = ys := by simp [puts]
theorem Qf0 {xs ys : List Int} {n : Nat} (hx : xs.length = n) (hy : ys.length = n) : puts xs ys n = xs := by
  unfold puts
  rw [List.take_of_length_le (by omega), List.drop_of_length_le (by omega), List.append_nil]
theorem Qgq {xs ys : List Int} {n m : Nat} (hx : xs.length = n) (hy : ys.length = n) (hm : m < n) : (puts xs ys m).set m (nth xs m) = puts xs ys (m + 1) := by
  unfold puts
  have hl : (xs.take m).length = m := by rw [List.length_take]; omega
  rw [List.set_append_right _ _ (by omega), hl, Nat.sub_self, List.drop_eq_getElem_cons (by omega), List.set_cons_zero, List.take_add_one, List.getElem?_eq_getElem (by omega), List.append_assoc]
  simp [nth, show m < xs.length by omega]
section
variable {ds : List Deferred} {P : Program} {ops : Array Oper} {Q : Exit → Act → World → Prop} {rest : List Oper} {o : Oper} {N : Nat} {L : Env} {W : World}
theorem Qfr {k : IntKind} {e : TypeId} (x y : Operand) (tx ty : TypeId) (d : Nat) (ho : o.op = .call { callee := .builtin .copy, args := #[x, y], argTypes := #[tx, ty] }) (hu : P.underlying tx = some (.slice e)) (hsz : (P.info? e).map (·.size) = some 1) (hd : o.dst = some d) (hgd : QbJ ops o N L = some true)
    {g off dl dc n B : Nat} {xs z : List Int} {v : Value} {T : TypeId} (hx : Rely.look (envN N L) x = .slice (some ⟨g, off, none⟩) dl dc) (hy : Rely.look (envN N L) y = v) (hr : RdK k B z v W)
    (hg : W.heap[g]? = some (.cells (ints k xs) T)) (hq : off + dl ≤ xs.length) (hn : n = min z.length dl)
    (kk : ∀ W' : World, Puts W g W' → W'.heap[g]? = some (.cells (ints k (xs.take off ++ z.take n ++ xs.drop (off + n))) T) → WL P ops Q rest (Qaz ds N ((d, .int .i64 ((n : Nat) : Int)) :: L)) W') : WL P ops Q (o :: rest) (Qaz ds N L) W := by
  obtain ⟨a, cap, rfl, y2, y3, y4, y5⟩ := hr
  have hgo : ∀ W', (Builtin.copy_ #[tx, ty] o.type #[.slice (some ⟨g, off, none⟩) dl dc, .slice a z.length cap]).run P W = .ok (goInt n) W' → (execOp (Rely.look (envN N L)) o).run P W = .ok (.value (.int .i64 ((n : Nat) : Int))) W' := fun W' h => by
    unfold execOp
    simp only [ho, resolve, invoke, builtin, Sem.run_bind, Sem.run_pure, Result.andThen_ok, List.map_toArray, List.map_cons, List.map_nil, hx, hy, h, goInt]
  rcases Nat.eq_zero_or_pos n with h0 | h0
  · refine QbO _ _ d hd hgd (hgo W ?_) (kk W ⟨rfl, rfl, rfl, rfl, fun _ _ => rfl⟩ ?_)
    · rw [h0]; exact run_copy_none W tx ty o.type e _ _ _ _ _ _ hu hsz (hn.symm.trans h0)
    · rw [h0, List.take_zero, List.append_nil, Nat.add_zero, List.take_append_drop]; exact hg
  · obtain ⟨gz, oz, rfl, z2, z3, z4⟩ := y5.resolve_left (fun e => by rw [e] at hn; simp at hn; omega)
    have hlen : ((z.take n).map (Value.int k)).length = n := by simp; omega
    have h := run_copy_row (P := P) W tx ty o.type e g off dl dc ⟨gz, oz, none⟩ z.length cap (ints k xs) T ((z.take n).map (Value.int k)) hu hsz hg (by rw [hlen]; exact hn)
      (QgS (k := k) (ys := z.take n) fun i hi => by
        rw [List.length_take] at hi
        rw [z4 i (by omega)]
        simp [nth, show i < n by omega]) (by rw [hlen, Qaf]; omega) (QgP k _)
    rw [hlen] at h
    have e1 : ((ints k xs).toList.take off ++ (z.take n).map (Value.int k) ++ (ints k xs).toList.drop (off + n)).toArray = ints k (xs.take off ++ z.take n ++ xs.drop (off + n)) := by
      apply Array.ext'
      show (xs.map (Value.int k)).take off ++ (z.take n).map (Value.int k) ++ (xs.map (Value.int k)).drop (off + n) = (xs.take off ++ z.take n ++ xs.drop (off + n)).map (Value.int k)
      simp only [List.map_append, List.map_take, List.map_drop]
    rw [e1] at h
    exact QbO _ _ d hd hgd (hgo _ h) (kk _ (Qbv _ _ _) (setRow_heap _ _ _ _ _ _ hg))
end
theorem QhH {key : List Int} (h : 64 < key.length) : (List.replicate 64 (0 : Int)).take 0 ++ (dig key).take 32 ++ (List.replicate 64 (0 : Int)).drop (0 + 32) = keyB key := by
  have hd := QaJ key
  unfold keyB keyL
  rw [if_pos h, hd, List.take_zero, List.nil_append, List.take_of_length_le (by omega), List.drop_replicate]
theorem QgV {key : List Int} (h : ¬ 64 < key.length) (n : Nat) (hn : n = min key.length 64) : (List.replicate 64 (0 : Int)).take 0 ++ key.take n ++ (List.replicate 64 (0 : Int)).drop (0 + n) = keyB key := by
  unfold keyB keyL
  rw [if_neg h, List.take_zero, List.nil_append, List.take_of_length_le (by omega), List.drop_replicate, show 64 - (0 + n) = 64 - key.length by omega]
end Go.Proofs.YtoiendjhplbjjaaDoor.Sha
end
section
namespace Go.Proofs.YtoiendjhplbjjaaDoor.Sha
open Go Go.RowKit
open Rely Auto Own
set_option linter.unusedVariables false
set_option linter.unusedSimpArgs false
set_option maxHeartbeats 4000000 in
theorem Qk9 (key : List Int) (v : Value) (B : Nat) (tc tq : TypeId) (w : World) (hc : w.heap[1]? = some (.cells (ints .u64 Qbi) tc)) (hq : w.heap[0]? = some (.cells (ints .u64 Qat) tq)) (hkb : Qaj key) (hkl : key.length ≤ 800000000) (hk : RdK .u8 B key v w) :
  Calls Tryd.prog 132 #[v] w (Ret w (.tuple #[.agg (ints .u8 (padX 54 key)), .agg (ints .u8 (padX 92 key))])) := by
 obtain ⟨a_key, c_key, rfl, -⟩ := id hk
 refine enter 35 [(0, .slice a_key key.length c_key)] Tryd.func132 rfl rfl kj rfl ?_
 refine wp_seq_k fun K3 hK3 => ?_
 refine Qab ?_
 refine Qaq (ints .u8 (List.replicate 64 0)) 164 2 rfl kj kj fun g4 W1 l4 e1 r4_1 => ?_
 have x1 : Ext w W1 := Ext.tr (Rely.Ext.refl w) e1
 have b4 : w.heap.size ≤ g4 := Nat.le_trans (Rely.Ext.refl w).size l4
 refine Qaq (ints .u8 (List.replicate 64 0)) 164 3 rfl kj kj fun g5 W2 l5 e2 r5_2 => ?_
 have x2 : Ext w W2 := Ext.tr x1 e2
 have b5 : w.heap.size ≤ g5 := Nat.le_trans x1.size l5
 refine Qac ?_
 refine hK3 _ _ ?_
 refine wp_seq_k fun K6 hK6 => ?_
 refine wp_seq_k fun K7 hK7 => ?_
 refine Qab ?_
 refine Qaa (.slice a_key key.length c_key) 7 rfl kj kj ?_
 refine Qaa (.int .i64 ((key.length : Nat) : Int)) 8 rfl kj kj ?_
 refine Qaa (.bool (decide (((key.length : Nat) : Int) > 64))) 9 rfl kj kj ?_
 refine Qac ?_
 refine hK7 _ _ ?_
 refine Qa7 (t := decide (((key.length : Nat) : Int) > 64)) kj (fun c8 => ?_) (fun c8 => ?_)
 ·skip
  have hlong : 64 < key.length := by have := of_decide_eq_true c8; omega
  refine wp_seq_k fun K9 hK9 => ?_
  refine Qab ?_
  refine Qaa (.slice a_key key.length c_key) 10 rfl kj kj ?_
  refine QaZ (#[.slice a_key key.length c_key]) 33 1 11 rfl kj kj fun g10 W3 l10 e3 r10_3 => ?_
  have x3 : Ext w W3 := Ext.tr x2 e3
  have b10 : w.heap.size ≤ g10 := Nat.le_trans x2.size l10
  have r1_1 := (Qad hc e1)
  have r1_2 := (Qad r1_1 e2)
  have r1_3 := (Qad r1_2 e3)
  have r2_1 := (Qad hq e1)
  have r2_2 := (Qad r2_1 e2)
  have r2_3 := (Qad r2_2 e3)
  have hps11 : ∀ p ∈ ([(.slice a_key key.length c_key, key)] : List (Value × List Int)), RdK .u8 W3.heap.size p.2 p.1 W3 ∧ Qaj p.2 := by
   intro p hp
   simp only [List.mem_cons, List.not_mem_nil, or_false] at hp
   rcases hp with rfl
   ·exact ⟨RdK.here (RdK.ext hk x3), hkb⟩
  have hsh11 := Qhm g10 1 _ ([(.slice a_key key.length c_key, key)] : List (Value × List Int)) rfl (by decide) tc tq W3 r1_3 r2_3 r10_3 hps11 (by simp only [List.map_cons, List.map_nil, List.flatten_cons, List.flatten_nil, List.append_nil, List.length_append]; omega)
  rw [show ((List.map Prod.snd ([(.slice a_key key.length c_key, key)] : List (Value × List Int))).flatten) = key by simp only [List.map_cons, List.map_nil, List.flatten_cons, List.flatten_nil, List.append_nil]] at hsh11
  refine Qax (.agg (ints .u8 (dig (key)))) 76 #[.slice (some ⟨g10, 0, none⟩) 1 1] 12 rfl kj kj hsh11 fun W4 e4 => ?_
  have x4 : Ext w W4 := Ext.tr x3 e4
  refine Qaq (ints .u8 (List.replicate 32 0)) 29 4 rfl kj kj fun g12 W5 l12 e5 r12_5 => ?_
  have x5 : Ext w W5 := Ext.tr x4 e5
  have b12 : w.heap.size ≤ g12 := Nat.le_trans x4.size l12
  refine Qah g12 _ (ints .u8 (dig (key))) 29 r12_5 rfl kj (Qam 29 _ _ g12 29 _ _ r12_5 rfl kj kj (isz (n := 32) kj ((Qaf _ _).trans (QaJ _))) (eqsz (n := 32) ((Qaf _ _).trans (List.length_replicate (n := 32))) ((Qaf _ _).trans (QaJ _))) (Qay _ _)) fun W6 p6 r12_6 => ?_
  have x6 : Ext w W6 := Puts.ext p6 x5 b12
  refine Qac ?_
  refine hK9 _ _ ?_
  refine QaY 2 [⟨none, [(2, none)]⟩, ⟨none, [(4, none)]⟩] kj kj fun F hF => ?_
  refine QaB (Qav _) (.slice (some ⟨g4, 0, none⟩) 64 64) kj kj (fun W => by kernel_rfl) ?_
  refine QaB (Qav _) (.slice (some ⟨g12, 0, none⟩) 32 32) kj kj (fun W => by kernel_rfl) ?_
  refine QcU (hF _ fun W7 e7 => ?_)
  simp only [List.nil_append, List.cons_append, List.take_succ_cons, List.take_zero, List.drop_succ_cons, List.drop_zero, finE, up]
  clear hF
  have x7 : Ext w W7 := Ext.tr x6 e7
  have r4_2 := (Qad r4_1 e2)
  have r4_3 := (Qad r4_2 e3)
  have r4_4 := (Qad r4_3 e4)
  have r4_5 := (Qad r4_4 e5)
  have r4_6 := (Puts.row p6 r4_5 (Qae r4_4 l12))
  have r4_7 := (Qad r4_6 e7)
  have r12_7 := (Qad r12_6 e7)
  refine Qfr (k := .u8) (e := 5) (z := dig (key)) (.tmp 13) (.tmp 14) 33 33 15 rfl kj kj rfl kj (off := 0) (dl := 64) (dc := 64) (n := 32) (xs := List.replicate 64 0) kj kj (Qbp (xs := dig (key)) (n := 32) (QaJ _) r12_7 (Qa8 r12_7) (show 32 ≤ maxLen from by decide)) r4_7 (Nat.le_trans (show 0 + (64) ≤ 64 from (by omega)) (Nat.le_of_eq (List.length_replicate (n := 64)).symm)) (by rw [QaJ]; rfl) fun W8 p8 r4_8 => ?_
  have x8 : Ext w W8 := Puts.ext p8 x7 b4
  refine Qac ?_
  refine hK6 _ _ ?_
  refine wp_seq_k fun K13 hK13 => ?_
  refine wp_seq_k fun K14 hK14 => ?_
  refine Qab ?_
  have r4_8_15 : W8.heap[g4]? = some (.cells (ints .u8 (keyB key)) 164) := QaA r4_8 (QhH hlong)
  refine Qaa (.agg (ints .u8 (keyB key))) 19 rfl kj (Qas 164 _ g4 164 _ _ r4_8_15 rfl kj kj (isz (n := 64) kj ((Qaf _ _).trans (QbI key)))) ?_
  refine Qaa (.int .i64 0) 20 rfl kj kj ?_
  refine Qac ?_
  refine hK14 _ _ ?_
  refine wp_block ?_
  have n_4_5 : g4 ≠ g5 := (Qae r4_1 l5)
  have n_5_4 : g5 ≠ g4 := (Qap r4_1 l5)
  have r5_3 := (Qad r5_2 e3)
  have r5_4 := (Qad r5_3 e4)
  have r5_5 := (Qad r5_4 e5)
  have r5_6 := (Puts.row p6 r5_5 (Qae r5_4 l12))
  have r5_7 := (Qad r5_6 e7)
  have r5_8 := (Puts.row p8 r5_7 n_5_4)
  refine QaO (fun (s1 : Nat) => [(2, .pointer (some ⟨g4, 0, none⟩)), (3, .pointer (some ⟨g5, 0, none⟩)), (19, .agg (ints .u8 (keyB key))), (20, .int .i64 ((s1 : Nat) : Int))]) (fun (s1 : Nat) W => (s1 ≤ 64) ∧ (W.heap[g4]? = some (.cells (ints .u8 (puts (padX 54 key) (keyB key) s1)) 164)) ∧ (W.heap[g5]? = some (.cells (ints .u8 (fill (padX 92 key) 64 s1)) 164)) ∧ (Qar [g4, g5] W8 W) ∧ (Ext w W)) (fun (s1 : Nat) => 64 - s1) 0 ⟨rfl, rfl, rfl, rfl, trivial⟩ ⟨(Nat.zero_le _), (QaA r4_8_15 (Qfz _ _).symm), (QaA r5_8 (Qet _ 64).symm), (Qar.refl [g4, g5] W8), x8⟩ fun s1 X1 V1 hI1 => ?_
  obtain ⟨i, hs1⟩ : ∃ z, z = s1 := ⟨_, rfl⟩
  subst hs1
  obtain ⟨hi, q4_1, q5_1, kk1, xx1⟩ := hI1
  replace hi : i ≤ 64 := hi
  replace q4_1 : V1.heap[g4]? = some (.cells (ints .u8 (puts (padX 54 key) (keyB key) i)) 164) := q4_1
  replace q5_1 : V1.heap[g5]? = some (.cells (ints .u8 (fill (padX 92 key) 64 i)) 164) := q5_1
  replace kk1 : Qar [g4, g5] W8 V1 := kk1
  replace xx1 : Ext w V1 := xx1
  have q9 := kk1
  refine wp_seq_k fun K16 hK16 => ?_
  refine Qab ?_
  refine Qaa (.bool (decide (((i : Nat) : Int) < 64))) 21 rfl kj kj ?_
  refine Qac ?_
  refine hK16 _ _ ?_
  refine wp_seq_k fun K17 hK17 => ?_
  refine Qa7 (t := decide (((i : Nat) : Int) < 64)) kj (fun c18 => ?_) (fun c18 => ?_)
  ·skip
   have hlt21 : i < 64 := by have := of_decide_eq_true c18; omega
   refine wp_skip ?_
   refine hK17 _ _ ?_
   refine wp_seq_k fun K19 hK19 => ?_
   refine wp_block ?_
   refine wp_seq_k fun K20 hK20 => ?_
   refine Qab ?_
   refine Qaa (.int .i64 ((i : Nat) : Int)) 22 rfl kj kj ?_
   refine Qaa (.int .u8 (nth (keyB key) i)) 23 rfl kj (Qau 164 _ _ .i64 .u8 (keyB key) i 64 5 (nth (keyB key) i) rfl kj kj kj kj kj (QbI key) (by omega) rfl) ?_
   refine Qaa (.int .i64 ((i : Nat) : Int)) 5 rfl kj kj ?_
   refine Qaa (.int .u8 (nth (keyB key) i)) 6 rfl kj kj ?_
   refine Qac ?_
   refine hK20 _ _ ?_
   refine Qab ?_
   refine Qaa (.int .i64 ((i : Nat) : Int)) 24 rfl kj kj ?_
   refine Qaa (.int .i64 ((i : Nat) : Int)) 25 rfl kj kj ?_
   refine Qaa (.int .u8 (nth (keyB key) i)) 26 rfl kj kj ?_
   refine Qaa (.int .u8 (nth (padX 54 key) i)) 27 rfl kj (Qal (u := .int .u8 (bits .xor .u8 ((nth (keyB key) i)) (54))) kj (congrArg (Value.int .u8) (Qed 54 key hlt21).symm)) ?_
   refine Qaa (.int .u8 (nth (keyB key) i)) 28 rfl kj kj ?_
   refine Qaa (.int .u8 (nth (padX 92 key) i)) 29 rfl kj (Qal (u := .int .u8 (bits .xor .u8 ((nth (keyB key) i)) (92))) kj (congrArg (Value.int .u8) (Qed 92 key hlt21).symm)) ?_
   refine Qaa (.pointer (some ⟨g4, i, none⟩)) 30 rfl kj (QaH _ _ _ .i64 (i) _ 64 5 rfl kj kj kj kj (by omega)) ?_
   refine Qah g4 _ (ints .u8 ((puts (padX 54 key) (keyB key) i).set i (nth (padX 54 key) i))) 164 q4_1 rfl kj (Qai 5 _ _ g4 i 164 _ _ q4_1 rfl kj kj kj (Nat.lt_of_lt_of_eq (by omega) (Qgr (QaD 54 key) (QbI key) (by omega)).symm)) fun W10 p10 r4_10 => ?_
   have x10 : Ext w W10 := Puts.ext p10 xx1 b4
   refine Qaa (.pointer (some ⟨g5, i, none⟩)) 31 rfl kj (QaH _ _ _ .i64 (i) _ 64 5 rfl kj kj kj kj (by omega)) ?_
   have r5_10 := (Puts.row p10 q5_1 n_5_4)
   refine Qah g5 _ (ints .u8 ((fill (padX 92 key) 64 i).set i (nth (padX 92 key) i))) 164 r5_10 rfl kj (Qai 5 _ _ g5 i 164 _ _ r5_10 rfl kj kj kj (Nat.lt_of_lt_of_eq (by omega) (QbR (QaD 92 key) (by omega)).symm)) fun W11 p11 r5_11 => ?_
   have x11 : Ext w W11 := Puts.ext p11 x10 b5
   refine Qac ?_
   refine hK19 _ _ ?_
   refine Qab ?_
   refine Qaa (.int .i64 ((i + 1 : Nat) : Int)) 32 rfl kj (Qal (u := .int .i64 (IntKind.i64.wrap (((i : Nat) : Int) + 1))) kj (congrArg (Value.int .i64) (i64n _ _ (by omega) (by omega)))) ?_
   refine Qaa (.int .i64 ((i + 1 : Nat) : Int)) 20 rfl kj kj ?_
   refine Qac ?_
   have r4_11 := (Puts.row p11 r4_10 n_4_5)
   repeat (first | with_reducible refine goX1 ?_ | with_reducible refine goX2 ?_ | with_reducible refine goX3 ?_)
   exact QaI (i + 1) ⟨rfl, rfl, rfl, rfl, trivial⟩ ⟨(by omega), (QaA r4_11 (Qgq (QaD 54 key) (QbI key) hlt21)), (QaA r5_11 (Qef (QaD 92 key) hlt21)), (Qar.puts (Qar.puts q9 p10 (.inl (by simp))) p11 (.inl (by simp))), x11⟩ (by omega)
  ·skip
   have heq21 : i = 64 := by have := of_decide_eq_false c18; omega
   have r4_9_21 : V1.heap[g4]? = some (.cells (ints .u8 (padX 54 key)) 164) := QaA q4_1 (by rw [heq21]; exact Qf0 (QaD 54 key) (QbI key))
   have r5_9_22 : V1.heap[g5]? = some (.cells (ints .u8 (padX 92 key)) 164) := QaA q5_1 (by rw [heq21]; exact Qeu (QaD 92 key))
   refine wp_exit ?_
   refine hK13 _ _ ?_
   refine wp_seq_k fun K23 hK23 => ?_
   refine Qbd (fun W => W.heap[g5]? = some (.cells (ints .u8 (padX 92 key)) 164)) [⟨none, [(2, none)]⟩, ⟨none, [(3, none)]⟩, ⟨none, [(2, none), (33, some 0)]⟩, ⟨none, [(3, none), (34, some 1)]⟩] [] [1] kj kj kj (fun W hR => Qad r5_9_22 hR) fun F hF => ?_
   refine Qa6 (.agg (ints .u8 (padX 54 key))) kj kj kj rfl (fun W hR => (Qas 164 _ g4 164 _ _ (Qad (Qad r4_9_21 (Qak _)) hR) rfl kj kj (isz (n := 64) kj ((Qaf _ _).trans (QaD 54 key))))) ?_
   refine Qbj (.agg (ints .u8 (padX 92 key))) kj kj kj rfl (fun W hW => (Qas 164 _ g5 164 _ _ hW rfl kj kj (isz (n := 64) kj ((Qaf _ _).trans (QaD 92 key))))) ?_
   refine QaL rfl ?_
   refine QaL rfl ?_
   refine Qds (hF _ kj fun W10 e10 => ?_)
   simp only [List.nil_append, List.cons_append, fins, up]
   clear hF
   have x10 : Ext w W10 := Ext.tr xx1 e10
   have r4_10 := (Qad r4_9_21 e10)
   have r5_10 := (Qad r5_9_22 e10)
   refine QaG _ g4 _ (ints .u8 (padX 54 key)) 164 r4_10 rfl (Qam 164 _ _ g4 164 _ _ r4_10 rfl kj kj (isz (n := 64) kj ((Qaf _ _).trans (QaD 54 key))) (eqsz (n := 64) ((Qaf _ _).trans (QaD 54 key)) ((Qaf _ _).trans (QaD 54 key))) (Qay _ _)) (fun W hp => Puts.row hp r5_10 n_5_4) fun W11 p11 r4_11 => ?_
   have x11 : Ext w W11 := Puts.ext p11 x10 b4
   have r5_11 := (Puts.row p11 r5_10 n_5_4)
   refine Qfl _ g5 _ (ints .u8 (padX 92 key)) 164 r5_11 rfl (Qam 164 _ _ g5 164 _ _ r5_11 rfl kj kj (isz (n := 64) kj ((Qaf _ _).trans (QaD 92 key))) (eqsz (n := 64) ((Qaf _ _).trans (QaD 92 key)) ((Qaf _ _).trans (QaD 92 key))) (Qay _ _)) (fun W hp hrw => hrw) fun W12 p12 r5_12 => ?_
   have x12 : Ext w W12 := Puts.ext p12 x11 b5
   refine Qcr ?_
   refine hK23 _ _ ?_
   refine wp_ret ?_
   repeat (first | with_reducible refine goR1 ?_ | with_reducible refine goR2 ?_)
   have r4_12 := (Puts.row p12 r4_11 n_4_5)
   exact (show bodyPost _ _ _ .ret _ _ from ret2 (.agg (ints .u8 (padX 54 key))) (.agg (ints .u8 (padX 92 key))) rfl (QaU g4 164 _ r4_12 kj kj (isz (n := 64) kj ((Qaf _ _).trans (QaD 54 key)))) (QaU g5 164 _ r5_12 kj kj (isz (n := 64) kj ((Qaf _ _).trans (QaD 92 key)))) ⟨rfl, x12⟩)
 ·skip
  have hlong : ¬ 64 < key.length := by have := of_decide_eq_false c8; omega
  refine Qab ?_
  refine Qaa (.slice (some ⟨g4, 0, none⟩) 64 64) 16 rfl kj kj ?_
  refine Qaa (.slice a_key key.length c_key) 17 rfl kj kj ?_
  have r4_2 := (Qad r4_1 e2)
  refine Qfr (k := .u8) (e := 5) (z := key) (.tmp 16) (.tmp 17) 33 33 18 rfl kj kj rfl kj (off := 0) (dl := 64) (dc := 64) (n := (min key.length 64)) (xs := List.replicate 64 0) kj kj (RdK.ext hk x2) r4_2 (Nat.le_trans (show 0 + (64) ≤ 64 from (by omega)) (Nat.le_of_eq (List.length_replicate (n := 64)).symm)) rfl fun W3 p3 r4_3 => ?_
  have x3 : Ext w W3 := Puts.ext p3 x2 b4
  refine Qac ?_
  refine hK6 _ _ ?_
  refine wp_seq_k fun K24 hK24 => ?_
  refine wp_seq_k fun K25 hK25 => ?_
  refine Qab ?_
  have r4_3_26 : W3.heap[g4]? = some (.cells (ints .u8 (keyB key)) 164) := QaA r4_3 (QgV hlong _ rfl)
  refine Qaa (.agg (ints .u8 (keyB key))) 19 rfl kj (Qas 164 _ g4 164 _ _ r4_3_26 rfl kj kj (isz (n := 64) kj ((Qaf _ _).trans (QbI key)))) ?_
  refine Qaa (.int .i64 0) 20 rfl kj kj ?_
  refine Qac ?_
  refine hK25 _ _ ?_
  refine wp_block ?_
  have n_4_5 : g4 ≠ g5 := (Qae r4_1 l5)
  have n_5_4 : g5 ≠ g4 := (Qap r4_1 l5)
  have r5_3 := (Puts.row p3 r5_2 n_5_4)
  refine QaO (fun (s2 : Nat) => [(2, .pointer (some ⟨g4, 0, none⟩)), (3, .pointer (some ⟨g5, 0, none⟩)), (19, .agg (ints .u8 (keyB key))), (20, .int .i64 ((s2 : Nat) : Int))]) (fun (s2 : Nat) W => (s2 ≤ 64) ∧ (W.heap[g4]? = some (.cells (ints .u8 (puts (padX 54 key) (keyB key) s2)) 164)) ∧ (W.heap[g5]? = some (.cells (ints .u8 (fill (padX 92 key) 64 s2)) 164)) ∧ (Qar [g4, g5] W3 W) ∧ (Ext w W)) (fun (s2 : Nat) => 64 - s2) 0 ⟨rfl, rfl, rfl, rfl, trivial⟩ ⟨(Nat.zero_le _), (QaA r4_3_26 (Qfz _ _).symm), (QaA r5_3 (Qet _ 64).symm), (Qar.refl [g4, g5] W3), x3⟩ fun s2 X2 V2 hI2 => ?_
  obtain ⟨i, hs2⟩ : ∃ z, z = s2 := ⟨_, rfl⟩
  subst hs2
  obtain ⟨hi, q4_2, q5_2, kk2, xx2⟩ := hI2
  replace hi : i ≤ 64 := hi
  replace q4_2 : V2.heap[g4]? = some (.cells (ints .u8 (puts (padX 54 key) (keyB key) i)) 164) := q4_2
  replace q5_2 : V2.heap[g5]? = some (.cells (ints .u8 (fill (padX 92 key) 64 i)) 164) := q5_2
  replace kk2 : Qar [g4, g5] W3 V2 := kk2
  replace xx2 : Ext w V2 := xx2
  have q4 := kk2
  refine wp_seq_k fun K27 hK27 => ?_
  refine Qab ?_
  refine Qaa (.bool (decide (((i : Nat) : Int) < 64))) 21 rfl kj kj ?_
  refine Qac ?_
  refine hK27 _ _ ?_
  refine wp_seq_k fun K28 hK28 => ?_
  refine Qa7 (t := decide (((i : Nat) : Int) < 64)) kj (fun c29 => ?_) (fun c29 => ?_)
  ·skip
   have hlt21 : i < 64 := by have := of_decide_eq_true c29; omega
   refine wp_skip ?_
   refine hK28 _ _ ?_
   refine wp_seq_k fun K30 hK30 => ?_
   refine wp_block ?_
   refine wp_seq_k fun K31 hK31 => ?_
   refine Qab ?_
   refine Qaa (.int .i64 ((i : Nat) : Int)) 22 rfl kj kj ?_
   refine Qaa (.int .u8 (nth (keyB key) i)) 23 rfl kj (Qau 164 _ _ .i64 .u8 (keyB key) i 64 5 (nth (keyB key) i) rfl kj kj kj kj kj (QbI key) (by omega) rfl) ?_
   refine Qaa (.int .i64 ((i : Nat) : Int)) 5 rfl kj kj ?_
   refine Qaa (.int .u8 (nth (keyB key) i)) 6 rfl kj kj ?_
   refine Qac ?_
   refine hK31 _ _ ?_
   refine Qab ?_
   refine Qaa (.int .i64 ((i : Nat) : Int)) 24 rfl kj kj ?_
   refine Qaa (.int .i64 ((i : Nat) : Int)) 25 rfl kj kj ?_
   refine Qaa (.int .u8 (nth (keyB key) i)) 26 rfl kj kj ?_
   refine Qaa (.int .u8 (nth (padX 54 key) i)) 27 rfl kj (Qal (u := .int .u8 (bits .xor .u8 ((nth (keyB key) i)) (54))) kj (congrArg (Value.int .u8) (Qed 54 key hlt21).symm)) ?_
   refine Qaa (.int .u8 (nth (keyB key) i)) 28 rfl kj kj ?_
   refine Qaa (.int .u8 (nth (padX 92 key) i)) 29 rfl kj (Qal (u := .int .u8 (bits .xor .u8 ((nth (keyB key) i)) (92))) kj (congrArg (Value.int .u8) (Qed 92 key hlt21).symm)) ?_
   refine Qaa (.pointer (some ⟨g4, i, none⟩)) 30 rfl kj (QaH _ _ _ .i64 (i) _ 64 5 rfl kj kj kj kj (by omega)) ?_
   refine Qah g4 _ (ints .u8 ((puts (padX 54 key) (keyB key) i).set i (nth (padX 54 key) i))) 164 q4_2 rfl kj (Qai 5 _ _ g4 i 164 _ _ q4_2 rfl kj kj kj (Nat.lt_of_lt_of_eq (by omega) (Qgr (QaD 54 key) (QbI key) (by omega)).symm)) fun W5 p5 r4_5 => ?_
   have x5 : Ext w W5 := Puts.ext p5 xx2 b4
   refine Qaa (.pointer (some ⟨g5, i, none⟩)) 31 rfl kj (QaH _ _ _ .i64 (i) _ 64 5 rfl kj kj kj kj (by omega)) ?_
   have r5_5 := (Puts.row p5 q5_2 n_5_4)
   refine Qah g5 _ (ints .u8 ((fill (padX 92 key) 64 i).set i (nth (padX 92 key) i))) 164 r5_5 rfl kj (Qai 5 _ _ g5 i 164 _ _ r5_5 rfl kj kj kj (Nat.lt_of_lt_of_eq (by omega) (QbR (QaD 92 key) (by omega)).symm)) fun W6 p6 r5_6 => ?_
   have x6 : Ext w W6 := Puts.ext p6 x5 b5
   refine Qac ?_
   refine hK30 _ _ ?_
   refine Qab ?_
   refine Qaa (.int .i64 ((i + 1 : Nat) : Int)) 32 rfl kj (Qal (u := .int .i64 (IntKind.i64.wrap (((i : Nat) : Int) + 1))) kj (congrArg (Value.int .i64) (i64n _ _ (by omega) (by omega)))) ?_
   refine Qaa (.int .i64 ((i + 1 : Nat) : Int)) 20 rfl kj kj ?_
   refine Qac ?_
   have r4_6 := (Puts.row p6 r4_5 n_4_5)
   repeat (first | with_reducible refine goX1 ?_ | with_reducible refine goX2 ?_ | with_reducible refine goX3 ?_)
   exact QaI (i + 1) ⟨rfl, rfl, rfl, rfl, trivial⟩ ⟨(by omega), (QaA r4_6 (Qgq (QaD 54 key) (QbI key) hlt21)), (QaA r5_6 (Qef (QaD 92 key) hlt21)), (Qar.puts (Qar.puts q4 p5 (.inl (by simp))) p6 (.inl (by simp))), x6⟩ (by omega)
  ·skip
   have heq21 : i = 64 := by have := of_decide_eq_false c29; omega
   have r4_4_32 : V2.heap[g4]? = some (.cells (ints .u8 (padX 54 key)) 164) := QaA q4_2 (by rw [heq21]; exact Qf0 (QaD 54 key) (QbI key))
   have r5_4_33 : V2.heap[g5]? = some (.cells (ints .u8 (padX 92 key)) 164) := QaA q5_2 (by rw [heq21]; exact Qeu (QaD 92 key))
   refine wp_exit ?_
   refine hK24 _ _ ?_
   refine wp_seq_k fun K34 hK34 => ?_
   refine Qbd (fun W => W.heap[g5]? = some (.cells (ints .u8 (padX 92 key)) 164)) [⟨none, [(2, none)]⟩, ⟨none, [(3, none)]⟩, ⟨none, [(2, none), (33, some 0)]⟩, ⟨none, [(3, none), (34, some 1)]⟩] [] [1] kj kj kj (fun W hR => Qad r5_4_33 hR) fun F hF => ?_
   refine Qa6 (.agg (ints .u8 (padX 54 key))) kj kj kj rfl (fun W hR => (Qas 164 _ g4 164 _ _ (Qad (Qad r4_4_32 (Qak _)) hR) rfl kj kj (isz (n := 64) kj ((Qaf _ _).trans (QaD 54 key))))) ?_
   refine Qbj (.agg (ints .u8 (padX 92 key))) kj kj kj rfl (fun W hW => (Qas 164 _ g5 164 _ _ hW rfl kj kj (isz (n := 64) kj ((Qaf _ _).trans (QaD 92 key))))) ?_
   refine QaL rfl ?_
   refine QaL rfl ?_
   refine Qds (hF _ kj fun W5 e5 => ?_)
   simp only [List.nil_append, List.cons_append, fins, up]
   clear hF
   have x5 : Ext w W5 := Ext.tr xx2 e5
   have r4_5 := (Qad r4_4_32 e5)
   have r5_5 := (Qad r5_4_33 e5)
   refine QaG _ g4 _ (ints .u8 (padX 54 key)) 164 r4_5 rfl (Qam 164 _ _ g4 164 _ _ r4_5 rfl kj kj (isz (n := 64) kj ((Qaf _ _).trans (QaD 54 key))) (eqsz (n := 64) ((Qaf _ _).trans (QaD 54 key)) ((Qaf _ _).trans (QaD 54 key))) (Qay _ _)) (fun W hp => Puts.row hp r5_5 n_5_4) fun W6 p6 r4_6 => ?_
   have x6 : Ext w W6 := Puts.ext p6 x5 b4
   have r5_6 := (Puts.row p6 r5_5 n_5_4)
   refine Qfl _ g5 _ (ints .u8 (padX 92 key)) 164 r5_6 rfl (Qam 164 _ _ g5 164 _ _ r5_6 rfl kj kj (isz (n := 64) kj ((Qaf _ _).trans (QaD 92 key))) (eqsz (n := 64) ((Qaf _ _).trans (QaD 92 key)) ((Qaf _ _).trans (QaD 92 key))) (Qay _ _)) (fun W hp hrw => hrw) fun W7 p7 r5_7 => ?_
   have x7 : Ext w W7 := Puts.ext p7 x6 b5
   refine Qcr ?_
   refine hK34 _ _ ?_
   refine wp_ret ?_
   repeat (first | with_reducible refine goR1 ?_ | with_reducible refine goR2 ?_)
   have r4_7 := (Puts.row p7 r4_6 n_4_5)
   exact (show bodyPost _ _ _ .ret _ _ from ret2 (.agg (ints .u8 (padX 54 key))) (.agg (ints .u8 (padX 92 key))) rfl (QaU g4 164 _ r4_7 kj kj (isz (n := 64) kj ((Qaf _ _).trans (QaD 54 key)))) (QaU g5 164 _ r5_7 kj kj (isz (n := 64) kj ((Qaf _ _).trans (QaD 92 key)))) ⟨rfl, x7⟩)
end Go.Proofs.YtoiendjhplbjjaaDoor.Sha
end
section
namespace Go.Proofs.YtoiendjhplbjjaaDoor.Sha
open Go Go.RowKit
open Rely Auto Own
set_option linter.unusedVariables false
set_option linter.unusedSimpArgs false
set_option maxHeartbeats 4000000 in
theorem tagC (key : List Int) (v : Value) (B : Nat) (gp n : Nat) (Tp : TypeId) (ps : List (Value × List Int)) (hn : ps.length = n) (hn9 : n ≤ 1000000) (tc tq : TypeId) (w : World) (hc : w.heap[1]? = some (.cells (ints .u64 Qbi) tc)) (hq : w.heap[0]? = some (.cells (ints .u64 Qat) tq)) (hkb : Qaj key) (hkl : key.length ≤ 800000000) (hk : RdK .u8 B key v w) (hrow : w.heap[gp]? = some (.cells (ps.map Prod.fst).toArray Tp)) (hps : ∀ p ∈ ps, RdK .u8 w.heap.size p.2 p.1 w ∧ Qaj p.2) (hlen : ((ps.map Prod.snd).flatten).length ≤ 800000000) :
  Calls Tryd.prog 110 #[v, .slice (some ⟨gp, 0, none⟩) n n] w (Ret w (.agg (ints .u8 (hmac key ((ps.map Prod.snd).flatten))))) := by
 obtain ⟨a_key, c_key, rfl, -⟩ := id hk
 refine enter 36 [(0, .slice a_key key.length c_key), (1, .slice (some ⟨gp, 0, none⟩) n n)] Tryd.func110 rfl rfl kj rfl ?_
 refine wp_seq_k fun K4 hK4 => ?_
 refine Qab ?_
 refine Qaq (ints .u8 (List.replicate 32 0)) 29 4 rfl kj kj fun g5 W1 l5 e1 r5_1 => ?_
 have x1 : Ext w W1 := Ext.tr (Rely.Ext.refl w) e1
 have b5 : w.heap.size ≤ g5 := Nat.le_trans (Rely.Ext.refl w).size l5
 refine Qac ?_
 refine hK4 _ _ ?_
 refine wp_seq_k fun K6 hK6 => ?_
 refine Qab ?_
 refine Qaa (.slice a_key key.length c_key) 12 rfl kj kj ?_
 have r1_1 := (Qad hc e1)
 have r2_1 := (Qad hq e1)
 refine Qax (.tuple #[.agg (ints .u8 (padX 54 key)), .agg (ints .u8 (padX 92 key))]) 132 #[.slice a_key key.length c_key] 13 rfl kj kj (Qk9 key _ B tc tq _ r1_1 r2_1 hkb (by omega) (RdK.ext hk x1)) fun W2 e2 => ?_
 have x2 : Ext w W2 := Ext.tr x1 e2
 refine Qaa (.tuple #[.agg (ints .u8 (padX 54 key)), .agg (ints .u8 (padX 92 key))]) 11 rfl kj kj ?_
 refine Qaa (.agg (ints .u8 (padX 54 key))) 14 rfl kj kj ?_
 refine Qaa (.agg (ints .u8 (padX 92 key))) 15 rfl kj kj ?_
 refine Qaq (ints .u8 (List.replicate 64 0)) 164 5 rfl kj kj fun g7 W3 l7 e3 r7_3 => ?_
 have x3 : Ext w W3 := Ext.tr x2 e3
 have b7 : w.heap.size ≤ g7 := Nat.le_trans x2.size l7
 refine Qaq (ints .u8 (List.replicate 64 0)) 164 6 rfl kj kj fun g8 W4 l8 e4 r8_4 => ?_
 have x4 : Ext w W4 := Ext.tr x3 e4
 have b8 : w.heap.size ≤ g8 := Nat.le_trans x3.size l8
 have r7_4 := (Qad r7_3 e4)
 refine Qah g7 _ (ints .u8 (padX 54 key)) 164 r7_4 rfl kj (Qam 164 _ _ g7 164 _ _ r7_4 rfl kj kj (isz (n := 64) kj ((Qaf _ _).trans (QaD 54 key))) (eqsz (n := 64) ((Qaf _ _).trans (List.length_replicate (n := 64))) ((Qaf _ _).trans (QaD 54 key))) (Qay _ _)) fun W5 p5 r7_5 => ?_
 have x5 : Ext w W5 := Puts.ext p5 x4 b7
 have r8_5 := (Puts.row p5 r8_4 (Qap r7_3 l8))
 refine Qah g8 _ (ints .u8 (padX 92 key)) 164 r8_5 rfl kj (Qam 164 _ _ g8 164 _ _ r8_5 rfl kj kj (isz (n := 64) kj ((Qaf _ _).trans (QaD 92 key))) (eqsz (n := 64) ((Qaf _ _).trans (List.length_replicate (n := 64))) ((Qaf _ _).trans (QaD 92 key))) (Qay _ _)) fun W6 p6 r8_6 => ?_
 have x6 : Ext w W6 := Puts.ext p6 x5 b8
 refine Qac ?_
 refine hK6 _ _ ?_
 refine wp_seq_k fun K9 hK9 => ?_
 refine Qab ?_
 have r2_2 := (Qad r2_1 e2)
 have r2_3 := (Qad r2_2 e3)
 have r2_4 := (Qad r2_3 e4)
 have r2_5 := (Puts.row p5 r2_4 (Qae r2_2 l7))
 have r2_6 := (Puts.row p6 r2_5 (Qae r2_3 l8))
 refine Qa0 (fun v W' => (fun v W => ∃ g, v = .pointer (some ⟨g, 0, none⟩) ∧ W6.heap.size ≤ g ∧ HasD g [] W) v W' ∧ Ext W6 W') 77 #[] 16 rfl kj kj ((newC tq _ r2_6).mono (by rintro e w' ⟨v, rfl, e1, hv⟩; exact ⟨v, rfl, hv, e1⟩)) fun vv10 W7 hh10 => ?_
 obtain ⟨hv10, e7⟩ := hh10
 have x7 : Ext w W7 := Ext.tr x6 e7
 obtain ⟨gd11, rfl, ld11, hD11⟩ := hv10
 have b11 : w.heap.size ≤ gd11 := Nat.le_trans x6.size ld11
 refine Qaa (.pointer (some ⟨gd11, 0, none⟩)) 7 rfl kj kj ?_
 refine Qac ?_
 refine hK9 _ _ ?_
 refine wp_seq_k fun K12 hK12 => ?_
 refine Qab ?_
 refine Qaa (.pointer (some ⟨gd11, 0, none⟩)) 17 rfl kj kj ?_
 refine Qaa (.slice (some ⟨g7, 0, none⟩) 64 64) 18 rfl kj kj ?_
 have r1_2 := (Qad r1_1 e2)
 have r1_3 := (Qad r1_2 e3)
 have r1_4 := (Qad r1_3 e4)
 have r1_5 := (Puts.row p5 r1_4 (Qae r1_2 l7))
 have r1_6 := (Puts.row p6 r1_5 (Qae r1_3 l8))
 have r1_7 := (Qad r1_6 e7)
 have r7_6 := (Puts.row p6 r7_5 (Qae r7_3 l8))
 have r7_7 := (Qad r7_6 e7)
 refine Qa0 (fun v W' => v = .tuple #[] ∧ ExtB gd11 W7 W' ∧ HasD gd11 (padX 54 key) W') 78 #[.pointer (some ⟨gd11, 0, none⟩), .slice (some ⟨g7, 0, none⟩) 64 64] 19 rfl kj kj ((addC gd11 _ [] (padX 54 key) (.slice (some ⟨g7, 0, none⟩) 64 64) tc _ r1_7 (Nat.ne_of_lt (Nat.lt_of_lt_of_le (Qa8 hc) b11)) (.inr (fun e => (Qae r7_6 ld11) (Option.some.inj e))) (QeE _ _) (by rw [QaD]; decide) (hD11) (Qbp (xs := padX 54 key) (n := 64) (QaD 54 key) r7_7 (Qa8 r7_7) (show 64 ≤ maxLen from by decide))).mono fun e w' h => ⟨_, h.1, rfl, h.2⟩) fun v W8 h => ?_
 obtain ⟨rfl, q8, hDp⟩ := h
 have x8 : Ext w W8 := ExtB.up x7 q8 b11
 refine Qac ?_
 refine hK12 _ _ ?_
 refine wp_seq_k fun K13 hK13 => ?_
 refine wp_seq_k fun K14 hK14 => ?_
 refine Qab ?_
 refine Qaa (.slice (some ⟨gp, 0, none⟩) n n) 20 rfl kj kj ?_
 refine Qaa (.int .i64 ((n : Nat) : Int)) 21 rfl kj kj ?_
 refine Qaa (.int .i64 0) 22 rfl kj kj ?_
 refine Qac ?_
 refine hK14 _ _ ?_
 refine wp_block ?_
 refine QaO (fun (s1 : Nat) => [(20, .slice (some ⟨gp, 0, none⟩) n n), (21, .int .i64 ((n : Nat) : Int)), (22, .int .i64 ((s1 : Nat) : Int)), (7, .pointer (some ⟨gd11, 0, none⟩)), (4, .pointer (some ⟨g5, 0, none⟩)), (6, .pointer (some ⟨g8, 0, none⟩))]) (fun (s1 : Nat) W => (s1 ≤ n) ∧ (HasD gd11 (padX 54 key ++ flat ps s1) W) ∧ (Qar [gd11] W8 W) ∧ (Ext w W)) (fun (s1 : Nat) => n - s1) 0 ⟨rfl, rfl, rfl, rfl, rfl, rfl, trivial⟩ ⟨(Nat.zero_le _), (show HasD _ (padX 54 key ++ flat ps 0) _ from (List.append_nil (padX 54 key)).symm ▸ hDp), (Qar.refl [gd11] W8), x8⟩ fun s1 X1 V1 hI1 => ?_
 obtain ⟨i, hs1⟩ : ∃ z, z = s1 := ⟨_, rfl⟩
 subst hs1
 obtain ⟨hi, hDi, kk1, xx1⟩ := hI1
 replace hi : i ≤ n := hi
 replace hDi : HasD gd11 (padX 54 key ++ flat ps i) V1 := hDi
 replace kk1 : Qar [gd11] W8 V1 := kk1
 replace xx1 : Ext w V1 := xx1
 have q9 := kk1
 refine wp_seq_k fun K15 hK15 => ?_
 refine Qab ?_
 refine Qaa (.bool (decide (((i : Nat) : Int) < ((n : Nat) : Int)))) 23 rfl kj kj ?_
 refine Qac ?_
 refine hK15 _ _ ?_
 refine wp_seq_k fun K16 hK16 => ?_
 refine Qa7 (t := decide (((i : Nat) : Int) < ((n : Nat) : Int))) kj (fun c17 => ?_) (fun c17 => ?_)
 ·skip
  have hlt23 : i < n := by have := of_decide_eq_true c17; omega
  refine wp_skip ?_
  refine hK16 _ _ ?_
  refine wp_seq_k fun K18 hK18 => ?_
  refine wp_block ?_
  refine wp_seq_k fun K19 hK19 => ?_
  refine Qab ?_
  have hi2 : i < ps.length := by omega
  refine Qaa (.pointer (some ⟨gp, i, none⟩)) 24 rfl kj (Qbu 47 _ _ .i64 i gp n n 33 rfl kj kj kj kj hlt23) ?_
  have r3_1 := (Qad hrow e1)
  have r3_2 := (Qad r3_1 e2)
  have r3_3 := (Qad r3_2 e3)
  have r3_4 := (Qad r3_3 e4)
  have r3_5 := (Puts.row p5 r3_4 (Qae r3_2 l7))
  have r3_6 := (Puts.row p6 r3_5 (Qae r3_3 l8))
  have r3_7 := (Qad r3_6 e7)
  have r3_8 := (ExtB.row q8 r3_7 (Qae r3_6 ld11))
  have r3_9 := (Qar.row q9 r3_8 (Qa5 (Qae r3_6 ld11) QaT))
  refine Qaa ((pat ps i).1) 25 rfl kj (Qbl 33 _ _ ((pat ps i).1) (QcD r3_9 (Qhz hi2)) rfl kj kj) ?_
  refine Qaa ((pat ps i).1) 9 rfl kj kj ?_
  refine Qac ?_
  refine hK19 _ _ ?_
  refine Qab ?_
  refine Qaa (.pointer (some ⟨gd11, 0, none⟩)) 26 rfl kj kj ?_
  refine Qaa ((pat ps i).1) 27 rfl kj kj ?_
  have r1_8 := (ExtB.row q8 r1_7 (Qae r1_6 ld11))
  have r1_9 := (Qar.row q9 r1_8 (Qa5 (Qae r1_6 ld11) QaT))
  have hp6 := (hps _ (QdD hi2)).1.ext xx1
  have hl6 := Qge hi2
  refine Qa0 (fun v W' => v = .tuple #[] ∧ ExtB gd11 V1 W' ∧ HasD gd11 ((padX 54 key ++ flat ps i) ++ (pat ps i).2) W') 78 #[.pointer (some ⟨gd11, 0, none⟩), (pat ps i).1] 28 rfl kj kj ((addC gd11 _ _ _ _ tc _ r1_9 (Nat.ne_of_lt (Nat.lt_of_lt_of_le (Qa8 hc) b11)) (hp6.nb b11) (hps _ (QdD hi2)).2 (by rw [List.length_append, QaD]; omega) hDi hp6).mono fun e w' h => ⟨_, h.1, rfl, h.2⟩) fun v W10 h => ?_
  obtain ⟨rfl, q10, hDn⟩ := h
  have x10 : Ext w W10 := ExtB.up xx1 q10 b11
  refine Qac ?_
  refine hK18 _ _ ?_
  refine Qab ?_
  refine Qaa (.int .i64 ((i + 1 : Nat) : Int)) 29 rfl kj (Qal (u := .int .i64 (IntKind.i64.wrap (((i : Nat) : Int) + 1))) kj (congrArg (Value.int .i64) (i64n _ _ (by omega) (by omega)))) ?_
  refine Qaa (.int .i64 ((i + 1 : Nat) : Int)) 22 rfl kj kj ?_
  refine Qac ?_
  repeat (first | with_reducible refine goX1 ?_ | with_reducible refine goX2 ?_ | with_reducible refine goX3 ?_)
  exact QaI (i + 1) ⟨rfl, rfl, rfl, rfl, rfl, rfl, trivial⟩ ⟨(by omega), (by rw [Qd0 hi2, ← List.append_assoc]; exact hDn), (Qar.but q9 q10 (.inl (by simp))), x10⟩ (by omega)
 ·skip
  have heq23 : i = n := by have := of_decide_eq_false c17; omega
  refine wp_exit ?_
  refine hK13 _ _ ?_
  refine wp_seq_k fun K20 hK20 => ?_
  refine Qab ?_
  refine Qaa (.pointer (some ⟨gd11, 0, none⟩)) 30 rfl kj kj ?_
  have r1_8 := (ExtB.row q8 r1_7 (Qae r1_6 ld11))
  have r1_9 := (Qar.row q9 r1_8 (Qa5 (Qae r1_6 ld11) QaT))
  refine Qax (.agg (ints .u8 (dig (padX 54 key ++ flat ps i)))) 79 #[.pointer (some ⟨gd11, 0, none⟩)] 31 rfl kj kj (sumC gd11 _ tc _ r1_9 (by rw [heq23, Qc5 hn, List.length_append, QaD]; omega) hDi) fun W10 e10 => ?_
  have x10 : Ext w W10 := Ext.tr xx1 e10
  refine Qaq (ints .u8 (List.replicate 32 0)) 29 10 rfl kj kj fun g21 W11 l21 e11 r21_11 => ?_
  have x11 : Ext w W11 := Ext.tr x10 e11
  have b21 : w.heap.size ≤ g21 := Nat.le_trans x10.size l21
  refine Qah g21 _ (ints .u8 (dig (padX 54 key ++ flat ps i))) 29 r21_11 rfl kj (Qam 29 _ _ g21 29 _ _ r21_11 rfl kj kj (isz (n := 32) kj ((Qaf _ _).trans (QaJ _))) (eqsz (n := 32) ((Qaf _ _).trans (List.length_replicate (n := 32))) ((Qaf _ _).trans (QaJ _))) (Qay _ _)) fun W12 p12 r21_12 => ?_
  have x12 : Ext w W12 := Puts.ext p12 x11 b21
  refine Qac ?_
  refine hK20 _ _ ?_
  refine wp_seq_k fun K22 hK22 => ?_
  refine QaY 2 [⟨none, [(6, none)]⟩, ⟨none, [(10, none)]⟩] kj kj fun F hF => ?_
  refine QaB (Qav _) (.slice (some ⟨g8, 0, none⟩) 64 64) kj kj (fun W => by kernel_rfl) ?_
  refine QaB (Qav _) (.slice (some ⟨g21, 0, none⟩) 32 32) kj kj (fun W => by kernel_rfl) ?_
  refine QcU (hF _ fun W13 e13 => ?_)
  simp only [List.nil_append, List.cons_append, List.take_succ_cons, List.take_zero, List.drop_succ_cons, List.drop_zero, finE, up]
  clear hF
  have x13 : Ext w W13 := Ext.tr x12 e13
  refine QaZ (#[.slice (some ⟨g8, 0, none⟩) 64 64, .slice (some ⟨g21, 0, none⟩) 32 32]) 33 2 34 rfl kj kj fun g23 W14 l23 e14 r23_14 => ?_
  have x14 : Ext w W14 := Ext.tr x13 e14
  have b23 : w.heap.size ≤ g23 := Nat.le_trans x13.size l23
  have r8_7 := (Qad r8_6 e7)
  have r8_8 := (ExtB.row q8 r8_7 (Qae r8_6 ld11))
  have r8_9 := (Qar.row q9 r8_8 (Qa5 (Qae r8_6 ld11) QaT))
  have r8_10 := (Qad r8_9 e10)
  have r8_11 := (Qad r8_10 e11)
  have r8_12 := (Puts.row p12 r8_11 (Qae r8_10 l21))
  have r8_13 := (Qad r8_12 e13)
  have r8_14 := (Qad r8_13 e14)
  have r21_13 := (Qad r21_12 e13)
  have r21_14 := (Qad r21_13 e14)
  have r1_10 := (Qad r1_9 e10)
  have r1_11 := (Qad r1_10 e11)
  have r1_12 := (Puts.row p12 r1_11 (Qae r1_10 l21))
  have r1_13 := (Qad r1_12 e13)
  have r1_14 := (Qad r1_13 e14)
  have r2_7 := (Qad r2_6 e7)
  have r2_8 := (ExtB.row q8 r2_7 (Qae r2_6 ld11))
  have r2_9 := (Qar.row q9 r2_8 (Qa5 (Qae r2_6 ld11) QaT))
  have r2_10 := (Qad r2_9 e10)
  have r2_11 := (Qad r2_10 e11)
  have r2_12 := (Puts.row p12 r2_11 (Qae r2_10 l21))
  have r2_13 := (Qad r2_12 e13)
  have r2_14 := (Qad r2_13 e14)
  have hps24 : ∀ p ∈ ([(.slice (some ⟨g8, 0, none⟩) 64 64, padX 92 key), (.slice (some ⟨g21, 0, none⟩) 32 32, dig (padX 54 key ++ flat ps i))] : List (Value × List Int)), RdK .u8 W14.heap.size p.2 p.1 W14 ∧ Qaj p.2 := by
   intro p hp
   simp only [List.mem_cons, List.not_mem_nil, or_false] at hp
   rcases hp with rfl | rfl
   ·exact ⟨RdK.here (Qbp (xs := padX 92 key) (n := 64) (QaD 92 key) r8_14 (Qa8 r8_14) (show 64 ≤ maxLen from by decide)), (QeE _ _)⟩
   ·exact ⟨RdK.here (Qbp (xs := dig (padX 54 key ++ flat ps i)) (n := 32) (QaJ _) r21_14 (Qa8 r21_14) (show 32 ≤ maxLen from by decide)), (Qc6 _)⟩
  have hsh24 := Qhm g23 2 _ ([(.slice (some ⟨g8, 0, none⟩) 64 64, padX 92 key), (.slice (some ⟨g21, 0, none⟩) 32 32, dig (padX 54 key ++ flat ps i))] : List (Value × List Int)) rfl (by decide) tc tq W14 r1_14 r2_14 r23_14 hps24 (by simp only [List.map_cons, List.map_nil, List.flatten_cons, List.flatten_nil, List.append_nil, List.length_append, (QaJ _), (QaD 92 key)]; omega)
  rw [show ((List.map Prod.snd ([(.slice (some ⟨g8, 0, none⟩) 64 64, padX 92 key), (.slice (some ⟨g21, 0, none⟩) 32 32, dig (padX 54 key ++ flat ps i))] : List (Value × List Int))).flatten) = (padX 92 key) ++ (dig (padX 54 key ++ flat ps i)) by simp only [List.map_cons, List.map_nil, List.flatten_cons, List.flatten_nil, List.append_nil]] at hsh24
  refine Qax (.agg (ints .u8 (dig ((padX 92 key) ++ (dig (padX 54 key ++ flat ps i)))))) 76 #[.slice (some ⟨g23, 0, none⟩) 2 2] 35 rfl kj kj hsh24 fun W15 e15 => ?_
  have x15 : Ext w W15 := Ext.tr x14 e15
  have r5_2 := (Qad r5_1 e2)
  have r5_3 := (Qad r5_2 e3)
  have r5_4 := (Qad r5_3 e4)
  have r5_5 := (Puts.row p5 r5_4 (Qae r5_2 l7))
  have r5_6 := (Puts.row p6 r5_5 (Qae r5_3 l8))
  have r5_7 := (Qad r5_6 e7)
  have r5_8 := (ExtB.row q8 r5_7 (Qae r5_6 ld11))
  have r5_9 := (Qar.row q9 r5_8 (Qa5 (Qae r5_6 ld11) QaT))
  have r5_10 := (Qad r5_9 e10)
  have r5_11 := (Qad r5_10 e11)
  have r5_12 := (Puts.row p12 r5_11 (Qae r5_10 l21))
  have r5_13 := (Qad r5_12 e13)
  have r5_14 := (Qad r5_13 e14)
  have r5_15 := (Qad r5_14 e15)
  refine Qah g5 _ (ints .u8 (dig ((padX 92 key) ++ (dig (padX 54 key ++ flat ps i))))) 29 r5_15 rfl kj (Qam 29 _ _ g5 29 _ _ r5_15 rfl kj kj (isz (n := 32) kj ((Qaf _ _).trans (QaJ _))) (eqsz (n := 32) ((Qaf _ _).trans (List.length_replicate (n := 32))) ((Qaf _ _).trans (QaJ _))) (Qay _ _)) fun W16 p16 r5_16 => ?_
  have x16 : Ext w W16 := Puts.ext p16 x15 b5
  refine Qac ?_
  refine hK22 _ _ ?_
  refine wp_ret ?_
  repeat (first | with_reducible refine goR1 ?_ | with_reducible refine goR2 ?_)
  exact (show bodyPost _ _ _ .ret _ _ from ret1 (.agg (ints .u8 (dig ((padX 92 key) ++ (dig (padX 54 key ++ flat ps i)))))) rfl (QaU g5 29 _ r5_16 kj kj (isz (n := 32) kj ((Qaf _ _).trans (QaJ _)))) ⟨by unfold hmac; rw [heq23, Qc5 hn], x16⟩)
end Go.Proofs.YtoiendjhplbjjaaDoor.Sha
end
section
namespace Go.Proofs.YtoiendjhplbjjaaDoor.Auto
open Go Go.RowKit
open Rely Own
set_option linter.unusedVariables false
set_option linter.unusedSimpArgs false
section
variable {P : Program} {w : World} {k kn : IntKind} {T : TypeId} {t tn ty : TypeId}
end
end Go.Proofs.YtoiendjhplbjjaaDoor.Auto
end
section
namespace Go.Proofs.YtoiendjhplbjjaaDoor.Sha
open Go Go.RowKit
open Rely Auto Own
set_option linter.unusedVariables false
set_option linter.unusedSimpArgs false
theorem bytes_app {a b : List Int} (ha : Qaj a) (hb : Qaj b) : Qaj (a ++ b) := fun x hx => by
  rcases List.mem_append.1 hx with h | h
  · exact ha x h
  · exact hb x h
section
variable {ds : List Deferred} {P : Program} {ops : Array Oper} {Q : Exit → Act → World → Prop} {rest : List Oper} {o : Oper} {N : Nat} {L : Env} {W : World}
end
end Go.Proofs.YtoiendjhplbjjaaDoor.Sha
end
section
namespace Go.Proofs.YtoiendjhplbjjaaDoor.Sha
open Go Go.RowKit
open Rely Auto Own
set_option linter.unusedVariables false
set_option linter.unusedSimpArgs false
set_option maxHeartbeats 4000000 in
theorem Qi6 (salt text : List Int) (v1 v2 : Value) (B B2 : Nat) (tc tq : TypeId) (w : World) (hc : w.heap[1]? = some (.cells (ints .u64 Qbi) tc)) (hq : w.heap[0]? = some (.cells (ints .u64 Qat) tq)) (hkl : salt.length ≤ 800000000) (htl : text.length ≤ 800000000) (hkb : Qaj salt) (htb : Qaj text) (hk : RdK .u8 B salt v1 w) (ht : RdK .u8 B2 text v2 w) : Calls Tryd.prog 80 #[v1, v2] w (Ret w (.agg (ints .u8 (hmac salt text)))) := by
  obtain ⟨a_salt, c_salt, rfl, -⟩ := id hk
  obtain ⟨a_text, c_text, rfl, -⟩ := id ht
  refine enter 9 [(0, .slice a_salt salt.length c_salt), (1, .slice a_text text.length c_text)] Tryd.func80 rfl rfl kj rfl ?_
  refine wp_seq_k fun K3 hK3 => ?_
  refine Qab ?_
  refine Qaq (ints .u8 (List.replicate 32 0)) 29 4 rfl kj kj fun g4 W1 l4 e1 r4_1 => ?_
  have x1 : Ext w W1 := Ext.tr (Rely.Ext.refl w) e1
  have b4 : w.heap.size ≤ g4 := Nat.le_trans (Rely.Ext.refl w).size l4
  refine Qac ?_
  refine hK3 _ _ ?_
  refine wp_seq_k fun K5 hK5 => ?_
  refine Qab ?_
  refine Qaa (.slice a_salt salt.length c_salt) 5 rfl kj kj ?_
  refine Qaa (.slice a_text text.length c_text) 6 rfl kj kj ?_
  refine QaZ (#[.slice a_text text.length c_text]) 33 1 7 rfl kj kj fun g6 W2 l6 e2 r6_2 => ?_
  have x2 : Ext w W2 := Ext.tr x1 e2
  have b6 : w.heap.size ≤ g6 := Nat.le_trans x1.size l6
  have r1_1 := (Qad hc e1)
  have r1_2 := (Qad r1_1 e2)
  have r2_1 := (Qad hq e1)
  have r2_2 := (Qad r2_1 e2)
  have hps7 : ∀ p ∈ ([(.slice a_text text.length c_text, text)] : List (Value × List Int)), RdK .u8 W2.heap.size p.2 p.1 W2 ∧ Qaj p.2 := by
    intro p hp
    simp only [List.mem_cons, List.not_mem_nil, or_false] at hp
    rcases hp with rfl
    · exact ⟨RdK.here (RdK.ext ht x2), htb⟩
  have htg7 := tagC (salt) (.slice a_salt salt.length c_salt) _ g6 1 _ ([(.slice a_text text.length c_text, text)] : List (Value × List Int)) rfl (by decide) tc tq W2 r1_2 r2_2 hkb (by omega) (RdK.ext hk x2) r6_2 hps7 (by simp only [List.map_cons, List.map_nil, List.flatten_cons, List.flatten_nil, List.append_nil, List.length_append]; omega)
  rw [show ((List.map Prod.snd ([(.slice a_text text.length c_text, text)] : List (Value × List Int))).flatten) = text by simp only [List.map_cons, List.map_nil, List.flatten_cons, List.flatten_nil, List.append_nil, List.append_assoc]] at htg7
  refine Qax (.agg (ints .u8 (hmac (salt) (text)))) 110 #[.slice a_salt salt.length c_salt, .slice (some ⟨g6, 0, none⟩) 1 1] 8 rfl kj kj htg7 fun W3 e3 => ?_
  have x3 : Ext w W3 := Ext.tr x2 e3
  have r4_2 := (Qad r4_1 e2)
  have r4_3 := (Qad r4_2 e3)
  refine Qah g4 _ (ints .u8 (hmac (salt) (text))) 29 r4_3 rfl kj (Qam 29 _ _ g4 29 _ _ r4_3 rfl kj kj (isz (n := 32) kj ((Qaf _ _).trans (Qbw _ _))) (eqsz (n := 32) ((Qaf _ _).trans (List.length_replicate (n := 32))) ((Qaf _ _).trans (Qbw _ _))) (Qay _ _)) fun W4 p4 r4_4 => ?_
  have x4 : Ext w W4 := Puts.ext p4 x3 b4
  refine Qac ?_
  refine hK5 _ _ ?_
  refine wp_ret ?_
  repeat (first | with_reducible refine goR1 ?_ | with_reducible refine goR2 ?_)
  exact (show bodyPost _ _ _ .ret _ _ from ret1 (.agg (ints .u8 (hmac (salt) (text)))) rfl (QaU g4 29 _ r4_4 kj kj (isz (n := 32) kj ((Qaf _ _).trans (Qbw _ _)))) ⟨rfl, x4⟩)
end Go.Proofs.YtoiendjhplbjjaaDoor.Sha
end
section
namespace Go.Proofs.YtoiendjhplbjjaaDoor.Sha
open Go Go.RowKit
open Rely Auto Own
set_option linter.unusedVariables false
set_option linter.unusedSimpArgs false
def tg (key info : List Int) : Nat → List Int
  | 0 => []
  | i + 1 => hmac key ((tg key info i ++ info) ++ [((i + 1 : Nat) : Int)])
def okm (key info : List Int) : Nat → List Int
  | 0 => []
  | k + 1 => okm key info k ++ tg key info (k + 1)
theorem Qkv (key info : List Int) (i : Nat) : (tg key info i).length ≤ 32 := by
  cases i with
  | zero => exact Nat.zero_le _
  | succ i => exact Nat.le_of_eq (Qbw _ _)
theorem Qgn (key info : List Int) (i : Nat) : Qaj (tg key info i) := by
  cases i with
  | zero => intro x hx; cases hx
  | succ i => exact QeJ _ _
theorem QfX (key info : List Int) (k : Nat) : (okm key info k).length = 32 * k := by
  induction k with
  | zero => rfl
  | succ k ih => rw [okm, List.length_append, ih, tg, Qbw]; omega
theorem u8_n (k : Nat) (h : k + 1 ≤ 255) : IntKind.u8.wrap ((k + 1 : Nat) : Int) = ((k + 1 : Nat) : Int) := by rw [Qkg]; omega
end Go.Proofs.YtoiendjhplbjjaaDoor.Sha
end
section
namespace Go.Proofs.YtoiendjhplbjjaaDoor.Sha
open Go Go.RowKit
open Rely Auto Own
set_option linter.unusedVariables false
set_option linter.unusedSimpArgs false
set_option maxHeartbeats 4000000 in
theorem QgH (m : Nat) (gs : List Nat) (g1 g2 B : Nat) (key info : List Int) (a_key a_info : Option Addr) (c_key c_info : Nat) (tc tq : TypeId) (w : World) (hkl : key.length ≤ 800000000) (hil : info.length ≤ 700000000) (hkb : Qaj key) (hib : Qaj info)
  (hBw : B ≤ w.heap.size) (hgs : ∀ c ∈ gs, B ≤ c) (hgl : ∀ c ∈ gs, c < w.heap.size) (hkw : RdK .u8 B key (.slice a_key key.length c_key) w) (hiw : RdK .u8 B info (.slice a_info info.length c_info) w)
  (hcw : w.heap[1]? = some (.cells (ints .u64 Qbi) tc)) (hqw : w.heap[0]? = some (.cells (ints .u64 Qat) tq)) (r1w : w.heap[g1]? = some (.cells #[.slice a_key key.length c_key] 33)) (r2w : w.heap[g2]? = some (.cells #[.slice a_info info.length c_info] 33)) (n1 : g1 ∉ gs) (n2 : g2 ∉ gs) (nc : 1 ∉ gs) (nq : 0 ∉ gs) :
  SeqStopsK Fence.wide m Tryd.prog 152 #[.pointer (some ⟨g1, 0, none⟩), .pointer (some ⟨g2, 0, none⟩)] (fun i : Nat => #[Value.agg (ints .u8 (tg key info (i + 1)))]) (Qb5 gs) (fun ys => ys = List.range 255) (fun ys => ∃ k, ys = List.range k ∧ k ≤ 255) 256 w := fun l J Jx Wi hW hJ hJx hY h0 => by
 refine callsIn_wide.2 ?_
 have hwi := hW.size
 have hBi : B ≤ Wi.heap.size := Nat.le_trans hBw hwi
 have hk := hkw.ext hW
 have hi := hiw.ext hW
 have hc := Qad hcw hW
 have hq := Qad hqw hW
 have r1 := Qad r1w hW
 have r2 := Qad r2w hW
 refine enter 24 [(0, .func (.yield l) #[] #[]), (1, .pointer (some ⟨g1, 0, none⟩)), (2, .pointer (some ⟨g2, 0, none⟩))] Tryd.func152 rfl rfl kj rfl ?_
 refine wp_seq_k fun K5 hK5 => ?_
 refine Qab ?_
 refine Qaa (.slice none 0 0) 4 rfl kj kj ?_
 refine Qac ?_
 refine hK5 _ _ ?_
 refine wp_seq_k fun K6 hK6 => ?_
 refine Qab ?_
 refine Qaa (.int .i64 1) 5 rfl kj kj ?_
 refine Qac ?_
 refine hK6 _ _ ?_
 refine wp_block ?_
 refine QaO (fun (s1 : Nat × Value) => [(0, .func (.yield l) #[] #[]), (1, .pointer (some ⟨g1, 0, none⟩)), (2, .pointer (some ⟨g2, 0, none⟩)), (4, s1.2), (5, .int .i64 ((s1.1 + 1 : Nat) : Int))]) (fun (s1 : Nat × Value) W => (s1.1 ≤ 255) ∧ (J (List.range s1.1) W) ∧ (W.heap[g1]? = some (.cells #[.slice a_key key.length c_key] 33)) ∧ (W.heap[g2]? = some (.cells #[.slice a_info info.length c_info] 33)) ∧ (W.heap[1]? = some (.cells (ints .u64 Qbi) tc)) ∧ (W.heap[0]? = some (.cells (ints .u64 Qat) tq)) ∧ (RdK .u8 B key (.slice a_key key.length c_key) W) ∧ (RdK .u8 B info (.slice a_info info.length c_info) W) ∧ (OwnN .u8 29 Wi.heap.size (tg key info s1.1) s1.2 W) ∧ (Grew Wi W)) (fun (s1 : Nat × Value) => 255 - s1.1) (0, (.slice none 0 0)) ⟨rfl, rfl, rfl, rfl, rfl, trivial⟩ ⟨(by decide), (show J (List.range 0) _ from h0), r1, r2, hc, hq, hk, hi, (QeY _ _ _ _), (Grew.refl Wi)⟩ fun s1 X1 V1 hI1 => ?_
 obtain ⟨k, v⟩ := s1
 obtain ⟨hkl_, hJ1, rr1, rr2, rrc, rrq, hk1, hi1, hv, xx1⟩ := hI1
 replace hkl_ : k ≤ 255 := hkl_
 replace hJ1 : J (List.range k) V1 := hJ1
 replace rr1 : V1.heap[g1]? = some (.cells #[.slice a_key key.length c_key] 33) := rr1
 replace rr2 : V1.heap[g2]? = some (.cells #[.slice a_info info.length c_info] 33) := rr2
 replace rrc : V1.heap[1]? = some (.cells (ints .u64 Qbi) tc) := rrc
 replace rrq : V1.heap[0]? = some (.cells (ints .u64 Qat) tq) := rrq
 replace hk1 : RdK .u8 B key (.slice a_key key.length c_key) V1 := hk1
 replace hi1 : RdK .u8 B info (.slice a_info info.length c_info) V1 := hi1
 replace hv : OwnN .u8 29 Wi.heap.size (tg key info k) v V1 := hv
 replace xx1 : Grew Wi V1 := xx1
 obtain ⟨a4, c4, rfl, -⟩ := id (OwnN.rd hv)
 refine wp_seq_k fun K7 hK7 => ?_
 refine wp_seq_k fun K8 hK8 => ?_
 refine Qab ?_
 refine Qaa (.int .i64 ((k + 1 : Nat) : Int)) 7 rfl kj kj ?_
 refine Qaa (.bool (decide (((k + 1 : Nat) : Int) ≤ 255))) 8 rfl kj kj ?_
 refine Qac ?_
 refine hK8 _ _ ?_
 refine Qa7 (t := decide (((k + 1 : Nat) : Int) ≤ 255)) kj (fun c9 => ?_) (fun c9 => ?_)
 ·skip
  have hlt : k + 1 ≤ 255 := by have := of_decide_eq_true c9; omega
  have htl := Qkv key info k
  have hl1 : [((k + 1 : Nat) : Int)].length = 1 := rfl
  refine wp_skip ?_
  refine hK7 _ _ ?_
  refine wp_seq_k fun K10 hK10 => ?_
  refine wp_block ?_
  refine wp_seq_k fun K11 hK11 => ?_
  refine Qab ?_
  refine Qaa (.slice a_key key.length c_key) 11 rfl kj (Qag 33 _ g1 0 33 _ (.slice a_key key.length c_key) _ rr1 rfl kj kj kj) ?_
  refine Qaa (.slice a4 ((tg key info k).length) c4) 12 rfl kj kj ?_
  refine Qaa (.slice a_info info.length c_info) 13 rfl kj (Qag 33 _ g2 0 33 _ (.slice a_info info.length c_info) _ rr2 rfl kj kj kj) ?_
  refine Qaa (.int .i64 ((k + 1 : Nat) : Int)) 14 rfl kj kj ?_
  refine Qaa (.int .u8 (((k + 1 : Nat) : Int))) 15 rfl kj (Qal (u := .int .u8 (IntKind.u8.wrap ((k + 1 : Nat) : Int))) kj (congrArg (Value.int .u8) (u8_n _ (by omega)))) ?_
  refine QaZ (ints .u8 ([(((k + 1 : Nat) : Int))])) 5 1 16 rfl kj kj fun g12 W2 l12 e2 r12_2 => ?_
  have x2 : Grew Wi W2 := Grew.ext xx1 e2
  have b12 : Wi.heap.size ≤ g12 := Nat.le_trans xx1.size l12
  refine QaZ (#[.slice a4 ((tg key info k).length) c4, .slice a_info info.length c_info, .slice (some ⟨g12, 0, none⟩) 1 1]) 33 3 17 rfl kj kj fun g13 W3 l13 e3 r13_3 => ?_
  have x3 : Grew Wi W3 := Grew.ext x2 e3
  have b13 : Wi.heap.size ≤ g13 := Nat.le_trans x2.size l13
  have f15_2 := (hk1.ext e2)
  have f16_3 := (f15_2.ext e3)
  have f17_2 := (hv.ext e2)
  have f18_3 := (f17_2.ext e3)
  have f19_2 := (hi1.ext e2)
  have f20_3 := (f19_2.ext e3)
  have r12_3 := (Qad r12_2 e3)
  have r1_2 := (Qad rrc e2)
  have r1_3 := (Qad r1_2 e3)
  have r2_2 := (Qad rrq e2)
  have r2_3 := (Qad r2_2 e3)
  have hps14 : ∀ p ∈ ([(.slice a4 ((tg key info k).length) c4, tg key info k), (.slice a_info info.length c_info, info), (.slice (some ⟨g12, 0, none⟩) 1 1, [(((k + 1 : Nat) : Int))])] : List (Value × List Int)), RdK .u8 W3.heap.size p.2 p.1 W3 ∧ Qaj p.2 := by
   intro p hp
   simp only [List.mem_cons, List.not_mem_nil, or_false] at hp
   rcases hp with rfl | rfl | rfl
   ·exact ⟨RdK.here (OwnN.rd f18_3), (Qgn _ _ _)⟩
   ·exact ⟨RdK.here f20_3, hib⟩
   ·exact ⟨RdK.here (Qbp (xs := [(((k + 1 : Nat) : Int))]) (n := 1) rfl r12_3 (Qa8 r12_3) (show 1 ≤ maxLen from by decide)), (fun x hx => by rw [List.mem_singleton] at hx; subst hx; omega)⟩
  have htg14 := tagC (key) (.slice a_key key.length c_key) _ g13 3 _ ([(.slice a4 ((tg key info k).length) c4, tg key info k), (.slice a_info info.length c_info, info), (.slice (some ⟨g12, 0, none⟩) 1 1, [(((k + 1 : Nat) : Int))])] : List (Value × List Int)) rfl (by decide) tc tq W3 r1_3 r2_3 hkb (by omega) f16_3 r13_3 hps14 (by simp only [List.map_cons, List.map_nil, List.flatten_cons, List.flatten_nil, List.append_nil, List.length_append]; omega)
  rw [show ((List.map Prod.snd ([(.slice a4 ((tg key info k).length) c4, tg key info k), (.slice a_info info.length c_info, info), (.slice (some ⟨g12, 0, none⟩) 1 1, [(((k + 1 : Nat) : Int))])] : List (Value × List Int))).flatten) = (tg key info k) ++ info ++ ([(((k + 1 : Nat) : Int))]) by simp only [List.map_cons, List.map_nil, List.flatten_cons, List.flatten_nil, List.append_nil, List.append_assoc]] at htg14
  refine Qax (.agg (ints .u8 (hmac (key) ((tg key info k) ++ info ++ ([(((k + 1 : Nat) : Int))]))))) 110 #[.slice a_key key.length c_key, .slice (some ⟨g13, 0, none⟩) 3 3] 18 rfl kj kj htg14 fun W4 e4 => ?_
  have x4 : Grew Wi W4 := Grew.ext x3 e4
  refine Qaq (ints .u8 (List.replicate 32 0)) 29 6 rfl kj kj fun g21 W5 l21 e5 r21_5 => ?_
  have x5 : Grew Wi W5 := Grew.ext x4 e5
  have b21 : Wi.heap.size ≤ g21 := Nat.le_trans x4.size l21
  refine Qah g21 _ (ints .u8 (hmac (key) ((tg key info k) ++ info ++ ([(((k + 1 : Nat) : Int))])))) 29 r21_5 rfl kj (Qam 29 _ _ g21 29 _ _ r21_5 rfl kj kj (isz (n := 32) kj ((Qaf _ _).trans (Qbw _ _))) (eqsz (n := 32) ((Qaf _ _).trans (List.length_replicate (n := 32))) ((Qaf _ _).trans (Qbw _ _))) (Qay _ _)) fun W6 p6 r21_6 => ?_
  have x6 : Grew Wi W6 := Grew.puts x5 p6
  have r21_6_22 : W6.heap[g21]? = some (.cells (ints .u8 (tg key info (k + 1))) 29) := QaA r21_6 rfl
  refine Qac ?_
  refine hK11 _ _ ?_
  refine wp_seq_k fun K23 hK23 => ?_
  refine wp_seq_k fun K24 hK24 => ?_
  refine (wpIn_wide (n := m)).1 ?_
  refine Qbr ?_
  refine Qb2 (.func (.yield l) #[] #[]) 19 rfl (Qbs _ _) rfl kj kj ?_
  refine Qb2 (.agg (ints .u8 (tg key info (k + 1)))) 20 rfl (Qbs _ _) rfl kj (Qas 29 _ g21 29 _ _ r21_6_22 rfl kj kj (isz (n := 32) kj ((Qaf _ _).trans (Qbw _ _)))) ?_
  have y1_2 : Ext V1 W2 := (Rely.Ext.trans (Rely.Ext.refl V1) e2)
  have y1_3 : Ext V1 W3 := (Rely.Ext.trans y1_2 e3)
  have y1_4 : Ext V1 W4 := (Rely.Ext.trans y1_3 e4)
  have y1_5 : Ext V1 W5 := (Rely.Ext.trans y1_4 e5)
  have y1_6 : Ext V1 W6 := (Puts.ext p6 y1_5 (Nat.le_trans y1_4.size l21))
  have f26_6 := QeN hJ hJ1 y1_6
  refine Qg2 (m := m) (l := l) (args := #[.agg (ints .u8 (tg key info (k + 1)))]) 21 rfl rfl kj kj (hY (List.range k) k W6 f26_6 (by rw [List.length_range]; omega)) (fun W' hA => ?_) (fun W' hA => ?_)
  ·skip
   obtain ⟨W7, hW7⟩ : ∃ z, z = W' := ⟨_, rfl⟩
   rw [← hW7] at hA ⊢
   obtain ⟨hj25, hk25⟩ := hA
   have x7 : Grew Wi W7 := Grew.keepC x6 hk25
   refine Qb2 (.bool false) 22 rfl (Qbs _ _) rfl kj kj ?_
   refine Qcw ?_
   refine hK24 _ _ ?_
   refine cond_false kj ?_
   refine wp_skip ?_
   refine hK23 _ _ ?_
   refine Qab ?_
   refine Qaa (.slice (some ⟨g21, 0, none⟩) 32 32) 23 rfl kj kj ?_
   refine Qaa (.slice (some ⟨g21, 0, none⟩) 32 32) 4 rfl kj kj ?_
   refine Qac ?_
   refine hK10 _ _ ?_
   refine Qab ?_
   refine Qaa (.int .i64 ((k + 1 : Nat) : Int)) 9 rfl kj kj ?_
   refine Qaa (.int .i64 (((k + 1) + 1 : Nat) : Int)) 10 rfl kj (Qal (u := .int .i64 (IntKind.i64.wrap (((k + 1 : Nat) : Int) + 1))) kj (congrArg (Value.int .i64) (i64n _ _ (by omega) (by omega)))) ?_
   refine Qaa (.int .i64 (((k + 1) + 1 : Nat) : Int)) 5 rfl kj kj ?_
   refine Qac ?_
   have r3_2 := (Qad rr1 e2)
   have r3_3 := (Qad r3_2 e3)
   have r3_4 := (Qad r3_3 e4)
   have r3_5 := (Qad r3_4 e5)
   have r3_6 := (Puts.row p6 r3_5 (Qae r3_4 l21))
   have r3_7 := (Qb5.row hk25 r3_6 n1)
   have r4_2 := (Qad rr2 e2)
   have r4_3 := (Qad r4_2 e3)
   have r4_4 := (Qad r4_3 e4)
   have r4_5 := (Qad r4_4 e5)
   have r4_6 := (Puts.row p6 r4_5 (Qae r4_4 l21))
   have r4_7 := (Qb5.row hk25 r4_6 n2)
   have r1_4 := (Qad r1_3 e4)
   have r1_5 := (Qad r1_4 e5)
   have r1_6 := (Puts.row p6 r1_5 (Qae r1_4 l21))
   have r1_7 := (Qb5.row hk25 r1_6 nc)
   have r2_4 := (Qad r2_3 e4)
   have r2_5 := (Qad r2_4 e5)
   have r2_6 := (Puts.row p6 r2_5 (Qae r2_4 l21))
   have r2_7 := (Qb5.row hk25 r2_6 nq)
   have f27_4 := (f16_3.ext e4)
   have f28_5 := (f27_4.ext e5)
   have f29_6 := (f28_5.puts p6 (Nat.le_trans hBi b21))
   have f30_7 := (RdK.keepC f29_6 hk25 hgs)
   have f31_4 := (f20_3.ext e4)
   have f32_5 := (f31_4.ext e5)
   have f33_6 := (f32_5.puts p6 (Nat.le_trans hBi b21))
   have f34_7 := (RdK.keepC f33_6 hk25 hgs)
   have r21_7 := (Qb5.row hk25 r21_6_22 (fun hm => by have h1 := hgl _ hm; have h2 := b21; omega))
   repeat (first | with_reducible refine goX1 ?_ | with_reducible refine goX2 ?_ | with_reducible refine goX3 ?_)
   exact QaI ((k + 1), .slice (some ⟨g21, 0, none⟩) 32 32) ⟨rfl, rfl, rfl, rfl, rfl, trivial⟩ ⟨(by omega), (by rw [List.range_succ]; exact hj25), r3_7, r4_7, r1_7, r2_7, f30_7, f34_7, (Qci (xs := tg key info (k + 1)) (Qbw _ _) b21 r21_7 (by decide)), x7⟩ (by show 255 - (k + 1) < 255 - k; omega)
  ·skip
   obtain ⟨W7, hW7⟩ : ∃ z, z = W' := ⟨_, rfl⟩
   rw [← hW7] at hA ⊢
   refine Qb2 (.bool true) 22 rfl (Qbs _ _) rfl kj kj ?_
   refine Qcw ?_
   refine hK24 _ _ ?_
   refine cond_true kj ?_
   refine wp_ret ?_
   repeat (first | with_reducible refine goR1 ?_ | with_reducible refine goR2 ?_)
   exact (show bodyPost _ _ _ .ret _ _ from ret0 rfl ⟨⟨_, rfl⟩, .inr ⟨_, ⟨k + 1, List.range_succ.symm, hlt⟩, hA⟩⟩)
 ·skip
  have hke : k = 255 := by have := of_decide_eq_false c9; omega
  refine wp_exit ?_
  repeat (first | with_reducible refine goX1 ?_ | with_reducible refine goX2 ?_ | with_reducible refine goX3 ?_)
  exact (show bodyPost _ _ _ .normal _ _ from end0 rfl ⟨⟨_, rfl⟩, .inl ⟨_, congrArg List.range hke, hJ1⟩⟩)
end Go.Proofs.YtoiendjhplbjjaaDoor.Sha
end
section
namespace Go.Proofs.YtoiendjhplbjjaaDoor.Sha
open Go Go.RowKit
open Rely Auto Own
set_option linter.unusedVariables false
set_option linter.unusedSimpArgs false
theorem Qhu {P : Program} {ρ : Operand → Value} {o : Oper} {W : World} {k : IntKind} {e : TypeId} (x y : Operand) (tx ty : TypeId) (ho : o.op = .call { callee := .builtin .copy, args := #[x, y], argTypes := #[tx, ty] }) (hu : P.underlying tx = some (.slice e)) (hsz : (P.info? e).map (·.size) = some 1)
    {g off dl dc n B : Nat} {xs z : List Int} {v : Value} {T : TypeId} (hx : ρ x = .slice (some ⟨g, off, none⟩) dl dc) (hy : ρ y = v) (hr : RdK k B z v W)
    (hg : W.heap[g]? = some (.cells (ints k xs) T)) (hq : off + dl ≤ xs.length) (hn : n = min z.length dl) :
    ∃ W' : World, (execOp ρ o).run P W = .ok (.value (.int .i64 ((n : Nat) : Int))) W' ∧ Puts W g W' ∧ W'.heap[g]? = some (.cells (ints k (xs.take off ++ z.take n ++ xs.drop (off + n))) T) := by
  obtain ⟨a, cap, rfl, y2, y3, y4, y5⟩ := hr
  have hgo : ∀ W', (Builtin.copy_ #[tx, ty] o.type #[.slice (some ⟨g, off, none⟩) dl dc, .slice a z.length cap]).run P W = .ok (goInt n) W' → (execOp ρ o).run P W = .ok (.value (.int .i64 ((n : Nat) : Int))) W' := fun W' h => by
    unfold execOp
    simp only [ho, resolve, invoke, builtin, Sem.run_bind, Sem.run_pure, Result.andThen_ok, List.map_toArray, List.map_cons, List.map_nil, hx, hy, h, goInt]
  rcases Nat.eq_zero_or_pos n with h0 | h0
  · refine ⟨W, hgo W ?_, ⟨rfl, rfl, rfl, rfl, fun _ _ => rfl⟩, ?_⟩
    · rw [h0]; exact run_copy_none W tx ty o.type e _ _ _ _ _ _ hu hsz (hn.symm.trans h0)
    · rw [h0, List.take_zero, List.append_nil, Nat.add_zero, List.take_append_drop]; exact hg
  · obtain ⟨gz, oz, rfl, z2, z3, z4⟩ := y5.resolve_left (fun e => by rw [e] at hn; simp at hn; omega)
    have hlen : ((z.take n).map (Value.int k)).length = n := by simp; omega
    have h := run_copy_row (P := P) W tx ty o.type e g off dl dc ⟨gz, oz, none⟩ z.length cap (ints k xs) T ((z.take n).map (Value.int k)) hu hsz hg (by rw [hlen]; exact hn)
      (QgS (k := k) (ys := z.take n) fun i hi => by
        rw [List.length_take] at hi
        rw [z4 i (by omega)]
        simp [nth, show i < n by omega]) (by rw [hlen, Qaf]; omega) (QgP k _)
    rw [hlen] at h
    have e1 : ((ints k xs).toList.take off ++ (z.take n).map (Value.int k) ++ (ints k xs).toList.drop (off + n)).toArray = ints k (xs.take off ++ z.take n ++ xs.drop (off + n)) := by
      apply Array.ext'
      show (xs.map (Value.int k)).take off ++ (z.take n).map (Value.int k) ++ (xs.map (Value.int k)).drop (off + n) = (xs.take off ++ z.take n ++ xs.drop (off + n)).map (Value.int k)
      simp only [List.map_append, List.map_take, List.map_drop]
    rw [e1] at h
    exact ⟨_, hgo _ h, Qbv _ _ _, setRow_heap _ _ _ _ _ _ hg⟩
theorem Qfv {P : Program} {ρ : Operand → Value} {o : Oper} {W : World} {k : IntKind} {e : TypeId} (x y : Operand) (tx ty : TypeId) (ho : o.op = .call { callee := .builtin .copy, args := #[x, y], argTypes := #[tx, ty] }) (hu : P.underlying tx = some (.slice e)) (hsz : (P.info? e).map (·.size) = some 1)
    {g off dl dc n B : Nat} {xs ys z : List Int} {v : Value} {T : TypeId} (hx : ρ x = .slice (some ⟨g, off, none⟩) dl dc) (hy : ρ y = v) (hr : RdK k B z v W)
    (hg : W.heap[g]? = some (.cells (ints k xs) T)) (hq : off + dl ≤ xs.length) (hn : n = min z.length dl) (hY : xs.take off ++ z.take n ++ xs.drop (off + n) = ys) :
    ∃ W' : World, (execOp ρ o).run P W = .ok (.value (.int .i64 ((n : Nat) : Int))) W' ∧ Puts W g W' ∧ W'.heap[g]? = some (.cells (ints k ys) T) := hY ▸ Qhu x y tx ty ho hu hsz hx hy hr hg hq hn
theorem Qgs {P : Program} {ρ : Operand → Value} {o : Oper} {W : World} {g : Nat} {X Y : Obj} {v : Value} (h : ∃ W' : World, (execOp ρ o).run P W = .ok (.value v) W' ∧ Puts W g W' ∧ W'.heap[g]? = some Y) :
    ∃ u W', (execOp ρ o).run P W = .ok (.value u) W' ∧ Qc7 g X Y W W' ∧ (u = v ∧ W'.heap[g]? = some Y) := by
  obtain ⟨W', e1, p1, r1⟩ := h
  exact ⟨_, W', e1, ⟨ExtB.puts (ExtB.refl _ _) p1, .inr r1⟩, rfl, r1⟩
theorem Qe8 {P : Program} {ρ : Operand → Value} {o : Oper} {w : World} (t : TypeId) (x z : Operand) (l g len cap : Nat) (e : TypeId) (ho : o.op = .slice t x (some z) none none) (hx : ρ x = .slice (some ⟨g, 0, none⟩) len cap)
    (hu : P.underlying t = some (.slice e)) (hs : (P.info? e).map (·.size) = some 1) (kz : IntKind) (hz : ρ z = .int kz (l : Int)) (h1 : l ≤ len) (h2 : len ≤ cap) :
    (execOp ρ o).run P w = .ok (.value (.slice (some ⟨g, (if cap = l then 0 else l), none⟩) (len - l) (cap - l))) w := by
  cases hq : P.info? e with
  | none => simp [hq] at hs
  | some i =>
    have hs' : i.size = 1 := by simpa [hq] using hs
    unfold execOp
    simp [ho, hx, hz, Instr.sliceAt, Instr.slice, Instr.sliceBounds, run_sliceBound, run_underlying hu, sizeOf, typeInfo, hq, hs', h1, h2]
    split
    · simp [Addr.add]
    · simp [Addr.add]
      exact fun h => h.symm
theorem goXo {K : Act → World → Prop} {Q : Exit → Act → World → Prop} {a : Act} {w : World} {n m : Nat} (h : n ≠ m) (k : Q (.exit n) a w) : Exit.inBlock m Q (.exit n) a w := by
  unfold Exit.inBlock
  simp [h]
  exact k
theorem QfE {W W' : World} {g : Nat} {cs : Array Value} {t : TypeId} (h : ExtB g W W') (r : W.heap[g]? = some (.cells cs t)) : KeepsOthers W W' :=
  ⟨h.2.2.2.1, fun k o hk ho => by
    by_cases e : k = g
    · subst e
      rw [r] at hk
      cases hk
      cases ho
    · exact (h.2.2.2.2 k (Qa8 hk) e).trans hk⟩
theorem QhI {gs : List Nat} {A B : World} {g : Nat} (h : ExtB g A B) (hm : g ∈ gs) : Qb5 gs A B := ⟨h.2.2.2.1, fun k cs t fr q n => (h.2.2.2.2 k (Qa8 q) (fun e => n (e ▸ hm))).trans q⟩
theorem QgW {gs : List Nat} {A B : World} {g : Nat} (h : Puts A g B) (hm : g ∈ gs) : Qb5 gs A B := ⟨Nat.le_of_eq h.2.2.2.1.symm, fun k cs t fr q n => (h.2.2.2.2 k (fun e => n (e ▸ hm))).trans q⟩
def okL (key info : List Int) (pre : List Nat) : List Int := (pre.map fun x => tg key info (x + 1)).flatten
def FF (key info : List Int) (n : Nat) (pre : List Nat) : List Int := (okL key info pre).take n ++ List.replicate (n - 32 * pre.length) 0
theorem QfY (key info : List Int) : ∀ pre, (okL key info pre).length = 32 * pre.length
  | [] => rfl
  | x :: l => by
    have := QfY key info l
    unfold okL at this ⊢
    rw [List.map_cons, List.flatten_cons, List.length_append, this, tg, Qbw, List.length_cons]; omega
theorem Qgu (key info : List Int) (pre : List Nat) (x : Nat) : okL key info (pre ++ [x]) = okL key info pre ++ tg key info (x + 1) := by simp [okL]
theorem Qf5 (key info : List Int) : ∀ k, okL key info (List.range k) = okm key info k
  | 0 => rfl
  | k + 1 => by rw [List.range_succ, Qgu, Qf5 key info k, okm]
theorem Qic (key info : List Int) (n : Nat) (pre : List Nat) : (FF key info n pre).length = n := by
  unfold FF
  rw [List.length_append, List.length_take, QfY, List.length_replicate]; omega
theorem Qkp (key info : List Int) (n : Nat) : List.replicate n 0 = FF key info n [] := by simp [FF, okL]
theorem QhU (key info : List Int) (n : Nat) (pre : List Nat) (x : Nat) (h : pre.length = 0 ∨ 32 * pre.length < n) :
    (FF key info n pre).take (if n = 32 * pre.length then 0 else 32 * pre.length) ++ (tg key info (x + 1)).take (min 32 (n - 32 * pre.length)) ++ (FF key info n pre).drop ((if n = 32 * pre.length then 0 else 32 * pre.length) + min 32 (n - 32 * pre.length)) = FF key info n (pre ++ [x]) := by
  have hl := QfY key info pre
  have ht : (tg key info (x + 1)).length = 32 := Qbw _ _
  have hp : (pre ++ [x]).length = pre.length + 1 := by simp
  by_cases hn : n = 32 * pre.length
  · have h0 : n = 0 := by omega
    subst h0
    rw [if_pos hn]
    unfold FF
    simp
  · have hlt : 32 * pre.length < n := by omega
    rw [if_neg hn]
    unfold FF
    rw [Qgu, hp, List.take_of_length_le (by omega : (okL key info pre).length ≤ n), List.take_append_of_le_length (by omega), List.take_of_length_le (by omega : (okL key info pre).length ≤ 32 * pre.length),
      List.drop_append, List.drop_of_length_le (by omega : (okL key info pre).length ≤ 32 * pre.length + min 32 (n - 32 * pre.length)), List.nil_append, List.drop_replicate, List.take_append, List.take_of_length_le (by omega : (okL key info pre).length ≤ n), hl]
    congr 1
    · congr 1
      by_cases h32 : n - 32 * pre.length ≤ 32
      · rw [show min 32 (n - 32 * pre.length) = n - 32 * pre.length by omega]
      · rw [show min 32 (n - 32 * pre.length) = 32 by omega, List.take_of_length_le (by omega), List.take_of_length_le (by omega)]
    · congr 1; omega
theorem Qi5 (key info : List Int) (n : Nat) (pre : List Nat) (x : Nat) (h : pre.length = 0 ∨ 32 * pre.length < n) :
    (FF key info n (pre ++ [x])).take (if n = 32 * pre.length then 0 else 32 * pre.length) ++ (tg key info (x + 1)).take (min 32 (n - 32 * pre.length)) ++ (FF key info n (pre ++ [x])).drop ((if n = 32 * pre.length then 0 else 32 * pre.length) + min 32 (n - 32 * pre.length)) = FF key info n (pre ++ [x]) := by
  have ht : (tg key info (x + 1)).length = 32 := Qbw _ _
  rw [← QhU key info n pre x h]
  refine Qim _ _ _ _ ?_ (by omega)
  rw [Qic]
  split <;> omega
theorem QjA (key info : List Int) (n k : Nat) (h : n ≤ 32 * k) : FF key info n (List.range k) = (okm key info k).take n := by
  unfold FF
  rw [Qf5, List.length_range, show n - 32 * k = 0 by omega, List.replicate_zero, List.append_nil]
theorem Qd7 (key info : List Int) (x : Nat) : (tg key info (x + 1)).length = 32 := Qbw _ _
set_option maxHeartbeats 4000000 in
theorem Qkx (a_key a_info : Option Addr) (n1 n2 c1 c2 : Nat) (w : World) : Calls Tryd.prog 133 #[.slice a_key n1 c1, .slice a_info n2 c2] w (QbT w (fun v W => ∃ g1 g2, v = .func (.func 152) #[] #[.pointer (some ⟨g1, 0, none⟩), .pointer (some ⟨g2, 0, none⟩)] ∧ w.heap.size ≤ g1 ∧ w.heap.size ≤ g2 ∧ W.heap[g1]? = some (.cells #[.slice a_key n1 c1] 33) ∧ W.heap[g2]? = some (.cells #[.slice a_info n2 c2] 33))) := by
  refine enter 6 [(0, .slice a_key n1 c1), (1, .slice a_info n2 c2)] Tryd.func133 rfl rfl kj rfl ?_
  refine wp_seq_k fun K1 hK1 => ?_
  refine Qab ?_
  refine Qaq (#[.slice a_key n1 c1]) 33 2 rfl kj kj fun g2 W1 l2 e1 r2_1 => ?_
  have x1 : Ext w W1 := Ext.tr (Rely.Ext.refl w) e1
  have b2 : w.heap.size ≤ g2 := Nat.le_trans (Rely.Ext.refl w).size l2
  refine Qaq (#[.slice a_info n2 c2]) 33 3 rfl kj kj fun g3 W2 l3 e2 r3_2 => ?_
  have x2 : Ext w W2 := Ext.tr x1 e2
  have b3 : w.heap.size ≤ g3 := Nat.le_trans x1.size l3
  refine Qaa (.nilFunc) 4 rfl kj kj ?_
  refine Qac ?_
  refine hK1 _ _ ?_
  refine wp_seq_k fun K4 hK4 => ?_
  refine Qab ?_
  refine Qaa (.func (.func 152) #[] #[.pointer (some ⟨g2, 0, none⟩), .pointer (some ⟨g3, 0, none⟩)]) 5 rfl kj kj ?_
  refine Qaa (.func (.func 152) #[] #[.pointer (some ⟨g2, 0, none⟩), .pointer (some ⟨g3, 0, none⟩)]) 4 rfl kj kj ?_
  refine Qac ?_
  refine hK4 _ _ ?_
  refine wp_ret ?_
  repeat (first | with_reducible refine goR1 ?_ | with_reducible refine goR2 ?_)
  have r2_2 := (Qad r2_1 e2)
  exact (show bodyPost _ _ _ .ret _ _ from ret1 (.func (.func 152) #[] #[.pointer (some ⟨g2, 0, none⟩), .pointer (some ⟨g3, 0, none⟩)]) rfl (Qa9 kj) ⟨_, rfl, x2, g2, g3, rfl, b2, b3, r2_2, r3_2⟩)
theorem Qit (key info : List Int) (n k : Nat) (h : n ≤ 32 * k) : ((okm key info k).take n).length = n := by
  rw [List.length_take, QfX]; omega
set_option maxHeartbeats 4000000 in
theorem Qiy (key info : List Int) (v1 v2 : Value) (B B2 n : Nat) (tc tq : TypeId) (w : World) (hc : w.heap[1]? = some (.cells (ints .u64 Qbi) tc)) (hq : w.heap[0]? = some (.cells (ints .u64 Qat) tq)) (hn : n ≤ 8160) (hkl : key.length ≤ 800000000) (hil : info.length ≤ 700000000) (hkb : Qaj key) (hib : Qaj info) (hk : RdK .u8 B key v1 w) (hi : RdK .u8 B2 info v2 w) :
  Calls Tryd.prog 111 #[v1, v2, .int .i64 ((n : Nat) : Int)] w (QbT w (fun v W => ∃ u k, v = .tuple #[u, .nilIface] ∧ n ≤ 32 * k ∧ OwnN .u8 5 w.heap.size ((okm key info k).take n) u W)) := by
 obtain ⟨a_key, c_key, rfl, -⟩ := id hk
 obtain ⟨a_info, c_info, rfl, -⟩ := id hi
 refine QiW 35 [(0, .slice a_key key.length c_key), (1, .slice a_info info.length c_info), (2, .int .i64 ((n : Nat) : Int))] Tryd.func111 rfl rfl kj rfl ?_
 refine wp_seq_k fun K3 hK3 => ?_
 refine Qab ?_
 refine Qaq (#[.int .i64 ((n : Nat) : Int)]) 3 5 rfl kj kj fun g4 W1 l4 e1 r4_1 => ?_
 have x1 : Ext w W1 := Ext.tr (Rely.Ext.refl w) e1
 have b4 : w.heap.size ≤ g4 := Nat.le_trans (Rely.Ext.refl w).size l4
 refine Qaa (.slice none 0 0) 6 rfl kj kj ?_
 refine Qaa (.nilIface) 7 rfl kj kj ?_
 refine Qac ?_
 refine hK3 _ _ ?_
 refine wp_scope_straight ?_
 refine wp_seq_k fun K5 hK5 => ?_
 refine wp_seq_k fun K6 hK6 => ?_
 refine Qab ?_
 refine Qaa (.int .i64 ((n : Nat) : Int)) 11 rfl kj (Qag 3 _ g4 0 3 _ (.int .i64 ((n : Nat) : Int)) _ r4_1 rfl kj kj kj) ?_
 refine Qaa (.bool false) 12 rfl kj (Qal (u := .bool (decide (((n : Nat) : Int) < 0))) kj (congrArg Value.bool (decide_eq_false (by omega)))) ?_
 refine Qaa (.bool false) 13 rfl kj kj ?_
 refine Qaa (.int .i64 ((n : Nat) : Int)) 14 rfl kj (Qag 3 _ g4 0 3 _ (.int .i64 ((n : Nat) : Int)) _ r4_1 rfl kj kj kj) ?_
 refine Qaa (.bool false) 15 rfl kj (Qal (u := .bool (decide (((n : Nat) : Int) > 8160))) kj (congrArg Value.bool (decide_eq_false (by omega)))) ?_
 refine Qaa (.bool false) 16 rfl kj kj ?_
 refine Qac ?_
 refine hK6 _ _ ?_
 refine cond_false kj ?_
 refine wp_skip ?_
 refine hK5 _ _ ?_
 refine wp_seq_k fun K7 hK7 => ?_
 refine Qab ?_
 refine Qaa (.int .i64 ((n : Nat) : Int)) 18 rfl kj (Qag 3 _ g4 0 3 _ (.int .i64 ((n : Nat) : Int)) _ r4_1 rfl kj kj kj) ?_
 refine QaZ (ints .u8 (List.replicate n 0)) 5 n 19 rfl kj (Qdt 33 _ _ .i64 .i64 n 5 rfl kj kj kj (.inr kj) (by omega)) fun g8 W2 l8 e2 r8_2 => ?_
 have x2 : Ext w W2 := Ext.tr x1 e2
 have b8 : w.heap.size ≤ g8 := Nat.le_trans x1.size l8
 refine Qaq (#[.slice none 0 0]) 33 8 rfl kj kj fun g9 W3 l9 e3 r9_3 => ?_
 have x3 : Ext w W3 := Ext.tr x2 e3
 have b9 : w.heap.size ≤ g9 := Nat.le_trans x2.size l9
 refine Qah g9 _ (#[.slice (some ⟨g8, 0, none⟩) n n]) 33 r9_3 rfl kj (Qby 33 _ _ g9 0 33 _ (.slice (some ⟨g8, 0, none⟩) n n) r9_3 rfl kj kj kj kj kj rfl) fun W4 p4 r9_4 => ?_
 have x4 : Ext w W4 := Puts.ext p4 x3 b9
 refine Qac ?_
 refine hK7 _ _ ?_
 refine wp_seq_k fun K10 hK10 => ?_
 refine Qab ?_
 refine Qaq (#[.int .i64 0]) 3 9 rfl kj kj fun g11 W5 l11 e5 r11_5 => ?_
 have x5 : Ext w W5 := Ext.tr x4 e5
 have b11 : w.heap.size ≤ g11 := Nat.le_trans x4.size l11
 refine Qah g11 _ (#[.int .i64 0]) 3 r11_5 rfl kj (Qby 3 _ _ g11 0 3 _ (.int .i64 0) r11_5 rfl kj kj kj kj kj rfl) fun W6 p6 r11_6 => ?_
 have x6 : Ext w W6 := Puts.ext p6 x5 b11
 refine Qac ?_
 refine hK10 _ _ ?_
 refine wp_seq_k fun K12 hK12 => ?_
 refine wp_label ?_
 refine hK12 _ _ ?_
 refine wp_seq_k fun K13 hK13 => ?_
 refine wp_seq_k fun K14 hK14 => ?_
 refine Qab ?_
 refine Qaa (.slice a_key key.length c_key) 20 rfl kj kj ?_
 refine Qaa (.slice a_info info.length c_info) 21 rfl kj kj ?_
 refine Qa0 (fun v W' => (fun v W => ∃ g1 g2, v = .func (.func 152) #[] #[.pointer (some ⟨g1, 0, none⟩), .pointer (some ⟨g2, 0, none⟩)] ∧ W6.heap.size ≤ g1 ∧ W6.heap.size ≤ g2 ∧ W.heap[g1]? = some (.cells #[.slice a_key key.length c_key] 33) ∧ W.heap[g2]? = some (.cells #[.slice a_info info.length c_info] 33)) v W' ∧ Ext W6 W') 133 #[.slice a_key key.length c_key, .slice a_info info.length c_info] 22 rfl kj kj ((Qkx a_key a_info _ _ c_key c_info _).mono (by rintro e w' ⟨v, rfl, e1, hv⟩; exact ⟨v, rfl, hv, e1⟩)) fun vv15 W7 hh15 => ?_
 obtain ⟨hv15, e7⟩ := hh15
 have x7 : Ext w W7 := Ext.tr x6 e7
 obtain ⟨gp1, gp2, rfl, lp1, lp2, rp1, rp2⟩ := hv15
 refine Qac ?_
 refine hK14 _ _ ?_
 refine wp_block ?_
 have r4_2 := (Qad r4_1 e2)
 have r4_3 := (Qad r4_2 e3)
 have r4_4 := (Puts.row p4 r4_3 (Qae r4_2 l9))
 have r4_5 := (Qad r4_4 e5)
 have r4_6 := (Puts.row p6 r4_5 (Qae r4_4 l11))
 have r4_7 := (Qad r4_6 e7)
 have r9_5 := (Qad r9_4 e5)
 have r9_6 := (Puts.row p6 r9_5 (Qae r9_4 l11))
 have r9_7 := (Qad r9_6 e7)
 have r11_7 := (Qad r11_6 e7)
 have r8_3 := (Qad r8_2 e3)
 have r8_4 := (Puts.row p4 r8_3 (Qae r8_2 l9))
 have r8_5 := (Qad r8_4 e5)
 have r8_6 := (Puts.row p6 r8_5 (Qae r8_4 l11))
 have r8_7 := (Qad r8_6 e7)
 have r1_1 := (Qad hc e1)
 have r1_2 := (Qad r1_1 e2)
 have r1_3 := (Qad r1_2 e3)
 have r1_4 := (Puts.row p4 r1_3 (Qae r1_2 l9))
 have r1_5 := (Qad r1_4 e5)
 have r1_6 := (Puts.row p6 r1_5 (Qae r1_4 l11))
 have r1_7 := (Qad r1_6 e7)
 have r2_1 := (Qad hq e1)
 have r2_2 := (Qad r2_1 e2)
 have r2_3 := (Qad r2_2 e3)
 have r2_4 := (Puts.row p4 r2_3 (Qae r2_2 l9))
 have r2_5 := (Qad r2_4 e5)
 have r2_6 := (Puts.row p6 r2_5 (Qae r2_4 l11))
 have r2_7 := (Qad r2_6 e7)
 have nb58 : g4 ≠ g9 := (Qae r4_2 l9)
 have nb59 : g4 ≠ g11 := (Qae r4_4 l11)
 have nb5O : g4 ≠ g8 := (Qae r4_1 l8)
 have nb85 : g9 ≠ g4 := (Qap r4_2 l9)
 have nb89 : g9 ≠ g11 := (Qae r9_4 l11)
 have nb8O : g9 ≠ g8 := (Qap r8_2 l9)
 have nb95 : g11 ≠ g4 := (Qap r4_4 l11)
 have nb98 : g11 ≠ g9 := (Qap r9_4 l11)
 have nb9O : g11 ≠ g8 := (Qap r8_4 l11)
 have nbO5 : g8 ≠ g4 := (Qap r4_1 l8)
 have nbO8 : g8 ≠ g9 := (Qae r8_2 l9)
 have nbO9 : g8 ≠ g11 := (Qae r8_4 l11)
 have hgs : ∀ c ∈ ([g11, g8] : List Nat), w.heap.size ≤ c := (fun c hc => by simp only [List.mem_cons, List.not_mem_nil, or_false] at hc; rcases hc with rfl | rfl; exact b11; exact b8)
 have hgl : ∀ c ∈ ([g11, g8] : List Nat), c < W7.heap.size := (fun c hc => by simp only [List.mem_cons, List.not_mem_nil, or_false] at hc; rcases hc with rfl | rfl; exact Qa8 r11_7; exact Qa8 r8_7)
 have hgp : ∀ c ∈ ([g11, g8] : List Nat), c < W6.heap.size := (fun c hc => by simp only [List.mem_cons, List.not_mem_nil, or_false] at hc; rcases hc with rfl | rfl; exact Qa8 r11_6; exact Qa8 r8_6)
 have hkL : RdK .u8 w.heap.size key (.slice a_key key.length c_key) W7 := (RdK.here hk).ext x7
 have hiL : RdK .u8 w.heap.size info (.slice a_info info.length c_info) W7 := (RdK.here hi).ext x7
 refine QfU (gf := 152) (lb := #[.pointer (some ⟨gp1, 0, none⟩), .pointer (some ⟨gp2, 0, none⟩)]) (enc := fun x : Nat => .agg (ints .u8 (tg key info (x + 1)))) kj (enters_of Tryd.func152 kj rfl) (QgH 2 [g11, g8] gp1 gp2 w.heap.size key info a_key a_info c_key c_info tc tq W7 hkl hil hkb hib x7.size hgs hgl hkL hiL r1_7 r2_7 rp1 rp2 (fun hm => by have := hgp _ hm; omega) (fun hm => by have := hgp _ hm; omega) (fun hm => by have h1 := hgs _ hm; have h2 := Qa8 hc; omega) (fun hm => by have h1 := hgs _ hm; have h2 := Qa8 hq; omega)) (fun h k => Qb5.trans h k) Qb5.book (Below.refl _ _)
   (fun pre W => ((W.heap[g4]? = some (.cells (#[.int .i64 ((n : Nat) : Int)]) 3)) ∧ (W.heap[g9]? = some (.cells (#[.slice (some ⟨g8, 0, none⟩) n n]) 33)) ∧ (W.heap[g11]? = some (.cells (#[.int .i64 ((32 * pre.length : Nat) : Int)]) 3)) ∧ (W.heap[g8]? = some (.cells (ints .u8 (FF key info n pre)) 5)) ∧ (pre.length = 0 ∨ 32 * pre.length < n) ∧ W7.heap.size ≤ W.heap.size) ∧ Ext w W)
   (fun c pre W => (c = .exit 0 ∧ n ≤ 32 * pre.length ∧ (W.heap[g4]? = some (.cells (#[.int .i64 ((n : Nat) : Int)]) 3)) ∧ (W.heap[g9]? = some (.cells (#[.slice (some ⟨g8, 0, none⟩) n n]) 33)) ∧ (W.heap[g8]? = some (.cells (ints .u8 (FF key info n pre)) 5))) ∧ Ext w W) (OwnFrom.and (Own.from (fun s A B row hs hg hr => ⟨Qb4 hs.1 hg hr, Qb4 hs.2.1 hg hr, Qb4 hs.2.2.1 hg hr, Qb4 hs.2.2.2.1 hg hr, hs.2.2.2.2.1, Nat.le_trans hs.2.2.2.2.2 hg.size⟩) _) (ownFrom_below (Nat.le_refl _) x7.size)) (fun c => OwnFrom.and (Own.from (fun s A B row hs hg hr => ⟨hs.1, hs.2.1, Qb4 hs.2.2.1 hg hr, Qb4 hs.2.2.2.1 hg hr, Qb4 hs.2.2.2.2 hg hr⟩) _) (ownFrom_below (Nat.le_refl _) x7.size)) ⟨⟨r4_7, r9_7, r11_7, QaA r8_7 (Qkp key info n), .inl rfl, Nat.le_refl _⟩, x7⟩ (fun e => Qb5.ext e) (fun pre A B h e => ⟨⟨Qad h.1.1 e, Qad h.1.2.1 e, Qad h.1.2.2.1 e, Qad h.1.2.2.2.1 e, h.1.2.2.2.2.1, Nat.le_trans h.1.2.2.2.2.2 e.size⟩, Rely.Ext.trans h.2 e⟩) (fun pre W h => h.1.2.2.2.2.2) (fun x g => [(10, .pointer (some ⟨g, 0, none⟩)), (23, .agg (ints .u8 (tg key info (x + 1))))]) (fun x => ints .u8 (tg key info (x + 1))) 29 (fun l x W K hK => ?_) (fun l pre x g10 W hg10 hI r10 hp => ?_) (fun D ys W lD hS hI rD => ?_) (fun D c pre W lD hSp hIx rD => ?_)
 ·skip
  refine Qbr ?_
  refine Qg3 (ints .u8 (List.replicate 32 0)) 29 10 rfl (QaR l 1 _) rfl kj kj fun g301 W1 l301 e1 r301_1 => ?_
  have x1 : Ext W W1 := Ext.tr (Rely.Ext.refl W) e1
  have b301 : W.heap.size ≤ g301 := Nat.le_trans (Rely.Ext.refl W).size l301
  refine Qee g301 _ (ints .u8 (tg key info (x + 1))) 29 r301_1 rfl (QaR l 1 _) rfl kj (Qam 29 _ _ g301 29 _ _ r301_1 rfl kj kj (isz (n := 32) kj ((Qaf _ _).trans (Qd7 _ _ _))) (eqsz (n := 32) ((Qaf _ _).trans (List.length_replicate (n := 32))) ((Qaf _ _).trans (Qd7 _ _ _))) (Qay _ _)) fun W2 p2 r301_2 => ?_
  have x2 : Ext W W2 := Puts.ext p2 x1 b301
  refine Qcw ?_
  have y0_1 : Ext W W1 := (Rely.Ext.trans (Rely.Ext.refl W) e1)
  have y0_2 : Ext W W2 := (Puts.ext p2 y0_1 l301)
  exact hK _ _ l301 y0_2 r301_2
 ·skip
  obtain ⟨⟨q5, q8, q9, qO, hpl, hsz⟩, xx⟩ := hI
  have n105 : g10 ≠ g4 := by have h1 := Qa8 r4_7; omega
  have n108 : g10 ≠ g9 := by have h1 := Qa8 r9_7; omega
  have n109 : g10 ≠ g11 := by have h1 := Qa8 r11_7; omega
  have n10O : g10 ≠ g8 := by have h1 := Qa8 r8_7; omega
  have hl1 : (pre ++ [x]).length = pre.length + 1 := by simp
  have htl := Qd7 key info x
  refine wpIn_block ?_
  refine wpIn_seq_k fun K506 hK506 => ?_
  refine QeI (Qc7 g8 (Obj.cells (ints .u8 (FF key info n pre)) 5) (Obj.cells (ints .u8 (FF key info n (pre ++ [x]))) 5)) (Qc7.refl _ _ _) (fun h k => Qc7.trans h k) 6 [⟨none, [(9, none)]⟩, ⟨none, [(8, none)]⟩, ⟨none, [(9, none)]⟩, ⟨none, [(25, some 1), (26, some 2)]⟩, ⟨none, [(10, none)]⟩, ⟨none, [(27, some 3), (28, some 4)]⟩] (QaR l 1 _) rfl kj kj fun F hF => ?_
  refine Qhd (Qc7.refl _ _ _) (.int .i64 ((32 * pre.length : Nat) : Int)) kj kj (fun W hR => (Qag 3 _ g11 0 3 _ (.int .i64 ((32 * pre.length : Nat) : Int)) _ (ExtB.row hR.1 (Qad q9 (Qak _)) nb9O) rfl kj kj kj)) ?_
  refine Qhd (Qc7.refl _ _ _) (.slice (some ⟨g8, 0, none⟩) n n) kj kj (fun W hR => (Qag 33 _ g9 0 33 _ (.slice (some ⟨g8, 0, none⟩) n n) _ (ExtB.row hR.1 (Qad q8 (Qak _)) nb8O) rfl kj kj kj)) ?_
  refine Qhd (Qc7.refl _ _ _) (.int .i64 ((32 * pre.length : Nat) : Int)) kj kj (fun W hR => (Qag 3 _ g11 0 3 _ (.int .i64 ((32 * pre.length : Nat) : Int)) _ (ExtB.row hR.1 (Qad q9 (Qak _)) nb9O) rfl kj kj kj)) ?_
  refine Qhd (Qc7.refl _ _ _) (.slice (some ⟨g8, (if n = 32 * pre.length then 0 else 32 * pre.length), none⟩) (n - 32 * pre.length) (n - 32 * pre.length)) kj kj (fun W hR => Qe8 33 _ _ (32 * pre.length) g8 n n 5 rfl kj kj kj .i64 kj (by omega) (Nat.le_refl _)) ?_
  refine Qhd (Qc7.refl _ _ _) (.slice (some ⟨g10, 0, none⟩) 32 32) kj kj (fun W hR => by kernel_rfl) ?_
  refine Qkr (fun u W => u = .int .i64 (((min 32 (n - 32 * pre.length)) : Nat) : Int) ∧ W.heap[g8]? = some (Obj.cells (ints .u8 (FF key info n (pre ++ [x]))) 5)) (Qc7.stable _ _ _ _) kj kj (fun W hR => ?_) ?_
  ·have hsrc : RdK .u8 W.heap.size (tg key info (x + 1)) (.slice (some ⟨g10, 0, none⟩) 32 32) W := Qbp (Qd7 _ _ _) (ExtB.row hR.1 (Qad r10 (Qak _)) n10O) (Qa8 (ExtB.row hR.1 (Qad r10 (Qak _)) n10O)) (by decide)
   have hoff : (if n = 32 * pre.length then 0 else 32 * pre.length) + (n - 32 * pre.length) ≤ n := by split <;> omega
   rcases hR.row (Qad qO (Qak _)) with hX | hY
   ·exact Qgs (Qfv (k := .u8) (e := 5) (.tmp 27) (.tmp 28) 33 33 (by rfl) kj kj (off := (if n = 32 * pre.length then 0 else 32 * pre.length)) (dl := n - 32 * pre.length) (dc := n - 32 * pre.length) (n := (min 32 (n - 32 * pre.length))) (xs := FF key info n pre) kj kj hsrc hX (by rw [Qic]; exact hoff) (by rw [Qd7]) (QhU key info n pre x hpl))
   ·exact Qgs (Qfv (k := .u8) (e := 5) (.tmp 27) (.tmp 28) 33 33 (by rfl) kj kj (off := (if n = 32 * pre.length then 0 else 32 * pre.length)) (dl := n - 32 * pre.length) (dc := n - 32 * pre.length) (n := (min 32 (n - 32 * pre.length))) (xs := FF key info n (pre ++ [x])) kj kj hsrc hY (by rw [Qic]; exact hoff) (by rw [Qd7]) (Qi5 key info n pre x hpl))
  refine QcU (hF _ fun W1 hR => ?_)
  simp only [List.nil_append, List.cons_append, List.take_succ_cons, List.take_zero, List.drop_succ_cons, List.drop_zero, finE, up]
  rintro v29 ⟨rfl, rO_1⟩
  clear hF
  have q1 : ExtB g8 W W1 := ExtB.trans (ExtB.ext (ExtB.refl _ _) (Qak _)) hR.1
  have x1 : Ext w W1 := ExtB.up xx q1 b8
  refine Qb2 (.int .i64 (((32 * pre.length) + (min 32 (n - 32 * pre.length)) : Nat) : Int)) 30 rfl (QaR l 1 _) rfl kj (Qal (u := .int .i64 (IntKind.i64.wrap (((32 * pre.length : Nat) : Int) + (((min 32 (n - 32 * pre.length)) : Nat) : Int)))) kj (congrArg (Value.int .i64) (i64n _ _ (by omega) (by omega)))) ?_
  have r503_1 := (ExtB.row q1 q9 nb9O)
  refine Qee g11 _ (#[.int .i64 (((32 * pre.length) + (min 32 (n - 32 * pre.length)) : Nat) : Int)]) 3 r503_1 rfl (QaR l 1 _) rfl kj (Qby 3 _ _ g11 0 3 _ (.int .i64 (((32 * pre.length) + (min 32 (n - 32 * pre.length)) : Nat) : Int)) r503_1 rfl kj kj kj kj kj rfl) fun W2 p2 r503_2 => ?_
  have x2 : Ext w W2 := Puts.ext p2 x1 b11
  refine Qcw ?_
  refine hK506 _ _ ?_
  refine wpIn_seq_k fun K507 hK507 => ?_
  refine Qbr ?_
  refine Qb2 (.int .i64 (((32 * pre.length) + (min 32 (n - 32 * pre.length)) : Nat) : Int)) 31 rfl (QaR l 1 _) rfl kj (Qag 3 _ g11 0 3 _ (.int .i64 (((32 * pre.length) + (min 32 (n - 32 * pre.length)) : Nat) : Int)) _ r503_2 rfl kj kj kj) ?_
  have r501_1 := (ExtB.row q1 q5 nb5O)
  have r501_2 := (Puts.row p2 r501_1 nb59)
  refine Qb2 (.int .i64 ((n : Nat) : Int)) 32 rfl (QaR l 1 _) rfl kj (Qag 3 _ g4 0 3 _ (.int .i64 ((n : Nat) : Int)) _ r501_2 rfl kj kj kj) ?_
  refine Qb2 (.bool (((((32 * pre.length) + (min 32 (n - 32 * pre.length)) : Nat) : Int) == ((n : Nat) : Int)))) 33 rfl (QaR l 1 _) rfl kj kj ?_
  refine Qcw ?_
  refine hK507 _ _ ?_
  refine QcI (t := ((((32 * pre.length) + (min 32 (n - 32 * pre.length)) : Nat) : Int) == ((n : Nat) : Int))) kj (fun c508 => ?_) (fun c508 => ?_)
  ·skip
   have hm : 32 * pre.length + min 32 (n - 32 * pre.length) = n ∨ 32 * pre.length + min 32 (n - 32 * pre.length) ≠ n := by omega
   have hge : n ≤ 32 * (pre.length + 1) := by have := eq_of_beq c508; omega
   refine wpIn_exit ?_
   repeat (first | with_reducible refine goX1 ?_ | with_reducible refine goXo (by decide) ?_)
   have r502_1 := (ExtB.row q1 q8 nb8O)
   have r502_2 := (Puts.row p2 r502_1 nb89)
   have r504_2 := (Puts.row p2 rO_1 nbO9)
   exact ⟨((QfE q1 qO).trans (QeH p2 r503_1)), ⟨rfl, by rw [hl1]; exact hge, r501_2, r502_2, r504_2⟩, x2⟩
  ·skip
   have hm : 32 * pre.length + min 32 (n - 32 * pre.length) = n ∨ 32 * pre.length + min 32 (n - 32 * pre.length) ≠ n := by omega
   have hlt : 32 * (pre.length + 1) < n := by
    have h := c508
    apply Decidable.byContradiction
    intro hc2
    have e : ((32 * pre.length + min 32 (n - 32 * pre.length) : Nat) : Int) = ((n : Nat) : Int) := by omega
    rw [e, beq_self_eq_true] at h
    exact absurd h (by decide)
   refine wpIn_skip ?_
   repeat (first | with_reducible refine goX1 ?_ | with_reducible refine goX2 ?_ | with_reducible refine goX3 ?_)
   have r502_1 := (ExtB.row q1 q8 nb8O)
   have r502_2 := (Puts.row p2 r502_1 nb89)
   have r504_2 := (Puts.row p2 rO_1 nbO9)
   exact ⟨((QfE q1 qO).trans (QeH p2 r503_1)), (Qb5.trans (QhI q1 (by simp)) (QgW p2 (by simp))), ⟨r501_2, r502_2, by rw [hl1, show 32 * (pre.length + 1) = 32 * pre.length + min 32 (n - 32 * pre.length) by omega]; exact r503_2, r504_2, .inr (by rw [hl1]; exact hlt), Nat.le_trans hsz (Nat.le_trans (Nat.le_trans (Nat.le_refl _) q1.2.2.2.1) (Nat.le_of_eq p2.2.2.2.1.symm))⟩, x2⟩
 ·exfalso
  obtain ⟨⟨-, -, -, -, hpl, -⟩, -⟩ := hI
  subst hS
  rw [List.length_range] at hpl
  omega
 ·obtain ⟨⟨rfl, hge, q5, q8, qO⟩, xx⟩ := hIx
  obtain ⟨kR, rfl, -⟩ := hSp
  rw [List.length_range] at hge
  rw [QjA key info n kR hge] at qO
  have bD : w.heap.size ≤ D := Nat.le_trans x7.size lD
  refine wp_exit ?_
  refine hK13 _ _ ?_
  refine wp_seq_k fun K17 hK17 => ?_
  refine Qab ?_
  refine Qaa (.slice (some ⟨g8, 0, none⟩) n n) 34 rfl kj (Qag 33 _ g9 0 33 _ (.slice (some ⟨g8, 0, none⟩) n n) _ q8 rfl kj kj kj) ?_
  refine Qaa (.slice (some ⟨g8, 0, none⟩) n n) 6 rfl kj kj ?_
  refine Qaa (.nilIface) 7 rfl kj kj ?_
  refine Qac ?_
  refine hK17 _ _ ?_
  refine wp_ret ?_
  repeat (first | with_reducible refine goR1 ?_ | with_reducible refine goR2 ?_)
  exact (show bodyPostM _ _ _ _ _ .ret _ _ from Qjf (.slice (some ⟨g8, 0, none⟩) n n) (.nilIface) rfl rD (Qa9 kj) (Qa9 kj) ⟨_, rfl, QeX xx bD rD _, _, kR, rfl, hge, Qci (Qit key info n kR hge) b8 (QeW qO rD _) (by simp only [maxLen]; omega)⟩)
end Go.Proofs.YtoiendjhplbjjaaDoor.Sha
end
section
namespace Go.Proofs.YtoiendjhplbjjaaDoor.Sha
open Go Go.RowKit
open Rely Auto Own
set_option linter.unusedVariables false
set_option linter.unusedSimpArgs false
def kx (key info : List Int) (n : Nat) : List Int := (okm key info n).take n
theorem QfW (key info : List Int) (n : Nat) : ∀ (k d : Nat), n ≤ 32 * k → (okm key info (k + d)).take n = (okm key info k).take n
  | k, 0, _ => rfl
  | k, d + 1, h => by
    rw [show k + (d + 1) = (k + d) + 1 by omega, okm, List.take_append_of_le_length (by rw [QfX]; omega), QfW key info n k d h]
theorem QkA (key info : List Int) (n k : Nat) (h : n ≤ 32 * k) : (okm key info k).take n = kx key info n := by
  unfold kx
  rcases Nat.le_total k n with h1 | h1
  · obtain ⟨d, rfl⟩ : ∃ d, n = k + d := ⟨n - k, by omega⟩
    exact (QfW key info _ k d h).symm
  · obtain ⟨d, rfl⟩ : ∃ d, k = n + d := ⟨k - n, by omega⟩
    exact QfW key info _ n d (by omega)
theorem QhG (key info : List Int) (n : Nat) : (kx key info n).length = n := by unfold kx; rw [List.length_take, QfX]; omega
theorem Qf4 (key info : List Int) : ∀ k, Qaj (okm key info k)
  | 0 => fun x hx => by cases hx
  | k + 1 => bytes_app (Qf4 key info k) (Qgn key info (k + 1))
theorem Qiv (key info : List Int) (n : Nat) : Qaj (kx key info n) := fun x hx => Qf4 key info n x (List.mem_of_mem_take hx)
theorem Qix (key info : List Int) (v1 v2 : Value) (B B2 n : Nat) (tc tq : TypeId) (w : World) (hc : w.heap[1]? = some (.cells (ints .u64 Qbi) tc)) (hq : w.heap[0]? = some (.cells (ints .u64 Qat) tq)) (hn : n ≤ 8160) (hkl : key.length ≤ 800000000) (hil : info.length ≤ 700000000) (hkb : Qaj key) (hib : Qaj info) (hk : RdK .u8 B key v1 w) (hi : RdK .u8 B2 info v2 w) :
    Calls Tryd.prog 111 #[v1, v2, .int .i64 ((n : Nat) : Int)] w (QbT w (fun v W => ∃ u, v = .tuple #[u, .nilIface] ∧ OwnN .u8 5 w.heap.size (kx key info n) u W)) :=
  (Qiy key info v1 v2 B B2 n tc tq w hc hq hn hkl hil hkb hib hk hi).mono fun e W' ⟨v, h1, h2, u, k, h3, h4, h5⟩ => ⟨v, h1, h2, u, h3, QkA key info n k h4 ▸ h5⟩
end Go.Proofs.YtoiendjhplbjjaaDoor.Sha
end
section
namespace Go.Proofs.YtoiendjhplbjjaaDoor.Cha
open Go Go.RowKit
open Rely Auto Own Sha
set_option linter.unusedVariables false
set_option linter.unusedSimpArgs false
open Sha
section
variable {P : Program} {fn : Func} {R : Ending → World → Prop} {N : Nat} {L : Env} {w : World}
theorem Qft {r s t q : ResultVar} {u v x y : Value} (hr : fn.results = #[r, s, t, q]) (h : QcM P w N L r u) (k : QcM P w N L s v) (l : QcM P w N L t x) (m : QcM P w N L q y) : (results fn (Qaz [] N L).tmps).run P w = .ok (.tuple #[u, v, x, y]) w := by
  rw [QcZ, hr]
  simp [QbV h, QbV k, QbV l, QbV m, Sem.run_bind]
theorem ret4 {r s t q : ResultVar} (u v x y : Value) (hr : fn.results = #[r, s, t, q]) (h : QcM P w N L r u) (k : QcM P w N L s v) (l : QcM P w N L t x) (m : QcM P w N L q y) (z : R (.returned (.tuple #[u, v, x, y])) w) : bodyPost P fn R .ret (Qaz [] N L) w := bodyPost_ret (Qft hr h k l m) rfl z
end
def rl (x : Wd) (n : Nat) : Wd := x <<< n ||| x >>> (32 - n)
theorem QjI (n : Nat) (hn : n < 32) : IntKind.u64.wrap ((n : Nat) : Int) = ((n : Nat) : Int) := by
  have : ∀ z : Int, IntKind.u64.wrap z = z % 2 ^ 64 := fun _ => rfl
  rw [this]; omega
theorem Qkk : ∀ n : Nat, n < 32 → bits .and .u64 ((n : Nat) : Int) 31 = ((n : Nat) : Int) := by
  have h : ∀ n : Fin 32, bits .and .u64 ((n.1 : Nat) : Int) 31 = ((n.1 : Nat) : Int) := by decide
  intro n hn
  exact h ⟨n, hn⟩
theorem Qig (n : Nat) (hn : n < 32) : IntKind.u64.wrap (32 - ((n : Nat) : Int)) = ((32 - n : Nat) : Int) := by
  have : ∀ z : Int, IntKind.u64.wrap z = z % 2 ^ 64 := fun _ => rfl
  rw [this]; omega
def qA (a b : Wd) : Wd := a + b
def qD (a b d : Wd) : Wd := rl (d ^^^ (a + b)) 16
def qC (a b c d : Wd) : Wd := c + qD a b d
def qB (a b c d : Wd) : Wd := rl (b ^^^ qC a b c d) 12
def qA2 (a b c d : Wd) : Wd := qA a b + qB a b c d
def qD2 (a b c d : Wd) : Wd := rl (qD a b d ^^^ qA2 a b c d) 8
def qC2 (a b c d : Wd) : Wd := qC a b c d + qD2 a b c d
def qB2 (a b c d : Wd) : Wd := rl (qB a b c d ^^^ qC2 a b c d) 7
set_option maxHeartbeats 4000000 in
theorem rotL (x : Wd) (n : Nat) (m : Int) (hm : m = (n : Int)) (hn : n < 32) (w : World) : Calls Tryd.prog 131 #[.int .u32 (wv x), .int .i64 m] w (Ret w (.int .u32 (wv (rl x n)))) := by
  subst hm
  refine enter 17 [(0, .int .u32 (wv x)), (1, .int .i64 ((n : Nat) : Int))] Tryd.func131 rfl rfl kj rfl ?_
  refine wp_seq_k fun K1 hK1 => ?_
  refine Qab ?_
  refine Qaa (.int .u32 0) 4 rfl kj kj ?_
  refine Qac ?_
  refine hK1 _ _ ?_
  refine wp_seq_k fun K2 hK2 => ?_
  refine Qab ?_
  refine Qaa (.int .i64 ((n : Nat) : Int)) 6 rfl kj kj ?_
  refine Qaa (.int .u64 (((n : Nat) : Int))) 7 rfl kj (Qal (u := .int .u64 (IntKind.u64.wrap ((n : Nat) : Int))) kj (congrArg (Value.int .u64) (QjI n hn))) ?_
  refine Qaa (.int .u64 (((n : Nat) : Int))) 8 rfl kj (Qal (u := .int .u64 (bits .and .u64 (((n : Nat) : Int)) (31))) kj (congrArg (Value.int .u64) (Qkk n hn))) ?_
  refine Qaa (.int .u64 (((n : Nat) : Int))) 5 rfl kj kj ?_
  refine Qac ?_
  refine hK2 _ _ ?_
  refine wp_seq_k fun K3 hK3 => ?_
  refine Qab ?_
  refine Qaa (.int .u32 (wv x)) 9 rfl kj kj ?_
  refine Qaa (.int .u64 (((n : Nat) : Int))) 10 rfl kj kj ?_
  refine Qaa (.int .u32 (wv (x <<< n))) 11 rfl kj (Qa3 .shl _ _ _ _ .u32 .u64 _ _ _ rfl kj kj (Qe1 _ _ _ _ _ _ (by omega) (QfK x _ n rfl (by omega)))) ?_
  refine Qaa (.int .u32 (wv x)) 12 rfl kj kj ?_
  refine Qaa (.int .u64 (((n : Nat) : Int))) 13 rfl kj kj ?_
  refine Qaa (.int .u64 (((32 - n : Nat) : Int))) 14 rfl kj (Qal (u := .int .u64 (IntKind.u64.wrap (32 - ((n : Nat) : Int)))) kj (congrArg (Value.int .u64) (Qig n hn))) ?_
  refine Qaa (.int .u32 (wv (x >>> (32 - n)))) 15 rfl kj (Qa3 .shr _ _ _ _ .u32 .u64 _ _ _ rfl kj kj (Qbg _ _ _ _ _ _ (by omega) (Qb6 x _ (32 - n) rfl (by omega)))) ?_
  refine Qaa (.int .u32 (wv (((x <<< n)) ||| ((x >>> (32 - n)))))) 16 rfl kj (Qal (u := .int .u32 (bits .or .u32 (wv (x <<< n)) (wv (x >>> (32 - n))))) kj (congrArg (Value.int .u32) (w_or _ _))) ?_
  refine Qaa (.int .u32 (wv (((x <<< n)) ||| ((x >>> (32 - n)))))) 4 rfl kj kj ?_
  refine Qac ?_
  refine hK3 _ _ ?_
  refine wp_ret ?_
  repeat (first | with_reducible refine goR1 ?_ | with_reducible refine goR2 ?_)
  exact (show bodyPost _ _ _ .ret _ _ from ret1 (.int .u32 (wv (((x <<< n)) ||| ((x >>> (32 - n)))))) rfl (Qa9 kj) ⟨rfl, (Rely.Ext.refl w)⟩)
set_option maxHeartbeats 4000000 in
theorem Qcv (a b c d : Wd) (w : World) : Calls Tryd.prog 156 #[.int .u32 (wv a), .int .u32 (wv b), .int .u32 (wv c), .int .u32 (wv d)] w (Ret w (.tuple #[.int .u32 (wv (qA2 a b c d)), .int .u32 (wv (qB2 a b c d)), .int .u32 (wv (qC2 a b c d)), .int .u32 (wv (qD2 a b c d))])) := by
  refine enter 44 [(0, .int .u32 (wv a)), (1, .int .u32 (wv b)), (2, .int .u32 (wv c)), (3, .int .u32 (wv d))] Tryd.func156 rfl rfl kj rfl ?_
  refine wp_seq_k fun K1 hK1 => ?_
  refine Qab ?_
  refine Qaa (.int .u32 0) 8 rfl kj kj ?_
  refine Qaa (.int .u32 0) 9 rfl kj kj ?_
  refine Qaa (.int .u32 0) 10 rfl kj kj ?_
  refine Qaa (.int .u32 0) 11 rfl kj kj ?_
  refine Qac ?_
  refine hK1 _ _ ?_
  refine wp_seq_k fun K2 hK2 => ?_
  refine Qab ?_
  refine Qaa (.int .u32 (wv a)) 12 rfl kj kj ?_
  refine Qaa (.int .u32 (wv b)) 13 rfl kj kj ?_
  refine Qaa (.int .u32 (wv ((a) + (b)))) 14 rfl kj (Qal (u := .int .u32 (IntKind.u32.wrap (wv a + wv b))) kj (congrArg (Value.int .u32) (Qcf _ _))) ?_
  refine Qaa (.int .u32 (wv ((a) + (b)))) 0 rfl kj kj ?_
  refine Qac ?_
  refine hK2 _ _ ?_
  refine wp_seq_k fun K3 hK3 => ?_
  refine Qab ?_
  refine Qaa (.int .u32 (wv d)) 15 rfl kj kj ?_
  refine Qaa (.int .u32 (wv ((a) + (b)))) 16 rfl kj kj ?_
  refine Qaa (.int .u32 (wv ((d) ^^^ (((a) + (b)))))) 17 rfl kj (Qal (u := .int .u32 (bits .xor .u32 (wv d) (wv ((a) + (b))))) kj (congrArg (Value.int .u32) (w_xor _ _))) ?_
  refine Qax (.int .u32 (wv (rl ((d) ^^^ (((a) + (b)))) 16))) 131 #[.int .u32 (wv ((d) ^^^ (((a) + (b))))), .int .i64 16] 18 rfl kj kj ((rotL ((d) ^^^ (((a) + (b)))) 16 16 rfl (by decide)) _) fun W1 e1 => ?_
  have x1 : Ext w W1 := Ext.tr (Rely.Ext.refl w) e1
  refine Qaa (.int .u32 (wv (rl ((d) ^^^ (((a) + (b)))) 16))) 3 rfl kj kj ?_
  refine Qac ?_
  refine hK3 _ _ ?_
  refine wp_seq_k fun K4 hK4 => ?_
  refine Qab ?_
  refine Qaa (.int .u32 (wv c)) 19 rfl kj kj ?_
  refine Qaa (.int .u32 (wv (rl ((d) ^^^ (((a) + (b)))) 16))) 20 rfl kj kj ?_
  refine Qaa (.int .u32 (wv ((c) + ((rl ((d) ^^^ (((a) + (b)))) 16))))) 21 rfl kj (Qal (u := .int .u32 (IntKind.u32.wrap (wv c + wv (rl ((d) ^^^ (((a) + (b)))) 16)))) kj (congrArg (Value.int .u32) (Qcf _ _))) ?_
  refine Qaa (.int .u32 (wv ((c) + ((rl ((d) ^^^ (((a) + (b)))) 16))))) 2 rfl kj kj ?_
  refine Qac ?_
  refine hK4 _ _ ?_
  refine wp_seq_k fun K5 hK5 => ?_
  refine Qab ?_
  refine Qaa (.int .u32 (wv b)) 22 rfl kj kj ?_
  refine Qaa (.int .u32 (wv ((c) + ((rl ((d) ^^^ (((a) + (b)))) 16))))) 23 rfl kj kj ?_
  refine Qaa (.int .u32 (wv ((b) ^^^ (((c) + ((rl ((d) ^^^ (((a) + (b)))) 16))))))) 24 rfl kj (Qal (u := .int .u32 (bits .xor .u32 (wv b) (wv ((c) + ((rl ((d) ^^^ (((a) + (b)))) 16)))))) kj (congrArg (Value.int .u32) (w_xor _ _))) ?_
  refine Qax (.int .u32 (wv (rl ((b) ^^^ (((c) + ((rl ((d) ^^^ (((a) + (b)))) 16))))) 12))) 131 #[.int .u32 (wv ((b) ^^^ (((c) + ((rl ((d) ^^^ (((a) + (b)))) 16)))))), .int .i64 12] 25 rfl kj kj ((rotL ((b) ^^^ (((c) + ((rl ((d) ^^^ (((a) + (b)))) 16))))) 12 12 rfl (by decide)) _) fun W2 e2 => ?_
  have x2 : Ext w W2 := Ext.tr x1 e2
  refine Qaa (.int .u32 (wv (rl ((b) ^^^ (((c) + ((rl ((d) ^^^ (((a) + (b)))) 16))))) 12))) 1 rfl kj kj ?_
  refine Qac ?_
  refine hK5 _ _ ?_
  refine wp_seq_k fun K6 hK6 => ?_
  refine Qab ?_
  refine Qaa (.int .u32 (wv ((a) + (b)))) 26 rfl kj kj ?_
  refine Qaa (.int .u32 (wv (rl ((b) ^^^ (((c) + ((rl ((d) ^^^ (((a) + (b)))) 16))))) 12))) 27 rfl kj kj ?_
  refine Qaa (.int .u32 (wv ((((a) + (b))) + ((rl ((b) ^^^ (((c) + ((rl ((d) ^^^ (((a) + (b)))) 16))))) 12))))) 28 rfl kj (Qal (u := .int .u32 (IntKind.u32.wrap (wv ((a) + (b)) + wv (rl ((b) ^^^ (((c) + ((rl ((d) ^^^ (((a) + (b)))) 16))))) 12)))) kj (congrArg (Value.int .u32) (Qcf _ _))) ?_
  refine Qaa (.int .u32 (wv ((((a) + (b))) + ((rl ((b) ^^^ (((c) + ((rl ((d) ^^^ (((a) + (b)))) 16))))) 12))))) 0 rfl kj kj ?_
  refine Qac ?_
  refine hK6 _ _ ?_
  refine wp_seq_k fun K7 hK7 => ?_
  refine Qab ?_
  refine Qaa (.int .u32 (wv (rl ((d) ^^^ (((a) + (b)))) 16))) 29 rfl kj kj ?_
  refine Qaa (.int .u32 (wv ((((a) + (b))) + ((rl ((b) ^^^ (((c) + ((rl ((d) ^^^ (((a) + (b)))) 16))))) 12))))) 30 rfl kj kj ?_
  refine Qaa (.int .u32 (wv (((rl ((d) ^^^ (((a) + (b)))) 16)) ^^^ (((((a) + (b))) + ((rl ((b) ^^^ (((c) + ((rl ((d) ^^^ (((a) + (b)))) 16))))) 12))))))) 31 rfl kj (Qal (u := .int .u32 (bits .xor .u32 (wv (rl ((d) ^^^ (((a) + (b)))) 16)) (wv ((((a) + (b))) + ((rl ((b) ^^^ (((c) + ((rl ((d) ^^^ (((a) + (b)))) 16))))) 12)))))) kj (congrArg (Value.int .u32) (w_xor _ _))) ?_
  refine Qax (.int .u32 (wv (rl (((rl ((d) ^^^ (((a) + (b)))) 16)) ^^^ (((((a) + (b))) + ((rl ((b) ^^^ (((c) + ((rl ((d) ^^^ (((a) + (b)))) 16))))) 12))))) 8))) 131 #[.int .u32 (wv (((rl ((d) ^^^ (((a) + (b)))) 16)) ^^^ (((((a) + (b))) + ((rl ((b) ^^^ (((c) + ((rl ((d) ^^^ (((a) + (b)))) 16))))) 12)))))), .int .i64 8] 32 rfl kj kj ((rotL (((rl ((d) ^^^ (((a) + (b)))) 16)) ^^^ (((((a) + (b))) + ((rl ((b) ^^^ (((c) + ((rl ((d) ^^^ (((a) + (b)))) 16))))) 12))))) 8 8 rfl (by decide)) _) fun W3 e3 => ?_
  have x3 : Ext w W3 := Ext.tr x2 e3
  refine Qaa (.int .u32 (wv (rl (((rl ((d) ^^^ (((a) + (b)))) 16)) ^^^ (((((a) + (b))) + ((rl ((b) ^^^ (((c) + ((rl ((d) ^^^ (((a) + (b)))) 16))))) 12))))) 8))) 3 rfl kj kj ?_
  refine Qac ?_
  refine hK7 _ _ ?_
  refine wp_seq_k fun K8 hK8 => ?_
  refine Qab ?_
  refine Qaa (.int .u32 (wv ((c) + ((rl ((d) ^^^ (((a) + (b)))) 16))))) 33 rfl kj kj ?_
  refine Qaa (.int .u32 (wv (rl (((rl ((d) ^^^ (((a) + (b)))) 16)) ^^^ (((((a) + (b))) + ((rl ((b) ^^^ (((c) + ((rl ((d) ^^^ (((a) + (b)))) 16))))) 12))))) 8))) 34 rfl kj kj ?_
  refine Qaa (.int .u32 (wv ((((c) + ((rl ((d) ^^^ (((a) + (b)))) 16)))) + ((rl (((rl ((d) ^^^ (((a) + (b)))) 16)) ^^^ (((((a) + (b))) + ((rl ((b) ^^^ (((c) + ((rl ((d) ^^^ (((a) + (b)))) 16))))) 12))))) 8))))) 35 rfl kj (Qal (u := .int .u32 (IntKind.u32.wrap (wv ((c) + ((rl ((d) ^^^ (((a) + (b)))) 16))) + wv (rl (((rl ((d) ^^^ (((a) + (b)))) 16)) ^^^ (((((a) + (b))) + ((rl ((b) ^^^ (((c) + ((rl ((d) ^^^ (((a) + (b)))) 16))))) 12))))) 8)))) kj (congrArg (Value.int .u32) (Qcf _ _))) ?_
  refine Qaa (.int .u32 (wv ((((c) + ((rl ((d) ^^^ (((a) + (b)))) 16)))) + ((rl (((rl ((d) ^^^ (((a) + (b)))) 16)) ^^^ (((((a) + (b))) + ((rl ((b) ^^^ (((c) + ((rl ((d) ^^^ (((a) + (b)))) 16))))) 12))))) 8))))) 2 rfl kj kj ?_
  refine Qac ?_
  refine hK8 _ _ ?_
  refine wp_seq_k fun K9 hK9 => ?_
  refine Qab ?_
  refine Qaa (.int .u32 (wv (rl ((b) ^^^ (((c) + ((rl ((d) ^^^ (((a) + (b)))) 16))))) 12))) 36 rfl kj kj ?_
  refine Qaa (.int .u32 (wv ((((c) + ((rl ((d) ^^^ (((a) + (b)))) 16)))) + ((rl (((rl ((d) ^^^ (((a) + (b)))) 16)) ^^^ (((((a) + (b))) + ((rl ((b) ^^^ (((c) + ((rl ((d) ^^^ (((a) + (b)))) 16))))) 12))))) 8))))) 37 rfl kj kj ?_
  refine Qaa (.int .u32 (wv (((rl ((b) ^^^ (((c) + ((rl ((d) ^^^ (((a) + (b)))) 16))))) 12)) ^^^ (((((c) + ((rl ((d) ^^^ (((a) + (b)))) 16)))) + ((rl (((rl ((d) ^^^ (((a) + (b)))) 16)) ^^^ (((((a) + (b))) + ((rl ((b) ^^^ (((c) + ((rl ((d) ^^^ (((a) + (b)))) 16))))) 12))))) 8))))))) 38 rfl kj (Qal (u := .int .u32 (bits .xor .u32 (wv (rl ((b) ^^^ (((c) + ((rl ((d) ^^^ (((a) + (b)))) 16))))) 12)) (wv ((((c) + ((rl ((d) ^^^ (((a) + (b)))) 16)))) + ((rl (((rl ((d) ^^^ (((a) + (b)))) 16)) ^^^ (((((a) + (b))) + ((rl ((b) ^^^ (((c) + ((rl ((d) ^^^ (((a) + (b)))) 16))))) 12))))) 8)))))) kj (congrArg (Value.int .u32) (w_xor _ _))) ?_
  refine Qax (.int .u32 (wv (rl (((rl ((b) ^^^ (((c) + ((rl ((d) ^^^ (((a) + (b)))) 16))))) 12)) ^^^ (((((c) + ((rl ((d) ^^^ (((a) + (b)))) 16)))) + ((rl (((rl ((d) ^^^ (((a) + (b)))) 16)) ^^^ (((((a) + (b))) + ((rl ((b) ^^^ (((c) + ((rl ((d) ^^^ (((a) + (b)))) 16))))) 12))))) 8))))) 7))) 131 #[.int .u32 (wv (((rl ((b) ^^^ (((c) + ((rl ((d) ^^^ (((a) + (b)))) 16))))) 12)) ^^^ (((((c) + ((rl ((d) ^^^ (((a) + (b)))) 16)))) + ((rl (((rl ((d) ^^^ (((a) + (b)))) 16)) ^^^ (((((a) + (b))) + ((rl ((b) ^^^ (((c) + ((rl ((d) ^^^ (((a) + (b)))) 16))))) 12))))) 8)))))), .int .i64 7] 39 rfl kj kj ((rotL (((rl ((b) ^^^ (((c) + ((rl ((d) ^^^ (((a) + (b)))) 16))))) 12)) ^^^ (((((c) + ((rl ((d) ^^^ (((a) + (b)))) 16)))) + ((rl (((rl ((d) ^^^ (((a) + (b)))) 16)) ^^^ (((((a) + (b))) + ((rl ((b) ^^^ (((c) + ((rl ((d) ^^^ (((a) + (b)))) 16))))) 12))))) 8))))) 7 7 rfl (by decide)) _) fun W4 e4 => ?_
  have x4 : Ext w W4 := Ext.tr x3 e4
  refine Qaa (.int .u32 (wv (rl (((rl ((b) ^^^ (((c) + ((rl ((d) ^^^ (((a) + (b)))) 16))))) 12)) ^^^ (((((c) + ((rl ((d) ^^^ (((a) + (b)))) 16)))) + ((rl (((rl ((d) ^^^ (((a) + (b)))) 16)) ^^^ (((((a) + (b))) + ((rl ((b) ^^^ (((c) + ((rl ((d) ^^^ (((a) + (b)))) 16))))) 12))))) 8))))) 7))) 1 rfl kj kj ?_
  refine Qac ?_
  refine hK9 _ _ ?_
  refine wp_seq_k fun K10 hK10 => ?_
  refine Qab ?_
  refine Qaa (.int .u32 (wv ((((a) + (b))) + ((rl ((b) ^^^ (((c) + ((rl ((d) ^^^ (((a) + (b)))) 16))))) 12))))) 40 rfl kj kj ?_
  refine Qaa (.int .u32 (wv (rl (((rl ((b) ^^^ (((c) + ((rl ((d) ^^^ (((a) + (b)))) 16))))) 12)) ^^^ (((((c) + ((rl ((d) ^^^ (((a) + (b)))) 16)))) + ((rl (((rl ((d) ^^^ (((a) + (b)))) 16)) ^^^ (((((a) + (b))) + ((rl ((b) ^^^ (((c) + ((rl ((d) ^^^ (((a) + (b)))) 16))))) 12))))) 8))))) 7))) 41 rfl kj kj ?_
  refine Qaa (.int .u32 (wv ((((c) + ((rl ((d) ^^^ (((a) + (b)))) 16)))) + ((rl (((rl ((d) ^^^ (((a) + (b)))) 16)) ^^^ (((((a) + (b))) + ((rl ((b) ^^^ (((c) + ((rl ((d) ^^^ (((a) + (b)))) 16))))) 12))))) 8))))) 42 rfl kj kj ?_
  refine Qaa (.int .u32 (wv (rl (((rl ((d) ^^^ (((a) + (b)))) 16)) ^^^ (((((a) + (b))) + ((rl ((b) ^^^ (((c) + ((rl ((d) ^^^ (((a) + (b)))) 16))))) 12))))) 8))) 43 rfl kj kj ?_
  refine Qaa (.int .u32 (wv ((((a) + (b))) + ((rl ((b) ^^^ (((c) + ((rl ((d) ^^^ (((a) + (b)))) 16))))) 12))))) 8 rfl kj kj ?_
  refine Qaa (.int .u32 (wv (rl (((rl ((b) ^^^ (((c) + ((rl ((d) ^^^ (((a) + (b)))) 16))))) 12)) ^^^ (((((c) + ((rl ((d) ^^^ (((a) + (b)))) 16)))) + ((rl (((rl ((d) ^^^ (((a) + (b)))) 16)) ^^^ (((((a) + (b))) + ((rl ((b) ^^^ (((c) + ((rl ((d) ^^^ (((a) + (b)))) 16))))) 12))))) 8))))) 7))) 9 rfl kj kj ?_
  refine Qaa (.int .u32 (wv ((((c) + ((rl ((d) ^^^ (((a) + (b)))) 16)))) + ((rl (((rl ((d) ^^^ (((a) + (b)))) 16)) ^^^ (((((a) + (b))) + ((rl ((b) ^^^ (((c) + ((rl ((d) ^^^ (((a) + (b)))) 16))))) 12))))) 8))))) 10 rfl kj kj ?_
  refine Qaa (.int .u32 (wv (rl (((rl ((d) ^^^ (((a) + (b)))) 16)) ^^^ (((((a) + (b))) + ((rl ((b) ^^^ (((c) + ((rl ((d) ^^^ (((a) + (b)))) 16))))) 12))))) 8))) 11 rfl kj kj ?_
  refine Qac ?_
  refine hK10 _ _ ?_
  refine wp_ret ?_
  repeat (first | with_reducible refine goR1 ?_ | with_reducible refine goR2 ?_)
  exact (show bodyPost _ _ _ .ret _ _ from ret4 (.int .u32 (wv ((((a) + (b))) + ((rl ((b) ^^^ (((c) + ((rl ((d) ^^^ (((a) + (b)))) 16))))) 12))))) (.int .u32 (wv (rl (((rl ((b) ^^^ (((c) + ((rl ((d) ^^^ (((a) + (b)))) 16))))) 12)) ^^^ (((((c) + ((rl ((d) ^^^ (((a) + (b)))) 16)))) + ((rl (((rl ((d) ^^^ (((a) + (b)))) 16)) ^^^ (((((a) + (b))) + ((rl ((b) ^^^ (((c) + ((rl ((d) ^^^ (((a) + (b)))) 16))))) 12))))) 8))))) 7))) (.int .u32 (wv ((((c) + ((rl ((d) ^^^ (((a) + (b)))) 16)))) + ((rl (((rl ((d) ^^^ (((a) + (b)))) 16)) ^^^ (((((a) + (b))) + ((rl ((b) ^^^ (((c) + ((rl ((d) ^^^ (((a) + (b)))) 16))))) 12))))) 8))))) (.int .u32 (wv (rl (((rl ((d) ^^^ (((a) + (b)))) 16)) ^^^ (((((a) + (b))) + ((rl ((b) ^^^ (((c) + ((rl ((d) ^^^ (((a) + (b)))) 16))))) 12))))) 8))) rfl (Qa9 kj) (Qa9 kj) (Qa9 kj) (Qa9 kj) ⟨rfl, x4⟩)
set_option maxHeartbeats 4000000 in
theorem check_D (nonce : List Int) (v : Value) (B : Nat) (number : Int) (w : World) (hn : RdK .u8 B nonce v w) (h : nonce.length = 12) (h1 : 0 ≤ number) (h2 : number ≤ 4294967295) : Calls Tryd.prog 122 #[v, .int .i64 number] w (Ret w (.nilIface)) := by
  obtain ⟨a_n, c_n, rfl, -⟩ := id hn
  refine enter 16 [(0, .slice a_n nonce.length c_n), (1, .int .i64 number)] Tryd.func122 rfl rfl kj rfl ?_
  refine wp_seq_k fun K1 hK1 => ?_
  refine Qab ?_
  refine Qaa (.nilIface) 4 rfl kj kj ?_
  refine Qac ?_
  refine hK1 _ _ ?_
  refine wp_seq_k fun K2 hK2 => ?_
  refine wp_seq_k fun K3 hK3 => ?_
  refine Qab ?_
  refine Qaa (.slice a_n nonce.length c_n) 5 rfl kj kj ?_
  refine Qaa (.int .i64 ((nonce.length : Nat) : Int)) 6 rfl kj kj ?_
  refine Qaa (.bool false) 7 rfl kj (Qal (u := .bool ((((nonce.length : Nat) : Int) != 12))) kj (congrArg Value.bool (by simp; omega))) ?_
  refine Qac ?_
  refine hK3 _ _ ?_
  refine cond_false kj ?_
  refine wp_skip ?_
  refine hK2 _ _ ?_
  refine wp_seq_k fun K4 hK4 => ?_
  refine wp_seq_k fun K5 hK5 => ?_
  refine Qab ?_
  refine Qaa (.int .i64 number) 9 rfl kj kj ?_
  refine Qaa (.bool false) 10 rfl kj (Qal (u := .bool (decide (number < 0))) kj (congrArg Value.bool (decide_eq_false (by omega)))) ?_
  refine Qaa (.bool false) 11 rfl kj kj ?_
  refine Qaa (.int .i64 number) 12 rfl kj kj ?_
  refine Qaa (.bool false) 13 rfl kj (Qal (u := .bool (decide (number > 4294967295))) kj (congrArg Value.bool (decide_eq_false (by omega)))) ?_
  refine Qaa (.bool false) 14 rfl kj kj ?_
  refine Qac ?_
  refine hK5 _ _ ?_
  refine cond_false kj ?_
  refine wp_skip ?_
  refine hK4 _ _ ?_
  refine wp_seq_k fun K6 hK6 => ?_
  refine Qab ?_
  refine Qaa (.nilIface) 4 rfl kj kj ?_
  refine Qac ?_
  refine hK6 _ _ ?_
  refine wp_ret ?_
  repeat (first | with_reducible refine goR1 ?_ | with_reducible refine goR2 ?_)
  exact (show bodyPost _ _ _ .ret _ _ from ret1 (.nilIface) rfl (Qa9 kj) ⟨rfl, (Rely.Ext.refl w)⟩)
theorem QeB {k : IntKind} {B : Nat} {ys : List Int} {a : Option Addr} {n c : Nat} {W : World} (h : RdK k B ys (.slice a n c) W) (h0 : 0 < ys.length) : ∃ g o, a = some ⟨g, o, none⟩ ∧ g < B ∧ g < W.heap.size ∧ ∀ i, i < ys.length → W.cell? ⟨g, o + i, none⟩ = some (.int k (nth ys i)) := by
  obtain ⟨a', cap', e, h2, h3, h4, h5⟩ := h
  simp only [Value.slice.injEq] at e
  obtain ⟨rfl, -, -⟩ := e
  rcases h5 with h5 | ⟨g, o, q1, q2, q3, q4⟩
  · rw [h5] at h0; simp at h0
  · exact ⟨g, o, q1, q2, q3, q4⟩
theorem QiB (b : List Int) (i : Nat) : IntKind.u32.wrap (nth b i) = wv (BitVec.ofInt 32 (nth b i)) := by rw [Go.Proofs.YtoiendjhplbjjaaDoor.Sha.wrap32, QdZ]
def le4 (b : List Int) : Wd := BitVec.ofInt 32 (nth b 0) ||| BitVec.ofInt 32 (nth b 1) <<< 8 ||| BitVec.ofInt 32 (nth b 2) <<< 16 ||| BitVec.ofInt 32 (nth b 3) <<< 24
set_option maxHeartbeats 4000000 in
theorem Qei (b : List Int) (v : Value) (B : Nat) (w : World) (hb : RdK .u8 B b v w) (hl : b.length = 4) : Calls Tryd.prog 155 #[v] w (Ret w (.int .u32 (wv (le4 b)))) := by
  obtain ⟨a_b, c_b, rfl, -⟩ := id hb
  obtain ⟨gb, ob, rfl, -, hgb, hcb⟩ := QeB hb (by omega)
  refine enter 25 [(0, .slice (some ⟨gb, ob, none⟩) b.length c_b)] Tryd.func155 rfl rfl kj rfl ?_
  refine wp_seq_k fun K1 hK1 => ?_
  refine Qab ?_
  refine Qaa (.int .u32 0) 2 rfl kj kj ?_
  refine Qac ?_
  refine hK1 _ _ ?_
  refine wp_seq_k fun K2 hK2 => ?_
  refine QaY 21 [⟨none, [(0, none)]⟩, ⟨none, [(3, some 0)]⟩, ⟨none, [(4, some 1)]⟩, ⟨none, [(5, some 2)]⟩, ⟨none, [(0, none)]⟩, ⟨none, [(7, some 4)]⟩, ⟨none, [(8, some 5)]⟩, ⟨none, [(9, some 6)]⟩, ⟨none, [(10, some 7)]⟩, ⟨none, [(6, some 3), (11, some 8)]⟩, ⟨none, [(0, none)]⟩, ⟨none, [(13, some 10)]⟩, ⟨none, [(14, some 11)]⟩, ⟨none, [(15, some 12)]⟩, ⟨none, [(16, some 13)]⟩, ⟨none, [(12, some 9), (17, some 14)]⟩, ⟨none, [(0, none)]⟩, ⟨none, [(19, some 16)]⟩, ⟨none, [(20, some 17)]⟩, ⟨none, [(21, some 18)]⟩, ⟨none, [(22, some 19)]⟩] kj kj fun F hF => ?_
  refine QaB (Qav _) (.slice (some ⟨gb, ob, none⟩) b.length c_b) kj kj (fun W => by kernel_rfl) ?_
  refine QaB (Qav _) (.pointer (some ⟨gb, ob + 0, none⟩)) kj kj (fun W => (QbW 33 _ _ .i64 (0) gb ob b.length c_b 5 rfl kj kj kj kj (by omega))) ?_
  refine QbG (Qav _) (.int .u8 (nth (b) (0))) kj kj (fun W hR => (Qbl 5 _ _ (.int .u8 (nth (b) (0))) ((Below.cell (Rely.Ext.trans (Rely.Ext.trans (Rely.Ext.refl w) (Qak _)) hR) hgb).trans (hcb 0 (by omega))) rfl kj kj)) ?_
  refine QaB (Qav _) (.int .u32 (wv (BitVec.ofInt 32 (nth b 0)))) kj kj (fun W => (Qal (u := .int .u32 (IntKind.u32.wrap (nth (b) (0)))) kj (congrArg (Value.int .u32) (QiB b 0)))) ?_
  refine QaB (Qav _) (.slice (some ⟨gb, ob, none⟩) b.length c_b) kj kj (fun W => by kernel_rfl) ?_
  refine QaB (Qav _) (.pointer (some ⟨gb, ob + 1, none⟩)) kj kj (fun W => (QbW 33 _ _ .i64 (1) gb ob b.length c_b 5 rfl kj kj kj kj (by omega))) ?_
  refine QbG (Qav _) (.int .u8 (nth (b) (1))) kj kj (fun W hR => (Qbl 5 _ _ (.int .u8 (nth (b) (1))) ((Below.cell (Rely.Ext.trans (Rely.Ext.trans (Rely.Ext.refl w) (Qak _)) hR) hgb).trans (hcb 1 (by omega))) rfl kj kj)) ?_
  refine QaB (Qav _) (.int .u32 (wv (BitVec.ofInt 32 (nth b 1)))) kj kj (fun W => (Qal (u := .int .u32 (IntKind.u32.wrap (nth (b) (1)))) kj (congrArg (Value.int .u32) (QiB b 1)))) ?_
  refine QaB (Qav _) (.int .u32 (wv (BitVec.ofInt 32 (nth b 1) <<< 8))) kj kj (fun W => (Qa3 .shl _ _ _ _ .u32 .u64 _ _ _ rfl kj kj (Qe1 _ _ _ _ _ _ (by decide) (QfK _ _ 8 rfl (by decide))))) ?_
  refine QaB (Qav _) (.int .u32 (wv (((BitVec.ofInt 32 (nth b 0))) ||| ((BitVec.ofInt 32 (nth b 1) <<< 8))))) kj kj (fun W => (Qal (u := .int .u32 (bits .or .u32 (wv (BitVec.ofInt 32 (nth b 0))) (wv (BitVec.ofInt 32 (nth b 1) <<< 8)))) kj (congrArg (Value.int .u32) (w_or _ _)))) ?_
  refine QaB (Qav _) (.slice (some ⟨gb, ob, none⟩) b.length c_b) kj kj (fun W => by kernel_rfl) ?_
  refine QaB (Qav _) (.pointer (some ⟨gb, ob + 2, none⟩)) kj kj (fun W => (QbW 33 _ _ .i64 (2) gb ob b.length c_b 5 rfl kj kj kj kj (by omega))) ?_
  refine QbG (Qav _) (.int .u8 (nth (b) (2))) kj kj (fun W hR => (Qbl 5 _ _ (.int .u8 (nth (b) (2))) ((Below.cell (Rely.Ext.trans (Rely.Ext.trans (Rely.Ext.refl w) (Qak _)) hR) hgb).trans (hcb 2 (by omega))) rfl kj kj)) ?_
  refine QaB (Qav _) (.int .u32 (wv (BitVec.ofInt 32 (nth b 2)))) kj kj (fun W => (Qal (u := .int .u32 (IntKind.u32.wrap (nth (b) (2)))) kj (congrArg (Value.int .u32) (QiB b 2)))) ?_
  refine QaB (Qav _) (.int .u32 (wv (BitVec.ofInt 32 (nth b 2) <<< 16))) kj kj (fun W => (Qa3 .shl _ _ _ _ .u32 .u64 _ _ _ rfl kj kj (Qe1 _ _ _ _ _ _ (by decide) (QfK _ _ 16 rfl (by decide))))) ?_
  refine QaB (Qav _) (.int .u32 (wv (((((BitVec.ofInt 32 (nth b 0))) ||| ((BitVec.ofInt 32 (nth b 1) <<< 8)))) ||| ((BitVec.ofInt 32 (nth b 2) <<< 16))))) kj kj (fun W => (Qal (u := .int .u32 (bits .or .u32 (wv (((BitVec.ofInt 32 (nth b 0))) ||| ((BitVec.ofInt 32 (nth b 1) <<< 8)))) (wv (BitVec.ofInt 32 (nth b 2) <<< 16)))) kj (congrArg (Value.int .u32) (w_or _ _)))) ?_
  refine QaB (Qav _) (.slice (some ⟨gb, ob, none⟩) b.length c_b) kj kj (fun W => by kernel_rfl) ?_
  refine QaB (Qav _) (.pointer (some ⟨gb, ob + 3, none⟩)) kj kj (fun W => (QbW 33 _ _ .i64 (3) gb ob b.length c_b 5 rfl kj kj kj kj (by omega))) ?_
  refine QbG (Qav _) (.int .u8 (nth (b) (3))) kj kj (fun W hR => (Qbl 5 _ _ (.int .u8 (nth (b) (3))) ((Below.cell (Rely.Ext.trans (Rely.Ext.trans (Rely.Ext.refl w) (Qak _)) hR) hgb).trans (hcb 3 (by omega))) rfl kj kj)) ?_
  refine QaB (Qav _) (.int .u32 (wv (BitVec.ofInt 32 (nth b 3)))) kj kj (fun W => (Qal (u := .int .u32 (IntKind.u32.wrap (nth (b) (3)))) kj (congrArg (Value.int .u32) (QiB b 3)))) ?_
  refine QaB (Qav _) (.int .u32 (wv (BitVec.ofInt 32 (nth b 3) <<< 24))) kj kj (fun W => (Qa3 .shl _ _ _ _ .u32 .u64 _ _ _ rfl kj kj (Qe1 _ _ _ _ _ _ (by decide) (QfK _ _ 24 rfl (by decide))))) ?_
  refine QcU (hF _ fun W1 e1 => ?_)
  simp only [List.nil_append, List.cons_append, List.take_succ_cons, List.take_zero, List.drop_succ_cons, List.drop_zero, finE, up]
  clear hF
  have x1 : Ext w W1 := Ext.tr (Rely.Ext.refl w) e1
  refine Qaa (.int .u32 (wv (((((((BitVec.ofInt 32 (nth b 0))) ||| ((BitVec.ofInt 32 (nth b 1) <<< 8)))) ||| ((BitVec.ofInt 32 (nth b 2) <<< 16)))) ||| ((BitVec.ofInt 32 (nth b 3) <<< 24))))) 24 rfl kj (Qal (u := .int .u32 (bits .or .u32 (wv (((((BitVec.ofInt 32 (nth b 0))) ||| ((BitVec.ofInt 32 (nth b 1) <<< 8)))) ||| ((BitVec.ofInt 32 (nth b 2) <<< 16)))) (wv (BitVec.ofInt 32 (nth b 3) <<< 24)))) kj (congrArg (Value.int .u32) (w_or _ _))) ?_
  refine Qaa (.int .u32 (wv (((((((BitVec.ofInt 32 (nth b 0))) ||| ((BitVec.ofInt 32 (nth b 1) <<< 8)))) ||| ((BitVec.ofInt 32 (nth b 2) <<< 16)))) ||| ((BitVec.ofInt 32 (nth b 3) <<< 24))))) 2 rfl kj kj ?_
  refine Qac ?_
  refine hK2 _ _ ?_
  refine wp_ret ?_
  repeat (first | with_reducible refine goR1 ?_ | with_reducible refine goR2 ?_)
  exact (show bodyPost _ _ _ .ret _ _ from ret1 (.int .u32 (wv (((((((BitVec.ofInt 32 (nth b 0))) ||| ((BitVec.ofInt 32 (nth b 1) <<< 8)))) ||| ((BitVec.ofInt 32 (nth b 2) <<< 16)))) ||| ((BitVec.ofInt 32 (nth b 3) <<< 24))))) rfl (Qa9 kj) ⟨rfl, x1⟩)
end Go.Proofs.YtoiendjhplbjjaaDoor.Cha
end
section
namespace Go.Proofs.YtoiendjhplbjjaaDoor.Cha
open Go Go.RowKit
open Rely Auto Own Sha
set_option linter.unusedVariables false
set_option linter.unusedSimpArgs false
open Sha
theorem Qd9 {P : Program} {ρ : Operand → Value} {o : Oper} {w : World} (t : TypeId) (x y z : Operand) (l h g off len cap : Nat) (e : TypeId) (ho : o.op = .slice t x (some y) (some z) none) (hx : ρ x = .slice (some ⟨g, off, none⟩) len cap)
    (hu : P.underlying t = some (.slice e)) (hs : (P.info? e).map (·.size) = some 1) (hy : ρ y = .int .i64 (l : Int)) (hz : ρ z = .int .i64 (h : Int)) (h1 : l ≤ h) (h2 : h ≤ cap) (h3 : l < cap) :
    (execOp ρ o).run P w = .ok (.value (.slice (some ⟨g, off + l, none⟩) (h - l) (cap - l))) w := by
  cases hq : P.info? e with
  | none => simp [hq] at hs
  | some i =>
    have hs' : i.size = 1 := by simpa [hq] using hs
    have hadd : (⟨g, off, none⟩ : Addr).add l = ⟨g, off + l, none⟩ := WideShapes.add_plain ..
    have hne : ¬ cap = l := by omega
    unfold execOp
    simp [ho, hx, hy, hz, Instr.sliceAt, Instr.slice, Instr.sliceBounds, run_sliceBound, run_underlying hu, sizeOf, typeInfo, hq, hs', h1, h2, hadd, hne]
def sub4 (b : List Int) (i : Nat) : List Int := (b.drop (4 * i)).take 4
theorem QbH (b : List Int) (i : Nat) (h : 4 * i + 4 ≤ b.length) : (sub4 b i).length = 4 := by
  unfold sub4
  rw [List.length_take, List.length_drop]; omega
theorem Qih (b : List Int) (i j : Nat) (h : j < 4) : nth (sub4 b i) j = nth b (4 * i + j) := by
  unfold nth sub4
  rw [List.getD_eq_getElem?_getD, List.getD_eq_getElem?_getD, List.getElem?_take, if_pos h, List.getElem?_drop]
theorem Qcm {B g o c : Nat} {xs : List Int} {W : World} (hx : RdK .u8 B xs (.slice (some ⟨g, o, none⟩) xs.length c) W) (i : Nat) (hi : 4 * i + 4 ≤ xs.length) : RdK .u8 B (sub4 xs i) (.slice (some ⟨g, o + 4 * i, none⟩) 4 (c - 4 * i)) W := by
  obtain ⟨a, cap, e, h2, h3, h4, h5⟩ := hx
  simp only [Value.slice.injEq] at e
  obtain ⟨rfl, -, rfl⟩ := e
  have hl := QbH xs i hi
  rcases h5 with h5 | ⟨g', o', q1, q2, q3, q4⟩
  · rw [h5] at hi; simp at hi
  · obtain ⟨rfl, rfl⟩ : g = g' ∧ o = o' := by simpa using q1
    refine ⟨some ⟨g, o + 4 * i, none⟩, c - 4 * i, by rw [hl], by omega, by omega, (fun h => by cases h), .inr ⟨g, o + 4 * i, rfl, q2, q3, fun j hj => ?_⟩⟩
    rw [Qih _ _ _ (by omega), Nat.add_assoc]
    exact q4 _ (by omega)
set_option maxRecDepth 100000 in
set_option maxHeartbeats 4000000 in
theorem QiL (key nonce : List Int) (v : Value) (B : Nat) (th : TypeId) (w : World) (hh : w.heap[2]? = some (.cells (ints .u32 [1634760805, 857760878, 2036477234, 1797285236]) th)) (hkl : key.length = 32) (hn : RdK .u8 B nonce v w) (hnl : nonce.length = 12) : Calls Tryd.prog 139 #[.agg (ints .u8 key), v] w (Ret w (.agg (ints .u32 [1634760805, 857760878, 2036477234, 1797285236, wv (le4 (sub4 key 0)), wv (le4 (sub4 key 1)), wv (le4 (sub4 key 2)), wv (le4 (sub4 key 3)), wv (le4 (sub4 key 4)), wv (le4 (sub4 key 5)), wv (le4 (sub4 key 6)), wv (le4 (sub4 key 7)), 0, wv (le4 (sub4 nonce 0)), wv (le4 (sub4 nonce 1)), wv (le4 (sub4 nonce 2))]))) := by
  obtain ⟨a_n, c_n, rfl, hnc, -, -, -⟩ := id hn
  obtain ⟨gn, on, rfl, -, hgn, hcn⟩ := QeB hn (by omega)
  refine enter 49 [(0, .agg (ints .u8 (key))), (1, .slice (some ⟨gn, on, none⟩) nonce.length c_n)] Tryd.func139 rfl rfl kj rfl ?_
  refine wp_seq_k fun K2 hK2 => ?_
  refine Qab ?_
  refine Qaq (ints .u8 (key)) 23 2 rfl kj kj fun g3 W1 l3 e1 r3_1 => ?_
  have x1 : Ext w W1 := Ext.tr (Rely.Ext.refl w) e1
  have b3 : w.heap.size ≤ g3 := Nat.le_trans (Rely.Ext.refl w).size l3
  refine Qaq (ints .u32 ([0, 0, 0, 0, 0, 0, 0, 0, 0, 0, 0, 0, 0, 0, 0, 0])) 199 4 rfl kj kj fun g4 W2 l4 e2 r4_2 => ?_
  have x2 : Ext w W2 := Ext.tr x1 e2
  have b4 : w.heap.size ≤ g4 := Nat.le_trans x1.size l4
  refine Qac ?_
  refine hK2 _ _ ?_
  refine wp_seq_k fun K5 hK5 => ?_
  refine Qab ?_
  refine Qaq (ints .u32 ([0, 0, 0, 0, 0, 0, 0, 0, 0, 0, 0, 0, 0, 0, 0, 0])) 199 5 rfl kj kj fun g6 W3 l6 e3 r6_3 => ?_
  have x3 : Ext w W3 := Ext.tr x2 e3
  have b6 : w.heap.size ≤ g6 := Nat.le_trans x2.size l6
  refine Qac ?_
  refine hK5 _ _ ?_
  refine wp_seq_k fun K7 hK7 => ?_
  refine wp_seq_k fun K8 hK8 => ?_
  refine Qab ?_
  have r1_1 := (Qad hh e1)
  have r1_2 := (Qad r1_1 e2)
  have r1_3 := (Qad r1_2 e3)
  refine Qaa (.agg (ints .u32 ([1634760805, 857760878, 2036477234, 1797285236]))) 10 rfl kj (Qas 214 _ 2 th _ _ r1_3 rfl kj kj (isz (n := 4) kj kj)) ?_
  refine Qaa (.int .i64 0) 11 rfl kj kj ?_
  refine Qac ?_
  refine hK8 _ _ ?_
  refine wp_block ?_
  refine wp_loop_rounds 5 ?_
  show Code.wp _ _ (Exit.then (Code.rounds _ _ _ 4) _) _ _
  refine wp_seq_k fun K9 hK9 => ?_
  refine Qab ?_
  refine Qaa (.bool true) 12 rfl kj kj ?_
  refine Qac ?_
  refine hK9 _ _ ?_
  refine wp_seq_k fun K10 hK10 => ?_
  refine cond_true kj ?_
  refine wp_skip ?_
  refine hK10 _ _ ?_
  refine wp_seq_k fun K11 hK11 => ?_
  refine wp_block ?_
  refine wp_seq_k fun K12 hK12 => ?_
  refine Qab ?_
  refine Qaa (.int .i64 0) 13 rfl kj kj ?_
  refine Qaa (.int .u32 1634760805) 14 rfl kj (Qau 214 _ _ .i64 .u32 ([1634760805, 857760878, 2036477234, 1797285236]) 0 4 162 1634760805 rfl kj kj kj kj kj rfl (by decide) rfl) ?_
  refine Qaa (.int .i64 0) 6 rfl kj kj ?_
  refine Qaa (.int .u32 1634760805) 7 rfl kj kj ?_
  refine Qac ?_
  refine hK12 _ _ ?_
  refine Qab ?_
  refine Qaa (.int .i64 0) 15 rfl kj kj ?_
  refine Qaa (.int .u32 1634760805) 16 rfl kj kj ?_
  refine Qaa (.pointer (some ⟨g6, 0, none⟩)) 17 rfl kj kj ?_
  refine Qah g6 _ (ints .u32 ([1634760805, 0, 0, 0, 0, 0, 0, 0, 0, 0, 0, 0, 0, 0, 0, 0])) 199 r6_3 rfl kj (Qai 162 _ _ g6 0 199 _ _ r6_3 rfl kj kj kj (show 0 < 16 by decide)) fun W4 p4 r6_4 => ?_
  have x4 : Ext w W4 := Puts.ext p4 x3 b6
  refine Qac ?_
  refine hK11 _ _ ?_
  refine Qab ?_
  refine Qaa (.int .i64 1) 18 rfl kj kj ?_
  refine Qaa (.int .i64 1) 11 rfl kj kj ?_
  refine Qac ?_
  show Code.rounds _ _ _ 4 _ _
  show Code.wp _ _ (Exit.then (Code.rounds _ _ _ 3) _) _ _
  refine wp_seq_k fun K13 hK13 => ?_
  refine Qab ?_
  refine Qaa (.bool true) 12 rfl kj kj ?_
  refine Qac ?_
  refine hK13 _ _ ?_
  refine wp_seq_k fun K14 hK14 => ?_
  refine cond_true kj ?_
  refine wp_skip ?_
  refine hK14 _ _ ?_
  refine wp_seq_k fun K15 hK15 => ?_
  refine wp_block ?_
  refine wp_seq_k fun K16 hK16 => ?_
  refine Qab ?_
  refine Qaa (.int .i64 1) 13 rfl kj kj ?_
  refine Qaa (.int .u32 857760878) 14 rfl kj (Qau 214 _ _ .i64 .u32 ([1634760805, 857760878, 2036477234, 1797285236]) 1 4 162 857760878 rfl kj kj kj kj kj rfl (by decide) rfl) ?_
  refine Qaa (.int .i64 1) 6 rfl kj kj ?_
  refine Qaa (.int .u32 857760878) 7 rfl kj kj ?_
  refine Qac ?_
  refine hK16 _ _ ?_
  refine Qab ?_
  refine Qaa (.int .i64 1) 15 rfl kj kj ?_
  refine Qaa (.int .u32 857760878) 16 rfl kj kj ?_
  refine Qaa (.pointer (some ⟨g6, 1, none⟩)) 17 rfl kj kj ?_
  refine Qah g6 _ (ints .u32 ([1634760805, 857760878, 0, 0, 0, 0, 0, 0, 0, 0, 0, 0, 0, 0, 0, 0])) 199 r6_4 rfl kj (Qai 162 _ _ g6 1 199 _ _ r6_4 rfl kj kj kj (show 1 < 16 by decide)) fun W5 p5 r6_5 => ?_
  have x5 : Ext w W5 := Puts.ext p5 x4 b6
  refine Qac ?_
  refine hK15 _ _ ?_
  refine Qab ?_
  refine Qaa (.int .i64 2) 18 rfl kj kj ?_
  refine Qaa (.int .i64 2) 11 rfl kj kj ?_
  refine Qac ?_
  show Code.rounds _ _ _ 3 _ _
  show Code.wp _ _ (Exit.then (Code.rounds _ _ _ 2) _) _ _
  refine wp_seq_k fun K17 hK17 => ?_
  refine Qab ?_
  refine Qaa (.bool true) 12 rfl kj kj ?_
  refine Qac ?_
  refine hK17 _ _ ?_
  refine wp_seq_k fun K18 hK18 => ?_
  refine cond_true kj ?_
  refine wp_skip ?_
  refine hK18 _ _ ?_
  refine wp_seq_k fun K19 hK19 => ?_
  refine wp_block ?_
  refine wp_seq_k fun K20 hK20 => ?_
  refine Qab ?_
  refine Qaa (.int .i64 2) 13 rfl kj kj ?_
  refine Qaa (.int .u32 2036477234) 14 rfl kj (Qau 214 _ _ .i64 .u32 ([1634760805, 857760878, 2036477234, 1797285236]) 2 4 162 2036477234 rfl kj kj kj kj kj rfl (by decide) rfl) ?_
  refine Qaa (.int .i64 2) 6 rfl kj kj ?_
  refine Qaa (.int .u32 2036477234) 7 rfl kj kj ?_
  refine Qac ?_
  refine hK20 _ _ ?_
  refine Qab ?_
  refine Qaa (.int .i64 2) 15 rfl kj kj ?_
  refine Qaa (.int .u32 2036477234) 16 rfl kj kj ?_
  refine Qaa (.pointer (some ⟨g6, 2, none⟩)) 17 rfl kj kj ?_
  refine Qah g6 _ (ints .u32 ([1634760805, 857760878, 2036477234, 0, 0, 0, 0, 0, 0, 0, 0, 0, 0, 0, 0, 0])) 199 r6_5 rfl kj (Qai 162 _ _ g6 2 199 _ _ r6_5 rfl kj kj kj (show 2 < 16 by decide)) fun W6 p6 r6_6 => ?_
  have x6 : Ext w W6 := Puts.ext p6 x5 b6
  refine Qac ?_
  refine hK19 _ _ ?_
  refine Qab ?_
  refine Qaa (.int .i64 3) 18 rfl kj kj ?_
  refine Qaa (.int .i64 3) 11 rfl kj kj ?_
  refine Qac ?_
  show Code.rounds _ _ _ 2 _ _
  show Code.wp _ _ (Exit.then (Code.rounds _ _ _ 1) _) _ _
  refine wp_seq_k fun K21 hK21 => ?_
  refine Qab ?_
  refine Qaa (.bool true) 12 rfl kj kj ?_
  refine Qac ?_
  refine hK21 _ _ ?_
  refine wp_seq_k fun K22 hK22 => ?_
  refine cond_true kj ?_
  refine wp_skip ?_
  refine hK22 _ _ ?_
  refine wp_seq_k fun K23 hK23 => ?_
  refine wp_block ?_
  refine wp_seq_k fun K24 hK24 => ?_
  refine Qab ?_
  refine Qaa (.int .i64 3) 13 rfl kj kj ?_
  refine Qaa (.int .u32 1797285236) 14 rfl kj (Qau 214 _ _ .i64 .u32 ([1634760805, 857760878, 2036477234, 1797285236]) 3 4 162 1797285236 rfl kj kj kj kj kj rfl (by decide) rfl) ?_
  refine Qaa (.int .i64 3) 6 rfl kj kj ?_
  refine Qaa (.int .u32 1797285236) 7 rfl kj kj ?_
  refine Qac ?_
  refine hK24 _ _ ?_
  refine Qab ?_
  refine Qaa (.int .i64 3) 15 rfl kj kj ?_
  refine Qaa (.int .u32 1797285236) 16 rfl kj kj ?_
  refine Qaa (.pointer (some ⟨g6, 3, none⟩)) 17 rfl kj kj ?_
  refine Qah g6 _ (ints .u32 ([1634760805, 857760878, 2036477234, 1797285236, 0, 0, 0, 0, 0, 0, 0, 0, 0, 0, 0, 0])) 199 r6_6 rfl kj (Qai 162 _ _ g6 3 199 _ _ r6_6 rfl kj kj kj (show 3 < 16 by decide)) fun W7 p7 r6_7 => ?_
  have x7 : Ext w W7 := Puts.ext p7 x6 b6
  refine Qac ?_
  refine hK23 _ _ ?_
  refine Qab ?_
  refine Qaa (.int .i64 4) 18 rfl kj kj ?_
  refine Qaa (.int .i64 4) 11 rfl kj kj ?_
  refine Qac ?_
  show Code.rounds _ _ _ 1 _ _
  show Code.wp _ _ (Exit.then (Code.rounds _ _ _ 0) _) _ _
  refine wp_seq_k fun K25 hK25 => ?_
  refine Qab ?_
  refine Qaa (.bool false) 12 rfl kj kj ?_
  refine Qac ?_
  refine hK25 _ _ ?_
  refine wp_seq_k fun K26 hK26 => ?_
  refine cond_false kj ?_
  refine wp_exit ?_
  refine hK7 _ _ ?_
  refine wp_seq_k fun K27 hK27 => ?_
  refine wp_seq_k fun K28 hK28 => ?_
  refine Qab ?_
  refine Qaa (.int .i64 0) 19 rfl kj kj ?_
  refine Qac ?_
  refine hK28 _ _ ?_
  refine wp_block ?_
  refine wp_loop_rounds 9 ?_
  show Code.wp _ _ (Exit.then (Code.rounds _ _ _ 8) _) _ _
  refine wp_seq_k fun K29 hK29 => ?_
  refine Qab ?_
  refine Qaa (.bool true) 20 rfl kj kj ?_
  refine Qac ?_
  refine hK29 _ _ ?_
  refine wp_seq_k fun K30 hK30 => ?_
  refine cond_true kj ?_
  refine wp_skip ?_
  refine hK30 _ _ ?_
  refine wp_seq_k fun K31 hK31 => ?_
  refine wp_block ?_
  refine wp_seq_k fun K32 hK32 => ?_
  refine Qab ?_
  refine Qaa (.int .i64 0) 21 rfl kj kj ?_
  refine Qaa (.int .i64 0) 8 rfl kj kj ?_
  refine Qac ?_
  refine hK32 _ _ ?_
  refine Qab ?_
  refine Qaa (.int .i64 0) 22 rfl kj kj ?_
  refine Qaa (.int .i64 4) 23 rfl kj kj ?_
  refine Qaa (.int .i64 0) 24 rfl kj kj ?_
  refine Qaa (.int .i64 0) 25 rfl kj kj ?_
  refine Qaa (.int .i64 0) 26 rfl kj kj ?_
  refine Qaa (.int .i64 0) 27 rfl kj kj ?_
  refine Qaa (.int .i64 4) 28 rfl kj kj ?_
  refine Qaa (.slice (some ⟨g3, 0 + 0, none⟩) (4 - 0) (32 - 0)) 29 rfl kj (Qbe 23 _ _ _ 0 4 32 g3 0 5 rfl kj kj kj ⟨.i64, by kernel_rfl⟩ ⟨.i64, by kernel_rfl⟩ (by omega) (by omega) (by omega)) ?_
  have r3_2 := (Qad r3_1 e2)
  have r3_3 := (Qad r3_2 e3)
  have r3_4 := (Puts.row p4 r3_3 (Qae r3_2 l6))
  have r3_5 := (Puts.row p5 r3_4 (Qae r3_2 l6))
  have r3_6 := (Puts.row p6 r3_5 (Qae r3_2 l6))
  have r3_7 := (Puts.row p7 r3_6 (Qae r3_2 l6))
  refine Qax (.int .u32 (wv (le4 (sub4 key 0)))) 155 #[.slice (some ⟨g3, 0 + 0, none⟩) (4 - 0) (32 - 0)] 30 rfl kj kj ((Qei (sub4 key 0) _ _ _ (Qcm (xs := key) (by rw [hkl]; exact Qbp (xs := key) (n := 32) hkl r3_7 (Qa8 r3_7) (by decide)) 0 (by omega)) (QbH _ _ (by omega)))) fun W8 e8 => ?_
  have x8 : Ext w W8 := Ext.tr x7 e8
  refine Qaa (.pointer (some ⟨g6, 4, none⟩)) 31 rfl kj kj ?_
  have r6_8 := (Qad r6_7 e8)
  refine Qah g6 _ (ints .u32 ([1634760805, 857760878, 2036477234, 1797285236, (wv (le4 (sub4 key 0))), 0, 0, 0, 0, 0, 0, 0, 0, 0, 0, 0])) 199 r6_8 rfl kj (Qai 162 _ _ g6 4 199 _ _ r6_8 rfl kj kj kj (show 4 < 16 by decide)) fun W9 p9 r6_9 => ?_
  have x9 : Ext w W9 := Puts.ext p9 x8 b6
  refine Qac ?_
  refine hK31 _ _ ?_
  refine Qab ?_
  refine Qaa (.int .i64 1) 32 rfl kj kj ?_
  refine Qaa (.int .i64 1) 19 rfl kj kj ?_
  refine Qac ?_
  show Code.rounds _ _ _ 8 _ _
  show Code.wp _ _ (Exit.then (Code.rounds _ _ _ 7) _) _ _
  refine wp_seq_k fun K33 hK33 => ?_
  refine Qab ?_
  refine Qaa (.bool true) 20 rfl kj kj ?_
  refine Qac ?_
  refine hK33 _ _ ?_
  refine wp_seq_k fun K34 hK34 => ?_
  refine cond_true kj ?_
  refine wp_skip ?_
  refine hK34 _ _ ?_
  refine wp_seq_k fun K35 hK35 => ?_
  refine wp_block ?_
  refine wp_seq_k fun K36 hK36 => ?_
  refine Qab ?_
  refine Qaa (.int .i64 1) 21 rfl kj kj ?_
  refine Qaa (.int .i64 1) 8 rfl kj kj ?_
  refine Qac ?_
  refine hK36 _ _ ?_
  refine Qab ?_
  refine Qaa (.int .i64 1) 22 rfl kj kj ?_
  refine Qaa (.int .i64 5) 23 rfl kj kj ?_
  refine Qaa (.int .i64 1) 24 rfl kj kj ?_
  refine Qaa (.int .i64 4) 25 rfl kj kj ?_
  refine Qaa (.int .i64 1) 26 rfl kj kj ?_
  refine Qaa (.int .i64 4) 27 rfl kj kj ?_
  refine Qaa (.int .i64 8) 28 rfl kj kj ?_
  refine Qaa (.slice (some ⟨g3, 0 + 4, none⟩) (8 - 4) (32 - 4)) 29 rfl kj (Qbe 23 _ _ _ 4 8 32 g3 0 5 rfl kj kj kj ⟨.i64, by kernel_rfl⟩ ⟨.i64, by kernel_rfl⟩ (by omega) (by omega) (by omega)) ?_
  have r3_8 := (Qad r3_7 e8)
  have r3_9 := (Puts.row p9 r3_8 (Qae r3_2 l6))
  refine Qax (.int .u32 (wv (le4 (sub4 key 1)))) 155 #[.slice (some ⟨g3, 0 + 4, none⟩) (8 - 4) (32 - 4)] 30 rfl kj kj ((Qei (sub4 key 1) _ _ _ (Qcm (xs := key) (by rw [hkl]; exact Qbp (xs := key) (n := 32) hkl r3_9 (Qa8 r3_9) (by decide)) 1 (by omega)) (QbH _ _ (by omega)))) fun W10 e10 => ?_
  have x10 : Ext w W10 := Ext.tr x9 e10
  refine Qaa (.pointer (some ⟨g6, 5, none⟩)) 31 rfl kj kj ?_
  have r6_10 := (Qad r6_9 e10)
  refine Qah g6 _ (ints .u32 ([1634760805, 857760878, 2036477234, 1797285236, (wv (le4 (sub4 key 0))), (wv (le4 (sub4 key 1))), 0, 0, 0, 0, 0, 0, 0, 0, 0, 0])) 199 r6_10 rfl kj (Qai 162 _ _ g6 5 199 _ _ r6_10 rfl kj kj kj (show 5 < 16 by decide)) fun W11 p11 r6_11 => ?_
  have x11 : Ext w W11 := Puts.ext p11 x10 b6
  refine Qac ?_
  refine hK35 _ _ ?_
  refine Qab ?_
  refine Qaa (.int .i64 2) 32 rfl kj kj ?_
  refine Qaa (.int .i64 2) 19 rfl kj kj ?_
  refine Qac ?_
  show Code.rounds _ _ _ 7 _ _
  show Code.wp _ _ (Exit.then (Code.rounds _ _ _ 6) _) _ _
  refine wp_seq_k fun K37 hK37 => ?_
  refine Qab ?_
  refine Qaa (.bool true) 20 rfl kj kj ?_
  refine Qac ?_
  refine hK37 _ _ ?_
  refine wp_seq_k fun K38 hK38 => ?_
  refine cond_true kj ?_
  refine wp_skip ?_
  refine hK38 _ _ ?_
  refine wp_seq_k fun K39 hK39 => ?_
  refine wp_block ?_
  refine wp_seq_k fun K40 hK40 => ?_
  refine Qab ?_
  refine Qaa (.int .i64 2) 21 rfl kj kj ?_
  refine Qaa (.int .i64 2) 8 rfl kj kj ?_
  refine Qac ?_
  refine hK40 _ _ ?_
  refine Qab ?_
  refine Qaa (.int .i64 2) 22 rfl kj kj ?_
  refine Qaa (.int .i64 6) 23 rfl kj kj ?_
  refine Qaa (.int .i64 2) 24 rfl kj kj ?_
  refine Qaa (.int .i64 8) 25 rfl kj kj ?_
  refine Qaa (.int .i64 2) 26 rfl kj kj ?_
  refine Qaa (.int .i64 8) 27 rfl kj kj ?_
  refine Qaa (.int .i64 12) 28 rfl kj kj ?_
  refine Qaa (.slice (some ⟨g3, 0 + 8, none⟩) (12 - 8) (32 - 8)) 29 rfl kj (Qbe 23 _ _ _ 8 12 32 g3 0 5 rfl kj kj kj ⟨.i64, by kernel_rfl⟩ ⟨.i64, by kernel_rfl⟩ (by omega) (by omega) (by omega)) ?_
  have r3_10 := (Qad r3_9 e10)
  have r3_11 := (Puts.row p11 r3_10 (Qae r3_2 l6))
  refine Qax (.int .u32 (wv (le4 (sub4 key 2)))) 155 #[.slice (some ⟨g3, 0 + 8, none⟩) (12 - 8) (32 - 8)] 30 rfl kj kj ((Qei (sub4 key 2) _ _ _ (Qcm (xs := key) (by rw [hkl]; exact Qbp (xs := key) (n := 32) hkl r3_11 (Qa8 r3_11) (by decide)) 2 (by omega)) (QbH _ _ (by omega)))) fun W12 e12 => ?_
  have x12 : Ext w W12 := Ext.tr x11 e12
  refine Qaa (.pointer (some ⟨g6, 6, none⟩)) 31 rfl kj kj ?_
  have r6_12 := (Qad r6_11 e12)
  refine Qah g6 _ (ints .u32 ([1634760805, 857760878, 2036477234, 1797285236, (wv (le4 (sub4 key 0))), (wv (le4 (sub4 key 1))), (wv (le4 (sub4 key 2))), 0, 0, 0, 0, 0, 0, 0, 0, 0])) 199 r6_12 rfl kj (Qai 162 _ _ g6 6 199 _ _ r6_12 rfl kj kj kj (show 6 < 16 by decide)) fun W13 p13 r6_13 => ?_
  have x13 : Ext w W13 := Puts.ext p13 x12 b6
  refine Qac ?_
  refine hK39 _ _ ?_
  refine Qab ?_
  refine Qaa (.int .i64 3) 32 rfl kj kj ?_
  refine Qaa (.int .i64 3) 19 rfl kj kj ?_
  refine Qac ?_
  show Code.rounds _ _ _ 6 _ _
  show Code.wp _ _ (Exit.then (Code.rounds _ _ _ 5) _) _ _
  refine wp_seq_k fun K41 hK41 => ?_
  refine Qab ?_
  refine Qaa (.bool true) 20 rfl kj kj ?_
  refine Qac ?_
  refine hK41 _ _ ?_
  refine wp_seq_k fun K42 hK42 => ?_
  refine cond_true kj ?_
  refine wp_skip ?_
  refine hK42 _ _ ?_
  refine wp_seq_k fun K43 hK43 => ?_
  refine wp_block ?_
  refine wp_seq_k fun K44 hK44 => ?_
  refine Qab ?_
  refine Qaa (.int .i64 3) 21 rfl kj kj ?_
  refine Qaa (.int .i64 3) 8 rfl kj kj ?_
  refine Qac ?_
  refine hK44 _ _ ?_
  refine Qab ?_
  refine Qaa (.int .i64 3) 22 rfl kj kj ?_
  refine Qaa (.int .i64 7) 23 rfl kj kj ?_
  refine Qaa (.int .i64 3) 24 rfl kj kj ?_
  refine Qaa (.int .i64 12) 25 rfl kj kj ?_
  refine Qaa (.int .i64 3) 26 rfl kj kj ?_
  refine Qaa (.int .i64 12) 27 rfl kj kj ?_
  refine Qaa (.int .i64 16) 28 rfl kj kj ?_
  refine Qaa (.slice (some ⟨g3, 0 + 12, none⟩) (16 - 12) (32 - 12)) 29 rfl kj (Qbe 23 _ _ _ 12 16 32 g3 0 5 rfl kj kj kj ⟨.i64, by kernel_rfl⟩ ⟨.i64, by kernel_rfl⟩ (by omega) (by omega) (by omega)) ?_
  have r3_12 := (Qad r3_11 e12)
  have r3_13 := (Puts.row p13 r3_12 (Qae r3_2 l6))
  refine Qax (.int .u32 (wv (le4 (sub4 key 3)))) 155 #[.slice (some ⟨g3, 0 + 12, none⟩) (16 - 12) (32 - 12)] 30 rfl kj kj ((Qei (sub4 key 3) _ _ _ (Qcm (xs := key) (by rw [hkl]; exact Qbp (xs := key) (n := 32) hkl r3_13 (Qa8 r3_13) (by decide)) 3 (by omega)) (QbH _ _ (by omega)))) fun W14 e14 => ?_
  have x14 : Ext w W14 := Ext.tr x13 e14
  refine Qaa (.pointer (some ⟨g6, 7, none⟩)) 31 rfl kj kj ?_
  have r6_14 := (Qad r6_13 e14)
  refine Qah g6 _ (ints .u32 ([1634760805, 857760878, 2036477234, 1797285236, (wv (le4 (sub4 key 0))), (wv (le4 (sub4 key 1))), (wv (le4 (sub4 key 2))), (wv (le4 (sub4 key 3))), 0, 0, 0, 0, 0, 0, 0, 0])) 199 r6_14 rfl kj (Qai 162 _ _ g6 7 199 _ _ r6_14 rfl kj kj kj (show 7 < 16 by decide)) fun W15 p15 r6_15 => ?_
  have x15 : Ext w W15 := Puts.ext p15 x14 b6
  refine Qac ?_
  refine hK43 _ _ ?_
  refine Qab ?_
  refine Qaa (.int .i64 4) 32 rfl kj kj ?_
  refine Qaa (.int .i64 4) 19 rfl kj kj ?_
  refine Qac ?_
  show Code.rounds _ _ _ 5 _ _
  show Code.wp _ _ (Exit.then (Code.rounds _ _ _ 4) _) _ _
  refine wp_seq_k fun K45 hK45 => ?_
  refine Qab ?_
  refine Qaa (.bool true) 20 rfl kj kj ?_
  refine Qac ?_
  refine hK45 _ _ ?_
  refine wp_seq_k fun K46 hK46 => ?_
  refine cond_true kj ?_
  refine wp_skip ?_
  refine hK46 _ _ ?_
  refine wp_seq_k fun K47 hK47 => ?_
  refine wp_block ?_
  refine wp_seq_k fun K48 hK48 => ?_
  refine Qab ?_
  refine Qaa (.int .i64 4) 21 rfl kj kj ?_
  refine Qaa (.int .i64 4) 8 rfl kj kj ?_
  refine Qac ?_
  refine hK48 _ _ ?_
  refine Qab ?_
  refine Qaa (.int .i64 4) 22 rfl kj kj ?_
  refine Qaa (.int .i64 8) 23 rfl kj kj ?_
  refine Qaa (.int .i64 4) 24 rfl kj kj ?_
  refine Qaa (.int .i64 16) 25 rfl kj kj ?_
  refine Qaa (.int .i64 4) 26 rfl kj kj ?_
  refine Qaa (.int .i64 16) 27 rfl kj kj ?_
  refine Qaa (.int .i64 20) 28 rfl kj kj ?_
  refine Qaa (.slice (some ⟨g3, 0 + 16, none⟩) (20 - 16) (32 - 16)) 29 rfl kj (Qbe 23 _ _ _ 16 20 32 g3 0 5 rfl kj kj kj ⟨.i64, by kernel_rfl⟩ ⟨.i64, by kernel_rfl⟩ (by omega) (by omega) (by omega)) ?_
  have r3_14 := (Qad r3_13 e14)
  have r3_15 := (Puts.row p15 r3_14 (Qae r3_2 l6))
  refine Qax (.int .u32 (wv (le4 (sub4 key 4)))) 155 #[.slice (some ⟨g3, 0 + 16, none⟩) (20 - 16) (32 - 16)] 30 rfl kj kj ((Qei (sub4 key 4) _ _ _ (Qcm (xs := key) (by rw [hkl]; exact Qbp (xs := key) (n := 32) hkl r3_15 (Qa8 r3_15) (by decide)) 4 (by omega)) (QbH _ _ (by omega)))) fun W16 e16 => ?_
  have x16 : Ext w W16 := Ext.tr x15 e16
  refine Qaa (.pointer (some ⟨g6, 8, none⟩)) 31 rfl kj kj ?_
  have r6_16 := (Qad r6_15 e16)
  refine Qah g6 _ (ints .u32 ([1634760805, 857760878, 2036477234, 1797285236, (wv (le4 (sub4 key 0))), (wv (le4 (sub4 key 1))), (wv (le4 (sub4 key 2))), (wv (le4 (sub4 key 3))), (wv (le4 (sub4 key 4))), 0, 0, 0, 0, 0, 0, 0])) 199 r6_16 rfl kj (Qai 162 _ _ g6 8 199 _ _ r6_16 rfl kj kj kj (show 8 < 16 by decide)) fun W17 p17 r6_17 => ?_
  have x17 : Ext w W17 := Puts.ext p17 x16 b6
  refine Qac ?_
  refine hK47 _ _ ?_
  refine Qab ?_
  refine Qaa (.int .i64 5) 32 rfl kj kj ?_
  refine Qaa (.int .i64 5) 19 rfl kj kj ?_
  refine Qac ?_
  show Code.rounds _ _ _ 4 _ _
  show Code.wp _ _ (Exit.then (Code.rounds _ _ _ 3) _) _ _
  refine wp_seq_k fun K49 hK49 => ?_
  refine Qab ?_
  refine Qaa (.bool true) 20 rfl kj kj ?_
  refine Qac ?_
  refine hK49 _ _ ?_
  refine wp_seq_k fun K50 hK50 => ?_
  refine cond_true kj ?_
  refine wp_skip ?_
  refine hK50 _ _ ?_
  refine wp_seq_k fun K51 hK51 => ?_
  refine wp_block ?_
  refine wp_seq_k fun K52 hK52 => ?_
  refine Qab ?_
  refine Qaa (.int .i64 5) 21 rfl kj kj ?_
  refine Qaa (.int .i64 5) 8 rfl kj kj ?_
  refine Qac ?_
  refine hK52 _ _ ?_
  refine Qab ?_
  refine Qaa (.int .i64 5) 22 rfl kj kj ?_
  refine Qaa (.int .i64 9) 23 rfl kj kj ?_
  refine Qaa (.int .i64 5) 24 rfl kj kj ?_
  refine Qaa (.int .i64 20) 25 rfl kj kj ?_
  refine Qaa (.int .i64 5) 26 rfl kj kj ?_
  refine Qaa (.int .i64 20) 27 rfl kj kj ?_
  refine Qaa (.int .i64 24) 28 rfl kj kj ?_
  refine Qaa (.slice (some ⟨g3, 0 + 20, none⟩) (24 - 20) (32 - 20)) 29 rfl kj (Qbe 23 _ _ _ 20 24 32 g3 0 5 rfl kj kj kj ⟨.i64, by kernel_rfl⟩ ⟨.i64, by kernel_rfl⟩ (by omega) (by omega) (by omega)) ?_
  have r3_16 := (Qad r3_15 e16)
  have r3_17 := (Puts.row p17 r3_16 (Qae r3_2 l6))
  refine Qax (.int .u32 (wv (le4 (sub4 key 5)))) 155 #[.slice (some ⟨g3, 0 + 20, none⟩) (24 - 20) (32 - 20)] 30 rfl kj kj ((Qei (sub4 key 5) _ _ _ (Qcm (xs := key) (by rw [hkl]; exact Qbp (xs := key) (n := 32) hkl r3_17 (Qa8 r3_17) (by decide)) 5 (by omega)) (QbH _ _ (by omega)))) fun W18 e18 => ?_
  have x18 : Ext w W18 := Ext.tr x17 e18
  refine Qaa (.pointer (some ⟨g6, 9, none⟩)) 31 rfl kj kj ?_
  have r6_18 := (Qad r6_17 e18)
  refine Qah g6 _ (ints .u32 ([1634760805, 857760878, 2036477234, 1797285236, (wv (le4 (sub4 key 0))), (wv (le4 (sub4 key 1))), (wv (le4 (sub4 key 2))), (wv (le4 (sub4 key 3))), (wv (le4 (sub4 key 4))), (wv (le4 (sub4 key 5))), 0, 0, 0, 0, 0, 0])) 199 r6_18 rfl kj (Qai 162 _ _ g6 9 199 _ _ r6_18 rfl kj kj kj (show 9 < 16 by decide)) fun W19 p19 r6_19 => ?_
  have x19 : Ext w W19 := Puts.ext p19 x18 b6
  refine Qac ?_
  refine hK51 _ _ ?_
  refine Qab ?_
  refine Qaa (.int .i64 6) 32 rfl kj kj ?_
  refine Qaa (.int .i64 6) 19 rfl kj kj ?_
  refine Qac ?_
  show Code.rounds _ _ _ 3 _ _
  show Code.wp _ _ (Exit.then (Code.rounds _ _ _ 2) _) _ _
  refine wp_seq_k fun K53 hK53 => ?_
  refine Qab ?_
  refine Qaa (.bool true) 20 rfl kj kj ?_
  refine Qac ?_
  refine hK53 _ _ ?_
  refine wp_seq_k fun K54 hK54 => ?_
  refine cond_true kj ?_
  refine wp_skip ?_
  refine hK54 _ _ ?_
  refine wp_seq_k fun K55 hK55 => ?_
  refine wp_block ?_
  refine wp_seq_k fun K56 hK56 => ?_
  refine Qab ?_
  refine Qaa (.int .i64 6) 21 rfl kj kj ?_
  refine Qaa (.int .i64 6) 8 rfl kj kj ?_
  refine Qac ?_
  refine hK56 _ _ ?_
  refine Qab ?_
  refine Qaa (.int .i64 6) 22 rfl kj kj ?_
  refine Qaa (.int .i64 10) 23 rfl kj kj ?_
  refine Qaa (.int .i64 6) 24 rfl kj kj ?_
  refine Qaa (.int .i64 24) 25 rfl kj kj ?_
  refine Qaa (.int .i64 6) 26 rfl kj kj ?_
  refine Qaa (.int .i64 24) 27 rfl kj kj ?_
  refine Qaa (.int .i64 28) 28 rfl kj kj ?_
  refine Qaa (.slice (some ⟨g3, 0 + 24, none⟩) (28 - 24) (32 - 24)) 29 rfl kj (Qbe 23 _ _ _ 24 28 32 g3 0 5 rfl kj kj kj ⟨.i64, by kernel_rfl⟩ ⟨.i64, by kernel_rfl⟩ (by omega) (by omega) (by omega)) ?_
  have r3_18 := (Qad r3_17 e18)
  have r3_19 := (Puts.row p19 r3_18 (Qae r3_2 l6))
  refine Qax (.int .u32 (wv (le4 (sub4 key 6)))) 155 #[.slice (some ⟨g3, 0 + 24, none⟩) (28 - 24) (32 - 24)] 30 rfl kj kj ((Qei (sub4 key 6) _ _ _ (Qcm (xs := key) (by rw [hkl]; exact Qbp (xs := key) (n := 32) hkl r3_19 (Qa8 r3_19) (by decide)) 6 (by omega)) (QbH _ _ (by omega)))) fun W20 e20 => ?_
  have x20 : Ext w W20 := Ext.tr x19 e20
  refine Qaa (.pointer (some ⟨g6, 10, none⟩)) 31 rfl kj kj ?_
  have r6_20 := (Qad r6_19 e20)
  refine Qah g6 _ (ints .u32 ([1634760805, 857760878, 2036477234, 1797285236, (wv (le4 (sub4 key 0))), (wv (le4 (sub4 key 1))), (wv (le4 (sub4 key 2))), (wv (le4 (sub4 key 3))), (wv (le4 (sub4 key 4))), (wv (le4 (sub4 key 5))), (wv (le4 (sub4 key 6))), 0, 0, 0, 0, 0])) 199 r6_20 rfl kj (Qai 162 _ _ g6 10 199 _ _ r6_20 rfl kj kj kj (show 10 < 16 by decide)) fun W21 p21 r6_21 => ?_
  have x21 : Ext w W21 := Puts.ext p21 x20 b6
  refine Qac ?_
  refine hK55 _ _ ?_
  refine Qab ?_
  refine Qaa (.int .i64 7) 32 rfl kj kj ?_
  refine Qaa (.int .i64 7) 19 rfl kj kj ?_
  refine Qac ?_
  show Code.rounds _ _ _ 2 _ _
  show Code.wp _ _ (Exit.then (Code.rounds _ _ _ 1) _) _ _
  refine wp_seq_k fun K57 hK57 => ?_
  refine Qab ?_
  refine Qaa (.bool true) 20 rfl kj kj ?_
  refine Qac ?_
  refine hK57 _ _ ?_
  refine wp_seq_k fun K58 hK58 => ?_
  refine cond_true kj ?_
  refine wp_skip ?_
  refine hK58 _ _ ?_
  refine wp_seq_k fun K59 hK59 => ?_
  refine wp_block ?_
  refine wp_seq_k fun K60 hK60 => ?_
  refine Qab ?_
  refine Qaa (.int .i64 7) 21 rfl kj kj ?_
  refine Qaa (.int .i64 7) 8 rfl kj kj ?_
  refine Qac ?_
  refine hK60 _ _ ?_
  refine Qab ?_
  refine Qaa (.int .i64 7) 22 rfl kj kj ?_
  refine Qaa (.int .i64 11) 23 rfl kj kj ?_
  refine Qaa (.int .i64 7) 24 rfl kj kj ?_
  refine Qaa (.int .i64 28) 25 rfl kj kj ?_
  refine Qaa (.int .i64 7) 26 rfl kj kj ?_
  refine Qaa (.int .i64 28) 27 rfl kj kj ?_
  refine Qaa (.int .i64 32) 28 rfl kj kj ?_
  refine Qaa (.slice (some ⟨g3, 0 + 28, none⟩) (32 - 28) (32 - 28)) 29 rfl kj (Qbe 23 _ _ _ 28 32 32 g3 0 5 rfl kj kj kj ⟨.i64, by kernel_rfl⟩ ⟨.i64, by kernel_rfl⟩ (by omega) (by omega) (by omega)) ?_
  have r3_20 := (Qad r3_19 e20)
  have r3_21 := (Puts.row p21 r3_20 (Qae r3_2 l6))
  refine Qax (.int .u32 (wv (le4 (sub4 key 7)))) 155 #[.slice (some ⟨g3, 0 + 28, none⟩) (32 - 28) (32 - 28)] 30 rfl kj kj ((Qei (sub4 key 7) _ _ _ (Qcm (xs := key) (by rw [hkl]; exact Qbp (xs := key) (n := 32) hkl r3_21 (Qa8 r3_21) (by decide)) 7 (by omega)) (QbH _ _ (by omega)))) fun W22 e22 => ?_
  have x22 : Ext w W22 := Ext.tr x21 e22
  refine Qaa (.pointer (some ⟨g6, 11, none⟩)) 31 rfl kj kj ?_
  have r6_22 := (Qad r6_21 e22)
  refine Qah g6 _ (ints .u32 ([1634760805, 857760878, 2036477234, 1797285236, (wv (le4 (sub4 key 0))), (wv (le4 (sub4 key 1))), (wv (le4 (sub4 key 2))), (wv (le4 (sub4 key 3))), (wv (le4 (sub4 key 4))), (wv (le4 (sub4 key 5))), (wv (le4 (sub4 key 6))), (wv (le4 (sub4 key 7))), 0, 0, 0, 0])) 199 r6_22 rfl kj (Qai 162 _ _ g6 11 199 _ _ r6_22 rfl kj kj kj (show 11 < 16 by decide)) fun W23 p23 r6_23 => ?_
  have x23 : Ext w W23 := Puts.ext p23 x22 b6
  refine Qac ?_
  refine hK59 _ _ ?_
  refine Qab ?_
  refine Qaa (.int .i64 8) 32 rfl kj kj ?_
  refine Qaa (.int .i64 8) 19 rfl kj kj ?_
  refine Qac ?_
  show Code.rounds _ _ _ 1 _ _
  show Code.wp _ _ (Exit.then (Code.rounds _ _ _ 0) _) _ _
  refine wp_seq_k fun K61 hK61 => ?_
  refine Qab ?_
  refine Qaa (.bool false) 20 rfl kj kj ?_
  refine Qac ?_
  refine hK61 _ _ ?_
  refine wp_seq_k fun K62 hK62 => ?_
  refine cond_false kj ?_
  refine wp_exit ?_
  refine hK27 _ _ ?_
  refine wp_seq_k fun K63 hK63 => ?_
  refine wp_seq_k fun K64 hK64 => ?_
  refine Qab ?_
  refine Qaa (.int .i64 0) 33 rfl kj kj ?_
  refine Qac ?_
  refine hK64 _ _ ?_
  refine wp_block ?_
  refine wp_loop_rounds 4 ?_
  show Code.wp _ _ (Exit.then (Code.rounds _ _ _ 3) _) _ _
  refine wp_seq_k fun K65 hK65 => ?_
  refine Qab ?_
  refine Qaa (.bool true) 34 rfl kj kj ?_
  refine Qac ?_
  refine hK65 _ _ ?_
  refine wp_seq_k fun K66 hK66 => ?_
  refine cond_true kj ?_
  refine wp_skip ?_
  refine hK66 _ _ ?_
  refine wp_seq_k fun K67 hK67 => ?_
  refine wp_block ?_
  refine wp_seq_k fun K68 hK68 => ?_
  refine Qab ?_
  refine Qaa (.int .i64 0) 35 rfl kj kj ?_
  refine Qaa (.int .i64 0) 9 rfl kj kj ?_
  refine Qac ?_
  refine hK68 _ _ ?_
  refine Qab ?_
  refine Qaa (.int .i64 0) 36 rfl kj kj ?_
  refine Qaa (.int .i64 13) 37 rfl kj kj ?_
  refine Qaa (.slice (some ⟨gn, on, none⟩) nonce.length c_n) 38 rfl kj kj ?_
  refine Qaa (.int .i64 0) 39 rfl kj kj ?_
  refine Qaa (.int .i64 0) 40 rfl kj kj ?_
  refine Qaa (.int .i64 0) 41 rfl kj kj ?_
  refine Qaa (.int .i64 0) 42 rfl kj kj ?_
  refine Qaa (.int .i64 4) 43 rfl kj kj ?_
  refine Qaa (.slice (some ⟨gn, on + 0, none⟩) (4 - 0) (c_n - 0)) 44 rfl kj (Qd9 33 _ _ _ 0 4 gn on nonce.length c_n 5 rfl kj kj kj kj kj (by decide) (by omega) (by omega)) ?_
  refine Qax (.int .u32 (wv (le4 (sub4 nonce 0)))) 155 #[.slice (some ⟨gn, on + 0, none⟩) (4 - 0) (c_n - 0)] 45 rfl kj kj ((Qei (sub4 nonce 0) _ _ _ (Qcm (xs := nonce) (hn.ext x23) 0 (by omega)) (QbH _ _ (by omega)))) fun W24 e24 => ?_
  have x24 : Ext w W24 := Ext.tr x23 e24
  refine Qaa (.pointer (some ⟨g6, 13, none⟩)) 46 rfl kj kj ?_
  have r6_24 := (Qad r6_23 e24)
  refine Qah g6 _ (ints .u32 ([1634760805, 857760878, 2036477234, 1797285236, (wv (le4 (sub4 key 0))), (wv (le4 (sub4 key 1))), (wv (le4 (sub4 key 2))), (wv (le4 (sub4 key 3))), (wv (le4 (sub4 key 4))), (wv (le4 (sub4 key 5))), (wv (le4 (sub4 key 6))), (wv (le4 (sub4 key 7))), 0, (wv (le4 (sub4 nonce 0))), 0, 0])) 199 r6_24 rfl kj (Qai 162 _ _ g6 13 199 _ _ r6_24 rfl kj kj kj (show 13 < 16 by decide)) fun W25 p25 r6_25 => ?_
  have x25 : Ext w W25 := Puts.ext p25 x24 b6
  refine Qac ?_
  refine hK67 _ _ ?_
  refine Qab ?_
  refine Qaa (.int .i64 1) 47 rfl kj kj ?_
  refine Qaa (.int .i64 1) 33 rfl kj kj ?_
  refine Qac ?_
  show Code.rounds _ _ _ 3 _ _
  show Code.wp _ _ (Exit.then (Code.rounds _ _ _ 2) _) _ _
  refine wp_seq_k fun K69 hK69 => ?_
  refine Qab ?_
  refine Qaa (.bool true) 34 rfl kj kj ?_
  refine Qac ?_
  refine hK69 _ _ ?_
  refine wp_seq_k fun K70 hK70 => ?_
  refine cond_true kj ?_
  refine wp_skip ?_
  refine hK70 _ _ ?_
  refine wp_seq_k fun K71 hK71 => ?_
  refine wp_block ?_
  refine wp_seq_k fun K72 hK72 => ?_
  refine Qab ?_
  refine Qaa (.int .i64 1) 35 rfl kj kj ?_
  refine Qaa (.int .i64 1) 9 rfl kj kj ?_
  refine Qac ?_
  refine hK72 _ _ ?_
  refine Qab ?_
  refine Qaa (.int .i64 1) 36 rfl kj kj ?_
  refine Qaa (.int .i64 14) 37 rfl kj kj ?_
  refine Qaa (.slice (some ⟨gn, on, none⟩) nonce.length c_n) 38 rfl kj kj ?_
  refine Qaa (.int .i64 1) 39 rfl kj kj ?_
  refine Qaa (.int .i64 4) 40 rfl kj kj ?_
  refine Qaa (.int .i64 1) 41 rfl kj kj ?_
  refine Qaa (.int .i64 4) 42 rfl kj kj ?_
  refine Qaa (.int .i64 8) 43 rfl kj kj ?_
  refine Qaa (.slice (some ⟨gn, on + 4, none⟩) (8 - 4) (c_n - 4)) 44 rfl kj (Qd9 33 _ _ _ 4 8 gn on nonce.length c_n 5 rfl kj kj kj kj kj (by decide) (by omega) (by omega)) ?_
  refine Qax (.int .u32 (wv (le4 (sub4 nonce 1)))) 155 #[.slice (some ⟨gn, on + 4, none⟩) (8 - 4) (c_n - 4)] 45 rfl kj kj ((Qei (sub4 nonce 1) _ _ _ (Qcm (xs := nonce) (hn.ext x25) 1 (by omega)) (QbH _ _ (by omega)))) fun W26 e26 => ?_
  have x26 : Ext w W26 := Ext.tr x25 e26
  refine Qaa (.pointer (some ⟨g6, 14, none⟩)) 46 rfl kj kj ?_
  have r6_26 := (Qad r6_25 e26)
  refine Qah g6 _ (ints .u32 ([1634760805, 857760878, 2036477234, 1797285236, (wv (le4 (sub4 key 0))), (wv (le4 (sub4 key 1))), (wv (le4 (sub4 key 2))), (wv (le4 (sub4 key 3))), (wv (le4 (sub4 key 4))), (wv (le4 (sub4 key 5))), (wv (le4 (sub4 key 6))), (wv (le4 (sub4 key 7))), 0, (wv (le4 (sub4 nonce 0))), (wv (le4 (sub4 nonce 1))), 0])) 199 r6_26 rfl kj (Qai 162 _ _ g6 14 199 _ _ r6_26 rfl kj kj kj (show 14 < 16 by decide)) fun W27 p27 r6_27 => ?_
  have x27 : Ext w W27 := Puts.ext p27 x26 b6
  refine Qac ?_
  refine hK71 _ _ ?_
  refine Qab ?_
  refine Qaa (.int .i64 2) 47 rfl kj kj ?_
  refine Qaa (.int .i64 2) 33 rfl kj kj ?_
  refine Qac ?_
  show Code.rounds _ _ _ 2 _ _
  show Code.wp _ _ (Exit.then (Code.rounds _ _ _ 1) _) _ _
  refine wp_seq_k fun K73 hK73 => ?_
  refine Qab ?_
  refine Qaa (.bool true) 34 rfl kj kj ?_
  refine Qac ?_
  refine hK73 _ _ ?_
  refine wp_seq_k fun K74 hK74 => ?_
  refine cond_true kj ?_
  refine wp_skip ?_
  refine hK74 _ _ ?_
  refine wp_seq_k fun K75 hK75 => ?_
  refine wp_block ?_
  refine wp_seq_k fun K76 hK76 => ?_
  refine Qab ?_
  refine Qaa (.int .i64 2) 35 rfl kj kj ?_
  refine Qaa (.int .i64 2) 9 rfl kj kj ?_
  refine Qac ?_
  refine hK76 _ _ ?_
  refine Qab ?_
  refine Qaa (.int .i64 2) 36 rfl kj kj ?_
  refine Qaa (.int .i64 15) 37 rfl kj kj ?_
  refine Qaa (.slice (some ⟨gn, on, none⟩) nonce.length c_n) 38 rfl kj kj ?_
  refine Qaa (.int .i64 2) 39 rfl kj kj ?_
  refine Qaa (.int .i64 8) 40 rfl kj kj ?_
  refine Qaa (.int .i64 2) 41 rfl kj kj ?_
  refine Qaa (.int .i64 8) 42 rfl kj kj ?_
  refine Qaa (.int .i64 12) 43 rfl kj kj ?_
  refine Qaa (.slice (some ⟨gn, on + 8, none⟩) (12 - 8) (c_n - 8)) 44 rfl kj (Qd9 33 _ _ _ 8 12 gn on nonce.length c_n 5 rfl kj kj kj kj kj (by decide) (by omega) (by omega)) ?_
  refine Qax (.int .u32 (wv (le4 (sub4 nonce 2)))) 155 #[.slice (some ⟨gn, on + 8, none⟩) (12 - 8) (c_n - 8)] 45 rfl kj kj ((Qei (sub4 nonce 2) _ _ _ (Qcm (xs := nonce) (hn.ext x27) 2 (by omega)) (QbH _ _ (by omega)))) fun W28 e28 => ?_
  have x28 : Ext w W28 := Ext.tr x27 e28
  refine Qaa (.pointer (some ⟨g6, 15, none⟩)) 46 rfl kj kj ?_
  have r6_28 := (Qad r6_27 e28)
  refine Qah g6 _ (ints .u32 ([1634760805, 857760878, 2036477234, 1797285236, (wv (le4 (sub4 key 0))), (wv (le4 (sub4 key 1))), (wv (le4 (sub4 key 2))), (wv (le4 (sub4 key 3))), (wv (le4 (sub4 key 4))), (wv (le4 (sub4 key 5))), (wv (le4 (sub4 key 6))), (wv (le4 (sub4 key 7))), 0, (wv (le4 (sub4 nonce 0))), (wv (le4 (sub4 nonce 1))), (wv (le4 (sub4 nonce 2)))])) 199 r6_28 rfl kj (Qai 162 _ _ g6 15 199 _ _ r6_28 rfl kj kj kj (show 15 < 16 by decide)) fun W29 p29 r6_29 => ?_
  have x29 : Ext w W29 := Puts.ext p29 x28 b6
  refine Qac ?_
  refine hK75 _ _ ?_
  refine Qab ?_
  refine Qaa (.int .i64 3) 47 rfl kj kj ?_
  refine Qaa (.int .i64 3) 33 rfl kj kj ?_
  refine Qac ?_
  show Code.rounds _ _ _ 1 _ _
  show Code.wp _ _ (Exit.then (Code.rounds _ _ _ 0) _) _ _
  refine wp_seq_k fun K77 hK77 => ?_
  refine Qab ?_
  refine Qaa (.bool false) 34 rfl kj kj ?_
  refine Qac ?_
  refine hK77 _ _ ?_
  refine wp_seq_k fun K78 hK78 => ?_
  refine cond_false kj ?_
  refine wp_exit ?_
  refine hK63 _ _ ?_
  refine wp_seq_k fun K79 hK79 => ?_
  refine Qab ?_
  refine Qaa (.agg (ints .u32 ([1634760805, 857760878, 2036477234, 1797285236, (wv (le4 (sub4 key 0))), (wv (le4 (sub4 key 1))), (wv (le4 (sub4 key 2))), (wv (le4 (sub4 key 3))), (wv (le4 (sub4 key 4))), (wv (le4 (sub4 key 5))), (wv (le4 (sub4 key 6))), (wv (le4 (sub4 key 7))), 0, (wv (le4 (sub4 nonce 0))), (wv (le4 (sub4 nonce 1))), (wv (le4 (sub4 nonce 2)))]))) 48 rfl kj (Qas 199 _ g6 199 _ _ r6_29 rfl kj kj (isz (n := 16) kj kj)) ?_
  have r4_3 := (Qad r4_2 e3)
  have r4_4 := (Puts.row p4 r4_3 (Qae r4_2 l6))
  have r4_5 := (Puts.row p5 r4_4 (Qae r4_2 l6))
  have r4_6 := (Puts.row p6 r4_5 (Qae r4_2 l6))
  have r4_7 := (Puts.row p7 r4_6 (Qae r4_2 l6))
  have r4_8 := (Qad r4_7 e8)
  have r4_9 := (Puts.row p9 r4_8 (Qae r4_2 l6))
  have r4_10 := (Qad r4_9 e10)
  have r4_11 := (Puts.row p11 r4_10 (Qae r4_2 l6))
  have r4_12 := (Qad r4_11 e12)
  have r4_13 := (Puts.row p13 r4_12 (Qae r4_2 l6))
  have r4_14 := (Qad r4_13 e14)
  have r4_15 := (Puts.row p15 r4_14 (Qae r4_2 l6))
  have r4_16 := (Qad r4_15 e16)
  have r4_17 := (Puts.row p17 r4_16 (Qae r4_2 l6))
  have r4_18 := (Qad r4_17 e18)
  have r4_19 := (Puts.row p19 r4_18 (Qae r4_2 l6))
  have r4_20 := (Qad r4_19 e20)
  have r4_21 := (Puts.row p21 r4_20 (Qae r4_2 l6))
  have r4_22 := (Qad r4_21 e22)
  have r4_23 := (Puts.row p23 r4_22 (Qae r4_2 l6))
  have r4_24 := (Qad r4_23 e24)
  have r4_25 := (Puts.row p25 r4_24 (Qae r4_2 l6))
  have r4_26 := (Qad r4_25 e26)
  have r4_27 := (Puts.row p27 r4_26 (Qae r4_2 l6))
  have r4_28 := (Qad r4_27 e28)
  have r4_29 := (Puts.row p29 r4_28 (Qae r4_2 l6))
  refine Qah g4 _ (ints .u32 ([1634760805, 857760878, 2036477234, 1797285236, (wv (le4 (sub4 key 0))), (wv (le4 (sub4 key 1))), (wv (le4 (sub4 key 2))), (wv (le4 (sub4 key 3))), (wv (le4 (sub4 key 4))), (wv (le4 (sub4 key 5))), (wv (le4 (sub4 key 6))), (wv (le4 (sub4 key 7))), 0, (wv (le4 (sub4 nonce 0))), (wv (le4 (sub4 nonce 1))), (wv (le4 (sub4 nonce 2)))])) 199 r4_29 rfl kj (Qam 199 _ _ g4 199 _ _ r4_29 rfl kj kj (isz (n := 16) kj kj) (eqsz (n := 16) kj kj) (Qay _ _)) fun W30 p30 r4_30 => ?_
  have x30 : Ext w W30 := Puts.ext p30 x29 b4
  refine Qac ?_
  refine hK79 _ _ ?_
  refine wp_ret ?_
  repeat (first | with_reducible refine goR1 ?_ | with_reducible refine goR2 ?_)
  exact (show bodyPost _ _ _ .ret _ _ from ret1 (.agg (ints .u32 ([1634760805, 857760878, 2036477234, 1797285236, (wv (le4 (sub4 key 0))), (wv (le4 (sub4 key 1))), (wv (le4 (sub4 key 2))), (wv (le4 (sub4 key 3))), (wv (le4 (sub4 key 4))), (wv (le4 (sub4 key 5))), (wv (le4 (sub4 key 6))), (wv (le4 (sub4 key 7))), 0, (wv (le4 (sub4 nonce 0))), (wv (le4 (sub4 nonce 1))), (wv (le4 (sub4 nonce 2)))]))) rfl (QaU g4 199 _ r4_30 kj kj (isz (n := 16) kj kj)) ⟨rfl, x30⟩)
end Go.Proofs.YtoiendjhplbjjaaDoor.Cha
end
section
namespace Go.Proofs.YtoiendjhplbjjaaDoor.Cha
open Go Go.RowKit
open Rely Auto Own Sha
set_option linter.unusedVariables false
set_option linter.unusedSimpArgs false
open Sha
end Go.Proofs.YtoiendjhplbjjaaDoor.Cha
end
section
namespace Go.Proofs.YtoiendjhplbjjaaDoor.Auto
open Go Go.RowKit
open Rely
set_option linter.unusedVariables false
section
variable {P : Program} {Rd : World → Prop} {w0 : World} {base N : Nat} {L : Env} {U : List Nat} {F : List Kn → Prop} {o : Oper} {os : List Oper} {s : Src} {ss : List Src} {C : List Kn}
theorem Qaw (v : Value) (hs : seen C o s = true) (hg : gOk s.guard (get (envS N L (C.map Kn.val) s.reads)) = true) (hd : o.dst.isNone = false)
    (h : ∀ W, (execOp (Rely.look (get (envS N L (C.map Kn.val) s.reads))) o).run P W = .ok (.value v) W)
    (hk : Qce P Rd w0 base N L U F os ss (C ++ [.is v])) : Qce P Rd w0 base N L U F (o :: os) (s :: ss) C :=
  ⟨.is v, (fun hn => by rw [hd] at hn; cases hn), (fun _ => by
    split
    · exact ⟨hs, v, rfl, fun W _ => QbL hg (h W)⟩
    · intro ρ W hR hh
      rw [Qcj hs hh]
      refine QbL hg ?_
      unfold Qcu
      rw [Qc0 hs hh, h W]
      exact ⟨Ext.refl _, rfl⟩), hk⟩
theorem QdJ (v : Value) (f : FuncId) (args : Array Value) (hu : U.contains C.length = false) (hs : seen C o s = true) (hg : gOk s.guard (get (envS N L (C.map Kn.val) s.reads)) = true) (hd : o.dst.isNone = false)
    (h : ∀ W, (execOp (Rely.look (get (envS N L (C.map Kn.val) s.reads))) o).run P W = .ok (.enter f args) W) (hc : ∀ W, Ext w0 W → Calls P f args W (Ret W v))
    (hk : Qce P Rd w0 base N L U F os ss (C ++ [.is v])) : Qce P Rd w0 base N L U F (o :: os) (s :: ss) C :=
  t_op (.is v) hu hs hg hd (fun W hR => by
    rw [h]
    exact ⟨Ext.refl _, (hc W hR).mono fun _ _ h => h.const⟩) hk
end
end Go.Proofs.YtoiendjhplbjjaaDoor.Auto
end
section
namespace Go.Proofs.YtoiendjhplbjjaaDoor.Cha
open Go Go.RowKit
open Rely Auto Own Sha
set_option linter.unusedVariables false
set_option linter.unusedSimpArgs false
open Sha
def qrt (x : List Wd) (i j k l : Nat) : List Wd := (((x.set i (qA2 (wget x i) (wget x j) (wget x k) (wget x l))).set j (qB2 (wget x i) (wget x j) (wget x k) (wget x l))).set k (qC2 (wget x i) (wget x j) (wget x k) (wget x l))).set l (qD2 (wget x i) (wget x j) (wget x k) (wget x l))
theorem QcF (x : List Wd) (i j k l : Nat) : (qrt x i j k l).length = x.length := by unfold qrt; simp only [List.length_set]
def dbl (x : List Wd) : List Wd := qrt (qrt (qrt (qrt (qrt (qrt (qrt (qrt (x) 0 4 8 12) 1 5 9 13) 2 6 10 14) 3 7 11 15) 0 5 10 15) 1 6 11 12) 2 7 8 13) 3 4 9 14
theorem Qjz (x : List Wd) : (dbl x).length = x.length := by unfold dbl; simp only [QcF]
def rounds (s : List Wd) : Nat → List Wd
  | 0 => s
  | n + 1 => dbl (rounds s n)
theorem QdC (s : List Wd) : ∀ n, (rounds s n).length = s.length
  | 0 => rfl
  | n + 1 => (Qjz _).trans (QdC s n)
theorem QaC {x : List Wd} {n : Nat} (h : x.length = n) : (x.map wv).length = n := by rw [List.length_map, h]
def Qb9 (xs : List Int) (n i : Nat) : List Int := xs.take i ++ List.replicate (n - i) 0
theorem Qcn (xs : List Int) (n i : Nat) (h : xs.length = n) (hi : i ≤ n) : (Qb9 xs n i).length = n := by unfold Qb9; rw [List.length_append, List.length_take, List.length_replicate]; omega
theorem QbZ (xs : List Int) (n : Nat) : List.replicate n 0 = Qb9 xs n 0 := by unfold Qb9; rw [List.take_zero, Nat.sub_zero]; rfl
theorem QbN (xs : List Int) (n : Nat) (h : xs.length = n) : Qb9 xs n n = xs := by unfold Qb9; rw [Nat.sub_self, List.replicate_zero, List.append_nil, List.take_of_length_le (by omega)]
theorem Qca (xs : List Int) (n i : Nat) (h : xs.length = n) (hi : i < n) : (Qb9 xs n i).set i (nth xs i) = Qb9 xs n (i + 1) := by
  have hl : (xs.take i).length = i := by rw [List.length_take]; omega
  unfold Qb9
  rw [List.set_append_right _ _ (by omega), hl, Nat.sub_self, show n - i = (n - (i + 1)) + 1 by omega, List.replicate_succ, List.set_cons_zero]
  have e : xs.take (i + 1) = xs.take i ++ [nth xs i] := by
    rw [List.take_add_one, List.getElem?_eq_getElem (by omega)]
    simp [nth, show i < xs.length by omega]
  rw [e, List.append_assoc]
  rfl
def QbU (x s : List Wd) : List Int := (List.range 64).map fun n => wv ((wget x (n / 4) + wget s (n / 4)) >>> (8 * (n % 4))) % 256
theorem QeD (x s : List Wd) : (QbU x s).length = 64 := by unfold QbU; rw [List.length_map, List.length_range]
theorem QkE (x s : List Wd) (i j : Nat) (hi : i < 16) (hj : j < 4) : IntKind.u8.wrap (wv ((wget x i + wget s i) >>> (8 * j))) = nth (QbU x s) (4 * i + j) := by
  have h1 : (4 * i + j) / 4 = i := by omega
  have h2 : (4 * i + j) % 4 = j := by omega
  have h3 : ∀ z : Int, IntKind.u8.wrap z = z % 2 ^ 8 := fun _ => rfl
  unfold nth QbU
  rw [h3, List.getD_eq_getElem?_getD, List.getElem?_map, List.getElem?_range (by omega), Option.map_some, Option.getD_some, h1, h2]
  rfl
def Qbk (ws : List Wd) (number : Int) : List Int := QbU (rounds (ws.set 12 (BitVec.ofInt 32 number)) 10) (ws.set 12 (BitVec.ofInt 32 number))
set_option maxRecDepth 100000 in
set_option maxHeartbeats 4000000 in
theorem QiO (ws : List Wd) (number : Int) (tq : TypeId) (w : World) (hq : w.heap[3]? = some (.cells (ints .i64 [0, 4, 8, 12, 1, 5, 9, 13, 2, 6, 10, 14, 3, 7, 11, 15, 0, 5, 10, 15, 1, 6, 11, 12, 2, 7, 8, 13, 3, 4, 9, 14]) tq)) (hw : ws.length = 16) : Calls Tryd.prog 141 #[.agg (ints .u32 (ws.map wv)), .int .i64 number] w (Ret w (.agg (ints .u8 (Qbk ws number)))) := by
 refine enter 84 [(0, .agg (ints .u32 (ws.map wv))), (1, .int .i64 number)] Tryd.func141 rfl rfl kj rfl ?_
 refine wp_seq_k fun K2 hK2 => ?_
 refine Qab ?_
 refine Qaq (ints .u32 (ws.map wv)) 199 2 rfl kj kj fun g3 W1 l3 e1 r3_1 => ?_
 have x1 : Ext w W1 := Ext.tr (Rely.Ext.refl w) e1
 have b3 : w.heap.size ≤ g3 := Nat.le_trans (Rely.Ext.refl w).size l3
 refine Qaq (ints .u8 (List.replicate 64 0)) 164 4 rfl kj kj fun g4 W2 l4 e2 r4_2 => ?_
 have x2 : Ext w W2 := Ext.tr x1 e2
 have b4 : w.heap.size ≤ g4 := Nat.le_trans x1.size l4
 refine Qac ?_
 refine hK2 _ _ ?_
 refine wp_seq_k fun K5 hK5 => ?_
 refine Qab ?_
 refine Qaa (.int .i64 number) 12 rfl kj kj ?_
 refine Qaa (.int .u32 (wv (BitVec.ofInt 32 number))) 13 rfl kj (Qal (u := .int .u32 (IntKind.u32.wrap (number))) kj (congrArg (Value.int .u32) (by rw [Go.Proofs.YtoiendjhplbjjaaDoor.Sha.wrap32, QdZ]))) ?_
 refine Qaa (.pointer (some ⟨g3, 12, none⟩)) 14 rfl kj kj ?_
 have r3_2 := (Qad r3_1 e2)
 refine Qah g3 _ (ints .u32 ((ws.map wv).set 12 (wv (BitVec.ofInt 32 number)))) 199 r3_2 rfl kj (Qai 162 _ _ g3 12 199 _ _ r3_2 rfl kj kj kj (Nat.lt_of_lt_of_eq (show 12 < 16 by decide) (QaC hw).symm)) fun W3 p3 r3_3 => ?_
 have x3 : Ext w W3 := Puts.ext p3 x2 b3
 obtain ⟨s, es⟩ : ∃ z : List Wd, z = ws.set 12 (BitVec.ofInt 32 number) := ⟨_, rfl⟩
 have hs : s.length = 16 := by rw [es, List.length_set, hw]
 have r3_3_6 : W3.heap[g3]? = some (.cells (ints .u32 (s.map wv)) 199) := QaA r3_3 (by rw [es, List.map_set])
 refine Qac ?_
 refine hK5 _ _ ?_
 refine wp_seq_k fun K7 hK7 => ?_
 refine Qab ?_
 refine Qaa (.agg (ints .u32 (s.map wv))) 15 rfl kj (Qas 199 _ g3 199 _ _ r3_3_6 rfl kj kj (isz (n := 16) kj ((Qaf _ _).trans (QaC hs)))) ?_
 refine Qaq (ints .u32 ([0, 0, 0, 0, 0, 0, 0, 0, 0, 0, 0, 0, 0, 0, 0, 0])) 199 5 rfl kj kj fun g8 W4 l8 e4 r8_4 => ?_
 have x4 : Ext w W4 := Ext.tr x3 e4
 have b8 : w.heap.size ≤ g8 := Nat.le_trans x3.size l8
 refine Qah g8 _ (ints .u32 (s.map wv)) 199 r8_4 rfl kj (Qam 199 _ _ g8 199 _ _ r8_4 rfl kj kj (isz (n := 16) kj ((Qaf _ _).trans (QaC hs))) (eqsz (n := 16) kj ((Qaf _ _).trans (QaC hs))) (Qay _ _)) fun W5 p5 r8_5 => ?_
 have x5 : Ext w W5 := Puts.ext p5 x4 b8
 refine Qac ?_
 refine hK7 _ _ ?_
 refine wp_seq_k fun K9 hK9 => ?_
 refine wp_seq_k fun K10 hK10 => ?_
 refine Qab ?_
 refine Qaa (.int .i64 0) 16 rfl kj kj ?_
 refine Qac ?_
 refine hK10 _ _ ?_
 refine wp_block ?_
 refine QaO (fun (s1 : Nat) => [(2, .pointer (some ⟨g3, 0, none⟩)), (4, .pointer (some ⟨g4, 0, none⟩)), (5, .pointer (some ⟨g8, 0, none⟩)), (16, .int .i64 ((s1 : Nat) : Int))]) (fun (s1 : Nat) W => (s1 ≤ 10) ∧ (W.heap[g8]? = some (.cells (ints .u32 ((rounds s s1).map wv)) 199)) ∧ (Qar [g8] W5 W) ∧ (Ext w W)) (fun (s1 : Nat) => 10 - s1) 0 ⟨rfl, rfl, rfl, rfl, trivial⟩ ⟨(Nat.zero_le _), (QaA r8_5 rfl), (Qar.refl [g8] W5), x5⟩ fun s1 X1 V1 hI1 => ?_
 obtain ⟨i, hs1⟩ : ∃ z, z = s1 := ⟨_, rfl⟩
 subst hs1
 obtain ⟨hi, q8_1, kk1, xx1⟩ := hI1
 replace hi : i ≤ 10 := hi
 replace q8_1 : V1.heap[g8]? = some (.cells (ints .u32 ((rounds s i).map wv)) 199) := q8_1
 replace kk1 : Qar [g8] W5 V1 := kk1
 replace xx1 : Ext w V1 := xx1
 have q6 := kk1
 refine wp_seq_k fun K11 hK11 => ?_
 refine Qab ?_
 refine Qaa (.bool (decide (((i : Nat) : Int) < 10))) 17 rfl kj kj ?_
 refine Qac ?_
 refine hK11 _ _ ?_
 refine wp_seq_k fun K12 hK12 => ?_
 refine Qa7 (t := decide (((i : Nat) : Int) < 10)) kj (fun c13 => ?_) (fun c13 => ?_)
 ·skip
  have hlt17 : i < 10 := by have := of_decide_eq_true c13; omega
  refine wp_skip ?_
  refine hK12 _ _ ?_
  refine wp_seq_k fun K14 hK14 => ?_
  refine wp_block ?_
  refine wp_seq_k fun K15 hK15 => ?_
  refine Qab ?_
  have r1_1 := (Qad hq e1)
  have r1_2 := (Qad r1_1 e2)
  have r1_3 := (Puts.row p3 r1_2 (Qae hq l3))
  have r1_4 := (Qad r1_3 e4)
  have r1_5 := (Puts.row p5 r1_4 (Qae r1_3 l8))
  have r1_6 := (Qar.row q6 r1_5 (Qa5 (Qae r1_3 l8) QaT))
  refine Qaa (.agg (ints .i64 ([0, 4, 8, 12, 1, 5, 9, 13, 2, 6, 10, 14, 3, 7, 11, 15, 0, 5, 10, 15, 1, 6, 11, 12, 2, 7, 8, 13, 3, 4, 9, 14]))) 18 rfl kj (Qas 217 _ 3 tq _ _ r1_6 rfl kj kj (isz (n := 32) kj kj)) ?_
  refine Qaa (.int .i64 0) 19 rfl kj kj ?_
  refine Qac ?_
  refine hK15 _ _ ?_
  refine wp_block ?_
  obtain ⟨x0, ex0⟩ : ∃ z : List Wd, z = rounds s i := ⟨_, rfl⟩
  have h0 : x0.length = 16 := by rw [ex0, QdC, hs]
  have r8_6_16 : V1.heap[g8]? = some (.cells (ints .u32 (x0.map wv)) 199) := QaA q8_1 (by rw [ex0])
  refine wp_loop_rounds 9 ?_
  show Code.wp _ _ (Exit.then (Code.rounds _ _ _ 8) _) _ _
  refine wp_seq_k fun K17 hK17 => ?_
  refine Qab ?_
  refine Qaa (.bool true) 20 rfl kj kj ?_
  refine Qac ?_
  refine hK17 _ _ ?_
  refine wp_seq_k fun K18 hK18 => ?_
  refine cond_true kj ?_
  refine wp_skip ?_
  refine hK18 _ _ ?_
  refine wp_seq_k fun K19 hK19 => ?_
  refine wp_block ?_
  refine wp_seq_k fun K20 hK20 => ?_
  refine Qab ?_
  refine Qaa (.agg (ints .i64 ([0, 4, 8, 12]))) 21 rfl kj kj ?_
  refine Qaq ((Array.replicate 4 (.int .i64 0))) 216 7 rfl kj kj fun g21 W7 l21 e7 r21_7 => ?_
  have x7 : Ext w W7 := Ext.tr xx1 e7
  have b21 : w.heap.size ≤ g21 := Nat.le_trans xx1.size l21
  refine Qah g21 _ (ints .i64 ([0, 4, 8, 12])) 216 r21_7 rfl kj (Qam 216 _ _ g21 216 _ _ r21_7 rfl kj kj (isz (n := 4) kj kj) (eqsz (n := 4) kj kj) (Qay _ _)) fun W8 p8 r21_8 => ?_
  have x8 : Ext w W8 := Puts.ext p8 x7 b21
  refine Qac ?_
  refine hK20 _ _ ?_
  refine Qbd (fun W => W.heap[g21]? = some (.cells (ints .i64 ([0, 4, 8, 12])) 216)) [⟨none, [(7, none)]⟩, ⟨none, [(23, some 0)]⟩, ⟨none, [(7, none)]⟩, ⟨none, [(25, some 2)]⟩, ⟨none, [(7, none)]⟩, ⟨none, [(27, some 4)]⟩, ⟨none, [(7, none)]⟩, ⟨none, [(29, some 6)]⟩, ⟨none, [(7, none)]⟩, ⟨none, [(31, some 8)]⟩, ⟨none, [(5, none), (32, some 9)]⟩, ⟨none, [(33, some 10)]⟩, ⟨none, [(7, none)]⟩, ⟨none, [(35, some 12)]⟩, ⟨none, [(5, none), (36, some 13)]⟩, ⟨none, [(37, some 14)]⟩, ⟨none, [(7, none)]⟩, ⟨none, [(39, some 16)]⟩, ⟨none, [(5, none), (40, some 17)]⟩, ⟨none, [(41, some 18)]⟩, ⟨none, [(7, none)]⟩, ⟨none, [(43, some 20)]⟩, ⟨none, [(5, none), (44, some 21)]⟩, ⟨none, [(45, some 22)]⟩, ⟨none, [(34, some 11), (38, some 15), (42, some 19), (46, some 23)]⟩, ⟨none, [(47, some 24)]⟩, ⟨none, [(22, some 25)]⟩, ⟨none, [(22, some 25)]⟩, ⟨none, [(22, some 25)]⟩, ⟨none, [(22, some 25)]⟩, ⟨none, [(5, none), (24, some 1)]⟩, ⟨none, [(52, some 30), (48, some 26)]⟩, ⟨none, [(5, none), (26, some 3)]⟩, ⟨none, [(53, some 32), (49, some 27)]⟩, ⟨none, [(5, none), (28, some 5)]⟩, ⟨none, [(54, some 34), (50, some 28)]⟩, ⟨none, [(5, none), (30, some 7)]⟩, ⟨none, [(55, some 36), (51, some 29)]⟩] [] [2, 3, 4, 5, 6, 7, 27, 28, 29, 32, 34, 36] kj kj kj (fun W hR => Qad r21_8 hR) fun F hF => ?_
  refine Qaw (.pointer (some ⟨g21, 0, none⟩)) kj kj rfl (fun W => by kernel_rfl) ?_
  refine Qa6 (.int .i64 0) kj kj kj rfl (fun W hR => (Qag 3 _ g21 0 216 _ (.int .i64 0) _ (Qad (Qad r21_8 (Qak _)) hR) rfl kj kj kj)) ?_
  refine Qaw (.pointer (some ⟨g21, 1, none⟩)) kj kj rfl (fun W => by kernel_rfl) ?_
  refine Qbj (.int .i64 4) kj kj kj rfl (fun W hW => (Qag 3 _ g21 1 216 _ (.int .i64 4) _ hW rfl kj kj kj)) ?_
  refine Qaw (.pointer (some ⟨g21, 2, none⟩)) kj kj rfl (fun W => by kernel_rfl) ?_
  refine Qbj (.int .i64 8) kj kj kj rfl (fun W hW => (Qag 3 _ g21 2 216 _ (.int .i64 8) _ hW rfl kj kj kj)) ?_
  refine Qaw (.pointer (some ⟨g21, 3, none⟩)) kj kj rfl (fun W => by kernel_rfl) ?_
  refine Qbj (.int .i64 12) kj kj kj rfl (fun W hW => (Qag 3 _ g21 3 216 _ (.int .i64 12) _ hW rfl kj kj kj)) ?_
  refine Qaw (.pointer (some ⟨g21, 0, none⟩)) kj kj rfl (fun W => by kernel_rfl) ?_
  refine Qa6 (.int .i64 0) kj kj kj rfl (fun W hR => (Qag 3 _ g21 0 216 _ (.int .i64 0) _ (Qad (Qad r21_8 (Qak _)) hR) rfl kj kj kj)) ?_
  refine Qaw (.pointer (some ⟨g8, 0, none⟩)) kj kj rfl (fun W => by kernel_rfl) ?_
  have r8_7 := (Qad r8_6_16 e7)
  have r8_8 := (Puts.row p8 r8_7 (Qae r8_6_16 l21))
  refine Qa6 (.int .u32 (wv (wget x0 0))) kj kj kj rfl (fun W hR => (Qag 162 _ g8 0 199 _ (.int .u32 (wv (wget x0 0))) _ (Qad (Qad r8_8 (Qak _)) hR) rfl kj ((Qa1 _ _ _ (Nat.lt_of_lt_of_eq (by decide) (QaC h0).symm)).trans (congrArg (fun z => some (Value.int .u32 z)) (QaM x0 0))) kj)) ?_
  refine Qaw (.pointer (some ⟨g21, 1, none⟩)) kj kj rfl (fun W => by kernel_rfl) ?_
  refine Qa6 (.int .i64 4) kj kj kj rfl (fun W hR => (Qag 3 _ g21 1 216 _ (.int .i64 4) _ (Qad (Qad r21_8 (Qak _)) hR) rfl kj kj kj)) ?_
  refine Qaw (.pointer (some ⟨g8, 4, none⟩)) kj kj rfl (fun W => by kernel_rfl) ?_
  refine Qa6 (.int .u32 (wv (wget x0 4))) kj kj kj rfl (fun W hR => (Qag 162 _ g8 4 199 _ (.int .u32 (wv (wget x0 4))) _ (Qad (Qad r8_8 (Qak _)) hR) rfl kj ((Qa1 _ _ _ (Nat.lt_of_lt_of_eq (by decide) (QaC h0).symm)).trans (congrArg (fun z => some (Value.int .u32 z)) (QaM x0 4))) kj)) ?_
  refine Qaw (.pointer (some ⟨g21, 2, none⟩)) kj kj rfl (fun W => by kernel_rfl) ?_
  refine Qa6 (.int .i64 8) kj kj kj rfl (fun W hR => (Qag 3 _ g21 2 216 _ (.int .i64 8) _ (Qad (Qad r21_8 (Qak _)) hR) rfl kj kj kj)) ?_
  refine Qaw (.pointer (some ⟨g8, 8, none⟩)) kj kj rfl (fun W => by kernel_rfl) ?_
  refine Qa6 (.int .u32 (wv (wget x0 8))) kj kj kj rfl (fun W hR => (Qag 162 _ g8 8 199 _ (.int .u32 (wv (wget x0 8))) _ (Qad (Qad r8_8 (Qak _)) hR) rfl kj ((Qa1 _ _ _ (Nat.lt_of_lt_of_eq (by decide) (QaC h0).symm)).trans (congrArg (fun z => some (Value.int .u32 z)) (QaM x0 8))) kj)) ?_
  refine Qaw (.pointer (some ⟨g21, 3, none⟩)) kj kj rfl (fun W => by kernel_rfl) ?_
  refine Qa6 (.int .i64 12) kj kj kj rfl (fun W hR => (Qag 3 _ g21 3 216 _ (.int .i64 12) _ (Qad (Qad r21_8 (Qak _)) hR) rfl kj kj kj)) ?_
  refine Qaw (.pointer (some ⟨g8, 12, none⟩)) kj kj rfl (fun W => by kernel_rfl) ?_
  refine Qa6 (.int .u32 (wv (wget x0 12))) kj kj kj rfl (fun W hR => (Qag 162 _ g8 12 199 _ (.int .u32 (wv (wget x0 12))) _ (Qad (Qad r8_8 (Qak _)) hR) rfl kj ((Qa1 _ _ _ (Nat.lt_of_lt_of_eq (by decide) (QaC h0).symm)).trans (congrArg (fun z => some (Value.int .u32 z)) (QaM x0 12))) kj)) ?_
  refine QdJ (.tuple #[.int .u32 (wv (qA2 (wget x0 0) (wget x0 4) (wget x0 8) (wget x0 12))), .int .u32 (wv (qB2 (wget x0 0) (wget x0 4) (wget x0 8) (wget x0 12))), .int .u32 (wv (qC2 (wget x0 0) (wget x0 4) (wget x0 8) (wget x0 12))), .int .u32 (wv (qD2 (wget x0 0) (wget x0 4) (wget x0 8) (wget x0 12)))]) 156 #[.int .u32 (wv (wget x0 0)), .int .u32 (wv (wget x0 4)), .int .u32 (wv (wget x0 8)), .int .u32 (wv (wget x0 12))] kj kj kj rfl (fun W => by kernel_rfl) (fun W hR => (Qcv (wget x0 0) (wget x0 4) (wget x0 8) (wget x0 12)) W) ?_
  refine Qaw (.tuple #[.int .u32 (wv (qA2 (wget x0 0) (wget x0 4) (wget x0 8) (wget x0 12))), .int .u32 (wv (qB2 (wget x0 0) (wget x0 4) (wget x0 8) (wget x0 12))), .int .u32 (wv (qC2 (wget x0 0) (wget x0 4) (wget x0 8) (wget x0 12))), .int .u32 (wv (qD2 (wget x0 0) (wget x0 4) (wget x0 8) (wget x0 12)))]) kj kj rfl (fun W => by kernel_rfl) ?_
  refine Qaw (.int .u32 (wv (qA2 (wget x0 0) (wget x0 4) (wget x0 8) (wget x0 12)))) kj kj rfl (fun W => by kernel_rfl) ?_
  refine Qaw (.int .u32 (wv (qB2 (wget x0 0) (wget x0 4) (wget x0 8) (wget x0 12)))) kj kj rfl (fun W => by kernel_rfl) ?_
  refine Qaw (.int .u32 (wv (qC2 (wget x0 0) (wget x0 4) (wget x0 8) (wget x0 12)))) kj kj rfl (fun W => by kernel_rfl) ?_
  refine Qaw (.int .u32 (wv (qD2 (wget x0 0) (wget x0 4) (wget x0 8) (wget x0 12)))) kj kj rfl (fun W => by kernel_rfl) ?_
  refine Qaw (.pointer (some ⟨g8, 0, none⟩)) kj kj rfl (fun W => by kernel_rfl) ?_
  refine QaL rfl ?_
  refine Qaw (.pointer (some ⟨g8, 4, none⟩)) kj kj rfl (fun W => by kernel_rfl) ?_
  refine QaL rfl ?_
  refine Qaw (.pointer (some ⟨g8, 8, none⟩)) kj kj rfl (fun W => by kernel_rfl) ?_
  refine QaL rfl ?_
  refine Qaw (.pointer (some ⟨g8, 12, none⟩)) kj kj rfl (fun W => by kernel_rfl) ?_
  refine QaL rfl ?_
  refine Qds (hF _ kj fun W9 e9 => ?_)
  simp only [List.nil_append, List.cons_append, fins, up]
  clear hF
  have x9 : Ext w W9 := Ext.tr x8 e9
  have r8_9 := (Qad r8_8 e9)
  have r21_9 := (Qad r21_8 e9)
  refine QaG _ g8 _ (ints .u32 ((x0.map wv).set 0 (wv (qA2 (wget x0 0) (wget x0 4) (wget x0 8) (wget x0 12))))) 199 r8_9 rfl (Qai 162 _ _ g8 0 199 _ _ r8_9 rfl kj kj kj (Nat.lt_of_lt_of_eq (show 0 < 16 by decide) (QaC h0).symm)) (fun W hp => Puts.row hp r21_9 (Qap r8_6_16 l21)) fun W10 p10 r8_10 => ?_
  have x10 : Ext w W10 := Puts.ext p10 x9 b8
  have r21_10 := (Puts.row p10 r21_9 (Qap r8_6_16 l21))
  refine QaG _ g8 _ (ints .u32 (((x0.map wv).set 0 (wv (qA2 (wget x0 0) (wget x0 4) (wget x0 8) (wget x0 12)))).set 4 (wv (qB2 (wget x0 0) (wget x0 4) (wget x0 8) (wget x0 12))))) 199 r8_10 rfl (Qai 162 _ _ g8 4 199 _ _ r8_10 rfl kj kj kj (Nat.lt_of_lt_of_eq (show 4 < 16 by decide) ((List.length_set ..).trans (QaC h0)).symm)) (fun W hp => Puts.row hp r21_10 (Qap r8_6_16 l21)) fun W11 p11 r8_11 => ?_
  have x11 : Ext w W11 := Puts.ext p11 x10 b8
  have r21_11 := (Puts.row p11 r21_10 (Qap r8_6_16 l21))
  refine QaG _ g8 _ (ints .u32 ((((x0.map wv).set 0 (wv (qA2 (wget x0 0) (wget x0 4) (wget x0 8) (wget x0 12)))).set 4 (wv (qB2 (wget x0 0) (wget x0 4) (wget x0 8) (wget x0 12)))).set 8 (wv (qC2 (wget x0 0) (wget x0 4) (wget x0 8) (wget x0 12))))) 199 r8_11 rfl (Qai 162 _ _ g8 8 199 _ _ r8_11 rfl kj kj kj (Nat.lt_of_lt_of_eq (show 8 < 16 by decide) ((List.length_set ..).trans ((List.length_set ..).trans (QaC h0))).symm)) (fun W hp => Puts.row hp r21_11 (Qap r8_6_16 l21)) fun W12 p12 r8_12 => ?_
  have x12 : Ext w W12 := Puts.ext p12 x11 b8
  have r21_12 := (Puts.row p12 r21_11 (Qap r8_6_16 l21))
  refine QaG _ g8 _ (ints .u32 (((((x0.map wv).set 0 (wv (qA2 (wget x0 0) (wget x0 4) (wget x0 8) (wget x0 12)))).set 4 (wv (qB2 (wget x0 0) (wget x0 4) (wget x0 8) (wget x0 12)))).set 8 (wv (qC2 (wget x0 0) (wget x0 4) (wget x0 8) (wget x0 12)))).set 12 (wv (qD2 (wget x0 0) (wget x0 4) (wget x0 8) (wget x0 12))))) 199 r8_12 rfl (Qai 162 _ _ g8 12 199 _ _ r8_12 rfl kj kj kj (Nat.lt_of_lt_of_eq (show 12 < 16 by decide) ((List.length_set ..).trans ((List.length_set ..).trans ((List.length_set ..).trans (QaC h0)))).symm)) (fun W hp => Puts.row hp r21_12 (Qap r8_6_16 l21)) fun W13 p13 r8_13 => ?_
  have x13 : Ext w W13 := Puts.ext p13 x12 b8
  refine Qcr ?_
  obtain ⟨x1, ex1⟩ : ∃ z : List Wd, z = qrt x0 0 4 8 12 := ⟨_, rfl⟩
  have h1 : x1.length = 16 := by rw [ex1, QcF, h0]
  have r8_13_22 : W13.heap[g8]? = some (.cells (ints .u32 (x1.map wv)) 199) := QaA r8_13 (by rw [ex1]; unfold qrt; simp only [List.map_set])
  refine hK19 _ _ ?_
  refine Qab ?_
  refine Qaa (.int .i64 1) 56 rfl kj kj ?_
  refine Qaa (.int .i64 1) 19 rfl kj kj ?_
  refine Qac ?_
  show Code.rounds _ _ _ 8 _ _
  show Code.wp _ _ (Exit.then (Code.rounds _ _ _ 7) _) _ _
  refine wp_seq_k fun K23 hK23 => ?_
  refine Qab ?_
  refine Qaa (.bool true) 20 rfl kj kj ?_
  refine Qac ?_
  refine hK23 _ _ ?_
  refine wp_seq_k fun K24 hK24 => ?_
  refine cond_true kj ?_
  refine wp_skip ?_
  refine hK24 _ _ ?_
  refine wp_seq_k fun K25 hK25 => ?_
  refine wp_block ?_
  refine wp_seq_k fun K26 hK26 => ?_
  refine Qab ?_
  refine Qaa (.agg (ints .i64 ([1, 5, 9, 13]))) 21 rfl kj kj ?_
  refine Qaq ((Array.replicate 4 (.int .i64 0))) 216 7 rfl kj kj fun g27 W14 l27 e14 r27_14 => ?_
  have x14 : Ext w W14 := Ext.tr x13 e14
  have b27 : w.heap.size ≤ g27 := Nat.le_trans x13.size l27
  refine Qah g27 _ (ints .i64 ([1, 5, 9, 13])) 216 r27_14 rfl kj (Qam 216 _ _ g27 216 _ _ r27_14 rfl kj kj (isz (n := 4) kj kj) (eqsz (n := 4) kj kj) (Qay _ _)) fun W15 p15 r27_15 => ?_
  have x15 : Ext w W15 := Puts.ext p15 x14 b27
  refine Qac ?_
  refine hK26 _ _ ?_
  refine Qbd (fun W => W.heap[g27]? = some (.cells (ints .i64 ([1, 5, 9, 13])) 216)) [⟨none, [(7, none)]⟩, ⟨none, [(23, some 0)]⟩, ⟨none, [(7, none)]⟩, ⟨none, [(25, some 2)]⟩, ⟨none, [(7, none)]⟩, ⟨none, [(27, some 4)]⟩, ⟨none, [(7, none)]⟩, ⟨none, [(29, some 6)]⟩, ⟨none, [(7, none)]⟩, ⟨none, [(31, some 8)]⟩, ⟨none, [(5, none), (32, some 9)]⟩, ⟨none, [(33, some 10)]⟩, ⟨none, [(7, none)]⟩, ⟨none, [(35, some 12)]⟩, ⟨none, [(5, none), (36, some 13)]⟩, ⟨none, [(37, some 14)]⟩, ⟨none, [(7, none)]⟩, ⟨none, [(39, some 16)]⟩, ⟨none, [(5, none), (40, some 17)]⟩, ⟨none, [(41, some 18)]⟩, ⟨none, [(7, none)]⟩, ⟨none, [(43, some 20)]⟩, ⟨none, [(5, none), (44, some 21)]⟩, ⟨none, [(45, some 22)]⟩, ⟨none, [(34, some 11), (38, some 15), (42, some 19), (46, some 23)]⟩, ⟨none, [(47, some 24)]⟩, ⟨none, [(22, some 25)]⟩, ⟨none, [(22, some 25)]⟩, ⟨none, [(22, some 25)]⟩, ⟨none, [(22, some 25)]⟩, ⟨none, [(5, none), (24, some 1)]⟩, ⟨none, [(52, some 30), (48, some 26)]⟩, ⟨none, [(5, none), (26, some 3)]⟩, ⟨none, [(53, some 32), (49, some 27)]⟩, ⟨none, [(5, none), (28, some 5)]⟩, ⟨none, [(54, some 34), (50, some 28)]⟩, ⟨none, [(5, none), (30, some 7)]⟩, ⟨none, [(55, some 36), (51, some 29)]⟩] [] [2, 3, 4, 5, 6, 7, 27, 28, 29, 32, 34, 36] kj kj kj (fun W hR => Qad r27_15 hR) fun F hF => ?_
  refine Qaw (.pointer (some ⟨g27, 0, none⟩)) kj kj rfl (fun W => by kernel_rfl) ?_
  refine Qa6 (.int .i64 1) kj kj kj rfl (fun W hR => (Qag 3 _ g27 0 216 _ (.int .i64 1) _ (Qad (Qad r27_15 (Qak _)) hR) rfl kj kj kj)) ?_
  refine Qaw (.pointer (some ⟨g27, 1, none⟩)) kj kj rfl (fun W => by kernel_rfl) ?_
  refine Qbj (.int .i64 5) kj kj kj rfl (fun W hW => (Qag 3 _ g27 1 216 _ (.int .i64 5) _ hW rfl kj kj kj)) ?_
  refine Qaw (.pointer (some ⟨g27, 2, none⟩)) kj kj rfl (fun W => by kernel_rfl) ?_
  refine Qbj (.int .i64 9) kj kj kj rfl (fun W hW => (Qag 3 _ g27 2 216 _ (.int .i64 9) _ hW rfl kj kj kj)) ?_
  refine Qaw (.pointer (some ⟨g27, 3, none⟩)) kj kj rfl (fun W => by kernel_rfl) ?_
  refine Qbj (.int .i64 13) kj kj kj rfl (fun W hW => (Qag 3 _ g27 3 216 _ (.int .i64 13) _ hW rfl kj kj kj)) ?_
  refine Qaw (.pointer (some ⟨g27, 0, none⟩)) kj kj rfl (fun W => by kernel_rfl) ?_
  refine Qa6 (.int .i64 1) kj kj kj rfl (fun W hR => (Qag 3 _ g27 0 216 _ (.int .i64 1) _ (Qad (Qad r27_15 (Qak _)) hR) rfl kj kj kj)) ?_
  refine Qaw (.pointer (some ⟨g8, 1, none⟩)) kj kj rfl (fun W => by kernel_rfl) ?_
  have r8_14 := (Qad r8_13_22 e14)
  have r8_15 := (Puts.row p15 r8_14 (Qae r8_13_22 l27))
  refine Qa6 (.int .u32 (wv (wget x1 1))) kj kj kj rfl (fun W hR => (Qag 162 _ g8 1 199 _ (.int .u32 (wv (wget x1 1))) _ (Qad (Qad r8_15 (Qak _)) hR) rfl kj ((Qa1 _ _ _ (Nat.lt_of_lt_of_eq (by decide) (QaC h1).symm)).trans (congrArg (fun z => some (Value.int .u32 z)) (QaM x1 1))) kj)) ?_
  refine Qaw (.pointer (some ⟨g27, 1, none⟩)) kj kj rfl (fun W => by kernel_rfl) ?_
  refine Qa6 (.int .i64 5) kj kj kj rfl (fun W hR => (Qag 3 _ g27 1 216 _ (.int .i64 5) _ (Qad (Qad r27_15 (Qak _)) hR) rfl kj kj kj)) ?_
  refine Qaw (.pointer (some ⟨g8, 5, none⟩)) kj kj rfl (fun W => by kernel_rfl) ?_
  refine Qa6 (.int .u32 (wv (wget x1 5))) kj kj kj rfl (fun W hR => (Qag 162 _ g8 5 199 _ (.int .u32 (wv (wget x1 5))) _ (Qad (Qad r8_15 (Qak _)) hR) rfl kj ((Qa1 _ _ _ (Nat.lt_of_lt_of_eq (by decide) (QaC h1).symm)).trans (congrArg (fun z => some (Value.int .u32 z)) (QaM x1 5))) kj)) ?_
  refine Qaw (.pointer (some ⟨g27, 2, none⟩)) kj kj rfl (fun W => by kernel_rfl) ?_
  refine Qa6 (.int .i64 9) kj kj kj rfl (fun W hR => (Qag 3 _ g27 2 216 _ (.int .i64 9) _ (Qad (Qad r27_15 (Qak _)) hR) rfl kj kj kj)) ?_
  refine Qaw (.pointer (some ⟨g8, 9, none⟩)) kj kj rfl (fun W => by kernel_rfl) ?_
  refine Qa6 (.int .u32 (wv (wget x1 9))) kj kj kj rfl (fun W hR => (Qag 162 _ g8 9 199 _ (.int .u32 (wv (wget x1 9))) _ (Qad (Qad r8_15 (Qak _)) hR) rfl kj ((Qa1 _ _ _ (Nat.lt_of_lt_of_eq (by decide) (QaC h1).symm)).trans (congrArg (fun z => some (Value.int .u32 z)) (QaM x1 9))) kj)) ?_
  refine Qaw (.pointer (some ⟨g27, 3, none⟩)) kj kj rfl (fun W => by kernel_rfl) ?_
  refine Qa6 (.int .i64 13) kj kj kj rfl (fun W hR => (Qag 3 _ g27 3 216 _ (.int .i64 13) _ (Qad (Qad r27_15 (Qak _)) hR) rfl kj kj kj)) ?_
  refine Qaw (.pointer (some ⟨g8, 13, none⟩)) kj kj rfl (fun W => by kernel_rfl) ?_
  refine Qa6 (.int .u32 (wv (wget x1 13))) kj kj kj rfl (fun W hR => (Qag 162 _ g8 13 199 _ (.int .u32 (wv (wget x1 13))) _ (Qad (Qad r8_15 (Qak _)) hR) rfl kj ((Qa1 _ _ _ (Nat.lt_of_lt_of_eq (by decide) (QaC h1).symm)).trans (congrArg (fun z => some (Value.int .u32 z)) (QaM x1 13))) kj)) ?_
  refine QdJ (.tuple #[.int .u32 (wv (qA2 (wget x1 1) (wget x1 5) (wget x1 9) (wget x1 13))), .int .u32 (wv (qB2 (wget x1 1) (wget x1 5) (wget x1 9) (wget x1 13))), .int .u32 (wv (qC2 (wget x1 1) (wget x1 5) (wget x1 9) (wget x1 13))), .int .u32 (wv (qD2 (wget x1 1) (wget x1 5) (wget x1 9) (wget x1 13)))]) 156 #[.int .u32 (wv (wget x1 1)), .int .u32 (wv (wget x1 5)), .int .u32 (wv (wget x1 9)), .int .u32 (wv (wget x1 13))] kj kj kj rfl (fun W => by kernel_rfl) (fun W hR => (Qcv (wget x1 1) (wget x1 5) (wget x1 9) (wget x1 13)) W) ?_
  refine Qaw (.tuple #[.int .u32 (wv (qA2 (wget x1 1) (wget x1 5) (wget x1 9) (wget x1 13))), .int .u32 (wv (qB2 (wget x1 1) (wget x1 5) (wget x1 9) (wget x1 13))), .int .u32 (wv (qC2 (wget x1 1) (wget x1 5) (wget x1 9) (wget x1 13))), .int .u32 (wv (qD2 (wget x1 1) (wget x1 5) (wget x1 9) (wget x1 13)))]) kj kj rfl (fun W => by kernel_rfl) ?_
  refine Qaw (.int .u32 (wv (qA2 (wget x1 1) (wget x1 5) (wget x1 9) (wget x1 13)))) kj kj rfl (fun W => by kernel_rfl) ?_
  refine Qaw (.int .u32 (wv (qB2 (wget x1 1) (wget x1 5) (wget x1 9) (wget x1 13)))) kj kj rfl (fun W => by kernel_rfl) ?_
  refine Qaw (.int .u32 (wv (qC2 (wget x1 1) (wget x1 5) (wget x1 9) (wget x1 13)))) kj kj rfl (fun W => by kernel_rfl) ?_
  refine Qaw (.int .u32 (wv (qD2 (wget x1 1) (wget x1 5) (wget x1 9) (wget x1 13)))) kj kj rfl (fun W => by kernel_rfl) ?_
  refine Qaw (.pointer (some ⟨g8, 1, none⟩)) kj kj rfl (fun W => by kernel_rfl) ?_
  refine QaL rfl ?_
  refine Qaw (.pointer (some ⟨g8, 5, none⟩)) kj kj rfl (fun W => by kernel_rfl) ?_
  refine QaL rfl ?_
  refine Qaw (.pointer (some ⟨g8, 9, none⟩)) kj kj rfl (fun W => by kernel_rfl) ?_
  refine QaL rfl ?_
  refine Qaw (.pointer (some ⟨g8, 13, none⟩)) kj kj rfl (fun W => by kernel_rfl) ?_
  refine QaL rfl ?_
  refine Qds (hF _ kj fun W16 e16 => ?_)
  simp only [List.nil_append, List.cons_append, fins, up]
  clear hF
  have x16 : Ext w W16 := Ext.tr x15 e16
  have r8_16 := (Qad r8_15 e16)
  have r27_16 := (Qad r27_15 e16)
  refine QaG _ g8 _ (ints .u32 ((x1.map wv).set 1 (wv (qA2 (wget x1 1) (wget x1 5) (wget x1 9) (wget x1 13))))) 199 r8_16 rfl (Qai 162 _ _ g8 1 199 _ _ r8_16 rfl kj kj kj (Nat.lt_of_lt_of_eq (show 1 < 16 by decide) (QaC h1).symm)) (fun W hp => Puts.row hp r27_16 (Qap r8_13_22 l27)) fun W17 p17 r8_17 => ?_
  have x17 : Ext w W17 := Puts.ext p17 x16 b8
  have r27_17 := (Puts.row p17 r27_16 (Qap r8_13_22 l27))
  refine QaG _ g8 _ (ints .u32 (((x1.map wv).set 1 (wv (qA2 (wget x1 1) (wget x1 5) (wget x1 9) (wget x1 13)))).set 5 (wv (qB2 (wget x1 1) (wget x1 5) (wget x1 9) (wget x1 13))))) 199 r8_17 rfl (Qai 162 _ _ g8 5 199 _ _ r8_17 rfl kj kj kj (Nat.lt_of_lt_of_eq (show 5 < 16 by decide) ((List.length_set ..).trans (QaC h1)).symm)) (fun W hp => Puts.row hp r27_17 (Qap r8_13_22 l27)) fun W18 p18 r8_18 => ?_
  have x18 : Ext w W18 := Puts.ext p18 x17 b8
  have r27_18 := (Puts.row p18 r27_17 (Qap r8_13_22 l27))
  refine QaG _ g8 _ (ints .u32 ((((x1.map wv).set 1 (wv (qA2 (wget x1 1) (wget x1 5) (wget x1 9) (wget x1 13)))).set 5 (wv (qB2 (wget x1 1) (wget x1 5) (wget x1 9) (wget x1 13)))).set 9 (wv (qC2 (wget x1 1) (wget x1 5) (wget x1 9) (wget x1 13))))) 199 r8_18 rfl (Qai 162 _ _ g8 9 199 _ _ r8_18 rfl kj kj kj (Nat.lt_of_lt_of_eq (show 9 < 16 by decide) ((List.length_set ..).trans ((List.length_set ..).trans (QaC h1))).symm)) (fun W hp => Puts.row hp r27_18 (Qap r8_13_22 l27)) fun W19 p19 r8_19 => ?_
  have x19 : Ext w W19 := Puts.ext p19 x18 b8
  have r27_19 := (Puts.row p19 r27_18 (Qap r8_13_22 l27))
  refine QaG _ g8 _ (ints .u32 (((((x1.map wv).set 1 (wv (qA2 (wget x1 1) (wget x1 5) (wget x1 9) (wget x1 13)))).set 5 (wv (qB2 (wget x1 1) (wget x1 5) (wget x1 9) (wget x1 13)))).set 9 (wv (qC2 (wget x1 1) (wget x1 5) (wget x1 9) (wget x1 13)))).set 13 (wv (qD2 (wget x1 1) (wget x1 5) (wget x1 9) (wget x1 13))))) 199 r8_19 rfl (Qai 162 _ _ g8 13 199 _ _ r8_19 rfl kj kj kj (Nat.lt_of_lt_of_eq (show 13 < 16 by decide) ((List.length_set ..).trans ((List.length_set ..).trans ((List.length_set ..).trans (QaC h1)))).symm)) (fun W hp => Puts.row hp r27_19 (Qap r8_13_22 l27)) fun W20 p20 r8_20 => ?_
  have x20 : Ext w W20 := Puts.ext p20 x19 b8
  refine Qcr ?_
  obtain ⟨x2, ex2⟩ : ∃ z : List Wd, z = qrt x1 1 5 9 13 := ⟨_, rfl⟩
  have h2 : x2.length = 16 := by rw [ex2, QcF, h1]
  have r8_20_28 : W20.heap[g8]? = some (.cells (ints .u32 (x2.map wv)) 199) := QaA r8_20 (by rw [ex2]; unfold qrt; simp only [List.map_set])
  refine hK25 _ _ ?_
  refine Qab ?_
  refine Qaa (.int .i64 2) 56 rfl kj kj ?_
  refine Qaa (.int .i64 2) 19 rfl kj kj ?_
  refine Qac ?_
  show Code.rounds _ _ _ 7 _ _
  show Code.wp _ _ (Exit.then (Code.rounds _ _ _ 6) _) _ _
  refine wp_seq_k fun K29 hK29 => ?_
  refine Qab ?_
  refine Qaa (.bool true) 20 rfl kj kj ?_
  refine Qac ?_
  refine hK29 _ _ ?_
  refine wp_seq_k fun K30 hK30 => ?_
  refine cond_true kj ?_
  refine wp_skip ?_
  refine hK30 _ _ ?_
  refine wp_seq_k fun K31 hK31 => ?_
  refine wp_block ?_
  refine wp_seq_k fun K32 hK32 => ?_
  refine Qab ?_
  refine Qaa (.agg (ints .i64 ([2, 6, 10, 14]))) 21 rfl kj kj ?_
  refine Qaq ((Array.replicate 4 (.int .i64 0))) 216 7 rfl kj kj fun g33 W21 l33 e21 r33_21 => ?_
  have x21 : Ext w W21 := Ext.tr x20 e21
  have b33 : w.heap.size ≤ g33 := Nat.le_trans x20.size l33
  refine Qah g33 _ (ints .i64 ([2, 6, 10, 14])) 216 r33_21 rfl kj (Qam 216 _ _ g33 216 _ _ r33_21 rfl kj kj (isz (n := 4) kj kj) (eqsz (n := 4) kj kj) (Qay _ _)) fun W22 p22 r33_22 => ?_
  have x22 : Ext w W22 := Puts.ext p22 x21 b33
  refine Qac ?_
  refine hK32 _ _ ?_
  refine Qbd (fun W => W.heap[g33]? = some (.cells (ints .i64 ([2, 6, 10, 14])) 216)) [⟨none, [(7, none)]⟩, ⟨none, [(23, some 0)]⟩, ⟨none, [(7, none)]⟩, ⟨none, [(25, some 2)]⟩, ⟨none, [(7, none)]⟩, ⟨none, [(27, some 4)]⟩, ⟨none, [(7, none)]⟩, ⟨none, [(29, some 6)]⟩, ⟨none, [(7, none)]⟩, ⟨none, [(31, some 8)]⟩, ⟨none, [(5, none), (32, some 9)]⟩, ⟨none, [(33, some 10)]⟩, ⟨none, [(7, none)]⟩, ⟨none, [(35, some 12)]⟩, ⟨none, [(5, none), (36, some 13)]⟩, ⟨none, [(37, some 14)]⟩, ⟨none, [(7, none)]⟩, ⟨none, [(39, some 16)]⟩, ⟨none, [(5, none), (40, some 17)]⟩, ⟨none, [(41, some 18)]⟩, ⟨none, [(7, none)]⟩, ⟨none, [(43, some 20)]⟩, ⟨none, [(5, none), (44, some 21)]⟩, ⟨none, [(45, some 22)]⟩, ⟨none, [(34, some 11), (38, some 15), (42, some 19), (46, some 23)]⟩, ⟨none, [(47, some 24)]⟩, ⟨none, [(22, some 25)]⟩, ⟨none, [(22, some 25)]⟩, ⟨none, [(22, some 25)]⟩, ⟨none, [(22, some 25)]⟩, ⟨none, [(5, none), (24, some 1)]⟩, ⟨none, [(52, some 30), (48, some 26)]⟩, ⟨none, [(5, none), (26, some 3)]⟩, ⟨none, [(53, some 32), (49, some 27)]⟩, ⟨none, [(5, none), (28, some 5)]⟩, ⟨none, [(54, some 34), (50, some 28)]⟩, ⟨none, [(5, none), (30, some 7)]⟩, ⟨none, [(55, some 36), (51, some 29)]⟩] [] [2, 3, 4, 5, 6, 7, 27, 28, 29, 32, 34, 36] kj kj kj (fun W hR => Qad r33_22 hR) fun F hF => ?_
  refine Qaw (.pointer (some ⟨g33, 0, none⟩)) kj kj rfl (fun W => by kernel_rfl) ?_
  refine Qa6 (.int .i64 2) kj kj kj rfl (fun W hR => (Qag 3 _ g33 0 216 _ (.int .i64 2) _ (Qad (Qad r33_22 (Qak _)) hR) rfl kj kj kj)) ?_
  refine Qaw (.pointer (some ⟨g33, 1, none⟩)) kj kj rfl (fun W => by kernel_rfl) ?_
  refine Qbj (.int .i64 6) kj kj kj rfl (fun W hW => (Qag 3 _ g33 1 216 _ (.int .i64 6) _ hW rfl kj kj kj)) ?_
  refine Qaw (.pointer (some ⟨g33, 2, none⟩)) kj kj rfl (fun W => by kernel_rfl) ?_
  refine Qbj (.int .i64 10) kj kj kj rfl (fun W hW => (Qag 3 _ g33 2 216 _ (.int .i64 10) _ hW rfl kj kj kj)) ?_
  refine Qaw (.pointer (some ⟨g33, 3, none⟩)) kj kj rfl (fun W => by kernel_rfl) ?_
  refine Qbj (.int .i64 14) kj kj kj rfl (fun W hW => (Qag 3 _ g33 3 216 _ (.int .i64 14) _ hW rfl kj kj kj)) ?_
  refine Qaw (.pointer (some ⟨g33, 0, none⟩)) kj kj rfl (fun W => by kernel_rfl) ?_
  refine Qa6 (.int .i64 2) kj kj kj rfl (fun W hR => (Qag 3 _ g33 0 216 _ (.int .i64 2) _ (Qad (Qad r33_22 (Qak _)) hR) rfl kj kj kj)) ?_
  refine Qaw (.pointer (some ⟨g8, 2, none⟩)) kj kj rfl (fun W => by kernel_rfl) ?_
  have r8_21 := (Qad r8_20_28 e21)
  have r8_22 := (Puts.row p22 r8_21 (Qae r8_20_28 l33))
  refine Qa6 (.int .u32 (wv (wget x2 2))) kj kj kj rfl (fun W hR => (Qag 162 _ g8 2 199 _ (.int .u32 (wv (wget x2 2))) _ (Qad (Qad r8_22 (Qak _)) hR) rfl kj ((Qa1 _ _ _ (Nat.lt_of_lt_of_eq (by decide) (QaC h2).symm)).trans (congrArg (fun z => some (Value.int .u32 z)) (QaM x2 2))) kj)) ?_
  refine Qaw (.pointer (some ⟨g33, 1, none⟩)) kj kj rfl (fun W => by kernel_rfl) ?_
  refine Qa6 (.int .i64 6) kj kj kj rfl (fun W hR => (Qag 3 _ g33 1 216 _ (.int .i64 6) _ (Qad (Qad r33_22 (Qak _)) hR) rfl kj kj kj)) ?_
  refine Qaw (.pointer (some ⟨g8, 6, none⟩)) kj kj rfl (fun W => by kernel_rfl) ?_
  refine Qa6 (.int .u32 (wv (wget x2 6))) kj kj kj rfl (fun W hR => (Qag 162 _ g8 6 199 _ (.int .u32 (wv (wget x2 6))) _ (Qad (Qad r8_22 (Qak _)) hR) rfl kj ((Qa1 _ _ _ (Nat.lt_of_lt_of_eq (by decide) (QaC h2).symm)).trans (congrArg (fun z => some (Value.int .u32 z)) (QaM x2 6))) kj)) ?_
  refine Qaw (.pointer (some ⟨g33, 2, none⟩)) kj kj rfl (fun W => by kernel_rfl) ?_
  refine Qa6 (.int .i64 10) kj kj kj rfl (fun W hR => (Qag 3 _ g33 2 216 _ (.int .i64 10) _ (Qad (Qad r33_22 (Qak _)) hR) rfl kj kj kj)) ?_
  refine Qaw (.pointer (some ⟨g8, 10, none⟩)) kj kj rfl (fun W => by kernel_rfl) ?_
  refine Qa6 (.int .u32 (wv (wget x2 10))) kj kj kj rfl (fun W hR => (Qag 162 _ g8 10 199 _ (.int .u32 (wv (wget x2 10))) _ (Qad (Qad r8_22 (Qak _)) hR) rfl kj ((Qa1 _ _ _ (Nat.lt_of_lt_of_eq (by decide) (QaC h2).symm)).trans (congrArg (fun z => some (Value.int .u32 z)) (QaM x2 10))) kj)) ?_
  refine Qaw (.pointer (some ⟨g33, 3, none⟩)) kj kj rfl (fun W => by kernel_rfl) ?_
  refine Qa6 (.int .i64 14) kj kj kj rfl (fun W hR => (Qag 3 _ g33 3 216 _ (.int .i64 14) _ (Qad (Qad r33_22 (Qak _)) hR) rfl kj kj kj)) ?_
  refine Qaw (.pointer (some ⟨g8, 14, none⟩)) kj kj rfl (fun W => by kernel_rfl) ?_
  refine Qa6 (.int .u32 (wv (wget x2 14))) kj kj kj rfl (fun W hR => (Qag 162 _ g8 14 199 _ (.int .u32 (wv (wget x2 14))) _ (Qad (Qad r8_22 (Qak _)) hR) rfl kj ((Qa1 _ _ _ (Nat.lt_of_lt_of_eq (by decide) (QaC h2).symm)).trans (congrArg (fun z => some (Value.int .u32 z)) (QaM x2 14))) kj)) ?_
  refine QdJ (.tuple #[.int .u32 (wv (qA2 (wget x2 2) (wget x2 6) (wget x2 10) (wget x2 14))), .int .u32 (wv (qB2 (wget x2 2) (wget x2 6) (wget x2 10) (wget x2 14))), .int .u32 (wv (qC2 (wget x2 2) (wget x2 6) (wget x2 10) (wget x2 14))), .int .u32 (wv (qD2 (wget x2 2) (wget x2 6) (wget x2 10) (wget x2 14)))]) 156 #[.int .u32 (wv (wget x2 2)), .int .u32 (wv (wget x2 6)), .int .u32 (wv (wget x2 10)), .int .u32 (wv (wget x2 14))] kj kj kj rfl (fun W => by kernel_rfl) (fun W hR => (Qcv (wget x2 2) (wget x2 6) (wget x2 10) (wget x2 14)) W) ?_
  refine Qaw (.tuple #[.int .u32 (wv (qA2 (wget x2 2) (wget x2 6) (wget x2 10) (wget x2 14))), .int .u32 (wv (qB2 (wget x2 2) (wget x2 6) (wget x2 10) (wget x2 14))), .int .u32 (wv (qC2 (wget x2 2) (wget x2 6) (wget x2 10) (wget x2 14))), .int .u32 (wv (qD2 (wget x2 2) (wget x2 6) (wget x2 10) (wget x2 14)))]) kj kj rfl (fun W => by kernel_rfl) ?_
  refine Qaw (.int .u32 (wv (qA2 (wget x2 2) (wget x2 6) (wget x2 10) (wget x2 14)))) kj kj rfl (fun W => by kernel_rfl) ?_
  refine Qaw (.int .u32 (wv (qB2 (wget x2 2) (wget x2 6) (wget x2 10) (wget x2 14)))) kj kj rfl (fun W => by kernel_rfl) ?_
  refine Qaw (.int .u32 (wv (qC2 (wget x2 2) (wget x2 6) (wget x2 10) (wget x2 14)))) kj kj rfl (fun W => by kernel_rfl) ?_
  refine Qaw (.int .u32 (wv (qD2 (wget x2 2) (wget x2 6) (wget x2 10) (wget x2 14)))) kj kj rfl (fun W => by kernel_rfl) ?_
  refine Qaw (.pointer (some ⟨g8, 2, none⟩)) kj kj rfl (fun W => by kernel_rfl) ?_
  refine QaL rfl ?_
  refine Qaw (.pointer (some ⟨g8, 6, none⟩)) kj kj rfl (fun W => by kernel_rfl) ?_
  refine QaL rfl ?_
  refine Qaw (.pointer (some ⟨g8, 10, none⟩)) kj kj rfl (fun W => by kernel_rfl) ?_
  refine QaL rfl ?_
  refine Qaw (.pointer (some ⟨g8, 14, none⟩)) kj kj rfl (fun W => by kernel_rfl) ?_
  refine QaL rfl ?_
  refine Qds (hF _ kj fun W23 e23 => ?_)
  simp only [List.nil_append, List.cons_append, fins, up]
  clear hF
  have x23 : Ext w W23 := Ext.tr x22 e23
  have r8_23 := (Qad r8_22 e23)
  have r33_23 := (Qad r33_22 e23)
  refine QaG _ g8 _ (ints .u32 ((x2.map wv).set 2 (wv (qA2 (wget x2 2) (wget x2 6) (wget x2 10) (wget x2 14))))) 199 r8_23 rfl (Qai 162 _ _ g8 2 199 _ _ r8_23 rfl kj kj kj (Nat.lt_of_lt_of_eq (show 2 < 16 by decide) (QaC h2).symm)) (fun W hp => Puts.row hp r33_23 (Qap r8_20_28 l33)) fun W24 p24 r8_24 => ?_
  have x24 : Ext w W24 := Puts.ext p24 x23 b8
  have r33_24 := (Puts.row p24 r33_23 (Qap r8_20_28 l33))
  refine QaG _ g8 _ (ints .u32 (((x2.map wv).set 2 (wv (qA2 (wget x2 2) (wget x2 6) (wget x2 10) (wget x2 14)))).set 6 (wv (qB2 (wget x2 2) (wget x2 6) (wget x2 10) (wget x2 14))))) 199 r8_24 rfl (Qai 162 _ _ g8 6 199 _ _ r8_24 rfl kj kj kj (Nat.lt_of_lt_of_eq (show 6 < 16 by decide) ((List.length_set ..).trans (QaC h2)).symm)) (fun W hp => Puts.row hp r33_24 (Qap r8_20_28 l33)) fun W25 p25 r8_25 => ?_
  have x25 : Ext w W25 := Puts.ext p25 x24 b8
  have r33_25 := (Puts.row p25 r33_24 (Qap r8_20_28 l33))
  refine QaG _ g8 _ (ints .u32 ((((x2.map wv).set 2 (wv (qA2 (wget x2 2) (wget x2 6) (wget x2 10) (wget x2 14)))).set 6 (wv (qB2 (wget x2 2) (wget x2 6) (wget x2 10) (wget x2 14)))).set 10 (wv (qC2 (wget x2 2) (wget x2 6) (wget x2 10) (wget x2 14))))) 199 r8_25 rfl (Qai 162 _ _ g8 10 199 _ _ r8_25 rfl kj kj kj (Nat.lt_of_lt_of_eq (show 10 < 16 by decide) ((List.length_set ..).trans ((List.length_set ..).trans (QaC h2))).symm)) (fun W hp => Puts.row hp r33_25 (Qap r8_20_28 l33)) fun W26 p26 r8_26 => ?_
  have x26 : Ext w W26 := Puts.ext p26 x25 b8
  have r33_26 := (Puts.row p26 r33_25 (Qap r8_20_28 l33))
  refine QaG _ g8 _ (ints .u32 (((((x2.map wv).set 2 (wv (qA2 (wget x2 2) (wget x2 6) (wget x2 10) (wget x2 14)))).set 6 (wv (qB2 (wget x2 2) (wget x2 6) (wget x2 10) (wget x2 14)))).set 10 (wv (qC2 (wget x2 2) (wget x2 6) (wget x2 10) (wget x2 14)))).set 14 (wv (qD2 (wget x2 2) (wget x2 6) (wget x2 10) (wget x2 14))))) 199 r8_26 rfl (Qai 162 _ _ g8 14 199 _ _ r8_26 rfl kj kj kj (Nat.lt_of_lt_of_eq (show 14 < 16 by decide) ((List.length_set ..).trans ((List.length_set ..).trans ((List.length_set ..).trans (QaC h2)))).symm)) (fun W hp => Puts.row hp r33_26 (Qap r8_20_28 l33)) fun W27 p27 r8_27 => ?_
  have x27 : Ext w W27 := Puts.ext p27 x26 b8
  refine Qcr ?_
  obtain ⟨x3, ex3⟩ : ∃ z : List Wd, z = qrt x2 2 6 10 14 := ⟨_, rfl⟩
  have h3 : x3.length = 16 := by rw [ex3, QcF, h2]
  have r8_27_34 : W27.heap[g8]? = some (.cells (ints .u32 (x3.map wv)) 199) := QaA r8_27 (by rw [ex3]; unfold qrt; simp only [List.map_set])
  refine hK31 _ _ ?_
  refine Qab ?_
  refine Qaa (.int .i64 3) 56 rfl kj kj ?_
  refine Qaa (.int .i64 3) 19 rfl kj kj ?_
  refine Qac ?_
  show Code.rounds _ _ _ 6 _ _
  show Code.wp _ _ (Exit.then (Code.rounds _ _ _ 5) _) _ _
  refine wp_seq_k fun K35 hK35 => ?_
  refine Qab ?_
  refine Qaa (.bool true) 20 rfl kj kj ?_
  refine Qac ?_
  refine hK35 _ _ ?_
  refine wp_seq_k fun K36 hK36 => ?_
  refine cond_true kj ?_
  refine wp_skip ?_
  refine hK36 _ _ ?_
  refine wp_seq_k fun K37 hK37 => ?_
  refine wp_block ?_
  refine wp_seq_k fun K38 hK38 => ?_
  refine Qab ?_
  refine Qaa (.agg (ints .i64 ([3, 7, 11, 15]))) 21 rfl kj kj ?_
  refine Qaq ((Array.replicate 4 (.int .i64 0))) 216 7 rfl kj kj fun g39 W28 l39 e28 r39_28 => ?_
  have x28 : Ext w W28 := Ext.tr x27 e28
  have b39 : w.heap.size ≤ g39 := Nat.le_trans x27.size l39
  refine Qah g39 _ (ints .i64 ([3, 7, 11, 15])) 216 r39_28 rfl kj (Qam 216 _ _ g39 216 _ _ r39_28 rfl kj kj (isz (n := 4) kj kj) (eqsz (n := 4) kj kj) (Qay _ _)) fun W29 p29 r39_29 => ?_
  have x29 : Ext w W29 := Puts.ext p29 x28 b39
  refine Qac ?_
  refine hK38 _ _ ?_
  refine Qbd (fun W => W.heap[g39]? = some (.cells (ints .i64 ([3, 7, 11, 15])) 216)) [⟨none, [(7, none)]⟩, ⟨none, [(23, some 0)]⟩, ⟨none, [(7, none)]⟩, ⟨none, [(25, some 2)]⟩, ⟨none, [(7, none)]⟩, ⟨none, [(27, some 4)]⟩, ⟨none, [(7, none)]⟩, ⟨none, [(29, some 6)]⟩, ⟨none, [(7, none)]⟩, ⟨none, [(31, some 8)]⟩, ⟨none, [(5, none), (32, some 9)]⟩, ⟨none, [(33, some 10)]⟩, ⟨none, [(7, none)]⟩, ⟨none, [(35, some 12)]⟩, ⟨none, [(5, none), (36, some 13)]⟩, ⟨none, [(37, some 14)]⟩, ⟨none, [(7, none)]⟩, ⟨none, [(39, some 16)]⟩, ⟨none, [(5, none), (40, some 17)]⟩, ⟨none, [(41, some 18)]⟩, ⟨none, [(7, none)]⟩, ⟨none, [(43, some 20)]⟩, ⟨none, [(5, none), (44, some 21)]⟩, ⟨none, [(45, some 22)]⟩, ⟨none, [(34, some 11), (38, some 15), (42, some 19), (46, some 23)]⟩, ⟨none, [(47, some 24)]⟩, ⟨none, [(22, some 25)]⟩, ⟨none, [(22, some 25)]⟩, ⟨none, [(22, some 25)]⟩, ⟨none, [(22, some 25)]⟩, ⟨none, [(5, none), (24, some 1)]⟩, ⟨none, [(52, some 30), (48, some 26)]⟩, ⟨none, [(5, none), (26, some 3)]⟩, ⟨none, [(53, some 32), (49, some 27)]⟩, ⟨none, [(5, none), (28, some 5)]⟩, ⟨none, [(54, some 34), (50, some 28)]⟩, ⟨none, [(5, none), (30, some 7)]⟩, ⟨none, [(55, some 36), (51, some 29)]⟩] [] [2, 3, 4, 5, 6, 7, 27, 28, 29, 32, 34, 36] kj kj kj (fun W hR => Qad r39_29 hR) fun F hF => ?_
  refine Qaw (.pointer (some ⟨g39, 0, none⟩)) kj kj rfl (fun W => by kernel_rfl) ?_
  refine Qa6 (.int .i64 3) kj kj kj rfl (fun W hR => (Qag 3 _ g39 0 216 _ (.int .i64 3) _ (Qad (Qad r39_29 (Qak _)) hR) rfl kj kj kj)) ?_
  refine Qaw (.pointer (some ⟨g39, 1, none⟩)) kj kj rfl (fun W => by kernel_rfl) ?_
  refine Qbj (.int .i64 7) kj kj kj rfl (fun W hW => (Qag 3 _ g39 1 216 _ (.int .i64 7) _ hW rfl kj kj kj)) ?_
  refine Qaw (.pointer (some ⟨g39, 2, none⟩)) kj kj rfl (fun W => by kernel_rfl) ?_
  refine Qbj (.int .i64 11) kj kj kj rfl (fun W hW => (Qag 3 _ g39 2 216 _ (.int .i64 11) _ hW rfl kj kj kj)) ?_
  refine Qaw (.pointer (some ⟨g39, 3, none⟩)) kj kj rfl (fun W => by kernel_rfl) ?_
  refine Qbj (.int .i64 15) kj kj kj rfl (fun W hW => (Qag 3 _ g39 3 216 _ (.int .i64 15) _ hW rfl kj kj kj)) ?_
  refine Qaw (.pointer (some ⟨g39, 0, none⟩)) kj kj rfl (fun W => by kernel_rfl) ?_
  refine Qa6 (.int .i64 3) kj kj kj rfl (fun W hR => (Qag 3 _ g39 0 216 _ (.int .i64 3) _ (Qad (Qad r39_29 (Qak _)) hR) rfl kj kj kj)) ?_
  refine Qaw (.pointer (some ⟨g8, 3, none⟩)) kj kj rfl (fun W => by kernel_rfl) ?_
  have r8_28 := (Qad r8_27_34 e28)
  have r8_29 := (Puts.row p29 r8_28 (Qae r8_27_34 l39))
  refine Qa6 (.int .u32 (wv (wget x3 3))) kj kj kj rfl (fun W hR => (Qag 162 _ g8 3 199 _ (.int .u32 (wv (wget x3 3))) _ (Qad (Qad r8_29 (Qak _)) hR) rfl kj ((Qa1 _ _ _ (Nat.lt_of_lt_of_eq (by decide) (QaC h3).symm)).trans (congrArg (fun z => some (Value.int .u32 z)) (QaM x3 3))) kj)) ?_
  refine Qaw (.pointer (some ⟨g39, 1, none⟩)) kj kj rfl (fun W => by kernel_rfl) ?_
  refine Qa6 (.int .i64 7) kj kj kj rfl (fun W hR => (Qag 3 _ g39 1 216 _ (.int .i64 7) _ (Qad (Qad r39_29 (Qak _)) hR) rfl kj kj kj)) ?_
  refine Qaw (.pointer (some ⟨g8, 7, none⟩)) kj kj rfl (fun W => by kernel_rfl) ?_
  refine Qa6 (.int .u32 (wv (wget x3 7))) kj kj kj rfl (fun W hR => (Qag 162 _ g8 7 199 _ (.int .u32 (wv (wget x3 7))) _ (Qad (Qad r8_29 (Qak _)) hR) rfl kj ((Qa1 _ _ _ (Nat.lt_of_lt_of_eq (by decide) (QaC h3).symm)).trans (congrArg (fun z => some (Value.int .u32 z)) (QaM x3 7))) kj)) ?_
  refine Qaw (.pointer (some ⟨g39, 2, none⟩)) kj kj rfl (fun W => by kernel_rfl) ?_
  refine Qa6 (.int .i64 11) kj kj kj rfl (fun W hR => (Qag 3 _ g39 2 216 _ (.int .i64 11) _ (Qad (Qad r39_29 (Qak _)) hR) rfl kj kj kj)) ?_
  refine Qaw (.pointer (some ⟨g8, 11, none⟩)) kj kj rfl (fun W => by kernel_rfl) ?_
  refine Qa6 (.int .u32 (wv (wget x3 11))) kj kj kj rfl (fun W hR => (Qag 162 _ g8 11 199 _ (.int .u32 (wv (wget x3 11))) _ (Qad (Qad r8_29 (Qak _)) hR) rfl kj ((Qa1 _ _ _ (Nat.lt_of_lt_of_eq (by decide) (QaC h3).symm)).trans (congrArg (fun z => some (Value.int .u32 z)) (QaM x3 11))) kj)) ?_
  refine Qaw (.pointer (some ⟨g39, 3, none⟩)) kj kj rfl (fun W => by kernel_rfl) ?_
  refine Qa6 (.int .i64 15) kj kj kj rfl (fun W hR => (Qag 3 _ g39 3 216 _ (.int .i64 15) _ (Qad (Qad r39_29 (Qak _)) hR) rfl kj kj kj)) ?_
  refine Qaw (.pointer (some ⟨g8, 15, none⟩)) kj kj rfl (fun W => by kernel_rfl) ?_
  refine Qa6 (.int .u32 (wv (wget x3 15))) kj kj kj rfl (fun W hR => (Qag 162 _ g8 15 199 _ (.int .u32 (wv (wget x3 15))) _ (Qad (Qad r8_29 (Qak _)) hR) rfl kj ((Qa1 _ _ _ (Nat.lt_of_lt_of_eq (by decide) (QaC h3).symm)).trans (congrArg (fun z => some (Value.int .u32 z)) (QaM x3 15))) kj)) ?_
  refine QdJ (.tuple #[.int .u32 (wv (qA2 (wget x3 3) (wget x3 7) (wget x3 11) (wget x3 15))), .int .u32 (wv (qB2 (wget x3 3) (wget x3 7) (wget x3 11) (wget x3 15))), .int .u32 (wv (qC2 (wget x3 3) (wget x3 7) (wget x3 11) (wget x3 15))), .int .u32 (wv (qD2 (wget x3 3) (wget x3 7) (wget x3 11) (wget x3 15)))]) 156 #[.int .u32 (wv (wget x3 3)), .int .u32 (wv (wget x3 7)), .int .u32 (wv (wget x3 11)), .int .u32 (wv (wget x3 15))] kj kj kj rfl (fun W => by kernel_rfl) (fun W hR => (Qcv (wget x3 3) (wget x3 7) (wget x3 11) (wget x3 15)) W) ?_
  refine Qaw (.tuple #[.int .u32 (wv (qA2 (wget x3 3) (wget x3 7) (wget x3 11) (wget x3 15))), .int .u32 (wv (qB2 (wget x3 3) (wget x3 7) (wget x3 11) (wget x3 15))), .int .u32 (wv (qC2 (wget x3 3) (wget x3 7) (wget x3 11) (wget x3 15))), .int .u32 (wv (qD2 (wget x3 3) (wget x3 7) (wget x3 11) (wget x3 15)))]) kj kj rfl (fun W => by kernel_rfl) ?_
  refine Qaw (.int .u32 (wv (qA2 (wget x3 3) (wget x3 7) (wget x3 11) (wget x3 15)))) kj kj rfl (fun W => by kernel_rfl) ?_
  refine Qaw (.int .u32 (wv (qB2 (wget x3 3) (wget x3 7) (wget x3 11) (wget x3 15)))) kj kj rfl (fun W => by kernel_rfl) ?_
  refine Qaw (.int .u32 (wv (qC2 (wget x3 3) (wget x3 7) (wget x3 11) (wget x3 15)))) kj kj rfl (fun W => by kernel_rfl) ?_
  refine Qaw (.int .u32 (wv (qD2 (wget x3 3) (wget x3 7) (wget x3 11) (wget x3 15)))) kj kj rfl (fun W => by kernel_rfl) ?_
  refine Qaw (.pointer (some ⟨g8, 3, none⟩)) kj kj rfl (fun W => by kernel_rfl) ?_
  refine QaL rfl ?_
  refine Qaw (.pointer (some ⟨g8, 7, none⟩)) kj kj rfl (fun W => by kernel_rfl) ?_
  refine QaL rfl ?_
  refine Qaw (.pointer (some ⟨g8, 11, none⟩)) kj kj rfl (fun W => by kernel_rfl) ?_
  refine QaL rfl ?_
  refine Qaw (.pointer (some ⟨g8, 15, none⟩)) kj kj rfl (fun W => by kernel_rfl) ?_
  refine QaL rfl ?_
  refine Qds (hF _ kj fun W30 e30 => ?_)
  simp only [List.nil_append, List.cons_append, fins, up]
  clear hF
  have x30 : Ext w W30 := Ext.tr x29 e30
  have r8_30 := (Qad r8_29 e30)
  have r39_30 := (Qad r39_29 e30)
  refine QaG _ g8 _ (ints .u32 ((x3.map wv).set 3 (wv (qA2 (wget x3 3) (wget x3 7) (wget x3 11) (wget x3 15))))) 199 r8_30 rfl (Qai 162 _ _ g8 3 199 _ _ r8_30 rfl kj kj kj (Nat.lt_of_lt_of_eq (show 3 < 16 by decide) (QaC h3).symm)) (fun W hp => Puts.row hp r39_30 (Qap r8_27_34 l39)) fun W31 p31 r8_31 => ?_
  have x31 : Ext w W31 := Puts.ext p31 x30 b8
  have r39_31 := (Puts.row p31 r39_30 (Qap r8_27_34 l39))
  refine QaG _ g8 _ (ints .u32 (((x3.map wv).set 3 (wv (qA2 (wget x3 3) (wget x3 7) (wget x3 11) (wget x3 15)))).set 7 (wv (qB2 (wget x3 3) (wget x3 7) (wget x3 11) (wget x3 15))))) 199 r8_31 rfl (Qai 162 _ _ g8 7 199 _ _ r8_31 rfl kj kj kj (Nat.lt_of_lt_of_eq (show 7 < 16 by decide) ((List.length_set ..).trans (QaC h3)).symm)) (fun W hp => Puts.row hp r39_31 (Qap r8_27_34 l39)) fun W32 p32 r8_32 => ?_
  have x32 : Ext w W32 := Puts.ext p32 x31 b8
  have r39_32 := (Puts.row p32 r39_31 (Qap r8_27_34 l39))
  refine QaG _ g8 _ (ints .u32 ((((x3.map wv).set 3 (wv (qA2 (wget x3 3) (wget x3 7) (wget x3 11) (wget x3 15)))).set 7 (wv (qB2 (wget x3 3) (wget x3 7) (wget x3 11) (wget x3 15)))).set 11 (wv (qC2 (wget x3 3) (wget x3 7) (wget x3 11) (wget x3 15))))) 199 r8_32 rfl (Qai 162 _ _ g8 11 199 _ _ r8_32 rfl kj kj kj (Nat.lt_of_lt_of_eq (show 11 < 16 by decide) ((List.length_set ..).trans ((List.length_set ..).trans (QaC h3))).symm)) (fun W hp => Puts.row hp r39_32 (Qap r8_27_34 l39)) fun W33 p33 r8_33 => ?_
  have x33 : Ext w W33 := Puts.ext p33 x32 b8
  have r39_33 := (Puts.row p33 r39_32 (Qap r8_27_34 l39))
  refine QaG _ g8 _ (ints .u32 (((((x3.map wv).set 3 (wv (qA2 (wget x3 3) (wget x3 7) (wget x3 11) (wget x3 15)))).set 7 (wv (qB2 (wget x3 3) (wget x3 7) (wget x3 11) (wget x3 15)))).set 11 (wv (qC2 (wget x3 3) (wget x3 7) (wget x3 11) (wget x3 15)))).set 15 (wv (qD2 (wget x3 3) (wget x3 7) (wget x3 11) (wget x3 15))))) 199 r8_33 rfl (Qai 162 _ _ g8 15 199 _ _ r8_33 rfl kj kj kj (Nat.lt_of_lt_of_eq (show 15 < 16 by decide) ((List.length_set ..).trans ((List.length_set ..).trans ((List.length_set ..).trans (QaC h3)))).symm)) (fun W hp => Puts.row hp r39_33 (Qap r8_27_34 l39)) fun W34 p34 r8_34 => ?_
  have x34 : Ext w W34 := Puts.ext p34 x33 b8
  refine Qcr ?_
  obtain ⟨x4, ex4⟩ : ∃ z : List Wd, z = qrt x3 3 7 11 15 := ⟨_, rfl⟩
  have h4 : x4.length = 16 := by rw [ex4, QcF, h3]
  have r8_34_40 : W34.heap[g8]? = some (.cells (ints .u32 (x4.map wv)) 199) := QaA r8_34 (by rw [ex4]; unfold qrt; simp only [List.map_set])
  refine hK37 _ _ ?_
  refine Qab ?_
  refine Qaa (.int .i64 4) 56 rfl kj kj ?_
  refine Qaa (.int .i64 4) 19 rfl kj kj ?_
  refine Qac ?_
  show Code.rounds _ _ _ 5 _ _
  show Code.wp _ _ (Exit.then (Code.rounds _ _ _ 4) _) _ _
  refine wp_seq_k fun K41 hK41 => ?_
  refine Qab ?_
  refine Qaa (.bool true) 20 rfl kj kj ?_
  refine Qac ?_
  refine hK41 _ _ ?_
  refine wp_seq_k fun K42 hK42 => ?_
  refine cond_true kj ?_
  refine wp_skip ?_
  refine hK42 _ _ ?_
  refine wp_seq_k fun K43 hK43 => ?_
  refine wp_block ?_
  refine wp_seq_k fun K44 hK44 => ?_
  refine Qab ?_
  refine Qaa (.agg (ints .i64 ([0, 5, 10, 15]))) 21 rfl kj kj ?_
  refine Qaq ((Array.replicate 4 (.int .i64 0))) 216 7 rfl kj kj fun g45 W35 l45 e35 r45_35 => ?_
  have x35 : Ext w W35 := Ext.tr x34 e35
  have b45 : w.heap.size ≤ g45 := Nat.le_trans x34.size l45
  refine Qah g45 _ (ints .i64 ([0, 5, 10, 15])) 216 r45_35 rfl kj (Qam 216 _ _ g45 216 _ _ r45_35 rfl kj kj (isz (n := 4) kj kj) (eqsz (n := 4) kj kj) (Qay _ _)) fun W36 p36 r45_36 => ?_
  have x36 : Ext w W36 := Puts.ext p36 x35 b45
  refine Qac ?_
  refine hK44 _ _ ?_
  refine Qbd (fun W => W.heap[g45]? = some (.cells (ints .i64 ([0, 5, 10, 15])) 216)) [⟨none, [(7, none)]⟩, ⟨none, [(23, some 0)]⟩, ⟨none, [(7, none)]⟩, ⟨none, [(25, some 2)]⟩, ⟨none, [(7, none)]⟩, ⟨none, [(27, some 4)]⟩, ⟨none, [(7, none)]⟩, ⟨none, [(29, some 6)]⟩, ⟨none, [(7, none)]⟩, ⟨none, [(31, some 8)]⟩, ⟨none, [(5, none), (32, some 9)]⟩, ⟨none, [(33, some 10)]⟩, ⟨none, [(7, none)]⟩, ⟨none, [(35, some 12)]⟩, ⟨none, [(5, none), (36, some 13)]⟩, ⟨none, [(37, some 14)]⟩, ⟨none, [(7, none)]⟩, ⟨none, [(39, some 16)]⟩, ⟨none, [(5, none), (40, some 17)]⟩, ⟨none, [(41, some 18)]⟩, ⟨none, [(7, none)]⟩, ⟨none, [(43, some 20)]⟩, ⟨none, [(5, none), (44, some 21)]⟩, ⟨none, [(45, some 22)]⟩, ⟨none, [(34, some 11), (38, some 15), (42, some 19), (46, some 23)]⟩, ⟨none, [(47, some 24)]⟩, ⟨none, [(22, some 25)]⟩, ⟨none, [(22, some 25)]⟩, ⟨none, [(22, some 25)]⟩, ⟨none, [(22, some 25)]⟩, ⟨none, [(5, none), (24, some 1)]⟩, ⟨none, [(52, some 30), (48, some 26)]⟩, ⟨none, [(5, none), (26, some 3)]⟩, ⟨none, [(53, some 32), (49, some 27)]⟩, ⟨none, [(5, none), (28, some 5)]⟩, ⟨none, [(54, some 34), (50, some 28)]⟩, ⟨none, [(5, none), (30, some 7)]⟩, ⟨none, [(55, some 36), (51, some 29)]⟩] [] [2, 3, 4, 5, 6, 7, 27, 28, 29, 32, 34, 36] kj kj kj (fun W hR => Qad r45_36 hR) fun F hF => ?_
  refine Qaw (.pointer (some ⟨g45, 0, none⟩)) kj kj rfl (fun W => by kernel_rfl) ?_
  refine Qa6 (.int .i64 0) kj kj kj rfl (fun W hR => (Qag 3 _ g45 0 216 _ (.int .i64 0) _ (Qad (Qad r45_36 (Qak _)) hR) rfl kj kj kj)) ?_
  refine Qaw (.pointer (some ⟨g45, 1, none⟩)) kj kj rfl (fun W => by kernel_rfl) ?_
  refine Qbj (.int .i64 5) kj kj kj rfl (fun W hW => (Qag 3 _ g45 1 216 _ (.int .i64 5) _ hW rfl kj kj kj)) ?_
  refine Qaw (.pointer (some ⟨g45, 2, none⟩)) kj kj rfl (fun W => by kernel_rfl) ?_
  refine Qbj (.int .i64 10) kj kj kj rfl (fun W hW => (Qag 3 _ g45 2 216 _ (.int .i64 10) _ hW rfl kj kj kj)) ?_
  refine Qaw (.pointer (some ⟨g45, 3, none⟩)) kj kj rfl (fun W => by kernel_rfl) ?_
  refine Qbj (.int .i64 15) kj kj kj rfl (fun W hW => (Qag 3 _ g45 3 216 _ (.int .i64 15) _ hW rfl kj kj kj)) ?_
  refine Qaw (.pointer (some ⟨g45, 0, none⟩)) kj kj rfl (fun W => by kernel_rfl) ?_
  refine Qa6 (.int .i64 0) kj kj kj rfl (fun W hR => (Qag 3 _ g45 0 216 _ (.int .i64 0) _ (Qad (Qad r45_36 (Qak _)) hR) rfl kj kj kj)) ?_
  refine Qaw (.pointer (some ⟨g8, 0, none⟩)) kj kj rfl (fun W => by kernel_rfl) ?_
  have r8_35 := (Qad r8_34_40 e35)
  have r8_36 := (Puts.row p36 r8_35 (Qae r8_34_40 l45))
  refine Qa6 (.int .u32 (wv (wget x4 0))) kj kj kj rfl (fun W hR => (Qag 162 _ g8 0 199 _ (.int .u32 (wv (wget x4 0))) _ (Qad (Qad r8_36 (Qak _)) hR) rfl kj ((Qa1 _ _ _ (Nat.lt_of_lt_of_eq (by decide) (QaC h4).symm)).trans (congrArg (fun z => some (Value.int .u32 z)) (QaM x4 0))) kj)) ?_
  refine Qaw (.pointer (some ⟨g45, 1, none⟩)) kj kj rfl (fun W => by kernel_rfl) ?_
  refine Qa6 (.int .i64 5) kj kj kj rfl (fun W hR => (Qag 3 _ g45 1 216 _ (.int .i64 5) _ (Qad (Qad r45_36 (Qak _)) hR) rfl kj kj kj)) ?_
  refine Qaw (.pointer (some ⟨g8, 5, none⟩)) kj kj rfl (fun W => by kernel_rfl) ?_
  refine Qa6 (.int .u32 (wv (wget x4 5))) kj kj kj rfl (fun W hR => (Qag 162 _ g8 5 199 _ (.int .u32 (wv (wget x4 5))) _ (Qad (Qad r8_36 (Qak _)) hR) rfl kj ((Qa1 _ _ _ (Nat.lt_of_lt_of_eq (by decide) (QaC h4).symm)).trans (congrArg (fun z => some (Value.int .u32 z)) (QaM x4 5))) kj)) ?_
  refine Qaw (.pointer (some ⟨g45, 2, none⟩)) kj kj rfl (fun W => by kernel_rfl) ?_
  refine Qa6 (.int .i64 10) kj kj kj rfl (fun W hR => (Qag 3 _ g45 2 216 _ (.int .i64 10) _ (Qad (Qad r45_36 (Qak _)) hR) rfl kj kj kj)) ?_
  refine Qaw (.pointer (some ⟨g8, 10, none⟩)) kj kj rfl (fun W => by kernel_rfl) ?_
  refine Qa6 (.int .u32 (wv (wget x4 10))) kj kj kj rfl (fun W hR => (Qag 162 _ g8 10 199 _ (.int .u32 (wv (wget x4 10))) _ (Qad (Qad r8_36 (Qak _)) hR) rfl kj ((Qa1 _ _ _ (Nat.lt_of_lt_of_eq (by decide) (QaC h4).symm)).trans (congrArg (fun z => some (Value.int .u32 z)) (QaM x4 10))) kj)) ?_
  refine Qaw (.pointer (some ⟨g45, 3, none⟩)) kj kj rfl (fun W => by kernel_rfl) ?_
  refine Qa6 (.int .i64 15) kj kj kj rfl (fun W hR => (Qag 3 _ g45 3 216 _ (.int .i64 15) _ (Qad (Qad r45_36 (Qak _)) hR) rfl kj kj kj)) ?_
  refine Qaw (.pointer (some ⟨g8, 15, none⟩)) kj kj rfl (fun W => by kernel_rfl) ?_
  refine Qa6 (.int .u32 (wv (wget x4 15))) kj kj kj rfl (fun W hR => (Qag 162 _ g8 15 199 _ (.int .u32 (wv (wget x4 15))) _ (Qad (Qad r8_36 (Qak _)) hR) rfl kj ((Qa1 _ _ _ (Nat.lt_of_lt_of_eq (by decide) (QaC h4).symm)).trans (congrArg (fun z => some (Value.int .u32 z)) (QaM x4 15))) kj)) ?_
  refine QdJ (.tuple #[.int .u32 (wv (qA2 (wget x4 0) (wget x4 5) (wget x4 10) (wget x4 15))), .int .u32 (wv (qB2 (wget x4 0) (wget x4 5) (wget x4 10) (wget x4 15))), .int .u32 (wv (qC2 (wget x4 0) (wget x4 5) (wget x4 10) (wget x4 15))), .int .u32 (wv (qD2 (wget x4 0) (wget x4 5) (wget x4 10) (wget x4 15)))]) 156 #[.int .u32 (wv (wget x4 0)), .int .u32 (wv (wget x4 5)), .int .u32 (wv (wget x4 10)), .int .u32 (wv (wget x4 15))] kj kj kj rfl (fun W => by kernel_rfl) (fun W hR => (Qcv (wget x4 0) (wget x4 5) (wget x4 10) (wget x4 15)) W) ?_
  refine Qaw (.tuple #[.int .u32 (wv (qA2 (wget x4 0) (wget x4 5) (wget x4 10) (wget x4 15))), .int .u32 (wv (qB2 (wget x4 0) (wget x4 5) (wget x4 10) (wget x4 15))), .int .u32 (wv (qC2 (wget x4 0) (wget x4 5) (wget x4 10) (wget x4 15))), .int .u32 (wv (qD2 (wget x4 0) (wget x4 5) (wget x4 10) (wget x4 15)))]) kj kj rfl (fun W => by kernel_rfl) ?_
  refine Qaw (.int .u32 (wv (qA2 (wget x4 0) (wget x4 5) (wget x4 10) (wget x4 15)))) kj kj rfl (fun W => by kernel_rfl) ?_
  refine Qaw (.int .u32 (wv (qB2 (wget x4 0) (wget x4 5) (wget x4 10) (wget x4 15)))) kj kj rfl (fun W => by kernel_rfl) ?_
  refine Qaw (.int .u32 (wv (qC2 (wget x4 0) (wget x4 5) (wget x4 10) (wget x4 15)))) kj kj rfl (fun W => by kernel_rfl) ?_
  refine Qaw (.int .u32 (wv (qD2 (wget x4 0) (wget x4 5) (wget x4 10) (wget x4 15)))) kj kj rfl (fun W => by kernel_rfl) ?_
  refine Qaw (.pointer (some ⟨g8, 0, none⟩)) kj kj rfl (fun W => by kernel_rfl) ?_
  refine QaL rfl ?_
  refine Qaw (.pointer (some ⟨g8, 5, none⟩)) kj kj rfl (fun W => by kernel_rfl) ?_
  refine QaL rfl ?_
  refine Qaw (.pointer (some ⟨g8, 10, none⟩)) kj kj rfl (fun W => by kernel_rfl) ?_
  refine QaL rfl ?_
  refine Qaw (.pointer (some ⟨g8, 15, none⟩)) kj kj rfl (fun W => by kernel_rfl) ?_
  refine QaL rfl ?_
  refine Qds (hF _ kj fun W37 e37 => ?_)
  simp only [List.nil_append, List.cons_append, fins, up]
  clear hF
  have x37 : Ext w W37 := Ext.tr x36 e37
  have r8_37 := (Qad r8_36 e37)
  have r45_37 := (Qad r45_36 e37)
  refine QaG _ g8 _ (ints .u32 ((x4.map wv).set 0 (wv (qA2 (wget x4 0) (wget x4 5) (wget x4 10) (wget x4 15))))) 199 r8_37 rfl (Qai 162 _ _ g8 0 199 _ _ r8_37 rfl kj kj kj (Nat.lt_of_lt_of_eq (show 0 < 16 by decide) (QaC h4).symm)) (fun W hp => Puts.row hp r45_37 (Qap r8_34_40 l45)) fun W38 p38 r8_38 => ?_
  have x38 : Ext w W38 := Puts.ext p38 x37 b8
  have r45_38 := (Puts.row p38 r45_37 (Qap r8_34_40 l45))
  refine QaG _ g8 _ (ints .u32 (((x4.map wv).set 0 (wv (qA2 (wget x4 0) (wget x4 5) (wget x4 10) (wget x4 15)))).set 5 (wv (qB2 (wget x4 0) (wget x4 5) (wget x4 10) (wget x4 15))))) 199 r8_38 rfl (Qai 162 _ _ g8 5 199 _ _ r8_38 rfl kj kj kj (Nat.lt_of_lt_of_eq (show 5 < 16 by decide) ((List.length_set ..).trans (QaC h4)).symm)) (fun W hp => Puts.row hp r45_38 (Qap r8_34_40 l45)) fun W39 p39 r8_39 => ?_
  have x39 : Ext w W39 := Puts.ext p39 x38 b8
  have r45_39 := (Puts.row p39 r45_38 (Qap r8_34_40 l45))
  refine QaG _ g8 _ (ints .u32 ((((x4.map wv).set 0 (wv (qA2 (wget x4 0) (wget x4 5) (wget x4 10) (wget x4 15)))).set 5 (wv (qB2 (wget x4 0) (wget x4 5) (wget x4 10) (wget x4 15)))).set 10 (wv (qC2 (wget x4 0) (wget x4 5) (wget x4 10) (wget x4 15))))) 199 r8_39 rfl (Qai 162 _ _ g8 10 199 _ _ r8_39 rfl kj kj kj (Nat.lt_of_lt_of_eq (show 10 < 16 by decide) ((List.length_set ..).trans ((List.length_set ..).trans (QaC h4))).symm)) (fun W hp => Puts.row hp r45_39 (Qap r8_34_40 l45)) fun W40 p40 r8_40 => ?_
  have x40 : Ext w W40 := Puts.ext p40 x39 b8
  have r45_40 := (Puts.row p40 r45_39 (Qap r8_34_40 l45))
  refine QaG _ g8 _ (ints .u32 (((((x4.map wv).set 0 (wv (qA2 (wget x4 0) (wget x4 5) (wget x4 10) (wget x4 15)))).set 5 (wv (qB2 (wget x4 0) (wget x4 5) (wget x4 10) (wget x4 15)))).set 10 (wv (qC2 (wget x4 0) (wget x4 5) (wget x4 10) (wget x4 15)))).set 15 (wv (qD2 (wget x4 0) (wget x4 5) (wget x4 10) (wget x4 15))))) 199 r8_40 rfl (Qai 162 _ _ g8 15 199 _ _ r8_40 rfl kj kj kj (Nat.lt_of_lt_of_eq (show 15 < 16 by decide) ((List.length_set ..).trans ((List.length_set ..).trans ((List.length_set ..).trans (QaC h4)))).symm)) (fun W hp => Puts.row hp r45_40 (Qap r8_34_40 l45)) fun W41 p41 r8_41 => ?_
  have x41 : Ext w W41 := Puts.ext p41 x40 b8
  refine Qcr ?_
  obtain ⟨x5, ex5⟩ : ∃ z : List Wd, z = qrt x4 0 5 10 15 := ⟨_, rfl⟩
  have h5 : x5.length = 16 := by rw [ex5, QcF, h4]
  have r8_41_46 : W41.heap[g8]? = some (.cells (ints .u32 (x5.map wv)) 199) := QaA r8_41 (by rw [ex5]; unfold qrt; simp only [List.map_set])
  refine hK43 _ _ ?_
  refine Qab ?_
  refine Qaa (.int .i64 5) 56 rfl kj kj ?_
  refine Qaa (.int .i64 5) 19 rfl kj kj ?_
  refine Qac ?_
  show Code.rounds _ _ _ 4 _ _
  show Code.wp _ _ (Exit.then (Code.rounds _ _ _ 3) _) _ _
  refine wp_seq_k fun K47 hK47 => ?_
  refine Qab ?_
  refine Qaa (.bool true) 20 rfl kj kj ?_
  refine Qac ?_
  refine hK47 _ _ ?_
  refine wp_seq_k fun K48 hK48 => ?_
  refine cond_true kj ?_
  refine wp_skip ?_
  refine hK48 _ _ ?_
  refine wp_seq_k fun K49 hK49 => ?_
  refine wp_block ?_
  refine wp_seq_k fun K50 hK50 => ?_
  refine Qab ?_
  refine Qaa (.agg (ints .i64 ([1, 6, 11, 12]))) 21 rfl kj kj ?_
  refine Qaq ((Array.replicate 4 (.int .i64 0))) 216 7 rfl kj kj fun g51 W42 l51 e42 r51_42 => ?_
  have x42 : Ext w W42 := Ext.tr x41 e42
  have b51 : w.heap.size ≤ g51 := Nat.le_trans x41.size l51
  refine Qah g51 _ (ints .i64 ([1, 6, 11, 12])) 216 r51_42 rfl kj (Qam 216 _ _ g51 216 _ _ r51_42 rfl kj kj (isz (n := 4) kj kj) (eqsz (n := 4) kj kj) (Qay _ _)) fun W43 p43 r51_43 => ?_
  have x43 : Ext w W43 := Puts.ext p43 x42 b51
  refine Qac ?_
  refine hK50 _ _ ?_
  refine Qbd (fun W => W.heap[g51]? = some (.cells (ints .i64 ([1, 6, 11, 12])) 216)) [⟨none, [(7, none)]⟩, ⟨none, [(23, some 0)]⟩, ⟨none, [(7, none)]⟩, ⟨none, [(25, some 2)]⟩, ⟨none, [(7, none)]⟩, ⟨none, [(27, some 4)]⟩, ⟨none, [(7, none)]⟩, ⟨none, [(29, some 6)]⟩, ⟨none, [(7, none)]⟩, ⟨none, [(31, some 8)]⟩, ⟨none, [(5, none), (32, some 9)]⟩, ⟨none, [(33, some 10)]⟩, ⟨none, [(7, none)]⟩, ⟨none, [(35, some 12)]⟩, ⟨none, [(5, none), (36, some 13)]⟩, ⟨none, [(37, some 14)]⟩, ⟨none, [(7, none)]⟩, ⟨none, [(39, some 16)]⟩, ⟨none, [(5, none), (40, some 17)]⟩, ⟨none, [(41, some 18)]⟩, ⟨none, [(7, none)]⟩, ⟨none, [(43, some 20)]⟩, ⟨none, [(5, none), (44, some 21)]⟩, ⟨none, [(45, some 22)]⟩, ⟨none, [(34, some 11), (38, some 15), (42, some 19), (46, some 23)]⟩, ⟨none, [(47, some 24)]⟩, ⟨none, [(22, some 25)]⟩, ⟨none, [(22, some 25)]⟩, ⟨none, [(22, some 25)]⟩, ⟨none, [(22, some 25)]⟩, ⟨none, [(5, none), (24, some 1)]⟩, ⟨none, [(52, some 30), (48, some 26)]⟩, ⟨none, [(5, none), (26, some 3)]⟩, ⟨none, [(53, some 32), (49, some 27)]⟩, ⟨none, [(5, none), (28, some 5)]⟩, ⟨none, [(54, some 34), (50, some 28)]⟩, ⟨none, [(5, none), (30, some 7)]⟩, ⟨none, [(55, some 36), (51, some 29)]⟩] [] [2, 3, 4, 5, 6, 7, 27, 28, 29, 32, 34, 36] kj kj kj (fun W hR => Qad r51_43 hR) fun F hF => ?_
  refine Qaw (.pointer (some ⟨g51, 0, none⟩)) kj kj rfl (fun W => by kernel_rfl) ?_
  refine Qa6 (.int .i64 1) kj kj kj rfl (fun W hR => (Qag 3 _ g51 0 216 _ (.int .i64 1) _ (Qad (Qad r51_43 (Qak _)) hR) rfl kj kj kj)) ?_
  refine Qaw (.pointer (some ⟨g51, 1, none⟩)) kj kj rfl (fun W => by kernel_rfl) ?_
  refine Qbj (.int .i64 6) kj kj kj rfl (fun W hW => (Qag 3 _ g51 1 216 _ (.int .i64 6) _ hW rfl kj kj kj)) ?_
  refine Qaw (.pointer (some ⟨g51, 2, none⟩)) kj kj rfl (fun W => by kernel_rfl) ?_
  refine Qbj (.int .i64 11) kj kj kj rfl (fun W hW => (Qag 3 _ g51 2 216 _ (.int .i64 11) _ hW rfl kj kj kj)) ?_
  refine Qaw (.pointer (some ⟨g51, 3, none⟩)) kj kj rfl (fun W => by kernel_rfl) ?_
  refine Qbj (.int .i64 12) kj kj kj rfl (fun W hW => (Qag 3 _ g51 3 216 _ (.int .i64 12) _ hW rfl kj kj kj)) ?_
  refine Qaw (.pointer (some ⟨g51, 0, none⟩)) kj kj rfl (fun W => by kernel_rfl) ?_
  refine Qa6 (.int .i64 1) kj kj kj rfl (fun W hR => (Qag 3 _ g51 0 216 _ (.int .i64 1) _ (Qad (Qad r51_43 (Qak _)) hR) rfl kj kj kj)) ?_
  refine Qaw (.pointer (some ⟨g8, 1, none⟩)) kj kj rfl (fun W => by kernel_rfl) ?_
  have r8_42 := (Qad r8_41_46 e42)
  have r8_43 := (Puts.row p43 r8_42 (Qae r8_41_46 l51))
  refine Qa6 (.int .u32 (wv (wget x5 1))) kj kj kj rfl (fun W hR => (Qag 162 _ g8 1 199 _ (.int .u32 (wv (wget x5 1))) _ (Qad (Qad r8_43 (Qak _)) hR) rfl kj ((Qa1 _ _ _ (Nat.lt_of_lt_of_eq (by decide) (QaC h5).symm)).trans (congrArg (fun z => some (Value.int .u32 z)) (QaM x5 1))) kj)) ?_
  refine Qaw (.pointer (some ⟨g51, 1, none⟩)) kj kj rfl (fun W => by kernel_rfl) ?_
  refine Qa6 (.int .i64 6) kj kj kj rfl (fun W hR => (Qag 3 _ g51 1 216 _ (.int .i64 6) _ (Qad (Qad r51_43 (Qak _)) hR) rfl kj kj kj)) ?_
  refine Qaw (.pointer (some ⟨g8, 6, none⟩)) kj kj rfl (fun W => by kernel_rfl) ?_
  refine Qa6 (.int .u32 (wv (wget x5 6))) kj kj kj rfl (fun W hR => (Qag 162 _ g8 6 199 _ (.int .u32 (wv (wget x5 6))) _ (Qad (Qad r8_43 (Qak _)) hR) rfl kj ((Qa1 _ _ _ (Nat.lt_of_lt_of_eq (by decide) (QaC h5).symm)).trans (congrArg (fun z => some (Value.int .u32 z)) (QaM x5 6))) kj)) ?_
  refine Qaw (.pointer (some ⟨g51, 2, none⟩)) kj kj rfl (fun W => by kernel_rfl) ?_
  refine Qa6 (.int .i64 11) kj kj kj rfl (fun W hR => (Qag 3 _ g51 2 216 _ (.int .i64 11) _ (Qad (Qad r51_43 (Qak _)) hR) rfl kj kj kj)) ?_
  refine Qaw (.pointer (some ⟨g8, 11, none⟩)) kj kj rfl (fun W => by kernel_rfl) ?_
  refine Qa6 (.int .u32 (wv (wget x5 11))) kj kj kj rfl (fun W hR => (Qag 162 _ g8 11 199 _ (.int .u32 (wv (wget x5 11))) _ (Qad (Qad r8_43 (Qak _)) hR) rfl kj ((Qa1 _ _ _ (Nat.lt_of_lt_of_eq (by decide) (QaC h5).symm)).trans (congrArg (fun z => some (Value.int .u32 z)) (QaM x5 11))) kj)) ?_
  refine Qaw (.pointer (some ⟨g51, 3, none⟩)) kj kj rfl (fun W => by kernel_rfl) ?_
  refine Qa6 (.int .i64 12) kj kj kj rfl (fun W hR => (Qag 3 _ g51 3 216 _ (.int .i64 12) _ (Qad (Qad r51_43 (Qak _)) hR) rfl kj kj kj)) ?_
  refine Qaw (.pointer (some ⟨g8, 12, none⟩)) kj kj rfl (fun W => by kernel_rfl) ?_
  refine Qa6 (.int .u32 (wv (wget x5 12))) kj kj kj rfl (fun W hR => (Qag 162 _ g8 12 199 _ (.int .u32 (wv (wget x5 12))) _ (Qad (Qad r8_43 (Qak _)) hR) rfl kj ((Qa1 _ _ _ (Nat.lt_of_lt_of_eq (by decide) (QaC h5).symm)).trans (congrArg (fun z => some (Value.int .u32 z)) (QaM x5 12))) kj)) ?_
  refine QdJ (.tuple #[.int .u32 (wv (qA2 (wget x5 1) (wget x5 6) (wget x5 11) (wget x5 12))), .int .u32 (wv (qB2 (wget x5 1) (wget x5 6) (wget x5 11) (wget x5 12))), .int .u32 (wv (qC2 (wget x5 1) (wget x5 6) (wget x5 11) (wget x5 12))), .int .u32 (wv (qD2 (wget x5 1) (wget x5 6) (wget x5 11) (wget x5 12)))]) 156 #[.int .u32 (wv (wget x5 1)), .int .u32 (wv (wget x5 6)), .int .u32 (wv (wget x5 11)), .int .u32 (wv (wget x5 12))] kj kj kj rfl (fun W => by kernel_rfl) (fun W hR => (Qcv (wget x5 1) (wget x5 6) (wget x5 11) (wget x5 12)) W) ?_
  refine Qaw (.tuple #[.int .u32 (wv (qA2 (wget x5 1) (wget x5 6) (wget x5 11) (wget x5 12))), .int .u32 (wv (qB2 (wget x5 1) (wget x5 6) (wget x5 11) (wget x5 12))), .int .u32 (wv (qC2 (wget x5 1) (wget x5 6) (wget x5 11) (wget x5 12))), .int .u32 (wv (qD2 (wget x5 1) (wget x5 6) (wget x5 11) (wget x5 12)))]) kj kj rfl (fun W => by kernel_rfl) ?_
  refine Qaw (.int .u32 (wv (qA2 (wget x5 1) (wget x5 6) (wget x5 11) (wget x5 12)))) kj kj rfl (fun W => by kernel_rfl) ?_
  refine Qaw (.int .u32 (wv (qB2 (wget x5 1) (wget x5 6) (wget x5 11) (wget x5 12)))) kj kj rfl (fun W => by kernel_rfl) ?_
  refine Qaw (.int .u32 (wv (qC2 (wget x5 1) (wget x5 6) (wget x5 11) (wget x5 12)))) kj kj rfl (fun W => by kernel_rfl) ?_
  refine Qaw (.int .u32 (wv (qD2 (wget x5 1) (wget x5 6) (wget x5 11) (wget x5 12)))) kj kj rfl (fun W => by kernel_rfl) ?_
  refine Qaw (.pointer (some ⟨g8, 1, none⟩)) kj kj rfl (fun W => by kernel_rfl) ?_
  refine QaL rfl ?_
  refine Qaw (.pointer (some ⟨g8, 6, none⟩)) kj kj rfl (fun W => by kernel_rfl) ?_
  refine QaL rfl ?_
  refine Qaw (.pointer (some ⟨g8, 11, none⟩)) kj kj rfl (fun W => by kernel_rfl) ?_
  refine QaL rfl ?_
  refine Qaw (.pointer (some ⟨g8, 12, none⟩)) kj kj rfl (fun W => by kernel_rfl) ?_
  refine QaL rfl ?_
  refine Qds (hF _ kj fun W44 e44 => ?_)
  simp only [List.nil_append, List.cons_append, fins, up]
  clear hF
  have x44 : Ext w W44 := Ext.tr x43 e44
  have r8_44 := (Qad r8_43 e44)
  have r51_44 := (Qad r51_43 e44)
  refine QaG _ g8 _ (ints .u32 ((x5.map wv).set 1 (wv (qA2 (wget x5 1) (wget x5 6) (wget x5 11) (wget x5 12))))) 199 r8_44 rfl (Qai 162 _ _ g8 1 199 _ _ r8_44 rfl kj kj kj (Nat.lt_of_lt_of_eq (show 1 < 16 by decide) (QaC h5).symm)) (fun W hp => Puts.row hp r51_44 (Qap r8_41_46 l51)) fun W45 p45 r8_45 => ?_
  have x45 : Ext w W45 := Puts.ext p45 x44 b8
  have r51_45 := (Puts.row p45 r51_44 (Qap r8_41_46 l51))
  refine QaG _ g8 _ (ints .u32 (((x5.map wv).set 1 (wv (qA2 (wget x5 1) (wget x5 6) (wget x5 11) (wget x5 12)))).set 6 (wv (qB2 (wget x5 1) (wget x5 6) (wget x5 11) (wget x5 12))))) 199 r8_45 rfl (Qai 162 _ _ g8 6 199 _ _ r8_45 rfl kj kj kj (Nat.lt_of_lt_of_eq (show 6 < 16 by decide) ((List.length_set ..).trans (QaC h5)).symm)) (fun W hp => Puts.row hp r51_45 (Qap r8_41_46 l51)) fun W46 p46 r8_46 => ?_
  have x46 : Ext w W46 := Puts.ext p46 x45 b8
  have r51_46 := (Puts.row p46 r51_45 (Qap r8_41_46 l51))
  refine QaG _ g8 _ (ints .u32 ((((x5.map wv).set 1 (wv (qA2 (wget x5 1) (wget x5 6) (wget x5 11) (wget x5 12)))).set 6 (wv (qB2 (wget x5 1) (wget x5 6) (wget x5 11) (wget x5 12)))).set 11 (wv (qC2 (wget x5 1) (wget x5 6) (wget x5 11) (wget x5 12))))) 199 r8_46 rfl (Qai 162 _ _ g8 11 199 _ _ r8_46 rfl kj kj kj (Nat.lt_of_lt_of_eq (show 11 < 16 by decide) ((List.length_set ..).trans ((List.length_set ..).trans (QaC h5))).symm)) (fun W hp => Puts.row hp r51_46 (Qap r8_41_46 l51)) fun W47 p47 r8_47 => ?_
  have x47 : Ext w W47 := Puts.ext p47 x46 b8
  have r51_47 := (Puts.row p47 r51_46 (Qap r8_41_46 l51))
  refine QaG _ g8 _ (ints .u32 (((((x5.map wv).set 1 (wv (qA2 (wget x5 1) (wget x5 6) (wget x5 11) (wget x5 12)))).set 6 (wv (qB2 (wget x5 1) (wget x5 6) (wget x5 11) (wget x5 12)))).set 11 (wv (qC2 (wget x5 1) (wget x5 6) (wget x5 11) (wget x5 12)))).set 12 (wv (qD2 (wget x5 1) (wget x5 6) (wget x5 11) (wget x5 12))))) 199 r8_47 rfl (Qai 162 _ _ g8 12 199 _ _ r8_47 rfl kj kj kj (Nat.lt_of_lt_of_eq (show 12 < 16 by decide) ((List.length_set ..).trans ((List.length_set ..).trans ((List.length_set ..).trans (QaC h5)))).symm)) (fun W hp => Puts.row hp r51_47 (Qap r8_41_46 l51)) fun W48 p48 r8_48 => ?_
  have x48 : Ext w W48 := Puts.ext p48 x47 b8
  refine Qcr ?_
  obtain ⟨x6, ex6⟩ : ∃ z : List Wd, z = qrt x5 1 6 11 12 := ⟨_, rfl⟩
  have h6 : x6.length = 16 := by rw [ex6, QcF, h5]
  have r8_48_52 : W48.heap[g8]? = some (.cells (ints .u32 (x6.map wv)) 199) := QaA r8_48 (by rw [ex6]; unfold qrt; simp only [List.map_set])
  refine hK49 _ _ ?_
  refine Qab ?_
  refine Qaa (.int .i64 6) 56 rfl kj kj ?_
  refine Qaa (.int .i64 6) 19 rfl kj kj ?_
  refine Qac ?_
  show Code.rounds _ _ _ 3 _ _
  show Code.wp _ _ (Exit.then (Code.rounds _ _ _ 2) _) _ _
  refine wp_seq_k fun K53 hK53 => ?_
  refine Qab ?_
  refine Qaa (.bool true) 20 rfl kj kj ?_
  refine Qac ?_
  refine hK53 _ _ ?_
  refine wp_seq_k fun K54 hK54 => ?_
  refine cond_true kj ?_
  refine wp_skip ?_
  refine hK54 _ _ ?_
  refine wp_seq_k fun K55 hK55 => ?_
  refine wp_block ?_
  refine wp_seq_k fun K56 hK56 => ?_
  refine Qab ?_
  refine Qaa (.agg (ints .i64 ([2, 7, 8, 13]))) 21 rfl kj kj ?_
  refine Qaq ((Array.replicate 4 (.int .i64 0))) 216 7 rfl kj kj fun g57 W49 l57 e49 r57_49 => ?_
  have x49 : Ext w W49 := Ext.tr x48 e49
  have b57 : w.heap.size ≤ g57 := Nat.le_trans x48.size l57
  refine Qah g57 _ (ints .i64 ([2, 7, 8, 13])) 216 r57_49 rfl kj (Qam 216 _ _ g57 216 _ _ r57_49 rfl kj kj (isz (n := 4) kj kj) (eqsz (n := 4) kj kj) (Qay _ _)) fun W50 p50 r57_50 => ?_
  have x50 : Ext w W50 := Puts.ext p50 x49 b57
  refine Qac ?_
  refine hK56 _ _ ?_
  refine Qbd (fun W => W.heap[g57]? = some (.cells (ints .i64 ([2, 7, 8, 13])) 216)) [⟨none, [(7, none)]⟩, ⟨none, [(23, some 0)]⟩, ⟨none, [(7, none)]⟩, ⟨none, [(25, some 2)]⟩, ⟨none, [(7, none)]⟩, ⟨none, [(27, some 4)]⟩, ⟨none, [(7, none)]⟩, ⟨none, [(29, some 6)]⟩, ⟨none, [(7, none)]⟩, ⟨none, [(31, some 8)]⟩, ⟨none, [(5, none), (32, some 9)]⟩, ⟨none, [(33, some 10)]⟩, ⟨none, [(7, none)]⟩, ⟨none, [(35, some 12)]⟩, ⟨none, [(5, none), (36, some 13)]⟩, ⟨none, [(37, some 14)]⟩, ⟨none, [(7, none)]⟩, ⟨none, [(39, some 16)]⟩, ⟨none, [(5, none), (40, some 17)]⟩, ⟨none, [(41, some 18)]⟩, ⟨none, [(7, none)]⟩, ⟨none, [(43, some 20)]⟩, ⟨none, [(5, none), (44, some 21)]⟩, ⟨none, [(45, some 22)]⟩, ⟨none, [(34, some 11), (38, some 15), (42, some 19), (46, some 23)]⟩, ⟨none, [(47, some 24)]⟩, ⟨none, [(22, some 25)]⟩, ⟨none, [(22, some 25)]⟩, ⟨none, [(22, some 25)]⟩, ⟨none, [(22, some 25)]⟩, ⟨none, [(5, none), (24, some 1)]⟩, ⟨none, [(52, some 30), (48, some 26)]⟩, ⟨none, [(5, none), (26, some 3)]⟩, ⟨none, [(53, some 32), (49, some 27)]⟩, ⟨none, [(5, none), (28, some 5)]⟩, ⟨none, [(54, some 34), (50, some 28)]⟩, ⟨none, [(5, none), (30, some 7)]⟩, ⟨none, [(55, some 36), (51, some 29)]⟩] [] [2, 3, 4, 5, 6, 7, 27, 28, 29, 32, 34, 36] kj kj kj (fun W hR => Qad r57_50 hR) fun F hF => ?_
  refine Qaw (.pointer (some ⟨g57, 0, none⟩)) kj kj rfl (fun W => by kernel_rfl) ?_
  refine Qa6 (.int .i64 2) kj kj kj rfl (fun W hR => (Qag 3 _ g57 0 216 _ (.int .i64 2) _ (Qad (Qad r57_50 (Qak _)) hR) rfl kj kj kj)) ?_
  refine Qaw (.pointer (some ⟨g57, 1, none⟩)) kj kj rfl (fun W => by kernel_rfl) ?_
  refine Qbj (.int .i64 7) kj kj kj rfl (fun W hW => (Qag 3 _ g57 1 216 _ (.int .i64 7) _ hW rfl kj kj kj)) ?_
  refine Qaw (.pointer (some ⟨g57, 2, none⟩)) kj kj rfl (fun W => by kernel_rfl) ?_
  refine Qbj (.int .i64 8) kj kj kj rfl (fun W hW => (Qag 3 _ g57 2 216 _ (.int .i64 8) _ hW rfl kj kj kj)) ?_
  refine Qaw (.pointer (some ⟨g57, 3, none⟩)) kj kj rfl (fun W => by kernel_rfl) ?_
  refine Qbj (.int .i64 13) kj kj kj rfl (fun W hW => (Qag 3 _ g57 3 216 _ (.int .i64 13) _ hW rfl kj kj kj)) ?_
  refine Qaw (.pointer (some ⟨g57, 0, none⟩)) kj kj rfl (fun W => by kernel_rfl) ?_
  refine Qa6 (.int .i64 2) kj kj kj rfl (fun W hR => (Qag 3 _ g57 0 216 _ (.int .i64 2) _ (Qad (Qad r57_50 (Qak _)) hR) rfl kj kj kj)) ?_
  refine Qaw (.pointer (some ⟨g8, 2, none⟩)) kj kj rfl (fun W => by kernel_rfl) ?_
  have r8_49 := (Qad r8_48_52 e49)
  have r8_50 := (Puts.row p50 r8_49 (Qae r8_48_52 l57))
  refine Qa6 (.int .u32 (wv (wget x6 2))) kj kj kj rfl (fun W hR => (Qag 162 _ g8 2 199 _ (.int .u32 (wv (wget x6 2))) _ (Qad (Qad r8_50 (Qak _)) hR) rfl kj ((Qa1 _ _ _ (Nat.lt_of_lt_of_eq (by decide) (QaC h6).symm)).trans (congrArg (fun z => some (Value.int .u32 z)) (QaM x6 2))) kj)) ?_
  refine Qaw (.pointer (some ⟨g57, 1, none⟩)) kj kj rfl (fun W => by kernel_rfl) ?_
  refine Qa6 (.int .i64 7) kj kj kj rfl (fun W hR => (Qag 3 _ g57 1 216 _ (.int .i64 7) _ (Qad (Qad r57_50 (Qak _)) hR) rfl kj kj kj)) ?_
  refine Qaw (.pointer (some ⟨g8, 7, none⟩)) kj kj rfl (fun W => by kernel_rfl) ?_
  refine Qa6 (.int .u32 (wv (wget x6 7))) kj kj kj rfl (fun W hR => (Qag 162 _ g8 7 199 _ (.int .u32 (wv (wget x6 7))) _ (Qad (Qad r8_50 (Qak _)) hR) rfl kj ((Qa1 _ _ _ (Nat.lt_of_lt_of_eq (by decide) (QaC h6).symm)).trans (congrArg (fun z => some (Value.int .u32 z)) (QaM x6 7))) kj)) ?_
  refine Qaw (.pointer (some ⟨g57, 2, none⟩)) kj kj rfl (fun W => by kernel_rfl) ?_
  refine Qa6 (.int .i64 8) kj kj kj rfl (fun W hR => (Qag 3 _ g57 2 216 _ (.int .i64 8) _ (Qad (Qad r57_50 (Qak _)) hR) rfl kj kj kj)) ?_
  refine Qaw (.pointer (some ⟨g8, 8, none⟩)) kj kj rfl (fun W => by kernel_rfl) ?_
  refine Qa6 (.int .u32 (wv (wget x6 8))) kj kj kj rfl (fun W hR => (Qag 162 _ g8 8 199 _ (.int .u32 (wv (wget x6 8))) _ (Qad (Qad r8_50 (Qak _)) hR) rfl kj ((Qa1 _ _ _ (Nat.lt_of_lt_of_eq (by decide) (QaC h6).symm)).trans (congrArg (fun z => some (Value.int .u32 z)) (QaM x6 8))) kj)) ?_
  refine Qaw (.pointer (some ⟨g57, 3, none⟩)) kj kj rfl (fun W => by kernel_rfl) ?_
  refine Qa6 (.int .i64 13) kj kj kj rfl (fun W hR => (Qag 3 _ g57 3 216 _ (.int .i64 13) _ (Qad (Qad r57_50 (Qak _)) hR) rfl kj kj kj)) ?_
  refine Qaw (.pointer (some ⟨g8, 13, none⟩)) kj kj rfl (fun W => by kernel_rfl) ?_
  refine Qa6 (.int .u32 (wv (wget x6 13))) kj kj kj rfl (fun W hR => (Qag 162 _ g8 13 199 _ (.int .u32 (wv (wget x6 13))) _ (Qad (Qad r8_50 (Qak _)) hR) rfl kj ((Qa1 _ _ _ (Nat.lt_of_lt_of_eq (by decide) (QaC h6).symm)).trans (congrArg (fun z => some (Value.int .u32 z)) (QaM x6 13))) kj)) ?_
  refine QdJ (.tuple #[.int .u32 (wv (qA2 (wget x6 2) (wget x6 7) (wget x6 8) (wget x6 13))), .int .u32 (wv (qB2 (wget x6 2) (wget x6 7) (wget x6 8) (wget x6 13))), .int .u32 (wv (qC2 (wget x6 2) (wget x6 7) (wget x6 8) (wget x6 13))), .int .u32 (wv (qD2 (wget x6 2) (wget x6 7) (wget x6 8) (wget x6 13)))]) 156 #[.int .u32 (wv (wget x6 2)), .int .u32 (wv (wget x6 7)), .int .u32 (wv (wget x6 8)), .int .u32 (wv (wget x6 13))] kj kj kj rfl (fun W => by kernel_rfl) (fun W hR => (Qcv (wget x6 2) (wget x6 7) (wget x6 8) (wget x6 13)) W) ?_
  refine Qaw (.tuple #[.int .u32 (wv (qA2 (wget x6 2) (wget x6 7) (wget x6 8) (wget x6 13))), .int .u32 (wv (qB2 (wget x6 2) (wget x6 7) (wget x6 8) (wget x6 13))), .int .u32 (wv (qC2 (wget x6 2) (wget x6 7) (wget x6 8) (wget x6 13))), .int .u32 (wv (qD2 (wget x6 2) (wget x6 7) (wget x6 8) (wget x6 13)))]) kj kj rfl (fun W => by kernel_rfl) ?_
  refine Qaw (.int .u32 (wv (qA2 (wget x6 2) (wget x6 7) (wget x6 8) (wget x6 13)))) kj kj rfl (fun W => by kernel_rfl) ?_
  refine Qaw (.int .u32 (wv (qB2 (wget x6 2) (wget x6 7) (wget x6 8) (wget x6 13)))) kj kj rfl (fun W => by kernel_rfl) ?_
  refine Qaw (.int .u32 (wv (qC2 (wget x6 2) (wget x6 7) (wget x6 8) (wget x6 13)))) kj kj rfl (fun W => by kernel_rfl) ?_
  refine Qaw (.int .u32 (wv (qD2 (wget x6 2) (wget x6 7) (wget x6 8) (wget x6 13)))) kj kj rfl (fun W => by kernel_rfl) ?_
  refine Qaw (.pointer (some ⟨g8, 2, none⟩)) kj kj rfl (fun W => by kernel_rfl) ?_
  refine QaL rfl ?_
  refine Qaw (.pointer (some ⟨g8, 7, none⟩)) kj kj rfl (fun W => by kernel_rfl) ?_
  refine QaL rfl ?_
  refine Qaw (.pointer (some ⟨g8, 8, none⟩)) kj kj rfl (fun W => by kernel_rfl) ?_
  refine QaL rfl ?_
  refine Qaw (.pointer (some ⟨g8, 13, none⟩)) kj kj rfl (fun W => by kernel_rfl) ?_
  refine QaL rfl ?_
  refine Qds (hF _ kj fun W51 e51 => ?_)
  simp only [List.nil_append, List.cons_append, fins, up]
  clear hF
  have x51 : Ext w W51 := Ext.tr x50 e51
  have r8_51 := (Qad r8_50 e51)
  have r57_51 := (Qad r57_50 e51)
  refine QaG _ g8 _ (ints .u32 ((x6.map wv).set 2 (wv (qA2 (wget x6 2) (wget x6 7) (wget x6 8) (wget x6 13))))) 199 r8_51 rfl (Qai 162 _ _ g8 2 199 _ _ r8_51 rfl kj kj kj (Nat.lt_of_lt_of_eq (show 2 < 16 by decide) (QaC h6).symm)) (fun W hp => Puts.row hp r57_51 (Qap r8_48_52 l57)) fun W52 p52 r8_52 => ?_
  have x52 : Ext w W52 := Puts.ext p52 x51 b8
  have r57_52 := (Puts.row p52 r57_51 (Qap r8_48_52 l57))
  refine QaG _ g8 _ (ints .u32 (((x6.map wv).set 2 (wv (qA2 (wget x6 2) (wget x6 7) (wget x6 8) (wget x6 13)))).set 7 (wv (qB2 (wget x6 2) (wget x6 7) (wget x6 8) (wget x6 13))))) 199 r8_52 rfl (Qai 162 _ _ g8 7 199 _ _ r8_52 rfl kj kj kj (Nat.lt_of_lt_of_eq (show 7 < 16 by decide) ((List.length_set ..).trans (QaC h6)).symm)) (fun W hp => Puts.row hp r57_52 (Qap r8_48_52 l57)) fun W53 p53 r8_53 => ?_
  have x53 : Ext w W53 := Puts.ext p53 x52 b8
  have r57_53 := (Puts.row p53 r57_52 (Qap r8_48_52 l57))
  refine QaG _ g8 _ (ints .u32 ((((x6.map wv).set 2 (wv (qA2 (wget x6 2) (wget x6 7) (wget x6 8) (wget x6 13)))).set 7 (wv (qB2 (wget x6 2) (wget x6 7) (wget x6 8) (wget x6 13)))).set 8 (wv (qC2 (wget x6 2) (wget x6 7) (wget x6 8) (wget x6 13))))) 199 r8_53 rfl (Qai 162 _ _ g8 8 199 _ _ r8_53 rfl kj kj kj (Nat.lt_of_lt_of_eq (show 8 < 16 by decide) ((List.length_set ..).trans ((List.length_set ..).trans (QaC h6))).symm)) (fun W hp => Puts.row hp r57_53 (Qap r8_48_52 l57)) fun W54 p54 r8_54 => ?_
  have x54 : Ext w W54 := Puts.ext p54 x53 b8
  have r57_54 := (Puts.row p54 r57_53 (Qap r8_48_52 l57))
  refine QaG _ g8 _ (ints .u32 (((((x6.map wv).set 2 (wv (qA2 (wget x6 2) (wget x6 7) (wget x6 8) (wget x6 13)))).set 7 (wv (qB2 (wget x6 2) (wget x6 7) (wget x6 8) (wget x6 13)))).set 8 (wv (qC2 (wget x6 2) (wget x6 7) (wget x6 8) (wget x6 13)))).set 13 (wv (qD2 (wget x6 2) (wget x6 7) (wget x6 8) (wget x6 13))))) 199 r8_54 rfl (Qai 162 _ _ g8 13 199 _ _ r8_54 rfl kj kj kj (Nat.lt_of_lt_of_eq (show 13 < 16 by decide) ((List.length_set ..).trans ((List.length_set ..).trans ((List.length_set ..).trans (QaC h6)))).symm)) (fun W hp => Puts.row hp r57_54 (Qap r8_48_52 l57)) fun W55 p55 r8_55 => ?_
  have x55 : Ext w W55 := Puts.ext p55 x54 b8
  refine Qcr ?_
  obtain ⟨x7, ex7⟩ : ∃ z : List Wd, z = qrt x6 2 7 8 13 := ⟨_, rfl⟩
  have h7 : x7.length = 16 := by rw [ex7, QcF, h6]
  have r8_55_58 : W55.heap[g8]? = some (.cells (ints .u32 (x7.map wv)) 199) := QaA r8_55 (by rw [ex7]; unfold qrt; simp only [List.map_set])
  refine hK55 _ _ ?_
  refine Qab ?_
  refine Qaa (.int .i64 7) 56 rfl kj kj ?_
  refine Qaa (.int .i64 7) 19 rfl kj kj ?_
  refine Qac ?_
  show Code.rounds _ _ _ 2 _ _
  show Code.wp _ _ (Exit.then (Code.rounds _ _ _ 1) _) _ _
  refine wp_seq_k fun K59 hK59 => ?_
  refine Qab ?_
  refine Qaa (.bool true) 20 rfl kj kj ?_
  refine Qac ?_
  refine hK59 _ _ ?_
  refine wp_seq_k fun K60 hK60 => ?_
  refine cond_true kj ?_
  refine wp_skip ?_
  refine hK60 _ _ ?_
  refine wp_seq_k fun K61 hK61 => ?_
  refine wp_block ?_
  refine wp_seq_k fun K62 hK62 => ?_
  refine Qab ?_
  refine Qaa (.agg (ints .i64 ([3, 4, 9, 14]))) 21 rfl kj kj ?_
  refine Qaq ((Array.replicate 4 (.int .i64 0))) 216 7 rfl kj kj fun g63 W56 l63 e56 r63_56 => ?_
  have x56 : Ext w W56 := Ext.tr x55 e56
  have b63 : w.heap.size ≤ g63 := Nat.le_trans x55.size l63
  refine Qah g63 _ (ints .i64 ([3, 4, 9, 14])) 216 r63_56 rfl kj (Qam 216 _ _ g63 216 _ _ r63_56 rfl kj kj (isz (n := 4) kj kj) (eqsz (n := 4) kj kj) (Qay _ _)) fun W57 p57 r63_57 => ?_
  have x57 : Ext w W57 := Puts.ext p57 x56 b63
  refine Qac ?_
  refine hK62 _ _ ?_
  refine Qbd (fun W => W.heap[g63]? = some (.cells (ints .i64 ([3, 4, 9, 14])) 216)) [⟨none, [(7, none)]⟩, ⟨none, [(23, some 0)]⟩, ⟨none, [(7, none)]⟩, ⟨none, [(25, some 2)]⟩, ⟨none, [(7, none)]⟩, ⟨none, [(27, some 4)]⟩, ⟨none, [(7, none)]⟩, ⟨none, [(29, some 6)]⟩, ⟨none, [(7, none)]⟩, ⟨none, [(31, some 8)]⟩, ⟨none, [(5, none), (32, some 9)]⟩, ⟨none, [(33, some 10)]⟩, ⟨none, [(7, none)]⟩, ⟨none, [(35, some 12)]⟩, ⟨none, [(5, none), (36, some 13)]⟩, ⟨none, [(37, some 14)]⟩, ⟨none, [(7, none)]⟩, ⟨none, [(39, some 16)]⟩, ⟨none, [(5, none), (40, some 17)]⟩, ⟨none, [(41, some 18)]⟩, ⟨none, [(7, none)]⟩, ⟨none, [(43, some 20)]⟩, ⟨none, [(5, none), (44, some 21)]⟩, ⟨none, [(45, some 22)]⟩, ⟨none, [(34, some 11), (38, some 15), (42, some 19), (46, some 23)]⟩, ⟨none, [(47, some 24)]⟩, ⟨none, [(22, some 25)]⟩, ⟨none, [(22, some 25)]⟩, ⟨none, [(22, some 25)]⟩, ⟨none, [(22, some 25)]⟩, ⟨none, [(5, none), (24, some 1)]⟩, ⟨none, [(52, some 30), (48, some 26)]⟩, ⟨none, [(5, none), (26, some 3)]⟩, ⟨none, [(53, some 32), (49, some 27)]⟩, ⟨none, [(5, none), (28, some 5)]⟩, ⟨none, [(54, some 34), (50, some 28)]⟩, ⟨none, [(5, none), (30, some 7)]⟩, ⟨none, [(55, some 36), (51, some 29)]⟩] [] [2, 3, 4, 5, 6, 7, 27, 28, 29, 32, 34, 36] kj kj kj (fun W hR => Qad r63_57 hR) fun F hF => ?_
  refine Qaw (.pointer (some ⟨g63, 0, none⟩)) kj kj rfl (fun W => by kernel_rfl) ?_
  refine Qa6 (.int .i64 3) kj kj kj rfl (fun W hR => (Qag 3 _ g63 0 216 _ (.int .i64 3) _ (Qad (Qad r63_57 (Qak _)) hR) rfl kj kj kj)) ?_
  refine Qaw (.pointer (some ⟨g63, 1, none⟩)) kj kj rfl (fun W => by kernel_rfl) ?_
  refine Qbj (.int .i64 4) kj kj kj rfl (fun W hW => (Qag 3 _ g63 1 216 _ (.int .i64 4) _ hW rfl kj kj kj)) ?_
  refine Qaw (.pointer (some ⟨g63, 2, none⟩)) kj kj rfl (fun W => by kernel_rfl) ?_
  refine Qbj (.int .i64 9) kj kj kj rfl (fun W hW => (Qag 3 _ g63 2 216 _ (.int .i64 9) _ hW rfl kj kj kj)) ?_
  refine Qaw (.pointer (some ⟨g63, 3, none⟩)) kj kj rfl (fun W => by kernel_rfl) ?_
  refine Qbj (.int .i64 14) kj kj kj rfl (fun W hW => (Qag 3 _ g63 3 216 _ (.int .i64 14) _ hW rfl kj kj kj)) ?_
  refine Qaw (.pointer (some ⟨g63, 0, none⟩)) kj kj rfl (fun W => by kernel_rfl) ?_
  refine Qa6 (.int .i64 3) kj kj kj rfl (fun W hR => (Qag 3 _ g63 0 216 _ (.int .i64 3) _ (Qad (Qad r63_57 (Qak _)) hR) rfl kj kj kj)) ?_
  refine Qaw (.pointer (some ⟨g8, 3, none⟩)) kj kj rfl (fun W => by kernel_rfl) ?_
  have r8_56 := (Qad r8_55_58 e56)
  have r8_57 := (Puts.row p57 r8_56 (Qae r8_55_58 l63))
  refine Qa6 (.int .u32 (wv (wget x7 3))) kj kj kj rfl (fun W hR => (Qag 162 _ g8 3 199 _ (.int .u32 (wv (wget x7 3))) _ (Qad (Qad r8_57 (Qak _)) hR) rfl kj ((Qa1 _ _ _ (Nat.lt_of_lt_of_eq (by decide) (QaC h7).symm)).trans (congrArg (fun z => some (Value.int .u32 z)) (QaM x7 3))) kj)) ?_
  refine Qaw (.pointer (some ⟨g63, 1, none⟩)) kj kj rfl (fun W => by kernel_rfl) ?_
  refine Qa6 (.int .i64 4) kj kj kj rfl (fun W hR => (Qag 3 _ g63 1 216 _ (.int .i64 4) _ (Qad (Qad r63_57 (Qak _)) hR) rfl kj kj kj)) ?_
  refine Qaw (.pointer (some ⟨g8, 4, none⟩)) kj kj rfl (fun W => by kernel_rfl) ?_
  refine Qa6 (.int .u32 (wv (wget x7 4))) kj kj kj rfl (fun W hR => (Qag 162 _ g8 4 199 _ (.int .u32 (wv (wget x7 4))) _ (Qad (Qad r8_57 (Qak _)) hR) rfl kj ((Qa1 _ _ _ (Nat.lt_of_lt_of_eq (by decide) (QaC h7).symm)).trans (congrArg (fun z => some (Value.int .u32 z)) (QaM x7 4))) kj)) ?_
  refine Qaw (.pointer (some ⟨g63, 2, none⟩)) kj kj rfl (fun W => by kernel_rfl) ?_
  refine Qa6 (.int .i64 9) kj kj kj rfl (fun W hR => (Qag 3 _ g63 2 216 _ (.int .i64 9) _ (Qad (Qad r63_57 (Qak _)) hR) rfl kj kj kj)) ?_
  refine Qaw (.pointer (some ⟨g8, 9, none⟩)) kj kj rfl (fun W => by kernel_rfl) ?_
  refine Qa6 (.int .u32 (wv (wget x7 9))) kj kj kj rfl (fun W hR => (Qag 162 _ g8 9 199 _ (.int .u32 (wv (wget x7 9))) _ (Qad (Qad r8_57 (Qak _)) hR) rfl kj ((Qa1 _ _ _ (Nat.lt_of_lt_of_eq (by decide) (QaC h7).symm)).trans (congrArg (fun z => some (Value.int .u32 z)) (QaM x7 9))) kj)) ?_
  refine Qaw (.pointer (some ⟨g63, 3, none⟩)) kj kj rfl (fun W => by kernel_rfl) ?_
  refine Qa6 (.int .i64 14) kj kj kj rfl (fun W hR => (Qag 3 _ g63 3 216 _ (.int .i64 14) _ (Qad (Qad r63_57 (Qak _)) hR) rfl kj kj kj)) ?_
  refine Qaw (.pointer (some ⟨g8, 14, none⟩)) kj kj rfl (fun W => by kernel_rfl) ?_
  refine Qa6 (.int .u32 (wv (wget x7 14))) kj kj kj rfl (fun W hR => (Qag 162 _ g8 14 199 _ (.int .u32 (wv (wget x7 14))) _ (Qad (Qad r8_57 (Qak _)) hR) rfl kj ((Qa1 _ _ _ (Nat.lt_of_lt_of_eq (by decide) (QaC h7).symm)).trans (congrArg (fun z => some (Value.int .u32 z)) (QaM x7 14))) kj)) ?_
  refine QdJ (.tuple #[.int .u32 (wv (qA2 (wget x7 3) (wget x7 4) (wget x7 9) (wget x7 14))), .int .u32 (wv (qB2 (wget x7 3) (wget x7 4) (wget x7 9) (wget x7 14))), .int .u32 (wv (qC2 (wget x7 3) (wget x7 4) (wget x7 9) (wget x7 14))), .int .u32 (wv (qD2 (wget x7 3) (wget x7 4) (wget x7 9) (wget x7 14)))]) 156 #[.int .u32 (wv (wget x7 3)), .int .u32 (wv (wget x7 4)), .int .u32 (wv (wget x7 9)), .int .u32 (wv (wget x7 14))] kj kj kj rfl (fun W => by kernel_rfl) (fun W hR => (Qcv (wget x7 3) (wget x7 4) (wget x7 9) (wget x7 14)) W) ?_
  refine Qaw (.tuple #[.int .u32 (wv (qA2 (wget x7 3) (wget x7 4) (wget x7 9) (wget x7 14))), .int .u32 (wv (qB2 (wget x7 3) (wget x7 4) (wget x7 9) (wget x7 14))), .int .u32 (wv (qC2 (wget x7 3) (wget x7 4) (wget x7 9) (wget x7 14))), .int .u32 (wv (qD2 (wget x7 3) (wget x7 4) (wget x7 9) (wget x7 14)))]) kj kj rfl (fun W => by kernel_rfl) ?_
  refine Qaw (.int .u32 (wv (qA2 (wget x7 3) (wget x7 4) (wget x7 9) (wget x7 14)))) kj kj rfl (fun W => by kernel_rfl) ?_
  refine Qaw (.int .u32 (wv (qB2 (wget x7 3) (wget x7 4) (wget x7 9) (wget x7 14)))) kj kj rfl (fun W => by kernel_rfl) ?_
  refine Qaw (.int .u32 (wv (qC2 (wget x7 3) (wget x7 4) (wget x7 9) (wget x7 14)))) kj kj rfl (fun W => by kernel_rfl) ?_
  refine Qaw (.int .u32 (wv (qD2 (wget x7 3) (wget x7 4) (wget x7 9) (wget x7 14)))) kj kj rfl (fun W => by kernel_rfl) ?_
  refine Qaw (.pointer (some ⟨g8, 3, none⟩)) kj kj rfl (fun W => by kernel_rfl) ?_
  refine QaL rfl ?_
  refine Qaw (.pointer (some ⟨g8, 4, none⟩)) kj kj rfl (fun W => by kernel_rfl) ?_
  refine QaL rfl ?_
  refine Qaw (.pointer (some ⟨g8, 9, none⟩)) kj kj rfl (fun W => by kernel_rfl) ?_
  refine QaL rfl ?_
  refine Qaw (.pointer (some ⟨g8, 14, none⟩)) kj kj rfl (fun W => by kernel_rfl) ?_
  refine QaL rfl ?_
  refine Qds (hF _ kj fun W58 e58 => ?_)
  simp only [List.nil_append, List.cons_append, fins, up]
  clear hF
  have x58 : Ext w W58 := Ext.tr x57 e58
  have r8_58 := (Qad r8_57 e58)
  have r63_58 := (Qad r63_57 e58)
  refine QaG _ g8 _ (ints .u32 ((x7.map wv).set 3 (wv (qA2 (wget x7 3) (wget x7 4) (wget x7 9) (wget x7 14))))) 199 r8_58 rfl (Qai 162 _ _ g8 3 199 _ _ r8_58 rfl kj kj kj (Nat.lt_of_lt_of_eq (show 3 < 16 by decide) (QaC h7).symm)) (fun W hp => Puts.row hp r63_58 (Qap r8_55_58 l63)) fun W59 p59 r8_59 => ?_
  have x59 : Ext w W59 := Puts.ext p59 x58 b8
  have r63_59 := (Puts.row p59 r63_58 (Qap r8_55_58 l63))
  refine QaG _ g8 _ (ints .u32 (((x7.map wv).set 3 (wv (qA2 (wget x7 3) (wget x7 4) (wget x7 9) (wget x7 14)))).set 4 (wv (qB2 (wget x7 3) (wget x7 4) (wget x7 9) (wget x7 14))))) 199 r8_59 rfl (Qai 162 _ _ g8 4 199 _ _ r8_59 rfl kj kj kj (Nat.lt_of_lt_of_eq (show 4 < 16 by decide) ((List.length_set ..).trans (QaC h7)).symm)) (fun W hp => Puts.row hp r63_59 (Qap r8_55_58 l63)) fun W60 p60 r8_60 => ?_
  have x60 : Ext w W60 := Puts.ext p60 x59 b8
  have r63_60 := (Puts.row p60 r63_59 (Qap r8_55_58 l63))
  refine QaG _ g8 _ (ints .u32 ((((x7.map wv).set 3 (wv (qA2 (wget x7 3) (wget x7 4) (wget x7 9) (wget x7 14)))).set 4 (wv (qB2 (wget x7 3) (wget x7 4) (wget x7 9) (wget x7 14)))).set 9 (wv (qC2 (wget x7 3) (wget x7 4) (wget x7 9) (wget x7 14))))) 199 r8_60 rfl (Qai 162 _ _ g8 9 199 _ _ r8_60 rfl kj kj kj (Nat.lt_of_lt_of_eq (show 9 < 16 by decide) ((List.length_set ..).trans ((List.length_set ..).trans (QaC h7))).symm)) (fun W hp => Puts.row hp r63_60 (Qap r8_55_58 l63)) fun W61 p61 r8_61 => ?_
  have x61 : Ext w W61 := Puts.ext p61 x60 b8
  have r63_61 := (Puts.row p61 r63_60 (Qap r8_55_58 l63))
  refine QaG _ g8 _ (ints .u32 (((((x7.map wv).set 3 (wv (qA2 (wget x7 3) (wget x7 4) (wget x7 9) (wget x7 14)))).set 4 (wv (qB2 (wget x7 3) (wget x7 4) (wget x7 9) (wget x7 14)))).set 9 (wv (qC2 (wget x7 3) (wget x7 4) (wget x7 9) (wget x7 14)))).set 14 (wv (qD2 (wget x7 3) (wget x7 4) (wget x7 9) (wget x7 14))))) 199 r8_61 rfl (Qai 162 _ _ g8 14 199 _ _ r8_61 rfl kj kj kj (Nat.lt_of_lt_of_eq (show 14 < 16 by decide) ((List.length_set ..).trans ((List.length_set ..).trans ((List.length_set ..).trans (QaC h7)))).symm)) (fun W hp => Puts.row hp r63_61 (Qap r8_55_58 l63)) fun W62 p62 r8_62 => ?_
  have x62 : Ext w W62 := Puts.ext p62 x61 b8
  refine Qcr ?_
  obtain ⟨x8, ex8⟩ : ∃ z : List Wd, z = qrt x7 3 4 9 14 := ⟨_, rfl⟩
  have h8 : x8.length = 16 := by rw [ex8, QcF, h7]
  have r8_62_64 : W62.heap[g8]? = some (.cells (ints .u32 (x8.map wv)) 199) := QaA r8_62 (by rw [ex8]; unfold qrt; simp only [List.map_set])
  refine hK61 _ _ ?_
  refine Qab ?_
  refine Qaa (.int .i64 8) 56 rfl kj kj ?_
  refine Qaa (.int .i64 8) 19 rfl kj kj ?_
  refine Qac ?_
  show Code.rounds _ _ _ 1 _ _
  show Code.wp _ _ (Exit.then (Code.rounds _ _ _ 0) _) _ _
  refine wp_seq_k fun K65 hK65 => ?_
  refine Qab ?_
  refine Qaa (.bool false) 20 rfl kj kj ?_
  refine Qac ?_
  refine hK65 _ _ ?_
  refine wp_seq_k fun K66 hK66 => ?_
  refine cond_false kj ?_
  refine wp_exit ?_
  refine hK14 _ _ ?_
  refine Qab ?_
  refine Qaa (.int .i64 ((i + 1 : Nat) : Int)) 57 rfl kj (Qal (u := .int .i64 (IntKind.i64.wrap (((i : Nat) : Int) + 1))) kj (congrArg (Value.int .i64) (i64n _ _ (by omega) (by omega)))) ?_
  refine Qaa (.int .i64 ((i + 1 : Nat) : Int)) 16 rfl kj kj ?_
  refine Qac ?_
  repeat (first | with_reducible refine goX1 ?_ | with_reducible refine goX2 ?_ | with_reducible refine goX3 ?_)
  exact QaI (i + 1) ⟨rfl, rfl, rfl, rfl, trivial⟩ ⟨(by omega), (QaA r8_62_64 (by rw [ex8, ex7, ex6, ex5, ex4, ex3, ex2, ex1, ex0]; rfl)), (Qar.puts (Qar.puts (Qar.puts (Qar.puts (Qar.step (Qar.puts (Qar.step (Qar.puts (Qar.puts (Qar.puts (Qar.puts (Qar.step (Qar.puts (Qar.step (Qar.puts (Qar.puts (Qar.puts (Qar.puts (Qar.step (Qar.puts (Qar.step (Qar.puts (Qar.puts (Qar.puts (Qar.puts (Qar.step (Qar.puts (Qar.step (Qar.puts (Qar.puts (Qar.puts (Qar.puts (Qar.step (Qar.puts (Qar.step (Qar.puts (Qar.puts (Qar.puts (Qar.puts (Qar.step (Qar.puts (Qar.step (Qar.puts (Qar.puts (Qar.puts (Qar.puts (Qar.step (Qar.puts (Qar.step (Qar.puts (Qar.puts (Qar.puts (Qar.puts (Qar.step (Qar.puts (Qar.step q6 e7) p8 (.inr (Nat.le_trans (Qar.size q6) (Nat.le_trans (Nat.le_refl _) l21)))) e9) p10 (.inl (by simp))) p11 (.inl (by simp))) p12 (.inl (by simp))) p13 (.inl (by simp))) e14) p15 (.inr (Nat.le_trans (Qar.size q6) (Nat.le_trans (Nat.le_trans (Nat.le_trans (Nat.le_trans (Nat.le_trans (Nat.le_trans (Nat.le_trans (Nat.le_trans (Nat.le_refl _) e7.size) (Nat.le_of_eq p8.2.2.2.1.symm)) e9.size) (Nat.le_of_eq p10.2.2.2.1.symm)) (Nat.le_of_eq p11.2.2.2.1.symm)) (Nat.le_of_eq p12.2.2.2.1.symm)) (Nat.le_of_eq p13.2.2.2.1.symm)) l27)))) e16) p17 (.inl (by simp))) p18 (.inl (by simp))) p19 (.inl (by simp))) p20 (.inl (by simp))) e21) p22 (.inr (Nat.le_trans (Qar.size q6) (Nat.le_trans (Nat.le_trans (Nat.le_trans (Nat.le_trans (Nat.le_trans (Nat.le_trans (Nat.le_trans (Nat.le_trans (Nat.le_trans (Nat.le_trans (Nat.le_trans (Nat.le_trans (Nat.le_trans (Nat.le_trans (Nat.le_trans (Nat.le_refl _) e7.size) (Nat.le_of_eq p8.2.2.2.1.symm)) e9.size) (Nat.le_of_eq p10.2.2.2.1.symm)) (Nat.le_of_eq p11.2.2.2.1.symm)) (Nat.le_of_eq p12.2.2.2.1.symm)) (Nat.le_of_eq p13.2.2.2.1.symm)) e14.size) (Nat.le_of_eq p15.2.2.2.1.symm)) e16.size) (Nat.le_of_eq p17.2.2.2.1.symm)) (Nat.le_of_eq p18.2.2.2.1.symm)) (Nat.le_of_eq p19.2.2.2.1.symm)) (Nat.le_of_eq p20.2.2.2.1.symm)) l33)))) e23) p24 (.inl (by simp))) p25 (.inl (by simp))) p26 (.inl (by simp))) p27 (.inl (by simp))) e28) p29 (.inr (Nat.le_trans (Qar.size q6) (Nat.le_trans (Nat.le_trans (Nat.le_trans (Nat.le_trans (Nat.le_trans (Nat.le_trans (Nat.le_trans (Nat.le_trans (Nat.le_trans (Nat.le_trans (Nat.le_trans (Nat.le_trans (Nat.le_trans (Nat.le_trans (Nat.le_trans (Nat.le_trans (Nat.le_trans (Nat.le_trans (Nat.le_trans (Nat.le_trans (Nat.le_trans (Nat.le_trans (Nat.le_refl _) e7.size) (Nat.le_of_eq p8.2.2.2.1.symm)) e9.size) (Nat.le_of_eq p10.2.2.2.1.symm)) (Nat.le_of_eq p11.2.2.2.1.symm)) (Nat.le_of_eq p12.2.2.2.1.symm)) (Nat.le_of_eq p13.2.2.2.1.symm)) e14.size) (Nat.le_of_eq p15.2.2.2.1.symm)) e16.size) (Nat.le_of_eq p17.2.2.2.1.symm)) (Nat.le_of_eq p18.2.2.2.1.symm)) (Nat.le_of_eq p19.2.2.2.1.symm)) (Nat.le_of_eq p20.2.2.2.1.symm)) e21.size) (Nat.le_of_eq p22.2.2.2.1.symm)) e23.size) (Nat.le_of_eq p24.2.2.2.1.symm)) (Nat.le_of_eq p25.2.2.2.1.symm)) (Nat.le_of_eq p26.2.2.2.1.symm)) (Nat.le_of_eq p27.2.2.2.1.symm)) l39)))) e30) p31 (.inl (by simp))) p32 (.inl (by simp))) p33 (.inl (by simp))) p34 (.inl (by simp))) e35) p36 (.inr (Nat.le_trans (Qar.size q6) (Nat.le_trans (Nat.le_trans (Nat.le_trans (Nat.le_trans (Nat.le_trans (Nat.le_trans (Nat.le_trans (Nat.le_trans (Nat.le_trans (Nat.le_trans (Nat.le_trans (Nat.le_trans (Nat.le_trans (Nat.le_trans (Nat.le_trans (Nat.le_trans (Nat.le_trans (Nat.le_trans (Nat.le_trans (Nat.le_trans (Nat.le_trans (Nat.le_trans (Nat.le_trans (Nat.le_trans (Nat.le_trans (Nat.le_trans (Nat.le_trans (Nat.le_trans (Nat.le_trans (Nat.le_refl _) e7.size) (Nat.le_of_eq p8.2.2.2.1.symm)) e9.size) (Nat.le_of_eq p10.2.2.2.1.symm)) (Nat.le_of_eq p11.2.2.2.1.symm)) (Nat.le_of_eq p12.2.2.2.1.symm)) (Nat.le_of_eq p13.2.2.2.1.symm)) e14.size) (Nat.le_of_eq p15.2.2.2.1.symm)) e16.size) (Nat.le_of_eq p17.2.2.2.1.symm)) (Nat.le_of_eq p18.2.2.2.1.symm)) (Nat.le_of_eq p19.2.2.2.1.symm)) (Nat.le_of_eq p20.2.2.2.1.symm)) e21.size) (Nat.le_of_eq p22.2.2.2.1.symm)) e23.size) (Nat.le_of_eq p24.2.2.2.1.symm)) (Nat.le_of_eq p25.2.2.2.1.symm)) (Nat.le_of_eq p26.2.2.2.1.symm)) (Nat.le_of_eq p27.2.2.2.1.symm)) e28.size) (Nat.le_of_eq p29.2.2.2.1.symm)) e30.size) (Nat.le_of_eq p31.2.2.2.1.symm)) (Nat.le_of_eq p32.2.2.2.1.symm)) (Nat.le_of_eq p33.2.2.2.1.symm)) (Nat.le_of_eq p34.2.2.2.1.symm)) l45)))) e37) p38 (.inl (by simp))) p39 (.inl (by simp))) p40 (.inl (by simp))) p41 (.inl (by simp))) e42) p43 (.inr (Nat.le_trans (Qar.size q6) (Nat.le_trans (Nat.le_trans (Nat.le_trans (Nat.le_trans (Nat.le_trans (Nat.le_trans (Nat.le_trans (Nat.le_trans (Nat.le_trans (Nat.le_trans (Nat.le_trans (Nat.le_trans (Nat.le_trans (Nat.le_trans (Nat.le_trans (Nat.le_trans (Nat.le_trans (Nat.le_trans (Nat.le_trans (Nat.le_trans (Nat.le_trans (Nat.le_trans (Nat.le_trans (Nat.le_trans (Nat.le_trans (Nat.le_trans (Nat.le_trans (Nat.le_trans (Nat.le_trans (Nat.le_trans (Nat.le_trans (Nat.le_trans (Nat.le_trans (Nat.le_trans (Nat.le_trans (Nat.le_trans (Nat.le_refl _) e7.size) (Nat.le_of_eq p8.2.2.2.1.symm)) e9.size) (Nat.le_of_eq p10.2.2.2.1.symm)) (Nat.le_of_eq p11.2.2.2.1.symm)) (Nat.le_of_eq p12.2.2.2.1.symm)) (Nat.le_of_eq p13.2.2.2.1.symm)) e14.size) (Nat.le_of_eq p15.2.2.2.1.symm)) e16.size) (Nat.le_of_eq p17.2.2.2.1.symm)) (Nat.le_of_eq p18.2.2.2.1.symm)) (Nat.le_of_eq p19.2.2.2.1.symm)) (Nat.le_of_eq p20.2.2.2.1.symm)) e21.size) (Nat.le_of_eq p22.2.2.2.1.symm)) e23.size) (Nat.le_of_eq p24.2.2.2.1.symm)) (Nat.le_of_eq p25.2.2.2.1.symm)) (Nat.le_of_eq p26.2.2.2.1.symm)) (Nat.le_of_eq p27.2.2.2.1.symm)) e28.size) (Nat.le_of_eq p29.2.2.2.1.symm)) e30.size) (Nat.le_of_eq p31.2.2.2.1.symm)) (Nat.le_of_eq p32.2.2.2.1.symm)) (Nat.le_of_eq p33.2.2.2.1.symm)) (Nat.le_of_eq p34.2.2.2.1.symm)) e35.size) (Nat.le_of_eq p36.2.2.2.1.symm)) e37.size) (Nat.le_of_eq p38.2.2.2.1.symm)) (Nat.le_of_eq p39.2.2.2.1.symm)) (Nat.le_of_eq p40.2.2.2.1.symm)) (Nat.le_of_eq p41.2.2.2.1.symm)) l51)))) e44) p45 (.inl (by simp))) p46 (.inl (by simp))) p47 (.inl (by simp))) p48 (.inl (by simp))) e49) p50 (.inr (Nat.le_trans (Qar.size q6) (Nat.le_trans (Nat.le_trans (Nat.le_trans (Nat.le_trans (Nat.le_trans (Nat.le_trans (Nat.le_trans (Nat.le_trans (Nat.le_trans (Nat.le_trans (Nat.le_trans (Nat.le_trans (Nat.le_trans (Nat.le_trans (Nat.le_trans (Nat.le_trans (Nat.le_trans (Nat.le_trans (Nat.le_trans (Nat.le_trans (Nat.le_trans (Nat.le_trans (Nat.le_trans (Nat.le_trans (Nat.le_trans (Nat.le_trans (Nat.le_trans (Nat.le_trans (Nat.le_trans (Nat.le_trans (Nat.le_trans (Nat.le_trans (Nat.le_trans (Nat.le_trans (Nat.le_trans (Nat.le_trans (Nat.le_trans (Nat.le_trans (Nat.le_trans (Nat.le_trans (Nat.le_trans (Nat.le_trans (Nat.le_trans (Nat.le_refl _) e7.size) (Nat.le_of_eq p8.2.2.2.1.symm)) e9.size) (Nat.le_of_eq p10.2.2.2.1.symm)) (Nat.le_of_eq p11.2.2.2.1.symm)) (Nat.le_of_eq p12.2.2.2.1.symm)) (Nat.le_of_eq p13.2.2.2.1.symm)) e14.size) (Nat.le_of_eq p15.2.2.2.1.symm)) e16.size) (Nat.le_of_eq p17.2.2.2.1.symm)) (Nat.le_of_eq p18.2.2.2.1.symm)) (Nat.le_of_eq p19.2.2.2.1.symm)) (Nat.le_of_eq p20.2.2.2.1.symm)) e21.size) (Nat.le_of_eq p22.2.2.2.1.symm)) e23.size) (Nat.le_of_eq p24.2.2.2.1.symm)) (Nat.le_of_eq p25.2.2.2.1.symm)) (Nat.le_of_eq p26.2.2.2.1.symm)) (Nat.le_of_eq p27.2.2.2.1.symm)) e28.size) (Nat.le_of_eq p29.2.2.2.1.symm)) e30.size) (Nat.le_of_eq p31.2.2.2.1.symm)) (Nat.le_of_eq p32.2.2.2.1.symm)) (Nat.le_of_eq p33.2.2.2.1.symm)) (Nat.le_of_eq p34.2.2.2.1.symm)) e35.size) (Nat.le_of_eq p36.2.2.2.1.symm)) e37.size) (Nat.le_of_eq p38.2.2.2.1.symm)) (Nat.le_of_eq p39.2.2.2.1.symm)) (Nat.le_of_eq p40.2.2.2.1.symm)) (Nat.le_of_eq p41.2.2.2.1.symm)) e42.size) (Nat.le_of_eq p43.2.2.2.1.symm)) e44.size) (Nat.le_of_eq p45.2.2.2.1.symm)) (Nat.le_of_eq p46.2.2.2.1.symm)) (Nat.le_of_eq p47.2.2.2.1.symm)) (Nat.le_of_eq p48.2.2.2.1.symm)) l57)))) e51) p52 (.inl (by simp))) p53 (.inl (by simp))) p54 (.inl (by simp))) p55 (.inl (by simp))) e56) p57 (.inr (Nat.le_trans (Qar.size q6) (Nat.le_trans (Nat.le_trans (Nat.le_trans (Nat.le_trans (Nat.le_trans (Nat.le_trans (Nat.le_trans (Nat.le_trans (Nat.le_trans (Nat.le_trans (Nat.le_trans (Nat.le_trans (Nat.le_trans (Nat.le_trans (Nat.le_trans (Nat.le_trans (Nat.le_trans (Nat.le_trans (Nat.le_trans (Nat.le_trans (Nat.le_trans (Nat.le_trans (Nat.le_trans (Nat.le_trans (Nat.le_trans (Nat.le_trans (Nat.le_trans (Nat.le_trans (Nat.le_trans (Nat.le_trans (Nat.le_trans (Nat.le_trans (Nat.le_trans (Nat.le_trans (Nat.le_trans (Nat.le_trans (Nat.le_trans (Nat.le_trans (Nat.le_trans (Nat.le_trans (Nat.le_trans (Nat.le_trans (Nat.le_trans (Nat.le_trans (Nat.le_trans (Nat.le_trans (Nat.le_trans (Nat.le_trans (Nat.le_trans (Nat.le_trans (Nat.le_refl _) e7.size) (Nat.le_of_eq p8.2.2.2.1.symm)) e9.size) (Nat.le_of_eq p10.2.2.2.1.symm)) (Nat.le_of_eq p11.2.2.2.1.symm)) (Nat.le_of_eq p12.2.2.2.1.symm)) (Nat.le_of_eq p13.2.2.2.1.symm)) e14.size) (Nat.le_of_eq p15.2.2.2.1.symm)) e16.size) (Nat.le_of_eq p17.2.2.2.1.symm)) (Nat.le_of_eq p18.2.2.2.1.symm)) (Nat.le_of_eq p19.2.2.2.1.symm)) (Nat.le_of_eq p20.2.2.2.1.symm)) e21.size) (Nat.le_of_eq p22.2.2.2.1.symm)) e23.size) (Nat.le_of_eq p24.2.2.2.1.symm)) (Nat.le_of_eq p25.2.2.2.1.symm)) (Nat.le_of_eq p26.2.2.2.1.symm)) (Nat.le_of_eq p27.2.2.2.1.symm)) e28.size) (Nat.le_of_eq p29.2.2.2.1.symm)) e30.size) (Nat.le_of_eq p31.2.2.2.1.symm)) (Nat.le_of_eq p32.2.2.2.1.symm)) (Nat.le_of_eq p33.2.2.2.1.symm)) (Nat.le_of_eq p34.2.2.2.1.symm)) e35.size) (Nat.le_of_eq p36.2.2.2.1.symm)) e37.size) (Nat.le_of_eq p38.2.2.2.1.symm)) (Nat.le_of_eq p39.2.2.2.1.symm)) (Nat.le_of_eq p40.2.2.2.1.symm)) (Nat.le_of_eq p41.2.2.2.1.symm)) e42.size) (Nat.le_of_eq p43.2.2.2.1.symm)) e44.size) (Nat.le_of_eq p45.2.2.2.1.symm)) (Nat.le_of_eq p46.2.2.2.1.symm)) (Nat.le_of_eq p47.2.2.2.1.symm)) (Nat.le_of_eq p48.2.2.2.1.symm)) e49.size) (Nat.le_of_eq p50.2.2.2.1.symm)) e51.size) (Nat.le_of_eq p52.2.2.2.1.symm)) (Nat.le_of_eq p53.2.2.2.1.symm)) (Nat.le_of_eq p54.2.2.2.1.symm)) (Nat.le_of_eq p55.2.2.2.1.symm)) l63)))) e58) p59 (.inl (by simp))) p60 (.inl (by simp))) p61 (.inl (by simp))) p62 (.inl (by simp))), x62⟩ (by omega)
 ·skip
  have heq17 : i = 10 := by have := of_decide_eq_false c13; omega
  obtain ⟨xF, exF⟩ : ∃ z : List Wd, z = rounds s 10 := ⟨_, rfl⟩
  have hxF : xF.length = 16 := by rw [exF, QdC, hs]
  subst heq17
  have r8_6_67 : V1.heap[g8]? = some (.cells (ints .u32 (xF.map wv)) 199) := QaA q8_1 (by rw [exF])
  refine wp_exit ?_
  refine hK9 _ _ ?_
  refine wp_seq_k fun K68 hK68 => ?_
  refine Qab ?_
  refine Qaq (ints .u8 (List.replicate 64 0)) 164 8 rfl kj kj fun g69 W7 l69 e7 r69_7 => ?_
  have x7 : Ext w W7 := Ext.tr xx1 e7
  have b69 : w.heap.size ≤ g69 := Nat.le_trans xx1.size l69
  refine Qac ?_
  refine hK68 _ _ ?_
  refine wp_seq_k fun K70 hK70 => ?_
  refine wp_seq_k fun K71 hK71 => ?_
  refine Qab ?_
  refine Qaa (.int .i64 0) 58 rfl kj kj ?_
  refine Qac ?_
  refine hK71 _ _ ?_
  refine wp_block ?_
  have hP : (QbU xF s).length = 64 := QeD _ _
  refine QaO (fun (s2 : Nat) => [(2, .pointer (some ⟨g3, 0, none⟩)), (4, .pointer (some ⟨g4, 0, none⟩)), (5, .pointer (some ⟨g8, 0, none⟩)), (8, .pointer (some ⟨g69, 0, none⟩)), (58, .int .i64 ((s2 : Nat) : Int))]) (fun (s2 : Nat) W => (s2 ≤ 16) ∧ (W.heap[g69]? = some (.cells (ints .u8 (Qb9 (QbU xF s) 64 (4 * s2))) 164)) ∧ (Qar [g69] W7 W) ∧ (Ext w W)) (fun (s2 : Nat) => 16 - s2) 0 ⟨rfl, rfl, rfl, rfl, rfl, trivial⟩ ⟨(Nat.zero_le _), (QaA r69_7 (QbZ _ 64)), (Qar.refl [g69] W7), x7⟩ fun s2 X2 V2 hI2 => ?_
  obtain ⟨i, hs2⟩ : ∃ z, z = s2 := ⟨_, rfl⟩
  subst hs2
  obtain ⟨hi, q69_2, kk2, xx2⟩ := hI2
  replace hi : i ≤ 16 := hi
  replace q69_2 : V2.heap[g69]? = some (.cells (ints .u8 (Qb9 (QbU xF s) 64 (4 * i))) 164) := q69_2
  replace kk2 : Qar [g69] W7 V2 := kk2
  replace xx2 : Ext w V2 := xx2
  have q8 := kk2
  refine wp_seq_k fun K72 hK72 => ?_
  refine Qab ?_
  refine Qaa (.bool (decide (((i : Nat) : Int) < 16))) 59 rfl kj kj ?_
  refine Qac ?_
  refine hK72 _ _ ?_
  refine wp_seq_k fun K73 hK73 => ?_
  refine Qa7 (t := decide (((i : Nat) : Int) < 16)) kj (fun c74 => ?_) (fun c74 => ?_)
  ·skip
   have hlt59 : i < 16 := by have := of_decide_eq_true c74; omega
   refine wp_skip ?_
   refine hK73 _ _ ?_
   refine wp_seq_k fun K75 hK75 => ?_
   refine wp_block ?_
   refine wp_seq_k fun K76 hK76 => ?_
   refine Qab ?_
   refine Qaa (.int .i64 ((i : Nat) : Int)) 60 rfl kj kj ?_
   refine Qaa (.int .i64 ((i : Nat) : Int)) 9 rfl kj kj ?_
   refine Qac ?_
   refine hK76 _ _ ?_
   refine wp_seq_k fun K77 hK77 => ?_
   refine QaX 7 [⟨none, [(9, none)]⟩, ⟨none, [(5, none), (61, some 0)]⟩, ⟨none, [(62, some 1)]⟩, ⟨none, [(9, none)]⟩, ⟨none, [(2, none), (64, some 3)]⟩, ⟨none, [(65, some 4)]⟩, ⟨none, [(63, some 2), (66, some 5)]⟩] kj kj fun F hF => ?_
   refine Qao (.int .i64 ((i : Nat) : Int)) kj kj (fun W => by kernel_rfl) ?_
   refine Qao (.pointer (some ⟨g8, i, none⟩)) kj kj (fun W => (QaH _ _ _ .i64 (i) _ 16 162 rfl kj kj kj kj (by omega))) ?_
   have r8_7 := (Qad r8_6_67 e7)
   have r8_8 := (Qar.row q8 r8_7 (Qa5 (Qae r8_6_67 l69) QaT))
   refine QaK (.int .u32 (wv (wget xF i))) kj kj (fun W hR => (Qag 162 _ g8 i 199 _ (.int .u32 (wv (wget xF i))) _ (Qad (Qad r8_8 (Qak _)) hR) rfl kj ((Qa1 _ _ _ (Nat.lt_of_lt_of_eq (by omega) (QaC hxF).symm)).trans (congrArg (fun z => some (Value.int .u32 z)) (QaM xF i))) kj)) ?_
   refine Qao (.int .i64 ((i : Nat) : Int)) kj kj (fun W => by kernel_rfl) ?_
   refine Qao (.pointer (some ⟨g3, i, none⟩)) kj kj (fun W => (QaH _ _ _ .i64 (i) _ 16 162 rfl kj kj kj kj (by omega))) ?_
   have r3_4 := (Qad r3_3_6 e4)
   have r3_5 := (Puts.row p5 r3_4 (Qae r3_3_6 l8))
   have r3_6 := (Qar.row q6 r3_5 (Qa5 (Qae r3_3_6 l8) QaT))
   have r3_7 := (Qad r3_6 e7)
   have r3_8 := (Qar.row q8 r3_7 (Qa5 (Qae r3_6 l69) QaT))
   refine QaK (.int .u32 (wv (wget s i))) kj kj (fun W hR => (Qag 162 _ g3 i 199 _ (.int .u32 (wv (wget s i))) _ (Qad (Qad r3_8 (Qak _)) hR) rfl kj ((Qa1 _ _ _ (Nat.lt_of_lt_of_eq (by omega) (QaC hs).symm)).trans (congrArg (fun z => some (Value.int .u32 z)) (QaM s i))) kj)) ?_
   refine Qao (.int .u32 (wv (((wget xF i)) + ((wget s i))))) kj kj (fun W => (Qal (u := .int .u32 (IntKind.u32.wrap (wv (wget xF i) + wv (wget s i)))) kj (congrArg (Value.int .u32) (Qcf _ _)))) ?_
   refine Qbh (hF _ kj fun W9 e9 => ?_)
   simp only [ups, up, Kn.val, List.take_succ_cons, List.take_zero, List.drop_succ_cons, List.drop_zero, List.nil_append, List.cons_append]
   clear hF
   have x9 : Ext w W9 := Ext.tr xx2 e9
   refine Qaa (.int .u32 (wv (((wget xF i)) + ((wget s i))))) 10 rfl kj kj ?_
   refine Qac ?_
   refine hK77 _ _ ?_
   refine wp_seq_k fun K78 hK78 => ?_
   refine Qab ?_
   refine Qaa (.int .i64 0) 68 rfl kj kj ?_
   refine Qac ?_
   refine hK78 _ _ ?_
   refine wp_block ?_
   have r69_9 := (Qad q69_2 e9)
   refine QaO (fun (s3 : Nat) => [(2, .pointer (some ⟨g3, 0, none⟩)), (4, .pointer (some ⟨g4, 0, none⟩)), (5, .pointer (some ⟨g8, 0, none⟩)), (8, .pointer (some ⟨g69, 0, none⟩)), (58, .int .i64 ((i : Nat) : Int)), (9, .int .i64 ((i : Nat) : Int)), (10, .int .u32 (wv (wget xF i + wget s i))), (68, .int .i64 ((s3 : Nat) : Int))]) (fun (s3 : Nat) W => (s3 ≤ 4) ∧ (W.heap[g69]? = some (.cells (ints .u8 (Qb9 (QbU xF s) 64 (4 * i + s3))) 164)) ∧ (Qar [g69] W9 W) ∧ (Ext w W)) (fun (s3 : Nat) => 4 - s3) 0 ⟨rfl, rfl, rfl, rfl, rfl, rfl, rfl, rfl, trivial⟩ ⟨(Nat.zero_le _), (QaA r69_9 rfl), (Qar.refl [g69] W9), x9⟩ fun s3 X3 V3 hI3 => ?_
   obtain ⟨j, hs3⟩ : ∃ z, z = s3 := ⟨_, rfl⟩
   subst hs3
   obtain ⟨hj, q69_3, kk3, xx3⟩ := hI3
   replace hj : j ≤ 4 := hj
   replace q69_3 : V3.heap[g69]? = some (.cells (ints .u8 (Qb9 (QbU xF s) 64 (4 * i + j))) 164) := q69_3
   replace kk3 : Qar [g69] W9 V3 := kk3
   replace xx3 : Ext w V3 := xx3
   have q10 := kk3
   refine wp_seq_k fun K79 hK79 => ?_
   refine Qab ?_
   refine Qaa (.bool (decide (((j : Nat) : Int) < 4))) 69 rfl kj kj ?_
   refine Qac ?_
   refine hK79 _ _ ?_
   refine wp_seq_k fun K80 hK80 => ?_
   refine Qa7 (t := decide (((j : Nat) : Int) < 4)) kj (fun c81 => ?_) (fun c81 => ?_)
   ·skip
    have hlt69 : j < 4 := by have := of_decide_eq_true c81; omega
    refine wp_skip ?_
    refine hK80 _ _ ?_
    refine wp_seq_k fun K82 hK82 => ?_
    refine wp_block ?_
    refine wp_seq_k fun K83 hK83 => ?_
    refine Qab ?_
    refine Qaa (.int .i64 ((j : Nat) : Int)) 70 rfl kj kj ?_
    refine Qaa (.int .i64 ((j : Nat) : Int)) 11 rfl kj kj ?_
    refine Qac ?_
    refine hK83 _ _ ?_
    refine Qab ?_
    refine Qaa (.int .i64 ((i : Nat) : Int)) 71 rfl kj kj ?_
    refine Qaa (.int .i64 ((4 * i : Nat) : Int)) 72 rfl kj (Qal (u := .int .i64 (IntKind.i64.wrap (4 * ((i : Nat) : Int)))) kj (congrArg (Value.int .i64) (i64n _ _ (by omega) (by omega)))) ?_
    refine Qaa (.int .i64 ((j : Nat) : Int)) 73 rfl kj kj ?_
    refine Qaa (.int .i64 (((4 * i) + j : Nat) : Int)) 74 rfl kj (Qal (u := .int .i64 (IntKind.i64.wrap (((4 * i : Nat) : Int) + ((j : Nat) : Int)))) kj (congrArg (Value.int .i64) (i64n _ _ (by omega) (by omega)))) ?_
    refine Qaa (.int .u32 (wv (wget xF i + wget s i))) 75 rfl kj kj ?_
    refine Qaa (.int .i64 ((j : Nat) : Int)) 76 rfl kj kj ?_
    refine Qaa (.int .i64 ((8 * j : Nat) : Int)) 77 rfl kj (Qal (u := .int .i64 (IntKind.i64.wrap (8 * ((j : Nat) : Int)))) kj (congrArg (Value.int .i64) (i64n _ _ (by omega) (by omega)))) ?_
    refine Qaa (.int .u32 (wv ((wget xF i + wget s i) >>> (8 * j)))) 78 rfl kj (Qa3 .shr _ _ _ _ .u32 .i64 _ _ _ rfl kj kj (Qbg _ _ _ _ _ _ (by omega) (Qb6 _ _ (8 * j) rfl (by omega)))) ?_
    refine Qaa (.int .u8 (nth (QbU xF s) (4 * i + j))) 79 rfl kj (Qal (u := .int .u8 (IntKind.u8.wrap (wv ((wget xF i + wget s i) >>> (8 * j))))) kj (congrArg (Value.int .u8) (QkE xF s i j hlt59 hlt69))) ?_
    refine Qaa (.pointer (some ⟨g69, (4 * i) + j, none⟩)) 80 rfl kj (QaH _ _ _ .i64 ((4 * i) + j) _ 64 5 rfl kj kj kj kj (by omega)) ?_
    refine Qah g69 _ (ints .u8 ((Qb9 (QbU xF s) 64 (4 * i + j)).set ((4 * i) + j) (nth (QbU xF s) (4 * i + j)))) 164 q69_3 rfl kj (Qai 5 _ _ g69 ((4 * i) + j) 164 _ _ q69_3 rfl kj kj kj (Nat.lt_of_lt_of_eq (by omega) (Qcn _ 64 _ hP (by omega)).symm)) fun W11 p11 r69_11 => ?_
    have x11 : Ext w W11 := Puts.ext p11 xx3 b69
    refine Qac ?_
    refine hK82 _ _ ?_
    refine Qab ?_
    refine Qaa (.int .i64 ((j + 1 : Nat) : Int)) 81 rfl kj (Qal (u := .int .i64 (IntKind.i64.wrap (((j : Nat) : Int) + 1))) kj (congrArg (Value.int .i64) (i64n _ _ (by omega) (by omega)))) ?_
    refine Qaa (.int .i64 ((j + 1 : Nat) : Int)) 68 rfl kj kj ?_
    refine Qac ?_
    repeat (first | with_reducible refine goX1 ?_ | with_reducible refine goX2 ?_ | with_reducible refine goX3 ?_)
    exact QaI (j + 1) ⟨rfl, rfl, rfl, rfl, rfl, rfl, rfl, rfl, trivial⟩ ⟨(by omega), (QaA r69_11 (Qca _ 64 (4 * i + j) hP (by omega))), (Qar.puts q10 p11 (.inl (by simp))), x11⟩ (by omega)
   ·skip
    have heq69 : j = 4 := by have := of_decide_eq_false c81; omega
    refine wp_exit ?_
    refine hK75 _ _ ?_
    refine Qab ?_
    refine Qaa (.int .i64 ((i + 1 : Nat) : Int)) 82 rfl kj (Qal (u := .int .i64 (IntKind.i64.wrap (((i : Nat) : Int) + 1))) kj (congrArg (Value.int .i64) (i64n _ _ (by omega) (by omega)))) ?_
    refine Qaa (.int .i64 ((i + 1 : Nat) : Int)) 58 rfl kj kj ?_
    refine Qac ?_
    repeat (first | with_reducible refine goX1 ?_ | with_reducible refine goX2 ?_ | with_reducible refine goX3 ?_)
    exact QaI (i + 1) ⟨rfl, rfl, rfl, rfl, rfl, trivial⟩ ⟨(by omega), (QaA q69_3 (by rw [heq69]; rfl)), (Qar.keeps (Qar.step q8 e9) q10 (Qh5 (.inl (by simp)) QiQ)), xx3⟩ (by omega)
  ·skip
   have heq59 : i = 16 := by have := of_decide_eq_false c74; omega
   subst heq59
   have r69_8_84 : V2.heap[g69]? = some (.cells (ints .u8 (QbU xF s)) 164) := QaA q69_2 (QbN _ 64 hP)
   refine wp_exit ?_
   refine hK70 _ _ ?_
   refine wp_seq_k fun K85 hK85 => ?_
   refine Qab ?_
   refine Qaa (.agg (ints .u8 (QbU xF s))) 83 rfl kj (Qas 164 _ g69 164 _ _ r69_8_84 rfl kj kj (isz (n := 64) kj ((Qaf _ _).trans hP))) ?_
   have r4_3 := (Puts.row p3 r4_2 (Qap r3_1 l4))
   have r4_4 := (Qad r4_3 e4)
   have r4_5 := (Puts.row p5 r4_4 (Qae r4_3 l8))
   have r4_6 := (Qar.row q6 r4_5 (Qa5 (Qae r4_3 l8) QaT))
   have r4_7 := (Qad r4_6 e7)
   have r4_8 := (Qar.row q8 r4_7 (Qa5 (Qae r4_6 l69) QaT))
   refine Qah g4 _ (ints .u8 (QbU xF s)) 164 r4_8 rfl kj (Qam 164 _ _ g4 164 _ _ r4_8 rfl kj kj (isz (n := 64) kj ((Qaf _ _).trans hP)) (eqsz (n := 64) ((Qaf _ _).trans (List.length_replicate (n := 64))) ((Qaf _ _).trans hP)) (Qay _ _)) fun W9 p9 r4_9 => ?_
   have x9 : Ext w W9 := Puts.ext p9 xx2 b4
   refine Qac ?_
   refine hK85 _ _ ?_
   refine wp_ret ?_
   repeat (first | with_reducible refine goR1 ?_ | with_reducible refine goR2 ?_)
   exact (show bodyPost _ _ _ .ret _ _ from ret1 (.agg (ints .u8 (QbU xF s))) rfl (QaU g4 164 _ r4_9 kj kj (isz (n := 64) kj ((Qaf _ _).trans hP))) ⟨by unfold Qbk; rw [exF, es], x9⟩)
end Go.Proofs.YtoiendjhplbjjaaDoor.Cha
end
