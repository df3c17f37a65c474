/- Texts of this claim, joined (O2). -/
import Derived.Test.YtibegnjaphohaaaDoorZO1
import Derived.Lib.AppendZeros
import Derived.Lib.AppendStr
import Derived.MapKept
import Derived.ChangeMaps4
import Derived.Maps.RangeRun
import Derived.Laws.BitsAll

section
namespace Go.Proofs.YtibegnjaphohaaaDoor.Sha
open Go Go.RowKit
open Rely Auto Own
set_option linter.unusedVariables false
theorem Qgw (x : Wd) : Qao (wby x) := fun y hy => by
  simp only [wby, List.mem_cons, List.not_mem_nil, or_false] at hy
  rcases hy with h | h | h | h <;> omega
theorem QeR (t : List Int) : Qao (dig t) := fun y hy => by
  unfold dig S8.out at hy
  obtain ⟨x, _, h⟩ := List.mem_flatMap.1 hy
  exact Qgw x y h
def xorb (c x : Int) : Int := bits .xor .u8 x c
theorem Qgu (c x : Int) : 0 ≤ xorb c x ∧ xorb c x ≤ 255 := by
  unfold xorb bits
  have : ∀ z : Int, IntKind.u8.wrap z = z % 2 ^ 8 := fun _ => rfl
  rw [this]; omega
def keyL (key : List Int) : List Int := if 64 < key.length then dig key else key
def keyB (key : List Int) : List Int := keyL key ++ List.replicate (64 - (keyL key).length) 0
def padX (c : Int) (key : List Int) : List Int := (keyB key).map (xorb c)
def hmac (key t : List Int) : List Int := dig (padX 92 key ++ dig (padX 54 key ++ t))
theorem QhH (key : List Int) : (keyL key).length ≤ 64 := by
  unfold keyL
  split
  · rw [Qbd]; decide
  · omega
theorem Qbi (key : List Int) : (keyB key).length = 64 := by
  have := QhH key
  simp [keyB]; omega
theorem Qa4 (c : Int) (key : List Int) : (padX c key).length = 64 := by rw [padX, List.length_map, Qbi]
theorem QdS (c : Int) (key : List Int) : Qao (padX c key) := fun y hy => by
  obtain ⟨x, _, rfl⟩ := List.mem_map.1 hy
  exact Qgu c x
theorem Qdv (c : Int) (key : List Int) {i : Nat} (h : i < 64) : nth (padX c key) i = bits .xor .u8 (nth (keyB key) i) c := by
  have hl := Qbi key
  show nth ((keyB key).map (xorb c)) i = xorb c (nth (keyB key) i)
  simp [nth, List.getD_eq_getElem?_getD, show i < (keyB key).length by omega]
theorem Qbz (key t : List Int) : (hmac key t).length = 32 := Qbd _
theorem Qgp (key t : List Int) : Qao (hmac key t) := QeR _
def puts (xs ys : List Int) (m : Nat) : List Int := xs.take m ++ ys.drop m
theorem Qfv {xs ys : List Int} {n m : Nat} (hx : xs.length = n) (hy : ys.length = n) (hm : m ≤ n) : (puts xs ys m).length = n := by simp [puts]; omega
theorem Qe8 (xs ys : List Int) : puts xs ys 0 = ys := by simp [puts]
theorem Qe9 {xs ys : List Int} {n : Nat} (hx : xs.length = n) (hy : ys.length = n) : puts xs ys n = xs := by
  unfold puts
  rw [List.take_of_length_le (by omega), List.drop_of_length_le (by omega), List.append_nil]
theorem Qfu {xs ys : List Int} {n m : Nat} (hx : xs.length = n) (hy : ys.length = n) (hm : m < n) : (puts xs ys m).set m (nth xs m) = puts xs ys (m + 1) := by
  unfold puts
  have hl : (xs.take m).length = m := by rw [List.length_take]; omega
  rw [List.set_append_right _ _ (by omega), hl, Nat.sub_self, List.drop_eq_getElem_cons (by omega), List.set_cons_zero, List.take_add_one, List.getElem?_eq_getElem (by omega), List.append_assoc]
  simp [nth, show m < xs.length by omega]
section
variable {ds : List Deferred} {P : Program} {ops : Array Oper} {Q : Exit → Act → World → Prop} {rest : List Oper} {o : Oper} {N : Nat} {L : Env} {W : World}
theorem Qe1 {k : IntKind} {e : TypeId} (x y : Operand) (tx ty : TypeId) (d : Nat) (ho : o.op = .call { callee := .builtin .copy, args := #[x, y], argTypes := #[tx, ty] }) (hu : P.underlying tx = some (.slice e)) (hsz : (P.info? e).map (·.size) = some 1) (hd : o.dst = some d) (hgd : QaZ ops o N L = some true)
    {g off dl dc n B : Nat} {xs z : List Int} {v : Value} {T : TypeId} (hx : Rely.look (envN N L) x = .slice (some ⟨g, off, none⟩) dl dc) (hy : Rely.look (envN N L) y = v) (hr : RdK k B z v W)
    (hg : W.heap[g]? = some (.cells (ints k xs) T)) (hq : off + dl ≤ xs.length) (hn : n = min z.length dl)
    (kk : ∀ W' : World, Puts W g W' → W'.heap[g]? = some (.cells (ints k (xs.take off ++ z.take n ++ xs.drop (off + n))) T) → WL P ops Q rest (Qaq ds N ((d, .int .i64 ((n : Nat) : Int)) :: L)) W') : WL P ops Q (o :: rest) (Qaq ds N L) W := by
  obtain ⟨a, cap, rfl, y2, y3, y4, y5⟩ := hr
  have hgo : ∀ W', (Builtin.copy_ #[tx, ty] o.type #[.slice (some ⟨g, off, none⟩) dl dc, .slice a z.length cap]).run P W = .ok (goInt n) W' → (execOp (Rely.look (envN N L)) o).run P W = .ok (.value (.int .i64 ((n : Nat) : Int))) W' := fun W' h => by
    unfold execOp
    simp only [ho, resolve, invoke, builtin, Sem.run_bind, Sem.run_pure, Result.andThen_ok, List.map_toArray, List.map_cons, List.map_nil, hx, hy, h, goInt]
  rcases Nat.eq_zero_or_pos n with h0 | h0
  · refine Qbe _ _ d hd hgd (hgo W ?_) (kk W ⟨rfl, rfl, rfl, rfl, fun _ _ => rfl⟩ ?_)
    · rw [h0]; exact run_copy_none W tx ty o.type e _ _ _ _ _ _ hu hsz (hn.symm.trans h0)
    · rw [h0, List.take_zero, List.append_nil, Nat.add_zero, List.take_append_drop]; exact hg
  · obtain ⟨gz, oz, rfl, z2, z3, z4⟩ := y5.resolve_left (fun e => by rw [e] at hn; simp at hn; omega)
    have hlen : ((z.take n).map (Value.int k)).length = n := by simp; omega
    have h := run_copy_row (P := P) W tx ty o.type e g off dl dc ⟨gz, oz, none⟩ z.length cap (ints k xs) T ((z.take n).map (Value.int k)) hu hsz hg (by rw [hlen]; exact hn)
      (QhD (k := k) (ys := z.take n) fun i hi => by
        rw [List.length_take] at hi
        rw [z4 i (by omega)]
        simp [nth, show i < n by omega]) (by rw [hlen, Qaf]; omega) (QhB k _)
    rw [hlen] at h
    have e1 : ((ints k xs).toList.take off ++ (z.take n).map (Value.int k) ++ (ints k xs).toList.drop (off + n)).toArray = ints k (xs.take off ++ z.take n ++ xs.drop (off + n)) := by
      apply Array.ext'
      show (xs.map (Value.int k)).take off ++ (z.take n).map (Value.int k) ++ (xs.map (Value.int k)).drop (off + n) = (xs.take off ++ z.take n ++ xs.drop (off + n)).map (Value.int k)
      simp only [List.map_append, List.map_take, List.map_drop]
    rw [e1] at h
    exact Qbe _ _ d hd hgd (hgo _ h) (kk _ (QaW _ _ _) (setRow_heap _ _ _ _ _ _ hg))
end
theorem QgP {key : List Int} (h : 64 < key.length) : (List.replicate 64 (0 : Int)).take 0 ++ (dig key).take 32 ++ (List.replicate 64 (0 : Int)).drop (0 + 32) = keyB key := by
  have hd := Qbd key
  unfold keyB keyL
  rw [if_pos h, hd, List.take_zero, List.nil_append, List.take_of_length_le (by omega), List.drop_replicate]
theorem Qgm {key : List Int} (h : ¬ 64 < key.length) (n : Nat) (hn : n = min key.length 64) : (List.replicate 64 (0 : Int)).take 0 ++ key.take n ++ (List.replicate 64 (0 : Int)).drop (0 + n) = keyB key := by
  unfold keyB keyL
  rw [if_neg h, List.take_zero, List.nil_append, List.take_of_length_le (by omega), List.drop_replicate, show 64 - (0 + n) = 64 - key.length by omega]
end Go.Proofs.YtibegnjaphohaaaDoor.Sha
end
section
namespace Go.Proofs.YtibegnjaphohaaaDoor.Sha
open Go Go.RowKit
open Rely Auto Own
set_option linter.unusedVariables false
set_option linter.unusedSimpArgs false
set_option maxHeartbeats 4000000 in
theorem QjQ (key : List Int) (v : Value) (B : Nat) (tc tq : TypeId) (w : World) (hc : w.heap[2]? = some (.cells (ints .u64 QaD) tc)) (hq : w.heap[1]? = some (.cells (ints .u64 Qam) tq)) (hkb : Qao key) (hkl : key.length ≤ 800000000) (hk : RdK .u8 B key v w) :
  Calls Tryd.prog 69 #[v] w (Ret w (.tuple #[.agg (ints .u8 (padX 54 key)), .agg (ints .u8 (padX 92 key))])) := by
 obtain ⟨a_key, c_key, rfl, -⟩ := id hk
 refine enter 35 [(0, .slice a_key key.length c_key)] Tryd.func69 rfl rfl kj rfl ?_
 refine wp_seq_k fun K3 hK3 => ?_
 refine Qab ?_
 refine Qas (ints .u8 (List.replicate 64 0)) 107 2 rfl kj kj fun g4 W1 l4 e1 r4_1 => ?_
 have x1 : Ext w W1 := Ext.tr (Rely.Ext.refl w) e1
 have b4 : w.heap.size ≤ g4 := Nat.le_trans (Rely.Ext.refl w).size l4
 refine Qas (ints .u8 (List.replicate 64 0)) 107 3 rfl kj kj fun g5 W2 l5 e2 r5_2 => ?_
 have x2 : Ext w W2 := Ext.tr x1 e2
 have b5 : w.heap.size ≤ g5 := Nat.le_trans x1.size l5
 refine Qac ?_
 refine hK3 _ _ ?_
 refine wp_seq_k fun K6 hK6 => ?_
 refine wp_seq_k fun K7 hK7 => ?_
 refine Qab ?_
 refine Qaa (.slice a_key key.length c_key) 7 rfl kj kj ?_
 refine Qaa (.int .i64 ((key.length : Nat) : Int)) 8 rfl kj kj ?_
 refine Qaa (.bool (decide (((key.length : Nat) : Int) > 64))) 9 rfl kj kj ?_
 refine Qac ?_
 refine hK7 _ _ ?_
 refine QaE (t := decide (((key.length : Nat) : Int) > 64)) kj (fun c8 => ?_) (fun c8 => ?_)
 ·skip
  have hlong : 64 < key.length := by have := of_decide_eq_true c8; omega
  refine wp_seq_k fun K9 hK9 => ?_
  refine Qab ?_
  refine Qaa (.slice a_key key.length c_key) 10 rfl kj kj ?_
  refine Qbp (#[.slice a_key key.length c_key]) 38 1 11 rfl kj kj fun g10 W3 l10 e3 r10_3 => ?_
  have x3 : Ext w W3 := Ext.tr x2 e3
  have b10 : w.heap.size ≤ g10 := Nat.le_trans x2.size l10
  have r1_1 := (Qad hc e1)
  have r1_2 := (Qad r1_1 e2)
  have r1_3 := (Qad r1_2 e3)
  have r2_1 := (Qad hq e1)
  have r2_2 := (Qad r2_1 e2)
  have r2_3 := (Qad r2_2 e3)
  have hps11 : ∀ p ∈ ([(.slice a_key key.length c_key, key)] : List (Value × List Int)), RdK .u8 W3.heap.size p.2 p.1 W3 ∧ Qao p.2 := by
   intro p hp
   simp only [List.mem_cons, List.not_mem_nil, or_false] at hp
   rcases hp with rfl
   ·exact ⟨RdK.here (RdK.ext hk x3), hkb⟩
  have hsh11 := Qih g10 1 _ ([(.slice a_key key.length c_key, key)] : List (Value × List Int)) rfl (by decide) tc tq W3 r1_3 r2_3 r10_3 hps11 (by simp only [List.map_cons, List.map_nil, List.flatten_cons, List.flatten_nil, List.append_nil, List.length_append]; omega)
  rw [show ((List.map Prod.snd ([(.slice a_key key.length c_key, key)] : List (Value × List Int))).flatten) = key by simp only [List.map_cons, List.map_nil, List.flatten_cons, List.flatten_nil, List.append_nil]] at hsh11
  refine Qau (.agg (ints .u8 (dig (key)))) 73 #[.slice (some ⟨g10, 0, none⟩) 1 1] 12 rfl kj kj hsh11 fun W4 e4 => ?_
  have x4 : Ext w W4 := Ext.tr x3 e4
  refine Qas (ints .u8 (List.replicate 32 0)) 23 4 rfl kj kj fun g12 W5 l12 e5 r12_5 => ?_
  have x5 : Ext w W5 := Ext.tr x4 e5
  have b12 : w.heap.size ≤ g12 := Nat.le_trans x4.size l12
  refine Qaj g12 _ (ints .u8 (dig (key))) 23 r12_5 rfl kj (Qap 23 _ _ g12 23 _ _ r12_5 rfl kj kj (isz (n := 32) kj ((Qaf _ _).trans (Qbd _))) (eqsz (n := 32) ((Qaf _ _).trans (List.length_replicate (n := 32))) ((Qaf _ _).trans (Qbd _))) (Qa0 _ _)) fun W6 p6 r12_6 => ?_
  have x6 : Ext w W6 := Puts.ext p6 x5 b12
  refine Qac ?_
  refine hK9 _ _ ?_
  refine QcB 2 [⟨none, [(2, none)]⟩, ⟨none, [(4, none)]⟩] kj kj fun F hF => ?_
  refine Qdc (QbD _) (.slice (some ⟨g4, 0, none⟩) 64 64) kj kj (fun W => by kernel_rfl) ?_
  refine Qdc (QbD _) (.slice (some ⟨g12, 0, none⟩) 32 32) kj kj (fun W => by kernel_rfl) ?_
  refine QhT (hF _ fun W7 e7 => ?_)
  simp only [List.nil_append, List.cons_append, List.take_succ_cons, List.take_zero, List.drop_succ_cons, List.drop_zero, finE, up]
  clear hF
  have x7 : Ext w W7 := Ext.tr x6 e7
  have r4_2 := (Qad r4_1 e2)
  have r4_3 := (Qad r4_2 e3)
  have r4_4 := (Qad r4_3 e4)
  have r4_5 := (Qad r4_4 e5)
  have r4_6 := (Puts.row p6 r4_5 (Qag r4_4 l12))
  have r4_7 := (Qad r4_6 e7)
  have r12_7 := (Qad r12_6 e7)
  refine Qe1 (k := .u8) (e := 5) (z := dig (key)) (.tmp 13) (.tmp 14) 38 38 15 rfl kj kj rfl kj (off := 0) (dl := 64) (dc := 64) (n := 32) (xs := List.replicate 64 0) kj kj (Qb5 (xs := dig (key)) (n := 32) (Qbd _) r12_7 (Qar r12_7) (show 32 ≤ maxLen from by decide)) r4_7 (Nat.le_trans (show 0 + (64) ≤ 64 from (by omega)) (Nat.le_of_eq (List.length_replicate (n := 64)).symm)) (by rw [Qbd]; rfl) fun W8 p8 r4_8 => ?_
  have x8 : Ext w W8 := Puts.ext p8 x7 b4
  refine Qac ?_
  refine hK6 _ _ ?_
  refine wp_seq_k fun K13 hK13 => ?_
  refine wp_seq_k fun K14 hK14 => ?_
  refine Qab ?_
  have r4_8_15 : W8.heap[g4]? = some (.cells (ints .u8 (keyB key)) 107) := QaX r4_8 (QgP hlong)
  refine Qaa (.agg (ints .u8 (keyB key))) 19 rfl kj (Qay 107 _ g4 107 _ _ r4_8_15 rfl kj kj (isz (n := 64) kj ((Qaf _ _).trans (Qbi key)))) ?_
  refine Qaa (.int .i64 0) 20 rfl kj kj ?_
  refine Qac ?_
  refine hK14 _ _ ?_
  refine wp_block ?_
  have n_4_5 : g4 ≠ g5 := (Qag r4_1 l5)
  have n_5_4 : g5 ≠ g4 := (Qbs r4_1 l5)
  have r5_3 := (Qad r5_2 e3)
  have r5_4 := (Qad r5_3 e4)
  have r5_5 := (Qad r5_4 e5)
  have r5_6 := (Puts.row p6 r5_5 (Qag r5_4 l12))
  have r5_7 := (Qad r5_6 e7)
  have r5_8 := (Puts.row p8 r5_7 n_5_4)
  refine QaM (fun (s1 : Nat) => [(2, .pointer (some ⟨g4, 0, none⟩)), (3, .pointer (some ⟨g5, 0, none⟩)), (19, .agg (ints .u8 (keyB key))), (20, .int .i64 ((s1 : Nat) : Int))]) (fun (s1 : Nat) W => (s1 ≤ 64) ∧ (W.heap[g4]? = some (.cells (ints .u8 (puts (padX 54 key) (keyB key) s1)) 107)) ∧ (W.heap[g5]? = some (.cells (ints .u8 (fill (padX 92 key) 64 s1)) 107)) ∧ (Qai [g4, g5] W8 W) ∧ (Ext w W)) (fun (s1 : Nat) => 64 - s1) 0 ⟨rfl, rfl, rfl, rfl, trivial⟩ ⟨(Nat.zero_le _), (QaX r4_8_15 (Qe8 _ _).symm), (QaX r5_8 (QdC _ 64).symm), (Qai.refl [g4, g5] W8), x8⟩ fun s1 X1 V1 hI1 => ?_
  obtain ⟨i, hs1⟩ : ∃ z, z = s1 := ⟨_, rfl⟩
  subst hs1
  obtain ⟨hi, q4_1, q5_1, kk1, xx1⟩ := hI1
  replace hi : i ≤ 64 := hi
  replace q4_1 : V1.heap[g4]? = some (.cells (ints .u8 (puts (padX 54 key) (keyB key) i)) 107) := q4_1
  replace q5_1 : V1.heap[g5]? = some (.cells (ints .u8 (fill (padX 92 key) 64 i)) 107) := q5_1
  replace kk1 : Qai [g4, g5] W8 V1 := kk1
  replace xx1 : Ext w V1 := xx1
  have q9 := kk1
  refine wp_seq_k fun K16 hK16 => ?_
  refine Qab ?_
  refine Qaa (.bool (decide (((i : Nat) : Int) < 64))) 21 rfl kj kj ?_
  refine Qac ?_
  refine hK16 _ _ ?_
  refine wp_seq_k fun K17 hK17 => ?_
  refine QaE (t := decide (((i : Nat) : Int) < 64)) kj (fun c18 => ?_) (fun c18 => ?_)
  ·skip
   have hlt21 : i < 64 := by have := of_decide_eq_true c18; omega
   refine wp_skip ?_
   refine hK17 _ _ ?_
   refine wp_seq_k fun K19 hK19 => ?_
   refine wp_block ?_
   refine wp_seq_k fun K20 hK20 => ?_
   refine Qab ?_
   refine Qaa (.int .i64 ((i : Nat) : Int)) 22 rfl kj kj ?_
   refine Qaa (.int .u8 (nth (keyB key) i)) 23 rfl kj (Qaz 107 _ _ .i64 .u8 (keyB key) i 64 5 (nth (keyB key) i) rfl kj kj kj kj kj (Qbi key) (by omega) rfl) ?_
   refine Qaa (.int .i64 ((i : Nat) : Int)) 5 rfl kj kj ?_
   refine Qaa (.int .u8 (nth (keyB key) i)) 6 rfl kj kj ?_
   refine Qac ?_
   refine hK20 _ _ ?_
   refine Qab ?_
   refine Qaa (.int .i64 ((i : Nat) : Int)) 24 rfl kj kj ?_
   refine Qaa (.int .i64 ((i : Nat) : Int)) 25 rfl kj kj ?_
   refine Qaa (.int .u8 (nth (keyB key) i)) 26 rfl kj kj ?_
   refine Qaa (.int .u8 (nth (padX 54 key) i)) 27 rfl kj (Qah (u := .int .u8 (bits .xor .u8 ((nth (keyB key) i)) (54))) kj (congrArg (Value.int .u8) (Qdv 54 key hlt21).symm)) ?_
   refine Qaa (.int .u8 (nth (keyB key) i)) 28 rfl kj kj ?_
   refine Qaa (.int .u8 (nth (padX 92 key) i)) 29 rfl kj (Qah (u := .int .u8 (bits .xor .u8 ((nth (keyB key) i)) (92))) kj (congrArg (Value.int .u8) (Qdv 92 key hlt21).symm)) ?_
   refine Qaa (.pointer (some ⟨g4, i, none⟩)) 30 rfl kj (QaR _ _ _ .i64 (i) _ 64 5 rfl kj kj kj kj (by omega)) ?_
   refine Qaj g4 _ (ints .u8 ((puts (padX 54 key) (keyB key) i).set i (nth (padX 54 key) i))) 107 q4_1 rfl kj (Qaw 5 _ _ g4 i 107 _ _ q4_1 rfl kj kj kj (Nat.lt_of_lt_of_eq (by omega) (Qfv (Qa4 54 key) (Qbi key) (by omega)).symm)) fun W10 p10 r4_10 => ?_
   have x10 : Ext w W10 := Puts.ext p10 xx1 b4
   refine Qaa (.pointer (some ⟨g5, i, none⟩)) 31 rfl kj (QaR _ _ _ .i64 (i) _ 64 5 rfl kj kj kj kj (by omega)) ?_
   have r5_10 := (Puts.row p10 q5_1 n_5_4)
   refine Qaj g5 _ (ints .u8 ((fill (padX 92 key) 64 i).set i (nth (padX 92 key) i))) 107 r5_10 rfl kj (Qaw 5 _ _ g5 i 107 _ _ r5_10 rfl kj kj kj (Nat.lt_of_lt_of_eq (by omega) (Qbt (Qa4 92 key) (by omega)).symm)) fun W11 p11 r5_11 => ?_
   have x11 : Ext w W11 := Puts.ext p11 x10 b5
   refine Qac ?_
   refine hK19 _ _ ?_
   refine Qab ?_
   refine Qaa (.int .i64 ((i + 1 : Nat) : Int)) 32 rfl kj (Qah (u := .int .i64 (IntKind.i64.wrap (((i : Nat) : Int) + 1))) kj (congrArg (Value.int .i64) (i64n _ _ (by omega) (by omega)))) ?_
   refine Qaa (.int .i64 ((i + 1 : Nat) : Int)) 20 rfl kj kj ?_
   refine Qac ?_
   have r4_11 := (Puts.row p11 r4_10 n_4_5)
   repeat (first | with_reducible refine goX1 ?_ | with_reducible refine goX2 ?_ | with_reducible refine goX3 ?_)
   exact QaB (i + 1) ⟨rfl, rfl, rfl, rfl, trivial⟩ ⟨(by omega), (QaX r4_11 (Qfu (Qa4 54 key) (Qbi key) hlt21)), (QaX r5_11 (Qdx (Qa4 92 key) hlt21)), (Qai.puts (Qai.puts q9 p10 (.inl (by simp))) p11 (.inl (by simp))), x11⟩ (by omega)
  ·skip
   have heq21 : i = 64 := by have := of_decide_eq_false c18; omega
   have r4_9_21 : V1.heap[g4]? = some (.cells (ints .u8 (padX 54 key)) 107) := QaX q4_1 (by rw [heq21]; exact Qe9 (Qa4 54 key) (Qbi key))
   have r5_9_22 : V1.heap[g5]? = some (.cells (ints .u8 (padX 92 key)) 107) := QaX q5_1 (by rw [heq21]; exact QdD (Qa4 92 key))
   refine wp_exit ?_
   refine hK13 _ _ ?_
   refine wp_seq_k fun K23 hK23 => ?_
   refine QdI (fun W => W.heap[g5]? = some (.cells (ints .u8 (padX 92 key)) 107)) [⟨none, [(2, none)]⟩, ⟨none, [(3, none)]⟩, ⟨none, [(2, none), (33, some 0)]⟩, ⟨none, [(3, none), (34, some 1)]⟩] [] [1] kj kj kj (fun W hR => Qad r5_9_22 hR) fun F hF => ?_
   refine Qig (.agg (ints .u8 (padX 54 key))) kj kj kj rfl (fun W hR => (Qay 107 _ g4 107 _ _ (Qad (Qad r4_9_21 (Qa2 _)) hR) rfl kj kj (isz (n := 64) kj ((Qaf _ _).trans (Qa4 54 key))))) ?_
   refine Qg4 (.agg (ints .u8 (padX 92 key))) kj kj kj rfl (fun W hW => (Qay 107 _ g5 107 _ _ hW rfl kj kj (isz (n := 64) kj ((Qaf _ _).trans (Qa4 92 key))))) ?_
   refine Qeb rfl ?_
   refine Qeb rfl ?_
   refine Qje (hF _ kj fun W10 e10 => ?_)
   simp only [List.nil_append, List.cons_append, fins, up]
   clear hF
   have x10 : Ext w W10 := Ext.tr xx1 e10
   have r4_10 := (Qad r4_9_21 e10)
   have r5_10 := (Qad r5_9_22 e10)
   refine Qfp _ g4 _ (ints .u8 (padX 54 key)) 107 r4_10 rfl (Qap 107 _ _ g4 107 _ _ r4_10 rfl kj kj (isz (n := 64) kj ((Qaf _ _).trans (Qa4 54 key))) (eqsz (n := 64) ((Qaf _ _).trans (Qa4 54 key)) ((Qaf _ _).trans (Qa4 54 key))) (Qa0 _ _)) (fun W hp => Puts.row hp r5_10 n_5_4) fun W11 p11 r4_11 => ?_
   have x11 : Ext w W11 := Puts.ext p11 x10 b4
   have r5_11 := (Puts.row p11 r5_10 n_5_4)
   refine Qev _ g5 _ (ints .u8 (padX 92 key)) 107 r5_11 rfl (Qap 107 _ _ g5 107 _ _ r5_11 rfl kj kj (isz (n := 64) kj ((Qaf _ _).trans (Qa4 92 key))) (eqsz (n := 64) ((Qaf _ _).trans (Qa4 92 key)) ((Qaf _ _).trans (Qa4 92 key))) (Qa0 _ _)) (fun W hp hrw => hrw) fun W12 p12 r5_12 => ?_
   have x12 : Ext w W12 := Puts.ext p12 x11 b5
   refine Qif ?_
   refine hK23 _ _ ?_
   refine wp_ret ?_
   repeat (first | with_reducible refine goR1 ?_ | with_reducible refine goR2 ?_)
   have r4_12 := (Puts.row p12 r4_11 n_4_5)
   exact (show bodyPost _ _ _ .ret _ _ from ret2 (.agg (ints .u8 (padX 54 key))) (.agg (ints .u8 (padX 92 key))) rfl (QaL g4 107 _ r4_12 kj kj (isz (n := 64) kj ((Qaf _ _).trans (Qa4 54 key)))) (QaL g5 107 _ r5_12 kj kj (isz (n := 64) kj ((Qaf _ _).trans (Qa4 92 key)))) ⟨rfl, x12⟩)
 ·skip
  have hlong : ¬ 64 < key.length := by have := of_decide_eq_false c8; omega
  refine Qab ?_
  refine Qaa (.slice (some ⟨g4, 0, none⟩) 64 64) 16 rfl kj kj ?_
  refine Qaa (.slice a_key key.length c_key) 17 rfl kj kj ?_
  have r4_2 := (Qad r4_1 e2)
  refine Qe1 (k := .u8) (e := 5) (z := key) (.tmp 16) (.tmp 17) 38 38 18 rfl kj kj rfl kj (off := 0) (dl := 64) (dc := 64) (n := (min key.length 64)) (xs := List.replicate 64 0) kj kj (RdK.ext hk x2) r4_2 (Nat.le_trans (show 0 + (64) ≤ 64 from (by omega)) (Nat.le_of_eq (List.length_replicate (n := 64)).symm)) rfl fun W3 p3 r4_3 => ?_
  have x3 : Ext w W3 := Puts.ext p3 x2 b4
  refine Qac ?_
  refine hK6 _ _ ?_
  refine wp_seq_k fun K24 hK24 => ?_
  refine wp_seq_k fun K25 hK25 => ?_
  refine Qab ?_
  have r4_3_26 : W3.heap[g4]? = some (.cells (ints .u8 (keyB key)) 107) := QaX r4_3 (Qgm hlong _ rfl)
  refine Qaa (.agg (ints .u8 (keyB key))) 19 rfl kj (Qay 107 _ g4 107 _ _ r4_3_26 rfl kj kj (isz (n := 64) kj ((Qaf _ _).trans (Qbi key)))) ?_
  refine Qaa (.int .i64 0) 20 rfl kj kj ?_
  refine Qac ?_
  refine hK25 _ _ ?_
  refine wp_block ?_
  have n_4_5 : g4 ≠ g5 := (Qag r4_1 l5)
  have n_5_4 : g5 ≠ g4 := (Qbs r4_1 l5)
  have r5_3 := (Puts.row p3 r5_2 n_5_4)
  refine QaM (fun (s2 : Nat) => [(2, .pointer (some ⟨g4, 0, none⟩)), (3, .pointer (some ⟨g5, 0, none⟩)), (19, .agg (ints .u8 (keyB key))), (20, .int .i64 ((s2 : Nat) : Int))]) (fun (s2 : Nat) W => (s2 ≤ 64) ∧ (W.heap[g4]? = some (.cells (ints .u8 (puts (padX 54 key) (keyB key) s2)) 107)) ∧ (W.heap[g5]? = some (.cells (ints .u8 (fill (padX 92 key) 64 s2)) 107)) ∧ (Qai [g4, g5] W3 W) ∧ (Ext w W)) (fun (s2 : Nat) => 64 - s2) 0 ⟨rfl, rfl, rfl, rfl, trivial⟩ ⟨(Nat.zero_le _), (QaX r4_3_26 (Qe8 _ _).symm), (QaX r5_3 (QdC _ 64).symm), (Qai.refl [g4, g5] W3), x3⟩ fun s2 X2 V2 hI2 => ?_
  obtain ⟨i, hs2⟩ : ∃ z, z = s2 := ⟨_, rfl⟩
  subst hs2
  obtain ⟨hi, q4_2, q5_2, kk2, xx2⟩ := hI2
  replace hi : i ≤ 64 := hi
  replace q4_2 : V2.heap[g4]? = some (.cells (ints .u8 (puts (padX 54 key) (keyB key) i)) 107) := q4_2
  replace q5_2 : V2.heap[g5]? = some (.cells (ints .u8 (fill (padX 92 key) 64 i)) 107) := q5_2
  replace kk2 : Qai [g4, g5] W3 V2 := kk2
  replace xx2 : Ext w V2 := xx2
  have q4 := kk2
  refine wp_seq_k fun K27 hK27 => ?_
  refine Qab ?_
  refine Qaa (.bool (decide (((i : Nat) : Int) < 64))) 21 rfl kj kj ?_
  refine Qac ?_
  refine hK27 _ _ ?_
  refine wp_seq_k fun K28 hK28 => ?_
  refine QaE (t := decide (((i : Nat) : Int) < 64)) kj (fun c29 => ?_) (fun c29 => ?_)
  ·skip
   have hlt21 : i < 64 := by have := of_decide_eq_true c29; omega
   refine wp_skip ?_
   refine hK28 _ _ ?_
   refine wp_seq_k fun K30 hK30 => ?_
   refine wp_block ?_
   refine wp_seq_k fun K31 hK31 => ?_
   refine Qab ?_
   refine Qaa (.int .i64 ((i : Nat) : Int)) 22 rfl kj kj ?_
   refine Qaa (.int .u8 (nth (keyB key) i)) 23 rfl kj (Qaz 107 _ _ .i64 .u8 (keyB key) i 64 5 (nth (keyB key) i) rfl kj kj kj kj kj (Qbi key) (by omega) rfl) ?_
   refine Qaa (.int .i64 ((i : Nat) : Int)) 5 rfl kj kj ?_
   refine Qaa (.int .u8 (nth (keyB key) i)) 6 rfl kj kj ?_
   refine Qac ?_
   refine hK31 _ _ ?_
   refine Qab ?_
   refine Qaa (.int .i64 ((i : Nat) : Int)) 24 rfl kj kj ?_
   refine Qaa (.int .i64 ((i : Nat) : Int)) 25 rfl kj kj ?_
   refine Qaa (.int .u8 (nth (keyB key) i)) 26 rfl kj kj ?_
   refine Qaa (.int .u8 (nth (padX 54 key) i)) 27 rfl kj (Qah (u := .int .u8 (bits .xor .u8 ((nth (keyB key) i)) (54))) kj (congrArg (Value.int .u8) (Qdv 54 key hlt21).symm)) ?_
   refine Qaa (.int .u8 (nth (keyB key) i)) 28 rfl kj kj ?_
   refine Qaa (.int .u8 (nth (padX 92 key) i)) 29 rfl kj (Qah (u := .int .u8 (bits .xor .u8 ((nth (keyB key) i)) (92))) kj (congrArg (Value.int .u8) (Qdv 92 key hlt21).symm)) ?_
   refine Qaa (.pointer (some ⟨g4, i, none⟩)) 30 rfl kj (QaR _ _ _ .i64 (i) _ 64 5 rfl kj kj kj kj (by omega)) ?_
   refine Qaj g4 _ (ints .u8 ((puts (padX 54 key) (keyB key) i).set i (nth (padX 54 key) i))) 107 q4_2 rfl kj (Qaw 5 _ _ g4 i 107 _ _ q4_2 rfl kj kj kj (Nat.lt_of_lt_of_eq (by omega) (Qfv (Qa4 54 key) (Qbi key) (by omega)).symm)) fun W5 p5 r4_5 => ?_
   have x5 : Ext w W5 := Puts.ext p5 xx2 b4
   refine Qaa (.pointer (some ⟨g5, i, none⟩)) 31 rfl kj (QaR _ _ _ .i64 (i) _ 64 5 rfl kj kj kj kj (by omega)) ?_
   have r5_5 := (Puts.row p5 q5_2 n_5_4)
   refine Qaj g5 _ (ints .u8 ((fill (padX 92 key) 64 i).set i (nth (padX 92 key) i))) 107 r5_5 rfl kj (Qaw 5 _ _ g5 i 107 _ _ r5_5 rfl kj kj kj (Nat.lt_of_lt_of_eq (by omega) (Qbt (Qa4 92 key) (by omega)).symm)) fun W6 p6 r5_6 => ?_
   have x6 : Ext w W6 := Puts.ext p6 x5 b5
   refine Qac ?_
   refine hK30 _ _ ?_
   refine Qab ?_
   refine Qaa (.int .i64 ((i + 1 : Nat) : Int)) 32 rfl kj (Qah (u := .int .i64 (IntKind.i64.wrap (((i : Nat) : Int) + 1))) kj (congrArg (Value.int .i64) (i64n _ _ (by omega) (by omega)))) ?_
   refine Qaa (.int .i64 ((i + 1 : Nat) : Int)) 20 rfl kj kj ?_
   refine Qac ?_
   have r4_6 := (Puts.row p6 r4_5 n_4_5)
   repeat (first | with_reducible refine goX1 ?_ | with_reducible refine goX2 ?_ | with_reducible refine goX3 ?_)
   exact QaB (i + 1) ⟨rfl, rfl, rfl, rfl, trivial⟩ ⟨(by omega), (QaX r4_6 (Qfu (Qa4 54 key) (Qbi key) hlt21)), (QaX r5_6 (Qdx (Qa4 92 key) hlt21)), (Qai.puts (Qai.puts q4 p5 (.inl (by simp))) p6 (.inl (by simp))), x6⟩ (by omega)
  ·skip
   have heq21 : i = 64 := by have := of_decide_eq_false c29; omega
   have r4_4_32 : V2.heap[g4]? = some (.cells (ints .u8 (padX 54 key)) 107) := QaX q4_2 (by rw [heq21]; exact Qe9 (Qa4 54 key) (Qbi key))
   have r5_4_33 : V2.heap[g5]? = some (.cells (ints .u8 (padX 92 key)) 107) := QaX q5_2 (by rw [heq21]; exact QdD (Qa4 92 key))
   refine wp_exit ?_
   refine hK24 _ _ ?_
   refine wp_seq_k fun K34 hK34 => ?_
   refine QdI (fun W => W.heap[g5]? = some (.cells (ints .u8 (padX 92 key)) 107)) [⟨none, [(2, none)]⟩, ⟨none, [(3, none)]⟩, ⟨none, [(2, none), (33, some 0)]⟩, ⟨none, [(3, none), (34, some 1)]⟩] [] [1] kj kj kj (fun W hR => Qad r5_4_33 hR) fun F hF => ?_
   refine Qig (.agg (ints .u8 (padX 54 key))) kj kj kj rfl (fun W hR => (Qay 107 _ g4 107 _ _ (Qad (Qad r4_4_32 (Qa2 _)) hR) rfl kj kj (isz (n := 64) kj ((Qaf _ _).trans (Qa4 54 key))))) ?_
   refine Qg4 (.agg (ints .u8 (padX 92 key))) kj kj kj rfl (fun W hW => (Qay 107 _ g5 107 _ _ hW rfl kj kj (isz (n := 64) kj ((Qaf _ _).trans (Qa4 92 key))))) ?_
   refine Qeb rfl ?_
   refine Qeb rfl ?_
   refine Qje (hF _ kj fun W5 e5 => ?_)
   simp only [List.nil_append, List.cons_append, fins, up]
   clear hF
   have x5 : Ext w W5 := Ext.tr xx2 e5
   have r4_5 := (Qad r4_4_32 e5)
   have r5_5 := (Qad r5_4_33 e5)
   refine Qfp _ g4 _ (ints .u8 (padX 54 key)) 107 r4_5 rfl (Qap 107 _ _ g4 107 _ _ r4_5 rfl kj kj (isz (n := 64) kj ((Qaf _ _).trans (Qa4 54 key))) (eqsz (n := 64) ((Qaf _ _).trans (Qa4 54 key)) ((Qaf _ _).trans (Qa4 54 key))) (Qa0 _ _)) (fun W hp => Puts.row hp r5_5 n_5_4) fun W6 p6 r4_6 => ?_
   have x6 : Ext w W6 := Puts.ext p6 x5 b4
   have r5_6 := (Puts.row p6 r5_5 n_5_4)
   refine Qev _ g5 _ (ints .u8 (padX 92 key)) 107 r5_6 rfl (Qap 107 _ _ g5 107 _ _ r5_6 rfl kj kj (isz (n := 64) kj ((Qaf _ _).trans (Qa4 92 key))) (eqsz (n := 64) ((Qaf _ _).trans (Qa4 92 key)) ((Qaf _ _).trans (Qa4 92 key))) (Qa0 _ _)) (fun W hp hrw => hrw) fun W7 p7 r5_7 => ?_
   have x7 : Ext w W7 := Puts.ext p7 x6 b5
   refine Qif ?_
   refine hK34 _ _ ?_
   refine wp_ret ?_
   repeat (first | with_reducible refine goR1 ?_ | with_reducible refine goR2 ?_)
   have r4_7 := (Puts.row p7 r4_6 n_4_5)
   exact (show bodyPost _ _ _ .ret _ _ from ret2 (.agg (ints .u8 (padX 54 key))) (.agg (ints .u8 (padX 92 key))) rfl (QaL g4 107 _ r4_7 kj kj (isz (n := 64) kj ((Qaf _ _).trans (Qa4 54 key)))) (QaL g5 107 _ r5_7 kj kj (isz (n := 64) kj ((Qaf _ _).trans (Qa4 92 key)))) ⟨rfl, x7⟩)
end Go.Proofs.YtibegnjaphohaaaDoor.Sha
end
section
namespace Go.Proofs.YtibegnjaphohaaaDoor.Sha
open Go Go.RowKit
open Rely Auto Own
set_option linter.unusedVariables false
set_option linter.unusedSimpArgs false
set_option maxHeartbeats 4000000 in
theorem tagC (key : List Int) (v : Value) (B : Nat) (gp n : Nat) (Tp : TypeId) (ps : List (Value × List Int)) (hn : ps.length = n) (hn9 : n ≤ 1000000) (tc tq : TypeId) (w : World) (hc : w.heap[2]? = some (.cells (ints .u64 QaD) tc)) (hq : w.heap[1]? = some (.cells (ints .u64 Qam) tq)) (hkb : Qao key) (hkl : key.length ≤ 800000000) (hk : RdK .u8 B key v w) (hrow : w.heap[gp]? = some (.cells (ps.map Prod.fst).toArray Tp)) (hps : ∀ p ∈ ps, RdK .u8 w.heap.size p.2 p.1 w ∧ Qao p.2) (hlen : ((ps.map Prod.snd).flatten).length ≤ 800000000) :
  Calls Tryd.prog 67 #[v, .slice (some ⟨gp, 0, none⟩) n n] w (Ret w (.agg (ints .u8 (hmac key ((ps.map Prod.snd).flatten))))) := by
 obtain ⟨a_key, c_key, rfl, -⟩ := id hk
 refine enter 36 [(0, .slice a_key key.length c_key), (1, .slice (some ⟨gp, 0, none⟩) n n)] Tryd.func67 rfl rfl kj rfl ?_
 refine wp_seq_k fun K4 hK4 => ?_
 refine Qab ?_
 refine Qas (ints .u8 (List.replicate 32 0)) 23 4 rfl kj kj fun g5 W1 l5 e1 r5_1 => ?_
 have x1 : Ext w W1 := Ext.tr (Rely.Ext.refl w) e1
 have b5 : w.heap.size ≤ g5 := Nat.le_trans (Rely.Ext.refl w).size l5
 refine Qac ?_
 refine hK4 _ _ ?_
 refine wp_seq_k fun K6 hK6 => ?_
 refine Qab ?_
 refine Qaa (.slice a_key key.length c_key) 12 rfl kj kj ?_
 have r1_1 := (Qad hc e1)
 have r2_1 := (Qad hq e1)
 refine Qau (.tuple #[.agg (ints .u8 (padX 54 key)), .agg (ints .u8 (padX 92 key))]) 69 #[.slice a_key key.length c_key] 13 rfl kj kj (QjQ key _ B tc tq _ r1_1 r2_1 hkb (by omega) (RdK.ext hk x1)) fun W2 e2 => ?_
 have x2 : Ext w W2 := Ext.tr x1 e2
 refine Qaa (.tuple #[.agg (ints .u8 (padX 54 key)), .agg (ints .u8 (padX 92 key))]) 11 rfl kj kj ?_
 refine Qaa (.agg (ints .u8 (padX 54 key))) 14 rfl kj kj ?_
 refine Qaa (.agg (ints .u8 (padX 92 key))) 15 rfl kj kj ?_
 refine Qas (ints .u8 (List.replicate 64 0)) 107 5 rfl kj kj fun g7 W3 l7 e3 r7_3 => ?_
 have x3 : Ext w W3 := Ext.tr x2 e3
 have b7 : w.heap.size ≤ g7 := Nat.le_trans x2.size l7
 refine Qas (ints .u8 (List.replicate 64 0)) 107 6 rfl kj kj fun g8 W4 l8 e4 r8_4 => ?_
 have x4 : Ext w W4 := Ext.tr x3 e4
 have b8 : w.heap.size ≤ g8 := Nat.le_trans x3.size l8
 have r7_4 := (Qad r7_3 e4)
 refine Qaj g7 _ (ints .u8 (padX 54 key)) 107 r7_4 rfl kj (Qap 107 _ _ g7 107 _ _ r7_4 rfl kj kj (isz (n := 64) kj ((Qaf _ _).trans (Qa4 54 key))) (eqsz (n := 64) ((Qaf _ _).trans (List.length_replicate (n := 64))) ((Qaf _ _).trans (Qa4 54 key))) (Qa0 _ _)) fun W5 p5 r7_5 => ?_
 have x5 : Ext w W5 := Puts.ext p5 x4 b7
 have r8_5 := (Puts.row p5 r8_4 (Qbs r7_3 l8))
 refine Qaj g8 _ (ints .u8 (padX 92 key)) 107 r8_5 rfl kj (Qap 107 _ _ g8 107 _ _ r8_5 rfl kj kj (isz (n := 64) kj ((Qaf _ _).trans (Qa4 92 key))) (eqsz (n := 64) ((Qaf _ _).trans (List.length_replicate (n := 64))) ((Qaf _ _).trans (Qa4 92 key))) (Qa0 _ _)) fun W6 p6 r8_6 => ?_
 have x6 : Ext w W6 := Puts.ext p6 x5 b8
 refine Qac ?_
 refine hK6 _ _ ?_
 refine wp_seq_k fun K9 hK9 => ?_
 refine Qab ?_
 have r2_2 := (Qad r2_1 e2)
 have r2_3 := (Qad r2_2 e3)
 have r2_4 := (Qad r2_3 e4)
 have r2_5 := (Puts.row p5 r2_4 (Qag r2_2 l7))
 have r2_6 := (Puts.row p6 r2_5 (Qag r2_3 l8))
 refine Qa8 (fun v W' => (fun v W => ∃ g, v = .pointer (some ⟨g, 0, none⟩) ∧ W6.heap.size ≤ g ∧ HasD g [] W) v W' ∧ Ext W6 W') 70 #[] 16 rfl kj kj ((newC tq _ r2_6).mono (by rintro e w' ⟨v, rfl, e1, hv⟩; exact ⟨v, rfl, hv, e1⟩)) fun vv10 W7 hh10 => ?_
 obtain ⟨hv10, e7⟩ := hh10
 have x7 : Ext w W7 := Ext.tr x6 e7
 obtain ⟨gd11, rfl, ld11, hD11⟩ := hv10
 have b11 : w.heap.size ≤ gd11 := Nat.le_trans x6.size ld11
 refine Qaa (.pointer (some ⟨gd11, 0, none⟩)) 7 rfl kj kj ?_
 refine Qac ?_
 refine hK9 _ _ ?_
 refine wp_seq_k fun K12 hK12 => ?_
 refine Qab ?_
 refine Qaa (.pointer (some ⟨gd11, 0, none⟩)) 17 rfl kj kj ?_
 refine Qaa (.slice (some ⟨g7, 0, none⟩) 64 64) 18 rfl kj kj ?_
 have r1_2 := (Qad r1_1 e2)
 have r1_3 := (Qad r1_2 e3)
 have r1_4 := (Qad r1_3 e4)
 have r1_5 := (Puts.row p5 r1_4 (Qag r1_2 l7))
 have r1_6 := (Puts.row p6 r1_5 (Qag r1_3 l8))
 have r1_7 := (Qad r1_6 e7)
 have r7_6 := (Puts.row p6 r7_5 (Qag r7_3 l8))
 have r7_7 := (Qad r7_6 e7)
 refine Qa8 (fun v W' => v = .tuple #[] ∧ ExtB gd11 W7 W' ∧ HasD gd11 (padX 54 key) W') 71 #[.pointer (some ⟨gd11, 0, none⟩), .slice (some ⟨g7, 0, none⟩) 64 64] 19 rfl kj kj ((addC gd11 _ [] (padX 54 key) (.slice (some ⟨g7, 0, none⟩) 64 64) tc _ r1_7 (Nat.ne_of_lt (Nat.lt_of_lt_of_le (Qar hc) b11)) (.inr (fun e => (Qag r7_6 ld11) (Option.some.inj e))) (QdS _ _) (by rw [Qa4]; decide) (hD11) (Qb5 (xs := padX 54 key) (n := 64) (Qa4 54 key) r7_7 (Qar r7_7) (show 64 ≤ maxLen from by decide))).mono fun e w' h => ⟨_, h.1, rfl, h.2⟩) fun v W8 h => ?_
 obtain ⟨rfl, q8, hDp⟩ := h
 have x8 : Ext w W8 := ExtB.up x7 q8 b11
 refine Qac ?_
 refine hK12 _ _ ?_
 refine wp_seq_k fun K13 hK13 => ?_
 refine wp_seq_k fun K14 hK14 => ?_
 refine Qab ?_
 refine Qaa (.slice (some ⟨gp, 0, none⟩) n n) 20 rfl kj kj ?_
 refine Qaa (.int .i64 ((n : Nat) : Int)) 21 rfl kj kj ?_
 refine Qaa (.int .i64 0) 22 rfl kj kj ?_
 refine Qac ?_
 refine hK14 _ _ ?_
 refine wp_block ?_
 refine QaM (fun (s1 : Nat) => [(20, .slice (some ⟨gp, 0, none⟩) n n), (21, .int .i64 ((n : Nat) : Int)), (22, .int .i64 ((s1 : Nat) : Int)), (7, .pointer (some ⟨gd11, 0, none⟩)), (4, .pointer (some ⟨g5, 0, none⟩)), (6, .pointer (some ⟨g8, 0, none⟩))]) (fun (s1 : Nat) W => (s1 ≤ n) ∧ (HasD gd11 (padX 54 key ++ flat ps s1) W) ∧ (Qai [gd11] W8 W) ∧ (Ext w W)) (fun (s1 : Nat) => n - s1) 0 ⟨rfl, rfl, rfl, rfl, rfl, rfl, trivial⟩ ⟨(Nat.zero_le _), (show HasD _ (padX 54 key ++ flat ps 0) _ from (List.append_nil (padX 54 key)).symm ▸ hDp), (Qai.refl [gd11] W8), x8⟩ fun s1 X1 V1 hI1 => ?_
 obtain ⟨i, hs1⟩ : ∃ z, z = s1 := ⟨_, rfl⟩
 subst hs1
 obtain ⟨hi, hDi, kk1, xx1⟩ := hI1
 replace hi : i ≤ n := hi
 replace hDi : HasD gd11 (padX 54 key ++ flat ps i) V1 := hDi
 replace kk1 : Qai [gd11] W8 V1 := kk1
 replace xx1 : Ext w V1 := xx1
 have q9 := kk1
 refine wp_seq_k fun K15 hK15 => ?_
 refine Qab ?_
 refine Qaa (.bool (decide (((i : Nat) : Int) < ((n : Nat) : Int)))) 23 rfl kj kj ?_
 refine Qac ?_
 refine hK15 _ _ ?_
 refine wp_seq_k fun K16 hK16 => ?_
 refine QaE (t := decide (((i : Nat) : Int) < ((n : Nat) : Int))) kj (fun c17 => ?_) (fun c17 => ?_)
 ·skip
  have hlt23 : i < n := by have := of_decide_eq_true c17; omega
  refine wp_skip ?_
  refine hK16 _ _ ?_
  refine wp_seq_k fun K18 hK18 => ?_
  refine wp_block ?_
  refine wp_seq_k fun K19 hK19 => ?_
  refine Qab ?_
  have hi2 : i < ps.length := by omega
  refine Qaa (.pointer (some ⟨gp, i, none⟩)) 24 rfl kj (QbC 121 _ _ .i64 i gp n n 38 rfl kj kj kj kj hlt23) ?_
  have r3_1 := (Qad hrow e1)
  have r3_2 := (Qad r3_1 e2)
  have r3_3 := (Qad r3_2 e3)
  have r3_4 := (Qad r3_3 e4)
  have r3_5 := (Puts.row p5 r3_4 (Qag r3_2 l7))
  have r3_6 := (Puts.row p6 r3_5 (Qag r3_3 l8))
  have r3_7 := (Qad r3_6 e7)
  have r3_8 := (ExtB.row q8 r3_7 (Qag r3_6 ld11))
  have r3_9 := (Qai.row q9 r3_8 (Qan (Qag r3_6 ld11) Qa6))
  refine Qaa ((pat ps i).1) 25 rfl kj (Qcn 38 _ _ ((pat ps i).1) (QbY r3_9 (Qij hi2)) rfl kj kj) ?_
  refine Qaa ((pat ps i).1) 9 rfl kj kj ?_
  refine Qac ?_
  refine hK19 _ _ ?_
  refine Qab ?_
  refine Qaa (.pointer (some ⟨gd11, 0, none⟩)) 26 rfl kj kj ?_
  refine Qaa ((pat ps i).1) 27 rfl kj kj ?_
  have r1_8 := (ExtB.row q8 r1_7 (Qag r1_6 ld11))
  have r1_9 := (Qai.row q9 r1_8 (Qan (Qag r1_6 ld11) Qa6))
  have hp6 := (hps _ (Qei hi2)).1.ext xx1
  have hl6 := Qha hi2
  refine Qa8 (fun v W' => v = .tuple #[] ∧ ExtB gd11 V1 W' ∧ HasD gd11 ((padX 54 key ++ flat ps i) ++ (pat ps i).2) W') 71 #[.pointer (some ⟨gd11, 0, none⟩), (pat ps i).1] 28 rfl kj kj ((addC gd11 _ _ _ _ tc _ r1_9 (Nat.ne_of_lt (Nat.lt_of_lt_of_le (Qar hc) b11)) (hp6.nb b11) (hps _ (Qei hi2)).2 (by rw [List.length_append, Qa4]; omega) hDi hp6).mono fun e w' h => ⟨_, h.1, rfl, h.2⟩) fun v W10 h => ?_
  obtain ⟨rfl, q10, hDn⟩ := h
  have x10 : Ext w W10 := ExtB.up xx1 q10 b11
  refine Qac ?_
  refine hK18 _ _ ?_
  refine Qab ?_
  refine Qaa (.int .i64 ((i + 1 : Nat) : Int)) 29 rfl kj (Qah (u := .int .i64 (IntKind.i64.wrap (((i : Nat) : Int) + 1))) kj (congrArg (Value.int .i64) (i64n _ _ (by omega) (by omega)))) ?_
  refine Qaa (.int .i64 ((i + 1 : Nat) : Int)) 22 rfl kj kj ?_
  refine Qac ?_
  repeat (first | with_reducible refine goX1 ?_ | with_reducible refine goX2 ?_ | with_reducible refine goX3 ?_)
  exact QaB (i + 1) ⟨rfl, rfl, rfl, rfl, rfl, rfl, trivial⟩ ⟨(by omega), (by rw [Qd9 hi2, ← List.append_assoc]; exact hDn), (Qai.but q9 q10 (.inl (by simp))), x10⟩ (by omega)
 ·skip
  have heq23 : i = n := by have := of_decide_eq_false c17; omega
  refine wp_exit ?_
  refine hK13 _ _ ?_
  refine wp_seq_k fun K20 hK20 => ?_
  refine Qab ?_
  refine Qaa (.pointer (some ⟨gd11, 0, none⟩)) 30 rfl kj kj ?_
  have r1_8 := (ExtB.row q8 r1_7 (Qag r1_6 ld11))
  have r1_9 := (Qai.row q9 r1_8 (Qan (Qag r1_6 ld11) Qa6))
  refine Qau (.agg (ints .u8 (dig (padX 54 key ++ flat ps i)))) 72 #[.pointer (some ⟨gd11, 0, none⟩)] 31 rfl kj kj (sumC gd11 _ tc _ r1_9 (by rw [heq23, QcJ hn, List.length_append, Qa4]; omega) hDi) fun W10 e10 => ?_
  have x10 : Ext w W10 := Ext.tr xx1 e10
  refine Qas (ints .u8 (List.replicate 32 0)) 23 10 rfl kj kj fun g21 W11 l21 e11 r21_11 => ?_
  have x11 : Ext w W11 := Ext.tr x10 e11
  have b21 : w.heap.size ≤ g21 := Nat.le_trans x10.size l21
  refine Qaj g21 _ (ints .u8 (dig (padX 54 key ++ flat ps i))) 23 r21_11 rfl kj (Qap 23 _ _ g21 23 _ _ r21_11 rfl kj kj (isz (n := 32) kj ((Qaf _ _).trans (Qbd _))) (eqsz (n := 32) ((Qaf _ _).trans (List.length_replicate (n := 32))) ((Qaf _ _).trans (Qbd _))) (Qa0 _ _)) fun W12 p12 r21_12 => ?_
  have x12 : Ext w W12 := Puts.ext p12 x11 b21
  refine Qac ?_
  refine hK20 _ _ ?_
  refine wp_seq_k fun K22 hK22 => ?_
  refine QcB 2 [⟨none, [(6, none)]⟩, ⟨none, [(10, none)]⟩] kj kj fun F hF => ?_
  refine Qdc (QbD _) (.slice (some ⟨g8, 0, none⟩) 64 64) kj kj (fun W => by kernel_rfl) ?_
  refine Qdc (QbD _) (.slice (some ⟨g21, 0, none⟩) 32 32) kj kj (fun W => by kernel_rfl) ?_
  refine QhT (hF _ fun W13 e13 => ?_)
  simp only [List.nil_append, List.cons_append, List.take_succ_cons, List.take_zero, List.drop_succ_cons, List.drop_zero, finE, up]
  clear hF
  have x13 : Ext w W13 := Ext.tr x12 e13
  refine Qbp (#[.slice (some ⟨g8, 0, none⟩) 64 64, .slice (some ⟨g21, 0, none⟩) 32 32]) 38 2 34 rfl kj kj fun g23 W14 l23 e14 r23_14 => ?_
  have x14 : Ext w W14 := Ext.tr x13 e14
  have b23 : w.heap.size ≤ g23 := Nat.le_trans x13.size l23
  have r8_7 := (Qad r8_6 e7)
  have r8_8 := (ExtB.row q8 r8_7 (Qag r8_6 ld11))
  have r8_9 := (Qai.row q9 r8_8 (Qan (Qag r8_6 ld11) Qa6))
  have r8_10 := (Qad r8_9 e10)
  have r8_11 := (Qad r8_10 e11)
  have r8_12 := (Puts.row p12 r8_11 (Qag r8_10 l21))
  have r8_13 := (Qad r8_12 e13)
  have r8_14 := (Qad r8_13 e14)
  have r21_13 := (Qad r21_12 e13)
  have r21_14 := (Qad r21_13 e14)
  have r1_10 := (Qad r1_9 e10)
  have r1_11 := (Qad r1_10 e11)
  have r1_12 := (Puts.row p12 r1_11 (Qag r1_10 l21))
  have r1_13 := (Qad r1_12 e13)
  have r1_14 := (Qad r1_13 e14)
  have r2_7 := (Qad r2_6 e7)
  have r2_8 := (ExtB.row q8 r2_7 (Qag r2_6 ld11))
  have r2_9 := (Qai.row q9 r2_8 (Qan (Qag r2_6 ld11) Qa6))
  have r2_10 := (Qad r2_9 e10)
  have r2_11 := (Qad r2_10 e11)
  have r2_12 := (Puts.row p12 r2_11 (Qag r2_10 l21))
  have r2_13 := (Qad r2_12 e13)
  have r2_14 := (Qad r2_13 e14)
  have hps24 : ∀ p ∈ ([(.slice (some ⟨g8, 0, none⟩) 64 64, padX 92 key), (.slice (some ⟨g21, 0, none⟩) 32 32, dig (padX 54 key ++ flat ps i))] : List (Value × List Int)), RdK .u8 W14.heap.size p.2 p.1 W14 ∧ Qao p.2 := by
   intro p hp
   simp only [List.mem_cons, List.not_mem_nil, or_false] at hp
   rcases hp with rfl | rfl
   ·exact ⟨RdK.here (Qb5 (xs := padX 92 key) (n := 64) (Qa4 92 key) r8_14 (Qar r8_14) (show 64 ≤ maxLen from by decide)), (QdS _ _)⟩
   ·exact ⟨RdK.here (Qb5 (xs := dig (padX 54 key ++ flat ps i)) (n := 32) (Qbd _) r21_14 (Qar r21_14) (show 32 ≤ maxLen from by decide)), (QeR _)⟩
  have hsh24 := Qih g23 2 _ ([(.slice (some ⟨g8, 0, none⟩) 64 64, padX 92 key), (.slice (some ⟨g21, 0, none⟩) 32 32, dig (padX 54 key ++ flat ps i))] : List (Value × List Int)) rfl (by decide) tc tq W14 r1_14 r2_14 r23_14 hps24 (by simp only [List.map_cons, List.map_nil, List.flatten_cons, List.flatten_nil, List.append_nil, List.length_append, (Qbd _), (Qa4 92 key)]; omega)
  rw [show ((List.map Prod.snd ([(.slice (some ⟨g8, 0, none⟩) 64 64, padX 92 key), (.slice (some ⟨g21, 0, none⟩) 32 32, dig (padX 54 key ++ flat ps i))] : List (Value × List Int))).flatten) = (padX 92 key) ++ (dig (padX 54 key ++ flat ps i)) by simp only [List.map_cons, List.map_nil, List.flatten_cons, List.flatten_nil, List.append_nil]] at hsh24
  refine Qau (.agg (ints .u8 (dig ((padX 92 key) ++ (dig (padX 54 key ++ flat ps i)))))) 73 #[.slice (some ⟨g23, 0, none⟩) 2 2] 35 rfl kj kj hsh24 fun W15 e15 => ?_
  have x15 : Ext w W15 := Ext.tr x14 e15
  have r5_2 := (Qad r5_1 e2)
  have r5_3 := (Qad r5_2 e3)
  have r5_4 := (Qad r5_3 e4)
  have r5_5 := (Puts.row p5 r5_4 (Qag r5_2 l7))
  have r5_6 := (Puts.row p6 r5_5 (Qag r5_3 l8))
  have r5_7 := (Qad r5_6 e7)
  have r5_8 := (ExtB.row q8 r5_7 (Qag r5_6 ld11))
  have r5_9 := (Qai.row q9 r5_8 (Qan (Qag r5_6 ld11) Qa6))
  have r5_10 := (Qad r5_9 e10)
  have r5_11 := (Qad r5_10 e11)
  have r5_12 := (Puts.row p12 r5_11 (Qag r5_10 l21))
  have r5_13 := (Qad r5_12 e13)
  have r5_14 := (Qad r5_13 e14)
  have r5_15 := (Qad r5_14 e15)
  refine Qaj g5 _ (ints .u8 (dig ((padX 92 key) ++ (dig (padX 54 key ++ flat ps i))))) 23 r5_15 rfl kj (Qap 23 _ _ g5 23 _ _ r5_15 rfl kj kj (isz (n := 32) kj ((Qaf _ _).trans (Qbd _))) (eqsz (n := 32) ((Qaf _ _).trans (List.length_replicate (n := 32))) ((Qaf _ _).trans (Qbd _))) (Qa0 _ _)) fun W16 p16 r5_16 => ?_
  have x16 : Ext w W16 := Puts.ext p16 x15 b5
  refine Qac ?_
  refine hK22 _ _ ?_
  refine wp_ret ?_
  repeat (first | with_reducible refine goR1 ?_ | with_reducible refine goR2 ?_)
  exact (show bodyPost _ _ _ .ret _ _ from ret1 (.agg (ints .u8 (dig ((padX 92 key) ++ (dig (padX 54 key ++ flat ps i)))))) rfl (QaL g5 23 _ r5_16 kj kj (isz (n := 32) kj ((Qaf _ _).trans (Qbd _)))) ⟨by unfold hmac; rw [heq23, QcJ hn], x16⟩)
end Go.Proofs.YtibegnjaphohaaaDoor.Sha
end
section
namespace Go.Proofs.YtibegnjaphohaaaDoor.Auto
open Go Go.RowKit
open Rely Own
set_option linter.unusedVariables false
set_option linter.unusedSimpArgs false
section
variable {P : Program} {w : World} {k kn : IntKind} {T : TypeId} {t tn ty : TypeId}
end
end Go.Proofs.YtibegnjaphohaaaDoor.Auto
end
section
namespace Go.Proofs.YtibegnjaphohaaaDoor.Sha
open Go Go.RowKit
open Rely Auto Own
set_option linter.unusedVariables false
set_option linter.unusedSimpArgs false
theorem QcO {a b : List Int} (ha : Qao a) (hb : Qao b) : Qao (a ++ b) := fun x hx => by
  rcases List.mem_append.1 hx with h | h
  · exact ha x h
  · exact hb x h
section
variable {ds : List Deferred} {P : Program} {ops : Array Oper} {Q : Exit → Act → World → Prop} {rest : List Oper} {o : Oper} {N : Nat} {L : Env} {W : World}
end
end Go.Proofs.YtibegnjaphohaaaDoor.Sha
end
section
namespace Go.Proofs.YtibegnjaphohaaaDoor.Sha
open Go Go.RowKit
open Rely Auto Own
set_option linter.unusedVariables false
set_option linter.unusedSimpArgs false
def tg (key info : List Int) : Nat → List Int
  | 0 => []
  | i + 1 => hmac key ((tg key info i ++ info) ++ [((i + 1 : Nat) : Int)])
def okm (key info : List Int) : Nat → List Int
  | 0 => []
  | k + 1 => okm key info k ++ tg key info (k + 1)
theorem QjG (key info : List Int) (i : Nat) : (tg key info i).length ≤ 32 := by
  cases i with
  | zero => exact Nat.zero_le _
  | succ i => exact Nat.le_of_eq (Qbz _ _)
theorem Qfo (key info : List Int) (i : Nat) : Qao (tg key info i) := by
  cases i with
  | zero => intro x hx; cases hx
  | succ i => exact Qgp _ _
theorem Qfd (key info : List Int) (k : Nat) : (okm key info k).length = 32 * k := by
  induction k with
  | zero => rfl
  | succ k ih => rw [okm, List.length_append, ih, tg, Qbz]; omega
theorem u8_n (k : Nat) (h : k + 1 ≤ 255) : IntKind.u8.wrap ((k + 1 : Nat) : Int) = ((k + 1 : Nat) : Int) := by rw [QiP]; omega
end Go.Proofs.YtibegnjaphohaaaDoor.Sha
end
section
namespace Go.Proofs.YtibegnjaphohaaaDoor.Sha
open Go Go.RowKit
open Rely Auto Own
set_option linter.unusedVariables false
set_option linter.unusedSimpArgs false
set_option maxHeartbeats 4000000 in
theorem QfS (m : Nat) (gs : List Nat) (g1 g2 B : Nat) (key info : List Int) (a_key a_info : Option Addr) (c_key c_info : Nat) (tc tq : TypeId) (w : World) (hkl : key.length ≤ 800000000) (hil : info.length ≤ 700000000) (hkb : Qao key) (hib : Qao info)
  (hBw : B ≤ w.heap.size) (hgs : ∀ c ∈ gs, B ≤ c) (hgl : ∀ c ∈ gs, c < w.heap.size) (hkw : RdK .u8 B key (.slice a_key key.length c_key) w) (hiw : RdK .u8 B info (.slice a_info info.length c_info) w)
  (hcw : w.heap[2]? = some (.cells (ints .u64 QaD) tc)) (hqw : w.heap[1]? = some (.cells (ints .u64 Qam) tq)) (r1w : w.heap[g1]? = some (.cells #[.slice a_key key.length c_key] 38)) (r2w : w.heap[g2]? = some (.cells #[.slice a_info info.length c_info] 38)) (n1 : g1 ∉ gs) (n2 : g2 ∉ gs) (nc : 2 ∉ gs) (nq : 1 ∉ gs) :
  SeqStopsK Fence.wide m Tryd.prog 66 #[.pointer (some ⟨g1, 0, none⟩), .pointer (some ⟨g2, 0, none⟩)] (fun i : Nat => #[Value.agg (ints .u8 (tg key info (i + 1)))]) (Qbl gs) (fun ys => ys = List.range 255) (fun ys => ∃ k, ys = List.range k ∧ k ≤ 255) 256 w := fun l J Jx Wi hW hJ hJx hY h0 => by
 refine callsIn_wide.2 ?_
 have hwi := hW.size
 have hBi : B ≤ Wi.heap.size := Nat.le_trans hBw hwi
 have hk := hkw.ext hW
 have hi := hiw.ext hW
 have hc := Qad hcw hW
 have hq := Qad hqw hW
 have r1 := Qad r1w hW
 have r2 := Qad r2w hW
 refine enter 24 [(0, .func (.yield l) #[] #[]), (1, .pointer (some ⟨g1, 0, none⟩)), (2, .pointer (some ⟨g2, 0, none⟩))] Tryd.func66 rfl rfl kj rfl ?_
 refine wp_seq_k fun K5 hK5 => ?_
 refine Qab ?_
 refine Qaa (.slice none 0 0) 4 rfl kj kj ?_
 refine Qac ?_
 refine hK5 _ _ ?_
 refine wp_seq_k fun K6 hK6 => ?_
 refine Qab ?_
 refine Qaa (.int .i64 1) 5 rfl kj kj ?_
 refine Qac ?_
 refine hK6 _ _ ?_
 refine wp_block ?_
 refine QaM (fun (s1 : Nat × Value) => [(0, .func (.yield l) #[] #[]), (1, .pointer (some ⟨g1, 0, none⟩)), (2, .pointer (some ⟨g2, 0, none⟩)), (4, s1.2), (5, .int .i64 ((s1.1 + 1 : Nat) : Int))]) (fun (s1 : Nat × Value) W => (s1.1 ≤ 255) ∧ (J (List.range s1.1) W) ∧ (W.heap[g1]? = some (.cells #[.slice a_key key.length c_key] 38)) ∧ (W.heap[g2]? = some (.cells #[.slice a_info info.length c_info] 38)) ∧ (W.heap[2]? = some (.cells (ints .u64 QaD) tc)) ∧ (W.heap[1]? = some (.cells (ints .u64 Qam) tq)) ∧ (RdK .u8 B key (.slice a_key key.length c_key) W) ∧ (RdK .u8 B info (.slice a_info info.length c_info) W) ∧ (OwnN .u8 23 Wi.heap.size (tg key info s1.1) s1.2 W) ∧ (Grew Wi W)) (fun (s1 : Nat × Value) => 255 - s1.1) (0, (.slice none 0 0)) ⟨rfl, rfl, rfl, rfl, rfl, trivial⟩ ⟨(by decide), (show J (List.range 0) _ from h0), r1, r2, hc, hq, hk, hi, (Qek _ _ _ _), (Grew.refl Wi)⟩ fun s1 X1 V1 hI1 => ?_
 obtain ⟨k, v⟩ := s1
 obtain ⟨hkl_, hJ1, rr1, rr2, rrc, rrq, hk1, hi1, hv, xx1⟩ := hI1
 replace hkl_ : k ≤ 255 := hkl_
 replace hJ1 : J (List.range k) V1 := hJ1
 replace rr1 : V1.heap[g1]? = some (.cells #[.slice a_key key.length c_key] 38) := rr1
 replace rr2 : V1.heap[g2]? = some (.cells #[.slice a_info info.length c_info] 38) := rr2
 replace rrc : V1.heap[2]? = some (.cells (ints .u64 QaD) tc) := rrc
 replace rrq : V1.heap[1]? = some (.cells (ints .u64 Qam) tq) := rrq
 replace hk1 : RdK .u8 B key (.slice a_key key.length c_key) V1 := hk1
 replace hi1 : RdK .u8 B info (.slice a_info info.length c_info) V1 := hi1
 replace hv : OwnN .u8 23 Wi.heap.size (tg key info k) v V1 := hv
 replace xx1 : Grew Wi V1 := xx1
 obtain ⟨a4, c4, rfl, -⟩ := id (OwnN.rd hv)
 refine wp_seq_k fun K7 hK7 => ?_
 refine wp_seq_k fun K8 hK8 => ?_
 refine Qab ?_
 refine Qaa (.int .i64 ((k + 1 : Nat) : Int)) 7 rfl kj kj ?_
 refine Qaa (.bool (decide (((k + 1 : Nat) : Int) ≤ 255))) 8 rfl kj kj ?_
 refine Qac ?_
 refine hK8 _ _ ?_
 refine QaE (t := decide (((k + 1 : Nat) : Int) ≤ 255)) kj (fun c9 => ?_) (fun c9 => ?_)
 ·skip
  have hlt : k + 1 ≤ 255 := by have := of_decide_eq_true c9; omega
  have htl := QjG key info k
  have hl1 : [((k + 1 : Nat) : Int)].length = 1 := rfl
  refine wp_skip ?_
  refine hK7 _ _ ?_
  refine wp_seq_k fun K10 hK10 => ?_
  refine wp_block ?_
  refine wp_seq_k fun K11 hK11 => ?_
  refine Qab ?_
  refine Qaa (.slice a_key key.length c_key) 11 rfl kj (Qal 38 _ g1 0 38 _ (.slice a_key key.length c_key) _ rr1 rfl kj kj kj) ?_
  refine Qaa (.slice a4 ((tg key info k).length) c4) 12 rfl kj kj ?_
  refine Qaa (.slice a_info info.length c_info) 13 rfl kj (Qal 38 _ g2 0 38 _ (.slice a_info info.length c_info) _ rr2 rfl kj kj kj) ?_
  refine Qaa (.int .i64 ((k + 1 : Nat) : Int)) 14 rfl kj kj ?_
  refine Qaa (.int .u8 (((k + 1 : Nat) : Int))) 15 rfl kj (Qah (u := .int .u8 (IntKind.u8.wrap ((k + 1 : Nat) : Int))) kj (congrArg (Value.int .u8) (u8_n _ (by omega)))) ?_
  refine Qbp (ints .u8 ([(((k + 1 : Nat) : Int))])) 5 1 16 rfl kj kj fun g12 W2 l12 e2 r12_2 => ?_
  have x2 : Grew Wi W2 := Grew.ext xx1 e2
  have b12 : Wi.heap.size ≤ g12 := Nat.le_trans xx1.size l12
  refine Qbp (#[.slice a4 ((tg key info k).length) c4, .slice a_info info.length c_info, .slice (some ⟨g12, 0, none⟩) 1 1]) 38 3 17 rfl kj kj fun g13 W3 l13 e3 r13_3 => ?_
  have x3 : Grew Wi W3 := Grew.ext x2 e3
  have b13 : Wi.heap.size ≤ g13 := Nat.le_trans x2.size l13
  have f15_2 := (hk1.ext e2)
  have f16_3 := (f15_2.ext e3)
  have f17_2 := (hv.ext e2)
  have f18_3 := (f17_2.ext e3)
  have f19_2 := (hi1.ext e2)
  have f20_3 := (f19_2.ext e3)
  have r12_3 := (Qad r12_2 e3)
  have r1_2 := (Qad rrc e2)
  have r1_3 := (Qad r1_2 e3)
  have r2_2 := (Qad rrq e2)
  have r2_3 := (Qad r2_2 e3)
  have hps14 : ∀ p ∈ ([(.slice a4 ((tg key info k).length) c4, tg key info k), (.slice a_info info.length c_info, info), (.slice (some ⟨g12, 0, none⟩) 1 1, [(((k + 1 : Nat) : Int))])] : List (Value × List Int)), RdK .u8 W3.heap.size p.2 p.1 W3 ∧ Qao p.2 := by
   intro p hp
   simp only [List.mem_cons, List.not_mem_nil, or_false] at hp
   rcases hp with rfl | rfl | rfl
   ·exact ⟨RdK.here (OwnN.rd f18_3), (Qfo _ _ _)⟩
   ·exact ⟨RdK.here f20_3, hib⟩
   ·exact ⟨RdK.here (Qb5 (xs := [(((k + 1 : Nat) : Int))]) (n := 1) rfl r12_3 (Qar r12_3) (show 1 ≤ maxLen from by decide)), (fun x hx => by rw [List.mem_singleton] at hx; subst hx; omega)⟩
  have htg14 := tagC (key) (.slice a_key key.length c_key) _ g13 3 _ ([(.slice a4 ((tg key info k).length) c4, tg key info k), (.slice a_info info.length c_info, info), (.slice (some ⟨g12, 0, none⟩) 1 1, [(((k + 1 : Nat) : Int))])] : List (Value × List Int)) rfl (by decide) tc tq W3 r1_3 r2_3 hkb (by omega) f16_3 r13_3 hps14 (by simp only [List.map_cons, List.map_nil, List.flatten_cons, List.flatten_nil, List.append_nil, List.length_append]; omega)
  rw [show ((List.map Prod.snd ([(.slice a4 ((tg key info k).length) c4, tg key info k), (.slice a_info info.length c_info, info), (.slice (some ⟨g12, 0, none⟩) 1 1, [(((k + 1 : Nat) : Int))])] : List (Value × List Int))).flatten) = (tg key info k) ++ info ++ ([(((k + 1 : Nat) : Int))]) by simp only [List.map_cons, List.map_nil, List.flatten_cons, List.flatten_nil, List.append_nil, List.append_assoc]] at htg14
  refine Qau (.agg (ints .u8 (hmac (key) ((tg key info k) ++ info ++ ([(((k + 1 : Nat) : Int))]))))) 67 #[.slice a_key key.length c_key, .slice (some ⟨g13, 0, none⟩) 3 3] 18 rfl kj kj htg14 fun W4 e4 => ?_
  have x4 : Grew Wi W4 := Grew.ext x3 e4
  refine Qas (ints .u8 (List.replicate 32 0)) 23 6 rfl kj kj fun g21 W5 l21 e5 r21_5 => ?_
  have x5 : Grew Wi W5 := Grew.ext x4 e5
  have b21 : Wi.heap.size ≤ g21 := Nat.le_trans x4.size l21
  refine Qaj g21 _ (ints .u8 (hmac (key) ((tg key info k) ++ info ++ ([(((k + 1 : Nat) : Int))])))) 23 r21_5 rfl kj (Qap 23 _ _ g21 23 _ _ r21_5 rfl kj kj (isz (n := 32) kj ((Qaf _ _).trans (Qbz _ _))) (eqsz (n := 32) ((Qaf _ _).trans (List.length_replicate (n := 32))) ((Qaf _ _).trans (Qbz _ _))) (Qa0 _ _)) fun W6 p6 r21_6 => ?_
  have x6 : Grew Wi W6 := Grew.puts x5 p6
  have r21_6_22 : W6.heap[g21]? = some (.cells (ints .u8 (tg key info (k + 1))) 23) := QaX r21_6 rfl
  refine Qac ?_
  refine hK11 _ _ ?_
  refine wp_seq_k fun K23 hK23 => ?_
  refine wp_seq_k fun K24 hK24 => ?_
  refine (wpIn_wide (n := m)).1 ?_
  refine Qcp ?_
  refine Qdk (.func (.yield l) #[] #[]) 19 rfl (Qb8 _ _) rfl kj kj ?_
  refine Qdk (.agg (ints .u8 (tg key info (k + 1)))) 20 rfl (Qb8 _ _) rfl kj (Qay 23 _ g21 23 _ _ r21_6_22 rfl kj kj (isz (n := 32) kj ((Qaf _ _).trans (Qbz _ _)))) ?_
  have y1_2 : Ext V1 W2 := (Rely.Ext.trans (Rely.Ext.refl V1) e2)
  have y1_3 : Ext V1 W3 := (Rely.Ext.trans y1_2 e3)
  have y1_4 : Ext V1 W4 := (Rely.Ext.trans y1_3 e4)
  have y1_5 : Ext V1 W5 := (Rely.Ext.trans y1_4 e5)
  have y1_6 : Ext V1 W6 := (Puts.ext p6 y1_5 (Nat.le_trans y1_4.size l21))
  have f26_6 := Qgs hJ hJ1 y1_6
  refine QhL (m := m) (l := l) (args := #[.agg (ints .u8 (tg key info (k + 1)))]) 21 rfl rfl kj kj (hY (List.range k) k W6 f26_6 (by rw [List.length_range]; omega)) (fun W' hA => ?_) (fun W' hA => ?_)
  ·skip
   obtain ⟨W7, hW7⟩ : ∃ z, z = W' := ⟨_, rfl⟩
   rw [← hW7] at hA ⊢
   obtain ⟨hj25, hk25⟩ := hA
   have x7 : Grew Wi W7 := Grew.keepC x6 hk25
   refine Qdk (.bool false) 22 rfl (Qb8 _ _) rfl kj kj ?_
   refine QeN ?_
   refine hK24 _ _ ?_
   refine cond_false kj ?_
   refine wp_skip ?_
   refine hK23 _ _ ?_
   refine Qab ?_
   refine Qaa (.slice (some ⟨g21, 0, none⟩) 32 32) 23 rfl kj kj ?_
   refine Qaa (.slice (some ⟨g21, 0, none⟩) 32 32) 4 rfl kj kj ?_
   refine Qac ?_
   refine hK10 _ _ ?_
   refine Qab ?_
   refine Qaa (.int .i64 ((k + 1 : Nat) : Int)) 9 rfl kj kj ?_
   refine Qaa (.int .i64 (((k + 1) + 1 : Nat) : Int)) 10 rfl kj (Qah (u := .int .i64 (IntKind.i64.wrap (((k + 1 : Nat) : Int) + 1))) kj (congrArg (Value.int .i64) (i64n _ _ (by omega) (by omega)))) ?_
   refine Qaa (.int .i64 (((k + 1) + 1 : Nat) : Int)) 5 rfl kj kj ?_
   refine Qac ?_
   have r3_2 := (Qad rr1 e2)
   have r3_3 := (Qad r3_2 e3)
   have r3_4 := (Qad r3_3 e4)
   have r3_5 := (Qad r3_4 e5)
   have r3_6 := (Puts.row p6 r3_5 (Qag r3_4 l21))
   have r3_7 := (Qbl.row hk25 r3_6 n1)
   have r4_2 := (Qad rr2 e2)
   have r4_3 := (Qad r4_2 e3)
   have r4_4 := (Qad r4_3 e4)
   have r4_5 := (Qad r4_4 e5)
   have r4_6 := (Puts.row p6 r4_5 (Qag r4_4 l21))
   have r4_7 := (Qbl.row hk25 r4_6 n2)
   have r1_4 := (Qad r1_3 e4)
   have r1_5 := (Qad r1_4 e5)
   have r1_6 := (Puts.row p6 r1_5 (Qag r1_4 l21))
   have r1_7 := (Qbl.row hk25 r1_6 nc)
   have r2_4 := (Qad r2_3 e4)
   have r2_5 := (Qad r2_4 e5)
   have r2_6 := (Puts.row p6 r2_5 (Qag r2_4 l21))
   have r2_7 := (Qbl.row hk25 r2_6 nq)
   have f27_4 := (f16_3.ext e4)
   have f28_5 := (f27_4.ext e5)
   have f29_6 := (f28_5.puts p6 (Nat.le_trans hBi b21))
   have f30_7 := (RdK.keepC f29_6 hk25 hgs)
   have f31_4 := (f20_3.ext e4)
   have f32_5 := (f31_4.ext e5)
   have f33_6 := (f32_5.puts p6 (Nat.le_trans hBi b21))
   have f34_7 := (RdK.keepC f33_6 hk25 hgs)
   have r21_7 := (Qbl.row hk25 r21_6_22 (fun hm => by have h1 := hgl _ hm; have h2 := b21; omega))
   repeat (first | with_reducible refine goX1 ?_ | with_reducible refine goX2 ?_ | with_reducible refine goX3 ?_)
   exact QaB ((k + 1), .slice (some ⟨g21, 0, none⟩) 32 32) ⟨rfl, rfl, rfl, rfl, rfl, trivial⟩ ⟨(by omega), (by rw [List.range_succ]; exact hj25), r3_7, r4_7, r1_7, r2_7, f30_7, f34_7, (Qdt (xs := tg key info (k + 1)) (Qbz _ _) b21 r21_7 (by decide)), x7⟩ (by show 255 - (k + 1) < 255 - k; omega)
  ·skip
   obtain ⟨W7, hW7⟩ : ∃ z, z = W' := ⟨_, rfl⟩
   rw [← hW7] at hA ⊢
   refine Qdk (.bool true) 22 rfl (Qb8 _ _) rfl kj kj ?_
   refine QeN ?_
   refine hK24 _ _ ?_
   refine cond_true kj ?_
   refine wp_ret ?_
   repeat (first | with_reducible refine goR1 ?_ | with_reducible refine goR2 ?_)
   exact (show bodyPost _ _ _ .ret _ _ from ret0 rfl ⟨⟨_, rfl⟩, .inr ⟨_, ⟨k + 1, List.range_succ.symm, hlt⟩, hA⟩⟩)
 ·skip
  have hke : k = 255 := by have := of_decide_eq_false c9; omega
  refine wp_exit ?_
  repeat (first | with_reducible refine goX1 ?_ | with_reducible refine goX2 ?_ | with_reducible refine goX3 ?_)
  exact (show bodyPost _ _ _ .normal _ _ from end0 rfl ⟨⟨_, rfl⟩, .inl ⟨_, congrArg List.range hke, hJ1⟩⟩)
end Go.Proofs.YtibegnjaphohaaaDoor.Sha
end
section
namespace Go.Proofs.YtibegnjaphohaaaDoor.Sha
open Go Go.RowKit
open Rely Auto Own
set_option linter.unusedVariables false
set_option linter.unusedSimpArgs false
theorem QgD {P : Program} {ρ : Operand → Value} {o : Oper} {W : World} {k : IntKind} {e : TypeId} (x y : Operand) (tx ty : TypeId) (ho : o.op = .call { callee := .builtin .copy, args := #[x, y], argTypes := #[tx, ty] }) (hu : P.underlying tx = some (.slice e)) (hsz : (P.info? e).map (·.size) = some 1)
    {g off dl dc n B : Nat} {xs z : List Int} {v : Value} {T : TypeId} (hx : ρ x = .slice (some ⟨g, off, none⟩) dl dc) (hy : ρ y = v) (hr : RdK k B z v W)
    (hg : W.heap[g]? = some (.cells (ints k xs) T)) (hq : off + dl ≤ xs.length) (hn : n = min z.length dl) :
    ∃ W' : World, (execOp ρ o).run P W = .ok (.value (.int .i64 ((n : Nat) : Int))) W' ∧ Puts W g W' ∧ W'.heap[g]? = some (.cells (ints k (xs.take off ++ z.take n ++ xs.drop (off + n))) T) := by
  obtain ⟨a, cap, rfl, y2, y3, y4, y5⟩ := hr
  have hgo : ∀ W', (Builtin.copy_ #[tx, ty] o.type #[.slice (some ⟨g, off, none⟩) dl dc, .slice a z.length cap]).run P W = .ok (goInt n) W' → (execOp ρ o).run P W = .ok (.value (.int .i64 ((n : Nat) : Int))) W' := fun W' h => by
    unfold execOp
    simp only [ho, resolve, invoke, builtin, Sem.run_bind, Sem.run_pure, Result.andThen_ok, List.map_toArray, List.map_cons, List.map_nil, hx, hy, h, goInt]
  rcases Nat.eq_zero_or_pos n with h0 | h0
  · refine ⟨W, hgo W ?_, ⟨rfl, rfl, rfl, rfl, fun _ _ => rfl⟩, ?_⟩
    · rw [h0]; exact run_copy_none W tx ty o.type e _ _ _ _ _ _ hu hsz (hn.symm.trans h0)
    · rw [h0, List.take_zero, List.append_nil, Nat.add_zero, List.take_append_drop]; exact hg
  · obtain ⟨gz, oz, rfl, z2, z3, z4⟩ := y5.resolve_left (fun e => by rw [e] at hn; simp at hn; omega)
    have hlen : ((z.take n).map (Value.int k)).length = n := by simp; omega
    have h := run_copy_row (P := P) W tx ty o.type e g off dl dc ⟨gz, oz, none⟩ z.length cap (ints k xs) T ((z.take n).map (Value.int k)) hu hsz hg (by rw [hlen]; exact hn)
      (QhD (k := k) (ys := z.take n) fun i hi => by
        rw [List.length_take] at hi
        rw [z4 i (by omega)]
        simp [nth, show i < n by omega]) (by rw [hlen, Qaf]; omega) (QhB k _)
    rw [hlen] at h
    have e1 : ((ints k xs).toList.take off ++ (z.take n).map (Value.int k) ++ (ints k xs).toList.drop (off + n)).toArray = ints k (xs.take off ++ z.take n ++ xs.drop (off + n)) := by
      apply Array.ext'
      show (xs.map (Value.int k)).take off ++ (z.take n).map (Value.int k) ++ (xs.map (Value.int k)).drop (off + n) = (xs.take off ++ z.take n ++ xs.drop (off + n)).map (Value.int k)
      simp only [List.map_append, List.map_take, List.map_drop]
    rw [e1] at h
    exact ⟨_, hgo _ h, QaW _ _ _, setRow_heap _ _ _ _ _ _ hg⟩
theorem Qe5 {P : Program} {ρ : Operand → Value} {o : Oper} {W : World} {k : IntKind} {e : TypeId} (x y : Operand) (tx ty : TypeId) (ho : o.op = .call { callee := .builtin .copy, args := #[x, y], argTypes := #[tx, ty] }) (hu : P.underlying tx = some (.slice e)) (hsz : (P.info? e).map (·.size) = some 1)
    {g off dl dc n B : Nat} {xs ys z : List Int} {v : Value} {T : TypeId} (hx : ρ x = .slice (some ⟨g, off, none⟩) dl dc) (hy : ρ y = v) (hr : RdK k B z v W)
    (hg : W.heap[g]? = some (.cells (ints k xs) T)) (hq : off + dl ≤ xs.length) (hn : n = min z.length dl) (hY : xs.take off ++ z.take n ++ xs.drop (off + n) = ys) :
    ∃ W' : World, (execOp ρ o).run P W = .ok (.value (.int .i64 ((n : Nat) : Int))) W' ∧ Puts W g W' ∧ W'.heap[g]? = some (.cells (ints k ys) T) := hY ▸ QgD x y tx ty ho hu hsz hx hy hr hg hq hn
theorem Qfx {P : Program} {ρ : Operand → Value} {o : Oper} {W : World} {g : Nat} {X Y : Obj} {v : Value} (h : ∃ W' : World, (execOp ρ o).run P W = .ok (.value v) W' ∧ Puts W g W' ∧ W'.heap[g]? = some Y) :
    ∃ u W', (execOp ρ o).run P W = .ok (.value u) W' ∧ QbU g X Y W W' ∧ (u = v ∧ W'.heap[g]? = some Y) := by
  obtain ⟨W', e1, p1, r1⟩ := h
  exact ⟨_, W', e1, ⟨ExtB.puts (ExtB.refl _ _) p1, .inr r1⟩, rfl, r1⟩
theorem QfZ {P : Program} {ρ : Operand → Value} {o : Oper} {w : World} (t : TypeId) (x z : Operand) (l g len cap : Nat) (e : TypeId) (ho : o.op = .slice t x (some z) none none) (hx : ρ x = .slice (some ⟨g, 0, none⟩) len cap)
    (hu : P.underlying t = some (.slice e)) (hs : (P.info? e).map (·.size) = some 1) (kz : IntKind) (hz : ρ z = .int kz (l : Int)) (h1 : l ≤ len) (h2 : len ≤ cap) :
    (execOp ρ o).run P w = .ok (.value (.slice (some ⟨g, (if cap = l then 0 else l), none⟩) (len - l) (cap - l))) w := by
  cases hq : P.info? e with
  | none => simp [hq] at hs
  | some i =>
    have hs' : i.size = 1 := by simpa [hq] using hs
    unfold execOp
    simp [ho, hx, hz, Instr.sliceAt, Instr.slice, Instr.sliceBounds, run_sliceBound, run_underlying hu, sizeOf, typeInfo, hq, hs', h1, h2]
    split
    · simp [Addr.add]
    · simp [Addr.add]
      exact fun h => h.symm
theorem goXo {K : Act → World → Prop} {Q : Exit → Act → World → Prop} {a : Act} {w : World} {n m : Nat} (h : n ≠ m) (k : Q (.exit n) a w) : Exit.inBlock m Q (.exit n) a w := by
  unfold Exit.inBlock
  simp [h]
  exact k
theorem QeJ {W W' : World} {g : Nat} {cs : Array Value} {t : TypeId} (h : ExtB g W W') (r : W.heap[g]? = some (.cells cs t)) : KeepsOthers W W' :=
  ⟨h.2.2.2.1, fun k o hk ho => by
    by_cases e : k = g
    · subst e
      rw [r] at hk
      cases hk
      cases ho
    · exact (h.2.2.2.2 k (Qar hk) e).trans hk⟩
theorem QgR {gs : List Nat} {A B : World} {g : Nat} (h : ExtB g A B) (hm : g ∈ gs) : Qbl gs A B := ⟨h.2.2.2.1, fun k cs t fr q n => (h.2.2.2.2 k (Qar q) (fun e => n (e ▸ hm))).trans q⟩
theorem Qgn {gs : List Nat} {A B : World} {g : Nat} (h : Puts A g B) (hm : g ∈ gs) : Qbl gs A B := ⟨Nat.le_of_eq h.2.2.2.1.symm, fun k cs t fr q n => (h.2.2.2.2 k (fun e => n (e ▸ hm))).trans q⟩
def okL (key info : List Int) (pre : List Nat) : List Int := (pre.map fun x => tg key info (x + 1)).flatten
def FF (key info : List Int) (n : Nat) (pre : List Nat) : List Int := (okL key info pre).take n ++ List.replicate (n - 32 * pre.length) 0
theorem Qfe (key info : List Int) : ∀ pre, (okL key info pre).length = 32 * pre.length
  | [] => rfl
  | x :: l => by
    have := Qfe key info l
    unfold okL at this ⊢
    rw [List.map_cons, List.flatten_cons, List.length_append, this, tg, Qbz, List.length_cons]; omega
theorem Qf0 (key info : List Int) (pre : List Nat) (x : Nat) : okL key info (pre ++ [x]) = okL key info pre ++ tg key info (x + 1) := by simp [okL]
theorem QeD (key info : List Int) : ∀ k, okL key info (List.range k) = okm key info k
  | 0 => rfl
  | k + 1 => by rw [List.range_succ, Qf0, QeD key info k, okm]
theorem Qho (key info : List Int) (n : Nat) (pre : List Nat) : (FF key info n pre).length = n := by
  unfold FF
  rw [List.length_append, List.length_take, Qfe, List.length_replicate]; omega
theorem Qj9 (key info : List Int) (n : Nat) : List.replicate n 0 = FF key info n [] := by simp [FF, okL]
theorem Qhh (key info : List Int) (n : Nat) (pre : List Nat) (x : Nat) (h : pre.length = 0 ∨ 32 * pre.length < n) :
    (FF key info n pre).take (if n = 32 * pre.length then 0 else 32 * pre.length) ++ (tg key info (x + 1)).take (min 32 (n - 32 * pre.length)) ++ (FF key info n pre).drop ((if n = 32 * pre.length then 0 else 32 * pre.length) + min 32 (n - 32 * pre.length)) = FF key info n (pre ++ [x]) := by
  have hl := Qfe key info pre
  have ht : (tg key info (x + 1)).length = 32 := Qbz _ _
  have hp : (pre ++ [x]).length = pre.length + 1 := by simp
  by_cases hn : n = 32 * pre.length
  · have h0 : n = 0 := by omega
    subst h0
    rw [if_pos hn]
    unfold FF
    simp
  · have hlt : 32 * pre.length < n := by omega
    rw [if_neg hn]
    unfold FF
    rw [Qf0, hp, List.take_of_length_le (by omega : (okL key info pre).length ≤ n), List.take_append_of_le_length (by omega), List.take_of_length_le (by omega : (okL key info pre).length ≤ 32 * pre.length),
      List.drop_append, List.drop_of_length_le (by omega : (okL key info pre).length ≤ 32 * pre.length + min 32 (n - 32 * pre.length)), List.nil_append, List.drop_replicate, List.take_append, List.take_of_length_le (by omega : (okL key info pre).length ≤ n), hl]
    congr 1
    · congr 1
      by_cases h32 : n - 32 * pre.length ≤ 32
      · rw [show min 32 (n - 32 * pre.length) = n - 32 * pre.length by omega]
      · rw [show min 32 (n - 32 * pre.length) = 32 by omega, List.take_of_length_le (by omega), List.take_of_length_le (by omega)]
    · congr 1; omega
theorem QhR (key info : List Int) (n : Nat) (pre : List Nat) (x : Nat) (h : pre.length = 0 ∨ 32 * pre.length < n) :
    (FF key info n (pre ++ [x])).take (if n = 32 * pre.length then 0 else 32 * pre.length) ++ (tg key info (x + 1)).take (min 32 (n - 32 * pre.length)) ++ (FF key info n (pre ++ [x])).drop ((if n = 32 * pre.length then 0 else 32 * pre.length) + min 32 (n - 32 * pre.length)) = FF key info n (pre ++ [x]) := by
  have ht : (tg key info (x + 1)).length = 32 := Qbz _ _
  rw [← Qhh key info n pre x h]
  refine Qh4 _ _ _ _ ?_ (by omega)
  rw [Qho]
  split <;> omega
theorem QiS (key info : List Int) (n k : Nat) (h : n ≤ 32 * k) : FF key info n (List.range k) = (okm key info k).take n := by
  unfold FF
  rw [QeD, List.length_range, show n - 32 * k = 0 by omega, List.replicate_zero, List.append_nil]
theorem QcQ (key info : List Int) (x : Nat) : (tg key info (x + 1)).length = 32 := Qbz _ _
set_option maxHeartbeats 4000000 in
theorem QjJ (a_key a_info : Option Addr) (n1 n2 c1 c2 : Nat) (w : World) : Calls Tryd.prog 61 #[.slice a_key n1 c1, .slice a_info n2 c2] w (Qce w (fun v W => ∃ g1 g2, v = .func (.func 66) #[] #[.pointer (some ⟨g1, 0, none⟩), .pointer (some ⟨g2, 0, none⟩)] ∧ w.heap.size ≤ g1 ∧ w.heap.size ≤ g2 ∧ W.heap[g1]? = some (.cells #[.slice a_key n1 c1] 38) ∧ W.heap[g2]? = some (.cells #[.slice a_info n2 c2] 38))) := by
  refine enter 6 [(0, .slice a_key n1 c1), (1, .slice a_info n2 c2)] Tryd.func61 rfl rfl kj rfl ?_
  refine wp_seq_k fun K1 hK1 => ?_
  refine Qab ?_
  refine Qas (#[.slice a_key n1 c1]) 38 2 rfl kj kj fun g2 W1 l2 e1 r2_1 => ?_
  have x1 : Ext w W1 := Ext.tr (Rely.Ext.refl w) e1
  have b2 : w.heap.size ≤ g2 := Nat.le_trans (Rely.Ext.refl w).size l2
  refine Qas (#[.slice a_info n2 c2]) 38 3 rfl kj kj fun g3 W2 l3 e2 r3_2 => ?_
  have x2 : Ext w W2 := Ext.tr x1 e2
  have b3 : w.heap.size ≤ g3 := Nat.le_trans x1.size l3
  refine Qaa (.nilFunc) 4 rfl kj kj ?_
  refine Qac ?_
  refine hK1 _ _ ?_
  refine wp_seq_k fun K4 hK4 => ?_
  refine Qab ?_
  refine Qaa (.func (.func 66) #[] #[.pointer (some ⟨g2, 0, none⟩), .pointer (some ⟨g3, 0, none⟩)]) 5 rfl kj kj ?_
  refine Qaa (.func (.func 66) #[] #[.pointer (some ⟨g2, 0, none⟩), .pointer (some ⟨g3, 0, none⟩)]) 4 rfl kj kj ?_
  refine Qac ?_
  refine hK4 _ _ ?_
  refine wp_ret ?_
  repeat (first | with_reducible refine goR1 ?_ | with_reducible refine goR2 ?_)
  have r2_2 := (Qad r2_1 e2)
  exact (show bodyPost _ _ _ .ret _ _ from ret1 (.func (.func 66) #[] #[.pointer (some ⟨g2, 0, none⟩), .pointer (some ⟨g3, 0, none⟩)]) rfl (Qa9 kj) ⟨_, rfl, x2, g2, g3, rfl, b2, b3, r2_2, r3_2⟩)
theorem QhC (key info : List Int) (n k : Nat) (h : n ≤ 32 * k) : ((okm key info k).take n).length = n := by
  rw [List.length_take, Qfd]; omega
set_option maxHeartbeats 4000000 in
theorem QhJ (key info : List Int) (v1 v2 : Value) (B B2 n : Nat) (tc tq : TypeId) (w : World) (hc : w.heap[2]? = some (.cells (ints .u64 QaD) tc)) (hq : w.heap[1]? = some (.cells (ints .u64 Qam) tq)) (hn : n ≤ 8160) (hkl : key.length ≤ 800000000) (hil : info.length ≤ 700000000) (hkb : Qao key) (hib : Qao info) (hk : RdK .u8 B key v1 w) (hi : RdK .u8 B2 info v2 w) :
  Calls Tryd.prog 59 #[v1, v2, .int .i64 ((n : Nat) : Int)] w (Qce w (fun v W => ∃ u k, v = .tuple #[u, .nilIface] ∧ n ≤ 32 * k ∧ OwnN .u8 5 w.heap.size ((okm key info k).take n) u W)) := by
 obtain ⟨a_key, c_key, rfl, -⟩ := id hk
 obtain ⟨a_info, c_info, rfl, -⟩ := id hi
 refine Qj0 35 [(0, .slice a_key key.length c_key), (1, .slice a_info info.length c_info), (2, .int .i64 ((n : Nat) : Int))] Tryd.func59 rfl rfl kj rfl ?_
 refine wp_seq_k fun K3 hK3 => ?_
 refine Qab ?_
 refine Qas (#[.int .i64 ((n : Nat) : Int)]) 3 5 rfl kj kj fun g4 W1 l4 e1 r4_1 => ?_
 have x1 : Ext w W1 := Ext.tr (Rely.Ext.refl w) e1
 have b4 : w.heap.size ≤ g4 := Nat.le_trans (Rely.Ext.refl w).size l4
 refine Qaa (.slice none 0 0) 6 rfl kj kj ?_
 refine Qaa (.nilIface) 7 rfl kj kj ?_
 refine Qac ?_
 refine hK3 _ _ ?_
 refine wp_scope_straight ?_
 refine wp_seq_k fun K5 hK5 => ?_
 refine wp_seq_k fun K6 hK6 => ?_
 refine Qab ?_
 refine Qaa (.int .i64 ((n : Nat) : Int)) 11 rfl kj (Qal 3 _ g4 0 3 _ (.int .i64 ((n : Nat) : Int)) _ r4_1 rfl kj kj kj) ?_
 refine Qaa (.bool false) 12 rfl kj (Qah (u := .bool (decide (((n : Nat) : Int) < 0))) kj (congrArg Value.bool (decide_eq_false (by omega)))) ?_
 refine Qaa (.bool false) 13 rfl kj kj ?_
 refine Qaa (.int .i64 ((n : Nat) : Int)) 14 rfl kj (Qal 3 _ g4 0 3 _ (.int .i64 ((n : Nat) : Int)) _ r4_1 rfl kj kj kj) ?_
 refine Qaa (.bool false) 15 rfl kj (Qah (u := .bool (decide (((n : Nat) : Int) > 8160))) kj (congrArg Value.bool (decide_eq_false (by omega)))) ?_
 refine Qaa (.bool false) 16 rfl kj kj ?_
 refine Qac ?_
 refine hK6 _ _ ?_
 refine cond_false kj ?_
 refine wp_skip ?_
 refine hK5 _ _ ?_
 refine wp_seq_k fun K7 hK7 => ?_
 refine Qab ?_
 refine Qaa (.int .i64 ((n : Nat) : Int)) 18 rfl kj (Qal 3 _ g4 0 3 _ (.int .i64 ((n : Nat) : Int)) _ r4_1 rfl kj kj kj) ?_
 refine Qbp (ints .u8 (List.replicate n 0)) 5 n 19 rfl kj (Qe4 38 _ _ .i64 .i64 n 5 rfl kj kj kj (.inr kj) (by omega)) fun g8 W2 l8 e2 r8_2 => ?_
 have x2 : Ext w W2 := Ext.tr x1 e2
 have b8 : w.heap.size ≤ g8 := Nat.le_trans x1.size l8
 refine Qas (#[.slice none 0 0]) 38 8 rfl kj kj fun g9 W3 l9 e3 r9_3 => ?_
 have x3 : Ext w W3 := Ext.tr x2 e3
 have b9 : w.heap.size ≤ g9 := Nat.le_trans x2.size l9
 refine Qaj g9 _ (#[.slice (some ⟨g8, 0, none⟩) n n]) 38 r9_3 rfl kj (Qbk 38 _ _ g9 0 38 _ (.slice (some ⟨g8, 0, none⟩) n n) r9_3 rfl kj kj kj kj kj rfl) fun W4 p4 r9_4 => ?_
 have x4 : Ext w W4 := Puts.ext p4 x3 b9
 refine Qac ?_
 refine hK7 _ _ ?_
 refine wp_seq_k fun K10 hK10 => ?_
 refine Qab ?_
 refine Qas (#[.int .i64 0]) 3 9 rfl kj kj fun g11 W5 l11 e5 r11_5 => ?_
 have x5 : Ext w W5 := Ext.tr x4 e5
 have b11 : w.heap.size ≤ g11 := Nat.le_trans x4.size l11
 refine Qaj g11 _ (#[.int .i64 0]) 3 r11_5 rfl kj (Qbk 3 _ _ g11 0 3 _ (.int .i64 0) r11_5 rfl kj kj kj kj kj rfl) fun W6 p6 r11_6 => ?_
 have x6 : Ext w W6 := Puts.ext p6 x5 b11
 refine Qac ?_
 refine hK10 _ _ ?_
 refine wp_seq_k fun K12 hK12 => ?_
 refine wp_label ?_
 refine hK12 _ _ ?_
 refine wp_seq_k fun K13 hK13 => ?_
 refine wp_seq_k fun K14 hK14 => ?_
 refine Qab ?_
 refine Qaa (.slice a_key key.length c_key) 20 rfl kj kj ?_
 refine Qaa (.slice a_info info.length c_info) 21 rfl kj kj ?_
 refine Qa8 (fun v W' => (fun v W => ∃ g1 g2, v = .func (.func 66) #[] #[.pointer (some ⟨g1, 0, none⟩), .pointer (some ⟨g2, 0, none⟩)] ∧ W6.heap.size ≤ g1 ∧ W6.heap.size ≤ g2 ∧ W.heap[g1]? = some (.cells #[.slice a_key key.length c_key] 38) ∧ W.heap[g2]? = some (.cells #[.slice a_info info.length c_info] 38)) v W' ∧ Ext W6 W') 61 #[.slice a_key key.length c_key, .slice a_info info.length c_info] 22 rfl kj kj ((QjJ a_key a_info _ _ c_key c_info _).mono (by rintro e w' ⟨v, rfl, e1, hv⟩; exact ⟨v, rfl, hv, e1⟩)) fun vv15 W7 hh15 => ?_
 obtain ⟨hv15, e7⟩ := hh15
 have x7 : Ext w W7 := Ext.tr x6 e7
 obtain ⟨gp1, gp2, rfl, lp1, lp2, rp1, rp2⟩ := hv15
 refine Qac ?_
 refine hK14 _ _ ?_
 refine wp_block ?_
 have r4_2 := (Qad r4_1 e2)
 have r4_3 := (Qad r4_2 e3)
 have r4_4 := (Puts.row p4 r4_3 (Qag r4_2 l9))
 have r4_5 := (Qad r4_4 e5)
 have r4_6 := (Puts.row p6 r4_5 (Qag r4_4 l11))
 have r4_7 := (Qad r4_6 e7)
 have r9_5 := (Qad r9_4 e5)
 have r9_6 := (Puts.row p6 r9_5 (Qag r9_4 l11))
 have r9_7 := (Qad r9_6 e7)
 have r11_7 := (Qad r11_6 e7)
 have r8_3 := (Qad r8_2 e3)
 have r8_4 := (Puts.row p4 r8_3 (Qag r8_2 l9))
 have r8_5 := (Qad r8_4 e5)
 have r8_6 := (Puts.row p6 r8_5 (Qag r8_4 l11))
 have r8_7 := (Qad r8_6 e7)
 have r1_1 := (Qad hc e1)
 have r1_2 := (Qad r1_1 e2)
 have r1_3 := (Qad r1_2 e3)
 have r1_4 := (Puts.row p4 r1_3 (Qag r1_2 l9))
 have r1_5 := (Qad r1_4 e5)
 have r1_6 := (Puts.row p6 r1_5 (Qag r1_4 l11))
 have r1_7 := (Qad r1_6 e7)
 have r2_1 := (Qad hq e1)
 have r2_2 := (Qad r2_1 e2)
 have r2_3 := (Qad r2_2 e3)
 have r2_4 := (Puts.row p4 r2_3 (Qag r2_2 l9))
 have r2_5 := (Qad r2_4 e5)
 have r2_6 := (Puts.row p6 r2_5 (Qag r2_4 l11))
 have r2_7 := (Qad r2_6 e7)
 have nb58 : g4 ≠ g9 := (Qag r4_2 l9)
 have nb59 : g4 ≠ g11 := (Qag r4_4 l11)
 have nb5O : g4 ≠ g8 := (Qag r4_1 l8)
 have nb85 : g9 ≠ g4 := (Qbs r4_2 l9)
 have nb89 : g9 ≠ g11 := (Qag r9_4 l11)
 have nb8O : g9 ≠ g8 := (Qbs r8_2 l9)
 have nb95 : g11 ≠ g4 := (Qbs r4_4 l11)
 have nb98 : g11 ≠ g9 := (Qbs r9_4 l11)
 have nb9O : g11 ≠ g8 := (Qbs r8_4 l11)
 have nbO5 : g8 ≠ g4 := (Qbs r4_1 l8)
 have nbO8 : g8 ≠ g9 := (Qag r8_2 l9)
 have nbO9 : g8 ≠ g11 := (Qag r8_4 l11)
 have hgs : ∀ c ∈ ([g11, g8] : List Nat), w.heap.size ≤ c := (fun c hc => by simp only [List.mem_cons, List.not_mem_nil, or_false] at hc; rcases hc with rfl | rfl; exact b11; exact b8)
 have hgl : ∀ c ∈ ([g11, g8] : List Nat), c < W7.heap.size := (fun c hc => by simp only [List.mem_cons, List.not_mem_nil, or_false] at hc; rcases hc with rfl | rfl; exact Qar r11_7; exact Qar r8_7)
 have hgp : ∀ c ∈ ([g11, g8] : List Nat), c < W6.heap.size := (fun c hc => by simp only [List.mem_cons, List.not_mem_nil, or_false] at hc; rcases hc with rfl | rfl; exact Qar r11_6; exact Qar r8_6)
 have hkL : RdK .u8 w.heap.size key (.slice a_key key.length c_key) W7 := (RdK.here hk).ext x7
 have hiL : RdK .u8 w.heap.size info (.slice a_info info.length c_info) W7 := (RdK.here hi).ext x7
 refine Qfb (gf := 66) (lb := #[.pointer (some ⟨gp1, 0, none⟩), .pointer (some ⟨gp2, 0, none⟩)]) (enc := fun x : Nat => .agg (ints .u8 (tg key info (x + 1)))) kj (enters_of Tryd.func66 kj rfl) (QfS 2 [g11, g8] gp1 gp2 w.heap.size key info a_key a_info c_key c_info tc tq W7 hkl hil hkb hib x7.size hgs hgl hkL hiL r1_7 r2_7 rp1 rp2 (fun hm => by have := hgp _ hm; omega) (fun hm => by have := hgp _ hm; omega) (fun hm => by have h1 := hgs _ hm; have h2 := Qar hc; omega) (fun hm => by have h1 := hgs _ hm; have h2 := Qar hq; omega)) (fun h k => Qbl.trans h k) Qbl.book (Below.refl _ _)
   (fun pre W => ((W.heap[g4]? = some (.cells (#[.int .i64 ((n : Nat) : Int)]) 3)) ∧ (W.heap[g9]? = some (.cells (#[.slice (some ⟨g8, 0, none⟩) n n]) 38)) ∧ (W.heap[g11]? = some (.cells (#[.int .i64 ((32 * pre.length : Nat) : Int)]) 3)) ∧ (W.heap[g8]? = some (.cells (ints .u8 (FF key info n pre)) 5)) ∧ (pre.length = 0 ∨ 32 * pre.length < n) ∧ W7.heap.size ≤ W.heap.size) ∧ Ext w W)
   (fun c pre W => (c = .exit 0 ∧ n ≤ 32 * pre.length ∧ (W.heap[g4]? = some (.cells (#[.int .i64 ((n : Nat) : Int)]) 3)) ∧ (W.heap[g9]? = some (.cells (#[.slice (some ⟨g8, 0, none⟩) n n]) 38)) ∧ (W.heap[g8]? = some (.cells (ints .u8 (FF key info n pre)) 5))) ∧ Ext w W) (OwnFrom.and (Own.from (fun s A B row hs hg hr => ⟨Qb4 hs.1 hg hr, Qb4 hs.2.1 hg hr, Qb4 hs.2.2.1 hg hr, Qb4 hs.2.2.2.1 hg hr, hs.2.2.2.2.1, Nat.le_trans hs.2.2.2.2.2 hg.size⟩) _) (ownFrom_below (Nat.le_refl _) x7.size)) (fun c => OwnFrom.and (Own.from (fun s A B row hs hg hr => ⟨hs.1, hs.2.1, Qb4 hs.2.2.1 hg hr, Qb4 hs.2.2.2.1 hg hr, Qb4 hs.2.2.2.2 hg hr⟩) _) (ownFrom_below (Nat.le_refl _) x7.size)) ⟨⟨r4_7, r9_7, r11_7, QaX r8_7 (Qj9 key info n), .inl rfl, Nat.le_refl _⟩, x7⟩ (fun e => Qbl.ext e) (fun pre A B h e => ⟨⟨Qad h.1.1 e, Qad h.1.2.1 e, Qad h.1.2.2.1 e, Qad h.1.2.2.2.1 e, h.1.2.2.2.2.1, Nat.le_trans h.1.2.2.2.2.2 e.size⟩, Rely.Ext.trans h.2 e⟩) (fun pre W h => h.1.2.2.2.2.2) (fun x g => [(10, .pointer (some ⟨g, 0, none⟩)), (23, .agg (ints .u8 (tg key info (x + 1))))]) (fun x => ints .u8 (tg key info (x + 1))) 23 (fun l x W K hK => ?_) (fun l pre x g10 W hg10 hI r10 hp => ?_) (fun D ys W lD hS hI rD => ?_) (fun D c pre W lD hSp hIx rD => ?_)
 ·skip
  refine Qcp ?_
  refine QhO (ints .u8 (List.replicate 32 0)) 23 10 rfl (Qb0 l 1 _) rfl kj kj fun g301 W1 l301 e1 r301_1 => ?_
  have x1 : Ext W W1 := Ext.tr (Rely.Ext.refl W) e1
  have b301 : W.heap.size ≤ g301 := Nat.le_trans (Rely.Ext.refl W).size l301
  refine QfA g301 _ (ints .u8 (tg key info (x + 1))) 23 r301_1 rfl (Qb0 l 1 _) rfl kj (Qap 23 _ _ g301 23 _ _ r301_1 rfl kj kj (isz (n := 32) kj ((Qaf _ _).trans (QcQ _ _ _))) (eqsz (n := 32) ((Qaf _ _).trans (List.length_replicate (n := 32))) ((Qaf _ _).trans (QcQ _ _ _))) (Qa0 _ _)) fun W2 p2 r301_2 => ?_
  have x2 : Ext W W2 := Puts.ext p2 x1 b301
  refine QeN ?_
  have y0_1 : Ext W W1 := (Rely.Ext.trans (Rely.Ext.refl W) e1)
  have y0_2 : Ext W W2 := (Puts.ext p2 y0_1 l301)
  exact hK _ _ l301 y0_2 r301_2
 ·skip
  obtain ⟨⟨q5, q8, q9, qO, hpl, hsz⟩, xx⟩ := hI
  have n105 : g10 ≠ g4 := by have h1 := Qar r4_7; omega
  have n108 : g10 ≠ g9 := by have h1 := Qar r9_7; omega
  have n109 : g10 ≠ g11 := by have h1 := Qar r11_7; omega
  have n10O : g10 ≠ g8 := by have h1 := Qar r8_7; omega
  have hl1 : (pre ++ [x]).length = pre.length + 1 := by simp
  have htl := QcQ key info x
  refine wpIn_block ?_
  refine wpIn_seq_k fun K506 hK506 => ?_
  refine Qgo (QbU g8 (Obj.cells (ints .u8 (FF key info n pre)) 5) (Obj.cells (ints .u8 (FF key info n (pre ++ [x]))) 5)) (QbU.refl _ _ _) (fun h k => QbU.trans h k) 6 [⟨none, [(9, none)]⟩, ⟨none, [(8, none)]⟩, ⟨none, [(9, none)]⟩, ⟨none, [(25, some 1), (26, some 2)]⟩, ⟨none, [(10, none)]⟩, ⟨none, [(27, some 3), (28, some 4)]⟩] (Qb0 l 1 _) rfl kj kj fun F hF => ?_
  refine Qgv (QbU.refl _ _ _) (.int .i64 ((32 * pre.length : Nat) : Int)) kj kj (fun W hR => (Qal 3 _ g11 0 3 _ (.int .i64 ((32 * pre.length : Nat) : Int)) _ (ExtB.row hR.1 (Qad q9 (Qa2 _)) nb9O) rfl kj kj kj)) ?_
  refine Qgv (QbU.refl _ _ _) (.slice (some ⟨g8, 0, none⟩) n n) kj kj (fun W hR => (Qal 38 _ g9 0 38 _ (.slice (some ⟨g8, 0, none⟩) n n) _ (ExtB.row hR.1 (Qad q8 (Qa2 _)) nb8O) rfl kj kj kj)) ?_
  refine Qgv (QbU.refl _ _ _) (.int .i64 ((32 * pre.length : Nat) : Int)) kj kj (fun W hR => (Qal 3 _ g11 0 3 _ (.int .i64 ((32 * pre.length : Nat) : Int)) _ (ExtB.row hR.1 (Qad q9 (Qa2 _)) nb9O) rfl kj kj kj)) ?_
  refine Qgv (QbU.refl _ _ _) (.slice (some ⟨g8, (if n = 32 * pre.length then 0 else 32 * pre.length), none⟩) (n - 32 * pre.length) (n - 32 * pre.length)) kj kj (fun W hR => QfZ 38 _ _ (32 * pre.length) g8 n n 5 rfl kj kj kj .i64 kj (by omega) (Nat.le_refl _)) ?_
  refine Qgv (QbU.refl _ _ _) (.slice (some ⟨g10, 0, none⟩) 32 32) kj kj (fun W hR => by kernel_rfl) ?_
  refine QjB (fun u W => u = .int .i64 (((min 32 (n - 32 * pre.length)) : Nat) : Int) ∧ W.heap[g8]? = some (Obj.cells (ints .u8 (FF key info n (pre ++ [x]))) 5)) (QbU.stable _ _ _ _) kj kj (fun W hR => ?_) ?_
  ·have hsrc : RdK .u8 W.heap.size (tg key info (x + 1)) (.slice (some ⟨g10, 0, none⟩) 32 32) W := Qb5 (QcQ _ _ _) (ExtB.row hR.1 (Qad r10 (Qa2 _)) n10O) (Qar (ExtB.row hR.1 (Qad r10 (Qa2 _)) n10O)) (by decide)
   have hoff : (if n = 32 * pre.length then 0 else 32 * pre.length) + (n - 32 * pre.length) ≤ n := by split <;> omega
   rcases hR.row (Qad qO (Qa2 _)) with hX | hY
   ·exact Qfx (Qe5 (k := .u8) (e := 5) (.tmp 27) (.tmp 28) 38 38 (by rfl) kj kj (off := (if n = 32 * pre.length then 0 else 32 * pre.length)) (dl := n - 32 * pre.length) (dc := n - 32 * pre.length) (n := (min 32 (n - 32 * pre.length))) (xs := FF key info n pre) kj kj hsrc hX (by rw [Qho]; exact hoff) (by rw [QcQ]) (Qhh key info n pre x hpl))
   ·exact Qfx (Qe5 (k := .u8) (e := 5) (.tmp 27) (.tmp 28) 38 38 (by rfl) kj kj (off := (if n = 32 * pre.length then 0 else 32 * pre.length)) (dl := n - 32 * pre.length) (dc := n - 32 * pre.length) (n := (min 32 (n - 32 * pre.length))) (xs := FF key info n (pre ++ [x])) kj kj hsrc hY (by rw [Qho]; exact hoff) (by rw [QcQ]) (QhR key info n pre x hpl))
  refine QhT (hF _ fun W1 hR => ?_)
  simp only [List.nil_append, List.cons_append, List.take_succ_cons, List.take_zero, List.drop_succ_cons, List.drop_zero, finE, up]
  rintro v29 ⟨rfl, rO_1⟩
  clear hF
  have q1 : ExtB g8 W W1 := ExtB.trans (ExtB.ext (ExtB.refl _ _) (Qa2 _)) hR.1
  have x1 : Ext w W1 := ExtB.up xx q1 b8
  refine Qdk (.int .i64 (((32 * pre.length) + (min 32 (n - 32 * pre.length)) : Nat) : Int)) 30 rfl (Qb0 l 1 _) rfl kj (Qah (u := .int .i64 (IntKind.i64.wrap (((32 * pre.length : Nat) : Int) + (((min 32 (n - 32 * pre.length)) : Nat) : Int)))) kj (congrArg (Value.int .i64) (i64n _ _ (by omega) (by omega)))) ?_
  have r503_1 := (ExtB.row q1 q9 nb9O)
  refine QfA g11 _ (#[.int .i64 (((32 * pre.length) + (min 32 (n - 32 * pre.length)) : Nat) : Int)]) 3 r503_1 rfl (Qb0 l 1 _) rfl kj (Qbk 3 _ _ g11 0 3 _ (.int .i64 (((32 * pre.length) + (min 32 (n - 32 * pre.length)) : Nat) : Int)) r503_1 rfl kj kj kj kj kj rfl) fun W2 p2 r503_2 => ?_
  have x2 : Ext w W2 := Puts.ext p2 x1 b11
  refine QeN ?_
  refine hK506 _ _ ?_
  refine wpIn_seq_k fun K507 hK507 => ?_
  refine Qcp ?_
  refine Qdk (.int .i64 (((32 * pre.length) + (min 32 (n - 32 * pre.length)) : Nat) : Int)) 31 rfl (Qb0 l 1 _) rfl kj (Qal 3 _ g11 0 3 _ (.int .i64 (((32 * pre.length) + (min 32 (n - 32 * pre.length)) : Nat) : Int)) _ r503_2 rfl kj kj kj) ?_
  have r501_1 := (ExtB.row q1 q5 nb5O)
  have r501_2 := (Puts.row p2 r501_1 nb59)
  refine Qdk (.int .i64 ((n : Nat) : Int)) 32 rfl (Qb0 l 1 _) rfl kj (Qal 3 _ g4 0 3 _ (.int .i64 ((n : Nat) : Int)) _ r501_2 rfl kj kj kj) ?_
  refine Qdk (.bool (((((32 * pre.length) + (min 32 (n - 32 * pre.length)) : Nat) : Int) == ((n : Nat) : Int)))) 33 rfl (Qb0 l 1 _) rfl kj kj ?_
  refine QeN ?_
  refine hK507 _ _ ?_
  refine Qeq (t := ((((32 * pre.length) + (min 32 (n - 32 * pre.length)) : Nat) : Int) == ((n : Nat) : Int))) kj (fun c508 => ?_) (fun c508 => ?_)
  ·skip
   have hm : 32 * pre.length + min 32 (n - 32 * pre.length) = n ∨ 32 * pre.length + min 32 (n - 32 * pre.length) ≠ n := by omega
   have hge : n ≤ 32 * (pre.length + 1) := by have := eq_of_beq c508; omega
   refine wpIn_exit ?_
   repeat (first | with_reducible refine goX1 ?_ | with_reducible refine goXo (by decide) ?_)
   have r502_1 := (ExtB.row q1 q8 nb8O)
   have r502_2 := (Puts.row p2 r502_1 nb89)
   have r504_2 := (Puts.row p2 rO_1 nbO9)
   exact ⟨((QeJ q1 qO).trans (QdV p2 r503_1)), ⟨rfl, by rw [hl1]; exact hge, r501_2, r502_2, r504_2⟩, x2⟩
  ·skip
   have hm : 32 * pre.length + min 32 (n - 32 * pre.length) = n ∨ 32 * pre.length + min 32 (n - 32 * pre.length) ≠ n := by omega
   have hlt : 32 * (pre.length + 1) < n := by
    have h := c508
    apply Decidable.byContradiction
    intro hc2
    have e : ((32 * pre.length + min 32 (n - 32 * pre.length) : Nat) : Int) = ((n : Nat) : Int) := by omega
    rw [e, beq_self_eq_true] at h
    exact absurd h (by decide)
   refine wpIn_skip ?_
   repeat (first | with_reducible refine goX1 ?_ | with_reducible refine goX2 ?_ | with_reducible refine goX3 ?_)
   have r502_1 := (ExtB.row q1 q8 nb8O)
   have r502_2 := (Puts.row p2 r502_1 nb89)
   have r504_2 := (Puts.row p2 rO_1 nbO9)
   exact ⟨((QeJ q1 qO).trans (QdV p2 r503_1)), (Qbl.trans (QgR q1 (by simp)) (Qgn p2 (by simp))), ⟨r501_2, r502_2, by rw [hl1, show 32 * (pre.length + 1) = 32 * pre.length + min 32 (n - 32 * pre.length) by omega]; exact r503_2, r504_2, .inr (by rw [hl1]; exact hlt), Nat.le_trans hsz (Nat.le_trans (Nat.le_trans (Nat.le_refl _) q1.2.2.2.1) (Nat.le_of_eq p2.2.2.2.1.symm))⟩, x2⟩
 ·exfalso
  obtain ⟨⟨-, -, -, -, hpl, -⟩, -⟩ := hI
  subst hS
  rw [List.length_range] at hpl
  omega
 ·obtain ⟨⟨rfl, hge, q5, q8, qO⟩, xx⟩ := hIx
  obtain ⟨kR, rfl, -⟩ := hSp
  rw [List.length_range] at hge
  rw [QiS key info n kR hge] at qO
  have bD : w.heap.size ≤ D := Nat.le_trans x7.size lD
  refine wp_exit ?_
  refine hK13 _ _ ?_
  refine wp_seq_k fun K17 hK17 => ?_
  refine Qab ?_
  refine Qaa (.slice (some ⟨g8, 0, none⟩) n n) 34 rfl kj (Qal 38 _ g9 0 38 _ (.slice (some ⟨g8, 0, none⟩) n n) _ q8 rfl kj kj kj) ?_
  refine Qaa (.slice (some ⟨g8, 0, none⟩) n n) 6 rfl kj kj ?_
  refine Qaa (.nilIface) 7 rfl kj kj ?_
  refine Qac ?_
  refine hK17 _ _ ?_
  refine wp_ret ?_
  repeat (first | with_reducible refine goR1 ?_ | with_reducible refine goR2 ?_)
  exact (show bodyPostM _ _ _ _ _ .ret _ _ from QjP (.slice (some ⟨g8, 0, none⟩) n n) (.nilIface) rfl rD (Qa9 kj) (Qa9 kj) ⟨_, rfl, Qh6 xx bD rD _, _, kR, rfl, hge, Qdt (QhC key info n kR hge) b8 (Qh5 qO rD _) (by simp only [maxLen]; omega)⟩)
end Go.Proofs.YtibegnjaphohaaaDoor.Sha
end
section
namespace Go.Proofs.YtibegnjaphohaaaDoor.Sha
open Go Go.RowKit
open Rely Auto Own
set_option linter.unusedVariables false
set_option linter.unusedSimpArgs false
def kx (key info : List Int) (n : Nat) : List Int := (okm key info n).take n
theorem Qfc (key info : List Int) (n : Nat) : ∀ (k d : Nat), n ≤ 32 * k → (okm key info (k + d)).take n = (okm key info k).take n
  | k, 0, _ => rfl
  | k, d + 1, h => by
    rw [show k + (d + 1) = (k + d) + 1 by omega, okm, List.take_append_of_le_length (by rw [Qfd]; omega), Qfc key info n k d h]
theorem QjV (key info : List Int) (n k : Nat) (h : n ≤ 32 * k) : (okm key info k).take n = kx key info n := by
  unfold kx
  rcases Nat.le_total k n with h1 | h1
  · obtain ⟨d, rfl⟩ : ∃ d, n = k + d := ⟨n - k, by omega⟩
    exact (Qfc key info _ k d h).symm
  · obtain ⟨d, rfl⟩ : ∃ d, k = n + d := ⟨k - n, by omega⟩
    exact Qfc key info _ n d (by omega)
theorem QbK (key info : List Int) (n : Nat) : (kx key info n).length = n := by unfold kx; rw [List.length_take, Qfd]; omega
theorem QeC (key info : List Int) : ∀ k, Qao (okm key info k)
  | 0 => fun x hx => by cases hx
  | k + 1 => QcO (QeC key info k) (Qfo key info (k + 1))
theorem Qf7 (key info : List Int) (n : Nat) : Qao (kx key info n) := fun x hx => QeC key info n x (List.mem_of_mem_take hx)
theorem QhI (key info : List Int) (v1 v2 : Value) (B B2 n : Nat) (tc tq : TypeId) (w : World) (hc : w.heap[2]? = some (.cells (ints .u64 QaD) tc)) (hq : w.heap[1]? = some (.cells (ints .u64 Qam) tq)) (hn : n ≤ 8160) (hkl : key.length ≤ 800000000) (hil : info.length ≤ 700000000) (hkb : Qao key) (hib : Qao info) (hk : RdK .u8 B key v1 w) (hi : RdK .u8 B2 info v2 w) :
    Calls Tryd.prog 59 #[v1, v2, .int .i64 ((n : Nat) : Int)] w (Qce w (fun v W => ∃ u, v = .tuple #[u, .nilIface] ∧ OwnN .u8 5 w.heap.size (kx key info n) u W)) :=
  (QhJ key info v1 v2 B B2 n tc tq w hc hq hn hkl hil hkb hib hk hi).mono fun e W' ⟨v, h1, h2, u, k, h3, h4, h5⟩ => ⟨v, h1, h2, u, h3, QjV key info n k h4 ▸ h5⟩
end Go.Proofs.YtibegnjaphohaaaDoor.Sha
end
section
namespace Go.Proofs.YtibegnjaphohaaaDoor.Sha
open Go Go.RowKit
open Rely Auto Own
set_option linter.unusedVariables false
set_option linter.unusedSimpArgs false
section
variable {P : Program} {ρ : Operand → Value} {o : Oper} {w : World}
theorem QgB {k : IntKind} (t : TypeId) (x y : Operand) (kl kc : IntKind) (n : Nat) (e : TypeId) (ho : o.op = .makeSlice t x y) (hx : ρ x = .int kl 0) (hy : ρ y = .int kc n)
    (hu : P.underlying t = some (.slice e)) (hi : (P.info? e).map (fun i => (i.zero, i.size, i.bytes)) = some (some (.int k 0), 1, 1)) (hn : n ≤ 1000000000) :
    (execOp ρ o).run P w = .ok (.value (.slice (some ⟨w.heap.size, 0, none⟩) 0 n)) (w.alloc (.cells (ints k (List.replicate n 0)) e)) := by
  cases hq : P.info? e with
  | none => simp [hq] at hi
  | some i =>
    have hz : i.zero = some (.int k 0) ∧ i.size = 1 ∧ i.bytes = 1 := by simpa [hq] using hi
    have hb : (i.bytes : Int) * (n : Int) ≤ 281474976710656 := by rw [hz.2.2]; omega
    have h := run_make w t e i (.int k 0) hu hq hz.1 kl kc 0 (n : Int) (by omega) (by omega) hb (by omega)
    rw [hz.2.1, Int.toNat_natCast, QeH] at h
    unfold execOp
    simp only [ho, hx, hy, Sem.run_bind, Sem.run_pure, h, Result.andThen_ok]
    rfl
end
section
variable {ds : List Deferred} {P : Program} {ops : Array Oper} {Q : Exit → Act → World → Prop} {rest : List Oper} {o : Oper} {N : Nat} {L : Env} {w : World}
theorem Qg8 (cs : Array Value) (T : TypeId) (n d : Nat) (hd : o.dst = some d) (hg : QaZ ops o N L = some true) (h : (execOp (Rely.look (envN N L)) o).run P w = .ok (.value (.slice (some ⟨w.heap.size, 0, none⟩) 0 n)) (w.alloc (.cells cs T)))
    (k : ∀ (g : Nat) (W : World), w.heap.size ≤ g → Ext w W → W.heap[g]? = some (.cells cs T) → WL P ops Q rest (Qaq ds N ((d, .slice (some ⟨g, 0, none⟩) 0 n) :: L)) W) : WL P ops Q (o :: rest) (Qaq ds N L) w :=
  Qbe _ _ d hd hg h (k _ _ (Nat.le_refl _) (Qbu _ _) (heap_alloc_new _ _))
end
def strB (s : ByteArray) : List Int := s.data.toList.map fun b => (b.toNat : Int)
theorem QbH (s : ByteArray) : (strB s).length = s.size := by unfold strB; rw [List.length_map, Array.length_toList]; rfl
theorem QfU (s : ByteArray) : Qao (strB s) := fun x hx => by
  unfold strB at hx
  obtain ⟨b, -, rfl⟩ := List.mem_map.1 hx
  have := b.toNat_lt
  omega
theorem QfT (s : ByteArray) : Lib.strCells s = (strB s).map (Value.int .u8) := by unfold Lib.strCells strB; rw [List.map_map]; rfl
theorem Qib {P : Program} {T : TypeId} {ρ : Operand → Value} {o : Oper} {W : World} (s x : Operand) (t u : TypeId) (ho : o.op = .call { callee := .builtin .append, args := #[s, x], argTypes := #[t, u] })
    (ht : P.underlying t = some (.slice T)) (hu : P.underlying u = some .string) (hi : (P.info? T).map (fun i => (i.zero, i.size, i.bytes)) = some (some (.int .u8 0), 1, 1)) {base : Nat} {v : Value} {xs : List Int} {lab : ByteArray} (hs : ρ s = v) (hx : ρ x = .string lab)
    (h : OwnN .u8 T base xs v W) (hn : xs.length + (strB lab).length ≤ 1000000000) (hbase : base ≤ W.heap.size) :
    ∃ v' W', (execOp ρ o).run P W = .ok (.value v') W' ∧ OwnN .u8 T base (xs ++ strB lab) v' W' ∧ W.grownBy W' v.ownBlock := by
  obtain ⟨i, hq, hi1, hi2, hi3⟩ := Qjt hi
  rw [QbH] at hn
  obtain ⟨v', W', hr, h2, h3, _⟩ := Lib.run_append_own_string (P := P) W base t u o.type T i ht hu hq hi1 hi2 hi3 v xs.length (xs.map (Value.int .u8)) h.1 lab (by simp only [maxLen]; omega) (by omega) hbase
  refine ⟨v', W', ?_, ⟨?_, by rw [List.length_append, QbH]; simp only [maxLen]; omega⟩, h3⟩
  · unfold execOp
    simp only [ho, resolve, invoke, builtin, Sem.run_bind, Sem.run_pure, Result.andThen_ok, List.map_toArray, List.map_cons, List.map_nil, hs, hx, hr]
  · rw [List.length_append, List.map_append, QbH, ← QfT]; exact h2
section
variable {ds : List Deferred} {P : Program} {ops : Array Oper} {Q : Exit → Act → World → Prop} {rest : List Oper} {o : Oper} {N : Nat} {L : Env} {W : World}
theorem QeW {T : TypeId} (s x : Operand) (t u : TypeId) (ho : o.op = .call { callee := .builtin .append, args := #[s, x], argTypes := #[t, u] })
    (ht : P.underlying t = some (.slice T)) (hu : P.underlying u = some .string) (hi : (P.info? T).map (fun i => (i.zero, i.size, i.bytes)) = some (some (.int .u8 0), 1, 1)) (d : Nat) (hd : o.dst = some d) (hg : QaZ ops o N L = some true) {v : Value} {xs : List Int} {lab : ByteArray} {V : World}
    (hs : Rely.look (envN N L) s = v) (hx : Rely.look (envN N L) x = .string lab)
    (h : OwnN .u8 T V.heap.size xs v W) (hn : xs.length + (strB lab).length ≤ 1000000000) (hV : Ext V W)
    (kk : ∀ (z : Value) (W' : World), OwnN .u8 T V.heap.size (xs ++ strB lab) z W' → Ext V W' → Below V.heap.size W W' → WL P ops Q rest (Qaq ds N ((d, z) :: L)) W') : WL P ops Q (o :: rest) (Qaq ds N L) W := by
  obtain ⟨v', W', h1, h2, h3⟩ := Qib (ρ := Rely.look (envN N L)) (o := o) (W := W) s x t u ho ht hu hi hs hx h hn hV.size
  exact Qbe _ _ d hd hg h1 (kk v' W' h2 (Qhi hV h h3) ⟨h3.os, h3.tape, h3.output, h3.size, fun i hi => h3.block i (Nat.lt_of_lt_of_le hi hV.size) (fun q => by have := h.ge q.symm; omega)⟩)
end
theorem shrN (a : Nat) (s : Int) (c : Nat) (h : (2 : Int) ^ min s.toNat IntKind.i64.bits = (c : Int)) : ((a : Nat) : Int).fdiv (2 ^ min s.toNat IntKind.i64.bits) = ((a / c : Nat) : Int) := by
  rw [h, Int.fdiv_eq_ediv_of_nonneg _ (by omega)]; exact (Int.natCast_ediv a c).symm
theorem Qfj (a b : Nat) (h : a % 256 = b) : IntKind.u8.wrap ((a : Nat) : Int) = ((b : Nat) : Int) := by rw [QiP, h]
def Qdb (lab : List Int) (n : Nat) : List Int := [((n / 256 : Nat) : Int), ((n % 256 : Nat) : Int), ((lab.length : Nat) : Int)]
def QeM (c : Nat) : List Int := [((c / 16777216 : Nat) : Int), ((c / 65536 % 256 : Nat) : Int), ((c / 256 % 256 : Nat) : Int), ((c % 256 : Nat) : Int)]
def Qbx (lab ctx : List Int) (n : Nat) : List Int := Qdb lab n ++ lab ++ QeM ctx.length ++ ctx
theorem QgV (lab ctx : List Int) (n : Nat) : (Qbx lab ctx n).length = lab.length + ctx.length + 7 := by
  unfold Qbx Qdb QeM
  simp only [List.length_append, List.length_cons, List.length_nil]; omega
theorem Qff (lab ctx : List Int) (n : Nat) (hl : Qao lab) (hc : Qao ctx) (h1 : lab.length ≤ 255) (h2 : ctx.length ≤ 65536) (h3 : n ≤ 8160) : Qao (Qbx lab ctx n) := by
  unfold Qbx Qdb QeM
  refine QcO (QcO (QcO ?_ hl) ?_) hc
  · intro x hx
    simp only [List.mem_cons, List.not_mem_nil, or_false] at hx
    omega
  · intro x hx
    simp only [List.mem_cons, List.not_mem_nil, or_false] at hx
    omega
set_option maxHeartbeats 4000000 in
theorem Qi9 (sec ctx : List Int) (s : ByteArray) (v2 : Value) (B2 : Nat) (tc tq : TypeId) (w : World) (hc : w.heap[2]? = some (.cells (ints .u64 QaD) tc)) (hq : w.heap[1]? = some (.cells (ints .u64 Qam) tq)) (hsl : sec.length = 32) (hsb : Qao sec) (hxb : Qao ctx) (hx : RdK .u8 B2 ctx v2 w) (n : Int) (h0 : 0 ≤ n) (h1 : n ≤ 8160) (h : 255 < (strB s).length) : Calls Tryd.prog 51 #[.agg (ints .u8 sec), .string s, v2, .int .i64 n] w (Ret w (.tuple #[.slice none 0 0, .iface 47 (.int .i64 4)])) := by
  obtain ⟨a_ctx, c_ctx, rfl, -⟩ := id hx
  refine enter 75 [(0, .agg (ints .u8 (sec))), (1, .string s), (2, .slice a_ctx ctx.length c_ctx), (3, .int .i64 n)] Tryd.func51 rfl rfl (by kernel_rfl) rfl ?_
  refine wp_seq_k fun K3 hK3 => ?_
  refine Qab ?_
  refine Qas (ints .u8 (sec)) 23 4 rfl (by kernel_rfl) (by kernel_rfl) fun g4 W1 l4 e1 r4_1 => ?_
  have x1 : Ext w W1 := Ext.tr (Rely.Ext.refl w) e1
  have b4 : w.heap.size ≤ g4 := Nat.le_trans (Rely.Ext.refl w).size l4
  refine Qaa (.slice none 0 0) 8 rfl (by kernel_rfl) (by kernel_rfl) ?_
  refine Qaa (.nilIface) 9 rfl (by kernel_rfl) (by kernel_rfl) ?_
  refine Qac ?_
  refine hK3 _ _ ?_
  refine wp_seq_k fun K5 hK5 => ?_
  refine wp_seq_k fun K6 hK6 => ?_
  refine Qab ?_
  refine Qaa (.int .i64 n) 12 rfl (by kernel_rfl) (by kernel_rfl) ?_
  refine Qaa (.bool false) 13 rfl (by kernel_rfl) (Qah (u := .bool (decide (n < 0))) (by kernel_rfl) (congrArg Value.bool (decide_eq_false (by omega)))) ?_
  refine Qaa (.bool false) 14 rfl (by kernel_rfl) (by kernel_rfl) ?_
  refine Qaa (.int .i64 n) 15 rfl (by kernel_rfl) (by kernel_rfl) ?_
  refine Qaa (.bool false) 16 rfl (by kernel_rfl) (Qah (u := .bool (decide (n > 8160))) (by kernel_rfl) (congrArg Value.bool (decide_eq_false (by omega)))) ?_
  refine Qaa (.bool false) 17 rfl (by kernel_rfl) (by kernel_rfl) ?_
  refine Qaa (.bool false) 18 rfl (by kernel_rfl) (by kernel_rfl) ?_
  refine Qaa (.string s) 19 rfl (by kernel_rfl) (by kernel_rfl) ?_
  refine Qaa (.int .i64 (((strB s).length : Nat) : Int)) 20 rfl (by kernel_rfl) (Qah (u := .int .i64 ((s.size : Nat) : Int)) (by kernel_rfl) (congrArg (fun z : Nat => Value.int .i64 (z : Int)) (QbH s).symm)) ?_
  refine Qaa (.bool true) 21 rfl (by kernel_rfl) (Qah (u := .bool (decide ((((strB s).length : Nat) : Int) > 255))) (by kernel_rfl) (congrArg Value.bool (decide_eq_true (by omega)))) ?_
  refine Qaa (.bool true) 22 rfl (by kernel_rfl) (by kernel_rfl) ?_
  refine Qaa (.bool true) 23 rfl (by kernel_rfl) (by kernel_rfl) ?_
  refine Qax 24 rfl (by kernel_rfl) ?_
  refine Qax 25 rfl (by kernel_rfl) ?_
  refine Qax 26 rfl (by kernel_rfl) ?_
  refine Qaa (.bool true) 27 rfl (by kernel_rfl) (by kernel_rfl) ?_
  refine Qac ?_
  refine hK6 _ _ ?_
  refine cond_true (by kernel_rfl) ?_
  refine wp_seq_k fun K7 hK7 => ?_
  refine Qab ?_
  refine Qaa (.iface 47 (.int .i64 4)) 28 rfl (by kernel_rfl) (by kernel_rfl) ?_
  refine Qaa (.slice none 0 0) 8 rfl (by kernel_rfl) (by kernel_rfl) ?_
  refine Qaa (.iface 47 (.int .i64 4)) 9 rfl (by kernel_rfl) (by kernel_rfl) ?_
  refine Qac ?_
  refine hK7 _ _ ?_
  refine wp_ret ?_
  repeat (first | with_reducible refine goR1 ?_ | with_reducible refine goR2 ?_)
  exact (show bodyPost _ _ _ .ret _ _ from ret2 (.slice none 0 0) (.iface 47 (.int .i64 4)) rfl (Qa9 (by kernel_rfl)) (Qa9 (by kernel_rfl)) ⟨rfl, x1⟩)
set_option maxHeartbeats 4000000 in
theorem Qin (sec ctx : List Int) (s : ByteArray) (v2 : Value) (B2 : Nat) (tc tq : TypeId) (w : World) (hc : w.heap[2]? = some (.cells (ints .u64 QaD) tc)) (hq : w.heap[1]? = some (.cells (ints .u64 Qam) tq)) (hsl : sec.length = 32) (hsb : Qao sec) (hxb : Qao ctx) (hx : RdK .u8 B2 ctx v2 w) (n : Nat) (hn : n ≤ 8160) (hl : (strB s).length ≤ 255) (hc2 : ctx.length ≤ 65536) : Calls Tryd.prog 51 #[.agg (ints .u8 sec), .string s, v2, .int .i64 ((n : Nat) : Int)] w (Qce w (fun v W => ∃ u, v = .tuple #[u, .nilIface] ∧ OwnN .u8 5 w.heap.size (kx sec (Qbx (strB s) ctx n) n) u W)) := by
  obtain ⟨a_ctx, c_ctx, rfl, -⟩ := id hx
  refine enter 75 [(0, .agg (ints .u8 (sec))), (1, .string s), (2, .slice a_ctx ctx.length c_ctx), (3, .int .i64 ((n : Nat) : Int))] Tryd.func51 rfl rfl (by kernel_rfl) rfl ?_
  refine wp_seq_k fun K3 hK3 => ?_
  refine Qab ?_
  refine Qas (ints .u8 (sec)) 23 4 rfl (by kernel_rfl) (by kernel_rfl) fun g4 W1 l4 e1 r4_1 => ?_
  have x1 : Ext w W1 := Ext.tr (Rely.Ext.refl w) e1
  have b4 : w.heap.size ≤ g4 := Nat.le_trans (Rely.Ext.refl w).size l4
  refine Qaa (.slice none 0 0) 8 rfl (by kernel_rfl) (by kernel_rfl) ?_
  refine Qaa (.nilIface) 9 rfl (by kernel_rfl) (by kernel_rfl) ?_
  refine Qac ?_
  refine hK3 _ _ ?_
  refine wp_seq_k fun K5 hK5 => ?_
  refine wp_seq_k fun K6 hK6 => ?_
  refine Qab ?_
  refine Qaa (.int .i64 ((n : Nat) : Int)) 12 rfl (by kernel_rfl) (by kernel_rfl) ?_
  refine Qaa (.bool false) 13 rfl (by kernel_rfl) (Qah (u := .bool (decide (((n : Nat) : Int) < 0))) (by kernel_rfl) (congrArg Value.bool (decide_eq_false (by omega)))) ?_
  refine Qaa (.bool false) 14 rfl (by kernel_rfl) (by kernel_rfl) ?_
  refine Qaa (.int .i64 ((n : Nat) : Int)) 15 rfl (by kernel_rfl) (by kernel_rfl) ?_
  refine Qaa (.bool false) 16 rfl (by kernel_rfl) (Qah (u := .bool (decide (((n : Nat) : Int) > 8160))) (by kernel_rfl) (congrArg Value.bool (decide_eq_false (by omega)))) ?_
  refine Qaa (.bool false) 17 rfl (by kernel_rfl) (by kernel_rfl) ?_
  refine Qaa (.bool false) 18 rfl (by kernel_rfl) (by kernel_rfl) ?_
  refine Qaa (.string s) 19 rfl (by kernel_rfl) (by kernel_rfl) ?_
  refine Qaa (.int .i64 (((strB s).length : Nat) : Int)) 20 rfl (by kernel_rfl) (Qah (u := .int .i64 ((s.size : Nat) : Int)) (by kernel_rfl) (congrArg (fun z : Nat => Value.int .i64 (z : Int)) (QbH s).symm)) ?_
  refine Qaa (.bool false) 21 rfl (by kernel_rfl) (Qah (u := .bool (decide ((((strB s).length : Nat) : Int) > 255))) (by kernel_rfl) (congrArg Value.bool (decide_eq_false (by omega)))) ?_
  refine Qaa (.bool false) 22 rfl (by kernel_rfl) (by kernel_rfl) ?_
  refine Qaa (.bool false) 23 rfl (by kernel_rfl) (by kernel_rfl) ?_
  refine Qaa (.slice a_ctx ctx.length c_ctx) 24 rfl (by kernel_rfl) (by kernel_rfl) ?_
  refine Qaa (.int .i64 ((ctx.length : Nat) : Int)) 25 rfl (by kernel_rfl) (by kernel_rfl) ?_
  refine Qaa (.bool false) 26 rfl (by kernel_rfl) (Qah (u := .bool (decide (((ctx.length : Nat) : Int) > 65536))) (by kernel_rfl) (congrArg Value.bool (decide_eq_false (by omega)))) ?_
  refine Qaa (.bool false) 27 rfl (by kernel_rfl) (by kernel_rfl) ?_
  refine Qac ?_
  refine hK6 _ _ ?_
  refine cond_false (by kernel_rfl) ?_
  refine wp_skip ?_
  refine hK5 _ _ ?_
  refine wp_seq_k fun K7 hK7 => ?_
  refine Qab ?_
  refine Qaa (.string s) 29 rfl (by kernel_rfl) (by kernel_rfl) ?_
  refine Qaa (.int .i64 (((strB s).length : Nat) : Int)) 30 rfl (by kernel_rfl) (Qah (u := .int .i64 ((s.size : Nat) : Int)) (by kernel_rfl) (congrArg (fun z : Nat => Value.int .i64 (z : Int)) (QbH s).symm)) ?_
  refine Qaa (.int .i64 ((7 + ((strB s).length) : Nat) : Int)) 31 rfl (by kernel_rfl) (Qah (u := .int .i64 (IntKind.i64.wrap (7 + (((strB s).length : Nat) : Int)))) (by kernel_rfl) (congrArg (Value.int .i64) (i64n _ _ (by omega) (by omega)))) ?_
  refine Qaa (.slice a_ctx ctx.length c_ctx) 32 rfl (by kernel_rfl) (by kernel_rfl) ?_
  refine Qaa (.int .i64 ((ctx.length : Nat) : Int)) 33 rfl (by kernel_rfl) (by kernel_rfl) ?_
  refine Qaa (.int .i64 (((7 + ((strB s).length)) + ctx.length : Nat) : Int)) 34 rfl (by kernel_rfl) (Qah (u := .int .i64 (IntKind.i64.wrap (((7 + ((strB s).length) : Nat) : Int) + ((ctx.length : Nat) : Int)))) (by kernel_rfl) (congrArg (Value.int .i64) (i64n _ _ (by omega) (by omega)))) ?_
  refine Qg8 (ints .u8 (List.replicate (7 + (strB s).length + ctx.length) 0)) 5 (7 + (strB s).length + ctx.length) 35 rfl (by kernel_rfl) (QgB 38 _ _ .i64 .i64 (7 + (strB s).length + ctx.length) 5 rfl (by kernel_rfl) (by kernel_rfl) (by kernel_rfl) (by kernel_rfl) (by omega)) fun g8 W2 l8 e2 r8_2 => ?_
  have x2 : Ext w W2 := Ext.tr x1 e2
  have b8 : w.heap.size ≤ g8 := Nat.le_trans x1.size l8
  have hz0 : OwnN .u8 5 W1.heap.size [] (.slice (some ⟨g8, 0, none⟩) 0 (7 + (strB s).length + ctx.length)) W2 := Qi0 (n := 0) rfl l8 r8_2 (by rw [Qaf, List.length_replicate]) (Nat.zero_le _) (by simp only [maxLen]; omega) rfl
  refine Qaa (.slice (some ⟨g8, 0, none⟩) 0 (7 + (strB s).length + ctx.length)) 10 rfl (by kernel_rfl) (by kernel_rfl) ?_
  refine Qac ?_
  refine hK7 _ _ ?_
  refine wp_seq_k fun K9 hK9 => ?_
  refine Qab ?_
  refine Qaa (.slice (some ⟨g8, 0, none⟩) 0 (7 + (strB s).length + ctx.length)) 36 rfl (by kernel_rfl) (by kernel_rfl) ?_
  refine Qaa (.int .i64 ((n : Nat) : Int)) 37 rfl (by kernel_rfl) (by kernel_rfl) ?_
  refine Qaa (.int .i64 (((n / 256 : Nat) : Int))) 38 rfl (by kernel_rfl) (Qa1 .shr _ _ _ _ .i64 .u64 _ _ _ rfl (by kernel_rfl) (by kernel_rfl) (QaO _ _ _ _ _ _ (by decide) (shrN n 8 256 (by decide)))) ?_
  refine Qaa (.int .u8 (((n / 256 : Nat) : Int))) 39 rfl (by kernel_rfl) (Qah (u := .int .u8 (IntKind.u8.wrap (((n / 256 : Nat) : Int)))) (by kernel_rfl) (congrArg (Value.int .u8) (Qfj (n / 256) (n / 256) (by omega)))) ?_
  refine Qaa (.int .i64 ((n : Nat) : Int)) 40 rfl (by kernel_rfl) (by kernel_rfl) ?_
  refine Qaa (.int .u8 (((n % 256 : Nat) : Int))) 41 rfl (by kernel_rfl) (Qah (u := .int .u8 (IntKind.u8.wrap ((n : Nat) : Int))) (by kernel_rfl) (congrArg (Value.int .u8) (Qfj (n) (n % 256) (by omega)))) ?_
  refine Qaa (.string s) 42 rfl (by kernel_rfl) (by kernel_rfl) ?_
  refine Qaa (.int .i64 (((strB s).length : Nat) : Int)) 43 rfl (by kernel_rfl) (Qah (u := .int .i64 ((s.size : Nat) : Int)) (by kernel_rfl) (congrArg (fun z : Nat => Value.int .i64 (z : Int)) (QbH s).symm)) ?_
  refine Qaa (.int .u8 ((((strB s).length : Nat) : Int))) 44 rfl (by kernel_rfl) (Qah (u := .int .u8 (IntKind.u8.wrap (((strB s).length : Nat) : Int))) (by kernel_rfl) (congrArg (Value.int .u8) (Qfj ((strB s).length) ((strB s).length) (by omega)))) ?_
  refine Qbp (ints .u8 ([(((n / 256 : Nat) : Int)), (((n % 256 : Nat) : Int)), ((((strB s).length : Nat) : Int))])) 5 3 45 rfl (by kernel_rfl) (by kernel_rfl) fun g10 W3 l10 e3 r10_3 => ?_
  have x3 : Ext w W3 := Ext.tr x2 e3
  have b10 : w.heap.size ≤ g10 := Nat.le_trans x2.size l10
  have f11_3 := (hz0.ext e3)
  have y1_2 : Ext W1 W2 := (Rely.Ext.trans (Rely.Ext.refl W1) e2)
  have y1_3 : Ext W1 W3 := (Rely.Ext.trans y1_2 e3)
  refine QbX (k := .u8) (T := 5) (xs := []) (ys := [(((n / 256 : Nat) : Int)), (((n % 256 : Nat) : Int)), ((((strB s).length : Nat) : Int))]) (V := W1) 1 (.tmp 36) (.tmp 45) 38 rfl (by kernel_rfl) (by kernel_rfl) (by decide) 46 rfl (by kernel_rfl) (by kernel_rfl) (by kernel_rfl) f11_3 (Qb5 (xs := [(((n / 256 : Nat) : Int)), (((n % 256 : Nat) : Int)), ((((strB s).length : Nat) : Int))]) (n := 3) rfl r10_3 (Qar r10_3) (show 3 ≤ maxLen from by decide)) (by have : (Qdb (strB s) n).length = 3 := rfl; have : (QeM ctx.length).length = 4 := rfl; simp only [List.length_append, List.length_cons, List.length_nil]; omega) y1_3 fun z1 W4 f12 y4 l4 => ?_
  have x4 : Ext w W4 := Ext.low x3 l4 x1.size
  have hu14 : OwnN .u8 5 W1.heap.size (Qdb (strB s) n) z1 W4 := f12
  refine Qaa (z1) 10 rfl (by kernel_rfl) (by kernel_rfl) ?_
  refine Qac ?_
  refine hK9 _ _ ?_
  refine wp_seq_k fun K15 hK15 => ?_
  refine Qab ?_
  refine Qaa (z1) 47 rfl (by kernel_rfl) (by kernel_rfl) ?_
  refine Qaa (.string s) 48 rfl (by kernel_rfl) (by kernel_rfl) ?_
  refine QeW (T := 5) (xs := Qdb (strB s) n) (lab := s) (V := W1) (.tmp 47) (.tmp 48) 38 9 rfl (by kernel_rfl) (by kernel_rfl) (by kernel_rfl) 49 rfl (by kernel_rfl) (by kernel_rfl) (by kernel_rfl) hu14 (by have : (Qdb (strB s) n).length = 3 := rfl; (try simp only [List.length_append, List.length_cons, List.length_nil]); omega) y4 fun z2 W5 f16 y5 l5 => ?_
  have x5 : Ext w W5 := Ext.low x4 l5 x1.size
  have hu17 : OwnN .u8 5 W1.heap.size (Qdb (strB s) n ++ strB s) z2 W5 := f16
  refine Qaa (z2) 10 rfl (by kernel_rfl) (by kernel_rfl) ?_
  refine Qac ?_
  refine hK15 _ _ ?_
  refine wp_seq_k fun K18 hK18 => ?_
  refine Qab ?_
  refine Qaa (.slice a_ctx ctx.length c_ctx) 50 rfl (by kernel_rfl) (by kernel_rfl) ?_
  refine Qaa (.int .i64 ((ctx.length : Nat) : Int)) 51 rfl (by kernel_rfl) (by kernel_rfl) ?_
  refine Qaa (.int .i64 ((ctx.length : Nat) : Int)) 11 rfl (by kernel_rfl) (by kernel_rfl) ?_
  refine Qac ?_
  refine hK18 _ _ ?_
  refine wp_seq_k fun K19 hK19 => ?_
  refine Qab ?_
  refine Qaa (z2) 52 rfl (by kernel_rfl) (by kernel_rfl) ?_
  refine Qaa (.int .i64 ((ctx.length : Nat) : Int)) 53 rfl (by kernel_rfl) (by kernel_rfl) ?_
  refine Qaa (.int .i64 (((ctx.length / 16777216 : Nat) : Int))) 54 rfl (by kernel_rfl) (Qa1 .shr _ _ _ _ .i64 .u64 _ _ _ rfl (by kernel_rfl) (by kernel_rfl) (QaO _ _ _ _ _ _ (by decide) (shrN ctx.length 24 16777216 (by decide)))) ?_
  refine Qaa (.int .u8 (((ctx.length / 16777216 : Nat) : Int))) 55 rfl (by kernel_rfl) (Qah (u := .int .u8 (IntKind.u8.wrap (((ctx.length / 16777216 : Nat) : Int)))) (by kernel_rfl) (congrArg (Value.int .u8) (Qfj (ctx.length / 16777216) (ctx.length / 16777216) (by omega)))) ?_
  refine Qaa (.int .i64 ((ctx.length : Nat) : Int)) 56 rfl (by kernel_rfl) (by kernel_rfl) ?_
  refine Qaa (.int .i64 (((ctx.length / 65536 : Nat) : Int))) 57 rfl (by kernel_rfl) (Qa1 .shr _ _ _ _ .i64 .u64 _ _ _ rfl (by kernel_rfl) (by kernel_rfl) (QaO _ _ _ _ _ _ (by decide) (shrN ctx.length 16 65536 (by decide)))) ?_
  refine Qaa (.int .u8 (((ctx.length / 65536 % 256 : Nat) : Int))) 58 rfl (by kernel_rfl) (Qah (u := .int .u8 (IntKind.u8.wrap (((ctx.length / 65536 : Nat) : Int)))) (by kernel_rfl) (congrArg (Value.int .u8) (Qfj (ctx.length / 65536) (ctx.length / 65536 % 256) (by omega)))) ?_
  refine Qaa (.int .i64 ((ctx.length : Nat) : Int)) 59 rfl (by kernel_rfl) (by kernel_rfl) ?_
  refine Qaa (.int .i64 (((ctx.length / 256 : Nat) : Int))) 60 rfl (by kernel_rfl) (Qa1 .shr _ _ _ _ .i64 .u64 _ _ _ rfl (by kernel_rfl) (by kernel_rfl) (QaO _ _ _ _ _ _ (by decide) (shrN ctx.length 8 256 (by decide)))) ?_
  refine Qaa (.int .u8 (((ctx.length / 256 % 256 : Nat) : Int))) 61 rfl (by kernel_rfl) (Qah (u := .int .u8 (IntKind.u8.wrap (((ctx.length / 256 : Nat) : Int)))) (by kernel_rfl) (congrArg (Value.int .u8) (Qfj (ctx.length / 256) (ctx.length / 256 % 256) (by omega)))) ?_
  refine Qaa (.int .i64 ((ctx.length : Nat) : Int)) 62 rfl (by kernel_rfl) (by kernel_rfl) ?_
  refine Qaa (.int .u8 (((ctx.length % 256 : Nat) : Int))) 63 rfl (by kernel_rfl) (Qah (u := .int .u8 (IntKind.u8.wrap ((ctx.length : Nat) : Int))) (by kernel_rfl) (congrArg (Value.int .u8) (Qfj (ctx.length) (ctx.length % 256) (by omega)))) ?_
  refine Qbp (ints .u8 ([(((ctx.length / 16777216 : Nat) : Int)), (((ctx.length / 65536 % 256 : Nat) : Int)), (((ctx.length / 256 % 256 : Nat) : Int)), (((ctx.length % 256 : Nat) : Int))])) 5 4 64 rfl (by kernel_rfl) (by kernel_rfl) fun g20 W6 l20 e6 r20_6 => ?_
  have x6 : Ext w W6 := Ext.tr x5 e6
  have b20 : w.heap.size ≤ g20 := Nat.le_trans x5.size l20
  have f21_6 := (hu17.ext e6)
  have y1_6 : Ext W1 W6 := (Rely.Ext.trans y5 e6)
  refine QbX (k := .u8) (T := 5) (xs := Qdb (strB s) n ++ strB s) (ys := [(((ctx.length / 16777216 : Nat) : Int)), (((ctx.length / 65536 % 256 : Nat) : Int)), (((ctx.length / 256 % 256 : Nat) : Int)), (((ctx.length % 256 : Nat) : Int))]) (V := W1) 1 (.tmp 52) (.tmp 64) 38 rfl (by kernel_rfl) (by kernel_rfl) (by decide) 65 rfl (by kernel_rfl) (by kernel_rfl) (by kernel_rfl) f21_6 (Qb5 (xs := [(((ctx.length / 16777216 : Nat) : Int)), (((ctx.length / 65536 % 256 : Nat) : Int)), (((ctx.length / 256 % 256 : Nat) : Int)), (((ctx.length % 256 : Nat) : Int))]) (n := 4) rfl r20_6 (Qar r20_6) (show 4 ≤ maxLen from by decide)) (by have : (Qdb (strB s) n).length = 3 := rfl; have : (QeM ctx.length).length = 4 := rfl; simp only [List.length_append, List.length_cons, List.length_nil]; omega) y1_6 fun z3 W7 f22 y7 l7 => ?_
  have x7 : Ext w W7 := Ext.low x6 l7 x1.size
  have hu24 : OwnN .u8 5 W1.heap.size ((Qdb (strB s) n ++ strB s) ++ QeM ctx.length) z3 W7 := f22
  refine Qaa (z3) 10 rfl (by kernel_rfl) (by kernel_rfl) ?_
  refine Qac ?_
  refine hK19 _ _ ?_
  refine wp_seq_k fun K25 hK25 => ?_
  refine Qab ?_
  refine Qaa (z3) 66 rfl (by kernel_rfl) (by kernel_rfl) ?_
  refine Qaa (.slice a_ctx ctx.length c_ctx) 67 rfl (by kernel_rfl) (by kernel_rfl) ?_
  refine QbX (k := .u8) (T := 5) (xs := (Qdb (strB s) n ++ strB s) ++ QeM ctx.length) (ys := ctx) (V := W1) 1 (.tmp 66) (.tmp 67) 38 rfl (by kernel_rfl) (by kernel_rfl) (by decide) 68 rfl (by kernel_rfl) (by kernel_rfl) (by kernel_rfl) hu24 (RdK.ext hx x7) (by have : (Qdb (strB s) n).length = 3 := rfl; have : (QeM ctx.length).length = 4 := rfl; simp only [List.length_append, List.length_cons, List.length_nil]; omega) y7 fun z4 W8 f26 y8 l8 => ?_
  have x8 : Ext w W8 := Ext.low x7 l8 x1.size
  have hu28 : OwnN .u8 5 W1.heap.size (Qbx (strB s) ctx n) z4 W8 := f26
  refine Qaa (z4) 10 rfl (by kernel_rfl) (by kernel_rfl) ?_
  refine Qac ?_
  refine hK25 _ _ ?_
  refine wp_seq_k fun K29 hK29 => ?_
  refine Qab ?_
  refine Qaa (.slice (some ⟨g4, 0, none⟩) 32 32) 69 rfl (by kernel_rfl) (by kernel_rfl) ?_
  refine Qaa (z4) 70 rfl (by kernel_rfl) (by kernel_rfl) ?_
  refine Qaa (.int .i64 ((n : Nat) : Int)) 71 rfl (by kernel_rfl) (by kernel_rfl) ?_
  obtain ⟨ai30, ci30, hai30, -⟩ := id (OwnN.rd hu28)
  have r1_1 := (Qad hc e1)
  have r1_2 := (Qad r1_1 e2)
  have r1_3 := (Qad r1_2 e3)
  have r1_4 := (Qb1 l4 r1_3 (Qar r1_1))
  have r1_5 := (Qb1 l5 r1_4 (Qar r1_1))
  have r1_6 := (Qad r1_5 e6)
  have r1_7 := (Qb1 l7 r1_6 (Qar r1_1))
  have r1_8 := (Qb1 l8 r1_7 (Qar r1_1))
  have r2_1 := (Qad hq e1)
  have r2_2 := (Qad r2_1 e2)
  have r2_3 := (Qad r2_2 e3)
  have r2_4 := (Qb1 l4 r2_3 (Qar r2_1))
  have r2_5 := (Qb1 l5 r2_4 (Qar r2_1))
  have r2_6 := (Qad r2_5 e6)
  have r2_7 := (Qb1 l7 r2_6 (Qar r2_1))
  have r2_8 := (Qb1 l8 r2_7 (Qar r2_1))
  have r4_2 := (Qad r4_1 e2)
  have r4_3 := (Qad r4_2 e3)
  have r4_4 := (Qb1 l4 r4_3 (Qar r4_1))
  have r4_5 := (Qb1 l5 r4_4 (Qar r4_1))
  have r4_6 := (Qad r4_5 e6)
  have r4_7 := (Qb1 l7 r4_6 (Qar r4_1))
  have r4_8 := (Qb1 l8 r4_7 (Qar r4_1))
  refine Qa8 (fun v W' => (fun v W => ∃ u, v = .tuple #[u, .nilIface] ∧ OwnN .u8 5 W8.heap.size (kx sec (Qbx (strB s) ctx n) n) u W) v W' ∧ Ext W8 W') 59 #[.slice (some ⟨g4, 0, none⟩) 32 32, z4, .int .i64 ((n : Nat) : Int)] 72 rfl (by kernel_rfl) (by kernel_rfl) ((QhI sec (Qbx (strB s) ctx n) _ _ _ _ n tc tq _ r1_8 r2_8 hn (by omega) (by rw [QgV]; omega) hsb (Qff _ _ _ (QfU s) hxb hl hc2 hn) (Qb5 (xs := sec) (n := 32) hsl r4_8 (Qar r4_8) (show 32 ≤ maxLen from by decide)) (OwnN.rd hu28)).mono (by rintro e w' ⟨v, rfl, e1, hv⟩; exact ⟨v, rfl, hv, e1⟩)) fun vv31 W9 hh31 => ?_
  obtain ⟨hv31, e9⟩ := hh31
  have x9 : Ext w W9 := Ext.tr x8 e9
  obtain ⟨uu, rfl, huu⟩ := hv31
  refine Qaa (uu) 73 rfl (by kernel_rfl) (by kernel_rfl) ?_
  refine Qaa (.nilIface) 74 rfl (by kernel_rfl) (by kernel_rfl) ?_
  refine Qaa (uu) 8 rfl (by kernel_rfl) (by kernel_rfl) ?_
  refine Qaa (.nilIface) 9 rfl (by kernel_rfl) (by kernel_rfl) ?_
  refine Qac ?_
  refine hK29 _ _ ?_
  refine wp_ret ?_
  repeat (first | with_reducible refine goR1 ?_ | with_reducible refine goR2 ?_)
  exact (show bodyPost _ _ _ .ret _ _ from ret2 (uu) (.nilIface) rfl (Qa9 (by kernel_rfl)) (Qa9 (by kernel_rfl)) ⟨_, rfl, x9, uu, rfl, OwnN.base x8.size huu⟩)
end Go.Proofs.YtibegnjaphohaaaDoor.Sha
end
section
namespace Go.Proofs.YtibegnjaphohaaaDoor.Sha
open Go Go.RowKit
open Rely Auto Own
set_option linter.unusedVariables false
set_option linter.unusedSimpArgs false
theorem QeX {P : Program} {ρ : Operand → Value} {o : Oper} {w : World} (t : TypeId) (x : Operand) (n : Nat) (e : TypeId) {a : Option Addr} {len cap : Nat} (ho : o.op = .sliceToArrayPointer t x) (hx : ρ x = .slice a len cap) (hu : P.underlying t = some (.array n e)) (h : n ≤ len) :
    (execOp ρ o).run P w = .ok (.value (.pointer a)) w := by
  unfold execOp
  simp [ho, hx, Instr.arrayAt, run_underlying hu, Nat.not_lt.2 h]
theorem QeK {k : IntKind} {cur : Array Value} {xs : List Int} (h : cur.toList.take xs.length = xs.map (Value.int k)) : ∀ j v, (ints k xs)[j]? = some v → cur[0 + j]? = some v := fun j v hv => by
  rw [Nat.zero_add]
  have hj : j < xs.length := by
    have := (Array.getElem?_eq_some_iff.1 hv).1
    rwa [Qaf] at this
  rw [Qd3 h hj, ← hv, Qbb _ _ _ hj]
def Qbv (sec lab : List Int) : List Int := if lab.length ≤ 255 then kx sec (Qbx lab [] 32) 32 else List.replicate 32 0
theorem Qc9 (sec lab : List Int) : (Qbv sec lab).length = 32 := by
  unfold Qbv
  split
  · exact QbK _ _ _
  · exact List.length_replicate
theorem nilrd (W : World) : RdK .u8 W.heap.size [] (.slice none 0 0) W := OwnN.rd (Qek .u8 0 0 W)
set_option maxHeartbeats 4000000 in
theorem QhV (sec : List Int) (s : ByteArray) (tc tq : TypeId) (w : World) (hc : w.heap[2]? = some (.cells (ints .u64 QaD) tc)) (hq : w.heap[1]? = some (.cells (ints .u64 Qam) tq)) (hsl : sec.length = 32) (hsb : Qao sec) (h : (strB s).length ≤ 255) : Calls Tryd.prog 40 #[.agg (ints .u8 sec), .string s] w (Ret w (.agg (ints .u8 (Qbv sec (strB s))))) := by
  refine enter 19 [(0, .agg (ints .u8 (sec))), (1, .string s)] Tryd.func40 rfl rfl kj rfl ?_
  refine wp_seq_k fun K3 hK3 => ?_
  refine Qab ?_
  refine Qas (ints .u8 (sec)) 23 2 rfl kj kj fun g4 W1 l4 e1 r4_1 => ?_
  have x1 : Ext w W1 := Ext.tr (Rely.Ext.refl w) e1
  have b4 : w.heap.size ≤ g4 := Nat.le_trans (Rely.Ext.refl w).size l4
  refine Qas (ints .u8 (List.replicate 32 0)) 23 4 rfl kj kj fun g5 W2 l5 e2 r5_2 => ?_
  have x2 : Ext w W2 := Ext.tr x1 e2
  have b5 : w.heap.size ≤ g5 := Nat.le_trans x1.size l5
  refine Qac ?_
  refine hK3 _ _ ?_
  refine wp_seq_k fun K6 hK6 => ?_
  refine Qab ?_
  have r4_2 := (Qad r4_1 e2)
  refine Qaa (.agg (ints .u8 (sec))) 8 rfl kj (Qay 23 _ g4 23 _ _ r4_2 rfl kj kj (isz (n := 32) kj ((Qaf _ _).trans hsl))) ?_
  refine Qaa (.string s) 9 rfl kj kj ?_
  have r1_1 := (Qad hc e1)
  have r1_2 := (Qad r1_1 e2)
  have r2_1 := (Qad hq e1)
  have r2_2 := (Qad r2_1 e2)
  refine Qa8 (fun v W' => (fun v W => ∃ u, v = .tuple #[u, .nilIface] ∧ OwnN .u8 5 W2.heap.size (kx sec (Qbx (strB s) [] 32) 32) u W) v W' ∧ Ext W2 W') 51 #[.agg (ints .u8 (sec)), .string s, .slice none 0 0, .int .i64 32] 10 rfl kj kj ((Qin sec [] s (.slice none 0 0) _ tc tq _ r1_2 r2_2 hsl hsb (fun x hx => by cases hx) (nilrd _) 32 (by decide) h (by decide)).mono (by rintro e w' ⟨v, rfl, e1, hv⟩; exact ⟨v, rfl, hv, e1⟩)) fun vv7 W3 hh7 => ?_
  obtain ⟨hv7, e3⟩ := hh7
  have x3 : Ext w W3 := Ext.tr x2 e3
  obtain ⟨uu, rfl, huu⟩ := hv7
  obtain ⟨gu, cu, curu, rfl, -, hru, -, -, -, htu⟩ := QeB huu (by rw [QbK]; decide)
  refine Qaa (.tuple #[.slice (some ⟨gu, 0, none⟩) (kx sec (Qbx (strB s) [] 32) 32).length cu, .nilIface]) 7 rfl kj kj ?_
  refine Qaa (.slice (some ⟨gu, 0, none⟩) (kx sec (Qbx (strB s) [] 32) 32).length cu) 11 rfl kj kj ?_
  refine Qaa (.nilIface) 12 rfl kj kj ?_
  refine Qaa (.slice (some ⟨gu, 0, none⟩) (kx sec (Qbx (strB s) [] 32) 32).length cu) 5 rfl kj kj ?_
  refine Qaa (.nilIface) 6 rfl kj kj ?_
  refine Qac ?_
  refine hK6 _ _ ?_
  refine wp_seq_k fun K8 hK8 => ?_
  refine wp_seq_k fun K9 hK9 => ?_
  refine Qab ?_
  refine Qaa (.nilIface) 13 rfl kj kj ?_
  refine Qaa (.bool false) 14 rfl kj kj ?_
  refine Qac ?_
  refine hK9 _ _ ?_
  refine cond_false kj ?_
  refine wp_skip ?_
  refine hK8 _ _ ?_
  refine wp_seq_k fun K10 hK10 => ?_
  refine Qab ?_
  refine Qaa (.slice (some ⟨gu, 0, none⟩) (kx sec (Qbx (strB s) [] 32) 32).length cu) 16 rfl kj kj ?_
  refine Qaa (.pointer (some ⟨gu, 0, none⟩)) 17 rfl kj (QeX 23 _ 32 5 (a := some ⟨gu, 0, none⟩) (len := (kx sec (Qbx (strB s) [] 32) 32).length) (cap := cu) rfl kj kj (by rw [QbK]; exact Nat.le_refl _)) ?_
  refine Qaa (.agg (ints .u8 (kx sec (Qbx (strB s) [] 32) 32))) 18 rfl kj (Qa3 23 _ gu 0 5 _ _ _ (Qad hru (Rely.Ext.refl W3)) rfl kj (QeK htu) kj (isz (n := 32) kj ((Qaf _ _).trans (QbK _ _ _)))) ?_
  have r5_3 := (Qad r5_2 e3)
  refine Qaj g5 _ (ints .u8 (kx sec (Qbx (strB s) [] 32) 32)) 23 r5_3 rfl kj (Qap 23 _ _ g5 23 _ _ r5_3 rfl kj kj (isz (n := 32) kj ((Qaf _ _).trans (QbK _ _ _))) (eqsz (n := 32) ((Qaf _ _).trans (List.length_replicate (n := 32))) ((Qaf _ _).trans (QbK _ _ _))) (Qa0 _ _)) fun W4 p4 r5_4 => ?_
  have x4 : Ext w W4 := Puts.ext p4 x3 b5
  refine Qac ?_
  refine hK10 _ _ ?_
  refine wp_ret ?_
  repeat (first | with_reducible refine goR1 ?_ | with_reducible refine goR2 ?_)
  exact (show bodyPost _ _ _ .ret _ _ from ret1 (.agg (ints .u8 (kx sec (Qbx (strB s) [] 32) 32))) rfl (QaL g5 23 _ r5_4 kj kj (isz (n := 32) kj ((Qaf _ _).trans (QbK _ _ _)))) ⟨congrArg (fun z => Ending.returned (.agg (ints .u8 z))) (show _ = Qbv sec (strB s) by unfold Qbv; rw [if_pos h]), x4⟩)
set_option maxHeartbeats 4000000 in
theorem QhU (sec : List Int) (s : ByteArray) (tc tq : TypeId) (w : World) (hc : w.heap[2]? = some (.cells (ints .u64 QaD) tc)) (hq : w.heap[1]? = some (.cells (ints .u64 Qam) tq)) (hsl : sec.length = 32) (hsb : Qao sec) (h : 255 < (strB s).length) : Calls Tryd.prog 40 #[.agg (ints .u8 sec), .string s] w (Ret w (.agg (ints .u8 (Qbv sec (strB s))))) := by
  refine enter 19 [(0, .agg (ints .u8 (sec))), (1, .string s)] Tryd.func40 rfl rfl kj rfl ?_
  refine wp_seq_k fun K3 hK3 => ?_
  refine Qab ?_
  refine Qas (ints .u8 (sec)) 23 2 rfl kj kj fun g4 W1 l4 e1 r4_1 => ?_
  have x1 : Ext w W1 := Ext.tr (Rely.Ext.refl w) e1
  have b4 : w.heap.size ≤ g4 := Nat.le_trans (Rely.Ext.refl w).size l4
  refine Qas (ints .u8 (List.replicate 32 0)) 23 4 rfl kj kj fun g5 W2 l5 e2 r5_2 => ?_
  have x2 : Ext w W2 := Ext.tr x1 e2
  have b5 : w.heap.size ≤ g5 := Nat.le_trans x1.size l5
  refine Qac ?_
  refine hK3 _ _ ?_
  refine wp_seq_k fun K6 hK6 => ?_
  refine Qab ?_
  have r4_2 := (Qad r4_1 e2)
  refine Qaa (.agg (ints .u8 (sec))) 8 rfl kj (Qay 23 _ g4 23 _ _ r4_2 rfl kj kj (isz (n := 32) kj ((Qaf _ _).trans hsl))) ?_
  refine Qaa (.string s) 9 rfl kj kj ?_
  have r1_1 := (Qad hc e1)
  have r1_2 := (Qad r1_1 e2)
  have r2_1 := (Qad hq e1)
  have r2_2 := (Qad r2_1 e2)
  refine Qau (.tuple #[.slice none 0 0, .iface 47 (.int .i64 4)]) 51 #[.agg (ints .u8 (sec)), .string s, .slice none 0 0, .int .i64 32] 10 rfl kj kj ((fun W hc hq => Qi9 sec [] s (.slice none 0 0) _ tc tq W hc hq hsl hsb (fun x hx => by cases hx) (nilrd W) 32 (by decide) (by decide) h) _ r1_2 r2_2) fun W3 e3 => ?_
  have x3 : Ext w W3 := Ext.tr x2 e3
  refine Qaa (.tuple #[.slice none 0 0, .iface 47 (.int .i64 4)]) 7 rfl kj kj ?_
  refine Qaa (.slice none 0 0) 11 rfl kj kj ?_
  refine Qaa (.iface 47 (.int .i64 4)) 12 rfl kj kj ?_
  refine Qaa (.slice none 0 0) 5 rfl kj kj ?_
  refine Qaa (.iface 47 (.int .i64 4)) 6 rfl kj kj ?_
  refine Qac ?_
  refine hK6 _ _ ?_
  refine wp_seq_k fun K7 hK7 => ?_
  refine wp_seq_k fun K8 hK8 => ?_
  refine Qab ?_
  refine Qaa (.iface 47 (.int .i64 4)) 13 rfl kj kj ?_
  refine Qaa (.bool true) 14 rfl kj kj ?_
  refine Qac ?_
  refine hK8 _ _ ?_
  refine cond_true kj ?_
  refine wp_seq_k fun K9 hK9 => ?_
  refine Qab ?_
  refine Qaa (.agg (ints .u8 (List.replicate 32 0))) 15 rfl kj kj ?_
  have r5_3 := (Qad r5_2 e3)
  refine Qaj g5 _ (ints .u8 (List.replicate 32 0)) 23 r5_3 rfl kj (Qap 23 _ _ g5 23 _ _ r5_3 rfl kj kj (isz (n := 32) kj ((Qaf _ _).trans (List.length_replicate (n := 32)))) (eqsz (n := 32) ((Qaf _ _).trans (List.length_replicate (n := 32))) ((Qaf _ _).trans (List.length_replicate (n := 32)))) (Qa0 _ _)) fun W4 p4 r5_4 => ?_
  have x4 : Ext w W4 := Puts.ext p4 x3 b5
  refine Qac ?_
  refine hK9 _ _ ?_
  refine wp_ret ?_
  repeat (first | with_reducible refine goR1 ?_ | with_reducible refine goR2 ?_)
  exact (show bodyPost _ _ _ .ret _ _ from ret1 (.agg (ints .u8 (List.replicate 32 0))) rfl (QaL g5 23 _ r5_4 kj kj (isz (n := 32) kj ((Qaf _ _).trans (List.length_replicate (n := 32))))) ⟨congrArg (fun z => Ending.returned (.agg (ints .u8 z))) (show _ = Qbv sec (strB s) by unfold Qbv; rw [if_neg (by omega)]), x4⟩)
theorem Qfh (sec : List Int) (s : ByteArray) (tc tq : TypeId) (w : World) (hc : w.heap[2]? = some (.cells (ints .u64 QaD) tc)) (hq : w.heap[1]? = some (.cells (ints .u64 Qam) tq)) (hsl : sec.length = 32) (hsb : Qao sec) : Calls Tryd.prog 40 #[.agg (ints .u8 sec), .string s] w (Ret w (.agg (ints .u8 (Qbv sec (strB s))))) := by
  by_cases h : (strB s).length ≤ 255
  · exact QhV sec s tc tq w hc hq hsl hsb h
  · exact QhU sec s tc tq w hc hq hsl hsb (by omega)
end Go.Proofs.YtibegnjaphohaaaDoor.Sha
end
section
namespace Go.Proofs.YtibegnjaphohaaaDoor.Auto
open Go Go.RowKit
open Rely
set_option linter.unusedVariables false
set_option linter.unusedSimpArgs false
structure MpW (es : Array MapEntry) (clock : Nat) (m : List (Int × Value)) : Prop where
  ents : es.toList.map (fun e => (e.key, e.val)) = m.map fun p => (Value.int .i64 p.1, p.2)
  nod : (m.map Prod.fst).Nodup
  born : (es.toList.map (·.born)).Nodup
  old : ∀ e ∈ es.toList, e.born < clock
def MpAt (g : Nat) (m : List (Int × Value)) (W : World) : Prop := ∃ es clock, W.heap[g]? = some (.map es clock) ∧ MpW es clock m
def mget (m : List (Int × Value)) (k : Int) (z : Value) : Value := ((m.find? fun p => p.1 == k).map Prod.snd).getD z
theorem QgL (c : Nat) : MpW #[] c [] := ⟨rfl, List.nodup_nil, List.nodup_nil, fun e h => by cases h⟩
theorem MpAt.lt {g : Nat} {m : List (Int × Value)} {W : World} (h : MpAt g m W) : g < W.heap.size := by obtain ⟨es, c, h1, -⟩ := h; exact Qar h1
theorem MpAt.keep {g : Nat} {m : List (Int × Value)} {W W' : World} (h : MpAt g m W) (e : W'.heap[g]? = W.heap[g]?) : MpAt g m W' := by obtain ⟨es, c, h1, h2⟩ := h; exact ⟨es, c, e.trans h1, h2⟩
theorem MpAt.ext {g : Nat} {m : List (Int × Value)} {W W' : World} (h : MpAt g m W) (e : Ext W W') : MpAt g m W' := h.keep (e.block g h.lt)
theorem MpAt.ne {g k : Nat} {m : List (Int × Value)} {W : World} {cs : Array Value} {T : TypeId} {fr : Nat × Nat} (h : MpAt g m W) (r : W.heap[k]? = some (.cells cs T fr)) : k ≠ g := fun e => by
  obtain ⟨es, c, h1, -⟩ := h
  rw [e, h1] at r
  cases r
theorem MpAt.puts {g k : Nat} {m : List (Int × Value)} {W W' : World} (h : MpAt g m W) (p : Puts W k W') (hn : g ≠ k) : MpAt g m W' := h.keep (p.2.2.2.2 g hn)
theorem Qcb (k : Int) : ∀ (es : List MapEntry) (m : List (Int × Value)) (i : Nat), es.map (fun e => (e.key, e.val)) = m.map (fun p => (Value.int .i64 p.1, p.2)) →
    (Instr.findNow (.int .i64) (.int .i64 k) es i = some none ∧ m.find? (fun p => p.1 == k) = none ∧ ∀ e ∈ es, e.key ≠ .int .i64 k) ∨ ∃ j v e, Instr.findNow (.int .i64) (.int .i64 k) es i = some (some (i + j, v)) ∧ m.find? (fun p => p.1 == k) = some (k, v) ∧ es[j]? = some e ∧ e.key = .int .i64 k
  | [], [], i, _ => .inl ⟨rfl, rfl, fun e h => by cases h⟩
  | [], _ :: _, i, h => by cases h
  | _ :: _, [], i, h => by cases h
  | e :: es, p :: m, i, h => by
    simp only [List.map_cons, List.cons.injEq, Prod.mk.injEq] at h
    obtain ⟨⟨h1, h2⟩, h3⟩ := h
    have hs : Instr.sameNow (.int .i64) (.int .i64 k) e.key = some (k == p.1) := by rw [h1]; simp [Instr.sameNow]
    by_cases hk : p.1 = k
    · right
      refine ⟨0, p.2, e, ?_, ?_, rfl, by rw [h1, hk]⟩
      · rw [Instr.findNow, hs, hk, beq_self_eq_true, h2]; rfl
      · rw [List.find?_cons_of_pos (by simp [hk])]; congr 1; exact Prod.ext hk rfl
    · have hs' : Instr.sameNow (.int .i64) (.int .i64 k) e.key = some false := by rw [hs]; congr 1; simp; exact fun q => hk q.symm
      rcases Qcb k es m (i + 1) h3 with ⟨q1, q2, q3⟩ | ⟨j, v, e', q1, q2, q3, q4⟩
      · left
        refine ⟨by rw [Instr.findNow, hs']; exact q1, by rw [List.find?_cons_of_neg (by simp [hk])]; exact q2, fun x hx => ?_⟩
        rcases List.mem_cons.1 hx with rfl | hx
        · rw [h1]; exact fun q => hk (by injection q)
        · exact q3 x hx
      · right
        exact ⟨j + 1, v, e', by rw [Instr.findNow, hs']; show Instr.findNow _ _ es (i + 1) = _; rw [q1, show i + 1 + j = i + (j + 1) by omega], by rw [List.find?_cons_of_neg (by simp [hk])]; exact q2, by rw [List.getElem?_cons_succ]; exact q3, q4⟩
section
variable {P : Program} {ρ : Operand → Value} {o : Oper} {w : World}
theorem QbB (t : TypeId) (m k : Operand) {kt et : TypeId} {g : Nat} {n : Int} {ms : List (Int × Value)} {z : Value} (ho : o.op = .lookup t m k false) (hm : ρ m = .map (some g)) (hk : ρ k = .int .i64 n)
    (ht : P.underlying t = some (.map kt et)) (hkt : P.underlying kt = some (.int .i64)) (h : MpAt g ms w) (hz : (zeroValue et).run P w = .ok z w) : (execOp ρ o).run P w = .ok (.value (mget ms n z)) w := by
  obtain ⟨es, c, hg, hM⟩ := h
  have hl : (Instr.lookup t (.map (some g)) (.int .i64 n) false).run P w = .ok (mget ms n z) w := by
    unfold Instr.lookup
    rw [Sem.run_bind, run_underlying ht]
    show ((getObj g >>= _) >>= _ : Sem Value).run P w = _
    rw [Sem.run_bind, Sem.run_bind, MapKept.run_getObj_map hg]
    show ((Instr.checkKey es.isEmpty 10000 kt (.int .i64 n)) >>= _ : Sem Value).run P w = _
    rw [Sem.run_bind, MapKept.run_checkKey hkt (by simp [MapKept.IsKey])]
    rcases Qcb n es.toList ms 0 hM.ents with ⟨q1, q2, -⟩ | ⟨j, v, e, q1, q2, -, -⟩
    · have hf := MapKept.run_findKey (P := P) (w := w) hkt q1
      unfold mget
      rw [q2]
      simp [Sem.run_bind, hf, Result.andThen, hz]
    · have hf := MapKept.run_findKey (P := P) (w := w) hkt q1
      unfold mget
      rw [q2]
      simp [Sem.run_bind, hf, Result.andThen]
  unfold execOp
  simp only [ho, hm, hk, Sem.run_bind, hl, Result.andThen_ok, Sem.run_pure]
theorem QhF {es : Array MapEntry} {c : Nat} {m : List (Int × Value)} (h : MpW es c m) {n : Int} {v : Value} (hn : n ∉ m.map Prod.fst) : MpW (es.push { key := .int .i64 n, val := v, born := c }) (c + 1) (m ++ [(n, v)]) := by
  refine ⟨?_, ?_, ?_, ?_⟩
  · rw [Array.toList_push, List.map_append, h.ents, List.map_append]; rfl
  · rw [List.map_append]
    refine List.nodup_append.2 ⟨h.nod, (List.nodup_cons.2 ⟨List.not_mem_nil, List.nodup_nil⟩), fun a ha b hb => ?_⟩
    rw [List.map_singleton, List.mem_singleton] at hb
    subst hb
    exact fun q => hn (q ▸ ha)
  · rw [Array.toList_push, List.map_append]
    refine List.nodup_append.2 ⟨h.born, (List.nodup_cons.2 ⟨List.not_mem_nil, List.nodup_nil⟩), fun a ha b hb => ?_⟩
    obtain ⟨e, he, rfl⟩ := List.mem_map.1 ha
    rw [List.map_singleton, List.mem_singleton] at hb
    subst hb
    exact Nat.ne_of_lt (h.old e he)
  · intro e he
    rw [Array.toList_push, List.mem_append, List.mem_singleton] at he
    rcases he with he | rfl
    · exact Nat.lt_succ_of_lt (h.old e he)
    · exact Nat.lt_succ_self _
theorem Qi5 {m : List (Int × Value)} {n : Int} (h : n ∉ m.map Prod.fst) : m.find? (fun p => p.1 == n) = none := by
  rw [List.find?_eq_none]
  intro p hp q
  exact h (List.mem_map.2 ⟨p, hp, by simpa using q⟩)
theorem Qdr (t : TypeId) (m k x : Operand) {kt et : TypeId} {g : Nat} {n : Int} {ms : List (Int × Value)} {v : Value} (ho : o.op = .mapUpdate t m k x) (hm : ρ m = .map (some g)) (hk : ρ k = .int .i64 n) (hx : ρ x = v)
    (ht : P.underlying t = some (.map kt et)) (hkt : P.underlying kt = some (.int .i64)) (h : MpAt g ms w) (hn : n ∉ ms.map Prod.fst) : ∃ W', (execOp ρ o).run P w = .ok .skip W' ∧ Puts w g W' ∧ MpAt g (ms ++ [(n, v)]) W' := by
  obtain ⟨es, c, hg, hM⟩ := h
  rcases Qcb n es.toList ms 0 hM.ents with ⟨q1, -, -⟩ | ⟨j, u, e, q1, q2, -, -⟩
  · have hf := MapKept.run_findKey (P := P) (w := w) hkt q1
    have hi : (Instr.mapUpdate t (.map (some g)) (.int .i64 n) v).run P w = .ok () { w with heap := w.heap.setIfInBounds g (.map (es.push { key := .int .i64 n, val := v, born := c }) (c + 1)) } := by
      unfold Instr.mapUpdate
      rw [Sem.run_bind, run_underlying ht]
      show ((getObj g) >>= _ : Sem Unit).run P w = _
      rw [Sem.run_bind, MapKept.run_getObj_map hg]
      show ((Instr.checkKey false 10000 kt (.int .i64 n)) >>= _ : Sem Unit).run P w = _
      rw [Sem.run_bind, MapKept.run_checkKey hkt (by simp [MapKept.IsKey])]
      show ((Instr.findKey kt (.int .i64 n) es.toList) >>= _ : Sem Unit).run P w = _
      rw [Sem.run_bind, hf]
      exact MapKept.run_setObj_map _ hg
    have hh := MapKept.heap_set (o' := .map (es.push { key := .int .i64 n, val := v, born := c }) (c + 1)) hg
    refine ⟨{ w with heap := w.heap.setIfInBounds g (.map (es.push { key := .int .i64 n, val := v, born := c }) (c + 1)) }, ?_, ⟨rfl, rfl, rfl, by simp, fun i hi => hh.2 i hi⟩, _, _, hh.1, QhF hM hn⟩
    unfold execOp
    rw [ho]
    show ((Instr.mapUpdate t (ρ m) (ρ k) (ρ x)) >>= _).run P w = _
    rw [hm, hk, hx, Sem.run_bind, hi]
    rfl
  · rw [Qi5 hn] at q2; cases q2
theorem Qdw {α β : Type} (f : α → β) (p : β → Bool) : ∀ l : List α, (l.map f).filter p = (l.filter fun x => p (f x)).map f
  | [] => rfl
  | x :: l => by
    rw [List.map_cons, List.filter_cons, List.filter_cons, Qdw f p l]
    split <;> rfl
theorem QdU {es : Array MapEntry} {c : Nat} {m : List (Int × Value)} (h : MpW es c m) (q : Int → Bool) (es' : Array MapEntry) (he : es'.toList = es.toList.filter fun e => match e.key with | .int _ n => q n | _ => true) : MpW es' c (m.filter fun p => q p.1) := by
  refine ⟨?_, ?_, ?_, ?_⟩
  · rw [he]
    have e1 := Qdw (fun e : MapEntry => (e.key, e.val)) (fun x => match x.1 with | .int _ n => q n | _ => true) es.toList
    have e2 := Qdw (fun p : Int × Value => (Value.int .i64 p.1, p.2)) (fun x => match x.1 with | .int _ n => q n | _ => true) m
    rw [← e1, h.ents, e2]
  · exact h.nod.sublist ((List.filter_sublist).map _)
  · rw [he]; exact h.born.sublist ((List.filter_sublist).map _)
  · intro e hm; rw [he] at hm; exact h.old e (List.mem_filter.1 hm).1
def nk (n : Int) (e : MapEntry) : Bool := match e.key with | .int _ x => x != n | _ => true
theorem QdT {n x : Int} {e : MapEntry} (h : e.key = .int .i64 x) : nk n e = (x != n) := by unfold nk; rw [h]
theorem Qct {n : Int} : ∀ (l : List MapEntry) (j : Nat) (e : MapEntry), (l.map (·.key)).Nodup → (∀ x ∈ l, ∃ a, x.key = Value.int .i64 a) → l[j]? = some e → e.key = .int .i64 n → l.eraseIdx j = l.filter (nk n)
  | [], _, _, _, _, h, _ => by simp at h
  | x :: l, 0, e, hn, hi, h, hk => by
    simp only [List.getElem?_cons_zero, Option.some.injEq] at h
    subst h
    rw [List.eraseIdx_cons_zero, List.filter_cons_of_neg (by rw [QdT hk]; simp)]
    rw [List.map_cons, List.nodup_cons] at hn
    refine (List.filter_eq_self.2 fun y hy => ?_).symm
    obtain ⟨a, ha⟩ := hi y (List.mem_cons_of_mem _ hy)
    rw [QdT ha]
    simp only [bne_iff_ne, ne_eq]
    exact fun q => hn.1 (by rw [hk, ← q, ← ha]; exact List.mem_map_of_mem (f := fun e : MapEntry => e.key) hy)
  | x :: l, j + 1, e, hn, hi, h, hk => by
    rw [List.getElem?_cons_succ] at h
    rw [List.map_cons, List.nodup_cons] at hn
    obtain ⟨a, ha⟩ := hi x (List.mem_cons_self ..)
    have hx : nk n x = true := by
      rw [QdT ha]
      simp only [bne_iff_ne, ne_eq]
      exact fun q => hn.1 (by rw [ha, q, ← hk]; exact List.mem_map_of_mem (f := fun e : MapEntry => e.key) (List.mem_of_getElem? h))
    rw [List.eraseIdx_cons_succ, List.filter_cons_of_pos hx, Qct l j e hn.2 (fun y hy => hi y (List.mem_cons_of_mem _ hy)) h hk]
theorem QcX {es : Array MapEntry} {c : Nat} {m : List (Int × Value)} (h : MpW es c m) : (es.toList.map (·.key)).Nodup := by
  have e : es.toList.map (·.key) = (m.map Prod.fst).map (Value.int .i64) := by
    have := congrArg (List.map Prod.fst) h.ents
    rw [List.map_map, List.map_map] at this
    rw [List.map_map]
    exact this
  rw [e]
  exact List.Pairwise.map _ (fun a b q r => q (by injection r)) h.nod
theorem Qd8 {es : Array MapEntry} {c : Nat} {m : List (Int × Value)} (h : MpW es c m) {e : MapEntry} (he : e ∈ es.toList) : ∃ n, e.key = .int .i64 n := by
  have := List.mem_map_of_mem (f := fun e : MapEntry => (e.key, e.val)) he
  rw [h.ents, List.mem_map] at this
  obtain ⟨p, -, hp⟩ := this
  exact ⟨p.1, (congrArg Prod.fst hp).symm⟩
theorem Qfi {kt et : TypeId} {es : Array MapEntry} {c : Nat} {m : List (Int × Value)} (h : MpW es c m) (hkt : P.underlying kt = some (.int .i64)) {g : Nat} (hg : w.heap[g]? = some (.map es c)) (n : Int) {t : TypeId} {ty : TypeId} (ht : P.underlying t = some (.map kt et)) :
    ∃ es', es'.toList = es.toList.filter (nk n) ∧ (Builtin.delete_ #[t, kt] ty #[.map (some g), .int .i64 n]).run P w = .ok (.tuple #[]) { w with heap := w.heap.setIfInBounds g (.map es' c) } := by
  rcases Qcb n es.toList m 0 h.ents with ⟨q1, -, q3⟩ | ⟨j, v, e, q1, q2, q3, q4⟩
  · refine ⟨es, (List.filter_eq_self.2 fun x hx => by
      obtain ⟨a, ha⟩ := Qd8 h hx
      rw [QdT ha]; simp only [bne_iff_ne, ne_eq]; exact fun q => q3 x hx (by rw [ha, q])).symm, ?_⟩
    have hf := MapKept.run_findKey (P := P) (w := w) hkt q1
    simp [Builtin.delete_, run_underlying ht, MapKept.run_getObj_map hg, MapKept.run_checkKey hkt (show MapKept.IsKey (.int .i64) (.int .i64 n) by simp [MapKept.IsKey]), hf, MapKept.run_setObj_map _ hg, Result.andThen]
  · refine ⟨es.eraseIdxIfInBounds j, ?_, ?_⟩
    · have hj : j < es.size := by have := (List.getElem?_eq_some_iff.1 q3).1; simpa using this
      rw [Array.eraseIdxIfInBounds_eq, dif_pos hj, Array.toList_eraseIdx]
      exact Qct _ j e (QcX h) (fun x hx => Qd8 h hx) q3 q4
    · have hf := MapKept.run_findKey (P := P) (w := w) hkt q1
      rw [Nat.zero_add] at hf
      simp [Builtin.delete_, run_underlying ht, MapKept.run_getObj_map hg, MapKept.run_checkKey hkt (show MapKept.IsKey (.int .i64) (.int .i64 n) by simp [MapKept.IsKey]), hf, MapKept.run_setObj_map _ hg, Result.andThen]
theorem QgC {w' : World} (m k : Operand) (t kt : TypeId) {g : Nat} {n : Int} (ho : o.op = .call { callee := .builtin .delete, args := #[m, k], argTypes := #[t, kt] }) (hm : ρ m = .map (some g)) (hk : ρ k = .int .i64 n)
    (h : (Builtin.delete_ #[t, kt] o.type #[.map (some g), .int .i64 n]).run P w = .ok (.tuple #[]) w') : (execOp ρ o).run P w = .ok (.value (.tuple #[])) w' := by
  unfold execOp
  simp only [ho, resolve, invoke, builtin, Sem.run_bind, Sem.run_pure, Result.andThen_ok, List.map_toArray, List.map_cons, List.map_nil, hm, hk, h]
theorem Qh0 (m k : Operand) (t : TypeId) {kt et : TypeId} {g : Nat} {n : Int} {ms : List (Int × Value)} (ho : o.op = .call { callee := .builtin .delete, args := #[m, k], argTypes := #[t, kt] }) (hm : ρ m = .map (some g)) (hk : ρ k = .int .i64 n)
    (ht : P.underlying t = some (.map kt et)) (hkt : P.underlying kt = some (.int .i64)) (h : MpAt g ms w) : ∃ W', (execOp ρ o).run P w = .ok (.value (.tuple #[])) W' ∧ Puts w g W' ∧ MpAt g (ms.filter fun p => p.1 != n) W' := by
  obtain ⟨es, c, hg, hM⟩ := h
  obtain ⟨es', he, hr⟩ := Qfi (P := P) (w := w) hM hkt hg n (ty := o.type) ht
  have hh := MapKept.heap_set (o' := .map es' c) hg
  exact ⟨_, QgC m k t kt ho hm hk hr, ⟨rfl, rfl, rfl, by simp, fun i hi => hh.2 i hi⟩, es', c, hh.1, QdU hM (fun x => x != n) es' he⟩
theorem Qhz (m : Operand) (t : TypeId) {kt et : TypeId} {g : Nat} {ms : List (Int × Value)} (ho : o.op = .call { callee := .builtin .len, args := #[m], argTypes := #[t] }) (hm : ρ m = .map (some g)) (ht : P.underlying t = some (.map kt et)) (h : MpAt g ms w) : (execOp ρ o).run P w = .ok (.value (.int .i64 ((ms.length : Nat) : Int))) w := by
  obtain ⟨es, c, hg, hM⟩ := h
  have hl : es.size = ms.length := by have := congrArg List.length hM.ents; simpa using this
  unfold execOp
  simp [ho, resolve, invoke, builtin, Sem.run_bind, Sem.run_pure, Result.andThen_ok, hm, Builtin.len_, run_underlying ht, MapKept.run_getObj_map hg, hl, Result.andThen, goInt]
end
def km (lim : Int) (e : MapEntry) : Bool := match e.key with | .int _ x => decide (lim ≤ x) | _ => true
theorem QgN {lim x : Int} {e : MapEntry} (h : e.key = .int .i64 x) : km lim e = decide (lim ≤ x) := by unfold km; rw [h]
def rkeep (lim : Int) (sn : Array Nat) (e : MapEntry) : Bool := km lim e || !sn.contains e.born
def Qci (g r : Nat) (lim : Int) (es0 : Array MapEntry) (c : Nat) (sn : Array Nat) (W : World) : Prop := ∃ es : Array MapEntry, es.toList = es0.toList.filter (rkeep lim sn) ∧ W.heap[g]? = some (.map es c) ∧ W.heap[r]? = some (.mapIter (some g) c sn c)
def Qcw (g r : Nat) (lim : Int) (es0 : Array MapEntry) (c : Nat) (sn : Array Nat) (e : MapEntry) (W : World) : Prop := ∃ es : Array MapEntry, es.toList = es0.toList.filter (rkeep lim sn) ∧ W.heap[g]? = some (.map es c) ∧ W.heap[r]? = some (.mapIter (some g) c (sn.push e.born) c) ∧ e ∈ es.toList ∧ sn.contains e.born = false
def rmu (es0 : Array MapEntry) (sn : Array Nat) : Nat := (es0.toList.filter fun e => !sn.contains e.born).length
theorem QcH {α β : Type} (f : α → β) : ∀ l : List α, (l.map f).Nodup → ∀ a ∈ l, ∀ b ∈ l, f a = f b → a = b
  | [], _, a, ha, _, _, _ => by cases ha
  | x :: l, h, a, ha, b, hb, e => by
    rw [List.map_cons, List.nodup_cons] at h
    rcases List.mem_cons.1 ha with ha' | ha' <;> rcases List.mem_cons.1 hb with hb' | hb'
    · rw [ha', hb']
    · exact absurd (by rw [← ha', e]; exact List.mem_map_of_mem (f := f) hb') h.1
    · exact absurd (by rw [← hb', ← e]; exact List.mem_map_of_mem (f := f) ha') h.1
    · exact QcH f l h.2 a ha' b hb' e
theorem QdB {α : Type} (p q : α → Bool) : ∀ l : List α, (∀ x ∈ l, q x = true → p x = true) → ∀ a ∈ l, p a = true → q a = false → (l.filter q).length < (l.filter p).length
  | [], _, a, ha, _, _ => by cases ha
  | x :: l, h, a, ha, hp, hq => by
    have hl : (l.filter q).length ≤ (l.filter p).length := by
      have : ∀ l : List α, (∀ x ∈ l, q x = true → p x = true) → (l.filter q).length ≤ (l.filter p).length := by
        intro l
        induction l with
        | nil => exact fun _ => Nat.le_refl _
        | cons y l ih =>
          intro h
          have ih := ih fun x hx => h x (List.mem_cons_of_mem _ hx)
          rw [List.filter_cons, List.filter_cons]
          cases hqy : q y with
          | true => rw [h y (List.mem_cons_self ..) hqy]; simp only [if_true, List.length_cons]; omega
          | false =>
            simp only [Bool.false_eq_true, if_false]
            cases p y
            · simpa using ih
            · simp only [if_true, List.length_cons]; omega
      exact this l fun x hx => h x (List.mem_cons_of_mem _ hx)
    rw [List.filter_cons, List.filter_cons]
    rcases List.mem_cons.1 ha with ha | ha
    · subst ha
      rw [hp, hq]
      simp only [if_true, Bool.false_eq_true, if_false, List.length_cons]; omega
    · have ih := QdB p q l (fun x hx => h x (List.mem_cons_of_mem _ hx)) a ha hp hq
      cases hqx : q x with
      | true => rw [h x (List.mem_cons_self ..) hqx]; simp only [if_true, List.length_cons]; omega
      | false =>
        simp only [Bool.false_eq_true, if_false]
        cases p x
        · simpa using ih
        · simp only [if_true, List.length_cons]; omega
theorem Qds (sn : Array Nat) (b x : Nat) : (sn.push b).contains x = (sn.contains x || x == b) := by
  rw [← Array.contains_toList, Array.toList_push, ← Array.contains_toList]
  rw [Bool.eq_iff_iff]
  simp [List.contains_eq_mem, List.mem_append]
theorem Qcw.mu {g r : Nat} {lim : Int} {es0 : Array MapEntry} {c : Nat} {sn : Array Nat} {e : MapEntry} {W : World} (h : Qcw g r lim es0 c sn e W) : rmu es0 (sn.push e.born) < rmu es0 sn := by
  obtain ⟨es, he, -, -, hm, hs⟩ := h
  unfold rmu
  rw [he] at hm
  refine QdB _ _ _ (fun x _ hx => ?_) e (List.mem_filter.1 hm).1 (by rw [hs]; rfl) (by rw [Qds, beq_self_eq_true, Bool.or_true]; rfl)
  rw [Qds] at hx
  revert hx
  cases sn.contains x.born <;> simp
section
variable {es0 : Array MapEntry} {c : Nat} {m0 : List (Int × Value)} {g r : Nat} {lim : Int} {sn : Array Nat} {W : World}
theorem Qci.start (hM : MpW es0 c m0) (hg : W.heap[g]? = some (.map es0 c)) (hr : W.heap[r]? = some (.mapIter (some g) c #[] c)) : Qci g r lim es0 c #[] W :=
  ⟨es0, (List.filter_eq_self.2 fun e _ => by unfold rkeep; simp).symm, hg, hr⟩
theorem Qci.done (hM : MpW es0 c m0) (h : Qci g r lim es0 c sn W) (h0 : ∀ es, W.heap[g]? = some (.map es c) → (leftOf es sn).size = 0) : MpAt g (m0.filter fun p => decide (lim ≤ p.1)) W := by
  obtain ⟨es, he, hg, hr⟩ := h
  have hl := h0 es hg
  refine ⟨es, c, hg, QdU hM (fun x => decide (lim ≤ x)) es ?_⟩
  show _ = es0.toList.filter (km lim)
  rw [he]
  refine List.filter_congr fun e hm => ?_
  unfold rkeep
  cases hk : km lim e with
  | true => rfl
  | false =>
    rw [Bool.false_or]
    cases hs : sn.contains e.born with
    | true => rfl
    | false =>
      exfalso
      have h1 : e ∈ leftOf es sn := by
        unfold leftOf
        rw [Array.mem_filter]
        refine ⟨?_, by rw [hs]; rfl⟩
        rw [← Array.mem_toList_iff, he, List.mem_filter]
        exact ⟨hm, by unfold rkeep; rw [hs]; simp⟩
      rw [Array.eq_empty_of_size_eq_zero hl] at h1
      cases h1 with | mk h => cases h
theorem Qcw.stay (hM : MpW es0 c m0) {e : MapEntry} (h : Qcw g r lim es0 c sn e W) (hk : km lim e = true) : Qci g r lim es0 c (sn.push e.born) W := by
  obtain ⟨es, he, hg, hr, hm, hs⟩ := h
  refine ⟨es, he.trans (List.filter_congr fun f hf => ?_), hg, hr⟩
  unfold rkeep
  rw [Qds]
  by_cases hb : f.born = e.born
  · have hm' := hm
    rw [he] at hm'
    rw [QcH (·.born) _ hM.born f hf e (List.mem_filter.1 hm').1 hb, hk]
    rfl
  · rw [show (f.born == e.born) = false from by simpa using hb, Bool.or_false]
theorem Qcw.drop (hM : MpW es0 c m0) {e : MapEntry} {x : Int} (h : Qcw g r lim es0 c sn e W) (hx : e.key = .int .i64 x) (hk : x < lim) {P : Program} {t kt et ty : TypeId} (ht : P.underlying t = some (.map kt et)) (hkt : P.underlying kt = some (.int .i64)) :
    ∃ W', (Builtin.delete_ #[t, kt] ty #[.map (some g), .int .i64 x]).run P W = .ok (.tuple #[]) W' ∧ Puts W g W' ∧ Qci g r lim es0 c (sn.push e.born) W' := by
  obtain ⟨es, he, hg, hr, hm, hs⟩ := h
  have hME : MpW es c (m0.filter fun p => true) ∨ True := .inr trivial
  have hnb : (es.toList.map (·.born)).Nodup := by rw [he]; exact hM.born.sublist ((List.filter_sublist).map _)
  have hnk : (es.toList.map (·.key)).Nodup := by rw [he]; exact (QcX hM).sublist ((List.filter_sublist).map _)
  have hik : ∀ y ∈ es.toList, ∃ a, y.key = Value.int .i64 a := fun y hy => by rw [he] at hy; exact Qd8 hM (List.mem_filter.1 hy).1
  have hm' := hm
  rw [he] at hm'
  have he0 := (List.mem_filter.1 hm').1
  obtain ⟨j, hj⟩ := List.mem_iff_getElem?.1 hm
  have hgr : g ≠ r := fun q => by rw [q, hr] at hg; cases hg
  have hfn : ∀ (l : List MapEntry) (i : Nat), (∀ y ∈ l, ∃ a, y.key = Value.int .i64 a) → (∃ y ∈ l, y.key = .int .i64 x) → ∃ j v y, Instr.findNow (.int .i64) (.int .i64 x) l i = some (some (i + j, v)) ∧ l[j]? = some y ∧ y.key = .int .i64 x := by
    intro l
    induction l with
    | nil => intro i _ h; obtain ⟨y, hy, -⟩ := h; cases hy
    | cons z l ih =>
      intro i hi hy
      obtain ⟨a, ha⟩ := hi z (List.mem_cons_self ..)
      have hsn : Instr.sameNow (.int .i64) (.int .i64 x) z.key = some (x == a) := by rw [ha]; simp [Instr.sameNow]
      by_cases hxa : a = x
      · exact ⟨0, z.val, z, by rw [Instr.findNow, hsn, hxa, beq_self_eq_true]; rfl, rfl, by rw [ha, hxa]⟩
      · have hsn' : Instr.sameNow (.int .i64) (.int .i64 x) z.key = some false := by rw [hsn]; congr 1; simp; exact fun q => hxa q.symm
        obtain ⟨y, hy1, hy2⟩ := hy
        have hyl : y ∈ l := by
          rcases List.mem_cons.1 hy1 with rfl | hy1
          · rw [ha] at hy2; exact absurd (by injection hy2) hxa
          · exact hy1
        obtain ⟨j, v, y', q1, q2, q3⟩ := ih (i + 1) (fun y hy => hi y (List.mem_cons_of_mem _ hy)) ⟨y, hyl, hy2⟩
        exact ⟨j + 1, v, y', by rw [Instr.findNow, hsn']; show Instr.findNow _ _ l (i + 1) = _; rw [q1, show i + 1 + j = i + (j + 1) by omega], by rw [List.getElem?_cons_succ]; exact q2, q3⟩
  obtain ⟨j2, v, y, q1, q2, q3⟩ := hfn es.toList 0 hik ⟨e, hm, hx⟩
  have hf := MapKept.run_findKey (P := P) (w := W) hkt q1
  rw [Nat.zero_add] at hf
  have hj2 : j2 < es.size := by have := (List.getElem?_eq_some_iff.1 q2).1; simpa using this
  have hE : (es.eraseIdxIfInBounds j2).toList = es.toList.filter (nk x) := by
    rw [Array.eraseIdxIfInBounds_eq, dif_pos hj2, Array.toList_eraseIdx]
    exact Qct _ j2 y hnk hik q2 q3
  have hh := MapKept.heap_set (o' := .map (es.eraseIdxIfInBounds j2) c) hg
  refine ⟨{ W with heap := W.heap.setIfInBounds g (.map (es.eraseIdxIfInBounds j2) c) }, ?_, ⟨rfl, rfl, rfl, by simp, fun i hi => hh.2 i hi⟩, es.eraseIdxIfInBounds j2, ?_, hh.1, (hh.2 r (fun q => hgr q.symm)).trans hr⟩
  · simp [Builtin.delete_, run_underlying ht, MapKept.run_getObj_map hg, MapKept.run_checkKey hkt (show MapKept.IsKey (.int .i64) (.int .i64 x) by simp [MapKept.IsKey]), hf, MapKept.run_setObj_map _ hg, Result.andThen]
  · rw [hE, he, List.filter_filter]
    refine List.filter_congr fun f hfm => ?_
    unfold rkeep
    rw [Qds]
    by_cases hb : f.born = e.born
    · rw [QcH (·.born) _ hM.born f hfm e he0 hb, QdT hx, QgN hx, decide_eq_false (by omega)]
      simp
    · have hne : f.key ≠ e.key := fun q => hb (congrArg MapEntry.born (QcH (·.key) _ (QcX hM) f hfm e he0 q))
      obtain ⟨a, ha⟩ := Qd8 hM hfm
      have hnx : nk x f = true := by rw [QdT ha]; simp only [bne_iff_ne, ne_eq]; exact fun q => hne (by rw [ha, hx, q])
      rw [hnx, show (f.born == e.born) = false from by simpa using hb, Bool.or_false, Bool.true_and]
theorem Qci.next (hM : MpW es0 c m0) (h : Qci g r lim es0 c sn W) {P : Program} (ty : TypeId) :
    ((Instr.next (.pointer (some ⟨r, 0, none⟩)) false ty).run P W = .ok (.tuple #[.bool false]) W ∧ MpAt g (m0.filter fun p => decide (lim ≤ p.1)) W) ∨
    ∃ e x W1, e.key = .int .i64 x ∧ (Instr.next (.pointer (some ⟨r, 0, none⟩)) false ty).run P W = .ok (.tuple #[.bool true, .int .i64 x, e.val]) W1 ∧ Puts W r W1 ∧ Qcw g r lim es0 c sn e W1 ∧ (Instr.entry (.pointer (some ⟨r, 0, none⟩))).run P W1 = .ok (.tuple #[.int .i64 x, e.val]) W1 := by
  have h' := h
  obtain ⟨es, he, hg, hr⟩ := h
  have hgr : g ≠ r := fun q => by rw [q, hr] at hg; cases hg
  have hsub : ∀ y ∈ es.toList, y ∈ es0.toList := fun y hy => by rw [he] at hy; exact (List.mem_filter.1 hy).1
  rcases run_next_at (P := P) W ty r g c c sn es c hr hg (fun y hy => hM.old y (hsub y hy)) (Nat.le_refl _) with ⟨h0, hrun⟩ | ⟨e, hm, w1, hw1, hrun⟩
  · left
    refine ⟨hrun, h'.done hM fun es2 hg2 => ?_⟩
    rw [hg] at hg2
    injection hg2 with q
    injection q with q1 _
    rw [← q1]; exact h0
  · right
    unfold leftOf at hm
    rw [Array.mem_toList_iff, Array.mem_filter] at hm
    obtain ⟨hm1, hs⟩ := hm
    have hm2 : e ∈ es.toList := by rw [Array.mem_toList_iff]; exact hm1
    obtain ⟨x, hx⟩ := Qd8 hM (hsub e hm2)
    have hh : w1.heap = W.heap ∧ w1.os = W.os ∧ w1.tape = W.tape ∧ w1.output = W.output := by
      rcases hw1 with rfl | rfl
      · exact ⟨rfl, rfl, rfl, rfl⟩
      · exact ⟨rfl, (Qa2 W).os, (Qa2 W).tape, (Qa2 W).output⟩
    have hP : Puts W r (ChangeMaps.setBlock w1 r (.mapIter (some g) c (sn.push e.born) c)) := ⟨hh.2.1, hh.2.2.1, hh.2.2.2, by simp [ChangeMaps.setBlock, hh.1], fun i hi => by simp only [ChangeMaps.setBlock, hh.1]; exact Array.getElem?_setIfInBounds_ne (fun e => hi e.symm)⟩
    have hr1 : (ChangeMaps.setBlock w1 r (.mapIter (some g) c (sn.push e.born) c)).heap[r]? = some (.mapIter (some g) c (sn.push e.born) c) := by simp only [ChangeMaps.setBlock, hh.1]; exact Array.getElem?_setIfInBounds_self_of_lt (Qar hr)
    have hg1 := (hP.2.2.2.2 g hgr).trans hg
    refine ⟨e, x, _, hx, by rw [hrun, hx], hP, ⟨es, he, hg1, hr1, hm2, by simpa using hs⟩, ?_⟩
    rw [← hx]
    exact run_entry_at _ r g c sn es c e hr1 hg1 hm2 (by rw [he]; exact hM.born.sublist ((List.filter_sublist).map _))
end
end Go.Proofs.YtibegnjaphohaaaDoor.Auto
end
section
namespace Go.Proofs.YtibegnjaphohaaaDoor.Cn
open Go Go.RowKit
open Rely Auto Own Sha
set_option linter.unusedVariables false
set_option linter.unusedSimpArgs false
theorem Qbo (v : Int) (h : -5000000000 ≤ v ∧ v ≤ 5000000000) : IntKind.i64.wrap v = v := IntWalk.i64_in _ (by omega)
theorem shrB (B j : Nat) (hj : j < 64) : ((B : Nat) : Int).fdiv (2 ^ min ((j : Nat) : Int).toNat IntKind.u64.bits) = ((B / 2 ^ j : Nat) : Int) := by
  rw [show min (((j : Nat) : Int).toNat) IntKind.u64.bits = j by show min (((j : Nat) : Int).toNat) 64 = j; omega]
  rw [Int.fdiv_eq_ediv_of_nonneg _ (Int.le_of_lt (Int.pow_pos (by decide))), Int.natCast_ediv, Int.natCast_pow]
  rfl
theorem andB (m : Nat) (h : m < 18446744073709551616) : bits .and .u64 ((m : Nat) : Int) 1 = ((m % 2 : Nat) : Int) := by
  rw [show (1 : Int) = ((1 : Nat) : Int) from rfl, bits_and_u64_nat m 1 h (by omega), Nat.and_one_is_mod]
theorem orB (a b : Nat) (ha : a < 18446744073709551616) (hb : b < 18446744073709551616) : bits .or .u64 ((a : Nat) : Int) ((b : Nat) : Int) = ((a ||| b : Nat) : Int) := by
  have h := u64_or (a : Int) b (by omega) (by omega) (by omega) (by omega)
  simpa using h
theorem QjC (m : Nat) : IntKind.u64.wrap ((m : Nat) : Int) = ((m % 18446744073709551616 : Nat) : Int) := by rw [IntKind.wrap_u64]; omega
theorem QgI (B a : Nat) (h : 64 ≤ a) : B * 2 ^ a % 18446744073709551616 = 0 := by
  obtain ⟨c, rfl⟩ : ∃ c, a = 64 + c := ⟨a - 64, by omega⟩
  rw [Nat.pow_add, ← Nat.mul_assoc, Nat.mul_comm B, Nat.mul_assoc]
  exact Nat.mul_mod_right _ _
theorem shlB (B a : Nat) : IntKind.u64.wrap (((B : Nat) : Int) * 2 ^ min ((a : Nat) : Int).toNat IntKind.u64.bits) = ((B * 2 ^ a % 18446744073709551616 : Nat) : Int) := by
  have e : ∀ c : Nat, ((B : Nat) : Int) * 2 ^ c = ((B * 2 ^ c : Nat) : Int) := fun c => by rw [Int.natCast_mul, Int.natCast_pow]; rfl
  rw [e, QjC]
  have hm : min (((a : Nat) : Int).toNat) IntKind.u64.bits = min a 64 := by show min (((a : Nat) : Int).toNat) 64 = min a 64; rw [Int.toNat_natCast]
  rw [hm]
  rcases Nat.lt_or_ge a 64 with h | h
  · rw [show min a 64 = a by omega]
  · rw [show min a 64 = 64 by omega, QgI B 64 (by omega), QgI B a h]
def chkW (nx : Int) (B : Nat) (n : Int) : Int := if n < 0 ∨ 4294967295 ≤ n then 8 else if 64 < nx - 1 - n then 11 else if nx - 1 - n = 0 ∨ (0 < nx - 1 - n ∧ B / 2 ^ (nx - 1 - n - 1).toNat % 2 = 1) then 7 else 0
def errV (e : Int) : Value := if e = 0 then .nilIface else .iface 47 (.int .i64 e)
set_option maxHeartbeats 4000000 in
theorem QbL (g : Nat) (nx : Int) (B : Nat) (hnx : 0 ≤ nx ∧ nx ≤ 4294967295) (hB : B < 18446744073709551616) (sec : List Int) (pl mg : Nat) (hsec : sec.length = 32) (w : World) (hg : w.heap[g]? = some (.cells (cat [#[.int .i64 nx], #[.int .u64 ((B : Nat) : Int)], ints .u8 (sec), #[.int .i64 ((pl : Nat) : Int)], #[.map (some mg)]]) 84)) : Calls Tryd.prog 55 #[.pointer (some ⟨g, 0, none⟩)] w (Ret w (.int .i64 (nx - 1))) := by
  refine enter 8 [(0, .pointer (some ⟨g, 0, none⟩))] Tryd.func55 rfl rfl kj rfl ?_
  refine wp_seq_k fun K2 hK2 => ?_
  refine Qab ?_
  refine Qaa (.int .i64 0) 2 rfl kj kj ?_
  refine Qac ?_
  refine hK2 _ _ ?_
  refine wp_seq_k fun K3 hK3 => ?_
  refine Qab ?_
  refine Qaa (.pointer (some ⟨g, 0, none⟩)) 3 rfl kj kj ?_
  refine Qaa (.pointer (some ⟨g, 0, none⟩)) 4 rfl kj kj ?_
  refine Qaa (.pointer (some ⟨g, 0, none⟩)) 5 rfl kj kj ?_
  refine Qaa (.int .i64 nx) 6 rfl kj (Qal 3 _ g 0 84 _ (.int .i64 nx) _ hg rfl kj (Qat [] [#[.int .i64 nx]] [#[.int .u64 ((B : Nat) : Int)], ints .u8 (sec), #[.int .i64 ((pl : Nat) : Int)], #[.map (some mg)]] 0 kj 0 _ rfl) kj) ?_
  refine Qaa (.int .i64 (nx - 1)) 7 rfl kj (Qah (u := .int .i64 (IntKind.i64.wrap (nx - 1))) kj (congrArg (Value.int .i64) (Qbo _ (by omega)))) ?_
  refine Qaa (.int .i64 (nx - 1)) 2 rfl kj kj ?_
  refine Qac ?_
  refine hK3 _ _ ?_
  refine wp_ret ?_
  repeat (first | with_reducible refine goR1 ?_ | with_reducible refine goR2 ?_)
  exact (show bodyPost _ _ _ .ret _ _ from ret1 (.int .i64 (nx - 1)) rfl (Qa9 kj) ⟨rfl, (Rely.Ext.refl w)⟩)
set_option maxHeartbeats 4000000 in
theorem QfM (g : Nat) (nx : Int) (B : Nat) (hnx : 0 ≤ nx ∧ nx ≤ 4294967295) (hB : B < 18446744073709551616) (sec : List Int) (pl mg : Nat) (hsec : sec.length = 32) (w : World) (hg : w.heap[g]? = some (.cells (cat [#[.int .i64 nx], #[.int .u64 ((B : Nat) : Int)], ints .u8 (sec), #[.int .i64 ((pl : Nat) : Int)], #[.map (some mg)]]) 84)) : Calls Tryd.prog 47 #[.pointer (some ⟨g, 0, none⟩)] w (Ret w (.int .i64 (nx - 1))) := by
  refine enter 9 [(0, .pointer (some ⟨g, 0, none⟩))] Tryd.func47 rfl rfl kj rfl ?_
  refine wp_seq_k fun K2 hK2 => ?_
  refine Qab ?_
  refine Qaa (.int .i64 0) 2 rfl kj kj ?_
  refine Qac ?_
  refine hK2 _ _ ?_
  refine wp_seq_k fun K3 hK3 => ?_
  refine wp_seq_k fun K4 hK4 => ?_
  refine Qab ?_
  refine Qaa (.pointer (some ⟨g, 0, none⟩)) 3 rfl kj kj ?_
  refine Qaa (.bool false) 4 rfl kj kj ?_
  refine Qac ?_
  refine hK4 _ _ ?_
  refine cond_false kj ?_
  refine wp_skip ?_
  refine hK3 _ _ ?_
  refine wp_seq_k fun K5 hK5 => ?_
  refine Qab ?_
  refine Qaa (.pointer (some ⟨g, 0, none⟩)) 5 rfl kj kj ?_
  refine Qaa (.pointer (some ⟨g, 0, none⟩)) 6 rfl kj kj ?_
  refine Qaa (.pointer (some ⟨g, 0, none⟩)) 7 rfl kj kj ?_
  refine Qau (.int .i64 (nx - 1)) 55 #[.pointer (some ⟨g, 0, none⟩)] 8 rfl kj kj (QbL g nx B hnx hB sec pl mg hsec _ hg) fun W1 e1 => ?_
  have x1 : Ext w W1 := Ext.tr (Rely.Ext.refl w) e1
  refine Qaa (.int .i64 (nx - 1)) 2 rfl kj kj ?_
  refine Qac ?_
  refine hK5 _ _ ?_
  refine wp_ret ?_
  repeat (first | with_reducible refine goR1 ?_ | with_reducible refine goR2 ?_)
  exact (show bodyPost _ _ _ .ret _ _ from ret1 (.int .i64 (nx - 1)) rfl (Qa9 kj) ⟨rfl, x1⟩)
set_option maxHeartbeats 4000000 in
theorem QiO (g : Nat) (nx : Int) (B : Nat) (n : Int) (hnx : 0 ≤ nx ∧ nx ≤ 4294967295) (hB : B < 18446744073709551616) (sec : List Int) (pl mg : Nat) (hsec : sec.length = 32) (w : World) (hg : w.heap[g]? = some (.cells (cat [#[.int .i64 nx], #[.int .u64 ((B : Nat) : Int)], ints .u8 (sec), #[.int .i64 ((pl : Nat) : Int)], #[.map (some mg)]]) 84)) (hc : n < 0) : Calls Tryd.prog 53 #[.pointer (some ⟨g, 0, none⟩), .int .i64 n] w (Ret w (.iface 47 (.int .i64 8))) := by
  refine enter 38 [(0, .pointer (some ⟨g, 0, none⟩)), (1, .int .i64 n)] Tryd.func53 rfl rfl kj rfl ?_
  refine wp_seq_k fun K2 hK2 => ?_
  refine Qab ?_
  refine Qaa (.nilIface) 4 rfl kj kj ?_
  refine Qac ?_
  refine hK2 _ _ ?_
  refine wp_seq_k fun K3 hK3 => ?_
  refine wp_seq_k fun K4 hK4 => ?_
  refine Qab ?_
  refine Qaa (.int .i64 n) 6 rfl kj kj ?_
  refine Qaa (.bool true) 7 rfl kj (Qah (u := .bool (decide (n < 0))) kj (congrArg Value.bool (decide_eq_true (by omega)))) ?_
  refine Qaa (.bool true) 8 rfl kj kj ?_
  refine Qax 9 rfl kj ?_
  refine Qax 10 rfl kj ?_
  refine Qaa (.bool true) 11 rfl kj kj ?_
  refine Qac ?_
  refine hK4 _ _ ?_
  refine cond_true kj ?_
  refine wp_seq_k fun K5 hK5 => ?_
  refine Qab ?_
  refine Qaa (.iface 47 (.int .i64 8)) 12 rfl kj kj ?_
  refine Qaa (.iface 47 (.int .i64 8)) 4 rfl kj kj ?_
  refine Qac ?_
  refine hK5 _ _ ?_
  refine wp_ret ?_
  repeat (first | with_reducible refine goR1 ?_ | with_reducible refine goR2 ?_)
  exact (show bodyPost _ _ _ .ret _ _ from ret1 (.iface 47 (.int .i64 8)) rfl (Qa9 kj) ⟨rfl, (Rely.Ext.refl w)⟩)
set_option maxHeartbeats 4000000 in
theorem QiN (g : Nat) (nx : Int) (B : Nat) (n : Int) (hnx : 0 ≤ nx ∧ nx ≤ 4294967295) (hB : B < 18446744073709551616) (sec : List Int) (pl mg : Nat) (hsec : sec.length = 32) (w : World) (hg : w.heap[g]? = some (.cells (cat [#[.int .i64 nx], #[.int .u64 ((B : Nat) : Int)], ints .u8 (sec), #[.int .i64 ((pl : Nat) : Int)], #[.map (some mg)]]) 84)) (hc : 4294967295 ≤ n) : Calls Tryd.prog 53 #[.pointer (some ⟨g, 0, none⟩), .int .i64 n] w (Ret w (.iface 47 (.int .i64 8))) := by
  refine enter 38 [(0, .pointer (some ⟨g, 0, none⟩)), (1, .int .i64 n)] Tryd.func53 rfl rfl kj rfl ?_
  refine wp_seq_k fun K2 hK2 => ?_
  refine Qab ?_
  refine Qaa (.nilIface) 4 rfl kj kj ?_
  refine Qac ?_
  refine hK2 _ _ ?_
  refine wp_seq_k fun K3 hK3 => ?_
  refine wp_seq_k fun K4 hK4 => ?_
  refine Qab ?_
  refine Qaa (.int .i64 n) 6 rfl kj kj ?_
  refine Qaa (.bool false) 7 rfl kj (Qah (u := .bool (decide (n < 0))) kj (congrArg Value.bool (decide_eq_false (by omega)))) ?_
  refine Qaa (.bool false) 8 rfl kj kj ?_
  refine Qaa (.int .i64 n) 9 rfl kj kj ?_
  refine Qaa (.bool true) 10 rfl kj (Qah (u := .bool (decide (n ≥ 4294967295))) kj (congrArg Value.bool (decide_eq_true (by omega)))) ?_
  refine Qaa (.bool true) 11 rfl kj kj ?_
  refine Qac ?_
  refine hK4 _ _ ?_
  refine cond_true kj ?_
  refine wp_seq_k fun K5 hK5 => ?_
  refine Qab ?_
  refine Qaa (.iface 47 (.int .i64 8)) 12 rfl kj kj ?_
  refine Qaa (.iface 47 (.int .i64 8)) 4 rfl kj kj ?_
  refine Qac ?_
  refine hK5 _ _ ?_
  refine wp_ret ?_
  repeat (first | with_reducible refine goR1 ?_ | with_reducible refine goR2 ?_)
  exact (show bodyPost _ _ _ .ret _ _ from ret1 (.iface 47 (.int .i64 8)) rfl (Qa9 kj) ⟨rfl, (Rely.Ext.refl w)⟩)
set_option maxHeartbeats 4000000 in
theorem QiM (g : Nat) (nx : Int) (B : Nat) (n : Int) (hnx : 0 ≤ nx ∧ nx ≤ 4294967295) (hB : B < 18446744073709551616) (sec : List Int) (pl mg : Nat) (hsec : sec.length = 32) (w : World) (hg : w.heap[g]? = some (.cells (cat [#[.int .i64 nx], #[.int .u64 ((B : Nat) : Int)], ints .u8 (sec), #[.int .i64 ((pl : Nat) : Int)], #[.map (some mg)]]) 84)) (hn : 0 ≤ n ∧ n < 4294967295) (hc : 64 < nx - 1 - n) : Calls Tryd.prog 53 #[.pointer (some ⟨g, 0, none⟩), .int .i64 n] w (Ret w (.iface 47 (.int .i64 11))) := by
  refine enter 38 [(0, .pointer (some ⟨g, 0, none⟩)), (1, .int .i64 n)] Tryd.func53 rfl rfl kj rfl ?_
  refine wp_seq_k fun K2 hK2 => ?_
  refine Qab ?_
  refine Qaa (.nilIface) 4 rfl kj kj ?_
  refine Qac ?_
  refine hK2 _ _ ?_
  refine wp_seq_k fun K3 hK3 => ?_
  refine wp_seq_k fun K4 hK4 => ?_
  refine Qab ?_
  refine Qaa (.int .i64 n) 6 rfl kj kj ?_
  refine Qaa (.bool false) 7 rfl kj (Qah (u := .bool (decide (n < 0))) kj (congrArg Value.bool (decide_eq_false (by omega)))) ?_
  refine Qaa (.bool false) 8 rfl kj kj ?_
  refine Qaa (.int .i64 n) 9 rfl kj kj ?_
  refine Qaa (.bool false) 10 rfl kj (Qah (u := .bool (decide (n ≥ 4294967295))) kj (congrArg Value.bool (decide_eq_false (by omega)))) ?_
  refine Qaa (.bool false) 11 rfl kj kj ?_
  refine Qac ?_
  refine hK4 _ _ ?_
  refine cond_false kj ?_
  refine wp_skip ?_
  refine hK3 _ _ ?_
  refine wp_seq_k fun K5 hK5 => ?_
  refine Qab ?_
  refine Qaa (.pointer (some ⟨g, 0, none⟩)) 13 rfl kj kj ?_
  refine Qau (.int .i64 (nx - 1)) 55 #[.pointer (some ⟨g, 0, none⟩)] 14 rfl kj kj (QbL g nx B hnx hB sec pl mg hsec _ hg) fun W1 e1 => ?_
  have x1 : Ext w W1 := Ext.tr (Rely.Ext.refl w) e1
  refine Qaa (.int .i64 n) 15 rfl kj kj ?_
  refine Qaa (.int .i64 (nx - 1 - n)) 16 rfl kj (Qah (u := .int .i64 (IntKind.i64.wrap ((nx - 1) - n))) kj (congrArg (Value.int .i64) (Qbo _ (by omega)))) ?_
  refine Qaa (.int .i64 (nx - 1 - n)) 5 rfl kj kj ?_
  refine Qac ?_
  refine hK5 _ _ ?_
  refine wp_seq_k fun K6 hK6 => ?_
  refine wp_seq_k fun K7 hK7 => ?_
  refine Qab ?_
  refine Qaa (.int .i64 (nx - 1 - n)) 17 rfl kj kj ?_
  refine Qaa (.bool true) 18 rfl kj (Qah (u := .bool (decide ((nx - 1 - n) > 64))) kj (congrArg Value.bool (decide_eq_true (by omega)))) ?_
  refine Qac ?_
  refine hK7 _ _ ?_
  refine cond_true kj ?_
  refine wp_seq_k fun K8 hK8 => ?_
  refine Qab ?_
  refine Qaa (.iface 47 (.int .i64 11)) 19 rfl kj kj ?_
  refine Qaa (.iface 47 (.int .i64 11)) 4 rfl kj kj ?_
  refine Qac ?_
  refine hK8 _ _ ?_
  refine wp_ret ?_
  repeat (first | with_reducible refine goR1 ?_ | with_reducible refine goR2 ?_)
  exact (show bodyPost _ _ _ .ret _ _ from ret1 (.iface 47 (.int .i64 11)) rfl (Qa9 kj) ⟨rfl, x1⟩)
set_option maxHeartbeats 4000000 in
theorem QiL (g : Nat) (nx : Int) (B : Nat) (n : Int) (hnx : 0 ≤ nx ∧ nx ≤ 4294967295) (hB : B < 18446744073709551616) (sec : List Int) (pl mg : Nat) (hsec : sec.length = 32) (w : World) (hg : w.heap[g]? = some (.cells (cat [#[.int .i64 nx], #[.int .u64 ((B : Nat) : Int)], ints .u8 (sec), #[.int .i64 ((pl : Nat) : Int)], #[.map (some mg)]]) 84)) (hn : 0 ≤ n ∧ n < 4294967295) (hc : nx - 1 - n = 0) : Calls Tryd.prog 53 #[.pointer (some ⟨g, 0, none⟩), .int .i64 n] w (Ret w (.iface 47 (.int .i64 7))) := by
  refine enter 38 [(0, .pointer (some ⟨g, 0, none⟩)), (1, .int .i64 n)] Tryd.func53 rfl rfl kj rfl ?_
  refine wp_seq_k fun K2 hK2 => ?_
  refine Qab ?_
  refine Qaa (.nilIface) 4 rfl kj kj ?_
  refine Qac ?_
  refine hK2 _ _ ?_
  refine wp_seq_k fun K3 hK3 => ?_
  refine wp_seq_k fun K4 hK4 => ?_
  refine Qab ?_
  refine Qaa (.int .i64 n) 6 rfl kj kj ?_
  refine Qaa (.bool false) 7 rfl kj (Qah (u := .bool (decide (n < 0))) kj (congrArg Value.bool (decide_eq_false (by omega)))) ?_
  refine Qaa (.bool false) 8 rfl kj kj ?_
  refine Qaa (.int .i64 n) 9 rfl kj kj ?_
  refine Qaa (.bool false) 10 rfl kj (Qah (u := .bool (decide (n ≥ 4294967295))) kj (congrArg Value.bool (decide_eq_false (by omega)))) ?_
  refine Qaa (.bool false) 11 rfl kj kj ?_
  refine Qac ?_
  refine hK4 _ _ ?_
  refine cond_false kj ?_
  refine wp_skip ?_
  refine hK3 _ _ ?_
  refine wp_seq_k fun K5 hK5 => ?_
  refine Qab ?_
  refine Qaa (.pointer (some ⟨g, 0, none⟩)) 13 rfl kj kj ?_
  refine Qau (.int .i64 (nx - 1)) 55 #[.pointer (some ⟨g, 0, none⟩)] 14 rfl kj kj (QbL g nx B hnx hB sec pl mg hsec _ hg) fun W1 e1 => ?_
  have x1 : Ext w W1 := Ext.tr (Rely.Ext.refl w) e1
  refine Qaa (.int .i64 n) 15 rfl kj kj ?_
  refine Qaa (.int .i64 (nx - 1 - n)) 16 rfl kj (Qah (u := .int .i64 (IntKind.i64.wrap ((nx - 1) - n))) kj (congrArg (Value.int .i64) (Qbo _ (by omega)))) ?_
  refine Qaa (.int .i64 (nx - 1 - n)) 5 rfl kj kj ?_
  refine Qac ?_
  refine hK5 _ _ ?_
  refine wp_seq_k fun K6 hK6 => ?_
  refine wp_seq_k fun K7 hK7 => ?_
  refine Qab ?_
  refine Qaa (.int .i64 (nx - 1 - n)) 17 rfl kj kj ?_
  refine Qaa (.bool false) 18 rfl kj (Qah (u := .bool (decide ((nx - 1 - n) > 64))) kj (congrArg Value.bool (decide_eq_false (by omega)))) ?_
  refine Qac ?_
  refine hK7 _ _ ?_
  refine cond_false kj ?_
  refine wp_skip ?_
  refine hK6 _ _ ?_
  refine wp_seq_k fun K8 hK8 => ?_
  refine wp_seq_k fun K9 hK9 => ?_
  refine Qab ?_
  refine Qaa (.int .i64 (nx - 1 - n)) 20 rfl kj kj ?_
  refine Qaa (.bool true) 21 rfl kj (Qah (u := .bool (((nx - 1 - n) == 0))) kj (congrArg Value.bool (by simp; omega))) ?_
  refine Qaa (.bool true) 22 rfl kj kj ?_
  refine Qax 23 rfl kj ?_
  refine Qax 24 rfl kj ?_
  refine Qax 25 rfl kj ?_
  refine Qax 26 rfl kj ?_
  refine Qax 27 rfl kj ?_
  refine Qax 28 rfl kj ?_
  refine Qax 29 rfl kj ?_
  refine Qax 30 rfl kj ?_
  refine Qax 31 rfl kj ?_
  refine Qax 32 rfl kj ?_
  refine Qax 33 rfl kj ?_
  refine Qax 34 rfl kj ?_
  refine Qax 35 rfl kj ?_
  refine Qaa (.bool true) 36 rfl kj kj ?_
  refine Qac ?_
  refine hK9 _ _ ?_
  refine cond_true kj ?_
  refine wp_seq_k fun K10 hK10 => ?_
  refine Qab ?_
  refine Qaa (.iface 47 (.int .i64 7)) 37 rfl kj kj ?_
  refine Qaa (.iface 47 (.int .i64 7)) 4 rfl kj kj ?_
  refine Qac ?_
  refine hK10 _ _ ?_
  refine wp_ret ?_
  repeat (first | with_reducible refine goR1 ?_ | with_reducible refine goR2 ?_)
  exact (show bodyPost _ _ _ .ret _ _ from ret1 (.iface 47 (.int .i64 7)) rfl (Qa9 kj) ⟨rfl, x1⟩)
set_option maxHeartbeats 4000000 in
theorem QiK (g : Nat) (nx : Int) (B : Nat) (n : Int) (hnx : 0 ≤ nx ∧ nx ≤ 4294967295) (hB : B < 18446744073709551616) (sec : List Int) (pl mg : Nat) (hsec : sec.length = 32) (w : World) (hg : w.heap[g]? = some (.cells (cat [#[.int .i64 nx], #[.int .u64 ((B : Nat) : Int)], ints .u8 (sec), #[.int .i64 ((pl : Nat) : Int)], #[.map (some mg)]]) 84)) (hn : 0 ≤ n ∧ n < 4294967295) (j : Nat) (hj : nx - 1 - n - 1 = (j : Int)) (hj2 : j < 64) (hc : B / 2 ^ j % 2 = 1) : Calls Tryd.prog 53 #[.pointer (some ⟨g, 0, none⟩), .int .i64 n] w (Ret w (.iface 47 (.int .i64 7))) := by
  refine enter 38 [(0, .pointer (some ⟨g, 0, none⟩)), (1, .int .i64 n)] Tryd.func53 rfl rfl kj rfl ?_
  refine wp_seq_k fun K2 hK2 => ?_
  refine Qab ?_
  refine Qaa (.nilIface) 4 rfl kj kj ?_
  refine Qac ?_
  refine hK2 _ _ ?_
  refine wp_seq_k fun K3 hK3 => ?_
  refine wp_seq_k fun K4 hK4 => ?_
  refine Qab ?_
  refine Qaa (.int .i64 n) 6 rfl kj kj ?_
  refine Qaa (.bool false) 7 rfl kj (Qah (u := .bool (decide (n < 0))) kj (congrArg Value.bool (decide_eq_false (by omega)))) ?_
  refine Qaa (.bool false) 8 rfl kj kj ?_
  refine Qaa (.int .i64 n) 9 rfl kj kj ?_
  refine Qaa (.bool false) 10 rfl kj (Qah (u := .bool (decide (n ≥ 4294967295))) kj (congrArg Value.bool (decide_eq_false (by omega)))) ?_
  refine Qaa (.bool false) 11 rfl kj kj ?_
  refine Qac ?_
  refine hK4 _ _ ?_
  refine cond_false kj ?_
  refine wp_skip ?_
  refine hK3 _ _ ?_
  refine wp_seq_k fun K5 hK5 => ?_
  refine Qab ?_
  refine Qaa (.pointer (some ⟨g, 0, none⟩)) 13 rfl kj kj ?_
  refine Qau (.int .i64 (nx - 1)) 55 #[.pointer (some ⟨g, 0, none⟩)] 14 rfl kj kj (QbL g nx B hnx hB sec pl mg hsec _ hg) fun W1 e1 => ?_
  have x1 : Ext w W1 := Ext.tr (Rely.Ext.refl w) e1
  refine Qaa (.int .i64 n) 15 rfl kj kj ?_
  refine Qaa (.int .i64 (nx - 1 - n)) 16 rfl kj (Qah (u := .int .i64 (IntKind.i64.wrap ((nx - 1) - n))) kj (congrArg (Value.int .i64) (Qbo _ (by omega)))) ?_
  refine Qaa (.int .i64 (nx - 1 - n)) 5 rfl kj kj ?_
  refine Qac ?_
  refine hK5 _ _ ?_
  refine wp_seq_k fun K6 hK6 => ?_
  refine wp_seq_k fun K7 hK7 => ?_
  refine Qab ?_
  refine Qaa (.int .i64 (nx - 1 - n)) 17 rfl kj kj ?_
  refine Qaa (.bool false) 18 rfl kj (Qah (u := .bool (decide ((nx - 1 - n) > 64))) kj (congrArg Value.bool (decide_eq_false (by omega)))) ?_
  refine Qac ?_
  refine hK7 _ _ ?_
  refine cond_false kj ?_
  refine wp_skip ?_
  refine hK6 _ _ ?_
  refine wp_seq_k fun K8 hK8 => ?_
  refine wp_seq_k fun K9 hK9 => ?_
  refine Qab ?_
  refine Qaa (.int .i64 (nx - 1 - n)) 20 rfl kj kj ?_
  refine Qaa (.bool false) 21 rfl kj (Qah (u := .bool (((nx - 1 - n) == 0))) kj (congrArg Value.bool (by simp; omega))) ?_
  refine Qaa (.bool false) 22 rfl kj kj ?_
  refine Qaa (.int .i64 (nx - 1 - n)) 23 rfl kj kj ?_
  refine Qaa (.bool true) 24 rfl kj (Qah (u := .bool (decide ((nx - 1 - n) > 0))) kj (congrArg Value.bool (decide_eq_true (by omega)))) ?_
  refine Qaa (.bool true) 25 rfl kj kj ?_
  refine Qaa (.pointer (some ⟨g, 0, none⟩)) 26 rfl kj kj ?_
  refine Qaa (.pointer (some ⟨g, 0, none⟩)) 27 rfl kj kj ?_
  refine Qaa (.pointer (some ⟨g, 1, none⟩)) 28 rfl kj kj ?_
  have r1_1 := (Qad hg e1)
  refine Qaa (.int .u64 ((B : Nat) : Int)) 29 rfl kj (Qal 77 _ g 1 84 _ (.int .u64 ((B : Nat) : Int)) _ r1_1 rfl kj (Qat [#[.int .i64 nx]] [#[.int .u64 ((B : Nat) : Int)]] [ints .u8 (sec), #[.int .i64 ((pl : Nat) : Int)], #[.map (some mg)]] 1 kj 0 _ rfl) kj) ?_
  refine Qaa (.int .i64 (nx - 1 - n)) 30 rfl kj kj ?_
  refine Qaa (.int .i64 (((j : Nat) : Int))) 31 rfl kj (Qah (u := .int .i64 (IntKind.i64.wrap ((nx - 1 - n) - 1))) kj (congrArg (Value.int .i64) (by rw [hj]; exact Qbo _ (by omega)))) ?_
  refine Qaa (.int .u64 (((B / 2 ^ j : Nat) : Int))) 32 rfl kj (Qa1 .shr _ _ _ _ .u64 .i64 _ _ _ rfl kj kj (QaO _ _ _ _ _ _ (by omega) (shrB B j hj2))) ?_
  refine Qaa (.int .u64 (((B / 2 ^ j % 2 : Nat) : Int))) 33 rfl kj (Qah (u := .int .u64 (bits .and .u64 (((B / 2 ^ j : Nat) : Int)) (1))) kj (congrArg (Value.int .u64) (andB _ (Nat.lt_of_le_of_lt (Nat.div_le_self _ _) hB)))) ?_
  refine Qaa (.bool true) 34 rfl kj (Qah (u := .bool ((((B / 2 ^ j % 2 : Nat) : Int) == 1))) kj (congrArg Value.bool (by rw [hc]; rfl))) ?_
  refine Qaa (.bool true) 35 rfl kj kj ?_
  refine Qaa (.bool true) 36 rfl kj kj ?_
  refine Qac ?_
  refine hK9 _ _ ?_
  refine cond_true kj ?_
  refine wp_seq_k fun K10 hK10 => ?_
  refine Qab ?_
  refine Qaa (.iface 47 (.int .i64 7)) 37 rfl kj kj ?_
  refine Qaa (.iface 47 (.int .i64 7)) 4 rfl kj kj ?_
  refine Qac ?_
  refine hK10 _ _ ?_
  refine wp_ret ?_
  repeat (first | with_reducible refine goR1 ?_ | with_reducible refine goR2 ?_)
  exact (show bodyPost _ _ _ .ret _ _ from ret1 (.iface 47 (.int .i64 7)) rfl (Qa9 kj) ⟨rfl, x1⟩)
set_option maxHeartbeats 4000000 in
theorem QiJ (g : Nat) (nx : Int) (B : Nat) (n : Int) (hnx : 0 ≤ nx ∧ nx ≤ 4294967295) (hB : B < 18446744073709551616) (sec : List Int) (pl mg : Nat) (hsec : sec.length = 32) (w : World) (hg : w.heap[g]? = some (.cells (cat [#[.int .i64 nx], #[.int .u64 ((B : Nat) : Int)], ints .u8 (sec), #[.int .i64 ((pl : Nat) : Int)], #[.map (some mg)]]) 84)) (hn : 0 ≤ n ∧ n < 4294967295) (j : Nat) (hj : nx - 1 - n - 1 = (j : Int)) (hj2 : j < 64) (hc : B / 2 ^ j % 2 = 0) : Calls Tryd.prog 53 #[.pointer (some ⟨g, 0, none⟩), .int .i64 n] w (Ret w (.nilIface)) := by
  refine enter 38 [(0, .pointer (some ⟨g, 0, none⟩)), (1, .int .i64 n)] Tryd.func53 rfl rfl kj rfl ?_
  refine wp_seq_k fun K2 hK2 => ?_
  refine Qab ?_
  refine Qaa (.nilIface) 4 rfl kj kj ?_
  refine Qac ?_
  refine hK2 _ _ ?_
  refine wp_seq_k fun K3 hK3 => ?_
  refine wp_seq_k fun K4 hK4 => ?_
  refine Qab ?_
  refine Qaa (.int .i64 n) 6 rfl kj kj ?_
  refine Qaa (.bool false) 7 rfl kj (Qah (u := .bool (decide (n < 0))) kj (congrArg Value.bool (decide_eq_false (by omega)))) ?_
  refine Qaa (.bool false) 8 rfl kj kj ?_
  refine Qaa (.int .i64 n) 9 rfl kj kj ?_
  refine Qaa (.bool false) 10 rfl kj (Qah (u := .bool (decide (n ≥ 4294967295))) kj (congrArg Value.bool (decide_eq_false (by omega)))) ?_
  refine Qaa (.bool false) 11 rfl kj kj ?_
  refine Qac ?_
  refine hK4 _ _ ?_
  refine cond_false kj ?_
  refine wp_skip ?_
  refine hK3 _ _ ?_
  refine wp_seq_k fun K5 hK5 => ?_
  refine Qab ?_
  refine Qaa (.pointer (some ⟨g, 0, none⟩)) 13 rfl kj kj ?_
  refine Qau (.int .i64 (nx - 1)) 55 #[.pointer (some ⟨g, 0, none⟩)] 14 rfl kj kj (QbL g nx B hnx hB sec pl mg hsec _ hg) fun W1 e1 => ?_
  have x1 : Ext w W1 := Ext.tr (Rely.Ext.refl w) e1
  refine Qaa (.int .i64 n) 15 rfl kj kj ?_
  refine Qaa (.int .i64 (nx - 1 - n)) 16 rfl kj (Qah (u := .int .i64 (IntKind.i64.wrap ((nx - 1) - n))) kj (congrArg (Value.int .i64) (Qbo _ (by omega)))) ?_
  refine Qaa (.int .i64 (nx - 1 - n)) 5 rfl kj kj ?_
  refine Qac ?_
  refine hK5 _ _ ?_
  refine wp_seq_k fun K6 hK6 => ?_
  refine wp_seq_k fun K7 hK7 => ?_
  refine Qab ?_
  refine Qaa (.int .i64 (nx - 1 - n)) 17 rfl kj kj ?_
  refine Qaa (.bool false) 18 rfl kj (Qah (u := .bool (decide ((nx - 1 - n) > 64))) kj (congrArg Value.bool (decide_eq_false (by omega)))) ?_
  refine Qac ?_
  refine hK7 _ _ ?_
  refine cond_false kj ?_
  refine wp_skip ?_
  refine hK6 _ _ ?_
  refine wp_seq_k fun K8 hK8 => ?_
  refine wp_seq_k fun K9 hK9 => ?_
  refine Qab ?_
  refine Qaa (.int .i64 (nx - 1 - n)) 20 rfl kj kj ?_
  refine Qaa (.bool false) 21 rfl kj (Qah (u := .bool (((nx - 1 - n) == 0))) kj (congrArg Value.bool (by simp; omega))) ?_
  refine Qaa (.bool false) 22 rfl kj kj ?_
  refine Qaa (.int .i64 (nx - 1 - n)) 23 rfl kj kj ?_
  refine Qaa (.bool true) 24 rfl kj (Qah (u := .bool (decide ((nx - 1 - n) > 0))) kj (congrArg Value.bool (decide_eq_true (by omega)))) ?_
  refine Qaa (.bool true) 25 rfl kj kj ?_
  refine Qaa (.pointer (some ⟨g, 0, none⟩)) 26 rfl kj kj ?_
  refine Qaa (.pointer (some ⟨g, 0, none⟩)) 27 rfl kj kj ?_
  refine Qaa (.pointer (some ⟨g, 1, none⟩)) 28 rfl kj kj ?_
  have r1_1 := (Qad hg e1)
  refine Qaa (.int .u64 ((B : Nat) : Int)) 29 rfl kj (Qal 77 _ g 1 84 _ (.int .u64 ((B : Nat) : Int)) _ r1_1 rfl kj (Qat [#[.int .i64 nx]] [#[.int .u64 ((B : Nat) : Int)]] [ints .u8 (sec), #[.int .i64 ((pl : Nat) : Int)], #[.map (some mg)]] 1 kj 0 _ rfl) kj) ?_
  refine Qaa (.int .i64 (nx - 1 - n)) 30 rfl kj kj ?_
  refine Qaa (.int .i64 (((j : Nat) : Int))) 31 rfl kj (Qah (u := .int .i64 (IntKind.i64.wrap ((nx - 1 - n) - 1))) kj (congrArg (Value.int .i64) (by rw [hj]; exact Qbo _ (by omega)))) ?_
  refine Qaa (.int .u64 (((B / 2 ^ j : Nat) : Int))) 32 rfl kj (Qa1 .shr _ _ _ _ .u64 .i64 _ _ _ rfl kj kj (QaO _ _ _ _ _ _ (by omega) (shrB B j hj2))) ?_
  refine Qaa (.int .u64 (((B / 2 ^ j % 2 : Nat) : Int))) 33 rfl kj (Qah (u := .int .u64 (bits .and .u64 (((B / 2 ^ j : Nat) : Int)) (1))) kj (congrArg (Value.int .u64) (andB _ (Nat.lt_of_le_of_lt (Nat.div_le_self _ _) hB)))) ?_
  refine Qaa (.bool false) 34 rfl kj (Qah (u := .bool ((((B / 2 ^ j % 2 : Nat) : Int) == 1))) kj (congrArg Value.bool (by rw [hc]; rfl))) ?_
  refine Qaa (.bool false) 35 rfl kj kj ?_
  refine Qaa (.bool false) 36 rfl kj kj ?_
  refine Qac ?_
  refine hK9 _ _ ?_
  refine cond_false kj ?_
  refine wp_skip ?_
  refine hK8 _ _ ?_
  refine wp_seq_k fun K10 hK10 => ?_
  refine Qab ?_
  refine Qaa (.nilIface) 4 rfl kj kj ?_
  refine Qac ?_
  refine hK10 _ _ ?_
  refine wp_ret ?_
  repeat (first | with_reducible refine goR1 ?_ | with_reducible refine goR2 ?_)
  exact (show bodyPost _ _ _ .ret _ _ from ret1 (.nilIface) rfl (Qa9 kj) ⟨rfl, x1⟩)
set_option maxHeartbeats 4000000 in
theorem QiI (g : Nat) (nx : Int) (B : Nat) (n : Int) (hnx : 0 ≤ nx ∧ nx ≤ 4294967295) (hB : B < 18446744073709551616) (sec : List Int) (pl mg : Nat) (hsec : sec.length = 32) (w : World) (hg : w.heap[g]? = some (.cells (cat [#[.int .i64 nx], #[.int .u64 ((B : Nat) : Int)], ints .u8 (sec), #[.int .i64 ((pl : Nat) : Int)], #[.map (some mg)]]) 84)) (hn : 0 ≤ n ∧ n < 4294967295) (hc : nx - 1 - n < 0) : Calls Tryd.prog 53 #[.pointer (some ⟨g, 0, none⟩), .int .i64 n] w (Ret w (.nilIface)) := by
  refine enter 38 [(0, .pointer (some ⟨g, 0, none⟩)), (1, .int .i64 n)] Tryd.func53 rfl rfl kj rfl ?_
  refine wp_seq_k fun K2 hK2 => ?_
  refine Qab ?_
  refine Qaa (.nilIface) 4 rfl kj kj ?_
  refine Qac ?_
  refine hK2 _ _ ?_
  refine wp_seq_k fun K3 hK3 => ?_
  refine wp_seq_k fun K4 hK4 => ?_
  refine Qab ?_
  refine Qaa (.int .i64 n) 6 rfl kj kj ?_
  refine Qaa (.bool false) 7 rfl kj (Qah (u := .bool (decide (n < 0))) kj (congrArg Value.bool (decide_eq_false (by omega)))) ?_
  refine Qaa (.bool false) 8 rfl kj kj ?_
  refine Qaa (.int .i64 n) 9 rfl kj kj ?_
  refine Qaa (.bool false) 10 rfl kj (Qah (u := .bool (decide (n ≥ 4294967295))) kj (congrArg Value.bool (decide_eq_false (by omega)))) ?_
  refine Qaa (.bool false) 11 rfl kj kj ?_
  refine Qac ?_
  refine hK4 _ _ ?_
  refine cond_false kj ?_
  refine wp_skip ?_
  refine hK3 _ _ ?_
  refine wp_seq_k fun K5 hK5 => ?_
  refine Qab ?_
  refine Qaa (.pointer (some ⟨g, 0, none⟩)) 13 rfl kj kj ?_
  refine Qau (.int .i64 (nx - 1)) 55 #[.pointer (some ⟨g, 0, none⟩)] 14 rfl kj kj (QbL g nx B hnx hB sec pl mg hsec _ hg) fun W1 e1 => ?_
  have x1 : Ext w W1 := Ext.tr (Rely.Ext.refl w) e1
  refine Qaa (.int .i64 n) 15 rfl kj kj ?_
  refine Qaa (.int .i64 (nx - 1 - n)) 16 rfl kj (Qah (u := .int .i64 (IntKind.i64.wrap ((nx - 1) - n))) kj (congrArg (Value.int .i64) (Qbo _ (by omega)))) ?_
  refine Qaa (.int .i64 (nx - 1 - n)) 5 rfl kj kj ?_
  refine Qac ?_
  refine hK5 _ _ ?_
  refine wp_seq_k fun K6 hK6 => ?_
  refine wp_seq_k fun K7 hK7 => ?_
  refine Qab ?_
  refine Qaa (.int .i64 (nx - 1 - n)) 17 rfl kj kj ?_
  refine Qaa (.bool false) 18 rfl kj (Qah (u := .bool (decide ((nx - 1 - n) > 64))) kj (congrArg Value.bool (decide_eq_false (by omega)))) ?_
  refine Qac ?_
  refine hK7 _ _ ?_
  refine cond_false kj ?_
  refine wp_skip ?_
  refine hK6 _ _ ?_
  refine wp_seq_k fun K8 hK8 => ?_
  refine wp_seq_k fun K9 hK9 => ?_
  refine Qab ?_
  refine Qaa (.int .i64 (nx - 1 - n)) 20 rfl kj kj ?_
  refine Qaa (.bool false) 21 rfl kj (Qah (u := .bool (((nx - 1 - n) == 0))) kj (congrArg Value.bool (by simp; omega))) ?_
  refine Qaa (.bool false) 22 rfl kj kj ?_
  refine Qaa (.int .i64 (nx - 1 - n)) 23 rfl kj kj ?_
  refine Qaa (.bool false) 24 rfl kj (Qah (u := .bool (decide ((nx - 1 - n) > 0))) kj (congrArg Value.bool (decide_eq_false (by omega)))) ?_
  refine Qaa (.bool false) 25 rfl kj kj ?_
  refine Qax 26 rfl kj ?_
  refine Qax 27 rfl kj ?_
  refine Qax 28 rfl kj ?_
  refine Qax 29 rfl kj ?_
  refine Qax 30 rfl kj ?_
  refine Qax 31 rfl kj ?_
  refine Qax 32 rfl kj ?_
  refine Qax 33 rfl kj ?_
  refine Qax 34 rfl kj ?_
  refine Qaa (.bool false) 35 rfl kj kj ?_
  refine Qaa (.bool false) 36 rfl kj kj ?_
  refine Qac ?_
  refine hK9 _ _ ?_
  refine cond_false kj ?_
  refine wp_skip ?_
  refine hK8 _ _ ?_
  refine wp_seq_k fun K10 hK10 => ?_
  refine Qab ?_
  refine Qaa (.nilIface) 4 rfl kj kj ?_
  refine Qac ?_
  refine hK10 _ _ ?_
  refine wp_ret ?_
  repeat (first | with_reducible refine goR1 ?_ | with_reducible refine goR2 ?_)
  exact (show bodyPost _ _ _ .ret _ _ from ret1 (.nilIface) rfl (Qa9 kj) ⟨rfl, x1⟩)
theorem Qhl (g : Nat) (nx : Int) (B : Nat) (n : Int) (hnx : 0 ≤ nx ∧ nx ≤ 4294967295) (hB : B < 18446744073709551616) (sec : List Int) (pl mg : Nat) (hsec : sec.length = 32) (w : World) (hg : w.heap[g]? = some (.cells (cat [#[.int .i64 nx], #[.int .u64 ((B : Nat) : Int)], ints .u8 (sec), #[.int .i64 ((pl : Nat) : Int)], #[.map (some mg)]]) 84)) : Calls Tryd.prog 53 #[.pointer (some ⟨g, 0, none⟩), .int .i64 n] w (Ret w (errV (chkW nx B n))) := by
  unfold chkW
  by_cases h1 : n < 0
  · rw [if_pos (.inl h1)]; exact QiO g nx B n hnx hB sec pl mg hsec w hg h1
  by_cases h2 : 4294967295 ≤ n
  · rw [if_pos (.inr h2)]; exact QiN g nx B n hnx hB sec pl mg hsec w hg h2
  rw [if_neg (by omega)]
  have hn : 0 ≤ n ∧ n < 4294967295 := by omega
  by_cases h3 : 64 < nx - 1 - n
  · rw [if_pos h3]; exact QiM g nx B n hnx hB sec pl mg hsec w hg hn h3
  rw [if_neg h3]
  by_cases h4 : nx - 1 - n = 0
  · rw [if_pos (.inl h4)]; exact QiL g nx B n hnx hB sec pl mg hsec w hg hn h4
  by_cases h5 : 0 < nx - 1 - n
  · obtain ⟨j, hj⟩ := Int.eq_ofNat_of_zero_le (show 0 ≤ nx - 1 - n - 1 by omega)
    have hj2 : j < 64 := by omega
    rw [hj, Int.toNat_natCast]
    have hm : B / 2 ^ j % 2 < 2 := Nat.mod_lt _ (by decide)
    by_cases h6 : B / 2 ^ j % 2 = 1
    · rw [if_pos (.inr ⟨h5, h6⟩)]; exact QiK g nx B n hnx hB sec pl mg hsec w hg hn j hj hj2 h6
    · rw [if_neg (by rintro (h | h); exact h4 h; exact h6 h.2)]; exact QiJ g nx B n hnx hB sec pl mg hsec w hg hn j hj hj2 (by omega)
  · rw [if_neg (by rintro (h | h); exact h4 h; exact h5 h.1)]; exact QiI g nx B n hnx hB sec pl mg hsec w hg hn (by omega)
set_option maxHeartbeats 4000000 in
theorem Qhp (g : Nat) (nx : Int) (B : Nat) (n : Int) (hnx : 0 ≤ nx ∧ nx ≤ 4294967295) (hB : B < 18446744073709551616) (sec : List Int) (pl mg : Nat) (hsec : sec.length = 32) (w : World) (hg : w.heap[g]? = some (.cells (cat [#[.int .i64 nx], #[.int .u64 ((B : Nat) : Int)], ints .u8 (sec), #[.int .i64 ((pl : Nat) : Int)], #[.map (some mg)]]) 84)) : Calls Tryd.prog 43 #[.pointer (some ⟨g, 0, none⟩), .int .i64 n] w (Ret w (errV (chkW nx B n))) := by
  refine enter 13 [(0, .pointer (some ⟨g, 0, none⟩)), (1, .int .i64 n)] Tryd.func43 rfl rfl kj rfl ?_
  refine wp_seq_k fun K2 hK2 => ?_
  refine Qab ?_
  refine Qaa (.nilIface) 4 rfl kj kj ?_
  refine Qac ?_
  refine hK2 _ _ ?_
  refine wp_seq_k fun K3 hK3 => ?_
  refine wp_seq_k fun K4 hK4 => ?_
  refine Qab ?_
  refine Qaa (.pointer (some ⟨g, 0, none⟩)) 5 rfl kj kj ?_
  refine Qaa (.bool false) 6 rfl kj kj ?_
  refine Qac ?_
  refine hK4 _ _ ?_
  refine cond_false kj ?_
  refine wp_skip ?_
  refine hK3 _ _ ?_
  refine wp_seq_k fun K5 hK5 => ?_
  refine Qab ?_
  refine Qaa (.pointer (some ⟨g, 0, none⟩)) 8 rfl kj kj ?_
  refine Qaa (.pointer (some ⟨g, 0, none⟩)) 9 rfl kj kj ?_
  refine Qaa (.pointer (some ⟨g, 0, none⟩)) 10 rfl kj kj ?_
  refine Qaa (.int .i64 n) 11 rfl kj kj ?_
  refine Qau (errV (chkW nx B n)) 53 #[.pointer (some ⟨g, 0, none⟩), .int .i64 n] 12 rfl kj kj (Qhl g nx B n hnx hB sec pl mg hsec _ hg) fun W1 e1 => ?_
  have x1 : Ext w W1 := Ext.tr (Rely.Ext.refl w) e1
  refine Qaa (errV (chkW nx B n)) 4 rfl kj kj ?_
  refine Qac ?_
  refine hK5 _ _ ?_
  refine wp_ret ?_
  repeat (first | with_reducible refine goR1 ?_ | with_reducible refine goR2 ?_)
  exact (show bodyPost _ _ _ .ret _ _ from ret1 (errV (chkW nx B n)) rfl (Qa9 kj) ⟨rfl, x1⟩)
theorem Qer {e : Int} (h : e ≠ 0) : errV e = .iface 47 (.int .i64 e) := by unfold errV; rw [if_neg h]
theorem Qc1 {e : Int} (h : e = 0) : errV e = .nilIface := by unfold errV; rw [if_pos h]
theorem QiB (a b : Int) (h : -5000000000 ≤ a ∧ a ≤ 5000000000) (e : 0 - a = b) : IntKind.i64.wrap (0 - a) = b := by rw [e]; exact Qbo _ (by omega)
theorem Qfw (j : Nat) (h : j < 64) : 2 ^ j < 18446744073709551616 := Nat.pow_lt_pow_right (by decide) h
theorem shl1 (j : Nat) (h : j < 64) : IntKind.u64.wrap (1 * 2 ^ min ((j : Nat) : Int).toNat IntKind.u64.bits) = ((2 ^ j : Nat) : Int) := by
  have := shlB 1 j
  rw [Nat.one_mul, Nat.mod_eq_of_lt (Qfw j h)] at this
  exact this
set_option maxHeartbeats 4000000 in
theorem Qjo (g : Nat) (nx : Int) (B : Nat) (n : Int) (hnx : 0 ≤ nx ∧ nx ≤ 4294967295) (hB : B < 18446744073709551616) (sec : List Int) (pl mg : Nat) (hsec : sec.length = 32) (w : World) (hg : w.heap[g]? = some (.cells (cat [#[.int .i64 nx], #[.int .u64 ((B : Nat) : Int)], ints .u8 (sec), #[.int .i64 ((pl : Nat) : Int)], #[.map (some mg)]]) 84)) (hc : chkW nx B n = 0) (j : Nat) (hj : nx - 1 - n - 1 = (j : Int)) (hj2 : j < 64) : Calls Tryd.prog 54 #[.pointer (some ⟨g, 0, none⟩), .int .i64 n] w (fun e w' => e = .returned .nilIface ∧ ExtB g w w' ∧ w'.heap[g]? = some (.cells (cat [#[.int .i64 nx], #[.int .u64 ((B ||| 2 ^ j : Nat) : Int)], ints .u8 (sec), #[.int .i64 ((pl : Nat) : Int)], #[.map (some mg)]]) 84)) := by
  refine enter 48 [(0, .pointer (some ⟨g, 0, none⟩)), (1, .int .i64 n)] Tryd.func54 rfl rfl kj rfl ?_
  refine wp_seq_k fun K2 hK2 => ?_
  refine Qab ?_
  refine Qaa (.nilIface) 4 rfl kj kj ?_
  refine Qac ?_
  refine hK2 _ _ ?_
  refine wp_seq_k fun K3 hK3 => ?_
  refine wp_seq_k fun K4 hK4 => ?_
  refine Qab ?_
  refine Qaa (.pointer (some ⟨g, 0, none⟩)) 7 rfl kj kj ?_
  refine Qaa (.int .i64 n) 8 rfl kj kj ?_
  refine Qau (.nilIface) 53 #[.pointer (some ⟨g, 0, none⟩), .int .i64 n] 9 rfl kj kj (Qc1 hc ▸ Qhl g nx B n hnx hB sec pl mg hsec _ hg) fun W1 e1 => ?_
  have x1 : ExtB g w W1 := ExtB.ext (ExtB.refl g w) e1
  refine Qaa (.nilIface) 5 rfl kj kj ?_
  refine Qac ?_
  refine hK4 _ _ ?_
  refine wp_seq_k fun K5 hK5 => ?_
  refine Qab ?_
  refine Qaa (.nilIface) 10 rfl kj kj ?_
  refine Qaa (.bool false) 11 rfl kj kj ?_
  refine Qac ?_
  refine hK5 _ _ ?_
  refine cond_false kj ?_
  refine wp_skip ?_
  refine hK3 _ _ ?_
  refine wp_seq_k fun K6 hK6 => ?_
  refine Qab ?_
  refine Qaa (.int .i64 n) 13 rfl kj kj ?_
  refine Qaa (.pointer (some ⟨g, 0, none⟩)) 14 rfl kj kj ?_
  have r1_1 := (Qad hg e1)
  refine Qau (.int .i64 (nx - 1)) 55 #[.pointer (some ⟨g, 0, none⟩)] 15 rfl kj kj (QbL g nx B hnx hB sec pl mg hsec _ r1_1) fun W2 e2 => ?_
  have x2 : ExtB g w W2 := ExtB.ext x1 e2
  refine Qaa (.int .i64 (n - (nx - 1))) 16 rfl kj (Qah (u := .int .i64 (IntKind.i64.wrap (n - (nx - 1)))) kj (congrArg (Value.int .i64) (Qbo _ (by omega)))) ?_
  refine Qaa (.int .i64 (n - (nx - 1))) 6 rfl kj kj ?_
  refine Qac ?_
  refine hK6 _ _ ?_
  refine wp_seq_k fun K7 hK7 => ?_
  refine wp_seq_k fun K8 hK8 => ?_
  refine Qab ?_
  refine Qaa (.int .i64 (n - (nx - 1))) 17 rfl kj kj ?_
  refine Qaa (.bool true) 18 rfl kj (Qah (u := .bool (decide ((n - (nx - 1)) < 0))) kj (congrArg Value.bool (decide_eq_true (by omega)))) ?_
  refine Qac ?_
  refine hK8 _ _ ?_
  refine cond_true kj ?_
  refine wp_seq_k fun K9 hK9 => ?_
  refine QaN 11 [⟨none, [(0, none)]⟩, ⟨none, [(19, some 0)]⟩, ⟨none, [(20, some 1)]⟩, ⟨none, [(21, some 2)]⟩, ⟨none, [(6, none)]⟩, ⟨none, [(23, some 4)]⟩, ⟨none, [(24, some 5)]⟩, ⟨none, [(25, some 6)]⟩, ⟨none, [(22, some 3), (26, some 7)]⟩, ⟨none, [(19, some 0)]⟩, ⟨none, [(28, some 9)]⟩] kj kj fun F hF => ?_
  refine Qak (.pointer (some ⟨g, 0, none⟩)) kj kj (fun W => by kernel_rfl) ?_
  refine Qak (.pointer (some ⟨g, 0, none⟩)) kj kj (fun W => by kernel_rfl) ?_
  refine Qak (.pointer (some ⟨g, 1, none⟩)) kj kj (fun W => by kernel_rfl) ?_
  have r1_2 := (Qad r1_1 e2)
  refine QaI (.int .u64 ((B : Nat) : Int)) kj kj (fun W hR => (Qal 77 _ g 1 84 _ (.int .u64 ((B : Nat) : Int)) _ (Qad (Qad r1_2 (Qa2 _)) hR) rfl kj (Qat [#[.int .i64 nx]] [#[.int .u64 ((B : Nat) : Int)]] [ints .u8 (sec), #[.int .i64 ((pl : Nat) : Int)], #[.map (some mg)]] 1 kj 0 _ rfl) kj)) ?_
  refine Qak (.int .i64 (n - (nx - 1))) kj kj (fun W => by kernel_rfl) ?_
  refine Qak (.int .i64 (nx - 1 - n)) kj kj (fun W => (Qah (u := .int .i64 (IntKind.i64.wrap (0 - (n - (nx - 1))))) kj (congrArg (Value.int .i64) (QiB _ _ (by omega) (by omega))))) ?_
  refine Qak (.int .i64 (((j : Nat) : Int))) kj kj (fun W => (Qah (u := .int .i64 (IntKind.i64.wrap ((nx - 1 - n) - 1))) kj (congrArg (Value.int .i64) (by rw [hj]; exact Qbo _ (by omega))))) ?_
  refine Qak (.int .u64 (((2 ^ j : Nat) : Int))) kj kj (fun W => (Qa1 .shl _ _ _ _ .u64 .i64 _ _ _ rfl kj kj (Qfk _ _ _ _ _ _ (by omega) (shl1 j hj2)))) ?_
  refine Qak (.int .u64 (((B ||| 2 ^ j : Nat) : Int))) kj kj (fun W => (Qah (u := .int .u64 (bits .or .u64 (((B : Nat) : Int)) (((2 ^ j : Nat) : Int)))) kj (congrArg (Value.int .u64) (orB _ _ hB (Qfw j hj2))))) ?_
  refine Qak (.pointer (some ⟨g, 0, none⟩)) kj kj (fun W => by kernel_rfl) ?_
  refine Qak (.pointer (some ⟨g, 1, none⟩)) kj kj (fun W => by kernel_rfl) ?_
  refine QaQ (hF _ kj fun W3 e3 => ?_)
  simp only [ups, up, Kn.val, List.take_succ_cons, List.take_zero, List.drop_succ_cons, List.drop_zero, List.nil_append, List.cons_append]
  clear hF
  have x3 : ExtB g w W3 := ExtB.ext x2 e3
  have r1_3 := (Qad r1_2 e3)
  refine Qaj g _ (cat [#[.int .i64 nx], #[.int .u64 (((B ||| 2 ^ j : Nat) : Int))], ints .u8 (sec), #[.int .i64 ((pl : Nat) : Int)], #[.map (some mg)]]) 84 r1_3 rfl kj (Qba 77 _ _ g 1 84 [#[.int .i64 nx]] [ints .u8 (sec), #[.int .i64 ((pl : Nat) : Int)], #[.map (some mg)]] _ (.int .u64 (((B ||| 2 ^ j : Nat) : Int))) r1_3 rfl kj kj kj kj rfl rfl) fun W4 p4 r1_4 => ?_
  have x4 : ExtB g w W4 := ExtB.puts x3 p4
  refine Qac ?_
  refine hK9 _ _ ?_
  refine wp_seq_k fun K10 hK10 => ?_
  refine Qab ?_
  refine Qaa (.nilIface) 4 rfl kj kj ?_
  refine Qac ?_
  refine hK10 _ _ ?_
  refine wp_ret ?_
  repeat (first | with_reducible refine goR1 ?_ | with_reducible refine goR2 ?_)
  exact (show bodyPost _ _ _ .ret _ _ from ret1 (.nilIface) rfl (Qa9 kj) ⟨rfl, x4, r1_4⟩)
set_option maxHeartbeats 4000000 in
theorem Qjn (g : Nat) (nx : Int) (B : Nat) (n : Int) (hnx : 0 ≤ nx ∧ nx ≤ 4294967295) (hB : B < 18446744073709551616) (sec : List Int) (pl mg : Nat) (hsec : sec.length = 32) (w : World) (hg : w.heap[g]? = some (.cells (cat [#[.int .i64 nx], #[.int .u64 ((B : Nat) : Int)], ints .u8 (sec), #[.int .i64 ((pl : Nat) : Int)], #[.map (some mg)]]) 84)) (hc : chkW nx B n = 0) (hn : 0 ≤ n ∧ n < 4294967295) (a : Nat) (ha : n - (nx - 1) = (a : Int)) (ha1 : 1 ≤ a) : Calls Tryd.prog 54 #[.pointer (some ⟨g, 0, none⟩), .int .i64 n] w (fun e w' => e = .returned .nilIface ∧ ExtB g w w' ∧ w'.heap[g]? = some (.cells (cat [#[.int .i64 (n + 1)], #[.int .u64 ((B * 2 ^ a % 18446744073709551616 ||| 1 * 2 ^ (a - 1) % 18446744073709551616 : Nat) : Int)], ints .u8 (sec), #[.int .i64 ((pl : Nat) : Int)], #[.map (some mg)]]) 84)) := by
  refine enter 48 [(0, .pointer (some ⟨g, 0, none⟩)), (1, .int .i64 n)] Tryd.func54 rfl rfl kj rfl ?_
  refine wp_seq_k fun K2 hK2 => ?_
  refine Qab ?_
  refine Qaa (.nilIface) 4 rfl kj kj ?_
  refine Qac ?_
  refine hK2 _ _ ?_
  refine wp_seq_k fun K3 hK3 => ?_
  refine wp_seq_k fun K4 hK4 => ?_
  refine Qab ?_
  refine Qaa (.pointer (some ⟨g, 0, none⟩)) 7 rfl kj kj ?_
  refine Qaa (.int .i64 n) 8 rfl kj kj ?_
  refine Qau (.nilIface) 53 #[.pointer (some ⟨g, 0, none⟩), .int .i64 n] 9 rfl kj kj (Qc1 hc ▸ Qhl g nx B n hnx hB sec pl mg hsec _ hg) fun W1 e1 => ?_
  have x1 : ExtB g w W1 := ExtB.ext (ExtB.refl g w) e1
  refine Qaa (.nilIface) 5 rfl kj kj ?_
  refine Qac ?_
  refine hK4 _ _ ?_
  refine wp_seq_k fun K5 hK5 => ?_
  refine Qab ?_
  refine Qaa (.nilIface) 10 rfl kj kj ?_
  refine Qaa (.bool false) 11 rfl kj kj ?_
  refine Qac ?_
  refine hK5 _ _ ?_
  refine cond_false kj ?_
  refine wp_skip ?_
  refine hK3 _ _ ?_
  refine wp_seq_k fun K6 hK6 => ?_
  refine Qab ?_
  refine Qaa (.int .i64 n) 13 rfl kj kj ?_
  refine Qaa (.pointer (some ⟨g, 0, none⟩)) 14 rfl kj kj ?_
  have r1_1 := (Qad hg e1)
  refine Qau (.int .i64 (nx - 1)) 55 #[.pointer (some ⟨g, 0, none⟩)] 15 rfl kj kj (QbL g nx B hnx hB sec pl mg hsec _ r1_1) fun W2 e2 => ?_
  have x2 : ExtB g w W2 := ExtB.ext x1 e2
  refine Qaa (.int .i64 (((a : Nat) : Int))) 16 rfl kj (Qah (u := .int .i64 (IntKind.i64.wrap (n - (nx - 1)))) kj (congrArg (Value.int .i64) (by rw [ha]; exact Qbo _ (by omega)))) ?_
  refine Qaa (.int .i64 (((a : Nat) : Int))) 6 rfl kj kj ?_
  refine Qac ?_
  refine hK6 _ _ ?_
  refine wp_seq_k fun K7 hK7 => ?_
  refine wp_seq_k fun K8 hK8 => ?_
  refine Qab ?_
  refine Qaa (.int .i64 (((a : Nat) : Int))) 17 rfl kj kj ?_
  refine Qaa (.bool false) 18 rfl kj (Qah (u := .bool (decide (((a : Nat) : Int) < 0))) kj (congrArg Value.bool (decide_eq_false (by omega)))) ?_
  refine Qac ?_
  refine hK8 _ _ ?_
  refine cond_false kj ?_
  refine wp_skip ?_
  refine hK7 _ _ ?_
  refine wp_seq_k fun K9 hK9 => ?_
  refine QaN 13 [⟨none, [(0, none)]⟩, ⟨none, [(0, none)]⟩, ⟨none, [(31, some 1)]⟩, ⟨none, [(32, some 2)]⟩, ⟨none, [(33, some 3)]⟩, ⟨none, [(6, none)]⟩, ⟨none, [(34, some 4), (35, some 5)]⟩, ⟨none, [(6, none)]⟩, ⟨none, [(37, some 7)]⟩, ⟨none, [(38, some 8)]⟩, ⟨none, [(36, some 6), (39, some 9)]⟩, ⟨none, [(30, some 0)]⟩, ⟨none, [(41, some 11)]⟩] kj kj fun F hF => ?_
  refine Qak (.pointer (some ⟨g, 0, none⟩)) kj kj (fun W => by kernel_rfl) ?_
  refine Qak (.pointer (some ⟨g, 0, none⟩)) kj kj (fun W => by kernel_rfl) ?_
  refine Qak (.pointer (some ⟨g, 0, none⟩)) kj kj (fun W => by kernel_rfl) ?_
  refine Qak (.pointer (some ⟨g, 1, none⟩)) kj kj (fun W => by kernel_rfl) ?_
  have r1_2 := (Qad r1_1 e2)
  refine QaI (.int .u64 ((B : Nat) : Int)) kj kj (fun W hR => (Qal 77 _ g 1 84 _ (.int .u64 ((B : Nat) : Int)) _ (Qad (Qad r1_2 (Qa2 _)) hR) rfl kj (Qat [#[.int .i64 nx]] [#[.int .u64 ((B : Nat) : Int)]] [ints .u8 (sec), #[.int .i64 ((pl : Nat) : Int)], #[.map (some mg)]] 1 kj 0 _ rfl) kj)) ?_
  refine Qak (.int .i64 (((a : Nat) : Int))) kj kj (fun W => by kernel_rfl) ?_
  refine Qak (.int .u64 (((B * 2 ^ a % 18446744073709551616 : Nat) : Int))) kj kj (fun W => (Qa1 .shl _ _ _ _ .u64 .i64 _ _ _ rfl kj kj (Qfk _ _ _ _ _ _ (by omega) (shlB B a)))) ?_
  refine Qak (.int .i64 (((a : Nat) : Int))) kj kj (fun W => by kernel_rfl) ?_
  refine Qak (.int .i64 (((a - 1 : Nat) : Int))) kj kj (fun W => (Qah (u := .int .i64 (IntKind.i64.wrap (((a : Nat) : Int) - 1))) kj (congrArg (Value.int .i64) (by rw [show ((a - 1 : Nat) : Int) = (a : Int) - 1 by omega]; exact Qbo _ (by omega))))) ?_
  refine Qak (.int .u64 (((1 * 2 ^ (a - 1) % 18446744073709551616 : Nat) : Int))) kj kj (fun W => (Qa1 .shl _ _ _ _ .u64 .i64 _ _ _ rfl kj kj (Qfk _ _ _ _ _ _ (by omega) (shlB 1 (a - 1))))) ?_
  refine Qak (.int .u64 (((B * 2 ^ a % 18446744073709551616 ||| 1 * 2 ^ (a - 1) % 18446744073709551616 : Nat) : Int))) kj kj (fun W => (Qah (u := .int .u64 (bits .or .u64 (((B * 2 ^ a % 18446744073709551616 : Nat) : Int)) (((1 * 2 ^ (a - 1) % 18446744073709551616 : Nat) : Int)))) kj (congrArg (Value.int .u64) (orB _ _ (Nat.mod_lt _ (by decide)) (Nat.mod_lt _ (by decide)))))) ?_
  refine Qak (.pointer (some ⟨g, 0, none⟩)) kj kj (fun W => by kernel_rfl) ?_
  refine Qak (.pointer (some ⟨g, 1, none⟩)) kj kj (fun W => by kernel_rfl) ?_
  refine QaQ (hF _ kj fun W3 e3 => ?_)
  simp only [ups, up, Kn.val, List.take_succ_cons, List.take_zero, List.drop_succ_cons, List.drop_zero, List.nil_append, List.cons_append]
  clear hF
  have x3 : ExtB g w W3 := ExtB.ext x2 e3
  have r1_3 := (Qad r1_2 e3)
  refine Qaj g _ (cat [#[.int .i64 nx], #[.int .u64 (((B * 2 ^ a % 18446744073709551616 ||| 1 * 2 ^ (a - 1) % 18446744073709551616 : Nat) : Int))], ints .u8 (sec), #[.int .i64 ((pl : Nat) : Int)], #[.map (some mg)]]) 84 r1_3 rfl kj (Qba 77 _ _ g 1 84 [#[.int .i64 nx]] [ints .u8 (sec), #[.int .i64 ((pl : Nat) : Int)], #[.map (some mg)]] _ (.int .u64 (((B * 2 ^ a % 18446744073709551616 ||| 1 * 2 ^ (a - 1) % 18446744073709551616 : Nat) : Int))) r1_3 rfl kj kj kj kj rfl rfl) fun W4 p4 r1_4 => ?_
  have x4 : ExtB g w W4 := ExtB.puts x3 p4
  refine Qac ?_
  refine hK9 _ _ ?_
  refine wp_seq_k fun K10 hK10 => ?_
  refine Qab ?_
  refine Qaa (.pointer (some ⟨g, 0, none⟩)) 43 rfl kj kj ?_
  refine Qaa (.int .i64 n) 44 rfl kj kj ?_
  refine Qaa (.int .i64 (n + 1)) 45 rfl kj (Qah (u := .int .i64 (IntKind.i64.wrap (n + 1))) kj (congrArg (Value.int .i64) (Qbo _ (by omega)))) ?_
  refine Qaa (.pointer (some ⟨g, 0, none⟩)) 46 rfl kj kj ?_
  refine Qaa (.pointer (some ⟨g, 0, none⟩)) 47 rfl kj kj ?_
  refine Qaj g _ (cat [#[.int .i64 (n + 1)], #[.int .u64 (((B * 2 ^ a % 18446744073709551616 ||| 1 * 2 ^ (a - 1) % 18446744073709551616 : Nat) : Int))], ints .u8 (sec), #[.int .i64 ((pl : Nat) : Int)], #[.map (some mg)]]) 84 r1_4 rfl kj (Qba 3 _ _ g 0 84 [] [#[.int .u64 (((B * 2 ^ a % 18446744073709551616 ||| 1 * 2 ^ (a - 1) % 18446744073709551616 : Nat) : Int))], ints .u8 (sec), #[.int .i64 ((pl : Nat) : Int)], #[.map (some mg)]] _ (.int .i64 (n + 1)) r1_4 rfl kj kj kj kj rfl rfl) fun W5 p5 r1_5 => ?_
  have x5 : ExtB g w W5 := ExtB.puts x4 p5
  refine Qac ?_
  refine hK10 _ _ ?_
  refine wp_seq_k fun K11 hK11 => ?_
  refine Qab ?_
  refine Qaa (.nilIface) 4 rfl kj kj ?_
  refine Qac ?_
  refine hK11 _ _ ?_
  refine wp_ret ?_
  repeat (first | with_reducible refine goR1 ?_ | with_reducible refine goR2 ?_)
  exact (show bodyPost _ _ _ .ret _ _ from ret1 (.nilIface) rfl (Qa9 kj) ⟨rfl, x5, r1_5⟩)
theorem extB_trans {g : Nat} {a b c : World} (h : ExtB g a b) (k : ExtB g b c) : ExtB g a c := ⟨k.1.trans h.1, k.2.1.trans h.2.1, k.2.2.1.trans h.2.2.1, Nat.le_trans h.2.2.2.1 k.2.2.2.1, fun i hi hn => (k.2.2.2.2 i (Nat.lt_of_lt_of_le hi h.2.2.2.1) hn).trans (h.2.2.2.2 i hi hn)⟩
set_option maxHeartbeats 4000000 in
theorem Qkd (g : Nat) (nx : Int) (B : Nat) (n : Int) (hnx : 0 ≤ nx ∧ nx ≤ 4294967295) (hB : B < 18446744073709551616) (sec : List Int) (pl mg : Nat) (hsec : sec.length = 32) (w : World) (hg : w.heap[g]? = some (.cells (cat [#[.int .i64 nx], #[.int .u64 ((B : Nat) : Int)], ints .u8 (sec), #[.int .i64 ((pl : Nat) : Int)], #[.map (some mg)]]) 84)) (hc : chkW nx B n = 0) (j : Nat) (hj : nx - 1 - n - 1 = (j : Int)) (hj2 : j < 64) : Calls Tryd.prog 44 #[.pointer (some ⟨g, 0, none⟩), .int .i64 n] w (fun e w' => e = .returned .nilIface ∧ ExtB g w w' ∧ w'.heap[g]? = some (.cells (cat [#[.int .i64 nx], #[.int .u64 ((B ||| 2 ^ j : Nat) : Int)], ints .u8 (sec), #[.int .i64 ((pl : Nat) : Int)], #[.map (some mg)]]) 84)) := by
  refine enter 13 [(0, .pointer (some ⟨g, 0, none⟩)), (1, .int .i64 n)] Tryd.func44 rfl rfl kj rfl ?_
  refine wp_seq_k fun K2 hK2 => ?_
  refine Qab ?_
  refine Qaa (.nilIface) 4 rfl kj kj ?_
  refine Qac ?_
  refine hK2 _ _ ?_
  refine wp_seq_k fun K3 hK3 => ?_
  refine wp_seq_k fun K4 hK4 => ?_
  refine Qab ?_
  refine Qaa (.pointer (some ⟨g, 0, none⟩)) 5 rfl kj kj ?_
  refine Qaa (.bool false) 6 rfl kj kj ?_
  refine Qac ?_
  refine hK4 _ _ ?_
  refine cond_false kj ?_
  refine wp_skip ?_
  refine hK3 _ _ ?_
  refine wp_seq_k fun K5 hK5 => ?_
  refine Qab ?_
  refine Qaa (.pointer (some ⟨g, 0, none⟩)) 8 rfl kj kj ?_
  refine Qaa (.pointer (some ⟨g, 0, none⟩)) 9 rfl kj kj ?_
  refine Qaa (.pointer (some ⟨g, 0, none⟩)) 10 rfl kj kj ?_
  refine Qaa (.int .i64 n) 11 rfl kj kj ?_
  refine Qa8 (fun v W' => v = .nilIface ∧ ExtB g w W' ∧ W'.heap[g]? = some (.cells (cat [#[.int .i64 nx], #[.int .u64 ((B ||| 2 ^ j : Nat) : Int)], ints .u8 (sec), #[.int .i64 ((pl : Nat) : Int)], #[.map (some mg)]]) 84)) 54 #[.pointer (some ⟨g, 0, none⟩), .int .i64 n] 12 rfl kj kj ((Qjo g nx B n hnx hB sec pl mg hsec _ hg hc j hj hj2).mono fun e w' ⟨h1, h2, h3⟩ => ⟨_, h1, rfl, h2, h3⟩) fun v W1 h => ?_
  obtain ⟨rfl, q1, r1_1⟩ := h
  have x1 : ExtB g w W1 := extB_trans (ExtB.refl g w) q1
  refine Qaa (.nilIface) 4 rfl kj kj ?_
  refine Qac ?_
  refine hK5 _ _ ?_
  refine wp_ret ?_
  repeat (first | with_reducible refine goR1 ?_ | with_reducible refine goR2 ?_)
  exact (show bodyPost _ _ _ .ret _ _ from ret1 (.nilIface) rfl (Qa9 kj) ⟨rfl, x1, r1_1⟩)
set_option maxHeartbeats 4000000 in
theorem Qkc (g : Nat) (nx : Int) (B : Nat) (n : Int) (hnx : 0 ≤ nx ∧ nx ≤ 4294967295) (hB : B < 18446744073709551616) (sec : List Int) (pl mg : Nat) (hsec : sec.length = 32) (w : World) (hg : w.heap[g]? = some (.cells (cat [#[.int .i64 nx], #[.int .u64 ((B : Nat) : Int)], ints .u8 (sec), #[.int .i64 ((pl : Nat) : Int)], #[.map (some mg)]]) 84)) (hc : chkW nx B n = 0) (hn : 0 ≤ n ∧ n < 4294967295) (a : Nat) (ha : n - (nx - 1) = (a : Int)) (ha1 : 1 ≤ a) : Calls Tryd.prog 44 #[.pointer (some ⟨g, 0, none⟩), .int .i64 n] w (fun e w' => e = .returned .nilIface ∧ ExtB g w w' ∧ w'.heap[g]? = some (.cells (cat [#[.int .i64 (n + 1)], #[.int .u64 ((B * 2 ^ a % 18446744073709551616 ||| 1 * 2 ^ (a - 1) % 18446744073709551616 : Nat) : Int)], ints .u8 (sec), #[.int .i64 ((pl : Nat) : Int)], #[.map (some mg)]]) 84)) := by
  refine enter 13 [(0, .pointer (some ⟨g, 0, none⟩)), (1, .int .i64 n)] Tryd.func44 rfl rfl kj rfl ?_
  refine wp_seq_k fun K2 hK2 => ?_
  refine Qab ?_
  refine Qaa (.nilIface) 4 rfl kj kj ?_
  refine Qac ?_
  refine hK2 _ _ ?_
  refine wp_seq_k fun K3 hK3 => ?_
  refine wp_seq_k fun K4 hK4 => ?_
  refine Qab ?_
  refine Qaa (.pointer (some ⟨g, 0, none⟩)) 5 rfl kj kj ?_
  refine Qaa (.bool false) 6 rfl kj kj ?_
  refine Qac ?_
  refine hK4 _ _ ?_
  refine cond_false kj ?_
  refine wp_skip ?_
  refine hK3 _ _ ?_
  refine wp_seq_k fun K5 hK5 => ?_
  refine Qab ?_
  refine Qaa (.pointer (some ⟨g, 0, none⟩)) 8 rfl kj kj ?_
  refine Qaa (.pointer (some ⟨g, 0, none⟩)) 9 rfl kj kj ?_
  refine Qaa (.pointer (some ⟨g, 0, none⟩)) 10 rfl kj kj ?_
  refine Qaa (.int .i64 n) 11 rfl kj kj ?_
  refine Qa8 (fun v W' => v = .nilIface ∧ ExtB g w W' ∧ W'.heap[g]? = some (.cells (cat [#[.int .i64 (n + 1)], #[.int .u64 ((B * 2 ^ a % 18446744073709551616 ||| 1 * 2 ^ (a - 1) % 18446744073709551616 : Nat) : Int)], ints .u8 (sec), #[.int .i64 ((pl : Nat) : Int)], #[.map (some mg)]]) 84)) 54 #[.pointer (some ⟨g, 0, none⟩), .int .i64 n] 12 rfl kj kj ((Qjn g nx B n hnx hB sec pl mg hsec _ hg hc hn a ha ha1).mono fun e w' ⟨h1, h2, h3⟩ => ⟨_, h1, rfl, h2, h3⟩) fun v W1 h => ?_
  obtain ⟨rfl, q1, r1_1⟩ := h
  have x1 : ExtB g w W1 := extB_trans (ExtB.refl g w) q1
  refine Qaa (.nilIface) 4 rfl kj kj ?_
  refine Qac ?_
  refine hK5 _ _ ?_
  refine wp_ret ?_
  repeat (first | with_reducible refine goR1 ?_ | with_reducible refine goR2 ?_)
  exact (show bodyPost _ _ _ .ret _ _ from ret1 (.nilIface) rfl (Qa9 kj) ⟨rfl, x1, r1_1⟩)
end Go.Proofs.YtibegnjaphohaaaDoor.Cn
end
section
namespace Go.Proofs.YtibegnjaphohaaaDoor.Wm
open Go Go.RowKit
open Rely Auto
set_option linter.unusedVariables false
set_option linter.unusedSimpArgs false
variable {P : Program} {ops : Array Oper} {Q : Exit → Act → World → Prop}
def allM (P : Program) (ops : Array Oper) (Q : Exit → Act → World → Prop) (Rd : World → Prop) (m : Nat) : Nat → Array Bool → Act → World → Prop
  | 0, listed, a, w => Region.ready .any ops listed = [] ∧ Q .normal a w
  | fuel + 1, listed, a, w => (Region.ready .any ops listed = [] → Q .normal a w) ∧ ∀ i ∈ Region.ready .any ops listed, wpOp P ops Q i (fun a' w' => (i ≠ m → Rd w') ∧ allM P ops Q Rd m fuel (listed.setIfInBounds i true) a' w') a w
theorem QfJ {Rd : World → Prop} {m : Nat} : ∀ (fuel : Nat) (listed : Array Bool) (a : Act) (w : World), allM P ops Q Rd m fuel listed a w → wpAny P .any ops Q fuel listed a w
  | 0, _, _, _, h => h
  | _ + 1, _, _, _, h => ⟨h.1, fun i hi => wpOp_mono (fun a w h => QfJ _ _ a w h.2) (h.2 i hi)⟩
def Qb3 (P : Program) (ops : Array Oper) (Rd : World → Prop) (o : Oper) (v : Value) (a : Act) : Prop :=
  (Region.wanted o (yielded ops a.tmps) = true ∧ ∀ w, Rd w → (execOp a.eval o).run P w = .ok (.value v) w) ∨ (Region.wanted o (yielded ops a.tmps) = false ∧ v = undef)
theorem Qb3.wpOp {Rd : World → Prop} {i : Nat} {o : Oper} {v : Value} {a : Act} (hi : ops[i]? = some o) (hy : Qb3 P ops Rd o v a) {K : Act → World → Prop} {w : World} (hw : Rd w) (h : K (a.put o.dst v) w) : wpOp P ops Q i K a w := by
  unfold Go.wpOp
  simp only [hi]
  rcases hy with ⟨hw1, hv⟩ | ⟨hw1, rfl⟩
  · simp only [hw1, if_true, Oper.wp, hv w hw, Oper.upon]; exact .inl h
  · simp only [hw1, Bool.false_eq_true, if_false]; exact h
theorem Qb3.same {Rd : World → Prop} {o : Oper} {v : Value} {a a' : Act} (hy : Qb3 P ops Rd o v a) (he : execOp a'.eval o = execOp a.eval o) (hw : Region.wanted o (yielded ops a'.tmps) = Region.wanted o (yielded ops a.tmps)) : Qb3 P ops Rd o v a' := by
  unfold Qb3 at *
  rw [he, hw]
  exact hy
theorem Qi2 {Rd : World → Prop} {j : Nat} {oi oj : Oper} {v : Value} (hj : ops[j]? = some oj) (hap : oi.apart ops oj = true) (hsi : ∀ cs b, oi.op ≠ .select cs b) (hsj : ∀ cs b, oj.op ≠ .select cs b)
    (hQ : ∀ c a w, Q (.panic c) (a.put oi.dst v) w → Q (.panic c) a w) {K : Act → World → Prop} {a : Act} {w : World} (hy : Qb3 P ops Rd oi v a) (h : wpOp P ops Q j K (a.put oi.dst v) w) :
    wpOp P ops Q j (fun a' w' => Qb3 P ops Rd oi v a' ∧ K (a'.put oi.dst v) w') a w := by
  obtain ⟨h1, h2, h3⟩ := Oper.apart_spec hap
  have keep : ∀ (a : Act), Qb3 P ops Rd oi v a → ∀ u, Qb3 P ops Rd oi v (a.put oj.dst u) := fun a hy u => hy.same (execOp_put oi hsi a oj.dst u h3) (wanted_put oi a oj.dst u h3)
  have keepD : ∀ d, Qb3 P ops Rd oi v { a with defers := d :: a.defers } := fun d => hy.same rfl rfl
  unfold wpOp at *
  simp only [hj] at *
  rw [wanted_put oj a oi.dst v h1] at h
  split
  · rename_i hw
    simp only [hw, if_true] at h
    rcases h with h | ⟨hasks, hlets⟩
    case inr => exact .inr ⟨by unfold Oper.asks at *; rw [execOp_put oj hsj a oi.dst v h1] at hasks; exact hasks, hlets⟩
    refine .inl ?_
    unfold Oper.wp at *
    rw [execOp_put oj hsj a oi.dst v h1] at h
    generalize (execOp a.eval oj).run P w = r at *
    cases r with
    | ok n w' =>
      cases n <;> simp only [Oper.upon] at h ⊢
      case value u => exact ⟨keep a hy u, by rw [← Act.put_comm a v u h2]; exact h⟩
      case skip => exact ⟨keep a hy _, by rw [← Act.put_comm a v undef h2]; exact h⟩
      case defer d =>
        refine ⟨keep _ (keepD d) _, ?_⟩
        rw [← Act.put_comm _ v undef h2, ← Act.put_defers]
        exact h
      case enter f args =>
        refine Calls.mono h fun e w'' he => ?_
        cases e with
        | returned u => exact ⟨keep a hy u, by rw [← Act.put_comm a v u h2]; exact he⟩
        | panicked c => exact hQ _ _ _ he
        | outgrown => exact he
      case row row args => exact Rows.mono h fun u w'' he => ⟨keep a hy u, by rw [← Act.put_comm a v u h2]; exact he⟩
    | halt x w' =>
      cases x <;> simp only [Oper.upon] at h ⊢
      case panic u => exact hQ _ _ _ h
  · rename_i hw
    simp only [hw] at h
    exact ⟨keep a hy _, by rw [← Act.put_comm a v undef h2]; exact h⟩
theorem Qgr {Rd : World → Prop} {m : Nat} {i : Nat} {oi : Oper} {v : Value} (hi : ops[i]? = some oi) (hsel : ∀ (j : Nat) (o : Oper) cs b, ops[j]? = some o → o.op ≠ .select cs b) (him : i ≠ m) (hwait : ∃ om e, ops[m]? = some om ∧ e ∈ om.after ∧ Region.binds .any e = true ∧ e.on = i) (hQ : ∀ c a w, Q (.panic c) (a.put oi.dst v) w → Q (.panic c) a w) :
    ∀ (fuel : Nat) (listed : Array Bool) (a : Act) (w : World), Rd w →
      (∀ j oj, ops[j]? = some oj → j ≠ i → listed.getD j true = false → (∀ e ∈ oj.after, Region.binds .any e = true → e.on ≠ i) → oi.apart ops oj = true) →
      i ∈ Region.ready .any ops listed → Qb3 P ops Rd oi v a → allM P ops Q Rd m fuel (listed.setIfInBounds i true) (a.put oi.dst v) w → allM P ops Q Rd m (fuel + 1) listed a w := by
  intro fuel
  induction fuel with
  | zero =>
    intro listed a w hw _ hr hy H
    refine ⟨fun h => (by rw [h] at hr; cases hr), fun j hj => ?_⟩
    by_cases hji : j = i
    · subst hji; exact hy.wpOp hi hw ⟨fun _ => hw, H⟩
    · have := ready_mono hj hji
      rw [H.1] at this
      cases this
  | succ fuel ih =>
    intro listed a w hw hfree hr hy H
    refine ⟨fun h => (by rw [h] at hr; cases hr), fun j hj => ?_⟩
    by_cases hji : j = i
    · subst hji; exact hy.wpOp hi hw ⟨fun _ => hw, H⟩
    · have h1 := H.2 j (ready_mono hj hji)
      obtain ⟨hjun, oj, hoj, hall⟩ := mem_ready.1 hj
      have hnot : ∀ e ∈ oj.after, Region.binds .any e = true → e.on ≠ i := fun e he hb heq => by
        have h1 := hall e he hb
        have h0 := (mem_ready.1 hr).1
        rw [heq] at h1
        rcases Nat.lt_or_ge i listed.size with h' | h'
        · simp [h'] at h0 h1; rw [h0] at h1; cases h1
        · simp [Array.getElem?_eq_none h'] at h1
      have hjm : j ≠ m := fun q => by
        subst q
        obtain ⟨om, e, hom, he, hb, heq⟩ := hwait
        rw [hoj] at hom
        exact hnot e (Option.some.inj hom ▸ he) hb heq
      have h2 := Qi2 hoj (hfree j oj hoj hji hjun hnot) (fun cs b => hsel i oi cs b hi) (fun cs b => hsel j oj cs b hoj) hQ hy h1
      have hfree' : ∀ k ok, ops[k]? = some ok → k ≠ i → (listed.setIfInBounds j true).getD k true = false → (∀ e ∈ ok.after, Region.binds .any e = true → e.on ≠ i) → oi.apart ops ok = true := fun k ok hk hki hun hno => by
        refine hfree k ok hk hki ?_ hno
        by_cases hjk : j = k
        · subst hjk; exact hjun
        · rw [getD_set_ne true hjk] at hun; exact hun
      refine wpOp_mono (fun a' w' h3 => ⟨fun _ => h3.2.1 hjm, ih (listed.setIfInBounds j true) a' w' (h3.2.1 hjm) hfree' (ready_mono hr (Ne.symm hji)) h3.1 ?_⟩) h2
      rw [Array.setIfInBounds_comm _ _ hji]
      exact h3.2.2
structure WM (P : Program) (ops : Array Oper) (Q : Exit → Act → World → Prop) (Rd : World → Prop) (m fuel : Nat) (listed : Array Bool) (a : Act) (w : World) : Prop where
  out : Rd w → allM P ops Q Rd m fuel listed a w
variable {o : Oper} {N : Nat} {L : Env} {w V : World} {ds : List Deferred} {fuel : Nat} {listed : Array Bool} {k m : Nat} {a : Act} {Rd : World → Prop}
theorem region_walkM {id : Nat} {l : List Oper} (Rd : World → Prop) (m : Nat) (hm : P.follows .mixedOrders = true) (h : ∀ W, Ext w W → Rd W ∧ WM P l.toArray Q Rd m l.length (Array.replicate l.length false) (Qaq ds N L) W) : (Code.region id l.toArray true).wp P Q (Qaq ds N L) w := by
  refine wp_region_any hm ?_
  obtain ⟨h1, h2⟩ := h w.drew (Qa2 w)
  have := QfJ _ _ _ _ (h2.out h1)
  simpa using this
def waits (ops : Array Oper) (m k : Nat) : Bool := match ops[m]? with | some om => om.after.any (fun e => Region.binds .any e && e.on == k) | none => false
theorem QfP (h : waits ops m k = true) : ∃ om e, ops[m]? = some om ∧ e ∈ om.after ∧ Region.binds .any e = true ∧ e.on = k := by
  unfold waits at h
  split at h
  · rename_i om ho
    obtain ⟨i, hi, h1⟩ := Array.any_eq_true.1 h
    simp only [Bool.and_eq_true, beq_iff_eq] at h1
    exact ⟨om, _, ho, Array.getElem_mem hi, h1.1, h1.2⟩
  · cases h
theorem wm_val (k : Nat) (v : Value) (d : Nat) (ho : ops[k]? = some o) (hd : o.dst = some d) (hg : QaZ ops o N L = some true) (hc : (Region.noSelect ops && Region.free .any ops listed k && (Region.ready .any ops listed).contains k) = true) (hkm : k ≠ m) (hwt : waits ops m k = true)
    (hQ : ∀ c a w, Q (.panic c) (a.put o.dst v) w → Q (.panic c) a w) (h : ∀ W, Rd W → (execOp (Rely.look (envN N L)) o).run P W = .ok (.value v) W) (kk : WM P ops Q Rd m fuel (listed.setIfInBounds k true) (Qaq ds N ((d, v) :: L)) w) : WM P ops Q Rd m (fuel + 1) listed (Qaq ds N L) w := by
  simp only [Bool.and_eq_true] at hc
  refine ⟨fun hw => Qgr ho (Region.noSelect_spec hc.1.1) hkm (QfP hwt) hQ fuel listed _ w hw (Region.free_spec ho hc.1.2) (by simpa using hc.2) (.inl ⟨Qb9 hg, fun W hW => ?_⟩) ?_⟩
  · rw [QaS]; exact h W hW
  · rw [hd, QaT]; exact kk.out hw
theorem wm_call (k : Nat) (hr : Region.ready .any ops listed = [k]) (ho : ops[k]? = some o) (R : Value → World → Prop) (f : FuncId) (args : Array Value) (d : Nat) (hd : o.dst = some d) (hg : QaZ ops o N L = some true)
    (h : (execOp (Rely.look (envN N L)) o).run P w = .ok (.enter f args) w) (hc : Calls P f args w fun e w' => ∃ v, e = .returned v ∧ R v w') (hR : ∀ v W, R v W → Rd W) (kk : ∀ (v : Value) (W : World), R v W → WM P ops Q Rd m fuel (listed.setIfInBounds k true) (Qaq ds N ((d, v) :: L)) W) : WM P ops Q Rd m (fuel + 1) listed (Qaq ds N L) w := by
  refine ⟨fun _ => ⟨fun h0 => (by rw [hr] at h0; cases h0), fun i hi => ?_⟩⟩
  rw [hr] at hi
  obtain rfl : i = k := by simpa using hi
  unfold wpOp
  rw [ho]
  simp only [Qb9 hg, if_true]
  refine .inl ?_
  unfold Oper.wp
  rw [QaS, h]
  refine hc.mono ?_
  rintro e w' ⟨v, rfl, hw⟩
  show _ ∧ allM _ _ _ _ _ _ _ _ _
  rw [hd, QaT]
  exact ⟨fun _ => hR v w' hw, (kk v w' hw).out (hR v w' hw)⟩
theorem wm_run (k : Nat) (hr : Region.ready .any ops listed = [k]) (ho : ops[k]? = some o) (R : Value → World → Prop) (d : Nat) (hd : o.dst = some d) (hg : QaZ ops o N L = some true) (h : ∃ v W, (execOp (Rely.look (envN N L)) o).run P w = .ok (.value v) W ∧ R v W) (hR : ∀ v W, R v W → Rd W)
    (kk : ∀ (v : Value) (W : World), R v W → WM P ops Q Rd m fuel (listed.setIfInBounds k true) (Qaq ds N ((d, v) :: L)) W) : WM P ops Q Rd m (fuel + 1) listed (Qaq ds N L) w := by
  obtain ⟨v, W, h1, h2⟩ := h
  refine ⟨fun _ => ⟨fun h0 => (by rw [hr] at h0; cases h0), fun i hi => ?_⟩⟩
  rw [hr] at hi
  obtain rfl : i = k := by simpa using hi
  unfold wpOp
  rw [ho]
  simp only [Qb9 hg, if_true]
  refine .inl ?_
  unfold Oper.wp
  rw [QaS, h1]
  show _ ∧ allM _ _ _ _ _ _ _ _ _
  rw [hd, QaT]
  exact ⟨fun _ => hR v W h2, (kk v W h2).out (hR v W h2)⟩
theorem wm_last (hr : Region.ready .any ops listed = [m]) (hr2 : Region.ready .any ops (listed.setIfInBounds m true) = []) (ho : ops[m]? = some o) (R : World → Prop) (hd : o.dst = none) (hg : QaZ ops o N L = some true) (h : ∃ W, (execOp (Rely.look (envN N L)) o).run P w = .ok .skip W ∧ R W)
    (kk : ∀ W, R W → Q .normal (Qaq ds N L) W) : WM P ops Q Rd m (fuel + 1) listed (Qaq ds N L) w := by
  obtain ⟨W, h1, h2⟩ := h
  refine ⟨fun _ => ⟨fun h0 => (by rw [hr] at h0; cases h0), fun i hi => ?_⟩⟩
  rw [hr] at hi
  obtain rfl : i = m := by simpa using hi
  unfold wpOp
  rw [ho]
  simp only [Qb9 hg, if_true]
  refine .inl ?_
  unfold Oper.wp
  rw [QaS, h1]
  show _ ∧ allM _ _ _ _ _ _ _ _ _
  rw [hd, show (Qaq ds N L).put none undef = Qaq ds N L from rfl]
  refine ⟨fun q => absurd rfl q, ?_⟩
  cases fuel with
  | zero => exact ⟨hr2, kk W h2⟩
  | succ n => exact ⟨fun _ => kk W h2, by rw [hr2]; simp⟩
theorem wm_store (g : Nat) (old cs : Array Value) (t : TypeId) (hgr : w.heap[g]? = some (.cells old t)) (hr : Region.ready .any ops listed = [m]) (hr2 : Region.ready .any ops (listed.setIfInBounds m true) = []) (ho : ops[m]? = some o) (hd : o.dst = none) (hg : QaZ ops o N L = some true) (h : (execOp (Rely.look (envN N L)) o).run P w = .ok .skip (w.setRow g cs))
    (kk : ∀ W, Puts w g W → W.heap[g]? = some (.cells cs t) → Q .normal (Qaq ds N L) W) : WM P ops Q Rd m (fuel + 1) listed (Qaq ds N L) w :=
  wm_last hr hr2 ho (fun W => Puts w g W ∧ W.heap[g]? = some (.cells cs t)) hd hg ⟨_, h, QaW _ _ _, setRow_heap _ _ _ _ _ _ hgr⟩ fun W hh => kk W hh.1 hh.2
end Go.Proofs.YtibegnjaphohaaaDoor.Wm
end
section
namespace Go.Proofs.YtibegnjaphohaaaDoor.Cn
open Go Go.RowKit
open Rely Auto Own Sha
set_option linter.unusedVariables false
set_option linter.unusedSimpArgs false
theorem QfG (pl : Nat → Option (Nat × Nat)) : ∀ (ps : List (Nat × Nat × Value × Array Value)) (pre : List (Array Value)) (rest : Array Value) (off : Nat), (cat pre).size = off → okPl pl off ps → tot ps = rest.size →
    Instr.fill pl (cat pre ++ rest) (ps.map fun x => (x.1, x.2.2.1)) = some (cat (pre ++ ps.map fun x => x.2.2.2))
  | [], pre, rest, off, _, _, ht => by
    have : rest = #[] := Array.eq_empty_of_size_eq_zero ht.symm
    subst this
    simp [Instr.fill]
  | (i, n, v, p) :: r, pre, rest, off, hoff, ⟨h1, h2, h3, h4⟩, ht => by
    subst h2
    have hn : n ≤ rest.size := by rw [← ht, tot]; omega
    simp only [List.map_cons, Instr.fill, h1, h3]
    rw [if_neg (by simp; omega)]
    have hz : (v.cells.zipIdx.foldl (fun cs (x : Value × Nat) => cs.setIfInBounds (off + x.2) x.1) (cat pre ++ rest)) = cat (pre ++ [v.cells]) ++ rest.extract n rest.size := by
      have e1 : v.cells.zipIdx = (v.cells.toList.zipIdx 0).toArray := by
        apply Array.ext'
        simp
      rw [e1, List.foldl_toArray', Qcs]
      · have e2 : rest = rest.extract 0 n ++ rest.extract n rest.size := by
          rw [Array.extract_append_extract, Nat.max_eq_right hn]
          simp
        have e3 : (cat pre ++ rest) = cat (pre ++ ([rest.extract 0 n] ++ [rest.extract n rest.size])) := by
          rw [QaC]
          congr 1
        rw [Nat.add_zero, e3]
        have := Qdd pre [rest.extract 0 n] [v.cells] [rest.extract n rest.size] off hoff (by show v.cells.size = (rest.extract 0 n).size; simp; omega)
        rw [show (cat [v.cells]).toList = v.cells.toList from rfl] at this
        rw [this, ← List.append_assoc, QaC (pre ++ [v.cells])]
        rfl
      · rfl
    have key := QfG pl r (pre ++ [v.cells]) (rest.extract n rest.size) (off + n) (by rw [QaC]; show (cat pre ++ v.cells).size = _; simp; omega) h4 (by simp; rw [← ht, tot]; omega)
    rw [← hz] at key
    rw [List.append_assoc] at key
    exact key
theorem Qgc {P : Program} {ρ : Operand → Value} {o : Oper} {w : World} (t : TypeId) (parts : Array (Nat × Operand)) (z : Value) (places : Array (Nat × Nat)) (ps : List (Nat × Nat × Value × Array Value))
    (ho : o.op = .build t parts) (hv : (parts.map fun (i, x) => (i, ρ x)).toList = ps.map fun x => (x.1, x.2.2.1)) (hp : okPl (fun i => places[i]?) 0 ps) (ht : tot ps = z.cells.size)
    (hz : (zeroValue t).run P w = .ok z w) (hu : P.underlying t = some (.struct (P.fieldsOf t))) (hm : ((P.fieldsOf t).mapM fun f => do pure (f.offset, ← sizeOf f.type) : Sem (Array (Nat × Nat))).run P w = .ok places w) :
    (execOp ρ o).run P w = .ok (.value (.agg (cat (ps.map fun x => x.2.2.2)))) w := by
  have := QfG (fun i => places[i]?) ps [] z.cells 0 rfl hp ht
  rw [show cat [] ++ z.cells = z.cells by simp [cat], List.nil_append] at this
  rw [← hv] at this
  have hB : (Instr.build t (parts.map fun (i, x) => (i, ρ x))).run P w = .ok (.agg (cat (ps.map fun x => x.2.2.2))) w := by
    unfold Instr.build
    rw [Sem.run_bind, hz, Result.andThen_ok, Sem.run_bind, run_underlying hu w, Result.andThen_ok]
    show (Sem.run P _ w) = _
    rw [Sem.run_bind, hm, Result.andThen_ok]
    simp only [this]
    rfl
  unfold execOp
  simp only [ho, Sem.run_bind, hB, Result.andThen_ok, Sem.run_pure]
def sKey : ByteArray := ⟨#[107, 101, 121]⟩
def Qhv : ByteArray := ⟨#[110, 101, 120, 116]⟩
def Qhw : ByteArray := ⟨#[108, 101, 102, 116]⟩
def Qft : ByteArray := ⟨#[114, 105, 103, 104, 116]⟩
theorem strl (s : ByteArray) (h : s.size ≤ 255) : (strB s).length ≤ 255 := by rw [QbH]; exact h
theorem Qhx : (strB sKey).length ≤ 255 := strl _ (by decide)
@[irreducible] def keyV (sec : List Int) : List Int := kx sec (Qbx (strB sKey) [] 44) 44
@[irreducible] def nxtV (sec : List Int) : List Int := Qbv sec (strB Qhv)
theorem Qa7 (sec : List Int) : (keyV sec).length = 44 := by unfold keyV; exact QbK _ _ _
theorem QcY (sec : List Int) : Qao (keyV sec) := by unfold keyV; exact Qf7 _ _ _
theorem Qcc (sec lab : List Int) : Qao (Qbv sec lab) := by
  unfold Qbv
  split
  · exact Qf7 _ _ _
  · exact fun x hx => by rw [(List.mem_replicate.1 hx).2]; decide
theorem Qdu (sec : List Int) : (nxtV sec).length = 32 := by unfold nxtV; exact Qc9 _ _
theorem Qgf (sec : List Int) : Qao (nxtV sec) := by unfold nxtV; exact Qcc _ _
def itV (sec : List Int) : Nat → List Int
  | 0 => sec
  | n + 1 => nxtV (itV sec n)
theorem Qav {sec : List Int} (h : sec.length = 32) : ∀ n, (itV sec n).length = 32
  | 0 => h
  | n + 1 => Qdu _
theorem QaU {sec : List Int} (h : Qao sec) : ∀ n, Qao (itV sec n)
  | 0 => h
  | n + 1 => Qgf _
theorem QcZ (sec : List Int) (a : Nat) : ∀ b, itV (itV sec a) b = itV sec (a + b)
  | 0 => rfl
  | b + 1 => by show nxtV (itV (itV sec a) b) = nxtV (itV sec (a + b)); rw [QcZ sec a b]
def QbO (base : Nat) (num : Int) (mv : List Int) (v : Value) (W : World) : Prop := ∃ u, v = .agg (cat [#[.int .i64 num], ints .u8 (mv.take 32), #[u]]) ∧ OwnN .u8 5 base (mv.drop 32) u W
theorem QhK (k : IntKind) (xs : List Int) (n : Nat) : ints k xs = cat [ints k (xs.take n), ints k (xs.drop n)] := by
  apply Array.ext'
  simp [cat, ints, ← List.map_append]
def mpv (p : Int × List Int) : Int × Value := (p.1, .agg (ints .u8 p.2))
def lget (ms : List (Int × List Int)) (k : Int) : List Int := ((ms.find? fun p => p.1 == k).map Prod.snd).getD (List.replicate 44 0)
theorem Qf4 : ∀ (ms : List (Int × List Int)) (k : Int), mget (ms.map mpv) k (.agg (ints .u8 (List.replicate 44 0))) = .agg (ints .u8 (lget ms k))
  | [], k => rfl
  | p :: ms, k => by
    unfold mget lget
    rw [List.map_cons]
    by_cases h : (p.1 == k) = true
    · rw [List.find?_cons_of_pos (p := fun q : Int × Value => q.1 == k) h, List.find?_cons_of_pos (p := fun q : Int × List Int => q.1 == k) h]; rfl
    · rw [List.find?_cons_of_neg (p := fun q : Int × Value => q.1 == k) h, List.find?_cons_of_neg (p := fun q : Int × List Int => q.1 == k) h]; exact Qf4 ms k
def MsOk (ms : List (Int × List Int)) : Prop := ∀ p ∈ ms, p.2.length = 44 ∧ Qao p.2
theorem QbN {ms : List (Int × List Int)} (h : MsOk ms) (k : Int) : (lget ms k).length = 44 ∧ Qao (lget ms k) := by
  unfold lget
  cases hf : ms.find? (fun p => p.1 == k) with
  | none => exact ⟨List.length_replicate, fun x hx => by rw [(List.mem_replicate.1 hx).2]; decide⟩
  | some p => exact h p (List.mem_of_find?_eq_some hf)
set_option maxHeartbeats 4000000 in
theorem QgO (sec : List Int) (tc tq : TypeId) (w : World) (hc : w.heap[2]? = some (.cells (ints .u64 QaD) tc)) (hq : w.heap[1]? = some (.cells (ints .u64 Qam) tq)) (hsl : sec.length = 32) (hsb : Qao sec) : Calls Tryd.prog 45 #[.agg (ints .u8 sec)] w (Ret w (.agg (ints .u8 (keyV sec)))) := by
  refine enter 16 [(0, .agg (ints .u8 (sec)))] Tryd.func45 rfl rfl kj rfl ?_
  refine wp_seq_k fun K3 hK3 => ?_
  refine Qab ?_
  refine Qas (ints .u8 (sec)) 23 1 rfl kj kj fun g4 W1 l4 e1 r4_1 => ?_
  have x1 : Ext w W1 := Ext.tr (Rely.Ext.refl w) e1
  have b4 : w.heap.size ≤ g4 := Nat.le_trans (Rely.Ext.refl w).size l4
  refine Qas (ints .u8 (List.replicate 44 0)) 93 2 rfl kj kj fun g5 W2 l5 e2 r5_2 => ?_
  have x2 : Ext w W2 := Ext.tr x1 e2
  have b5 : w.heap.size ≤ g5 := Nat.le_trans x1.size l5
  refine Qac ?_
  refine hK3 _ _ ?_
  refine wp_seq_k fun K6 hK6 => ?_
  refine Qab ?_
  have r4_2 := (Qad r4_1 e2)
  refine Qaa (.agg (ints .u8 (sec))) 6 rfl kj (Qay 23 _ g4 23 _ _ r4_2 rfl kj kj (isz (n := 32) kj ((Qaf _ _).trans hsl))) ?_
  have r1_1 := (Qad hc e1)
  have r1_2 := (Qad r1_1 e2)
  have r2_1 := (Qad hq e1)
  have r2_2 := (Qad r2_1 e2)
  refine Qa8 (fun v W' => (fun v W => ∃ u, v = .tuple #[u, .nilIface] ∧ OwnN .u8 5 W2.heap.size (kx sec (Qbx (strB sKey) [] 44) 44) u W) v W' ∧ Ext W2 W') 51 #[.agg (ints .u8 (sec)), .string sKey, .slice none 0 0, .int .i64 44] 7 rfl kj kj ((Qin sec [] sKey (.slice none 0 0) _ tc tq _ r1_2 r2_2 hsl hsb (fun x hx => by cases hx) (nilrd _) 44 (by decide) Qhx (by decide)).mono (by rintro e w' ⟨v, rfl, e1, hv⟩; exact ⟨v, rfl, hv, e1⟩)) fun vv7 W3 hh7 => ?_
  obtain ⟨hv7, e3⟩ := hh7
  have x3 : Ext w W3 := Ext.tr x2 e3
  obtain ⟨uu, rfl, huu⟩ := hv7
  obtain ⟨gu, cu, curu, rfl, -, hru, -, -, -, htu⟩ := QeB huu (by rw [QbK]; decide)
  refine Qaa (.tuple #[.slice (some ⟨gu, 0, none⟩) (kx sec (Qbx (strB sKey) [] 44) 44).length cu, .nilIface]) 5 rfl kj kj ?_
  refine Qaa (.slice (some ⟨gu, 0, none⟩) (kx sec (Qbx (strB sKey) [] 44) 44).length cu) 8 rfl kj kj ?_
  refine Qaa (.nilIface) 9 rfl kj kj ?_
  refine Qaa (.slice (some ⟨gu, 0, none⟩) (kx sec (Qbx (strB sKey) [] 44) 44).length cu) 3 rfl kj kj ?_
  refine Qaa (.nilIface) 4 rfl kj kj ?_
  refine Qac ?_
  refine hK6 _ _ ?_
  refine wp_seq_k fun K8 hK8 => ?_
  refine wp_seq_k fun K9 hK9 => ?_
  refine Qab ?_
  refine Qaa (.nilIface) 10 rfl kj kj ?_
  refine Qaa (.bool false) 11 rfl kj kj ?_
  refine Qac ?_
  refine hK9 _ _ ?_
  refine cond_false kj ?_
  refine wp_skip ?_
  refine hK8 _ _ ?_
  refine wp_seq_k fun K10 hK10 => ?_
  refine Qab ?_
  refine Qaa (.slice (some ⟨gu, 0, none⟩) (kx sec (Qbx (strB sKey) [] 44) 44).length cu) 13 rfl kj kj ?_
  refine Qaa (.pointer (some ⟨gu, 0, none⟩)) 14 rfl kj (QeX 93 _ 44 5 (a := some ⟨gu, 0, none⟩) (len := (kx sec (Qbx (strB sKey) [] 44) 44).length) (cap := cu) rfl kj kj (by rw [QbK]; exact Nat.le_refl _)) ?_
  refine Qaa (.agg (ints .u8 (kx sec (Qbx (strB sKey) [] 44) 44))) 15 rfl kj (Qa3 93 _ gu 0 5 _ _ _ (Qad hru (Rely.Ext.refl W3)) rfl kj (QeK htu) kj (isz (n := 44) kj ((Qaf _ _).trans (QbK _ _ _)))) ?_
  have r5_3 := (Qad r5_2 e3)
  refine Qaj g5 _ (ints .u8 (kx sec (Qbx (strB sKey) [] 44) 44)) 93 r5_3 rfl kj (Qap 93 _ _ g5 93 _ _ r5_3 rfl kj kj (isz (n := 44) kj ((Qaf _ _).trans (QbK _ _ _))) (eqsz (n := 44) ((Qaf _ _).trans (List.length_replicate (n := 44))) ((Qaf _ _).trans (QbK _ _ _))) (Qa0 _ _)) fun W4 p4 r5_4 => ?_
  have x4 : Ext w W4 := Puts.ext p4 x3 b5
  refine Qac ?_
  refine hK10 _ _ ?_
  refine wp_ret ?_
  repeat (first | with_reducible refine goR1 ?_ | with_reducible refine goR2 ?_)
  exact (show bodyPost _ _ _ .ret _ _ from ret1 (.agg (ints .u8 (kx sec (Qbx (strB sKey) [] 44) 44))) rfl (QaL g5 93 _ r5_4 kj kj (isz (n := 44) kj ((Qaf _ _).trans (QbK _ _ _)))) ⟨congrArg (fun z => Ending.returned (.agg (ints .u8 z))) (show _ = keyV sec by unfold keyV; rfl), x4⟩)
theorem nxtC (sec : List Int) (tc tq : TypeId) (w : World) (hc : w.heap[2]? = some (.cells (ints .u64 QaD) tc)) (hq : w.heap[1]? = some (.cells (ints .u64 Qam) tq)) (hsl : sec.length = 32) (hsb : Qao sec) : Calls Tryd.prog 40 #[.agg (ints .u8 sec), .string Qhv] w (Ret w (.agg (ints .u8 (nxtV sec)))) := by
  unfold nxtV
  exact Qfh sec Qhv tc tq w hc hq hsl hsb
set_option maxHeartbeats 4000000 in
theorem QdJ (sec : List Int) (tc tq : TypeId) (w : World) (hc : w.heap[2]? = some (.cells (ints .u64 QaD) tc)) (hq : w.heap[1]? = some (.cells (ints .u64 Qam) tq)) (hsl : sec.length = 32) (hsb : Qao sec) : Calls Tryd.prog 46 #[.agg (ints .u8 sec)] w (Ret w (.agg (ints .u8 (nxtV sec)))) := by
  refine enter 5 [(0, .agg (ints .u8 (sec)))] Tryd.func46 rfl rfl kj rfl ?_
  refine wp_seq_k fun K3 hK3 => ?_
  refine Qab ?_
  refine Qas (ints .u8 (sec)) 23 1 rfl kj kj fun g4 W1 l4 e1 r4_1 => ?_
  have x1 : Ext w W1 := Ext.tr (Rely.Ext.refl w) e1
  have b4 : w.heap.size ≤ g4 := Nat.le_trans (Rely.Ext.refl w).size l4
  refine Qas (ints .u8 (List.replicate 32 0)) 23 2 rfl kj kj fun g5 W2 l5 e2 r5_2 => ?_
  have x2 : Ext w W2 := Ext.tr x1 e2
  have b5 : w.heap.size ≤ g5 := Nat.le_trans x1.size l5
  refine Qac ?_
  refine hK3 _ _ ?_
  refine wp_seq_k fun K6 hK6 => ?_
  refine Qab ?_
  have r4_2 := (Qad r4_1 e2)
  refine Qaa (.agg (ints .u8 (sec))) 3 rfl kj (Qay 23 _ g4 23 _ _ r4_2 rfl kj kj (isz (n := 32) kj ((Qaf _ _).trans hsl))) ?_
  have r1_1 := (Qad hc e1)
  have r1_2 := (Qad r1_1 e2)
  have r2_1 := (Qad hq e1)
  have r2_2 := (Qad r2_1 e2)
  refine Qau (.agg (ints .u8 (nxtV sec))) 40 #[.agg (ints .u8 (sec)), .string Qhv] 4 rfl kj kj (nxtC sec tc tq _ r1_2 r2_2 hsl hsb) fun W3 e3 => ?_
  have x3 : Ext w W3 := Ext.tr x2 e3
  have r5_3 := (Qad r5_2 e3)
  refine Qaj g5 _ (ints .u8 (nxtV sec)) 23 r5_3 rfl kj (Qap 23 _ _ g5 23 _ _ r5_3 rfl kj kj (isz (n := 32) kj ((Qaf _ _).trans (Qdu _))) (eqsz (n := 32) ((Qaf _ _).trans (List.length_replicate (n := 32))) ((Qaf _ _).trans (Qdu _))) (Qa0 _ _)) fun W4 p4 r5_4 => ?_
  have x4 : Ext w W4 := Puts.ext p4 x3 b5
  refine Qac ?_
  refine hK6 _ _ ?_
  refine wp_ret ?_
  repeat (first | with_reducible refine goR1 ?_ | with_reducible refine goR2 ?_)
  exact (show bodyPost _ _ _ .ret _ _ from ret1 (.agg (ints .u8 (nxtV sec))) rfl (QaL g5 23 _ r5_4 kj kj (isz (n := 32) kj ((Qaf _ _).trans (Qdu _)))) ⟨rfl, x4⟩)
set_option maxHeartbeats 4000000 in
theorem QiF (w : World) : Calls Tryd.prog 56 #[.slice none 0 0] w (Qce w (OwnN .u8 5 w.heap.size [])) := by
  refine enter 8 [(0, .slice none 0 0)] Tryd.func56 rfl rfl kj rfl ?_
  refine wp_seq_k fun K1 hK1 => ?_
  refine Qab ?_
  refine Qaa (.slice none 0 0) 2 rfl kj kj ?_
  refine Qac ?_
  refine hK1 _ _ ?_
  refine wp_seq_k fun K2 hK2 => ?_
  refine wp_seq_k fun K3 hK3 => ?_
  refine Qab ?_
  refine Qaa (.slice none 0 0) 3 rfl kj kj ?_
  refine Qaa (.bool true) 4 rfl kj kj ?_
  refine Qac ?_
  refine hK3 _ _ ?_
  refine cond_true kj ?_
  refine wp_seq_k fun K4 hK4 => ?_
  refine Qab ?_
  refine Qaa (.slice none 0 0) 2 rfl kj kj ?_
  refine Qac ?_
  refine hK4 _ _ ?_
  refine wp_ret ?_
  repeat (first | with_reducible refine goR1 ?_ | with_reducible refine goR2 ?_)
  exact (show bodyPost _ _ _ .ret _ _ from ret1 (.slice none 0 0) rfl (Qa9 kj) ⟨_, rfl, (Rely.Ext.refl w), Qek .u8 5 _ _⟩)
set_option maxHeartbeats 4000000 in
theorem QiE (text : List Int) (ad : Addr) (cp B : Nat) (w : World) (htl : text.length ≤ 900000000) (ht : RdK .u8 B text (.slice (some ad) text.length cp) w) : Calls Tryd.prog 56 #[.slice (some ad) text.length cp] w (Qce w (OwnN .u8 5 w.heap.size text)) := by
  refine enter 8 [(0, .slice (some ad) text.length cp)] Tryd.func56 rfl rfl kj rfl ?_
  refine wp_seq_k fun K1 hK1 => ?_
  refine Qab ?_
  refine Qaa (.slice none 0 0) 2 rfl kj kj ?_
  refine Qac ?_
  refine hK1 _ _ ?_
  refine wp_seq_k fun K2 hK2 => ?_
  refine wp_seq_k fun K3 hK3 => ?_
  refine Qab ?_
  refine Qaa (.slice (some ad) text.length cp) 3 rfl kj kj ?_
  refine Qaa (.bool false) 4 rfl kj kj ?_
  refine Qac ?_
  refine hK3 _ _ ?_
  refine cond_false kj ?_
  refine wp_skip ?_
  refine hK2 _ _ ?_
  refine wp_seq_k fun K4 hK4 => ?_
  refine Qab ?_
  refine Qbp (ints .u8 ([])) 5 0 5 rfl kj kj fun g5 W1 l5 e1 r5_1 => ?_
  have x1 : Ext w W1 := Ext.tr (Rely.Ext.refl w) e1
  have b5 : w.heap.size ≤ g5 := Nat.le_trans (Rely.Ext.refl w).size l5
  refine Qaa (.slice (some ad) text.length cp) 6 rfl kj kj ?_
  have y0_1 : Ext w W1 := (Rely.Ext.trans (Rely.Ext.refl w) e1)
  refine QbX (k := .u8) (T := 5) (xs := []) (ys := text) (V := w) 1 (.tmp 5) (.tmp 6) 38 rfl kj kj (by decide) 7 rfl kj kj kj (Qdt (xs := []) rfl l5 r5_1 (by decide)) (RdK.ext ht x1) (by simp; omega) y0_1 fun u1 W2 f6 y2 l2 => ?_
  have x2 : Ext w W2 := Ext.low x1 l2 (Rely.Ext.refl w).size
  refine Qaa (u1) 2 rfl kj kj ?_
  refine Qac ?_
  refine hK4 _ _ ?_
  refine wp_ret ?_
  repeat (first | with_reducible refine goR1 ?_ | with_reducible refine goR2 ?_)
  exact (show bodyPost _ _ _ .ret _ _ from ret1 (u1) rfl (Qa9 kj) ⟨_, rfl, x2, f6⟩)
theorem Qj3 (text : List Int) (v : Value) (B : Nat) (w : World) (htl : text.length ≤ 900000000) (ht : RdK .u8 B text v w) : Calls Tryd.prog 56 #[v] w (Qce w (OwnN .u8 5 w.heap.size text)) := by
  obtain ⟨a, c, rfl, h1, h2, h3, h4⟩ := id ht
  cases a with
  | none =>
    obtain rfl := h3 rfl
    obtain rfl : text = [] := List.length_eq_zero_iff.1 (by omega)
    exact QiF w
  | some ad => exact QiE text ad c B w htl ht
set_option maxHeartbeats 4000000 in
theorem QjR (k1 k2 : List Int) (num : Int) (w : World) (h1 : k1.length = 32) (h2 : k2.length = 12) : Calls Tryd.prog 48 #[.agg (cat [ints .u8 (k1), ints .u8 (k2)]), .int .i64 num] w (Qce w (fun v W => ∃ u, v = .agg (cat [#[.int .i64 num], ints .u8 k1, #[u]]) ∧ OwnN .u8 5 w.heap.size k2 u W)) := by
  refine enter 12 [(0, .agg (cat [ints .u8 (k1), ints .u8 (k2)])), (1, .int .i64 num)] Tryd.func48 rfl rfl kj rfl ?_
  refine wp_seq_k fun K1 hK1 => ?_
  refine Qab ?_
  refine Qas (cat [ints .u8 (k1), ints .u8 (k2)]) 93 2 rfl kj kj fun g2 W1 l2 e1 r2_1 => ?_
  have x1 : Ext w W1 := Ext.tr (Rely.Ext.refl w) e1
  have b2 : w.heap.size ≤ g2 := Nat.le_trans (Rely.Ext.refl w).size l2
  refine Qas (cat [#[.int .i64 0], ints .u8 (List.replicate 32 0), #[.slice none 0 0]]) 40 4 rfl kj kj fun g3 W2 l3 e2 r3_2 => ?_
  have x2 : Ext w W2 := Ext.tr x1 e2
  have b3 : w.heap.size ≤ g3 := Nat.le_trans x1.size l3
  refine Qac ?_
  refine hK1 _ _ ?_
  refine wp_seq_k fun K4 hK4 => ?_
  have r2_2 := (Qad r2_1 e2)
  refine Go.Proofs.YtibegnjaphohaaaDoor.Wm.region_walkM (fun W => W.heap[g2]? = some (.cells (cat [ints .u8 (k1), ints .u8 (k2)]) 93)) 7 kj fun W3 e3 => ⟨Qad r2_2 e3, ?_⟩
  have x3 : Ext w W3 := Ext.tr x2 e3
  refine Go.Proofs.YtibegnjaphohaaaDoor.Wm.wm_val 0 (.int .i64 num) 5 rfl rfl kj kj (by decide) kj (fun _ _ _ h => h) (fun W hR => by kernel_rfl) ?_
  refine Go.Proofs.YtibegnjaphohaaaDoor.Wm.wm_val 1 (.slice (some ⟨g2, 0, none⟩) 32 44) 6 rfl rfl kj kj (by decide) kj (fun _ _ _ h => h) (fun W hR => (Qcy 93 _ _ _ 0 32 44 g2 0 5 rfl kj kj kj rfl ⟨.i64, by kernel_rfl⟩ (by decide) (by decide) (by decide))) ?_
  refine Go.Proofs.YtibegnjaphohaaaDoor.Wm.wm_val 2 (.pointer (some ⟨g2, 0, none⟩)) 7 rfl rfl kj kj (by decide) kj (fun _ _ _ h => h) (fun W hR => (QeX 37 _ 32 5 (a := some ⟨g2, 0, none⟩) (len := 32) (cap := 44) rfl kj kj (Nat.le_refl _))) ?_
  refine Go.Proofs.YtibegnjaphohaaaDoor.Wm.wm_val 3 (.agg (ints .u8 (k1))) 8 rfl rfl kj kj (by decide) kj (fun _ _ _ h => h) (fun W hR => (Qa3 37 _ g2 0 93 _ _ _ hR rfl kj (Qat [] [ints .u8 (k1)] [ints .u8 (k2)] 0 kj) kj (isz (n := 32) kj ((Qaf _ _).trans h1)))) ?_
  refine Go.Proofs.YtibegnjaphohaaaDoor.Wm.wm_val 4 (.slice (some ⟨g2, 32, none⟩) 12 12) 9 rfl rfl kj kj (by decide) kj (fun _ _ _ h => h) (fun W hR => (Qcy 93 _ _ _ 32 44 44 g2 0 5 rfl kj kj kj ⟨.i64, by kernel_rfl⟩ rfl (by decide) (by decide) (by decide))) ?_
  have r2_3 := (Qad r2_2 e3)
  refine Go.Proofs.YtibegnjaphohaaaDoor.Wm.wm_call 5 kj rfl (fun v W' => (OwnN .u8 5 W3.heap.size k2) v W' ∧ Ext W3 W') 56 #[.slice (some ⟨g2, 32, none⟩) 12 12] 10 rfl kj kj ((Qj3 k2 _ _ _ (by rw [h2]; decide) (QgG 32 h2 r2_3 (fun i hi => Qb7 [ints .u8 (k1)] [] k2 32 i (32 + i) ((Qaf _ _).trans h1) rfl (by rw [h2]; exact hi)) (Qar r2_3) (Nat.le_refl _) (by decide))).mono (by rintro e w' ⟨v, rfl, e1, hv⟩; exact ⟨v, rfl, hv, e1⟩)) (fun v W h => Qad r2_3 h.2) fun vv5 W4 hh5 => ?_
  obtain ⟨hv5, e4⟩ := hh5
  have x4 : Ext w W4 := Ext.tr x3 e4
  obtain ⟨au, cu, rfl, -⟩ := id (OwnN.rd hv5)
  refine Go.Proofs.YtibegnjaphohaaaDoor.Wm.wm_val 6 (.agg (cat [#[.int .i64 num], ints .u8 (k1), #[.slice au k2.length cu]])) 11 rfl rfl kj kj (by decide) kj (fun _ _ _ h => h) (fun W hR => (Qgc 40 _ (.agg (cat [#[.int .i64 0], ints .u8 (List.replicate 32 0), #[.slice none 0 0]])) #[(0, 1), (1, 32), (33, 1)] [(0, 1, .int .i64 num, #[.int .i64 num]), (1, 32, .agg (ints .u8 (k1)), ints .u8 (k1)), (2, 1, .slice au k2.length cu, #[.slice au k2.length cu])] rfl kj ⟨kj, rfl, kj, kj, rfl, ((Qaf _ _).trans h1), kj, rfl, kj, trivial⟩ kj kj kj kj)) ?_
  have r2_4 := (Qad r2_3 e4)
  have r3_3 := (Qad r3_2 e3)
  have r3_4 := (Qad r3_3 e4)
  refine Go.Proofs.YtibegnjaphohaaaDoor.Wm.wm_store g3 _ (cat [#[.int .i64 num], ints .u8 (k1), #[.slice au k2.length cu]]) 40 r3_4 kj kj rfl rfl kj (Qap 40 _ _ g3 40 _ _ r3_4 rfl kj kj (isz (n := 34) kj (by rw [Qae, Qae, Qae]; simp only [Array.size_append, cat, ((Qaf _ _).trans h1)]; rfl)) (eqsz (n := 34) (by rw [Qae, Qae, Qae]; simp only [Array.size_append, cat, ((Qaf _ _).trans (List.length_replicate (n := 32)))]; rfl) (by rw [Qae, Qae, Qae]; simp only [Array.size_append, cat, ((Qaf _ _).trans h1)]; rfl)) (QaY _ (by intro a ha; simp only [List.mem_cons, List.not_mem_nil, or_false] at ha; rcases ha with rfl | rfl | rfl; exact (QaA _ rfl); exact (Qa0 _ _); exact (QaA _ rfl)))) fun W5 p5 r3_5 => ?_
  have x5 : Ext w W5 := Puts.ext p5 x4 b3
  refine hK4 _ _ ?_
  refine wp_ret ?_
  repeat (first | with_reducible refine goR1 ?_ | with_reducible refine goR2 ?_)
  exact (show bodyPost _ _ _ .ret _ _ from ret1 (.agg (cat [#[.int .i64 num], ints .u8 (k1), #[.slice au k2.length cu]])) rfl (QaL g3 40 _ r3_5 kj kj (isz (n := 34) kj (by rw [Qae, Qae, Qae]; simp only [Array.size_append, cat, ((Qaf _ _).trans h1)]; rfl))) ⟨_, rfl, x5, _, rfl, (OwnN.puts hv5 p5 (fun e => by have h8 := OwnN.ge hv5 e; have h9 := Qar r3_3; omega)).base x3.size⟩)
theorem Qjj (mv : List Int) (num : Int) (w : World) (hl : mv.length = 44) : Calls Tryd.prog 48 #[.agg (ints .u8 mv), .int .i64 num] w (Qce w (QbO w.heap.size num mv)) := by
  rw [QhK .u8 mv 32]
  exact QjR (mv.take 32) (mv.drop 32) num w (by rw [List.length_take]; omega) (by rw [List.length_drop]; omega)
end Go.Proofs.YtibegnjaphohaaaDoor.Cn
end
section
namespace Go.Proofs.YtibegnjaphohaaaDoor.Cn
open Go Go.RowKit
open Rely Auto Own Sha
set_option linter.unusedVariables false
set_option linter.unusedSimpArgs false
theorem Qcq {k : IntKind} {T : TypeId} {base g : Nat} {xs : List Int} {v : Value} {W : World} (h : OwnN k T base xs v W) (hg : g < base) : v.ownBlock ≠ some g := fun e => by
  have := h.ge e
  omega
theorem Qfy {k : IntKind} {T : TypeId} {b g : Nat} {xs : List Int} {v : Value} {W W' : World} (h : OwnN k T b xs v W) (q : ExtB g W W') (hn : v.ownBlock ≠ some g) : OwnN k T b xs v W' := h.keep fun k hk => q.2.2.2.2 k (h.lt hk) (fun e => hn (by rw [hk, e]))
theorem QaG {l : List Int} (h : l.length = 44) : (l.take 32).length = 32 := by rw [List.length_take, h]; rfl
def chkC (nx : Int) (B pl : Nat) (n : Int) : Int := if chkW nx B n ≠ 0 then chkW nx B n else if ((pl : Nat) : Int) + 256 < n then 12 else 0
set_option maxHeartbeats 4000000 in
theorem Qia (g : Nat) (nx : Int) (B : Nat) (n : Int) (hnx : 0 ≤ nx ∧ nx ≤ 4294967295) (hB : B < 18446744073709551616) (sec : List Int) (pl mg : Nat) (hsec : sec.length = 32) (w : World) (hg : w.heap[g]? = some (.cells (cat [#[.int .i64 nx], #[.int .u64 ((B : Nat) : Int)], ints .u8 (sec), #[.int .i64 ((pl : Nat) : Int)], #[.map (some mg)]]) 84)) (hc : chkW nx B n ≠ 0) : Calls Tryd.prog 32 #[.pointer (some ⟨g, 0, none⟩), .int .i64 n] w (Ret w (.iface 47 (.int .i64 (chkW nx B n)))) := by
  refine enter 22 [(0, .pointer (some ⟨g, 0, none⟩)), (1, .int .i64 n)] Tryd.func32 rfl rfl kj rfl ?_
  refine wp_seq_k fun K2 hK2 => ?_
  refine Qab ?_
  refine Qaa (.nilIface) 4 rfl kj kj ?_
  refine Qac ?_
  refine hK2 _ _ ?_
  refine wp_seq_k fun K3 hK3 => ?_
  refine wp_seq_k fun K4 hK4 => ?_
  refine Qab ?_
  refine Qaa (.pointer (some ⟨g, 0, none⟩)) 6 rfl kj kj ?_
  refine Qaa (.pointer (some ⟨g, 0, none⟩)) 7 rfl kj kj ?_
  refine Qaa (.pointer (some ⟨g, 0, none⟩)) 8 rfl kj kj ?_
  refine Qaa (.int .i64 n) 9 rfl kj kj ?_
  refine Qau (.iface 47 (.int .i64 (chkW nx B n))) 43 #[.pointer (some ⟨g, 0, none⟩), .int .i64 n] 10 rfl kj kj (Qer hc ▸ Qhp g nx B n hnx hB sec pl mg hsec _ hg) fun W1 e1 => ?_
  have x1 : Ext w W1 := Ext.tr (Rely.Ext.refl w) e1
  refine Qaa (.iface 47 (.int .i64 (chkW nx B n))) 5 rfl kj kj ?_
  refine Qac ?_
  refine hK4 _ _ ?_
  refine wp_seq_k fun K5 hK5 => ?_
  refine Qab ?_
  refine Qaa (.iface 47 (.int .i64 (chkW nx B n))) 11 rfl kj kj ?_
  refine Qaa (.bool true) 12 rfl kj kj ?_
  refine Qac ?_
  refine hK5 _ _ ?_
  refine cond_true kj ?_
  refine wp_seq_k fun K6 hK6 => ?_
  refine Qab ?_
  refine Qaa (.iface 47 (.int .i64 (chkW nx B n))) 13 rfl kj kj ?_
  refine Qaa (.iface 47 (.int .i64 (chkW nx B n))) 4 rfl kj kj ?_
  refine Qac ?_
  refine hK6 _ _ ?_
  refine wp_ret ?_
  repeat (first | with_reducible refine goR1 ?_ | with_reducible refine goR2 ?_)
  exact (show bodyPost _ _ _ .ret _ _ from ret1 (.iface 47 (.int .i64 (chkW nx B n))) rfl (Qa9 kj) ⟨rfl, x1⟩)
set_option maxHeartbeats 4000000 in
theorem QhZ (g : Nat) (nx : Int) (B : Nat) (n : Int) (hnx : 0 ≤ nx ∧ nx ≤ 4294967295) (hB : B < 18446744073709551616) (sec : List Int) (pl mg : Nat) (hsec : sec.length = 32) (w : World) (hg : w.heap[g]? = some (.cells (cat [#[.int .i64 nx], #[.int .u64 ((B : Nat) : Int)], ints .u8 (sec), #[.int .i64 ((pl : Nat) : Int)], #[.map (some mg)]]) 84)) (hc : chkW nx B n = 0) (hp : pl ≤ 4294967295) (hf : ((pl : Nat) : Int) + 256 < n) : Calls Tryd.prog 32 #[.pointer (some ⟨g, 0, none⟩), .int .i64 n] w (Ret w (.iface 47 (.int .i64 12))) := by
  refine enter 22 [(0, .pointer (some ⟨g, 0, none⟩)), (1, .int .i64 n)] Tryd.func32 rfl rfl kj rfl ?_
  refine wp_seq_k fun K2 hK2 => ?_
  refine Qab ?_
  refine Qaa (.nilIface) 4 rfl kj kj ?_
  refine Qac ?_
  refine hK2 _ _ ?_
  refine wp_seq_k fun K3 hK3 => ?_
  refine wp_seq_k fun K4 hK4 => ?_
  refine Qab ?_
  refine Qaa (.pointer (some ⟨g, 0, none⟩)) 6 rfl kj kj ?_
  refine Qaa (.pointer (some ⟨g, 0, none⟩)) 7 rfl kj kj ?_
  refine Qaa (.pointer (some ⟨g, 0, none⟩)) 8 rfl kj kj ?_
  refine Qaa (.int .i64 n) 9 rfl kj kj ?_
  refine Qau (.nilIface) 43 #[.pointer (some ⟨g, 0, none⟩), .int .i64 n] 10 rfl kj kj (Qc1 hc ▸ Qhp g nx B n hnx hB sec pl mg hsec _ hg) fun W1 e1 => ?_
  have x1 : Ext w W1 := Ext.tr (Rely.Ext.refl w) e1
  refine Qaa (.nilIface) 5 rfl kj kj ?_
  refine Qac ?_
  refine hK4 _ _ ?_
  refine wp_seq_k fun K5 hK5 => ?_
  refine Qab ?_
  refine Qaa (.nilIface) 11 rfl kj kj ?_
  refine Qaa (.bool false) 12 rfl kj kj ?_
  refine Qac ?_
  refine hK5 _ _ ?_
  refine cond_false kj ?_
  refine wp_skip ?_
  refine hK3 _ _ ?_
  refine wp_seq_k fun K6 hK6 => ?_
  refine wp_seq_k fun K7 hK7 => ?_
  refine Qab ?_
  refine Qaa (.int .i64 n) 14 rfl kj kj ?_
  refine Qaa (.pointer (some ⟨g, 0, none⟩)) 15 rfl kj kj ?_
  refine Qaa (.pointer (some ⟨g, 0, none⟩)) 16 rfl kj kj ?_
  refine Qaa (.pointer (some ⟨g, 34, none⟩)) 17 rfl kj kj ?_
  have r1_1 := (Qad hg e1)
  refine Qaa (.int .i64 ((pl : Nat) : Int)) 18 rfl kj (Qal 3 _ g 34 84 _ (.int .i64 ((pl : Nat) : Int)) _ r1_1 rfl kj (Qat [#[.int .i64 nx], #[.int .u64 ((B : Nat) : Int)], ints .u8 (sec)] [#[.int .i64 ((pl : Nat) : Int)]] [#[.map (some mg)]] 34 (by rw [Qae, Qae, Qae]; simp only [Array.size_append, cat, ((Qaf _ _).trans hsec)]; rfl) 0 _ rfl) kj) ?_
  refine Qaa (.int .i64 (((pl : Nat) : Int) + 256)) 19 rfl kj (Qah (u := .int .i64 (IntKind.i64.wrap (((pl : Nat) : Int) + 256))) kj (congrArg (Value.int .i64) (Qbo _ (by omega)))) ?_
  refine Qaa (.bool true) 20 rfl kj (Qah (u := .bool (decide (n > (((pl : Nat) : Int) + 256)))) kj (congrArg Value.bool (decide_eq_true (by omega)))) ?_
  refine Qac ?_
  refine hK7 _ _ ?_
  refine cond_true kj ?_
  refine wp_seq_k fun K8 hK8 => ?_
  refine Qab ?_
  refine Qaa (.iface 47 (.int .i64 12)) 21 rfl kj kj ?_
  refine Qaa (.iface 47 (.int .i64 12)) 4 rfl kj kj ?_
  refine Qac ?_
  refine hK8 _ _ ?_
  refine wp_ret ?_
  repeat (first | with_reducible refine goR1 ?_ | with_reducible refine goR2 ?_)
  exact (show bodyPost _ _ _ .ret _ _ from ret1 (.iface 47 (.int .i64 12)) rfl (Qa9 kj) ⟨rfl, x1⟩)
set_option maxHeartbeats 4000000 in
theorem QhY (g : Nat) (nx : Int) (B : Nat) (n : Int) (hnx : 0 ≤ nx ∧ nx ≤ 4294967295) (hB : B < 18446744073709551616) (sec : List Int) (pl mg : Nat) (hsec : sec.length = 32) (w : World) (hg : w.heap[g]? = some (.cells (cat [#[.int .i64 nx], #[.int .u64 ((B : Nat) : Int)], ints .u8 (sec), #[.int .i64 ((pl : Nat) : Int)], #[.map (some mg)]]) 84)) (hc : chkW nx B n = 0) (hp : pl ≤ 4294967295) (hf : ¬ ((pl : Nat) : Int) + 256 < n) : Calls Tryd.prog 32 #[.pointer (some ⟨g, 0, none⟩), .int .i64 n] w (Ret w (.nilIface)) := by
  refine enter 22 [(0, .pointer (some ⟨g, 0, none⟩)), (1, .int .i64 n)] Tryd.func32 rfl rfl kj rfl ?_
  refine wp_seq_k fun K2 hK2 => ?_
  refine Qab ?_
  refine Qaa (.nilIface) 4 rfl kj kj ?_
  refine Qac ?_
  refine hK2 _ _ ?_
  refine wp_seq_k fun K3 hK3 => ?_
  refine wp_seq_k fun K4 hK4 => ?_
  refine Qab ?_
  refine Qaa (.pointer (some ⟨g, 0, none⟩)) 6 rfl kj kj ?_
  refine Qaa (.pointer (some ⟨g, 0, none⟩)) 7 rfl kj kj ?_
  refine Qaa (.pointer (some ⟨g, 0, none⟩)) 8 rfl kj kj ?_
  refine Qaa (.int .i64 n) 9 rfl kj kj ?_
  refine Qau (.nilIface) 43 #[.pointer (some ⟨g, 0, none⟩), .int .i64 n] 10 rfl kj kj (Qc1 hc ▸ Qhp g nx B n hnx hB sec pl mg hsec _ hg) fun W1 e1 => ?_
  have x1 : Ext w W1 := Ext.tr (Rely.Ext.refl w) e1
  refine Qaa (.nilIface) 5 rfl kj kj ?_
  refine Qac ?_
  refine hK4 _ _ ?_
  refine wp_seq_k fun K5 hK5 => ?_
  refine Qab ?_
  refine Qaa (.nilIface) 11 rfl kj kj ?_
  refine Qaa (.bool false) 12 rfl kj kj ?_
  refine Qac ?_
  refine hK5 _ _ ?_
  refine cond_false kj ?_
  refine wp_skip ?_
  refine hK3 _ _ ?_
  refine wp_seq_k fun K6 hK6 => ?_
  refine wp_seq_k fun K7 hK7 => ?_
  refine Qab ?_
  refine Qaa (.int .i64 n) 14 rfl kj kj ?_
  refine Qaa (.pointer (some ⟨g, 0, none⟩)) 15 rfl kj kj ?_
  refine Qaa (.pointer (some ⟨g, 0, none⟩)) 16 rfl kj kj ?_
  refine Qaa (.pointer (some ⟨g, 34, none⟩)) 17 rfl kj kj ?_
  have r1_1 := (Qad hg e1)
  refine Qaa (.int .i64 ((pl : Nat) : Int)) 18 rfl kj (Qal 3 _ g 34 84 _ (.int .i64 ((pl : Nat) : Int)) _ r1_1 rfl kj (Qat [#[.int .i64 nx], #[.int .u64 ((B : Nat) : Int)], ints .u8 (sec)] [#[.int .i64 ((pl : Nat) : Int)]] [#[.map (some mg)]] 34 (by rw [Qae, Qae, Qae]; simp only [Array.size_append, cat, ((Qaf _ _).trans hsec)]; rfl) 0 _ rfl) kj) ?_
  refine Qaa (.int .i64 (((pl : Nat) : Int) + 256)) 19 rfl kj (Qah (u := .int .i64 (IntKind.i64.wrap (((pl : Nat) : Int) + 256))) kj (congrArg (Value.int .i64) (Qbo _ (by omega)))) ?_
  refine Qaa (.bool false) 20 rfl kj (Qah (u := .bool (decide (n > (((pl : Nat) : Int) + 256)))) kj (congrArg Value.bool (decide_eq_false (by omega)))) ?_
  refine Qac ?_
  refine hK7 _ _ ?_
  refine cond_false kj ?_
  refine wp_skip ?_
  refine hK6 _ _ ?_
  refine wp_seq_k fun K8 hK8 => ?_
  refine Qab ?_
  refine Qaa (.nilIface) 4 rfl kj kj ?_
  refine Qac ?_
  refine hK8 _ _ ?_
  refine wp_ret ?_
  repeat (first | with_reducible refine goR1 ?_ | with_reducible refine goR2 ?_)
  exact (show bodyPost _ _ _ .ret _ _ from ret1 (.nilIface) rfl (Qa9 kj) ⟨rfl, x1⟩)
theorem QiH (g : Nat) (nx : Int) (B : Nat) (n : Int) (hnx : 0 ≤ nx ∧ nx ≤ 4294967295) (hB : B < 18446744073709551616) (sec : List Int) (pl mg : Nat) (hsec : sec.length = 32) (w : World) (hg : w.heap[g]? = some (.cells (cat [#[.int .i64 nx], #[.int .u64 ((B : Nat) : Int)], ints .u8 (sec), #[.int .i64 ((pl : Nat) : Int)], #[.map (some mg)]]) 84)) (hp : pl ≤ 4294967295) : Calls Tryd.prog 32 #[.pointer (some ⟨g, 0, none⟩), .int .i64 n] w (Ret w (errV (chkC nx B pl n))) := by
  unfold chkC
  by_cases hc : chkW nx B n = 0
  · rw [if_neg (fun h => h hc)]
    by_cases hf : ((pl : Nat) : Int) + 256 < n
    · rw [if_pos hf]; exact QhZ g nx B n hnx hB sec pl mg hsec w hg hc hp hf
    · rw [if_neg hf]; exact QhY g nx B n hnx hB sec pl mg hsec w hg hc hp hf
  · rw [if_pos hc, Qer hc]; exact Qia g nx B n hnx hB sec pl mg hsec w hg hc
set_option maxHeartbeats 4000000 in
theorem Qim (g : Nat) (nx : Int) (B : Nat) (hnx : 0 ≤ nx ∧ nx ≤ 4294967295) (hB : B < 18446744073709551616) (sec : List Int) (pl mg : Nat) (hsec : sec.length = 32) (w : World) (hg : w.heap[g]? = some (.cells (cat [#[.int .i64 nx], #[.int .u64 ((B : Nat) : Int)], ints .u8 (sec), #[.int .i64 ((pl : Nat) : Int)], #[.map (some mg)]]) 84)) (ms : List (Int × List Int)) (hmo : MsOk ms) (hmp : MpAt mg (ms.map mpv) w) (tc tq : TypeId) (hc : w.heap[2]? = some (.cells (ints .u64 QaD) tc)) (hq : w.heap[1]? = some (.cells (ints .u64 Qam) tq)) (hsb : Qao sec) (n : Int) (hn : n < ((pl : Nat) : Int)) : Calls Tryd.prog 34 #[.pointer (some ⟨g, 0, none⟩), .int .i64 n] w (Qce w (QbO w.heap.size n (lget ms n))) := by
  obtain ⟨es5, cl5, hes5, hM5⟩ := id hmp
  refine enter 39 [(0, .pointer (some ⟨g, 0, none⟩)), (1, .int .i64 n)] Tryd.func34 rfl rfl kj rfl ?_
  refine wp_seq_k fun K6 hK6 => ?_
  refine Qab ?_
  refine Qas (cat [#[.int .i64 0], ints .u8 (List.replicate 32 0), #[.slice none 0 0]]) 40 4 rfl kj kj fun g7 W1 l7 e1 r7_1 => ?_
  have x1 : Ext w W1 := Ext.tr (Rely.Ext.refl w) e1
  have b7 : w.heap.size ≤ g7 := Nat.le_trans (Rely.Ext.refl w).size l7
  refine Qac ?_
  refine hK6 _ _ ?_
  refine wp_seq_k fun K8 hK8 => ?_
  refine wp_seq_k fun K9 hK9 => ?_
  refine Qab ?_
  refine Qaa (.int .i64 n) 6 rfl kj kj ?_
  refine Qaa (.pointer (some ⟨g, 0, none⟩)) 7 rfl kj kj ?_
  refine Qaa (.pointer (some ⟨g, 0, none⟩)) 8 rfl kj kj ?_
  refine Qaa (.pointer (some ⟨g, 34, none⟩)) 9 rfl kj kj ?_
  have r1_1 := (Qad hg e1)
  refine Qaa (.int .i64 ((pl : Nat) : Int)) 10 rfl kj (Qal 3 _ g 34 84 _ (.int .i64 ((pl : Nat) : Int)) _ r1_1 rfl kj (Qat [#[.int .i64 nx], #[.int .u64 ((B : Nat) : Int)], ints .u8 (sec)] [#[.int .i64 ((pl : Nat) : Int)]] [#[.map (some mg)]] 34 (by rw [Qae, Qae, Qae]; simp only [Array.size_append, cat, ((Qaf _ _).trans hsec)]; rfl) 0 _ rfl) kj) ?_
  refine Qaa (.bool true) 11 rfl kj (Qah (u := .bool (decide (n < ((pl : Nat) : Int)))) kj (congrArg Value.bool (decide_eq_true (by omega)))) ?_
  refine Qac ?_
  refine hK9 _ _ ?_
  refine cond_true kj ?_
  refine wp_seq_k fun K10 hK10 => ?_
  refine Qab ?_
  refine Qaa (.pointer (some ⟨g, 0, none⟩)) 12 rfl kj kj ?_
  refine Qaa (.pointer (some ⟨g, 0, none⟩)) 13 rfl kj kj ?_
  refine Qaa (.pointer (some ⟨g, 35, none⟩)) 14 rfl kj kj ?_
  refine Qaa (.map (some mg)) 15 rfl kj (Qal 82 _ g 35 84 _ (.map (some mg)) _ r1_1 rfl kj (Qat [#[.int .i64 nx], #[.int .u64 ((B : Nat) : Int)], ints .u8 (sec), #[.int .i64 ((pl : Nat) : Int)]] [#[.map (some mg)]] [] 35 (by rw [Qae, Qae, Qae, Qae]; simp only [Array.size_append, cat, ((Qaf _ _).trans hsec)]; rfl) 0 _ rfl) kj) ?_
  refine Qaa (.int .i64 n) 16 rfl kj kj ?_
  have r4_1 := (Qad hes5 e1)
  refine Qaa (.agg (ints .u8 (lget ms n))) 17 rfl kj (Qf4 ms n ▸ QbB (kt := 3) (et := 93) (ms := ms.map mpv) (n := n) (z := .agg (ints .u8 (List.replicate 44 0))) 82 _ _ rfl kj kj kj kj ⟨_, _, r4_1, hM5⟩ kj) ?_
  refine Qaa (.int .i64 n) 18 rfl kj kj ?_
  refine Qa8 (fun v W' => (QbO W1.heap.size n (lget ms n)) v W' ∧ Ext W1 W') 48 #[.agg (ints .u8 (lget ms n)), .int .i64 n] 19 rfl kj kj ((Qjj (lget ms n) n _ (QbN hmo n).1).mono (by rintro e w' ⟨v, rfl, e1, hv⟩; exact ⟨v, rfl, hv, e1⟩)) fun vv11 W2 hh11 => ?_
  obtain ⟨hv11, e2⟩ := hh11
  have x2 : Ext w W2 := Ext.tr x1 e2
  obtain ⟨u12, rfl, hu12⟩ := hv11
  obtain ⟨a12_, c12_, rfl, -⟩ := id (OwnN.rd hu12)
  have r7_2 := (Qad r7_1 e2)
  refine Qaj g7 _ (cat [#[.int .i64 n], ints .u8 ((lget ms n).take 32), #[.slice a12_ (((lget ms n).drop 32).length) c12_]]) 40 r7_2 rfl kj (Qap 40 _ _ g7 40 _ _ r7_2 rfl kj kj (isz (n := 34) kj (by rw [Qae, Qae, Qae]; simp only [Array.size_append, cat, ((Qaf _ _).trans (QaG (QbN hmo n).1))]; rfl)) (eqsz (n := 34) (by rw [Qae, Qae, Qae]; simp only [Array.size_append, cat, ((Qaf _ _).trans (List.length_replicate (n := 32)))]; rfl) (by rw [Qae, Qae, Qae]; simp only [Array.size_append, cat, ((Qaf _ _).trans (QaG (QbN hmo n).1))]; rfl)) (QaY _ (by intro a ha; simp only [List.mem_cons, List.not_mem_nil, or_false] at ha; rcases ha with rfl | rfl | rfl; exact (QaA _ rfl); exact (Qa0 _ _); exact (QaA _ rfl)))) fun W3 p3 r7_3 => ?_
  have x3 : Ext w W3 := Puts.ext p3 x2 b7
  refine Qac ?_
  refine hK10 _ _ ?_
  refine wp_ret ?_
  repeat (first | with_reducible refine goR1 ?_ | with_reducible refine goR2 ?_)
  have f13_3 := (hu12.puts p3 (Qcq hu12 (Qar r7_1)))
  exact (show bodyPost _ _ _ .ret _ _ from ret1 (.agg (cat [#[.int .i64 n], ints .u8 ((lget ms n).take 32), #[.slice a12_ (((lget ms n).drop 32).length) c12_]])) rfl (QaL g7 40 _ r7_3 kj kj (isz (n := 34) kj (by rw [Qae, Qae, Qae]; simp only [Array.size_append, cat, ((Qaf _ _).trans (QaG (QbN hmo n).1))]; rfl))) ⟨_, rfl, x3, _, rfl, OwnN.base x1.size f13_3⟩)
set_option maxHeartbeats 4000000 in
theorem Qil (g : Nat) (nx : Int) (B : Nat) (hnx : 0 ≤ nx ∧ nx ≤ 4294967295) (hB : B < 18446744073709551616) (sec : List Int) (pl mg : Nat) (hsec : sec.length = 32) (w : World) (hg : w.heap[g]? = some (.cells (cat [#[.int .i64 nx], #[.int .u64 ((B : Nat) : Int)], ints .u8 (sec), #[.int .i64 ((pl : Nat) : Int)], #[.map (some mg)]]) 84)) (ms : List (Int × List Int)) (hmo : MsOk ms) (hmp : MpAt mg (ms.map mpv) w) (tc tq : TypeId) (hc : w.heap[2]? = some (.cells (ints .u64 QaD) tc)) (hq : w.heap[1]? = some (.cells (ints .u64 Qam) tq)) (hsb : Qao sec) (n : Nat) (hp : pl ≤ 4294967295) (hm : n ≤ 4294967294) (hn : pl ≤ n) : Calls Tryd.prog 34 #[.pointer (some ⟨g, 0, none⟩), .int .i64 ((n : Nat) : Int)] w (Qce w (QbO w.heap.size ((n : Nat) : Int) (keyV (itV sec (n - pl))))) := by
 obtain ⟨es5, cl5, hes5, hM5⟩ := id hmp
 refine enter 39 [(0, .pointer (some ⟨g, 0, none⟩)), (1, .int .i64 ((n : Nat) : Int))] Tryd.func34 rfl rfl kj rfl ?_
 refine wp_seq_k fun K6 hK6 => ?_
 refine Qab ?_
 refine Qas (cat [#[.int .i64 0], ints .u8 (List.replicate 32 0), #[.slice none 0 0]]) 40 4 rfl kj kj fun g7 W1 l7 e1 r7_1 => ?_
 have x1 : Ext w W1 := Ext.tr (Rely.Ext.refl w) e1
 have b7 : w.heap.size ≤ g7 := Nat.le_trans (Rely.Ext.refl w).size l7
 refine Qac ?_
 refine hK6 _ _ ?_
 refine wp_seq_k fun K8 hK8 => ?_
 refine wp_seq_k fun K9 hK9 => ?_
 refine Qab ?_
 refine Qaa (.int .i64 ((n : Nat) : Int)) 6 rfl kj kj ?_
 refine Qaa (.pointer (some ⟨g, 0, none⟩)) 7 rfl kj kj ?_
 refine Qaa (.pointer (some ⟨g, 0, none⟩)) 8 rfl kj kj ?_
 refine Qaa (.pointer (some ⟨g, 34, none⟩)) 9 rfl kj kj ?_
 have r1_1 := (Qad hg e1)
 refine Qaa (.int .i64 ((pl : Nat) : Int)) 10 rfl kj (Qal 3 _ g 34 84 _ (.int .i64 ((pl : Nat) : Int)) _ r1_1 rfl kj (Qat [#[.int .i64 nx], #[.int .u64 ((B : Nat) : Int)], ints .u8 (sec)] [#[.int .i64 ((pl : Nat) : Int)]] [#[.map (some mg)]] 34 (by rw [Qae, Qae, Qae]; simp only [Array.size_append, cat, ((Qaf _ _).trans hsec)]; rfl) 0 _ rfl) kj) ?_
 refine Qaa (.bool false) 11 rfl kj (Qah (u := .bool (decide (((n : Nat) : Int) < ((pl : Nat) : Int)))) kj (congrArg Value.bool (decide_eq_false (by omega)))) ?_
 refine Qac ?_
 refine hK9 _ _ ?_
 refine cond_false kj ?_
 refine wp_skip ?_
 refine hK8 _ _ ?_
 refine wp_seq_k fun K10 hK10 => ?_
 refine Qab ?_
 refine Qaa (.pointer (some ⟨g, 0, none⟩)) 20 rfl kj kj ?_
 refine Qaa (.pointer (some ⟨g, 0, none⟩)) 21 rfl kj kj ?_
 refine Qaa (.pointer (some ⟨g, 2, none⟩)) 22 rfl kj kj ?_
 refine Qaa (.agg (ints .u8 (sec))) 23 rfl kj (Qa3 23 _ g 2 84 _ _ _ r1_1 rfl kj (Qat [#[.int .i64 nx], #[.int .u64 ((B : Nat) : Int)]] [ints .u8 (sec)] [#[.int .i64 ((pl : Nat) : Int)], #[.map (some mg)]] 2 kj) kj (isz (n := 32) kj ((Qaf _ _).trans hsec))) ?_
 refine Qas (ints .u8 (List.replicate 32 0)) 23 5 rfl kj kj fun g11 W2 l11 e2 r11_2 => ?_
 have x2 : Ext w W2 := Ext.tr x1 e2
 have b11 : w.heap.size ≤ g11 := Nat.le_trans x1.size l11
 refine Qaj g11 _ (ints .u8 (sec)) 23 r11_2 rfl kj (Qap 23 _ _ g11 23 _ _ r11_2 rfl kj kj (isz (n := 32) kj ((Qaf _ _).trans hsec)) (eqsz (n := 32) ((Qaf _ _).trans (List.length_replicate (n := 32))) ((Qaf _ _).trans hsec)) (Qa0 _ _)) fun W3 p3 r11_3 => ?_
 have x3 : Ext w W3 := Puts.ext p3 x2 b11
 refine Qac ?_
 refine hK10 _ _ ?_
 refine wp_seq_k fun K12 hK12 => ?_
 refine wp_seq_k fun K13 hK13 => ?_
 refine Qab ?_
 refine Qaa (.int .i64 ((n : Nat) : Int)) 24 rfl kj kj ?_
 refine Qaa (.pointer (some ⟨g, 0, none⟩)) 25 rfl kj kj ?_
 refine Qaa (.pointer (some ⟨g, 0, none⟩)) 26 rfl kj kj ?_
 refine Qaa (.pointer (some ⟨g, 34, none⟩)) 27 rfl kj kj ?_
 have r1_2 := (Qad r1_1 e2)
 have r1_3 := (Puts.row p3 r1_2 (Qag r1_1 l11))
 refine Qaa (.int .i64 ((pl : Nat) : Int)) 28 rfl kj (Qal 3 _ g 34 84 _ (.int .i64 ((pl : Nat) : Int)) _ r1_3 rfl kj (Qat [#[.int .i64 nx], #[.int .u64 ((B : Nat) : Int)], ints .u8 (sec)] [#[.int .i64 ((pl : Nat) : Int)]] [#[.map (some mg)]] 34 (by rw [Qae, Qae, Qae]; simp only [Array.size_append, cat, ((Qaf _ _).trans hsec)]; rfl) 0 _ rfl) kj) ?_
 refine Qaa (.int .i64 (((n - pl : Nat) : Int))) 29 rfl kj (Qah (u := .int .i64 (IntKind.i64.wrap (((n : Nat) : Int) - ((pl : Nat) : Int)))) kj (congrArg (Value.int .i64) ((Qbo _ (by omega)).trans (by omega)))) ?_
 refine Qaa (.int .i64 0) 30 rfl kj kj ?_
 refine Qac ?_
 refine hK13 _ _ ?_
 refine wp_block ?_
 refine QaM (fun (s1 : Nat) => [(0, .pointer (some ⟨g, 0, none⟩)), (1, .int .i64 ((n : Nat) : Int)), (4, .pointer (some ⟨g7, 0, none⟩)), (5, .pointer (some ⟨g11, 0, none⟩)), (29, .int .i64 (((n - pl : Nat) : Int))), (30, .int .i64 ((s1 : Nat) : Int))]) (fun (s1 : Nat) W => (s1 ≤ n - pl) ∧ (W.heap[g11]? = some (.cells (ints .u8 (itV sec s1)) 23)) ∧ (Qai [g11] W3 W) ∧ (Ext w W)) (fun (s1 : Nat) => n - pl - s1) 0 ⟨rfl, rfl, rfl, rfl, rfl, rfl, trivial⟩ ⟨(Nat.zero_le _), r11_3, (Qai.refl [g11] W3), x3⟩ fun s1 X1 V1 hI1 => ?_
 obtain ⟨i, hs1⟩ : ∃ z, z = s1 := ⟨_, rfl⟩
 subst hs1
 obtain ⟨hi, q11_1, kk1, xx1⟩ := hI1
 replace hi : i ≤ n - pl := hi
 replace q11_1 : V1.heap[g11]? = some (.cells (ints .u8 (itV sec i)) 23) := q11_1
 replace kk1 : Qai [g11] W3 V1 := kk1
 replace xx1 : Ext w V1 := xx1
 have q4 := kk1
 refine wp_seq_k fun K14 hK14 => ?_
 refine Qab ?_
 refine Qaa (.bool (decide (((i : Nat) : Int) < ((n - pl : Nat) : Int)))) 31 rfl kj kj ?_
 refine Qac ?_
 refine hK14 _ _ ?_
 refine wp_seq_k fun K15 hK15 => ?_
 refine QaE (t := decide (((i : Nat) : Int) < ((n - pl : Nat) : Int))) kj (fun c16 => ?_) (fun c16 => ?_)
 ·skip
  have hlt31 : i < (n - pl) := by have := of_decide_eq_true c16; omega
  refine wp_skip ?_
  refine hK15 _ _ ?_
  refine wp_seq_k fun K17 hK17 => ?_
  refine wp_block ?_
  refine Qab ?_
  refine Qaa (.agg (ints .u8 (itV sec i))) 32 rfl kj (Qay 23 _ g11 23 _ _ q11_1 rfl kj kj (isz (n := 32) kj ((Qaf _ _).trans (Qav hsec i)))) ?_
  have r2_1 := (Qad hc e1)
  have r2_2 := (Qad r2_1 e2)
  have r2_3 := (Puts.row p3 r2_2 (Qag r2_1 l11))
  have r2_4 := (Qai.row q4 r2_3 (Qan (Qag r2_1 l11) Qa6))
  have r3_1 := (Qad hq e1)
  have r3_2 := (Qad r3_1 e2)
  have r3_3 := (Puts.row p3 r3_2 (Qag r3_1 l11))
  have r3_4 := (Qai.row q4 r3_3 (Qan (Qag r3_1 l11) Qa6))
  refine Qau (.agg (ints .u8 (itV sec (i + 1)))) 46 #[.agg (ints .u8 (itV sec i))] 33 rfl kj kj (QdJ (itV sec i) tc tq _ r2_4 r3_4 (Qav hsec _) (QaU hsb _)) fun W5 e5 => ?_
  have x5 : Ext w W5 := Ext.tr xx1 e5
  have r11_5 := (Qad q11_1 e5)
  refine Qaj g11 _ (ints .u8 (itV sec (i + 1))) 23 r11_5 rfl kj (Qap 23 _ _ g11 23 _ _ r11_5 rfl kj kj (isz (n := 32) kj ((Qaf _ _).trans (Qav hsec (i + 1)))) (eqsz (n := 32) ((Qaf _ _).trans (Qav hsec i)) ((Qaf _ _).trans (Qav hsec (i + 1)))) (Qa0 _ _)) fun W6 p6 r11_6 => ?_
  have x6 : Ext w W6 := Puts.ext p6 x5 b11
  refine Qac ?_
  refine hK17 _ _ ?_
  refine Qab ?_
  refine Qaa (.int .i64 ((i + 1 : Nat) : Int)) 34 rfl kj (Qah (u := .int .i64 (IntKind.i64.wrap (((i : Nat) : Int) + 1))) kj (congrArg (Value.int .i64) (i64n _ _ (by omega) (by omega)))) ?_
  refine Qaa (.int .i64 ((i + 1 : Nat) : Int)) 30 rfl kj kj ?_
  refine Qac ?_
  repeat (first | with_reducible refine goX1 ?_ | with_reducible refine goX2 ?_ | with_reducible refine goX3 ?_)
  exact QaB (i + 1) ⟨rfl, rfl, rfl, rfl, rfl, rfl, trivial⟩ ⟨(by omega), r11_6, (Qai.puts (Qai.step q4 e5) p6 (.inl (by simp))), x6⟩ (by omega)
 ·skip
  have heq31 : i = (n - pl) := by have := of_decide_eq_false c16; omega
  have r11_4_18 : V1.heap[g11]? = some (.cells (ints .u8 (itV sec (n - pl))) 23) := QaX q11_1 (by rw [heq31])
  refine wp_exit ?_
  refine hK12 _ _ ?_
  refine wp_seq_k fun K19 hK19 => ?_
  refine Qab ?_
  refine Qaa (.agg (ints .u8 (itV sec (n - pl)))) 35 rfl kj (Qay 23 _ g11 23 _ _ r11_4_18 rfl kj kj (isz (n := 32) kj ((Qaf _ _).trans (Qav hsec (n - pl))))) ?_
  have r2_1 := (Qad hc e1)
  have r2_2 := (Qad r2_1 e2)
  have r2_3 := (Puts.row p3 r2_2 (Qag r2_1 l11))
  have r2_4 := (Qai.row q4 r2_3 (Qan (Qag r2_1 l11) Qa6))
  have r3_1 := (Qad hq e1)
  have r3_2 := (Qad r3_1 e2)
  have r3_3 := (Puts.row p3 r3_2 (Qag r3_1 l11))
  have r3_4 := (Qai.row q4 r3_3 (Qan (Qag r3_1 l11) Qa6))
  refine Qau (.agg (ints .u8 (keyV (itV sec (n - pl))))) 45 #[.agg (ints .u8 (itV sec (n - pl)))] 36 rfl kj kj (QgO (itV sec (n - pl)) tc tq _ r2_4 r3_4 (Qav hsec _) (QaU hsb _)) fun W5 e5 => ?_
  have x5 : Ext w W5 := Ext.tr xx1 e5
  refine Qaa (.int .i64 ((n : Nat) : Int)) 37 rfl kj kj ?_
  refine Qa8 (fun v W' => (QbO W5.heap.size ((n : Nat) : Int) (keyV (itV sec (n - pl)))) v W' ∧ Ext W5 W') 48 #[.agg (ints .u8 (keyV (itV sec (n - pl)))), .int .i64 ((n : Nat) : Int)] 38 rfl kj kj ((Qjj (keyV (itV sec (n - pl))) ((n : Nat) : Int) _ (Qa7 _)).mono (by rintro e w' ⟨v, rfl, e1, hv⟩; exact ⟨v, rfl, hv, e1⟩)) fun vv20 W6 hh20 => ?_
  obtain ⟨hv20, e6⟩ := hh20
  have x6 : Ext w W6 := Ext.tr x5 e6
  obtain ⟨u21, rfl, hu21⟩ := hv20
  obtain ⟨a21_, c21_, rfl, -⟩ := id (OwnN.rd hu21)
  have r7_2 := (Qad r7_1 e2)
  have r7_3 := (Puts.row p3 r7_2 (Qag r7_1 l11))
  have r7_4 := (Qai.row q4 r7_3 (Qan (Qag r7_1 l11) Qa6))
  have r7_5 := (Qad r7_4 e5)
  have r7_6 := (Qad r7_5 e6)
  refine Qaj g7 _ (cat [#[.int .i64 ((n : Nat) : Int)], ints .u8 ((keyV (itV sec (n - pl))).take 32), #[.slice a21_ (((keyV (itV sec (n - pl))).drop 32).length) c21_]]) 40 r7_6 rfl kj (Qap 40 _ _ g7 40 _ _ r7_6 rfl kj kj (isz (n := 34) kj (by rw [Qae, Qae, Qae]; simp only [Array.size_append, cat, ((Qaf _ _).trans (QaG (Qa7 _)))]; rfl)) (eqsz (n := 34) (by rw [Qae, Qae, Qae]; simp only [Array.size_append, cat, ((Qaf _ _).trans (List.length_replicate (n := 32)))]; rfl) (by rw [Qae, Qae, Qae]; simp only [Array.size_append, cat, ((Qaf _ _).trans (QaG (Qa7 _)))]; rfl)) (QaY _ (by intro a ha; simp only [List.mem_cons, List.not_mem_nil, or_false] at ha; rcases ha with rfl | rfl | rfl; exact (QaA _ rfl); exact (Qa0 _ _); exact (QaA _ rfl)))) fun W7 p7 r7_7 => ?_
  have x7 : Ext w W7 := Puts.ext p7 x6 b7
  refine Qac ?_
  refine hK19 _ _ ?_
  refine wp_ret ?_
  repeat (first | with_reducible refine goR1 ?_ | with_reducible refine goR2 ?_)
  have f22_7 := (hu21.puts p7 (Qcq hu21 (Qar r7_5)))
  exact (show bodyPost _ _ _ .ret _ _ from ret1 (.agg (cat [#[.int .i64 ((n : Nat) : Int)], ints .u8 ((keyV (itV sec (n - pl))).take 32), #[.slice a21_ (((keyV (itV sec (n - pl))).drop 32).length) c21_]])) rfl (QaL g7 40 _ r7_7 kj kj (isz (n := 34) kj (by rw [Qae, Qae, Qae]; simp only [Array.size_append, cat, ((Qaf _ _).trans (QaG (Qa7 _)))]; rfl))) ⟨_, rfl, x7, _, rfl, OwnN.base x5.size f22_7⟩)
end Go.Proofs.YtibegnjaphohaaaDoor.Cn
end
