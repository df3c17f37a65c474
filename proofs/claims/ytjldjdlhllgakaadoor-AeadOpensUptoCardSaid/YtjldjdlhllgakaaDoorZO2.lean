/- Texts of this claim, joined (O2). -/
import Derived.Test.YtjldjdlhllgakaaDoorZO1
import Derived.Laws.Externs
import Derived.Shelf.Spec.BitsCarry
import Derived.Shelf.Bits.Mul64
import Derived.Laws.Bits64b

section
namespace Go.Proofs.YtjldjdlhllgakaaDoor.Ae
open Go Go.RowKit
open Rely Auto Own Sha
set_option linter.unusedVariables false
set_option linter.unusedSimpArgs false
open Sha Cha
theorem QcE (a : List Int) (i : Nat) (h : a.length ≤ i) : lev (a.take (i + 1)) = lev (a.take i) + 0 * p256 i := by
  rw [QcF a i h, QcF a (i + 1) (by omega)]; omega
theorem QdD {zs a b : List Int} {c n da db : Int} {i : Nat} (hl : zs.length = i) (hv : lev zs + c * p256 i = lev (a.take i) + lev (b.take i)) (hn : n = c + da + db) (ha : lev (a.take (i + 1)) = lev (a.take i) + da * p256 i) (hb : lev (b.take (i + 1)) = lev (b.take i) + db * p256 i) :
    lev (zs ++ [n % 256]) + n / 256 * p256 (i + 1) = lev (a.take (i + 1)) + lev (b.take (i + 1)) := by
  rw [ha, hb, Qdd, hl, QbF]
  have h1 : n = 256 * (n / 256) + n % 256 := by omega
  have h2 : n * p256 i = 256 * (n / 256) * p256 i + n % 256 * p256 i := by rw [← Int.add_mul, ← h1]
  have h3 : n * p256 i = c * p256 i + da * p256 i + db * p256 i := by rw [hn, Int.add_mul, Int.add_mul]
  grind
def DigR (base : Nat) (n : Int) (m : Nat) : Value → World → Prop := fun v W => ∃ zs : List Int, Qaj zs ∧ lev zs = n ∧ zs.length ≤ m ∧ OwnN .i64 3 base zs v W
theorem QcS (b : List Int) (i : Nat) (h : i < b.length) : b.take (i + 1) = b.take i ++ [nth b i] := by
  rw [List.take_add_one, List.getElem?_eq_getElem h]
  simp [nth, h]
set_option maxHeartbeats 4000000 in
theorem Qdz (b : List Int) (v : Value) (B : Nat) (w : World) (hb : RdK .u8 B b v w) (hl : b.length ≤ 1000000) (hbb : Qaj b) : Calls Tryd.prog 27 #[v] w (Qcb w (OwnN .i64 3 w.heap.size b)) := by
 obtain ⟨a_b, c_b, rfl, -⟩ := id hb
 refine enter 20 [(0, .slice a_b b.length c_b)] Tryd.func27 rfl rfl kj rfl ?_
 refine wp_seq_k fun K1 hK1 => ?_
 refine Qab ?_
 refine Qaa (.slice none 0 0) 2 rfl kj kj ?_
 refine Qac ?_
 refine hK1 _ _ ?_
 refine wp_seq_k fun K2 hK2 => ?_
 refine Qab ?_
 refine Qaa (.slice none 0 0) 3 rfl kj kj ?_
 refine Qac ?_
 refine hK2 _ _ ?_
 refine wp_seq_k fun K3 hK3 => ?_
 refine wp_seq_k fun K4 hK4 => ?_
 refine Qab ?_
 refine Qaa (.int .i64 0) 4 rfl kj kj ?_
 refine Qac ?_
 refine hK4 _ _ ?_
 refine wp_block ?_
 refine QaH (fun (s1 : Nat × Value) => [(0, .slice a_b b.length c_b), (3, s1.2), (4, .int .i64 ((s1.1 : Nat) : Int))]) (fun (s1 : Nat × Value) W => (s1.1 ≤ b.length) ∧ (OwnN .i64 3 w.heap.size (b.take s1.1) s1.2 W) ∧ (Ext w W) ∧ (Ext w W)) (fun (s1 : Nat × Value) => b.length - s1.1) (0, (.slice none 0 0)) ⟨rfl, rfl, rfl, trivial⟩ ⟨(Nat.zero_le _), (by rw [List.take_zero]; exact QbW _ _ _ _), (Rely.Ext.refl w), (Rely.Ext.refl w)⟩ fun s1 X1 V1 hI1 => ?_
 obtain ⟨i, u⟩ := s1
 obtain ⟨hi, hu, kk1, xx1⟩ := hI1
 replace hi : i ≤ b.length := hi
 replace hu : OwnN .i64 3 w.heap.size (b.take i) u V1 := hu
 replace kk1 : Ext w V1 := kk1
 replace xx1 : Ext w V1 := xx1
 have e1 := kk1
 refine wp_seq_k fun K5 hK5 => ?_
 refine wp_seq_k fun K6 hK6 => ?_
 refine Qab ?_
 refine Qaa (.int .i64 ((i : Nat) : Int)) 5 rfl kj kj ?_
 refine Qaa (.slice a_b b.length c_b) 6 rfl kj kj ?_
 refine Qaa (.int .i64 ((b.length : Nat) : Int)) 7 rfl kj kj ?_
 refine Qaa (.bool (decide (((i : Nat) : Int) < ((b.length : Nat) : Int)))) 8 rfl kj kj ?_
 refine Qac ?_
 refine hK6 _ _ ?_
 refine Qa8 (t := decide (((i : Nat) : Int) < ((b.length : Nat) : Int))) kj (fun c7 => ?_) (fun c7 => ?_)
 ·skip
  have hlt8 : i < b.length := by have := of_decide_eq_true c7; omega
  obtain ⟨grb8, orb8, harb8, -, hlrb8, hcrb8⟩ := Qb4 (RdK.ext hb xx1) (by omega)
  have hbi := Qa1 hbb i
  refine wp_skip ?_
  refine hK5 _ _ ?_
  refine wp_seq_k fun K9 hK9 => ?_
  refine wp_block ?_
  refine Qab ?_
  refine Qaa (u) 11 rfl kj kj ?_
  refine Qaa (.slice a_b b.length c_b) 12 rfl kj kj ?_
  refine Qaa (.int .i64 ((i : Nat) : Int)) 13 rfl kj kj ?_
  refine Qaa (.pointer (some ⟨grb8, orb8 + i, none⟩)) 14 rfl kj (QaJ 24 _ _ .i64 i grb8 orb8 b.length c_b 5 a_b _ harb8 rfl rfl kj kj kj kj (Nat.lt_of_lt_of_eq (show i < (b).length by omega) (rfl : (b).length = (b).length).symm)) ?_
  refine Qaa (.int .u8 (nth (b) (i))) 15 rfl kj (Qav 5 _ _ (.int .u8 (nth (b) (i))) (hcrb8 i (Nat.lt_of_lt_of_eq (show i < (b).length by omega) (rfl : (b).length = (b).length).symm)) rfl kj kj) ?_
  refine Qaa (.int .i64 (nth b i)) 16 rfl kj (Qah (u := .int .i64 (IntKind.i64.wrap (nth (b) (i)))) kj (congrArg (Value.int .i64) (IntWalk.i64_in _ (by omega)))) ?_
  refine QaD (ints .i64 ([(nth b i)])) 3 1 17 rfl kj kj fun g10 W2 l10 e2 r10_2 => ?_
  have x2 : Ext w W2 := Ext.tr xx1 e2
  have b10 : w.heap.size ≤ g10 := Nat.le_trans xx1.size l10
  have f11_2 := (hu.ext e2)
  have y0_2 : Ext w W2 := (Rely.Ext.trans e1 e2)
  refine QaE (k := .i64) (T := 3) (xs := b.take i) (ys := [(nth b i)]) (V := w) 8 (.tmp 11) (.tmp 17) 54 rfl kj kj (by decide) 18 rfl kj kj kj f11_2 (QaP (xs := [(nth b i)]) (n := 1) rfl r10_2 (QaA r10_2) (show 1 ≤ maxLen from by decide)) (by rw [List.length_take]; show _ + 1 ≤ _; omega) y0_2 fun z1 W3 f12 y3 l3 => ?_
  have x3 : Ext w W3 := Ext.low x2 l3 (Rely.Ext.refl w).size
  refine Qaa (z1) 3 rfl kj kj ?_
  refine Qac ?_
  refine hK9 _ _ ?_
  refine Qab ?_
  refine Qaa (.int .i64 ((i : Nat) : Int)) 9 rfl kj kj ?_
  refine Qaa (.int .i64 ((i + 1 : Nat) : Int)) 10 rfl kj (Qah (u := .int .i64 (IntKind.i64.wrap (((i : Nat) : Int) + 1))) kj (congrArg (Value.int .i64) (i64n _ _ (by omega) (by omega)))) ?_
  refine Qaa (.int .i64 ((i + 1 : Nat) : Int)) 4 rfl kj kj ?_
  refine Qac ?_
  repeat (first | with_reducible refine goX1 ?_ | with_reducible refine goX2 ?_ | with_reducible refine goX3 ?_)
  exact Qaz ((i + 1), z1) ⟨rfl, rfl, rfl, trivial⟩ ⟨(by omega), (by rw [QcS b i hlt8]; exact f12), y3, x3⟩ (by show b.length - (i + 1) < b.length - i; omega)
 ·skip
  have heq8 : i = b.length := by have := of_decide_eq_false c7; omega
  refine wp_exit ?_
  refine hK3 _ _ ?_
  refine wp_seq_k fun K14 hK14 => ?_
  refine Qab ?_
  refine Qaa (u) 19 rfl kj kj ?_
  refine Qaa (u) 2 rfl kj kj ?_
  refine Qac ?_
  refine hK14 _ _ ?_
  refine wp_ret ?_
  repeat (first | with_reducible refine goR1 ?_ | with_reducible refine goR2 ?_)
  exact (show bodyPost _ _ _ .ret _ _ from ret1 (u) rfl (QaC kj) ⟨u, rfl, xx1, OwnN.base (Rely.Ext.refl w).size (by have h9 := hu; rw [heq8, List.take_length] at h9; exact h9)⟩)
set_option maxHeartbeats 4000000 in
theorem Qek (a b : List Int) (v v2 : Value) (B B2 : Nat) (w : World) (ha : RdK .i64 B a v w) (hb : RdK .i64 B2 b v2 w) (hal : a.length ≤ 1000000) (hbl : b.length ≤ 1000000) (haa : Qaj a) (hbb : Qaj b) :
  Calls Tryd.prog 31 #[v, v2] w (Qcb w (DigR w.heap.size (lev a + lev b) (max a.length b.length + 1))) := by
 obtain ⟨a_a, c_a, rfl, -⟩ := id ha
 obtain ⟨a_b, c_b, rfl, -⟩ := id hb
 refine enter 54 [(0, .slice a_a a.length c_a), (1, .slice a_b b.length c_b)] Tryd.func31 rfl rfl kj rfl ?_
 refine wp_seq_k fun K1 hK1 => ?_
 refine Qab ?_
 refine Qaa (.slice none 0 0) 4 rfl kj kj ?_
 refine Qac ?_
 refine hK1 _ _ ?_
 refine wp_seq_k fun K2 hK2 => ?_
 refine Qab ?_
 refine Qaa (.slice none 0 0) 5 rfl kj kj ?_
 refine Qac ?_
 refine hK2 _ _ ?_
 refine wp_seq_k fun K3 hK3 => ?_
 refine Qab ?_
 refine Qaa (.int .i64 0) 6 rfl kj kj ?_
 refine Qac ?_
 refine hK3 _ _ ?_
 refine wp_seq_k fun K4 hK4 => ?_
 refine wp_seq_k fun K5 hK5 => ?_
 refine Qab ?_
 refine Qaa (.int .i64 0) 7 rfl kj kj ?_
 refine Qac ?_
 refine hK5 _ _ ?_
 refine wp_block ?_
 refine QaH (fun (s1 : Nat × Int × List Int × Value) => [(0, .slice a_a a.length c_a), (1, .slice a_b b.length c_b), (5, s1.2.2.2), (6, .int .i64 (s1.2.1)), (7, .int .i64 ((s1.1 : Nat) : Int))]) (fun (s1 : Nat × Int × List Int × Value) W => (s1.2.2.1.length = s1.1) ∧ (Qaj s1.2.2.1) ∧ (lev s1.2.2.1 + s1.2.1 * p256 s1.1 = lev (a.take s1.1) + lev (b.take s1.1)) ∧ (0 ≤ s1.2.1 ∧ s1.2.1 ≤ 1) ∧ (s1.1 ≤ max a.length b.length + 1) ∧ (s1.1 = max a.length b.length + 1 → s1.2.1 = 0) ∧ (OwnN .i64 3 w.heap.size s1.2.2.1 s1.2.2.2 W) ∧ (Ext w W) ∧ (Ext w W)) (fun (s1 : Nat × Int × List Int × Value) => max a.length b.length + 1 - s1.1) (0, 0, [], (.slice none 0 0)) ⟨rfl, rfl, rfl, rfl, rfl, trivial⟩ ⟨rfl, (fun x hx => by cases hx), (by simp [lev]), ⟨Int.le_refl _, by decide⟩, (Nat.zero_le _), (fun _ => rfl), (QbW _ _ _ _), (Rely.Ext.refl w), (Rely.Ext.refl w)⟩ fun s1 X1 V1 hI1 => ?_
 obtain ⟨i, c, zs, u⟩ := s1
 obtain ⟨hzl, hzb, hv, hc, him, hm0, hu, kk1, xx1⟩ := hI1
 replace hzl : zs.length = i := hzl
 replace hzb : Qaj zs := hzb
 replace hv : lev zs + c * p256 i = lev (a.take i) + lev (b.take i) := hv
 replace hc : 0 ≤ c ∧ c ≤ 1 := hc
 replace him : i ≤ max a.length b.length + 1 := him
 replace hm0 : i = max a.length b.length + 1 → c = 0 := hm0
 replace hu : OwnN .i64 3 w.heap.size zs u V1 := hu
 replace kk1 : Ext w V1 := kk1
 replace xx1 : Ext w V1 := xx1
 have e1 := kk1
 refine wp_seq_k fun K6 hK6 => ?_
 refine wp_seq_k fun K7 hK7 => ?_
 rcases (show i < a.length ∨ (a.length ≤ i ∧ i < b.length) ∨ (a.length ≤ i ∧ b.length ≤ i ∧ 0 < c) ∨ (a.length ≤ i ∧ b.length ≤ i ∧ ¬ 0 < c) by omega) with hq | hq | hq | hq
 ·skip
  have hia : i < a.length := hq
  have hai := Qa1 haa i
  refine Qab ?_
  refine Qaa (.int .i64 ((i : Nat) : Int)) 9 rfl kj kj ?_
  refine Qaa (.slice a_a a.length c_a) 10 rfl kj kj ?_
  refine Qaa (.int .i64 ((a.length : Nat) : Int)) 11 rfl kj kj ?_
  refine Qaa (.bool true) 12 rfl kj (Qah (u := .bool (decide (((i : Nat) : Int) < ((a.length : Nat) : Int)))) kj (congrArg Value.bool (decide_eq_true (by omega)))) ?_
  refine Qaa (.bool true) 13 rfl kj kj ?_
  refine Qas 14 rfl kj ?_
  refine Qas 15 rfl kj ?_
  refine Qas 16 rfl kj ?_
  refine Qas 17 rfl kj ?_
  refine Qaa (.bool true) 18 rfl kj kj ?_
  refine Qaa (.bool true) 19 rfl kj kj ?_
  refine Qas 20 rfl kj ?_
  refine Qas 21 rfl kj ?_
  refine Qaa (.bool true) 22 rfl kj kj ?_
  refine Qac ?_
  refine hK7 _ _ ?_
  refine cond_true kj ?_
  refine wp_skip ?_
  refine hK6 _ _ ?_
  refine wp_seq_k fun K8 hK8 => ?_
  refine wp_block ?_
  refine wp_seq_k fun K9 hK9 => ?_
  refine Qab ?_
  refine Qaa (.int .i64 (c)) 25 rfl kj kj ?_
  refine Qaa (.int .i64 (c)) 8 rfl kj kj ?_
  refine Qac ?_
  refine hK9 _ _ ?_
  refine wp_seq_k fun K10 hK10 => ?_
  refine wp_seq_k fun K11 hK11 => ?_
  refine Qab ?_
  refine Qaa (.int .i64 ((i : Nat) : Int)) 26 rfl kj kj ?_
  refine Qaa (.slice a_a a.length c_a) 27 rfl kj kj ?_
  refine Qaa (.int .i64 ((a.length : Nat) : Int)) 28 rfl kj kj ?_
  refine Qaa (.bool true) 29 rfl kj (Qah (u := .bool (decide (((i : Nat) : Int) < ((a.length : Nat) : Int)))) kj (congrArg Value.bool (decide_eq_true (by omega)))) ?_
  refine Qac ?_
  refine hK11 _ _ ?_
  refine cond_true kj ?_
  refine Qab ?_
  refine Qaa (.int .i64 (c)) 30 rfl kj kj ?_
  obtain ⟨gra12, ora12, hara12, -, hlra12, hcra12⟩ := Qb4 (RdK.ext ha xx1) (by omega)
  refine Qaa (.slice a_a a.length c_a) 31 rfl kj kj ?_
  refine Qaa (.int .i64 ((i : Nat) : Int)) 32 rfl kj kj ?_
  refine Qaa (.pointer (some ⟨gra12, ora12 + i, none⟩)) 33 rfl kj (QaJ 54 _ _ .i64 i gra12 ora12 a.length c_a 3 a_a _ hara12 rfl rfl kj kj kj kj (Nat.lt_of_lt_of_eq (show i < (a).length by omega) (rfl : (a).length = (a).length).symm)) ?_
  refine Qaa (.int .i64 (nth (a) (i))) 34 rfl kj (Qav 3 _ _ (.int .i64 (nth (a) (i))) (hcra12 i (Nat.lt_of_lt_of_eq (show i < (a).length by omega) (rfl : (a).length = (a).length).symm)) rfl kj kj) ?_
  refine Qaa (.int .i64 (c + nth (a) (i))) 35 rfl kj (Qah (u := .int .i64 (IntKind.i64.wrap (c + (nth (a) (i))))) kj (congrArg (Value.int .i64) (IntWalk.i64_in _ (by omega)))) ?_
  refine Qaa (.int .i64 (c + nth (a) (i))) 8 rfl kj kj ?_
  refine Qac ?_
  refine hK10 _ _ ?_
  refine wp_seq_k fun K13 hK13 => ?_
  refine wp_seq_k fun K14 hK14 => ?_
  refine Qab ?_
  refine Qaa (.int .i64 ((i : Nat) : Int)) 36 rfl kj kj ?_
  refine Qaa (.slice a_b b.length c_b) 37 rfl kj kj ?_
  refine Qaa (.int .i64 ((b.length : Nat) : Int)) 38 rfl kj kj ?_
  refine Qaa (.bool (decide (((i : Nat) : Int) < ((b.length : Nat) : Int)))) 39 rfl kj kj ?_
  refine Qac ?_
  refine hK14 _ _ ?_
  refine Qa8 (t := decide (((i : Nat) : Int) < ((b.length : Nat) : Int))) kj (fun c15 => ?_) (fun c15 => ?_)
  ·skip
   have hib : i < b.length := by have := of_decide_eq_true c15; omega
   have hbi := Qa1 hbb i
   refine Qab ?_
   refine Qaa (.int .i64 (c + nth (a) (i))) 40 rfl kj kj ?_
   obtain ⟨grb16, orb16, harb16, -, hlrb16, hcrb16⟩ := Qb4 (RdK.ext hb xx1) (by omega)
   refine Qaa (.slice a_b b.length c_b) 41 rfl kj kj ?_
   refine Qaa (.int .i64 ((i : Nat) : Int)) 42 rfl kj kj ?_
   refine Qaa (.pointer (some ⟨grb16, orb16 + i, none⟩)) 43 rfl kj (QaJ 54 _ _ .i64 i grb16 orb16 b.length c_b 3 a_b _ harb16 rfl rfl kj kj kj kj (Nat.lt_of_lt_of_eq (show i < (b).length by omega) (rfl : (b).length = (b).length).symm)) ?_
   refine Qaa (.int .i64 (nth (b) (i))) 44 rfl kj (Qav 3 _ _ (.int .i64 (nth (b) (i))) (hcrb16 i (Nat.lt_of_lt_of_eq (show i < (b).length by omega) (rfl : (b).length = (b).length).symm)) rfl kj kj) ?_
   refine Qaa (.int .i64 (c + nth (a) (i) + nth (b) (i))) 45 rfl kj (Qah (u := .int .i64 (IntKind.i64.wrap ((c + nth (a) (i)) + (nth (b) (i))))) kj (congrArg (Value.int .i64) (IntWalk.i64_in _ (by omega)))) ?_
   refine Qaa (.int .i64 (c + nth (a) (i) + nth (b) (i))) 8 rfl kj kj ?_
   refine Qac ?_
   refine hK13 _ _ ?_
   refine wp_seq_k fun K17 hK17 => ?_
   refine Qab ?_
   refine Qaa (u) 46 rfl kj kj ?_
   refine Qaa (.int .i64 (c + nth (a) (i) + nth (b) (i))) 47 rfl kj kj ?_
   refine Qaa (.int .i64 ((c + nth (a) (i) + nth (b) (i)) % 256)) 48 rfl kj (Qah (u := .int .i64 (Int.tmod ((c + nth (a) (i) + nth (b) (i))) (256))) kj (congrArg (Value.int .i64) (show Int.tmod (c + nth (a) (i) + nth (b) (i)) 256 = (c + nth (a) (i) + nth (b) (i)) % 256 from Int.tmod_eq_emod_of_nonneg (by omega)))) ?_
   refine QaD (ints .i64 ([((c + nth (a) (i) + nth (b) (i)) % 256)])) 3 1 49 rfl kj kj fun g18 W2 l18 e2 r18_2 => ?_
   have x2 : Ext w W2 := Ext.tr xx1 e2
   have b18 : w.heap.size ≤ g18 := Nat.le_trans xx1.size l18
   have f19_2 := (hu.ext e2)
   have y0_2 : Ext w W2 := (Rely.Ext.trans e1 e2)
   refine QaE (k := .i64) (T := 3) (xs := zs) (ys := [((c + nth (a) (i) + nth (b) (i)) % 256)]) (V := w) 8 (.tmp 46) (.tmp 49) 54 rfl kj kj (by decide) 50 rfl kj kj kj f19_2 (QaP (xs := [((c + nth (a) (i) + nth (b) (i)) % 256)]) (n := 1) rfl r18_2 (QaA r18_2) (show 1 ≤ maxLen from by decide)) (by show zs.length + 1 ≤ _; omega) y0_2 fun z1 W3 f20 y3 l3 => ?_
   have x3 : Ext w W3 := Ext.low x2 l3 (Rely.Ext.refl w).size
   refine Qaa (z1) 5 rfl kj kj ?_
   refine Qac ?_
   refine hK17 _ _ ?_
   refine Qab ?_
   refine Qaa (.int .i64 (c + nth (a) (i) + nth (b) (i))) 51 rfl kj kj ?_
   refine Qaa (.int .i64 ((c + nth (a) (i) + nth (b) (i)) / 256)) 52 rfl kj (Qah (u := .int .i64 (IntKind.i64.wrap (Int.tdiv ((c + nth (a) (i) + nth (b) (i))) (256)))) kj (congrArg (Value.int .i64) (by rw [show Int.tdiv (c + nth (a) (i) + nth (b) (i)) 256 = (c + nth (a) (i) + nth (b) (i)) / 256 from Int.tdiv_eq_ediv_of_nonneg (by omega)]; exact IntWalk.i64_in _ (by omega)))) ?_
   refine Qaa (.int .i64 ((c + nth (a) (i) + nth (b) (i)) / 256)) 6 rfl kj kj ?_
   refine Qac ?_
   refine hK8 _ _ ?_
   refine Qab ?_
   refine Qaa (.int .i64 ((i : Nat) : Int)) 23 rfl kj kj ?_
   refine Qaa (.int .i64 ((i + 1 : Nat) : Int)) 24 rfl kj (Qah (u := .int .i64 (IntKind.i64.wrap (((i : Nat) : Int) + 1))) kj (congrArg (Value.int .i64) (i64n _ _ (by omega) (by omega)))) ?_
   refine Qaa (.int .i64 ((i + 1 : Nat) : Int)) 7 rfl kj kj ?_
   refine Qac ?_
   repeat (first | with_reducible refine goX1 ?_ | with_reducible refine goX2 ?_ | with_reducible refine goX3 ?_)
   exact Qaz ((i + 1), ((c + nth (a) (i) + nth (b) (i)) / 256), (zs ++ [(c + nth (a) (i) + nth (b) (i)) % 256]), z1) ⟨rfl, rfl, rfl, rfl, rfl, trivial⟩ ⟨(by rw [List.length_append, hzl]; rfl), (Qbc hzb (Qbo (by omega) (by omega))), (QdD (c := c) (n := c + nth (a) (i) + nth (b) (i)) (da := nth a i) (db := nth b i) hzl hv (by omega) (Qbh a i hia) (Qbh b i hib)), (show 0 ≤ (c + nth (a) (i) + nth (b) (i)) / 256 ∧ (c + nth (a) (i) + nth (b) (i)) / 256 ≤ 1 by omega), (show i + 1 ≤ max a.length b.length + 1 by omega), (show i + 1 = max a.length b.length + 1 → (c + nth (a) (i) + nth (b) (i)) / 256 = 0 by intro h8; omega), f20, y3, x3⟩ (by show max a.length b.length + 1 - (i + 1) < max a.length b.length + 1 - i; omega)
  ·skip
   have hnb : b.length ≤ i := by have := of_decide_eq_false c15; omega
   refine wp_skip ?_
   refine hK13 _ _ ?_
   refine wp_seq_k fun K22 hK22 => ?_
   refine Qab ?_
   refine Qaa (u) 46 rfl kj kj ?_
   refine Qaa (.int .i64 (c + nth (a) (i))) 47 rfl kj kj ?_
   refine Qaa (.int .i64 ((c + nth (a) (i)) % 256)) 48 rfl kj (Qah (u := .int .i64 (Int.tmod ((c + nth (a) (i))) (256))) kj (congrArg (Value.int .i64) (show Int.tmod (c + nth (a) (i)) 256 = (c + nth (a) (i)) % 256 from Int.tmod_eq_emod_of_nonneg (by omega)))) ?_
   refine QaD (ints .i64 ([((c + nth (a) (i)) % 256)])) 3 1 49 rfl kj kj fun g23 W2 l23 e2 r23_2 => ?_
   have x2 : Ext w W2 := Ext.tr xx1 e2
   have b23 : w.heap.size ≤ g23 := Nat.le_trans xx1.size l23
   have f24_2 := (hu.ext e2)
   have y0_2 : Ext w W2 := (Rely.Ext.trans e1 e2)
   refine QaE (k := .i64) (T := 3) (xs := zs) (ys := [((c + nth (a) (i)) % 256)]) (V := w) 8 (.tmp 46) (.tmp 49) 54 rfl kj kj (by decide) 50 rfl kj kj kj f24_2 (QaP (xs := [((c + nth (a) (i)) % 256)]) (n := 1) rfl r23_2 (QaA r23_2) (show 1 ≤ maxLen from by decide)) (by show zs.length + 1 ≤ _; omega) y0_2 fun z2 W3 f25 y3 l3 => ?_
   have x3 : Ext w W3 := Ext.low x2 l3 (Rely.Ext.refl w).size
   refine Qaa (z2) 5 rfl kj kj ?_
   refine Qac ?_
   refine hK22 _ _ ?_
   refine Qab ?_
   refine Qaa (.int .i64 (c + nth (a) (i))) 51 rfl kj kj ?_
   refine Qaa (.int .i64 ((c + nth (a) (i)) / 256)) 52 rfl kj (Qah (u := .int .i64 (IntKind.i64.wrap (Int.tdiv ((c + nth (a) (i))) (256)))) kj (congrArg (Value.int .i64) (by rw [show Int.tdiv (c + nth (a) (i)) 256 = (c + nth (a) (i)) / 256 from Int.tdiv_eq_ediv_of_nonneg (by omega)]; exact IntWalk.i64_in _ (by omega)))) ?_
   refine Qaa (.int .i64 ((c + nth (a) (i)) / 256)) 6 rfl kj kj ?_
   refine Qac ?_
   refine hK8 _ _ ?_
   refine Qab ?_
   refine Qaa (.int .i64 ((i : Nat) : Int)) 23 rfl kj kj ?_
   refine Qaa (.int .i64 ((i + 1 : Nat) : Int)) 24 rfl kj (Qah (u := .int .i64 (IntKind.i64.wrap (((i : Nat) : Int) + 1))) kj (congrArg (Value.int .i64) (i64n _ _ (by omega) (by omega)))) ?_
   refine Qaa (.int .i64 ((i + 1 : Nat) : Int)) 7 rfl kj kj ?_
   refine Qac ?_
   repeat (first | with_reducible refine goX1 ?_ | with_reducible refine goX2 ?_ | with_reducible refine goX3 ?_)
   exact Qaz ((i + 1), ((c + nth (a) (i)) / 256), (zs ++ [(c + nth (a) (i)) % 256]), z2) ⟨rfl, rfl, rfl, rfl, rfl, trivial⟩ ⟨(by rw [List.length_append, hzl]; rfl), (Qbc hzb (Qbo (by omega) (by omega))), (QdD (c := c) (n := c + nth (a) (i)) (da := nth a i) (db := 0) hzl hv (by omega) (Qbh a i hia) (QcE b i hnb)), (show 0 ≤ (c + nth (a) (i)) / 256 ∧ (c + nth (a) (i)) / 256 ≤ 1 by omega), (show i + 1 ≤ max a.length b.length + 1 by omega), (show i + 1 = max a.length b.length + 1 → (c + nth (a) (i)) / 256 = 0 by intro h8; omega), f25, y3, x3⟩ (by show max a.length b.length + 1 - (i + 1) < max a.length b.length + 1 - i; omega)
 ·skip
  have hna : a.length ≤ i := hq.1
  have hib : i < b.length := hq.2
  have hbi := Qa1 hbb i
  refine Qab ?_
  refine Qaa (.int .i64 ((i : Nat) : Int)) 9 rfl kj kj ?_
  refine Qaa (.slice a_a a.length c_a) 10 rfl kj kj ?_
  refine Qaa (.int .i64 ((a.length : Nat) : Int)) 11 rfl kj kj ?_
  refine Qaa (.bool false) 12 rfl kj (Qah (u := .bool (decide (((i : Nat) : Int) < ((a.length : Nat) : Int)))) kj (congrArg Value.bool (decide_eq_false (by omega)))) ?_
  refine Qaa (.bool false) 13 rfl kj kj ?_
  refine Qaa (.int .i64 ((i : Nat) : Int)) 14 rfl kj kj ?_
  refine Qaa (.slice a_b b.length c_b) 15 rfl kj kj ?_
  refine Qaa (.int .i64 ((b.length : Nat) : Int)) 16 rfl kj kj ?_
  refine Qaa (.bool true) 17 rfl kj (Qah (u := .bool (decide (((i : Nat) : Int) < ((b.length : Nat) : Int)))) kj (congrArg Value.bool (decide_eq_true (by omega)))) ?_
  refine Qaa (.bool true) 18 rfl kj kj ?_
  refine Qaa (.bool true) 19 rfl kj kj ?_
  refine Qas 20 rfl kj ?_
  refine Qas 21 rfl kj ?_
  refine Qaa (.bool true) 22 rfl kj kj ?_
  refine Qac ?_
  refine hK7 _ _ ?_
  refine cond_true kj ?_
  refine wp_skip ?_
  refine hK6 _ _ ?_
  refine wp_seq_k fun K27 hK27 => ?_
  refine wp_block ?_
  refine wp_seq_k fun K28 hK28 => ?_
  refine Qab ?_
  refine Qaa (.int .i64 (c)) 25 rfl kj kj ?_
  refine Qaa (.int .i64 (c)) 8 rfl kj kj ?_
  refine Qac ?_
  refine hK28 _ _ ?_
  refine wp_seq_k fun K29 hK29 => ?_
  refine wp_seq_k fun K30 hK30 => ?_
  refine Qab ?_
  refine Qaa (.int .i64 ((i : Nat) : Int)) 26 rfl kj kj ?_
  refine Qaa (.slice a_a a.length c_a) 27 rfl kj kj ?_
  refine Qaa (.int .i64 ((a.length : Nat) : Int)) 28 rfl kj kj ?_
  refine Qaa (.bool false) 29 rfl kj (Qah (u := .bool (decide (((i : Nat) : Int) < ((a.length : Nat) : Int)))) kj (congrArg Value.bool (decide_eq_false (by omega)))) ?_
  refine Qac ?_
  refine hK30 _ _ ?_
  refine cond_false kj ?_
  refine wp_skip ?_
  refine hK29 _ _ ?_
  refine wp_seq_k fun K31 hK31 => ?_
  refine wp_seq_k fun K32 hK32 => ?_
  refine Qab ?_
  refine Qaa (.int .i64 ((i : Nat) : Int)) 36 rfl kj kj ?_
  refine Qaa (.slice a_b b.length c_b) 37 rfl kj kj ?_
  refine Qaa (.int .i64 ((b.length : Nat) : Int)) 38 rfl kj kj ?_
  refine Qaa (.bool true) 39 rfl kj (Qah (u := .bool (decide (((i : Nat) : Int) < ((b.length : Nat) : Int)))) kj (congrArg Value.bool (decide_eq_true (by omega)))) ?_
  refine Qac ?_
  refine hK32 _ _ ?_
  refine cond_true kj ?_
  refine Qab ?_
  refine Qaa (.int .i64 (c)) 40 rfl kj kj ?_
  obtain ⟨grb33, orb33, harb33, -, hlrb33, hcrb33⟩ := Qb4 (RdK.ext hb xx1) (by omega)
  refine Qaa (.slice a_b b.length c_b) 41 rfl kj kj ?_
  refine Qaa (.int .i64 ((i : Nat) : Int)) 42 rfl kj kj ?_
  refine Qaa (.pointer (some ⟨grb33, orb33 + i, none⟩)) 43 rfl kj (QaJ 54 _ _ .i64 i grb33 orb33 b.length c_b 3 a_b _ harb33 rfl rfl kj kj kj kj (Nat.lt_of_lt_of_eq (show i < (b).length by omega) (rfl : (b).length = (b).length).symm)) ?_
  refine Qaa (.int .i64 (nth (b) (i))) 44 rfl kj (Qav 3 _ _ (.int .i64 (nth (b) (i))) (hcrb33 i (Nat.lt_of_lt_of_eq (show i < (b).length by omega) (rfl : (b).length = (b).length).symm)) rfl kj kj) ?_
  refine Qaa (.int .i64 (c + nth (b) (i))) 45 rfl kj (Qah (u := .int .i64 (IntKind.i64.wrap (c + (nth (b) (i))))) kj (congrArg (Value.int .i64) (IntWalk.i64_in _ (by omega)))) ?_
  refine Qaa (.int .i64 (c + nth (b) (i))) 8 rfl kj kj ?_
  refine Qac ?_
  refine hK31 _ _ ?_
  refine wp_seq_k fun K34 hK34 => ?_
  refine Qab ?_
  refine Qaa (u) 46 rfl kj kj ?_
  refine Qaa (.int .i64 (c + nth (b) (i))) 47 rfl kj kj ?_
  refine Qaa (.int .i64 ((c + nth (b) (i)) % 256)) 48 rfl kj (Qah (u := .int .i64 (Int.tmod ((c + nth (b) (i))) (256))) kj (congrArg (Value.int .i64) (show Int.tmod (c + nth (b) (i)) 256 = (c + nth (b) (i)) % 256 from Int.tmod_eq_emod_of_nonneg (by omega)))) ?_
  refine QaD (ints .i64 ([((c + nth (b) (i)) % 256)])) 3 1 49 rfl kj kj fun g35 W2 l35 e2 r35_2 => ?_
  have x2 : Ext w W2 := Ext.tr xx1 e2
  have b35 : w.heap.size ≤ g35 := Nat.le_trans xx1.size l35
  have f36_2 := (hu.ext e2)
  have y0_2 : Ext w W2 := (Rely.Ext.trans e1 e2)
  refine QaE (k := .i64) (T := 3) (xs := zs) (ys := [((c + nth (b) (i)) % 256)]) (V := w) 8 (.tmp 46) (.tmp 49) 54 rfl kj kj (by decide) 50 rfl kj kj kj f36_2 (QaP (xs := [((c + nth (b) (i)) % 256)]) (n := 1) rfl r35_2 (QaA r35_2) (show 1 ≤ maxLen from by decide)) (by show zs.length + 1 ≤ _; omega) y0_2 fun z3 W3 f37 y3 l3 => ?_
  have x3 : Ext w W3 := Ext.low x2 l3 (Rely.Ext.refl w).size
  refine Qaa (z3) 5 rfl kj kj ?_
  refine Qac ?_
  refine hK34 _ _ ?_
  refine Qab ?_
  refine Qaa (.int .i64 (c + nth (b) (i))) 51 rfl kj kj ?_
  refine Qaa (.int .i64 ((c + nth (b) (i)) / 256)) 52 rfl kj (Qah (u := .int .i64 (IntKind.i64.wrap (Int.tdiv ((c + nth (b) (i))) (256)))) kj (congrArg (Value.int .i64) (by rw [show Int.tdiv (c + nth (b) (i)) 256 = (c + nth (b) (i)) / 256 from Int.tdiv_eq_ediv_of_nonneg (by omega)]; exact IntWalk.i64_in _ (by omega)))) ?_
  refine Qaa (.int .i64 ((c + nth (b) (i)) / 256)) 6 rfl kj kj ?_
  refine Qac ?_
  refine hK27 _ _ ?_
  refine Qab ?_
  refine Qaa (.int .i64 ((i : Nat) : Int)) 23 rfl kj kj ?_
  refine Qaa (.int .i64 ((i + 1 : Nat) : Int)) 24 rfl kj (Qah (u := .int .i64 (IntKind.i64.wrap (((i : Nat) : Int) + 1))) kj (congrArg (Value.int .i64) (i64n _ _ (by omega) (by omega)))) ?_
  refine Qaa (.int .i64 ((i + 1 : Nat) : Int)) 7 rfl kj kj ?_
  refine Qac ?_
  repeat (first | with_reducible refine goX1 ?_ | with_reducible refine goX2 ?_ | with_reducible refine goX3 ?_)
  exact Qaz ((i + 1), ((c + nth (b) (i)) / 256), (zs ++ [(c + nth (b) (i)) % 256]), z3) ⟨rfl, rfl, rfl, rfl, rfl, trivial⟩ ⟨(by rw [List.length_append, hzl]; rfl), (Qbc hzb (Qbo (by omega) (by omega))), (QdD (c := c) (n := c + nth (b) (i)) (da := 0) (db := nth b i) hzl hv (by omega) (QcE a i hna) (Qbh b i hib)), (show 0 ≤ (c + nth (b) (i)) / 256 ∧ (c + nth (b) (i)) / 256 ≤ 1 by omega), (show i + 1 ≤ max a.length b.length + 1 by omega), (show i + 1 = max a.length b.length + 1 → (c + nth (b) (i)) / 256 = 0 by intro h8; omega), f37, y3, x3⟩ (by show max a.length b.length + 1 - (i + 1) < max a.length b.length + 1 - i; omega)
 ·skip
  have hna : a.length ≤ i := hq.1
  have hnb : b.length ≤ i := hq.2.1
  have hc0 : 0 < c := hq.2.2
  refine Qab ?_
  refine Qaa (.int .i64 ((i : Nat) : Int)) 9 rfl kj kj ?_
  refine Qaa (.slice a_a a.length c_a) 10 rfl kj kj ?_
  refine Qaa (.int .i64 ((a.length : Nat) : Int)) 11 rfl kj kj ?_
  refine Qaa (.bool false) 12 rfl kj (Qah (u := .bool (decide (((i : Nat) : Int) < ((a.length : Nat) : Int)))) kj (congrArg Value.bool (decide_eq_false (by omega)))) ?_
  refine Qaa (.bool false) 13 rfl kj kj ?_
  refine Qaa (.int .i64 ((i : Nat) : Int)) 14 rfl kj kj ?_
  refine Qaa (.slice a_b b.length c_b) 15 rfl kj kj ?_
  refine Qaa (.int .i64 ((b.length : Nat) : Int)) 16 rfl kj kj ?_
  refine Qaa (.bool false) 17 rfl kj (Qah (u := .bool (decide (((i : Nat) : Int) < ((b.length : Nat) : Int)))) kj (congrArg Value.bool (decide_eq_false (by omega)))) ?_
  refine Qaa (.bool false) 18 rfl kj kj ?_
  refine Qaa (.bool false) 19 rfl kj kj ?_
  refine Qaa (.int .i64 (c)) 20 rfl kj kj ?_
  refine Qaa (.bool true) 21 rfl kj (Qah (u := .bool (decide (c > 0))) kj (congrArg Value.bool (decide_eq_true (by omega)))) ?_
  refine Qaa (.bool true) 22 rfl kj kj ?_
  refine Qac ?_
  refine hK7 _ _ ?_
  refine cond_true kj ?_
  refine wp_skip ?_
  refine hK6 _ _ ?_
  refine wp_seq_k fun K39 hK39 => ?_
  refine wp_block ?_
  refine wp_seq_k fun K40 hK40 => ?_
  refine Qab ?_
  refine Qaa (.int .i64 (c)) 25 rfl kj kj ?_
  refine Qaa (.int .i64 (c)) 8 rfl kj kj ?_
  refine Qac ?_
  refine hK40 _ _ ?_
  refine wp_seq_k fun K41 hK41 => ?_
  refine wp_seq_k fun K42 hK42 => ?_
  refine Qab ?_
  refine Qaa (.int .i64 ((i : Nat) : Int)) 26 rfl kj kj ?_
  refine Qaa (.slice a_a a.length c_a) 27 rfl kj kj ?_
  refine Qaa (.int .i64 ((a.length : Nat) : Int)) 28 rfl kj kj ?_
  refine Qaa (.bool false) 29 rfl kj (Qah (u := .bool (decide (((i : Nat) : Int) < ((a.length : Nat) : Int)))) kj (congrArg Value.bool (decide_eq_false (by omega)))) ?_
  refine Qac ?_
  refine hK42 _ _ ?_
  refine cond_false kj ?_
  refine wp_skip ?_
  refine hK41 _ _ ?_
  refine wp_seq_k fun K43 hK43 => ?_
  refine wp_seq_k fun K44 hK44 => ?_
  refine Qab ?_
  refine Qaa (.int .i64 ((i : Nat) : Int)) 36 rfl kj kj ?_
  refine Qaa (.slice a_b b.length c_b) 37 rfl kj kj ?_
  refine Qaa (.int .i64 ((b.length : Nat) : Int)) 38 rfl kj kj ?_
  refine Qaa (.bool false) 39 rfl kj (Qah (u := .bool (decide (((i : Nat) : Int) < ((b.length : Nat) : Int)))) kj (congrArg Value.bool (decide_eq_false (by omega)))) ?_
  refine Qac ?_
  refine hK44 _ _ ?_
  refine cond_false kj ?_
  refine wp_skip ?_
  refine hK43 _ _ ?_
  refine wp_seq_k fun K45 hK45 => ?_
  refine Qab ?_
  refine Qaa (u) 46 rfl kj kj ?_
  refine Qaa (.int .i64 (c)) 47 rfl kj kj ?_
  refine Qaa (.int .i64 ((c) % 256)) 48 rfl kj (Qah (u := .int .i64 (Int.tmod (c) (256))) kj (congrArg (Value.int .i64) (show Int.tmod (c) 256 = (c) % 256 from Int.tmod_eq_emod_of_nonneg (by omega)))) ?_
  refine QaD (ints .i64 ([((c) % 256)])) 3 1 49 rfl kj kj fun g46 W2 l46 e2 r46_2 => ?_
  have x2 : Ext w W2 := Ext.tr xx1 e2
  have b46 : w.heap.size ≤ g46 := Nat.le_trans xx1.size l46
  have f47_2 := (hu.ext e2)
  have y0_2 : Ext w W2 := (Rely.Ext.trans e1 e2)
  refine QaE (k := .i64) (T := 3) (xs := zs) (ys := [((c) % 256)]) (V := w) 8 (.tmp 46) (.tmp 49) 54 rfl kj kj (by decide) 50 rfl kj kj kj f47_2 (QaP (xs := [((c) % 256)]) (n := 1) rfl r46_2 (QaA r46_2) (show 1 ≤ maxLen from by decide)) (by show zs.length + 1 ≤ _; omega) y0_2 fun z4 W3 f48 y3 l3 => ?_
  have x3 : Ext w W3 := Ext.low x2 l3 (Rely.Ext.refl w).size
  refine Qaa (z4) 5 rfl kj kj ?_
  refine Qac ?_
  refine hK45 _ _ ?_
  refine Qab ?_
  refine Qaa (.int .i64 (c)) 51 rfl kj kj ?_
  refine Qaa (.int .i64 ((c) / 256)) 52 rfl kj (Qah (u := .int .i64 (IntKind.i64.wrap (Int.tdiv (c) (256)))) kj (congrArg (Value.int .i64) (by rw [show Int.tdiv (c) 256 = (c) / 256 from Int.tdiv_eq_ediv_of_nonneg (by omega)]; exact IntWalk.i64_in _ (by omega)))) ?_
  refine Qaa (.int .i64 ((c) / 256)) 6 rfl kj kj ?_
  refine Qac ?_
  refine hK39 _ _ ?_
  refine Qab ?_
  refine Qaa (.int .i64 ((i : Nat) : Int)) 23 rfl kj kj ?_
  refine Qaa (.int .i64 ((i + 1 : Nat) : Int)) 24 rfl kj (Qah (u := .int .i64 (IntKind.i64.wrap (((i : Nat) : Int) + 1))) kj (congrArg (Value.int .i64) (i64n _ _ (by omega) (by omega)))) ?_
  refine Qaa (.int .i64 ((i + 1 : Nat) : Int)) 7 rfl kj kj ?_
  refine Qac ?_
  repeat (first | with_reducible refine goX1 ?_ | with_reducible refine goX2 ?_ | with_reducible refine goX3 ?_)
  exact Qaz ((i + 1), ((c) / 256), (zs ++ [(c) % 256]), z4) ⟨rfl, rfl, rfl, rfl, rfl, trivial⟩ ⟨(by rw [List.length_append, hzl]; rfl), (Qbc hzb (Qbo (by omega) (by omega))), (QdD (c := c) (n := c) (da := 0) (db := 0) hzl hv (by omega) (QcE a i hna) (QcE b i hnb)), (show 0 ≤ (c) / 256 ∧ (c) / 256 ≤ 1 by omega), (show i + 1 ≤ max a.length b.length + 1 by omega), (show i + 1 = max a.length b.length + 1 → (c) / 256 = 0 by intro h8; omega), f48, y3, x3⟩ (by show max a.length b.length + 1 - (i + 1) < max a.length b.length + 1 - i; omega)
 ·skip
  have hna : a.length ≤ i := hq.1
  have hnb : b.length ≤ i := hq.2.1
  have hc0 : c = 0 := by omega
  refine Qab ?_
  refine Qaa (.int .i64 ((i : Nat) : Int)) 9 rfl kj kj ?_
  refine Qaa (.slice a_a a.length c_a) 10 rfl kj kj ?_
  refine Qaa (.int .i64 ((a.length : Nat) : Int)) 11 rfl kj kj ?_
  refine Qaa (.bool false) 12 rfl kj (Qah (u := .bool (decide (((i : Nat) : Int) < ((a.length : Nat) : Int)))) kj (congrArg Value.bool (decide_eq_false (by omega)))) ?_
  refine Qaa (.bool false) 13 rfl kj kj ?_
  refine Qaa (.int .i64 ((i : Nat) : Int)) 14 rfl kj kj ?_
  refine Qaa (.slice a_b b.length c_b) 15 rfl kj kj ?_
  refine Qaa (.int .i64 ((b.length : Nat) : Int)) 16 rfl kj kj ?_
  refine Qaa (.bool false) 17 rfl kj (Qah (u := .bool (decide (((i : Nat) : Int) < ((b.length : Nat) : Int)))) kj (congrArg Value.bool (decide_eq_false (by omega)))) ?_
  refine Qaa (.bool false) 18 rfl kj kj ?_
  refine Qaa (.bool false) 19 rfl kj kj ?_
  refine Qaa (.int .i64 (c)) 20 rfl kj kj ?_
  refine Qaa (.bool false) 21 rfl kj (Qah (u := .bool (decide (c > 0))) kj (congrArg Value.bool (decide_eq_false (by omega)))) ?_
  refine Qaa (.bool false) 22 rfl kj kj ?_
  refine Qac ?_
  refine hK7 _ _ ?_
  refine cond_false kj ?_
  refine wp_exit ?_
  refine hK4 _ _ ?_
  refine wp_seq_k fun K50 hK50 => ?_
  refine Qab ?_
  refine Qaa (u) 53 rfl kj kj ?_
  refine Qaa (u) 4 rfl kj kj ?_
  refine Qac ?_
  refine hK50 _ _ ?_
  refine wp_ret ?_
  repeat (first | with_reducible refine goR1 ?_ | with_reducible refine goR2 ?_)
  exact (show bodyPost _ _ _ .ret _ _ from ret1 (u) rfl (QaC kj) ⟨u, rfl, xx1, zs, hzb, (by rw [hc0, QcF a i hna, QcF b i hnb] at hv; omega), (by omega), OwnN.base (Rely.Ext.refl w).size hu⟩)
set_option maxHeartbeats 4000000 in
theorem QeZ (a : List Int) (a_a : Option Addr) (c_a : Nat) (B : Nat) (w : World) (ha : RdK .i64 B a (.slice a_a a.length c_a) w) (hal : a.length ≤ 1000000) :
  Calls Tryd.prog 29 #[.slice a_a a.length c_a] w (Qcb w (fun v W => ∃ m, m ≤ a.length ∧ v = .slice a_a m c_a ∧ lev (a.take m) = lev a ∧ (m = 0 ∨ nth a (m - 1) ≠ 0))) := by
 have hcap : a.length ≤ c_a := by
  obtain ⟨_, _, e, q2, _⟩ := id ha
  simp only [Value.slice.injEq] at e
  obtain ⟨-, -, rfl⟩ := e
  exact q2
 refine enter 21 [(0, .slice a_a a.length c_a)] Tryd.func29 rfl rfl kj rfl ?_
 refine wp_seq_k fun K1 hK1 => ?_
 refine Qab ?_
 refine Qaa (.slice none 0 0) 2 rfl kj kj ?_
 refine Qac ?_
 refine hK1 _ _ ?_
 refine wp_seq_k fun K2 hK2 => ?_
 refine wp_block ?_
 refine QaH (fun (s1 : Nat) => [(0, .slice a_a s1 c_a)]) (fun (s1 : Nat) W => (s1 ≤ a.length) ∧ (lev (a.take s1) = lev a) ∧ (Ext w W) ∧ (Ext w W)) (fun (s1 : Nat) => s1) a.length ⟨rfl, trivial⟩ ⟨(Nat.le_refl _), (by rw [List.take_length]), (Rely.Ext.refl w), (Rely.Ext.refl w)⟩ fun s1 X1 V1 hI1 => ?_
 obtain ⟨m, hs1⟩ : ∃ z, z = s1 := ⟨_, rfl⟩
 subst hs1
 obtain ⟨hm, hv, kk1, xx1⟩ := hI1
 replace hm : m ≤ a.length := hm
 replace hv : lev (a.take m) = lev a := hv
 replace kk1 : Ext w V1 := kk1
 replace xx1 : Ext w V1 := xx1
 have e1 := kk1
 refine wp_seq_k fun K3 hK3 => ?_
 refine wp_seq_k fun K4 hK4 => ?_
 rcases (show m = 0 ∨ (0 < m ∧ nth a (m - 1) = 0) ∨ (0 < m ∧ nth a (m - 1) ≠ 0) by by_cases h1 : nth a (m - 1) = 0 <;> omega) with hq | hq | hq
 ·skip
  have hm0 : m = 0 := hq
  refine Qab ?_
  refine Qaa (.slice a_a m c_a) 3 rfl kj kj ?_
  refine Qaa (.int .i64 ((m : Nat) : Int)) 4 rfl kj kj ?_
  refine Qaa (.bool false) 5 rfl kj (Qah (u := .bool (decide (((m : Nat) : Int) > 0))) kj (congrArg Value.bool (decide_eq_false (by omega)))) ?_
  refine Qaa (.bool false) 6 rfl kj kj ?_
  refine Qas 7 rfl kj ?_
  refine Qas 8 rfl kj ?_
  refine Qas 9 rfl kj ?_
  refine Qas 10 rfl kj ?_
  refine Qas 11 rfl kj ?_
  refine Qas 12 rfl kj ?_
  refine Qas 13 rfl kj ?_
  refine Qaa (.bool false) 14 rfl kj kj ?_
  refine Qac ?_
  refine hK4 _ _ ?_
  refine cond_false kj ?_
  refine wp_exit ?_
  refine hK2 _ _ ?_
  refine wp_seq_k fun K5 hK5 => ?_
  refine Qab ?_
  refine Qaa (.slice a_a m c_a) 20 rfl kj kj ?_
  refine Qaa (.slice a_a m c_a) 2 rfl kj kj ?_
  refine Qac ?_
  refine hK5 _ _ ?_
  refine wp_ret ?_
  repeat (first | with_reducible refine goR1 ?_ | with_reducible refine goR2 ?_)
  exact (show bodyPost _ _ _ .ret _ _ from ret1 (.slice a_a m c_a) rfl (QaC kj) ⟨_, rfl, xx1, m, hm, rfl, hv, .inl hm0⟩)
 ·skip
  have hm1 : 0 < m := hq.1
  obtain ⟨gx, ox, hax, -, hlx, hcx⟩ := Qb4 (RdK.ext ha xx1) (by omega)
  refine Qab ?_
  refine Qaa (.slice a_a m c_a) 3 rfl kj kj ?_
  refine Qaa (.int .i64 ((m : Nat) : Int)) 4 rfl kj kj ?_
  refine Qaa (.bool true) 5 rfl kj (Qah (u := .bool (decide (((m : Nat) : Int) > 0))) kj (congrArg Value.bool (decide_eq_true (by omega)))) ?_
  refine Qaa (.bool true) 6 rfl kj kj ?_
  refine Qaa (.slice a_a m c_a) 7 rfl kj kj ?_
  refine Qaa (.slice a_a m c_a) 8 rfl kj kj ?_
  refine Qaa (.int .i64 ((m : Nat) : Int)) 9 rfl kj kj ?_
  refine Qaa (.int .i64 (((m - 1 : Nat) : Int))) 10 rfl kj (Qah (u := .int .i64 (IntKind.i64.wrap (((m : Nat) : Int) - 1))) kj (congrArg (Value.int .i64) (by rw [show (((m : Nat) : Int) - 1) = ((m - 1 : Nat) : Int) by omega]; exact IntWalk.i64_in _ (by omega)))) ?_
  refine Qaa (.pointer (some ⟨gx, ox + (m - 1), none⟩)) 11 rfl kj (QaJ 54 _ _ .i64 (m - 1) gx ox m c_a 3 a_a _ hax rfl rfl kj kj kj kj (by omega)) ?_
  refine Qaa (.int .i64 (nth a (m - 1))) 12 rfl kj (Qav 3 _ _ (.int .i64 (nth a (m - 1))) (hcx (m - 1) (by omega)) rfl kj kj) ?_
  refine Qaa (.bool true) 13 rfl kj (Qah (u := .bool (((nth a (m - 1)) == 0))) kj (congrArg Value.bool (by rw [hq.2]; rfl))) ?_
  refine Qaa (.bool true) 14 rfl kj kj ?_
  refine Qac ?_
  refine hK4 _ _ ?_
  refine cond_true kj ?_
  refine wp_skip ?_
  refine hK3 _ _ ?_
  refine wp_block ?_
  refine Qab ?_
  refine Qaa (.slice a_a m c_a) 15 rfl kj kj ?_
  refine Qaa (.slice a_a m c_a) 16 rfl kj kj ?_
  refine Qaa (.int .i64 ((m : Nat) : Int)) 17 rfl kj kj ?_
  refine Qaa (.int .i64 (((m - 1 : Nat) : Int))) 18 rfl kj (Qah (u := .int .i64 (IntKind.i64.wrap (((m : Nat) : Int) - 1))) kj (congrArg (Value.int .i64) (by rw [show (((m : Nat) : Int) - 1) = ((m - 1 : Nat) : Int) by omega]; exact IntWalk.i64_in _ (by omega)))) ?_
  refine Qaa (.slice a_a (m - 1) c_a) 19 rfl kj (Qcc (len := m) 54 _ _ (m - 1) 3 rfl kj kj kj .i64 kj (by omega)) ?_
  refine Qaa (.slice a_a (m - 1) c_a) 0 rfl kj kj ?_
  refine Qac ?_
  repeat (first | with_reducible refine goX1 ?_ | with_reducible refine goX2 ?_ | with_reducible refine goX3 ?_)
  exact Qaz (m - 1) ⟨rfl, trivial⟩ ⟨(by omega), (by have h9 := Qbh a (m - 1) (by omega); rw [show m - 1 + 1 = m by omega, hq.2] at h9; rw [← hv, h9]; omega), e1, xx1⟩ (by show m - 1 < m; omega)
 ·skip
  have hm1 : 0 < m := hq.1
  obtain ⟨gx, ox, hax, -, hlx, hcx⟩ := Qb4 (RdK.ext ha xx1) (by omega)
  refine Qab ?_
  refine Qaa (.slice a_a m c_a) 3 rfl kj kj ?_
  refine Qaa (.int .i64 ((m : Nat) : Int)) 4 rfl kj kj ?_
  refine Qaa (.bool true) 5 rfl kj (Qah (u := .bool (decide (((m : Nat) : Int) > 0))) kj (congrArg Value.bool (decide_eq_true (by omega)))) ?_
  refine Qaa (.bool true) 6 rfl kj kj ?_
  refine Qaa (.slice a_a m c_a) 7 rfl kj kj ?_
  refine Qaa (.slice a_a m c_a) 8 rfl kj kj ?_
  refine Qaa (.int .i64 ((m : Nat) : Int)) 9 rfl kj kj ?_
  refine Qaa (.int .i64 (((m - 1 : Nat) : Int))) 10 rfl kj (Qah (u := .int .i64 (IntKind.i64.wrap (((m : Nat) : Int) - 1))) kj (congrArg (Value.int .i64) (by rw [show (((m : Nat) : Int) - 1) = ((m - 1 : Nat) : Int) by omega]; exact IntWalk.i64_in _ (by omega)))) ?_
  refine Qaa (.pointer (some ⟨gx, ox + (m - 1), none⟩)) 11 rfl kj (QaJ 54 _ _ .i64 (m - 1) gx ox m c_a 3 a_a _ hax rfl rfl kj kj kj kj (by omega)) ?_
  refine Qaa (.int .i64 (nth a (m - 1))) 12 rfl kj (Qav 3 _ _ (.int .i64 (nth a (m - 1))) (hcx (m - 1) (by omega)) rfl kj kj) ?_
  refine Qaa (.bool false) 13 rfl kj (Qah (u := .bool (((nth a (m - 1)) == 0))) kj (congrArg Value.bool (beq_eq_false_iff_ne.2 hq.2))) ?_
  refine Qaa (.bool false) 14 rfl kj kj ?_
  refine Qac ?_
  refine hK4 _ _ ?_
  refine cond_false kj ?_
  refine wp_exit ?_
  refine hK2 _ _ ?_
  refine wp_seq_k fun K6 hK6 => ?_
  refine Qab ?_
  refine Qaa (.slice a_a m c_a) 20 rfl kj kj ?_
  refine Qaa (.slice a_a m c_a) 2 rfl kj kj ?_
  refine Qac ?_
  refine hK6 _ _ ?_
  refine wp_ret ?_
  repeat (first | with_reducible refine goR1 ?_ | with_reducible refine goR2 ?_)
  exact (show bodyPost _ _ _ .ret _ _ from ret1 (.slice a_a m c_a) rfl (QaC kj) ⟨_, rfl, xx1, m, hm, rfl, hv, .inr hq.2⟩)
end Go.Proofs.YtjldjdlhllgakaaDoor.Ae
end
section
namespace Go.Proofs.YtjldjdlhllgakaaDoor.Ae
open Go Go.RowKit
open Rely Auto Own Sha
set_option linter.unusedVariables false
set_option linter.unusedSimpArgs false
open Sha Cha
theorem QhS {x y : Int} (hx : 0 ≤ x ∧ x < 256) (hy : 0 ≤ y ∧ y < 256) : 0 ≤ x * y ∧ x * y ≤ 65025 := by
  refine ⟨Int.mul_nonneg hx.1 hy.1, ?_⟩
  have h1 : x * y ≤ 255 * y := Int.mul_le_mul_of_nonneg_right (by omega) hy.1
  omega
theorem QeU {qs os b : List Int} {c n x y : Int} {i j : Nat} (hl : i + j < qs.length) (hv : lev qs + c * p256 (i + j) = lev os + x * p256 i * lev (b.take j)) (hn : n = nth qs (i + j) + c + x * y) (hb : lev (b.take (j + 1)) = lev (b.take j) + y * p256 j) :
    lev (qs.set (i + j) (n % 256)) + n / 256 * p256 (i + (j + 1)) = lev os + x * p256 i * lev (b.take (j + 1)) := by
  rw [Qgs qs (i + j) _ hl, hb, ← Nat.add_assoc, QbF]
  have hp := Qcz i j
  have h1 : n = 256 * (n / 256) + n % 256 := by omega
  have h2 : n * p256 (i + j) = 256 * (n / 256) * p256 (i + j) + n % 256 * p256 (i + j) := by rw [← Int.add_mul, ← h1]
  have h3 : n * p256 (i + j) = nth qs (i + j) * p256 (i + j) + c * p256 (i + j) + x * y * p256 (i + j) := by rw [hn, Int.add_mul, Int.add_mul]
  have h4 : x * y * p256 (i + j) = x * p256 i * (y * p256 j) := by rw [hp]; grind
  have h5 : x * p256 i * (lev (b.take j) + y * p256 j) = x * p256 i * lev (b.take j) + x * p256 i * (y * p256 j) := Int.mul_add ..
  rw [h5, Int.sub_mul]
  grind
theorem Qhc {a b os : List Int} {i : Nat} (ha : Qaj a) (hb : Qaj b) (ho : Qaj os) (hi : i ≤ a.length) (hv : lev os = lev (a.take i) * lev b) : nth os (i + b.length) = 0 := by
  rw [QcV os _ ho]
  have h1 := Qd3 (Qa3 ha i)
  have h2 := Qd3 hb
  have h3 := Qbl (Qa3 ha i)
  have h4 := Qbl hb
  rw [List.length_take, Nat.min_eq_left hi] at h1
  have h5 : lev os < p256 (i + b.length) := by
    rw [hv, Qcz]
    exact Int.lt_of_le_of_lt (Int.mul_le_mul_of_nonneg_left (Int.le_of_lt h2) h3) (Int.mul_lt_mul_of_pos_right h1 (QbR _))
  rw [Int.ediv_eq_zero_of_lt (Qbl ho) h5]; rfl
theorem Qh4 {a b os qs : List Int} {c : Int} {i j : Nat} (hi : i < a.length) (ho : lev os = lev (a.take i) * lev b) (hq : lev qs + c * p256 (i + j) = lev os + nth a i * p256 i * lev (b.take j)) (hc : c = 0) (hj : b.length ≤ j) : lev qs = lev (a.take (i + 1)) * lev b := by
  rw [QcF b j hj, hc, ho] at hq
  rw [Qbh a i hi, Int.add_mul]
  omega
theorem QdH (xs : List Int) (m k : Nat) (d : Int) (h : m ≠ k) : nth (xs.set m d) k = nth xs k := by
  unfold nth; rw [List.getD_eq_getElem?_getD, List.getD_eq_getElem?_getD, List.getElem?_set_ne h]
set_option maxHeartbeats 4000000 in
theorem Qfo (a b : List Int) (v v2 : Value) (B B2 : Nat) (w : World) (ha : RdK .i64 B a v w) (hb : RdK .i64 B2 b v2 w) (hal : a.length ≤ 1000000) (hbl : b.length ≤ 1000000) (haa : Qaj a) (hbb : Qaj b) :
  Calls Tryd.prog 30 #[v, v2] w (Qcb w (DigR w.heap.size (lev a * lev b) (a.length + b.length + 1))) := by
 obtain ⟨a_a, c_a, rfl, -⟩ := id ha
 obtain ⟨a_b, c_b, rfl, -⟩ := id hb
 refine enter 66 [(0, .slice a_a a.length c_a), (1, .slice a_b b.length c_b)] Tryd.func30 rfl rfl kj rfl ?_
 refine wp_seq_k fun K1 hK1 => ?_
 refine Qab ?_
 refine Qaa (.slice none 0 0) 4 rfl kj kj ?_
 refine Qac ?_
 refine hK1 _ _ ?_
 refine wp_seq_k fun K2 hK2 => ?_
 refine Qab ?_
 refine Qaa (.slice a_a a.length c_a) 10 rfl kj kj ?_
 refine Qaa (.int .i64 ((a.length : Nat) : Int)) 11 rfl kj kj ?_
 refine Qaa (.slice a_b b.length c_b) 12 rfl kj kj ?_
 refine Qaa (.int .i64 ((b.length : Nat) : Int)) 13 rfl kj kj ?_
 refine Qaa (.int .i64 ((a.length + b.length : Nat) : Int)) 14 rfl kj (Qah (u := .int .i64 (IntKind.i64.wrap (((a.length : Nat) : Int) + ((b.length : Nat) : Int)))) kj (congrArg (Value.int .i64) (i64n _ _ (by omega) (by omega)))) ?_
 refine Qaa (.int .i64 (((a.length + b.length) + 1 : Nat) : Int)) 15 rfl kj (Qah (u := .int .i64 (IntKind.i64.wrap (((a.length + b.length : Nat) : Int) + 1))) kj (congrArg (Value.int .i64) (i64n _ _ (by omega) (by omega)))) ?_
 refine QaD (ints .i64 (List.replicate ((a.length + b.length) + 1) 0)) 3 ((a.length + b.length) + 1) 16 rfl kj (QeB 54 _ _ .i64 .i64 ((a.length + b.length) + 1) 3 rfl kj kj kj (.inl kj) (by omega)) fun g3 W1 l3 e1 r3_1 => ?_
 have x1 : Ext w W1 := Ext.tr (Rely.Ext.refl w) e1
 have b3 : w.heap.size ≤ g3 := Nat.le_trans (Rely.Ext.refl w).size l3
 refine Qaa (.slice (some ⟨g3, 0, none⟩) ((a.length + b.length) + 1) ((a.length + b.length) + 1)) 5 rfl kj kj ?_
 refine Qac ?_
 refine hK2 _ _ ?_
 refine wp_seq_k fun K4 hK4 => ?_
 refine wp_seq_k fun K5 hK5 => ?_
 refine Qab ?_
 refine Qaa (.int .i64 0) 6 rfl kj kj ?_
 refine Qac ?_
 refine hK5 _ _ ?_
 refine wp_block ?_
 refine QaH (fun (s1 : Nat × List Int) => [(0, .slice a_a a.length c_a), (1, .slice a_b b.length c_b), (5, .slice (some ⟨g3, 0, none⟩) ((a.length + b.length) + 1) ((a.length + b.length) + 1)), (6, .int .i64 ((s1.1 : Nat) : Int))]) (fun (s1 : Nat × List Int) W => (s1.2.length = (a.length + b.length) + 1) ∧ (Qaj s1.2) ∧ (lev s1.2 = lev (a.take s1.1) * lev b) ∧ (s1.1 ≤ a.length) ∧ (W.heap[g3]? = some (.cells (ints .i64 (s1.2)) 3)) ∧ (Qax [g3] W1 W) ∧ (Ext w W)) (fun (s1 : Nat × List Int) => a.length - s1.1) (0, (List.replicate ((a.length + b.length) + 1) 0)) ⟨rfl, rfl, rfl, rfl, trivial⟩ ⟨(List.length_replicate), (fun x hx => by rw [List.mem_replicate] at hx; omega), (by rw [QhW, List.take_zero]; simp [lev]), (Nat.zero_le _), r3_1, (Qax.refl [g3] W1), x1⟩ fun s1 X1 V1 hI1 => ?_
 obtain ⟨i, os⟩ := s1
 obtain ⟨hol, hob, hov, hi, q3_1, kk1, xx1⟩ := hI1
 replace hol : os.length = (a.length + b.length) + 1 := hol
 replace hob : Qaj os := hob
 replace hov : lev os = lev (a.take i) * lev b := hov
 replace hi : i ≤ a.length := hi
 replace q3_1 : V1.heap[g3]? = some (.cells (ints .i64 (os)) 3) := q3_1
 replace kk1 : Qax [g3] W1 V1 := kk1
 replace xx1 : Ext w V1 := xx1
 have q2 := kk1
 refine wp_seq_k fun K6 hK6 => ?_
 refine wp_seq_k fun K7 hK7 => ?_
 refine Qab ?_
 refine Qaa (.int .i64 ((i : Nat) : Int)) 17 rfl kj kj ?_
 refine Qaa (.slice a_a a.length c_a) 18 rfl kj kj ?_
 refine Qaa (.int .i64 ((a.length : Nat) : Int)) 19 rfl kj kj ?_
 refine Qaa (.bool (decide (((i : Nat) : Int) < ((a.length : Nat) : Int)))) 20 rfl kj kj ?_
 refine Qac ?_
 refine hK7 _ _ ?_
 refine Qa8 (t := decide (((i : Nat) : Int) < ((a.length : Nat) : Int))) kj (fun c8 => ?_) (fun c8 => ?_)
 ·skip
  have hlt20 : i < a.length := by have := of_decide_eq_true c8; omega
  obtain ⟨gra9, ora9, hara9, -, hlra9, hcra9⟩ := Qb4 (RdK.ext ha xx1) (by omega)
  have hai := Qa1 haa i
  refine wp_skip ?_
  refine hK6 _ _ ?_
  refine wp_seq_k fun K10 hK10 => ?_
  refine wp_block ?_
  refine wp_seq_k fun K11 hK11 => ?_
  refine Qab ?_
  refine Qaa (.int .i64 0) 7 rfl kj kj ?_
  refine Qac ?_
  refine hK11 _ _ ?_
  refine wp_seq_k fun K12 hK12 => ?_
  refine Qab ?_
  refine Qaa (.int .i64 0) 8 rfl kj kj ?_
  refine Qac ?_
  refine hK12 _ _ ?_
  refine wp_block ?_
  refine QaH (fun (s2 : Nat × Int × List Int) => [(0, .slice a_a a.length c_a), (1, .slice a_b b.length c_b), (5, .slice (some ⟨g3, 0, none⟩) ((a.length + b.length) + 1) ((a.length + b.length) + 1)), (6, .int .i64 ((i : Nat) : Int)), (7, .int .i64 (s2.2.1)), (8, .int .i64 ((s2.1 : Nat) : Int))]) (fun (s2 : Nat × Int × List Int) W => (s2.2.2.length = (a.length + b.length) + 1) ∧ (Qaj s2.2.2) ∧ (0 ≤ s2.2.1 ∧ s2.2.1 ≤ 255) ∧ (s2.1 ≤ b.length + 1) ∧ (s2.1 = b.length + 1 → s2.2.1 = 0) ∧ (lev s2.2.2 + s2.2.1 * p256 (i + s2.1) = lev os + nth a i * p256 i * lev (b.take s2.1)) ∧ (s2.1 ≤ b.length → nth s2.2.2 (i + b.length) = 0) ∧ (W.heap[g3]? = some (.cells (ints .i64 (s2.2.2)) 3)) ∧ (Qax [g3] V1 W) ∧ (Ext w W)) (fun (s2 : Nat × Int × List Int) => b.length + 1 - s2.1) (0, 0, os) ⟨rfl, rfl, rfl, rfl, rfl, rfl, trivial⟩ ⟨hol, hob, (show (0 : Int) ≤ 0 ∧ (0 : Int) ≤ 255 by decide), (Nat.zero_le _), (fun _ => rfl), (by simp [lev]), (fun _ => Qhc haa hbb hob hi hov), q3_1, (Qax.refl [g3] V1), xx1⟩ fun s2 X2 V2 hI2 => ?_
  obtain ⟨j, c, qs⟩ := s2
  obtain ⟨hql, hqb, hc, hj, hjc, hqv, hqz, q3_2, kk2, xx2⟩ := hI2
  replace hql : qs.length = (a.length + b.length) + 1 := hql
  replace hqb : Qaj qs := hqb
  replace hc : 0 ≤ c ∧ c ≤ 255 := hc
  replace hj : j ≤ b.length + 1 := hj
  replace hjc : j = b.length + 1 → c = 0 := hjc
  replace hqv : lev qs + c * p256 (i + j) = lev os + nth a i * p256 i * lev (b.take j) := hqv
  replace hqz : j ≤ b.length → nth qs (i + b.length) = 0 := hqz
  replace q3_2 : V2.heap[g3]? = some (.cells (ints .i64 (qs)) 3) := q3_2
  replace kk2 : Qax [g3] V1 V2 := kk2
  replace xx2 : Ext w V2 := xx2
  have q3 := kk2
  refine wp_seq_k fun K13 hK13 => ?_
  refine wp_seq_k fun K14 hK14 => ?_
  rcases (show j < b.length ∨ (b.length ≤ j ∧ 0 < c) ∨ (b.length ≤ j ∧ ¬ 0 < c) by omega) with hq | hq | hq
  ·skip
   have hjb : j < b.length := hq
   have hbj := Qa1 hbb j
   have hxy := QhS hai hbj
   have hqi := Qa1 hqb (i + j)
   refine Qab ?_
   refine Qaa (.int .i64 ((j : Nat) : Int)) 23 rfl kj kj ?_
   refine Qaa (.slice a_b b.length c_b) 24 rfl kj kj ?_
   refine Qaa (.int .i64 ((b.length : Nat) : Int)) 25 rfl kj kj ?_
   refine Qaa (.bool true) 26 rfl kj (Qah (u := .bool (decide (((j : Nat) : Int) < ((b.length : Nat) : Int)))) kj (congrArg Value.bool (decide_eq_true (by omega)))) ?_
   refine Qaa (.bool true) 27 rfl kj kj ?_
   refine Qas 28 rfl kj ?_
   refine Qas 29 rfl kj ?_
   refine Qaa (.bool true) 30 rfl kj kj ?_
   refine Qac ?_
   refine hK14 _ _ ?_
   refine cond_true kj ?_
   refine wp_skip ?_
   refine hK13 _ _ ?_
   refine wp_seq_k fun K15 hK15 => ?_
   refine wp_block ?_
   refine wp_seq_k fun K16 hK16 => ?_
   refine Qab ?_
   refine Qaa (.slice (some ⟨g3, 0, none⟩) ((a.length + b.length) + 1) ((a.length + b.length) + 1)) 33 rfl kj kj ?_
   refine Qaa (.int .i64 ((i : Nat) : Int)) 34 rfl kj kj ?_
   refine Qaa (.int .i64 ((j : Nat) : Int)) 35 rfl kj kj ?_
   refine Qaa (.int .i64 ((i + j : Nat) : Int)) 36 rfl kj (Qah (u := .int .i64 (IntKind.i64.wrap (((i : Nat) : Int) + ((j : Nat) : Int)))) kj (congrArg (Value.int .i64) (i64n _ _ (by omega) (by omega)))) ?_
   refine Qaa (.pointer (some ⟨g3, (i + j), none⟩)) 37 rfl kj (Qaq 54 _ _ .i64 (i + j) g3 ((a.length + b.length) + 1) ((a.length + b.length) + 1) 3 rfl kj kj kj kj (by omega)) ?_
   refine Qaa (.int .i64 (nth (qs) (i + j))) 38 rfl kj (Qae 3 _ g3 (i + j) 3 _ (.int .i64 (nth (qs) (i + j))) _ q3_2 rfl kj (Qa7 _ _ _ (Nat.lt_of_lt_of_eq (by omega) hql.symm)) kj) ?_
   refine Qaa (.int .i64 (c)) 39 rfl kj kj ?_
   refine Qaa (.int .i64 (nth qs (i + j) + c)) 40 rfl kj (Qah (u := .int .i64 (IntKind.i64.wrap ((nth (qs) (i + j)) + c))) kj (congrArg (Value.int .i64) (IntWalk.i64_in _ (by omega)))) ?_
   refine Qaa (.int .i64 (nth qs (i + j) + c)) 9 rfl kj kj ?_
   refine Qac ?_
   refine hK16 _ _ ?_
   refine wp_seq_k fun K17 hK17 => ?_
   refine wp_seq_k fun K18 hK18 => ?_
   refine Qab ?_
   refine Qaa (.int .i64 ((j : Nat) : Int)) 41 rfl kj kj ?_
   refine Qaa (.slice a_b b.length c_b) 42 rfl kj kj ?_
   refine Qaa (.int .i64 ((b.length : Nat) : Int)) 43 rfl kj kj ?_
   refine Qaa (.bool true) 44 rfl kj (Qah (u := .bool (decide (((j : Nat) : Int) < ((b.length : Nat) : Int)))) kj (congrArg Value.bool (decide_eq_true (by omega)))) ?_
   refine Qac ?_
   refine hK18 _ _ ?_
   refine cond_true kj ?_
   obtain ⟨gra19, ora19, hara19, -, hlra19, hcra19⟩ := Qb4 (RdK.ext ha xx2) (by omega)
   obtain ⟨grb20, orb20, harb20, -, hlrb20, hcrb20⟩ := Qb4 (RdK.ext hb xx2) (by omega)
   refine QaX 10 [⟨none, [(9, none)]⟩, ⟨none, [(0, none)]⟩, ⟨none, [(6, none)]⟩, ⟨none, [(46, some 1), (47, some 2)]⟩, ⟨none, [(48, some 3)]⟩, ⟨none, [(1, none)]⟩, ⟨none, [(8, none)]⟩, ⟨none, [(50, some 5), (51, some 6)]⟩, ⟨none, [(52, some 7)]⟩, ⟨none, [(49, some 4), (53, some 8)]⟩] kj kj fun F hF => ?_
   refine Qa2 (Qam _) (.int .i64 (nth qs (i + j) + c)) kj kj (fun W => by kernel_rfl) ?_
   refine Qa2 (Qam _) (.slice a_a a.length c_a) kj kj (fun W => by kernel_rfl) ?_
   refine Qa2 (Qam _) (.int .i64 ((i : Nat) : Int)) kj kj (fun W => by kernel_rfl) ?_
   refine Qa2 (Qam _) (.pointer (some ⟨gra19, ora19 + i, none⟩)) kj kj (fun W => (QaJ 54 _ _ .i64 i gra19 ora19 a.length c_a 3 a_a _ hara19 rfl rfl kj kj kj kj (Nat.lt_of_lt_of_eq (show i < (a).length by omega) (rfl : (a).length = (a).length).symm))) ?_
   refine Qbm (Qam _) (.int .i64 (nth (a) (i))) kj kj (fun W hR => (Qav 3 _ _ (.int .i64 (nth (a) (i))) ((Below.cell (Rely.Ext.trans (Qai _) hR) hlra19).trans (hcra19 i (Nat.lt_of_lt_of_eq (show i < (a).length by omega) (rfl : (a).length = (a).length).symm))) rfl kj kj)) ?_
   refine Qa2 (Qam _) (.slice a_b b.length c_b) kj kj (fun W => by kernel_rfl) ?_
   refine Qa2 (Qam _) (.int .i64 ((j : Nat) : Int)) kj kj (fun W => by kernel_rfl) ?_
   refine Qa2 (Qam _) (.pointer (some ⟨grb20, orb20 + j, none⟩)) kj kj (fun W => (QaJ 54 _ _ .i64 j grb20 orb20 b.length c_b 3 a_b _ harb20 rfl rfl kj kj kj kj (Nat.lt_of_lt_of_eq (show j < (b).length by omega) (rfl : (b).length = (b).length).symm))) ?_
   refine Qbm (Qam _) (.int .i64 (nth (b) (j))) kj kj (fun W hR => (Qav 3 _ _ (.int .i64 (nth (b) (j))) ((Below.cell (Rely.Ext.trans (Qai _) hR) hlrb20).trans (hcrb20 j (Nat.lt_of_lt_of_eq (show j < (b).length by omega) (rfl : (b).length = (b).length).symm))) rfl kj kj)) ?_
   refine Qa2 (Qam _) (.int .i64 (nth a i * nth b j)) kj kj (fun W => (Qah (u := .int .i64 (IntKind.i64.wrap ((nth (a) (i)) * (nth (b) (j))))) kj (congrArg (Value.int .i64) (IntWalk.i64_in _ (by omega))))) ?_
   refine QcG (hF _ fun W4 e4 => ?_)
   simp only [List.nil_append, List.cons_append, List.take_succ_cons, List.take_zero, List.drop_succ_cons, List.drop_zero, finE, up]
   clear hF
   have x4 : Ext w W4 := Ext.tr xx2 e4
   refine Qaa (.int .i64 (nth qs (i + j) + c + nth a i * nth b j)) 55 rfl kj (Qah (u := .int .i64 (IntKind.i64.wrap ((nth qs (i + j) + c) + (nth a i * nth b j)))) kj (congrArg (Value.int .i64) (IntWalk.i64_in _ (by omega)))) ?_
   refine Qaa (.int .i64 (nth qs (i + j) + c + nth a i * nth b j)) 9 rfl kj kj ?_
   refine Qac ?_
   refine hK17 _ _ ?_
   refine wp_seq_k fun K21 hK21 => ?_
   refine Qab ?_
   refine Qaa (.slice (some ⟨g3, 0, none⟩) ((a.length + b.length) + 1) ((a.length + b.length) + 1)) 56 rfl kj kj ?_
   refine Qaa (.int .i64 ((i : Nat) : Int)) 57 rfl kj kj ?_
   refine Qaa (.int .i64 ((j : Nat) : Int)) 58 rfl kj kj ?_
   refine Qaa (.int .i64 ((i + j : Nat) : Int)) 59 rfl kj (Qah (u := .int .i64 (IntKind.i64.wrap (((i : Nat) : Int) + ((j : Nat) : Int)))) kj (congrArg (Value.int .i64) (i64n _ _ (by omega) (by omega)))) ?_
   refine Qaa (.int .i64 (nth qs (i + j) + c + nth a i * nth b j)) 60 rfl kj kj ?_
   refine Qaa (.int .i64 ((nth qs (i + j) + c + nth a i * nth b j) % 256)) 61 rfl kj (Qah (u := .int .i64 (Int.tmod ((nth qs (i + j) + c + nth a i * nth b j)) (256))) kj (congrArg (Value.int .i64) (show Int.tmod (nth qs (i + j) + c + nth a i * nth b j) 256 = (nth qs (i + j) + c + nth a i * nth b j) % 256 from Int.tmod_eq_emod_of_nonneg (by omega)))) ?_
   refine Qaa (.pointer (some ⟨g3, (i + j), none⟩)) 62 rfl kj (Qaq 54 _ _ .i64 (i + j) g3 ((a.length + b.length) + 1) ((a.length + b.length) + 1) 3 rfl kj kj kj kj (by omega)) ?_
   have r3_4 := (Qad q3_2 e4)
   refine Qal g3 _ (ints .i64 ((qs).set (i + j) ((nth qs (i + j) + c + nth a i * nth b j) % 256))) 3 r3_4 rfl kj (Qan 3 _ _ g3 (i + j) 3 _ _ r3_4 rfl kj kj kj (Nat.lt_of_lt_of_eq (by omega) hql.symm)) fun W5 p5 r3_5 => ?_
   have x5 : Ext w W5 := Puts.ext p5 x4 b3
   refine Qac ?_
   refine hK21 _ _ ?_
   refine Qab ?_
   refine Qaa (.int .i64 (nth qs (i + j) + c + nth a i * nth b j)) 63 rfl kj kj ?_
   refine Qaa (.int .i64 ((nth qs (i + j) + c + nth a i * nth b j) / 256)) 64 rfl kj (Qah (u := .int .i64 (IntKind.i64.wrap (Int.tdiv ((nth qs (i + j) + c + nth a i * nth b j)) (256)))) kj (congrArg (Value.int .i64) (by rw [show Int.tdiv (nth qs (i + j) + c + nth a i * nth b j) 256 = (nth qs (i + j) + c + nth a i * nth b j) / 256 from Int.tdiv_eq_ediv_of_nonneg (by omega)]; exact IntWalk.i64_in _ (by omega)))) ?_
   refine Qaa (.int .i64 ((nth qs (i + j) + c + nth a i * nth b j) / 256)) 7 rfl kj kj ?_
   refine Qac ?_
   refine hK15 _ _ ?_
   refine Qab ?_
   refine Qaa (.int .i64 ((j : Nat) : Int)) 31 rfl kj kj ?_
   refine Qaa (.int .i64 ((j + 1 : Nat) : Int)) 32 rfl kj (Qah (u := .int .i64 (IntKind.i64.wrap (((j : Nat) : Int) + 1))) kj (congrArg (Value.int .i64) (i64n _ _ (by omega) (by omega)))) ?_
   refine Qaa (.int .i64 ((j + 1 : Nat) : Int)) 8 rfl kj kj ?_
   refine Qac ?_
   repeat (first | with_reducible refine goX1 ?_ | with_reducible refine goX2 ?_ | with_reducible refine goX3 ?_)
   exact Qaz ((j + 1), ((nth qs (i + j) + c + nth a i * nth b j) / 256), ((qs).set (i + j) ((nth qs (i + j) + c + nth a i * nth b j) % 256))) ⟨rfl, rfl, rfl, rfl, rfl, rfl, trivial⟩ ⟨(by rw [List.length_set]; exact hql), (Qbg hqb _ (by omega) (by omega)), (show 0 ≤ (nth qs (i + j) + c + nth a i * nth b j) / 256 ∧ (nth qs (i + j) + c + nth a i * nth b j) / 256 ≤ 255 by omega), (show j + 1 ≤ b.length + 1 by omega), (show j + 1 = b.length + 1 → (nth qs (i + j) + c + nth a i * nth b j) / 256 = 0 by intro h8; omega), (QeU (c := c) (n := nth qs (i + j) + c + nth a i * nth b j) (x := nth a i) (y := nth b j) (by omega) hqv (by omega) (Qbh b j hjb)), (show j + 1 ≤ b.length → nth ((qs).set (i + j) ((nth qs (i + j) + c + nth a i * nth b j) % 256)) (i + b.length) = 0 by intro h8; rw [QdH qs _ _ _ (by omega)]; exact hqz (by omega)), r3_5, (Qax.puts (Qax.step q3 e4) p5 (.inl (by simp))), x5⟩ (by show b.length + 1 - (j + 1) < b.length + 1 - j; omega)
  ·skip
   have hjb : b.length ≤ j := hq.1
   have hc0 : 0 < c := hq.2
   have hje : j = b.length := by omega
   have hqi : nth qs (i + j) = 0 := by rw [hje]; exact hqz (by omega)
   refine Qab ?_
   refine Qaa (.int .i64 ((j : Nat) : Int)) 23 rfl kj kj ?_
   refine Qaa (.slice a_b b.length c_b) 24 rfl kj kj ?_
   refine Qaa (.int .i64 ((b.length : Nat) : Int)) 25 rfl kj kj ?_
   refine Qaa (.bool false) 26 rfl kj (Qah (u := .bool (decide (((j : Nat) : Int) < ((b.length : Nat) : Int)))) kj (congrArg Value.bool (decide_eq_false (by omega)))) ?_
   refine Qaa (.bool false) 27 rfl kj kj ?_
   refine Qaa (.int .i64 (c)) 28 rfl kj kj ?_
   refine Qaa (.bool true) 29 rfl kj (Qah (u := .bool (decide (c > 0))) kj (congrArg Value.bool (decide_eq_true (by omega)))) ?_
   refine Qaa (.bool true) 30 rfl kj kj ?_
   refine Qac ?_
   refine hK14 _ _ ?_
   refine cond_true kj ?_
   refine wp_skip ?_
   refine hK13 _ _ ?_
   refine wp_seq_k fun K22 hK22 => ?_
   refine wp_block ?_
   refine wp_seq_k fun K23 hK23 => ?_
   refine Qab ?_
   refine Qaa (.slice (some ⟨g3, 0, none⟩) ((a.length + b.length) + 1) ((a.length + b.length) + 1)) 33 rfl kj kj ?_
   refine Qaa (.int .i64 ((i : Nat) : Int)) 34 rfl kj kj ?_
   refine Qaa (.int .i64 ((j : Nat) : Int)) 35 rfl kj kj ?_
   refine Qaa (.int .i64 ((i + j : Nat) : Int)) 36 rfl kj (Qah (u := .int .i64 (IntKind.i64.wrap (((i : Nat) : Int) + ((j : Nat) : Int)))) kj (congrArg (Value.int .i64) (i64n _ _ (by omega) (by omega)))) ?_
   refine Qaa (.pointer (some ⟨g3, (i + j), none⟩)) 37 rfl kj (Qaq 54 _ _ .i64 (i + j) g3 ((a.length + b.length) + 1) ((a.length + b.length) + 1) 3 rfl kj kj kj kj (by omega)) ?_
   refine Qaa (.int .i64 (nth (qs) (i + j))) 38 rfl kj (Qae 3 _ g3 (i + j) 3 _ (.int .i64 (nth (qs) (i + j))) _ q3_2 rfl kj (Qa7 _ _ _ (Nat.lt_of_lt_of_eq (by omega) hql.symm)) kj) ?_
   refine Qaa (.int .i64 (c)) 39 rfl kj kj ?_
   refine Qaa (.int .i64 (nth qs (i + j) + c)) 40 rfl kj (Qah (u := .int .i64 (IntKind.i64.wrap ((nth (qs) (i + j)) + c))) kj (congrArg (Value.int .i64) (IntWalk.i64_in _ (by omega)))) ?_
   refine Qaa (.int .i64 (nth qs (i + j) + c)) 9 rfl kj kj ?_
   refine Qac ?_
   refine hK23 _ _ ?_
   refine wp_seq_k fun K24 hK24 => ?_
   refine wp_seq_k fun K25 hK25 => ?_
   refine Qab ?_
   refine Qaa (.int .i64 ((j : Nat) : Int)) 41 rfl kj kj ?_
   refine Qaa (.slice a_b b.length c_b) 42 rfl kj kj ?_
   refine Qaa (.int .i64 ((b.length : Nat) : Int)) 43 rfl kj kj ?_
   refine Qaa (.bool false) 44 rfl kj (Qah (u := .bool (decide (((j : Nat) : Int) < ((b.length : Nat) : Int)))) kj (congrArg Value.bool (decide_eq_false (by omega)))) ?_
   refine Qac ?_
   refine hK25 _ _ ?_
   refine cond_false kj ?_
   refine wp_skip ?_
   refine hK24 _ _ ?_
   refine wp_seq_k fun K26 hK26 => ?_
   refine Qab ?_
   refine Qaa (.slice (some ⟨g3, 0, none⟩) ((a.length + b.length) + 1) ((a.length + b.length) + 1)) 56 rfl kj kj ?_
   refine Qaa (.int .i64 ((i : Nat) : Int)) 57 rfl kj kj ?_
   refine Qaa (.int .i64 ((j : Nat) : Int)) 58 rfl kj kj ?_
   refine Qaa (.int .i64 ((i + j : Nat) : Int)) 59 rfl kj (Qah (u := .int .i64 (IntKind.i64.wrap (((i : Nat) : Int) + ((j : Nat) : Int)))) kj (congrArg (Value.int .i64) (i64n _ _ (by omega) (by omega)))) ?_
   refine Qaa (.int .i64 (nth qs (i + j) + c)) 60 rfl kj kj ?_
   refine Qaa (.int .i64 ((nth qs (i + j) + c) % 256)) 61 rfl kj (Qah (u := .int .i64 (Int.tmod ((nth qs (i + j) + c)) (256))) kj (congrArg (Value.int .i64) (show Int.tmod (nth qs (i + j) + c) 256 = (nth qs (i + j) + c) % 256 from Int.tmod_eq_emod_of_nonneg (by omega)))) ?_
   refine Qaa (.pointer (some ⟨g3, (i + j), none⟩)) 62 rfl kj (Qaq 54 _ _ .i64 (i + j) g3 ((a.length + b.length) + 1) ((a.length + b.length) + 1) 3 rfl kj kj kj kj (by omega)) ?_
   refine Qal g3 _ (ints .i64 ((qs).set (i + j) ((nth qs (i + j) + c) % 256))) 3 q3_2 rfl kj (Qan 3 _ _ g3 (i + j) 3 _ _ q3_2 rfl kj kj kj (Nat.lt_of_lt_of_eq (by omega) hql.symm)) fun W4 p4 r3_4 => ?_
   have x4 : Ext w W4 := Puts.ext p4 xx2 b3
   refine Qac ?_
   refine hK26 _ _ ?_
   refine Qab ?_
   refine Qaa (.int .i64 (nth qs (i + j) + c)) 63 rfl kj kj ?_
   refine Qaa (.int .i64 ((nth qs (i + j) + c) / 256)) 64 rfl kj (Qah (u := .int .i64 (IntKind.i64.wrap (Int.tdiv ((nth qs (i + j) + c)) (256)))) kj (congrArg (Value.int .i64) (by rw [show Int.tdiv (nth qs (i + j) + c) 256 = (nth qs (i + j) + c) / 256 from Int.tdiv_eq_ediv_of_nonneg (by omega)]; exact IntWalk.i64_in _ (by omega)))) ?_
   refine Qaa (.int .i64 ((nth qs (i + j) + c) / 256)) 7 rfl kj kj ?_
   refine Qac ?_
   refine hK22 _ _ ?_
   refine Qab ?_
   refine Qaa (.int .i64 ((j : Nat) : Int)) 31 rfl kj kj ?_
   refine Qaa (.int .i64 ((j + 1 : Nat) : Int)) 32 rfl kj (Qah (u := .int .i64 (IntKind.i64.wrap (((j : Nat) : Int) + 1))) kj (congrArg (Value.int .i64) (i64n _ _ (by omega) (by omega)))) ?_
   refine Qaa (.int .i64 ((j + 1 : Nat) : Int)) 8 rfl kj kj ?_
   refine Qac ?_
   repeat (first | with_reducible refine goX1 ?_ | with_reducible refine goX2 ?_ | with_reducible refine goX3 ?_)
   exact Qaz ((j + 1), ((nth qs (i + j) + c) / 256), ((qs).set (i + j) ((nth qs (i + j) + c) % 256))) ⟨rfl, rfl, rfl, rfl, rfl, rfl, trivial⟩ ⟨(by rw [List.length_set]; exact hql), (Qbg hqb _ (by omega) (by omega)), (show 0 ≤ (nth qs (i + j) + c) / 256 ∧ (nth qs (i + j) + c) / 256 ≤ 255 by omega), (show j + 1 ≤ b.length + 1 by omega), (show j + 1 = b.length + 1 → (nth qs (i + j) + c) / 256 = 0 by intro h8; omega), (QeU (c := c) (n := nth qs (i + j) + c) (x := nth a i) (y := 0) (by omega) hqv (by omega) (QcE b j hjb)), (show j + 1 ≤ b.length → nth ((qs).set (i + j) ((nth qs (i + j) + c) % 256)) (i + b.length) = 0 by intro h8; rw [QdH qs _ _ _ (by omega)]; exact hqz (by omega)), r3_4, (Qax.puts q3 p4 (.inl (by simp))), x4⟩ (by show b.length + 1 - (j + 1) < b.length + 1 - j; omega)
  ·skip
   have hjb : b.length ≤ j := hq.1
   have hc0 : c = 0 := by omega
   have hend := Qh4 hlt20 hov hqv hc0 hjb
   refine Qab ?_
   refine Qaa (.int .i64 ((j : Nat) : Int)) 23 rfl kj kj ?_
   refine Qaa (.slice a_b b.length c_b) 24 rfl kj kj ?_
   refine Qaa (.int .i64 ((b.length : Nat) : Int)) 25 rfl kj kj ?_
   refine Qaa (.bool false) 26 rfl kj (Qah (u := .bool (decide (((j : Nat) : Int) < ((b.length : Nat) : Int)))) kj (congrArg Value.bool (decide_eq_false (by omega)))) ?_
   refine Qaa (.bool false) 27 rfl kj kj ?_
   refine Qaa (.int .i64 (c)) 28 rfl kj kj ?_
   refine Qaa (.bool false) 29 rfl kj (Qah (u := .bool (decide (c > 0))) kj (congrArg Value.bool (decide_eq_false (by omega)))) ?_
   refine Qaa (.bool false) 30 rfl kj kj ?_
   refine Qac ?_
   refine hK14 _ _ ?_
   refine cond_false kj ?_
   refine wp_exit ?_
   refine hK10 _ _ ?_
   refine Qab ?_
   refine Qaa (.int .i64 ((i : Nat) : Int)) 21 rfl kj kj ?_
   refine Qaa (.int .i64 ((i + 1 : Nat) : Int)) 22 rfl kj (Qah (u := .int .i64 (IntKind.i64.wrap (((i : Nat) : Int) + 1))) kj (congrArg (Value.int .i64) (i64n _ _ (by omega) (by omega)))) ?_
   refine Qaa (.int .i64 ((i + 1 : Nat) : Int)) 6 rfl kj kj ?_
   refine Qac ?_
   repeat (first | with_reducible refine goX1 ?_ | with_reducible refine goX2 ?_ | with_reducible refine goX3 ?_)
   exact Qaz ((i + 1), qs) ⟨rfl, rfl, rfl, rfl, trivial⟩ ⟨hql, hqb, hend, (show i + 1 ≤ a.length by omega), q3_2, (Qax.keeps q2 q3 (QhL (.inl (by simp)) Qji)), xx2⟩ (by show a.length - (i + 1) < a.length - i; omega)
 ·skip
  have heq20 : i = a.length := by have := of_decide_eq_false c8; omega
  refine wp_exit ?_
  refine hK4 _ _ ?_
  refine wp_seq_k fun K27 hK27 => ?_
  refine Qab ?_
  refine Qaa (.slice (some ⟨g3, 0, none⟩) ((a.length + b.length) + 1) ((a.length + b.length) + 1)) 65 rfl kj kj ?_
  refine Qaa (.slice (some ⟨g3, 0, none⟩) ((a.length + b.length) + 1) ((a.length + b.length) + 1)) 4 rfl kj kj ?_
  refine Qac ?_
  refine hK27 _ _ ?_
  refine wp_ret ?_
  repeat (first | with_reducible refine goR1 ?_ | with_reducible refine goR2 ?_)
  exact (show bodyPost _ _ _ .ret _ _ from ret1 (.slice (some ⟨g3, 0, none⟩) ((a.length + b.length) + 1) ((a.length + b.length) + 1)) rfl (QaC kj) ⟨_, rfl, xx1, os, hob, (by rw [hov, heq20, List.take_length]), (by omega), QcO hol b3 q3_1 (by simp only [maxLen]; omega)⟩)
end Go.Proofs.YtjldjdlhllgakaaDoor.Ae
end
section
namespace Go.Proofs.YtjldjdlhllgakaaDoor.Ae
open Go Go.RowKit
open Rely Auto Own Sha
set_option linter.unusedVariables false
set_option linter.unusedSimpArgs false
open Sha Cha
theorem p16 : p256 16 = 340282366920938463463374607431768211456 := by decide +kernel
theorem QgM (xs : List Int) (i : Nat) (h : i < 16) (hi : i < xs.length) : xs.take (min (i + 1) 16) = xs.take (min i 16) ++ [nth xs i] := by
  rw [show min (i + 1) 16 = i + 1 by omega, show min i 16 = i by omega, QcS xs i hi]
theorem QgN (xs : List Int) (i : Nat) (h : 16 ≤ i) : xs.take (min (i + 1) 16) = xs.take (min i 16) := by
  rw [show min (i + 1) 16 = 16 by omega, show min i 16 = 16 by omega]
theorem Qfd (xs : List Int) (i : Nat) (h : xs.length ≤ i) : nth xs i = 0 := by
  unfold nth; rw [List.getD_eq_getElem?_getD, List.getElem?_eq_none h]; rfl
theorem QdM {xs hs : List Int} {k : Nat} {x y d : Int} (hx : x = nth xs (16 + k)) (hy : y = nth xs (16 + (k + 1))) (hl : hs.length = k) (hk : 16 + k < xs.length) (hd : d = x / 4 + y % 4 * 64)
    (hv : 4 * lev hs + nth xs 16 % 4 = lev ((xs.drop 16).take k) + x % 4 * p256 k) : 4 * lev (hs ++ [d]) + nth xs 16 % 4 = lev ((xs.drop 16).take (k + 1)) + y % 4 * p256 (k + 1) := by
  rw [Qdd, hl, Qbh _ k (by rw [List.length_drop]; omega), QdI, ← hx, QbF]
  have h1 : x = 4 * (x / 4) + x % 4 := by omega
  have h2 : x * p256 k = 4 * (x / 4) * p256 k + x % 4 * p256 k := by rw [← Int.add_mul, ← h1]
  have h3 : d * p256 k = x / 4 * p256 k + y % 4 * 64 * p256 k := by rw [hd, Int.add_mul]
  grind
theorem Qe7 {xs low hs : List Int} (hl : 17 ≤ xs.length) (hlow : low = xs.take 16 ++ [nth xs 16 % 4]) (hv : 4 * lev hs + nth xs 16 % 4 = lev (xs.drop 16)) : lev xs = lev low + 1361129467683753853853498429727072845824 * lev hs := by
  have h1 : lev xs = lev (xs.take 16) + p256 16 * lev (xs.drop 16) := by
    have h := Qgt (xs.take 16) (xs.drop 16)
    rwa [List.take_append_drop, List.length_take, Nat.min_eq_left (by omega)] at h
  have h2 : lev low = lev (xs.take 16) + nth xs 16 % 4 * p256 16 := by rw [hlow, Qdd, List.length_take, Nat.min_eq_left (by omega)]
  rw [p16] at h1 h2
  omega
theorem QfA {xs low : List Int} (hb : Qaj xs) (hl : 17 ≤ xs.length) (hlow : low = xs.take 16 ++ [nth xs 16 % 4]) : 0 ≤ lev low ∧ lev low < 1361129467683753853853498429727072845824 := by
  have h2 : lev low = lev (xs.take 16) + nth xs 16 % 4 * p256 16 := by rw [hlow, Qdd, List.length_take, Nat.min_eq_left (by omega)]
  have h3 := Qd3 (Qa3 hb 16)
  have h4 := Qbl (Qa3 hb 16)
  rw [List.length_take, Nat.min_eq_left (by omega)] at h3
  rw [p16] at h2 h3
  omega
theorem QfC {xs : List Int} (hb : Qaj xs) (ht : xs = [] ∨ nth xs (xs.length - 1) ≠ 0) (h : 17 < xs.length ∨ (xs.length = 17 ∧ 3 < nth xs 16)) : 1361129467683753853853498429727072845824 ≤ lev xs := by
  have h1 : lev xs = lev (xs.take 16) + p256 16 * lev (xs.drop 16) := by
    have h := Qgt (xs.take 16) (xs.drop 16)
    rwa [List.take_append_drop, List.length_take, Nat.min_eq_left (by omega)] at h
  have h4 := Qbl (Qa3 hb 16)
  have h5 : 4 ≤ lev (xs.drop 16) := by
    rcases h with h | ⟨h, h6⟩
    · have h7 : nth xs (xs.length - 1) ≠ 0 := by
        rcases ht with e | e
        · rw [e] at h; simp at h
        · exact e
      have h8 : lev (xs.drop 16) = lev ((xs.drop 16).take (xs.length - 17)) + nth (xs.drop 16) (xs.length - 17) * p256 (xs.length - 17) := by
        have h9 := Qbh (xs.drop 16) (xs.length - 17) (by rw [List.length_drop]; omega)
        rw [← h9, List.take_of_length_le (by rw [List.length_drop]; omega)]
      rw [QdI, show 16 + (xs.length - 17) = xs.length - 1 by omega] at h8
      have h10 := Qa1 hb (xs.length - 1)
      have h11 := Qbl (Qa3 (QaN hb 16) (xs.length - 17))
      have h12 : p256 (xs.length - 17) = 256 * p256 (xs.length - 18) := by rw [show xs.length - 17 = (xs.length - 18) + 1 by omega, QbF]
      have h13 := QbR (xs.length - 18)
      have h14 : 1 * p256 (xs.length - 17) ≤ nth xs (xs.length - 1) * p256 (xs.length - 17) := Int.mul_le_mul_of_nonneg_right (by omega) (by omega)
      omega
    · have h8 : xs.drop 16 = [nth xs 16] := by
        apply Qgn
        · rw [List.length_drop, h]; rfl
        · intro i hi
          rw [List.length_drop] at hi
          obtain rfl : i = 0 := by omega
          rw [QdI]; rfl
      rw [h8]; simp only [lev]; omega
  rw [p16] at h1
  omega
theorem QfB {xs : List Int} (hb : Qaj xs) (h : xs.length < 17 ∨ (xs.length = 17 ∧ nth xs 16 ≤ 3)) : lev xs < 1361129467683753853853498429727072845824 := by
  rcases h with h | ⟨h, h6⟩
  · have h1 := Qd3 hb
    have h2 : p256 16 = p256 xs.length * p256 (16 - xs.length) := by rw [← Qcz]; congr 1; omega
    have h3 := QbR (16 - xs.length)
    have h4 : p256 xs.length * 1 ≤ p256 xs.length * p256 (16 - xs.length) := Int.mul_le_mul_of_nonneg_left (by omega) (Int.le_of_lt (QbR _))
    rw [p16] at h2
    omega
  · have h1 := Qbh xs 16 (by omega)
    rw [List.take_of_length_le (by omega)] at h1
    have h3 := Qd3 (Qa3 hb 16)
    have h7 := Qa1 hb 16
    rw [List.length_take, Nat.min_eq_left (by omega), p16] at h3
    rw [p16] at h1
    omega
theorem Qf9 {x n h v : Int} (e : x = n + 1361129467683753853853498429727072845819 * h) (hv : x % PP = v % PP) : n % PP = v % PP := by
  rw [← hv, e]
  unfold PP
  omega
theorem QcI {ys : List Int} {m : Nat} (hm : m ≤ ys.length) (h : m = 0 ∨ nth ys (m - 1) ≠ 0) : ys.take m = [] ∨ nth (ys.take m) ((ys.take m).length - 1) ≠ 0 := by
  rcases Nat.eq_zero_or_pos m with h0 | h0
  · left; rw [h0]; rfl
  · right
    rw [List.length_take, Nat.min_eq_left hm, Qd0 _ _ _ (by omega)]
    rcases h with h | h
    · omega
    · exact h
set_option maxRecDepth 100000 in
set_option maxHeartbeats 4000000 in
theorem QhC (a : List Int) (v : Value) (B : Nat) (w : World) (ha : RdK .i64 B a v w) (hal : a.length ≤ 1000) (hab : Qaj a) (hat : a = [] ∨ nth a (a.length - 1) ≠ 0) :
  Calls Tryd.prog 28 #[v] w (Qcb w (fun v W => ∃ zs : List Int, Qaj zs ∧ lev zs % PP = lev a % PP ∧ lev zs < 1361129467683753853853498429727072845824 ∧ zs.length ≤ 17 ∧ RdK .i64 W.heap.size zs v W)) := by
 obtain ⟨a_a, c_a, rfl, -⟩ := id ha
 refine enter 80 [(0, .slice a_a a.length c_a)] Tryd.func28 rfl rfl kj rfl ?_
 refine wp_seq_k fun K1 hK1 => ?_
 refine Qab ?_
 refine Qaa (.slice none 0 0) 2 rfl kj kj ?_
 refine Qac ?_
 refine hK1 _ _ ?_
 refine wp_seq_k fun K2 hK2 => ?_
 refine wp_block ?_
 refine QaH (fun (s1 : List Int × Value) => [(0, s1.2)]) (fun (s1 : List Int × Value) W => (Qaj s1.1) ∧ (s1.1 = [] ∨ nth s1.1 (s1.1.length - 1) ≠ 0) ∧ (lev s1.1 % PP = lev a % PP) ∧ (s1.1.length ≤ max 18 a.length) ∧ (RdK .i64 W.heap.size s1.1 s1.2 W) ∧ (Ext w W) ∧ (Ext w W)) (fun (s1 : List Int × Value) => (lev s1.1).toNat) (a, .slice a_a a.length c_a) ⟨rfl, trivial⟩ ⟨hab, hat, rfl, (Nat.le_max_right _ _), (RdK.here (RdK.ext ha (Rely.Ext.refl w))), (Rely.Ext.refl w), (Rely.Ext.refl w)⟩ fun s1 X1 V1 hI1 => ?_
 obtain ⟨xs, v⟩ := s1
 obtain ⟨hxb, hxt, hxm, hxl, hrx, kk1, xx1⟩ := hI1
 replace hxb : Qaj xs := hxb
 replace hxt : xs = [] ∨ nth xs (xs.length - 1) ≠ 0 := hxt
 replace hxm : lev xs % PP = lev a % PP := hxm
 replace hxl : xs.length ≤ max 18 a.length := hxl
 replace hrx : RdK .i64 V1.heap.size xs v V1 := hrx
 replace kk1 : Ext w V1 := kk1
 replace xx1 : Ext w V1 := xx1
 have e1 := kk1
 obtain ⟨ax, cx, rfl, -⟩ := id hrx
 refine wp_seq_k fun K3 hK3 => ?_
 refine wp_seq_k fun K4 hK4 => ?_
 rcases (show 17 < xs.length ∨ (xs.length = 17 ∧ 3 < nth xs 16) ∨ (xs.length = 17 ∧ nth xs 16 ≤ 3) ∨ xs.length < 17 by omega) with hq | hq | hq | hq
 ·skip
  have h17 : 17 ≤ xs.length := by omega
  have hbig := QfC hxb hxt (.inl hq)
  refine Qab ?_
  refine Qaa (.slice ax xs.length cx) 8 rfl kj kj ?_
  refine Qaa (.int .i64 ((xs.length : Nat) : Int)) 9 rfl kj kj ?_
  refine Qaa (.bool true) 10 rfl kj (Qah (u := .bool (decide (((xs.length : Nat) : Int) > 17))) kj (congrArg Value.bool (decide_eq_true (by omega)))) ?_
  refine Qaa (.bool true) 11 rfl kj kj ?_
  refine Qas 12 rfl kj ?_
  refine Qas 13 rfl kj ?_
  refine Qas 14 rfl kj ?_
  refine Qas 15 rfl kj ?_
  refine Qas 16 rfl kj ?_
  refine Qas 17 rfl kj ?_
  refine Qas 18 rfl kj ?_
  refine Qas 19 rfl kj ?_
  refine Qas 20 rfl kj ?_
  refine Qaa (.bool true) 21 rfl kj kj ?_
  refine Qac ?_
  refine hK4 _ _ ?_
  refine cond_true kj ?_
  refine wp_skip ?_
  refine hK3 _ _ ?_
  refine wp_block ?_
  refine wp_seq_k fun K5 hK5 => ?_
  refine Qab ?_
  refine Qaa (.slice none 0 0) 3 rfl kj kj ?_
  refine Qac ?_
  refine hK5 _ _ ?_
  refine wp_seq_k fun K6 hK6 => ?_
  refine Qab ?_
  refine Qaa (.slice none 0 0) 4 rfl kj kj ?_
  refine Qac ?_
  refine hK6 _ _ ?_
  refine wp_seq_k fun K7 hK7 => ?_
  refine wp_seq_k fun K8 hK8 => ?_
  refine Qab ?_
  refine Qaa (.int .i64 0) 5 rfl kj kj ?_
  refine Qac ?_
  refine hK8 _ _ ?_
  refine wp_block ?_
  refine QaH (fun (s2 : Nat × Value) => [(0, .slice ax xs.length cx), (3, s2.2), (4, .slice none 0 0), (5, .int .i64 ((s2.1 : Nat) : Int))]) (fun (s2 : Nat × Value) W => (s2.1 ≤ xs.length) ∧ (OwnN .i64 3 V1.heap.size (xs.take (min s2.1 16)) s2.2 W) ∧ (Ext V1 W) ∧ (Ext w W)) (fun (s2 : Nat × Value) => xs.length - s2.1) (0, (.slice none 0 0)) ⟨rfl, rfl, rfl, rfl, trivial⟩ ⟨(Nat.zero_le _), (by rw [show min 0 16 = 0 from rfl, List.take_zero]; exact QbW _ _ _ _), (Rely.Ext.refl V1), xx1⟩ fun s2 X2 V2 hI2 => ?_
  obtain ⟨i, u⟩ := s2
  obtain ⟨hi, hu, kk2, xx2⟩ := hI2
  replace hi : i ≤ xs.length := hi
  replace hu : OwnN .i64 3 V1.heap.size (xs.take (min i 16)) u V2 := hu
  replace kk2 : Ext V1 V2 := kk2
  replace xx2 : Ext w V2 := xx2
  have e2 := kk2
  refine wp_seq_k fun K9 hK9 => ?_
  refine wp_seq_k fun K10 hK10 => ?_
  refine Qab ?_
  refine Qaa (.int .i64 ((i : Nat) : Int)) 22 rfl kj kj ?_
  refine Qaa (.slice ax xs.length cx) 23 rfl kj kj ?_
  refine Qaa (.int .i64 ((xs.length : Nat) : Int)) 24 rfl kj kj ?_
  refine Qaa (.bool (decide (((i : Nat) : Int) < ((xs.length : Nat) : Int)))) 25 rfl kj kj ?_
  refine Qac ?_
  refine hK10 _ _ ?_
  refine Qa8 (t := decide (((i : Nat) : Int) < ((xs.length : Nat) : Int))) kj (fun c11 => ?_) (fun c11 => ?_)
  ·skip
   have hlt25 : i < xs.length := by have := of_decide_eq_true c11; omega
   refine wp_skip ?_
   refine hK9 _ _ ?_
   refine wp_seq_k fun K12 hK12 => ?_
   refine wp_block ?_
   refine wp_seq_k fun K13 hK13 => ?_
   refine Qab ?_
   refine Qaa (.int .i64 ((i : Nat) : Int)) 28 rfl kj kj ?_
   refine Qaa (.bool (decide (((i : Nat) : Int) < 16))) 29 rfl kj kj ?_
   refine Qac ?_
   refine hK13 _ _ ?_
   refine Qa8 (t := decide (((i : Nat) : Int) < 16)) kj (fun c14 => ?_) (fun c14 => ?_)
   ·skip
    have hi16 : i < 16 := by have := of_decide_eq_true c14; omega
    have f16_2 := (hrx.ext e2)
    obtain ⟨grx15, orx15, harx15, -, hlrx15, hcrx15⟩ := Qb4 f16_2 (by omega)
    refine Qab ?_
    refine Qaa (u) 30 rfl kj kj ?_
    refine Qaa (.slice ax xs.length cx) 31 rfl kj kj ?_
    refine Qaa (.int .i64 ((i : Nat) : Int)) 32 rfl kj kj ?_
    refine Qaa (.pointer (some ⟨grx15, orx15 + i, none⟩)) 33 rfl kj (QaJ 54 _ _ .i64 i grx15 orx15 xs.length cx 3 ax _ harx15 rfl rfl kj kj kj kj (Nat.lt_of_lt_of_eq (show i < (xs).length by omega) (rfl : (xs).length = (xs).length).symm)) ?_
    refine Qaa (.int .i64 (nth (xs) (i))) 34 rfl kj (Qav 3 _ _ (.int .i64 (nth (xs) (i))) (hcrx15 i (Nat.lt_of_lt_of_eq (show i < (xs).length by omega) (rfl : (xs).length = (xs).length).symm)) rfl kj kj) ?_
    refine QaD (ints .i64 ([(nth (xs) (i))])) 3 1 35 rfl kj kj fun g17 W3 l17 e3 r17_3 => ?_
    have x3 : Ext w W3 := Ext.tr xx2 e3
    have b17 : w.heap.size ≤ g17 := Nat.le_trans xx2.size l17
    have f18_3 := (hu.ext e3)
    have y1_3 : Ext V1 W3 := (Rely.Ext.trans e2 e3)
    refine QaE (k := .i64) (T := 3) (xs := xs.take (min i 16)) (ys := [(nth (xs) (i))]) (V := V1) 8 (.tmp 30) (.tmp 35) 54 rfl kj kj (by decide) 36 rfl kj kj kj f18_3 (QaP (xs := [(nth (xs) (i))]) (n := 1) rfl r17_3 (QaA r17_3) (show 1 ≤ maxLen from by decide)) (by rw [List.length_take]; show _ + 1 ≤ _; omega) y1_3 fun y1_ W4 f19 y4 l4 => ?_
    have x4 : Ext w W4 := Ext.low x3 l4 xx1.size
    refine Qaa (y1_) 3 rfl kj kj ?_
    refine Qac ?_
    refine hK12 _ _ ?_
    refine Qab ?_
    refine Qaa (.int .i64 ((i : Nat) : Int)) 26 rfl kj kj ?_
    refine Qaa (.int .i64 ((i + 1 : Nat) : Int)) 27 rfl kj (Qah (u := .int .i64 (IntKind.i64.wrap (((i : Nat) : Int) + 1))) kj (congrArg (Value.int .i64) (i64n _ _ (by omega) (by omega)))) ?_
    refine Qaa (.int .i64 ((i + 1 : Nat) : Int)) 5 rfl kj kj ?_
    refine Qac ?_
    repeat (first | with_reducible refine goX1 ?_ | with_reducible refine goX2 ?_ | with_reducible refine goX3 ?_)
    exact Qaz ((i + 1), y1_) ⟨rfl, rfl, rfl, rfl, trivial⟩ ⟨(show i + 1 ≤ xs.length by omega), (by rw [QgM xs i hi16 hlt25]; exact f19), y4, x4⟩ (by show xs.length - (i + 1) < xs.length - i; omega)
   ·skip
    have hi16 : 16 ≤ i := by have := of_decide_eq_false c14; omega
    refine wp_skip ?_
    refine hK12 _ _ ?_
    refine Qab ?_
    refine Qaa (.int .i64 ((i : Nat) : Int)) 26 rfl kj kj ?_
    refine Qaa (.int .i64 ((i + 1 : Nat) : Int)) 27 rfl kj (Qah (u := .int .i64 (IntKind.i64.wrap (((i : Nat) : Int) + 1))) kj (congrArg (Value.int .i64) (i64n _ _ (by omega) (by omega)))) ?_
    refine Qaa (.int .i64 ((i + 1 : Nat) : Int)) 5 rfl kj kj ?_
    refine Qac ?_
    repeat (first | with_reducible refine goX1 ?_ | with_reducible refine goX2 ?_ | with_reducible refine goX3 ?_)
    exact Qaz ((i + 1), u) ⟨rfl, rfl, rfl, rfl, trivial⟩ ⟨(show i + 1 ≤ xs.length by omega), (by rw [QgN xs i hi16]; exact hu), e2, xx2⟩ (by show xs.length - (i + 1) < xs.length - i; omega)
  ·skip
   have heq25 : i = xs.length := by have := of_decide_eq_false c11; omega
   have hu16 : OwnN .i64 3 V1.heap.size (xs.take 16) u V2 := by have h9 := hu; rw [show min i 16 = 16 by omega] at h9; exact h9
   refine wp_exit ?_
   refine hK7 _ _ ?_
   refine wp_seq_k fun K21 hK21 => ?_
   refine Qab ?_
   have f23_2 := (hrx.ext e2)
   obtain ⟨grx22, orx22, harx22, -, hlrx22, hcrx22⟩ := Qb4 f23_2 (by omega)
   refine Qaa (u) 37 rfl kj kj ?_
   refine Qaa (.slice ax xs.length cx) 38 rfl kj kj ?_
   refine Qaa (.pointer (some ⟨grx22, orx22 + 16, none⟩)) 39 rfl kj (QaJ 54 _ _ .i64 16 grx22 orx22 xs.length cx 3 ax _ harx22 rfl rfl kj kj kj kj (Nat.lt_of_lt_of_eq (show 16 < (xs).length by omega) (rfl : (xs).length = (xs).length).symm)) ?_
   refine Qaa (.int .i64 (nth (xs) (16))) 40 rfl kj (Qav 3 _ _ (.int .i64 (nth (xs) (16))) (hcrx22 16 (Nat.lt_of_lt_of_eq (show 16 < (xs).length by omega) (rfl : (xs).length = (xs).length).symm)) rfl kj kj) ?_
   refine Qaa (.int .i64 (nth xs 16 % 4)) 41 rfl kj (Qah (u := .int .i64 (Int.tmod ((nth (xs) (16))) (4))) kj (congrArg (Value.int .i64) (show Int.tmod (nth xs 16) 4 = nth xs 16 % 4 from Int.tmod_eq_emod_of_nonneg (by have := Qa1 hxb 16; omega)))) ?_
   refine QaD (ints .i64 ([(nth xs 16 % 4)])) 3 1 42 rfl kj kj fun g24 W3 l24 e3 r24_3 => ?_
   have x3 : Ext w W3 := Ext.tr xx2 e3
   have b24 : w.heap.size ≤ g24 := Nat.le_trans xx2.size l24
   have f25_3 := (hu16.ext e3)
   have y1_3 : Ext V1 W3 := (Rely.Ext.trans e2 e3)
   refine QaE (k := .i64) (T := 3) (xs := xs.take 16) (ys := [(nth xs 16 % 4)]) (V := V1) 8 (.tmp 37) (.tmp 42) 54 rfl kj kj (by decide) 43 rfl kj kj kj f25_3 (QaP (xs := [(nth xs 16 % 4)]) (n := 1) rfl r24_3 (QaA r24_3) (show 1 ≤ maxLen from by decide)) (by rw [List.length_take]; show _ + 1 ≤ _; omega) y1_3 fun y2_ W4 f26 y4 l4 => ?_
   have x4 : Ext w W4 := Ext.low x3 l4 xx1.size
   refine Qaa (y2_) 3 rfl kj kj ?_
   refine Qac ?_
   refine hK21 _ _ ?_
   refine wp_seq_k fun K28 hK28 => ?_
   refine wp_seq_k fun K29 hK29 => ?_
   refine Qab ?_
   refine Qaa (.int .i64 16) 6 rfl kj kj ?_
   refine Qac ?_
   refine hK29 _ _ ?_
   refine wp_block ?_
   refine QaH (fun (s3 : Nat × List Int × Value) => [(0, .slice ax xs.length cx), (3, y2_), (4, s3.2.2), (6, .int .i64 ((16 + s3.1 : Nat) : Int))]) (fun (s3 : Nat × List Int × Value) W => (16 + s3.1 ≤ xs.length) ∧ (s3.2.1.length = s3.1) ∧ (Qaj s3.2.1) ∧ (4 * lev s3.2.1 + nth xs 16 % 4 = lev ((xs.drop 16).take s3.1) + nth xs (16 + s3.1) % 4 * p256 s3.1) ∧ (OwnN .i64 3 W4.heap.size s3.2.1 s3.2.2 W) ∧ (Ext W4 W) ∧ (Ext w W)) (fun (s3 : Nat × List Int × Value) => xs.length - (16 + s3.1)) (0, [], (.slice none 0 0)) ⟨rfl, rfl, rfl, rfl, trivial⟩ ⟨(show 16 + 0 ≤ xs.length by omega), rfl, (fun x hx => by cases hx), (by show 4 * 0 + nth xs 16 % 4 = 0 + nth xs 16 % 4 * 1; omega), (QbW _ _ _ _), (Rely.Ext.refl W4), x4⟩ fun s3 X3 V3 hI3 => ?_
   obtain ⟨k, hs, u2⟩ := s3
   obtain ⟨hk, hhl, hhb, hhv, hu2, kk3, xx3⟩ := hI3
   replace hk : 16 + k ≤ xs.length := hk
   replace hhl : hs.length = k := hhl
   replace hhb : Qaj hs := hhb
   replace hhv : 4 * lev hs + nth xs 16 % 4 = lev ((xs.drop 16).take k) + nth xs (16 + k) % 4 * p256 k := hhv
   replace hu2 : OwnN .i64 3 W4.heap.size hs u2 V3 := hu2
   replace kk3 : Ext W4 V3 := kk3
   replace xx3 : Ext w V3 := xx3
   have e5 := kk3
   refine wp_seq_k fun K30 hK30 => ?_
   refine wp_seq_k fun K31 hK31 => ?_
   refine Qab ?_
   refine Qaa (.int .i64 ((16 + k : Nat) : Int)) 44 rfl kj kj ?_
   refine Qaa (.slice ax xs.length cx) 45 rfl kj kj ?_
   refine Qaa (.int .i64 ((xs.length : Nat) : Int)) 46 rfl kj kj ?_
   refine Qaa (.bool (decide (((16 + k : Nat) : Int) < ((xs.length : Nat) : Int)))) 47 rfl kj kj ?_
   refine Qac ?_
   refine hK31 _ _ ?_
   refine Qa8 (t := decide (((16 + k : Nat) : Int) < ((xs.length : Nat) : Int))) kj (fun c32 => ?_) (fun c32 => ?_)
   ·skip
    have hlt47 : 16 + k < xs.length := by have := of_decide_eq_true c32; omega
    have f34_3 := (f23_2.ext e3)
    have f35_4 := (RdK.low f34_3 hrx l4)
    have f36_5 := (f35_4.ext e5)
    obtain ⟨grx33, orx33, harx33, -, hlrx33, hcrx33⟩ := Qb4 f36_5 (by omega)
    have hxk := Qa1 hxb (16 + k)
    have hxk1 := Qa1 hxb (16 + (k + 1))
    have hxk2 := Qa1 hxb ((16 + k) + 1)
    refine wp_skip ?_
    refine hK30 _ _ ?_
    refine wp_seq_k fun K37 hK37 => ?_
    refine wp_block ?_
    refine wp_seq_k fun K38 hK38 => ?_
    refine Qab ?_
    refine Qaa (.slice ax xs.length cx) 50 rfl kj kj ?_
    refine Qaa (.int .i64 ((16 + k : Nat) : Int)) 51 rfl kj kj ?_
    refine Qaa (.pointer (some ⟨grx33, orx33 + (16 + k), none⟩)) 52 rfl kj (QaJ 54 _ _ .i64 (16 + k) grx33 orx33 xs.length cx 3 ax _ harx33 rfl rfl kj kj kj kj (Nat.lt_of_lt_of_eq (show 16 + k < (xs).length by omega) (rfl : (xs).length = (xs).length).symm)) ?_
    refine Qaa (.int .i64 (nth (xs) ((16 + k)))) 53 rfl kj (Qav 3 _ _ (.int .i64 (nth (xs) ((16 + k)))) (hcrx33 (16 + k) (Nat.lt_of_lt_of_eq (show 16 + k < (xs).length by omega) (rfl : (xs).length = (xs).length).symm)) rfl kj kj) ?_
    refine Qaa (.int .i64 (nth xs (16 + k) / 4)) 54 rfl kj (Qah (u := .int .i64 (IntKind.i64.wrap (Int.tdiv ((nth (xs) ((16 + k)))) (4)))) kj (congrArg (Value.int .i64) (by rw [show Int.tdiv (nth xs (16 + k)) 4 = (nth xs (16 + k)) / 4 from Int.tdiv_eq_ediv_of_nonneg (by omega)]; exact IntWalk.i64_in _ (by omega)))) ?_
    refine Qaa (.int .i64 (nth xs (16 + k) / 4)) 7 rfl kj kj ?_
    refine Qac ?_
    refine hK38 _ _ ?_
    refine wp_seq_k fun K39 hK39 => ?_
    refine wp_seq_k fun K40 hK40 => ?_
    refine Qab ?_
    refine Qaa (.int .i64 ((16 + k : Nat) : Int)) 55 rfl kj kj ?_
    refine Qaa (.int .i64 (((16 + k) + 1 : Nat) : Int)) 56 rfl kj (Qah (u := .int .i64 (IntKind.i64.wrap (((16 + k : Nat) : Int) + 1))) kj (congrArg (Value.int .i64) (i64n _ _ (by omega) (by omega)))) ?_
    refine Qaa (.slice ax xs.length cx) 57 rfl kj kj ?_
    refine Qaa (.int .i64 ((xs.length : Nat) : Int)) 58 rfl kj kj ?_
    refine Qaa (.bool (decide ((((16 + k) + 1 : Nat) : Int) < ((xs.length : Nat) : Int)))) 59 rfl kj kj ?_
    refine Qac ?_
    refine hK40 _ _ ?_
    refine Qa8 (t := decide ((((16 + k) + 1 : Nat) : Int) < ((xs.length : Nat) : Int))) kj (fun c41 => ?_) (fun c41 => ?_)
    ·skip
     have hk1 : 16 + (k + 1) < xs.length := by have := of_decide_eq_true c41; omega
     obtain ⟨grx42, orx42, harx42, -, hlrx42, hcrx42⟩ := Qb4 f36_5 (by omega)
     refine Qab ?_
     refine Qaa (.int .i64 (nth xs (16 + k) / 4)) 60 rfl kj kj ?_
     refine Qaa (.slice ax xs.length cx) 61 rfl kj kj ?_
     refine Qaa (.int .i64 ((16 + k : Nat) : Int)) 62 rfl kj kj ?_
     refine Qaa (.int .i64 (((16 + k) + 1 : Nat) : Int)) 63 rfl kj (Qah (u := .int .i64 (IntKind.i64.wrap (((16 + k : Nat) : Int) + 1))) kj (congrArg (Value.int .i64) (i64n _ _ (by omega) (by omega)))) ?_
     refine Qaa (.pointer (some ⟨grx42, orx42 + ((16 + k) + 1), none⟩)) 64 rfl kj (QaJ 54 _ _ .i64 ((16 + k) + 1) grx42 orx42 xs.length cx 3 ax _ harx42 rfl rfl kj kj kj kj (Nat.lt_of_lt_of_eq (show (16 + k) + 1 < (xs).length by omega) (rfl : (xs).length = (xs).length).symm)) ?_
     refine Qaa (.int .i64 (nth (xs) (((16 + k) + 1)))) 65 rfl kj (Qav 3 _ _ (.int .i64 (nth (xs) (((16 + k) + 1)))) (hcrx42 ((16 + k) + 1) (Nat.lt_of_lt_of_eq (show (16 + k) + 1 < (xs).length by omega) (rfl : (xs).length = (xs).length).symm)) rfl kj kj) ?_
     refine Qaa (.int .i64 (nth xs ((16 + k) + 1) % 4)) 66 rfl kj (Qah (u := .int .i64 (Int.tmod ((nth (xs) (((16 + k) + 1)))) (4))) kj (congrArg (Value.int .i64) (show Int.tmod (nth xs ((16 + k) + 1)) 4 = (nth xs ((16 + k) + 1)) % 4 from Int.tmod_eq_emod_of_nonneg (by omega)))) ?_
     refine Qaa (.int .i64 (nth xs ((16 + k) + 1) % 4 * 64)) 67 rfl kj (Qah (u := .int .i64 (IntKind.i64.wrap ((nth xs ((16 + k) + 1) % 4) * 64))) kj (congrArg (Value.int .i64) (IntWalk.i64_in _ (by omega)))) ?_
     refine Qaa (.int .i64 (nth xs (16 + k) / 4 + nth xs ((16 + k) + 1) % 4 * 64)) 68 rfl kj (Qah (u := .int .i64 (IntKind.i64.wrap ((nth xs (16 + k) / 4) + (nth xs ((16 + k) + 1) % 4 * 64)))) kj (congrArg (Value.int .i64) (IntWalk.i64_in _ (by omega)))) ?_
     refine Qaa (.int .i64 (nth xs (16 + k) / 4 + nth xs ((16 + k) + 1) % 4 * 64)) 7 rfl kj kj ?_
     refine Qac ?_
     refine hK39 _ _ ?_
     refine Qab ?_
     refine Qaa (u2) 69 rfl kj kj ?_
     refine Qaa (.int .i64 (nth xs (16 + k) / 4 + nth xs ((16 + k) + 1) % 4 * 64)) 70 rfl kj kj ?_
     refine QaD (ints .i64 ([(nth xs (16 + k) / 4 + nth xs ((16 + k) + 1) % 4 * 64)])) 3 1 71 rfl kj kj fun g43 W6 l43 e6 r43_6 => ?_
     have x6 : Ext w W6 := Ext.tr xx3 e6
     have b43 : w.heap.size ≤ g43 := Nat.le_trans xx3.size l43
     have f44_6 := (hu2.ext e6)
     have y4_6 : Ext W4 W6 := (Rely.Ext.trans e5 e6)
     refine QaE (k := .i64) (T := 3) (xs := hs) (ys := [(nth xs (16 + k) / 4 + nth xs ((16 + k) + 1) % 4 * 64)]) (V := W4) 8 (.tmp 69) (.tmp 71) 54 rfl kj kj (by decide) 72 rfl kj kj kj f44_6 (QaP (xs := [(nth xs (16 + k) / 4 + nth xs ((16 + k) + 1) % 4 * 64)]) (n := 1) rfl r43_6 (QaA r43_6) (show 1 ≤ maxLen from by decide)) (by show hs.length + 1 ≤ _; omega) y4_6 fun y3_ W7 f45 y7 l7 => ?_
     have x7 : Ext w W7 := Ext.low x6 l7 x4.size
     refine Qaa (y3_) 4 rfl kj kj ?_
     refine Qac ?_
     refine hK37 _ _ ?_
     refine Qab ?_
     refine Qaa (.int .i64 ((16 + k : Nat) : Int)) 48 rfl kj kj ?_
     refine Qaa (.int .i64 (((16 + k) + 1 : Nat) : Int)) 49 rfl kj (Qah (u := .int .i64 (IntKind.i64.wrap (((16 + k : Nat) : Int) + 1))) kj (congrArg (Value.int .i64) (i64n _ _ (by omega) (by omega)))) ?_
     refine Qaa (.int .i64 (((16 + k) + 1 : Nat) : Int)) 6 rfl kj kj ?_
     refine Qac ?_
     repeat (first | with_reducible refine goX1 ?_ | with_reducible refine goX2 ?_ | with_reducible refine goX3 ?_)
     exact Qaz ((k + 1), hs ++ [(nth xs (16 + k) / 4 + nth xs ((16 + k) + 1) % 4 * 64)], y3_) ⟨rfl, rfl, rfl, rfl, trivial⟩ ⟨(show 16 + (k + 1) ≤ xs.length by omega), (show (hs ++ [(nth xs (16 + k) / 4 + nth xs ((16 + k) + 1) % 4 * 64)]).length = k + 1 by rw [List.length_append, hhl]; rfl), (show Qaj (hs ++ [(nth xs (16 + k) / 4 + nth xs ((16 + k) + 1) % 4 * 64)]) from Qbc hhb (Qbo (by omega) (by omega))), (QdM (d := (nth xs (16 + k) / 4 + nth xs ((16 + k) + 1) % 4 * 64)) rfl rfl hhl hlt47 (by first | rfl | (rw [hy0]; omega)) hhv), f45, y7, x7⟩ (by show xs.length - (16 + (k + 1)) < xs.length - (16 + k); omega)
    ·skip
     have hk1 : xs.length ≤ 16 + (k + 1) := by have := of_decide_eq_false c41; omega
     have hy0 := Qfd xs _ hk1
     refine wp_skip ?_
     refine hK39 _ _ ?_
     refine Qab ?_
     refine Qaa (u2) 69 rfl kj kj ?_
     refine Qaa (.int .i64 (nth xs (16 + k) / 4)) 70 rfl kj kj ?_
     refine QaD (ints .i64 ([(nth xs (16 + k) / 4)])) 3 1 71 rfl kj kj fun g47 W6 l47 e6 r47_6 => ?_
     have x6 : Ext w W6 := Ext.tr xx3 e6
     have b47 : w.heap.size ≤ g47 := Nat.le_trans xx3.size l47
     have f48_6 := (hu2.ext e6)
     have y4_6 : Ext W4 W6 := (Rely.Ext.trans e5 e6)
     refine QaE (k := .i64) (T := 3) (xs := hs) (ys := [(nth xs (16 + k) / 4)]) (V := W4) 8 (.tmp 69) (.tmp 71) 54 rfl kj kj (by decide) 72 rfl kj kj kj f48_6 (QaP (xs := [(nth xs (16 + k) / 4)]) (n := 1) rfl r47_6 (QaA r47_6) (show 1 ≤ maxLen from by decide)) (by show hs.length + 1 ≤ _; omega) y4_6 fun y4_ W7 f49 y7 l7 => ?_
     have x7 : Ext w W7 := Ext.low x6 l7 x4.size
     refine Qaa (y4_) 4 rfl kj kj ?_
     refine Qac ?_
     refine hK37 _ _ ?_
     refine Qab ?_
     refine Qaa (.int .i64 ((16 + k : Nat) : Int)) 48 rfl kj kj ?_
     refine Qaa (.int .i64 (((16 + k) + 1 : Nat) : Int)) 49 rfl kj (Qah (u := .int .i64 (IntKind.i64.wrap (((16 + k : Nat) : Int) + 1))) kj (congrArg (Value.int .i64) (i64n _ _ (by omega) (by omega)))) ?_
     refine Qaa (.int .i64 (((16 + k) + 1 : Nat) : Int)) 6 rfl kj kj ?_
     refine Qac ?_
     repeat (first | with_reducible refine goX1 ?_ | with_reducible refine goX2 ?_ | with_reducible refine goX3 ?_)
     exact Qaz ((k + 1), hs ++ [(nth xs (16 + k) / 4)], y4_) ⟨rfl, rfl, rfl, rfl, trivial⟩ ⟨(show 16 + (k + 1) ≤ xs.length by omega), (show (hs ++ [(nth xs (16 + k) / 4)]).length = k + 1 by rw [List.length_append, hhl]; rfl), (show Qaj (hs ++ [(nth xs (16 + k) / 4)]) from Qbc hhb (Qbo (by omega) (by omega))), (QdM (d := (nth xs (16 + k) / 4)) rfl rfl hhl hlt47 (by first | rfl | (rw [hy0]; omega)) hhv), f49, y7, x7⟩ (by show xs.length - (16 + (k + 1)) < xs.length - (16 + k); omega)
   ·skip
    have heq47 : 16 + k = xs.length := by have := of_decide_eq_false c32; omega
    have hhe : 4 * lev hs + nth xs 16 % 4 = lev (xs.drop 16) := by
     rw [hhv, List.take_of_length_le (by rw [List.length_drop]; omega), Qfd xs _ (by omega)]; omega
    refine wp_exit ?_
    refine hK28 _ _ ?_
    refine Qab ?_
    have f51_5 := (f26.ext e5)
    obtain ⟨low, elow⟩ : ∃ z, z = xs.take 16 ++ [nth xs 16 % 4] := ⟨_, rfl⟩
    have hlw : OwnN .i64 3 V1.heap.size low y2_ V3 := elow ▸ f51_5
    obtain ⟨al, cl, rfl, -⟩ := id (OwnN.rd hlw)
    have hll : low.length = 17 := by rw [elow, List.length_append, List.length_take]; show min 16 xs.length + 1 = 17; omega
    have hlb : Qaj low := elow ▸ Qbc (Qa3 hxb 16) (Qbo (by have := Qa1 hxb 16; omega) (by omega))
    have hsp := Qe7 h17 elow hhe
    have hlo := QfA hxb h17 elow
    obtain ⟨ah, ch, rfl, -⟩ := id (OwnN.rd hu2)
    refine Qaa (.slice al low.length cl) 73 rfl kj kj ?_
    refine Qaa (.slice ah hs.length ch) 74 rfl kj kj ?_
    refine QaD (ints .i64 ([5])) 3 1 75 rfl kj kj fun g52 W6 l52 e6 r52_6 => ?_
    have x6 : Ext w W6 := Ext.tr xx3 e6
    have b52 : w.heap.size ≤ g52 := Nat.le_trans xx3.size l52
    have f54_6 := (hu2.ext e6)
    refine Qaw (fun v W' => (DigR W6.heap.size (lev hs * lev [5]) (hs.length + 1 + 1)) v W' ∧ Ext W6 W') 30 #[.slice ah hs.length ch, .slice (some ⟨g52, 0, none⟩) 1 1] 76 rfl kj kj ((Qfo hs [5] _ _ _ _ _ (OwnN.rd f54_6) (QaP (xs := [5]) (n := 1) rfl r52_6 (QaA r52_6) (show 1 ≤ maxLen from by decide)) (by omega) (by decide) hhb (Qbo (by decide) (by decide))).mono (by rintro e w' ⟨v, rfl, e1, hv⟩; exact ⟨v, rfl, hv, e1⟩)) fun vv55 W7 hh55 => ?_
    obtain ⟨hv55, e7⟩ := hh55
    have x7 : Ext w W7 := Ext.tr x6 e7
    obtain ⟨zs53, hzb53, hzv53, hzl53, hzo53⟩ := hv55
    obtain ⟨az53, cz53, rfl, -⟩ := id (OwnN.rd hzo53)
    have f57_6 := (hlw.ext e6)
    have f58_7 := (f57_6.ext e7)
    refine Qaw (fun v W' => (DigR W7.heap.size (lev low + lev zs53) (max low.length zs53.length + 1)) v W' ∧ Ext W7 W') 31 #[.slice al low.length cl, .slice az53 zs53.length cz53] 77 rfl kj kj ((Qek low zs53 _ _ _ _ _ (OwnN.rd f58_7) (OwnN.rd hzo53) (by omega) (by omega) hlb hzb53).mono (by rintro e w' ⟨v, rfl, e1, hv⟩; exact ⟨v, rfl, hv, e1⟩)) fun vv59 W8 hh59 => ?_
    obtain ⟨hv59, e8⟩ := hh59
    have x8 : Ext w W8 := Ext.tr x7 e8
    obtain ⟨zs56, hzb56, hzv56, hzl56, hzo56⟩ := hv59
    obtain ⟨az56, cz56, rfl, -⟩ := id (OwnN.rd hzo56)
    refine Qaw (fun v W' => (fun v W => ∃ m, m ≤ zs56.length ∧ v = .slice az56 m cz56 ∧ lev (zs56.take m) = lev zs56 ∧ (m = 0 ∨ nth zs56 (m - 1) ≠ 0)) v W' ∧ Ext W8 W') 29 #[.slice az56 zs56.length cz56] 78 rfl kj kj ((QeZ zs56 _ _ _ _ (OwnN.rd hzo56) (by omega)).mono (by rintro e w' ⟨v, rfl, e1, hv⟩; exact ⟨v, rfl, hv, e1⟩)) fun vv61 W9 hh61 => ?_
    obtain ⟨hv61, e9⟩ := hh61
    have x9 : Ext w W9 := Ext.tr x8 e9
    obtain ⟨m60, hm60, rfl, hv60, ht60⟩ := hv61
    have htl60 : (zs56.take m60).length = m60 := by rw [List.length_take]; omega
    refine Qaa (.slice az56 m60 cz56) 0 rfl kj kj ?_
    refine Qac ?_
    have hnew : lev (zs56.take m60) = lev low + 5 * lev hs := by rw [hv60, hzv56, hzv53]; simp only [lev]; omega
    have hhp := Qbl hhb
    have f62_9 := (hzo56.ext e9)
    have y0_2 : Ext w V2 := (Rely.Ext.trans e1 e2)
    have y0_3 : Ext w W3 := (Rely.Ext.trans y0_2 e3)
    have y0_4 : Ext w W4 := (Ext.low y0_3 l4 e1.size)
    have y0_5 : Ext w V3 := (Rely.Ext.trans y0_4 e5)
    have y0_6 : Ext w W6 := (Rely.Ext.trans y0_5 e6)
    have y0_7 : Ext w W7 := (Rely.Ext.trans y0_6 e7)
    have y0_8 : Ext w W8 := (Rely.Ext.trans y0_7 e8)
    have y0_9 : Ext w W9 := (Rely.Ext.trans y0_8 e9)
    repeat (first | with_reducible refine goX1 ?_ | with_reducible refine goX2 ?_ | with_reducible refine goX3 ?_)
    exact Qaz ((zs56.take m60), (.slice az56 m60 cz56)) ⟨rfl, trivial⟩ ⟨(Qa3 hzb56 m60), (QcI hm60 ht60), (Qf9 (h := lev hs) (by rw [hnew]; omega) hxm), (by show (zs56.take m60).length ≤ _; rw [List.length_take]; omega), (RdK.here (QbI (OwnN.rd f62_9) m60 hm60)), y0_9, x9⟩ (by show (lev (zs56.take m60)).toNat < (lev xs).toNat; omega)
 ·skip
  obtain ⟨grx63, orx63, harx63, -, hlrx63, hcrx63⟩ := Qb4 hrx (by omega)
  have h17 : 17 ≤ xs.length := by omega
  have hbig := QfC hxb hxt (.inr hq)
  refine Qab ?_
  refine Qaa (.slice ax xs.length cx) 8 rfl kj kj ?_
  refine Qaa (.int .i64 ((xs.length : Nat) : Int)) 9 rfl kj kj ?_
  refine Qaa (.bool false) 10 rfl kj (Qah (u := .bool (decide (((xs.length : Nat) : Int) > 17))) kj (congrArg Value.bool (decide_eq_false (by omega)))) ?_
  refine Qaa (.bool false) 11 rfl kj kj ?_
  refine Qaa (.slice ax xs.length cx) 12 rfl kj kj ?_
  refine Qaa (.int .i64 ((xs.length : Nat) : Int)) 13 rfl kj kj ?_
  refine Qaa (.bool true) 14 rfl kj (Qah (u := .bool ((((xs.length : Nat) : Int) == 17))) kj (congrArg Value.bool (by rw [hq.1]; rfl))) ?_
  refine Qaa (.bool true) 15 rfl kj kj ?_
  refine Qaa (.slice ax xs.length cx) 16 rfl kj kj ?_
  refine Qaa (.pointer (some ⟨grx63, orx63 + 16, none⟩)) 17 rfl kj (QaJ 54 _ _ .i64 16 grx63 orx63 xs.length cx 3 ax _ harx63 rfl rfl kj kj kj kj (Nat.lt_of_lt_of_eq (show 16 < (xs).length by omega) (rfl : (xs).length = (xs).length).symm)) ?_
  refine Qaa (.int .i64 (nth (xs) (16))) 18 rfl kj (Qav 3 _ _ (.int .i64 (nth (xs) (16))) (hcrx63 16 (Nat.lt_of_lt_of_eq (show 16 < (xs).length by omega) (rfl : (xs).length = (xs).length).symm)) rfl kj kj) ?_
  refine Qaa (.bool true) 19 rfl kj (Qah (u := .bool (decide ((nth (xs) (16)) > 3))) kj (congrArg Value.bool (decide_eq_true (by omega)))) ?_
  refine Qaa (.bool true) 20 rfl kj kj ?_
  refine Qaa (.bool true) 21 rfl kj kj ?_
  refine Qac ?_
  refine hK4 _ _ ?_
  refine cond_true kj ?_
  refine wp_skip ?_
  refine hK3 _ _ ?_
  refine wp_block ?_
  refine wp_seq_k fun K64 hK64 => ?_
  refine Qab ?_
  refine Qaa (.slice none 0 0) 3 rfl kj kj ?_
  refine Qac ?_
  refine hK64 _ _ ?_
  refine wp_seq_k fun K65 hK65 => ?_
  refine Qab ?_
  refine Qaa (.slice none 0 0) 4 rfl kj kj ?_
  refine Qac ?_
  refine hK65 _ _ ?_
  refine wp_seq_k fun K66 hK66 => ?_
  refine wp_seq_k fun K67 hK67 => ?_
  refine Qab ?_
  refine Qaa (.int .i64 0) 5 rfl kj kj ?_
  refine Qac ?_
  refine hK67 _ _ ?_
  refine wp_block ?_
  refine QaH (fun (s4 : Nat × Value) => [(0, .slice ax xs.length cx), (3, s4.2), (4, .slice none 0 0), (5, .int .i64 ((s4.1 : Nat) : Int))]) (fun (s4 : Nat × Value) W => (s4.1 ≤ xs.length) ∧ (OwnN .i64 3 V1.heap.size (xs.take (min s4.1 16)) s4.2 W) ∧ (Ext V1 W) ∧ (Ext w W)) (fun (s4 : Nat × Value) => xs.length - s4.1) (0, (.slice none 0 0)) ⟨rfl, rfl, rfl, rfl, trivial⟩ ⟨(Nat.zero_le _), (by rw [show min 0 16 = 0 from rfl, List.take_zero]; exact QbW _ _ _ _), (Rely.Ext.refl V1), xx1⟩ fun s4 X4 V4 hI4 => ?_
  obtain ⟨i, u⟩ := s4
  obtain ⟨hi, hu, kk4, xx4⟩ := hI4
  replace hi : i ≤ xs.length := hi
  replace hu : OwnN .i64 3 V1.heap.size (xs.take (min i 16)) u V4 := hu
  replace kk4 : Ext V1 V4 := kk4
  replace xx4 : Ext w V4 := xx4
  have e2 := kk4
  refine wp_seq_k fun K68 hK68 => ?_
  refine wp_seq_k fun K69 hK69 => ?_
  refine Qab ?_
  refine Qaa (.int .i64 ((i : Nat) : Int)) 22 rfl kj kj ?_
  refine Qaa (.slice ax xs.length cx) 23 rfl kj kj ?_
  refine Qaa (.int .i64 ((xs.length : Nat) : Int)) 24 rfl kj kj ?_
  refine Qaa (.bool (decide (((i : Nat) : Int) < ((xs.length : Nat) : Int)))) 25 rfl kj kj ?_
  refine Qac ?_
  refine hK69 _ _ ?_
  refine Qa8 (t := decide (((i : Nat) : Int) < ((xs.length : Nat) : Int))) kj (fun c70 => ?_) (fun c70 => ?_)
  ·skip
   have hlt25 : i < xs.length := by have := of_decide_eq_true c70; omega
   refine wp_skip ?_
   refine hK68 _ _ ?_
   refine wp_seq_k fun K71 hK71 => ?_
   refine wp_block ?_
   refine wp_seq_k fun K72 hK72 => ?_
   refine Qab ?_
   refine Qaa (.int .i64 ((i : Nat) : Int)) 28 rfl kj kj ?_
   refine Qaa (.bool (decide (((i : Nat) : Int) < 16))) 29 rfl kj kj ?_
   refine Qac ?_
   refine hK72 _ _ ?_
   refine Qa8 (t := decide (((i : Nat) : Int) < 16)) kj (fun c73 => ?_) (fun c73 => ?_)
   ·skip
    have hi16 : i < 16 := by have := of_decide_eq_true c73; omega
    have f75_2 := (hrx.ext e2)
    obtain ⟨grx74, orx74, harx74, -, hlrx74, hcrx74⟩ := Qb4 f75_2 (by omega)
    refine Qab ?_
    refine Qaa (u) 30 rfl kj kj ?_
    refine Qaa (.slice ax xs.length cx) 31 rfl kj kj ?_
    refine Qaa (.int .i64 ((i : Nat) : Int)) 32 rfl kj kj ?_
    refine Qaa (.pointer (some ⟨grx74, orx74 + i, none⟩)) 33 rfl kj (QaJ 54 _ _ .i64 i grx74 orx74 xs.length cx 3 ax _ harx74 rfl rfl kj kj kj kj (Nat.lt_of_lt_of_eq (show i < (xs).length by omega) (rfl : (xs).length = (xs).length).symm)) ?_
    refine Qaa (.int .i64 (nth (xs) (i))) 34 rfl kj (Qav 3 _ _ (.int .i64 (nth (xs) (i))) (hcrx74 i (Nat.lt_of_lt_of_eq (show i < (xs).length by omega) (rfl : (xs).length = (xs).length).symm)) rfl kj kj) ?_
    refine QaD (ints .i64 ([(nth (xs) (i))])) 3 1 35 rfl kj kj fun g76 W3 l76 e3 r76_3 => ?_
    have x3 : Ext w W3 := Ext.tr xx4 e3
    have b76 : w.heap.size ≤ g76 := Nat.le_trans xx4.size l76
    have f77_3 := (hu.ext e3)
    have y1_3 : Ext V1 W3 := (Rely.Ext.trans e2 e3)
    refine QaE (k := .i64) (T := 3) (xs := xs.take (min i 16)) (ys := [(nth (xs) (i))]) (V := V1) 8 (.tmp 30) (.tmp 35) 54 rfl kj kj (by decide) 36 rfl kj kj kj f77_3 (QaP (xs := [(nth (xs) (i))]) (n := 1) rfl r76_3 (QaA r76_3) (show 1 ≤ maxLen from by decide)) (by rw [List.length_take]; show _ + 1 ≤ _; omega) y1_3 fun y5_ W4 f78 y4 l4 => ?_
    have x4 : Ext w W4 := Ext.low x3 l4 xx1.size
    refine Qaa (y5_) 3 rfl kj kj ?_
    refine Qac ?_
    refine hK71 _ _ ?_
    refine Qab ?_
    refine Qaa (.int .i64 ((i : Nat) : Int)) 26 rfl kj kj ?_
    refine Qaa (.int .i64 ((i + 1 : Nat) : Int)) 27 rfl kj (Qah (u := .int .i64 (IntKind.i64.wrap (((i : Nat) : Int) + 1))) kj (congrArg (Value.int .i64) (i64n _ _ (by omega) (by omega)))) ?_
    refine Qaa (.int .i64 ((i + 1 : Nat) : Int)) 5 rfl kj kj ?_
    refine Qac ?_
    repeat (first | with_reducible refine goX1 ?_ | with_reducible refine goX2 ?_ | with_reducible refine goX3 ?_)
    exact Qaz ((i + 1), y5_) ⟨rfl, rfl, rfl, rfl, trivial⟩ ⟨(show i + 1 ≤ xs.length by omega), (by rw [QgM xs i hi16 hlt25]; exact f78), y4, x4⟩ (by show xs.length - (i + 1) < xs.length - i; omega)
   ·skip
    have hi16 : 16 ≤ i := by have := of_decide_eq_false c73; omega
    refine wp_skip ?_
    refine hK71 _ _ ?_
    refine Qab ?_
    refine Qaa (.int .i64 ((i : Nat) : Int)) 26 rfl kj kj ?_
    refine Qaa (.int .i64 ((i + 1 : Nat) : Int)) 27 rfl kj (Qah (u := .int .i64 (IntKind.i64.wrap (((i : Nat) : Int) + 1))) kj (congrArg (Value.int .i64) (i64n _ _ (by omega) (by omega)))) ?_
    refine Qaa (.int .i64 ((i + 1 : Nat) : Int)) 5 rfl kj kj ?_
    refine Qac ?_
    repeat (first | with_reducible refine goX1 ?_ | with_reducible refine goX2 ?_ | with_reducible refine goX3 ?_)
    exact Qaz ((i + 1), u) ⟨rfl, rfl, rfl, rfl, trivial⟩ ⟨(show i + 1 ≤ xs.length by omega), (by rw [QgN xs i hi16]; exact hu), e2, xx4⟩ (by show xs.length - (i + 1) < xs.length - i; omega)
  ·skip
   have heq25 : i = xs.length := by have := of_decide_eq_false c70; omega
   have hu16 : OwnN .i64 3 V1.heap.size (xs.take 16) u V4 := by have h9 := hu; rw [show min i 16 = 16 by omega] at h9; exact h9
   refine wp_exit ?_
   refine hK66 _ _ ?_
   refine wp_seq_k fun K80 hK80 => ?_
   refine Qab ?_
   have f82_2 := (hrx.ext e2)
   obtain ⟨grx81, orx81, harx81, -, hlrx81, hcrx81⟩ := Qb4 f82_2 (by omega)
   refine Qaa (u) 37 rfl kj kj ?_
   refine Qaa (.slice ax xs.length cx) 38 rfl kj kj ?_
   refine Qaa (.pointer (some ⟨grx81, orx81 + 16, none⟩)) 39 rfl kj (QaJ 54 _ _ .i64 16 grx81 orx81 xs.length cx 3 ax _ harx81 rfl rfl kj kj kj kj (Nat.lt_of_lt_of_eq (show 16 < (xs).length by omega) (rfl : (xs).length = (xs).length).symm)) ?_
   refine Qaa (.int .i64 (nth (xs) (16))) 40 rfl kj (Qav 3 _ _ (.int .i64 (nth (xs) (16))) (hcrx81 16 (Nat.lt_of_lt_of_eq (show 16 < (xs).length by omega) (rfl : (xs).length = (xs).length).symm)) rfl kj kj) ?_
   refine Qaa (.int .i64 (nth xs 16 % 4)) 41 rfl kj (Qah (u := .int .i64 (Int.tmod ((nth (xs) (16))) (4))) kj (congrArg (Value.int .i64) (show Int.tmod (nth xs 16) 4 = nth xs 16 % 4 from Int.tmod_eq_emod_of_nonneg (by have := Qa1 hxb 16; omega)))) ?_
   refine QaD (ints .i64 ([(nth xs 16 % 4)])) 3 1 42 rfl kj kj fun g83 W3 l83 e3 r83_3 => ?_
   have x3 : Ext w W3 := Ext.tr xx4 e3
   have b83 : w.heap.size ≤ g83 := Nat.le_trans xx4.size l83
   have f84_3 := (hu16.ext e3)
   have y1_3 : Ext V1 W3 := (Rely.Ext.trans e2 e3)
   refine QaE (k := .i64) (T := 3) (xs := xs.take 16) (ys := [(nth xs 16 % 4)]) (V := V1) 8 (.tmp 37) (.tmp 42) 54 rfl kj kj (by decide) 43 rfl kj kj kj f84_3 (QaP (xs := [(nth xs 16 % 4)]) (n := 1) rfl r83_3 (QaA r83_3) (show 1 ≤ maxLen from by decide)) (by rw [List.length_take]; show _ + 1 ≤ _; omega) y1_3 fun y6_ W4 f85 y4 l4 => ?_
   have x4 : Ext w W4 := Ext.low x3 l4 xx1.size
   refine Qaa (y6_) 3 rfl kj kj ?_
   refine Qac ?_
   refine hK80 _ _ ?_
   refine wp_seq_k fun K87 hK87 => ?_
   refine wp_seq_k fun K88 hK88 => ?_
   refine Qab ?_
   refine Qaa (.int .i64 16) 6 rfl kj kj ?_
   refine Qac ?_
   refine hK88 _ _ ?_
   refine wp_block ?_
   refine QaH (fun (s5 : Nat × List Int × Value) => [(0, .slice ax xs.length cx), (3, y6_), (4, s5.2.2), (6, .int .i64 ((16 + s5.1 : Nat) : Int))]) (fun (s5 : Nat × List Int × Value) W => (16 + s5.1 ≤ xs.length) ∧ (s5.2.1.length = s5.1) ∧ (Qaj s5.2.1) ∧ (4 * lev s5.2.1 + nth xs 16 % 4 = lev ((xs.drop 16).take s5.1) + nth xs (16 + s5.1) % 4 * p256 s5.1) ∧ (OwnN .i64 3 W4.heap.size s5.2.1 s5.2.2 W) ∧ (Ext W4 W) ∧ (Ext w W)) (fun (s5 : Nat × List Int × Value) => xs.length - (16 + s5.1)) (0, [], (.slice none 0 0)) ⟨rfl, rfl, rfl, rfl, trivial⟩ ⟨(show 16 + 0 ≤ xs.length by omega), rfl, (fun x hx => by cases hx), (by show 4 * 0 + nth xs 16 % 4 = 0 + nth xs 16 % 4 * 1; omega), (QbW _ _ _ _), (Rely.Ext.refl W4), x4⟩ fun s5 X5 V5 hI5 => ?_
   obtain ⟨k, hs, u2⟩ := s5
   obtain ⟨hk, hhl, hhb, hhv, hu2, kk5, xx5⟩ := hI5
   replace hk : 16 + k ≤ xs.length := hk
   replace hhl : hs.length = k := hhl
   replace hhb : Qaj hs := hhb
   replace hhv : 4 * lev hs + nth xs 16 % 4 = lev ((xs.drop 16).take k) + nth xs (16 + k) % 4 * p256 k := hhv
   replace hu2 : OwnN .i64 3 W4.heap.size hs u2 V5 := hu2
   replace kk5 : Ext W4 V5 := kk5
   replace xx5 : Ext w V5 := xx5
   have e5 := kk5
   refine wp_seq_k fun K89 hK89 => ?_
   refine wp_seq_k fun K90 hK90 => ?_
   refine Qab ?_
   refine Qaa (.int .i64 ((16 + k : Nat) : Int)) 44 rfl kj kj ?_
   refine Qaa (.slice ax xs.length cx) 45 rfl kj kj ?_
   refine Qaa (.int .i64 ((xs.length : Nat) : Int)) 46 rfl kj kj ?_
   refine Qaa (.bool (decide (((16 + k : Nat) : Int) < ((xs.length : Nat) : Int)))) 47 rfl kj kj ?_
   refine Qac ?_
   refine hK90 _ _ ?_
   refine Qa8 (t := decide (((16 + k : Nat) : Int) < ((xs.length : Nat) : Int))) kj (fun c91 => ?_) (fun c91 => ?_)
   ·skip
    have hlt47 : 16 + k < xs.length := by have := of_decide_eq_true c91; omega
    have f93_3 := (f82_2.ext e3)
    have f94_4 := (RdK.low f93_3 hrx l4)
    have f95_5 := (f94_4.ext e5)
    obtain ⟨grx92, orx92, harx92, -, hlrx92, hcrx92⟩ := Qb4 f95_5 (by omega)
    have hxk := Qa1 hxb (16 + k)
    have hxk1 := Qa1 hxb (16 + (k + 1))
    have hxk2 := Qa1 hxb ((16 + k) + 1)
    refine wp_skip ?_
    refine hK89 _ _ ?_
    refine wp_seq_k fun K96 hK96 => ?_
    refine wp_block ?_
    refine wp_seq_k fun K97 hK97 => ?_
    refine Qab ?_
    refine Qaa (.slice ax xs.length cx) 50 rfl kj kj ?_
    refine Qaa (.int .i64 ((16 + k : Nat) : Int)) 51 rfl kj kj ?_
    refine Qaa (.pointer (some ⟨grx92, orx92 + (16 + k), none⟩)) 52 rfl kj (QaJ 54 _ _ .i64 (16 + k) grx92 orx92 xs.length cx 3 ax _ harx92 rfl rfl kj kj kj kj (Nat.lt_of_lt_of_eq (show 16 + k < (xs).length by omega) (rfl : (xs).length = (xs).length).symm)) ?_
    refine Qaa (.int .i64 (nth (xs) ((16 + k)))) 53 rfl kj (Qav 3 _ _ (.int .i64 (nth (xs) ((16 + k)))) (hcrx92 (16 + k) (Nat.lt_of_lt_of_eq (show 16 + k < (xs).length by omega) (rfl : (xs).length = (xs).length).symm)) rfl kj kj) ?_
    refine Qaa (.int .i64 (nth xs (16 + k) / 4)) 54 rfl kj (Qah (u := .int .i64 (IntKind.i64.wrap (Int.tdiv ((nth (xs) ((16 + k)))) (4)))) kj (congrArg (Value.int .i64) (by rw [show Int.tdiv (nth xs (16 + k)) 4 = (nth xs (16 + k)) / 4 from Int.tdiv_eq_ediv_of_nonneg (by omega)]; exact IntWalk.i64_in _ (by omega)))) ?_
    refine Qaa (.int .i64 (nth xs (16 + k) / 4)) 7 rfl kj kj ?_
    refine Qac ?_
    refine hK97 _ _ ?_
    refine wp_seq_k fun K98 hK98 => ?_
    refine wp_seq_k fun K99 hK99 => ?_
    refine Qab ?_
    refine Qaa (.int .i64 ((16 + k : Nat) : Int)) 55 rfl kj kj ?_
    refine Qaa (.int .i64 (((16 + k) + 1 : Nat) : Int)) 56 rfl kj (Qah (u := .int .i64 (IntKind.i64.wrap (((16 + k : Nat) : Int) + 1))) kj (congrArg (Value.int .i64) (i64n _ _ (by omega) (by omega)))) ?_
    refine Qaa (.slice ax xs.length cx) 57 rfl kj kj ?_
    refine Qaa (.int .i64 ((xs.length : Nat) : Int)) 58 rfl kj kj ?_
    refine Qaa (.bool (decide ((((16 + k) + 1 : Nat) : Int) < ((xs.length : Nat) : Int)))) 59 rfl kj kj ?_
    refine Qac ?_
    refine hK99 _ _ ?_
    refine Qa8 (t := decide ((((16 + k) + 1 : Nat) : Int) < ((xs.length : Nat) : Int))) kj (fun c100 => ?_) (fun c100 => ?_)
    ·skip
     have hk1 : 16 + (k + 1) < xs.length := by have := of_decide_eq_true c100; omega
     obtain ⟨grx101, orx101, harx101, -, hlrx101, hcrx101⟩ := Qb4 f95_5 (by omega)
     refine Qab ?_
     refine Qaa (.int .i64 (nth xs (16 + k) / 4)) 60 rfl kj kj ?_
     refine Qaa (.slice ax xs.length cx) 61 rfl kj kj ?_
     refine Qaa (.int .i64 ((16 + k : Nat) : Int)) 62 rfl kj kj ?_
     refine Qaa (.int .i64 (((16 + k) + 1 : Nat) : Int)) 63 rfl kj (Qah (u := .int .i64 (IntKind.i64.wrap (((16 + k : Nat) : Int) + 1))) kj (congrArg (Value.int .i64) (i64n _ _ (by omega) (by omega)))) ?_
     refine Qaa (.pointer (some ⟨grx101, orx101 + ((16 + k) + 1), none⟩)) 64 rfl kj (QaJ 54 _ _ .i64 ((16 + k) + 1) grx101 orx101 xs.length cx 3 ax _ harx101 rfl rfl kj kj kj kj (Nat.lt_of_lt_of_eq (show (16 + k) + 1 < (xs).length by omega) (rfl : (xs).length = (xs).length).symm)) ?_
     refine Qaa (.int .i64 (nth (xs) (((16 + k) + 1)))) 65 rfl kj (Qav 3 _ _ (.int .i64 (nth (xs) (((16 + k) + 1)))) (hcrx101 ((16 + k) + 1) (Nat.lt_of_lt_of_eq (show (16 + k) + 1 < (xs).length by omega) (rfl : (xs).length = (xs).length).symm)) rfl kj kj) ?_
     refine Qaa (.int .i64 (nth xs ((16 + k) + 1) % 4)) 66 rfl kj (Qah (u := .int .i64 (Int.tmod ((nth (xs) (((16 + k) + 1)))) (4))) kj (congrArg (Value.int .i64) (show Int.tmod (nth xs ((16 + k) + 1)) 4 = (nth xs ((16 + k) + 1)) % 4 from Int.tmod_eq_emod_of_nonneg (by omega)))) ?_
     refine Qaa (.int .i64 (nth xs ((16 + k) + 1) % 4 * 64)) 67 rfl kj (Qah (u := .int .i64 (IntKind.i64.wrap ((nth xs ((16 + k) + 1) % 4) * 64))) kj (congrArg (Value.int .i64) (IntWalk.i64_in _ (by omega)))) ?_
     refine Qaa (.int .i64 (nth xs (16 + k) / 4 + nth xs ((16 + k) + 1) % 4 * 64)) 68 rfl kj (Qah (u := .int .i64 (IntKind.i64.wrap ((nth xs (16 + k) / 4) + (nth xs ((16 + k) + 1) % 4 * 64)))) kj (congrArg (Value.int .i64) (IntWalk.i64_in _ (by omega)))) ?_
     refine Qaa (.int .i64 (nth xs (16 + k) / 4 + nth xs ((16 + k) + 1) % 4 * 64)) 7 rfl kj kj ?_
     refine Qac ?_
     refine hK98 _ _ ?_
     refine Qab ?_
     refine Qaa (u2) 69 rfl kj kj ?_
     refine Qaa (.int .i64 (nth xs (16 + k) / 4 + nth xs ((16 + k) + 1) % 4 * 64)) 70 rfl kj kj ?_
     refine QaD (ints .i64 ([(nth xs (16 + k) / 4 + nth xs ((16 + k) + 1) % 4 * 64)])) 3 1 71 rfl kj kj fun g102 W6 l102 e6 r102_6 => ?_
     have x6 : Ext w W6 := Ext.tr xx5 e6
     have b102 : w.heap.size ≤ g102 := Nat.le_trans xx5.size l102
     have f103_6 := (hu2.ext e6)
     have y4_6 : Ext W4 W6 := (Rely.Ext.trans e5 e6)
     refine QaE (k := .i64) (T := 3) (xs := hs) (ys := [(nth xs (16 + k) / 4 + nth xs ((16 + k) + 1) % 4 * 64)]) (V := W4) 8 (.tmp 69) (.tmp 71) 54 rfl kj kj (by decide) 72 rfl kj kj kj f103_6 (QaP (xs := [(nth xs (16 + k) / 4 + nth xs ((16 + k) + 1) % 4 * 64)]) (n := 1) rfl r102_6 (QaA r102_6) (show 1 ≤ maxLen from by decide)) (by show hs.length + 1 ≤ _; omega) y4_6 fun y7_ W7 f104 y7 l7 => ?_
     have x7 : Ext w W7 := Ext.low x6 l7 x4.size
     refine Qaa (y7_) 4 rfl kj kj ?_
     refine Qac ?_
     refine hK96 _ _ ?_
     refine Qab ?_
     refine Qaa (.int .i64 ((16 + k : Nat) : Int)) 48 rfl kj kj ?_
     refine Qaa (.int .i64 (((16 + k) + 1 : Nat) : Int)) 49 rfl kj (Qah (u := .int .i64 (IntKind.i64.wrap (((16 + k : Nat) : Int) + 1))) kj (congrArg (Value.int .i64) (i64n _ _ (by omega) (by omega)))) ?_
     refine Qaa (.int .i64 (((16 + k) + 1 : Nat) : Int)) 6 rfl kj kj ?_
     refine Qac ?_
     repeat (first | with_reducible refine goX1 ?_ | with_reducible refine goX2 ?_ | with_reducible refine goX3 ?_)
     exact Qaz ((k + 1), hs ++ [(nth xs (16 + k) / 4 + nth xs ((16 + k) + 1) % 4 * 64)], y7_) ⟨rfl, rfl, rfl, rfl, trivial⟩ ⟨(show 16 + (k + 1) ≤ xs.length by omega), (show (hs ++ [(nth xs (16 + k) / 4 + nth xs ((16 + k) + 1) % 4 * 64)]).length = k + 1 by rw [List.length_append, hhl]; rfl), (show Qaj (hs ++ [(nth xs (16 + k) / 4 + nth xs ((16 + k) + 1) % 4 * 64)]) from Qbc hhb (Qbo (by omega) (by omega))), (QdM (d := (nth xs (16 + k) / 4 + nth xs ((16 + k) + 1) % 4 * 64)) rfl rfl hhl hlt47 (by first | rfl | (rw [hy0]; omega)) hhv), f104, y7, x7⟩ (by show xs.length - (16 + (k + 1)) < xs.length - (16 + k); omega)
    ·skip
     have hk1 : xs.length ≤ 16 + (k + 1) := by have := of_decide_eq_false c100; omega
     have hy0 := Qfd xs _ hk1
     refine wp_skip ?_
     refine hK98 _ _ ?_
     refine Qab ?_
     refine Qaa (u2) 69 rfl kj kj ?_
     refine Qaa (.int .i64 (nth xs (16 + k) / 4)) 70 rfl kj kj ?_
     refine QaD (ints .i64 ([(nth xs (16 + k) / 4)])) 3 1 71 rfl kj kj fun g106 W6 l106 e6 r106_6 => ?_
     have x6 : Ext w W6 := Ext.tr xx5 e6
     have b106 : w.heap.size ≤ g106 := Nat.le_trans xx5.size l106
     have f107_6 := (hu2.ext e6)
     have y4_6 : Ext W4 W6 := (Rely.Ext.trans e5 e6)
     refine QaE (k := .i64) (T := 3) (xs := hs) (ys := [(nth xs (16 + k) / 4)]) (V := W4) 8 (.tmp 69) (.tmp 71) 54 rfl kj kj (by decide) 72 rfl kj kj kj f107_6 (QaP (xs := [(nth xs (16 + k) / 4)]) (n := 1) rfl r106_6 (QaA r106_6) (show 1 ≤ maxLen from by decide)) (by show hs.length + 1 ≤ _; omega) y4_6 fun y8_ W7 f108 y7 l7 => ?_
     have x7 : Ext w W7 := Ext.low x6 l7 x4.size
     refine Qaa (y8_) 4 rfl kj kj ?_
     refine Qac ?_
     refine hK96 _ _ ?_
     refine Qab ?_
     refine Qaa (.int .i64 ((16 + k : Nat) : Int)) 48 rfl kj kj ?_
     refine Qaa (.int .i64 (((16 + k) + 1 : Nat) : Int)) 49 rfl kj (Qah (u := .int .i64 (IntKind.i64.wrap (((16 + k : Nat) : Int) + 1))) kj (congrArg (Value.int .i64) (i64n _ _ (by omega) (by omega)))) ?_
     refine Qaa (.int .i64 (((16 + k) + 1 : Nat) : Int)) 6 rfl kj kj ?_
     refine Qac ?_
     repeat (first | with_reducible refine goX1 ?_ | with_reducible refine goX2 ?_ | with_reducible refine goX3 ?_)
     exact Qaz ((k + 1), hs ++ [(nth xs (16 + k) / 4)], y8_) ⟨rfl, rfl, rfl, rfl, trivial⟩ ⟨(show 16 + (k + 1) ≤ xs.length by omega), (show (hs ++ [(nth xs (16 + k) / 4)]).length = k + 1 by rw [List.length_append, hhl]; rfl), (show Qaj (hs ++ [(nth xs (16 + k) / 4)]) from Qbc hhb (Qbo (by omega) (by omega))), (QdM (d := (nth xs (16 + k) / 4)) rfl rfl hhl hlt47 (by first | rfl | (rw [hy0]; omega)) hhv), f108, y7, x7⟩ (by show xs.length - (16 + (k + 1)) < xs.length - (16 + k); omega)
   ·skip
    have heq47 : 16 + k = xs.length := by have := of_decide_eq_false c91; omega
    have hhe : 4 * lev hs + nth xs 16 % 4 = lev (xs.drop 16) := by
     rw [hhv, List.take_of_length_le (by rw [List.length_drop]; omega), Qfd xs _ (by omega)]; omega
    refine wp_exit ?_
    refine hK87 _ _ ?_
    refine Qab ?_
    have f110_5 := (f85.ext e5)
    obtain ⟨low, elow⟩ : ∃ z, z = xs.take 16 ++ [nth xs 16 % 4] := ⟨_, rfl⟩
    have hlw : OwnN .i64 3 V1.heap.size low y6_ V5 := elow ▸ f110_5
    obtain ⟨al, cl, rfl, -⟩ := id (OwnN.rd hlw)
    have hll : low.length = 17 := by rw [elow, List.length_append, List.length_take]; show min 16 xs.length + 1 = 17; omega
    have hlb : Qaj low := elow ▸ Qbc (Qa3 hxb 16) (Qbo (by have := Qa1 hxb 16; omega) (by omega))
    have hsp := Qe7 h17 elow hhe
    have hlo := QfA hxb h17 elow
    obtain ⟨ah, ch, rfl, -⟩ := id (OwnN.rd hu2)
    refine Qaa (.slice al low.length cl) 73 rfl kj kj ?_
    refine Qaa (.slice ah hs.length ch) 74 rfl kj kj ?_
    refine QaD (ints .i64 ([5])) 3 1 75 rfl kj kj fun g111 W6 l111 e6 r111_6 => ?_
    have x6 : Ext w W6 := Ext.tr xx5 e6
    have b111 : w.heap.size ≤ g111 := Nat.le_trans xx5.size l111
    have f113_6 := (hu2.ext e6)
    refine Qaw (fun v W' => (DigR W6.heap.size (lev hs * lev [5]) (hs.length + 1 + 1)) v W' ∧ Ext W6 W') 30 #[.slice ah hs.length ch, .slice (some ⟨g111, 0, none⟩) 1 1] 76 rfl kj kj ((Qfo hs [5] _ _ _ _ _ (OwnN.rd f113_6) (QaP (xs := [5]) (n := 1) rfl r111_6 (QaA r111_6) (show 1 ≤ maxLen from by decide)) (by omega) (by decide) hhb (Qbo (by decide) (by decide))).mono (by rintro e w' ⟨v, rfl, e1, hv⟩; exact ⟨v, rfl, hv, e1⟩)) fun vv114 W7 hh114 => ?_
    obtain ⟨hv114, e7⟩ := hh114
    have x7 : Ext w W7 := Ext.tr x6 e7
    obtain ⟨zs112, hzb112, hzv112, hzl112, hzo112⟩ := hv114
    obtain ⟨az112, cz112, rfl, -⟩ := id (OwnN.rd hzo112)
    have f116_6 := (hlw.ext e6)
    have f117_7 := (f116_6.ext e7)
    refine Qaw (fun v W' => (DigR W7.heap.size (lev low + lev zs112) (max low.length zs112.length + 1)) v W' ∧ Ext W7 W') 31 #[.slice al low.length cl, .slice az112 zs112.length cz112] 77 rfl kj kj ((Qek low zs112 _ _ _ _ _ (OwnN.rd f117_7) (OwnN.rd hzo112) (by omega) (by omega) hlb hzb112).mono (by rintro e w' ⟨v, rfl, e1, hv⟩; exact ⟨v, rfl, hv, e1⟩)) fun vv118 W8 hh118 => ?_
    obtain ⟨hv118, e8⟩ := hh118
    have x8 : Ext w W8 := Ext.tr x7 e8
    obtain ⟨zs115, hzb115, hzv115, hzl115, hzo115⟩ := hv118
    obtain ⟨az115, cz115, rfl, -⟩ := id (OwnN.rd hzo115)
    refine Qaw (fun v W' => (fun v W => ∃ m, m ≤ zs115.length ∧ v = .slice az115 m cz115 ∧ lev (zs115.take m) = lev zs115 ∧ (m = 0 ∨ nth zs115 (m - 1) ≠ 0)) v W' ∧ Ext W8 W') 29 #[.slice az115 zs115.length cz115] 78 rfl kj kj ((QeZ zs115 _ _ _ _ (OwnN.rd hzo115) (by omega)).mono (by rintro e w' ⟨v, rfl, e1, hv⟩; exact ⟨v, rfl, hv, e1⟩)) fun vv120 W9 hh120 => ?_
    obtain ⟨hv120, e9⟩ := hh120
    have x9 : Ext w W9 := Ext.tr x8 e9
    obtain ⟨m119, hm119, rfl, hv119, ht119⟩ := hv120
    have htl119 : (zs115.take m119).length = m119 := by rw [List.length_take]; omega
    refine Qaa (.slice az115 m119 cz115) 0 rfl kj kj ?_
    refine Qac ?_
    have hnew : lev (zs115.take m119) = lev low + 5 * lev hs := by rw [hv119, hzv115, hzv112]; simp only [lev]; omega
    have hhp := Qbl hhb
    have f121_9 := (hzo115.ext e9)
    have y0_2 : Ext w V4 := (Rely.Ext.trans e1 e2)
    have y0_3 : Ext w W3 := (Rely.Ext.trans y0_2 e3)
    have y0_4 : Ext w W4 := (Ext.low y0_3 l4 e1.size)
    have y0_5 : Ext w V5 := (Rely.Ext.trans y0_4 e5)
    have y0_6 : Ext w W6 := (Rely.Ext.trans y0_5 e6)
    have y0_7 : Ext w W7 := (Rely.Ext.trans y0_6 e7)
    have y0_8 : Ext w W8 := (Rely.Ext.trans y0_7 e8)
    have y0_9 : Ext w W9 := (Rely.Ext.trans y0_8 e9)
    repeat (first | with_reducible refine goX1 ?_ | with_reducible refine goX2 ?_ | with_reducible refine goX3 ?_)
    exact Qaz ((zs115.take m119), (.slice az115 m119 cz115)) ⟨rfl, trivial⟩ ⟨(Qa3 hzb115 m119), (QcI hm119 ht119), (Qf9 (h := lev hs) (by rw [hnew]; omega) hxm), (by show (zs115.take m119).length ≤ _; rw [List.length_take]; omega), (RdK.here (QbI (OwnN.rd f121_9) m119 hm119)), y0_9, x9⟩ (by show (lev (zs115.take m119)).toNat < (lev xs).toNat; omega)
 ·skip
  obtain ⟨grx122, orx122, harx122, -, hlrx122, hcrx122⟩ := Qb4 hrx (by omega)
  have h17 : 17 ≤ xs.length := by omega
  have hend := QfB hxb (.inr hq)
  refine Qab ?_
  refine Qaa (.slice ax xs.length cx) 8 rfl kj kj ?_
  refine Qaa (.int .i64 ((xs.length : Nat) : Int)) 9 rfl kj kj ?_
  refine Qaa (.bool false) 10 rfl kj (Qah (u := .bool (decide (((xs.length : Nat) : Int) > 17))) kj (congrArg Value.bool (decide_eq_false (by omega)))) ?_
  refine Qaa (.bool false) 11 rfl kj kj ?_
  refine Qaa (.slice ax xs.length cx) 12 rfl kj kj ?_
  refine Qaa (.int .i64 ((xs.length : Nat) : Int)) 13 rfl kj kj ?_
  refine Qaa (.bool true) 14 rfl kj (Qah (u := .bool ((((xs.length : Nat) : Int) == 17))) kj (congrArg Value.bool (by rw [hq.1]; rfl))) ?_
  refine Qaa (.bool true) 15 rfl kj kj ?_
  refine Qaa (.slice ax xs.length cx) 16 rfl kj kj ?_
  refine Qaa (.pointer (some ⟨grx122, orx122 + 16, none⟩)) 17 rfl kj (QaJ 54 _ _ .i64 16 grx122 orx122 xs.length cx 3 ax _ harx122 rfl rfl kj kj kj kj (Nat.lt_of_lt_of_eq (show 16 < (xs).length by omega) (rfl : (xs).length = (xs).length).symm)) ?_
  refine Qaa (.int .i64 (nth (xs) (16))) 18 rfl kj (Qav 3 _ _ (.int .i64 (nth (xs) (16))) (hcrx122 16 (Nat.lt_of_lt_of_eq (show 16 < (xs).length by omega) (rfl : (xs).length = (xs).length).symm)) rfl kj kj) ?_
  refine Qaa (.bool false) 19 rfl kj (Qah (u := .bool (decide ((nth (xs) (16)) > 3))) kj (congrArg Value.bool (decide_eq_false (by omega)))) ?_
  refine Qaa (.bool false) 20 rfl kj kj ?_
  refine Qaa (.bool false) 21 rfl kj kj ?_
  refine Qac ?_
  refine hK4 _ _ ?_
  refine cond_false kj ?_
  refine wp_exit ?_
  refine hK2 _ _ ?_
  refine wp_seq_k fun K123 hK123 => ?_
  refine Qab ?_
  refine Qaa (.slice ax xs.length cx) 79 rfl kj kj ?_
  refine Qaa (.slice ax xs.length cx) 2 rfl kj kj ?_
  refine Qac ?_
  refine hK123 _ _ ?_
  refine wp_ret ?_
  repeat (first | with_reducible refine goR1 ?_ | with_reducible refine goR2 ?_)
  exact (show bodyPost _ _ _ .ret _ _ from ret1 (.slice ax xs.length cx) rfl (QaC kj) ⟨_, rfl, xx1, xs, hxb, hxm, hend, (by omega), RdK.here hrx⟩)
 ·skip
  have hend := QfB hxb (.inl hq)
  refine Qab ?_
  refine Qaa (.slice ax xs.length cx) 8 rfl kj kj ?_
  refine Qaa (.int .i64 ((xs.length : Nat) : Int)) 9 rfl kj kj ?_
  refine Qaa (.bool false) 10 rfl kj (Qah (u := .bool (decide (((xs.length : Nat) : Int) > 17))) kj (congrArg Value.bool (decide_eq_false (by omega)))) ?_
  refine Qaa (.bool false) 11 rfl kj kj ?_
  refine Qaa (.slice ax xs.length cx) 12 rfl kj kj ?_
  refine Qaa (.int .i64 ((xs.length : Nat) : Int)) 13 rfl kj kj ?_
  refine Qaa (.bool false) 14 rfl kj (Qah (u := .bool ((((xs.length : Nat) : Int) == 17))) kj (congrArg Value.bool (beq_eq_false_iff_ne.2 (by omega)))) ?_
  refine Qaa (.bool false) 15 rfl kj kj ?_
  refine Qas 16 rfl kj ?_
  refine Qas 17 rfl kj ?_
  refine Qas 18 rfl kj ?_
  refine Qas 19 rfl kj ?_
  refine Qaa (.bool false) 20 rfl kj kj ?_
  refine Qaa (.bool false) 21 rfl kj kj ?_
  refine Qac ?_
  refine hK4 _ _ ?_
  refine cond_false kj ?_
  refine wp_exit ?_
  refine hK2 _ _ ?_
  refine wp_seq_k fun K124 hK124 => ?_
  refine Qab ?_
  refine Qaa (.slice ax xs.length cx) 79 rfl kj kj ?_
  refine Qaa (.slice ax xs.length cx) 2 rfl kj kj ?_
  refine Qac ?_
  refine hK124 _ _ ?_
  refine wp_ret ?_
  repeat (first | with_reducible refine goR1 ?_ | with_reducible refine goR2 ?_)
  exact (show bodyPost _ _ _ .ret _ _ from ret1 (.slice ax xs.length cx) rfl (QaC kj) ⟨_, rfl, xx1, xs, hxb, hxm, hend, (by omega), RdK.here hrx⟩)
end Go.Proofs.YtjldjdlhllgakaaDoor.Ae
end
section
namespace Go.Proofs.YtjldjdlhllgakaaDoor.Ae
open Go Go.RowKit
open Rely Auto Own Sha
set_option linter.unusedVariables false
set_option linter.unusedSimpArgs false
open Sha Cha
theorem QeY {P : Program} {ρ : Operand → Value} {o : Oper} {w : World} (t : TypeId) (x y z : Operand) (l h : Nat) (e : TypeId) (ho : o.op = .slice t x (some y) (some z) none) {a : Option Addr} {len cap : Nat} (hx : ρ x = .slice a len cap)
    (hu : P.underlying t = some (.slice e)) (hs : (P.info? e).map (·.size) = some 1) (ky kz : IntKind) (hy : ρ y = .int ky (l : Int)) (hz : ρ z = .int kz (h : Int)) (h1 : l ≤ h) (h2 : h ≤ cap) :
    (execOp ρ o).run P w = .ok (.value (.slice (Qcp a cap l) (h - l) (cap - l))) w := by
  cases hq : P.info? e with
  | none => simp [hq] at hs
  | some i =>
    have hs' : i.size = 1 := by simpa [hq] using hs
    unfold execOp Qcp
    have hadd : ∀ a : Option Addr, Option.map (fun x => x.add 0) a = a := fun a => by
      cases a with
      | none => rfl
      | some a => obtain ⟨b, o, s⟩ := a; cases s <;> simp [Addr.add]
    by_cases hc : cap = l
    · have h3 : h = l := by omega
      subst h3
      simp [ho, hx, hy, hz, Instr.sliceAt, Instr.slice, Instr.sliceBounds, run_sliceBound, run_underlying hu, sizeOf, typeInfo, hq, hs', hadd, hc]
    · simp [ho, hx, hy, hz, Instr.sliceAt, Instr.slice, Instr.sliceBounds, run_sliceBound, run_underlying hu, sizeOf, typeInfo, hq, hs', h1, h2, hadd, hc]
theorem QdV {k : IntKind} {T : TypeId} {g n l h : Nat} {xs : List Int} {W : World} (hn : xs.length = n) (r : W.heap[g]? = some (.cells (ints k xs) T)) (h1 : l ≤ h) (h2 : h ≤ n) (h3 : n ≤ maxLen) : RdK k W.heap.size ((xs.drop l).take (h - l)) (.slice (some ⟨g, l, none⟩) (h - l) (n - l)) W :=
  Qfr l (by rw [List.length_take, List.length_drop]; omega) r (fun i hi => by rw [Qd0 _ _ _ hi, QdI]; exact Qa7 k xs (l + i) (by omega)) (QaA r) (by omega) (by omega)
def QdP (b : List Int) : List Int :=
  let b1 := b.set 3 (nth b 3 % 16)
  let b2 := b1.set 7 (nth b1 7 % 16)
  let b3 := b2.set 11 (nth b2 11 % 16)
  let b4 := b3.set 15 (nth b3 15 % 16)
  let b5 := b4.set 4 (nth b4 4 / 4 * 4)
  let b6 := b5.set 8 (nth b5 8 / 4 * 4)
  b6.set 12 (nth b6 12 / 4 * 4)
def rOf (key : List Int) : Int := lev (QdP ((key.drop 0).take (16 - 0)))
def sOf (key : List Int) : Int := lev ((key.drop 16).take (32 - 16))
theorem Qdv {x c r q y : Int} (h : x % PP = q) (hy : y % PP = (x + c) * r % PP) : y % PP = (q + c) * r % PP := by
  rw [hy, ← h, Int.mul_emod (x + c), Int.add_emod x c, Int.mul_emod (x % PP + c), Int.add_emod (x % PP) c, Int.emod_emod_of_dvd x (Int.dvd_refl PP)]
theorem Qkj {xs zs : List Int} (hx : lev xs < 1361129467683753853853498429727072845824) (hb : Qaj zs) (hv : lev zs = lev xs + lev [5]) (h17 : 17 ≤ zs.length) (h4 : 4 ≤ nth zs 16) : lev (zs.set 16 (nth zs 16 % 4)) = lev xs % PP := by
  have h1 := QcV zs 16 hb
  rw [p16] at h1
  have h2 : lev [5] = 5 := rfl
  rw [h2] at hv
  have h3 := Qbl hb
  have h6 : nth zs 16 = 4 := by omega
  have h7 : 1361129467683753853853498429727072845819 ≤ lev xs := by omega
  rw [Qgs zs 16 _ (by omega), p16, h6]
  unfold PP
  omega
theorem Qjk {xs zs : List Int} (hx0 : 0 ≤ lev xs) (hb : Qaj zs) (hv : lev zs = lev xs + lev [5]) (hlt : lev xs < 1361129467683753853853498429727072845824) (h : zs.length < 17 ∨ nth zs 16 < 4) : lev xs = lev xs % PP := by
  have h2 : lev [5] = 5 := rfl
  rw [h2] at hv
  have h1 := QcV zs 16 hb
  rw [p16] at h1
  have h5 : zs.length < 17 → nth zs 16 = 0 := fun h => Qfd zs 16 (by omega)
  unfold PP
  rcases h with h | h
  · have := h5 h; omega
  · omega
theorem QcY {zs : List Int} (hb : Qaj zs) {i : Nat} (hi : i ≤ 16) (h : i = 16 ∨ zs.length ≤ i) : Qbs (by16 (lev zs)) 16 i = by16 (lev zs) := by
  apply Qgn
  · rw [Qb9 _ 16 _ (Qa4 _) hi, Qa4]
  · intro j hj
    rw [Qb9 _ 16 _ (Qa4 _) hi] at hj
    unfold Qbs
    rcases Nat.lt_or_ge j i with hji | hji
    · have e : nth ((by16 (lev zs)).take i ++ List.replicate (16 - i) 0) j = nth ((by16 (lev zs)).take i) j := by
        unfold nth; rw [List.getD_eq_getElem?_getD, List.getD_eq_getElem?_getD, List.getElem?_append_left (by rw [List.length_take, Qa4]; omega)]
      rw [e, Qd0 _ _ _ hji]
    · rcases h with h | h
      · omega
      · rw [Qfy _ _ hj, ← QcV zs j hb, Qfd zs j (by omega)]
        unfold nth
        rw [List.getD_eq_getElem?_getD, List.getElem?_append_right (by rw [List.length_take, Qa4]; omega), List.getElem?_replicate]
        split <;> rfl
theorem QeM {zs : List Int} (hb : Qaj zs) {i : Nat} (hi : i < 16) : IntKind.u8.wrap (nth zs i) = nth (by16 (lev zs)) i := by
  have h := Qa1 hb i
  have h3 : ∀ z : Int, IntKind.u8.wrap z = z % 256 := fun _ => rfl
  rw [Qfy _ _ hi, ← QcV zs i hb, h3]
  omega
theorem QhH (t : List Int) (n e : Nat) (h : e = 16 * n + 16 ∨ (e = t.length ∧ t.length < 16 * n + 16)) : (t.drop (16 * n)).take (e - 16 * n) = (t.drop (16 * n)).take 16 := by
  rcases h with h | ⟨h, h2⟩
  · rw [h, show 16 * n + 16 - 16 * n = 16 by omega]
  · rw [List.take_of_length_le (by rw [List.length_drop]; omega), List.take_of_length_le (by rw [List.length_drop]; omega)]
set_option maxRecDepth 100000 in
set_option maxHeartbeats 4000000 in
theorem Qkb (key text : List Int) (v : Value) (B : Nat) (w : World) (hkl : key.length = 32) (hkb : Qaj key) (htb : Qaj text) (ht : RdK .u8 B text v w) (hl : text.length ≤ 3000000) :
  Calls Tryd.prog 12 #[.agg (ints .u8 key), v] w (Ret w (.agg (ints .u8 (tagV (rOf key) (sOf key) text)))) := by
 obtain ⟨a_t, c_t, rfl, -⟩ := id ht
 have hcap : text.length ≤ c_t := by
  obtain ⟨_, _, e, q2, _⟩ := id ht
  simp only [Value.slice.injEq] at e
  obtain ⟨-, -, rfl⟩ := e
  exact q2
 refine enter 113 [(0, .agg (ints .u8 (key))), (1, .slice a_t text.length c_t)] Tryd.func12 rfl rfl kj rfl ?_
 refine wp_seq_k fun K1 hK1 => ?_
 refine Qab ?_
 refine Qar (ints .u8 (key)) 23 2 rfl kj kj fun g2 W1 l2 e1 r2_1 => ?_
 have x1 : Ext w W1 := Ext.tr (Rely.Ext.refl w) e1
 have b2 : w.heap.size ≤ g2 := Nat.le_trans (Rely.Ext.refl w).size l2
 refine Qar (ints .u8 (List.replicate 16 0)) 27 4 rfl kj kj fun g3 W2 l3 e2 r3_2 => ?_
 have x2 : Ext w W2 := Ext.tr x1 e2
 have b3 : w.heap.size ≤ g3 := Nat.le_trans x1.size l3
 refine Qac ?_
 refine hK1 _ _ ?_
 refine wp_seq_k fun K4 hK4 => ?_
 refine Qab ?_
 refine Qaa (.slice (some ⟨g2, 0 + 0, none⟩) (16 - 0) (32 - 0)) 16 rfl kj (Qbd 23 _ _ _ 0 16 32 g2 0 5 rfl kj kj kj rfl ⟨.i64, by kernel_rfl⟩ (by omega) (by omega) (by omega)) ?_
 have r2_2 := (Qad r2_1 e2)
 refine Qaw (fun v W' => (OwnN .i64 3 W2.heap.size ((key.drop 0).take (16 - 0))) v W' ∧ Ext W2 W') 27 #[.slice (some ⟨g2, 0 + 0, none⟩) (16 - 0) (32 - 0)] 17 rfl kj kj ((Qdz ((key.drop 0).take (16 - 0)) _ _ _ (QdV (l := 0) (h := 16) hkl r2_2 (by decide) (by decide) (by decide)) (by rw [List.length_take]; omega) (Qa3 (QaN hkb 0) _)).mono (by rintro e w' ⟨v, rfl, e1, hv⟩; exact ⟨v, rfl, hv, e1⟩)) fun vv6 W3 hh6 => ?_
 obtain ⟨hv6, e3⟩ := hh6
 have x3 : Ext w W3 := Ext.tr x2 e3
 obtain ⟨an5, cn5, hvn5, -⟩ := id (OwnN.rd hv6)
 subst hvn5
 refine Qaa (.slice an5 (((key.drop 0).take (16 - 0)).length) cn5) 5 rfl kj kj ?_
 obtain ⟨r0, er0⟩ : ∃ z, z = (key.drop 0).take (16 - 0) := ⟨_, rfl⟩
 have hr0 : r0.length = 16 := by rw [er0, List.length_take, List.length_drop, hkl]; rfl
 have hr0b : Qaj r0 := er0 ▸ Qa3 (QaN hkb 0) _
 have hor : OwnN .i64 3 W2.heap.size r0 (.slice an5 (((key.drop 0).take (16 - 0)).length) cn5) W3 := er0 ▸ hv6
 obtain ⟨gr, cr, rr_, evr, lr, rowr, hcr⟩ := QdF hor hr0 (by decide)
 rw [evr]
 refine Qac ?_
 refine hK4 _ _ ?_
 refine wp_seq_k fun K8 hK8 => ?_
 refine wp_seq_k fun K9 hK9 => ?_
 refine Qab ?_
 refine Qaa (.int .i64 3) 6 rfl kj kj ?_
 refine Qac ?_
 refine hK9 _ _ ?_
 refine wp_block ?_
 refine wp_loop_rounds 5 ?_
 show Code.wp _ _ (Exit.then (Code.rounds _ _ _ 4) _) _ _
 refine wp_seq_k fun K10 hK10 => ?_
 refine wp_seq_k fun K11 hK11 => ?_
 refine Qab ?_
 refine Qaa (.int .i64 3) 18 rfl kj kj ?_
 refine Qaa (.bool true) 19 rfl kj kj ?_
 refine Qac ?_
 refine hK11 _ _ ?_
 refine cond_true kj ?_
 refine wp_skip ?_
 refine hK10 _ _ ?_
 refine wp_seq_k fun K12 hK12 => ?_
 refine wp_block ?_
 have hxr0 := Qa1 hr0b 3
 refine Qab ?_
 refine Qaa (.slice (some ⟨gr, 0, none⟩) 16 cr) 22 rfl kj kj ?_
 refine Qaa (.int .i64 3) 23 rfl kj kj ?_
 refine Qaa (.slice (some ⟨gr, 0, none⟩) 16 cr) 24 rfl kj kj ?_
 refine Qaa (.int .i64 3) 25 rfl kj kj ?_
 refine Qaa (.pointer (some ⟨gr, 3, none⟩)) 26 rfl kj (Qaq 54 _ _ .i64 (3) gr 16 cr 3 rfl kj kj kj kj (by decide)) ?_
 refine Qaa (.int .i64 (nth (r0) 3)) 27 rfl kj (Qae 3 _ gr 3 3 _ (.int .i64 (nth (r0) 3)) _ rowr rfl kj (Qba (Nat.lt_of_lt_of_eq (by decide) hr0.symm)) kj) ?_
 refine Qaa (.int .i64 (nth r0 3 % 16)) 28 rfl kj (Qah (u := .int .i64 (Int.tmod ((nth (r0) 3)) (16))) kj (congrArg (Value.int .i64) (show Int.tmod (nth r0 3) 16 = nth r0 3 % 16 from Int.tmod_eq_emod_of_nonneg (by omega)))) ?_
 refine Qaa (.pointer (some ⟨gr, 3, none⟩)) 29 rfl kj (Qaq 54 _ _ .i64 (3) gr 16 cr 3 rfl kj kj kj kj (by decide)) ?_
 refine Qal gr _ (ints .i64 ((r0).set 3 (nth r0 3 % 16)) ++ rr_) 3 rowr rfl kj (Qb0 3 _ _ gr 3 3 _ _ _ rowr rfl kj kj kj (Nat.lt_of_lt_of_eq (by decide) hr0.symm)) fun W4 p4 r7_4 => ?_
 have x4 : Ext w W4 := Puts.ext p4 x3 (Nat.le_trans x2.size lr)
 obtain ⟨r1, er1⟩ : ∃ z, z = (r0).set 3 (nth r0 3 % 16) := ⟨_, rfl⟩
 have hr1 : r1.length = 16 := by rw [er1, List.length_set, hr0]
 have hbr1 := Qa1 hr0b 3
 have hr1b : Qaj r1 := er1 ▸ Qbg hr0b _ (by omega) (by omega)
 have r7_4_13 : W4.heap[gr]? = some (.cells (ints .i64 (r1) ++ rr_) 3) := Qbq r7_4 (by rw [er1])
 refine Qac ?_
 refine hK12 _ _ ?_
 refine Qab ?_
 refine Qaa (.int .i64 3) 20 rfl kj kj ?_
 refine Qaa (.int .i64 7) 21 rfl kj kj ?_
 refine Qaa (.int .i64 7) 6 rfl kj kj ?_
 refine Qac ?_
 show Code.rounds _ _ _ 4 _ _
 show Code.wp _ _ (Exit.then (Code.rounds _ _ _ 3) _) _ _
 refine wp_seq_k fun K14 hK14 => ?_
 refine wp_seq_k fun K15 hK15 => ?_
 refine Qab ?_
 refine Qaa (.int .i64 7) 18 rfl kj kj ?_
 refine Qaa (.bool true) 19 rfl kj kj ?_
 refine Qac ?_
 refine hK15 _ _ ?_
 refine cond_true kj ?_
 refine wp_skip ?_
 refine hK14 _ _ ?_
 refine wp_seq_k fun K16 hK16 => ?_
 refine wp_block ?_
 have hxr1 := Qa1 hr1b 7
 refine Qab ?_
 refine Qaa (.slice (some ⟨gr, 0, none⟩) 16 cr) 22 rfl kj kj ?_
 refine Qaa (.int .i64 7) 23 rfl kj kj ?_
 refine Qaa (.slice (some ⟨gr, 0, none⟩) 16 cr) 24 rfl kj kj ?_
 refine Qaa (.int .i64 7) 25 rfl kj kj ?_
 refine Qaa (.pointer (some ⟨gr, 7, none⟩)) 26 rfl kj (Qaq 54 _ _ .i64 (7) gr 16 cr 3 rfl kj kj kj kj (by decide)) ?_
 refine Qaa (.int .i64 (nth (r1) 7)) 27 rfl kj (Qae 3 _ gr 7 3 _ (.int .i64 (nth (r1) 7)) _ r7_4_13 rfl kj (Qba (Nat.lt_of_lt_of_eq (by decide) hr1.symm)) kj) ?_
 refine Qaa (.int .i64 (nth r1 7 % 16)) 28 rfl kj (Qah (u := .int .i64 (Int.tmod ((nth (r1) 7)) (16))) kj (congrArg (Value.int .i64) (show Int.tmod (nth r1 7) 16 = nth r1 7 % 16 from Int.tmod_eq_emod_of_nonneg (by omega)))) ?_
 refine Qaa (.pointer (some ⟨gr, 7, none⟩)) 29 rfl kj (Qaq 54 _ _ .i64 (7) gr 16 cr 3 rfl kj kj kj kj (by decide)) ?_
 refine Qal gr _ (ints .i64 ((r1).set 7 (nth r1 7 % 16)) ++ rr_) 3 r7_4_13 rfl kj (Qb0 3 _ _ gr 7 3 _ _ _ r7_4_13 rfl kj kj kj (Nat.lt_of_lt_of_eq (by decide) hr1.symm)) fun W5 p5 r7_5 => ?_
 have x5 : Ext w W5 := Puts.ext p5 x4 (Nat.le_trans x2.size lr)
 obtain ⟨r2, er2⟩ : ∃ z, z = (r1).set 7 (nth r1 7 % 16) := ⟨_, rfl⟩
 have hr2 : r2.length = 16 := by rw [er2, List.length_set, hr1]
 have hbr2 := Qa1 hr1b 7
 have hr2b : Qaj r2 := er2 ▸ Qbg hr1b _ (by omega) (by omega)
 have r7_5_17 : W5.heap[gr]? = some (.cells (ints .i64 (r2) ++ rr_) 3) := Qbq r7_5 (by rw [er2])
 refine Qac ?_
 refine hK16 _ _ ?_
 refine Qab ?_
 refine Qaa (.int .i64 7) 20 rfl kj kj ?_
 refine Qaa (.int .i64 11) 21 rfl kj kj ?_
 refine Qaa (.int .i64 11) 6 rfl kj kj ?_
 refine Qac ?_
 show Code.rounds _ _ _ 3 _ _
 show Code.wp _ _ (Exit.then (Code.rounds _ _ _ 2) _) _ _
 refine wp_seq_k fun K18 hK18 => ?_
 refine wp_seq_k fun K19 hK19 => ?_
 refine Qab ?_
 refine Qaa (.int .i64 11) 18 rfl kj kj ?_
 refine Qaa (.bool true) 19 rfl kj kj ?_
 refine Qac ?_
 refine hK19 _ _ ?_
 refine cond_true kj ?_
 refine wp_skip ?_
 refine hK18 _ _ ?_
 refine wp_seq_k fun K20 hK20 => ?_
 refine wp_block ?_
 have hxr2 := Qa1 hr2b 11
 refine Qab ?_
 refine Qaa (.slice (some ⟨gr, 0, none⟩) 16 cr) 22 rfl kj kj ?_
 refine Qaa (.int .i64 11) 23 rfl kj kj ?_
 refine Qaa (.slice (some ⟨gr, 0, none⟩) 16 cr) 24 rfl kj kj ?_
 refine Qaa (.int .i64 11) 25 rfl kj kj ?_
 refine Qaa (.pointer (some ⟨gr, 11, none⟩)) 26 rfl kj (Qaq 54 _ _ .i64 (11) gr 16 cr 3 rfl kj kj kj kj (by decide)) ?_
 refine Qaa (.int .i64 (nth (r2) 11)) 27 rfl kj (Qae 3 _ gr 11 3 _ (.int .i64 (nth (r2) 11)) _ r7_5_17 rfl kj (Qba (Nat.lt_of_lt_of_eq (by decide) hr2.symm)) kj) ?_
 refine Qaa (.int .i64 (nth r2 11 % 16)) 28 rfl kj (Qah (u := .int .i64 (Int.tmod ((nth (r2) 11)) (16))) kj (congrArg (Value.int .i64) (show Int.tmod (nth r2 11) 16 = nth r2 11 % 16 from Int.tmod_eq_emod_of_nonneg (by omega)))) ?_
 refine Qaa (.pointer (some ⟨gr, 11, none⟩)) 29 rfl kj (Qaq 54 _ _ .i64 (11) gr 16 cr 3 rfl kj kj kj kj (by decide)) ?_
 refine Qal gr _ (ints .i64 ((r2).set 11 (nth r2 11 % 16)) ++ rr_) 3 r7_5_17 rfl kj (Qb0 3 _ _ gr 11 3 _ _ _ r7_5_17 rfl kj kj kj (Nat.lt_of_lt_of_eq (by decide) hr2.symm)) fun W6 p6 r7_6 => ?_
 have x6 : Ext w W6 := Puts.ext p6 x5 (Nat.le_trans x2.size lr)
 obtain ⟨r3, er3⟩ : ∃ z, z = (r2).set 11 (nth r2 11 % 16) := ⟨_, rfl⟩
 have hr3 : r3.length = 16 := by rw [er3, List.length_set, hr2]
 have hbr3 := Qa1 hr2b 11
 have hr3b : Qaj r3 := er3 ▸ Qbg hr2b _ (by omega) (by omega)
 have r7_6_21 : W6.heap[gr]? = some (.cells (ints .i64 (r3) ++ rr_) 3) := Qbq r7_6 (by rw [er3])
 refine Qac ?_
 refine hK20 _ _ ?_
 refine Qab ?_
 refine Qaa (.int .i64 11) 20 rfl kj kj ?_
 refine Qaa (.int .i64 15) 21 rfl kj kj ?_
 refine Qaa (.int .i64 15) 6 rfl kj kj ?_
 refine Qac ?_
 show Code.rounds _ _ _ 2 _ _
 show Code.wp _ _ (Exit.then (Code.rounds _ _ _ 1) _) _ _
 refine wp_seq_k fun K22 hK22 => ?_
 refine wp_seq_k fun K23 hK23 => ?_
 refine Qab ?_
 refine Qaa (.int .i64 15) 18 rfl kj kj ?_
 refine Qaa (.bool true) 19 rfl kj kj ?_
 refine Qac ?_
 refine hK23 _ _ ?_
 refine cond_true kj ?_
 refine wp_skip ?_
 refine hK22 _ _ ?_
 refine wp_seq_k fun K24 hK24 => ?_
 refine wp_block ?_
 have hxr3 := Qa1 hr3b 15
 refine Qab ?_
 refine Qaa (.slice (some ⟨gr, 0, none⟩) 16 cr) 22 rfl kj kj ?_
 refine Qaa (.int .i64 15) 23 rfl kj kj ?_
 refine Qaa (.slice (some ⟨gr, 0, none⟩) 16 cr) 24 rfl kj kj ?_
 refine Qaa (.int .i64 15) 25 rfl kj kj ?_
 refine Qaa (.pointer (some ⟨gr, 15, none⟩)) 26 rfl kj (Qaq 54 _ _ .i64 (15) gr 16 cr 3 rfl kj kj kj kj (by decide)) ?_
 refine Qaa (.int .i64 (nth (r3) 15)) 27 rfl kj (Qae 3 _ gr 15 3 _ (.int .i64 (nth (r3) 15)) _ r7_6_21 rfl kj (Qba (Nat.lt_of_lt_of_eq (by decide) hr3.symm)) kj) ?_
 refine Qaa (.int .i64 (nth r3 15 % 16)) 28 rfl kj (Qah (u := .int .i64 (Int.tmod ((nth (r3) 15)) (16))) kj (congrArg (Value.int .i64) (show Int.tmod (nth r3 15) 16 = nth r3 15 % 16 from Int.tmod_eq_emod_of_nonneg (by omega)))) ?_
 refine Qaa (.pointer (some ⟨gr, 15, none⟩)) 29 rfl kj (Qaq 54 _ _ .i64 (15) gr 16 cr 3 rfl kj kj kj kj (by decide)) ?_
 refine Qal gr _ (ints .i64 ((r3).set 15 (nth r3 15 % 16)) ++ rr_) 3 r7_6_21 rfl kj (Qb0 3 _ _ gr 15 3 _ _ _ r7_6_21 rfl kj kj kj (Nat.lt_of_lt_of_eq (by decide) hr3.symm)) fun W7 p7 r7_7 => ?_
 have x7 : Ext w W7 := Puts.ext p7 x6 (Nat.le_trans x2.size lr)
 obtain ⟨r4, er4⟩ : ∃ z, z = (r3).set 15 (nth r3 15 % 16) := ⟨_, rfl⟩
 have hr4 : r4.length = 16 := by rw [er4, List.length_set, hr3]
 have hbr4 := Qa1 hr3b 15
 have hr4b : Qaj r4 := er4 ▸ Qbg hr3b _ (by omega) (by omega)
 have r7_7_25 : W7.heap[gr]? = some (.cells (ints .i64 (r4) ++ rr_) 3) := Qbq r7_7 (by rw [er4])
 refine Qac ?_
 refine hK24 _ _ ?_
 refine Qab ?_
 refine Qaa (.int .i64 15) 20 rfl kj kj ?_
 refine Qaa (.int .i64 19) 21 rfl kj kj ?_
 refine Qaa (.int .i64 19) 6 rfl kj kj ?_
 refine Qac ?_
 show Code.rounds _ _ _ 1 _ _
 show Code.wp _ _ (Exit.then (Code.rounds _ _ _ 0) _) _ _
 refine wp_seq_k fun K26 hK26 => ?_
 refine wp_seq_k fun K27 hK27 => ?_
 refine Qab ?_
 refine Qaa (.int .i64 19) 18 rfl kj kj ?_
 refine Qaa (.bool false) 19 rfl kj kj ?_
 refine Qac ?_
 refine hK27 _ _ ?_
 refine cond_false kj ?_
 refine wp_exit ?_
 refine hK8 _ _ ?_
 refine wp_seq_k fun K28 hK28 => ?_
 refine wp_seq_k fun K29 hK29 => ?_
 refine Qab ?_
 refine Qaa (.int .i64 4) 7 rfl kj kj ?_
 refine Qac ?_
 refine hK29 _ _ ?_
 refine wp_block ?_
 refine wp_loop_rounds 4 ?_
 show Code.wp _ _ (Exit.then (Code.rounds _ _ _ 3) _) _ _
 refine wp_seq_k fun K30 hK30 => ?_
 refine wp_seq_k fun K31 hK31 => ?_
 refine Qab ?_
 refine Qaa (.int .i64 4) 30 rfl kj kj ?_
 refine Qaa (.bool true) 31 rfl kj kj ?_
 refine Qac ?_
 refine hK31 _ _ ?_
 refine cond_true kj ?_
 refine wp_skip ?_
 refine hK30 _ _ ?_
 refine wp_seq_k fun K32 hK32 => ?_
 refine wp_block ?_
 have hxr4 := Qa1 hr4b 4
 refine Qab ?_
 refine Qaa (.slice (some ⟨gr, 0, none⟩) 16 cr) 34 rfl kj kj ?_
 refine Qaa (.int .i64 4) 35 rfl kj kj ?_
 refine Qaa (.slice (some ⟨gr, 0, none⟩) 16 cr) 36 rfl kj kj ?_
 refine Qaa (.int .i64 4) 37 rfl kj kj ?_
 refine Qaa (.pointer (some ⟨gr, 4, none⟩)) 38 rfl kj (Qaq 54 _ _ .i64 (4) gr 16 cr 3 rfl kj kj kj kj (by decide)) ?_
 refine Qaa (.int .i64 (nth (r4) 4)) 39 rfl kj (Qae 3 _ gr 4 3 _ (.int .i64 (nth (r4) 4)) _ r7_7_25 rfl kj (Qba (Nat.lt_of_lt_of_eq (by decide) hr4.symm)) kj) ?_
 refine Qaa (.int .i64 (nth r4 4 / 4)) 40 rfl kj (Qah (u := .int .i64 (IntKind.i64.wrap (Int.tdiv ((nth (r4) 4)) (4)))) kj (congrArg (Value.int .i64) (by rw [show Int.tdiv (nth r4 4) 4 = nth r4 4 / 4 from Int.tdiv_eq_ediv_of_nonneg (by omega)]; exact IntWalk.i64_in _ (by omega)))) ?_
 refine Qaa (.int .i64 (nth r4 4 / 4 * 4)) 41 rfl kj (Qah (u := .int .i64 (IntKind.i64.wrap ((nth r4 4 / 4) * 4))) kj (congrArg (Value.int .i64) (IntWalk.i64_in _ (by omega)))) ?_
 refine Qaa (.pointer (some ⟨gr, 4, none⟩)) 42 rfl kj (Qaq 54 _ _ .i64 (4) gr 16 cr 3 rfl kj kj kj kj (by decide)) ?_
 refine Qal gr _ (ints .i64 ((r4).set 4 (nth r4 4 / 4 * 4)) ++ rr_) 3 r7_7_25 rfl kj (Qb0 3 _ _ gr 4 3 _ _ _ r7_7_25 rfl kj kj kj (Nat.lt_of_lt_of_eq (by decide) hr4.symm)) fun W8 p8 r7_8 => ?_
 have x8 : Ext w W8 := Puts.ext p8 x7 (Nat.le_trans x2.size lr)
 obtain ⟨r5, er5⟩ : ∃ z, z = (r4).set 4 (nth r4 4 / 4 * 4) := ⟨_, rfl⟩
 have hr5 : r5.length = 16 := by rw [er5, List.length_set, hr4]
 have hbr5 := Qa1 hr4b 4
 have hr5b : Qaj r5 := er5 ▸ Qbg hr4b _ (by omega) (by omega)
 have r7_8_33 : W8.heap[gr]? = some (.cells (ints .i64 (r5) ++ rr_) 3) := Qbq r7_8 (by rw [er5])
 refine Qac ?_
 refine hK32 _ _ ?_
 refine Qab ?_
 refine Qaa (.int .i64 4) 32 rfl kj kj ?_
 refine Qaa (.int .i64 8) 33 rfl kj kj ?_
 refine Qaa (.int .i64 8) 7 rfl kj kj ?_
 refine Qac ?_
 show Code.rounds _ _ _ 3 _ _
 show Code.wp _ _ (Exit.then (Code.rounds _ _ _ 2) _) _ _
 refine wp_seq_k fun K34 hK34 => ?_
 refine wp_seq_k fun K35 hK35 => ?_
 refine Qab ?_
 refine Qaa (.int .i64 8) 30 rfl kj kj ?_
 refine Qaa (.bool true) 31 rfl kj kj ?_
 refine Qac ?_
 refine hK35 _ _ ?_
 refine cond_true kj ?_
 refine wp_skip ?_
 refine hK34 _ _ ?_
 refine wp_seq_k fun K36 hK36 => ?_
 refine wp_block ?_
 have hxr5 := Qa1 hr5b 8
 refine Qab ?_
 refine Qaa (.slice (some ⟨gr, 0, none⟩) 16 cr) 34 rfl kj kj ?_
 refine Qaa (.int .i64 8) 35 rfl kj kj ?_
 refine Qaa (.slice (some ⟨gr, 0, none⟩) 16 cr) 36 rfl kj kj ?_
 refine Qaa (.int .i64 8) 37 rfl kj kj ?_
 refine Qaa (.pointer (some ⟨gr, 8, none⟩)) 38 rfl kj (Qaq 54 _ _ .i64 (8) gr 16 cr 3 rfl kj kj kj kj (by decide)) ?_
 refine Qaa (.int .i64 (nth (r5) 8)) 39 rfl kj (Qae 3 _ gr 8 3 _ (.int .i64 (nth (r5) 8)) _ r7_8_33 rfl kj (Qba (Nat.lt_of_lt_of_eq (by decide) hr5.symm)) kj) ?_
 refine Qaa (.int .i64 (nth r5 8 / 4)) 40 rfl kj (Qah (u := .int .i64 (IntKind.i64.wrap (Int.tdiv ((nth (r5) 8)) (4)))) kj (congrArg (Value.int .i64) (by rw [show Int.tdiv (nth r5 8) 4 = nth r5 8 / 4 from Int.tdiv_eq_ediv_of_nonneg (by omega)]; exact IntWalk.i64_in _ (by omega)))) ?_
 refine Qaa (.int .i64 (nth r5 8 / 4 * 4)) 41 rfl kj (Qah (u := .int .i64 (IntKind.i64.wrap ((nth r5 8 / 4) * 4))) kj (congrArg (Value.int .i64) (IntWalk.i64_in _ (by omega)))) ?_
 refine Qaa (.pointer (some ⟨gr, 8, none⟩)) 42 rfl kj (Qaq 54 _ _ .i64 (8) gr 16 cr 3 rfl kj kj kj kj (by decide)) ?_
 refine Qal gr _ (ints .i64 ((r5).set 8 (nth r5 8 / 4 * 4)) ++ rr_) 3 r7_8_33 rfl kj (Qb0 3 _ _ gr 8 3 _ _ _ r7_8_33 rfl kj kj kj (Nat.lt_of_lt_of_eq (by decide) hr5.symm)) fun W9 p9 r7_9 => ?_
 have x9 : Ext w W9 := Puts.ext p9 x8 (Nat.le_trans x2.size lr)
 obtain ⟨r6, er6⟩ : ∃ z, z = (r5).set 8 (nth r5 8 / 4 * 4) := ⟨_, rfl⟩
 have hr6 : r6.length = 16 := by rw [er6, List.length_set, hr5]
 have hbr6 := Qa1 hr5b 8
 have hr6b : Qaj r6 := er6 ▸ Qbg hr5b _ (by omega) (by omega)
 have r7_9_37 : W9.heap[gr]? = some (.cells (ints .i64 (r6) ++ rr_) 3) := Qbq r7_9 (by rw [er6])
 refine Qac ?_
 refine hK36 _ _ ?_
 refine Qab ?_
 refine Qaa (.int .i64 8) 32 rfl kj kj ?_
 refine Qaa (.int .i64 12) 33 rfl kj kj ?_
 refine Qaa (.int .i64 12) 7 rfl kj kj ?_
 refine Qac ?_
 show Code.rounds _ _ _ 2 _ _
 show Code.wp _ _ (Exit.then (Code.rounds _ _ _ 1) _) _ _
 refine wp_seq_k fun K38 hK38 => ?_
 refine wp_seq_k fun K39 hK39 => ?_
 refine Qab ?_
 refine Qaa (.int .i64 12) 30 rfl kj kj ?_
 refine Qaa (.bool true) 31 rfl kj kj ?_
 refine Qac ?_
 refine hK39 _ _ ?_
 refine cond_true kj ?_
 refine wp_skip ?_
 refine hK38 _ _ ?_
 refine wp_seq_k fun K40 hK40 => ?_
 refine wp_block ?_
 have hxr6 := Qa1 hr6b 12
 refine Qab ?_
 refine Qaa (.slice (some ⟨gr, 0, none⟩) 16 cr) 34 rfl kj kj ?_
 refine Qaa (.int .i64 12) 35 rfl kj kj ?_
 refine Qaa (.slice (some ⟨gr, 0, none⟩) 16 cr) 36 rfl kj kj ?_
 refine Qaa (.int .i64 12) 37 rfl kj kj ?_
 refine Qaa (.pointer (some ⟨gr, 12, none⟩)) 38 rfl kj (Qaq 54 _ _ .i64 (12) gr 16 cr 3 rfl kj kj kj kj (by decide)) ?_
 refine Qaa (.int .i64 (nth (r6) 12)) 39 rfl kj (Qae 3 _ gr 12 3 _ (.int .i64 (nth (r6) 12)) _ r7_9_37 rfl kj (Qba (Nat.lt_of_lt_of_eq (by decide) hr6.symm)) kj) ?_
 refine Qaa (.int .i64 (nth r6 12 / 4)) 40 rfl kj (Qah (u := .int .i64 (IntKind.i64.wrap (Int.tdiv ((nth (r6) 12)) (4)))) kj (congrArg (Value.int .i64) (by rw [show Int.tdiv (nth r6 12) 4 = nth r6 12 / 4 from Int.tdiv_eq_ediv_of_nonneg (by omega)]; exact IntWalk.i64_in _ (by omega)))) ?_
 refine Qaa (.int .i64 (nth r6 12 / 4 * 4)) 41 rfl kj (Qah (u := .int .i64 (IntKind.i64.wrap ((nth r6 12 / 4) * 4))) kj (congrArg (Value.int .i64) (IntWalk.i64_in _ (by omega)))) ?_
 refine Qaa (.pointer (some ⟨gr, 12, none⟩)) 42 rfl kj (Qaq 54 _ _ .i64 (12) gr 16 cr 3 rfl kj kj kj kj (by decide)) ?_
 refine Qal gr _ (ints .i64 ((r6).set 12 (nth r6 12 / 4 * 4)) ++ rr_) 3 r7_9_37 rfl kj (Qb0 3 _ _ gr 12 3 _ _ _ r7_9_37 rfl kj kj kj (Nat.lt_of_lt_of_eq (by decide) hr6.symm)) fun W10 p10 r7_10 => ?_
 have x10 : Ext w W10 := Puts.ext p10 x9 (Nat.le_trans x2.size lr)
 obtain ⟨r7, er7⟩ : ∃ z, z = (r6).set 12 (nth r6 12 / 4 * 4) := ⟨_, rfl⟩
 have hr7 : r7.length = 16 := by rw [er7, List.length_set, hr6]
 have hbr7 := Qa1 hr6b 12
 have hr7b : Qaj r7 := er7 ▸ Qbg hr6b _ (by omega) (by omega)
 have r7_10_41 : W10.heap[gr]? = some (.cells (ints .i64 (r7) ++ rr_) 3) := Qbq r7_10 (by rw [er7])
 refine Qac ?_
 refine hK40 _ _ ?_
 refine Qab ?_
 refine Qaa (.int .i64 12) 32 rfl kj kj ?_
 refine Qaa (.int .i64 16) 33 rfl kj kj ?_
 refine Qaa (.int .i64 16) 7 rfl kj kj ?_
 refine Qac ?_
 show Code.rounds _ _ _ 1 _ _
 show Code.wp _ _ (Exit.then (Code.rounds _ _ _ 0) _) _ _
 refine wp_seq_k fun K42 hK42 => ?_
 refine wp_seq_k fun K43 hK43 => ?_
 refine Qab ?_
 refine Qaa (.int .i64 16) 30 rfl kj kj ?_
 refine Qaa (.bool false) 31 rfl kj kj ?_
 refine Qac ?_
 refine hK43 _ _ ?_
 refine cond_false kj ?_
 refine wp_exit ?_
 refine hK28 _ _ ?_
 refine wp_seq_k fun K44 hK44 => ?_
 refine Qab ?_
 refine Qaa (.slice none 0 0) 8 rfl kj kj ?_
 refine Qac ?_
 refine hK44 _ _ ?_
 refine wp_seq_k fun K45 hK45 => ?_
 refine wp_seq_k fun K46 hK46 => ?_
 refine Qab ?_
 refine Qaa (.int .i64 0) 9 rfl kj kj ?_
 refine Qac ?_
 refine hK46 _ _ ?_
 refine wp_block ?_
 obtain ⟨rl, erl⟩ : ∃ z, z = r7 := ⟨_, rfl⟩
 have hrl : rl.length = 16 := erl ▸ hr7
 have hrlb : Qaj rl := erl ▸ hr7b
 have hrOf : lev rl = rOf key := by unfold rOf QdP; rw [← er0, erl, er7, er6, er5, er4, er3, er2, er1]
 have r7_10_47 : W10.heap[gr]? = some (.cells (ints .i64 (rl) ++ rr_) 3) := Qbq r7_10_41 (by rw [erl])
 refine QaH (fun (s1 : Nat × List Int × Value) => [(1, .slice a_t text.length c_t), (2, .pointer (some ⟨g2, 0, none⟩)), (4, .pointer (some ⟨g3, 0, none⟩)), (5, .slice (some ⟨gr, 0, none⟩) 16 cr), (8, s1.2.2), (9, .int .i64 ((16 * s1.1 : Nat) : Int))]) (fun (s1 : Nat × List Int × Value) W => (Qaj s1.2.1) ∧ (lev s1.2.1 % PP = QcA (rOf key) text s1.1) ∧ (lev s1.2.1 < 1361129467683753853853498429727072845824) ∧ (s1.2.1.length ≤ 17) ∧ (16 * s1.1 < text.length + 16) ∧ (RdK .i64 W.heap.size s1.2.1 s1.2.2 W) ∧ (Ext W10 W) ∧ (Ext w W)) (fun (s1 : Nat × List Int × Value) => text.length + 16 - 16 * s1.1) (0, [], (.slice none 0 0)) ⟨rfl, rfl, rfl, rfl, rfl, rfl, trivial⟩ ⟨(fun x hx => by cases hx), (by show (0 : Int) % PP = 0; rfl), (by show (0 : Int) < _; decide), (Nat.zero_le _), (show 16 * 0 < text.length + 16 by omega), (OwnN.rd (QbW .i64 0 0 _)), (Rely.Ext.refl W10), x10⟩ fun s1 X1 V1 hI1 => ?_
 obtain ⟨n, xs, v⟩ := s1
 obtain ⟨hsb, hsm, hslt, hsl, hn, hrs, kk1, xx1⟩ := hI1
 replace hsb : Qaj xs := hsb
 replace hsm : lev xs % PP = QcA (rOf key) text n := hsm
 replace hslt : lev xs < 1361129467683753853853498429727072845824 := hslt
 replace hsl : xs.length ≤ 17 := hsl
 replace hn : 16 * n < text.length + 16 := hn
 replace hrs : RdK .i64 V1.heap.size xs v V1 := hrs
 replace kk1 : Ext W10 V1 := kk1
 replace xx1 : Ext w V1 := xx1
 have e11 := kk1
 obtain ⟨ax, cx, rfl, -⟩ := id hrs
 refine wp_seq_k fun K48 hK48 => ?_
 refine wp_seq_k fun K49 hK49 => ?_
 refine Qab ?_
 refine Qaa (.int .i64 ((16 * n : Nat) : Int)) 43 rfl kj kj ?_
 refine Qaa (.slice a_t text.length c_t) 44 rfl kj kj ?_
 refine Qaa (.int .i64 ((text.length : Nat) : Int)) 45 rfl kj kj ?_
 refine Qaa (.bool (decide (((16 * n : Nat) : Int) < ((text.length : Nat) : Int)))) 46 rfl kj kj ?_
 refine Qac ?_
 refine hK49 _ _ ?_
 refine Qa8 (t := decide (((16 * n : Nat) : Int) < ((text.length : Nat) : Int))) kj (fun c50 => ?_) (fun c50 => ?_)
 ·skip
  have hlt46 : 16 * n < text.length := by have := of_decide_eq_true c50; omega
  refine wp_skip ?_
  refine hK48 _ _ ?_
  refine wp_seq_k fun K51 hK51 => ?_
  refine wp_block ?_
  refine wp_seq_k fun K52 hK52 => ?_
  refine Qab ?_
  refine Qaa (.int .i64 ((16 * n : Nat) : Int)) 49 rfl kj kj ?_
  refine Qaa (.int .i64 (((16 * n) + 16 : Nat) : Int)) 50 rfl kj (Qah (u := .int .i64 (IntKind.i64.wrap (((16 * n : Nat) : Int) + 16))) kj (congrArg (Value.int .i64) (i64n _ _ (by omega) (by omega)))) ?_
  refine Qaa (.int .i64 (((16 * n) + 16 : Nat) : Int)) 10 rfl kj kj ?_
  refine Qac ?_
  refine hK52 _ _ ?_
  refine wp_seq_k fun K53 hK53 => ?_
  refine wp_seq_k fun K54 hK54 => ?_
  refine Qab ?_
  refine Qaa (.int .i64 (((16 * n) + 16 : Nat) : Int)) 51 rfl kj kj ?_
  refine Qaa (.slice a_t text.length c_t) 52 rfl kj kj ?_
  refine Qaa (.int .i64 ((text.length : Nat) : Int)) 53 rfl kj kj ?_
  refine Qaa (.bool (decide ((((16 * n) + 16 : Nat) : Int) > ((text.length : Nat) : Int)))) 54 rfl kj kj ?_
  refine Qac ?_
  refine hK54 _ _ ?_
  refine Qa8 (t := decide ((((16 * n) + 16 : Nat) : Int) > ((text.length : Nat) : Int))) kj (fun c55 => ?_) (fun c55 => ?_)
  ·skip
   have hpe : text.length < 16 * n + 16 := by have := of_decide_eq_true c55; omega
   have hpart := QhH text n text.length (.inr ⟨rfl, hpe⟩)
   refine Qab ?_
   refine Qaa (.slice a_t text.length c_t) 55 rfl kj kj ?_
   refine Qaa (.int .i64 ((text.length : Nat) : Int)) 56 rfl kj kj ?_
   refine Qaa (.int .i64 ((text.length : Nat) : Int)) 10 rfl kj kj ?_
   refine Qac ?_
   refine hK53 _ _ ?_
   refine wp_seq_k fun K56 hK56 => ?_
   refine Qab ?_
   refine Qaa (.slice a_t text.length c_t) 57 rfl kj kj ?_
   refine Qaa (.int .i64 ((16 * n : Nat) : Int)) 58 rfl kj kj ?_
   refine Qaa (.int .i64 ((text.length : Nat) : Int)) 59 rfl kj kj ?_
   refine Qaa (.slice (Qcp a_t c_t (16 * n)) (text.length - 16 * n) (c_t - 16 * n)) 60 rfl kj (QeY (len := text.length) 24 _ _ _ (16 * n) (text.length) 5 rfl kj kj kj .i64 .i64 kj kj (by omega) (by omega)) ?_
   refine Qaw (fun v W' => (OwnN .i64 3 V1.heap.size ((text.drop (16 * n)).take (text.length - (16 * n)))) v W' ∧ Ext V1 W') 27 #[.slice (Qcp a_t c_t (16 * n)) (text.length - 16 * n) (c_t - 16 * n)] 61 rfl kj kj ((Qdz ((text.drop (16 * n)).take (text.length - (16 * n))) _ _ _ (QbI (QcM (RdK.ext ht xx1) (16 * n) (by omega)) (text.length - (16 * n)) (by rw [List.length_drop]; omega)) (by rw [List.length_take]; omega) (Qa3 (QaN htb _) _)).mono (by rintro e w' ⟨v, rfl, e1, hv⟩; exact ⟨v, rfl, hv, e1⟩)) fun vv58 W12 hh58 => ?_
   obtain ⟨hv58, e12⟩ := hh58
   have x12 : Ext w W12 := Ext.tr xx1 e12
   obtain ⟨an57, cn57, hvn57, -⟩ := id (OwnN.rd hv58)
   subst hvn57
   refine QaD (ints .i64 ([1])) 3 1 62 rfl kj kj fun g59 W13 l59 e13 r59_13 => ?_
   have x13 : Ext w W13 := Ext.tr x12 e13
   have b59 : w.heap.size ≤ g59 := Nat.le_trans x12.size l59
   have f60_13 := (hv58.ext e13)
   have y11_12 : Ext V1 W12 := (Rely.Ext.trans (Rely.Ext.refl V1) e12)
   have y11_13 : Ext V1 W13 := (Rely.Ext.trans y11_12 e13)
   refine QaE (k := .i64) (T := 3) (xs := (text.drop (16 * n)).take (text.length - (16 * n))) (ys := [1]) (V := V1) 8 (.tmp 61) (.tmp 62) 54 rfl kj kj (by decide) 63 rfl kj kj kj f60_13 (QaP (xs := [1]) (n := 1) rfl r59_13 (QaA r59_13) (show 1 ≤ maxLen from by decide)) (by rw [List.length_take]; show _ + 1 ≤ _; omega) y11_13 fun y1_ W14 f61 y14 l14 => ?_
   have x14 : Ext w W14 := Ext.low x13 l14 xx1.size
   obtain ⟨pc, epc⟩ : ∃ z : List Int, z = (text.drop (16 * n)).take (text.length - (16 * n)) ++ [1] := ⟨_, rfl⟩
   have hpcb : Qaj pc := epc ▸ Qbc (Qa3 (QaN htb _) _) (Qbo (by decide) (by decide))
   have hpcl : pc.length ≤ 17 := by rw [epc, List.length_append, List.length_take]; show _ + 1 ≤ 17; omega
   have hap63 : OwnN .i64 3 V1.heap.size pc y1_ W14 := epc ▸ f61
   obtain ⟨ap63, cp63, hvp63, -⟩ := id (OwnN.rd hap63)
   subst hvp63
   refine Qaa (.slice ap63 pc.length cp63) 11 rfl kj kj ?_
   refine Qac ?_
   refine hK56 _ _ ?_
   refine Qab ?_
   refine Qaa (.slice ax xs.length cx) 64 rfl kj kj ?_
   refine Qaa (.slice ap63 pc.length cp63) 65 rfl kj kj ?_
   have f65_12 := (hrs.ext e12)
   have f66_13 := (f65_12.ext e13)
   have f67_14 := (RdK.low f66_13 hrs l14)
   refine Qaw (fun v W' => (DigR W14.heap.size (lev (xs) + lev (pc)) (max (xs).length (pc).length + 1)) v W' ∧ Ext W14 W') 31 #[.slice ax xs.length cx, .slice ap63 pc.length cp63] 66 rfl kj kj ((Qek (xs) (pc) _ _ _ _ _ f67_14 (OwnN.rd hap63) (by first | omega | (rw [List.length_take]; omega)) (by first | omega | (rw [List.length_take]; omega)) hsb hpcb).mono (by rintro e w' ⟨v, rfl, e1, hv⟩; exact ⟨v, rfl, hv, e1⟩)) fun vv68 W15 hh68 => ?_
   obtain ⟨hv68, e15⟩ := hh68
   have x15 : Ext w W15 := Ext.tr x14 e15
   obtain ⟨zs64, hzb64, hzv64, hzl64, hzo64⟩ := hv68
   obtain ⟨az64, cz64, rfl, -⟩ := id (OwnN.rd hzo64)
   refine Qaw (fun v W' => (fun v W => ∃ m, m ≤ zs64.length ∧ v = .slice az64 m cz64 ∧ lev (zs64.take m) = lev zs64 ∧ (m = 0 ∨ nth zs64 (m - 1) ≠ 0)) v W' ∧ Ext W15 W') 29 #[.slice az64 zs64.length cz64] 67 rfl kj kj ((QeZ zs64 _ _ _ _ (OwnN.rd hzo64) (by omega)).mono (by rintro e w' ⟨v, rfl, e1, hv⟩; exact ⟨v, rfl, hv, e1⟩)) fun vv70 W16 hh70 => ?_
   obtain ⟨hv70, e16⟩ := hh70
   have x16 : Ext w W16 := Ext.tr x15 e16
   obtain ⟨m69, hm69, rfl, hv69, ht69⟩ := hv70
   have htl69 : (zs64.take m69).length = m69 := by rw [List.length_take]; omega
   refine Qaa (.slice (some ⟨gr, 0, none⟩) 16 cr) 68 rfl kj kj ?_
   have f72_16 := (hzo64.ext e16)
   have r7_11 := (Qad r7_10_47 e11)
   have r7_12 := (Qad r7_11 e12)
   have r7_13 := (Qad r7_12 e13)
   have r7_14 := (Qb2 l14 r7_13 (QaA r7_11))
   have r7_15 := (Qad r7_14 e15)
   have r7_16 := (Qad r7_15 e16)
   refine Qaw (fun v W' => (DigR W16.heap.size (lev (zs64.take m69) * lev rl) ((zs64.take m69).length + rl.length + 1)) v W' ∧ Ext W16 W') 30 #[.slice az64 m69 cz64, .slice (some ⟨gr, 0, none⟩) 16 cr] 69 rfl kj kj ((Qfo (zs64.take m69) rl _ _ _ _ _ (QbI (OwnN.rd f72_16) m69 hm69) (Qfs hrl r7_16 hcr) (by first | omega | (rw [List.length_take]; omega)) (by omega) (Qa3 hzb64 m69) hrlb).mono (by rintro e w' ⟨v, rfl, e1, hv⟩; exact ⟨v, rfl, hv, e1⟩)) fun vv73 W17 hh73 => ?_
   obtain ⟨hv73, e17⟩ := hh73
   have x17 : Ext w W17 := Ext.tr x16 e17
   obtain ⟨zs71, hzb71, hzv71, hzl71, hzo71⟩ := hv73
   obtain ⟨az71, cz71, rfl, -⟩ := id (OwnN.rd hzo71)
   refine Qaw (fun v W' => (fun v W => ∃ m, m ≤ zs71.length ∧ v = .slice az71 m cz71 ∧ lev (zs71.take m) = lev zs71 ∧ (m = 0 ∨ nth zs71 (m - 1) ≠ 0)) v W' ∧ Ext W17 W') 29 #[.slice az71 zs71.length cz71] 70 rfl kj kj ((QeZ zs71 _ _ _ _ (OwnN.rd hzo71) (by omega)).mono (by rintro e w' ⟨v, rfl, e1, hv⟩; exact ⟨v, rfl, hv, e1⟩)) fun vv75 W18 hh75 => ?_
   obtain ⟨hv75, e18⟩ := hh75
   have x18 : Ext w W18 := Ext.tr x17 e18
   obtain ⟨m74, hm74, rfl, hv74, ht74⟩ := hv75
   have htl74 : (zs71.take m74).length = m74 := by rw [List.length_take]; omega
   have f77_18 := (hzo71.ext e18)
   refine Qaw (fun v W' => (fun v W => ∃ zs : List Int, Qaj zs ∧ lev zs % PP = lev (zs71.take m74) % PP ∧ lev zs < 1361129467683753853853498429727072845824 ∧ zs.length ≤ 17 ∧ RdK .i64 W.heap.size zs v W) v W' ∧ Ext W18 W') 28 #[.slice az71 m74 cz71] 71 rfl kj kj ((QhC (zs71.take m74) _ _ _ (QbI (OwnN.rd f77_18) m74 hm74) (by rw [List.length_take]; omega) (Qa3 hzb71 m74) (QcI hm74 ht74)).mono (by rintro e w' ⟨v, rfl, e1, hv⟩; exact ⟨v, rfl, hv, e1⟩)) fun vv78 W19 hh78 => ?_
   obtain ⟨hv78, e19⟩ := hh78
   have x19 : Ext w W19 := Ext.tr x18 e19
   obtain ⟨xs2, hsb2, hsm2, hslt2, hsl2, hrs2⟩ := hv78
   refine Qaa (vv78) 8 rfl kj kj ?_
   refine Qac ?_
   refine hK51 _ _ ?_
   refine Qab ?_
   refine Qaa (.int .i64 ((16 * n : Nat) : Int)) 47 rfl kj kj ?_
   refine Qaa (.int .i64 (((16 * n) + 16 : Nat) : Int)) 48 rfl kj (Qah (u := .int .i64 (IntKind.i64.wrap (((16 * n : Nat) : Int) + 16))) kj (congrArg (Value.int .i64) (i64n _ _ (by omega) (by omega)))) ?_
   refine Qaa (.int .i64 (((16 * n) + 16 : Nat) : Int)) 9 rfl kj kj ?_
   refine Qac ?_
   have hstep : lev xs2 % PP = QcA (rOf key) text (n + 1) := by
    unfold QcA
    refine Qdv hsm ?_
    rw [hsm2]
    congr 1
    rw [hv74, hzv71, hv69, hzv64, hrOf, epc, hpart]
   have y10_12 : Ext W10 W12 := (Rely.Ext.trans e11 e12)
   have y10_13 : Ext W10 W13 := (Rely.Ext.trans y10_12 e13)
   have y10_14 : Ext W10 W14 := (Ext.low y10_13 l14 e11.size)
   have y10_15 : Ext W10 W15 := (Rely.Ext.trans y10_14 e15)
   have y10_16 : Ext W10 W16 := (Rely.Ext.trans y10_15 e16)
   have y10_17 : Ext W10 W17 := (Rely.Ext.trans y10_16 e17)
   have y10_18 : Ext W10 W18 := (Rely.Ext.trans y10_17 e18)
   have y10_19 : Ext W10 W19 := (Rely.Ext.trans y10_18 e19)
   repeat (first | with_reducible refine goX1 ?_ | with_reducible refine goX2 ?_ | with_reducible refine goX3 ?_)
   exact Qaz ((n + 1), xs2, vv78) ⟨rfl, rfl, rfl, rfl, rfl, rfl, trivial⟩ ⟨hsb2, hstep, hslt2, hsl2, (show 16 * (n + 1) < text.length + 16 by omega), (RdK.here (RdK.ext hrs2 (Rely.Ext.refl W19))), y10_19, x19⟩ (by show text.length + 16 - 16 * (n + 1) < text.length + 16 - 16 * n; omega)
  ·skip
   have hpe : 16 * n + 16 ≤ text.length := by have := of_decide_eq_false c55; omega
   have hpart := QhH text n (16 * n + 16) (.inl rfl)
   refine wp_skip ?_
   refine hK53 _ _ ?_
   refine wp_seq_k fun K79 hK79 => ?_
   refine Qab ?_
   refine Qaa (.slice a_t text.length c_t) 57 rfl kj kj ?_
   refine Qaa (.int .i64 ((16 * n : Nat) : Int)) 58 rfl kj kj ?_
   refine Qaa (.int .i64 (((16 * n) + 16 : Nat) : Int)) 59 rfl kj kj ?_
   refine Qaa (.slice (Qcp a_t c_t (16 * n)) ((16 * n) + 16 - 16 * n) (c_t - 16 * n)) 60 rfl kj (QeY (len := text.length) 24 _ _ _ (16 * n) ((16 * n) + 16) 5 rfl kj kj kj .i64 .i64 kj kj (by omega) (by omega)) ?_
   refine Qaw (fun v W' => (OwnN .i64 3 V1.heap.size ((text.drop (16 * n)).take (((16 * n) + 16) - (16 * n)))) v W' ∧ Ext V1 W') 27 #[.slice (Qcp a_t c_t (16 * n)) ((16 * n) + 16 - 16 * n) (c_t - 16 * n)] 61 rfl kj kj ((Qdz ((text.drop (16 * n)).take (((16 * n) + 16) - (16 * n))) _ _ _ (QbI (QcM (RdK.ext ht xx1) (16 * n) (by omega)) (((16 * n) + 16) - (16 * n)) (by rw [List.length_drop]; omega)) (by rw [List.length_take]; omega) (Qa3 (QaN htb _) _)).mono (by rintro e w' ⟨v, rfl, e1, hv⟩; exact ⟨v, rfl, hv, e1⟩)) fun vv81 W12 hh81 => ?_
   obtain ⟨hv81, e12⟩ := hh81
   have x12 : Ext w W12 := Ext.tr xx1 e12
   obtain ⟨an80, cn80, hvn80, -⟩ := id (OwnN.rd hv81)
   subst hvn80
   refine QaD (ints .i64 ([1])) 3 1 62 rfl kj kj fun g82 W13 l82 e13 r82_13 => ?_
   have x13 : Ext w W13 := Ext.tr x12 e13
   have b82 : w.heap.size ≤ g82 := Nat.le_trans x12.size l82
   have f83_13 := (hv81.ext e13)
   have y11_12 : Ext V1 W12 := (Rely.Ext.trans (Rely.Ext.refl V1) e12)
   have y11_13 : Ext V1 W13 := (Rely.Ext.trans y11_12 e13)
   refine QaE (k := .i64) (T := 3) (xs := (text.drop (16 * n)).take (((16 * n) + 16) - (16 * n))) (ys := [1]) (V := V1) 8 (.tmp 61) (.tmp 62) 54 rfl kj kj (by decide) 63 rfl kj kj kj f83_13 (QaP (xs := [1]) (n := 1) rfl r82_13 (QaA r82_13) (show 1 ≤ maxLen from by decide)) (by rw [List.length_take]; show _ + 1 ≤ _; omega) y11_13 fun y2_ W14 f84 y14 l14 => ?_
   have x14 : Ext w W14 := Ext.low x13 l14 xx1.size
   obtain ⟨pc, epc⟩ : ∃ z : List Int, z = (text.drop (16 * n)).take (((16 * n) + 16) - (16 * n)) ++ [1] := ⟨_, rfl⟩
   have hpcb : Qaj pc := epc ▸ Qbc (Qa3 (QaN htb _) _) (Qbo (by decide) (by decide))
   have hpcl : pc.length ≤ 17 := by rw [epc, List.length_append, List.length_take]; show _ + 1 ≤ 17; omega
   have hap86 : OwnN .i64 3 V1.heap.size pc y2_ W14 := epc ▸ f84
   obtain ⟨ap86, cp86, hvp86, -⟩ := id (OwnN.rd hap86)
   subst hvp86
   refine Qaa (.slice ap86 pc.length cp86) 11 rfl kj kj ?_
   refine Qac ?_
   refine hK79 _ _ ?_
   refine Qab ?_
   refine Qaa (.slice ax xs.length cx) 64 rfl kj kj ?_
   refine Qaa (.slice ap86 pc.length cp86) 65 rfl kj kj ?_
   have f88_12 := (hrs.ext e12)
   have f89_13 := (f88_12.ext e13)
   have f90_14 := (RdK.low f89_13 hrs l14)
   refine Qaw (fun v W' => (DigR W14.heap.size (lev (xs) + lev (pc)) (max (xs).length (pc).length + 1)) v W' ∧ Ext W14 W') 31 #[.slice ax xs.length cx, .slice ap86 pc.length cp86] 66 rfl kj kj ((Qek (xs) (pc) _ _ _ _ _ f90_14 (OwnN.rd hap86) (by first | omega | (rw [List.length_take]; omega)) (by first | omega | (rw [List.length_take]; omega)) hsb hpcb).mono (by rintro e w' ⟨v, rfl, e1, hv⟩; exact ⟨v, rfl, hv, e1⟩)) fun vv91 W15 hh91 => ?_
   obtain ⟨hv91, e15⟩ := hh91
   have x15 : Ext w W15 := Ext.tr x14 e15
   obtain ⟨zs87, hzb87, hzv87, hzl87, hzo87⟩ := hv91
   obtain ⟨az87, cz87, rfl, -⟩ := id (OwnN.rd hzo87)
   refine Qaw (fun v W' => (fun v W => ∃ m, m ≤ zs87.length ∧ v = .slice az87 m cz87 ∧ lev (zs87.take m) = lev zs87 ∧ (m = 0 ∨ nth zs87 (m - 1) ≠ 0)) v W' ∧ Ext W15 W') 29 #[.slice az87 zs87.length cz87] 67 rfl kj kj ((QeZ zs87 _ _ _ _ (OwnN.rd hzo87) (by omega)).mono (by rintro e w' ⟨v, rfl, e1, hv⟩; exact ⟨v, rfl, hv, e1⟩)) fun vv93 W16 hh93 => ?_
   obtain ⟨hv93, e16⟩ := hh93
   have x16 : Ext w W16 := Ext.tr x15 e16
   obtain ⟨m92, hm92, rfl, hv92, ht92⟩ := hv93
   have htl92 : (zs87.take m92).length = m92 := by rw [List.length_take]; omega
   refine Qaa (.slice (some ⟨gr, 0, none⟩) 16 cr) 68 rfl kj kj ?_
   have f95_16 := (hzo87.ext e16)
   have r7_11 := (Qad r7_10_47 e11)
   have r7_12 := (Qad r7_11 e12)
   have r7_13 := (Qad r7_12 e13)
   have r7_14 := (Qb2 l14 r7_13 (QaA r7_11))
   have r7_15 := (Qad r7_14 e15)
   have r7_16 := (Qad r7_15 e16)
   refine Qaw (fun v W' => (DigR W16.heap.size (lev (zs87.take m92) * lev rl) ((zs87.take m92).length + rl.length + 1)) v W' ∧ Ext W16 W') 30 #[.slice az87 m92 cz87, .slice (some ⟨gr, 0, none⟩) 16 cr] 69 rfl kj kj ((Qfo (zs87.take m92) rl _ _ _ _ _ (QbI (OwnN.rd f95_16) m92 hm92) (Qfs hrl r7_16 hcr) (by first | omega | (rw [List.length_take]; omega)) (by omega) (Qa3 hzb87 m92) hrlb).mono (by rintro e w' ⟨v, rfl, e1, hv⟩; exact ⟨v, rfl, hv, e1⟩)) fun vv96 W17 hh96 => ?_
   obtain ⟨hv96, e17⟩ := hh96
   have x17 : Ext w W17 := Ext.tr x16 e17
   obtain ⟨zs94, hzb94, hzv94, hzl94, hzo94⟩ := hv96
   obtain ⟨az94, cz94, rfl, -⟩ := id (OwnN.rd hzo94)
   refine Qaw (fun v W' => (fun v W => ∃ m, m ≤ zs94.length ∧ v = .slice az94 m cz94 ∧ lev (zs94.take m) = lev zs94 ∧ (m = 0 ∨ nth zs94 (m - 1) ≠ 0)) v W' ∧ Ext W17 W') 29 #[.slice az94 zs94.length cz94] 70 rfl kj kj ((QeZ zs94 _ _ _ _ (OwnN.rd hzo94) (by omega)).mono (by rintro e w' ⟨v, rfl, e1, hv⟩; exact ⟨v, rfl, hv, e1⟩)) fun vv98 W18 hh98 => ?_
   obtain ⟨hv98, e18⟩ := hh98
   have x18 : Ext w W18 := Ext.tr x17 e18
   obtain ⟨m97, hm97, rfl, hv97, ht97⟩ := hv98
   have htl97 : (zs94.take m97).length = m97 := by rw [List.length_take]; omega
   have f100_18 := (hzo94.ext e18)
   refine Qaw (fun v W' => (fun v W => ∃ zs : List Int, Qaj zs ∧ lev zs % PP = lev (zs94.take m97) % PP ∧ lev zs < 1361129467683753853853498429727072845824 ∧ zs.length ≤ 17 ∧ RdK .i64 W.heap.size zs v W) v W' ∧ Ext W18 W') 28 #[.slice az94 m97 cz94] 71 rfl kj kj ((QhC (zs94.take m97) _ _ _ (QbI (OwnN.rd f100_18) m97 hm97) (by rw [List.length_take]; omega) (Qa3 hzb94 m97) (QcI hm97 ht97)).mono (by rintro e w' ⟨v, rfl, e1, hv⟩; exact ⟨v, rfl, hv, e1⟩)) fun vv101 W19 hh101 => ?_
   obtain ⟨hv101, e19⟩ := hh101
   have x19 : Ext w W19 := Ext.tr x18 e19
   obtain ⟨xs2, hsb2, hsm2, hslt2, hsl2, hrs2⟩ := hv101
   refine Qaa (vv101) 8 rfl kj kj ?_
   refine Qac ?_
   refine hK51 _ _ ?_
   refine Qab ?_
   refine Qaa (.int .i64 ((16 * n : Nat) : Int)) 47 rfl kj kj ?_
   refine Qaa (.int .i64 (((16 * n) + 16 : Nat) : Int)) 48 rfl kj (Qah (u := .int .i64 (IntKind.i64.wrap (((16 * n : Nat) : Int) + 16))) kj (congrArg (Value.int .i64) (i64n _ _ (by omega) (by omega)))) ?_
   refine Qaa (.int .i64 (((16 * n) + 16 : Nat) : Int)) 9 rfl kj kj ?_
   refine Qac ?_
   have hstep : lev xs2 % PP = QcA (rOf key) text (n + 1) := by
    unfold QcA
    refine Qdv hsm ?_
    rw [hsm2]
    congr 1
    rw [hv97, hzv94, hv92, hzv87, hrOf, epc, hpart]
   have y10_12 : Ext W10 W12 := (Rely.Ext.trans e11 e12)
   have y10_13 : Ext W10 W13 := (Rely.Ext.trans y10_12 e13)
   have y10_14 : Ext W10 W14 := (Ext.low y10_13 l14 e11.size)
   have y10_15 : Ext W10 W15 := (Rely.Ext.trans y10_14 e15)
   have y10_16 : Ext W10 W16 := (Rely.Ext.trans y10_15 e16)
   have y10_17 : Ext W10 W17 := (Rely.Ext.trans y10_16 e17)
   have y10_18 : Ext W10 W18 := (Rely.Ext.trans y10_17 e18)
   have y10_19 : Ext W10 W19 := (Rely.Ext.trans y10_18 e19)
   repeat (first | with_reducible refine goX1 ?_ | with_reducible refine goX2 ?_ | with_reducible refine goX3 ?_)
   exact Qaz ((n + 1), xs2, vv101) ⟨rfl, rfl, rfl, rfl, rfl, rfl, trivial⟩ ⟨hsb2, hstep, hslt2, hsl2, (show 16 * (n + 1) < text.length + 16 by omega), (RdK.here (RdK.ext hrs2 (Rely.Ext.refl W19))), y10_19, x19⟩ (by show text.length + 16 - 16 * (n + 1) < text.length + 16 - 16 * n; omega)
 ·skip
  have heq46 : text.length ≤ 16 * n := by have := of_decide_eq_false c50; omega
  have hnn : n = (text.length + 15) / 16 := by omega
  refine wp_exit ?_
  refine hK45 _ _ ?_
  refine wp_seq_k fun K102 hK102 => ?_
  refine wp_seq_k fun K103 hK103 => ?_
  refine Qab ?_
  refine Qaa (.slice ax xs.length cx) 72 rfl kj kj ?_
  refine QaD (ints .i64 ([5])) 3 1 73 rfl kj kj fun g104 W12 l104 e12 r104_12 => ?_
  have x12 : Ext w W12 := Ext.tr xx1 e12
  have b104 : w.heap.size ≤ g104 := Nat.le_trans xx1.size l104
  have h5l : ([5] : List Int).length = 1 := rfl
  have f106_12 := (hrs.ext e12)
  refine Qaw (fun v W' => (DigR W12.heap.size (lev (xs) + lev ([5])) (max (xs).length ([5]).length + 1)) v W' ∧ Ext W12 W') 31 #[.slice ax xs.length cx, .slice (some ⟨g104, 0, none⟩) 1 1] 74 rfl kj kj ((Qek (xs) ([5]) _ _ _ _ _ f106_12 (QaP (xs := [5]) (n := 1) rfl r104_12 (QaA r104_12) (show 1 ≤ maxLen from by decide)) (by first | omega | (rw [List.length_take]; omega)) (by decide) hsb (Qbo (by decide) (by decide))).mono (by rintro e w' ⟨v, rfl, e1, hv⟩; exact ⟨v, rfl, hv, e1⟩)) fun vv107 W13 hh107 => ?_
  obtain ⟨hv107, e13⟩ := hh107
  have x13 : Ext w W13 := Ext.tr x12 e13
  obtain ⟨zs105, hzb105, hzv105, hzl105, hzo105⟩ := hv107
  obtain ⟨az105, cz105, rfl, -⟩ := id (OwnN.rd hzo105)
  refine Qaa (.slice az105 zs105.length cz105) 12 rfl kj kj ?_
  refine Qac ?_
  refine hK103 _ _ ?_
  refine wp_seq_k fun K108 hK108 => ?_
  rcases (show (17 ≤ zs105.length ∧ 4 ≤ nth zs105 16) ∨ (17 ≤ zs105.length ∧ nth zs105 16 < 4) ∨ zs105.length < 17 by omega) with hq | hq | hq
  ·skip
   obtain ⟨gm, cm, rm_, evm, lm, rowm, hcm⟩ := QdF hzo105 (rfl : zs105.length = zs105.length) (by omega)
   rw [evm]
   have hys := Qkj hslt hzb105 hzv105 hq.1 hq.2
   have hzb16 := Qa1 hzb105 16
   have hysb : Qaj (zs105.set 16 (nth zs105 16 % 4)) := Qbg hzb105 _ (by omega) (by omega)
   have hysl : (zs105.set 16 (nth zs105 16 % 4)).length ≤ 1000 := by rw [List.length_set]; omega
   refine Qab ?_
   refine Qaa (.slice (some ⟨gm, 0, none⟩) zs105.length cm) 75 rfl kj kj ?_
   refine Qaa (.int .i64 ((zs105.length : Nat) : Int)) 76 rfl kj kj ?_
   refine Qaa (.bool true) 77 rfl kj (Qah (u := .bool (decide (((zs105.length : Nat) : Int) ≥ 17))) kj (congrArg Value.bool (decide_eq_true (by omega)))) ?_
   refine Qaa (.bool true) 78 rfl kj kj ?_
   refine Qaa (.slice (some ⟨gm, 0, none⟩) zs105.length cm) 79 rfl kj kj ?_
   refine Qaa (.pointer (some ⟨gm, 16, none⟩)) 80 rfl kj (Qaq 54 _ _ .i64 (16) gm zs105.length cm 3 rfl kj kj kj kj (by omega)) ?_
   refine Qaa (.int .i64 (nth (zs105) 16)) 81 rfl kj (Qae 3 _ gm 16 3 _ (.int .i64 (nth (zs105) 16)) _ rowm rfl kj (Qba (Nat.lt_of_lt_of_eq (by omega) (rfl).symm)) kj) ?_
   refine Qaa (.bool true) 82 rfl kj (Qah (u := .bool (decide ((nth (zs105) 16) ≥ 4))) kj (congrArg Value.bool (decide_eq_true (by omega)))) ?_
   refine Qaa (.bool true) 83 rfl kj kj ?_
   refine Qac ?_
   refine hK108 _ _ ?_
   refine cond_true kj ?_
   refine wp_seq_k fun K110 hK110 => ?_
   refine Qab ?_
   refine Qaa (.slice (some ⟨gm, 0, none⟩) zs105.length cm) 84 rfl kj kj ?_
   refine Qaa (.slice (some ⟨gm, 0, none⟩) zs105.length cm) 85 rfl kj kj ?_
   refine Qaa (.pointer (some ⟨gm, 16, none⟩)) 86 rfl kj (Qaq 54 _ _ .i64 (16) gm zs105.length cm 3 rfl kj kj kj kj (by omega)) ?_
   refine Qaa (.int .i64 (nth (zs105) 16)) 87 rfl kj (Qae 3 _ gm 16 3 _ (.int .i64 (nth (zs105) 16)) _ rowm rfl kj (Qba (Nat.lt_of_lt_of_eq (by omega) (rfl).symm)) kj) ?_
   refine Qaa (.int .i64 (nth zs105 16 % 4)) 88 rfl kj (Qah (u := .int .i64 (Int.tmod ((nth (zs105) 16)) (4))) kj (congrArg (Value.int .i64) (show Int.tmod (nth zs105 16) 4 = nth zs105 16 % 4 from Int.tmod_eq_emod_of_nonneg (by omega)))) ?_
   refine Qaa (.pointer (some ⟨gm, 16, none⟩)) 89 rfl kj (Qaq 54 _ _ .i64 (16) gm zs105.length cm 3 rfl kj kj kj kj (by omega)) ?_
   refine Qal gm _ (ints .i64 ((zs105).set 16 (nth zs105 16 % 4)) ++ rm_) 3 rowm rfl kj (Qb0 3 _ _ gm 16 3 _ _ _ rowm rfl kj kj kj (Nat.lt_of_lt_of_eq (by omega) (rfl).symm)) fun W14 p14 r109_14 => ?_
   have x14 : Ext w W14 := Puts.ext p14 x13 (Nat.le_trans x12.size lm)
   refine Qac ?_
   refine hK110 _ _ ?_
   refine Qab ?_
   refine Qaa (.slice (some ⟨gm, 0, none⟩) zs105.length cm) 90 rfl kj kj ?_
   refine Qaa (.slice (some ⟨gm, 0, none⟩) zs105.length cm) 8 rfl kj kj ?_
   refine Qac ?_
   refine hK102 _ _ ?_
   refine wp_seq_k fun K111 hK111 => ?_
   refine Qab ?_
   refine Qaa (.slice (some ⟨gm, 0, none⟩) zs105.length cm) 91 rfl kj kj ?_
   refine Qaa (.slice (some ⟨g2, 0 + 16, none⟩) (32 - 16) (32 - 16)) 92 rfl kj (Qbd 23 _ _ _ 16 32 32 g2 0 5 rfl kj kj kj ⟨.i64, by kernel_rfl⟩ rfl (by omega) (by omega) (by omega)) ?_
   have r2_3 := (Qad r2_2 e3)
   have r2_4 := (Puts.row p4 r2_3 (Qag r2_2 lr))
   have r2_5 := (Puts.row p5 r2_4 (Qag r2_2 lr))
   have r2_6 := (Puts.row p6 r2_5 (Qag r2_2 lr))
   have r2_7 := (Puts.row p7 r2_6 (Qag r2_2 lr))
   have r2_8 := (Puts.row p8 r2_7 (Qag r2_2 lr))
   have r2_9 := (Puts.row p9 r2_8 (Qag r2_2 lr))
   have r2_10 := (Puts.row p10 r2_9 (Qag r2_2 lr))
   have r2_11 := (Qad r2_10 e11)
   have r2_12 := (Qad r2_11 e12)
   have r2_13 := (Qad r2_12 e13)
   have r2_14 := (Puts.row p14 r2_13 (Qag r2_12 lm))
   refine Qaw (fun v W' => (OwnN .i64 3 W14.heap.size ((key.drop 16).take (32 - 16))) v W' ∧ Ext W14 W') 27 #[.slice (some ⟨g2, 0 + 16, none⟩) (32 - 16) (32 - 16)] 93 rfl kj kj ((Qdz ((key.drop 16).take (32 - 16)) _ _ _ (QdV (l := 16) (h := 32) hkl r2_14 (by decide) (by decide) (by decide)) (by rw [List.length_take]; omega) (Qa3 (QaN hkb 16) _)).mono (by rintro e w' ⟨v, rfl, e1, hv⟩; exact ⟨v, rfl, hv, e1⟩)) fun vv113 W15 hh113 => ?_
   obtain ⟨hv113, e15⟩ := hh113
   have x15 : Ext w W15 := Ext.tr x14 e15
   obtain ⟨an112, cn112, hvn112, -⟩ := id (OwnN.rd hv113)
   subst hvn112
   have r109_15 := (Qad r109_14 e15)
   refine Qaw (fun v W' => (DigR W15.heap.size (lev ((zs105).set 16 (nth zs105 16 % 4)) + lev ((key.drop 16).take (32 - 16))) (max ((zs105).set 16 (nth zs105 16 % 4)).length ((key.drop 16).take (32 - 16)).length + 1)) v W' ∧ Ext W15 W') 31 #[.slice (some ⟨gm, 0, none⟩) zs105.length cm, .slice an112 (((key.drop 16).take (32 - 16)).length) cn112] 94 rfl kj kj ((Qek ((zs105).set 16 (nth zs105 16 % 4)) ((key.drop 16).take (32 - 16)) _ _ _ _ _ (Qfs ((List.length_set ..).trans (rfl)) r109_15 hcm) (OwnN.rd hv113) (by omega) (by first | omega | (rw [List.length_take]; omega)) hysb (Qa3 (QaN hkb 16) _)).mono (by rintro e w' ⟨v, rfl, e1, hv⟩; exact ⟨v, rfl, hv, e1⟩)) fun vv115 W16 hh115 => ?_
   obtain ⟨hv115, e16⟩ := hh115
   have x16 : Ext w W16 := Ext.tr x15 e16
   obtain ⟨zs114, hzb114, hzv114, hzl114, hzo114⟩ := hv115
   obtain ⟨az114, cz114, rfl, -⟩ := id (OwnN.rd hzo114)
   refine Qaa (.slice az114 zs114.length cz114) 13 rfl kj kj ?_
   refine Qac ?_
   refine hK111 _ _ ?_
   refine wp_seq_k fun K116 hK116 => ?_
   refine Qab ?_
   refine Qar (ints .u8 (List.replicate 16 0)) 27 14 rfl kj kj fun g117 W17 l117 e17 r117_17 => ?_
   have x17 : Ext w W17 := Ext.tr x16 e17
   have b117 : w.heap.size ≤ g117 := Nat.le_trans x16.size l117
   refine Qac ?_
   refine hK116 _ _ ?_
   refine wp_seq_k fun K118 hK118 => ?_
   refine wp_seq_k fun K119 hK119 => ?_
   refine Qab ?_
   refine Qaa (.int .i64 0) 15 rfl kj kj ?_
   refine Qac ?_
   refine hK119 _ _ ?_
   refine wp_block ?_
   have f120_17 := (hzo114.ext e17)
   have hal : lev zs114 = Qdk (rOf key) text + sOf key := by rw [hzv114, hys, hsm, hnn]; rfl
   refine QaH (fun (s2 : Nat) => [(4, .pointer (some ⟨g3, 0, none⟩)), (13, .slice az114 zs114.length cz114), (14, .pointer (some ⟨g117, 0, none⟩)), (15, .int .i64 ((s2 : Nat) : Int))]) (fun (s2 : Nat) W => (s2 ≤ 16) ∧ (W.heap[g117]? = some (.cells (ints .u8 (Qbs (by16 (lev zs114)) 16 s2)) 27)) ∧ (Qax [g117] W17 W) ∧ (Ext w W)) (fun (s2 : Nat) => 16 - s2) 0 ⟨rfl, rfl, rfl, rfl, trivial⟩ ⟨(Nat.zero_le _), (QaO r117_17 (Qb5 _ 16)), (Qax.refl [g117] W17), x17⟩ fun s2 X2 V2 hI2 => ?_
   obtain ⟨i, hs2⟩ : ∃ z, z = s2 := ⟨_, rfl⟩
   subst hs2
   obtain ⟨hi, q117_2, kk2, xx2⟩ := hI2
   replace hi : i ≤ 16 := hi
   replace q117_2 : V2.heap[g117]? = some (.cells (ints .u8 (Qbs (by16 (lev zs114)) 16 i)) 27) := q117_2
   replace kk2 : Qax [g117] W17 V2 := kk2
   replace xx2 : Ext w V2 := xx2
   have q18 := kk2
   refine wp_seq_k fun K121 hK121 => ?_
   refine wp_seq_k fun K122 hK122 => ?_
   rcases (show (i < 16 ∧ i < zs114.length) ∨ (i < 16 ∧ zs114.length ≤ i) ∨ i = 16 by omega) with hq | hq | hq
   ·skip
    have hi16 : i < 16 := hq.1
    have hil : i < zs114.length := hq.2
    have f124_18 := (OwnN.keepsL f120_17 q18 (QeJ (Qdh hzo114 l117) QfS))
    obtain ⟨gro123, oro123, haro123, -, hlro123, hcro123⟩ := Qb4 (OwnN.rd f124_18) (by omega)
    refine Qab ?_
    refine Qaa (.int .i64 ((i : Nat) : Int)) 95 rfl kj kj ?_
    refine Qaa (.bool true) 96 rfl kj (Qah (u := .bool (decide (((i : Nat) : Int) < 16))) kj (congrArg Value.bool (decide_eq_true (by omega)))) ?_
    refine Qaa (.bool true) 97 rfl kj kj ?_
    refine Qaa (.int .i64 ((i : Nat) : Int)) 98 rfl kj kj ?_
    refine Qaa (.slice az114 zs114.length cz114) 99 rfl kj kj ?_
    refine Qaa (.int .i64 ((zs114.length : Nat) : Int)) 100 rfl kj kj ?_
    refine Qaa (.bool true) 101 rfl kj (Qah (u := .bool (decide (((i : Nat) : Int) < ((zs114.length : Nat) : Int)))) kj (congrArg Value.bool (decide_eq_true (by omega)))) ?_
    refine Qaa (.bool true) 102 rfl kj kj ?_
    refine Qac ?_
    refine hK122 _ _ ?_
    refine cond_true kj ?_
    refine wp_skip ?_
    refine hK121 _ _ ?_
    refine wp_seq_k fun K125 hK125 => ?_
    refine wp_block ?_
    refine Qab ?_
    refine Qaa (.int .i64 ((i : Nat) : Int)) 105 rfl kj kj ?_
    refine Qaa (.slice az114 zs114.length cz114) 106 rfl kj kj ?_
    refine Qaa (.int .i64 ((i : Nat) : Int)) 107 rfl kj kj ?_
    refine Qaa (.pointer (some ⟨gro123, oro123 + i, none⟩)) 108 rfl kj (QaJ 54 _ _ .i64 i gro123 oro123 zs114.length cz114 3 az114 _ haro123 rfl rfl kj kj kj kj (Nat.lt_of_lt_of_eq (show i < (zs114).length by omega) (rfl : (zs114).length = (zs114).length).symm)) ?_
    refine Qaa (.int .i64 (nth (zs114) (i))) 109 rfl kj (Qav 3 _ _ (.int .i64 (nth (zs114) (i))) (hcro123 i (Nat.lt_of_lt_of_eq (show i < (zs114).length by omega) (rfl : (zs114).length = (zs114).length).symm)) rfl kj kj) ?_
    refine Qaa (.int .u8 (nth (by16 (lev zs114)) i)) 110 rfl kj (Qah (u := .int .u8 (IntKind.u8.wrap (nth (zs114) (i)))) kj (congrArg (Value.int .u8) (QeM hzb114 hi16))) ?_
    refine Qaa (.pointer (some ⟨g117, i, none⟩)) 111 rfl kj (QaZ _ _ _ .i64 (i) _ 16 5 rfl kj kj kj kj (by omega)) ?_
    refine Qal g117 _ (ints .u8 ((Qbs (by16 (lev zs114)) 16 i).set i (nth (by16 (lev zs114)) i))) 27 q117_2 rfl kj (Qan 5 _ _ g117 i 27 _ _ q117_2 rfl kj kj kj (Nat.lt_of_lt_of_eq (by omega) (Qb9 _ 16 _ (Qa4 _) hi).symm)) fun W19 p19 r117_19 => ?_
    have x19 : Ext w W19 := Puts.ext p19 xx2 b117
    refine Qac ?_
    refine hK125 _ _ ?_
    refine Qab ?_
    refine Qaa (.int .i64 ((i : Nat) : Int)) 103 rfl kj kj ?_
    refine Qaa (.int .i64 ((i + 1 : Nat) : Int)) 104 rfl kj (Qah (u := .int .i64 (IntKind.i64.wrap (((i : Nat) : Int) + 1))) kj (congrArg (Value.int .i64) (i64n _ _ (by omega) (by omega)))) ?_
    refine Qaa (.int .i64 ((i + 1 : Nat) : Int)) 15 rfl kj kj ?_
    refine Qac ?_
    repeat (first | with_reducible refine goX1 ?_ | with_reducible refine goX2 ?_ | with_reducible refine goX3 ?_)
    exact Qaz (i + 1) ⟨rfl, rfl, rfl, rfl, trivial⟩ ⟨(show i + 1 ≤ 16 by omega), (QaO r117_19 (Qb6 _ 16 i (Qa4 _) hi16)), (Qax.puts q18 p19 (.inl (by simp))), x19⟩ (by show 16 - (i + 1) < 16 - i; omega)
   ·skip
    have r117_18_126 : V2.heap[g117]? = some (.cells (ints .u8 (by16 (lev zs114))) 27) := QaO q117_2 (QcY hzb114 hi (.inr hq.2))
    refine Qab ?_
    refine Qaa (.int .i64 ((i : Nat) : Int)) 95 rfl kj kj ?_
    refine Qaa (.bool true) 96 rfl kj (Qah (u := .bool (decide (((i : Nat) : Int) < 16))) kj (congrArg Value.bool (decide_eq_true (by omega)))) ?_
    refine Qaa (.bool true) 97 rfl kj kj ?_
    refine Qaa (.int .i64 ((i : Nat) : Int)) 98 rfl kj kj ?_
    refine Qaa (.slice az114 zs114.length cz114) 99 rfl kj kj ?_
    refine Qaa (.int .i64 ((zs114.length : Nat) : Int)) 100 rfl kj kj ?_
    refine Qaa (.bool false) 101 rfl kj (Qah (u := .bool (decide (((i : Nat) : Int) < ((zs114.length : Nat) : Int)))) kj (congrArg Value.bool (decide_eq_false (by omega)))) ?_
    refine Qaa (.bool false) 102 rfl kj kj ?_
    refine Qac ?_
    refine hK122 _ _ ?_
    refine cond_false kj ?_
    refine wp_exit ?_
    refine hK118 _ _ ?_
    refine wp_seq_k fun K127 hK127 => ?_
    refine Qab ?_
    refine Qaa (.agg (ints .u8 (by16 (lev zs114)))) 112 rfl kj (Qau 27 _ g117 27 _ _ r117_18_126 rfl kj kj (isz (n := 16) kj ((Qaf _ _).trans (Qa4 _)))) ?_
    have r3_3 := (Qad r3_2 e3)
    have r3_4 := (Puts.row p4 r3_3 (Qag r3_2 lr))
    have r3_5 := (Puts.row p5 r3_4 (Qag r3_2 lr))
    have r3_6 := (Puts.row p6 r3_5 (Qag r3_2 lr))
    have r3_7 := (Puts.row p7 r3_6 (Qag r3_2 lr))
    have r3_8 := (Puts.row p8 r3_7 (Qag r3_2 lr))
    have r3_9 := (Puts.row p9 r3_8 (Qag r3_2 lr))
    have r3_10 := (Puts.row p10 r3_9 (Qag r3_2 lr))
    have r3_11 := (Qad r3_10 e11)
    have r3_12 := (Qad r3_11 e12)
    have r3_13 := (Qad r3_12 e13)
    have r3_14 := (Puts.row p14 r3_13 (Qag r3_12 lm))
    have r3_15 := (Qad r3_14 e15)
    have r3_16 := (Qad r3_15 e16)
    have r3_17 := (Qad r3_16 e17)
    have r3_18 := (Qax.row q18 r3_17 (Qbi (Qag r3_16 l117) Qb8))
    refine Qal g3 _ (ints .u8 (by16 (lev zs114))) 27 r3_18 rfl kj (Qap 27 _ _ g3 27 _ _ r3_18 rfl kj kj (isz (n := 16) kj ((Qaf _ _).trans (Qa4 _))) (eqsz (n := 16) ((Qaf _ _).trans (List.length_replicate (n := 16))) ((Qaf _ _).trans (Qa4 _))) (QaB _ _)) fun W19 p19 r3_19 => ?_
    have x19 : Ext w W19 := Puts.ext p19 xx2 b3
    refine Qac ?_
    refine hK127 _ _ ?_
    refine wp_ret ?_
    repeat (first | with_reducible refine goR1 ?_ | with_reducible refine goR2 ?_)
    exact (show bodyPost _ _ _ .ret _ _ from ret1 (.agg (ints .u8 (by16 (lev zs114)))) rfl (Qbw g3 27 _ r3_19 kj kj (isz (n := 16) kj ((Qaf _ _).trans (Qa4 _)))) ⟨by unfold tagV; rw [hal], x19⟩)
   ·skip
    have r117_18_128 : V2.heap[g117]? = some (.cells (ints .u8 (by16 (lev zs114))) 27) := QaO q117_2 (QcY hzb114 hi (.inl hq))
    refine Qab ?_
    refine Qaa (.int .i64 ((i : Nat) : Int)) 95 rfl kj kj ?_
    refine Qaa (.bool false) 96 rfl kj (Qah (u := .bool (decide (((i : Nat) : Int) < 16))) kj (congrArg Value.bool (decide_eq_false (by omega)))) ?_
    refine Qaa (.bool false) 97 rfl kj kj ?_
    refine Qas 98 rfl kj ?_
    refine Qas 99 rfl kj ?_
    refine Qas 100 rfl kj ?_
    refine Qas 101 rfl kj ?_
    refine Qaa (.bool false) 102 rfl kj kj ?_
    refine Qac ?_
    refine hK122 _ _ ?_
    refine cond_false kj ?_
    refine wp_exit ?_
    refine hK118 _ _ ?_
    refine wp_seq_k fun K129 hK129 => ?_
    refine Qab ?_
    refine Qaa (.agg (ints .u8 (by16 (lev zs114)))) 112 rfl kj (Qau 27 _ g117 27 _ _ r117_18_128 rfl kj kj (isz (n := 16) kj ((Qaf _ _).trans (Qa4 _)))) ?_
    have r3_3 := (Qad r3_2 e3)
    have r3_4 := (Puts.row p4 r3_3 (Qag r3_2 lr))
    have r3_5 := (Puts.row p5 r3_4 (Qag r3_2 lr))
    have r3_6 := (Puts.row p6 r3_5 (Qag r3_2 lr))
    have r3_7 := (Puts.row p7 r3_6 (Qag r3_2 lr))
    have r3_8 := (Puts.row p8 r3_7 (Qag r3_2 lr))
    have r3_9 := (Puts.row p9 r3_8 (Qag r3_2 lr))
    have r3_10 := (Puts.row p10 r3_9 (Qag r3_2 lr))
    have r3_11 := (Qad r3_10 e11)
    have r3_12 := (Qad r3_11 e12)
    have r3_13 := (Qad r3_12 e13)
    have r3_14 := (Puts.row p14 r3_13 (Qag r3_12 lm))
    have r3_15 := (Qad r3_14 e15)
    have r3_16 := (Qad r3_15 e16)
    have r3_17 := (Qad r3_16 e17)
    have r3_18 := (Qax.row q18 r3_17 (Qbi (Qag r3_16 l117) Qb8))
    refine Qal g3 _ (ints .u8 (by16 (lev zs114))) 27 r3_18 rfl kj (Qap 27 _ _ g3 27 _ _ r3_18 rfl kj kj (isz (n := 16) kj ((Qaf _ _).trans (Qa4 _))) (eqsz (n := 16) ((Qaf _ _).trans (List.length_replicate (n := 16))) ((Qaf _ _).trans (Qa4 _))) (QaB _ _)) fun W19 p19 r3_19 => ?_
    have x19 : Ext w W19 := Puts.ext p19 xx2 b3
    refine Qac ?_
    refine hK129 _ _ ?_
    refine wp_ret ?_
    repeat (first | with_reducible refine goR1 ?_ | with_reducible refine goR2 ?_)
    exact (show bodyPost _ _ _ .ret _ _ from ret1 (.agg (ints .u8 (by16 (lev zs114)))) rfl (Qbw g3 27 _ r3_19 kj kj (isz (n := 16) kj ((Qaf _ _).trans (Qa4 _)))) ⟨by unfold tagV; rw [hal], x19⟩)
  ·skip
   obtain ⟨gm, cm, rm_, evm, lm, rowm, hcm⟩ := QdF hzo105 (rfl : zs105.length = zs105.length) (by omega)
   rw [evm]
   have hys := Qjk (Qbl hsb) hzb105 hzv105 hslt (.inr hq.2)
   refine Qab ?_
   refine Qaa (.slice (some ⟨gm, 0, none⟩) zs105.length cm) 75 rfl kj kj ?_
   refine Qaa (.int .i64 ((zs105.length : Nat) : Int)) 76 rfl kj kj ?_
   refine Qaa (.bool true) 77 rfl kj (Qah (u := .bool (decide (((zs105.length : Nat) : Int) ≥ 17))) kj (congrArg Value.bool (decide_eq_true (by omega)))) ?_
   refine Qaa (.bool true) 78 rfl kj kj ?_
   refine Qaa (.slice (some ⟨gm, 0, none⟩) zs105.length cm) 79 rfl kj kj ?_
   refine Qaa (.pointer (some ⟨gm, 16, none⟩)) 80 rfl kj (Qaq 54 _ _ .i64 (16) gm zs105.length cm 3 rfl kj kj kj kj (by omega)) ?_
   refine Qaa (.int .i64 (nth (zs105) 16)) 81 rfl kj (Qae 3 _ gm 16 3 _ (.int .i64 (nth (zs105) 16)) _ rowm rfl kj (Qba (Nat.lt_of_lt_of_eq (by omega) (rfl).symm)) kj) ?_
   refine Qaa (.bool false) 82 rfl kj (Qah (u := .bool (decide ((nth (zs105) 16) ≥ 4))) kj (congrArg Value.bool (decide_eq_false (by omega)))) ?_
   refine Qaa (.bool false) 83 rfl kj kj ?_
   refine Qac ?_
   refine hK108 _ _ ?_
   refine cond_false kj ?_
   refine wp_skip ?_
   refine hK102 _ _ ?_
   refine wp_seq_k fun K131 hK131 => ?_
   refine Qab ?_
   refine Qaa (.slice ax xs.length cx) 91 rfl kj kj ?_
   refine Qaa (.slice (some ⟨g2, 0 + 16, none⟩) (32 - 16) (32 - 16)) 92 rfl kj (Qbd 23 _ _ _ 16 32 32 g2 0 5 rfl kj kj kj ⟨.i64, by kernel_rfl⟩ rfl (by omega) (by omega) (by omega)) ?_
   have r2_3 := (Qad r2_2 e3)
   have r2_4 := (Puts.row p4 r2_3 (Qag r2_2 lr))
   have r2_5 := (Puts.row p5 r2_4 (Qag r2_2 lr))
   have r2_6 := (Puts.row p6 r2_5 (Qag r2_2 lr))
   have r2_7 := (Puts.row p7 r2_6 (Qag r2_2 lr))
   have r2_8 := (Puts.row p8 r2_7 (Qag r2_2 lr))
   have r2_9 := (Puts.row p9 r2_8 (Qag r2_2 lr))
   have r2_10 := (Puts.row p10 r2_9 (Qag r2_2 lr))
   have r2_11 := (Qad r2_10 e11)
   have r2_12 := (Qad r2_11 e12)
   have r2_13 := (Qad r2_12 e13)
   refine Qaw (fun v W' => (OwnN .i64 3 W13.heap.size ((key.drop 16).take (32 - 16))) v W' ∧ Ext W13 W') 27 #[.slice (some ⟨g2, 0 + 16, none⟩) (32 - 16) (32 - 16)] 93 rfl kj kj ((Qdz ((key.drop 16).take (32 - 16)) _ _ _ (QdV (l := 16) (h := 32) hkl r2_13 (by decide) (by decide) (by decide)) (by rw [List.length_take]; omega) (Qa3 (QaN hkb 16) _)).mono (by rintro e w' ⟨v, rfl, e1, hv⟩; exact ⟨v, rfl, hv, e1⟩)) fun vv133 W14 hh133 => ?_
   obtain ⟨hv133, e14⟩ := hh133
   have x14 : Ext w W14 := Ext.tr x13 e14
   obtain ⟨an132, cn132, hvn132, -⟩ := id (OwnN.rd hv133)
   subst hvn132
   have f135_13 := (f106_12.ext e13)
   have f136_14 := (f135_13.ext e14)
   refine Qaw (fun v W' => (DigR W14.heap.size (lev (xs) + lev ((key.drop 16).take (32 - 16))) (max (xs).length ((key.drop 16).take (32 - 16)).length + 1)) v W' ∧ Ext W14 W') 31 #[.slice ax xs.length cx, .slice an132 (((key.drop 16).take (32 - 16)).length) cn132] 94 rfl kj kj ((Qek (xs) ((key.drop 16).take (32 - 16)) _ _ _ _ _ f136_14 (OwnN.rd hv133) (by first | omega | (rw [List.length_take]; omega)) (by first | omega | (rw [List.length_take]; omega)) hsb (Qa3 (QaN hkb 16) _)).mono (by rintro e w' ⟨v, rfl, e1, hv⟩; exact ⟨v, rfl, hv, e1⟩)) fun vv137 W15 hh137 => ?_
   obtain ⟨hv137, e15⟩ := hh137
   have x15 : Ext w W15 := Ext.tr x14 e15
   obtain ⟨zs134, hzb134, hzv134, hzl134, hzo134⟩ := hv137
   obtain ⟨az134, cz134, rfl, -⟩ := id (OwnN.rd hzo134)
   refine Qaa (.slice az134 zs134.length cz134) 13 rfl kj kj ?_
   refine Qac ?_
   refine hK131 _ _ ?_
   refine wp_seq_k fun K138 hK138 => ?_
   refine Qab ?_
   refine Qar (ints .u8 (List.replicate 16 0)) 27 14 rfl kj kj fun g139 W16 l139 e16 r139_16 => ?_
   have x16 : Ext w W16 := Ext.tr x15 e16
   have b139 : w.heap.size ≤ g139 := Nat.le_trans x15.size l139
   refine Qac ?_
   refine hK138 _ _ ?_
   refine wp_seq_k fun K140 hK140 => ?_
   refine wp_seq_k fun K141 hK141 => ?_
   refine Qab ?_
   refine Qaa (.int .i64 0) 15 rfl kj kj ?_
   refine Qac ?_
   refine hK141 _ _ ?_
   refine wp_block ?_
   have f142_16 := (hzo134.ext e16)
   have hal : lev zs134 = Qdk (rOf key) text + sOf key := by rw [hzv134, hys, hsm, hnn]; rfl
   refine QaH (fun (s3 : Nat) => [(4, .pointer (some ⟨g3, 0, none⟩)), (13, .slice az134 zs134.length cz134), (14, .pointer (some ⟨g139, 0, none⟩)), (15, .int .i64 ((s3 : Nat) : Int))]) (fun (s3 : Nat) W => (s3 ≤ 16) ∧ (W.heap[g139]? = some (.cells (ints .u8 (Qbs (by16 (lev zs134)) 16 s3)) 27)) ∧ (Qax [g139] W16 W) ∧ (Ext w W)) (fun (s3 : Nat) => 16 - s3) 0 ⟨rfl, rfl, rfl, rfl, trivial⟩ ⟨(Nat.zero_le _), (QaO r139_16 (Qb5 _ 16)), (Qax.refl [g139] W16), x16⟩ fun s3 X3 V3 hI3 => ?_
   obtain ⟨i, hs3⟩ : ∃ z, z = s3 := ⟨_, rfl⟩
   subst hs3
   obtain ⟨hi, q139_3, kk3, xx3⟩ := hI3
   replace hi : i ≤ 16 := hi
   replace q139_3 : V3.heap[g139]? = some (.cells (ints .u8 (Qbs (by16 (lev zs134)) 16 i)) 27) := q139_3
   replace kk3 : Qax [g139] W16 V3 := kk3
   replace xx3 : Ext w V3 := xx3
   have q17 := kk3
   refine wp_seq_k fun K143 hK143 => ?_
   refine wp_seq_k fun K144 hK144 => ?_
   rcases (show (i < 16 ∧ i < zs134.length) ∨ (i < 16 ∧ zs134.length ≤ i) ∨ i = 16 by omega) with hq | hq | hq
   ·skip
    have hi16 : i < 16 := hq.1
    have hil : i < zs134.length := hq.2
    have f146_17 := (OwnN.keepsL f142_16 q17 (QeJ (Qdh hzo134 l139) QfS))
    obtain ⟨gro145, oro145, haro145, -, hlro145, hcro145⟩ := Qb4 (OwnN.rd f146_17) (by omega)
    refine Qab ?_
    refine Qaa (.int .i64 ((i : Nat) : Int)) 95 rfl kj kj ?_
    refine Qaa (.bool true) 96 rfl kj (Qah (u := .bool (decide (((i : Nat) : Int) < 16))) kj (congrArg Value.bool (decide_eq_true (by omega)))) ?_
    refine Qaa (.bool true) 97 rfl kj kj ?_
    refine Qaa (.int .i64 ((i : Nat) : Int)) 98 rfl kj kj ?_
    refine Qaa (.slice az134 zs134.length cz134) 99 rfl kj kj ?_
    refine Qaa (.int .i64 ((zs134.length : Nat) : Int)) 100 rfl kj kj ?_
    refine Qaa (.bool true) 101 rfl kj (Qah (u := .bool (decide (((i : Nat) : Int) < ((zs134.length : Nat) : Int)))) kj (congrArg Value.bool (decide_eq_true (by omega)))) ?_
    refine Qaa (.bool true) 102 rfl kj kj ?_
    refine Qac ?_
    refine hK144 _ _ ?_
    refine cond_true kj ?_
    refine wp_skip ?_
    refine hK143 _ _ ?_
    refine wp_seq_k fun K147 hK147 => ?_
    refine wp_block ?_
    refine Qab ?_
    refine Qaa (.int .i64 ((i : Nat) : Int)) 105 rfl kj kj ?_
    refine Qaa (.slice az134 zs134.length cz134) 106 rfl kj kj ?_
    refine Qaa (.int .i64 ((i : Nat) : Int)) 107 rfl kj kj ?_
    refine Qaa (.pointer (some ⟨gro145, oro145 + i, none⟩)) 108 rfl kj (QaJ 54 _ _ .i64 i gro145 oro145 zs134.length cz134 3 az134 _ haro145 rfl rfl kj kj kj kj (Nat.lt_of_lt_of_eq (show i < (zs134).length by omega) (rfl : (zs134).length = (zs134).length).symm)) ?_
    refine Qaa (.int .i64 (nth (zs134) (i))) 109 rfl kj (Qav 3 _ _ (.int .i64 (nth (zs134) (i))) (hcro145 i (Nat.lt_of_lt_of_eq (show i < (zs134).length by omega) (rfl : (zs134).length = (zs134).length).symm)) rfl kj kj) ?_
    refine Qaa (.int .u8 (nth (by16 (lev zs134)) i)) 110 rfl kj (Qah (u := .int .u8 (IntKind.u8.wrap (nth (zs134) (i)))) kj (congrArg (Value.int .u8) (QeM hzb134 hi16))) ?_
    refine Qaa (.pointer (some ⟨g139, i, none⟩)) 111 rfl kj (QaZ _ _ _ .i64 (i) _ 16 5 rfl kj kj kj kj (by omega)) ?_
    refine Qal g139 _ (ints .u8 ((Qbs (by16 (lev zs134)) 16 i).set i (nth (by16 (lev zs134)) i))) 27 q139_3 rfl kj (Qan 5 _ _ g139 i 27 _ _ q139_3 rfl kj kj kj (Nat.lt_of_lt_of_eq (by omega) (Qb9 _ 16 _ (Qa4 _) hi).symm)) fun W18 p18 r139_18 => ?_
    have x18 : Ext w W18 := Puts.ext p18 xx3 b139
    refine Qac ?_
    refine hK147 _ _ ?_
    refine Qab ?_
    refine Qaa (.int .i64 ((i : Nat) : Int)) 103 rfl kj kj ?_
    refine Qaa (.int .i64 ((i + 1 : Nat) : Int)) 104 rfl kj (Qah (u := .int .i64 (IntKind.i64.wrap (((i : Nat) : Int) + 1))) kj (congrArg (Value.int .i64) (i64n _ _ (by omega) (by omega)))) ?_
    refine Qaa (.int .i64 ((i + 1 : Nat) : Int)) 15 rfl kj kj ?_
    refine Qac ?_
    repeat (first | with_reducible refine goX1 ?_ | with_reducible refine goX2 ?_ | with_reducible refine goX3 ?_)
    exact Qaz (i + 1) ⟨rfl, rfl, rfl, rfl, trivial⟩ ⟨(show i + 1 ≤ 16 by omega), (QaO r139_18 (Qb6 _ 16 i (Qa4 _) hi16)), (Qax.puts q17 p18 (.inl (by simp))), x18⟩ (by show 16 - (i + 1) < 16 - i; omega)
   ·skip
    have r139_17_148 : V3.heap[g139]? = some (.cells (ints .u8 (by16 (lev zs134))) 27) := QaO q139_3 (QcY hzb134 hi (.inr hq.2))
    refine Qab ?_
    refine Qaa (.int .i64 ((i : Nat) : Int)) 95 rfl kj kj ?_
    refine Qaa (.bool true) 96 rfl kj (Qah (u := .bool (decide (((i : Nat) : Int) < 16))) kj (congrArg Value.bool (decide_eq_true (by omega)))) ?_
    refine Qaa (.bool true) 97 rfl kj kj ?_
    refine Qaa (.int .i64 ((i : Nat) : Int)) 98 rfl kj kj ?_
    refine Qaa (.slice az134 zs134.length cz134) 99 rfl kj kj ?_
    refine Qaa (.int .i64 ((zs134.length : Nat) : Int)) 100 rfl kj kj ?_
    refine Qaa (.bool false) 101 rfl kj (Qah (u := .bool (decide (((i : Nat) : Int) < ((zs134.length : Nat) : Int)))) kj (congrArg Value.bool (decide_eq_false (by omega)))) ?_
    refine Qaa (.bool false) 102 rfl kj kj ?_
    refine Qac ?_
    refine hK144 _ _ ?_
    refine cond_false kj ?_
    refine wp_exit ?_
    refine hK140 _ _ ?_
    refine wp_seq_k fun K149 hK149 => ?_
    refine Qab ?_
    refine Qaa (.agg (ints .u8 (by16 (lev zs134)))) 112 rfl kj (Qau 27 _ g139 27 _ _ r139_17_148 rfl kj kj (isz (n := 16) kj ((Qaf _ _).trans (Qa4 _)))) ?_
    have r3_3 := (Qad r3_2 e3)
    have r3_4 := (Puts.row p4 r3_3 (Qag r3_2 lr))
    have r3_5 := (Puts.row p5 r3_4 (Qag r3_2 lr))
    have r3_6 := (Puts.row p6 r3_5 (Qag r3_2 lr))
    have r3_7 := (Puts.row p7 r3_6 (Qag r3_2 lr))
    have r3_8 := (Puts.row p8 r3_7 (Qag r3_2 lr))
    have r3_9 := (Puts.row p9 r3_8 (Qag r3_2 lr))
    have r3_10 := (Puts.row p10 r3_9 (Qag r3_2 lr))
    have r3_11 := (Qad r3_10 e11)
    have r3_12 := (Qad r3_11 e12)
    have r3_13 := (Qad r3_12 e13)
    have r3_14 := (Qad r3_13 e14)
    have r3_15 := (Qad r3_14 e15)
    have r3_16 := (Qad r3_15 e16)
    have r3_17 := (Qax.row q17 r3_16 (Qbi (Qag r3_15 l139) Qb8))
    refine Qal g3 _ (ints .u8 (by16 (lev zs134))) 27 r3_17 rfl kj (Qap 27 _ _ g3 27 _ _ r3_17 rfl kj kj (isz (n := 16) kj ((Qaf _ _).trans (Qa4 _))) (eqsz (n := 16) ((Qaf _ _).trans (List.length_replicate (n := 16))) ((Qaf _ _).trans (Qa4 _))) (QaB _ _)) fun W18 p18 r3_18 => ?_
    have x18 : Ext w W18 := Puts.ext p18 xx3 b3
    refine Qac ?_
    refine hK149 _ _ ?_
    refine wp_ret ?_
    repeat (first | with_reducible refine goR1 ?_ | with_reducible refine goR2 ?_)
    exact (show bodyPost _ _ _ .ret _ _ from ret1 (.agg (ints .u8 (by16 (lev zs134)))) rfl (Qbw g3 27 _ r3_18 kj kj (isz (n := 16) kj ((Qaf _ _).trans (Qa4 _)))) ⟨by unfold tagV; rw [hal], x18⟩)
   ·skip
    have r139_17_150 : V3.heap[g139]? = some (.cells (ints .u8 (by16 (lev zs134))) 27) := QaO q139_3 (QcY hzb134 hi (.inl hq))
    refine Qab ?_
    refine Qaa (.int .i64 ((i : Nat) : Int)) 95 rfl kj kj ?_
    refine Qaa (.bool false) 96 rfl kj (Qah (u := .bool (decide (((i : Nat) : Int) < 16))) kj (congrArg Value.bool (decide_eq_false (by omega)))) ?_
    refine Qaa (.bool false) 97 rfl kj kj ?_
    refine Qas 98 rfl kj ?_
    refine Qas 99 rfl kj ?_
    refine Qas 100 rfl kj ?_
    refine Qas 101 rfl kj ?_
    refine Qaa (.bool false) 102 rfl kj kj ?_
    refine Qac ?_
    refine hK144 _ _ ?_
    refine cond_false kj ?_
    refine wp_exit ?_
    refine hK140 _ _ ?_
    refine wp_seq_k fun K151 hK151 => ?_
    refine Qab ?_
    refine Qaa (.agg (ints .u8 (by16 (lev zs134)))) 112 rfl kj (Qau 27 _ g139 27 _ _ r139_17_150 rfl kj kj (isz (n := 16) kj ((Qaf _ _).trans (Qa4 _)))) ?_
    have r3_3 := (Qad r3_2 e3)
    have r3_4 := (Puts.row p4 r3_3 (Qag r3_2 lr))
    have r3_5 := (Puts.row p5 r3_4 (Qag r3_2 lr))
    have r3_6 := (Puts.row p6 r3_5 (Qag r3_2 lr))
    have r3_7 := (Puts.row p7 r3_6 (Qag r3_2 lr))
    have r3_8 := (Puts.row p8 r3_7 (Qag r3_2 lr))
    have r3_9 := (Puts.row p9 r3_8 (Qag r3_2 lr))
    have r3_10 := (Puts.row p10 r3_9 (Qag r3_2 lr))
    have r3_11 := (Qad r3_10 e11)
    have r3_12 := (Qad r3_11 e12)
    have r3_13 := (Qad r3_12 e13)
    have r3_14 := (Qad r3_13 e14)
    have r3_15 := (Qad r3_14 e15)
    have r3_16 := (Qad r3_15 e16)
    have r3_17 := (Qax.row q17 r3_16 (Qbi (Qag r3_15 l139) Qb8))
    refine Qal g3 _ (ints .u8 (by16 (lev zs134))) 27 r3_17 rfl kj (Qap 27 _ _ g3 27 _ _ r3_17 rfl kj kj (isz (n := 16) kj ((Qaf _ _).trans (Qa4 _))) (eqsz (n := 16) ((Qaf _ _).trans (List.length_replicate (n := 16))) ((Qaf _ _).trans (Qa4 _))) (QaB _ _)) fun W18 p18 r3_18 => ?_
    have x18 : Ext w W18 := Puts.ext p18 xx3 b3
    refine Qac ?_
    refine hK151 _ _ ?_
    refine wp_ret ?_
    repeat (first | with_reducible refine goR1 ?_ | with_reducible refine goR2 ?_)
    exact (show bodyPost _ _ _ .ret _ _ from ret1 (.agg (ints .u8 (by16 (lev zs134)))) rfl (Qbw g3 27 _ r3_18 kj kj (isz (n := 16) kj ((Qaf _ _).trans (Qa4 _)))) ⟨by unfold tagV; rw [hal], x18⟩)
  ·skip
   have hys := Qjk (Qbl hsb) hzb105 hzv105 hslt (.inl hq)
   refine Qab ?_
   refine Qaa (.slice az105 zs105.length cz105) 75 rfl kj kj ?_
   refine Qaa (.int .i64 ((zs105.length : Nat) : Int)) 76 rfl kj kj ?_
   refine Qaa (.bool false) 77 rfl kj (Qah (u := .bool (decide (((zs105.length : Nat) : Int) ≥ 17))) kj (congrArg Value.bool (decide_eq_false (by omega)))) ?_
   refine Qaa (.bool false) 78 rfl kj kj ?_
   refine Qas 79 rfl kj ?_
   refine Qas 80 rfl kj ?_
   refine Qas 81 rfl kj ?_
   refine Qas 82 rfl kj ?_
   refine Qaa (.bool false) 83 rfl kj kj ?_
   refine Qac ?_
   refine hK108 _ _ ?_
   refine cond_false kj ?_
   refine wp_skip ?_
   refine hK102 _ _ ?_
   refine wp_seq_k fun K152 hK152 => ?_
   refine Qab ?_
   refine Qaa (.slice ax xs.length cx) 91 rfl kj kj ?_
   refine Qaa (.slice (some ⟨g2, 0 + 16, none⟩) (32 - 16) (32 - 16)) 92 rfl kj (Qbd 23 _ _ _ 16 32 32 g2 0 5 rfl kj kj kj ⟨.i64, by kernel_rfl⟩ rfl (by omega) (by omega) (by omega)) ?_
   have r2_3 := (Qad r2_2 e3)
   have r2_4 := (Puts.row p4 r2_3 (Qag r2_2 lr))
   have r2_5 := (Puts.row p5 r2_4 (Qag r2_2 lr))
   have r2_6 := (Puts.row p6 r2_5 (Qag r2_2 lr))
   have r2_7 := (Puts.row p7 r2_6 (Qag r2_2 lr))
   have r2_8 := (Puts.row p8 r2_7 (Qag r2_2 lr))
   have r2_9 := (Puts.row p9 r2_8 (Qag r2_2 lr))
   have r2_10 := (Puts.row p10 r2_9 (Qag r2_2 lr))
   have r2_11 := (Qad r2_10 e11)
   have r2_12 := (Qad r2_11 e12)
   have r2_13 := (Qad r2_12 e13)
   refine Qaw (fun v W' => (OwnN .i64 3 W13.heap.size ((key.drop 16).take (32 - 16))) v W' ∧ Ext W13 W') 27 #[.slice (some ⟨g2, 0 + 16, none⟩) (32 - 16) (32 - 16)] 93 rfl kj kj ((Qdz ((key.drop 16).take (32 - 16)) _ _ _ (QdV (l := 16) (h := 32) hkl r2_13 (by decide) (by decide) (by decide)) (by rw [List.length_take]; omega) (Qa3 (QaN hkb 16) _)).mono (by rintro e w' ⟨v, rfl, e1, hv⟩; exact ⟨v, rfl, hv, e1⟩)) fun vv154 W14 hh154 => ?_
   obtain ⟨hv154, e14⟩ := hh154
   have x14 : Ext w W14 := Ext.tr x13 e14
   obtain ⟨an153, cn153, hvn153, -⟩ := id (OwnN.rd hv154)
   subst hvn153
   have f156_13 := (f106_12.ext e13)
   have f157_14 := (f156_13.ext e14)
   refine Qaw (fun v W' => (DigR W14.heap.size (lev (xs) + lev ((key.drop 16).take (32 - 16))) (max (xs).length ((key.drop 16).take (32 - 16)).length + 1)) v W' ∧ Ext W14 W') 31 #[.slice ax xs.length cx, .slice an153 (((key.drop 16).take (32 - 16)).length) cn153] 94 rfl kj kj ((Qek (xs) ((key.drop 16).take (32 - 16)) _ _ _ _ _ f157_14 (OwnN.rd hv154) (by first | omega | (rw [List.length_take]; omega)) (by first | omega | (rw [List.length_take]; omega)) hsb (Qa3 (QaN hkb 16) _)).mono (by rintro e w' ⟨v, rfl, e1, hv⟩; exact ⟨v, rfl, hv, e1⟩)) fun vv158 W15 hh158 => ?_
   obtain ⟨hv158, e15⟩ := hh158
   have x15 : Ext w W15 := Ext.tr x14 e15
   obtain ⟨zs155, hzb155, hzv155, hzl155, hzo155⟩ := hv158
   obtain ⟨az155, cz155, rfl, -⟩ := id (OwnN.rd hzo155)
   refine Qaa (.slice az155 zs155.length cz155) 13 rfl kj kj ?_
   refine Qac ?_
   refine hK152 _ _ ?_
   refine wp_seq_k fun K159 hK159 => ?_
   refine Qab ?_
   refine Qar (ints .u8 (List.replicate 16 0)) 27 14 rfl kj kj fun g160 W16 l160 e16 r160_16 => ?_
   have x16 : Ext w W16 := Ext.tr x15 e16
   have b160 : w.heap.size ≤ g160 := Nat.le_trans x15.size l160
   refine Qac ?_
   refine hK159 _ _ ?_
   refine wp_seq_k fun K161 hK161 => ?_
   refine wp_seq_k fun K162 hK162 => ?_
   refine Qab ?_
   refine Qaa (.int .i64 0) 15 rfl kj kj ?_
   refine Qac ?_
   refine hK162 _ _ ?_
   refine wp_block ?_
   have f163_16 := (hzo155.ext e16)
   have hal : lev zs155 = Qdk (rOf key) text + sOf key := by rw [hzv155, hys, hsm, hnn]; rfl
   refine QaH (fun (s4 : Nat) => [(4, .pointer (some ⟨g3, 0, none⟩)), (13, .slice az155 zs155.length cz155), (14, .pointer (some ⟨g160, 0, none⟩)), (15, .int .i64 ((s4 : Nat) : Int))]) (fun (s4 : Nat) W => (s4 ≤ 16) ∧ (W.heap[g160]? = some (.cells (ints .u8 (Qbs (by16 (lev zs155)) 16 s4)) 27)) ∧ (Qax [g160] W16 W) ∧ (Ext w W)) (fun (s4 : Nat) => 16 - s4) 0 ⟨rfl, rfl, rfl, rfl, trivial⟩ ⟨(Nat.zero_le _), (QaO r160_16 (Qb5 _ 16)), (Qax.refl [g160] W16), x16⟩ fun s4 X4 V4 hI4 => ?_
   obtain ⟨i, hs4⟩ : ∃ z, z = s4 := ⟨_, rfl⟩
   subst hs4
   obtain ⟨hi, q160_4, kk4, xx4⟩ := hI4
   replace hi : i ≤ 16 := hi
   replace q160_4 : V4.heap[g160]? = some (.cells (ints .u8 (Qbs (by16 (lev zs155)) 16 i)) 27) := q160_4
   replace kk4 : Qax [g160] W16 V4 := kk4
   replace xx4 : Ext w V4 := xx4
   have q17 := kk4
   refine wp_seq_k fun K164 hK164 => ?_
   refine wp_seq_k fun K165 hK165 => ?_
   rcases (show (i < 16 ∧ i < zs155.length) ∨ (i < 16 ∧ zs155.length ≤ i) ∨ i = 16 by omega) with hq | hq | hq
   ·skip
    have hi16 : i < 16 := hq.1
    have hil : i < zs155.length := hq.2
    have f167_17 := (OwnN.keepsL f163_16 q17 (QeJ (Qdh hzo155 l160) QfS))
    obtain ⟨gro166, oro166, haro166, -, hlro166, hcro166⟩ := Qb4 (OwnN.rd f167_17) (by omega)
    refine Qab ?_
    refine Qaa (.int .i64 ((i : Nat) : Int)) 95 rfl kj kj ?_
    refine Qaa (.bool true) 96 rfl kj (Qah (u := .bool (decide (((i : Nat) : Int) < 16))) kj (congrArg Value.bool (decide_eq_true (by omega)))) ?_
    refine Qaa (.bool true) 97 rfl kj kj ?_
    refine Qaa (.int .i64 ((i : Nat) : Int)) 98 rfl kj kj ?_
    refine Qaa (.slice az155 zs155.length cz155) 99 rfl kj kj ?_
    refine Qaa (.int .i64 ((zs155.length : Nat) : Int)) 100 rfl kj kj ?_
    refine Qaa (.bool true) 101 rfl kj (Qah (u := .bool (decide (((i : Nat) : Int) < ((zs155.length : Nat) : Int)))) kj (congrArg Value.bool (decide_eq_true (by omega)))) ?_
    refine Qaa (.bool true) 102 rfl kj kj ?_
    refine Qac ?_
    refine hK165 _ _ ?_
    refine cond_true kj ?_
    refine wp_skip ?_
    refine hK164 _ _ ?_
    refine wp_seq_k fun K168 hK168 => ?_
    refine wp_block ?_
    refine Qab ?_
    refine Qaa (.int .i64 ((i : Nat) : Int)) 105 rfl kj kj ?_
    refine Qaa (.slice az155 zs155.length cz155) 106 rfl kj kj ?_
    refine Qaa (.int .i64 ((i : Nat) : Int)) 107 rfl kj kj ?_
    refine Qaa (.pointer (some ⟨gro166, oro166 + i, none⟩)) 108 rfl kj (QaJ 54 _ _ .i64 i gro166 oro166 zs155.length cz155 3 az155 _ haro166 rfl rfl kj kj kj kj (Nat.lt_of_lt_of_eq (show i < (zs155).length by omega) (rfl : (zs155).length = (zs155).length).symm)) ?_
    refine Qaa (.int .i64 (nth (zs155) (i))) 109 rfl kj (Qav 3 _ _ (.int .i64 (nth (zs155) (i))) (hcro166 i (Nat.lt_of_lt_of_eq (show i < (zs155).length by omega) (rfl : (zs155).length = (zs155).length).symm)) rfl kj kj) ?_
    refine Qaa (.int .u8 (nth (by16 (lev zs155)) i)) 110 rfl kj (Qah (u := .int .u8 (IntKind.u8.wrap (nth (zs155) (i)))) kj (congrArg (Value.int .u8) (QeM hzb155 hi16))) ?_
    refine Qaa (.pointer (some ⟨g160, i, none⟩)) 111 rfl kj (QaZ _ _ _ .i64 (i) _ 16 5 rfl kj kj kj kj (by omega)) ?_
    refine Qal g160 _ (ints .u8 ((Qbs (by16 (lev zs155)) 16 i).set i (nth (by16 (lev zs155)) i))) 27 q160_4 rfl kj (Qan 5 _ _ g160 i 27 _ _ q160_4 rfl kj kj kj (Nat.lt_of_lt_of_eq (by omega) (Qb9 _ 16 _ (Qa4 _) hi).symm)) fun W18 p18 r160_18 => ?_
    have x18 : Ext w W18 := Puts.ext p18 xx4 b160
    refine Qac ?_
    refine hK168 _ _ ?_
    refine Qab ?_
    refine Qaa (.int .i64 ((i : Nat) : Int)) 103 rfl kj kj ?_
    refine Qaa (.int .i64 ((i + 1 : Nat) : Int)) 104 rfl kj (Qah (u := .int .i64 (IntKind.i64.wrap (((i : Nat) : Int) + 1))) kj (congrArg (Value.int .i64) (i64n _ _ (by omega) (by omega)))) ?_
    refine Qaa (.int .i64 ((i + 1 : Nat) : Int)) 15 rfl kj kj ?_
    refine Qac ?_
    repeat (first | with_reducible refine goX1 ?_ | with_reducible refine goX2 ?_ | with_reducible refine goX3 ?_)
    exact Qaz (i + 1) ⟨rfl, rfl, rfl, rfl, trivial⟩ ⟨(show i + 1 ≤ 16 by omega), (QaO r160_18 (Qb6 _ 16 i (Qa4 _) hi16)), (Qax.puts q17 p18 (.inl (by simp))), x18⟩ (by show 16 - (i + 1) < 16 - i; omega)
   ·skip
    have r160_17_169 : V4.heap[g160]? = some (.cells (ints .u8 (by16 (lev zs155))) 27) := QaO q160_4 (QcY hzb155 hi (.inr hq.2))
    refine Qab ?_
    refine Qaa (.int .i64 ((i : Nat) : Int)) 95 rfl kj kj ?_
    refine Qaa (.bool true) 96 rfl kj (Qah (u := .bool (decide (((i : Nat) : Int) < 16))) kj (congrArg Value.bool (decide_eq_true (by omega)))) ?_
    refine Qaa (.bool true) 97 rfl kj kj ?_
    refine Qaa (.int .i64 ((i : Nat) : Int)) 98 rfl kj kj ?_
    refine Qaa (.slice az155 zs155.length cz155) 99 rfl kj kj ?_
    refine Qaa (.int .i64 ((zs155.length : Nat) : Int)) 100 rfl kj kj ?_
    refine Qaa (.bool false) 101 rfl kj (Qah (u := .bool (decide (((i : Nat) : Int) < ((zs155.length : Nat) : Int)))) kj (congrArg Value.bool (decide_eq_false (by omega)))) ?_
    refine Qaa (.bool false) 102 rfl kj kj ?_
    refine Qac ?_
    refine hK165 _ _ ?_
    refine cond_false kj ?_
    refine wp_exit ?_
    refine hK161 _ _ ?_
    refine wp_seq_k fun K170 hK170 => ?_
    refine Qab ?_
    refine Qaa (.agg (ints .u8 (by16 (lev zs155)))) 112 rfl kj (Qau 27 _ g160 27 _ _ r160_17_169 rfl kj kj (isz (n := 16) kj ((Qaf _ _).trans (Qa4 _)))) ?_
    have r3_3 := (Qad r3_2 e3)
    have r3_4 := (Puts.row p4 r3_3 (Qag r3_2 lr))
    have r3_5 := (Puts.row p5 r3_4 (Qag r3_2 lr))
    have r3_6 := (Puts.row p6 r3_5 (Qag r3_2 lr))
    have r3_7 := (Puts.row p7 r3_6 (Qag r3_2 lr))
    have r3_8 := (Puts.row p8 r3_7 (Qag r3_2 lr))
    have r3_9 := (Puts.row p9 r3_8 (Qag r3_2 lr))
    have r3_10 := (Puts.row p10 r3_9 (Qag r3_2 lr))
    have r3_11 := (Qad r3_10 e11)
    have r3_12 := (Qad r3_11 e12)
    have r3_13 := (Qad r3_12 e13)
    have r3_14 := (Qad r3_13 e14)
    have r3_15 := (Qad r3_14 e15)
    have r3_16 := (Qad r3_15 e16)
    have r3_17 := (Qax.row q17 r3_16 (Qbi (Qag r3_15 l160) Qb8))
    refine Qal g3 _ (ints .u8 (by16 (lev zs155))) 27 r3_17 rfl kj (Qap 27 _ _ g3 27 _ _ r3_17 rfl kj kj (isz (n := 16) kj ((Qaf _ _).trans (Qa4 _))) (eqsz (n := 16) ((Qaf _ _).trans (List.length_replicate (n := 16))) ((Qaf _ _).trans (Qa4 _))) (QaB _ _)) fun W18 p18 r3_18 => ?_
    have x18 : Ext w W18 := Puts.ext p18 xx4 b3
    refine Qac ?_
    refine hK170 _ _ ?_
    refine wp_ret ?_
    repeat (first | with_reducible refine goR1 ?_ | with_reducible refine goR2 ?_)
    exact (show bodyPost _ _ _ .ret _ _ from ret1 (.agg (ints .u8 (by16 (lev zs155)))) rfl (Qbw g3 27 _ r3_18 kj kj (isz (n := 16) kj ((Qaf _ _).trans (Qa4 _)))) ⟨by unfold tagV; rw [hal], x18⟩)
   ·skip
    have r160_17_171 : V4.heap[g160]? = some (.cells (ints .u8 (by16 (lev zs155))) 27) := QaO q160_4 (QcY hzb155 hi (.inl hq))
    refine Qab ?_
    refine Qaa (.int .i64 ((i : Nat) : Int)) 95 rfl kj kj ?_
    refine Qaa (.bool false) 96 rfl kj (Qah (u := .bool (decide (((i : Nat) : Int) < 16))) kj (congrArg Value.bool (decide_eq_false (by omega)))) ?_
    refine Qaa (.bool false) 97 rfl kj kj ?_
    refine Qas 98 rfl kj ?_
    refine Qas 99 rfl kj ?_
    refine Qas 100 rfl kj ?_
    refine Qas 101 rfl kj ?_
    refine Qaa (.bool false) 102 rfl kj kj ?_
    refine Qac ?_
    refine hK165 _ _ ?_
    refine cond_false kj ?_
    refine wp_exit ?_
    refine hK161 _ _ ?_
    refine wp_seq_k fun K172 hK172 => ?_
    refine Qab ?_
    refine Qaa (.agg (ints .u8 (by16 (lev zs155)))) 112 rfl kj (Qau 27 _ g160 27 _ _ r160_17_171 rfl kj kj (isz (n := 16) kj ((Qaf _ _).trans (Qa4 _)))) ?_
    have r3_3 := (Qad r3_2 e3)
    have r3_4 := (Puts.row p4 r3_3 (Qag r3_2 lr))
    have r3_5 := (Puts.row p5 r3_4 (Qag r3_2 lr))
    have r3_6 := (Puts.row p6 r3_5 (Qag r3_2 lr))
    have r3_7 := (Puts.row p7 r3_6 (Qag r3_2 lr))
    have r3_8 := (Puts.row p8 r3_7 (Qag r3_2 lr))
    have r3_9 := (Puts.row p9 r3_8 (Qag r3_2 lr))
    have r3_10 := (Puts.row p10 r3_9 (Qag r3_2 lr))
    have r3_11 := (Qad r3_10 e11)
    have r3_12 := (Qad r3_11 e12)
    have r3_13 := (Qad r3_12 e13)
    have r3_14 := (Qad r3_13 e14)
    have r3_15 := (Qad r3_14 e15)
    have r3_16 := (Qad r3_15 e16)
    have r3_17 := (Qax.row q17 r3_16 (Qbi (Qag r3_15 l160) Qb8))
    refine Qal g3 _ (ints .u8 (by16 (lev zs155))) 27 r3_17 rfl kj (Qap 27 _ _ g3 27 _ _ r3_17 rfl kj kj (isz (n := 16) kj ((Qaf _ _).trans (Qa4 _))) (eqsz (n := 16) ((Qaf _ _).trans (List.length_replicate (n := 16))) ((Qaf _ _).trans (Qa4 _))) (QaB _ _)) fun W18 p18 r3_18 => ?_
    have x18 : Ext w W18 := Puts.ext p18 xx4 b3
    refine Qac ?_
    refine hK172 _ _ ?_
    refine wp_ret ?_
    repeat (first | with_reducible refine goR1 ?_ | with_reducible refine goR2 ?_)
    exact (show bodyPost _ _ _ .ret _ _ from ret1 (.agg (ints .u8 (by16 (lev zs155)))) rfl (Qbw g3 27 _ r3_18 kj kj (isz (n := 16) kj ((Qaf _ _).trans (Qa4 _)))) ⟨by unfold tagV; rw [hal], x18⟩)
end Go.Proofs.YtjldjdlhllgakaaDoor.Ae
end
section
namespace Go.Proofs.YtjldjdlhllgakaaDoor.Ae
open Go Go.RowKit
open Rely Auto Own Sha
set_option linter.unusedVariables false
set_option linter.unusedSimpArgs false
open Sha Cha
def isW (x : Int) : Prop := 0 ≤ x ∧ x < 18446744073709551616
theorem QcH (x y c : Int) (hx : isW x) (hy : isW y) (hc : 0 ≤ c ∧ c ≤ 1) :
    ∃ s d : Int, isW s ∧ (0 ≤ d ∧ d ≤ 1) ∧ s + 18446744073709551616 * d = x + y + c ∧
      ∀ W, (callFunc 48 #[.int .u64 x, .int .u64 y, .int .u64 c]).run Tryd.prog W = .ok (.value (.tuple #[.int .u64 s, .int .u64 d])) W := by
  unfold isW at hx hy
  refine ⟨(x + y + c) % 18446744073709551616, (x + y + c) / 18446744073709551616, ⟨by omega, by omega⟩, by omega, by omega, fun W => ?_⟩
  rw [run_callFunc_extern Tryd.func48 kj kj kj (e := add64Entry) kj, run_add64 x y c hx.1 hy.1 hc.1 hc.2]
  rfl
theorem maskN (a : Int) (h : isW a) : bits .and .u64 a 4294967295 = a % 4294967296 := by
  obtain ⟨A, rfl⟩ := Int.eq_ofNat_of_zero_le h.1
  have h := bits_and_u64_nat A 4294967295 (by have := h.2; omega) (by omega)
  have e : A &&& 4294967295 = A % 4294967296 := Nat.and_two_pow_sub_one_eq_mod A 32
  rw [e] at h
  exact h
theorem QiZ (a : Int) (h : isW a) : IntKind.u64.wrap a = a := by rw [IntKind.wrap_u64]; have := h.1; have := h.2; omega
theorem QhT (x y : Int) (hx : isW x) (hy : isW y) :
    ∃ hi lo : Int, isW hi ∧ isW lo ∧ lo + 18446744073709551616 * hi = x * y ∧ ∀ w, Calls Tryd.prog 56 #[.int .u64 x, .int .u64 y] w (fun e w' => e = .returned (.tuple #[.int .u64 hi, .int .u64 lo]) ∧ w' = w) := by
  obtain ⟨X, rfl⟩ := Int.eq_ofNat_of_zero_le hx.1
  obtain ⟨Y, rfl⟩ := Int.eq_ofNat_of_zero_le hy.1
  have hX : X < 18446744073709551616 := by have := hx.2; omega
  have hY : Y < 18446744073709551616 := by have := hy.2; omega
  have hXY : X * Y < 18446744073709551616 * 18446744073709551616 := Nat.mul_lt_mul'' hX hY
  refine ⟨((X * Y / 18446744073709551616 : Nat) : Int), ((X * Y % 18446744073709551616 : Nat) : Int), ⟨by omega, by omega⟩, ⟨by omega, by omega⟩, ?_, fun w => ?_⟩
  · rw [← Int.natCast_mul]; omega
  obtain ⟨bd, bt, bw, hhi⟩ := Lib.mul64_hi X Y hX hY
  have ba := Lib.half_mul_le (a := X / 4294967296) (b := Y / 4294967296) (by omega) (by omega)
  have bb := Lib.half_mul_le (a := X / 4294967296) (b := Y % 4294967296) (by omega) (by omega)
  have bc := Lib.half_mul_le (a := X % 4294967296) (b := Y / 4294967296) (by omega) (by omega)
  have ba' : X / 4294967296 * (Y / 4294967296) < 18446744073709551616 := by omega
  have bb' : X / 4294967296 * (Y % 4294967296) < 18446744073709551616 := by omega
  have bc' : X % 4294967296 * (Y / 4294967296) < 18446744073709551616 := by omega
  have bh1 : X / 4294967296 * (Y / 4294967296) + (X / 4294967296 * (Y % 4294967296) + X % 4294967296 * (Y % 4294967296) / 4294967296) / 4294967296 < 18446744073709551616 := by omega
  have bh : X / 4294967296 * (Y / 4294967296) + (X / 4294967296 * (Y % 4294967296) + X % 4294967296 * (Y % 4294967296) / 4294967296) / 4294967296 + ((X / 4294967296 * (Y % 4294967296) + X % 4294967296 * (Y % 4294967296) / 4294967296) % 4294967296 + X % 4294967296 * (Y / 4294967296)) / 4294967296 < 18446744073709551616 := by omega
  go_enter Tryd.func56, Tryd.ntmps56
  go_wp2
  simp only [Mul64.maskN X hX, Mul64.maskN Y hY, Mul64.divN, Mul64.mulN, Mul64.addN, Mul64.wrapN _ bd, Mul64.wrapN _ bb', Mul64.wrapN _ bt, Mul64.maskN _ bt, Mul64.wrapN _ bc', Mul64.wrapN _ bw, Mul64.wrapN _ ba', Mul64.wrapN _ bh1, Mul64.wrapN _ bh, Mul64.wrapM (X * Y)]
  rw [hhi]
  go_ret2
  exact ⟨rfl, rfl⟩
theorem Qby : isW 0 := ⟨by decide, by decide⟩
def nw3 (v : Int) : List Int := [v % 18446744073709551616, v / 18446744073709551616 % 18446744073709551616, v / 340282366920938463463374607431768211456 % 18446744073709551616]
theorem Qjj {a b c v : Int} (ha : isW a) (hb : isW b) (hc : isW c) (h : a + 18446744073709551616 * b + 340282366920938463463374607431768211456 * c = v) : [a, b, c] = nw3 v := by
  obtain ⟨a0, a1⟩ := ha
  obtain ⟨b0, b1⟩ := hb
  obtain ⟨c0, c1⟩ := hc
  subst h
  unfold nw3
  have e1 : (a + 18446744073709551616 * b + 340282366920938463463374607431768211456 * c) % 18446744073709551616 = a := by omega
  have e2 : (a + 18446744073709551616 * b + 340282366920938463463374607431768211456 * c) / 18446744073709551616 % 18446744073709551616 = b := by omega
  have e3 : (a + 18446744073709551616 * b + 340282366920938463463374607431768211456 * c) / 340282366920938463463374607431768211456 % 18446744073709551616 = c := by omega
  rw [e1, e2, e3]
theorem Qcv (v : Int) : isW (v % 18446744073709551616) := ⟨by omega, by omega⟩
theorem Qfu (v : Int) (h0 : 0 ≤ v) (h : v < 6277101735386680763835789423207666416102355444464034512896) : v % 18446744073709551616 + 18446744073709551616 * (v / 18446744073709551616 % 18446744073709551616) + 340282366920938463463374607431768211456 * (v / 340282366920938463463374607431768211456 % 18446744073709551616) = v := by omega
theorem Qj9 (t : Nat) (ht : t < 8) : 0 < p256 t ∧ 256 * p256 t ≤ 18446744073709551616 := by
  have : ∀ t : Fin 8, 0 < p256 t.1 ∧ 256 * p256 t.1 ≤ 18446744073709551616 := by decide +kernel
  exact this ⟨t, ht⟩
theorem QhK (u x : Int) (t : Nat) (h0 : 0 ≤ u) (h1 : u < p256 t) (hx : 0 ≤ x ∧ x < 256) (ht : t < 8) : bits .or .u64 u (x * p256 t) = u + x * p256 t := by
  obtain ⟨U, rfl⟩ := Int.eq_ofNat_of_zero_le h0
  obtain ⟨X, rfl⟩ := Int.eq_ofNat_of_zero_le hx.1
  obtain ⟨q0, q1⟩ := Qj9 t ht
  have e : p256 t = ((2 ^ (8 * t) : Nat) : Int) := by unfold p256; rw [Nat.pow_mul]; simp
  have hX : X < 256 := by omega
  rw [e] at h1 q0 q1 ⊢
  have hU : U < 2 ^ (8 * t) := by omega
  have q2 : 256 * 2 ^ (8 * t) ≤ 18446744073709551616 := by omega
  have hm : X * 2 ^ (8 * t) + 2 ^ (8 * t) ≤ 18446744073709551616 := by
    have : (X + 1) * 2 ^ (8 * t) ≤ 256 * 2 ^ (8 * t) := Nat.mul_le_mul_right _ hX
    rw [Nat.succ_mul] at this; omega
  rw [← Int.natCast_mul, bits_or_u64_nat U (X * 2 ^ (8 * t)) (by omega) (by omega)]
  have h := Nat.shiftLeft_add_eq_or_of_lt hU X
  rw [Nat.shiftLeft_eq] at h
  rw [Nat.or_comm, ← h]
  rw [Int.natCast_add]; omega
theorem Qk2 (x : Int) (t : Nat) (c : Int) (hc : c = ((8 * t : Nat) : Int)) (hx : 0 ≤ x ∧ x < 256) (ht : t < 8) : IntKind.u64.wrap (x * 2 ^ min c.toNat IntKind.u64.bits) = x * p256 t := by
  subst hc
  have hm : min (((8 * t : Nat) : Int)).toNat IntKind.u64.bits = 8 * t := by show min (((8 * t : Nat) : Int)).toNat 64 = 8 * t; omega
  have e : (2 : Int) ^ (8 * t) = p256 t := by unfold p256; rw [Int.pow_mul]; rfl
  obtain ⟨q0, q1⟩ := Qj9 t ht
  rw [hm, e]
  have h1 : 0 ≤ x * p256 t := Int.mul_nonneg hx.1 (by omega)
  have h2 : x * p256 t ≤ 255 * p256 t := Int.mul_le_mul_of_nonneg_right (by omega) (by omega)
  exact QiZ _ ⟨h1, by omega⟩
theorem Qhb (v x : Int) (i : Nat) (hi : i < 24) (h0 : 0 ≤ v) (h1 : v < p256 i) (hx : 0 ≤ x ∧ x < 256) :
    bits .or .u64 (nth (nw3 v) (i / 8)) (x * p256 (i % 8)) = nth (nw3 (v + x * p256 i)) (i / 8) ∧ (nw3 v).set (i / 8) (nth (nw3 (v + x * p256 i)) (i / 8)) = nw3 (v + x * p256 i) := by
  obtain ⟨t, et⟩ : ∃ t, t = i % 8 := ⟨_, rfl⟩
  have ht : t < 8 := by omega
  obtain ⟨q0, q1⟩ := Qj9 t ht
  obtain ⟨z, ez⟩ : ∃ z, z = x * p256 t := ⟨_, rfl⟩
  have hz0 : 0 ≤ z := by rw [ez]; exact Int.mul_nonneg hx.1 (by omega)
  have hz1 : z ≤ 255 * p256 t := by rw [ez]; exact Int.mul_le_mul_of_nonneg_right (by omega) (by omega)
  rw [← et]
  have hp8 : p256 8 = 18446744073709551616 := by decide +kernel
  have hp16 : p256 16 = 340282366920938463463374607431768211456 := p16
  rcases (show i = t ∨ i = 8 + t ∨ i = 16 + t by omega) with e | e | e
  · have hd : i / 8 = 0 := by omega
    have hv : v < p256 t := by rw [e] at h1; exact h1
    have hxp : x * p256 i = z := by rw [e, ez]
    rw [hd, hxp]
    have e1 : nth (nw3 v) 0 = v := by show v % _ = v; omega
    have e2 : nth (nw3 (v + z)) 0 = v + z := by show (v + z) % _ = v + z; omega
    rw [e1, e2]
    refine ⟨by rw [QhK v x t h0 hv hx ht, ez], ?_⟩
    show [v + z, v / 18446744073709551616 % 18446744073709551616, v / 340282366920938463463374607431768211456 % 18446744073709551616] = [(v + z) % 18446744073709551616, (v + z) / 18446744073709551616 % 18446744073709551616, (v + z) / 340282366920938463463374607431768211456 % 18446744073709551616]
    congr 1
    · omega
    · congr 1
      · omega
      · congr 1; omega
  · have hd : i / 8 = 1 := by omega
    have hpi : p256 i = 18446744073709551616 * p256 t := by rw [e, Qcz, hp8]
    have hv : v < 18446744073709551616 * p256 t := by rw [hpi] at h1; exact h1
    have hxp : x * p256 i = 18446744073709551616 * z := by rw [hpi, ez]; grind
    rw [hd, hxp]
    have e1 : nth (nw3 v) 1 = v / 18446744073709551616 := by show v / _ % _ = v / _; omega
    have e2 : nth (nw3 (v + 18446744073709551616 * z)) 1 = v / 18446744073709551616 + z := by show (v + _ * z) / _ % _ = _; omega
    rw [e1, e2]
    refine ⟨by rw [QhK (v / 18446744073709551616) x t (by omega) (by omega) hx ht, ez], ?_⟩
    show [v % 18446744073709551616, v / 18446744073709551616 + z, v / 340282366920938463463374607431768211456 % 18446744073709551616] = [(v + 18446744073709551616 * z) % 18446744073709551616, (v + 18446744073709551616 * z) / 18446744073709551616 % 18446744073709551616, (v + 18446744073709551616 * z) / 340282366920938463463374607431768211456 % 18446744073709551616]
    congr 1
    · omega
    · congr 1
      · omega
      · congr 1; omega
  · have hd : i / 8 = 2 := by omega
    have hpi : p256 i = 340282366920938463463374607431768211456 * p256 t := by rw [e, Qcz, hp16]
    have hv : v < 340282366920938463463374607431768211456 * p256 t := by rw [hpi] at h1; exact h1
    have hxp : x * p256 i = 340282366920938463463374607431768211456 * z := by rw [hpi, ez]; grind
    rw [hd, hxp]
    have e1 : nth (nw3 v) 2 = v / 340282366920938463463374607431768211456 := by show v / _ % _ = v / _; omega
    have e2 : nth (nw3 (v + 340282366920938463463374607431768211456 * z)) 2 = v / 340282366920938463463374607431768211456 + z := by show (v + _ * z) / _ % _ = _; omega
    rw [e1, e2]
    refine ⟨by rw [QhK (v / 340282366920938463463374607431768211456) x t (by omega) (by omega) hx ht, ez], ?_⟩
    show [v % 18446744073709551616, v / 18446744073709551616 % 18446744073709551616, v / 340282366920938463463374607431768211456 + z] = [(v + 340282366920938463463374607431768211456 * z) % 18446744073709551616, (v + 340282366920938463463374607431768211456 * z) / 18446744073709551616 % 18446744073709551616, (v + 340282366920938463463374607431768211456 * z) / 340282366920938463463374607431768211456 % 18446744073709551616]
    congr 1
    · omega
    · congr 1
      · omega
      · congr 1; omega
theorem Qa5 (v : Int) : (nw3 v).length = 3 := rfl
set_option maxHeartbeats 4000000 in
theorem Qk6 (m0_ m1_ m2_ n0_ n1_ n2_ v : Int) (hm0_ : isW m0_) (hm1_ : isW m1_) (hm2_ : isW m2_) (hn0_ : isW n0_) (hn1_ : isW n1_) (hn2_ : isW n2_) (hv : (m0_ + 18446744073709551616 * m1_ + 340282366920938463463374607431768211456 * m2_) + (n0_ + 18446744073709551616 * n1_ + 340282366920938463463374607431768211456 * n2_) = v) (hlt : v < 6277101735386680763835789423207666416102355444464034512896) (w : World) :
    Calls Tryd.prog 40 #[.agg (ints .u64 [m0_, m1_, m2_]), .agg (ints .u64 [n0_, n1_, n2_])] w (Ret w (.agg (ints .u64 (nw3 v)))) := by
  refine enter 25 [(0, .agg (ints .u64 ([m0_, m1_, m2_]))), (1, .agg (ints .u64 ([n0_, n1_, n2_])))] Tryd.func40 rfl rfl kj rfl ?_
  refine wp_seq_k fun K1 hK1 => ?_
  refine Qab ?_
  refine Qar (ints .u64 ([m0_, m1_, m2_])) 66 2 rfl kj kj fun g2 W1 l2 e1 r2_1 => ?_
  have x1 : Ext w W1 := Ext.tr (Rely.Ext.refl w) e1
  have b2 : w.heap.size ≤ g2 := Nat.le_trans (Rely.Ext.refl w).size l2
  refine Qar (ints .u64 ([n0_, n1_, n2_])) 66 3 rfl kj kj fun g3 W2 l3 e2 r3_2 => ?_
  have x2 : Ext w W2 := Ext.tr x1 e2
  have b3 : w.heap.size ≤ g3 := Nat.le_trans x1.size l3
  refine Qar (ints .u64 ([0, 0, 0])) 66 4 rfl kj kj fun g4 W3 l4 e3 r4_3 => ?_
  have x3 : Ext w W3 := Ext.tr x2 e3
  have b4 : w.heap.size ≤ g4 := Nat.le_trans x2.size l4
  refine Qac ?_
  refine hK1 _ _ ?_
  refine wp_seq_k fun K5 hK5 => ?_
  refine Qab ?_
  refine Qaa (.int .u64 0) 5 rfl kj kj ?_
  refine Qac ?_
  refine hK5 _ _ ?_
  refine wp_seq_k fun K6 hK6 => ?_
  refine wp_seq_k fun K7 hK7 => ?_
  refine Qab ?_
  refine Qaa (.int .i64 0) 7 rfl kj kj ?_
  refine Qac ?_
  refine hK7 _ _ ?_
  refine wp_block ?_
  refine wp_loop_rounds 4 ?_
  show Code.wp _ _ (Exit.then (Code.rounds _ _ _ 3) _) _ _
  refine wp_seq_k fun K8 hK8 => ?_
  refine Qab ?_
  refine Qaa (.bool true) 8 rfl kj kj ?_
  refine Qac ?_
  refine hK8 _ _ ?_
  refine wp_seq_k fun K9 hK9 => ?_
  refine cond_true kj ?_
  refine wp_skip ?_
  refine hK9 _ _ ?_
  refine wp_seq_k fun K10 hK10 => ?_
  refine wp_block ?_
  refine wp_seq_k fun K11 hK11 => ?_
  refine Qab ?_
  refine Qaa (.int .i64 0) 9 rfl kj kj ?_
  refine Qaa (.int .i64 0) 6 rfl kj kj ?_
  refine Qac ?_
  refine hK11 _ _ ?_
  refine Qb3 (fun W => True) [⟨none, [(6, none)]⟩, ⟨none, [(6, none)]⟩, ⟨none, [(2, none), (12, some 1)]⟩, ⟨none, [(13, some 2)]⟩, ⟨none, [(6, none)]⟩, ⟨none, [(3, none), (15, some 4)]⟩, ⟨none, [(16, some 5)]⟩, ⟨none, [(5, none)]⟩, ⟨none, [(14, some 3), (17, some 6), (18, some 7)]⟩, ⟨none, [(19, some 8)]⟩, ⟨none, [(10, some 9)]⟩, ⟨none, [(10, some 9)]⟩, ⟨none, [(2, none), (11, some 0)]⟩, ⟨none, [(22, some 12), (20, some 10)]⟩, ⟨none, [(21, some 11)]⟩] [] [11, 14] kj kj kj (fun W hR => trivial) fun F hF => ?_
  refine Qay (.int .i64 0) kj kj rfl (fun W => by kernel_rfl) ?_
  refine Qay (.int .i64 0) kj kj rfl (fun W => by kernel_rfl) ?_
  refine Qay (.pointer (some ⟨g2, 0, none⟩)) kj kj rfl (fun W => by kernel_rfl) ?_
  have r2_2 := (Qad r2_1 e2)
  have r2_3 := (Qad r2_2 e3)
  refine QaK (.int .u64 m0_) kj kj kj rfl (fun W hR => (Qae 64 _ g2 0 66 _ (.int .u64 m0_) _ (Qad (Qad r2_3 (Qai _)) hR) rfl kj kj kj)) ?_
  refine Qay (.int .i64 0) kj kj rfl (fun W => by kernel_rfl) ?_
  refine Qay (.pointer (some ⟨g3, 0, none⟩)) kj kj rfl (fun W => by kernel_rfl) ?_
  have r3_3 := (Qad r3_2 e3)
  refine QaK (.int .u64 n0_) kj kj kj rfl (fun W hR => (Qae 64 _ g3 0 66 _ (.int .u64 n0_) _ (Qad (Qad r3_3 (Qai _)) hR) rfl kj kj kj)) ?_
  refine Qay (.int .u64 0) kj kj rfl (fun W => by kernel_rfl) ?_
  obtain ⟨s1, d1, hs1, hd1, he1, ra1⟩ := QcH (m0_) (n0_) (0) hm0_ hn0_ ⟨by decide, by decide⟩
  refine Qay (.tuple #[.int .u64 (s1), .int .u64 (d1)]) kj kj rfl (fun W => (Qbk (f := 48) (args := #[.int .u64 m0_, .int .u64 n0_, .int .u64 0]) _ _ _ rfl kj kj (ra1 _))) ?_
  refine Qay (.tuple #[.int .u64 (s1), .int .u64 (d1)]) kj kj rfl (fun W => by kernel_rfl) ?_
  refine Qay (.int .u64 (s1)) kj kj rfl (fun W => by kernel_rfl) ?_
  refine Qay (.int .u64 (d1)) kj kj rfl (fun W => by kernel_rfl) ?_
  refine Qay (.pointer (some ⟨g2, 0, none⟩)) kj kj rfl (fun W => by kernel_rfl) ?_
  refine Qbb rfl ?_
  refine Qay (.int .u64 (d1)) kj kj rfl (fun W => by kernel_rfl) ?_
  refine Qe5 (hF _ kj fun W4 e4 => ?_)
  simp only [List.nil_append, List.cons_append, fins, up]
  clear hF
  have x4 : Ext w W4 := Ext.tr x3 e4
  have r2_4 := (Qad r2_3 e4)
  refine QaQ _ g2 _ (ints .u64 ([(s1), m1_, m2_])) 66 r2_4 rfl (Qan 64 _ _ g2 0 66 _ _ r2_4 rfl kj kj kj (show 0 < 3 by decide)) (fun W hp => trivial) fun W5 p5 r2_5 => ?_
  have x5 : Ext w W5 := Puts.ext p5 x4 b2
  refine Qdl ?_
  refine hK10 _ _ ?_
  refine Qab ?_
  refine Qaa (.int .i64 1) 23 rfl kj kj ?_
  refine Qaa (.int .i64 1) 7 rfl kj kj ?_
  refine Qac ?_
  show Code.rounds _ _ _ 3 _ _
  show Code.wp _ _ (Exit.then (Code.rounds _ _ _ 2) _) _ _
  refine wp_seq_k fun K12 hK12 => ?_
  refine Qab ?_
  refine Qaa (.bool true) 8 rfl kj kj ?_
  refine Qac ?_
  refine hK12 _ _ ?_
  refine wp_seq_k fun K13 hK13 => ?_
  refine cond_true kj ?_
  refine wp_skip ?_
  refine hK13 _ _ ?_
  refine wp_seq_k fun K14 hK14 => ?_
  refine wp_block ?_
  refine wp_seq_k fun K15 hK15 => ?_
  refine Qab ?_
  refine Qaa (.int .i64 1) 9 rfl kj kj ?_
  refine Qaa (.int .i64 1) 6 rfl kj kj ?_
  refine Qac ?_
  refine hK15 _ _ ?_
  refine Qb3 (fun W => True) [⟨none, [(6, none)]⟩, ⟨none, [(6, none)]⟩, ⟨none, [(2, none), (12, some 1)]⟩, ⟨none, [(13, some 2)]⟩, ⟨none, [(6, none)]⟩, ⟨none, [(3, none), (15, some 4)]⟩, ⟨none, [(16, some 5)]⟩, ⟨none, [(5, none)]⟩, ⟨none, [(14, some 3), (17, some 6), (18, some 7)]⟩, ⟨none, [(19, some 8)]⟩, ⟨none, [(10, some 9)]⟩, ⟨none, [(10, some 9)]⟩, ⟨none, [(2, none), (11, some 0)]⟩, ⟨none, [(22, some 12), (20, some 10)]⟩, ⟨none, [(21, some 11)]⟩] [] [11, 14] kj kj kj (fun W hR => trivial) fun F hF => ?_
  refine Qay (.int .i64 1) kj kj rfl (fun W => by kernel_rfl) ?_
  refine Qay (.int .i64 1) kj kj rfl (fun W => by kernel_rfl) ?_
  refine Qay (.pointer (some ⟨g2, 1, none⟩)) kj kj rfl (fun W => by kernel_rfl) ?_
  refine QaK (.int .u64 m1_) kj kj kj rfl (fun W hR => (Qae 64 _ g2 1 66 _ (.int .u64 m1_) _ (Qad (Qad r2_5 (Qai _)) hR) rfl kj kj kj)) ?_
  refine Qay (.int .i64 1) kj kj rfl (fun W => by kernel_rfl) ?_
  refine Qay (.pointer (some ⟨g3, 1, none⟩)) kj kj rfl (fun W => by kernel_rfl) ?_
  have r3_4 := (Qad r3_3 e4)
  have r3_5 := (Puts.row p5 r3_4 (Qat r2_1 l3))
  refine QaK (.int .u64 n1_) kj kj kj rfl (fun W hR => (Qae 64 _ g3 1 66 _ (.int .u64 n1_) _ (Qad (Qad r3_5 (Qai _)) hR) rfl kj kj kj)) ?_
  refine Qay (.int .u64 (d1)) kj kj rfl (fun W => by kernel_rfl) ?_
  obtain ⟨s2, d2, hs2, hd2, he2, ra2⟩ := QcH (m1_) (n1_) (d1) hm1_ hn1_ hd1
  refine Qay (.tuple #[.int .u64 (s2), .int .u64 (d2)]) kj kj rfl (fun W => (Qbk (f := 48) (args := #[.int .u64 m1_, .int .u64 n1_, .int .u64 (d1)]) _ _ _ rfl kj kj (ra2 _))) ?_
  refine Qay (.tuple #[.int .u64 (s2), .int .u64 (d2)]) kj kj rfl (fun W => by kernel_rfl) ?_
  refine Qay (.int .u64 (s2)) kj kj rfl (fun W => by kernel_rfl) ?_
  refine Qay (.int .u64 (d2)) kj kj rfl (fun W => by kernel_rfl) ?_
  refine Qay (.pointer (some ⟨g2, 1, none⟩)) kj kj rfl (fun W => by kernel_rfl) ?_
  refine Qbb rfl ?_
  refine Qay (.int .u64 (d2)) kj kj rfl (fun W => by kernel_rfl) ?_
  refine Qe5 (hF _ kj fun W6 e6 => ?_)
  simp only [List.nil_append, List.cons_append, fins, up]
  clear hF
  have x6 : Ext w W6 := Ext.tr x5 e6
  have r2_6 := (Qad r2_5 e6)
  refine QaQ _ g2 _ (ints .u64 ([(s1), (s2), m2_])) 66 r2_6 rfl (Qan 64 _ _ g2 1 66 _ _ r2_6 rfl kj kj kj (show 1 < 3 by decide)) (fun W hp => trivial) fun W7 p7 r2_7 => ?_
  have x7 : Ext w W7 := Puts.ext p7 x6 b2
  refine Qdl ?_
  refine hK14 _ _ ?_
  refine Qab ?_
  refine Qaa (.int .i64 2) 23 rfl kj kj ?_
  refine Qaa (.int .i64 2) 7 rfl kj kj ?_
  refine Qac ?_
  show Code.rounds _ _ _ 2 _ _
  show Code.wp _ _ (Exit.then (Code.rounds _ _ _ 1) _) _ _
  refine wp_seq_k fun K16 hK16 => ?_
  refine Qab ?_
  refine Qaa (.bool true) 8 rfl kj kj ?_
  refine Qac ?_
  refine hK16 _ _ ?_
  refine wp_seq_k fun K17 hK17 => ?_
  refine cond_true kj ?_
  refine wp_skip ?_
  refine hK17 _ _ ?_
  refine wp_seq_k fun K18 hK18 => ?_
  refine wp_block ?_
  refine wp_seq_k fun K19 hK19 => ?_
  refine Qab ?_
  refine Qaa (.int .i64 2) 9 rfl kj kj ?_
  refine Qaa (.int .i64 2) 6 rfl kj kj ?_
  refine Qac ?_
  refine hK19 _ _ ?_
  refine Qb3 (fun W => True) [⟨none, [(6, none)]⟩, ⟨none, [(6, none)]⟩, ⟨none, [(2, none), (12, some 1)]⟩, ⟨none, [(13, some 2)]⟩, ⟨none, [(6, none)]⟩, ⟨none, [(3, none), (15, some 4)]⟩, ⟨none, [(16, some 5)]⟩, ⟨none, [(5, none)]⟩, ⟨none, [(14, some 3), (17, some 6), (18, some 7)]⟩, ⟨none, [(19, some 8)]⟩, ⟨none, [(10, some 9)]⟩, ⟨none, [(10, some 9)]⟩, ⟨none, [(2, none), (11, some 0)]⟩, ⟨none, [(22, some 12), (20, some 10)]⟩, ⟨none, [(21, some 11)]⟩] [] [11, 14] kj kj kj (fun W hR => trivial) fun F hF => ?_
  refine Qay (.int .i64 2) kj kj rfl (fun W => by kernel_rfl) ?_
  refine Qay (.int .i64 2) kj kj rfl (fun W => by kernel_rfl) ?_
  refine Qay (.pointer (some ⟨g2, 2, none⟩)) kj kj rfl (fun W => by kernel_rfl) ?_
  refine QaK (.int .u64 m2_) kj kj kj rfl (fun W hR => (Qae 64 _ g2 2 66 _ (.int .u64 m2_) _ (Qad (Qad r2_7 (Qai _)) hR) rfl kj kj kj)) ?_
  refine Qay (.int .i64 2) kj kj rfl (fun W => by kernel_rfl) ?_
  refine Qay (.pointer (some ⟨g3, 2, none⟩)) kj kj rfl (fun W => by kernel_rfl) ?_
  have r3_6 := (Qad r3_5 e6)
  have r3_7 := (Puts.row p7 r3_6 (Qat r2_1 l3))
  refine QaK (.int .u64 n2_) kj kj kj rfl (fun W hR => (Qae 64 _ g3 2 66 _ (.int .u64 n2_) _ (Qad (Qad r3_7 (Qai _)) hR) rfl kj kj kj)) ?_
  refine Qay (.int .u64 (d2)) kj kj rfl (fun W => by kernel_rfl) ?_
  obtain ⟨s3, d3, hs3, hd3, he3, ra3⟩ := QcH (m2_) (n2_) (d2) hm2_ hn2_ hd2
  refine Qay (.tuple #[.int .u64 (s3), .int .u64 (d3)]) kj kj rfl (fun W => (Qbk (f := 48) (args := #[.int .u64 m2_, .int .u64 n2_, .int .u64 (d2)]) _ _ _ rfl kj kj (ra3 _))) ?_
  refine Qay (.tuple #[.int .u64 (s3), .int .u64 (d3)]) kj kj rfl (fun W => by kernel_rfl) ?_
  refine Qay (.int .u64 (s3)) kj kj rfl (fun W => by kernel_rfl) ?_
  refine Qay (.int .u64 (d3)) kj kj rfl (fun W => by kernel_rfl) ?_
  refine Qay (.pointer (some ⟨g2, 2, none⟩)) kj kj rfl (fun W => by kernel_rfl) ?_
  refine Qbb rfl ?_
  refine Qay (.int .u64 (d3)) kj kj rfl (fun W => by kernel_rfl) ?_
  refine Qe5 (hF _ kj fun W8 e8 => ?_)
  simp only [List.nil_append, List.cons_append, fins, up]
  clear hF
  have x8 : Ext w W8 := Ext.tr x7 e8
  have r2_8 := (Qad r2_7 e8)
  refine QaQ _ g2 _ (ints .u64 ([(s1), (s2), (s3)])) 66 r2_8 rfl (Qan 64 _ _ g2 2 66 _ _ r2_8 rfl kj kj kj (show 2 < 3 by decide)) (fun W hp => trivial) fun W9 p9 r2_9 => ?_
  have x9 : Ext w W9 := Puts.ext p9 x8 b2
  refine Qdl ?_
  refine hK18 _ _ ?_
  refine Qab ?_
  refine Qaa (.int .i64 3) 23 rfl kj kj ?_
  refine Qaa (.int .i64 3) 7 rfl kj kj ?_
  refine Qac ?_
  show Code.rounds _ _ _ 1 _ _
  show Code.wp _ _ (Exit.then (Code.rounds _ _ _ 0) _) _ _
  refine wp_seq_k fun K20 hK20 => ?_
  refine Qab ?_
  refine Qaa (.bool false) 8 rfl kj kj ?_
  refine Qac ?_
  refine hK20 _ _ ?_
  refine wp_seq_k fun K21 hK21 => ?_
  refine cond_false kj ?_
  refine wp_exit ?_
  refine hK6 _ _ ?_
  refine wp_seq_k fun K22 hK22 => ?_
  refine Qab ?_
  refine Qaa (.agg (ints .u64 ([(s1), (s2), (s3)]))) 24 rfl kj (Qau 66 _ g2 66 _ _ r2_9 rfl kj kj (isz (n := 3) kj kj)) ?_
  have r4_4 := (Qad r4_3 e4)
  have r4_5 := (Puts.row p5 r4_4 (Qat r2_2 l4))
  have r4_6 := (Qad r4_5 e6)
  have r4_7 := (Puts.row p7 r4_6 (Qat r2_2 l4))
  have r4_8 := (Qad r4_7 e8)
  have r4_9 := (Puts.row p9 r4_8 (Qat r2_2 l4))
  refine Qal g4 _ (ints .u64 ([(s1), (s2), (s3)])) 66 r4_9 rfl kj (Qap 66 _ _ g4 66 _ _ r4_9 rfl kj kj (isz (n := 3) kj kj) (eqsz (n := 3) kj kj) (QaB _ _)) fun W10 p10 r4_10 => ?_
  have x10 : Ext w W10 := Puts.ext p10 x9 b4
  refine Qac ?_
  refine hK22 _ _ ?_
  refine wp_ret ?_
  repeat (first | with_reducible refine goR1 ?_ | with_reducible refine goR2 ?_)
  exact (show bodyPost _ _ _ .ret _ _ from ret1 (.agg (ints .u64 ([(s1), (s2), (s3)]))) rfl (Qbw g4 66 _ r4_10 kj kj (isz (n := 3) kj kj)) ⟨by rw [Qjj (v := v) hs1 hs2 hs3 (by obtain ⟨hs10, hs11⟩ := hs1; obtain ⟨hs20, hs21⟩ := hs2; obtain ⟨hs30, hs31⟩ := hs3; omega)], x10⟩)
theorem Qgl (a b : Int) (ha : 0 ≤ a) (hb : 0 ≤ b) (ha2 : a < 6277101735386680763835789423207666416102355444464034512896) (hb2 : b < 6277101735386680763835789423207666416102355444464034512896) (hlt : a + b < 6277101735386680763835789423207666416102355444464034512896) (w : World) :
    Calls Tryd.prog 40 #[.agg (ints .u64 (nw3 a)), .agg (ints .u64 (nw3 b))] w (Ret w (.agg (ints .u64 (nw3 (a + b))))) :=
  Qk6 _ _ _ _ _ _ (a + b) (Qcv _) (Qcv _) (Qcv _) (Qcv _) (Qcv _) (Qcv _) (by rw [Qfu a ha ha2, Qfu b hb hb2]) hlt w
set_option maxHeartbeats 4000000 in
theorem Qh3 (b : List Int) (v : Value) (B : Nat) (w : World) (hb : RdK .u8 B b v w) (hl : b.length ≤ 24) (hbb : Qaj b) : Calls Tryd.prog 38 #[v] w (Ret w (.agg (ints .u64 (nw3 (lev b))))) := by
 obtain ⟨a_b, c_b, rfl, -⟩ := id hb
 refine enter 27 [(0, .slice a_b b.length c_b)] Tryd.func38 rfl rfl kj rfl ?_
 refine wp_seq_k fun K1 hK1 => ?_
 refine Qab ?_
 refine Qar (ints .u64 ([0, 0, 0])) 66 2 rfl kj kj fun g2 W1 l2 e1 r2_1 => ?_
 have x1 : Ext w W1 := Ext.tr (Rely.Ext.refl w) e1
 have b2 : w.heap.size ≤ g2 := Nat.le_trans (Rely.Ext.refl w).size l2
 refine Qac ?_
 refine hK1 _ _ ?_
 refine wp_seq_k fun K3 hK3 => ?_
 refine Qab ?_
 refine Qar (ints .u64 ([0, 0, 0])) 66 3 rfl kj kj fun g4 W2 l4 e2 r4_2 => ?_
 have x2 : Ext w W2 := Ext.tr x1 e2
 have b4 : w.heap.size ≤ g4 := Nat.le_trans x1.size l4
 refine Qac ?_
 refine hK3 _ _ ?_
 refine wp_seq_k fun K5 hK5 => ?_
 refine wp_seq_k fun K6 hK6 => ?_
 refine Qab ?_
 refine Qaa (.slice a_b b.length c_b) 6 rfl kj kj ?_
 refine Qaa (.int .i64 ((b.length : Nat) : Int)) 7 rfl kj kj ?_
 refine Qaa (.int .i64 0) 8 rfl kj kj ?_
 refine Qac ?_
 refine hK6 _ _ ?_
 refine wp_block ?_
 have r4_2_7 : W2.heap[g4]? = some (.cells (ints .u64 (nw3 (lev (b.take 0)))) 66) := QaO r4_2 (by rw [List.take_zero]; rfl)
 refine QaH (fun (s1 : Nat) => [(2, .pointer (some ⟨g2, 0, none⟩)), (3, .pointer (some ⟨g4, 0, none⟩)), (6, .slice a_b b.length c_b), (7, .int .i64 ((b.length : Nat) : Int)), (8, .int .i64 ((s1 : Nat) : Int))]) (fun (s1 : Nat) W => (s1 ≤ b.length) ∧ (W.heap[g4]? = some (.cells (ints .u64 (nw3 (lev (b.take s1)))) 66)) ∧ (Qax [g4] W2 W) ∧ (Ext w W)) (fun (s1 : Nat) => b.length - s1) 0 ⟨rfl, rfl, rfl, rfl, rfl, trivial⟩ ⟨(Nat.zero_le _), r4_2_7, (Qax.refl [g4] W2), x2⟩ fun s1 X1 V1 hI1 => ?_
 obtain ⟨i, hs1⟩ : ∃ z, z = s1 := ⟨_, rfl⟩
 subst hs1
 obtain ⟨hi, q4_1, kk1, xx1⟩ := hI1
 replace hi : i ≤ b.length := hi
 replace q4_1 : V1.heap[g4]? = some (.cells (ints .u64 (nw3 (lev (b.take i)))) 66) := q4_1
 replace kk1 : Qax [g4] W2 V1 := kk1
 replace xx1 : Ext w V1 := xx1
 have q3 := kk1
 refine wp_seq_k fun K8 hK8 => ?_
 refine Qab ?_
 refine Qaa (.bool (decide (((i : Nat) : Int) < ((b.length : Nat) : Int)))) 9 rfl kj kj ?_
 refine Qac ?_
 refine hK8 _ _ ?_
 refine wp_seq_k fun K9 hK9 => ?_
 refine Qa8 (t := decide (((i : Nat) : Int) < ((b.length : Nat) : Int))) kj (fun c10 => ?_) (fun c10 => ?_)
 ·skip
  have hlt9 : i < b.length := by have := of_decide_eq_true c10; omega
  obtain ⟨grb11, orb11, harb11, -, hlrb11, hcrb11⟩ := Qb4 (RdK.ext hb xx1) (by omega)
  have hbi := Qa1 hbb i
  have hn0 := Qbl (Qa3 hbb i)
  have hn1 := Qd3 (Qa3 hbb i)
  rw [List.length_take, Nat.min_eq_left (by omega)] at hn1
  obtain ⟨hst1, hst2⟩ := Qhb (lev (b.take i)) (nth b i) i (by omega) hn0 hn1 hbi
  rw [← Qbh b i hlt9] at hst1 hst2
  refine wp_skip ?_
  refine hK9 _ _ ?_
  refine wp_seq_k fun K12 hK12 => ?_
  refine wp_block ?_
  refine wp_seq_k fun K13 hK13 => ?_
  refine Qab ?_
  refine Qaa (.int .i64 ((i : Nat) : Int)) 10 rfl kj kj ?_
  refine Qaa (.pointer (some ⟨grb11, orb11 + i, none⟩)) 11 rfl kj (QaJ 24 _ _ .i64 i grb11 orb11 b.length c_b 5 a_b _ harb11 rfl rfl kj kj kj kj (Nat.lt_of_lt_of_eq (show i < (b).length by omega) (rfl : (b).length = (b).length).symm)) ?_
  refine Qaa (.int .u8 (nth (b) (i))) 12 rfl kj (Qav 5 _ _ (.int .u8 (nth (b) (i))) (hcrb11 i (Nat.lt_of_lt_of_eq (show i < (b).length by omega) (rfl : (b).length = (b).length).symm)) rfl kj kj) ?_
  refine Qaa (.int .i64 ((i : Nat) : Int)) 4 rfl kj kj ?_
  refine Qaa (.int .u8 (nth (b) (i))) 5 rfl kj kj ?_
  refine Qac ?_
  refine hK13 _ _ ?_
  refine QaX 10 [⟨none, [(4, none)]⟩, ⟨none, [(13, some 0)]⟩, ⟨none, [(3, none), (14, some 1)]⟩, ⟨none, [(15, some 2)]⟩, ⟨none, [(5, none)]⟩, ⟨none, [(17, some 4)]⟩, ⟨none, [(4, none)]⟩, ⟨none, [(19, some 6)]⟩, ⟨none, [(20, some 7)]⟩, ⟨none, [(18, some 5), (21, some 8)]⟩] kj kj fun F hF => ?_
  refine Qa2 (Qam _) (.int .i64 ((i : Nat) : Int)) kj kj (fun W => by kernel_rfl) ?_
  refine Qa2 (Qam _) (.int .i64 ((i / 8 : Nat) : Int)) kj kj (fun W => (Qah (u := .int .i64 (IntKind.i64.wrap (Int.tdiv (((i : Nat) : Int)) (8)))) kj (congrArg (Value.int .i64) (Qde _ 8 (by omega))))) ?_
  refine Qa2 (Qam _) (.pointer (some ⟨g4, i / 8, none⟩)) kj kj (fun W => (QaZ _ _ _ .i64 (i / 8) _ 3 64 rfl kj kj kj kj (by omega))) ?_
  refine Qbm (Qam _) (.int .u64 (nth (nw3 (lev (b.take i))) (i / 8))) kj kj (fun W hR => (Qae 64 _ g4 (i / 8) 66 _ (.int .u64 (nth (nw3 (lev (b.take i))) (i / 8))) _ (Qad (Qad q4_1 (Qai _)) hR) rfl kj (Qa7 _ _ _ (Nat.lt_of_lt_of_eq (by omega) (Qa5 _).symm)) kj)) ?_
  refine Qa2 (Qam _) (.int .u8 (nth (b) (i))) kj kj (fun W => by kernel_rfl) ?_
  refine Qa2 (Qam _) (.int .u64 (nth b i)) kj kj (fun W => (Qah (u := .int .u64 (IntKind.u64.wrap (nth (b) (i)))) kj (congrArg (Value.int .u64) (QiZ _ ⟨hbi.1, by omega⟩)))) ?_
  refine Qa2 (Qam _) (.int .i64 ((i : Nat) : Int)) kj kj (fun W => by kernel_rfl) ?_
  refine Qa2 (Qam _) (.int .i64 ((i % 8 : Nat) : Int)) kj kj (fun W => (Qah (u := .int .i64 (Int.tmod (((i : Nat) : Int)) (8))) kj (congrArg (Value.int .i64) (QcC _ 8)))) ?_
  refine Qa2 (Qam _) (.int .i64 ((8 * (i % 8) : Nat) : Int)) kj kj (fun W => (Qah (u := .int .i64 (IntKind.i64.wrap (8 * ((i % 8 : Nat) : Int)))) kj (congrArg (Value.int .i64) (i64n _ _ (by omega) (by omega))))) ?_
  refine Qa2 (Qam _) (.int .u64 (nth b i * p256 (i % 8))) kj kj (fun W => (QbH .shl _ _ _ _ .u64 .i64 _ _ _ rfl kj kj (Qg1 _ _ _ _ _ _ (by omega) (Qk2 _ (i % 8) _ rfl hbi (by omega))))) ?_
  refine QcG (hF _ fun W4 e4 => ?_)
  simp only [List.nil_append, List.cons_append, List.take_succ_cons, List.take_zero, List.drop_succ_cons, List.drop_zero, finE, up]
  clear hF
  have x4 : Ext w W4 := Ext.tr xx1 e4
  refine Qaa (.int .u64 (nth (nw3 (lev (b.take (i + 1)))) (i / 8))) 23 rfl kj (Qah (u := .int .u64 (bits .or .u64 ((nth (nw3 (lev (b.take i))) (i / 8))) ((nth b i * p256 (i % 8))))) kj (congrArg (Value.int .u64) hst1)) ?_
  refine Qaa (.pointer (some ⟨g4, i / 8, none⟩)) 24 rfl kj (QaZ _ _ _ .i64 (i / 8) _ 3 64 rfl kj kj kj kj (by omega)) ?_
  have r4_4 := (Qad q4_1 e4)
  refine Qal g4 _ (ints .u64 ((nw3 (lev (b.take i))).set (i / 8) (nth (nw3 (lev (b.take (i + 1)))) (i / 8)))) 66 r4_4 rfl kj (Qan 64 _ _ g4 (i / 8) 66 _ _ r4_4 rfl kj kj kj (Nat.lt_of_lt_of_eq (by omega) (Qa5 _).symm)) fun W5 p5 r4_5 => ?_
  have x5 : Ext w W5 := Puts.ext p5 x4 b4
  refine Qac ?_
  refine hK12 _ _ ?_
  refine Qab ?_
  refine Qaa (.int .i64 ((i + 1 : Nat) : Int)) 25 rfl kj (Qah (u := .int .i64 (IntKind.i64.wrap (((i : Nat) : Int) + 1))) kj (congrArg (Value.int .i64) (i64n _ _ (by omega) (by omega)))) ?_
  refine Qaa (.int .i64 ((i + 1 : Nat) : Int)) 8 rfl kj kj ?_
  refine Qac ?_
  repeat (first | with_reducible refine goX1 ?_ | with_reducible refine goX2 ?_ | with_reducible refine goX3 ?_)
  exact Qaz (i + 1) ⟨rfl, rfl, rfl, rfl, rfl, trivial⟩ ⟨(show i + 1 ≤ b.length by omega), (QaO r4_5 hst2), (Qax.puts (Qax.step q3 e4) p5 (.inl (by simp))), x5⟩ (by show b.length - (i + 1) < b.length - i; omega)
 ·skip
  have heq9 : i = b.length := by have := of_decide_eq_false c10; omega
  subst heq9
  have r4_3_14 : V1.heap[g4]? = some (.cells (ints .u64 (nw3 (lev b))) 66) := QaO q4_1 (by rw [List.take_length])
  refine wp_exit ?_
  refine hK5 _ _ ?_
  refine wp_seq_k fun K15 hK15 => ?_
  refine Qab ?_
  refine Qaa (.agg (ints .u64 (nw3 (lev b)))) 26 rfl kj (Qau 66 _ g4 66 _ _ r4_3_14 rfl kj kj (isz (n := 3) kj ((Qaf _ _).trans (Qa5 _)))) ?_
  have r2_2 := (Qad r2_1 e2)
  have r2_3 := (Qax.row q3 r2_2 (Qbi (Qag r2_1 l4) Qb8))
  refine Qal g2 _ (ints .u64 (nw3 (lev b))) 66 r2_3 rfl kj (Qap 66 _ _ g2 66 _ _ r2_3 rfl kj kj (isz (n := 3) kj ((Qaf _ _).trans (Qa5 _))) (eqsz (n := 3) kj ((Qaf _ _).trans (Qa5 _))) (QaB _ _)) fun W4 p4 r2_4 => ?_
  have x4 : Ext w W4 := Puts.ext p4 xx1 b2
  refine Qac ?_
  refine hK15 _ _ ?_
  refine wp_ret ?_
  repeat (first | with_reducible refine goR1 ?_ | with_reducible refine goR2 ?_)
  exact (show bodyPost _ _ _ .ret _ _ from ret1 (.agg (ints .u64 (nw3 (lev b)))) rfl (Qbw g2 66 _ r2_4 kj kj (isz (n := 3) kj ((Qaf _ _).trans (Qa5 _)))) ⟨rfl, x4⟩)
end Go.Proofs.YtjldjdlhllgakaaDoor.Ae
end
