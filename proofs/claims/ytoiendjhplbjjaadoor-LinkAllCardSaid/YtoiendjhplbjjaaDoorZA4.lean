/- Texts of this claim, joined (A4). -/
import Derived.Test.YtoiendjhplbjjaaDoorZA3
import Derived.Laws.BitsAll
import Derived.Lib.SmallJoins
import Derived.Lib.LaidTab

section
namespace Go.Proofs.YtoiendjhplbjjaaDoor.Ll
open Go Go.RowKit
open Rely Auto Own Sha Sha
set_option linter.unusedVariables false
set_option linter.unusedSimpArgs false
open Cha Ae
def plV (j : Nat) : List Int := [((j % 256 : Nat) : Int), ((j / 256 % 256 : Nat) : Int)]
theorem Qdf (j : Nat) : (plV j).length = 2 := rfl
theorem QdB (j : Nat) : Qan (plV j) := fun x hx => by
  unfold plV at hx
  simp only [List.mem_cons, List.not_mem_nil, or_false] at hx
  rcases hx with rfl | rfl <;> omega
def mV (ka : List Int) (j : Nat) : List Int := msgV ka j (plV j)
theorem Qgn (tk : List Int) (n : Int) (h : 0 ≤ n ∧ n ≤ 4294967294) : chkT tk n = 0 ∨ (chkT tk n ≠ 0 ∧ n ∈ tk) ∨ (chkT tk n ≠ 0 ∧ n ∉ tk ∧ n < hiT tk - 64) := by
  unfold chkT
  rw [if_neg (by omega)]
  by_cases h1 : n < hiT tk - 64
  · rw [if_pos h1]
    by_cases h2 : n ∈ tk
    · exact .inr (.inl ⟨by decide, h2⟩)
    · exact .inr (.inr ⟨by decide, h2, h1⟩)
  · rw [if_neg h1]
    by_cases h2 : n ∈ tk
    · rw [if_pos h2]; exact .inr (.inl ⟨by decide, h2⟩)
    · rw [if_neg h2]; exact .inl rfl
theorem QfE (tk ts : List Int) (M kk : Nat) (hts : ts.length = M) (hk : kk < M) (h : ∀ k, k < M → nth ts k = if ((k : Nat) : Int) ∈ tk then 1 else 0) : ∀ k, k < M → nth (ts.set kk 1) k = if ((k : Nat) : Int) ∈ tk ++ [((kk : Nat) : Int)] then 1 else 0 := fun k hkM => by
  have hs := h k hkM
  unfold nth at hs ⊢
  rw [List.getD_eq_getElem?_getD] at hs ⊢
  by_cases e : kk = k
  · subst e
    rw [List.getElem?_set_self (by omega), if_pos (by simp)]; rfl
  · rw [List.getElem?_set_ne e, hs]
    have hiff : ((k : Nat) : Int) ∈ tk ++ [((kk : Nat) : Int)] ↔ ((k : Nat) : Int) ∈ tk := by
      rw [List.mem_append, List.mem_singleton]
      constructor
      · rintro (h | h)
        · exact h
        · exact absurd h (by omega)
      · exact .inl
    by_cases hm : ((k : Nat) : Int) ∈ tk
    · rw [if_pos hm, if_pos (hiff.2 hm)]
    · rw [if_neg hm, if_neg (fun x => hm (hiff.1 x))]
theorem times_zero (M : Nat) : ∀ k, k < M → nth (List.replicate M (0 : Int)) k = if ((k : Nat) : Int) ∈ ([] : List Int) then 1 else 0 := fun k hk => by
  rw [if_neg (by simp)]
  unfold nth
  rw [List.getD_eq_getElem?_getD, List.getElem?_replicate, if_pos hk]; rfl
theorem Qg6 (T : TypeId) (base : Nat) (f : Nat → List Int) (W : World) : Many T base f [] W := fun j u h => by simp at h
set_option maxRecDepth 100000 in
set_option maxHeartbeats 4000000 in
theorem QhN (ka kb os : List Int) (many : Int) (aO : Option Addr) (cO : Nat) (th tq : TypeId) (w : World) (hh : w.heap[2]? = some (.cells (ints .u32 [1634760805, 857760878, 2036477234, 1797285236]) th)) (hq : w.heap[3]? = some (.cells (ints .i64 [0, 4, 8, 12, 1, 5, 9, 13, 2, 6, 10, 14, 3, 7, 11, 15, 0, 5, 10, 15, 1, 6, 11, 12, 2, 7, 8, 13, 3, 4, 9, 14]) tq)) (hka : ka.length = 32) (hkb : kb.length = 32) (hbig : 400 < os.length) : Calls Tryd.prog 52 #[.agg (ints .u8 ka), .agg (ints .u8 kb), .int .i64 many, .slice aO os.length cO] w (Ret w (.bool true)) := by
  refine enter 137 [(0, .agg (ints .u8 (ka))), (1, .agg (ints .u8 (kb))), (2, .int .i64 many), (3, .slice aO os.length cO)] Tryd.func52 rfl rfl kj rfl ?_
  refine wp_seq_k fun K3 hK3 => ?_
  refine Qab ?_
  refine Qas (ints .u8 (ka)) 23 4 rfl kj kj fun g4 W1 l4 e1 r4_1 => ?_
  have x1 : Ext w W1 := Ext.tr (Rely.Ext.refl w) e1
  have b4 : w.heap.size ≤ g4 := Nat.le_trans (Rely.Ext.refl w).size l4
  refine Qas (ints .u8 (kb)) 23 5 rfl kj kj fun g5 W2 l5 e2 r5_2 => ?_
  have x2 : Ext w W2 := Ext.tr x1 e2
  have b5 : w.heap.size ≤ g5 := Nat.le_trans x1.size l5
  refine Qaa (.bool false) 8 rfl kj kj ?_
  refine Qac ?_
  refine hK3 _ _ ?_
  refine wp_seq_k fun K6 hK6 => ?_
  refine wp_seq_k fun K7 hK7 => ?_
  refine Qab ?_
  refine Qat (.bool true) 41 #[] 22 rfl kj kj ((Lk.alive12) _) fun W3 e3 => ?_
  have x3 : Ext w W3 := Ext.tr x2 e3
  refine Qaa (.bool false) 23 rfl kj kj ?_
  refine Qac ?_
  refine hK7 _ _ ?_
  refine cond_false kj ?_
  refine wp_skip ?_
  refine hK6 _ _ ?_
  refine wp_seq_k fun K8 hK8 => ?_
  refine wp_seq_k fun K9 hK9 => ?_
  refine Qab ?_
  refine Qaa (.slice aO os.length cO) 24 rfl kj kj ?_
  refine Qaa (.int .i64 ((os.length : Nat) : Int)) 25 rfl kj kj ?_
  refine Qaa (.bool true) 26 rfl kj (Qah (u := .bool (decide (((os.length : Nat) : Int) > 400))) kj (congrArg Value.bool (decide_eq_true (by omega)))) ?_
  refine Qac ?_
  refine hK9 _ _ ?_
  refine cond_true kj ?_
  refine wp_seq_k fun K10 hK10 => ?_
  refine Qab ?_
  refine Qaa (.bool true) 8 rfl kj kj ?_
  refine Qac ?_
  refine hK10 _ _ ?_
  refine wp_ret ?_
  repeat (first | with_reducible refine goR1 ?_ | with_reducible refine goR2 ?_)
  exact (show bodyPost _ _ _ .ret _ _ from ret1 (.bool true) rfl (Qa0 kj) ⟨rfl, x3⟩)
set_option maxRecDepth 100000 in
set_option maxHeartbeats 4000000 in
theorem QhM (ka kb os : List Int) (many : Int) (aO : Option Addr) (cO : Nat) (th tq : TypeId) (w : World) (hh : w.heap[2]? = some (.cells (ints .u32 [1634760805, 857760878, 2036477234, 1797285236]) th)) (hq : w.heap[3]? = some (.cells (ints .i64 [0, 4, 8, 12, 1, 5, 9, 13, 2, 6, 10, 14, 3, 7, 11, 15, 0, 5, 10, 15, 1, 6, 11, 12, 2, 7, 8, 13, 3, 4, 9, 14]) tq)) (hka : ka.length = 32) (hkb : kb.length = 32) (hos : RdK .i64 w.heap.size os (.slice aO os.length cO) w) (hsm : os.length ≤ 400) : Calls Tryd.prog 52 #[.agg (ints .u8 ka), .agg (ints .u8 kb), .int .i64 many, .slice aO os.length cO] w (Ret w (.bool true)) := by
 obtain ⟨q, eq_⟩ : ∃ q : Nat, (q : Int) = (many % 18446744073709551616) % 200 := ⟨((many % 18446744073709551616) % 200).toNat, Int.toNat_of_nonneg (Int.emod_nonneg _ (by omega))⟩
 have hq2 : q < 200 := by have := Int.emod_lt_of_pos (many % 18446744073709551616) (show (0 : Int) < 200 by omega); omega
 obtain ⟨M, eM⟩ : ∃ M : Nat, M = 1 + q := ⟨_, rfl⟩
 refine enter 137 [(0, .agg (ints .u8 (ka))), (1, .agg (ints .u8 (kb))), (2, .int .i64 many), (3, .slice aO os.length cO)] Tryd.func52 rfl rfl kj rfl ?_
 refine wp_seq_k fun K3 hK3 => ?_
 refine Qab ?_
 refine Qas (ints .u8 (ka)) 23 4 rfl kj kj fun g4 W1 l4 e1 r4_1 => ?_
 have x1 : Ext w W1 := Ext.tr (Rely.Ext.refl w) e1
 have b4 : w.heap.size ≤ g4 := Nat.le_trans (Rely.Ext.refl w).size l4
 refine Qas (ints .u8 (kb)) 23 5 rfl kj kj fun g5 W2 l5 e2 r5_2 => ?_
 have x2 : Ext w W2 := Ext.tr x1 e2
 have b5 : w.heap.size ≤ g5 := Nat.le_trans x1.size l5
 refine Qaa (.bool false) 8 rfl kj kj ?_
 refine Qac ?_
 refine hK3 _ _ ?_
 refine wp_seq_k fun K6 hK6 => ?_
 refine wp_seq_k fun K7 hK7 => ?_
 refine Qab ?_
 refine Qat (.bool true) 41 #[] 22 rfl kj kj ((Lk.alive12) _) fun W3 e3 => ?_
 have x3 : Ext w W3 := Ext.tr x2 e3
 refine Qaa (.bool false) 23 rfl kj kj ?_
 refine Qac ?_
 refine hK7 _ _ ?_
 refine cond_false kj ?_
 refine wp_skip ?_
 refine hK6 _ _ ?_
 refine wp_seq_k fun K8 hK8 => ?_
 refine wp_seq_k fun K9 hK9 => ?_
 refine Qab ?_
 refine Qaa (.slice aO os.length cO) 24 rfl kj kj ?_
 refine Qaa (.int .i64 ((os.length : Nat) : Int)) 25 rfl kj kj ?_
 refine Qaa (.bool false) 26 rfl kj (Qah (u := .bool (decide (((os.length : Nat) : Int) > 400))) kj (congrArg Value.bool (decide_eq_false (by omega)))) ?_
 refine Qac ?_
 refine hK9 _ _ ?_
 refine cond_false kj ?_
 refine wp_skip ?_
 refine hK8 _ _ ?_
 refine wp_seq_k fun K10 hK10 => ?_
 refine Qab ?_
 refine Qaa (.int .i64 many) 27 rfl kj kj ?_
 refine Qaa (.int .u64 (many % 18446744073709551616)) 28 rfl kj (Qah (u := .int .u64 (IntKind.u64.wrap (many))) kj (congrArg (Value.int .u64) rfl)) ?_
 refine Qaa (.int .u64 (((q : Nat) : Int))) 29 rfl kj (Qah (u := .int .u64 (Int.tmod ((many % 18446744073709551616)) (200))) kj (congrArg (Value.int .u64) (by rw [Int.tmod_eq_emod_of_nonneg (by omega)]; exact eq_.symm))) ?_
 refine Qaa (.int .i64 (((q : Nat) : Int))) 30 rfl kj (Qah (u := .int .i64 (IntKind.i64.wrap (((q : Nat) : Int)))) kj (congrArg (Value.int .i64) (IntWalk.i64_in _ (by omega)))) ?_
 refine Qaa (.int .i64 (((M : Nat) : Int))) 31 rfl kj (Qah (u := .int .i64 (IntKind.i64.wrap (1 + ((q : Nat) : Int)))) kj (congrArg (Value.int .i64) (by rw [show (1 : Int) + ((q : Nat) : Int) = ((M : Nat) : Int) by omega]; exact IntWalk.i64_in _ (by omega)))) ?_
 refine Qaa (.int .i64 (((M : Nat) : Int))) 2 rfl kj kj ?_
 refine Qac ?_
 refine hK10 _ _ ?_
 refine wp_seq_k fun K11 hK11 => ?_
 refine QaS 5 [⟨none, [(4, none)]⟩, ⟨none, [(5, none)]⟩, ⟨none, [(32, some 0), (33, some 1)]⟩, ⟨none, [(5, none)]⟩, ⟨none, [(4, none)]⟩] kj kj fun F hF => ?_
 have r4_2 := (Qad r4_1 e2)
 have r4_3 := (Qad r4_2 e3)
 refine Qbm (Qam _) (.agg (ints .u8 (ka))) kj kj (fun W hR => (Qar 23 _ g4 23 _ _ (Qad (Qad r4_3 (Qai _)) hR) rfl kj kj (isz (n := 32) kj ((Qaf _ _).trans hka)))) ?_
 have r5_3 := (Qad r5_2 e3)
 refine Qbm (Qam _) (.agg (ints .u8 (kb))) kj kj (fun W hR => (Qar 23 _ g5 23 _ _ (Qad (Qad r5_3 (Qai _)) hR) rfl kj kj (isz (n := 32) kj ((Qaf _ _).trans hkb)))) ?_
 refine Qdi (Qam _) (NewL W3.heap.size ka kb) (QeJ _ _ _) 43 #[.agg (ints .u8 (ka)), .agg (ints .u8 (kb))] kj kj (fun W => by kernel_rfl) (fun W hR => (newG W3.heap.size ka kb _ hka hkb (Rely.Ext.trans (Qai _) hR).size)) ?_
 refine Qbm (Qam _) (.agg (ints .u8 (kb))) kj kj (fun W hR => (Qar 23 _ g5 23 _ _ (Qad (Qad r5_3 (Qai _)) hR) rfl kj kj (isz (n := 32) kj ((Qaf _ _).trans hkb)))) ?_
 refine Qbm (Qam _) (.agg (ints .u8 (ka))) kj kj (fun W hR => (Qar 23 _ g4 23 _ _ (Qad (Qad r4_3 (Qai _)) hR) rfl kj kj (isz (n := 32) kj ((Qaf _ _).trans hka)))) ?_
 refine QcZ (hF _ fun W4 e4 => ?_)
 simp only [List.nil_append, List.cons_append, List.take_succ_cons, List.take_zero, List.drop_succ_cons, List.drop_zero, finE, up]
 intro vv12 hv12
 clear hF
 have x4 : Ext w W4 := Ext.tr x3 e4
 obtain ⟨gl14, rfl, ll14, rl14⟩ := hv12
 have b14 : w.heap.size ≤ gl14 := Nat.le_trans x3.size ll14
 refine Qa8 (fun v W' => (NewL W4.heap.size kb ka) v W' ∧ Ext W4 W') 43 #[.agg (ints .u8 (kb)), .agg (ints .u8 (ka))] 37 rfl kj kj ((newC kb ka _ hkb hka).mono (by rintro e w' ⟨v, rfl, e1, hv⟩; exact ⟨v, rfl, hv, e1⟩)) fun vv15 W5 hh15 => ?_
 obtain ⟨hv15, e5⟩ := hh15
 have x5 : Ext w W5 := Ext.tr x4 e5
 obtain ⟨gl17, rfl, ll17, rl17⟩ := hv15
 have b17 : w.heap.size ≤ gl17 := Nat.le_trans x4.size ll17
 refine Qaa (.pointer (some ⟨gl14, 0, none⟩)) 9 rfl kj kj ?_
 refine Qaa (.pointer (some ⟨gl17, 0, none⟩)) 10 rfl kj kj ?_
 refine Qac ?_
 refine hK11 _ _ ?_
 refine wp_seq_k fun K18 hK18 => ?_
 refine Qab ?_
 refine QbI (#[]) 33 0 38 rfl kj kj fun g19 W6 l19 e6 r19_6 => ?_
 have x6 : Ext w W6 := Ext.tr x5 e6
 have b19 : w.heap.size ≤ g19 := Nat.le_trans x5.size l19
 refine Qaa (.slice (some ⟨g19, 0, none⟩) 0 0) 11 rfl kj kj ?_
 refine Qac ?_
 refine hK18 _ _ ?_
 refine wp_seq_k fun K20 hK20 => ?_
 refine wp_seq_k fun K21 hK21 => ?_
 refine Qab ?_
 refine Qaa (.int .i64 (((M : Nat) : Int))) 39 rfl kj kj ?_
 refine Qaa (.int .i64 0) 40 rfl kj kj ?_
 refine Qac ?_
 refine hK21 _ _ ?_
 refine wp_block ?_
 have r14_5 := (Qad rl14 e5)
 have r1_1 := (Qad hq e1)
 have r1_2 := (Qad r1_1 e2)
 have r1_3 := (Qad r1_2 e3)
 have r1_4 := (Qad r1_3 e4)
 have r1_5 := (Qad r1_4 e5)
 have r2_1 := (Qad hh e1)
 have r2_2 := (Qad r2_1 e2)
 have r2_3 := (Qad r2_2 e3)
 have r2_4 := (Qad r2_3 e4)
 have r2_5 := (Qad r2_4 e5)
 have n_14_17 : gl14 ≠ gl17 := (Qag rl14 ll17)
 have n_17_14 : gl17 ≠ gl14 := (Qal rl14 ll17)
 have r14_6 := (Qad r14_5 e6)
 have r17_6 := (Qad rl17 e6)
 refine Qbb (fun (s1 : Nat × List Value × Value) => [(2, .int .i64 (((M : Nat) : Int))), (3, .slice aO os.length cO), (8, .bool false), (9, .pointer (some ⟨gl14, 0, none⟩)), (10, .pointer (some ⟨gl17, 0, none⟩)), (39, .int .i64 (((M : Nat) : Int))), (11, s1.2.2), (40, .int .i64 ((s1.1 : Nat) : Int))]) (fun (s1 : Nat × List Value × Value) W => (s1.1 ≤ M) ∧ (s1.2.1.length = s1.1) ∧ (Many 5 w.heap.size (mV ka) s1.2.1 W) ∧ (OwnR 33 W5.heap.size s1.2.1 s1.2.2 W) ∧ (W5.heap.size ≤ W.heap.size) ∧ (W.heap[gl14]? = some (.cells (cat [#[.int .i64 0], #[.int .u64 ((0 : Nat) : Int)], ints .u8 (ka), ints .u8 (kb), #[.int .i64 ((s1.1 : Nat) : Int)]]) 136)) ∧ (W.heap[gl17]? = some (.cells (cat [#[.int .i64 0], #[.int .u64 ((0 : Nat) : Int)], ints .u8 (kb), ints .u8 (ka), #[.int .i64 ((0 : Nat) : Int)]]) 136)) ∧ (Ext w W)) (fun (s1 : Nat × List Value × Value) => M - s1.1) (0, [], .slice (some ⟨g19, 0, none⟩) 0 0) ⟨rfl, rfl, rfl, rfl, rfl, rfl, rfl, rfl, trivial⟩ ⟨(Nat.zero_le _), rfl, (Qg6 _ _ _ _), (Qg4 l19 r19_6), (Nat.le_of_lt (Nat.lt_of_le_of_lt l19 (QaA r19_6))), r14_6, r17_6, x6⟩ fun s1 X1 V1 hI1 => ?_
 obtain ⟨i, vs, u⟩ := s1
 obtain ⟨hi, hvl, hms, hu, hbz, q14_1, q17_1, xx1⟩ := hI1
 replace hi : i ≤ M := hi
 replace hvl : vs.length = i := hvl
 replace hms : Many 5 w.heap.size (mV ka) vs V1 := hms
 replace hu : OwnR 33 W5.heap.size vs u V1 := hu
 replace hbz : W5.heap.size ≤ V1.heap.size := hbz
 replace q14_1 : V1.heap[gl14]? = some (.cells (cat [#[.int .i64 0], #[.int .u64 ((0 : Nat) : Int)], ints .u8 (ka), ints .u8 (kb), #[.int .i64 ((i : Nat) : Int)]]) 136) := q14_1
 replace q17_1 : V1.heap[gl17]? = some (.cells (cat [#[.int .i64 0], #[.int .u64 ((0 : Nat) : Int)], ints .u8 (kb), ints .u8 (ka), #[.int .i64 ((0 : Nat) : Int)]]) 136) := q17_1
 replace xx1 : Ext w V1 := xx1
 refine wp_seq_k fun K22 hK22 => ?_
 refine Qab ?_
 refine Qaa (.bool (decide (((i : Nat) : Int) < ((M : Nat) : Int)))) 41 rfl kj kj ?_
 refine Qac ?_
 refine hK22 _ _ ?_
 refine wp_seq_k fun K23 hK23 => ?_
 refine QaM (t := decide (((i : Nat) : Int) < ((M : Nat) : Int))) kj (fun c24 => ?_) (fun c24 => ?_)
 ·skip
  have hlt41 : i < M := by have := of_decide_eq_true c24; omega
  refine wp_skip ?_
  refine hK23 _ _ ?_
  refine wp_seq_k fun K25 hK25 => ?_
  refine wp_block ?_
  refine wp_seq_k fun K26 hK26 => ?_
  refine Qab ?_
  refine Qaa (.int .i64 ((i : Nat) : Int)) 42 rfl kj kj ?_
  refine Qaa (.int .i64 ((i : Nat) : Int)) 12 rfl kj kj ?_
  refine Qac ?_
  refine hK26 _ _ ?_
  refine wp_seq_k fun K27 hK27 => ?_
  refine Qab ?_
  refine Qaa (.pointer (some ⟨gl14, 0, none⟩)) 44 rfl kj kj ?_
  refine Qaa (.int .i64 ((i : Nat) : Int)) 45 rfl kj kj ?_
  refine Qaa (.int .u8 (((i % 256 : Nat) : Int))) 46 rfl kj (Qah (u := .int .u8 (IntKind.u8.wrap ((i : Nat) : Int))) kj (congrArg (Value.int .u8) (Qf8 _))) ?_
  refine Qaa (.int .i64 ((i : Nat) : Int)) 47 rfl kj kj ?_
  refine Qaa (.int .i64 (((i / 256 : Nat) : Int))) 48 rfl kj (QaF .shr _ _ _ _ .i64 .u64 _ _ _ rfl kj kj (Qc5 _ _ _ _ _ _ (by omega) (shrN i 8 256 (by decide)))) ?_
  refine Qaa (.int .u8 (((i / 256 % 256 : Nat) : Int))) 49 rfl kj (Qah (u := .int .u8 (IntKind.u8.wrap (((i / 256 : Nat) : Int)))) kj (congrArg (Value.int .u8) (Qf8 _))) ?_
  refine QbI (ints .u8 ([(((i % 256 : Nat) : Int)), (((i / 256 % 256 : Nat) : Int))])) 5 2 50 rfl kj kj fun g28 W8 l28 e8 r28_8 => ?_
  have x8 : Ext w W8 := Ext.tr xx1 e8
  have b28 : w.heap.size ≤ g28 := Nat.le_trans xx1.size l28
  have r28_8_29 : W8.heap[g28]? = some (.cells (ints .u8 (plV i)) 5) := QaD r28_8 rfl
  have r2_8 := (Qad (Qad hh xx1) e8)
  have r1_8 := (Qad (Qad hq xx1) e8)
  have r14_8 := (Qad q14_1 e8)
  refine Qa8 (fun v W' => ∃ u, v = .tuple #[u, .nilIface] ∧ OwnN .u8 5 W8.heap.size (mV ka i) u W' ∧ ExtB gl14 W8 W' ∧ W'.heap[gl14]? = some (.cells (cat [#[.int .i64 0], #[.int .u64 ((0 : Nat) : Int)], ints .u8 (ka), ints .u8 (kb), #[.int .i64 ((i + 1 : Nat) : Int)]]) 136)) 46 #[.pointer (some ⟨gl14, 0, none⟩), .slice (some ⟨g28, 0, none⟩) 2 2] 51 rfl kj kj ((Qin (plV i) _ th tq gl14 0 0 (by omega) (by decide) ka kb i hka hkb _ r14_8 r2_8 r1_8 (Nat.ne_of_lt (Nat.lt_of_lt_of_le (QaA hh) b14)) (Nat.ne_of_lt (Nat.lt_of_lt_of_le (QaA hq) b14)) (fun W e => Qby (xs := plV i) (n := 2) (Qdf _) (ExtB.row e r28_8_29 (Qal q14_1 l28)) (QaA (ExtB.row e r28_8_29 (Qal q14_1 l28))) (by decide)) (by omega) (by rw [Qdf]; decide)).mono (by rintro e w' ⟨u, rfl, h1, h2, h3⟩; exact ⟨_, rfl, u, rfl, h1, h2, h3⟩)) fun v30 W9 h30 => ?_
  obtain ⟨u30_, rfl, hu30_, q9, r14_9⟩ := h30
  have x9 : Ext w W9 := ExtB.up x8 q9 b14
  obtain ⟨a30_, c30_, rfl, -⟩ := id (OwnN.rd hu30_)
  refine Qaa (.tuple #[.slice a30_ ((mV ka i).length) c30_, .nilIface]) 43 rfl kj kj ?_
  refine Qaa (.slice a30_ ((mV ka i).length) c30_) 52 rfl kj kj ?_
  refine Qaa (.nilIface) 53 rfl kj kj ?_
  refine Qaa (.slice a30_ ((mV ka i).length) c30_) 13 rfl kj kj ?_
  refine Qaa (.nilIface) 14 rfl kj kj ?_
  refine Qac ?_
  refine hK27 _ _ ?_
  refine wp_seq_k fun K31 hK31 => ?_
  refine wp_seq_k fun K32 hK32 => ?_
  refine Qab ?_
  refine Qaa (.nilIface) 54 rfl kj kj ?_
  refine Qaa (.bool false) 55 rfl kj kj ?_
  refine Qac ?_
  refine hK32 _ _ ?_
  refine cond_false kj ?_
  refine wp_skip ?_
  refine hK31 _ _ ?_
  refine Qab ?_
  refine Qaa (u) 56 rfl kj kj ?_
  refine Qaa (.slice a30_ ((mV ka i).length) c30_) 57 rfl kj kj ?_
  refine QbI (#[.slice a30_ ((mV ka i).length) c30_]) 33 1 58 rfl kj kj fun g33 W10 l33 e10 r33_10 => ?_
  have x10 : Ext w W10 := Ext.tr x9 e10
  have b33 : w.heap.size ≤ g33 := Nat.le_trans x9.size l33
  have mf34_8 := (hu.ext e8)
  have mf35_9 := (mf34_8.but q9 r14_8 (by decide))
  have mf36_10 := (mf35_9.ext e10)
  have mf37_8 := (hms.ext e8)
  have mf38_9 := (mf37_8.but q9 r14_8 (by decide))
  have mf39_10 := (mf38_9.ext e10)
  have f40_10 := (hu30_.ext e10)
  have r14_10 := (Qad r14_9 e10)
  have r17_8 := (Qad q17_1 e8)
  have r17_9 := (ExtB.row q9 r17_8 n_17_14)
  have r17_10 := (Qad r17_9 e10)
  refine QeB (T := 33) (c := 1) (gy := g33) (W5.heap.size) 24 (.tmp 56) (.tmp 58) 47 rfl kj (.slice none 0 0) kj rfl (by decide) 59 rfl kj kj kj r33_10 rfl mf36_10 (by omega) (Nat.le_trans hbz (Nat.le_trans (Nat.le_trans (Nat.le_trans (Nat.le_refl _) e8.size) q9.2.2.2.1) e10.size)) fun u2 W11 ho2 q11 => ?_
  have x11 : Ext w W11 := QhY x10 q11 (fun g hg => Nat.le_trans x5.size (OwnR.at mf36_10 hg).1)
  have hms2 := Many.snoc (Many.grown mf39_10 q11 mf36_10 (by decide)) hvl (OwnN.grown (OwnN.base x8.size f40_10) q11 mf36_10 (by decide))
  refine Qaa (u2) 11 rfl kj kj ?_
  refine Qac ?_
  refine hK25 _ _ ?_
  refine Qab ?_
  refine Qaa (.int .i64 ((i + 1 : Nat) : Int)) 60 rfl kj (Qah (u := .int .i64 (IntKind.i64.wrap (((i : Nat) : Int) + 1))) kj (congrArg (Value.int .i64) (i64n _ _ (by omega) (by omega)))) ?_
  refine Qaa (.int .i64 ((i + 1 : Nat) : Int)) 40 rfl kj kj ?_
  refine Qac ?_
  have r14_11 := (Qha q11 r14_10 (QgU mf36_10 (QaA r14_5)))
  have r17_11 := (Qha q11 r17_10 (QgU mf36_10 (QaA rl17)))
  repeat (first | with_reducible refine goX1 ?_ | with_reducible refine goX2 ?_ | with_reducible refine goX3 ?_)
  exact QaQ ((i + 1), (vs ++ [.slice a30_ ((mV ka i).length) c30_]), u2) ⟨rfl, rfl, rfl, rfl, rfl, rfl, rfl, rfl, trivial⟩ ⟨(show i + 1 ≤ M by omega), (by rw [List.length_append, hvl]; rfl), hms2, ho2, (Nat.le_trans (Nat.le_trans hbz (Nat.le_trans (Nat.le_trans (Nat.le_trans (Nat.le_refl _) e8.size) q9.2.2.2.1) e10.size)) q11.size), r14_11, r17_11, x11⟩ (by show M - (i + 1) < M - i; omega)
 ·skip
  have heq41 : i = M := by have := of_decide_eq_false c24; omega
  have hMi := heq41.symm
  subst hMi
  obtain ⟨u0, hu0⟩ : ∃ z, vs[0]? = some z := ⟨_, List.getElem?_eq_getElem (by omega)⟩
  obtain ⟨gs, cs_, eus, hgs, -, -⟩ := OwnR.cell hu hu0
  subst eus
  refine wp_exit ?_
  refine hK20 _ _ ?_
  refine wp_seq_k fun K41 hK41 => ?_
  refine Qab ?_
  refine Qaa (.int .i64 (((M : Nat) : Int))) 61 rfl kj kj ?_
  refine QbI (ints .i64 (List.replicate M 0)) 3 M 62 rfl kj (Qd8 66 _ _ .i64 .i64 M 3 rfl kj kj kj (.inl kj) (by first | omega | (simp only [maxLen]; omega))) fun g42 W8 l42 e8 r42_8 => ?_
  have x8 : Ext w W8 := Ext.tr xx1 e8
  have b42 : w.heap.size ≤ g42 := Nat.le_trans xx1.size l42
  refine Qaa (.slice (some ⟨g42, 0, none⟩) M M) 15 rfl kj kj ?_
  refine Qac ?_
  refine hK41 _ _ ?_
  refine wp_seq_k fun K43 hK43 => ?_
  refine Qab ?_
  refine Qaa (.int .i64 (-1)) 16 rfl kj kj ?_
  refine Qac ?_
  refine hK43 _ _ ?_
  refine wp_seq_k fun K44 hK44 => ?_
  refine wp_seq_k fun K45 hK45 => ?_
  refine Qab ?_
  refine Qaa (.slice aO os.length cO) 63 rfl kj kj ?_
  refine Qaa (.int .i64 ((os.length : Nat) : Int)) 64 rfl kj kj ?_
  refine Qaa (.int .i64 0) 65 rfl kj kj ?_
  refine Qac ?_
  refine hK45 _ _ ?_
  refine wp_block ?_
  have mf46_8 := (hu.ext e8)
  have mf47_8 := (hms.ext e8)
  have n_17_42 : gl17 ≠ g42 := (Qag q17_1 l42)
  have n_42_17 : g42 ≠ gl17 := (Qal q17_1 l42)
  have r17_8 := (Qad q17_1 e8)
  refine Qbb (fun (s2 : Nat × List Int × Int × Nat × List Int) => [(2, .int .i64 (((M : Nat) : Int))), (8, .bool false), (10, .pointer (some ⟨gl17, 0, none⟩)), (11, .slice (some ⟨gs, 0, none⟩) vs.length cs_), (15, .slice (some ⟨g42, 0, none⟩) M M), (63, .slice aO os.length cO), (64, .int .i64 ((os.length : Nat) : Int)), (16, .int .i64 (hiT s2.2.1)), (65, .int .i64 ((s2.1 : Nat) : Int))]) (fun (s2 : Nat × List Int × Int × Nat × List Int) W => (s2.1 ≤ os.length) ∧ (WInv s2.2.2.1 s2.2.2.2.1 s2.2.1) ∧ (s2.2.2.2.2.length = M) ∧ (∀ k, k < M → nth s2.2.2.2.2 k = if ((k : Nat) : Int) ∈ s2.2.1 then 1 else 0) ∧ (Many 5 w.heap.size (mV ka) vs W) ∧ (OwnR 33 W5.heap.size vs (.slice (some ⟨gs, 0, none⟩) vs.length cs_) W) ∧ (W.heap[gl17]? = some (.cells (cat [#[.int .i64 s2.2.2.1], #[.int .u64 ((s2.2.2.2.1 : Nat) : Int)], ints .u8 (kb), ints .u8 (ka), #[.int .i64 ((0 : Nat) : Int)]]) 136)) ∧ (W.heap[g42]? = some (.cells (ints .i64 (s2.2.2.2.2)) 3)) ∧ (Ext w W)) (fun (s2 : Nat × List Int × Int × Nat × List Int) => os.length - s2.1) (0, [], 0, 0, (List.replicate M 0)) ⟨rfl, rfl, rfl, rfl, rfl, rfl, rfl, rfl, rfl, trivial⟩ ⟨(Nat.zero_le _), Qgc, (List.length_replicate ..), (times_zero M), mf47_8, mf46_8, r17_8, r42_8, x8⟩ fun s2 X2 V2 hI2 => ?_
  obtain ⟨o, tk, p2, q2, ts⟩ := s2
  obtain ⟨ho, hw2, hts, htm, hms, hu, q17_2, q42_2, xx2⟩ := hI2
  replace ho : o ≤ os.length := ho
  replace hw2 : WInv p2 q2 tk := hw2
  replace hts : ts.length = M := hts
  replace htm : ∀ k, k < M → nth ts k = if ((k : Nat) : Int) ∈ tk then 1 else 0 := htm
  replace hms : Many 5 w.heap.size (mV ka) vs V2 := hms
  replace hu : OwnR 33 W5.heap.size vs (.slice (some ⟨gs, 0, none⟩) vs.length cs_) V2 := hu
  replace q17_2 : V2.heap[gl17]? = some (.cells (cat [#[.int .i64 p2], #[.int .u64 ((q2 : Nat) : Int)], ints .u8 (kb), ints .u8 (ka), #[.int .i64 ((0 : Nat) : Int)]]) 136) := q17_2
  replace q42_2 : V2.heap[g42]? = some (.cells (ints .i64 (ts)) 3) := q42_2
  replace xx2 : Ext w V2 := xx2
  refine wp_seq_k fun K48 hK48 => ?_
  refine Qab ?_
  refine Qaa (.bool (decide (((o : Nat) : Int) < ((os.length : Nat) : Int)))) 66 rfl kj kj ?_
  refine Qac ?_
  refine hK48 _ _ ?_
  refine wp_seq_k fun K49 hK49 => ?_
  refine QaM (t := decide (((o : Nat) : Int) < ((os.length : Nat) : Int))) kj (fun c50 => ?_) (fun c50 => ?_)
  ·skip
   have hlt66 : o < os.length := by have := of_decide_eq_true c50; omega
   obtain ⟨gro51, oro51, haro51, -, hlro51, hcro51⟩ := Qd9 (RdK.ext hos xx2) (by omega)
   obtain ⟨x, ex⟩ : ∃ z, nth (os) o = z := ⟨_, rfl⟩
   obtain ⟨kk, ekk⟩ : ∃ kk : Nat, (kk : Int) = (x % 18446744073709551616) % ((M : Nat) : Int) := ⟨((x % 18446744073709551616) % ((M : Nat) : Int)).toNat, Int.toNat_of_nonneg (Int.emod_nonneg _ (by omega))⟩
   have hkk : kk < M := by have := Int.emod_lt_of_pos (x % 18446744073709551616) (show (0 : Int) < ((M : Nat) : Int) by omega); omega
   obtain ⟨uk, huk⟩ : ∃ z, vs[kk]? = some z := ⟨_, List.getElem?_eq_getElem (by omega)⟩
   have hok := hms kk uk huk
   obtain ⟨am, cm, euk, -⟩ := id (OwnN.rd hok)
   subst euk
   have hhi := hw2.hhi
   have hnx2 := hw2.hnx
   refine wp_skip ?_
   refine hK49 _ _ ?_
   refine wp_seq_k fun K52 hK52 => ?_
   refine wp_block ?_
   refine wp_seq_k fun K53 hK53 => ?_
   refine Qab ?_
   refine Qaa (.pointer (some ⟨gro51, oro51 + o, none⟩)) 67 rfl kj (QaR 66 _ _ .i64 o gro51 oro51 os.length cO 3 aO _ haro51 rfl rfl kj kj kj kj (Nat.lt_of_lt_of_eq (show o < (os).length by omega) (rfl : (os).length = (os).length).symm)) ?_
   refine Qaa (.int .i64 (x)) 68 rfl kj (Qa6 3 _ _ (.int .i64 (x)) ((hcro51 o (Nat.lt_of_lt_of_eq (show o < (os).length by omega) (rfl : (os).length = (os).length).symm)).trans (congrArg (fun z => some (Value.int .i64 z)) ex)) rfl kj kj) ?_
   refine Qaa (.int .i64 (x)) 18 rfl kj kj ?_
   refine Qac ?_
   refine hK53 _ _ ?_
   refine wp_seq_k fun K54 hK54 => ?_
   refine Qab ?_
   refine Qaa (.int .i64 (x)) 69 rfl kj kj ?_
   refine Qaa (.int .u64 (x % 18446744073709551616)) 70 rfl kj (Qah (u := .int .u64 (IntKind.u64.wrap (x))) kj (congrArg (Value.int .u64) rfl)) ?_
   refine Qaa (.int .i64 (((M : Nat) : Int))) 71 rfl kj kj ?_
   refine Qaa (.int .u64 (((M : Nat) : Int))) 72 rfl kj (Qah (u := .int .u64 (IntKind.u64.wrap (((M : Nat) : Int)))) kj (congrArg (Value.int .u64) (u64n _ (by omega)))) ?_
   refine Qaa (.int .u64 ((kk : Nat) : Int)) 73 rfl kj (QaF .rem _ _ _ _ .u64 .u64 _ _ _ rfl kj kj (Qib _ _ (x % 18446744073709551616) ((M : Nat) : Int) ((kk : Nat) : Int) (by omega) (by rw [Int.tmod_eq_emod_of_nonneg (by omega), ← ekk]))) ?_
   refine Qaa (.int .i64 (((kk : Nat) : Int))) 74 rfl kj (Qah (u := .int .i64 (IntKind.i64.wrap ((kk : Nat) : Int))) kj (congrArg (Value.int .i64) (IntWalk.i64_in _ (by omega)))) ?_
   refine Qaa (.int .i64 (((kk : Nat) : Int))) 19 rfl kj kj ?_
   refine Qac ?_
   refine hK54 _ _ ?_
   refine wp_seq_k fun K55 hK55 => ?_
   rcases Qgn tk ((kk : Nat) : Int) (by omega) with hck | ⟨hck, hin⟩ | ⟨hck, hin, hlo⟩
   ·skip
    have hz0 : nth (ts) kk = 0 := by rw [htm kk hkk, if_neg (Qdz hck).2.2.2]
    refine Qab ?_
    refine Qaa (.pointer (some ⟨gl17, 0, none⟩)) 76 rfl kj kj ?_
    refine Qaa (.slice (some ⟨gs, 0, none⟩) vs.length cs_) 77 rfl kj kj ?_
    refine Qaa (.int .i64 (((kk : Nat) : Int))) 78 rfl kj kj ?_
    refine Qaa (.pointer (some ⟨gs, 0 + kk, none⟩)) 79 rfl kj (Qbr 47 _ _ .i64 kk gs 0 vs.length cs_ 33 rfl kj kj kj kj (by omega)) ?_
    refine Qaa (.slice am (mV ka kk).length cm) 80 rfl kj (Qa6 33 _ _ (.slice am (mV ka kk).length cm) (OwnR.cellAt hu huk).2 rfl kj kj) ?_
    obtain ⟨ny2, Bz2, hw2n, hmk2⟩ := Qir hw2 hck
    have hhin := hw2n.hhi
    refine Qa8 (fun v W' => ∃ u, v = .tuple #[u, .nilIface] ∧ OwnN .u8 5 V2.heap.size (plV kk) u W' ∧ ExtB gl17 V2 W' ∧ W'.heap[gl17]? = some (.cells (cat [#[.int .i64 ny2], #[.int .u64 ((Bz2 : Nat) : Int)], ints .u8 (kb), ints .u8 (ka), #[.int .i64 ((0 : Nat) : Int)]]) 136)) 49 #[.pointer (some ⟨gl17, 0, none⟩), .slice am ((mV ka kk).length) cm] 81 rfl kj kj ((QhD kk (plV kk) _ th tq gl17 p2 q2 hw2.hnx hw2.hB kb ka 0 hkb hka _ q17_2 (Qad hh xx2) (Qad hq xx2) (Nat.ne_of_lt (Nat.lt_of_lt_of_le (QaA hh) b17)) (Nat.ne_of_lt (Nat.lt_of_lt_of_le (QaA hq) b17)) (fun W e => OwnN.rd (QeY (hms kk _ huk) e (QhQ (hms kk _ huk) q17_2 (by decide)))) (by omega) (by rw [Qdf]; decide) (QdB _) ((Qd0 hw2 _).trans hck) ny2 Bz2 (fun W r => hmk2 gl17 kb ka 0 hkb hka W r)).mono (by rintro e w' ⟨u, rfl, h1, h2, h3⟩; exact ⟨_, rfl, u, rfl, h1, h2, h3⟩)) fun v56 W10 h56 => ?_
    obtain ⟨u56_, rfl, hu56_, q10, r17_10⟩ := h56
    have x10 : Ext w W10 := ExtB.up xx2 q10 b17
    obtain ⟨a56_, c56_, rfl, -⟩ := id (OwnN.rd hu56_)
    refine Qaa (.tuple #[.slice a56_ ((plV kk).length) c56_, .nilIface]) 75 rfl kj kj ?_
    refine Qaa (.slice a56_ ((plV kk).length) c56_) 82 rfl kj kj ?_
    refine Qaa (.nilIface) 83 rfl kj kj ?_
    refine Qaa (.slice a56_ ((plV kk).length) c56_) 20 rfl kj kj ?_
    refine Qaa (.nilIface) 21 rfl kj kj ?_
    refine Qac ?_
    refine hK55 _ _ ?_
    refine wp_seq_k fun K57 hK57 => ?_
    refine wp_block ?_
    refine wp_seq_k fun K58 hK58 => ?_
    refine Qab ?_
    refine Qaa (.nilIface) 85 rfl kj kj ?_
    refine Qaa (.bool true) 86 rfl kj kj ?_
    refine Qaa (.bool true) 84 rfl kj kj ?_
    refine Qac ?_
    refine hK58 _ _ ?_
    refine cond_true kj ?_
    refine wp_seq_k fun K59 hK59 => ?_
    refine Qab ?_
    refine Qaa (.slice (some ⟨g42, 0, none⟩) M M) 87 rfl kj kj ?_
    refine Qaa (.int .i64 (((kk : Nat) : Int))) 88 rfl kj kj ?_
    refine Qaa (.pointer (some ⟨g42, kk, none⟩)) 89 rfl kj (QaO 66 _ _ .i64 (kk) g42 M M 3 rfl kj kj kj kj (by omega)) ?_
    have r42_10 := (ExtB.row q10 q42_2 n_42_17)
    refine Qaa (.int .i64 (0)) 90 rfl kj (Qae 3 _ g42 kk 3 _ (.int .i64 (0)) _ r42_10 rfl kj ((Qay _ _ _ (Nat.lt_of_lt_of_eq (by omega) hts.symm)).trans (congrArg (fun z => some (Value.int .i64 z)) hz0)) kj) ?_
    refine Qaa (.int .i64 1) 91 rfl kj kj ?_
    refine Qaa (.pointer (some ⟨g42, kk, none⟩)) 92 rfl kj (QaO 66 _ _ .i64 (kk) g42 M M 3 rfl kj kj kj kj (by omega)) ?_
    refine Qaj g42 _ (ints .i64 ((ts).set kk 1)) 3 r42_10 rfl kj (Qak 3 _ _ g42 kk 3 _ _ r42_10 rfl kj kj kj (Nat.lt_of_lt_of_eq (by omega) hts.symm)) fun W11 p11 r42_11 => ?_
    have x11 : Ext w W11 := Puts.ext p11 x10 b42
    obtain ⟨ts2, ets2⟩ : ∃ z : List Int, ts.set kk (1) = z := ⟨_, rfl⟩
    have hts2 : ts2.length = M := by rw [← ets2, List.length_set, hts]
    have htm2 : ∀ k, k < M → nth ts2 k = if ((k : Nat) : Int) ∈ tk ++ [((kk : Nat) : Int)] then 1 else 0 := ets2 ▸ QfE tk ts M kk hts hkk htm
    have ht1 : nth ts2 kk = 1 := by rw [htm2 kk hkk, if_pos (by simp)]
    have r42_11_60 : W11.heap[g42]? = some (.cells (ints .i64 (ts2)) 3) := QaD r42_11 ets2
    refine Qac ?_
    refine hK59 _ _ ?_
    refine wp_seq_k fun K61 hK61 => ?_
    refine Qab ?_
    refine Qaa (.int .i64 (hiT tk)) 93 rfl kj kj ?_
    refine Qaa (.int .i64 (((kk : Nat) : Int))) 94 rfl kj kj ?_
    refine Qaa (.int .i64 (hiT (tk ++ [((kk : Nat) : Int)]))) 95 rfl kj (Qg1 #[3, 3] (.tmp 93) (.tmp 94) .i64 (hiT tk) ((kk : Nat) : Int) _ rfl kj kj (QcV tk ((kk : Nat) : Int)).symm) ?_
    refine Qaa (.int .i64 (hiT (tk ++ [((kk : Nat) : Int)]))) 16 rfl kj kj ?_
    refine Qac ?_
    refine hK61 _ _ ?_
    refine wp_seq_k fun K62 hK62 => ?_
    have f64_11 := (hu56_.puts p11 (QfS hu56_ (QaA q42_2)))
    have hnp_63 : (plV kk).length = 2 := (Qdf kk)
    obtain ⟨gcp_63, ocp_63, hap_63, hlp_63, hcp_63⟩ := Qec (OwnN.rd f64_11) (by rw [hnp_63]; omega)
    refine QaS 22 [⟨none, [(15, none)]⟩, ⟨none, [(19, none)]⟩, ⟨none, [(96, some 0), (97, some 1)]⟩, ⟨none, [(98, some 2)]⟩, ⟨none, [(99, some 3)]⟩, ⟨none, [(100, some 4)]⟩, ⟨some (101, false), [(20, none), (101, some 5)]⟩, ⟨some (101, false), [(102, some 6), (101, some 5)]⟩, ⟨some (101, false), [(103, some 7), (101, some 5)]⟩, ⟨none, [(101, some 5), (104, some 8)]⟩, ⟨none, [(105, some 9)]⟩, ⟨some (106, false), [(20, none), (106, some 10)]⟩, ⟨some (106, false), [(107, some 11), (106, some 10)]⟩, ⟨some (106, false), [(108, some 12), (106, some 10)]⟩, ⟨some (106, false), [(109, some 13), (106, some 10)]⟩, ⟨some (106, false), [(20, none), (106, some 10)]⟩, ⟨some (106, false), [(111, some 15), (106, some 10)]⟩, ⟨some (106, false), [(112, some 16), (106, some 10)]⟩, ⟨some (106, false), [(113, some 17), (106, some 10)]⟩, ⟨some (106, false), [(114, some 18), (106, some 10)]⟩, ⟨some (106, false), [(110, some 14), (115, some 19), (106, some 10)]⟩, ⟨some (106, false), [(19, none), (106, some 10)]⟩] kj kj fun F hF => ?_
    refine Qa5 (Qam _) (.slice (some ⟨g42, 0, none⟩) M M) kj kj (fun W => by kernel_rfl) ?_
    refine Qa5 (Qam _) (.int .i64 (((kk : Nat) : Int))) kj kj (fun W => by kernel_rfl) ?_
    refine Qa5 (Qam _) (.pointer (some ⟨g42, kk, none⟩)) kj kj (fun W => (QaO 66 _ _ .i64 (kk) g42 M M 3 rfl kj kj kj kj (by omega))) ?_
    refine Qbm (Qam _) (.int .i64 (1)) kj kj (fun W hR => (Qae 3 _ g42 kk 3 _ (.int .i64 (1)) _ (Qad (Qad r42_11_60 (Qai _)) hR) rfl kj ((Qay _ _ _ (Nat.lt_of_lt_of_eq (by omega) hts2.symm)).trans (congrArg (fun z => some (Value.int .i64 z)) ht1)) kj)) ?_
    refine Qa5 (Qam _) (.bool false) kj kj (fun W => by kernel_rfl) ?_
    refine Qa5 (Qam _) (.bool false) kj kj (fun W => by kernel_rfl) ?_
    refine Qa5 (Qam _) (.slice a56_ ((plV kk).length) c56_) kj kj (fun W => by kernel_rfl) ?_
    refine Qa5 (Qam _) (.int .i64 (((plV kk).length : Nat) : Int)) kj kj (fun W => by kernel_rfl) ?_
    refine Qa5 (Qam _) (.bool false) kj kj (fun W => (Qah (u := .bool (((((plV kk).length : Nat) : Int) != 2))) kj (congrArg Value.bool (bne_eq_false_iff_eq.2 rfl)))) ?_
    refine Qa5 (Qam _) (.bool false) kj kj (fun W => by kernel_rfl) ?_
    refine Qa5 (Qam _) (.bool false) kj kj (fun W => by kernel_rfl) ?_
    refine Qa5 (Qam _) (.slice a56_ ((plV kk).length) c56_) kj kj (fun W => by kernel_rfl) ?_
    refine Qa5 (Qam _) (.pointer (some ⟨gcp_63, ocp_63 + 0, none⟩)) kj kj (fun W => (QaR 33 _ _ .i64 0 gcp_63 ocp_63 ((plV kk).length) c56_ 5 a56_ _ hap_63 rfl rfl kj kj kj kj (Nat.lt_of_lt_of_eq (show 0 < 2 by omega) hnp_63.symm))) ?_
    refine Qbm (Qam _) (.int .u8 (((kk % 256 : Nat) : Int))) kj kj (fun W hR => (Qa6 5 _ _ (.int .u8 (((kk % 256 : Nat) : Int))) (((Below.cell (Rely.Ext.trans (Qai _) hR) hlp_63).trans (hcp_63 0 (Nat.lt_of_lt_of_eq (show 0 < 2 by omega) hnp_63.symm))).trans (congrArg (fun z => some (Value.int .u8 z)) rfl)) rfl kj kj)) ?_
    refine Qa5 (Qam _) (.int .i64 (((kk % 256 : Nat) : Int))) kj kj (fun W => (Qah (u := .int .i64 (IntKind.i64.wrap (((kk % 256 : Nat) : Int)))) kj (congrArg (Value.int .i64) (IntWalk.i64_in _ (by omega))))) ?_
    refine Qa5 (Qam _) (.slice a56_ ((plV kk).length) c56_) kj kj (fun W => by kernel_rfl) ?_
    refine Qa5 (Qam _) (.pointer (some ⟨gcp_63, ocp_63 + 1, none⟩)) kj kj (fun W => (QaR 33 _ _ .i64 1 gcp_63 ocp_63 ((plV kk).length) c56_ 5 a56_ _ hap_63 rfl rfl kj kj kj kj (Nat.lt_of_lt_of_eq (show 1 < 2 by omega) hnp_63.symm))) ?_
    refine Qbm (Qam _) (.int .u8 (((kk / 256 % 256 : Nat) : Int))) kj kj (fun W hR => (Qa6 5 _ _ (.int .u8 (((kk / 256 % 256 : Nat) : Int))) (((Below.cell (Rely.Ext.trans (Qai _) hR) hlp_63).trans (hcp_63 1 (Nat.lt_of_lt_of_eq (show 1 < 2 by omega) hnp_63.symm))).trans (congrArg (fun z => some (Value.int .u8 z)) rfl)) rfl kj kj)) ?_
    refine Qa5 (Qam _) (.int .i64 (((kk / 256 % 256 : Nat) : Int))) kj kj (fun W => (Qah (u := .int .i64 (IntKind.i64.wrap (((kk / 256 % 256 : Nat) : Int)))) kj (congrArg (Value.int .i64) (IntWalk.i64_in _ (by omega))))) ?_
    refine Qa5 (Qam _) (.int .i64 ((256 * (kk / 256 % 256) : Nat) : Int)) kj kj (fun W => (Qah (u := .int .i64 (IntKind.i64.wrap (256 * (((kk / 256 % 256 : Nat) : Int))))) kj (congrArg (Value.int .i64) (i64n _ _ (by omega) (by omega))))) ?_
    refine Qa5 (Qam _) (.int .i64 (((kk % 256) + (256 * (kk / 256 % 256)) : Nat) : Int)) kj kj (fun W => (Qah (u := .int .i64 (IntKind.i64.wrap ((((kk % 256 : Nat) : Int)) + ((256 * (kk / 256 % 256) : Nat) : Int)))) kj (congrArg (Value.int .i64) (i64n _ _ (by omega) (by omega))))) ?_
    refine Qa5 (Qam _) (.int .i64 (((kk : Nat) : Int))) kj kj (fun W => by kernel_rfl) ?_
    refine QcZ (hF _ fun W12 e12 => ?_)
    simp only [List.nil_append, List.cons_append, List.take_succ_cons, List.take_zero, List.drop_succ_cons, List.drop_zero, finE, up]
    clear hF
    have x12 : Ext w W12 := Ext.tr x11 e12
    refine Qaa (.bool false) 118 rfl kj (Qah (u := .bool (((((kk % 256) + (256 * (kk / 256 % 256)) : Nat) : Int) != ((kk : Nat) : Int)))) kj (congrArg Value.bool (bne_eq_false_iff_eq.2 (by omega)))) ?_
    refine Qaa (.bool false) 119 rfl kj kj ?_
    refine Qac ?_
    refine hK62 _ _ ?_
    refine cond_false kj ?_
    refine wp_skip ?_
    refine hK57 _ _ ?_
    refine wp_seq_k fun K65 hK65 => ?_
    refine Qab ?_
    refine Qaa (.pointer (some ⟨gl17, 0, none⟩)) 132 rfl kj kj ?_
    have r17_11 := (Puts.row p11 r17_10 n_17_42)
    have r17_12 := (Qad r17_11 e12)
    refine Qat (.int .i64 (ny2 - 1)) 44 #[.pointer (some ⟨gl17, 0, none⟩)] 133 rfl kj kj ((HighestC gl17 ny2 Bz2 hw2n.hnx hw2n.hB kb ka 0 hkb hka _ r17_12)) fun W13 e13 => ?_
    have x13 : Ext w W13 := Ext.tr x12 e13
    refine Qaa (.int .i64 (hiT (tk ++ [((kk : Nat) : Int)]))) 134 rfl kj kj ?_
    refine Qaa (.bool false) 135 rfl kj (Qah (u := .bool (((ny2 - 1) != (hiT (tk ++ [((kk : Nat) : Int)]))))) kj (congrArg Value.bool (bne_eq_false_iff_eq.2 (by omega)))) ?_
    refine Qac ?_
    refine hK65 _ _ ?_
    refine cond_false kj ?_
    refine wp_skip ?_
    refine hK52 _ _ ?_
    refine Qab ?_
    refine Qaa (.int .i64 ((o + 1 : Nat) : Int)) 136 rfl kj (Qah (u := .int .i64 (IntKind.i64.wrap (((o : Nat) : Int) + 1))) kj (congrArg (Value.int .i64) (i64n _ _ (by omega) (by omega)))) ?_
    refine Qaa (.int .i64 ((o + 1 : Nat) : Int)) 65 rfl kj kj ?_
    refine Qac ?_
    have mf66_10 := (hms.but q10 q17_2 (by decide))
    have mf67_11 := (mf66_10.puts p11 r42_10 (by decide))
    have mf68_12 := (mf67_11.ext e12)
    have mf69_13 := (mf68_12.ext e13)
    have mf70_10 := (hu.but q10 q17_2 (by decide))
    have mf71_11 := (mf70_10.puts p11 r42_10 (by decide))
    have mf72_12 := (mf71_11.ext e12)
    have mf73_13 := (mf72_12.ext e13)
    have r17_13 := (Qad r17_12 e13)
    have r42_12 := (Qad r42_11_60 e12)
    have r42_13 := (Qad r42_12 e13)
    repeat (first | with_reducible refine goX1 ?_ | with_reducible refine goX2 ?_ | with_reducible refine goX3 ?_)
    exact QaQ ((o + 1), (tk ++ [((kk : Nat) : Int)]), ny2, Bz2, ts2) ⟨rfl, rfl, rfl, rfl, rfl, rfl, rfl, rfl, rfl, trivial⟩ ⟨(by omega), hw2n, hts2, htm2, mf69_13, mf73_13, r17_13, r42_13, x13⟩ (by show os.length - (o + 1) < os.length - o; omega)
   ·skip
    have h1t : nth (ts) kk = 1 := by rw [htm kk hkk, if_pos hin]
    refine Qab ?_
    refine Qaa (.pointer (some ⟨gl17, 0, none⟩)) 76 rfl kj kj ?_
    refine Qaa (.slice (some ⟨gs, 0, none⟩) vs.length cs_) 77 rfl kj kj ?_
    refine Qaa (.int .i64 (((kk : Nat) : Int))) 78 rfl kj kj ?_
    refine Qaa (.pointer (some ⟨gs, 0 + kk, none⟩)) 79 rfl kj (Qbr 47 _ _ .i64 kk gs 0 vs.length cs_ 33 rfl kj kj kj kj (by omega)) ?_
    refine Qaa (.slice am (mV ka kk).length cm) 80 rfl kj (Qa6 33 _ _ (.slice am (mV ka kk).length cm) (OwnR.cellAt hu huk).2 rfl kj kj) ?_
    refine Qat (.tuple #[.slice none 0 0, .iface 60 (.int .i64 (chkW p2 q2 ((kk : Nat) : Int)))]) 49 #[.pointer (some ⟨gl17, 0, none⟩), .slice am ((mV ka kk).length) cm] 81 rfl kj kj ((QgO kk (plV kk) _ th tq gl17 p2 q2 hw2.hnx hw2.hB kb ka 0 hkb hka _ q17_2 (Qad hh xx2) (Qad hq xx2) (Nat.ne_of_lt (Nat.lt_of_lt_of_le (QaA hh) b17)) (Nat.ne_of_lt (Nat.lt_of_lt_of_le (QaA hq) b17)) (OwnN.rd (hms kk _ huk)) (by omega) (by rw [Qdf]; decide) (QdB _) (fun e => hck ((Qd0 hw2 _).symm.trans e)))) fun W10 e10 => ?_
    have x10 : Ext w W10 := Ext.tr xx2 e10
    refine Qaa (.tuple #[.slice none 0 0, .iface 60 (.int .i64 (chkW p2 q2 ((kk : Nat) : Int)))]) 75 rfl kj kj ?_
    refine Qaa (.slice none 0 0) 82 rfl kj kj ?_
    refine Qaa (.iface 60 (.int .i64 (chkW p2 q2 ((kk : Nat) : Int)))) 83 rfl kj kj ?_
    refine Qaa (.slice none 0 0) 20 rfl kj kj ?_
    refine Qaa (.iface 60 (.int .i64 (chkW p2 q2 ((kk : Nat) : Int)))) 21 rfl kj kj ?_
    refine Qac ?_
    refine hK55 _ _ ?_
    refine wp_seq_k fun K74 hK74 => ?_
    refine wp_block ?_
    refine wp_seq_k fun K75 hK75 => ?_
    refine Qab ?_
    refine Qaa (.iface 60 (.int .i64 (chkW p2 q2 ((kk : Nat) : Int)))) 85 rfl kj kj ?_
    refine Qaa (.bool false) 86 rfl kj kj ?_
    refine Qaa (.bool false) 84 rfl kj kj ?_
    refine Qac ?_
    refine hK75 _ _ ?_
    refine cond_false kj ?_
    refine wp_seq_k fun K76 hK76 => ?_
    refine Qab ?_
    refine Qaa (.slice (some ⟨g42, 0, none⟩) M M) 121 rfl kj kj ?_
    refine Qaa (.int .i64 (((kk : Nat) : Int))) 122 rfl kj kj ?_
    refine Qaa (.pointer (some ⟨g42, kk, none⟩)) 123 rfl kj (QaO 66 _ _ .i64 (kk) g42 M M 3 rfl kj kj kj kj (by omega)) ?_
    have r42_10 := (Qad q42_2 e10)
    refine Qaa (.int .i64 (1)) 124 rfl kj (Qae 3 _ g42 kk 3 _ (.int .i64 (1)) _ r42_10 rfl kj ((Qay _ _ _ (Nat.lt_of_lt_of_eq (by omega) hts.symm)).trans (congrArg (fun z => some (Value.int .i64 z)) h1t)) kj) ?_
    refine Qaa (.bool false) 125 rfl kj kj ?_
    refine Qaa (.bool false) 126 rfl kj kj ?_
    refine Qaz 127 rfl kj ?_
    refine Qaz 128 rfl kj ?_
    refine Qaz 129 rfl kj ?_
    refine Qaz 130 rfl kj ?_
    refine Qaa (.bool false) 131 rfl kj kj ?_
    refine Qaa (.bool false) 120 rfl kj kj ?_
    refine Qac ?_
    refine hK76 _ _ ?_
    refine cond_false kj ?_
    refine wp_skip ?_
    refine hK74 _ _ ?_
    refine wp_seq_k fun K77 hK77 => ?_
    refine Qab ?_
    refine Qaa (.pointer (some ⟨gl17, 0, none⟩)) 132 rfl kj kj ?_
    have r17_10 := (Qad q17_2 e10)
    refine Qat (.int .i64 (p2 - 1)) 44 #[.pointer (some ⟨gl17, 0, none⟩)] 133 rfl kj kj ((HighestC gl17 p2 q2 hw2.hnx hw2.hB kb ka 0 hkb hka _ r17_10)) fun W11 e11 => ?_
    have x11 : Ext w W11 := Ext.tr x10 e11
    refine Qaa (.int .i64 (hiT tk)) 134 rfl kj kj ?_
    refine Qaa (.bool false) 135 rfl kj (Qah (u := .bool (((p2 - 1) != (hiT tk)))) kj (congrArg Value.bool (bne_eq_false_iff_eq.2 (by omega)))) ?_
    refine Qac ?_
    refine hK77 _ _ ?_
    refine cond_false kj ?_
    refine wp_skip ?_
    refine hK52 _ _ ?_
    refine Qab ?_
    refine Qaa (.int .i64 ((o + 1 : Nat) : Int)) 136 rfl kj (Qah (u := .int .i64 (IntKind.i64.wrap (((o : Nat) : Int) + 1))) kj (congrArg (Value.int .i64) (i64n _ _ (by omega) (by omega)))) ?_
    refine Qaa (.int .i64 ((o + 1 : Nat) : Int)) 65 rfl kj kj ?_
    refine Qac ?_
    have mf78_10 := (hms.ext e10)
    have mf79_11 := (mf78_10.ext e11)
    have mf80_10 := (hu.ext e10)
    have mf81_11 := (mf80_10.ext e11)
    have r17_11 := (Qad r17_10 e11)
    have r42_11 := (Qad r42_10 e11)
    repeat (first | with_reducible refine goX1 ?_ | with_reducible refine goX2 ?_ | with_reducible refine goX3 ?_)
    exact QaQ ((o + 1), tk, p2, q2, ts) ⟨rfl, rfl, rfl, rfl, rfl, rfl, rfl, rfl, rfl, trivial⟩ ⟨(by omega), hw2, hts, htm, mf79_11, mf81_11, r17_11, r42_11, x11⟩ (by show os.length - (o + 1) < os.length - o; omega)
   ·skip
    have h0t : nth (ts) kk = 0 := by rw [htm kk hkk, if_neg hin]
    refine Qab ?_
    refine Qaa (.pointer (some ⟨gl17, 0, none⟩)) 76 rfl kj kj ?_
    refine Qaa (.slice (some ⟨gs, 0, none⟩) vs.length cs_) 77 rfl kj kj ?_
    refine Qaa (.int .i64 (((kk : Nat) : Int))) 78 rfl kj kj ?_
    refine Qaa (.pointer (some ⟨gs, 0 + kk, none⟩)) 79 rfl kj (Qbr 47 _ _ .i64 kk gs 0 vs.length cs_ 33 rfl kj kj kj kj (by omega)) ?_
    refine Qaa (.slice am (mV ka kk).length cm) 80 rfl kj (Qa6 33 _ _ (.slice am (mV ka kk).length cm) (OwnR.cellAt hu huk).2 rfl kj kj) ?_
    refine Qat (.tuple #[.slice none 0 0, .iface 60 (.int .i64 (chkW p2 q2 ((kk : Nat) : Int)))]) 49 #[.pointer (some ⟨gl17, 0, none⟩), .slice am ((mV ka kk).length) cm] 81 rfl kj kj ((QgO kk (plV kk) _ th tq gl17 p2 q2 hw2.hnx hw2.hB kb ka 0 hkb hka _ q17_2 (Qad hh xx2) (Qad hq xx2) (Nat.ne_of_lt (Nat.lt_of_lt_of_le (QaA hh) b17)) (Nat.ne_of_lt (Nat.lt_of_lt_of_le (QaA hq) b17)) (OwnN.rd (hms kk _ huk)) (by omega) (by rw [Qdf]; decide) (QdB _) (fun e => hck ((Qd0 hw2 _).symm.trans e)))) fun W10 e10 => ?_
    have x10 : Ext w W10 := Ext.tr xx2 e10
    refine Qaa (.tuple #[.slice none 0 0, .iface 60 (.int .i64 (chkW p2 q2 ((kk : Nat) : Int)))]) 75 rfl kj kj ?_
    refine Qaa (.slice none 0 0) 82 rfl kj kj ?_
    refine Qaa (.iface 60 (.int .i64 (chkW p2 q2 ((kk : Nat) : Int)))) 83 rfl kj kj ?_
    refine Qaa (.slice none 0 0) 20 rfl kj kj ?_
    refine Qaa (.iface 60 (.int .i64 (chkW p2 q2 ((kk : Nat) : Int)))) 21 rfl kj kj ?_
    refine Qac ?_
    refine hK55 _ _ ?_
    refine wp_seq_k fun K82 hK82 => ?_
    refine wp_block ?_
    refine wp_seq_k fun K83 hK83 => ?_
    refine Qab ?_
    refine Qaa (.iface 60 (.int .i64 (chkW p2 q2 ((kk : Nat) : Int)))) 85 rfl kj kj ?_
    refine Qaa (.bool false) 86 rfl kj kj ?_
    refine Qaa (.bool false) 84 rfl kj kj ?_
    refine Qac ?_
    refine hK83 _ _ ?_
    refine cond_false kj ?_
    refine wp_seq_k fun K84 hK84 => ?_
    refine Qab ?_
    refine Qaa (.slice (some ⟨g42, 0, none⟩) M M) 121 rfl kj kj ?_
    refine Qaa (.int .i64 (((kk : Nat) : Int))) 122 rfl kj kj ?_
    refine Qaa (.pointer (some ⟨g42, kk, none⟩)) 123 rfl kj (QaO 66 _ _ .i64 (kk) g42 M M 3 rfl kj kj kj kj (by omega)) ?_
    have r42_10 := (Qad q42_2 e10)
    refine Qaa (.int .i64 (0)) 124 rfl kj (Qae 3 _ g42 kk 3 _ (.int .i64 (0)) _ r42_10 rfl kj ((Qay _ _ _ (Nat.lt_of_lt_of_eq (by omega) hts.symm)).trans (congrArg (fun z => some (Value.int .i64 z)) h0t)) kj) ?_
    refine Qaa (.bool true) 125 rfl kj kj ?_
    refine Qaa (.bool true) 126 rfl kj kj ?_
    refine Qaa (.int .i64 (((kk : Nat) : Int))) 127 rfl kj kj ?_
    refine Qaa (.int .i64 (hiT tk)) 128 rfl kj kj ?_
    refine Qaa (.int .i64 (hiT tk - 64)) 129 rfl kj (Qah (u := .int .i64 (IntKind.i64.wrap ((hiT tk) - 64))) kj (congrArg (Value.int .i64) (IntWalk.i64_in _ (by omega)))) ?_
    refine Qaa (.bool false) 130 rfl kj (Qah (u := .bool (decide (((kk : Nat) : Int) ≥ (hiT tk - 64)))) kj (congrArg Value.bool (decide_eq_false (by omega)))) ?_
    refine Qaa (.bool false) 131 rfl kj kj ?_
    refine Qaa (.bool false) 120 rfl kj kj ?_
    refine Qac ?_
    refine hK84 _ _ ?_
    refine cond_false kj ?_
    refine wp_skip ?_
    refine hK82 _ _ ?_
    refine wp_seq_k fun K85 hK85 => ?_
    refine Qab ?_
    refine Qaa (.pointer (some ⟨gl17, 0, none⟩)) 132 rfl kj kj ?_
    have r17_10 := (Qad q17_2 e10)
    refine Qat (.int .i64 (p2 - 1)) 44 #[.pointer (some ⟨gl17, 0, none⟩)] 133 rfl kj kj ((HighestC gl17 p2 q2 hw2.hnx hw2.hB kb ka 0 hkb hka _ r17_10)) fun W11 e11 => ?_
    have x11 : Ext w W11 := Ext.tr x10 e11
    refine Qaa (.int .i64 (hiT tk)) 134 rfl kj kj ?_
    refine Qaa (.bool false) 135 rfl kj (Qah (u := .bool (((p2 - 1) != (hiT tk)))) kj (congrArg Value.bool (bne_eq_false_iff_eq.2 (by omega)))) ?_
    refine Qac ?_
    refine hK85 _ _ ?_
    refine cond_false kj ?_
    refine wp_skip ?_
    refine hK52 _ _ ?_
    refine Qab ?_
    refine Qaa (.int .i64 ((o + 1 : Nat) : Int)) 136 rfl kj (Qah (u := .int .i64 (IntKind.i64.wrap (((o : Nat) : Int) + 1))) kj (congrArg (Value.int .i64) (i64n _ _ (by omega) (by omega)))) ?_
    refine Qaa (.int .i64 ((o + 1 : Nat) : Int)) 65 rfl kj kj ?_
    refine Qac ?_
    have mf86_10 := (hms.ext e10)
    have mf87_11 := (mf86_10.ext e11)
    have mf88_10 := (hu.ext e10)
    have mf89_11 := (mf88_10.ext e11)
    have r17_11 := (Qad r17_10 e11)
    have r42_11 := (Qad r42_10 e11)
    repeat (first | with_reducible refine goX1 ?_ | with_reducible refine goX2 ?_ | with_reducible refine goX3 ?_)
    exact QaQ ((o + 1), tk, p2, q2, ts) ⟨rfl, rfl, rfl, rfl, rfl, rfl, rfl, rfl, rfl, trivial⟩ ⟨(by omega), hw2, hts, htm, mf87_11, mf89_11, r17_11, r42_11, x11⟩ (by show os.length - (o + 1) < os.length - o; omega)
  ·skip
   have heq66 : o = os.length := by have := of_decide_eq_false c50; omega
   refine wp_exit ?_
   refine hK44 _ _ ?_
   refine wp_seq_k fun K90 hK90 => ?_
   refine Qab ?_
   refine Qaa (.bool true) 8 rfl kj kj ?_
   refine Qac ?_
   refine hK90 _ _ ?_
   refine wp_ret ?_
   repeat (first | with_reducible refine goR1 ?_ | with_reducible refine goR2 ?_)
   exact (show bodyPost _ _ _ .ret _ _ from ret1 (.bool true) rfl (Qa0 kj) ⟨rfl, xx2⟩)
theorem Qiq (ka kb os : List Int) (many : Int) (aO : Option Addr) (cO : Nat) (th tq : TypeId) (w : World) (hh : w.heap[2]? = some (.cells (ints .u32 [1634760805, 857760878, 2036477234, 1797285236]) th)) (hq : w.heap[3]? = some (.cells (ints .i64 [0, 4, 8, 12, 1, 5, 9, 13, 2, 6, 10, 14, 3, 7, 11, 15, 0, 5, 10, 15, 1, 6, 11, 12, 2, 7, 8, 13, 3, 4, 9, 14]) tq)) (hka : ka.length = 32) (hkb : kb.length = 32) (hos : RdK .i64 w.heap.size os (.slice aO os.length cO) w) : Calls Tryd.prog 52 #[.agg (ints .u8 ka), .agg (ints .u8 kb), .int .i64 many, .slice aO os.length cO] w (Ret w (.bool true)) := by
  by_cases h : 400 < os.length
  · exact QhN ka kb os many aO cO th tq w hh hq hka hkb h
  · exact QhM ka kb os many aO cO th tq w hh hq hka hkb hos (by omega)
set_option maxHeartbeats 4000000 in
theorem QhW (ka kb os : List Int) (many : Int) (aO : Option Addr) (cO : Nat) (th tq : TypeId) (w : World) (hh : w.heap[2]? = some (.cells (ints .u32 [1634760805, 857760878, 2036477234, 1797285236]) th)) (hq : w.heap[3]? = some (.cells (ints .i64 [0, 4, 8, 12, 1, 5, 9, 13, 2, 6, 10, 14, 3, 7, 11, 15, 0, 5, 10, 15, 1, 6, 11, 12, 2, 7, 8, 13, 3, 4, 9, 14]) tq)) (hka : ka.length = 32) (hkb : kb.length = 32) (hos : RdK .i64 w.heap.size os (.slice aO os.length cO) w) : Calls Tryd.prog 7 #[.agg (cat [ints .u8 ka, ints .u8 kb, #[.int .i64 many], #[.slice aO os.length cO]])] w (Ret w (.bool true)) := by
  refine enter 12 [(0, .agg (cat [ints .u8 (ka), ints .u8 (kb), #[.int .i64 many], #[.slice aO os.length cO]]))] Tryd.func7 rfl rfl kj rfl ?_
  refine wp_seq_k fun K3 hK3 => ?_
  refine Qab ?_
  refine Qas (cat [ints .u8 (ka), ints .u8 (kb), #[.int .i64 many], #[.slice aO os.length cO]]) 76 1 rfl kj kj fun g4 W1 l4 e1 r4_1 => ?_
  have x1 : Ext w W1 := Ext.tr (Rely.Ext.refl w) e1
  have b4 : w.heap.size ≤ g4 := Nat.le_trans (Rely.Ext.refl w).size l4
  refine Qaa (.bool false) 2 rfl kj kj ?_
  refine Qac ?_
  refine hK3 _ _ ?_
  refine wp_seq_k fun K5 hK5 => ?_
  refine Qab ?_
  refine Qaa (.pointer (some ⟨g4, 0, none⟩)) 3 rfl kj kj ?_
  refine Qaa (.agg (ints .u8 (ka))) 4 rfl kj (QaG 23 _ g4 0 76 _ _ _ r4_1 rfl kj (QaB [] [ints .u8 (ka)] [ints .u8 (kb), #[.int .i64 many], #[.slice aO os.length cO]] 0 kj) kj (isz (n := 32) kj ((Qaf _ _).trans hka))) ?_
  refine Qaa (.pointer (some ⟨g4, 32, none⟩)) 5 rfl kj kj ?_
  refine Qaa (.agg (ints .u8 (kb))) 6 rfl kj (QaG 23 _ g4 32 76 _ _ _ r4_1 rfl kj (QaB [ints .u8 (ka)] [ints .u8 (kb)] [#[.int .i64 many], #[.slice aO os.length cO]] 32 ((Qaf _ _).trans hka)) kj (isz (n := 32) kj ((Qaf _ _).trans hkb))) ?_
  refine Qaa (.pointer (some ⟨g4, 64, none⟩)) 7 rfl kj kj ?_
  refine Qaa (.int .i64 many) 8 rfl kj (Qae 3 _ g4 64 76 _ (.int .i64 many) _ r4_1 rfl kj (QaB [ints .u8 (ka), ints .u8 (kb)] [#[.int .i64 many]] [#[.slice aO os.length cO]] 64 (by rw [Qao, Qao]; simp only [Array.size_append, cat, ((Qaf _ _).trans hka), ((Qaf _ _).trans hkb)]; rfl) 0 _ rfl) kj) ?_
  refine Qaa (.pointer (some ⟨g4, 65, none⟩)) 9 rfl kj kj ?_
  refine Qaa (.slice aO os.length cO) 10 rfl kj (Qae 66 _ g4 65 76 _ (.slice aO os.length cO) _ r4_1 rfl kj (QaB [ints .u8 (ka), ints .u8 (kb), #[.int .i64 many]] [#[.slice aO os.length cO]] [] 65 (by rw [Qao, Qao, Qao]; simp only [Array.size_append, cat, ((Qaf _ _).trans hka), ((Qaf _ _).trans hkb)]; rfl) 0 _ rfl) kj) ?_
  have r2_1 := (Qad hh e1)
  have r1_1 := (Qad hq e1)
  refine Qat (.bool true) 52 #[.agg (ints .u8 (ka)), .agg (ints .u8 (kb)), .int .i64 many, .slice aO os.length cO] 11 rfl kj kj ((Qiq ka kb os many aO cO th tq _ r2_1 r1_1 hka hkb (RdK.here (RdK.ext hos x1)))) fun W2 e2 => ?_
  have x2 : Ext w W2 := Ext.tr x1 e2
  refine Qaa (.bool true) 2 rfl kj kj ?_
  refine Qac ?_
  refine hK5 _ _ ?_
  refine wp_ret ?_
  repeat (first | with_reducible refine goR1 ?_ | with_reducible refine goR2 ?_)
  exact (show bodyPost _ _ _ .ret _ _ from ret1 (.bool true) rfl (Qa0 kj) ⟨rfl, x2⟩)
theorem lawAllF (ka kb os : List Int) (many : Int) (aO : Option Addr) (lO cO : Nat) (th tq : TypeId) (w : World) (hh : w.heap[2]? = some (.cells (ints .u32 [1634760805, 857760878, 2036477234, 1797285236]) th)) (hq : w.heap[3]? = some (.cells (ints .i64 [0, 4, 8, 12, 1, 5, 9, 13, 2, 6, 10, 14, 3, 7, 11, 15, 0, 5, 10, 15, 1, 6, 11, 12, 2, 7, 8, 13, 3, 4, 9, 14]) tq)) (hka : ka.length = 32) (hkb : kb.length = 32) (hos : RdK .i64 w.heap.size os (.slice aO lO cO) w) (elO : os.length = lO) : Calls Tryd.prog 7 #[.agg ((ka.map (Value.int .u8) ++ kb.map (Value.int .u8) ++ [Value.int .i64 many] ++ [Value.slice aO lO cO]).toArray)] w (Ret w (.bool true)) := by
  subst elO
  have e : (ka.map (Value.int .u8) ++ kb.map (Value.int .u8) ++ [Value.int .i64 many] ++ [Value.slice aO os.length cO]).toArray = cat [ints .u8 ka, ints .u8 kb, #[.int .i64 many], #[.slice aO os.length cO]] := by
    apply Array.ext'
    simp [cat, ints]
  rw [e]
  exact QhW ka kb os many aO cO th tq w hh hq hka hkb hos
end Go.Proofs.YtoiendjhplbjjaaDoor.Ll
end
section
namespace Go.Proofs.YtoiendjhplbjjaaDoor.Auto
open Go Go.RowKit Go.WideShapes
open Rely
set_option linter.unusedVariables false
section
variable {H : Type} {enc : TypeId × Value → H} {P : Program} {W w : World} {r : Reach} {base b0 : Nat} {sp : Nat → Bool} {held : Bool}
theorem open_raw {n : Nat} {t e : TypeId} {cs : List Value} {fuel : Nat} {x : DataW H × List MemPlace} (ht : P.underlying t = some (.array n e)) (he : P.underlying e = some (.int .u8)) (hce : P.cellsOf e = 1) (hct : P.cellsOf t = n)
    (hf : DataW.trod enc P w b0 sp held fuel t cs = some x) : ∃ xs : List Int, cs = xs.map (Value.int .u8) ∧ xs.length = n ∧ Qan xs := by
  obtain ⟨xs, m, -, -, hl, hn, hx⟩ := DataW.trod_array ht hf
  have hcs : cs.length = n := by simpa [hct] using hl
  have each : ∀ i, i < n → ∃ z : Int, cs[i]? = some (.int .u8 z) ∧ (0 ≤ z ∧ z ≤ 255) := by
    intro i hi
    have h1 := hx i hi
    rw [hce, Nat.mul_one] at h1
    have hlt : i < cs.length := by omega
    have h2 : cs.drop i = cs[i] :: cs.drop (i + 1) := List.drop_eq_getElem_cons hlt
    have h1 : DataW.trod enc P w b0 sp held m e ((cs.drop i).take 1) = xs[i]? := h1
    rw [h2] at h1
    simp only [List.take_succ_cons, List.take_zero] at h1
    obtain ⟨y, hy⟩ : ∃ y, xs[i]? = some y := ⟨xs[i], by simp [hn, hi]⟩
    rw [hy] at h1
    obtain ⟨z, hc, -, hw⟩ := DataW.trod_int he h1
    refine ⟨z, ?_, ?_⟩
    · rw [List.getElem?_eq_getElem hlt]
      simp only [List.cons.injEq] at hc
      rw [hc.1]
    · simpa [Lit.wf, IntKind.min, IntKind.max, IntKind.signed, IntKind.bits] using hw
  have all : ∀ (l : List Value), (∀ i, i < l.length → ∃ z : Int, l[i]? = some (.int .u8 z) ∧ (0 ≤ z ∧ z ≤ 255)) → ∃ zs : List Int, l = zs.map (Value.int .u8) ∧ Qan zs := by
    intro l
    induction l with
    | nil => exact fun _ => ⟨[], rfl, fun x hx => by simp at hx⟩
    | cons a l ih =>
      intro h
      obtain ⟨zs, h1, h2⟩ := ih fun i hi => by simpa using h (i + 1) (by simp; omega)
      obtain ⟨z, h3, h4⟩ := h 0 (by simp)
      simp only [List.getElem?_cons_zero, Option.some.injEq] at h3
      refine ⟨z :: zs, by rw [h3, h1]; rfl, fun x hx => ?_⟩
      rcases List.mem_cons.1 hx with e | e
      · rw [e]; exact h4
      · exact h2 x e
  obtain ⟨zs, h1, h2⟩ := all cs fun i hi => each i (by omega)
  exact ⟨zs, h1, by rw [← hcs, h1, List.length_map], h2⟩
theorem open_st4 {t : TypeId} {f0 f1 f2 f3 : Field} {v : Value} {d : DataW H} {p : List MemPlace} {n0 n1 n2 n3 : Nat} (hs : P.underlying t = some (.struct #[f0, f1, f2, f3]))
    (ho : f0.offset = 0 ∧ f1.offset = n0 ∧ f2.offset = n0 + n1 ∧ f3.offset = n0 + n1 + n2) (hc : P.cellsOf f0.type = n0 ∧ P.cellsOf f1.type = n1 ∧ P.cellsOf f2.type = n2 ∧ P.cellsOf f3.type = n3) (hC : P.cellsOf t = n0 + n1 + n2 + n3)
    (hv : Value.okWide P W r base t v) (h : DataW.Trod enc P w b0 sp held t v d p) :
    ∃ (A B C D : List Value) (y0 y1 y2 y3 : DataW H × List MemPlace) (n : Nat), v = .agg (A ++ B ++ C ++ D).toArray ∧
      DataW.trod enc P w b0 sp held n f0.type A = some y0 ∧ DataW.trod enc P w b0 sp held n f1.type B = some y1 ∧ DataW.trod enc P w b0 sp held n f2.type C = some y2 ∧ DataW.trod enc P w b0 sp held n f3.type D = some y3 := by
  obtain ⟨cs, rfl, hsz⟩ := okWide_struct hs hv
  obtain ⟨fuel, hf⟩ := h
  obtain ⟨y0, y1, y2, y3, n, -, hlen, h0, h1, h2, h3⟩ := Joins.trod_struct4 hs hf
  obtain ⟨o0, o1, o2, o3⟩ := ho
  obtain ⟨c0, c1, c2, c3⟩ := hc
  rw [o0, c0] at h0
  rw [o1, c1] at h1
  rw [o2, c2] at h2
  rw [o3, c3] at h3
  refine ⟨_, _, _, _, y0, y1, y2, y3, n, ?_, h0, h1, h2, h3⟩
  congr 1
  have hl : cs.toList.length = n0 + n1 + n2 + n3 := by rw [Array.length_toList, hsz, hC]
  apply Array.ext'
  show cs.toList = _
  simp only [Value.cells, List.drop_zero]
  generalize cs.toList = l at hl
  have e1 : l.take n0 ++ (l.drop n0).take n1 = l.take (n0 + n1) := by rw [List.take_add]
  have e2 : l.take (n0 + n1) ++ (l.drop (n0 + n1)).take n2 = l.take (n0 + n1 + n2) := by rw [List.take_add (i := n0 + n1)]
  have e3 : l.take (n0 + n1 + n2) ++ (l.drop (n0 + n1 + n2)).take n3 = l.take (n0 + n1 + n2 + n3) := by rw [List.take_add (i := n0 + n1 + n2)]
  rw [e1, e2, e3, List.take_of_length_le (by omega)]
end
end Go.Proofs.YtoiendjhplbjjaaDoor.Auto
end
section
namespace Go.Proofs.YtoiendjhplbjjaaDoor.Auto
open Go Go.RowKit
open Rely
set_option linter.unusedVariables false
theorem QcM {P : Program} {w : World} : ∀ (laid : List (String × DataW Unit)) (ps : List MemPlace) (n : String) (d : DataW Unit), DataW.LaidVars P w laid ps → (n, d) ∈ laid →
    ∃ g t cs fuel p, P.globalNamed n = some g ∧ (P.globals[g]?).map (·.type) = some t ∧ w.var? P n = some cs ∧ DataW.trod (fun _ => ()) P w 0 (fun _ => true) false fuel t cs.toList = some (d, p) ∧ ∀ x ∈ MemPlace.row ⟨g, 0, none⟩ cs.size, x ∈ ps
  | [], _, _, _, _, h => by cases h
  | (n0, d0) :: r, ps, n, d, ⟨g, t, cs, fuel, p, q, h1, h2, h3, h4, h5, h6⟩, h => by
    subst h6
    rcases List.mem_cons.1 h with h | h
    · cases h
      exact ⟨g, t, cs, fuel, p, h1, h2, h3, h4, fun x hx => List.mem_append_left _ (List.mem_append_left _ hx)⟩
    · obtain ⟨g', t', cs', fuel', p', a, b, c, e, f⟩ := QcM r q n d h5 h
      exact ⟨g', t', cs', fuel', p', a, b, c, e, fun x hx => List.mem_append_right _ (f x hx)⟩
theorem Qg7 {P : Program} {w : World} {laid : List (String × DataW Unit)} {n : String} {k : IntKind} {zs : List Int} {g : Nat} {t e : TypeId} {m : Nat} (h : laidMet P laid w) (hm : (n, Lib.tabData k zs) ∈ laid)
    (hg : P.globalNamed n = some g) (hty : (P.globals[g]?).map (·.type) = some t) (ht : P.underlying t = some (.array m e)) (he : P.underlying e = some (.int k)) (hce : P.cellsOf e = 1) (hct : P.cellsOf t = m) (h0 : 0 < zs.length) :
    ∃ t, w.heap[g]? = some (.cells (ints k zs) t) := by
  obtain ⟨ps, hL, -, hC⟩ := h
  obtain ⟨g', t', cs, fuel, p, hg', ht', hvar, hd, hin⟩ := QcM _ _ _ _ hL hm
  obtain rfl := Option.some.inj (hg.symm.trans hg')
  obtain rfl := Option.some.inj (hty.symm.trans ht')
  have hcs := Lib.cells_of_tab ht he hce hct hd
  have hsz : 0 < cs.size := by rw [← Array.length_toList, hcs, List.length_map]; exact h0
  obtain ⟨⟨c, t2, hc⟩, -⟩ := hC g 0 (hin _ (List.mem_map.2 ⟨0, List.mem_range.2 hsz, rfl⟩))
  unfold World.var? at hvar
  rw [hg] at hvar
  simp only [Option.bind_some, hc, Option.some.injEq] at hvar
  subst hvar
  refine ⟨t2, hc.trans ?_⟩
  rw [show c = ints k zs from by rw [ints, ← hcs]]
end Go.Proofs.YtoiendjhplbjjaaDoor.Auto
end
section
namespace Go.Proofs.YtoiendjhplbjjaaDoor.Auto
open Go Go.RowKit
open Rely
set_option linter.unusedVariables false
theorem chunks {α : Type} (m : Nat) : ∀ (n : Nat) (cs : List α), cs.length = n * m → ((List.range n).map fun i => (cs.drop (i * m)).take m).flatten = cs
  | 0, cs, h => by
    have : cs = [] := List.length_eq_zero_iff.1 (by simpa using h)
    subst this; rfl
  | n + 1, cs, h => by
    have hm : (n + 1) * m = n * m + m := Nat.succ_mul n m
    rw [List.range_succ, List.map_append, List.flatten_append]
    have ih := chunks m n (cs.take (n * m)) (by rw [List.length_take]; omega)
    have e1 : ((List.range n).map fun i => (cs.drop (i * m)).take m) = ((List.range n).map fun i => ((cs.take (n * m)).drop (i * m)).take m) := by
      refine List.map_congr_left fun i hi => ?_
      rw [List.mem_range] at hi
      have h1 : (i + 1) * m ≤ n * m := Nat.mul_le_mul_right m hi
      rw [Nat.succ_mul] at h1
      rw [List.drop_take, List.take_take, Nat.min_eq_left (by omega)]
    rw [e1, ih]
    simp only [List.map_cons, List.map_nil, List.flatten_cons, List.flatten_nil, List.append_nil]
    have e2 : (cs.drop (n * m)).take m = cs.drop (n * m) := List.take_of_length_le (by rw [List.length_drop]; omega)
    rw [e2, List.take_append_drop]
theorem Qei {H : Type} {enc : TypeId × Value → H} {P : Program} {w : World} {base : Nat} {sp : Nat → Bool} {held : Bool} {fuel : Nat} {t e i : TypeId} {n m : Nat} {k : IntKind} {cs : List Value} {zss : List (List Int)} {p : List MemPlace}
    (ht : P.underlying t = some (.array n e)) (he : P.underlying e = some (.array m i)) (hi : P.underlying i = some (.int k)) (hci : P.cellsOf i = 1) (hce : P.cellsOf e = m) (hct : P.cellsOf t = n * m)
    (h : DataW.trod enc P w base sp held fuel t cs = some (.agg (zss.map (Lib.tabData k)), p)) : cs = zss.flatten.map fun z => Value.int k z := by
  cases fuel with
  | zero => simp [DataW.trod] at h
  | succ fuel =>
    simp only [DataW.trod, ht, hce, hct] at h
    split at h
    · rename_i hl
      obtain ⟨xs, hm, hx⟩ := Option.map_eq_some_iff.1 h
      have hxs : xs.map (·.1) = zss.map fun z => (Lib.tabData k z : DataW H) := by
        have := congrArg Prod.fst hx
        simpa using this
      have hxl : xs.length = n := by simpa using Lib.mapM_length hm
      have hzl : zss.length = n := by
        have := congrArg List.length hxs
        simp at this
        omega
      rw [← chunks m n cs (by simpa using hl), List.map_flatten]
      congr 1
      apply List.ext_getElem?
      intro j
      by_cases hj : j < n
      · obtain ⟨b, hb, hf⟩ := Lib.mapM_at hm j j (by simp [hj])
        have h2 : (xs.map (·.1))[j]? = some b.1 := by simp [hb]
        rw [hxs, List.getElem?_map, List.getElem?_eq_getElem (by omega), Option.map_some, Option.some.injEq] at h2
        have h3 := Lib.cells_of_tab he hi hci hce (zs := zss[j]'(by omega)) (p := b.2) (by rw [h2]; exact hf)
        rw [List.getElem?_map, List.getElem?_map, List.getElem?_range hj, List.getElem?_eq_getElem (by omega), Option.map_some, Option.map_some, h3]
      · rw [List.getElem?_eq_none (by simp; omega), List.getElem?_eq_none (by simp; omega)]
    · cases h
theorem Qga {P : Program} {w : World} {laid : List (String × DataW Unit)} {n : String} {k : IntKind} {zss : List (List Int)} {g : Nat} {t e i : TypeId} {m1 m : Nat} (h : laidMet P laid w) (hm : (n, DataW.agg (zss.map (Lib.tabData k))) ∈ laid)
    (hg : P.globalNamed n = some g) (hty : (P.globals[g]?).map (·.type) = some t) (ht : P.underlying t = some (.array m1 e)) (he : P.underlying e = some (.array m i)) (hi : P.underlying i = some (.int k)) (hci : P.cellsOf i = 1) (hce : P.cellsOf e = m) (hct : P.cellsOf t = m1 * m) (h0 : 0 < zss.flatten.length) :
    ∃ t, w.heap[g]? = some (.cells (ints k zss.flatten) t) := by
  obtain ⟨ps, hL, -, hC⟩ := h
  obtain ⟨g', t', cs, fuel, p, hg', ht', hvar, hd, hin⟩ := QcM _ _ _ _ hL hm
  obtain rfl := Option.some.inj (hg.symm.trans hg')
  obtain rfl := Option.some.inj (hty.symm.trans ht')
  have hcs := Qei ht he hi hci hce hct hd
  have hsz : 0 < cs.size := by rw [← Array.length_toList, hcs, List.length_map]; exact h0
  obtain ⟨⟨c, t2, hc⟩, -⟩ := hC g 0 (hin _ (List.mem_map.2 ⟨0, List.mem_range.2 hsz, rfl⟩))
  unfold World.var? at hvar
  rw [hg] at hvar
  simp only [Option.bind_some, hc, Option.some.injEq] at hvar
  subst hvar
  refine ⟨t2, hc.trans ?_⟩
  rw [show c = ints k zss.flatten from by rw [ints, ← hcs]]
end Go.Proofs.YtoiendjhplbjjaaDoor.Auto
end
