/- ChaCha20: a piece. -/
import Derived.Test.YtjldjdlhllgakaaDoorChN
import Derived.Test.YtjldjdlhllgakaaDoorAutoTv
namespace Go.Proofs.YtjldjdlhllgakaaDoor.Cha
open Go Go.RowKit
open Go.Proofs.YtjldjdlhllgakaaDoor.Rely Go.Proofs.YtjldjdlhllgakaaDoor.Auto Go.Proofs.YtjldjdlhllgakaaDoor.Own Go.Proofs.YtjldjdlhllgakaaDoor.Sha
set_option linter.unusedVariables false
set_option linter.unusedSimpArgs false

open Go.Proofs.YtjldjdlhllgakaaDoor.Sha
/-- a quarter round at four places of sixteen words -/
def qrt (x : List Wd) (i j k l : Nat) : List Wd := (((x.set i (qA2 (wget x i) (wget x j) (wget x k) (wget x l))).set j (qB2 (wget x i) (wget x j) (wget x k) (wget x l))).set k (qC2 (wget x i) (wget x j) (wget x k) (wget x l))).set l (qD2 (wget x i) (wget x j) (wget x k) (wget x l))
theorem qrt_len (x : List Wd) (i j k l : Nat) : (qrt x i j k l).length = x.length := by unfold qrt; simp only [List.length_set]
def dbl (x : List Wd) : List Wd := qrt (qrt (qrt (qrt (qrt (qrt (qrt (qrt (x) 0 4 8 12) 1 5 9 13) 2 6 10 14) 3 7 11 15) 0 5 10 15) 1 6 11 12) 2 7 8 13) 3 4 9 14
theorem dbl_len (x : List Wd) : (dbl x).length = x.length := by unfold dbl; simp only [qrt_len]
def rounds (s : List Wd) : Nat → List Wd
  | 0 => s
  | n + 1 => dbl (rounds s n)
theorem rounds_len (s : List Wd) : ∀ n, (rounds s n).length = s.length
  | 0 => rfl
  | n + 1 => (dbl_len _).trans (rounds_len s n)
theorem wv_len {x : List Wd} {n : Nat} (h : x.length = n) : (x.map wv).length = n := by rw [List.length_map, h]
/-- filled up to i, noughts behind it -/
def fillL (xs : List Int) (n i : Nat) : List Int := xs.take i ++ List.replicate (n - i) 0
theorem fillL_len (xs : List Int) (n i : Nat) (h : xs.length = n) (hi : i ≤ n) : (fillL xs n i).length = n := by unfold fillL; rw [List.length_append, List.length_take, List.length_replicate]; omega
theorem fillL_zero (xs : List Int) (n : Nat) : List.replicate n 0 = fillL xs n 0 := by unfold fillL; rw [List.take_zero, Nat.sub_zero]; rfl
theorem fillL_full (xs : List Int) (n : Nat) (h : xs.length = n) : fillL xs n n = xs := by unfold fillL; rw [Nat.sub_self, List.replicate_zero, List.append_nil, List.take_of_length_le (by omega)]
theorem fillL_step (xs : List Int) (n i : Nat) (h : xs.length = n) (hi : i < n) : (fillL xs n i).set i (nth xs i) = fillL xs n (i + 1) := by
  have hl : (xs.take i).length = i := by rw [List.length_take]; omega
  unfold fillL
  rw [List.set_append_right _ _ (by omega), hl, Nat.sub_self, show n - i = (n - (i + 1)) + 1 by omega, List.replicate_succ, List.set_cons_zero]
  have e : xs.take (i + 1) = xs.take i ++ [nth xs i] := by
    rw [List.take_add_one, List.getElem?_eq_getElem (by omega)]
    simp [nth, show i < xs.length by omega]
  rw [e, List.append_assoc]
  rfl
/-- the bytes of a piece: the words that came of the rounds, and those from which they started -/
def pieceB (x s : List Wd) : List Int := (List.range 64).map fun n => wv ((wget x (n / 4) + wget s (n / 4)) >>> (8 * (n % 4))) % 256
theorem pieceB_len (x s : List Wd) : (pieceB x s).length = 64 := by unfold pieceB; rw [List.length_map, List.length_range]
theorem byteP (x s : List Wd) (i j : Nat) (hi : i < 16) (hj : j < 4) : IntKind.u8.wrap (wv ((wget x i + wget s i) >>> (8 * j))) = nth (pieceB x s) (4 * i + j) := by
  have h1 : (4 * i + j) / 4 = i := by omega
  have h2 : (4 * i + j) % 4 = j := by omega
  have h3 : ∀ z : Int, IntKind.u8.wrap z = z % 2 ^ 8 := fun _ => rfl
  unfold nth pieceB
  rw [h3, List.getD_eq_getElem?_getD, List.getElem?_map, List.getElem?_range (by omega), Option.map_some, Option.getD_some, h1, h2]
  rfl
/-- the piece of a number -/
def pieceV (ws : List Wd) (number : Int) : List Int := pieceB (rounds (ws.set 12 (BitVec.ofInt 32 number)) 10) (ws.set 12 (BitVec.ofInt 32 number))
set_option maxRecDepth 100000 in
set_option maxHeartbeats 4000000 in
theorem pieceC (ws : List Wd) (number : Int) (tq : TypeId) (w : World) (hq : w.heap[1]? = some (.cells (ints .i64 [0, 4, 8, 12, 1, 5, 9, 13, 2, 6, 10, 14, 3, 7, 11, 15, 0, 5, 10, 15, 1, 6, 11, 12, 2, 7, 8, 13, 3, 4, 9, 14]) tq)) (hw : ws.length = 16) : Calls Tryd.prog 52 #[.agg (ints .u32 (ws.map wv)), .int .i64 number] w (Ret w (.agg (ints .u8 (pieceV ws number)))) := by
  refine enter 84 [(0, .agg (ints .u32 (ws.map wv))), (1, .int .i64 number)] Tryd.func52 rfl rfl kj rfl ?_
  refine wp_seq_k fun K2 hK2 => ?_
  refine region_lit ?_
  refine seq_alloc (ints .u32 (ws.map wv)) 88 2 rfl kj kj fun g3 W1 l3 e1 r3_1 => ?_
  have x1 : Ext w W1 := Ext.tr (Rely.Ext.refl w) e1
  have b3 : w.heap.size ≤ g3 := Nat.le_trans (Rely.Ext.refl w).size l3
  refine seq_alloc (ints .u8 (List.replicate 64 0)) 78 4 rfl kj kj fun g4 W2 l4 e2 r4_2 => ?_
  have x2 : Ext w W2 := Ext.tr x1 e2
  have b4 : w.heap.size ≤ g4 := Nat.le_trans x1.size l4
  refine seq_nil ?_
  refine hK2 _ _ ?_
  try clear hK2 K2
  refine wp_seq_k fun K5 hK5 => ?_
  refine region_lit ?_
  refine seq_val (.int .i64 number) 12 rfl kj kj ?_
  refine seq_val (.int .u32 (wv (BitVec.ofInt 32 number))) 13 rfl kj (run_eq (u := .int .u32 (IntKind.u32.wrap (number))) kj (congrArg (Value.int .u32) (by rw [Go.Proofs.YtjldjdlhllgakaaDoor.Sha.wrap32, wv_ofInt]))) ?_
  refine seq_val (.pointer (some ⟨g3, 12, none⟩)) 14 rfl kj kj ?_
  have r3_2 := (row_ext r3_1 e2)
  refine seq_store g3 _ (ints .u32 ((ws.map wv).set 12 (wv (BitVec.ofInt 32 number)))) 88 r3_2 rfl kj (run_storeI 87 _ _ g3 12 88 _ _ r3_2 rfl kj kj kj (Nat.lt_of_lt_of_eq (show 12 < 16 by decide) (wv_len hw).symm)) fun W3 p3 r3_3 => ?_
  have x3 : Ext w W3 := Puts.ext p3 x2 b3
  obtain ⟨s, es⟩ : ∃ z : List Wd, z = ws.set 12 (BitVec.ofInt 32 number) := ⟨_, rfl⟩
  have hs : s.length = 16 := by rw [es, List.length_set, hw]
  have r3_3_6 : W3.heap[g3]? = some (.cells (ints .u32 (s.map wv)) 88) := row_eq r3_3 (by rw [es, List.map_set])
  refine seq_nil ?_
  refine hK5 _ _ ?_
  try clear hK5 K5
  refine wp_seq_k fun K7 hK7 => ?_
  refine region_lit ?_
  refine seq_val (.agg (ints .u32 (s.map wv))) 15 rfl kj (run_load_row 88 _ g3 88 _ _ r3_3_6 rfl kj kj (isz (n := 16) kj ((ints_size _ _).trans (wv_len hs)))) ?_
  refine seq_alloc (ints .u32 ([0, 0, 0, 0, 0, 0, 0, 0, 0, 0, 0, 0, 0, 0, 0, 0])) 88 5 rfl kj kj fun g8 W4 l8 e4 r8_4 => ?_
  have x4 : Ext w W4 := Ext.tr x3 e4
  have b8 : w.heap.size ≤ g8 := Nat.le_trans x3.size l8
  refine seq_store g8 _ (ints .u32 (s.map wv)) 88 r8_4 rfl kj (run_store_row 88 _ _ g8 88 _ _ r8_4 rfl kj kj (isz (n := 16) kj ((ints_size _ _).trans (wv_len hs))) (eqsz (n := 16) kj ((ints_size _ _).trans (wv_len hs))) (ints_one _ _)) fun W5 p5 r8_5 => ?_
  have x5 : Ext w W5 := Puts.ext p5 x4 b8
  refine seq_nil ?_
  refine hK7 _ _ ?_
  try clear hK7 K7
  refine wp_seq_k fun K9 hK9 => ?_
  refine wp_seq_k fun K10 hK10 => ?_
  refine region_lit ?_
  refine seq_val (.int .i64 0) 16 rfl kj kj ?_
  refine seq_nil ?_
  refine hK10 _ _ ?_
  try clear hK10 K10
  refine wp_block ?_
  refine loop_auto (fun (s1 : Nat) => [(2, .pointer (some ⟨g3, 0, none⟩)), (4, .pointer (some ⟨g4, 0, none⟩)), (5, .pointer (some ⟨g8, 0, none⟩)), (16, .int .i64 ((s1 : Nat) : Int))]) (fun (s1 : Nat) W => (s1 ≤ 10) ∧ (W.heap[g8]? = some (.cells (ints .u32 ((rounds s s1).map wv)) 88)) ∧ (Keeps [g8] W5 W) ∧ (Ext w W)) (fun (s1 : Nat) => 10 - s1) 0 ⟨rfl, rfl, rfl, rfl, trivial⟩ ⟨(Nat.zero_le _), (row_eq r8_5 rfl), (Keeps.refl [g8] W5), x5⟩ fun s1 X1 V1 hI1 => ?_
  obtain ⟨i, hs1⟩ : ∃ z, z = s1 := ⟨_, rfl⟩
  subst hs1
  obtain ⟨hi, q8_1, kk1, xx1⟩ := hI1
  replace hi : i ≤ 10 := hi
  replace q8_1 : V1.heap[g8]? = some (.cells (ints .u32 ((rounds s i).map wv)) 88) := q8_1
  replace kk1 : Keeps [g8] W5 V1 := kk1
  replace xx1 : Ext w V1 := xx1
  have q6 := kk1
  refine wp_seq_k fun K11 hK11 => ?_
  refine region_lit ?_
  refine seq_val (.bool (decide (((i : Nat) : Int) < 10))) 17 rfl kj kj ?_
  refine seq_nil ?_
  refine hK11 _ _ ?_
  try clear hK11 K11
  refine wp_seq_k fun K12 hK12 => ?_
  refine cond_split (t := decide (((i : Nat) : Int) < 10)) kj (fun c13 => ?_) (fun c13 => ?_)
  · skip
    have hlt17 : i < 10 := by have := of_decide_eq_true c13; omega
    refine wp_skip ?_
    refine hK12 _ _ ?_
    try clear hK12 K12
    refine wp_seq_k fun K14 hK14 => ?_
    refine wp_block ?_
    refine wp_seq_k fun K15 hK15 => ?_
    refine region_lit ?_
    have r1_1 := (row_ext hq e1)
    have r1_2 := (row_ext r1_1 e2)
    have r1_3 := (Puts.row p3 r1_2 (ne_of_old hq l3))
    have r1_4 := (row_ext r1_3 e4)
    have r1_5 := (Puts.row p5 r1_4 (ne_of_old r1_3 l8))
    have r1_6 := (Keeps.row q6 r1_5 (nm_cons (ne_of_old r1_3 l8) nm_nil))
    refine seq_val (.agg (ints .i64 ([0, 4, 8, 12, 1, 5, 9, 13, 2, 6, 10, 14, 3, 7, 11, 15, 0, 5, 10, 15, 1, 6, 11, 12, 2, 7, 8, 13, 3, 4, 9, 14]))) 18 rfl kj (run_load_row 100 _ 1 tq _ _ r1_6 rfl kj kj (isz (n := 32) kj kj)) ?_
    refine seq_val (.int .i64 0) 19 rfl kj kj ?_
    refine seq_nil ?_
    refine hK15 _ _ ?_
    try clear hK15 K15
    refine wp_block ?_
    obtain ⟨x0, ex0⟩ : ∃ z : List Wd, z = rounds s i := ⟨_, rfl⟩
    have h0 : x0.length = 16 := by rw [ex0, rounds_len, hs]
    have r8_6_16 : V1.heap[g8]? = some (.cells (ints .u32 (x0.map wv)) 88) := row_eq q8_1 (by rw [ex0])
    refine wp_loop_rounds 9 ?_
    show Code.wp _ _ (Exit.then (Code.rounds _ _ _ 8) _) _ _
    refine wp_seq_k fun K17 hK17 => ?_
    refine region_lit ?_
    refine seq_val (.bool true) 20 rfl kj kj ?_
    refine seq_nil ?_
    refine hK17 _ _ ?_
    try clear hK17 K17
    refine wp_seq_k fun K18 hK18 => ?_
    refine cond_true kj ?_
    refine wp_skip ?_
    refine hK18 _ _ ?_
    try clear hK18 K18
    refine wp_seq_k fun K19 hK19 => ?_
    refine wp_block ?_
    refine wp_seq_k fun K20 hK20 => ?_
    refine region_lit ?_
    refine seq_val (.agg (ints .i64 ([0, 4, 8, 12]))) 21 rfl kj kj ?_
    refine seq_alloc ((Array.replicate 4 (.int .i64 0))) 68 7 rfl kj kj fun g21 W7 l21 e7 r21_7 => ?_
    have x7 : Ext w W7 := Ext.tr xx1 e7
    have b21 : w.heap.size ≤ g21 := Nat.le_trans xx1.size l21
    refine seq_store g21 _ (ints .i64 ([0, 4, 8, 12])) 68 r21_7 rfl kj (run_store_row 68 _ _ g21 68 _ _ r21_7 rfl kj kj (isz (n := 4) kj kj) (eqsz (n := 4) kj kj) (ints_one _ _)) fun W8 p8 r21_8 => ?_
    have x8 : Ext w W8 := Puts.ext p8 x7 b21
    refine seq_nil ?_
    refine hK20 _ _ ?_
    try clear hK20 K20
    refine any_regionT (fun W => W.heap[g21]? = some (.cells (ints .i64 ([0, 4, 8, 12])) 68)) [⟨none, [(7, none)]⟩, ⟨none, [(23, some 0)]⟩, ⟨none, [(7, none)]⟩, ⟨none, [(25, some 2)]⟩, ⟨none, [(7, none)]⟩, ⟨none, [(27, some 4)]⟩, ⟨none, [(7, none)]⟩, ⟨none, [(29, some 6)]⟩, ⟨none, [(7, none)]⟩, ⟨none, [(31, some 8)]⟩, ⟨none, [(5, none), (32, some 9)]⟩, ⟨none, [(33, some 10)]⟩, ⟨none, [(7, none)]⟩, ⟨none, [(35, some 12)]⟩, ⟨none, [(5, none), (36, some 13)]⟩, ⟨none, [(37, some 14)]⟩, ⟨none, [(7, none)]⟩, ⟨none, [(39, some 16)]⟩, ⟨none, [(5, none), (40, some 17)]⟩, ⟨none, [(41, some 18)]⟩, ⟨none, [(7, none)]⟩, ⟨none, [(43, some 20)]⟩, ⟨none, [(5, none), (44, some 21)]⟩, ⟨none, [(45, some 22)]⟩, ⟨none, [(34, some 11), (38, some 15), (42, some 19), (46, some 23)]⟩, ⟨none, [(47, some 24)]⟩, ⟨none, [(22, some 25)]⟩, ⟨none, [(22, some 25)]⟩, ⟨none, [(22, some 25)]⟩, ⟨none, [(22, some 25)]⟩, ⟨none, [(5, none), (24, some 1)]⟩, ⟨none, [(52, some 30), (48, some 26)]⟩, ⟨none, [(5, none), (26, some 3)]⟩, ⟨none, [(53, some 32), (49, some 27)]⟩, ⟨none, [(5, none), (28, some 5)]⟩, ⟨none, [(54, some 34), (50, some 28)]⟩, ⟨none, [(5, none), (30, some 7)]⟩, ⟨none, [(55, some 36), (51, some 29)]⟩] [] [2, 3, 4, 5, 6, 7, 27, 28, 29, 32, 34, 36] kj kj kj (fun W hR => row_ext r21_8 hR) fun F hF => ?_
    refine t_val (.pointer (some ⟨g21, 0, none⟩)) kj kj rfl (fun W => by kernel_rfl) ?_
    refine t_read (.int .i64 0) kj kj kj rfl (fun W hR => (run_loadC1 3 _ g21 0 68 _ (.int .i64 0) _ (row_ext (row_ext r21_8 (ext_drew _)) hR) rfl kj kj kj)) ?_
    refine t_val (.pointer (some ⟨g21, 1, none⟩)) kj kj rfl (fun W => by kernel_rfl) ?_
    refine t_readU (.int .i64 4) kj kj kj rfl (fun W hW => (run_loadC1 3 _ g21 1 68 _ (.int .i64 4) _ hW rfl kj kj kj)) ?_
    refine t_val (.pointer (some ⟨g21, 2, none⟩)) kj kj rfl (fun W => by kernel_rfl) ?_
    refine t_readU (.int .i64 8) kj kj kj rfl (fun W hW => (run_loadC1 3 _ g21 2 68 _ (.int .i64 8) _ hW rfl kj kj kj)) ?_
    refine t_val (.pointer (some ⟨g21, 3, none⟩)) kj kj rfl (fun W => by kernel_rfl) ?_
    refine t_readU (.int .i64 12) kj kj kj rfl (fun W hW => (run_loadC1 3 _ g21 3 68 _ (.int .i64 12) _ hW rfl kj kj kj)) ?_
    refine t_val (.pointer (some ⟨g21, 0, none⟩)) kj kj rfl (fun W => by kernel_rfl) ?_
    refine t_read (.int .i64 0) kj kj kj rfl (fun W hR => (run_loadC1 3 _ g21 0 68 _ (.int .i64 0) _ (row_ext (row_ext r21_8 (ext_drew _)) hR) rfl kj kj kj)) ?_
    refine t_val (.pointer (some ⟨g8, 0, none⟩)) kj kj rfl (fun W => by kernel_rfl) ?_
    have r8_7 := (row_ext r8_6_16 e7)
    have r8_8 := (Puts.row p8 r8_7 (ne_of_old r8_6_16 l21))
    refine t_read (.int .u32 (wv (wget x0 0))) kj kj kj rfl (fun W hR => (run_loadC1 87 _ g8 0 88 _ (.int .u32 (wv (wget x0 0))) _ (row_ext (row_ext r8_8 (ext_drew _)) hR) rfl kj ((ints_get _ _ _ (Nat.lt_of_lt_of_eq (by decide) (wv_len h0).symm)).trans (congrArg (fun z => some (Value.int .u32 z)) (nth_map x0 0))) kj)) ?_
    refine t_val (.pointer (some ⟨g21, 1, none⟩)) kj kj rfl (fun W => by kernel_rfl) ?_
    refine t_read (.int .i64 4) kj kj kj rfl (fun W hR => (run_loadC1 3 _ g21 1 68 _ (.int .i64 4) _ (row_ext (row_ext r21_8 (ext_drew _)) hR) rfl kj kj kj)) ?_
    refine t_val (.pointer (some ⟨g8, 4, none⟩)) kj kj rfl (fun W => by kernel_rfl) ?_
    refine t_read (.int .u32 (wv (wget x0 4))) kj kj kj rfl (fun W hR => (run_loadC1 87 _ g8 4 88 _ (.int .u32 (wv (wget x0 4))) _ (row_ext (row_ext r8_8 (ext_drew _)) hR) rfl kj ((ints_get _ _ _ (Nat.lt_of_lt_of_eq (by decide) (wv_len h0).symm)).trans (congrArg (fun z => some (Value.int .u32 z)) (nth_map x0 4))) kj)) ?_
    refine t_val (.pointer (some ⟨g21, 2, none⟩)) kj kj rfl (fun W => by kernel_rfl) ?_
    refine t_read (.int .i64 8) kj kj kj rfl (fun W hR => (run_loadC1 3 _ g21 2 68 _ (.int .i64 8) _ (row_ext (row_ext r21_8 (ext_drew _)) hR) rfl kj kj kj)) ?_
    refine t_val (.pointer (some ⟨g8, 8, none⟩)) kj kj rfl (fun W => by kernel_rfl) ?_
    refine t_read (.int .u32 (wv (wget x0 8))) kj kj kj rfl (fun W hR => (run_loadC1 87 _ g8 8 88 _ (.int .u32 (wv (wget x0 8))) _ (row_ext (row_ext r8_8 (ext_drew _)) hR) rfl kj ((ints_get _ _ _ (Nat.lt_of_lt_of_eq (by decide) (wv_len h0).symm)).trans (congrArg (fun z => some (Value.int .u32 z)) (nth_map x0 8))) kj)) ?_
    refine t_val (.pointer (some ⟨g21, 3, none⟩)) kj kj rfl (fun W => by kernel_rfl) ?_
    refine t_read (.int .i64 12) kj kj kj rfl (fun W hR => (run_loadC1 3 _ g21 3 68 _ (.int .i64 12) _ (row_ext (row_ext r21_8 (ext_drew _)) hR) rfl kj kj kj)) ?_
    refine t_val (.pointer (some ⟨g8, 12, none⟩)) kj kj rfl (fun W => by kernel_rfl) ?_
    refine t_read (.int .u32 (wv (wget x0 12))) kj kj kj rfl (fun W hR => (run_loadC1 87 _ g8 12 88 _ (.int .u32 (wv (wget x0 12))) _ (row_ext (row_ext r8_8 (ext_drew _)) hR) rfl kj ((ints_get _ _ _ (Nat.lt_of_lt_of_eq (by decide) (wv_len h0).symm)).trans (congrArg (fun z => some (Value.int .u32 z)) (nth_map x0 12))) kj)) ?_
    refine t_call (.tuple #[.int .u32 (wv (qA2 (wget x0 0) (wget x0 4) (wget x0 8) (wget x0 12))), .int .u32 (wv (qB2 (wget x0 0) (wget x0 4) (wget x0 8) (wget x0 12))), .int .u32 (wv (qC2 (wget x0 0) (wget x0 4) (wget x0 8) (wget x0 12))), .int .u32 (wv (qD2 (wget x0 0) (wget x0 4) (wget x0 8) (wget x0 12)))]) 58 #[.int .u32 (wv (wget x0 0)), .int .u32 (wv (wget x0 4)), .int .u32 (wv (wget x0 8)), .int .u32 (wv (wget x0 12))] kj kj kj rfl (fun W => by kernel_rfl) (fun W hR => (quarterC (wget x0 0) (wget x0 4) (wget x0 8) (wget x0 12)) W) ?_
    refine t_val (.tuple #[.int .u32 (wv (qA2 (wget x0 0) (wget x0 4) (wget x0 8) (wget x0 12))), .int .u32 (wv (qB2 (wget x0 0) (wget x0 4) (wget x0 8) (wget x0 12))), .int .u32 (wv (qC2 (wget x0 0) (wget x0 4) (wget x0 8) (wget x0 12))), .int .u32 (wv (qD2 (wget x0 0) (wget x0 4) (wget x0 8) (wget x0 12)))]) kj kj rfl (fun W => by kernel_rfl) ?_
    refine t_val (.int .u32 (wv (qA2 (wget x0 0) (wget x0 4) (wget x0 8) (wget x0 12)))) kj kj rfl (fun W => by kernel_rfl) ?_
    refine t_val (.int .u32 (wv (qB2 (wget x0 0) (wget x0 4) (wget x0 8) (wget x0 12)))) kj kj rfl (fun W => by kernel_rfl) ?_
    refine t_val (.int .u32 (wv (qC2 (wget x0 0) (wget x0 4) (wget x0 8) (wget x0 12)))) kj kj rfl (fun W => by kernel_rfl) ?_
    refine t_val (.int .u32 (wv (qD2 (wget x0 0) (wget x0 4) (wget x0 8) (wget x0 12)))) kj kj rfl (fun W => by kernel_rfl) ?_
    refine t_val (.pointer (some ⟨g8, 0, none⟩)) kj kj rfl (fun W => by kernel_rfl) ?_
    refine t_store rfl ?_
    refine t_val (.pointer (some ⟨g8, 4, none⟩)) kj kj rfl (fun W => by kernel_rfl) ?_
    refine t_store rfl ?_
    refine t_val (.pointer (some ⟨g8, 8, none⟩)) kj kj rfl (fun W => by kernel_rfl) ?_
    refine t_store rfl ?_
    refine t_val (.pointer (some ⟨g8, 12, none⟩)) kj kj rfl (fun W => by kernel_rfl) ?_
    refine t_store rfl ?_
    refine t_nil (hF _ kj fun W9 e9 => ?_)
    simp only [List.nil_append, List.cons_append, fins, up]
    clear hF
    have x9 : Ext w W9 := Ext.tr x8 e9
    have r8_9 := (row_ext r8_8 e9)
    have r21_9 := (row_ext r21_8 e9)
    refine te_store _ g8 _ (ints .u32 ((x0.map wv).set 0 (wv (qA2 (wget x0 0) (wget x0 4) (wget x0 8) (wget x0 12))))) 88 r8_9 rfl (run_storeI 87 _ _ g8 0 88 _ _ r8_9 rfl kj kj kj (Nat.lt_of_lt_of_eq (show 0 < 16 by decide) (wv_len h0).symm)) (fun W hp => Puts.row hp r21_9 (ne_of_new r8_6_16 l21)) fun W10 p10 r8_10 => ?_
    have x10 : Ext w W10 := Puts.ext p10 x9 b8
    have r21_10 := (Puts.row p10 r21_9 (ne_of_new r8_6_16 l21))
    refine te_store _ g8 _ (ints .u32 (((x0.map wv).set 0 (wv (qA2 (wget x0 0) (wget x0 4) (wget x0 8) (wget x0 12)))).set 4 (wv (qB2 (wget x0 0) (wget x0 4) (wget x0 8) (wget x0 12))))) 88 r8_10 rfl (run_storeI 87 _ _ g8 4 88 _ _ r8_10 rfl kj kj kj (Nat.lt_of_lt_of_eq (show 4 < 16 by decide) ((List.length_set ..).trans (wv_len h0)).symm)) (fun W hp => Puts.row hp r21_10 (ne_of_new r8_6_16 l21)) fun W11 p11 r8_11 => ?_
    have x11 : Ext w W11 := Puts.ext p11 x10 b8
    have r21_11 := (Puts.row p11 r21_10 (ne_of_new r8_6_16 l21))
    refine te_store _ g8 _ (ints .u32 ((((x0.map wv).set 0 (wv (qA2 (wget x0 0) (wget x0 4) (wget x0 8) (wget x0 12)))).set 4 (wv (qB2 (wget x0 0) (wget x0 4) (wget x0 8) (wget x0 12)))).set 8 (wv (qC2 (wget x0 0) (wget x0 4) (wget x0 8) (wget x0 12))))) 88 r8_11 rfl (run_storeI 87 _ _ g8 8 88 _ _ r8_11 rfl kj kj kj (Nat.lt_of_lt_of_eq (show 8 < 16 by decide) ((List.length_set ..).trans ((List.length_set ..).trans (wv_len h0))).symm)) (fun W hp => Puts.row hp r21_11 (ne_of_new r8_6_16 l21)) fun W12 p12 r8_12 => ?_
    have x12 : Ext w W12 := Puts.ext p12 x11 b8
    have r21_12 := (Puts.row p12 r21_11 (ne_of_new r8_6_16 l21))
    refine te_store _ g8 _ (ints .u32 (((((x0.map wv).set 0 (wv (qA2 (wget x0 0) (wget x0 4) (wget x0 8) (wget x0 12)))).set 4 (wv (qB2 (wget x0 0) (wget x0 4) (wget x0 8) (wget x0 12)))).set 8 (wv (qC2 (wget x0 0) (wget x0 4) (wget x0 8) (wget x0 12)))).set 12 (wv (qD2 (wget x0 0) (wget x0 4) (wget x0 8) (wget x0 12))))) 88 r8_12 rfl (run_storeI 87 _ _ g8 12 88 _ _ r8_12 rfl kj kj kj (Nat.lt_of_lt_of_eq (show 12 < 16 by decide) ((List.length_set ..).trans ((List.length_set ..).trans ((List.length_set ..).trans (wv_len h0)))).symm)) (fun W hp => Puts.row hp r21_12 (ne_of_new r8_6_16 l21)) fun W13 p13 r8_13 => ?_
    have x13 : Ext w W13 := Puts.ext p13 x12 b8
    refine te_nil ?_
    obtain ⟨x1, ex1⟩ : ∃ z : List Wd, z = qrt x0 0 4 8 12 := ⟨_, rfl⟩
    have h1 : x1.length = 16 := by rw [ex1, qrt_len, h0]
    have r8_13_22 : W13.heap[g8]? = some (.cells (ints .u32 (x1.map wv)) 88) := row_eq r8_13 (by rw [ex1]; unfold qrt; simp only [List.map_set])
    refine hK19 _ _ ?_
    try clear hK19 K19
    refine region_lit ?_
    refine seq_val (.int .i64 1) 56 rfl kj kj ?_
    refine seq_val (.int .i64 1) 19 rfl kj kj ?_
    refine seq_nil ?_
    show Code.rounds _ _ _ 8 _ _
    show Code.wp _ _ (Exit.then (Code.rounds _ _ _ 7) _) _ _
    refine wp_seq_k fun K23 hK23 => ?_
    refine region_lit ?_
    refine seq_val (.bool true) 20 rfl kj kj ?_
    refine seq_nil ?_
    refine hK23 _ _ ?_
    try clear hK23 K23
    refine wp_seq_k fun K24 hK24 => ?_
    refine cond_true kj ?_
    refine wp_skip ?_
    refine hK24 _ _ ?_
    try clear hK24 K24
    refine wp_seq_k fun K25 hK25 => ?_
    refine wp_block ?_
    refine wp_seq_k fun K26 hK26 => ?_
    refine region_lit ?_
    refine seq_val (.agg (ints .i64 ([1, 5, 9, 13]))) 21 rfl kj kj ?_
    refine seq_alloc ((Array.replicate 4 (.int .i64 0))) 68 7 rfl kj kj fun g27 W14 l27 e14 r27_14 => ?_
    have x14 : Ext w W14 := Ext.tr x13 e14
    have b27 : w.heap.size ≤ g27 := Nat.le_trans x13.size l27
    refine seq_store g27 _ (ints .i64 ([1, 5, 9, 13])) 68 r27_14 rfl kj (run_store_row 68 _ _ g27 68 _ _ r27_14 rfl kj kj (isz (n := 4) kj kj) (eqsz (n := 4) kj kj) (ints_one _ _)) fun W15 p15 r27_15 => ?_
    have x15 : Ext w W15 := Puts.ext p15 x14 b27
    refine seq_nil ?_
    refine hK26 _ _ ?_
    try clear hK26 K26
    refine any_regionT (fun W => W.heap[g27]? = some (.cells (ints .i64 ([1, 5, 9, 13])) 68)) [⟨none, [(7, none)]⟩, ⟨none, [(23, some 0)]⟩, ⟨none, [(7, none)]⟩, ⟨none, [(25, some 2)]⟩, ⟨none, [(7, none)]⟩, ⟨none, [(27, some 4)]⟩, ⟨none, [(7, none)]⟩, ⟨none, [(29, some 6)]⟩, ⟨none, [(7, none)]⟩, ⟨none, [(31, some 8)]⟩, ⟨none, [(5, none), (32, some 9)]⟩, ⟨none, [(33, some 10)]⟩, ⟨none, [(7, none)]⟩, ⟨none, [(35, some 12)]⟩, ⟨none, [(5, none), (36, some 13)]⟩, ⟨none, [(37, some 14)]⟩, ⟨none, [(7, none)]⟩, ⟨none, [(39, some 16)]⟩, ⟨none, [(5, none), (40, some 17)]⟩, ⟨none, [(41, some 18)]⟩, ⟨none, [(7, none)]⟩, ⟨none, [(43, some 20)]⟩, ⟨none, [(5, none), (44, some 21)]⟩, ⟨none, [(45, some 22)]⟩, ⟨none, [(34, some 11), (38, some 15), (42, some 19), (46, some 23)]⟩, ⟨none, [(47, some 24)]⟩, ⟨none, [(22, some 25)]⟩, ⟨none, [(22, some 25)]⟩, ⟨none, [(22, some 25)]⟩, ⟨none, [(22, some 25)]⟩, ⟨none, [(5, none), (24, some 1)]⟩, ⟨none, [(52, some 30), (48, some 26)]⟩, ⟨none, [(5, none), (26, some 3)]⟩, ⟨none, [(53, some 32), (49, some 27)]⟩, ⟨none, [(5, none), (28, some 5)]⟩, ⟨none, [(54, some 34), (50, some 28)]⟩, ⟨none, [(5, none), (30, some 7)]⟩, ⟨none, [(55, some 36), (51, some 29)]⟩] [] [2, 3, 4, 5, 6, 7, 27, 28, 29, 32, 34, 36] kj kj kj (fun W hR => row_ext r27_15 hR) fun F hF => ?_
    refine t_val (.pointer (some ⟨g27, 0, none⟩)) kj kj rfl (fun W => by kernel_rfl) ?_
    refine t_read (.int .i64 1) kj kj kj rfl (fun W hR => (run_loadC1 3 _ g27 0 68 _ (.int .i64 1) _ (row_ext (row_ext r27_15 (ext_drew _)) hR) rfl kj kj kj)) ?_
    refine t_val (.pointer (some ⟨g27, 1, none⟩)) kj kj rfl (fun W => by kernel_rfl) ?_
    refine t_readU (.int .i64 5) kj kj kj rfl (fun W hW => (run_loadC1 3 _ g27 1 68 _ (.int .i64 5) _ hW rfl kj kj kj)) ?_
    refine t_val (.pointer (some ⟨g27, 2, none⟩)) kj kj rfl (fun W => by kernel_rfl) ?_
    refine t_readU (.int .i64 9) kj kj kj rfl (fun W hW => (run_loadC1 3 _ g27 2 68 _ (.int .i64 9) _ hW rfl kj kj kj)) ?_
    refine t_val (.pointer (some ⟨g27, 3, none⟩)) kj kj rfl (fun W => by kernel_rfl) ?_
    refine t_readU (.int .i64 13) kj kj kj rfl (fun W hW => (run_loadC1 3 _ g27 3 68 _ (.int .i64 13) _ hW rfl kj kj kj)) ?_
    refine t_val (.pointer (some ⟨g27, 0, none⟩)) kj kj rfl (fun W => by kernel_rfl) ?_
    refine t_read (.int .i64 1) kj kj kj rfl (fun W hR => (run_loadC1 3 _ g27 0 68 _ (.int .i64 1) _ (row_ext (row_ext r27_15 (ext_drew _)) hR) rfl kj kj kj)) ?_
    refine t_val (.pointer (some ⟨g8, 1, none⟩)) kj kj rfl (fun W => by kernel_rfl) ?_
    have r8_14 := (row_ext r8_13_22 e14)
    have r8_15 := (Puts.row p15 r8_14 (ne_of_old r8_13_22 l27))
    refine t_read (.int .u32 (wv (wget x1 1))) kj kj kj rfl (fun W hR => (run_loadC1 87 _ g8 1 88 _ (.int .u32 (wv (wget x1 1))) _ (row_ext (row_ext r8_15 (ext_drew _)) hR) rfl kj ((ints_get _ _ _ (Nat.lt_of_lt_of_eq (by decide) (wv_len h1).symm)).trans (congrArg (fun z => some (Value.int .u32 z)) (nth_map x1 1))) kj)) ?_
    refine t_val (.pointer (some ⟨g27, 1, none⟩)) kj kj rfl (fun W => by kernel_rfl) ?_
    refine t_read (.int .i64 5) kj kj kj rfl (fun W hR => (run_loadC1 3 _ g27 1 68 _ (.int .i64 5) _ (row_ext (row_ext r27_15 (ext_drew _)) hR) rfl kj kj kj)) ?_
    refine t_val (.pointer (some ⟨g8, 5, none⟩)) kj kj rfl (fun W => by kernel_rfl) ?_
    refine t_read (.int .u32 (wv (wget x1 5))) kj kj kj rfl (fun W hR => (run_loadC1 87 _ g8 5 88 _ (.int .u32 (wv (wget x1 5))) _ (row_ext (row_ext r8_15 (ext_drew _)) hR) rfl kj ((ints_get _ _ _ (Nat.lt_of_lt_of_eq (by decide) (wv_len h1).symm)).trans (congrArg (fun z => some (Value.int .u32 z)) (nth_map x1 5))) kj)) ?_
    refine t_val (.pointer (some ⟨g27, 2, none⟩)) kj kj rfl (fun W => by kernel_rfl) ?_
    refine t_read (.int .i64 9) kj kj kj rfl (fun W hR => (run_loadC1 3 _ g27 2 68 _ (.int .i64 9) _ (row_ext (row_ext r27_15 (ext_drew _)) hR) rfl kj kj kj)) ?_
    refine t_val (.pointer (some ⟨g8, 9, none⟩)) kj kj rfl (fun W => by kernel_rfl) ?_
    refine t_read (.int .u32 (wv (wget x1 9))) kj kj kj rfl (fun W hR => (run_loadC1 87 _ g8 9 88 _ (.int .u32 (wv (wget x1 9))) _ (row_ext (row_ext r8_15 (ext_drew _)) hR) rfl kj ((ints_get _ _ _ (Nat.lt_of_lt_of_eq (by decide) (wv_len h1).symm)).trans (congrArg (fun z => some (Value.int .u32 z)) (nth_map x1 9))) kj)) ?_
    refine t_val (.pointer (some ⟨g27, 3, none⟩)) kj kj rfl (fun W => by kernel_rfl) ?_
    refine t_read (.int .i64 13) kj kj kj rfl (fun W hR => (run_loadC1 3 _ g27 3 68 _ (.int .i64 13) _ (row_ext (row_ext r27_15 (ext_drew _)) hR) rfl kj kj kj)) ?_
    refine t_val (.pointer (some ⟨g8, 13, none⟩)) kj kj rfl (fun W => by kernel_rfl) ?_
    refine t_read (.int .u32 (wv (wget x1 13))) kj kj kj rfl (fun W hR => (run_loadC1 87 _ g8 13 88 _ (.int .u32 (wv (wget x1 13))) _ (row_ext (row_ext r8_15 (ext_drew _)) hR) rfl kj ((ints_get _ _ _ (Nat.lt_of_lt_of_eq (by decide) (wv_len h1).symm)).trans (congrArg (fun z => some (Value.int .u32 z)) (nth_map x1 13))) kj)) ?_
    refine t_call (.tuple #[.int .u32 (wv (qA2 (wget x1 1) (wget x1 5) (wget x1 9) (wget x1 13))), .int .u32 (wv (qB2 (wget x1 1) (wget x1 5) (wget x1 9) (wget x1 13))), .int .u32 (wv (qC2 (wget x1 1) (wget x1 5) (wget x1 9) (wget x1 13))), .int .u32 (wv (qD2 (wget x1 1) (wget x1 5) (wget x1 9) (wget x1 13)))]) 58 #[.int .u32 (wv (wget x1 1)), .int .u32 (wv (wget x1 5)), .int .u32 (wv (wget x1 9)), .int .u32 (wv (wget x1 13))] kj kj kj rfl (fun W => by kernel_rfl) (fun W hR => (quarterC (wget x1 1) (wget x1 5) (wget x1 9) (wget x1 13)) W) ?_
    refine t_val (.tuple #[.int .u32 (wv (qA2 (wget x1 1) (wget x1 5) (wget x1 9) (wget x1 13))), .int .u32 (wv (qB2 (wget x1 1) (wget x1 5) (wget x1 9) (wget x1 13))), .int .u32 (wv (qC2 (wget x1 1) (wget x1 5) (wget x1 9) (wget x1 13))), .int .u32 (wv (qD2 (wget x1 1) (wget x1 5) (wget x1 9) (wget x1 13)))]) kj kj rfl (fun W => by kernel_rfl) ?_
    refine t_val (.int .u32 (wv (qA2 (wget x1 1) (wget x1 5) (wget x1 9) (wget x1 13)))) kj kj rfl (fun W => by kernel_rfl) ?_
    refine t_val (.int .u32 (wv (qB2 (wget x1 1) (wget x1 5) (wget x1 9) (wget x1 13)))) kj kj rfl (fun W => by kernel_rfl) ?_
    refine t_val (.int .u32 (wv (qC2 (wget x1 1) (wget x1 5) (wget x1 9) (wget x1 13)))) kj kj rfl (fun W => by kernel_rfl) ?_
    refine t_val (.int .u32 (wv (qD2 (wget x1 1) (wget x1 5) (wget x1 9) (wget x1 13)))) kj kj rfl (fun W => by kernel_rfl) ?_
    refine t_val (.pointer (some ⟨g8, 1, none⟩)) kj kj rfl (fun W => by kernel_rfl) ?_
    refine t_store rfl ?_
    refine t_val (.pointer (some ⟨g8, 5, none⟩)) kj kj rfl (fun W => by kernel_rfl) ?_
    refine t_store rfl ?_
    refine t_val (.pointer (some ⟨g8, 9, none⟩)) kj kj rfl (fun W => by kernel_rfl) ?_
    refine t_store rfl ?_
    refine t_val (.pointer (some ⟨g8, 13, none⟩)) kj kj rfl (fun W => by kernel_rfl) ?_
    refine t_store rfl ?_
    refine t_nil (hF _ kj fun W16 e16 => ?_)
    simp only [List.nil_append, List.cons_append, fins, up]
    clear hF
    have x16 : Ext w W16 := Ext.tr x15 e16
    have r8_16 := (row_ext r8_15 e16)
    have r27_16 := (row_ext r27_15 e16)
    refine te_store _ g8 _ (ints .u32 ((x1.map wv).set 1 (wv (qA2 (wget x1 1) (wget x1 5) (wget x1 9) (wget x1 13))))) 88 r8_16 rfl (run_storeI 87 _ _ g8 1 88 _ _ r8_16 rfl kj kj kj (Nat.lt_of_lt_of_eq (show 1 < 16 by decide) (wv_len h1).symm)) (fun W hp => Puts.row hp r27_16 (ne_of_new r8_13_22 l27)) fun W17 p17 r8_17 => ?_
    have x17 : Ext w W17 := Puts.ext p17 x16 b8
    have r27_17 := (Puts.row p17 r27_16 (ne_of_new r8_13_22 l27))
    refine te_store _ g8 _ (ints .u32 (((x1.map wv).set 1 (wv (qA2 (wget x1 1) (wget x1 5) (wget x1 9) (wget x1 13)))).set 5 (wv (qB2 (wget x1 1) (wget x1 5) (wget x1 9) (wget x1 13))))) 88 r8_17 rfl (run_storeI 87 _ _ g8 5 88 _ _ r8_17 rfl kj kj kj (Nat.lt_of_lt_of_eq (show 5 < 16 by decide) ((List.length_set ..).trans (wv_len h1)).symm)) (fun W hp => Puts.row hp r27_17 (ne_of_new r8_13_22 l27)) fun W18 p18 r8_18 => ?_
    have x18 : Ext w W18 := Puts.ext p18 x17 b8
    have r27_18 := (Puts.row p18 r27_17 (ne_of_new r8_13_22 l27))
    refine te_store _ g8 _ (ints .u32 ((((x1.map wv).set 1 (wv (qA2 (wget x1 1) (wget x1 5) (wget x1 9) (wget x1 13)))).set 5 (wv (qB2 (wget x1 1) (wget x1 5) (wget x1 9) (wget x1 13)))).set 9 (wv (qC2 (wget x1 1) (wget x1 5) (wget x1 9) (wget x1 13))))) 88 r8_18 rfl (run_storeI 87 _ _ g8 9 88 _ _ r8_18 rfl kj kj kj (Nat.lt_of_lt_of_eq (show 9 < 16 by decide) ((List.length_set ..).trans ((List.length_set ..).trans (wv_len h1))).symm)) (fun W hp => Puts.row hp r27_18 (ne_of_new r8_13_22 l27)) fun W19 p19 r8_19 => ?_
    have x19 : Ext w W19 := Puts.ext p19 x18 b8
    have r27_19 := (Puts.row p19 r27_18 (ne_of_new r8_13_22 l27))
    refine te_store _ g8 _ (ints .u32 (((((x1.map wv).set 1 (wv (qA2 (wget x1 1) (wget x1 5) (wget x1 9) (wget x1 13)))).set 5 (wv (qB2 (wget x1 1) (wget x1 5) (wget x1 9) (wget x1 13)))).set 9 (wv (qC2 (wget x1 1) (wget x1 5) (wget x1 9) (wget x1 13)))).set 13 (wv (qD2 (wget x1 1) (wget x1 5) (wget x1 9) (wget x1 13))))) 88 r8_19 rfl (run_storeI 87 _ _ g8 13 88 _ _ r8_19 rfl kj kj kj (Nat.lt_of_lt_of_eq (show 13 < 16 by decide) ((List.length_set ..).trans ((List.length_set ..).trans ((List.length_set ..).trans (wv_len h1)))).symm)) (fun W hp => Puts.row hp r27_19 (ne_of_new r8_13_22 l27)) fun W20 p20 r8_20 => ?_
    have x20 : Ext w W20 := Puts.ext p20 x19 b8
    refine te_nil ?_
    obtain ⟨x2, ex2⟩ : ∃ z : List Wd, z = qrt x1 1 5 9 13 := ⟨_, rfl⟩
    have h2 : x2.length = 16 := by rw [ex2, qrt_len, h1]
    have r8_20_28 : W20.heap[g8]? = some (.cells (ints .u32 (x2.map wv)) 88) := row_eq r8_20 (by rw [ex2]; unfold qrt; simp only [List.map_set])
    refine hK25 _ _ ?_
    try clear hK25 K25
    refine region_lit ?_
    refine seq_val (.int .i64 2) 56 rfl kj kj ?_
    refine seq_val (.int .i64 2) 19 rfl kj kj ?_
    refine seq_nil ?_
    show Code.rounds _ _ _ 7 _ _
    show Code.wp _ _ (Exit.then (Code.rounds _ _ _ 6) _) _ _
    refine wp_seq_k fun K29 hK29 => ?_
    refine region_lit ?_
    refine seq_val (.bool true) 20 rfl kj kj ?_
    refine seq_nil ?_
    refine hK29 _ _ ?_
    try clear hK29 K29
    refine wp_seq_k fun K30 hK30 => ?_
    refine cond_true kj ?_
    refine wp_skip ?_
    refine hK30 _ _ ?_
    try clear hK30 K30
    refine wp_seq_k fun K31 hK31 => ?_
    refine wp_block ?_
    refine wp_seq_k fun K32 hK32 => ?_
    refine region_lit ?_
    refine seq_val (.agg (ints .i64 ([2, 6, 10, 14]))) 21 rfl kj kj ?_
    refine seq_alloc ((Array.replicate 4 (.int .i64 0))) 68 7 rfl kj kj fun g33 W21 l33 e21 r33_21 => ?_
    have x21 : Ext w W21 := Ext.tr x20 e21
    have b33 : w.heap.size ≤ g33 := Nat.le_trans x20.size l33
    refine seq_store g33 _ (ints .i64 ([2, 6, 10, 14])) 68 r33_21 rfl kj (run_store_row 68 _ _ g33 68 _ _ r33_21 rfl kj kj (isz (n := 4) kj kj) (eqsz (n := 4) kj kj) (ints_one _ _)) fun W22 p22 r33_22 => ?_
    have x22 : Ext w W22 := Puts.ext p22 x21 b33
    refine seq_nil ?_
    refine hK32 _ _ ?_
    try clear hK32 K32
    refine any_regionT (fun W => W.heap[g33]? = some (.cells (ints .i64 ([2, 6, 10, 14])) 68)) [⟨none, [(7, none)]⟩, ⟨none, [(23, some 0)]⟩, ⟨none, [(7, none)]⟩, ⟨none, [(25, some 2)]⟩, ⟨none, [(7, none)]⟩, ⟨none, [(27, some 4)]⟩, ⟨none, [(7, none)]⟩, ⟨none, [(29, some 6)]⟩, ⟨none, [(7, none)]⟩, ⟨none, [(31, some 8)]⟩, ⟨none, [(5, none), (32, some 9)]⟩, ⟨none, [(33, some 10)]⟩, ⟨none, [(7, none)]⟩, ⟨none, [(35, some 12)]⟩, ⟨none, [(5, none), (36, some 13)]⟩, ⟨none, [(37, some 14)]⟩, ⟨none, [(7, none)]⟩, ⟨none, [(39, some 16)]⟩, ⟨none, [(5, none), (40, some 17)]⟩, ⟨none, [(41, some 18)]⟩, ⟨none, [(7, none)]⟩, ⟨none, [(43, some 20)]⟩, ⟨none, [(5, none), (44, some 21)]⟩, ⟨none, [(45, some 22)]⟩, ⟨none, [(34, some 11), (38, some 15), (42, some 19), (46, some 23)]⟩, ⟨none, [(47, some 24)]⟩, ⟨none, [(22, some 25)]⟩, ⟨none, [(22, some 25)]⟩, ⟨none, [(22, some 25)]⟩, ⟨none, [(22, some 25)]⟩, ⟨none, [(5, none), (24, some 1)]⟩, ⟨none, [(52, some 30), (48, some 26)]⟩, ⟨none, [(5, none), (26, some 3)]⟩, ⟨none, [(53, some 32), (49, some 27)]⟩, ⟨none, [(5, none), (28, some 5)]⟩, ⟨none, [(54, some 34), (50, some 28)]⟩, ⟨none, [(5, none), (30, some 7)]⟩, ⟨none, [(55, some 36), (51, some 29)]⟩] [] [2, 3, 4, 5, 6, 7, 27, 28, 29, 32, 34, 36] kj kj kj (fun W hR => row_ext r33_22 hR) fun F hF => ?_
    refine t_val (.pointer (some ⟨g33, 0, none⟩)) kj kj rfl (fun W => by kernel_rfl) ?_
    refine t_read (.int .i64 2) kj kj kj rfl (fun W hR => (run_loadC1 3 _ g33 0 68 _ (.int .i64 2) _ (row_ext (row_ext r33_22 (ext_drew _)) hR) rfl kj kj kj)) ?_
    refine t_val (.pointer (some ⟨g33, 1, none⟩)) kj kj rfl (fun W => by kernel_rfl) ?_
    refine t_readU (.int .i64 6) kj kj kj rfl (fun W hW => (run_loadC1 3 _ g33 1 68 _ (.int .i64 6) _ hW rfl kj kj kj)) ?_
    refine t_val (.pointer (some ⟨g33, 2, none⟩)) kj kj rfl (fun W => by kernel_rfl) ?_
    refine t_readU (.int .i64 10) kj kj kj rfl (fun W hW => (run_loadC1 3 _ g33 2 68 _ (.int .i64 10) _ hW rfl kj kj kj)) ?_
    refine t_val (.pointer (some ⟨g33, 3, none⟩)) kj kj rfl (fun W => by kernel_rfl) ?_
    refine t_readU (.int .i64 14) kj kj kj rfl (fun W hW => (run_loadC1 3 _ g33 3 68 _ (.int .i64 14) _ hW rfl kj kj kj)) ?_
    refine t_val (.pointer (some ⟨g33, 0, none⟩)) kj kj rfl (fun W => by kernel_rfl) ?_
    refine t_read (.int .i64 2) kj kj kj rfl (fun W hR => (run_loadC1 3 _ g33 0 68 _ (.int .i64 2) _ (row_ext (row_ext r33_22 (ext_drew _)) hR) rfl kj kj kj)) ?_
    refine t_val (.pointer (some ⟨g8, 2, none⟩)) kj kj rfl (fun W => by kernel_rfl) ?_
    have r8_21 := (row_ext r8_20_28 e21)
    have r8_22 := (Puts.row p22 r8_21 (ne_of_old r8_20_28 l33))
    refine t_read (.int .u32 (wv (wget x2 2))) kj kj kj rfl (fun W hR => (run_loadC1 87 _ g8 2 88 _ (.int .u32 (wv (wget x2 2))) _ (row_ext (row_ext r8_22 (ext_drew _)) hR) rfl kj ((ints_get _ _ _ (Nat.lt_of_lt_of_eq (by decide) (wv_len h2).symm)).trans (congrArg (fun z => some (Value.int .u32 z)) (nth_map x2 2))) kj)) ?_
    refine t_val (.pointer (some ⟨g33, 1, none⟩)) kj kj rfl (fun W => by kernel_rfl) ?_
    refine t_read (.int .i64 6) kj kj kj rfl (fun W hR => (run_loadC1 3 _ g33 1 68 _ (.int .i64 6) _ (row_ext (row_ext r33_22 (ext_drew _)) hR) rfl kj kj kj)) ?_
    refine t_val (.pointer (some ⟨g8, 6, none⟩)) kj kj rfl (fun W => by kernel_rfl) ?_
    refine t_read (.int .u32 (wv (wget x2 6))) kj kj kj rfl (fun W hR => (run_loadC1 87 _ g8 6 88 _ (.int .u32 (wv (wget x2 6))) _ (row_ext (row_ext r8_22 (ext_drew _)) hR) rfl kj ((ints_get _ _ _ (Nat.lt_of_lt_of_eq (by decide) (wv_len h2).symm)).trans (congrArg (fun z => some (Value.int .u32 z)) (nth_map x2 6))) kj)) ?_
    refine t_val (.pointer (some ⟨g33, 2, none⟩)) kj kj rfl (fun W => by kernel_rfl) ?_
    refine t_read (.int .i64 10) kj kj kj rfl (fun W hR => (run_loadC1 3 _ g33 2 68 _ (.int .i64 10) _ (row_ext (row_ext r33_22 (ext_drew _)) hR) rfl kj kj kj)) ?_
    refine t_val (.pointer (some ⟨g8, 10, none⟩)) kj kj rfl (fun W => by kernel_rfl) ?_
    refine t_read (.int .u32 (wv (wget x2 10))) kj kj kj rfl (fun W hR => (run_loadC1 87 _ g8 10 88 _ (.int .u32 (wv (wget x2 10))) _ (row_ext (row_ext r8_22 (ext_drew _)) hR) rfl kj ((ints_get _ _ _ (Nat.lt_of_lt_of_eq (by decide) (wv_len h2).symm)).trans (congrArg (fun z => some (Value.int .u32 z)) (nth_map x2 10))) kj)) ?_
    refine t_val (.pointer (some ⟨g33, 3, none⟩)) kj kj rfl (fun W => by kernel_rfl) ?_
    refine t_read (.int .i64 14) kj kj kj rfl (fun W hR => (run_loadC1 3 _ g33 3 68 _ (.int .i64 14) _ (row_ext (row_ext r33_22 (ext_drew _)) hR) rfl kj kj kj)) ?_
    refine t_val (.pointer (some ⟨g8, 14, none⟩)) kj kj rfl (fun W => by kernel_rfl) ?_
    refine t_read (.int .u32 (wv (wget x2 14))) kj kj kj rfl (fun W hR => (run_loadC1 87 _ g8 14 88 _ (.int .u32 (wv (wget x2 14))) _ (row_ext (row_ext r8_22 (ext_drew _)) hR) rfl kj ((ints_get _ _ _ (Nat.lt_of_lt_of_eq (by decide) (wv_len h2).symm)).trans (congrArg (fun z => some (Value.int .u32 z)) (nth_map x2 14))) kj)) ?_
    refine t_call (.tuple #[.int .u32 (wv (qA2 (wget x2 2) (wget x2 6) (wget x2 10) (wget x2 14))), .int .u32 (wv (qB2 (wget x2 2) (wget x2 6) (wget x2 10) (wget x2 14))), .int .u32 (wv (qC2 (wget x2 2) (wget x2 6) (wget x2 10) (wget x2 14))), .int .u32 (wv (qD2 (wget x2 2) (wget x2 6) (wget x2 10) (wget x2 14)))]) 58 #[.int .u32 (wv (wget x2 2)), .int .u32 (wv (wget x2 6)), .int .u32 (wv (wget x2 10)), .int .u32 (wv (wget x2 14))] kj kj kj rfl (fun W => by kernel_rfl) (fun W hR => (quarterC (wget x2 2) (wget x2 6) (wget x2 10) (wget x2 14)) W) ?_
    refine t_val (.tuple #[.int .u32 (wv (qA2 (wget x2 2) (wget x2 6) (wget x2 10) (wget x2 14))), .int .u32 (wv (qB2 (wget x2 2) (wget x2 6) (wget x2 10) (wget x2 14))), .int .u32 (wv (qC2 (wget x2 2) (wget x2 6) (wget x2 10) (wget x2 14))), .int .u32 (wv (qD2 (wget x2 2) (wget x2 6) (wget x2 10) (wget x2 14)))]) kj kj rfl (fun W => by kernel_rfl) ?_
    refine t_val (.int .u32 (wv (qA2 (wget x2 2) (wget x2 6) (wget x2 10) (wget x2 14)))) kj kj rfl (fun W => by kernel_rfl) ?_
    refine t_val (.int .u32 (wv (qB2 (wget x2 2) (wget x2 6) (wget x2 10) (wget x2 14)))) kj kj rfl (fun W => by kernel_rfl) ?_
    refine t_val (.int .u32 (wv (qC2 (wget x2 2) (wget x2 6) (wget x2 10) (wget x2 14)))) kj kj rfl (fun W => by kernel_rfl) ?_
    refine t_val (.int .u32 (wv (qD2 (wget x2 2) (wget x2 6) (wget x2 10) (wget x2 14)))) kj kj rfl (fun W => by kernel_rfl) ?_
    refine t_val (.pointer (some ⟨g8, 2, none⟩)) kj kj rfl (fun W => by kernel_rfl) ?_
    refine t_store rfl ?_
    refine t_val (.pointer (some ⟨g8, 6, none⟩)) kj kj rfl (fun W => by kernel_rfl) ?_
    refine t_store rfl ?_
    refine t_val (.pointer (some ⟨g8, 10, none⟩)) kj kj rfl (fun W => by kernel_rfl) ?_
    refine t_store rfl ?_
    refine t_val (.pointer (some ⟨g8, 14, none⟩)) kj kj rfl (fun W => by kernel_rfl) ?_
    refine t_store rfl ?_
    refine t_nil (hF _ kj fun W23 e23 => ?_)
    simp only [List.nil_append, List.cons_append, fins, up]
    clear hF
    have x23 : Ext w W23 := Ext.tr x22 e23
    have r8_23 := (row_ext r8_22 e23)
    have r33_23 := (row_ext r33_22 e23)
    refine te_store _ g8 _ (ints .u32 ((x2.map wv).set 2 (wv (qA2 (wget x2 2) (wget x2 6) (wget x2 10) (wget x2 14))))) 88 r8_23 rfl (run_storeI 87 _ _ g8 2 88 _ _ r8_23 rfl kj kj kj (Nat.lt_of_lt_of_eq (show 2 < 16 by decide) (wv_len h2).symm)) (fun W hp => Puts.row hp r33_23 (ne_of_new r8_20_28 l33)) fun W24 p24 r8_24 => ?_
    have x24 : Ext w W24 := Puts.ext p24 x23 b8
    have r33_24 := (Puts.row p24 r33_23 (ne_of_new r8_20_28 l33))
    refine te_store _ g8 _ (ints .u32 (((x2.map wv).set 2 (wv (qA2 (wget x2 2) (wget x2 6) (wget x2 10) (wget x2 14)))).set 6 (wv (qB2 (wget x2 2) (wget x2 6) (wget x2 10) (wget x2 14))))) 88 r8_24 rfl (run_storeI 87 _ _ g8 6 88 _ _ r8_24 rfl kj kj kj (Nat.lt_of_lt_of_eq (show 6 < 16 by decide) ((List.length_set ..).trans (wv_len h2)).symm)) (fun W hp => Puts.row hp r33_24 (ne_of_new r8_20_28 l33)) fun W25 p25 r8_25 => ?_
    have x25 : Ext w W25 := Puts.ext p25 x24 b8
    have r33_25 := (Puts.row p25 r33_24 (ne_of_new r8_20_28 l33))
    refine te_store _ g8 _ (ints .u32 ((((x2.map wv).set 2 (wv (qA2 (wget x2 2) (wget x2 6) (wget x2 10) (wget x2 14)))).set 6 (wv (qB2 (wget x2 2) (wget x2 6) (wget x2 10) (wget x2 14)))).set 10 (wv (qC2 (wget x2 2) (wget x2 6) (wget x2 10) (wget x2 14))))) 88 r8_25 rfl (run_storeI 87 _ _ g8 10 88 _ _ r8_25 rfl kj kj kj (Nat.lt_of_lt_of_eq (show 10 < 16 by decide) ((List.length_set ..).trans ((List.length_set ..).trans (wv_len h2))).symm)) (fun W hp => Puts.row hp r33_25 (ne_of_new r8_20_28 l33)) fun W26 p26 r8_26 => ?_
    have x26 : Ext w W26 := Puts.ext p26 x25 b8
    have r33_26 := (Puts.row p26 r33_25 (ne_of_new r8_20_28 l33))
    refine te_store _ g8 _ (ints .u32 (((((x2.map wv).set 2 (wv (qA2 (wget x2 2) (wget x2 6) (wget x2 10) (wget x2 14)))).set 6 (wv (qB2 (wget x2 2) (wget x2 6) (wget x2 10) (wget x2 14)))).set 10 (wv (qC2 (wget x2 2) (wget x2 6) (wget x2 10) (wget x2 14)))).set 14 (wv (qD2 (wget x2 2) (wget x2 6) (wget x2 10) (wget x2 14))))) 88 r8_26 rfl (run_storeI 87 _ _ g8 14 88 _ _ r8_26 rfl kj kj kj (Nat.lt_of_lt_of_eq (show 14 < 16 by decide) ((List.length_set ..).trans ((List.length_set ..).trans ((List.length_set ..).trans (wv_len h2)))).symm)) (fun W hp => Puts.row hp r33_26 (ne_of_new r8_20_28 l33)) fun W27 p27 r8_27 => ?_
    have x27 : Ext w W27 := Puts.ext p27 x26 b8
    refine te_nil ?_
    obtain ⟨x3, ex3⟩ : ∃ z : List Wd, z = qrt x2 2 6 10 14 := ⟨_, rfl⟩
    have h3 : x3.length = 16 := by rw [ex3, qrt_len, h2]
    have r8_27_34 : W27.heap[g8]? = some (.cells (ints .u32 (x3.map wv)) 88) := row_eq r8_27 (by rw [ex3]; unfold qrt; simp only [List.map_set])
    refine hK31 _ _ ?_
    try clear hK31 K31
    refine region_lit ?_
    refine seq_val (.int .i64 3) 56 rfl kj kj ?_
    refine seq_val (.int .i64 3) 19 rfl kj kj ?_
    refine seq_nil ?_
    show Code.rounds _ _ _ 6 _ _
    show Code.wp _ _ (Exit.then (Code.rounds _ _ _ 5) _) _ _
    refine wp_seq_k fun K35 hK35 => ?_
    refine region_lit ?_
    refine seq_val (.bool true) 20 rfl kj kj ?_
    refine seq_nil ?_
    refine hK35 _ _ ?_
    try clear hK35 K35
    refine wp_seq_k fun K36 hK36 => ?_
    refine cond_true kj ?_
    refine wp_skip ?_
    refine hK36 _ _ ?_
    try clear hK36 K36
    refine wp_seq_k fun K37 hK37 => ?_
    refine wp_block ?_
    refine wp_seq_k fun K38 hK38 => ?_
    refine region_lit ?_
    refine seq_val (.agg (ints .i64 ([3, 7, 11, 15]))) 21 rfl kj kj ?_
    refine seq_alloc ((Array.replicate 4 (.int .i64 0))) 68 7 rfl kj kj fun g39 W28 l39 e28 r39_28 => ?_
    have x28 : Ext w W28 := Ext.tr x27 e28
    have b39 : w.heap.size ≤ g39 := Nat.le_trans x27.size l39
    refine seq_store g39 _ (ints .i64 ([3, 7, 11, 15])) 68 r39_28 rfl kj (run_store_row 68 _ _ g39 68 _ _ r39_28 rfl kj kj (isz (n := 4) kj kj) (eqsz (n := 4) kj kj) (ints_one _ _)) fun W29 p29 r39_29 => ?_
    have x29 : Ext w W29 := Puts.ext p29 x28 b39
    refine seq_nil ?_
    refine hK38 _ _ ?_
    try clear hK38 K38
    refine any_regionT (fun W => W.heap[g39]? = some (.cells (ints .i64 ([3, 7, 11, 15])) 68)) [⟨none, [(7, none)]⟩, ⟨none, [(23, some 0)]⟩, ⟨none, [(7, none)]⟩, ⟨none, [(25, some 2)]⟩, ⟨none, [(7, none)]⟩, ⟨none, [(27, some 4)]⟩, ⟨none, [(7, none)]⟩, ⟨none, [(29, some 6)]⟩, ⟨none, [(7, none)]⟩, ⟨none, [(31, some 8)]⟩, ⟨none, [(5, none), (32, some 9)]⟩, ⟨none, [(33, some 10)]⟩, ⟨none, [(7, none)]⟩, ⟨none, [(35, some 12)]⟩, ⟨none, [(5, none), (36, some 13)]⟩, ⟨none, [(37, some 14)]⟩, ⟨none, [(7, none)]⟩, ⟨none, [(39, some 16)]⟩, ⟨none, [(5, none), (40, some 17)]⟩, ⟨none, [(41, some 18)]⟩, ⟨none, [(7, none)]⟩, ⟨none, [(43, some 20)]⟩, ⟨none, [(5, none), (44, some 21)]⟩, ⟨none, [(45, some 22)]⟩, ⟨none, [(34, some 11), (38, some 15), (42, some 19), (46, some 23)]⟩, ⟨none, [(47, some 24)]⟩, ⟨none, [(22, some 25)]⟩, ⟨none, [(22, some 25)]⟩, ⟨none, [(22, some 25)]⟩, ⟨none, [(22, some 25)]⟩, ⟨none, [(5, none), (24, some 1)]⟩, ⟨none, [(52, some 30), (48, some 26)]⟩, ⟨none, [(5, none), (26, some 3)]⟩, ⟨none, [(53, some 32), (49, some 27)]⟩, ⟨none, [(5, none), (28, some 5)]⟩, ⟨none, [(54, some 34), (50, some 28)]⟩, ⟨none, [(5, none), (30, some 7)]⟩, ⟨none, [(55, some 36), (51, some 29)]⟩] [] [2, 3, 4, 5, 6, 7, 27, 28, 29, 32, 34, 36] kj kj kj (fun W hR => row_ext r39_29 hR) fun F hF => ?_
    refine t_val (.pointer (some ⟨g39, 0, none⟩)) kj kj rfl (fun W => by kernel_rfl) ?_
    refine t_read (.int .i64 3) kj kj kj rfl (fun W hR => (run_loadC1 3 _ g39 0 68 _ (.int .i64 3) _ (row_ext (row_ext r39_29 (ext_drew _)) hR) rfl kj kj kj)) ?_
    refine t_val (.pointer (some ⟨g39, 1, none⟩)) kj kj rfl (fun W => by kernel_rfl) ?_
    refine t_readU (.int .i64 7) kj kj kj rfl (fun W hW => (run_loadC1 3 _ g39 1 68 _ (.int .i64 7) _ hW rfl kj kj kj)) ?_
    refine t_val (.pointer (some ⟨g39, 2, none⟩)) kj kj rfl (fun W => by kernel_rfl) ?_
    refine t_readU (.int .i64 11) kj kj kj rfl (fun W hW => (run_loadC1 3 _ g39 2 68 _ (.int .i64 11) _ hW rfl kj kj kj)) ?_
    refine t_val (.pointer (some ⟨g39, 3, none⟩)) kj kj rfl (fun W => by kernel_rfl) ?_
    refine t_readU (.int .i64 15) kj kj kj rfl (fun W hW => (run_loadC1 3 _ g39 3 68 _ (.int .i64 15) _ hW rfl kj kj kj)) ?_
    refine t_val (.pointer (some ⟨g39, 0, none⟩)) kj kj rfl (fun W => by kernel_rfl) ?_
    refine t_read (.int .i64 3) kj kj kj rfl (fun W hR => (run_loadC1 3 _ g39 0 68 _ (.int .i64 3) _ (row_ext (row_ext r39_29 (ext_drew _)) hR) rfl kj kj kj)) ?_
    refine t_val (.pointer (some ⟨g8, 3, none⟩)) kj kj rfl (fun W => by kernel_rfl) ?_
    have r8_28 := (row_ext r8_27_34 e28)
    have r8_29 := (Puts.row p29 r8_28 (ne_of_old r8_27_34 l39))
    refine t_read (.int .u32 (wv (wget x3 3))) kj kj kj rfl (fun W hR => (run_loadC1 87 _ g8 3 88 _ (.int .u32 (wv (wget x3 3))) _ (row_ext (row_ext r8_29 (ext_drew _)) hR) rfl kj ((ints_get _ _ _ (Nat.lt_of_lt_of_eq (by decide) (wv_len h3).symm)).trans (congrArg (fun z => some (Value.int .u32 z)) (nth_map x3 3))) kj)) ?_
    refine t_val (.pointer (some ⟨g39, 1, none⟩)) kj kj rfl (fun W => by kernel_rfl) ?_
    refine t_read (.int .i64 7) kj kj kj rfl (fun W hR => (run_loadC1 3 _ g39 1 68 _ (.int .i64 7) _ (row_ext (row_ext r39_29 (ext_drew _)) hR) rfl kj kj kj)) ?_
    refine t_val (.pointer (some ⟨g8, 7, none⟩)) kj kj rfl (fun W => by kernel_rfl) ?_
    refine t_read (.int .u32 (wv (wget x3 7))) kj kj kj rfl (fun W hR => (run_loadC1 87 _ g8 7 88 _ (.int .u32 (wv (wget x3 7))) _ (row_ext (row_ext r8_29 (ext_drew _)) hR) rfl kj ((ints_get _ _ _ (Nat.lt_of_lt_of_eq (by decide) (wv_len h3).symm)).trans (congrArg (fun z => some (Value.int .u32 z)) (nth_map x3 7))) kj)) ?_
    refine t_val (.pointer (some ⟨g39, 2, none⟩)) kj kj rfl (fun W => by kernel_rfl) ?_
    refine t_read (.int .i64 11) kj kj kj rfl (fun W hR => (run_loadC1 3 _ g39 2 68 _ (.int .i64 11) _ (row_ext (row_ext r39_29 (ext_drew _)) hR) rfl kj kj kj)) ?_
    refine t_val (.pointer (some ⟨g8, 11, none⟩)) kj kj rfl (fun W => by kernel_rfl) ?_
    refine t_read (.int .u32 (wv (wget x3 11))) kj kj kj rfl (fun W hR => (run_loadC1 87 _ g8 11 88 _ (.int .u32 (wv (wget x3 11))) _ (row_ext (row_ext r8_29 (ext_drew _)) hR) rfl kj ((ints_get _ _ _ (Nat.lt_of_lt_of_eq (by decide) (wv_len h3).symm)).trans (congrArg (fun z => some (Value.int .u32 z)) (nth_map x3 11))) kj)) ?_
    refine t_val (.pointer (some ⟨g39, 3, none⟩)) kj kj rfl (fun W => by kernel_rfl) ?_
    refine t_read (.int .i64 15) kj kj kj rfl (fun W hR => (run_loadC1 3 _ g39 3 68 _ (.int .i64 15) _ (row_ext (row_ext r39_29 (ext_drew _)) hR) rfl kj kj kj)) ?_
    refine t_val (.pointer (some ⟨g8, 15, none⟩)) kj kj rfl (fun W => by kernel_rfl) ?_
    refine t_read (.int .u32 (wv (wget x3 15))) kj kj kj rfl (fun W hR => (run_loadC1 87 _ g8 15 88 _ (.int .u32 (wv (wget x3 15))) _ (row_ext (row_ext r8_29 (ext_drew _)) hR) rfl kj ((ints_get _ _ _ (Nat.lt_of_lt_of_eq (by decide) (wv_len h3).symm)).trans (congrArg (fun z => some (Value.int .u32 z)) (nth_map x3 15))) kj)) ?_
    refine t_call (.tuple #[.int .u32 (wv (qA2 (wget x3 3) (wget x3 7) (wget x3 11) (wget x3 15))), .int .u32 (wv (qB2 (wget x3 3) (wget x3 7) (wget x3 11) (wget x3 15))), .int .u32 (wv (qC2 (wget x3 3) (wget x3 7) (wget x3 11) (wget x3 15))), .int .u32 (wv (qD2 (wget x3 3) (wget x3 7) (wget x3 11) (wget x3 15)))]) 58 #[.int .u32 (wv (wget x3 3)), .int .u32 (wv (wget x3 7)), .int .u32 (wv (wget x3 11)), .int .u32 (wv (wget x3 15))] kj kj kj rfl (fun W => by kernel_rfl) (fun W hR => (quarterC (wget x3 3) (wget x3 7) (wget x3 11) (wget x3 15)) W) ?_
    refine t_val (.tuple #[.int .u32 (wv (qA2 (wget x3 3) (wget x3 7) (wget x3 11) (wget x3 15))), .int .u32 (wv (qB2 (wget x3 3) (wget x3 7) (wget x3 11) (wget x3 15))), .int .u32 (wv (qC2 (wget x3 3) (wget x3 7) (wget x3 11) (wget x3 15))), .int .u32 (wv (qD2 (wget x3 3) (wget x3 7) (wget x3 11) (wget x3 15)))]) kj kj rfl (fun W => by kernel_rfl) ?_
    refine t_val (.int .u32 (wv (qA2 (wget x3 3) (wget x3 7) (wget x3 11) (wget x3 15)))) kj kj rfl (fun W => by kernel_rfl) ?_
    refine t_val (.int .u32 (wv (qB2 (wget x3 3) (wget x3 7) (wget x3 11) (wget x3 15)))) kj kj rfl (fun W => by kernel_rfl) ?_
    refine t_val (.int .u32 (wv (qC2 (wget x3 3) (wget x3 7) (wget x3 11) (wget x3 15)))) kj kj rfl (fun W => by kernel_rfl) ?_
    refine t_val (.int .u32 (wv (qD2 (wget x3 3) (wget x3 7) (wget x3 11) (wget x3 15)))) kj kj rfl (fun W => by kernel_rfl) ?_
    refine t_val (.pointer (some ⟨g8, 3, none⟩)) kj kj rfl (fun W => by kernel_rfl) ?_
    refine t_store rfl ?_
    refine t_val (.pointer (some ⟨g8, 7, none⟩)) kj kj rfl (fun W => by kernel_rfl) ?_
    refine t_store rfl ?_
    refine t_val (.pointer (some ⟨g8, 11, none⟩)) kj kj rfl (fun W => by kernel_rfl) ?_
    refine t_store rfl ?_
    refine t_val (.pointer (some ⟨g8, 15, none⟩)) kj kj rfl (fun W => by kernel_rfl) ?_
    refine t_store rfl ?_
    refine t_nil (hF _ kj fun W30 e30 => ?_)
    simp only [List.nil_append, List.cons_append, fins, up]
    clear hF
    have x30 : Ext w W30 := Ext.tr x29 e30
    have r8_30 := (row_ext r8_29 e30)
    have r39_30 := (row_ext r39_29 e30)
    refine te_store _ g8 _ (ints .u32 ((x3.map wv).set 3 (wv (qA2 (wget x3 3) (wget x3 7) (wget x3 11) (wget x3 15))))) 88 r8_30 rfl (run_storeI 87 _ _ g8 3 88 _ _ r8_30 rfl kj kj kj (Nat.lt_of_lt_of_eq (show 3 < 16 by decide) (wv_len h3).symm)) (fun W hp => Puts.row hp r39_30 (ne_of_new r8_27_34 l39)) fun W31 p31 r8_31 => ?_
    have x31 : Ext w W31 := Puts.ext p31 x30 b8
    have r39_31 := (Puts.row p31 r39_30 (ne_of_new r8_27_34 l39))
    refine te_store _ g8 _ (ints .u32 (((x3.map wv).set 3 (wv (qA2 (wget x3 3) (wget x3 7) (wget x3 11) (wget x3 15)))).set 7 (wv (qB2 (wget x3 3) (wget x3 7) (wget x3 11) (wget x3 15))))) 88 r8_31 rfl (run_storeI 87 _ _ g8 7 88 _ _ r8_31 rfl kj kj kj (Nat.lt_of_lt_of_eq (show 7 < 16 by decide) ((List.length_set ..).trans (wv_len h3)).symm)) (fun W hp => Puts.row hp r39_31 (ne_of_new r8_27_34 l39)) fun W32 p32 r8_32 => ?_
    have x32 : Ext w W32 := Puts.ext p32 x31 b8
    have r39_32 := (Puts.row p32 r39_31 (ne_of_new r8_27_34 l39))
    refine te_store _ g8 _ (ints .u32 ((((x3.map wv).set 3 (wv (qA2 (wget x3 3) (wget x3 7) (wget x3 11) (wget x3 15)))).set 7 (wv (qB2 (wget x3 3) (wget x3 7) (wget x3 11) (wget x3 15)))).set 11 (wv (qC2 (wget x3 3) (wget x3 7) (wget x3 11) (wget x3 15))))) 88 r8_32 rfl (run_storeI 87 _ _ g8 11 88 _ _ r8_32 rfl kj kj kj (Nat.lt_of_lt_of_eq (show 11 < 16 by decide) ((List.length_set ..).trans ((List.length_set ..).trans (wv_len h3))).symm)) (fun W hp => Puts.row hp r39_32 (ne_of_new r8_27_34 l39)) fun W33 p33 r8_33 => ?_
    have x33 : Ext w W33 := Puts.ext p33 x32 b8
    have r39_33 := (Puts.row p33 r39_32 (ne_of_new r8_27_34 l39))
    refine te_store _ g8 _ (ints .u32 (((((x3.map wv).set 3 (wv (qA2 (wget x3 3) (wget x3 7) (wget x3 11) (wget x3 15)))).set 7 (wv (qB2 (wget x3 3) (wget x3 7) (wget x3 11) (wget x3 15)))).set 11 (wv (qC2 (wget x3 3) (wget x3 7) (wget x3 11) (wget x3 15)))).set 15 (wv (qD2 (wget x3 3) (wget x3 7) (wget x3 11) (wget x3 15))))) 88 r8_33 rfl (run_storeI 87 _ _ g8 15 88 _ _ r8_33 rfl kj kj kj (Nat.lt_of_lt_of_eq (show 15 < 16 by decide) ((List.length_set ..).trans ((List.length_set ..).trans ((List.length_set ..).trans (wv_len h3)))).symm)) (fun W hp => Puts.row hp r39_33 (ne_of_new r8_27_34 l39)) fun W34 p34 r8_34 => ?_
    have x34 : Ext w W34 := Puts.ext p34 x33 b8
    refine te_nil ?_
    obtain ⟨x4, ex4⟩ : ∃ z : List Wd, z = qrt x3 3 7 11 15 := ⟨_, rfl⟩
    have h4 : x4.length = 16 := by rw [ex4, qrt_len, h3]
    have r8_34_40 : W34.heap[g8]? = some (.cells (ints .u32 (x4.map wv)) 88) := row_eq r8_34 (by rw [ex4]; unfold qrt; simp only [List.map_set])
    refine hK37 _ _ ?_
    try clear hK37 K37
    refine region_lit ?_
    refine seq_val (.int .i64 4) 56 rfl kj kj ?_
    refine seq_val (.int .i64 4) 19 rfl kj kj ?_
    refine seq_nil ?_
    show Code.rounds _ _ _ 5 _ _
    show Code.wp _ _ (Exit.then (Code.rounds _ _ _ 4) _) _ _
    refine wp_seq_k fun K41 hK41 => ?_
    refine region_lit ?_
    refine seq_val (.bool true) 20 rfl kj kj ?_
    refine seq_nil ?_
    refine hK41 _ _ ?_
    try clear hK41 K41
    refine wp_seq_k fun K42 hK42 => ?_
    refine cond_true kj ?_
    refine wp_skip ?_
    refine hK42 _ _ ?_
    try clear hK42 K42
    refine wp_seq_k fun K43 hK43 => ?_
    refine wp_block ?_
    refine wp_seq_k fun K44 hK44 => ?_
    refine region_lit ?_
    refine seq_val (.agg (ints .i64 ([0, 5, 10, 15]))) 21 rfl kj kj ?_
    refine seq_alloc ((Array.replicate 4 (.int .i64 0))) 68 7 rfl kj kj fun g45 W35 l45 e35 r45_35 => ?_
    have x35 : Ext w W35 := Ext.tr x34 e35
    have b45 : w.heap.size ≤ g45 := Nat.le_trans x34.size l45
    refine seq_store g45 _ (ints .i64 ([0, 5, 10, 15])) 68 r45_35 rfl kj (run_store_row 68 _ _ g45 68 _ _ r45_35 rfl kj kj (isz (n := 4) kj kj) (eqsz (n := 4) kj kj) (ints_one _ _)) fun W36 p36 r45_36 => ?_
    have x36 : Ext w W36 := Puts.ext p36 x35 b45
    refine seq_nil ?_
    refine hK44 _ _ ?_
    try clear hK44 K44
    refine any_regionT (fun W => W.heap[g45]? = some (.cells (ints .i64 ([0, 5, 10, 15])) 68)) [⟨none, [(7, none)]⟩, ⟨none, [(23, some 0)]⟩, ⟨none, [(7, none)]⟩, ⟨none, [(25, some 2)]⟩, ⟨none, [(7, none)]⟩, ⟨none, [(27, some 4)]⟩, ⟨none, [(7, none)]⟩, ⟨none, [(29, some 6)]⟩, ⟨none, [(7, none)]⟩, ⟨none, [(31, some 8)]⟩, ⟨none, [(5, none), (32, some 9)]⟩, ⟨none, [(33, some 10)]⟩, ⟨none, [(7, none)]⟩, ⟨none, [(35, some 12)]⟩, ⟨none, [(5, none), (36, some 13)]⟩, ⟨none, [(37, some 14)]⟩, ⟨none, [(7, none)]⟩, ⟨none, [(39, some 16)]⟩, ⟨none, [(5, none), (40, some 17)]⟩, ⟨none, [(41, some 18)]⟩, ⟨none, [(7, none)]⟩, ⟨none, [(43, some 20)]⟩, ⟨none, [(5, none), (44, some 21)]⟩, ⟨none, [(45, some 22)]⟩, ⟨none, [(34, some 11), (38, some 15), (42, some 19), (46, some 23)]⟩, ⟨none, [(47, some 24)]⟩, ⟨none, [(22, some 25)]⟩, ⟨none, [(22, some 25)]⟩, ⟨none, [(22, some 25)]⟩, ⟨none, [(22, some 25)]⟩, ⟨none, [(5, none), (24, some 1)]⟩, ⟨none, [(52, some 30), (48, some 26)]⟩, ⟨none, [(5, none), (26, some 3)]⟩, ⟨none, [(53, some 32), (49, some 27)]⟩, ⟨none, [(5, none), (28, some 5)]⟩, ⟨none, [(54, some 34), (50, some 28)]⟩, ⟨none, [(5, none), (30, some 7)]⟩, ⟨none, [(55, some 36), (51, some 29)]⟩] [] [2, 3, 4, 5, 6, 7, 27, 28, 29, 32, 34, 36] kj kj kj (fun W hR => row_ext r45_36 hR) fun F hF => ?_
    refine t_val (.pointer (some ⟨g45, 0, none⟩)) kj kj rfl (fun W => by kernel_rfl) ?_
    refine t_read (.int .i64 0) kj kj kj rfl (fun W hR => (run_loadC1 3 _ g45 0 68 _ (.int .i64 0) _ (row_ext (row_ext r45_36 (ext_drew _)) hR) rfl kj kj kj)) ?_
    refine t_val (.pointer (some ⟨g45, 1, none⟩)) kj kj rfl (fun W => by kernel_rfl) ?_
    refine t_readU (.int .i64 5) kj kj kj rfl (fun W hW => (run_loadC1 3 _ g45 1 68 _ (.int .i64 5) _ hW rfl kj kj kj)) ?_
    refine t_val (.pointer (some ⟨g45, 2, none⟩)) kj kj rfl (fun W => by kernel_rfl) ?_
    refine t_readU (.int .i64 10) kj kj kj rfl (fun W hW => (run_loadC1 3 _ g45 2 68 _ (.int .i64 10) _ hW rfl kj kj kj)) ?_
    refine t_val (.pointer (some ⟨g45, 3, none⟩)) kj kj rfl (fun W => by kernel_rfl) ?_
    refine t_readU (.int .i64 15) kj kj kj rfl (fun W hW => (run_loadC1 3 _ g45 3 68 _ (.int .i64 15) _ hW rfl kj kj kj)) ?_
    refine t_val (.pointer (some ⟨g45, 0, none⟩)) kj kj rfl (fun W => by kernel_rfl) ?_
    refine t_read (.int .i64 0) kj kj kj rfl (fun W hR => (run_loadC1 3 _ g45 0 68 _ (.int .i64 0) _ (row_ext (row_ext r45_36 (ext_drew _)) hR) rfl kj kj kj)) ?_
    refine t_val (.pointer (some ⟨g8, 0, none⟩)) kj kj rfl (fun W => by kernel_rfl) ?_
    have r8_35 := (row_ext r8_34_40 e35)
    have r8_36 := (Puts.row p36 r8_35 (ne_of_old r8_34_40 l45))
    refine t_read (.int .u32 (wv (wget x4 0))) kj kj kj rfl (fun W hR => (run_loadC1 87 _ g8 0 88 _ (.int .u32 (wv (wget x4 0))) _ (row_ext (row_ext r8_36 (ext_drew _)) hR) rfl kj ((ints_get _ _ _ (Nat.lt_of_lt_of_eq (by decide) (wv_len h4).symm)).trans (congrArg (fun z => some (Value.int .u32 z)) (nth_map x4 0))) kj)) ?_
    refine t_val (.pointer (some ⟨g45, 1, none⟩)) kj kj rfl (fun W => by kernel_rfl) ?_
    refine t_read (.int .i64 5) kj kj kj rfl (fun W hR => (run_loadC1 3 _ g45 1 68 _ (.int .i64 5) _ (row_ext (row_ext r45_36 (ext_drew _)) hR) rfl kj kj kj)) ?_
    refine t_val (.pointer (some ⟨g8, 5, none⟩)) kj kj rfl (fun W => by kernel_rfl) ?_
    refine t_read (.int .u32 (wv (wget x4 5))) kj kj kj rfl (fun W hR => (run_loadC1 87 _ g8 5 88 _ (.int .u32 (wv (wget x4 5))) _ (row_ext (row_ext r8_36 (ext_drew _)) hR) rfl kj ((ints_get _ _ _ (Nat.lt_of_lt_of_eq (by decide) (wv_len h4).symm)).trans (congrArg (fun z => some (Value.int .u32 z)) (nth_map x4 5))) kj)) ?_
    refine t_val (.pointer (some ⟨g45, 2, none⟩)) kj kj rfl (fun W => by kernel_rfl) ?_
    refine t_read (.int .i64 10) kj kj kj rfl (fun W hR => (run_loadC1 3 _ g45 2 68 _ (.int .i64 10) _ (row_ext (row_ext r45_36 (ext_drew _)) hR) rfl kj kj kj)) ?_
    refine t_val (.pointer (some ⟨g8, 10, none⟩)) kj kj rfl (fun W => by kernel_rfl) ?_
    refine t_read (.int .u32 (wv (wget x4 10))) kj kj kj rfl (fun W hR => (run_loadC1 87 _ g8 10 88 _ (.int .u32 (wv (wget x4 10))) _ (row_ext (row_ext r8_36 (ext_drew _)) hR) rfl kj ((ints_get _ _ _ (Nat.lt_of_lt_of_eq (by decide) (wv_len h4).symm)).trans (congrArg (fun z => some (Value.int .u32 z)) (nth_map x4 10))) kj)) ?_
    refine t_val (.pointer (some ⟨g45, 3, none⟩)) kj kj rfl (fun W => by kernel_rfl) ?_
    refine t_read (.int .i64 15) kj kj kj rfl (fun W hR => (run_loadC1 3 _ g45 3 68 _ (.int .i64 15) _ (row_ext (row_ext r45_36 (ext_drew _)) hR) rfl kj kj kj)) ?_
    refine t_val (.pointer (some ⟨g8, 15, none⟩)) kj kj rfl (fun W => by kernel_rfl) ?_
    refine t_read (.int .u32 (wv (wget x4 15))) kj kj kj rfl (fun W hR => (run_loadC1 87 _ g8 15 88 _ (.int .u32 (wv (wget x4 15))) _ (row_ext (row_ext r8_36 (ext_drew _)) hR) rfl kj ((ints_get _ _ _ (Nat.lt_of_lt_of_eq (by decide) (wv_len h4).symm)).trans (congrArg (fun z => some (Value.int .u32 z)) (nth_map x4 15))) kj)) ?_
    refine t_call (.tuple #[.int .u32 (wv (qA2 (wget x4 0) (wget x4 5) (wget x4 10) (wget x4 15))), .int .u32 (wv (qB2 (wget x4 0) (wget x4 5) (wget x4 10) (wget x4 15))), .int .u32 (wv (qC2 (wget x4 0) (wget x4 5) (wget x4 10) (wget x4 15))), .int .u32 (wv (qD2 (wget x4 0) (wget x4 5) (wget x4 10) (wget x4 15)))]) 58 #[.int .u32 (wv (wget x4 0)), .int .u32 (wv (wget x4 5)), .int .u32 (wv (wget x4 10)), .int .u32 (wv (wget x4 15))] kj kj kj rfl (fun W => by kernel_rfl) (fun W hR => (quarterC (wget x4 0) (wget x4 5) (wget x4 10) (wget x4 15)) W) ?_
    refine t_val (.tuple #[.int .u32 (wv (qA2 (wget x4 0) (wget x4 5) (wget x4 10) (wget x4 15))), .int .u32 (wv (qB2 (wget x4 0) (wget x4 5) (wget x4 10) (wget x4 15))), .int .u32 (wv (qC2 (wget x4 0) (wget x4 5) (wget x4 10) (wget x4 15))), .int .u32 (wv (qD2 (wget x4 0) (wget x4 5) (wget x4 10) (wget x4 15)))]) kj kj rfl (fun W => by kernel_rfl) ?_
    refine t_val (.int .u32 (wv (qA2 (wget x4 0) (wget x4 5) (wget x4 10) (wget x4 15)))) kj kj rfl (fun W => by kernel_rfl) ?_
    refine t_val (.int .u32 (wv (qB2 (wget x4 0) (wget x4 5) (wget x4 10) (wget x4 15)))) kj kj rfl (fun W => by kernel_rfl) ?_
    refine t_val (.int .u32 (wv (qC2 (wget x4 0) (wget x4 5) (wget x4 10) (wget x4 15)))) kj kj rfl (fun W => by kernel_rfl) ?_
    refine t_val (.int .u32 (wv (qD2 (wget x4 0) (wget x4 5) (wget x4 10) (wget x4 15)))) kj kj rfl (fun W => by kernel_rfl) ?_
    refine t_val (.pointer (some ⟨g8, 0, none⟩)) kj kj rfl (fun W => by kernel_rfl) ?_
    refine t_store rfl ?_
    refine t_val (.pointer (some ⟨g8, 5, none⟩)) kj kj rfl (fun W => by kernel_rfl) ?_
    refine t_store rfl ?_
    refine t_val (.pointer (some ⟨g8, 10, none⟩)) kj kj rfl (fun W => by kernel_rfl) ?_
    refine t_store rfl ?_
    refine t_val (.pointer (some ⟨g8, 15, none⟩)) kj kj rfl (fun W => by kernel_rfl) ?_
    refine t_store rfl ?_
    refine t_nil (hF _ kj fun W37 e37 => ?_)
    simp only [List.nil_append, List.cons_append, fins, up]
    clear hF
    have x37 : Ext w W37 := Ext.tr x36 e37
    have r8_37 := (row_ext r8_36 e37)
    have r45_37 := (row_ext r45_36 e37)
    refine te_store _ g8 _ (ints .u32 ((x4.map wv).set 0 (wv (qA2 (wget x4 0) (wget x4 5) (wget x4 10) (wget x4 15))))) 88 r8_37 rfl (run_storeI 87 _ _ g8 0 88 _ _ r8_37 rfl kj kj kj (Nat.lt_of_lt_of_eq (show 0 < 16 by decide) (wv_len h4).symm)) (fun W hp => Puts.row hp r45_37 (ne_of_new r8_34_40 l45)) fun W38 p38 r8_38 => ?_
    have x38 : Ext w W38 := Puts.ext p38 x37 b8
    have r45_38 := (Puts.row p38 r45_37 (ne_of_new r8_34_40 l45))
    refine te_store _ g8 _ (ints .u32 (((x4.map wv).set 0 (wv (qA2 (wget x4 0) (wget x4 5) (wget x4 10) (wget x4 15)))).set 5 (wv (qB2 (wget x4 0) (wget x4 5) (wget x4 10) (wget x4 15))))) 88 r8_38 rfl (run_storeI 87 _ _ g8 5 88 _ _ r8_38 rfl kj kj kj (Nat.lt_of_lt_of_eq (show 5 < 16 by decide) ((List.length_set ..).trans (wv_len h4)).symm)) (fun W hp => Puts.row hp r45_38 (ne_of_new r8_34_40 l45)) fun W39 p39 r8_39 => ?_
    have x39 : Ext w W39 := Puts.ext p39 x38 b8
    have r45_39 := (Puts.row p39 r45_38 (ne_of_new r8_34_40 l45))
    refine te_store _ g8 _ (ints .u32 ((((x4.map wv).set 0 (wv (qA2 (wget x4 0) (wget x4 5) (wget x4 10) (wget x4 15)))).set 5 (wv (qB2 (wget x4 0) (wget x4 5) (wget x4 10) (wget x4 15)))).set 10 (wv (qC2 (wget x4 0) (wget x4 5) (wget x4 10) (wget x4 15))))) 88 r8_39 rfl (run_storeI 87 _ _ g8 10 88 _ _ r8_39 rfl kj kj kj (Nat.lt_of_lt_of_eq (show 10 < 16 by decide) ((List.length_set ..).trans ((List.length_set ..).trans (wv_len h4))).symm)) (fun W hp => Puts.row hp r45_39 (ne_of_new r8_34_40 l45)) fun W40 p40 r8_40 => ?_
    have x40 : Ext w W40 := Puts.ext p40 x39 b8
    have r45_40 := (Puts.row p40 r45_39 (ne_of_new r8_34_40 l45))
    refine te_store _ g8 _ (ints .u32 (((((x4.map wv).set 0 (wv (qA2 (wget x4 0) (wget x4 5) (wget x4 10) (wget x4 15)))).set 5 (wv (qB2 (wget x4 0) (wget x4 5) (wget x4 10) (wget x4 15)))).set 10 (wv (qC2 (wget x4 0) (wget x4 5) (wget x4 10) (wget x4 15)))).set 15 (wv (qD2 (wget x4 0) (wget x4 5) (wget x4 10) (wget x4 15))))) 88 r8_40 rfl (run_storeI 87 _ _ g8 15 88 _ _ r8_40 rfl kj kj kj (Nat.lt_of_lt_of_eq (show 15 < 16 by decide) ((List.length_set ..).trans ((List.length_set ..).trans ((List.length_set ..).trans (wv_len h4)))).symm)) (fun W hp => Puts.row hp r45_40 (ne_of_new r8_34_40 l45)) fun W41 p41 r8_41 => ?_
    have x41 : Ext w W41 := Puts.ext p41 x40 b8
    refine te_nil ?_
    obtain ⟨x5, ex5⟩ : ∃ z : List Wd, z = qrt x4 0 5 10 15 := ⟨_, rfl⟩
    have h5 : x5.length = 16 := by rw [ex5, qrt_len, h4]
    have r8_41_46 : W41.heap[g8]? = some (.cells (ints .u32 (x5.map wv)) 88) := row_eq r8_41 (by rw [ex5]; unfold qrt; simp only [List.map_set])
    refine hK43 _ _ ?_
    try clear hK43 K43
    refine region_lit ?_
    refine seq_val (.int .i64 5) 56 rfl kj kj ?_
    refine seq_val (.int .i64 5) 19 rfl kj kj ?_
    refine seq_nil ?_
    show Code.rounds _ _ _ 4 _ _
    show Code.wp _ _ (Exit.then (Code.rounds _ _ _ 3) _) _ _
    refine wp_seq_k fun K47 hK47 => ?_
    refine region_lit ?_
    refine seq_val (.bool true) 20 rfl kj kj ?_
    refine seq_nil ?_
    refine hK47 _ _ ?_
    try clear hK47 K47
    refine wp_seq_k fun K48 hK48 => ?_
    refine cond_true kj ?_
    refine wp_skip ?_
    refine hK48 _ _ ?_
    try clear hK48 K48
    refine wp_seq_k fun K49 hK49 => ?_
    refine wp_block ?_
    refine wp_seq_k fun K50 hK50 => ?_
    refine region_lit ?_
    refine seq_val (.agg (ints .i64 ([1, 6, 11, 12]))) 21 rfl kj kj ?_
    refine seq_alloc ((Array.replicate 4 (.int .i64 0))) 68 7 rfl kj kj fun g51 W42 l51 e42 r51_42 => ?_
    have x42 : Ext w W42 := Ext.tr x41 e42
    have b51 : w.heap.size ≤ g51 := Nat.le_trans x41.size l51
    refine seq_store g51 _ (ints .i64 ([1, 6, 11, 12])) 68 r51_42 rfl kj (run_store_row 68 _ _ g51 68 _ _ r51_42 rfl kj kj (isz (n := 4) kj kj) (eqsz (n := 4) kj kj) (ints_one _ _)) fun W43 p43 r51_43 => ?_
    have x43 : Ext w W43 := Puts.ext p43 x42 b51
    refine seq_nil ?_
    refine hK50 _ _ ?_
    try clear hK50 K50
    refine any_regionT (fun W => W.heap[g51]? = some (.cells (ints .i64 ([1, 6, 11, 12])) 68)) [⟨none, [(7, none)]⟩, ⟨none, [(23, some 0)]⟩, ⟨none, [(7, none)]⟩, ⟨none, [(25, some 2)]⟩, ⟨none, [(7, none)]⟩, ⟨none, [(27, some 4)]⟩, ⟨none, [(7, none)]⟩, ⟨none, [(29, some 6)]⟩, ⟨none, [(7, none)]⟩, ⟨none, [(31, some 8)]⟩, ⟨none, [(5, none), (32, some 9)]⟩, ⟨none, [(33, some 10)]⟩, ⟨none, [(7, none)]⟩, ⟨none, [(35, some 12)]⟩, ⟨none, [(5, none), (36, some 13)]⟩, ⟨none, [(37, some 14)]⟩, ⟨none, [(7, none)]⟩, ⟨none, [(39, some 16)]⟩, ⟨none, [(5, none), (40, some 17)]⟩, ⟨none, [(41, some 18)]⟩, ⟨none, [(7, none)]⟩, ⟨none, [(43, some 20)]⟩, ⟨none, [(5, none), (44, some 21)]⟩, ⟨none, [(45, some 22)]⟩, ⟨none, [(34, some 11), (38, some 15), (42, some 19), (46, some 23)]⟩, ⟨none, [(47, some 24)]⟩, ⟨none, [(22, some 25)]⟩, ⟨none, [(22, some 25)]⟩, ⟨none, [(22, some 25)]⟩, ⟨none, [(22, some 25)]⟩, ⟨none, [(5, none), (24, some 1)]⟩, ⟨none, [(52, some 30), (48, some 26)]⟩, ⟨none, [(5, none), (26, some 3)]⟩, ⟨none, [(53, some 32), (49, some 27)]⟩, ⟨none, [(5, none), (28, some 5)]⟩, ⟨none, [(54, some 34), (50, some 28)]⟩, ⟨none, [(5, none), (30, some 7)]⟩, ⟨none, [(55, some 36), (51, some 29)]⟩] [] [2, 3, 4, 5, 6, 7, 27, 28, 29, 32, 34, 36] kj kj kj (fun W hR => row_ext r51_43 hR) fun F hF => ?_
    refine t_val (.pointer (some ⟨g51, 0, none⟩)) kj kj rfl (fun W => by kernel_rfl) ?_
    refine t_read (.int .i64 1) kj kj kj rfl (fun W hR => (run_loadC1 3 _ g51 0 68 _ (.int .i64 1) _ (row_ext (row_ext r51_43 (ext_drew _)) hR) rfl kj kj kj)) ?_
    refine t_val (.pointer (some ⟨g51, 1, none⟩)) kj kj rfl (fun W => by kernel_rfl) ?_
    refine t_readU (.int .i64 6) kj kj kj rfl (fun W hW => (run_loadC1 3 _ g51 1 68 _ (.int .i64 6) _ hW rfl kj kj kj)) ?_
    refine t_val (.pointer (some ⟨g51, 2, none⟩)) kj kj rfl (fun W => by kernel_rfl) ?_
    refine t_readU (.int .i64 11) kj kj kj rfl (fun W hW => (run_loadC1 3 _ g51 2 68 _ (.int .i64 11) _ hW rfl kj kj kj)) ?_
    refine t_val (.pointer (some ⟨g51, 3, none⟩)) kj kj rfl (fun W => by kernel_rfl) ?_
    refine t_readU (.int .i64 12) kj kj kj rfl (fun W hW => (run_loadC1 3 _ g51 3 68 _ (.int .i64 12) _ hW rfl kj kj kj)) ?_
    refine t_val (.pointer (some ⟨g51, 0, none⟩)) kj kj rfl (fun W => by kernel_rfl) ?_
    refine t_read (.int .i64 1) kj kj kj rfl (fun W hR => (run_loadC1 3 _ g51 0 68 _ (.int .i64 1) _ (row_ext (row_ext r51_43 (ext_drew _)) hR) rfl kj kj kj)) ?_
    refine t_val (.pointer (some ⟨g8, 1, none⟩)) kj kj rfl (fun W => by kernel_rfl) ?_
    have r8_42 := (row_ext r8_41_46 e42)
    have r8_43 := (Puts.row p43 r8_42 (ne_of_old r8_41_46 l51))
    refine t_read (.int .u32 (wv (wget x5 1))) kj kj kj rfl (fun W hR => (run_loadC1 87 _ g8 1 88 _ (.int .u32 (wv (wget x5 1))) _ (row_ext (row_ext r8_43 (ext_drew _)) hR) rfl kj ((ints_get _ _ _ (Nat.lt_of_lt_of_eq (by decide) (wv_len h5).symm)).trans (congrArg (fun z => some (Value.int .u32 z)) (nth_map x5 1))) kj)) ?_
    refine t_val (.pointer (some ⟨g51, 1, none⟩)) kj kj rfl (fun W => by kernel_rfl) ?_
    refine t_read (.int .i64 6) kj kj kj rfl (fun W hR => (run_loadC1 3 _ g51 1 68 _ (.int .i64 6) _ (row_ext (row_ext r51_43 (ext_drew _)) hR) rfl kj kj kj)) ?_
    refine t_val (.pointer (some ⟨g8, 6, none⟩)) kj kj rfl (fun W => by kernel_rfl) ?_
    refine t_read (.int .u32 (wv (wget x5 6))) kj kj kj rfl (fun W hR => (run_loadC1 87 _ g8 6 88 _ (.int .u32 (wv (wget x5 6))) _ (row_ext (row_ext r8_43 (ext_drew _)) hR) rfl kj ((ints_get _ _ _ (Nat.lt_of_lt_of_eq (by decide) (wv_len h5).symm)).trans (congrArg (fun z => some (Value.int .u32 z)) (nth_map x5 6))) kj)) ?_
    refine t_val (.pointer (some ⟨g51, 2, none⟩)) kj kj rfl (fun W => by kernel_rfl) ?_
    refine t_read (.int .i64 11) kj kj kj rfl (fun W hR => (run_loadC1 3 _ g51 2 68 _ (.int .i64 11) _ (row_ext (row_ext r51_43 (ext_drew _)) hR) rfl kj kj kj)) ?_
    refine t_val (.pointer (some ⟨g8, 11, none⟩)) kj kj rfl (fun W => by kernel_rfl) ?_
    refine t_read (.int .u32 (wv (wget x5 11))) kj kj kj rfl (fun W hR => (run_loadC1 87 _ g8 11 88 _ (.int .u32 (wv (wget x5 11))) _ (row_ext (row_ext r8_43 (ext_drew _)) hR) rfl kj ((ints_get _ _ _ (Nat.lt_of_lt_of_eq (by decide) (wv_len h5).symm)).trans (congrArg (fun z => some (Value.int .u32 z)) (nth_map x5 11))) kj)) ?_
    refine t_val (.pointer (some ⟨g51, 3, none⟩)) kj kj rfl (fun W => by kernel_rfl) ?_
    refine t_read (.int .i64 12) kj kj kj rfl (fun W hR => (run_loadC1 3 _ g51 3 68 _ (.int .i64 12) _ (row_ext (row_ext r51_43 (ext_drew _)) hR) rfl kj kj kj)) ?_
    refine t_val (.pointer (some ⟨g8, 12, none⟩)) kj kj rfl (fun W => by kernel_rfl) ?_
    refine t_read (.int .u32 (wv (wget x5 12))) kj kj kj rfl (fun W hR => (run_loadC1 87 _ g8 12 88 _ (.int .u32 (wv (wget x5 12))) _ (row_ext (row_ext r8_43 (ext_drew _)) hR) rfl kj ((ints_get _ _ _ (Nat.lt_of_lt_of_eq (by decide) (wv_len h5).symm)).trans (congrArg (fun z => some (Value.int .u32 z)) (nth_map x5 12))) kj)) ?_
    refine t_call (.tuple #[.int .u32 (wv (qA2 (wget x5 1) (wget x5 6) (wget x5 11) (wget x5 12))), .int .u32 (wv (qB2 (wget x5 1) (wget x5 6) (wget x5 11) (wget x5 12))), .int .u32 (wv (qC2 (wget x5 1) (wget x5 6) (wget x5 11) (wget x5 12))), .int .u32 (wv (qD2 (wget x5 1) (wget x5 6) (wget x5 11) (wget x5 12)))]) 58 #[.int .u32 (wv (wget x5 1)), .int .u32 (wv (wget x5 6)), .int .u32 (wv (wget x5 11)), .int .u32 (wv (wget x5 12))] kj kj kj rfl (fun W => by kernel_rfl) (fun W hR => (quarterC (wget x5 1) (wget x5 6) (wget x5 11) (wget x5 12)) W) ?_
    refine t_val (.tuple #[.int .u32 (wv (qA2 (wget x5 1) (wget x5 6) (wget x5 11) (wget x5 12))), .int .u32 (wv (qB2 (wget x5 1) (wget x5 6) (wget x5 11) (wget x5 12))), .int .u32 (wv (qC2 (wget x5 1) (wget x5 6) (wget x5 11) (wget x5 12))), .int .u32 (wv (qD2 (wget x5 1) (wget x5 6) (wget x5 11) (wget x5 12)))]) kj kj rfl (fun W => by kernel_rfl) ?_
    refine t_val (.int .u32 (wv (qA2 (wget x5 1) (wget x5 6) (wget x5 11) (wget x5 12)))) kj kj rfl (fun W => by kernel_rfl) ?_
    refine t_val (.int .u32 (wv (qB2 (wget x5 1) (wget x5 6) (wget x5 11) (wget x5 12)))) kj kj rfl (fun W => by kernel_rfl) ?_
    refine t_val (.int .u32 (wv (qC2 (wget x5 1) (wget x5 6) (wget x5 11) (wget x5 12)))) kj kj rfl (fun W => by kernel_rfl) ?_
    refine t_val (.int .u32 (wv (qD2 (wget x5 1) (wget x5 6) (wget x5 11) (wget x5 12)))) kj kj rfl (fun W => by kernel_rfl) ?_
    refine t_val (.pointer (some ⟨g8, 1, none⟩)) kj kj rfl (fun W => by kernel_rfl) ?_
    refine t_store rfl ?_
    refine t_val (.pointer (some ⟨g8, 6, none⟩)) kj kj rfl (fun W => by kernel_rfl) ?_
    refine t_store rfl ?_
    refine t_val (.pointer (some ⟨g8, 11, none⟩)) kj kj rfl (fun W => by kernel_rfl) ?_
    refine t_store rfl ?_
    refine t_val (.pointer (some ⟨g8, 12, none⟩)) kj kj rfl (fun W => by kernel_rfl) ?_
    refine t_store rfl ?_
    refine t_nil (hF _ kj fun W44 e44 => ?_)
    simp only [List.nil_append, List.cons_append, fins, up]
    clear hF
    have x44 : Ext w W44 := Ext.tr x43 e44
    have r8_44 := (row_ext r8_43 e44)
    have r51_44 := (row_ext r51_43 e44)
    refine te_store _ g8 _ (ints .u32 ((x5.map wv).set 1 (wv (qA2 (wget x5 1) (wget x5 6) (wget x5 11) (wget x5 12))))) 88 r8_44 rfl (run_storeI 87 _ _ g8 1 88 _ _ r8_44 rfl kj kj kj (Nat.lt_of_lt_of_eq (show 1 < 16 by decide) (wv_len h5).symm)) (fun W hp => Puts.row hp r51_44 (ne_of_new r8_41_46 l51)) fun W45 p45 r8_45 => ?_
    have x45 : Ext w W45 := Puts.ext p45 x44 b8
    have r51_45 := (Puts.row p45 r51_44 (ne_of_new r8_41_46 l51))
    refine te_store _ g8 _ (ints .u32 (((x5.map wv).set 1 (wv (qA2 (wget x5 1) (wget x5 6) (wget x5 11) (wget x5 12)))).set 6 (wv (qB2 (wget x5 1) (wget x5 6) (wget x5 11) (wget x5 12))))) 88 r8_45 rfl (run_storeI 87 _ _ g8 6 88 _ _ r8_45 rfl kj kj kj (Nat.lt_of_lt_of_eq (show 6 < 16 by decide) ((List.length_set ..).trans (wv_len h5)).symm)) (fun W hp => Puts.row hp r51_45 (ne_of_new r8_41_46 l51)) fun W46 p46 r8_46 => ?_
    have x46 : Ext w W46 := Puts.ext p46 x45 b8
    have r51_46 := (Puts.row p46 r51_45 (ne_of_new r8_41_46 l51))
    refine te_store _ g8 _ (ints .u32 ((((x5.map wv).set 1 (wv (qA2 (wget x5 1) (wget x5 6) (wget x5 11) (wget x5 12)))).set 6 (wv (qB2 (wget x5 1) (wget x5 6) (wget x5 11) (wget x5 12)))).set 11 (wv (qC2 (wget x5 1) (wget x5 6) (wget x5 11) (wget x5 12))))) 88 r8_46 rfl (run_storeI 87 _ _ g8 11 88 _ _ r8_46 rfl kj kj kj (Nat.lt_of_lt_of_eq (show 11 < 16 by decide) ((List.length_set ..).trans ((List.length_set ..).trans (wv_len h5))).symm)) (fun W hp => Puts.row hp r51_46 (ne_of_new r8_41_46 l51)) fun W47 p47 r8_47 => ?_
    have x47 : Ext w W47 := Puts.ext p47 x46 b8
    have r51_47 := (Puts.row p47 r51_46 (ne_of_new r8_41_46 l51))
    refine te_store _ g8 _ (ints .u32 (((((x5.map wv).set 1 (wv (qA2 (wget x5 1) (wget x5 6) (wget x5 11) (wget x5 12)))).set 6 (wv (qB2 (wget x5 1) (wget x5 6) (wget x5 11) (wget x5 12)))).set 11 (wv (qC2 (wget x5 1) (wget x5 6) (wget x5 11) (wget x5 12)))).set 12 (wv (qD2 (wget x5 1) (wget x5 6) (wget x5 11) (wget x5 12))))) 88 r8_47 rfl (run_storeI 87 _ _ g8 12 88 _ _ r8_47 rfl kj kj kj (Nat.lt_of_lt_of_eq (show 12 < 16 by decide) ((List.length_set ..).trans ((List.length_set ..).trans ((List.length_set ..).trans (wv_len h5)))).symm)) (fun W hp => Puts.row hp r51_47 (ne_of_new r8_41_46 l51)) fun W48 p48 r8_48 => ?_
    have x48 : Ext w W48 := Puts.ext p48 x47 b8
    refine te_nil ?_
    obtain ⟨x6, ex6⟩ : ∃ z : List Wd, z = qrt x5 1 6 11 12 := ⟨_, rfl⟩
    have h6 : x6.length = 16 := by rw [ex6, qrt_len, h5]
    have r8_48_52 : W48.heap[g8]? = some (.cells (ints .u32 (x6.map wv)) 88) := row_eq r8_48 (by rw [ex6]; unfold qrt; simp only [List.map_set])
    refine hK49 _ _ ?_
    try clear hK49 K49
    refine region_lit ?_
    refine seq_val (.int .i64 6) 56 rfl kj kj ?_
    refine seq_val (.int .i64 6) 19 rfl kj kj ?_
    refine seq_nil ?_
    show Code.rounds _ _ _ 3 _ _
    show Code.wp _ _ (Exit.then (Code.rounds _ _ _ 2) _) _ _
    refine wp_seq_k fun K53 hK53 => ?_
    refine region_lit ?_
    refine seq_val (.bool true) 20 rfl kj kj ?_
    refine seq_nil ?_
    refine hK53 _ _ ?_
    try clear hK53 K53
    refine wp_seq_k fun K54 hK54 => ?_
    refine cond_true kj ?_
    refine wp_skip ?_
    refine hK54 _ _ ?_
    try clear hK54 K54
    refine wp_seq_k fun K55 hK55 => ?_
    refine wp_block ?_
    refine wp_seq_k fun K56 hK56 => ?_
    refine region_lit ?_
    refine seq_val (.agg (ints .i64 ([2, 7, 8, 13]))) 21 rfl kj kj ?_
    refine seq_alloc ((Array.replicate 4 (.int .i64 0))) 68 7 rfl kj kj fun g57 W49 l57 e49 r57_49 => ?_
    have x49 : Ext w W49 := Ext.tr x48 e49
    have b57 : w.heap.size ≤ g57 := Nat.le_trans x48.size l57
    refine seq_store g57 _ (ints .i64 ([2, 7, 8, 13])) 68 r57_49 rfl kj (run_store_row 68 _ _ g57 68 _ _ r57_49 rfl kj kj (isz (n := 4) kj kj) (eqsz (n := 4) kj kj) (ints_one _ _)) fun W50 p50 r57_50 => ?_
    have x50 : Ext w W50 := Puts.ext p50 x49 b57
    refine seq_nil ?_
    refine hK56 _ _ ?_
    try clear hK56 K56
    refine any_regionT (fun W => W.heap[g57]? = some (.cells (ints .i64 ([2, 7, 8, 13])) 68)) [⟨none, [(7, none)]⟩, ⟨none, [(23, some 0)]⟩, ⟨none, [(7, none)]⟩, ⟨none, [(25, some 2)]⟩, ⟨none, [(7, none)]⟩, ⟨none, [(27, some 4)]⟩, ⟨none, [(7, none)]⟩, ⟨none, [(29, some 6)]⟩, ⟨none, [(7, none)]⟩, ⟨none, [(31, some 8)]⟩, ⟨none, [(5, none), (32, some 9)]⟩, ⟨none, [(33, some 10)]⟩, ⟨none, [(7, none)]⟩, ⟨none, [(35, some 12)]⟩, ⟨none, [(5, none), (36, some 13)]⟩, ⟨none, [(37, some 14)]⟩, ⟨none, [(7, none)]⟩, ⟨none, [(39, some 16)]⟩, ⟨none, [(5, none), (40, some 17)]⟩, ⟨none, [(41, some 18)]⟩, ⟨none, [(7, none)]⟩, ⟨none, [(43, some 20)]⟩, ⟨none, [(5, none), (44, some 21)]⟩, ⟨none, [(45, some 22)]⟩, ⟨none, [(34, some 11), (38, some 15), (42, some 19), (46, some 23)]⟩, ⟨none, [(47, some 24)]⟩, ⟨none, [(22, some 25)]⟩, ⟨none, [(22, some 25)]⟩, ⟨none, [(22, some 25)]⟩, ⟨none, [(22, some 25)]⟩, ⟨none, [(5, none), (24, some 1)]⟩, ⟨none, [(52, some 30), (48, some 26)]⟩, ⟨none, [(5, none), (26, some 3)]⟩, ⟨none, [(53, some 32), (49, some 27)]⟩, ⟨none, [(5, none), (28, some 5)]⟩, ⟨none, [(54, some 34), (50, some 28)]⟩, ⟨none, [(5, none), (30, some 7)]⟩, ⟨none, [(55, some 36), (51, some 29)]⟩] [] [2, 3, 4, 5, 6, 7, 27, 28, 29, 32, 34, 36] kj kj kj (fun W hR => row_ext r57_50 hR) fun F hF => ?_
    refine t_val (.pointer (some ⟨g57, 0, none⟩)) kj kj rfl (fun W => by kernel_rfl) ?_
    refine t_read (.int .i64 2) kj kj kj rfl (fun W hR => (run_loadC1 3 _ g57 0 68 _ (.int .i64 2) _ (row_ext (row_ext r57_50 (ext_drew _)) hR) rfl kj kj kj)) ?_
    refine t_val (.pointer (some ⟨g57, 1, none⟩)) kj kj rfl (fun W => by kernel_rfl) ?_
    refine t_readU (.int .i64 7) kj kj kj rfl (fun W hW => (run_loadC1 3 _ g57 1 68 _ (.int .i64 7) _ hW rfl kj kj kj)) ?_
    refine t_val (.pointer (some ⟨g57, 2, none⟩)) kj kj rfl (fun W => by kernel_rfl) ?_
    refine t_readU (.int .i64 8) kj kj kj rfl (fun W hW => (run_loadC1 3 _ g57 2 68 _ (.int .i64 8) _ hW rfl kj kj kj)) ?_
    refine t_val (.pointer (some ⟨g57, 3, none⟩)) kj kj rfl (fun W => by kernel_rfl) ?_
    refine t_readU (.int .i64 13) kj kj kj rfl (fun W hW => (run_loadC1 3 _ g57 3 68 _ (.int .i64 13) _ hW rfl kj kj kj)) ?_
    refine t_val (.pointer (some ⟨g57, 0, none⟩)) kj kj rfl (fun W => by kernel_rfl) ?_
    refine t_read (.int .i64 2) kj kj kj rfl (fun W hR => (run_loadC1 3 _ g57 0 68 _ (.int .i64 2) _ (row_ext (row_ext r57_50 (ext_drew _)) hR) rfl kj kj kj)) ?_
    refine t_val (.pointer (some ⟨g8, 2, none⟩)) kj kj rfl (fun W => by kernel_rfl) ?_
    have r8_49 := (row_ext r8_48_52 e49)
    have r8_50 := (Puts.row p50 r8_49 (ne_of_old r8_48_52 l57))
    refine t_read (.int .u32 (wv (wget x6 2))) kj kj kj rfl (fun W hR => (run_loadC1 87 _ g8 2 88 _ (.int .u32 (wv (wget x6 2))) _ (row_ext (row_ext r8_50 (ext_drew _)) hR) rfl kj ((ints_get _ _ _ (Nat.lt_of_lt_of_eq (by decide) (wv_len h6).symm)).trans (congrArg (fun z => some (Value.int .u32 z)) (nth_map x6 2))) kj)) ?_
    refine t_val (.pointer (some ⟨g57, 1, none⟩)) kj kj rfl (fun W => by kernel_rfl) ?_
    refine t_read (.int .i64 7) kj kj kj rfl (fun W hR => (run_loadC1 3 _ g57 1 68 _ (.int .i64 7) _ (row_ext (row_ext r57_50 (ext_drew _)) hR) rfl kj kj kj)) ?_
    refine t_val (.pointer (some ⟨g8, 7, none⟩)) kj kj rfl (fun W => by kernel_rfl) ?_
    refine t_read (.int .u32 (wv (wget x6 7))) kj kj kj rfl (fun W hR => (run_loadC1 87 _ g8 7 88 _ (.int .u32 (wv (wget x6 7))) _ (row_ext (row_ext r8_50 (ext_drew _)) hR) rfl kj ((ints_get _ _ _ (Nat.lt_of_lt_of_eq (by decide) (wv_len h6).symm)).trans (congrArg (fun z => some (Value.int .u32 z)) (nth_map x6 7))) kj)) ?_
    refine t_val (.pointer (some ⟨g57, 2, none⟩)) kj kj rfl (fun W => by kernel_rfl) ?_
    refine t_read (.int .i64 8) kj kj kj rfl (fun W hR => (run_loadC1 3 _ g57 2 68 _ (.int .i64 8) _ (row_ext (row_ext r57_50 (ext_drew _)) hR) rfl kj kj kj)) ?_
    refine t_val (.pointer (some ⟨g8, 8, none⟩)) kj kj rfl (fun W => by kernel_rfl) ?_
    refine t_read (.int .u32 (wv (wget x6 8))) kj kj kj rfl (fun W hR => (run_loadC1 87 _ g8 8 88 _ (.int .u32 (wv (wget x6 8))) _ (row_ext (row_ext r8_50 (ext_drew _)) hR) rfl kj ((ints_get _ _ _ (Nat.lt_of_lt_of_eq (by decide) (wv_len h6).symm)).trans (congrArg (fun z => some (Value.int .u32 z)) (nth_map x6 8))) kj)) ?_
    refine t_val (.pointer (some ⟨g57, 3, none⟩)) kj kj rfl (fun W => by kernel_rfl) ?_
    refine t_read (.int .i64 13) kj kj kj rfl (fun W hR => (run_loadC1 3 _ g57 3 68 _ (.int .i64 13) _ (row_ext (row_ext r57_50 (ext_drew _)) hR) rfl kj kj kj)) ?_
    refine t_val (.pointer (some ⟨g8, 13, none⟩)) kj kj rfl (fun W => by kernel_rfl) ?_
    refine t_read (.int .u32 (wv (wget x6 13))) kj kj kj rfl (fun W hR => (run_loadC1 87 _ g8 13 88 _ (.int .u32 (wv (wget x6 13))) _ (row_ext (row_ext r8_50 (ext_drew _)) hR) rfl kj ((ints_get _ _ _ (Nat.lt_of_lt_of_eq (by decide) (wv_len h6).symm)).trans (congrArg (fun z => some (Value.int .u32 z)) (nth_map x6 13))) kj)) ?_
    refine t_call (.tuple #[.int .u32 (wv (qA2 (wget x6 2) (wget x6 7) (wget x6 8) (wget x6 13))), .int .u32 (wv (qB2 (wget x6 2) (wget x6 7) (wget x6 8) (wget x6 13))), .int .u32 (wv (qC2 (wget x6 2) (wget x6 7) (wget x6 8) (wget x6 13))), .int .u32 (wv (qD2 (wget x6 2) (wget x6 7) (wget x6 8) (wget x6 13)))]) 58 #[.int .u32 (wv (wget x6 2)), .int .u32 (wv (wget x6 7)), .int .u32 (wv (wget x6 8)), .int .u32 (wv (wget x6 13))] kj kj kj rfl (fun W => by kernel_rfl) (fun W hR => (quarterC (wget x6 2) (wget x6 7) (wget x6 8) (wget x6 13)) W) ?_
    refine t_val (.tuple #[.int .u32 (wv (qA2 (wget x6 2) (wget x6 7) (wget x6 8) (wget x6 13))), .int .u32 (wv (qB2 (wget x6 2) (wget x6 7) (wget x6 8) (wget x6 13))), .int .u32 (wv (qC2 (wget x6 2) (wget x6 7) (wget x6 8) (wget x6 13))), .int .u32 (wv (qD2 (wget x6 2) (wget x6 7) (wget x6 8) (wget x6 13)))]) kj kj rfl (fun W => by kernel_rfl) ?_
    refine t_val (.int .u32 (wv (qA2 (wget x6 2) (wget x6 7) (wget x6 8) (wget x6 13)))) kj kj rfl (fun W => by kernel_rfl) ?_
    refine t_val (.int .u32 (wv (qB2 (wget x6 2) (wget x6 7) (wget x6 8) (wget x6 13)))) kj kj rfl (fun W => by kernel_rfl) ?_
    refine t_val (.int .u32 (wv (qC2 (wget x6 2) (wget x6 7) (wget x6 8) (wget x6 13)))) kj kj rfl (fun W => by kernel_rfl) ?_
    refine t_val (.int .u32 (wv (qD2 (wget x6 2) (wget x6 7) (wget x6 8) (wget x6 13)))) kj kj rfl (fun W => by kernel_rfl) ?_
    refine t_val (.pointer (some ⟨g8, 2, none⟩)) kj kj rfl (fun W => by kernel_rfl) ?_
    refine t_store rfl ?_
    refine t_val (.pointer (some ⟨g8, 7, none⟩)) kj kj rfl (fun W => by kernel_rfl) ?_
    refine t_store rfl ?_
    refine t_val (.pointer (some ⟨g8, 8, none⟩)) kj kj rfl (fun W => by kernel_rfl) ?_
    refine t_store rfl ?_
    refine t_val (.pointer (some ⟨g8, 13, none⟩)) kj kj rfl (fun W => by kernel_rfl) ?_
    refine t_store rfl ?_
    refine t_nil (hF _ kj fun W51 e51 => ?_)
    simp only [List.nil_append, List.cons_append, fins, up]
    clear hF
    have x51 : Ext w W51 := Ext.tr x50 e51
    have r8_51 := (row_ext r8_50 e51)
    have r57_51 := (row_ext r57_50 e51)
    refine te_store _ g8 _ (ints .u32 ((x6.map wv).set 2 (wv (qA2 (wget x6 2) (wget x6 7) (wget x6 8) (wget x6 13))))) 88 r8_51 rfl (run_storeI 87 _ _ g8 2 88 _ _ r8_51 rfl kj kj kj (Nat.lt_of_lt_of_eq (show 2 < 16 by decide) (wv_len h6).symm)) (fun W hp => Puts.row hp r57_51 (ne_of_new r8_48_52 l57)) fun W52 p52 r8_52 => ?_
    have x52 : Ext w W52 := Puts.ext p52 x51 b8
    have r57_52 := (Puts.row p52 r57_51 (ne_of_new r8_48_52 l57))
    refine te_store _ g8 _ (ints .u32 (((x6.map wv).set 2 (wv (qA2 (wget x6 2) (wget x6 7) (wget x6 8) (wget x6 13)))).set 7 (wv (qB2 (wget x6 2) (wget x6 7) (wget x6 8) (wget x6 13))))) 88 r8_52 rfl (run_storeI 87 _ _ g8 7 88 _ _ r8_52 rfl kj kj kj (Nat.lt_of_lt_of_eq (show 7 < 16 by decide) ((List.length_set ..).trans (wv_len h6)).symm)) (fun W hp => Puts.row hp r57_52 (ne_of_new r8_48_52 l57)) fun W53 p53 r8_53 => ?_
    have x53 : Ext w W53 := Puts.ext p53 x52 b8
    have r57_53 := (Puts.row p53 r57_52 (ne_of_new r8_48_52 l57))
    refine te_store _ g8 _ (ints .u32 ((((x6.map wv).set 2 (wv (qA2 (wget x6 2) (wget x6 7) (wget x6 8) (wget x6 13)))).set 7 (wv (qB2 (wget x6 2) (wget x6 7) (wget x6 8) (wget x6 13)))).set 8 (wv (qC2 (wget x6 2) (wget x6 7) (wget x6 8) (wget x6 13))))) 88 r8_53 rfl (run_storeI 87 _ _ g8 8 88 _ _ r8_53 rfl kj kj kj (Nat.lt_of_lt_of_eq (show 8 < 16 by decide) ((List.length_set ..).trans ((List.length_set ..).trans (wv_len h6))).symm)) (fun W hp => Puts.row hp r57_53 (ne_of_new r8_48_52 l57)) fun W54 p54 r8_54 => ?_
    have x54 : Ext w W54 := Puts.ext p54 x53 b8
    have r57_54 := (Puts.row p54 r57_53 (ne_of_new r8_48_52 l57))
    refine te_store _ g8 _ (ints .u32 (((((x6.map wv).set 2 (wv (qA2 (wget x6 2) (wget x6 7) (wget x6 8) (wget x6 13)))).set 7 (wv (qB2 (wget x6 2) (wget x6 7) (wget x6 8) (wget x6 13)))).set 8 (wv (qC2 (wget x6 2) (wget x6 7) (wget x6 8) (wget x6 13)))).set 13 (wv (qD2 (wget x6 2) (wget x6 7) (wget x6 8) (wget x6 13))))) 88 r8_54 rfl (run_storeI 87 _ _ g8 13 88 _ _ r8_54 rfl kj kj kj (Nat.lt_of_lt_of_eq (show 13 < 16 by decide) ((List.length_set ..).trans ((List.length_set ..).trans ((List.length_set ..).trans (wv_len h6)))).symm)) (fun W hp => Puts.row hp r57_54 (ne_of_new r8_48_52 l57)) fun W55 p55 r8_55 => ?_
    have x55 : Ext w W55 := Puts.ext p55 x54 b8
    refine te_nil ?_
    obtain ⟨x7, ex7⟩ : ∃ z : List Wd, z = qrt x6 2 7 8 13 := ⟨_, rfl⟩
    have h7 : x7.length = 16 := by rw [ex7, qrt_len, h6]
    have r8_55_58 : W55.heap[g8]? = some (.cells (ints .u32 (x7.map wv)) 88) := row_eq r8_55 (by rw [ex7]; unfold qrt; simp only [List.map_set])
    refine hK55 _ _ ?_
    try clear hK55 K55
    refine region_lit ?_
    refine seq_val (.int .i64 7) 56 rfl kj kj ?_
    refine seq_val (.int .i64 7) 19 rfl kj kj ?_
    refine seq_nil ?_
    show Code.rounds _ _ _ 2 _ _
    show Code.wp _ _ (Exit.then (Code.rounds _ _ _ 1) _) _ _
    refine wp_seq_k fun K59 hK59 => ?_
    refine region_lit ?_
    refine seq_val (.bool true) 20 rfl kj kj ?_
    refine seq_nil ?_
    refine hK59 _ _ ?_
    try clear hK59 K59
    refine wp_seq_k fun K60 hK60 => ?_
    refine cond_true kj ?_
    refine wp_skip ?_
    refine hK60 _ _ ?_
    try clear hK60 K60
    refine wp_seq_k fun K61 hK61 => ?_
    refine wp_block ?_
    refine wp_seq_k fun K62 hK62 => ?_
    refine region_lit ?_
    refine seq_val (.agg (ints .i64 ([3, 4, 9, 14]))) 21 rfl kj kj ?_
    refine seq_alloc ((Array.replicate 4 (.int .i64 0))) 68 7 rfl kj kj fun g63 W56 l63 e56 r63_56 => ?_
    have x56 : Ext w W56 := Ext.tr x55 e56
    have b63 : w.heap.size ≤ g63 := Nat.le_trans x55.size l63
    refine seq_store g63 _ (ints .i64 ([3, 4, 9, 14])) 68 r63_56 rfl kj (run_store_row 68 _ _ g63 68 _ _ r63_56 rfl kj kj (isz (n := 4) kj kj) (eqsz (n := 4) kj kj) (ints_one _ _)) fun W57 p57 r63_57 => ?_
    have x57 : Ext w W57 := Puts.ext p57 x56 b63
    refine seq_nil ?_
    refine hK62 _ _ ?_
    try clear hK62 K62
    refine any_regionT (fun W => W.heap[g63]? = some (.cells (ints .i64 ([3, 4, 9, 14])) 68)) [⟨none, [(7, none)]⟩, ⟨none, [(23, some 0)]⟩, ⟨none, [(7, none)]⟩, ⟨none, [(25, some 2)]⟩, ⟨none, [(7, none)]⟩, ⟨none, [(27, some 4)]⟩, ⟨none, [(7, none)]⟩, ⟨none, [(29, some 6)]⟩, ⟨none, [(7, none)]⟩, ⟨none, [(31, some 8)]⟩, ⟨none, [(5, none), (32, some 9)]⟩, ⟨none, [(33, some 10)]⟩, ⟨none, [(7, none)]⟩, ⟨none, [(35, some 12)]⟩, ⟨none, [(5, none), (36, some 13)]⟩, ⟨none, [(37, some 14)]⟩, ⟨none, [(7, none)]⟩, ⟨none, [(39, some 16)]⟩, ⟨none, [(5, none), (40, some 17)]⟩, ⟨none, [(41, some 18)]⟩, ⟨none, [(7, none)]⟩, ⟨none, [(43, some 20)]⟩, ⟨none, [(5, none), (44, some 21)]⟩, ⟨none, [(45, some 22)]⟩, ⟨none, [(34, some 11), (38, some 15), (42, some 19), (46, some 23)]⟩, ⟨none, [(47, some 24)]⟩, ⟨none, [(22, some 25)]⟩, ⟨none, [(22, some 25)]⟩, ⟨none, [(22, some 25)]⟩, ⟨none, [(22, some 25)]⟩, ⟨none, [(5, none), (24, some 1)]⟩, ⟨none, [(52, some 30), (48, some 26)]⟩, ⟨none, [(5, none), (26, some 3)]⟩, ⟨none, [(53, some 32), (49, some 27)]⟩, ⟨none, [(5, none), (28, some 5)]⟩, ⟨none, [(54, some 34), (50, some 28)]⟩, ⟨none, [(5, none), (30, some 7)]⟩, ⟨none, [(55, some 36), (51, some 29)]⟩] [] [2, 3, 4, 5, 6, 7, 27, 28, 29, 32, 34, 36] kj kj kj (fun W hR => row_ext r63_57 hR) fun F hF => ?_
    refine t_val (.pointer (some ⟨g63, 0, none⟩)) kj kj rfl (fun W => by kernel_rfl) ?_
    refine t_read (.int .i64 3) kj kj kj rfl (fun W hR => (run_loadC1 3 _ g63 0 68 _ (.int .i64 3) _ (row_ext (row_ext r63_57 (ext_drew _)) hR) rfl kj kj kj)) ?_
    refine t_val (.pointer (some ⟨g63, 1, none⟩)) kj kj rfl (fun W => by kernel_rfl) ?_
    refine t_readU (.int .i64 4) kj kj kj rfl (fun W hW => (run_loadC1 3 _ g63 1 68 _ (.int .i64 4) _ hW rfl kj kj kj)) ?_
    refine t_val (.pointer (some ⟨g63, 2, none⟩)) kj kj rfl (fun W => by kernel_rfl) ?_
    refine t_readU (.int .i64 9) kj kj kj rfl (fun W hW => (run_loadC1 3 _ g63 2 68 _ (.int .i64 9) _ hW rfl kj kj kj)) ?_
    refine t_val (.pointer (some ⟨g63, 3, none⟩)) kj kj rfl (fun W => by kernel_rfl) ?_
    refine t_readU (.int .i64 14) kj kj kj rfl (fun W hW => (run_loadC1 3 _ g63 3 68 _ (.int .i64 14) _ hW rfl kj kj kj)) ?_
    refine t_val (.pointer (some ⟨g63, 0, none⟩)) kj kj rfl (fun W => by kernel_rfl) ?_
    refine t_read (.int .i64 3) kj kj kj rfl (fun W hR => (run_loadC1 3 _ g63 0 68 _ (.int .i64 3) _ (row_ext (row_ext r63_57 (ext_drew _)) hR) rfl kj kj kj)) ?_
    refine t_val (.pointer (some ⟨g8, 3, none⟩)) kj kj rfl (fun W => by kernel_rfl) ?_
    have r8_56 := (row_ext r8_55_58 e56)
    have r8_57 := (Puts.row p57 r8_56 (ne_of_old r8_55_58 l63))
    refine t_read (.int .u32 (wv (wget x7 3))) kj kj kj rfl (fun W hR => (run_loadC1 87 _ g8 3 88 _ (.int .u32 (wv (wget x7 3))) _ (row_ext (row_ext r8_57 (ext_drew _)) hR) rfl kj ((ints_get _ _ _ (Nat.lt_of_lt_of_eq (by decide) (wv_len h7).symm)).trans (congrArg (fun z => some (Value.int .u32 z)) (nth_map x7 3))) kj)) ?_
    refine t_val (.pointer (some ⟨g63, 1, none⟩)) kj kj rfl (fun W => by kernel_rfl) ?_
    refine t_read (.int .i64 4) kj kj kj rfl (fun W hR => (run_loadC1 3 _ g63 1 68 _ (.int .i64 4) _ (row_ext (row_ext r63_57 (ext_drew _)) hR) rfl kj kj kj)) ?_
    refine t_val (.pointer (some ⟨g8, 4, none⟩)) kj kj rfl (fun W => by kernel_rfl) ?_
    refine t_read (.int .u32 (wv (wget x7 4))) kj kj kj rfl (fun W hR => (run_loadC1 87 _ g8 4 88 _ (.int .u32 (wv (wget x7 4))) _ (row_ext (row_ext r8_57 (ext_drew _)) hR) rfl kj ((ints_get _ _ _ (Nat.lt_of_lt_of_eq (by decide) (wv_len h7).symm)).trans (congrArg (fun z => some (Value.int .u32 z)) (nth_map x7 4))) kj)) ?_
    refine t_val (.pointer (some ⟨g63, 2, none⟩)) kj kj rfl (fun W => by kernel_rfl) ?_
    refine t_read (.int .i64 9) kj kj kj rfl (fun W hR => (run_loadC1 3 _ g63 2 68 _ (.int .i64 9) _ (row_ext (row_ext r63_57 (ext_drew _)) hR) rfl kj kj kj)) ?_
    refine t_val (.pointer (some ⟨g8, 9, none⟩)) kj kj rfl (fun W => by kernel_rfl) ?_
    refine t_read (.int .u32 (wv (wget x7 9))) kj kj kj rfl (fun W hR => (run_loadC1 87 _ g8 9 88 _ (.int .u32 (wv (wget x7 9))) _ (row_ext (row_ext r8_57 (ext_drew _)) hR) rfl kj ((ints_get _ _ _ (Nat.lt_of_lt_of_eq (by decide) (wv_len h7).symm)).trans (congrArg (fun z => some (Value.int .u32 z)) (nth_map x7 9))) kj)) ?_
    refine t_val (.pointer (some ⟨g63, 3, none⟩)) kj kj rfl (fun W => by kernel_rfl) ?_
    refine t_read (.int .i64 14) kj kj kj rfl (fun W hR => (run_loadC1 3 _ g63 3 68 _ (.int .i64 14) _ (row_ext (row_ext r63_57 (ext_drew _)) hR) rfl kj kj kj)) ?_
    refine t_val (.pointer (some ⟨g8, 14, none⟩)) kj kj rfl (fun W => by kernel_rfl) ?_
    refine t_read (.int .u32 (wv (wget x7 14))) kj kj kj rfl (fun W hR => (run_loadC1 87 _ g8 14 88 _ (.int .u32 (wv (wget x7 14))) _ (row_ext (row_ext r8_57 (ext_drew _)) hR) rfl kj ((ints_get _ _ _ (Nat.lt_of_lt_of_eq (by decide) (wv_len h7).symm)).trans (congrArg (fun z => some (Value.int .u32 z)) (nth_map x7 14))) kj)) ?_
    refine t_call (.tuple #[.int .u32 (wv (qA2 (wget x7 3) (wget x7 4) (wget x7 9) (wget x7 14))), .int .u32 (wv (qB2 (wget x7 3) (wget x7 4) (wget x7 9) (wget x7 14))), .int .u32 (wv (qC2 (wget x7 3) (wget x7 4) (wget x7 9) (wget x7 14))), .int .u32 (wv (qD2 (wget x7 3) (wget x7 4) (wget x7 9) (wget x7 14)))]) 58 #[.int .u32 (wv (wget x7 3)), .int .u32 (wv (wget x7 4)), .int .u32 (wv (wget x7 9)), .int .u32 (wv (wget x7 14))] kj kj kj rfl (fun W => by kernel_rfl) (fun W hR => (quarterC (wget x7 3) (wget x7 4) (wget x7 9) (wget x7 14)) W) ?_
    refine t_val (.tuple #[.int .u32 (wv (qA2 (wget x7 3) (wget x7 4) (wget x7 9) (wget x7 14))), .int .u32 (wv (qB2 (wget x7 3) (wget x7 4) (wget x7 9) (wget x7 14))), .int .u32 (wv (qC2 (wget x7 3) (wget x7 4) (wget x7 9) (wget x7 14))), .int .u32 (wv (qD2 (wget x7 3) (wget x7 4) (wget x7 9) (wget x7 14)))]) kj kj rfl (fun W => by kernel_rfl) ?_
    refine t_val (.int .u32 (wv (qA2 (wget x7 3) (wget x7 4) (wget x7 9) (wget x7 14)))) kj kj rfl (fun W => by kernel_rfl) ?_
    refine t_val (.int .u32 (wv (qB2 (wget x7 3) (wget x7 4) (wget x7 9) (wget x7 14)))) kj kj rfl (fun W => by kernel_rfl) ?_
    refine t_val (.int .u32 (wv (qC2 (wget x7 3) (wget x7 4) (wget x7 9) (wget x7 14)))) kj kj rfl (fun W => by kernel_rfl) ?_
    refine t_val (.int .u32 (wv (qD2 (wget x7 3) (wget x7 4) (wget x7 9) (wget x7 14)))) kj kj rfl (fun W => by kernel_rfl) ?_
    refine t_val (.pointer (some ⟨g8, 3, none⟩)) kj kj rfl (fun W => by kernel_rfl) ?_
    refine t_store rfl ?_
    refine t_val (.pointer (some ⟨g8, 4, none⟩)) kj kj rfl (fun W => by kernel_rfl) ?_
    refine t_store rfl ?_
    refine t_val (.pointer (some ⟨g8, 9, none⟩)) kj kj rfl (fun W => by kernel_rfl) ?_
    refine t_store rfl ?_
    refine t_val (.pointer (some ⟨g8, 14, none⟩)) kj kj rfl (fun W => by kernel_rfl) ?_
    refine t_store rfl ?_
    refine t_nil (hF _ kj fun W58 e58 => ?_)
    simp only [List.nil_append, List.cons_append, fins, up]
    clear hF
    have x58 : Ext w W58 := Ext.tr x57 e58
    have r8_58 := (row_ext r8_57 e58)
    have r63_58 := (row_ext r63_57 e58)
    refine te_store _ g8 _ (ints .u32 ((x7.map wv).set 3 (wv (qA2 (wget x7 3) (wget x7 4) (wget x7 9) (wget x7 14))))) 88 r8_58 rfl (run_storeI 87 _ _ g8 3 88 _ _ r8_58 rfl kj kj kj (Nat.lt_of_lt_of_eq (show 3 < 16 by decide) (wv_len h7).symm)) (fun W hp => Puts.row hp r63_58 (ne_of_new r8_55_58 l63)) fun W59 p59 r8_59 => ?_
    have x59 : Ext w W59 := Puts.ext p59 x58 b8
    have r63_59 := (Puts.row p59 r63_58 (ne_of_new r8_55_58 l63))
    refine te_store _ g8 _ (ints .u32 (((x7.map wv).set 3 (wv (qA2 (wget x7 3) (wget x7 4) (wget x7 9) (wget x7 14)))).set 4 (wv (qB2 (wget x7 3) (wget x7 4) (wget x7 9) (wget x7 14))))) 88 r8_59 rfl (run_storeI 87 _ _ g8 4 88 _ _ r8_59 rfl kj kj kj (Nat.lt_of_lt_of_eq (show 4 < 16 by decide) ((List.length_set ..).trans (wv_len h7)).symm)) (fun W hp => Puts.row hp r63_59 (ne_of_new r8_55_58 l63)) fun W60 p60 r8_60 => ?_
    have x60 : Ext w W60 := Puts.ext p60 x59 b8
    have r63_60 := (Puts.row p60 r63_59 (ne_of_new r8_55_58 l63))
    refine te_store _ g8 _ (ints .u32 ((((x7.map wv).set 3 (wv (qA2 (wget x7 3) (wget x7 4) (wget x7 9) (wget x7 14)))).set 4 (wv (qB2 (wget x7 3) (wget x7 4) (wget x7 9) (wget x7 14)))).set 9 (wv (qC2 (wget x7 3) (wget x7 4) (wget x7 9) (wget x7 14))))) 88 r8_60 rfl (run_storeI 87 _ _ g8 9 88 _ _ r8_60 rfl kj kj kj (Nat.lt_of_lt_of_eq (show 9 < 16 by decide) ((List.length_set ..).trans ((List.length_set ..).trans (wv_len h7))).symm)) (fun W hp => Puts.row hp r63_60 (ne_of_new r8_55_58 l63)) fun W61 p61 r8_61 => ?_
    have x61 : Ext w W61 := Puts.ext p61 x60 b8
    have r63_61 := (Puts.row p61 r63_60 (ne_of_new r8_55_58 l63))
    refine te_store _ g8 _ (ints .u32 (((((x7.map wv).set 3 (wv (qA2 (wget x7 3) (wget x7 4) (wget x7 9) (wget x7 14)))).set 4 (wv (qB2 (wget x7 3) (wget x7 4) (wget x7 9) (wget x7 14)))).set 9 (wv (qC2 (wget x7 3) (wget x7 4) (wget x7 9) (wget x7 14)))).set 14 (wv (qD2 (wget x7 3) (wget x7 4) (wget x7 9) (wget x7 14))))) 88 r8_61 rfl (run_storeI 87 _ _ g8 14 88 _ _ r8_61 rfl kj kj kj (Nat.lt_of_lt_of_eq (show 14 < 16 by decide) ((List.length_set ..).trans ((List.length_set ..).trans ((List.length_set ..).trans (wv_len h7)))).symm)) (fun W hp => Puts.row hp r63_61 (ne_of_new r8_55_58 l63)) fun W62 p62 r8_62 => ?_
    have x62 : Ext w W62 := Puts.ext p62 x61 b8
    refine te_nil ?_
    obtain ⟨x8, ex8⟩ : ∃ z : List Wd, z = qrt x7 3 4 9 14 := ⟨_, rfl⟩
    have h8 : x8.length = 16 := by rw [ex8, qrt_len, h7]
    have r8_62_64 : W62.heap[g8]? = some (.cells (ints .u32 (x8.map wv)) 88) := row_eq r8_62 (by rw [ex8]; unfold qrt; simp only [List.map_set])
    refine hK61 _ _ ?_
    try clear hK61 K61
    refine region_lit ?_
    refine seq_val (.int .i64 8) 56 rfl kj kj ?_
    refine seq_val (.int .i64 8) 19 rfl kj kj ?_
    refine seq_nil ?_
    show Code.rounds _ _ _ 1 _ _
    show Code.wp _ _ (Exit.then (Code.rounds _ _ _ 0) _) _ _
    refine wp_seq_k fun K65 hK65 => ?_
    refine region_lit ?_
    refine seq_val (.bool false) 20 rfl kj kj ?_
    refine seq_nil ?_
    refine hK65 _ _ ?_
    try clear hK65 K65
    refine wp_seq_k fun K66 hK66 => ?_
    refine cond_false kj ?_
    refine wp_exit ?_
    refine hK14 _ _ ?_
    try clear hK14 K14
    refine region_lit ?_
    refine seq_val (.int .i64 ((i + 1 : Nat) : Int)) 57 rfl kj (run_eq (u := .int .i64 (IntKind.i64.wrap (((i : Nat) : Int) + 1))) kj (congrArg (Value.int .i64) (i64n _ _ (by omega) (by omega)))) ?_
    refine seq_val (.int .i64 ((i + 1 : Nat) : Int)) 16 rfl kj kj ?_
    refine seq_nil ?_
    repeat (first | with_reducible refine goX1 ?_ | with_reducible refine goX2 ?_ | with_reducible refine goX3 ?_)
    exact goes_then (i + 1) ⟨rfl, rfl, rfl, rfl, trivial⟩ ⟨(by omega), (row_eq r8_62_64 (by rw [ex8, ex7, ex6, ex5, ex4, ex3, ex2, ex1, ex0]; rfl)), (Keeps.puts (Keeps.puts (Keeps.puts (Keeps.puts (Keeps.step (Keeps.puts (Keeps.step (Keeps.puts (Keeps.puts (Keeps.puts (Keeps.puts (Keeps.step (Keeps.puts (Keeps.step (Keeps.puts (Keeps.puts (Keeps.puts (Keeps.puts (Keeps.step (Keeps.puts (Keeps.step (Keeps.puts (Keeps.puts (Keeps.puts (Keeps.puts (Keeps.step (Keeps.puts (Keeps.step (Keeps.puts (Keeps.puts (Keeps.puts (Keeps.puts (Keeps.step (Keeps.puts (Keeps.step (Keeps.puts (Keeps.puts (Keeps.puts (Keeps.puts (Keeps.step (Keeps.puts (Keeps.step (Keeps.puts (Keeps.puts (Keeps.puts (Keeps.puts (Keeps.step (Keeps.puts (Keeps.step (Keeps.puts (Keeps.puts (Keeps.puts (Keeps.puts (Keeps.step (Keeps.puts (Keeps.step q6 e7) p8 (.inr (Nat.le_trans (Keeps.size q6) (Nat.le_trans (Nat.le_refl _) l21)))) e9) p10 (.inl (by simp))) p11 (.inl (by simp))) p12 (.inl (by simp))) p13 (.inl (by simp))) e14) p15 (.inr (Nat.le_trans (Keeps.size q6) (Nat.le_trans (Nat.le_trans (Nat.le_trans (Nat.le_trans (Nat.le_trans (Nat.le_trans (Nat.le_trans (Nat.le_trans (Nat.le_refl _) e7.size) (Nat.le_of_eq p8.2.2.2.1.symm)) e9.size) (Nat.le_of_eq p10.2.2.2.1.symm)) (Nat.le_of_eq p11.2.2.2.1.symm)) (Nat.le_of_eq p12.2.2.2.1.symm)) (Nat.le_of_eq p13.2.2.2.1.symm)) l27)))) e16) p17 (.inl (by simp))) p18 (.inl (by simp))) p19 (.inl (by simp))) p20 (.inl (by simp))) e21) p22 (.inr (Nat.le_trans (Keeps.size q6) (Nat.le_trans (Nat.le_trans (Nat.le_trans (Nat.le_trans (Nat.le_trans (Nat.le_trans (Nat.le_trans (Nat.le_trans (Nat.le_trans (Nat.le_trans (Nat.le_trans (Nat.le_trans (Nat.le_trans (Nat.le_trans (Nat.le_trans (Nat.le_refl _) e7.size) (Nat.le_of_eq p8.2.2.2.1.symm)) e9.size) (Nat.le_of_eq p10.2.2.2.1.symm)) (Nat.le_of_eq p11.2.2.2.1.symm)) (Nat.le_of_eq p12.2.2.2.1.symm)) (Nat.le_of_eq p13.2.2.2.1.symm)) e14.size) (Nat.le_of_eq p15.2.2.2.1.symm)) e16.size) (Nat.le_of_eq p17.2.2.2.1.symm)) (Nat.le_of_eq p18.2.2.2.1.symm)) (Nat.le_of_eq p19.2.2.2.1.symm)) (Nat.le_of_eq p20.2.2.2.1.symm)) l33)))) e23) p24 (.inl (by simp))) p25 (.inl (by simp))) p26 (.inl (by simp))) p27 (.inl (by simp))) e28) p29 (.inr (Nat.le_trans (Keeps.size q6) (Nat.le_trans (Nat.le_trans (Nat.le_trans (Nat.le_trans (Nat.le_trans (Nat.le_trans (Nat.le_trans (Nat.le_trans (Nat.le_trans (Nat.le_trans (Nat.le_trans (Nat.le_trans (Nat.le_trans (Nat.le_trans (Nat.le_trans (Nat.le_trans (Nat.le_trans (Nat.le_trans (Nat.le_trans (Nat.le_trans (Nat.le_trans (Nat.le_trans (Nat.le_refl _) e7.size) (Nat.le_of_eq p8.2.2.2.1.symm)) e9.size) (Nat.le_of_eq p10.2.2.2.1.symm)) (Nat.le_of_eq p11.2.2.2.1.symm)) (Nat.le_of_eq p12.2.2.2.1.symm)) (Nat.le_of_eq p13.2.2.2.1.symm)) e14.size) (Nat.le_of_eq p15.2.2.2.1.symm)) e16.size) (Nat.le_of_eq p17.2.2.2.1.symm)) (Nat.le_of_eq p18.2.2.2.1.symm)) (Nat.le_of_eq p19.2.2.2.1.symm)) (Nat.le_of_eq p20.2.2.2.1.symm)) e21.size) (Nat.le_of_eq p22.2.2.2.1.symm)) e23.size) (Nat.le_of_eq p24.2.2.2.1.symm)) (Nat.le_of_eq p25.2.2.2.1.symm)) (Nat.le_of_eq p26.2.2.2.1.symm)) (Nat.le_of_eq p27.2.2.2.1.symm)) l39)))) e30) p31 (.inl (by simp))) p32 (.inl (by simp))) p33 (.inl (by simp))) p34 (.inl (by simp))) e35) p36 (.inr (Nat.le_trans (Keeps.size q6) (Nat.le_trans (Nat.le_trans (Nat.le_trans (Nat.le_trans (Nat.le_trans (Nat.le_trans (Nat.le_trans (Nat.le_trans (Nat.le_trans (Nat.le_trans (Nat.le_trans (Nat.le_trans (Nat.le_trans (Nat.le_trans (Nat.le_trans (Nat.le_trans (Nat.le_trans (Nat.le_trans (Nat.le_trans (Nat.le_trans (Nat.le_trans (Nat.le_trans (Nat.le_trans (Nat.le_trans (Nat.le_trans (Nat.le_trans (Nat.le_trans (Nat.le_trans (Nat.le_trans (Nat.le_refl _) e7.size) (Nat.le_of_eq p8.2.2.2.1.symm)) e9.size) (Nat.le_of_eq p10.2.2.2.1.symm)) (Nat.le_of_eq p11.2.2.2.1.symm)) (Nat.le_of_eq p12.2.2.2.1.symm)) (Nat.le_of_eq p13.2.2.2.1.symm)) e14.size) (Nat.le_of_eq p15.2.2.2.1.symm)) e16.size) (Nat.le_of_eq p17.2.2.2.1.symm)) (Nat.le_of_eq p18.2.2.2.1.symm)) (Nat.le_of_eq p19.2.2.2.1.symm)) (Nat.le_of_eq p20.2.2.2.1.symm)) e21.size) (Nat.le_of_eq p22.2.2.2.1.symm)) e23.size) (Nat.le_of_eq p24.2.2.2.1.symm)) (Nat.le_of_eq p25.2.2.2.1.symm)) (Nat.le_of_eq p26.2.2.2.1.symm)) (Nat.le_of_eq p27.2.2.2.1.symm)) e28.size) (Nat.le_of_eq p29.2.2.2.1.symm)) e30.size) (Nat.le_of_eq p31.2.2.2.1.symm)) (Nat.le_of_eq p32.2.2.2.1.symm)) (Nat.le_of_eq p33.2.2.2.1.symm)) (Nat.le_of_eq p34.2.2.2.1.symm)) l45)))) e37) p38 (.inl (by simp))) p39 (.inl (by simp))) p40 (.inl (by simp))) p41 (.inl (by simp))) e42) p43 (.inr (Nat.le_trans (Keeps.size q6) (Nat.le_trans (Nat.le_trans (Nat.le_trans (Nat.le_trans (Nat.le_trans (Nat.le_trans (Nat.le_trans (Nat.le_trans (Nat.le_trans (Nat.le_trans (Nat.le_trans (Nat.le_trans (Nat.le_trans (Nat.le_trans (Nat.le_trans (Nat.le_trans (Nat.le_trans (Nat.le_trans (Nat.le_trans (Nat.le_trans (Nat.le_trans (Nat.le_trans (Nat.le_trans (Nat.le_trans (Nat.le_trans (Nat.le_trans (Nat.le_trans (Nat.le_trans (Nat.le_trans (Nat.le_trans (Nat.le_trans (Nat.le_trans (Nat.le_trans (Nat.le_trans (Nat.le_trans (Nat.le_trans (Nat.le_refl _) e7.size) (Nat.le_of_eq p8.2.2.2.1.symm)) e9.size) (Nat.le_of_eq p10.2.2.2.1.symm)) (Nat.le_of_eq p11.2.2.2.1.symm)) (Nat.le_of_eq p12.2.2.2.1.symm)) (Nat.le_of_eq p13.2.2.2.1.symm)) e14.size) (Nat.le_of_eq p15.2.2.2.1.symm)) e16.size) (Nat.le_of_eq p17.2.2.2.1.symm)) (Nat.le_of_eq p18.2.2.2.1.symm)) (Nat.le_of_eq p19.2.2.2.1.symm)) (Nat.le_of_eq p20.2.2.2.1.symm)) e21.size) (Nat.le_of_eq p22.2.2.2.1.symm)) e23.size) (Nat.le_of_eq p24.2.2.2.1.symm)) (Nat.le_of_eq p25.2.2.2.1.symm)) (Nat.le_of_eq p26.2.2.2.1.symm)) (Nat.le_of_eq p27.2.2.2.1.symm)) e28.size) (Nat.le_of_eq p29.2.2.2.1.symm)) e30.size) (Nat.le_of_eq p31.2.2.2.1.symm)) (Nat.le_of_eq p32.2.2.2.1.symm)) (Nat.le_of_eq p33.2.2.2.1.symm)) (Nat.le_of_eq p34.2.2.2.1.symm)) e35.size) (Nat.le_of_eq p36.2.2.2.1.symm)) e37.size) (Nat.le_of_eq p38.2.2.2.1.symm)) (Nat.le_of_eq p39.2.2.2.1.symm)) (Nat.le_of_eq p40.2.2.2.1.symm)) (Nat.le_of_eq p41.2.2.2.1.symm)) l51)))) e44) p45 (.inl (by simp))) p46 (.inl (by simp))) p47 (.inl (by simp))) p48 (.inl (by simp))) e49) p50 (.inr (Nat.le_trans (Keeps.size q6) (Nat.le_trans (Nat.le_trans (Nat.le_trans (Nat.le_trans (Nat.le_trans (Nat.le_trans (Nat.le_trans (Nat.le_trans (Nat.le_trans (Nat.le_trans (Nat.le_trans (Nat.le_trans (Nat.le_trans (Nat.le_trans (Nat.le_trans (Nat.le_trans (Nat.le_trans (Nat.le_trans (Nat.le_trans (Nat.le_trans (Nat.le_trans (Nat.le_trans (Nat.le_trans (Nat.le_trans (Nat.le_trans (Nat.le_trans (Nat.le_trans (Nat.le_trans (Nat.le_trans (Nat.le_trans (Nat.le_trans (Nat.le_trans (Nat.le_trans (Nat.le_trans (Nat.le_trans (Nat.le_trans (Nat.le_trans (Nat.le_trans (Nat.le_trans (Nat.le_trans (Nat.le_trans (Nat.le_trans (Nat.le_trans (Nat.le_refl _) e7.size) (Nat.le_of_eq p8.2.2.2.1.symm)) e9.size) (Nat.le_of_eq p10.2.2.2.1.symm)) (Nat.le_of_eq p11.2.2.2.1.symm)) (Nat.le_of_eq p12.2.2.2.1.symm)) (Nat.le_of_eq p13.2.2.2.1.symm)) e14.size) (Nat.le_of_eq p15.2.2.2.1.symm)) e16.size) (Nat.le_of_eq p17.2.2.2.1.symm)) (Nat.le_of_eq p18.2.2.2.1.symm)) (Nat.le_of_eq p19.2.2.2.1.symm)) (Nat.le_of_eq p20.2.2.2.1.symm)) e21.size) (Nat.le_of_eq p22.2.2.2.1.symm)) e23.size) (Nat.le_of_eq p24.2.2.2.1.symm)) (Nat.le_of_eq p25.2.2.2.1.symm)) (Nat.le_of_eq p26.2.2.2.1.symm)) (Nat.le_of_eq p27.2.2.2.1.symm)) e28.size) (Nat.le_of_eq p29.2.2.2.1.symm)) e30.size) (Nat.le_of_eq p31.2.2.2.1.symm)) (Nat.le_of_eq p32.2.2.2.1.symm)) (Nat.le_of_eq p33.2.2.2.1.symm)) (Nat.le_of_eq p34.2.2.2.1.symm)) e35.size) (Nat.le_of_eq p36.2.2.2.1.symm)) e37.size) (Nat.le_of_eq p38.2.2.2.1.symm)) (Nat.le_of_eq p39.2.2.2.1.symm)) (Nat.le_of_eq p40.2.2.2.1.symm)) (Nat.le_of_eq p41.2.2.2.1.symm)) e42.size) (Nat.le_of_eq p43.2.2.2.1.symm)) e44.size) (Nat.le_of_eq p45.2.2.2.1.symm)) (Nat.le_of_eq p46.2.2.2.1.symm)) (Nat.le_of_eq p47.2.2.2.1.symm)) (Nat.le_of_eq p48.2.2.2.1.symm)) l57)))) e51) p52 (.inl (by simp))) p53 (.inl (by simp))) p54 (.inl (by simp))) p55 (.inl (by simp))) e56) p57 (.inr (Nat.le_trans (Keeps.size q6) (Nat.le_trans (Nat.le_trans (Nat.le_trans (Nat.le_trans (Nat.le_trans (Nat.le_trans (Nat.le_trans (Nat.le_trans (Nat.le_trans (Nat.le_trans (Nat.le_trans (Nat.le_trans (Nat.le_trans (Nat.le_trans (Nat.le_trans (Nat.le_trans (Nat.le_trans (Nat.le_trans (Nat.le_trans (Nat.le_trans (Nat.le_trans (Nat.le_trans (Nat.le_trans (Nat.le_trans (Nat.le_trans (Nat.le_trans (Nat.le_trans (Nat.le_trans (Nat.le_trans (Nat.le_trans (Nat.le_trans (Nat.le_trans (Nat.le_trans (Nat.le_trans (Nat.le_trans (Nat.le_trans (Nat.le_trans (Nat.le_trans (Nat.le_trans (Nat.le_trans (Nat.le_trans (Nat.le_trans (Nat.le_trans (Nat.le_trans (Nat.le_trans (Nat.le_trans (Nat.le_trans (Nat.le_trans (Nat.le_trans (Nat.le_trans (Nat.le_refl _) e7.size) (Nat.le_of_eq p8.2.2.2.1.symm)) e9.size) (Nat.le_of_eq p10.2.2.2.1.symm)) (Nat.le_of_eq p11.2.2.2.1.symm)) (Nat.le_of_eq p12.2.2.2.1.symm)) (Nat.le_of_eq p13.2.2.2.1.symm)) e14.size) (Nat.le_of_eq p15.2.2.2.1.symm)) e16.size) (Nat.le_of_eq p17.2.2.2.1.symm)) (Nat.le_of_eq p18.2.2.2.1.symm)) (Nat.le_of_eq p19.2.2.2.1.symm)) (Nat.le_of_eq p20.2.2.2.1.symm)) e21.size) (Nat.le_of_eq p22.2.2.2.1.symm)) e23.size) (Nat.le_of_eq p24.2.2.2.1.symm)) (Nat.le_of_eq p25.2.2.2.1.symm)) (Nat.le_of_eq p26.2.2.2.1.symm)) (Nat.le_of_eq p27.2.2.2.1.symm)) e28.size) (Nat.le_of_eq p29.2.2.2.1.symm)) e30.size) (Nat.le_of_eq p31.2.2.2.1.symm)) (Nat.le_of_eq p32.2.2.2.1.symm)) (Nat.le_of_eq p33.2.2.2.1.symm)) (Nat.le_of_eq p34.2.2.2.1.symm)) e35.size) (Nat.le_of_eq p36.2.2.2.1.symm)) e37.size) (Nat.le_of_eq p38.2.2.2.1.symm)) (Nat.le_of_eq p39.2.2.2.1.symm)) (Nat.le_of_eq p40.2.2.2.1.symm)) (Nat.le_of_eq p41.2.2.2.1.symm)) e42.size) (Nat.le_of_eq p43.2.2.2.1.symm)) e44.size) (Nat.le_of_eq p45.2.2.2.1.symm)) (Nat.le_of_eq p46.2.2.2.1.symm)) (Nat.le_of_eq p47.2.2.2.1.symm)) (Nat.le_of_eq p48.2.2.2.1.symm)) e49.size) (Nat.le_of_eq p50.2.2.2.1.symm)) e51.size) (Nat.le_of_eq p52.2.2.2.1.symm)) (Nat.le_of_eq p53.2.2.2.1.symm)) (Nat.le_of_eq p54.2.2.2.1.symm)) (Nat.le_of_eq p55.2.2.2.1.symm)) l63)))) e58) p59 (.inl (by simp))) p60 (.inl (by simp))) p61 (.inl (by simp))) p62 (.inl (by simp))), x62⟩ (by omega)
  · skip
    have heq17 : i = 10 := by have := of_decide_eq_false c13; omega
    obtain ⟨xF, exF⟩ : ∃ z : List Wd, z = rounds s 10 := ⟨_, rfl⟩
    have hxF : xF.length = 16 := by rw [exF, rounds_len, hs]
    subst heq17
    have r8_6_67 : V1.heap[g8]? = some (.cells (ints .u32 (xF.map wv)) 88) := row_eq q8_1 (by rw [exF])
    refine wp_exit ?_
    refine hK9 _ _ ?_
    try clear hK9 K9
    refine wp_seq_k fun K68 hK68 => ?_
    refine region_lit ?_
    refine seq_alloc (ints .u8 (List.replicate 64 0)) 78 8 rfl kj kj fun g69 W7 l69 e7 r69_7 => ?_
    have x7 : Ext w W7 := Ext.tr xx1 e7
    have b69 : w.heap.size ≤ g69 := Nat.le_trans xx1.size l69
    refine seq_nil ?_
    refine hK68 _ _ ?_
    try clear hK68 K68
    refine wp_seq_k fun K70 hK70 => ?_
    refine wp_seq_k fun K71 hK71 => ?_
    refine region_lit ?_
    refine seq_val (.int .i64 0) 58 rfl kj kj ?_
    refine seq_nil ?_
    refine hK71 _ _ ?_
    try clear hK71 K71
    refine wp_block ?_
    have hP : (pieceB xF s).length = 64 := pieceB_len _ _
    refine loop_auto (fun (s2 : Nat) => [(2, .pointer (some ⟨g3, 0, none⟩)), (4, .pointer (some ⟨g4, 0, none⟩)), (5, .pointer (some ⟨g8, 0, none⟩)), (8, .pointer (some ⟨g69, 0, none⟩)), (58, .int .i64 ((s2 : Nat) : Int))]) (fun (s2 : Nat) W => (s2 ≤ 16) ∧ (W.heap[g69]? = some (.cells (ints .u8 (fillL (pieceB xF s) 64 (4 * s2))) 78)) ∧ (Keeps [g69] W7 W) ∧ (Ext w W)) (fun (s2 : Nat) => 16 - s2) 0 ⟨rfl, rfl, rfl, rfl, rfl, trivial⟩ ⟨(Nat.zero_le _), (row_eq r69_7 (fillL_zero _ 64)), (Keeps.refl [g69] W7), x7⟩ fun s2 X2 V2 hI2 => ?_
    obtain ⟨i, hs2⟩ : ∃ z, z = s2 := ⟨_, rfl⟩
    subst hs2
    obtain ⟨hi, q69_2, kk2, xx2⟩ := hI2
    replace hi : i ≤ 16 := hi
    replace q69_2 : V2.heap[g69]? = some (.cells (ints .u8 (fillL (pieceB xF s) 64 (4 * i))) 78) := q69_2
    replace kk2 : Keeps [g69] W7 V2 := kk2
    replace xx2 : Ext w V2 := xx2
    have q8 := kk2
    refine wp_seq_k fun K72 hK72 => ?_
    refine region_lit ?_
    refine seq_val (.bool (decide (((i : Nat) : Int) < 16))) 59 rfl kj kj ?_
    refine seq_nil ?_
    refine hK72 _ _ ?_
    try clear hK72 K72
    refine wp_seq_k fun K73 hK73 => ?_
    refine cond_split (t := decide (((i : Nat) : Int) < 16)) kj (fun c74 => ?_) (fun c74 => ?_)
    · skip
      have hlt59 : i < 16 := by have := of_decide_eq_true c74; omega
      refine wp_skip ?_
      refine hK73 _ _ ?_
      try clear hK73 K73
      refine wp_seq_k fun K75 hK75 => ?_
      refine wp_block ?_
      refine wp_seq_k fun K76 hK76 => ?_
      refine region_lit ?_
      refine seq_val (.int .i64 ((i : Nat) : Int)) 60 rfl kj kj ?_
      refine seq_val (.int .i64 ((i : Nat) : Int)) 9 rfl kj kj ?_
      refine seq_nil ?_
      refine hK76 _ _ ?_
      try clear hK76 K76
      refine wp_seq_k fun K77 hK77 => ?_
      refine any_region 7 [⟨none, [(9, none)]⟩, ⟨none, [(5, none), (61, some 0)]⟩, ⟨none, [(62, some 1)]⟩, ⟨none, [(9, none)]⟩, ⟨none, [(2, none), (64, some 3)]⟩, ⟨none, [(65, some 4)]⟩, ⟨none, [(63, some 2), (66, some 5)]⟩] kj kj fun F hF => ?_
      refine any_val (.int .i64 ((i : Nat) : Int)) kj kj (fun W => by kernel_rfl) ?_
      refine any_val (.pointer (some ⟨g8, i, none⟩)) kj kj (fun W => (run_index0 _ _ _ .i64 (i) _ 16 87 rfl kj kj kj kj (by omega))) ?_
      have r8_7 := (row_ext r8_6_67 e7)
      have r8_8 := (Keeps.row q8 r8_7 (nm_cons (ne_of_old r8_6_67 l69) nm_nil))
      refine any_read (.int .u32 (wv (wget xF i))) kj kj (fun W hR => (run_loadC1 87 _ g8 i 88 _ (.int .u32 (wv (wget xF i))) _ (row_ext (row_ext r8_8 (ext_drew _)) hR) rfl kj ((ints_get _ _ _ (Nat.lt_of_lt_of_eq (by omega) (wv_len hxF).symm)).trans (congrArg (fun z => some (Value.int .u32 z)) (nth_map xF i))) kj)) ?_
      refine any_val (.int .i64 ((i : Nat) : Int)) kj kj (fun W => by kernel_rfl) ?_
      refine any_val (.pointer (some ⟨g3, i, none⟩)) kj kj (fun W => (run_index0 _ _ _ .i64 (i) _ 16 87 rfl kj kj kj kj (by omega))) ?_
      have r3_4 := (row_ext r3_3_6 e4)
      have r3_5 := (Puts.row p5 r3_4 (ne_of_old r3_3_6 l8))
      have r3_6 := (Keeps.row q6 r3_5 (nm_cons (ne_of_old r3_3_6 l8) nm_nil))
      have r3_7 := (row_ext r3_6 e7)
      have r3_8 := (Keeps.row q8 r3_7 (nm_cons (ne_of_old r3_6 l69) nm_nil))
      refine any_read (.int .u32 (wv (wget s i))) kj kj (fun W hR => (run_loadC1 87 _ g3 i 88 _ (.int .u32 (wv (wget s i))) _ (row_ext (row_ext r3_8 (ext_drew _)) hR) rfl kj ((ints_get _ _ _ (Nat.lt_of_lt_of_eq (by omega) (wv_len hs).symm)).trans (congrArg (fun z => some (Value.int .u32 z)) (nth_map s i))) kj)) ?_
      refine any_val (.int .u32 (wv (((wget xF i)) + ((wget s i))))) kj kj (fun W => (run_eq (u := .int .u32 (IntKind.u32.wrap (wv (wget xF i) + wv (wget s i)))) kj (congrArg (Value.int .u32) (w_add _ _)))) ?_
      refine steps_nil (hF _ kj fun W9 e9 => ?_)
      simp only [ups, up, Kn.val, List.take_succ_cons, List.take_zero, List.drop_succ_cons, List.drop_zero, List.nil_append, List.cons_append]
      clear hF
      have x9 : Ext w W9 := Ext.tr xx2 e9
      refine seq_val (.int .u32 (wv (((wget xF i)) + ((wget s i))))) 10 rfl kj kj ?_
      refine seq_nil ?_
      refine hK77 _ _ ?_
      try clear hK77 K77
      refine wp_seq_k fun K78 hK78 => ?_
      refine region_lit ?_
      refine seq_val (.int .i64 0) 68 rfl kj kj ?_
      refine seq_nil ?_
      refine hK78 _ _ ?_
      try clear hK78 K78
      refine wp_block ?_
      have r69_9 := (row_ext q69_2 e9)
      refine loop_auto (fun (s3 : Nat) => [(2, .pointer (some ⟨g3, 0, none⟩)), (4, .pointer (some ⟨g4, 0, none⟩)), (5, .pointer (some ⟨g8, 0, none⟩)), (8, .pointer (some ⟨g69, 0, none⟩)), (58, .int .i64 ((i : Nat) : Int)), (9, .int .i64 ((i : Nat) : Int)), (10, .int .u32 (wv (wget xF i + wget s i))), (68, .int .i64 ((s3 : Nat) : Int))]) (fun (s3 : Nat) W => (s3 ≤ 4) ∧ (W.heap[g69]? = some (.cells (ints .u8 (fillL (pieceB xF s) 64 (4 * i + s3))) 78)) ∧ (Keeps [g69] W9 W) ∧ (Ext w W)) (fun (s3 : Nat) => 4 - s3) 0 ⟨rfl, rfl, rfl, rfl, rfl, rfl, rfl, rfl, trivial⟩ ⟨(Nat.zero_le _), (row_eq r69_9 rfl), (Keeps.refl [g69] W9), x9⟩ fun s3 X3 V3 hI3 => ?_
      obtain ⟨j, hs3⟩ : ∃ z, z = s3 := ⟨_, rfl⟩
      subst hs3
      obtain ⟨hj, q69_3, kk3, xx3⟩ := hI3
      replace hj : j ≤ 4 := hj
      replace q69_3 : V3.heap[g69]? = some (.cells (ints .u8 (fillL (pieceB xF s) 64 (4 * i + j))) 78) := q69_3
      replace kk3 : Keeps [g69] W9 V3 := kk3
      replace xx3 : Ext w V3 := xx3
      have q10 := kk3
      refine wp_seq_k fun K79 hK79 => ?_
      refine region_lit ?_
      refine seq_val (.bool (decide (((j : Nat) : Int) < 4))) 69 rfl kj kj ?_
      refine seq_nil ?_
      refine hK79 _ _ ?_
      try clear hK79 K79
      refine wp_seq_k fun K80 hK80 => ?_
      refine cond_split (t := decide (((j : Nat) : Int) < 4)) kj (fun c81 => ?_) (fun c81 => ?_)
      · skip
        have hlt69 : j < 4 := by have := of_decide_eq_true c81; omega
        refine wp_skip ?_
        refine hK80 _ _ ?_
        try clear hK80 K80
        refine wp_seq_k fun K82 hK82 => ?_
        refine wp_block ?_
        refine wp_seq_k fun K83 hK83 => ?_
        refine region_lit ?_
        refine seq_val (.int .i64 ((j : Nat) : Int)) 70 rfl kj kj ?_
        refine seq_val (.int .i64 ((j : Nat) : Int)) 11 rfl kj kj ?_
        refine seq_nil ?_
        refine hK83 _ _ ?_
        try clear hK83 K83
        refine region_lit ?_
        refine seq_val (.int .i64 ((i : Nat) : Int)) 71 rfl kj kj ?_
        refine seq_val (.int .i64 ((4 * i : Nat) : Int)) 72 rfl kj (run_eq (u := .int .i64 (IntKind.i64.wrap (4 * ((i : Nat) : Int)))) kj (congrArg (Value.int .i64) (i64n _ _ (by omega) (by omega)))) ?_
        refine seq_val (.int .i64 ((j : Nat) : Int)) 73 rfl kj kj ?_
        refine seq_val (.int .i64 (((4 * i) + j : Nat) : Int)) 74 rfl kj (run_eq (u := .int .i64 (IntKind.i64.wrap (((4 * i : Nat) : Int) + ((j : Nat) : Int)))) kj (congrArg (Value.int .i64) (i64n _ _ (by omega) (by omega)))) ?_
        refine seq_val (.int .u32 (wv (wget xF i + wget s i))) 75 rfl kj kj ?_
        refine seq_val (.int .i64 ((j : Nat) : Int)) 76 rfl kj kj ?_
        refine seq_val (.int .i64 ((8 * j : Nat) : Int)) 77 rfl kj (run_eq (u := .int .i64 (IntKind.i64.wrap (8 * ((j : Nat) : Int)))) kj (congrArg (Value.int .i64) (i64n _ _ (by omega) (by omega)))) ?_
        refine seq_val (.int .u32 (wv ((wget xF i + wget s i) >>> (8 * j)))) 78 rfl kj (run_bin .shr _ _ _ _ .u32 .i64 _ _ _ rfl kj kj (b_shr _ _ _ _ _ _ (by omega) (w_shr _ _ (8 * j) rfl (by omega)))) ?_
        refine seq_val (.int .u8 (nth (pieceB xF s) (4 * i + j))) 79 rfl kj (run_eq (u := .int .u8 (IntKind.u8.wrap (wv ((wget xF i + wget s i) >>> (8 * j))))) kj (congrArg (Value.int .u8) (byteP xF s i j hlt59 hlt69))) ?_
        refine seq_val (.pointer (some ⟨g69, (4 * i) + j, none⟩)) 80 rfl kj (run_index0 _ _ _ .i64 ((4 * i) + j) _ 64 5 rfl kj kj kj kj (by omega)) ?_
        refine seq_store g69 _ (ints .u8 ((fillL (pieceB xF s) 64 (4 * i + j)).set ((4 * i) + j) (nth (pieceB xF s) (4 * i + j)))) 78 q69_3 rfl kj (run_storeI 5 _ _ g69 ((4 * i) + j) 78 _ _ q69_3 rfl kj kj kj (Nat.lt_of_lt_of_eq (by omega) (fillL_len _ 64 _ hP (by omega)).symm)) fun W11 p11 r69_11 => ?_
        have x11 : Ext w W11 := Puts.ext p11 xx3 b69
        refine seq_nil ?_
        refine hK82 _ _ ?_
        try clear hK82 K82
        refine region_lit ?_
        refine seq_val (.int .i64 ((j + 1 : Nat) : Int)) 81 rfl kj (run_eq (u := .int .i64 (IntKind.i64.wrap (((j : Nat) : Int) + 1))) kj (congrArg (Value.int .i64) (i64n _ _ (by omega) (by omega)))) ?_
        refine seq_val (.int .i64 ((j + 1 : Nat) : Int)) 68 rfl kj kj ?_
        refine seq_nil ?_
        repeat (first | with_reducible refine goX1 ?_ | with_reducible refine goX2 ?_ | with_reducible refine goX3 ?_)
        exact goes_then (j + 1) ⟨rfl, rfl, rfl, rfl, rfl, rfl, rfl, rfl, trivial⟩ ⟨(by omega), (row_eq r69_11 (fillL_step _ 64 (4 * i + j) hP (by omega))), (Keeps.puts q10 p11 (.inl (by simp))), x11⟩ (by omega)
      · skip
        have heq69 : j = 4 := by have := of_decide_eq_false c81; omega
        refine wp_exit ?_
        refine hK75 _ _ ?_
        try clear hK75 K75
        refine region_lit ?_
        refine seq_val (.int .i64 ((i + 1 : Nat) : Int)) 82 rfl kj (run_eq (u := .int .i64 (IntKind.i64.wrap (((i : Nat) : Int) + 1))) kj (congrArg (Value.int .i64) (i64n _ _ (by omega) (by omega)))) ?_
        refine seq_val (.int .i64 ((i + 1 : Nat) : Int)) 58 rfl kj kj ?_
        refine seq_nil ?_
        repeat (first | with_reducible refine goX1 ?_ | with_reducible refine goX2 ?_ | with_reducible refine goX3 ?_)
        exact goes_then (i + 1) ⟨rfl, rfl, rfl, rfl, rfl, trivial⟩ ⟨(by omega), (row_eq q69_3 (by rw [heq69]; rfl)), (Keeps.keeps (Keeps.step q8 e9) q10 (oa_cons (.inl (by simp)) oa_nil)), xx3⟩ (by omega)
    · skip
      have heq59 : i = 16 := by have := of_decide_eq_false c74; omega
      subst heq59
      have r69_8_84 : V2.heap[g69]? = some (.cells (ints .u8 (pieceB xF s)) 78) := row_eq q69_2 (fillL_full _ 64 hP)
      refine wp_exit ?_
      refine hK70 _ _ ?_
      try clear hK70 K70
      refine wp_seq_k fun K85 hK85 => ?_
      refine region_lit ?_
      refine seq_val (.agg (ints .u8 (pieceB xF s))) 83 rfl kj (run_load_row 78 _ g69 78 _ _ r69_8_84 rfl kj kj (isz (n := 64) kj ((ints_size _ _).trans hP))) ?_
      have r4_3 := (Puts.row p3 r4_2 (ne_of_new r3_1 l4))
      have r4_4 := (row_ext r4_3 e4)
      have r4_5 := (Puts.row p5 r4_4 (ne_of_old r4_3 l8))
      have r4_6 := (Keeps.row q6 r4_5 (nm_cons (ne_of_old r4_3 l8) nm_nil))
      have r4_7 := (row_ext r4_6 e7)
      have r4_8 := (Keeps.row q8 r4_7 (nm_cons (ne_of_old r4_6 l69) nm_nil))
      refine seq_store g4 _ (ints .u8 (pieceB xF s)) 78 r4_8 rfl kj (run_store_row 78 _ _ g4 78 _ _ r4_8 rfl kj kj (isz (n := 64) kj ((ints_size _ _).trans hP)) (eqsz (n := 64) ((ints_size _ _).trans (List.length_replicate (n := 64))) ((ints_size _ _).trans hP)) (ints_one _ _)) fun W9 p9 r4_9 => ?_
      have x9 : Ext w W9 := Puts.ext p9 xx2 b4
      refine seq_nil ?_
      refine hK85 _ _ ?_
      try clear hK85 K85
      refine wp_ret ?_
      repeat (first | with_reducible refine goR1 ?_ | with_reducible refine goR2 ?_)
      exact (show bodyPost _ _ _ .ret _ _ from ret1 (.agg (ints .u8 (pieceB xF s))) rfl (res_cell g4 78 _ r4_9 kj kj (isz (n := 64) kj ((ints_size _ _).trans hP))) ⟨by unfold pieceV; rw [exF, es], x9⟩)

end Go.Proofs.YtjldjdlhllgakaaDoor.Cha
