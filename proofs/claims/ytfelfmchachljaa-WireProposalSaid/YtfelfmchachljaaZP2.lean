/- Texts of this claim, joined (P2). -/
import Derived.Test.YtfelfmchachljaaZP1

section
namespace Go.Proofs.Ytfelfmchachljaa.Wr
open Go Go.RowKit
open Rely Auto Own Sha
set_option linter.unusedVariables false
set_option linter.unusedSimpArgs false
def nR1 (s : Option (List Int)) : Option (List Int) := Qad s 1
def nR2 (s : Option (List Int)) : Option (List Int) := Qad (nR1 s) 1
def nR3 (s : Option (List Int)) : Option (List Int) := Qad (nR2 s) 32
def nR4 (s : Option (List Int)) : Option (List Int) := Qad (nR3 s) 32
def nR5 (s : Option (List Int)) : Option (List Int) := Qad (nR4 s) 32
def nR6 (s : Option (List Int)) : Option (List Int) := itR (Qad (nR5 s) 1) (bigN (Qaj (nR5 s) 1))
def nL (s : Option (List Int)) : List Int := itL (Qad (nR5 s) 1) (bigN (Qaj (nR5 s) 1))
def nNm (s : Option (List Int)) : Int := ((bigN (Qaj (nR1 s) 1) : Nat) : Int)
def nKy (s : Option (List Int)) : List Int := keyV (Qaj (nR2 s) 32)
def nSg (s : Option (List Int)) : List Int := keyV (Qaj (nR3 s) 32)
def nPa (s : Option (List Int)) : List Int := keyV (Qaj (nR4 s) 32)
set_option maxHeartbeats 4000000 in
theorem Qfl (B gr : Nat) (s : Option (List Int)) (w : World) (hB : B ≤ gr) (h : RSt B gr s w) (hU : bigN (Qaj s 1) = 1) : Calls Try.prog 102 #[.pointer (some ⟨gr, 0, none⟩)] w (fun e W => ∃ v xs, e = .returned v ∧ ExtB gr w W ∧ RSt B gr (Qa0 (Qa0 (nR6 s) (true)) (risV xs)) W ∧ (∃ (a : Option Addr) (c : Nat), v = .agg (cat [#[.bool true], #[.int .i64 (nNm s)], ints .u8 (nKy s), ints .u8 (nSg s), ints .u8 (nPa s), #[.slice a xs.length c]]) ∧ OwnN .i64 3 w.heap.size xs (.slice a xs.length c) W) ∧ xs.length ≤ 255 ∧ (nR6 s ≠ none → xs = nL s)) := by
  have hgr := h.lt
  refine enter 38 [(0, .pointer (some ⟨gr, 0, none⟩))] Try.func102 rfl rfl kj rfl ?_
  refine wp_seq_k fun K1 hK1 => ?_
  refine Qae ?_
  refine Qav (cat [#[.bool false], #[.int .i64 0], (Array.replicate 32 (.int .u8 0)), (Array.replicate 32 (.int .u8 0)), (Array.replicate 32 (.int .u8 0)), #[.slice none 0 0]]) 43 2 rfl kj kj fun g2 W1 l2 e1 r2_1 => ?_
  have x1 : ExtB gr w W1 := ExtB.ext (ExtB.refl gr w) e1
  have b2 : w.heap.size ≤ g2 := Nat.le_trans (ExtB.refl gr w).size l2
  refine Qaf ?_
  refine hK1 _ _ ?_
  refine wp_seq_k fun K3 hK3 => ?_
  refine Qae ?_
  refine Qab (.pointer (some ⟨gr, 0, none⟩)) 5 rfl kj kj ?_
  have rs4 := (RSt.ext h hB e1)
  refine Qal (fun v W' => ExtB gr W1 W' ∧ RSt B gr (Qad (s) 1) W' ∧ (fun (v : Value) (_ : World) => v = .int .i64 ((bigN (Qaj (s) 1) : Nat) : Int)) v W') 110 #[.pointer (some ⟨gr, 0, none⟩), .int .i64 1] 6 rfl kj kj (QaS B gr _ 1 _ hB rs4 (by decide)) fun vv5 W2 hh5 => ?_
  obtain ⟨q2, rs5, hv5⟩ := hh5
  have x2 : ExtB gr w W2 := ExtB.tr x1 q2
  subst hv5
  refine Qab (.int .i64 ((bigN (Qaj (s) 1) : Nat) : Int)) 3 rfl kj kj ?_
  refine Qaf ?_
  refine hK3 _ _ ?_
  refine wp_seq_k fun K6 hK6 => ?_
  refine Qae ?_
  refine Qab (.int .i64 ((bigN (Qaj (s) 1) : Nat) : Int)) 7 rfl kj kj ?_
  refine Qab (.bool true) 8 rfl kj (Qax (u := .bool ((((bigN (Qaj (s) 1) : Nat) : Int) == 1))) kj (congrArg Value.bool (beq_iff_eq.2 (by omega)))) ?_
  refine Qab (.pointer (some ⟨gr, 0, none⟩)) 9 rfl kj kj ?_
  refine Qal (fun v W' => ExtB gr W2 W' ∧ RSt B gr (Qad (Qad (s) 1) 1) W' ∧ (fun (v : Value) (_ : World) => v = .int .i64 ((bigN (Qaj (Qad (s) 1) 1) : Nat) : Int)) v W') 110 #[.pointer (some ⟨gr, 0, none⟩), .int .i64 1] 10 rfl kj kj (QaS B gr _ 1 _ hB rs5 (by decide)) fun vv7 W3 hh7 => ?_
  obtain ⟨q3, rs7, hv7⟩ := hh7
  have x3 : ExtB gr w W3 := ExtB.tr x2 q3
  subst hv7
  refine Qab (.pointer (some ⟨gr, 0, none⟩)) 11 rfl kj kj ?_
  refine Qal (fun v W' => ExtB gr W3 W' ∧ RSt B gr (Qad (Qad (Qad (s) 1) 1) 32) W' ∧ (fun (v : Value) (_ : World) => v = .agg (ints .u8 (keyV (Qaj (Qad (Qad (s) 1) 1) 32)))) v W') 109 #[.pointer (some ⟨gr, 0, none⟩)] 12 rfl kj kj (QbO B gr _ _ hB rs7) fun vv8 W4 hh8 => ?_
  obtain ⟨q4, rs8, hv8⟩ := hh8
  have x4 : ExtB gr w W4 := ExtB.tr x3 q4
  subst hv8
  refine Qab (.pointer (some ⟨gr, 0, none⟩)) 13 rfl kj kj ?_
  refine Qal (fun v W' => ExtB gr W4 W' ∧ RSt B gr (Qad (Qad (Qad (Qad (s) 1) 1) 32) 32) W' ∧ (fun (v : Value) (_ : World) => v = .agg (ints .u8 (keyV (Qaj (Qad (Qad (Qad (s) 1) 1) 32) 32)))) v W') 109 #[.pointer (some ⟨gr, 0, none⟩)] 14 rfl kj kj (QbO B gr _ _ hB rs8) fun vv9 W5 hh9 => ?_
  obtain ⟨q5, rs9, hv9⟩ := hh9
  have x5 : ExtB gr w W5 := ExtB.tr x4 q5
  subst hv9
  refine Qab (.pointer (some ⟨gr, 0, none⟩)) 15 rfl kj kj ?_
  refine Qal (fun v W' => ExtB gr W5 W' ∧ RSt B gr (Qad (Qad (Qad (Qad (Qad (s) 1) 1) 32) 32) 32) W' ∧ (fun (v : Value) (_ : World) => v = .agg (ints .u8 (keyV (Qaj (Qad (Qad (Qad (Qad (s) 1) 1) 32) 32) 32)))) v W') 109 #[.pointer (some ⟨gr, 0, none⟩)] 16 rfl kj kj (QbO B gr _ _ hB rs9) fun vv10 W6 hh10 => ?_
  obtain ⟨q6, rs10, hv10⟩ := hh10
  have x6 : ExtB gr w W6 := ExtB.tr x5 q6
  subst hv10
  refine Qab (.pointer (some ⟨gr, 0, none⟩)) 17 rfl kj kj ?_
  refine Qal (fun v W' => ExtB gr W6 W' ∧ RSt B gr (itR (Qad (Qad (Qad (Qad (Qad (Qad (s) 1) 1) 32) 32) 32) 1) (bigN (Qaj (Qad (Qad (Qad (Qad (Qad (s) 1) 1) 32) 32) 32) 1))) W' ∧ (fun (v : Value) (W : World) => ∃ xs, OwnN .i64 3 W6.heap.size xs v W ∧ xs.length ≤ 255 ∧ (itR (Qad (Qad (Qad (Qad (Qad (Qad (s) 1) 1) 32) 32) 32) 1) (bigN (Qaj (Qad (Qad (Qad (Qad (Qad (s) 1) 1) 32) 32) 32) 1)) ≠ none → xs = itL (Qad (Qad (Qad (Qad (Qad (Qad (s) 1) 1) 32) 32) 32) 1) (bigN (Qaj (Qad (Qad (Qad (Qad (Qad (s) 1) 1) 32) 32) 32) 1)))) v W') 123 #[.pointer (some ⟨gr, 0, none⟩), .func (.func 111) #[] #[]] 18 rfl kj kj (Qcg B gr _ _ hB rs10) fun vv11 W7 hh11 => ?_
  obtain ⟨q7, rs11, hv11⟩ := hh11
  have x7 : ExtB gr w W7 := ExtB.tr x6 q7
  obtain ⟨xs, hox, hlx, hxx⟩ := hv11
  obtain ⟨ax, cx, rfl, -⟩ := id (OwnN.rd hox)
  refine Qab (.agg (cat [#[.bool true], #[.int .i64 ((bigN (Qaj (Qad (s) 1) 1) : Nat) : Int)], ints .u8 (keyV (Qaj (Qad (Qad (s) 1) 1) 32)), ints .u8 (keyV (Qaj (Qad (Qad (Qad (s) 1) 1) 32) 32)), ints .u8 (keyV (Qaj (Qad (Qad (Qad (Qad (s) 1) 1) 32) 32) 32)), #[.slice ax xs.length cx]])) 19 rfl kj (Qcb 43 _ (.agg (cat [#[.bool false], #[.int .i64 0], (Array.replicate 32 (.int .u8 0)), (Array.replicate 32 (.int .u8 0)), (Array.replicate 32 (.int .u8 0)), #[.slice none 0 0]])) #[(0, 1), (1, 1), (2, 32), (34, 32), (66, 32), (98, 1)] [(0, 1, .bool true, #[.bool true]), (1, 1, .int .i64 ((bigN (Qaj (Qad (s) 1) 1) : Nat) : Int), #[.int .i64 ((bigN (Qaj (Qad (s) 1) 1) : Nat) : Int)]), (2, 32, .agg (ints .u8 (keyV (Qaj (Qad (Qad (s) 1) 1) 32))), ints .u8 (keyV (Qaj (Qad (Qad (s) 1) 1) 32))), (3, 32, .agg (ints .u8 (keyV (Qaj (Qad (Qad (Qad (s) 1) 1) 32) 32))), ints .u8 (keyV (Qaj (Qad (Qad (Qad (s) 1) 1) 32) 32))), (4, 32, .agg (ints .u8 (keyV (Qaj (Qad (Qad (Qad (Qad (s) 1) 1) 32) 32) 32))), ints .u8 (keyV (Qaj (Qad (Qad (Qad (Qad (s) 1) 1) 32) 32) 32))), (5, 1, .slice ax xs.length cx, #[.slice ax xs.length cx])] rfl kj ⟨kj, rfl, kj, kj, rfl, kj, kj, rfl, ((Qac _ _).trans (Qan _ (Qam (Qad (Qad (s) 1) 1) 32))), kj, rfl, ((Qac _ _).trans (Qan _ (Qam (Qad (Qad (Qad (s) 1) 1) 32) 32))), kj, rfl, ((Qac _ _).trans (Qan _ (Qam (Qad (Qad (Qad (Qad (s) 1) 1) 32) 32) 32))), kj, rfl, kj, trivial⟩ kj kj kj kj) ?_
  refine Qav (cat [#[.bool false], #[.int .i64 0], (Array.replicate 32 (.int .u8 0)), (Array.replicate 32 (.int .u8 0)), (Array.replicate 32 (.int .u8 0)), #[.slice none 0 0]]) 43 4 rfl kj kj fun g12 W8 l12 e8 r12_8 => ?_
  have x8 : ExtB gr w W8 := ExtB.ext x7 e8
  have b12 : w.heap.size ≤ g12 := Nat.le_trans x7.size l12
  refine Qa2 g12 _ (cat [#[.bool true], #[.int .i64 ((bigN (Qaj (Qad (s) 1) 1) : Nat) : Int)], ints .u8 (keyV (Qaj (Qad (Qad (s) 1) 1) 32)), ints .u8 (keyV (Qaj (Qad (Qad (Qad (s) 1) 1) 32) 32)), ints .u8 (keyV (Qaj (Qad (Qad (Qad (Qad (s) 1) 1) 32) 32) 32)), #[.slice ax xs.length cx]]) 43 r12_8 rfl kj (Qaz 43 _ _ g12 43 _ _ r12_8 rfl kj kj (isz (n := 99) kj (by rw [Qaa, Qaa, Qaa, Qaa, Qaa, Qaa]; simp only [Array.size_append, cat, ((Qac _ _).trans (Qan _ (Qam (Qad (Qad (s) 1) 1) 32))), ((Qac _ _).trans (Qan _ (Qam (Qad (Qad (Qad (s) 1) 1) 32) 32))), ((Qac _ _).trans (Qan _ (Qam (Qad (Qad (Qad (Qad (s) 1) 1) 32) 32) 32)))]; rfl)) (eqsz (n := 99) kj (by rw [Qaa, Qaa, Qaa, Qaa, Qaa, Qaa]; simp only [Array.size_append, cat, ((Qac _ _).trans (Qan _ (Qam (Qad (Qad (s) 1) 1) 32))), ((Qac _ _).trans (Qan _ (Qam (Qad (Qad (Qad (s) 1) 1) 32) 32))), ((Qac _ _).trans (Qan _ (Qam (Qad (Qad (Qad (Qad (s) 1) 1) 32) 32) 32)))]; rfl)) (QaP _ (by intro a ha; simp only [List.mem_cons, List.not_mem_nil, or_false] at ha; rcases ha with rfl | rfl | rfl | rfl | rfl | rfl; exact (Qaq _ rfl); exact (Qaq _ rfl); exact (Qat _ _); exact (Qat _ _); exact (Qat _ _); exact (Qaq _ rfl)))) fun W9 p9 r12_9 => ?_
  have x9 : ExtB gr w W9 := ExtB.putsN x8 p9 b12
  refine Qaf ?_
  refine hK6 _ _ ?_
  refine wp_seq_k fun K13 hK13 => ?_
  refine Qae ?_
  refine Qab (.pointer (some ⟨gr, 0, none⟩)) 20 rfl kj kj ?_
  refine Qab (.int .i64 ((bigN (Qaj (s) 1) : Nat) : Int)) 21 rfl kj kj ?_
  refine Qab (.bool true) 22 rfl kj (Qax (u := .bool ((((bigN (Qaj (s) 1) : Nat) : Int) == 1))) kj (congrArg Value.bool (beq_iff_eq.2 (by omega)))) ?_
  refine Qab (.bool true) 23 rfl kj kj ?_
  refine Qap 24 rfl kj ?_
  refine Qap 25 rfl kj ?_
  refine Qap 26 rfl kj ?_
  refine Qap 27 rfl kj ?_
  refine Qap 28 rfl kj ?_
  refine Qap 29 rfl kj ?_
  refine Qab (.bool true) 30 rfl kj kj ?_
  have rs14 := (RSt.put (RSt.ext rs11 hB e8) hB p9 (Nat.lt_of_lt_of_le hgr b12))
  refine Qal (fun v W' => ExtB gr W9 W' ∧ RSt B gr (Qa0 (itR (Qad (Qad (Qad (Qad (Qad (Qad (s) 1) 1) 32) 32) 32) 1) (bigN (Qaj (Qad (Qad (Qad (Qad (Qad (s) 1) 1) 32) 32) 32) 1))) true) W' ∧ (fun (v : Value) (_ : World) => v = .tuple #[]) v W') 103 #[.pointer (some ⟨gr, 0, none⟩), .bool true] 31 rfl kj kj (Qcx B gr _ true _ hB rs14) fun vv15 W10 hh15 => ?_
  obtain ⟨q10, rs15, hv15⟩ := hh15
  have x10 : ExtB gr w W10 := ExtB.tr x9 q10
  subst hv15
  refine Qaf ?_
  refine hK13 _ _ ?_
  refine wp_seq_k fun K16 hK16 => ?_
  refine Qae ?_
  refine Qab (.pointer (some ⟨gr, 0, none⟩)) 32 rfl kj kj ?_
  refine Qab (.pointer (some ⟨g12, 98, none⟩)) 33 rfl kj kj ?_
  have r12_10 := (ExtB.row q10 r12_9 (Ne.symm (Nat.ne_of_lt (Nat.lt_of_lt_of_le hgr b12))))
  refine Qab (.slice ax xs.length cx) 34 rfl kj (Qah 41 _ g12 98 43 _ (.slice ax xs.length cx) _ r12_10 rfl kj (Qak [#[.bool true], #[.int .i64 ((bigN (Qaj (Qad (s) 1) 1) : Nat) : Int)], ints .u8 (keyV (Qaj (Qad (Qad (s) 1) 1) 32)), ints .u8 (keyV (Qaj (Qad (Qad (Qad (s) 1) 1) 32) 32)), ints .u8 (keyV (Qaj (Qad (Qad (Qad (Qad (s) 1) 1) 32) 32) 32))] [#[.slice ax xs.length cx]] [] 98 (by rw [Qaa, Qaa, Qaa, Qaa, Qaa]; simp only [Array.size_append, cat, ((Qac _ _).trans (Qan _ (Qam (Qad (Qad (s) 1) 1) 32))), ((Qac _ _).trans (Qan _ (Qam (Qad (Qad (Qad (s) 1) 1) 32) 32))), ((Qac _ _).trans (Qan _ (Qam (Qad (Qad (Qad (Qad (s) 1) 1) 32) 32) 32)))]; rfl) 0 _ rfl) kj) ?_
  have f17_8 := (hox.ext e8)
  have f18_9 := (f17_8.puts p9 (Qcy hox l12))
  have f19_10 := (Qbg f18_9 q10 (QaV f18_9 (Nat.lt_of_lt_of_le hgr x6.2.2.2.1)))
  refine Qa3 (.bool (risV xs)) 121 #[.slice ax xs.length cx] 35 rfl kj kj (Qc7 xs _ _ _ _ (by omega) (OwnN.rd f19_10)) fun W11 e11 => ?_
  have x11 : ExtB gr w W11 := ExtB.ext x10 e11
  have rs20 := (RSt.ext rs15 hB e11)
  refine Qal (fun v W' => ExtB gr W11 W' ∧ RSt B gr (Qa0 (Qa0 (itR (Qad (Qad (Qad (Qad (Qad (Qad (s) 1) 1) 32) 32) 32) 1) (bigN (Qaj (Qad (Qad (Qad (Qad (Qad (s) 1) 1) 32) 32) 32) 1))) true) (risV xs)) W' ∧ (fun (v : Value) (_ : World) => v = .tuple #[]) v W') 103 #[.pointer (some ⟨gr, 0, none⟩), .bool (risV xs)] 36 rfl kj kj (Qcx B gr _ (risV xs) _ hB rs20) fun vv21 W12 hh21 => ?_
  obtain ⟨q12, rs21, hv21⟩ := hh21
  have x12 : ExtB gr w W12 := ExtB.tr x11 q12
  subst hv21
  refine Qaf ?_
  refine hK16 _ _ ?_
  refine wp_seq_k fun K22 hK22 => ?_
  refine Qae ?_
  have r12_11 := (Qas r12_10 e11)
  have r12_12 := (ExtB.row q12 r12_11 (Ne.symm (Nat.ne_of_lt (Nat.lt_of_lt_of_le hgr b12))))
  refine Qab (.agg (cat [#[.bool true], #[.int .i64 ((bigN (Qaj (Qad (s) 1) 1) : Nat) : Int)], ints .u8 (keyV (Qaj (Qad (Qad (s) 1) 1) 32)), ints .u8 (keyV (Qaj (Qad (Qad (Qad (s) 1) 1) 32) 32)), ints .u8 (keyV (Qaj (Qad (Qad (Qad (Qad (s) 1) 1) 32) 32) 32)), #[.slice ax xs.length cx]])) 37 rfl kj (Qa4 43 _ g12 43 _ _ r12_12 rfl kj kj (isz (n := 99) kj (by rw [Qaa, Qaa, Qaa, Qaa, Qaa, Qaa]; simp only [Array.size_append, cat, ((Qac _ _).trans (Qan _ (Qam (Qad (Qad (s) 1) 1) 32))), ((Qac _ _).trans (Qan _ (Qam (Qad (Qad (Qad (s) 1) 1) 32) 32))), ((Qac _ _).trans (Qan _ (Qam (Qad (Qad (Qad (Qad (s) 1) 1) 32) 32) 32)))]; rfl))) ?_
  have r2_2 := (ExtB.row q2 r2_1 (Ne.symm (Nat.ne_of_lt (Nat.lt_of_lt_of_le hgr b2))))
  have r2_3 := (ExtB.row q3 r2_2 (Ne.symm (Nat.ne_of_lt (Nat.lt_of_lt_of_le hgr b2))))
  have r2_4 := (ExtB.row q4 r2_3 (Ne.symm (Nat.ne_of_lt (Nat.lt_of_lt_of_le hgr b2))))
  have r2_5 := (ExtB.row q5 r2_4 (Ne.symm (Nat.ne_of_lt (Nat.lt_of_lt_of_le hgr b2))))
  have r2_6 := (ExtB.row q6 r2_5 (Ne.symm (Nat.ne_of_lt (Nat.lt_of_lt_of_le hgr b2))))
  have r2_7 := (ExtB.row q7 r2_6 (Ne.symm (Nat.ne_of_lt (Nat.lt_of_lt_of_le hgr b2))))
  have r2_8 := (Qas r2_7 e8)
  have r2_9 := (Puts.row p9 r2_8 (QaA r2_7 l12))
  have r2_10 := (ExtB.row q10 r2_9 (Ne.symm (Nat.ne_of_lt (Nat.lt_of_lt_of_le hgr b2))))
  have r2_11 := (Qas r2_10 e11)
  have r2_12 := (ExtB.row q12 r2_11 (Ne.symm (Nat.ne_of_lt (Nat.lt_of_lt_of_le hgr b2))))
  refine Qa2 g2 _ (cat [#[.bool true], #[.int .i64 ((bigN (Qaj (Qad (s) 1) 1) : Nat) : Int)], ints .u8 (keyV (Qaj (Qad (Qad (s) 1) 1) 32)), ints .u8 (keyV (Qaj (Qad (Qad (Qad (s) 1) 1) 32) 32)), ints .u8 (keyV (Qaj (Qad (Qad (Qad (Qad (s) 1) 1) 32) 32) 32)), #[.slice ax xs.length cx]]) 43 r2_12 rfl kj (Qaz 43 _ _ g2 43 _ _ r2_12 rfl kj kj (isz (n := 99) kj (by rw [Qaa, Qaa, Qaa, Qaa, Qaa, Qaa]; simp only [Array.size_append, cat, ((Qac _ _).trans (Qan _ (Qam (Qad (Qad (s) 1) 1) 32))), ((Qac _ _).trans (Qan _ (Qam (Qad (Qad (Qad (s) 1) 1) 32) 32))), ((Qac _ _).trans (Qan _ (Qam (Qad (Qad (Qad (Qad (s) 1) 1) 32) 32) 32)))]; rfl)) (eqsz (n := 99) kj (by rw [Qaa, Qaa, Qaa, Qaa, Qaa, Qaa]; simp only [Array.size_append, cat, ((Qac _ _).trans (Qan _ (Qam (Qad (Qad (s) 1) 1) 32))), ((Qac _ _).trans (Qan _ (Qam (Qad (Qad (Qad (s) 1) 1) 32) 32))), ((Qac _ _).trans (Qan _ (Qam (Qad (Qad (Qad (Qad (s) 1) 1) 32) 32) 32)))]; rfl)) (QaP _ (by intro a ha; simp only [List.mem_cons, List.not_mem_nil, or_false] at ha; rcases ha with rfl | rfl | rfl | rfl | rfl | rfl; exact (Qaq _ rfl); exact (Qaq _ rfl); exact (Qat _ _); exact (Qat _ _); exact (Qat _ _); exact (Qaq _ rfl)))) fun W13 p13 r2_13 => ?_
  have x13 : ExtB gr w W13 := ExtB.putsN x12 p13 b2
  refine Qaf ?_
  refine hK22 _ _ ?_
  refine wp_ret ?_
  repeat (first | with_reducible refine goR1 ?_ | with_reducible refine goR2 ?_)
  have rs23 := (RSt.put rs21 hB p13 (Nat.lt_of_lt_of_le hgr b2))
  have f24_11 := (f19_10.ext e11)
  have f25_12 := (Qbg f24_11 q12 (QaV f24_11 (Nat.lt_of_lt_of_le hgr x6.2.2.2.1)))
  have f26_13 := (f25_12.puts p13 (QaV hox (Qay r2_6)))
  exact (show bodyPost _ _ _ .ret _ _ from ret1 (.agg (cat [#[.bool true], #[.int .i64 ((bigN (Qaj (Qad (s) 1) 1) : Nat) : Int)], ints .u8 (keyV (Qaj (Qad (Qad (s) 1) 1) 32)), ints .u8 (keyV (Qaj (Qad (Qad (Qad (s) 1) 1) 32) 32)), ints .u8 (keyV (Qaj (Qad (Qad (Qad (Qad (s) 1) 1) 32) 32) 32)), #[.slice ax xs.length cx]])) rfl (QaW g2 43 _ r2_13 kj kj (isz (n := 99) kj (by rw [Qaa, Qaa, Qaa, Qaa, Qaa, Qaa]; simp only [Array.size_append, cat, ((Qac _ _).trans (Qan _ (Qam (Qad (Qad (s) 1) 1) 32))), ((Qac _ _).trans (Qan _ (Qam (Qad (Qad (Qad (s) 1) 1) 32) 32))), ((Qac _ _).trans (Qan _ (Qam (Qad (Qad (Qad (Qad (s) 1) 1) 32) 32) 32)))]; rfl))) ⟨_, xs, rfl, x13, rs23, ⟨ax, cx, rfl, OwnN.base x6.2.2.2.1 f26_13⟩, hlx, hxx⟩)
set_option maxHeartbeats 4000000 in
theorem Qfk (B gr : Nat) (s : Option (List Int)) (w : World) (hB : B ≤ gr) (h : RSt B gr s w) (hU : bigN (Qaj s 1) = 0) : Calls Try.prog 102 #[.pointer (some ⟨gr, 0, none⟩)] w (fun e W => ∃ v xs, e = .returned v ∧ ExtB gr w W ∧ RSt B gr (Qa0 (Qa0 (nR6 s) (Qa7 false (nNm s) (nKy s) (nSg s) (nPa s) xs)) (risV xs)) W ∧ (∃ (a : Option Addr) (c : Nat), v = .agg (cat [#[.bool false], #[.int .i64 (nNm s)], ints .u8 (nKy s), ints .u8 (nSg s), ints .u8 (nPa s), #[.slice a xs.length c]]) ∧ OwnN .i64 3 w.heap.size xs (.slice a xs.length c) W) ∧ xs.length ≤ 255 ∧ (nR6 s ≠ none → xs = nL s)) := by
  have hgr := h.lt
  refine enter 38 [(0, .pointer (some ⟨gr, 0, none⟩))] Try.func102 rfl rfl kj rfl ?_
  refine wp_seq_k fun K1 hK1 => ?_
  refine Qae ?_
  refine Qav (cat [#[.bool false], #[.int .i64 0], (Array.replicate 32 (.int .u8 0)), (Array.replicate 32 (.int .u8 0)), (Array.replicate 32 (.int .u8 0)), #[.slice none 0 0]]) 43 2 rfl kj kj fun g2 W1 l2 e1 r2_1 => ?_
  have x1 : ExtB gr w W1 := ExtB.ext (ExtB.refl gr w) e1
  have b2 : w.heap.size ≤ g2 := Nat.le_trans (ExtB.refl gr w).size l2
  refine Qaf ?_
  refine hK1 _ _ ?_
  refine wp_seq_k fun K3 hK3 => ?_
  refine Qae ?_
  refine Qab (.pointer (some ⟨gr, 0, none⟩)) 5 rfl kj kj ?_
  have rs4 := (RSt.ext h hB e1)
  refine Qal (fun v W' => ExtB gr W1 W' ∧ RSt B gr (Qad (s) 1) W' ∧ (fun (v : Value) (_ : World) => v = .int .i64 ((bigN (Qaj (s) 1) : Nat) : Int)) v W') 110 #[.pointer (some ⟨gr, 0, none⟩), .int .i64 1] 6 rfl kj kj (QaS B gr _ 1 _ hB rs4 (by decide)) fun vv5 W2 hh5 => ?_
  obtain ⟨q2, rs5, hv5⟩ := hh5
  have x2 : ExtB gr w W2 := ExtB.tr x1 q2
  subst hv5
  refine Qab (.int .i64 ((bigN (Qaj (s) 1) : Nat) : Int)) 3 rfl kj kj ?_
  refine Qaf ?_
  refine hK3 _ _ ?_
  refine wp_seq_k fun K6 hK6 => ?_
  refine Qae ?_
  refine Qab (.int .i64 ((bigN (Qaj (s) 1) : Nat) : Int)) 7 rfl kj kj ?_
  refine Qab (.bool false) 8 rfl kj (Qax (u := .bool ((((bigN (Qaj (s) 1) : Nat) : Int) == 1))) kj (congrArg Value.bool (beq_eq_false_iff_ne.2 (by omega)))) ?_
  refine Qab (.pointer (some ⟨gr, 0, none⟩)) 9 rfl kj kj ?_
  refine Qal (fun v W' => ExtB gr W2 W' ∧ RSt B gr (Qad (Qad (s) 1) 1) W' ∧ (fun (v : Value) (_ : World) => v = .int .i64 ((bigN (Qaj (Qad (s) 1) 1) : Nat) : Int)) v W') 110 #[.pointer (some ⟨gr, 0, none⟩), .int .i64 1] 10 rfl kj kj (QaS B gr _ 1 _ hB rs5 (by decide)) fun vv7 W3 hh7 => ?_
  obtain ⟨q3, rs7, hv7⟩ := hh7
  have x3 : ExtB gr w W3 := ExtB.tr x2 q3
  subst hv7
  refine Qab (.pointer (some ⟨gr, 0, none⟩)) 11 rfl kj kj ?_
  refine Qal (fun v W' => ExtB gr W3 W' ∧ RSt B gr (Qad (Qad (Qad (s) 1) 1) 32) W' ∧ (fun (v : Value) (_ : World) => v = .agg (ints .u8 (keyV (Qaj (Qad (Qad (s) 1) 1) 32)))) v W') 109 #[.pointer (some ⟨gr, 0, none⟩)] 12 rfl kj kj (QbO B gr _ _ hB rs7) fun vv8 W4 hh8 => ?_
  obtain ⟨q4, rs8, hv8⟩ := hh8
  have x4 : ExtB gr w W4 := ExtB.tr x3 q4
  subst hv8
  refine Qab (.pointer (some ⟨gr, 0, none⟩)) 13 rfl kj kj ?_
  refine Qal (fun v W' => ExtB gr W4 W' ∧ RSt B gr (Qad (Qad (Qad (Qad (s) 1) 1) 32) 32) W' ∧ (fun (v : Value) (_ : World) => v = .agg (ints .u8 (keyV (Qaj (Qad (Qad (Qad (s) 1) 1) 32) 32)))) v W') 109 #[.pointer (some ⟨gr, 0, none⟩)] 14 rfl kj kj (QbO B gr _ _ hB rs8) fun vv9 W5 hh9 => ?_
  obtain ⟨q5, rs9, hv9⟩ := hh9
  have x5 : ExtB gr w W5 := ExtB.tr x4 q5
  subst hv9
  refine Qab (.pointer (some ⟨gr, 0, none⟩)) 15 rfl kj kj ?_
  refine Qal (fun v W' => ExtB gr W5 W' ∧ RSt B gr (Qad (Qad (Qad (Qad (Qad (s) 1) 1) 32) 32) 32) W' ∧ (fun (v : Value) (_ : World) => v = .agg (ints .u8 (keyV (Qaj (Qad (Qad (Qad (Qad (s) 1) 1) 32) 32) 32)))) v W') 109 #[.pointer (some ⟨gr, 0, none⟩)] 16 rfl kj kj (QbO B gr _ _ hB rs9) fun vv10 W6 hh10 => ?_
  obtain ⟨q6, rs10, hv10⟩ := hh10
  have x6 : ExtB gr w W6 := ExtB.tr x5 q6
  subst hv10
  refine Qab (.pointer (some ⟨gr, 0, none⟩)) 17 rfl kj kj ?_
  refine Qal (fun v W' => ExtB gr W6 W' ∧ RSt B gr (itR (Qad (Qad (Qad (Qad (Qad (Qad (s) 1) 1) 32) 32) 32) 1) (bigN (Qaj (Qad (Qad (Qad (Qad (Qad (s) 1) 1) 32) 32) 32) 1))) W' ∧ (fun (v : Value) (W : World) => ∃ xs, OwnN .i64 3 W6.heap.size xs v W ∧ xs.length ≤ 255 ∧ (itR (Qad (Qad (Qad (Qad (Qad (Qad (s) 1) 1) 32) 32) 32) 1) (bigN (Qaj (Qad (Qad (Qad (Qad (Qad (s) 1) 1) 32) 32) 32) 1)) ≠ none → xs = itL (Qad (Qad (Qad (Qad (Qad (Qad (s) 1) 1) 32) 32) 32) 1) (bigN (Qaj (Qad (Qad (Qad (Qad (Qad (s) 1) 1) 32) 32) 32) 1)))) v W') 123 #[.pointer (some ⟨gr, 0, none⟩), .func (.func 111) #[] #[]] 18 rfl kj kj (Qcg B gr _ _ hB rs10) fun vv11 W7 hh11 => ?_
  obtain ⟨q7, rs11, hv11⟩ := hh11
  have x7 : ExtB gr w W7 := ExtB.tr x6 q7
  obtain ⟨xs, hox, hlx, hxx⟩ := hv11
  obtain ⟨ax, cx, rfl, -⟩ := id (OwnN.rd hox)
  refine Qab (.agg (cat [#[.bool false], #[.int .i64 ((bigN (Qaj (Qad (s) 1) 1) : Nat) : Int)], ints .u8 (keyV (Qaj (Qad (Qad (s) 1) 1) 32)), ints .u8 (keyV (Qaj (Qad (Qad (Qad (s) 1) 1) 32) 32)), ints .u8 (keyV (Qaj (Qad (Qad (Qad (Qad (s) 1) 1) 32) 32) 32)), #[.slice ax xs.length cx]])) 19 rfl kj (Qcb 43 _ (.agg (cat [#[.bool false], #[.int .i64 0], (Array.replicate 32 (.int .u8 0)), (Array.replicate 32 (.int .u8 0)), (Array.replicate 32 (.int .u8 0)), #[.slice none 0 0]])) #[(0, 1), (1, 1), (2, 32), (34, 32), (66, 32), (98, 1)] [(0, 1, .bool false, #[.bool false]), (1, 1, .int .i64 ((bigN (Qaj (Qad (s) 1) 1) : Nat) : Int), #[.int .i64 ((bigN (Qaj (Qad (s) 1) 1) : Nat) : Int)]), (2, 32, .agg (ints .u8 (keyV (Qaj (Qad (Qad (s) 1) 1) 32))), ints .u8 (keyV (Qaj (Qad (Qad (s) 1) 1) 32))), (3, 32, .agg (ints .u8 (keyV (Qaj (Qad (Qad (Qad (s) 1) 1) 32) 32))), ints .u8 (keyV (Qaj (Qad (Qad (Qad (s) 1) 1) 32) 32))), (4, 32, .agg (ints .u8 (keyV (Qaj (Qad (Qad (Qad (Qad (s) 1) 1) 32) 32) 32))), ints .u8 (keyV (Qaj (Qad (Qad (Qad (Qad (s) 1) 1) 32) 32) 32))), (5, 1, .slice ax xs.length cx, #[.slice ax xs.length cx])] rfl kj ⟨kj, rfl, kj, kj, rfl, kj, kj, rfl, ((Qac _ _).trans (Qan _ (Qam (Qad (Qad (s) 1) 1) 32))), kj, rfl, ((Qac _ _).trans (Qan _ (Qam (Qad (Qad (Qad (s) 1) 1) 32) 32))), kj, rfl, ((Qac _ _).trans (Qan _ (Qam (Qad (Qad (Qad (Qad (s) 1) 1) 32) 32) 32))), kj, rfl, kj, trivial⟩ kj kj kj kj) ?_
  refine Qav (cat [#[.bool false], #[.int .i64 0], (Array.replicate 32 (.int .u8 0)), (Array.replicate 32 (.int .u8 0)), (Array.replicate 32 (.int .u8 0)), #[.slice none 0 0]]) 43 4 rfl kj kj fun g12 W8 l12 e8 r12_8 => ?_
  have x8 : ExtB gr w W8 := ExtB.ext x7 e8
  have b12 : w.heap.size ≤ g12 := Nat.le_trans x7.size l12
  refine Qa2 g12 _ (cat [#[.bool false], #[.int .i64 ((bigN (Qaj (Qad (s) 1) 1) : Nat) : Int)], ints .u8 (keyV (Qaj (Qad (Qad (s) 1) 1) 32)), ints .u8 (keyV (Qaj (Qad (Qad (Qad (s) 1) 1) 32) 32)), ints .u8 (keyV (Qaj (Qad (Qad (Qad (Qad (s) 1) 1) 32) 32) 32)), #[.slice ax xs.length cx]]) 43 r12_8 rfl kj (Qaz 43 _ _ g12 43 _ _ r12_8 rfl kj kj (isz (n := 99) kj (by rw [Qaa, Qaa, Qaa, Qaa, Qaa, Qaa]; simp only [Array.size_append, cat, ((Qac _ _).trans (Qan _ (Qam (Qad (Qad (s) 1) 1) 32))), ((Qac _ _).trans (Qan _ (Qam (Qad (Qad (Qad (s) 1) 1) 32) 32))), ((Qac _ _).trans (Qan _ (Qam (Qad (Qad (Qad (Qad (s) 1) 1) 32) 32) 32)))]; rfl)) (eqsz (n := 99) kj (by rw [Qaa, Qaa, Qaa, Qaa, Qaa, Qaa]; simp only [Array.size_append, cat, ((Qac _ _).trans (Qan _ (Qam (Qad (Qad (s) 1) 1) 32))), ((Qac _ _).trans (Qan _ (Qam (Qad (Qad (Qad (s) 1) 1) 32) 32))), ((Qac _ _).trans (Qan _ (Qam (Qad (Qad (Qad (Qad (s) 1) 1) 32) 32) 32)))]; rfl)) (QaP _ (by intro a ha; simp only [List.mem_cons, List.not_mem_nil, or_false] at ha; rcases ha with rfl | rfl | rfl | rfl | rfl | rfl; exact (Qaq _ rfl); exact (Qaq _ rfl); exact (Qat _ _); exact (Qat _ _); exact (Qat _ _); exact (Qaq _ rfl)))) fun W9 p9 r12_9 => ?_
  have x9 : ExtB gr w W9 := ExtB.putsN x8 p9 b12
  refine Qaf ?_
  refine hK6 _ _ ?_
  refine wp_seq_k fun K13 hK13 => ?_
  refine Qae ?_
  refine Qab (.pointer (some ⟨gr, 0, none⟩)) 20 rfl kj kj ?_
  refine Qab (.int .i64 ((bigN (Qaj (s) 1) : Nat) : Int)) 21 rfl kj kj ?_
  refine Qab (.bool false) 22 rfl kj (Qax (u := .bool ((((bigN (Qaj (s) 1) : Nat) : Int) == 1))) kj (congrArg Value.bool (beq_eq_false_iff_ne.2 (by omega)))) ?_
  refine Qab (.bool false) 23 rfl kj kj ?_
  refine Qab (.int .i64 ((bigN (Qaj (s) 1) : Nat) : Int)) 24 rfl kj kj ?_
  refine Qab (.bool true) 25 rfl kj (Qax (u := .bool ((((bigN (Qaj (s) 1) : Nat) : Int) == 0))) kj (congrArg Value.bool (beq_iff_eq.2 (by omega)))) ?_
  refine Qab (.bool true) 26 rfl kj kj ?_
  refine Qab (.agg (cat [#[.bool false], #[.int .i64 ((bigN (Qaj (Qad (s) 1) 1) : Nat) : Int)], ints .u8 (keyV (Qaj (Qad (Qad (s) 1) 1) 32)), ints .u8 (keyV (Qaj (Qad (Qad (Qad (s) 1) 1) 32) 32)), ints .u8 (keyV (Qaj (Qad (Qad (Qad (Qad (s) 1) 1) 32) 32) 32)), #[.slice ax xs.length cx]])) 27 rfl kj (Qa4 43 _ g12 43 _ _ r12_9 rfl kj kj (isz (n := 99) kj (by rw [Qaa, Qaa, Qaa, Qaa, Qaa, Qaa]; simp only [Array.size_append, cat, ((Qac _ _).trans (Qan _ (Qam (Qad (Qad (s) 1) 1) 32))), ((Qac _ _).trans (Qan _ (Qam (Qad (Qad (Qad (s) 1) 1) 32) 32))), ((Qac _ _).trans (Qan _ (Qam (Qad (Qad (Qad (Qad (s) 1) 1) 32) 32) 32)))]; rfl))) ?_
  refine Qa3 (.bool (Qa7 false ((bigN (Qaj (Qad (s) 1) 1) : Nat) : Int) (keyV (Qaj (Qad (Qad (s) 1) 1) 32)) (keyV (Qaj (Qad (Qad (Qad (s) 1) 1) 32) 32)) (keyV (Qaj (Qad (Qad (Qad (Qad (s) 1) 1) 32) 32) 32)) xs)) 107 #[.agg (cat [#[.bool false], #[.int .i64 ((bigN (Qaj (Qad (s) 1) 1) : Nat) : Int)], ints .u8 (keyV (Qaj (Qad (Qad (s) 1) 1) 32)), ints .u8 (keyV (Qaj (Qad (Qad (Qad (s) 1) 1) 32) 32)), ints .u8 (keyV (Qaj (Qad (Qad (Qad (Qad (s) 1) 1) 32) 32) 32)), #[.slice ax xs.length cx]])] 28 rfl kj kj (Qd9 false ((bigN (Qaj (Qad (s) 1) 1) : Nat) : Int) (keyV (Qaj (Qad (Qad (s) 1) 1) 32)) (keyV (Qaj (Qad (Qad (Qad (s) 1) 1) 32) 32)) (keyV (Qaj (Qad (Qad (Qad (Qad (s) 1) 1) 32) 32) 32)) xs _ _ _ (Qan _ (Qam (Qad (Qad (s) 1) 1) 32)) (Qan _ (Qam (Qad (Qad (Qad (s) 1) 1) 32) 32)) (Qan _ (Qam (Qad (Qad (Qad (Qad (s) 1) 1) 32) 32) 32))) fun W10 e10 => ?_
  have x10 : ExtB gr w W10 := ExtB.ext x9 e10
  refine Qab (.bool (Qa7 false ((bigN (Qaj (Qad (s) 1) 1) : Nat) : Int) (keyV (Qaj (Qad (Qad (s) 1) 1) 32)) (keyV (Qaj (Qad (Qad (Qad (s) 1) 1) 32) 32)) (keyV (Qaj (Qad (Qad (Qad (Qad (s) 1) 1) 32) 32) 32)) xs)) 29 rfl kj kj ?_
  refine Qab (.bool (Qa7 false ((bigN (Qaj (Qad (s) 1) 1) : Nat) : Int) (keyV (Qaj (Qad (Qad (s) 1) 1) 32)) (keyV (Qaj (Qad (Qad (Qad (s) 1) 1) 32) 32)) (keyV (Qaj (Qad (Qad (Qad (Qad (s) 1) 1) 32) 32) 32)) xs)) 30 rfl kj kj ?_
  have rs14 := (RSt.ext (RSt.put (RSt.ext rs11 hB e8) hB p9 (Nat.lt_of_lt_of_le hgr b12)) hB e10)
  refine Qal (fun v W' => ExtB gr W10 W' ∧ RSt B gr (Qa0 (itR (Qad (Qad (Qad (Qad (Qad (Qad (s) 1) 1) 32) 32) 32) 1) (bigN (Qaj (Qad (Qad (Qad (Qad (Qad (s) 1) 1) 32) 32) 32) 1))) (Qa7 false ((bigN (Qaj (Qad (s) 1) 1) : Nat) : Int) (keyV (Qaj (Qad (Qad (s) 1) 1) 32)) (keyV (Qaj (Qad (Qad (Qad (s) 1) 1) 32) 32)) (keyV (Qaj (Qad (Qad (Qad (Qad (s) 1) 1) 32) 32) 32)) xs)) W' ∧ (fun (v : Value) (_ : World) => v = .tuple #[]) v W') 103 #[.pointer (some ⟨gr, 0, none⟩), .bool (Qa7 false ((bigN (Qaj (Qad (s) 1) 1) : Nat) : Int) (keyV (Qaj (Qad (Qad (s) 1) 1) 32)) (keyV (Qaj (Qad (Qad (Qad (s) 1) 1) 32) 32)) (keyV (Qaj (Qad (Qad (Qad (Qad (s) 1) 1) 32) 32) 32)) xs)] 31 rfl kj kj (Qcx B gr _ (Qa7 false ((bigN (Qaj (Qad (s) 1) 1) : Nat) : Int) (keyV (Qaj (Qad (Qad (s) 1) 1) 32)) (keyV (Qaj (Qad (Qad (Qad (s) 1) 1) 32) 32)) (keyV (Qaj (Qad (Qad (Qad (Qad (s) 1) 1) 32) 32) 32)) xs) _ hB rs14) fun vv15 W11 hh15 => ?_
  obtain ⟨q11, rs15, hv15⟩ := hh15
  have x11 : ExtB gr w W11 := ExtB.tr x10 q11
  subst hv15
  refine Qaf ?_
  refine hK13 _ _ ?_
  refine wp_seq_k fun K16 hK16 => ?_
  refine Qae ?_
  refine Qab (.pointer (some ⟨gr, 0, none⟩)) 32 rfl kj kj ?_
  refine Qab (.pointer (some ⟨g12, 98, none⟩)) 33 rfl kj kj ?_
  have r12_10 := (Qas r12_9 e10)
  have r12_11 := (ExtB.row q11 r12_10 (Ne.symm (Nat.ne_of_lt (Nat.lt_of_lt_of_le hgr b12))))
  refine Qab (.slice ax xs.length cx) 34 rfl kj (Qah 41 _ g12 98 43 _ (.slice ax xs.length cx) _ r12_11 rfl kj (Qak [#[.bool false], #[.int .i64 ((bigN (Qaj (Qad (s) 1) 1) : Nat) : Int)], ints .u8 (keyV (Qaj (Qad (Qad (s) 1) 1) 32)), ints .u8 (keyV (Qaj (Qad (Qad (Qad (s) 1) 1) 32) 32)), ints .u8 (keyV (Qaj (Qad (Qad (Qad (Qad (s) 1) 1) 32) 32) 32))] [#[.slice ax xs.length cx]] [] 98 (by rw [Qaa, Qaa, Qaa, Qaa, Qaa]; simp only [Array.size_append, cat, ((Qac _ _).trans (Qan _ (Qam (Qad (Qad (s) 1) 1) 32))), ((Qac _ _).trans (Qan _ (Qam (Qad (Qad (Qad (s) 1) 1) 32) 32))), ((Qac _ _).trans (Qan _ (Qam (Qad (Qad (Qad (Qad (s) 1) 1) 32) 32) 32)))]; rfl) 0 _ rfl) kj) ?_
  have f17_8 := (hox.ext e8)
  have f18_9 := (f17_8.puts p9 (Qcy hox l12))
  have f19_10 := (f18_9.ext e10)
  have f20_11 := (Qbg f19_10 q11 (QaV f19_10 (Nat.lt_of_lt_of_le hgr x6.2.2.2.1)))
  refine Qa3 (.bool (risV xs)) 121 #[.slice ax xs.length cx] 35 rfl kj kj (Qc7 xs _ _ _ _ (by omega) (OwnN.rd f20_11)) fun W12 e12 => ?_
  have x12 : ExtB gr w W12 := ExtB.ext x11 e12
  have rs21 := (RSt.ext rs15 hB e12)
  refine Qal (fun v W' => ExtB gr W12 W' ∧ RSt B gr (Qa0 (Qa0 (itR (Qad (Qad (Qad (Qad (Qad (Qad (s) 1) 1) 32) 32) 32) 1) (bigN (Qaj (Qad (Qad (Qad (Qad (Qad (s) 1) 1) 32) 32) 32) 1))) (Qa7 false ((bigN (Qaj (Qad (s) 1) 1) : Nat) : Int) (keyV (Qaj (Qad (Qad (s) 1) 1) 32)) (keyV (Qaj (Qad (Qad (Qad (s) 1) 1) 32) 32)) (keyV (Qaj (Qad (Qad (Qad (Qad (s) 1) 1) 32) 32) 32)) xs)) (risV xs)) W' ∧ (fun (v : Value) (_ : World) => v = .tuple #[]) v W') 103 #[.pointer (some ⟨gr, 0, none⟩), .bool (risV xs)] 36 rfl kj kj (Qcx B gr _ (risV xs) _ hB rs21) fun vv22 W13 hh22 => ?_
  obtain ⟨q13, rs22, hv22⟩ := hh22
  have x13 : ExtB gr w W13 := ExtB.tr x12 q13
  subst hv22
  refine Qaf ?_
  refine hK16 _ _ ?_
  refine wp_seq_k fun K23 hK23 => ?_
  refine Qae ?_
  have r12_12 := (Qas r12_11 e12)
  have r12_13 := (ExtB.row q13 r12_12 (Ne.symm (Nat.ne_of_lt (Nat.lt_of_lt_of_le hgr b12))))
  refine Qab (.agg (cat [#[.bool false], #[.int .i64 ((bigN (Qaj (Qad (s) 1) 1) : Nat) : Int)], ints .u8 (keyV (Qaj (Qad (Qad (s) 1) 1) 32)), ints .u8 (keyV (Qaj (Qad (Qad (Qad (s) 1) 1) 32) 32)), ints .u8 (keyV (Qaj (Qad (Qad (Qad (Qad (s) 1) 1) 32) 32) 32)), #[.slice ax xs.length cx]])) 37 rfl kj (Qa4 43 _ g12 43 _ _ r12_13 rfl kj kj (isz (n := 99) kj (by rw [Qaa, Qaa, Qaa, Qaa, Qaa, Qaa]; simp only [Array.size_append, cat, ((Qac _ _).trans (Qan _ (Qam (Qad (Qad (s) 1) 1) 32))), ((Qac _ _).trans (Qan _ (Qam (Qad (Qad (Qad (s) 1) 1) 32) 32))), ((Qac _ _).trans (Qan _ (Qam (Qad (Qad (Qad (Qad (s) 1) 1) 32) 32) 32)))]; rfl))) ?_
  have r2_2 := (ExtB.row q2 r2_1 (Ne.symm (Nat.ne_of_lt (Nat.lt_of_lt_of_le hgr b2))))
  have r2_3 := (ExtB.row q3 r2_2 (Ne.symm (Nat.ne_of_lt (Nat.lt_of_lt_of_le hgr b2))))
  have r2_4 := (ExtB.row q4 r2_3 (Ne.symm (Nat.ne_of_lt (Nat.lt_of_lt_of_le hgr b2))))
  have r2_5 := (ExtB.row q5 r2_4 (Ne.symm (Nat.ne_of_lt (Nat.lt_of_lt_of_le hgr b2))))
  have r2_6 := (ExtB.row q6 r2_5 (Ne.symm (Nat.ne_of_lt (Nat.lt_of_lt_of_le hgr b2))))
  have r2_7 := (ExtB.row q7 r2_6 (Ne.symm (Nat.ne_of_lt (Nat.lt_of_lt_of_le hgr b2))))
  have r2_8 := (Qas r2_7 e8)
  have r2_9 := (Puts.row p9 r2_8 (QaA r2_7 l12))
  have r2_10 := (Qas r2_9 e10)
  have r2_11 := (ExtB.row q11 r2_10 (Ne.symm (Nat.ne_of_lt (Nat.lt_of_lt_of_le hgr b2))))
  have r2_12 := (Qas r2_11 e12)
  have r2_13 := (ExtB.row q13 r2_12 (Ne.symm (Nat.ne_of_lt (Nat.lt_of_lt_of_le hgr b2))))
  refine Qa2 g2 _ (cat [#[.bool false], #[.int .i64 ((bigN (Qaj (Qad (s) 1) 1) : Nat) : Int)], ints .u8 (keyV (Qaj (Qad (Qad (s) 1) 1) 32)), ints .u8 (keyV (Qaj (Qad (Qad (Qad (s) 1) 1) 32) 32)), ints .u8 (keyV (Qaj (Qad (Qad (Qad (Qad (s) 1) 1) 32) 32) 32)), #[.slice ax xs.length cx]]) 43 r2_13 rfl kj (Qaz 43 _ _ g2 43 _ _ r2_13 rfl kj kj (isz (n := 99) kj (by rw [Qaa, Qaa, Qaa, Qaa, Qaa, Qaa]; simp only [Array.size_append, cat, ((Qac _ _).trans (Qan _ (Qam (Qad (Qad (s) 1) 1) 32))), ((Qac _ _).trans (Qan _ (Qam (Qad (Qad (Qad (s) 1) 1) 32) 32))), ((Qac _ _).trans (Qan _ (Qam (Qad (Qad (Qad (Qad (s) 1) 1) 32) 32) 32)))]; rfl)) (eqsz (n := 99) kj (by rw [Qaa, Qaa, Qaa, Qaa, Qaa, Qaa]; simp only [Array.size_append, cat, ((Qac _ _).trans (Qan _ (Qam (Qad (Qad (s) 1) 1) 32))), ((Qac _ _).trans (Qan _ (Qam (Qad (Qad (Qad (s) 1) 1) 32) 32))), ((Qac _ _).trans (Qan _ (Qam (Qad (Qad (Qad (Qad (s) 1) 1) 32) 32) 32)))]; rfl)) (QaP _ (by intro a ha; simp only [List.mem_cons, List.not_mem_nil, or_false] at ha; rcases ha with rfl | rfl | rfl | rfl | rfl | rfl; exact (Qaq _ rfl); exact (Qaq _ rfl); exact (Qat _ _); exact (Qat _ _); exact (Qat _ _); exact (Qaq _ rfl)))) fun W14 p14 r2_14 => ?_
  have x14 : ExtB gr w W14 := ExtB.putsN x13 p14 b2
  refine Qaf ?_
  refine hK23 _ _ ?_
  refine wp_ret ?_
  repeat (first | with_reducible refine goR1 ?_ | with_reducible refine goR2 ?_)
  have rs24 := (RSt.put rs22 hB p14 (Nat.lt_of_lt_of_le hgr b2))
  have f25_12 := (f20_11.ext e12)
  have f26_13 := (Qbg f25_12 q13 (QaV f25_12 (Nat.lt_of_lt_of_le hgr x6.2.2.2.1)))
  have f27_14 := (f26_13.puts p14 (QaV hox (Qay r2_6)))
  exact (show bodyPost _ _ _ .ret _ _ from ret1 (.agg (cat [#[.bool false], #[.int .i64 ((bigN (Qaj (Qad (s) 1) 1) : Nat) : Int)], ints .u8 (keyV (Qaj (Qad (Qad (s) 1) 1) 32)), ints .u8 (keyV (Qaj (Qad (Qad (Qad (s) 1) 1) 32) 32)), ints .u8 (keyV (Qaj (Qad (Qad (Qad (Qad (s) 1) 1) 32) 32) 32)), #[.slice ax xs.length cx]])) rfl (QaW g2 43 _ r2_14 kj kj (isz (n := 99) kj (by rw [Qaa, Qaa, Qaa, Qaa, Qaa, Qaa]; simp only [Array.size_append, cat, ((Qac _ _).trans (Qan _ (Qam (Qad (Qad (s) 1) 1) 32))), ((Qac _ _).trans (Qan _ (Qam (Qad (Qad (Qad (s) 1) 1) 32) 32))), ((Qac _ _).trans (Qan _ (Qam (Qad (Qad (Qad (Qad (s) 1) 1) 32) 32) 32)))]; rfl))) ⟨_, xs, rfl, x14, rs24, ⟨ax, cx, rfl, OwnN.base x6.2.2.2.1 f27_14⟩, hlx, hxx⟩)
set_option maxHeartbeats 4000000 in
theorem Qfj (B gr : Nat) (s : Option (List Int)) (w : World) (hB : B ≤ gr) (h : RSt B gr s w) (hU : 1 < bigN (Qaj s 1)) : Calls Try.prog 102 #[.pointer (some ⟨gr, 0, none⟩)] w (fun e W => ∃ v xs, e = .returned v ∧ ExtB gr w W ∧ RSt B gr (Qa0 (Qa0 (nR6 s) (false)) (risV xs)) W ∧ (∃ (a : Option Addr) (c : Nat), v = .agg (cat [#[.bool false], #[.int .i64 (nNm s)], ints .u8 (nKy s), ints .u8 (nSg s), ints .u8 (nPa s), #[.slice a xs.length c]]) ∧ OwnN .i64 3 w.heap.size xs (.slice a xs.length c) W) ∧ xs.length ≤ 255 ∧ (nR6 s ≠ none → xs = nL s)) := by
  have hgr := h.lt
  refine enter 38 [(0, .pointer (some ⟨gr, 0, none⟩))] Try.func102 rfl rfl kj rfl ?_
  refine wp_seq_k fun K1 hK1 => ?_
  refine Qae ?_
  refine Qav (cat [#[.bool false], #[.int .i64 0], (Array.replicate 32 (.int .u8 0)), (Array.replicate 32 (.int .u8 0)), (Array.replicate 32 (.int .u8 0)), #[.slice none 0 0]]) 43 2 rfl kj kj fun g2 W1 l2 e1 r2_1 => ?_
  have x1 : ExtB gr w W1 := ExtB.ext (ExtB.refl gr w) e1
  have b2 : w.heap.size ≤ g2 := Nat.le_trans (ExtB.refl gr w).size l2
  refine Qaf ?_
  refine hK1 _ _ ?_
  refine wp_seq_k fun K3 hK3 => ?_
  refine Qae ?_
  refine Qab (.pointer (some ⟨gr, 0, none⟩)) 5 rfl kj kj ?_
  have rs4 := (RSt.ext h hB e1)
  refine Qal (fun v W' => ExtB gr W1 W' ∧ RSt B gr (Qad (s) 1) W' ∧ (fun (v : Value) (_ : World) => v = .int .i64 ((bigN (Qaj (s) 1) : Nat) : Int)) v W') 110 #[.pointer (some ⟨gr, 0, none⟩), .int .i64 1] 6 rfl kj kj (QaS B gr _ 1 _ hB rs4 (by decide)) fun vv5 W2 hh5 => ?_
  obtain ⟨q2, rs5, hv5⟩ := hh5
  have x2 : ExtB gr w W2 := ExtB.tr x1 q2
  subst hv5
  refine Qab (.int .i64 ((bigN (Qaj (s) 1) : Nat) : Int)) 3 rfl kj kj ?_
  refine Qaf ?_
  refine hK3 _ _ ?_
  refine wp_seq_k fun K6 hK6 => ?_
  refine Qae ?_
  refine Qab (.int .i64 ((bigN (Qaj (s) 1) : Nat) : Int)) 7 rfl kj kj ?_
  refine Qab (.bool false) 8 rfl kj (Qax (u := .bool ((((bigN (Qaj (s) 1) : Nat) : Int) == 1))) kj (congrArg Value.bool (beq_eq_false_iff_ne.2 (by omega)))) ?_
  refine Qab (.pointer (some ⟨gr, 0, none⟩)) 9 rfl kj kj ?_
  refine Qal (fun v W' => ExtB gr W2 W' ∧ RSt B gr (Qad (Qad (s) 1) 1) W' ∧ (fun (v : Value) (_ : World) => v = .int .i64 ((bigN (Qaj (Qad (s) 1) 1) : Nat) : Int)) v W') 110 #[.pointer (some ⟨gr, 0, none⟩), .int .i64 1] 10 rfl kj kj (QaS B gr _ 1 _ hB rs5 (by decide)) fun vv7 W3 hh7 => ?_
  obtain ⟨q3, rs7, hv7⟩ := hh7
  have x3 : ExtB gr w W3 := ExtB.tr x2 q3
  subst hv7
  refine Qab (.pointer (some ⟨gr, 0, none⟩)) 11 rfl kj kj ?_
  refine Qal (fun v W' => ExtB gr W3 W' ∧ RSt B gr (Qad (Qad (Qad (s) 1) 1) 32) W' ∧ (fun (v : Value) (_ : World) => v = .agg (ints .u8 (keyV (Qaj (Qad (Qad (s) 1) 1) 32)))) v W') 109 #[.pointer (some ⟨gr, 0, none⟩)] 12 rfl kj kj (QbO B gr _ _ hB rs7) fun vv8 W4 hh8 => ?_
  obtain ⟨q4, rs8, hv8⟩ := hh8
  have x4 : ExtB gr w W4 := ExtB.tr x3 q4
  subst hv8
  refine Qab (.pointer (some ⟨gr, 0, none⟩)) 13 rfl kj kj ?_
  refine Qal (fun v W' => ExtB gr W4 W' ∧ RSt B gr (Qad (Qad (Qad (Qad (s) 1) 1) 32) 32) W' ∧ (fun (v : Value) (_ : World) => v = .agg (ints .u8 (keyV (Qaj (Qad (Qad (Qad (s) 1) 1) 32) 32)))) v W') 109 #[.pointer (some ⟨gr, 0, none⟩)] 14 rfl kj kj (QbO B gr _ _ hB rs8) fun vv9 W5 hh9 => ?_
  obtain ⟨q5, rs9, hv9⟩ := hh9
  have x5 : ExtB gr w W5 := ExtB.tr x4 q5
  subst hv9
  refine Qab (.pointer (some ⟨gr, 0, none⟩)) 15 rfl kj kj ?_
  refine Qal (fun v W' => ExtB gr W5 W' ∧ RSt B gr (Qad (Qad (Qad (Qad (Qad (s) 1) 1) 32) 32) 32) W' ∧ (fun (v : Value) (_ : World) => v = .agg (ints .u8 (keyV (Qaj (Qad (Qad (Qad (Qad (s) 1) 1) 32) 32) 32)))) v W') 109 #[.pointer (some ⟨gr, 0, none⟩)] 16 rfl kj kj (QbO B gr _ _ hB rs9) fun vv10 W6 hh10 => ?_
  obtain ⟨q6, rs10, hv10⟩ := hh10
  have x6 : ExtB gr w W6 := ExtB.tr x5 q6
  subst hv10
  refine Qab (.pointer (some ⟨gr, 0, none⟩)) 17 rfl kj kj ?_
  refine Qal (fun v W' => ExtB gr W6 W' ∧ RSt B gr (itR (Qad (Qad (Qad (Qad (Qad (Qad (s) 1) 1) 32) 32) 32) 1) (bigN (Qaj (Qad (Qad (Qad (Qad (Qad (s) 1) 1) 32) 32) 32) 1))) W' ∧ (fun (v : Value) (W : World) => ∃ xs, OwnN .i64 3 W6.heap.size xs v W ∧ xs.length ≤ 255 ∧ (itR (Qad (Qad (Qad (Qad (Qad (Qad (s) 1) 1) 32) 32) 32) 1) (bigN (Qaj (Qad (Qad (Qad (Qad (Qad (s) 1) 1) 32) 32) 32) 1)) ≠ none → xs = itL (Qad (Qad (Qad (Qad (Qad (Qad (s) 1) 1) 32) 32) 32) 1) (bigN (Qaj (Qad (Qad (Qad (Qad (Qad (s) 1) 1) 32) 32) 32) 1)))) v W') 123 #[.pointer (some ⟨gr, 0, none⟩), .func (.func 111) #[] #[]] 18 rfl kj kj (Qcg B gr _ _ hB rs10) fun vv11 W7 hh11 => ?_
  obtain ⟨q7, rs11, hv11⟩ := hh11
  have x7 : ExtB gr w W7 := ExtB.tr x6 q7
  obtain ⟨xs, hox, hlx, hxx⟩ := hv11
  obtain ⟨ax, cx, rfl, -⟩ := id (OwnN.rd hox)
  refine Qab (.agg (cat [#[.bool false], #[.int .i64 ((bigN (Qaj (Qad (s) 1) 1) : Nat) : Int)], ints .u8 (keyV (Qaj (Qad (Qad (s) 1) 1) 32)), ints .u8 (keyV (Qaj (Qad (Qad (Qad (s) 1) 1) 32) 32)), ints .u8 (keyV (Qaj (Qad (Qad (Qad (Qad (s) 1) 1) 32) 32) 32)), #[.slice ax xs.length cx]])) 19 rfl kj (Qcb 43 _ (.agg (cat [#[.bool false], #[.int .i64 0], (Array.replicate 32 (.int .u8 0)), (Array.replicate 32 (.int .u8 0)), (Array.replicate 32 (.int .u8 0)), #[.slice none 0 0]])) #[(0, 1), (1, 1), (2, 32), (34, 32), (66, 32), (98, 1)] [(0, 1, .bool false, #[.bool false]), (1, 1, .int .i64 ((bigN (Qaj (Qad (s) 1) 1) : Nat) : Int), #[.int .i64 ((bigN (Qaj (Qad (s) 1) 1) : Nat) : Int)]), (2, 32, .agg (ints .u8 (keyV (Qaj (Qad (Qad (s) 1) 1) 32))), ints .u8 (keyV (Qaj (Qad (Qad (s) 1) 1) 32))), (3, 32, .agg (ints .u8 (keyV (Qaj (Qad (Qad (Qad (s) 1) 1) 32) 32))), ints .u8 (keyV (Qaj (Qad (Qad (Qad (s) 1) 1) 32) 32))), (4, 32, .agg (ints .u8 (keyV (Qaj (Qad (Qad (Qad (Qad (s) 1) 1) 32) 32) 32))), ints .u8 (keyV (Qaj (Qad (Qad (Qad (Qad (s) 1) 1) 32) 32) 32))), (5, 1, .slice ax xs.length cx, #[.slice ax xs.length cx])] rfl kj ⟨kj, rfl, kj, kj, rfl, kj, kj, rfl, ((Qac _ _).trans (Qan _ (Qam (Qad (Qad (s) 1) 1) 32))), kj, rfl, ((Qac _ _).trans (Qan _ (Qam (Qad (Qad (Qad (s) 1) 1) 32) 32))), kj, rfl, ((Qac _ _).trans (Qan _ (Qam (Qad (Qad (Qad (Qad (s) 1) 1) 32) 32) 32))), kj, rfl, kj, trivial⟩ kj kj kj kj) ?_
  refine Qav (cat [#[.bool false], #[.int .i64 0], (Array.replicate 32 (.int .u8 0)), (Array.replicate 32 (.int .u8 0)), (Array.replicate 32 (.int .u8 0)), #[.slice none 0 0]]) 43 4 rfl kj kj fun g12 W8 l12 e8 r12_8 => ?_
  have x8 : ExtB gr w W8 := ExtB.ext x7 e8
  have b12 : w.heap.size ≤ g12 := Nat.le_trans x7.size l12
  refine Qa2 g12 _ (cat [#[.bool false], #[.int .i64 ((bigN (Qaj (Qad (s) 1) 1) : Nat) : Int)], ints .u8 (keyV (Qaj (Qad (Qad (s) 1) 1) 32)), ints .u8 (keyV (Qaj (Qad (Qad (Qad (s) 1) 1) 32) 32)), ints .u8 (keyV (Qaj (Qad (Qad (Qad (Qad (s) 1) 1) 32) 32) 32)), #[.slice ax xs.length cx]]) 43 r12_8 rfl kj (Qaz 43 _ _ g12 43 _ _ r12_8 rfl kj kj (isz (n := 99) kj (by rw [Qaa, Qaa, Qaa, Qaa, Qaa, Qaa]; simp only [Array.size_append, cat, ((Qac _ _).trans (Qan _ (Qam (Qad (Qad (s) 1) 1) 32))), ((Qac _ _).trans (Qan _ (Qam (Qad (Qad (Qad (s) 1) 1) 32) 32))), ((Qac _ _).trans (Qan _ (Qam (Qad (Qad (Qad (Qad (s) 1) 1) 32) 32) 32)))]; rfl)) (eqsz (n := 99) kj (by rw [Qaa, Qaa, Qaa, Qaa, Qaa, Qaa]; simp only [Array.size_append, cat, ((Qac _ _).trans (Qan _ (Qam (Qad (Qad (s) 1) 1) 32))), ((Qac _ _).trans (Qan _ (Qam (Qad (Qad (Qad (s) 1) 1) 32) 32))), ((Qac _ _).trans (Qan _ (Qam (Qad (Qad (Qad (Qad (s) 1) 1) 32) 32) 32)))]; rfl)) (QaP _ (by intro a ha; simp only [List.mem_cons, List.not_mem_nil, or_false] at ha; rcases ha with rfl | rfl | rfl | rfl | rfl | rfl; exact (Qaq _ rfl); exact (Qaq _ rfl); exact (Qat _ _); exact (Qat _ _); exact (Qat _ _); exact (Qaq _ rfl)))) fun W9 p9 r12_9 => ?_
  have x9 : ExtB gr w W9 := ExtB.putsN x8 p9 b12
  refine Qaf ?_
  refine hK6 _ _ ?_
  refine wp_seq_k fun K13 hK13 => ?_
  refine Qae ?_
  refine Qab (.pointer (some ⟨gr, 0, none⟩)) 20 rfl kj kj ?_
  refine Qab (.int .i64 ((bigN (Qaj (s) 1) : Nat) : Int)) 21 rfl kj kj ?_
  refine Qab (.bool false) 22 rfl kj (Qax (u := .bool ((((bigN (Qaj (s) 1) : Nat) : Int) == 1))) kj (congrArg Value.bool (beq_eq_false_iff_ne.2 (by omega)))) ?_
  refine Qab (.bool false) 23 rfl kj kj ?_
  refine Qab (.int .i64 ((bigN (Qaj (s) 1) : Nat) : Int)) 24 rfl kj kj ?_
  refine Qab (.bool false) 25 rfl kj (Qax (u := .bool ((((bigN (Qaj (s) 1) : Nat) : Int) == 0))) kj (congrArg Value.bool (beq_eq_false_iff_ne.2 (by omega)))) ?_
  refine Qab (.bool false) 26 rfl kj kj ?_
  refine Qap 27 rfl kj ?_
  refine Qap 28 rfl kj ?_
  refine Qab (.bool false) 29 rfl kj kj ?_
  refine Qab (.bool false) 30 rfl kj kj ?_
  have rs14 := (RSt.put (RSt.ext rs11 hB e8) hB p9 (Nat.lt_of_lt_of_le hgr b12))
  refine Qal (fun v W' => ExtB gr W9 W' ∧ RSt B gr (Qa0 (itR (Qad (Qad (Qad (Qad (Qad (Qad (s) 1) 1) 32) 32) 32) 1) (bigN (Qaj (Qad (Qad (Qad (Qad (Qad (s) 1) 1) 32) 32) 32) 1))) false) W' ∧ (fun (v : Value) (_ : World) => v = .tuple #[]) v W') 103 #[.pointer (some ⟨gr, 0, none⟩), .bool false] 31 rfl kj kj (Qcx B gr _ false _ hB rs14) fun vv15 W10 hh15 => ?_
  obtain ⟨q10, rs15, hv15⟩ := hh15
  have x10 : ExtB gr w W10 := ExtB.tr x9 q10
  subst hv15
  refine Qaf ?_
  refine hK13 _ _ ?_
  refine wp_seq_k fun K16 hK16 => ?_
  refine Qae ?_
  refine Qab (.pointer (some ⟨gr, 0, none⟩)) 32 rfl kj kj ?_
  refine Qab (.pointer (some ⟨g12, 98, none⟩)) 33 rfl kj kj ?_
  have r12_10 := (ExtB.row q10 r12_9 (Ne.symm (Nat.ne_of_lt (Nat.lt_of_lt_of_le hgr b12))))
  refine Qab (.slice ax xs.length cx) 34 rfl kj (Qah 41 _ g12 98 43 _ (.slice ax xs.length cx) _ r12_10 rfl kj (Qak [#[.bool false], #[.int .i64 ((bigN (Qaj (Qad (s) 1) 1) : Nat) : Int)], ints .u8 (keyV (Qaj (Qad (Qad (s) 1) 1) 32)), ints .u8 (keyV (Qaj (Qad (Qad (Qad (s) 1) 1) 32) 32)), ints .u8 (keyV (Qaj (Qad (Qad (Qad (Qad (s) 1) 1) 32) 32) 32))] [#[.slice ax xs.length cx]] [] 98 (by rw [Qaa, Qaa, Qaa, Qaa, Qaa]; simp only [Array.size_append, cat, ((Qac _ _).trans (Qan _ (Qam (Qad (Qad (s) 1) 1) 32))), ((Qac _ _).trans (Qan _ (Qam (Qad (Qad (Qad (s) 1) 1) 32) 32))), ((Qac _ _).trans (Qan _ (Qam (Qad (Qad (Qad (Qad (s) 1) 1) 32) 32) 32)))]; rfl) 0 _ rfl) kj) ?_
  have f17_8 := (hox.ext e8)
  have f18_9 := (f17_8.puts p9 (Qcy hox l12))
  have f19_10 := (Qbg f18_9 q10 (QaV f18_9 (Nat.lt_of_lt_of_le hgr x6.2.2.2.1)))
  refine Qa3 (.bool (risV xs)) 121 #[.slice ax xs.length cx] 35 rfl kj kj (Qc7 xs _ _ _ _ (by omega) (OwnN.rd f19_10)) fun W11 e11 => ?_
  have x11 : ExtB gr w W11 := ExtB.ext x10 e11
  have rs20 := (RSt.ext rs15 hB e11)
  refine Qal (fun v W' => ExtB gr W11 W' ∧ RSt B gr (Qa0 (Qa0 (itR (Qad (Qad (Qad (Qad (Qad (Qad (s) 1) 1) 32) 32) 32) 1) (bigN (Qaj (Qad (Qad (Qad (Qad (Qad (s) 1) 1) 32) 32) 32) 1))) false) (risV xs)) W' ∧ (fun (v : Value) (_ : World) => v = .tuple #[]) v W') 103 #[.pointer (some ⟨gr, 0, none⟩), .bool (risV xs)] 36 rfl kj kj (Qcx B gr _ (risV xs) _ hB rs20) fun vv21 W12 hh21 => ?_
  obtain ⟨q12, rs21, hv21⟩ := hh21
  have x12 : ExtB gr w W12 := ExtB.tr x11 q12
  subst hv21
  refine Qaf ?_
  refine hK16 _ _ ?_
  refine wp_seq_k fun K22 hK22 => ?_
  refine Qae ?_
  have r12_11 := (Qas r12_10 e11)
  have r12_12 := (ExtB.row q12 r12_11 (Ne.symm (Nat.ne_of_lt (Nat.lt_of_lt_of_le hgr b12))))
  refine Qab (.agg (cat [#[.bool false], #[.int .i64 ((bigN (Qaj (Qad (s) 1) 1) : Nat) : Int)], ints .u8 (keyV (Qaj (Qad (Qad (s) 1) 1) 32)), ints .u8 (keyV (Qaj (Qad (Qad (Qad (s) 1) 1) 32) 32)), ints .u8 (keyV (Qaj (Qad (Qad (Qad (Qad (s) 1) 1) 32) 32) 32)), #[.slice ax xs.length cx]])) 37 rfl kj (Qa4 43 _ g12 43 _ _ r12_12 rfl kj kj (isz (n := 99) kj (by rw [Qaa, Qaa, Qaa, Qaa, Qaa, Qaa]; simp only [Array.size_append, cat, ((Qac _ _).trans (Qan _ (Qam (Qad (Qad (s) 1) 1) 32))), ((Qac _ _).trans (Qan _ (Qam (Qad (Qad (Qad (s) 1) 1) 32) 32))), ((Qac _ _).trans (Qan _ (Qam (Qad (Qad (Qad (Qad (s) 1) 1) 32) 32) 32)))]; rfl))) ?_
  have r2_2 := (ExtB.row q2 r2_1 (Ne.symm (Nat.ne_of_lt (Nat.lt_of_lt_of_le hgr b2))))
  have r2_3 := (ExtB.row q3 r2_2 (Ne.symm (Nat.ne_of_lt (Nat.lt_of_lt_of_le hgr b2))))
  have r2_4 := (ExtB.row q4 r2_3 (Ne.symm (Nat.ne_of_lt (Nat.lt_of_lt_of_le hgr b2))))
  have r2_5 := (ExtB.row q5 r2_4 (Ne.symm (Nat.ne_of_lt (Nat.lt_of_lt_of_le hgr b2))))
  have r2_6 := (ExtB.row q6 r2_5 (Ne.symm (Nat.ne_of_lt (Nat.lt_of_lt_of_le hgr b2))))
  have r2_7 := (ExtB.row q7 r2_6 (Ne.symm (Nat.ne_of_lt (Nat.lt_of_lt_of_le hgr b2))))
  have r2_8 := (Qas r2_7 e8)
  have r2_9 := (Puts.row p9 r2_8 (QaA r2_7 l12))
  have r2_10 := (ExtB.row q10 r2_9 (Ne.symm (Nat.ne_of_lt (Nat.lt_of_lt_of_le hgr b2))))
  have r2_11 := (Qas r2_10 e11)
  have r2_12 := (ExtB.row q12 r2_11 (Ne.symm (Nat.ne_of_lt (Nat.lt_of_lt_of_le hgr b2))))
  refine Qa2 g2 _ (cat [#[.bool false], #[.int .i64 ((bigN (Qaj (Qad (s) 1) 1) : Nat) : Int)], ints .u8 (keyV (Qaj (Qad (Qad (s) 1) 1) 32)), ints .u8 (keyV (Qaj (Qad (Qad (Qad (s) 1) 1) 32) 32)), ints .u8 (keyV (Qaj (Qad (Qad (Qad (Qad (s) 1) 1) 32) 32) 32)), #[.slice ax xs.length cx]]) 43 r2_12 rfl kj (Qaz 43 _ _ g2 43 _ _ r2_12 rfl kj kj (isz (n := 99) kj (by rw [Qaa, Qaa, Qaa, Qaa, Qaa, Qaa]; simp only [Array.size_append, cat, ((Qac _ _).trans (Qan _ (Qam (Qad (Qad (s) 1) 1) 32))), ((Qac _ _).trans (Qan _ (Qam (Qad (Qad (Qad (s) 1) 1) 32) 32))), ((Qac _ _).trans (Qan _ (Qam (Qad (Qad (Qad (Qad (s) 1) 1) 32) 32) 32)))]; rfl)) (eqsz (n := 99) kj (by rw [Qaa, Qaa, Qaa, Qaa, Qaa, Qaa]; simp only [Array.size_append, cat, ((Qac _ _).trans (Qan _ (Qam (Qad (Qad (s) 1) 1) 32))), ((Qac _ _).trans (Qan _ (Qam (Qad (Qad (Qad (s) 1) 1) 32) 32))), ((Qac _ _).trans (Qan _ (Qam (Qad (Qad (Qad (Qad (s) 1) 1) 32) 32) 32)))]; rfl)) (QaP _ (by intro a ha; simp only [List.mem_cons, List.not_mem_nil, or_false] at ha; rcases ha with rfl | rfl | rfl | rfl | rfl | rfl; exact (Qaq _ rfl); exact (Qaq _ rfl); exact (Qat _ _); exact (Qat _ _); exact (Qat _ _); exact (Qaq _ rfl)))) fun W13 p13 r2_13 => ?_
  have x13 : ExtB gr w W13 := ExtB.putsN x12 p13 b2
  refine Qaf ?_
  refine hK22 _ _ ?_
  refine wp_ret ?_
  repeat (first | with_reducible refine goR1 ?_ | with_reducible refine goR2 ?_)
  have rs23 := (RSt.put rs21 hB p13 (Nat.lt_of_lt_of_le hgr b2))
  have f24_11 := (f19_10.ext e11)
  have f25_12 := (Qbg f24_11 q12 (QaV f24_11 (Nat.lt_of_lt_of_le hgr x6.2.2.2.1)))
  have f26_13 := (f25_12.puts p13 (QaV hox (Qay r2_6)))
  exact (show bodyPost _ _ _ .ret _ _ from ret1 (.agg (cat [#[.bool false], #[.int .i64 ((bigN (Qaj (Qad (s) 1) 1) : Nat) : Int)], ints .u8 (keyV (Qaj (Qad (Qad (s) 1) 1) 32)), ints .u8 (keyV (Qaj (Qad (Qad (Qad (s) 1) 1) 32) 32)), ints .u8 (keyV (Qaj (Qad (Qad (Qad (Qad (s) 1) 1) 32) 32) 32)), #[.slice ax xs.length cx]])) rfl (QaW g2 43 _ r2_13 kj kj (isz (n := 99) kj (by rw [Qaa, Qaa, Qaa, Qaa, Qaa, Qaa]; simp only [Array.size_append, cat, ((Qac _ _).trans (Qan _ (Qam (Qad (Qad (s) 1) 1) 32))), ((Qac _ _).trans (Qan _ (Qam (Qad (Qad (Qad (s) 1) 1) 32) 32))), ((Qac _ _).trans (Qan _ (Qam (Qad (Qad (Qad (Qad (s) 1) 1) 32) 32) 32)))]; rfl))) ⟨_, xs, rfl, x13, rs23, ⟨ax, cx, rfl, OwnN.base x6.2.2.2.1 f26_13⟩, hlx, hxx⟩)
end Go.Proofs.Ytfelfmchachljaa.Wr
end
section
namespace Go.Proofs.Ytfelfmchachljaa.Wr
open Go Go.RowKit
open Rely Auto Own Sha
set_option linter.unusedVariables false
set_option linter.unusedSimpArgs false
theorem QcJ (ms r : List Int) (ha : allN ms ms.length = true) : ∀ i, i ≤ ms.length → itR (some ((ms.map fun m => byV m 0) ++ r)) i = some ((ms.drop i).map (fun m => byV m 0) ++ r) ∧ itL (some ((ms.map fun m => byV m 0) ++ r)) i = ms.take i
  | 0, _ => ⟨by rw [List.drop_zero]; rfl, by rw [List.take_zero]; rfl⟩
  | i + 1, h => by
    obtain ⟨h1, h2⟩ := QcJ ms r ha i (by omega)
    have hm := QbY (QeU ms ms.length ha i (by omega))
    have e : (ms.drop i).map (fun m => byV m 0) ++ r = beV (nth ms i) 1 ++ ((ms.drop (i + 1)).map (fun m => byV m 0) ++ r) := by rw [Qec ms i (by omega)]; rfl
    have q : ((bigN (beV (nth ms i) 1) : Nat) : Int) = nth ms i := QcZ _ 1 hm.1 (by omega)
    constructor
    · show Qao (itR _ i) = _
      rw [h1, e]
      unfold Qao
      rw [QaO _ _ 1 (QaQ _ 1), q, QaR _ _ 1 (QaQ _ 1), decide_eq_true (by omega)]
      rfl
    · show itL _ i ++ [((bigN (Qaj (itR _ i) 1) : Nat) : Int)] = _
      rw [h1, h2, e, QaO _ _ 1 (QaQ _ 1), q, List.take_add_one, List.getElem?_eq_getElem (show i < ms.length by omega)]
      congr 1
      unfold nth
      rw [List.getD_eq_getElem?_getD, List.getElem?_eq_getElem (show i < ms.length by omega)]
      rfl
theorem QeL (us : Bool) (nm : Int) (key sg pa ms r : List Int) (hkl : key.length = 32) (hgl : sg.length = 32) (hpl : pa.length = 32) (hg : Qb8 us nm key sg pa ms = true) (s : Option (List Int)) (hs : s = some (Qbd us nm key sg pa ms ++ r)) :
    bigN (Qaj s 1) = (bif us then 1 else 0) ∧ nNm s = nm ∧ nKy s = key ∧ nSg s = sg ∧ nPa s = pa ∧ nR6 s = some r ∧ nL s = ms := by
  unfold Qb8 at hg
  rw [Qc3] at hg
  simp only [Bool.and_eq_true, decide_eq_true_eq] at hg
  obtain ⟨⟨h1, h2⟩, ⟨h3, h4⟩, h5⟩ := hg
  have hn := QbY h1
  have e : Qbd us nm key sg pa ms ++ r = [bif us then 1 else 0] ++ (beV nm 1 ++ (key ++ (sg ++ (pa ++ (beV ((ms.length : Nat) : Int) 1 ++ ((ms.map fun m => byV m 0) ++ r)))))) := by
    unfold Qbd QbK
    simp only [List.append_assoc]
    rfl
  rw [e] at hs
  have s1 : nR1 s = some (beV nm 1 ++ (key ++ (sg ++ (pa ++ (beV ((ms.length : Nat) : Int) 1 ++ ((ms.map fun m => byV m 0) ++ r)))))) := by unfold nR1; rw [hs]; exact QaR _ _ 1 rfl
  have s2 : nR2 s = some (key ++ (sg ++ (pa ++ (beV ((ms.length : Nat) : Int) 1 ++ ((ms.map fun m => byV m 0) ++ r))))) := by unfold nR2; rw [s1]; exact QaR _ _ 1 (QaQ _ 1)
  have s3 : nR3 s = some (sg ++ (pa ++ (beV ((ms.length : Nat) : Int) 1 ++ ((ms.map fun m => byV m 0) ++ r)))) := by unfold nR3; rw [s2]; exact QaR _ _ 32 hkl
  have s4 : nR4 s = some (pa ++ (beV ((ms.length : Nat) : Int) 1 ++ ((ms.map fun m => byV m 0) ++ r))) := by unfold nR4; rw [s3]; exact QaR _ _ 32 hgl
  have s5 : nR5 s = some (beV ((ms.length : Nat) : Int) 1 ++ ((ms.map fun m => byV m 0) ++ r)) := by unfold nR5; rw [s4]; exact QaR _ _ 32 hpl
  have q : bigN (beV ((ms.length : Nat) : Int) 1) = ms.length := by rw [QeS, Nat.mod_eq_of_lt (by omega)]
  have lb := QcJ ms r h4 ms.length (Nat.le_refl _)
  refine ⟨?_, ?_, ?_, ?_, ?_, ?_, ?_⟩
  · rw [hs, QaO _ _ 1 rfl]; cases us <;> rfl
  · unfold nNm; rw [s1, QaO _ _ 1 (QaQ _ 1), QcZ nm 1 hn.1 (by omega)]
  · unfold nKy; rw [s2, QaO _ _ 32 hkl, QbM _ hkl]
  · unfold nSg; rw [s3, QaO _ _ 32 hgl, QbM _ hgl]
  · unfold nPa; rw [s4, QaO _ _ 32 hpl, QbM _ hpl]
  · unfold nR6; rw [s5, QaO _ _ 1 (QaQ _ 1), QaR _ _ 1 (QaQ _ 1), q, lb.1, List.drop_length]; rfl
  · unfold nL; rw [s5, QaO _ _ 1 (QaQ _ 1), QaR _ _ 1 (QaQ _ 1), q, lb.2, List.take_length]
end Go.Proofs.Ytfelfmchachljaa.Wr
end
section
namespace Go.Proofs.Ytfelfmchachljaa.Wr
open Go Go.RowKit
open Rely Auto Own Sha
set_option linter.unusedVariables false
set_option linter.unusedSimpArgs false
theorem QdY (pl : Nat → Option (Nat × Nat)) : ∀ (ps : List (Nat × Nat × Value × Array Value)) (pre : List (Array Value)) (rest : Array Value) (off : Nat), (cat pre).size = off → okPl pl off ps → tot ps ≤ rest.size →
    Instr.fill pl (cat pre ++ rest) (ps.map fun x => (x.1, x.2.2.1)) = some (cat (pre ++ ps.map fun x => x.2.2.2) ++ rest.extract (tot ps) rest.size)
  | [], pre, rest, off, _, _, ht => by
    simp [Instr.fill, tot]
  | (i, n, v, p) :: r, pre, rest, off, hoff, ⟨h1, h2, h3, h4⟩, ht => by
    subst h2
    have hn : n ≤ rest.size := by rw [tot] at ht; omega
    simp only [List.map_cons, Instr.fill, h1, h3]
    rw [if_neg (by simp; omega)]
    have hz : (v.cells.zipIdx.foldl (fun cs (x : Value × Nat) => cs.setIfInBounds (off + x.2) x.1) (cat pre ++ rest)) = cat (pre ++ [v.cells]) ++ rest.extract n rest.size := by
      have e1 : v.cells.zipIdx = (v.cells.toList.zipIdx 0).toArray := by
        apply Array.ext'
        simp
      rw [e1, List.foldl_toArray', QbZ]
      · have e2 : rest = rest.extract 0 n ++ rest.extract n rest.size := by
          rw [Array.extract_append_extract, Nat.max_eq_right hn]
          simp
        have e3 : (cat pre ++ rest) = cat (pre ++ ([rest.extract 0 n] ++ [rest.extract n rest.size])) := by
          rw [QaJ]
          congr 1
        rw [Nat.add_zero, e3]
        have := Qcu pre [rest.extract 0 n] [v.cells] [rest.extract n rest.size] off hoff (by show v.cells.size = (rest.extract 0 n).size; simp; omega)
        rw [show (cat [v.cells]).toList = v.cells.toList from rfl] at this
        rw [this, ← List.append_assoc, QaJ (pre ++ [v.cells])]
        rfl
      · rfl
    have key := QdY pl r (pre ++ [v.cells]) (rest.extract n rest.size) (off + n) (by rw [QaJ]; show (cat pre ++ v.cells).size = _; simp; omega) h4 (by rw [tot] at ht; simp; omega)
    rw [← hz] at key
    rw [List.append_assoc] at key
    rw [key, tot]
    congr 2
    rw [Array.extract_extract]
    simp
    congr 1
    rw [tot] at ht
    omega
theorem Qej {P : Program} {ρ : Operand → Value} {o : Oper} {w : World} (t : TypeId) (parts : Array (Nat × Operand)) (z : Value) (places : Array (Nat × Nat)) (ps : List (Nat × Nat × Value × Array Value)) (rest : List (Array Value))
    (ho : o.op = .build t parts) (hv : (parts.map fun (i, x) => (i, ρ x)).toList = ps.map fun x => (x.1, x.2.2.1)) (hp : okPl (fun i => places[i]?) 0 ps) (ht : tot ps ≤ z.cells.size) (hr : z.cells.extract (tot ps) z.cells.size = cat rest)
    (hz : (zeroValue t).run P w = .ok z w) (hu : P.underlying t = some (.struct (P.fieldsOf t))) (hm : ((P.fieldsOf t).mapM fun f => do pure (f.offset, ← sizeOf f.type) : Sem (Array (Nat × Nat))).run P w = .ok places w) :
    (execOp ρ o).run P w = .ok (.value (.agg (cat ((ps.map fun x => x.2.2.2) ++ rest)))) w := by
  have := QdY (fun i => places[i]?) ps [] z.cells 0 rfl hp ht
  rw [show cat [] ++ z.cells = z.cells by simp [cat], List.nil_append, hr, ← QaJ] at this
  rw [← hv] at this
  have hB : (Instr.build t (parts.map fun (i, x) => (i, ρ x))).run P w = .ok (.agg (cat ((ps.map fun x => x.2.2.2) ++ rest))) w := by
    unfold Instr.build
    rw [Sem.run_bind, hz, Result.andThen_ok, Sem.run_bind, run_underlying hu w, Result.andThen_ok]
    show (Sem.run P _ w) = _
    rw [Sem.run_bind, hm, Result.andThen_ok]
    simp only [this]
    rfl
  unfold execOp
  simp only [ho, Sem.run_bind, hB, Result.andThen_ok, Sem.run_pure]
theorem Qed : ∀ ls : List (List Value), cat (ls.map List.toArray) = ls.flatten.toArray
  | [] => rfl
  | a :: r => by rw [List.map_cons, Qaa, Qed r, List.flatten_cons, List.append_toArray]
theorem Qca {P : Program} {ρ : Operand → Value} {o : Oper} {w : World} (t : TypeId) (parts : Array (Nat × Operand)) (pre rest : List (Array Value)) (places : Array (Nat × Nat)) (ps : List (Nat × Nat × Value × Array Value))
    (ho : o.op = .build t parts) (hv : (parts.map fun (i, x) => (i, ρ x)).toList = ps.map fun x => (x.1, x.2.2.1)) (hp : okPl (fun i => places[i]?) 0 ps) (ht : tot ps = (cat pre).size)
    (hz : (zeroValue t).run P w = .ok (.agg (cat (pre ++ rest))) w) (hu : P.underlying t = some (.struct (P.fieldsOf t))) (hm : ((P.fieldsOf t).mapM fun f => do pure (f.offset, ← sizeOf f.type) : Sem (Array (Nat × Nat))).run P w = .ok places w) :
    (execOp ρ o).run P w = .ok (.value (.agg (cat ((ps.map fun x => x.2.2.2) ++ rest)))) w :=
  Qej t parts _ places ps rest ho hv hp (by rw [ht]; show _ ≤ (cat (pre ++ rest)).size; rw [QaJ, Array.size_append]; omega) (by show (cat (pre ++ rest)).extract _ (cat (pre ++ rest)).size = _; rw [QaJ, ht]; simp) hz hu hm
theorem QaZ {P : Program} {ρ : Operand → Value} {o : Oper} {w : World} (t : TypeId) (cs : Array Value) (ho : o.op = .alloc t) (hz : (zeroValue t).run P w = .ok (.agg cs) w) :
    (execOp ρ o).run P w = .ok (.value (.pointer (some ⟨w.heap.size, 0, none⟩))) (w.alloc (.cells cs t)) := by
  have h : (Instr.alloc t true (.tuple #[])).run P w = .ok (.pointer (some ⟨w.heap.size, 0, none⟩)) (w.alloc (.cells cs t)) := by
    unfold Instr.alloc
    rw [Sem.run_bind, hz, Result.andThen_ok]
    rfl
  unfold execOp
  simp only [ho, Sem.run_bind, h, Result.andThen_ok, Sem.run_pure]
theorem Qeg {P : Program} {ρ : Operand → Value} {o : Oper} {w : World} (ty : TypeId) (x y : Operand) (g off : Nat) (t : TypeId) (pre post : List (Array Value)) (u v : Value) (hg : w.heap[g]? = some (.cells (cat (pre ++ ([#[u]] ++ post))) t))
    (ho : o.op = .store ty x y) (hx : ρ x = .pointer (some ⟨g, off, none⟩)) (hy : ρ y = v) (hi : (P.info? ty).map (·.size) = some 1) (hp : (cat pre).size = off) (h1 : v.oneCell' = true) (hcs : v.cells = #[v]) :
    (execOp ρ o).run P w = .ok .skip (w.setRow g (cat (pre ++ ([#[v]] ++ post)))) := by
  subst hp
  have hs : Nat.blt (cat pre).size (cat (pre ++ ([#[u]] ++ post))).size = true := by
    have : (cat pre).size < (cat (pre ++ ([#[u]] ++ post))).size := by
      rw [QaJ, QaJ, Array.size_append, Array.size_append]
      have e1 : (cat [#[u]]).size = 1 := rfl
      omega
    simpa using this
  have e : (cat (pre ++ ([#[u]] ++ post))).setIfInBounds (cat pre).size v = cat (pre ++ ([#[v]] ++ post)) := by
    rw [QaJ, QaJ, QaJ, QaJ]
    have e1 : ∀ z, cat [#[z]] = #[z] := fun z => rfl
    rw [e1, e1, Array.setIfInBounds_append_right (Nat.le_refl _), Nat.sub_self, Array.setIfInBounds_append_left (by simp)]
    rfl
  rw [← e]
  exact Qbi ty x y g _ t _ v hg ho hx hy hi hs h1 hcs
theorem Qb3 (w : World) : (zeroValue 47).run Try.prog w = .ok (.agg (cat [ints .u8 (List.replicate 32 0), #[.int .i64 0], #[.int .i64 0], ints .u8 (List.replicate 32 0), #[.int .i64 0], #[.bool false], #[.int .i64 0], ints .u8 (List.replicate 32 0), ints .u8 (List.replicate 32 0), ints .u8 (List.replicate 32 0), #[.slice none 0 0], ints .u8 (List.replicate 32 0), #[.int .i64 0], ints .u8 (List.replicate 64 0)])) w := by
  have h := Qed [(List.replicate 32 0).map (Value.int .u8), [.int .i64 0], [.int .i64 0], (List.replicate 32 0).map (Value.int .u8), [.int .i64 0], [.bool false], [.int .i64 0], (List.replicate 32 0).map (Value.int .u8), (List.replicate 32 0).map (Value.int .u8), (List.replicate 32 0).map (Value.int .u8), [.slice none 0 0], (List.replicate 32 0).map (Value.int .u8), [.int .i64 0], (List.replicate 64 0).map (Value.int .u8)]
  refine Eq.trans ?_ (congrArg (fun z => Result.ok (Value.agg z) w) h.symm)
  kernel_rfl
def nUs (s : Option (List Int)) : Bool := bigN (Qaj s 1) == 1
def nOk (s : Option (List Int)) : Bool := nUs s || (bigN (Qaj s 1) == 0 && Qa7 false (nNm s) (nKy s) (nSg s) (nPa s) (nL s))
def QaL (s : Option (List Int)) : Option (List Int) := Qa0 (Qa0 (nR6 s) (nOk s)) (risV (nL s))
theorem Qcc (b : Bool) : Qa0 none b = none := by cases b <;> rfl
theorem Qbs (s : Option (List Int)) : (nKy s).length = 32 := Qan _ (Qam _ 32)
theorem Qbq (s : Option (List Int)) : (nSg s).length = 32 := Qan _ (Qam _ 32)
theorem Qbr (s : Option (List Int)) : (nPa s).length = 32 := Qan _ (Qam _ 32)
theorem Qc5 {B gr : Nat} {s : Option (List Int)} {w : World} {us : Bool} {okx : List Int → Bool} (hu : nUs s = us) (ho : okx (nL s) = nOk s) (e : Ending) (W : World) (h : ∃ v xs, e = .returned v ∧ ExtB gr w W ∧ RSt B gr (Qa0 (Qa0 (nR6 s) (okx xs)) (risV xs)) W ∧ (∃ (a : Option Addr) (c : Nat), v = .agg (cat [#[.bool us], #[.int .i64 (nNm s)], ints .u8 (nKy s), ints .u8 (nSg s), ints .u8 (nPa s), #[.slice a xs.length c]]) ∧ OwnN .i64 3 w.heap.size xs (.slice a xs.length c) W) ∧ xs.length ≤ 255 ∧ (nR6 s ≠ none → xs = nL s)) : Qb4 B gr w (QaL s) (fun v W => ∃ (xz : List Int) (a : Option Addr) (c : Nat), v = .agg (cat [#[.bool (nUs s)], #[.int .i64 (nNm s)], ints .u8 (nKy s), ints .u8 (nSg s), ints .u8 (nPa s), #[.slice a xz.length c]]) ∧ OwnN .i64 3 w.heap.size xz (.slice a xz.length c) W ∧ xz.length ≤ 255 ∧ (QaL s ≠ none → xz = nL s)) e W := by
  obtain ⟨v, xs, e1, e2, e3, ⟨a, c, hv, hown⟩, hl, hx⟩ := h
  refine ⟨v, e1, e2, ?_, xs, a, c, by rw [hu]; exact hv, hown, hl, fun hne => hx (fun h6 => hne (by unfold QaL; rw [h6, Qcc, Qcc]))⟩
  by_cases h6 : nR6 s = none
  · unfold QaL; rw [h6, Qcc, Qcc] at e3 ⊢; exact e3
  · obtain rfl := hx h6
    rw [ho] at e3; exact e3
theorem Qf3 (B gr : Nat) (s : Option (List Int)) (w : World) (hB : B ≤ gr) (h : RSt B gr s w) : Calls Try.prog 102 #[.pointer (some ⟨gr, 0, none⟩)] w (Qb4 B gr w (QaL s) fun v W => ∃ (xz : List Int) (a : Option Addr) (c : Nat), v = .agg (cat [#[.bool (nUs s)], #[.int .i64 (nNm s)], ints .u8 (nKy s), ints .u8 (nSg s), ints .u8 (nPa s), #[.slice a xz.length c]]) ∧ OwnN .i64 3 w.heap.size xz (.slice a xz.length c) W ∧ xz.length ≤ 255 ∧ (QaL s ≠ none → xz = nL s)) := by
  rcases (show bigN (Qaj s 1) = 1 ∨ bigN (Qaj s 1) = 0 ∨ 1 < bigN (Qaj s 1) by omega) with hU | hU | hU
  · have e : nUs s = true := by unfold nUs; rw [hU]; rfl
    exact (Qfl B gr s w hB h hU).mono fun e' W hh => Qc5 (okx := fun _ => true) e (by unfold nOk; rw [e]; rfl) e' W hh
  · have e : nUs s = false := by unfold nUs; rw [hU]; rfl
    exact (Qfk B gr s w hB h hU).mono fun e' W hh => Qc5 (okx := fun xs => Qa7 false (nNm s) (nKy s) (nSg s) (nPa s) xs) e (by unfold nOk; rw [e, hU]; rfl) e' W hh
  · have e : nUs s = false := by unfold nUs; exact beq_eq_false_iff_ne.2 (by omega)
    exact (Qfj B gr s w hB h hU).mono fun e' W hh => Qc5 (okx := fun _ => false) e (by unfold nOk; rw [e, beq_eq_false_iff_ne.2 (show bigN (Qaj s 1) ≠ 0 by omega)]; rfl) e' W hh
def qS1 (s : Option (List Int)) : Option (List Int) := Qad s 32
def qS2 (s : Option (List Int)) : Option (List Int) := Qad (qS1 s) 4
def qS3 (s : Option (List Int)) : Option (List Int) := Qao (qS2 s)
def qS4 (s : Option (List Int)) : Option (List Int) := Qad (qS3 s) 32
def qS5 (s : Option (List Int)) : Option (List Int) := Qad (qS4 s) 1
def qKd (s : Option (List Int)) : Nat := bigN (Qaj (qS4 s) 1)
def qGrp (s : Option (List Int)) : List Int := keyV (Qaj s 32)
def qEp (s : Option (List Int)) : Int := ((bigN (Qaj (qS1 s) 4) : Nat) : Int)
def qFr (s : Option (List Int)) : Int := ((bigN (Qaj (qS2 s) 1) : Nat) : Int)
def qBa (s : Option (List Int)) : List Int := keyV (Qaj (qS3 s) 32)
def qNd (s : Option (List Int)) : Bool := qKd s == 1 || qKd s == 2
def qUs (s : Option (List Int)) : Bool := bif qNd s then nUs (qS5 s) else false
def qNm (s : Option (List Int)) : Int := bif qNd s then nNm (qS5 s) else 0
def qKy (s : Option (List Int)) : List Int := bif qNd s then nKy (qS5 s) else List.replicate 32 0
def qSg (s : Option (List Int)) : List Int := bif qNd s then nSg (qS5 s) else List.replicate 32 0
def qPa (s : Option (List Int)) : List Int := bif qNd s then nPa (qS5 s) else List.replicate 32 0
def qL (s : Option (List Int)) : List Int := bif qNd s then nL (qS5 s) else []
def qSt (s : Option (List Int)) : List Int := bif qKd s == 1 then keyV (Qaj (QaL (qS5 s)) 32) else List.replicate 32 0
def qAt (s : Option (List Int)) : Int := bif qKd s == 3 then ((bigN (Qaj (qS5 s) 1) : Nat) : Int) else 0
def Qce (s : Option (List Int)) : Option (List Int) := bif qKd s == 1 then Qad (QaL (qS5 s)) 32 else bif qKd s == 2 then QaL (qS5 s) else bif qKd s == 3 then Qao (qS5 s) else Qa0 (qS5 s) false
def qSig (s : Option (List Int)) : List Int := Qbn (Qaj (Qce s) 64)
def Qbx (s : Option (List Int)) : Option (List Int) := Qad (Qce s) 64
theorem Qb7 (s : Option (List Int)) : (qGrp s).length = 32 := Qan _ (Qam _ 32)
theorem QbU (s : Option (List Int)) : (qBa s).length = 32 := Qan _ (Qam _ 32)
theorem Qb6 (s : Option (List Int)) : (qSig s).length = 64 := QaB _ (Qam _ 64)
theorem QbT (s : Option (List Int)) : (qKy s).length = 32 := by unfold qKy; cases qNd s; exact List.length_replicate ..; exact Qbs _
theorem QbR (s : Option (List Int)) : (qSg s).length = 32 := by unfold qSg; cases qNd s; exact List.length_replicate ..; exact Qbq _
theorem QbS (s : Option (List Int)) : (qPa s).length = 32 := by unfold qPa; cases qNd s; exact List.length_replicate ..; exact Qbr _
theorem QbQ (s : Option (List Int)) : (qSt s).length = 32 := by unfold qSt; cases qKd s == 1; exact List.length_replicate ..; exact Qan _ (Qam _ 32)
set_option maxHeartbeats 4000000 in
set_option maxRecDepth 100000 in
theorem QfE (B gr : Nat) (s : Option (List Int)) (w : World) (hB : B ≤ gr) (h : RSt B gr s w) (hk : bigN (Qaj (qS4 s) 1) = 1) : Calls Try.prog 61 #[.pointer (some ⟨gr, 0, none⟩)] w (Qb4 B gr w (Qbx s) fun v W => ∃ (xz : List Int) (a : Option Addr) (c : Nat), v = .agg (cat [ints .u8 (qGrp s), #[.int .i64 (qEp s)], #[.int .i64 (qFr s)], ints .u8 (qBa s), #[.int .i64 ((qKd s : Nat) : Int)], #[.bool (qUs s)], #[.int .i64 (qNm s)], ints .u8 (qKy s), ints .u8 (qSg s), ints .u8 (qPa s), #[.slice a xz.length c], ints .u8 (qSt s), #[.int .i64 (qAt s)], ints .u8 (qSig s)]) ∧ OwnN .i64 3 w.heap.size xz (.slice a xz.length c) W ∧ xz.length ≤ 255 ∧ (Qbx s ≠ none → xz = qL s)) := by
  have hgr := h.lt
  have hk2 : bigN (Qaj (Qad (Qao (Qad (Qad s 32) 4)) 32) 1) = qKd s := rfl
  unfold qKd at hk2
  have hk0 : qKd s = bigN (Qaj (qS4 s) 1) := rfl
  have k1 : (qKd s == 1) = true := beq_iff_eq.2 (show qKd s = 1 by omega)
  have k2 : (qKd s == 2) = false := beq_eq_false_iff_ne.2 (show qKd s ≠ 2 by omega)
  have k3 : (qKd s == 3) = false := beq_eq_false_iff_ne.2 (show qKd s ≠ 3 by omega)
  have kn : qNd s = true := by unfold qNd; rw [k1, k2]; rfl
  have eUs : qUs s = nUs (qS5 s) := by unfold qUs; rw [kn]; rfl
  have eNm : qNm s = nNm (qS5 s) := by unfold qNm; rw [kn]; rfl
  have eKy : qKy s = nKy (qS5 s) := by unfold qKy; rw [kn]; rfl
  have eSg : qSg s = nSg (qS5 s) := by unfold qSg; rw [kn]; rfl
  have ePa : qPa s = nPa (qS5 s) := by unfold qPa; rw [kn]; rfl
  have eL : qL s = nL (qS5 s) := by unfold qL; rw [kn]; rfl
  have eSt : qSt s = keyV (Qaj (QaL (qS5 s)) 32) := by unfold qSt; rw [k1]; rfl
  have eAt : qAt s = 0 := by unfold qAt; rw [k3]; rfl
  have eM : Qce s = Qad (QaL (qS5 s)) 32 := by unfold Qce; rw [k1, k2, k3]; rfl
  refine enter 41 [(0, .pointer (some ⟨gr, 0, none⟩))] Try.func61 rfl rfl kj rfl ?_
  refine wp_seq_k fun K1 hK1 => ?_
  refine Qae ?_
  refine Qav (cat [ints .u8 (List.replicate 32 0), #[.int .i64 0], #[.int .i64 0], ints .u8 (List.replicate 32 0), #[.int .i64 0], #[.bool false], #[.int .i64 0], ints .u8 (List.replicate 32 0), ints .u8 (List.replicate 32 0), ints .u8 (List.replicate 32 0), #[.slice none 0 0], ints .u8 (List.replicate 32 0), #[.int .i64 0], ints .u8 (List.replicate 64 0)]) 47 2 rfl kj (QaZ 47 _ rfl (Qb3 _)) fun g2 W1 l2 e1 r2_1 => ?_
  have x1 : ExtB gr w W1 := ExtB.ext (ExtB.refl gr w) e1
  have b2 : w.heap.size ≤ g2 := Nat.le_trans (ExtB.refl gr w).size l2
  refine Qaf ?_
  refine hK1 _ _ ?_
  refine wp_seq_k fun K3 hK3 => ?_
  refine Qae ?_
  refine Qab (.pointer (some ⟨gr, 0, none⟩)) 4 rfl kj kj ?_
  have rs4 := (RSt.ext h hB e1)
  refine Qal (fun v W' => ExtB gr W1 W' ∧ RSt B gr (Qad (s) 32) W' ∧ (fun (v : Value) (_ : World) => v = .agg (ints .u8 (keyV (Qaj (s) 32)))) v W') 109 #[.pointer (some ⟨gr, 0, none⟩)] 5 rfl kj kj (QbO B gr _ _ hB rs4) fun vv5 W2 hh5 => ?_
  obtain ⟨q2, rs5, hv5⟩ := hh5
  have x2 : ExtB gr w W2 := ExtB.tr x1 q2
  subst hv5
  refine Qab (.pointer (some ⟨gr, 0, none⟩)) 6 rfl kj kj ?_
  refine Qal (fun v W' => ExtB gr W2 W' ∧ RSt B gr (Qad (Qad (s) 32) 4) W' ∧ (fun (v : Value) (_ : World) => v = .int .i64 ((bigN (Qaj (Qad (s) 32) 4) : Nat) : Int)) v W') 110 #[.pointer (some ⟨gr, 0, none⟩), .int .i64 4] 7 rfl kj kj (QaS B gr _ 4 _ hB rs5 (by decide)) fun vv6 W3 hh6 => ?_
  obtain ⟨q3, rs6, hv6⟩ := hh6
  have x3 : ExtB gr w W3 := ExtB.tr x2 q3
  subst hv6
  refine Qab (.pointer (some ⟨gr, 0, none⟩)) 8 rfl kj kj ?_
  refine Qal (fun v W' => ExtB gr W3 W' ∧ RSt B gr (Qao (Qad (Qad (s) 32) 4)) W' ∧ (fun (v : Value) (_ : World) => v = .int .i64 ((bigN (Qaj (Qad (Qad (s) 32) 4) 1) : Nat) : Int)) v W') 111 #[.pointer (some ⟨gr, 0, none⟩)] 9 rfl kj kj (Qc6 B gr _ _ hB rs6) fun vv7 W4 hh7 => ?_
  obtain ⟨q4, rs7, hv7⟩ := hh7
  have x4 : ExtB gr w W4 := ExtB.tr x3 q4
  subst hv7
  refine Qab (.pointer (some ⟨gr, 0, none⟩)) 10 rfl kj kj ?_
  refine Qal (fun v W' => ExtB gr W4 W' ∧ RSt B gr (Qad (Qao (Qad (Qad (s) 32) 4)) 32) W' ∧ (fun (v : Value) (_ : World) => v = .agg (ints .u8 (keyV (Qaj (Qao (Qad (Qad (s) 32) 4)) 32)))) v W') 109 #[.pointer (some ⟨gr, 0, none⟩)] 11 rfl kj kj (QbO B gr _ _ hB rs7) fun vv8 W5 hh8 => ?_
  obtain ⟨q5, rs8, hv8⟩ := hh8
  have x5 : ExtB gr w W5 := ExtB.tr x4 q5
  subst hv8
  refine Qab (.pointer (some ⟨gr, 0, none⟩)) 12 rfl kj kj ?_
  refine Qal (fun v W' => ExtB gr W5 W' ∧ RSt B gr (Qad (Qad (Qao (Qad (Qad (s) 32) 4)) 32) 1) W' ∧ (fun (v : Value) (_ : World) => v = .int .i64 ((bigN (Qaj (Qad (Qao (Qad (Qad (s) 32) 4)) 32) 1) : Nat) : Int)) v W') 110 #[.pointer (some ⟨gr, 0, none⟩), .int .i64 1] 13 rfl kj kj (QaS B gr _ 1 _ hB rs8 (by decide)) fun vv9 W6 hh9 => ?_
  obtain ⟨q6, rs9, hv9⟩ := hh9
  have x6 : ExtB gr w W6 := ExtB.tr x5 q6
  subst hv9
  refine Qab (.agg (cat [ints .u8 (keyV (Qaj (s) 32)), #[.int .i64 ((bigN (Qaj (Qad (s) 32) 4) : Nat) : Int)], #[.int .i64 ((bigN (Qaj (Qad (Qad (s) 32) 4) 1) : Nat) : Int)], ints .u8 (keyV (Qaj (Qao (Qad (Qad (s) 32) 4)) 32)), #[.int .i64 ((bigN (Qaj (Qad (Qao (Qad (Qad (s) 32) 4)) 32) 1) : Nat) : Int)], #[.bool false], #[.int .i64 0], ints .u8 (List.replicate 32 0), ints .u8 (List.replicate 32 0), ints .u8 (List.replicate 32 0), #[.slice none 0 0], ints .u8 (List.replicate 32 0), #[.int .i64 0], ints .u8 (List.replicate 64 0)])) 14 rfl kj (Qca 47 _ [ints .u8 (List.replicate 32 0), #[.int .i64 0], #[.int .i64 0], ints .u8 (List.replicate 32 0), #[.int .i64 0]] [#[.bool false], #[.int .i64 0], ints .u8 (List.replicate 32 0), ints .u8 (List.replicate 32 0), ints .u8 (List.replicate 32 0), #[.slice none 0 0], ints .u8 (List.replicate 32 0), #[.int .i64 0], ints .u8 (List.replicate 64 0)] #[(0, 32), (32, 1), (33, 1), (34, 32), (66, 1), (67, 99), (166, 32), (198, 1), (199, 64)] [(0, 32, .agg (ints .u8 (keyV (Qaj (s) 32))), ints .u8 (keyV (Qaj (s) 32))), (1, 1, .int .i64 ((bigN (Qaj (Qad (s) 32) 4) : Nat) : Int), #[.int .i64 ((bigN (Qaj (Qad (s) 32) 4) : Nat) : Int)]), (2, 1, .int .i64 ((bigN (Qaj (Qad (Qad (s) 32) 4) 1) : Nat) : Int), #[.int .i64 ((bigN (Qaj (Qad (Qad (s) 32) 4) 1) : Nat) : Int)]), (3, 32, .agg (ints .u8 (keyV (Qaj (Qao (Qad (Qad (s) 32) 4)) 32))), ints .u8 (keyV (Qaj (Qao (Qad (Qad (s) 32) 4)) 32))), (4, 1, .int .i64 ((bigN (Qaj (Qad (Qao (Qad (Qad (s) 32) 4)) 32) 1) : Nat) : Int), #[.int .i64 ((bigN (Qaj (Qad (Qao (Qad (Qad (s) 32) 4)) 32) 1) : Nat) : Int)])] rfl kj ⟨kj, rfl, ((Qac _ _).trans (Qan _ (Qam (s) 32))), kj, rfl, kj, kj, rfl, kj, kj, rfl, ((Qac _ _).trans (Qan _ (Qam (Qao (Qad (Qad (s) 32) 4)) 32))), kj, rfl, kj, trivial⟩ kj (Qb3 _) kj kj) ?_
  refine Qav (cat [ints .u8 (List.replicate 32 0), #[.int .i64 0], #[.int .i64 0], ints .u8 (List.replicate 32 0), #[.int .i64 0], #[.bool false], #[.int .i64 0], ints .u8 (List.replicate 32 0), ints .u8 (List.replicate 32 0), ints .u8 (List.replicate 32 0), #[.slice none 0 0], ints .u8 (List.replicate 32 0), #[.int .i64 0], ints .u8 (List.replicate 64 0)]) 47 3 rfl kj (QaZ 47 _ rfl (Qb3 _)) fun g10 W7 l10 e7 r10_7 => ?_
  have x7 : ExtB gr w W7 := ExtB.ext x6 e7
  have b10 : w.heap.size ≤ g10 := Nat.le_trans x6.size l10
  refine Qa2 g10 _ (cat [ints .u8 (keyV (Qaj (s) 32)), #[.int .i64 ((bigN (Qaj (Qad (s) 32) 4) : Nat) : Int)], #[.int .i64 ((bigN (Qaj (Qad (Qad (s) 32) 4) 1) : Nat) : Int)], ints .u8 (keyV (Qaj (Qao (Qad (Qad (s) 32) 4)) 32)), #[.int .i64 ((bigN (Qaj (Qad (Qao (Qad (Qad (s) 32) 4)) 32) 1) : Nat) : Int)], #[.bool false], #[.int .i64 0], ints .u8 (List.replicate 32 0), ints .u8 (List.replicate 32 0), ints .u8 (List.replicate 32 0), #[.slice none 0 0], ints .u8 (List.replicate 32 0), #[.int .i64 0], ints .u8 (List.replicate 64 0)]) 47 r10_7 rfl kj (Qaz 47 _ _ g10 47 _ _ r10_7 rfl kj kj (isz (n := 263) kj (by rw [Qaa, Qaa, Qaa, Qaa, Qaa, Qaa, Qaa, Qaa, Qaa, Qaa, Qaa, Qaa, Qaa, Qaa]; simp only [Array.size_append, cat, ((Qac _ _).trans (List.length_replicate (n := 32))), ((Qac _ _).trans (List.length_replicate (n := 64))), ((Qac _ _).trans (Qan _ (Qam (Qao (Qad (Qad (s) 32) 4)) 32))), ((Qac _ _).trans (Qan _ (Qam (s) 32)))]; rfl)) (eqsz (n := 263) (by rw [Qaa, Qaa, Qaa, Qaa, Qaa, Qaa, Qaa, Qaa, Qaa, Qaa, Qaa, Qaa, Qaa, Qaa]; simp only [Array.size_append, cat, ((Qac _ _).trans (List.length_replicate (n := 32))), ((Qac _ _).trans (List.length_replicate (n := 64)))]; rfl) (by rw [Qaa, Qaa, Qaa, Qaa, Qaa, Qaa, Qaa, Qaa, Qaa, Qaa, Qaa, Qaa, Qaa, Qaa]; simp only [Array.size_append, cat, ((Qac _ _).trans (List.length_replicate (n := 32))), ((Qac _ _).trans (List.length_replicate (n := 64))), ((Qac _ _).trans (Qan _ (Qam (Qao (Qad (Qad (s) 32) 4)) 32))), ((Qac _ _).trans (Qan _ (Qam (s) 32)))]; rfl)) (QaP _ (by intro a ha; simp only [List.mem_cons, List.not_mem_nil, or_false] at ha; rcases ha with rfl | rfl | rfl | rfl | rfl | rfl | rfl | rfl | rfl | rfl | rfl | rfl | rfl | rfl; exact (Qat _ _); exact (Qaq _ rfl); exact (Qaq _ rfl); exact (Qat _ _); exact (Qaq _ rfl); exact (Qaq _ rfl); exact (Qaq _ rfl); exact (Qat _ _); exact (Qat _ _); exact (Qat _ _); exact (Qaq _ rfl); exact (Qat _ _); exact (Qaq _ rfl); exact (Qat _ _)))) fun W8 p8 r10_8 => ?_
  have x8 : ExtB gr w W8 := ExtB.putsN x7 p8 b10
  refine Qaf ?_
  refine hK3 _ _ ?_
  refine wp_seq_k fun K11 hK11 => ?_
  refine wp_seq_k fun K12 hK12 => ?_
  refine Qae ?_
  refine Qab (.pointer (some ⟨g10, 66, none⟩)) 15 rfl kj kj ?_
  refine Qab (.int .i64 ((bigN (Qaj (Qad (Qao (Qad (Qad (s) 32) 4)) 32) 1) : Nat) : Int)) 16 rfl kj (Qah 3 _ g10 66 47 _ (.int .i64 ((bigN (Qaj (Qad (Qao (Qad (Qad (s) 32) 4)) 32) 1) : Nat) : Int)) _ r10_8 rfl kj (Qak [ints .u8 (keyV (Qaj (s) 32)), #[.int .i64 ((bigN (Qaj (Qad (s) 32) 4) : Nat) : Int)], #[.int .i64 ((bigN (Qaj (Qad (Qad (s) 32) 4) 1) : Nat) : Int)], ints .u8 (keyV (Qaj (Qao (Qad (Qad (s) 32) 4)) 32))] [#[.int .i64 ((bigN (Qaj (Qad (Qao (Qad (Qad (s) 32) 4)) 32) 1) : Nat) : Int)]] [#[.bool false], #[.int .i64 0], ints .u8 (List.replicate 32 0), ints .u8 (List.replicate 32 0), ints .u8 (List.replicate 32 0), #[.slice none 0 0], ints .u8 (List.replicate 32 0), #[.int .i64 0], ints .u8 (List.replicate 64 0)] 66 (by rw [Qaa, Qaa, Qaa, Qaa]; simp only [Array.size_append, cat, ((Qac _ _).trans (Qan _ (Qam (Qao (Qad (Qad (s) 32) 4)) 32))), ((Qac _ _).trans (Qan _ (Qam (s) 32)))]; rfl) 0 _ rfl) kj) ?_
  refine Qaf ?_
  refine hK12 _ _ ?_
  refine wp_block ?_
  refine wp_seq_k fun K13 hK13 => ?_
  refine Qae ?_
  refine Qab (.bool true) 20 rfl kj (Qax (u := .bool ((((bigN (Qaj (Qad (Qao (Qad (Qad (s) 32) 4)) 32) 1) : Nat) : Int) == 1))) kj (congrArg Value.bool (beq_iff_eq.2 (by omega)))) ?_
  refine Qab (.bool true) 19 rfl kj kj ?_
  refine Qaf ?_
  refine hK13 _ _ ?_
  refine cond_true kj ?_
  refine wp_seq_k fun K14 hK14 => ?_
  refine Qae ?_
  refine Qab (.pointer (some ⟨gr, 0, none⟩)) 21 rfl kj kj ?_
  have rs15 := (RSt.put (RSt.ext rs9 hB e7) hB p8 (Nat.lt_of_lt_of_le hgr b10))
  refine Qal (fun v W' => ExtB gr W8 W' ∧ RSt B gr (QaL (Qad (Qad (Qao (Qad (Qad (s) 32) 4)) 32) 1)) W' ∧ (fun (v : Value) (W : World) => ∃ (xz : List Int) (a : Option Addr) (c : Nat), v = .agg (cat [#[.bool (nUs (Qad (Qad (Qao (Qad (Qad (s) 32) 4)) 32) 1))], #[.int .i64 (nNm (Qad (Qad (Qao (Qad (Qad (s) 32) 4)) 32) 1))], ints .u8 (nKy (Qad (Qad (Qao (Qad (Qad (s) 32) 4)) 32) 1)), ints .u8 (nSg (Qad (Qad (Qao (Qad (Qad (s) 32) 4)) 32) 1)), ints .u8 (nPa (Qad (Qad (Qao (Qad (Qad (s) 32) 4)) 32) 1)), #[.slice a xz.length c]]) ∧ OwnN .i64 3 W8.heap.size xz (.slice a xz.length c) W ∧ xz.length ≤ 255 ∧ (QaL (Qad (Qad (Qao (Qad (Qad (s) 32) 4)) 32) 1) ≠ none → xz = nL (Qad (Qad (Qao (Qad (Qad (s) 32) 4)) 32) 1))) v W') 102 #[.pointer (some ⟨gr, 0, none⟩)] 22 rfl kj kj (Qf3 B gr _ _ hB rs15) fun vv16 W9 hh16 => ?_
  obtain ⟨q9, rs16, hv16⟩ := hh16
  have x9 : ExtB gr w W9 := ExtB.tr x8 q9
  obtain ⟨xs17, ax17, cx17, rfl, hox17, hlx17, hxx17⟩ := hv16
  refine Qab (.pointer (some ⟨g10, 67, none⟩)) 23 rfl kj kj ?_
  have r10_9 := (ExtB.row q9 r10_8 (Ne.symm (Nat.ne_of_lt (Nat.lt_of_lt_of_le hgr b10))))
  refine Qa2 g10 _ (cat [ints .u8 (keyV (Qaj (s) 32)), #[.int .i64 ((bigN (Qaj (Qad (s) 32) 4) : Nat) : Int)], #[.int .i64 ((bigN (Qaj (Qad (Qad (s) 32) 4) 1) : Nat) : Int)], ints .u8 (keyV (Qaj (Qao (Qad (Qad (s) 32) 4)) 32)), #[.int .i64 ((bigN (Qaj (Qad (Qao (Qad (Qad (s) 32) 4)) 32) 1) : Nat) : Int)], #[.bool (nUs (Qad (Qad (Qao (Qad (Qad (s) 32) 4)) 32) 1))], #[.int .i64 (nNm (Qad (Qad (Qao (Qad (Qad (s) 32) 4)) 32) 1))], ints .u8 (nKy (Qad (Qad (Qao (Qad (Qad (s) 32) 4)) 32) 1)), ints .u8 (nSg (Qad (Qad (Qao (Qad (Qad (s) 32) 4)) 32) 1)), ints .u8 (nPa (Qad (Qad (Qao (Qad (Qad (s) 32) 4)) 32) 1)), #[.slice ax17 xs17.length cx17], ints .u8 (List.replicate 32 0), #[.int .i64 0], ints .u8 (List.replicate 64 0)]) 47 r10_9 rfl kj (Qbh 43 _ _ g10 67 47 [ints .u8 (keyV (Qaj (s) 32)), #[.int .i64 ((bigN (Qaj (Qad (s) 32) 4) : Nat) : Int)], #[.int .i64 ((bigN (Qaj (Qad (Qad (s) 32) 4) 1) : Nat) : Int)], ints .u8 (keyV (Qaj (Qao (Qad (Qad (s) 32) 4)) 32)), #[.int .i64 ((bigN (Qaj (Qad (Qao (Qad (Qad (s) 32) 4)) 32) 1) : Nat) : Int)]] [#[.bool false], #[.int .i64 0], ints .u8 (List.replicate 32 0), ints .u8 (List.replicate 32 0), ints .u8 (List.replicate 32 0), #[.slice none 0 0]] [#[.bool (nUs (Qad (Qad (Qao (Qad (Qad (s) 32) 4)) 32) 1))], #[.int .i64 (nNm (Qad (Qad (Qao (Qad (Qad (s) 32) 4)) 32) 1))], ints .u8 (nKy (Qad (Qad (Qao (Qad (Qad (s) 32) 4)) 32) 1)), ints .u8 (nSg (Qad (Qad (Qao (Qad (Qad (s) 32) 4)) 32) 1)), ints .u8 (nPa (Qad (Qad (Qao (Qad (Qad (s) 32) 4)) 32) 1)), #[.slice ax17 xs17.length cx17]] [ints .u8 (List.replicate 32 0), #[.int .i64 0], ints .u8 (List.replicate 64 0)] r10_9 rfl kj kj (isz (n := 99) kj (by rw [Qaa, Qaa, Qaa, Qaa, Qaa, Qaa]; simp only [Array.size_append, cat, ((Qac _ _).trans (Qbs (Qad (Qad (Qao (Qad (Qad (s) 32) 4)) 32) 1))), ((Qac _ _).trans (Qbr (Qad (Qad (Qao (Qad (Qad (s) 32) 4)) 32) 1))), ((Qac _ _).trans (Qbq (Qad (Qad (Qao (Qad (Qad (s) 32) 4)) 32) 1)))]; rfl)) (by rw [Qaa, Qaa, Qaa, Qaa, Qaa]; simp only [Array.size_append, cat, ((Qac _ _).trans (Qan _ (Qam (Qao (Qad (Qad (s) 32) 4)) 32))), ((Qac _ _).trans (Qan _ (Qam (s) 32)))]; rfl) (eqsz (n := 99) (by rw [Qaa, Qaa, Qaa, Qaa, Qaa, Qaa]; simp only [Array.size_append, cat, ((Qac _ _).trans (Qbs (Qad (Qad (Qao (Qad (Qad (s) 32) 4)) 32) 1))), ((Qac _ _).trans (Qbr (Qad (Qad (Qao (Qad (Qad (s) 32) 4)) 32) 1))), ((Qac _ _).trans (Qbq (Qad (Qad (Qao (Qad (Qad (s) 32) 4)) 32) 1)))]; rfl) (by rw [Qaa, Qaa, Qaa, Qaa, Qaa, Qaa]; simp only [Array.size_append, cat, ((Qac _ _).trans (List.length_replicate (n := 32)))]; rfl)) (QaP _ (by intro a ha; simp only [List.mem_cons, List.not_mem_nil, or_false] at ha; rcases ha with rfl | rfl | rfl | rfl | rfl | rfl; exact (Qaq _ rfl); exact (Qaq _ rfl); exact (Qat _ _); exact (Qat _ _); exact (Qat _ _); exact (Qaq _ rfl)))) fun W10 p10 r10_10 => ?_
  have x10 : ExtB gr w W10 := ExtB.putsN x9 p10 b10
  refine Qaf ?_
  refine hK14 _ _ ?_
  refine Qae ?_
  refine Qab (.pointer (some ⟨gr, 0, none⟩)) 24 rfl kj kj ?_
  have rs18 := (RSt.put rs16 hB p10 (Nat.lt_of_lt_of_le hgr b10))
  refine Qal (fun v W' => ExtB gr W10 W' ∧ RSt B gr (Qad (QaL (Qad (Qad (Qao (Qad (Qad (s) 32) 4)) 32) 1)) 32) W' ∧ (fun (v : Value) (_ : World) => v = .agg (ints .u8 (keyV (Qaj (QaL (Qad (Qad (Qao (Qad (Qad (s) 32) 4)) 32) 1)) 32)))) v W') 109 #[.pointer (some ⟨gr, 0, none⟩)] 25 rfl kj kj (QbO B gr _ _ hB rs18) fun vv19 W11 hh19 => ?_
  obtain ⟨q11, rs19, hv19⟩ := hh19
  have x11 : ExtB gr w W11 := ExtB.tr x10 q11
  subst hv19
  refine Qab (.pointer (some ⟨g10, 166, none⟩)) 26 rfl kj kj ?_
  have r10_11 := (ExtB.row q11 r10_10 (Ne.symm (Nat.ne_of_lt (Nat.lt_of_lt_of_le hgr b10))))
  refine Qa2 g10 _ (cat [ints .u8 (keyV (Qaj (s) 32)), #[.int .i64 ((bigN (Qaj (Qad (s) 32) 4) : Nat) : Int)], #[.int .i64 ((bigN (Qaj (Qad (Qad (s) 32) 4) 1) : Nat) : Int)], ints .u8 (keyV (Qaj (Qao (Qad (Qad (s) 32) 4)) 32)), #[.int .i64 ((bigN (Qaj (Qad (Qao (Qad (Qad (s) 32) 4)) 32) 1) : Nat) : Int)], #[.bool (nUs (Qad (Qad (Qao (Qad (Qad (s) 32) 4)) 32) 1))], #[.int .i64 (nNm (Qad (Qad (Qao (Qad (Qad (s) 32) 4)) 32) 1))], ints .u8 (nKy (Qad (Qad (Qao (Qad (Qad (s) 32) 4)) 32) 1)), ints .u8 (nSg (Qad (Qad (Qao (Qad (Qad (s) 32) 4)) 32) 1)), ints .u8 (nPa (Qad (Qad (Qao (Qad (Qad (s) 32) 4)) 32) 1)), #[.slice ax17 xs17.length cx17], ints .u8 (keyV (Qaj (QaL (Qad (Qad (Qao (Qad (Qad (s) 32) 4)) 32) 1)) 32)), #[.int .i64 0], ints .u8 (List.replicate 64 0)]) 47 r10_11 rfl kj (Qbh 40 _ _ g10 166 47 [ints .u8 (keyV (Qaj (s) 32)), #[.int .i64 ((bigN (Qaj (Qad (s) 32) 4) : Nat) : Int)], #[.int .i64 ((bigN (Qaj (Qad (Qad (s) 32) 4) 1) : Nat) : Int)], ints .u8 (keyV (Qaj (Qao (Qad (Qad (s) 32) 4)) 32)), #[.int .i64 ((bigN (Qaj (Qad (Qao (Qad (Qad (s) 32) 4)) 32) 1) : Nat) : Int)], #[.bool (nUs (Qad (Qad (Qao (Qad (Qad (s) 32) 4)) 32) 1))], #[.int .i64 (nNm (Qad (Qad (Qao (Qad (Qad (s) 32) 4)) 32) 1))], ints .u8 (nKy (Qad (Qad (Qao (Qad (Qad (s) 32) 4)) 32) 1)), ints .u8 (nSg (Qad (Qad (Qao (Qad (Qad (s) 32) 4)) 32) 1)), ints .u8 (nPa (Qad (Qad (Qao (Qad (Qad (s) 32) 4)) 32) 1)), #[.slice ax17 xs17.length cx17]] [ints .u8 (List.replicate 32 0)] [ints .u8 (keyV (Qaj (QaL (Qad (Qad (Qao (Qad (Qad (s) 32) 4)) 32) 1)) 32))] [#[.int .i64 0], ints .u8 (List.replicate 64 0)] r10_11 rfl kj kj (isz (n := 32) kj ((Qac _ _).trans (Qan _ (Qam (QaL (Qad (Qad (Qao (Qad (Qad (s) 32) 4)) 32) 1)) 32)))) (by rw [Qaa, Qaa, Qaa, Qaa, Qaa, Qaa, Qaa, Qaa, Qaa, Qaa, Qaa]; simp only [Array.size_append, cat, ((Qac _ _).trans (Qan _ (Qam (Qao (Qad (Qad (s) 32) 4)) 32))), ((Qac _ _).trans (Qan _ (Qam (s) 32))), ((Qac _ _).trans (Qbs (Qad (Qad (Qao (Qad (Qad (s) 32) 4)) 32) 1))), ((Qac _ _).trans (Qbr (Qad (Qad (Qao (Qad (Qad (s) 32) 4)) 32) 1))), ((Qac _ _).trans (Qbq (Qad (Qad (Qao (Qad (Qad (s) 32) 4)) 32) 1)))]; rfl) (eqsz (n := 32) ((Qac _ _).trans (Qan _ (Qam (QaL (Qad (Qad (Qao (Qad (Qad (s) 32) 4)) 32) 1)) 32))) ((Qac _ _).trans (List.length_replicate (n := 32)))) (Qat _ _)) fun W12 p12 r10_12 => ?_
  have x12 : ExtB gr w W12 := ExtB.putsN x11 p12 b10
  refine Qaf ?_
  refine hK11 _ _ ?_
  refine wp_seq_k fun K20 hK20 => ?_
  refine Qae ?_
  refine Qab (.pointer (some ⟨gr, 0, none⟩)) 37 rfl kj kj ?_
  have rs21 := (RSt.put rs19 hB p12 (Nat.lt_of_lt_of_le hgr b10))
  refine Qal (fun v W' => ExtB gr W12 W' ∧ RSt B gr (Qad (Qad (QaL (Qad (Qad (Qao (Qad (Qad (s) 32) 4)) 32) 1)) 32) 64) W' ∧ (fun (v : Value) (_ : World) => v = .agg (ints .u8 (Qbn (Qaj (Qad (QaL (Qad (Qad (Qao (Qad (Qad (s) 32) 4)) 32) 1)) 32) 64)))) v W') 112 #[.pointer (some ⟨gr, 0, none⟩)] 38 rfl kj kj (QdQ B gr _ _ hB rs21) fun vv22 W13 hh22 => ?_
  obtain ⟨q13, rs22, hv22⟩ := hh22
  have x13 : ExtB gr w W13 := ExtB.tr x12 q13
  subst hv22
  refine Qab (.pointer (some ⟨g10, 199, none⟩)) 39 rfl kj kj ?_
  have r10_13 := (ExtB.row q13 r10_12 (Ne.symm (Nat.ne_of_lt (Nat.lt_of_lt_of_le hgr b10))))
  refine Qa2 g10 _ (cat [ints .u8 (keyV (Qaj (s) 32)), #[.int .i64 ((bigN (Qaj (Qad (s) 32) 4) : Nat) : Int)], #[.int .i64 ((bigN (Qaj (Qad (Qad (s) 32) 4) 1) : Nat) : Int)], ints .u8 (keyV (Qaj (Qao (Qad (Qad (s) 32) 4)) 32)), #[.int .i64 ((bigN (Qaj (Qad (Qao (Qad (Qad (s) 32) 4)) 32) 1) : Nat) : Int)], #[.bool (nUs (Qad (Qad (Qao (Qad (Qad (s) 32) 4)) 32) 1))], #[.int .i64 (nNm (Qad (Qad (Qao (Qad (Qad (s) 32) 4)) 32) 1))], ints .u8 (nKy (Qad (Qad (Qao (Qad (Qad (s) 32) 4)) 32) 1)), ints .u8 (nSg (Qad (Qad (Qao (Qad (Qad (s) 32) 4)) 32) 1)), ints .u8 (nPa (Qad (Qad (Qao (Qad (Qad (s) 32) 4)) 32) 1)), #[.slice ax17 xs17.length cx17], ints .u8 (keyV (Qaj (QaL (Qad (Qad (Qao (Qad (Qad (s) 32) 4)) 32) 1)) 32)), #[.int .i64 0], ints .u8 (Qbn (Qaj (Qad (QaL (Qad (Qad (Qao (Qad (Qad (s) 32) 4)) 32) 1)) 32) 64))]) 47 r10_13 rfl kj (Qbh 45 _ _ g10 199 47 [ints .u8 (keyV (Qaj (s) 32)), #[.int .i64 ((bigN (Qaj (Qad (s) 32) 4) : Nat) : Int)], #[.int .i64 ((bigN (Qaj (Qad (Qad (s) 32) 4) 1) : Nat) : Int)], ints .u8 (keyV (Qaj (Qao (Qad (Qad (s) 32) 4)) 32)), #[.int .i64 ((bigN (Qaj (Qad (Qao (Qad (Qad (s) 32) 4)) 32) 1) : Nat) : Int)], #[.bool (nUs (Qad (Qad (Qao (Qad (Qad (s) 32) 4)) 32) 1))], #[.int .i64 (nNm (Qad (Qad (Qao (Qad (Qad (s) 32) 4)) 32) 1))], ints .u8 (nKy (Qad (Qad (Qao (Qad (Qad (s) 32) 4)) 32) 1)), ints .u8 (nSg (Qad (Qad (Qao (Qad (Qad (s) 32) 4)) 32) 1)), ints .u8 (nPa (Qad (Qad (Qao (Qad (Qad (s) 32) 4)) 32) 1)), #[.slice ax17 xs17.length cx17], ints .u8 (keyV (Qaj (QaL (Qad (Qad (Qao (Qad (Qad (s) 32) 4)) 32) 1)) 32)), #[.int .i64 0]] [ints .u8 (List.replicate 64 0)] [ints .u8 (Qbn (Qaj (Qad (QaL (Qad (Qad (Qao (Qad (Qad (s) 32) 4)) 32) 1)) 32) 64))] [] r10_13 rfl kj kj (isz (n := 64) kj ((Qac _ _).trans (QaB _ (Qam (Qad (QaL (Qad (Qad (Qao (Qad (Qad (s) 32) 4)) 32) 1)) 32) 64)))) (by rw [Qaa, Qaa, Qaa, Qaa, Qaa, Qaa, Qaa, Qaa, Qaa, Qaa, Qaa, Qaa, Qaa]; simp only [Array.size_append, cat, ((Qac _ _).trans (Qan _ (Qam (Qao (Qad (Qad (s) 32) 4)) 32))), ((Qac _ _).trans (Qan _ (Qam (QaL (Qad (Qad (Qao (Qad (Qad (s) 32) 4)) 32) 1)) 32))), ((Qac _ _).trans (Qan _ (Qam (s) 32))), ((Qac _ _).trans (Qbs (Qad (Qad (Qao (Qad (Qad (s) 32) 4)) 32) 1))), ((Qac _ _).trans (Qbr (Qad (Qad (Qao (Qad (Qad (s) 32) 4)) 32) 1))), ((Qac _ _).trans (Qbq (Qad (Qad (Qao (Qad (Qad (s) 32) 4)) 32) 1)))]; rfl) (eqsz (n := 64) ((Qac _ _).trans (QaB _ (Qam (Qad (QaL (Qad (Qad (Qao (Qad (Qad (s) 32) 4)) 32) 1)) 32) 64))) ((Qac _ _).trans (List.length_replicate (n := 64)))) (Qat _ _)) fun W14 p14 r10_14 => ?_
  have x14 : ExtB gr w W14 := ExtB.putsN x13 p14 b10
  refine Qaf ?_
  refine hK20 _ _ ?_
  refine wp_seq_k fun K23 hK23 => ?_
  refine Qae ?_
  refine Qab (.agg (cat [ints .u8 (keyV (Qaj (s) 32)), #[.int .i64 ((bigN (Qaj (Qad (s) 32) 4) : Nat) : Int)], #[.int .i64 ((bigN (Qaj (Qad (Qad (s) 32) 4) 1) : Nat) : Int)], ints .u8 (keyV (Qaj (Qao (Qad (Qad (s) 32) 4)) 32)), #[.int .i64 ((bigN (Qaj (Qad (Qao (Qad (Qad (s) 32) 4)) 32) 1) : Nat) : Int)], #[.bool (nUs (Qad (Qad (Qao (Qad (Qad (s) 32) 4)) 32) 1))], #[.int .i64 (nNm (Qad (Qad (Qao (Qad (Qad (s) 32) 4)) 32) 1))], ints .u8 (nKy (Qad (Qad (Qao (Qad (Qad (s) 32) 4)) 32) 1)), ints .u8 (nSg (Qad (Qad (Qao (Qad (Qad (s) 32) 4)) 32) 1)), ints .u8 (nPa (Qad (Qad (Qao (Qad (Qad (s) 32) 4)) 32) 1)), #[.slice ax17 xs17.length cx17], ints .u8 (keyV (Qaj (QaL (Qad (Qad (Qao (Qad (Qad (s) 32) 4)) 32) 1)) 32)), #[.int .i64 0], ints .u8 (Qbn (Qaj (Qad (QaL (Qad (Qad (Qao (Qad (Qad (s) 32) 4)) 32) 1)) 32) 64))])) 40 rfl kj (Qa4 47 _ g10 47 _ _ r10_14 rfl kj kj (isz (n := 263) kj (by rw [Qaa, Qaa, Qaa, Qaa, Qaa, Qaa, Qaa, Qaa, Qaa, Qaa, Qaa, Qaa, Qaa, Qaa]; simp only [Array.size_append, cat, ((Qac _ _).trans (Qan _ (Qam (Qao (Qad (Qad (s) 32) 4)) 32))), ((Qac _ _).trans (Qan _ (Qam (QaL (Qad (Qad (Qao (Qad (Qad (s) 32) 4)) 32) 1)) 32))), ((Qac _ _).trans (Qan _ (Qam (s) 32))), ((Qac _ _).trans (Qbs (Qad (Qad (Qao (Qad (Qad (s) 32) 4)) 32) 1))), ((Qac _ _).trans (Qbr (Qad (Qad (Qao (Qad (Qad (s) 32) 4)) 32) 1))), ((Qac _ _).trans (Qbq (Qad (Qad (Qao (Qad (Qad (s) 32) 4)) 32) 1))), ((Qac _ _).trans (QaB _ (Qam (Qad (QaL (Qad (Qad (Qao (Qad (Qad (s) 32) 4)) 32) 1)) 32) 64)))]; rfl))) ?_
  have r2_2 := (ExtB.row q2 r2_1 (Ne.symm (Nat.ne_of_lt (Nat.lt_of_lt_of_le hgr b2))))
  have r2_3 := (ExtB.row q3 r2_2 (Ne.symm (Nat.ne_of_lt (Nat.lt_of_lt_of_le hgr b2))))
  have r2_4 := (ExtB.row q4 r2_3 (Ne.symm (Nat.ne_of_lt (Nat.lt_of_lt_of_le hgr b2))))
  have r2_5 := (ExtB.row q5 r2_4 (Ne.symm (Nat.ne_of_lt (Nat.lt_of_lt_of_le hgr b2))))
  have r2_6 := (ExtB.row q6 r2_5 (Ne.symm (Nat.ne_of_lt (Nat.lt_of_lt_of_le hgr b2))))
  have r2_7 := (Qas r2_6 e7)
  have r2_8 := (Puts.row p8 r2_7 (QaA r2_6 l10))
  have r2_9 := (ExtB.row q9 r2_8 (Ne.symm (Nat.ne_of_lt (Nat.lt_of_lt_of_le hgr b2))))
  have r2_10 := (Puts.row p10 r2_9 (QaA r2_6 l10))
  have r2_11 := (ExtB.row q11 r2_10 (Ne.symm (Nat.ne_of_lt (Nat.lt_of_lt_of_le hgr b2))))
  have r2_12 := (Puts.row p12 r2_11 (QaA r2_6 l10))
  have r2_13 := (ExtB.row q13 r2_12 (Ne.symm (Nat.ne_of_lt (Nat.lt_of_lt_of_le hgr b2))))
  have r2_14 := (Puts.row p14 r2_13 (QaA r2_6 l10))
  refine Qa2 g2 _ (cat [ints .u8 (keyV (Qaj (s) 32)), #[.int .i64 ((bigN (Qaj (Qad (s) 32) 4) : Nat) : Int)], #[.int .i64 ((bigN (Qaj (Qad (Qad (s) 32) 4) 1) : Nat) : Int)], ints .u8 (keyV (Qaj (Qao (Qad (Qad (s) 32) 4)) 32)), #[.int .i64 ((bigN (Qaj (Qad (Qao (Qad (Qad (s) 32) 4)) 32) 1) : Nat) : Int)], #[.bool (nUs (Qad (Qad (Qao (Qad (Qad (s) 32) 4)) 32) 1))], #[.int .i64 (nNm (Qad (Qad (Qao (Qad (Qad (s) 32) 4)) 32) 1))], ints .u8 (nKy (Qad (Qad (Qao (Qad (Qad (s) 32) 4)) 32) 1)), ints .u8 (nSg (Qad (Qad (Qao (Qad (Qad (s) 32) 4)) 32) 1)), ints .u8 (nPa (Qad (Qad (Qao (Qad (Qad (s) 32) 4)) 32) 1)), #[.slice ax17 xs17.length cx17], ints .u8 (keyV (Qaj (QaL (Qad (Qad (Qao (Qad (Qad (s) 32) 4)) 32) 1)) 32)), #[.int .i64 0], ints .u8 (Qbn (Qaj (Qad (QaL (Qad (Qad (Qao (Qad (Qad (s) 32) 4)) 32) 1)) 32) 64))]) 47 r2_14 rfl kj (Qaz 47 _ _ g2 47 _ _ r2_14 rfl kj kj (isz (n := 263) kj (by rw [Qaa, Qaa, Qaa, Qaa, Qaa, Qaa, Qaa, Qaa, Qaa, Qaa, Qaa, Qaa, Qaa, Qaa]; simp only [Array.size_append, cat, ((Qac _ _).trans (Qan _ (Qam (Qao (Qad (Qad (s) 32) 4)) 32))), ((Qac _ _).trans (Qan _ (Qam (QaL (Qad (Qad (Qao (Qad (Qad (s) 32) 4)) 32) 1)) 32))), ((Qac _ _).trans (Qan _ (Qam (s) 32))), ((Qac _ _).trans (Qbs (Qad (Qad (Qao (Qad (Qad (s) 32) 4)) 32) 1))), ((Qac _ _).trans (Qbr (Qad (Qad (Qao (Qad (Qad (s) 32) 4)) 32) 1))), ((Qac _ _).trans (Qbq (Qad (Qad (Qao (Qad (Qad (s) 32) 4)) 32) 1))), ((Qac _ _).trans (QaB _ (Qam (Qad (QaL (Qad (Qad (Qao (Qad (Qad (s) 32) 4)) 32) 1)) 32) 64)))]; rfl)) (eqsz (n := 263) (by rw [Qaa, Qaa, Qaa, Qaa, Qaa, Qaa, Qaa, Qaa, Qaa, Qaa, Qaa, Qaa, Qaa, Qaa]; simp only [Array.size_append, cat, ((Qac _ _).trans (List.length_replicate (n := 32))), ((Qac _ _).trans (List.length_replicate (n := 64)))]; rfl) (by rw [Qaa, Qaa, Qaa, Qaa, Qaa, Qaa, Qaa, Qaa, Qaa, Qaa, Qaa, Qaa, Qaa, Qaa]; simp only [Array.size_append, cat, ((Qac _ _).trans (Qan _ (Qam (Qao (Qad (Qad (s) 32) 4)) 32))), ((Qac _ _).trans (Qan _ (Qam (QaL (Qad (Qad (Qao (Qad (Qad (s) 32) 4)) 32) 1)) 32))), ((Qac _ _).trans (Qan _ (Qam (s) 32))), ((Qac _ _).trans (Qbs (Qad (Qad (Qao (Qad (Qad (s) 32) 4)) 32) 1))), ((Qac _ _).trans (Qbr (Qad (Qad (Qao (Qad (Qad (s) 32) 4)) 32) 1))), ((Qac _ _).trans (Qbq (Qad (Qad (Qao (Qad (Qad (s) 32) 4)) 32) 1))), ((Qac _ _).trans (QaB _ (Qam (Qad (QaL (Qad (Qad (Qao (Qad (Qad (s) 32) 4)) 32) 1)) 32) 64)))]; rfl)) (QaP _ (by intro a ha; simp only [List.mem_cons, List.not_mem_nil, or_false] at ha; rcases ha with rfl | rfl | rfl | rfl | rfl | rfl | rfl | rfl | rfl | rfl | rfl | rfl | rfl | rfl; exact (Qat _ _); exact (Qaq _ rfl); exact (Qaq _ rfl); exact (Qat _ _); exact (Qaq _ rfl); exact (Qaq _ rfl); exact (Qaq _ rfl); exact (Qat _ _); exact (Qat _ _); exact (Qat _ _); exact (Qaq _ rfl); exact (Qat _ _); exact (Qaq _ rfl); exact (Qat _ _)))) fun W15 p15 r2_15 => ?_
  have x15 : ExtB gr w W15 := ExtB.putsN x14 p15 b2
  refine Qaf ?_
  refine hK23 _ _ ?_
  refine wp_ret ?_
  repeat (first | with_reducible refine goR1 ?_ | with_reducible refine goR2 ?_)
  have f24_10 := (hox17.puts p10 (QaV hox17 (Qay r10_8)))
  have f25_11 := (Qbg f24_10 q11 (QaV f24_10 (Nat.lt_of_lt_of_le hgr x8.2.2.2.1)))
  have f26_12 := (f25_11.puts p12 (QaV hox17 (Qay r10_8)))
  have f27_13 := (Qbg f26_12 q13 (QaV f26_12 (Nat.lt_of_lt_of_le hgr x8.2.2.2.1)))
  have f28_14 := (f27_13.puts p14 (QaV hox17 (Qay r10_8)))
  have f29_15 := (f28_14.puts p15 (QaV hox17 (Qay r2_8)))
  have rs30 := (RSt.put (RSt.put rs22 hB p14 (Nat.lt_of_lt_of_le hgr b10)) hB p15 (Nat.lt_of_lt_of_le hgr b2))
  exact (show bodyPost _ _ _ .ret _ _ from ret1 (.agg (cat [ints .u8 (keyV (Qaj (s) 32)), #[.int .i64 ((bigN (Qaj (Qad (s) 32) 4) : Nat) : Int)], #[.int .i64 ((bigN (Qaj (Qad (Qad (s) 32) 4) 1) : Nat) : Int)], ints .u8 (keyV (Qaj (Qao (Qad (Qad (s) 32) 4)) 32)), #[.int .i64 ((bigN (Qaj (Qad (Qao (Qad (Qad (s) 32) 4)) 32) 1) : Nat) : Int)], #[.bool (nUs (Qad (Qad (Qao (Qad (Qad (s) 32) 4)) 32) 1))], #[.int .i64 (nNm (Qad (Qad (Qao (Qad (Qad (s) 32) 4)) 32) 1))], ints .u8 (nKy (Qad (Qad (Qao (Qad (Qad (s) 32) 4)) 32) 1)), ints .u8 (nSg (Qad (Qad (Qao (Qad (Qad (s) 32) 4)) 32) 1)), ints .u8 (nPa (Qad (Qad (Qao (Qad (Qad (s) 32) 4)) 32) 1)), #[.slice ax17 xs17.length cx17], ints .u8 (keyV (Qaj (QaL (Qad (Qad (Qao (Qad (Qad (s) 32) 4)) 32) 1)) 32)), #[.int .i64 0], ints .u8 (Qbn (Qaj (Qad (QaL (Qad (Qad (Qao (Qad (Qad (s) 32) 4)) 32) 1)) 32) 64))])) rfl (QaW g2 47 _ r2_15 kj kj (isz (n := 263) kj (by rw [Qaa, Qaa, Qaa, Qaa, Qaa, Qaa, Qaa, Qaa, Qaa, Qaa, Qaa, Qaa, Qaa, Qaa]; simp only [Array.size_append, cat, ((Qac _ _).trans (Qan _ (Qam (Qao (Qad (Qad (s) 32) 4)) 32))), ((Qac _ _).trans (Qan _ (Qam (QaL (Qad (Qad (Qao (Qad (Qad (s) 32) 4)) 32) 1)) 32))), ((Qac _ _).trans (Qan _ (Qam (s) 32))), ((Qac _ _).trans (Qbs (Qad (Qad (Qao (Qad (Qad (s) 32) 4)) 32) 1))), ((Qac _ _).trans (Qbr (Qad (Qad (Qao (Qad (Qad (s) 32) 4)) 32) 1))), ((Qac _ _).trans (Qbq (Qad (Qad (Qao (Qad (Qad (s) 32) 4)) 32) 1))), ((Qac _ _).trans (QaB _ (Qam (Qad (QaL (Qad (Qad (Qao (Qad (Qad (s) 32) 4)) 32) 1)) 32) 64)))]; rfl))) ⟨_, rfl, x15, (show RSt B gr (Qbx s) _ by have h9 := rs30; unfold Qbx; rw [eM]; exact h9), xs17, _, _, by rw [eUs, eNm, eKy, eSg, ePa, eSt, eAt]; unfold qSig; rw [eM]; rfl, OwnN.base x8.2.2.2.1 f29_15, hlx17, fun hne => by rw [eL]; exact hxx17 (fun h0 => hne (by have h1 : QaL (qS5 s) = none := h0; unfold Qbx; rw [eM, h1]; rfl))⟩)
set_option maxHeartbeats 4000000 in
set_option maxRecDepth 100000 in
theorem QfD (B gr : Nat) (s : Option (List Int)) (w : World) (hB : B ≤ gr) (h : RSt B gr s w) (hk : bigN (Qaj (qS4 s) 1) = 2) : Calls Try.prog 61 #[.pointer (some ⟨gr, 0, none⟩)] w (Qb4 B gr w (Qbx s) fun v W => ∃ (xz : List Int) (a : Option Addr) (c : Nat), v = .agg (cat [ints .u8 (qGrp s), #[.int .i64 (qEp s)], #[.int .i64 (qFr s)], ints .u8 (qBa s), #[.int .i64 ((qKd s : Nat) : Int)], #[.bool (qUs s)], #[.int .i64 (qNm s)], ints .u8 (qKy s), ints .u8 (qSg s), ints .u8 (qPa s), #[.slice a xz.length c], ints .u8 (qSt s), #[.int .i64 (qAt s)], ints .u8 (qSig s)]) ∧ OwnN .i64 3 w.heap.size xz (.slice a xz.length c) W ∧ xz.length ≤ 255 ∧ (Qbx s ≠ none → xz = qL s)) := by
  have hgr := h.lt
  have hk2 : bigN (Qaj (Qad (Qao (Qad (Qad s 32) 4)) 32) 1) = qKd s := rfl
  unfold qKd at hk2
  have hk0 : qKd s = bigN (Qaj (qS4 s) 1) := rfl
  have k1 : (qKd s == 1) = false := beq_eq_false_iff_ne.2 (show qKd s ≠ 1 by omega)
  have k2 : (qKd s == 2) = true := beq_iff_eq.2 (show qKd s = 2 by omega)
  have k3 : (qKd s == 3) = false := beq_eq_false_iff_ne.2 (show qKd s ≠ 3 by omega)
  have kn : qNd s = true := by unfold qNd; rw [k1, k2]; rfl
  have eUs : qUs s = nUs (qS5 s) := by unfold qUs; rw [kn]; rfl
  have eNm : qNm s = nNm (qS5 s) := by unfold qNm; rw [kn]; rfl
  have eKy : qKy s = nKy (qS5 s) := by unfold qKy; rw [kn]; rfl
  have eSg : qSg s = nSg (qS5 s) := by unfold qSg; rw [kn]; rfl
  have ePa : qPa s = nPa (qS5 s) := by unfold qPa; rw [kn]; rfl
  have eL : qL s = nL (qS5 s) := by unfold qL; rw [kn]; rfl
  have eSt : qSt s = List.replicate 32 0 := by unfold qSt; rw [k1]; rfl
  have eAt : qAt s = 0 := by unfold qAt; rw [k3]; rfl
  have eM : Qce s = QaL (qS5 s) := by unfold Qce; rw [k1, k2, k3]; rfl
  refine enter 41 [(0, .pointer (some ⟨gr, 0, none⟩))] Try.func61 rfl rfl kj rfl ?_
  refine wp_seq_k fun K1 hK1 => ?_
  refine Qae ?_
  refine Qav (cat [ints .u8 (List.replicate 32 0), #[.int .i64 0], #[.int .i64 0], ints .u8 (List.replicate 32 0), #[.int .i64 0], #[.bool false], #[.int .i64 0], ints .u8 (List.replicate 32 0), ints .u8 (List.replicate 32 0), ints .u8 (List.replicate 32 0), #[.slice none 0 0], ints .u8 (List.replicate 32 0), #[.int .i64 0], ints .u8 (List.replicate 64 0)]) 47 2 rfl kj (QaZ 47 _ rfl (Qb3 _)) fun g2 W1 l2 e1 r2_1 => ?_
  have x1 : ExtB gr w W1 := ExtB.ext (ExtB.refl gr w) e1
  have b2 : w.heap.size ≤ g2 := Nat.le_trans (ExtB.refl gr w).size l2
  refine Qaf ?_
  refine hK1 _ _ ?_
  refine wp_seq_k fun K3 hK3 => ?_
  refine Qae ?_
  refine Qab (.pointer (some ⟨gr, 0, none⟩)) 4 rfl kj kj ?_
  have rs4 := (RSt.ext h hB e1)
  refine Qal (fun v W' => ExtB gr W1 W' ∧ RSt B gr (Qad (s) 32) W' ∧ (fun (v : Value) (_ : World) => v = .agg (ints .u8 (keyV (Qaj (s) 32)))) v W') 109 #[.pointer (some ⟨gr, 0, none⟩)] 5 rfl kj kj (QbO B gr _ _ hB rs4) fun vv5 W2 hh5 => ?_
  obtain ⟨q2, rs5, hv5⟩ := hh5
  have x2 : ExtB gr w W2 := ExtB.tr x1 q2
  subst hv5
  refine Qab (.pointer (some ⟨gr, 0, none⟩)) 6 rfl kj kj ?_
  refine Qal (fun v W' => ExtB gr W2 W' ∧ RSt B gr (Qad (Qad (s) 32) 4) W' ∧ (fun (v : Value) (_ : World) => v = .int .i64 ((bigN (Qaj (Qad (s) 32) 4) : Nat) : Int)) v W') 110 #[.pointer (some ⟨gr, 0, none⟩), .int .i64 4] 7 rfl kj kj (QaS B gr _ 4 _ hB rs5 (by decide)) fun vv6 W3 hh6 => ?_
  obtain ⟨q3, rs6, hv6⟩ := hh6
  have x3 : ExtB gr w W3 := ExtB.tr x2 q3
  subst hv6
  refine Qab (.pointer (some ⟨gr, 0, none⟩)) 8 rfl kj kj ?_
  refine Qal (fun v W' => ExtB gr W3 W' ∧ RSt B gr (Qao (Qad (Qad (s) 32) 4)) W' ∧ (fun (v : Value) (_ : World) => v = .int .i64 ((bigN (Qaj (Qad (Qad (s) 32) 4) 1) : Nat) : Int)) v W') 111 #[.pointer (some ⟨gr, 0, none⟩)] 9 rfl kj kj (Qc6 B gr _ _ hB rs6) fun vv7 W4 hh7 => ?_
  obtain ⟨q4, rs7, hv7⟩ := hh7
  have x4 : ExtB gr w W4 := ExtB.tr x3 q4
  subst hv7
  refine Qab (.pointer (some ⟨gr, 0, none⟩)) 10 rfl kj kj ?_
  refine Qal (fun v W' => ExtB gr W4 W' ∧ RSt B gr (Qad (Qao (Qad (Qad (s) 32) 4)) 32) W' ∧ (fun (v : Value) (_ : World) => v = .agg (ints .u8 (keyV (Qaj (Qao (Qad (Qad (s) 32) 4)) 32)))) v W') 109 #[.pointer (some ⟨gr, 0, none⟩)] 11 rfl kj kj (QbO B gr _ _ hB rs7) fun vv8 W5 hh8 => ?_
  obtain ⟨q5, rs8, hv8⟩ := hh8
  have x5 : ExtB gr w W5 := ExtB.tr x4 q5
  subst hv8
  refine Qab (.pointer (some ⟨gr, 0, none⟩)) 12 rfl kj kj ?_
  refine Qal (fun v W' => ExtB gr W5 W' ∧ RSt B gr (Qad (Qad (Qao (Qad (Qad (s) 32) 4)) 32) 1) W' ∧ (fun (v : Value) (_ : World) => v = .int .i64 ((bigN (Qaj (Qad (Qao (Qad (Qad (s) 32) 4)) 32) 1) : Nat) : Int)) v W') 110 #[.pointer (some ⟨gr, 0, none⟩), .int .i64 1] 13 rfl kj kj (QaS B gr _ 1 _ hB rs8 (by decide)) fun vv9 W6 hh9 => ?_
  obtain ⟨q6, rs9, hv9⟩ := hh9
  have x6 : ExtB gr w W6 := ExtB.tr x5 q6
  subst hv9
  refine Qab (.agg (cat [ints .u8 (keyV (Qaj (s) 32)), #[.int .i64 ((bigN (Qaj (Qad (s) 32) 4) : Nat) : Int)], #[.int .i64 ((bigN (Qaj (Qad (Qad (s) 32) 4) 1) : Nat) : Int)], ints .u8 (keyV (Qaj (Qao (Qad (Qad (s) 32) 4)) 32)), #[.int .i64 ((bigN (Qaj (Qad (Qao (Qad (Qad (s) 32) 4)) 32) 1) : Nat) : Int)], #[.bool false], #[.int .i64 0], ints .u8 (List.replicate 32 0), ints .u8 (List.replicate 32 0), ints .u8 (List.replicate 32 0), #[.slice none 0 0], ints .u8 (List.replicate 32 0), #[.int .i64 0], ints .u8 (List.replicate 64 0)])) 14 rfl kj (Qca 47 _ [ints .u8 (List.replicate 32 0), #[.int .i64 0], #[.int .i64 0], ints .u8 (List.replicate 32 0), #[.int .i64 0]] [#[.bool false], #[.int .i64 0], ints .u8 (List.replicate 32 0), ints .u8 (List.replicate 32 0), ints .u8 (List.replicate 32 0), #[.slice none 0 0], ints .u8 (List.replicate 32 0), #[.int .i64 0], ints .u8 (List.replicate 64 0)] #[(0, 32), (32, 1), (33, 1), (34, 32), (66, 1), (67, 99), (166, 32), (198, 1), (199, 64)] [(0, 32, .agg (ints .u8 (keyV (Qaj (s) 32))), ints .u8 (keyV (Qaj (s) 32))), (1, 1, .int .i64 ((bigN (Qaj (Qad (s) 32) 4) : Nat) : Int), #[.int .i64 ((bigN (Qaj (Qad (s) 32) 4) : Nat) : Int)]), (2, 1, .int .i64 ((bigN (Qaj (Qad (Qad (s) 32) 4) 1) : Nat) : Int), #[.int .i64 ((bigN (Qaj (Qad (Qad (s) 32) 4) 1) : Nat) : Int)]), (3, 32, .agg (ints .u8 (keyV (Qaj (Qao (Qad (Qad (s) 32) 4)) 32))), ints .u8 (keyV (Qaj (Qao (Qad (Qad (s) 32) 4)) 32))), (4, 1, .int .i64 ((bigN (Qaj (Qad (Qao (Qad (Qad (s) 32) 4)) 32) 1) : Nat) : Int), #[.int .i64 ((bigN (Qaj (Qad (Qao (Qad (Qad (s) 32) 4)) 32) 1) : Nat) : Int)])] rfl kj ⟨kj, rfl, ((Qac _ _).trans (Qan _ (Qam (s) 32))), kj, rfl, kj, kj, rfl, kj, kj, rfl, ((Qac _ _).trans (Qan _ (Qam (Qao (Qad (Qad (s) 32) 4)) 32))), kj, rfl, kj, trivial⟩ kj (Qb3 _) kj kj) ?_
  refine Qav (cat [ints .u8 (List.replicate 32 0), #[.int .i64 0], #[.int .i64 0], ints .u8 (List.replicate 32 0), #[.int .i64 0], #[.bool false], #[.int .i64 0], ints .u8 (List.replicate 32 0), ints .u8 (List.replicate 32 0), ints .u8 (List.replicate 32 0), #[.slice none 0 0], ints .u8 (List.replicate 32 0), #[.int .i64 0], ints .u8 (List.replicate 64 0)]) 47 3 rfl kj (QaZ 47 _ rfl (Qb3 _)) fun g10 W7 l10 e7 r10_7 => ?_
  have x7 : ExtB gr w W7 := ExtB.ext x6 e7
  have b10 : w.heap.size ≤ g10 := Nat.le_trans x6.size l10
  refine Qa2 g10 _ (cat [ints .u8 (keyV (Qaj (s) 32)), #[.int .i64 ((bigN (Qaj (Qad (s) 32) 4) : Nat) : Int)], #[.int .i64 ((bigN (Qaj (Qad (Qad (s) 32) 4) 1) : Nat) : Int)], ints .u8 (keyV (Qaj (Qao (Qad (Qad (s) 32) 4)) 32)), #[.int .i64 ((bigN (Qaj (Qad (Qao (Qad (Qad (s) 32) 4)) 32) 1) : Nat) : Int)], #[.bool false], #[.int .i64 0], ints .u8 (List.replicate 32 0), ints .u8 (List.replicate 32 0), ints .u8 (List.replicate 32 0), #[.slice none 0 0], ints .u8 (List.replicate 32 0), #[.int .i64 0], ints .u8 (List.replicate 64 0)]) 47 r10_7 rfl kj (Qaz 47 _ _ g10 47 _ _ r10_7 rfl kj kj (isz (n := 263) kj (by rw [Qaa, Qaa, Qaa, Qaa, Qaa, Qaa, Qaa, Qaa, Qaa, Qaa, Qaa, Qaa, Qaa, Qaa]; simp only [Array.size_append, cat, ((Qac _ _).trans (List.length_replicate (n := 32))), ((Qac _ _).trans (List.length_replicate (n := 64))), ((Qac _ _).trans (Qan _ (Qam (Qao (Qad (Qad (s) 32) 4)) 32))), ((Qac _ _).trans (Qan _ (Qam (s) 32)))]; rfl)) (eqsz (n := 263) (by rw [Qaa, Qaa, Qaa, Qaa, Qaa, Qaa, Qaa, Qaa, Qaa, Qaa, Qaa, Qaa, Qaa, Qaa]; simp only [Array.size_append, cat, ((Qac _ _).trans (List.length_replicate (n := 32))), ((Qac _ _).trans (List.length_replicate (n := 64)))]; rfl) (by rw [Qaa, Qaa, Qaa, Qaa, Qaa, Qaa, Qaa, Qaa, Qaa, Qaa, Qaa, Qaa, Qaa, Qaa]; simp only [Array.size_append, cat, ((Qac _ _).trans (List.length_replicate (n := 32))), ((Qac _ _).trans (List.length_replicate (n := 64))), ((Qac _ _).trans (Qan _ (Qam (Qao (Qad (Qad (s) 32) 4)) 32))), ((Qac _ _).trans (Qan _ (Qam (s) 32)))]; rfl)) (QaP _ (by intro a ha; simp only [List.mem_cons, List.not_mem_nil, or_false] at ha; rcases ha with rfl | rfl | rfl | rfl | rfl | rfl | rfl | rfl | rfl | rfl | rfl | rfl | rfl | rfl; exact (Qat _ _); exact (Qaq _ rfl); exact (Qaq _ rfl); exact (Qat _ _); exact (Qaq _ rfl); exact (Qaq _ rfl); exact (Qaq _ rfl); exact (Qat _ _); exact (Qat _ _); exact (Qat _ _); exact (Qaq _ rfl); exact (Qat _ _); exact (Qaq _ rfl); exact (Qat _ _)))) fun W8 p8 r10_8 => ?_
  have x8 : ExtB gr w W8 := ExtB.putsN x7 p8 b10
  refine Qaf ?_
  refine hK3 _ _ ?_
  refine wp_seq_k fun K11 hK11 => ?_
  refine wp_seq_k fun K12 hK12 => ?_
  refine Qae ?_
  refine Qab (.pointer (some ⟨g10, 66, none⟩)) 15 rfl kj kj ?_
  refine Qab (.int .i64 ((bigN (Qaj (Qad (Qao (Qad (Qad (s) 32) 4)) 32) 1) : Nat) : Int)) 16 rfl kj (Qah 3 _ g10 66 47 _ (.int .i64 ((bigN (Qaj (Qad (Qao (Qad (Qad (s) 32) 4)) 32) 1) : Nat) : Int)) _ r10_8 rfl kj (Qak [ints .u8 (keyV (Qaj (s) 32)), #[.int .i64 ((bigN (Qaj (Qad (s) 32) 4) : Nat) : Int)], #[.int .i64 ((bigN (Qaj (Qad (Qad (s) 32) 4) 1) : Nat) : Int)], ints .u8 (keyV (Qaj (Qao (Qad (Qad (s) 32) 4)) 32))] [#[.int .i64 ((bigN (Qaj (Qad (Qao (Qad (Qad (s) 32) 4)) 32) 1) : Nat) : Int)]] [#[.bool false], #[.int .i64 0], ints .u8 (List.replicate 32 0), ints .u8 (List.replicate 32 0), ints .u8 (List.replicate 32 0), #[.slice none 0 0], ints .u8 (List.replicate 32 0), #[.int .i64 0], ints .u8 (List.replicate 64 0)] 66 (by rw [Qaa, Qaa, Qaa, Qaa]; simp only [Array.size_append, cat, ((Qac _ _).trans (Qan _ (Qam (Qao (Qad (Qad (s) 32) 4)) 32))), ((Qac _ _).trans (Qan _ (Qam (s) 32)))]; rfl) 0 _ rfl) kj) ?_
  refine Qaf ?_
  refine hK12 _ _ ?_
  refine wp_block ?_
  refine wp_seq_k fun K13 hK13 => ?_
  refine Qae ?_
  refine Qab (.bool false) 20 rfl kj (Qax (u := .bool ((((bigN (Qaj (Qad (Qao (Qad (Qad (s) 32) 4)) 32) 1) : Nat) : Int) == 1))) kj (congrArg Value.bool (beq_eq_false_iff_ne.2 (by omega)))) ?_
  refine Qab (.bool false) 19 rfl kj kj ?_
  refine Qaf ?_
  refine hK13 _ _ ?_
  refine cond_false kj ?_
  refine wp_seq_k fun K14 hK14 => ?_
  refine Qae ?_
  refine Qab (.bool true) 28 rfl kj (Qax (u := .bool ((((bigN (Qaj (Qad (Qao (Qad (Qad (s) 32) 4)) 32) 1) : Nat) : Int) == 2))) kj (congrArg Value.bool (beq_iff_eq.2 (by omega)))) ?_
  refine Qab (.bool true) 27 rfl kj kj ?_
  refine Qaf ?_
  refine hK14 _ _ ?_
  refine cond_true kj ?_
  refine Qae ?_
  refine Qab (.pointer (some ⟨gr, 0, none⟩)) 29 rfl kj kj ?_
  have rs15 := (RSt.put (RSt.ext rs9 hB e7) hB p8 (Nat.lt_of_lt_of_le hgr b10))
  refine Qal (fun v W' => ExtB gr W8 W' ∧ RSt B gr (QaL (Qad (Qad (Qao (Qad (Qad (s) 32) 4)) 32) 1)) W' ∧ (fun (v : Value) (W : World) => ∃ (xz : List Int) (a : Option Addr) (c : Nat), v = .agg (cat [#[.bool (nUs (Qad (Qad (Qao (Qad (Qad (s) 32) 4)) 32) 1))], #[.int .i64 (nNm (Qad (Qad (Qao (Qad (Qad (s) 32) 4)) 32) 1))], ints .u8 (nKy (Qad (Qad (Qao (Qad (Qad (s) 32) 4)) 32) 1)), ints .u8 (nSg (Qad (Qad (Qao (Qad (Qad (s) 32) 4)) 32) 1)), ints .u8 (nPa (Qad (Qad (Qao (Qad (Qad (s) 32) 4)) 32) 1)), #[.slice a xz.length c]]) ∧ OwnN .i64 3 W8.heap.size xz (.slice a xz.length c) W ∧ xz.length ≤ 255 ∧ (QaL (Qad (Qad (Qao (Qad (Qad (s) 32) 4)) 32) 1) ≠ none → xz = nL (Qad (Qad (Qao (Qad (Qad (s) 32) 4)) 32) 1))) v W') 102 #[.pointer (some ⟨gr, 0, none⟩)] 30 rfl kj kj (Qf3 B gr _ _ hB rs15) fun vv16 W9 hh16 => ?_
  obtain ⟨q9, rs16, hv16⟩ := hh16
  have x9 : ExtB gr w W9 := ExtB.tr x8 q9
  obtain ⟨xs17, ax17, cx17, rfl, hox17, hlx17, hxx17⟩ := hv16
  refine Qab (.pointer (some ⟨g10, 67, none⟩)) 31 rfl kj kj ?_
  have r10_9 := (ExtB.row q9 r10_8 (Ne.symm (Nat.ne_of_lt (Nat.lt_of_lt_of_le hgr b10))))
  refine Qa2 g10 _ (cat [ints .u8 (keyV (Qaj (s) 32)), #[.int .i64 ((bigN (Qaj (Qad (s) 32) 4) : Nat) : Int)], #[.int .i64 ((bigN (Qaj (Qad (Qad (s) 32) 4) 1) : Nat) : Int)], ints .u8 (keyV (Qaj (Qao (Qad (Qad (s) 32) 4)) 32)), #[.int .i64 ((bigN (Qaj (Qad (Qao (Qad (Qad (s) 32) 4)) 32) 1) : Nat) : Int)], #[.bool (nUs (Qad (Qad (Qao (Qad (Qad (s) 32) 4)) 32) 1))], #[.int .i64 (nNm (Qad (Qad (Qao (Qad (Qad (s) 32) 4)) 32) 1))], ints .u8 (nKy (Qad (Qad (Qao (Qad (Qad (s) 32) 4)) 32) 1)), ints .u8 (nSg (Qad (Qad (Qao (Qad (Qad (s) 32) 4)) 32) 1)), ints .u8 (nPa (Qad (Qad (Qao (Qad (Qad (s) 32) 4)) 32) 1)), #[.slice ax17 xs17.length cx17], ints .u8 (List.replicate 32 0), #[.int .i64 0], ints .u8 (List.replicate 64 0)]) 47 r10_9 rfl kj (Qbh 43 _ _ g10 67 47 [ints .u8 (keyV (Qaj (s) 32)), #[.int .i64 ((bigN (Qaj (Qad (s) 32) 4) : Nat) : Int)], #[.int .i64 ((bigN (Qaj (Qad (Qad (s) 32) 4) 1) : Nat) : Int)], ints .u8 (keyV (Qaj (Qao (Qad (Qad (s) 32) 4)) 32)), #[.int .i64 ((bigN (Qaj (Qad (Qao (Qad (Qad (s) 32) 4)) 32) 1) : Nat) : Int)]] [#[.bool false], #[.int .i64 0], ints .u8 (List.replicate 32 0), ints .u8 (List.replicate 32 0), ints .u8 (List.replicate 32 0), #[.slice none 0 0]] [#[.bool (nUs (Qad (Qad (Qao (Qad (Qad (s) 32) 4)) 32) 1))], #[.int .i64 (nNm (Qad (Qad (Qao (Qad (Qad (s) 32) 4)) 32) 1))], ints .u8 (nKy (Qad (Qad (Qao (Qad (Qad (s) 32) 4)) 32) 1)), ints .u8 (nSg (Qad (Qad (Qao (Qad (Qad (s) 32) 4)) 32) 1)), ints .u8 (nPa (Qad (Qad (Qao (Qad (Qad (s) 32) 4)) 32) 1)), #[.slice ax17 xs17.length cx17]] [ints .u8 (List.replicate 32 0), #[.int .i64 0], ints .u8 (List.replicate 64 0)] r10_9 rfl kj kj (isz (n := 99) kj (by rw [Qaa, Qaa, Qaa, Qaa, Qaa, Qaa]; simp only [Array.size_append, cat, ((Qac _ _).trans (Qbs (Qad (Qad (Qao (Qad (Qad (s) 32) 4)) 32) 1))), ((Qac _ _).trans (Qbr (Qad (Qad (Qao (Qad (Qad (s) 32) 4)) 32) 1))), ((Qac _ _).trans (Qbq (Qad (Qad (Qao (Qad (Qad (s) 32) 4)) 32) 1)))]; rfl)) (by rw [Qaa, Qaa, Qaa, Qaa, Qaa]; simp only [Array.size_append, cat, ((Qac _ _).trans (Qan _ (Qam (Qao (Qad (Qad (s) 32) 4)) 32))), ((Qac _ _).trans (Qan _ (Qam (s) 32)))]; rfl) (eqsz (n := 99) (by rw [Qaa, Qaa, Qaa, Qaa, Qaa, Qaa]; simp only [Array.size_append, cat, ((Qac _ _).trans (Qbs (Qad (Qad (Qao (Qad (Qad (s) 32) 4)) 32) 1))), ((Qac _ _).trans (Qbr (Qad (Qad (Qao (Qad (Qad (s) 32) 4)) 32) 1))), ((Qac _ _).trans (Qbq (Qad (Qad (Qao (Qad (Qad (s) 32) 4)) 32) 1)))]; rfl) (by rw [Qaa, Qaa, Qaa, Qaa, Qaa, Qaa]; simp only [Array.size_append, cat, ((Qac _ _).trans (List.length_replicate (n := 32)))]; rfl)) (QaP _ (by intro a ha; simp only [List.mem_cons, List.not_mem_nil, or_false] at ha; rcases ha with rfl | rfl | rfl | rfl | rfl | rfl; exact (Qaq _ rfl); exact (Qaq _ rfl); exact (Qat _ _); exact (Qat _ _); exact (Qat _ _); exact (Qaq _ rfl)))) fun W10 p10 r10_10 => ?_
  have x10 : ExtB gr w W10 := ExtB.putsN x9 p10 b10
  refine Qaf ?_
  refine hK11 _ _ ?_
  refine wp_seq_k fun K18 hK18 => ?_
  refine Qae ?_
  refine Qab (.pointer (some ⟨gr, 0, none⟩)) 37 rfl kj kj ?_
  have rs19 := (RSt.put rs16 hB p10 (Nat.lt_of_lt_of_le hgr b10))
  refine Qal (fun v W' => ExtB gr W10 W' ∧ RSt B gr (Qad (QaL (Qad (Qad (Qao (Qad (Qad (s) 32) 4)) 32) 1)) 64) W' ∧ (fun (v : Value) (_ : World) => v = .agg (ints .u8 (Qbn (Qaj (QaL (Qad (Qad (Qao (Qad (Qad (s) 32) 4)) 32) 1)) 64)))) v W') 112 #[.pointer (some ⟨gr, 0, none⟩)] 38 rfl kj kj (QdQ B gr _ _ hB rs19) fun vv20 W11 hh20 => ?_
  obtain ⟨q11, rs20, hv20⟩ := hh20
  have x11 : ExtB gr w W11 := ExtB.tr x10 q11
  subst hv20
  refine Qab (.pointer (some ⟨g10, 199, none⟩)) 39 rfl kj kj ?_
  have r10_11 := (ExtB.row q11 r10_10 (Ne.symm (Nat.ne_of_lt (Nat.lt_of_lt_of_le hgr b10))))
  refine Qa2 g10 _ (cat [ints .u8 (keyV (Qaj (s) 32)), #[.int .i64 ((bigN (Qaj (Qad (s) 32) 4) : Nat) : Int)], #[.int .i64 ((bigN (Qaj (Qad (Qad (s) 32) 4) 1) : Nat) : Int)], ints .u8 (keyV (Qaj (Qao (Qad (Qad (s) 32) 4)) 32)), #[.int .i64 ((bigN (Qaj (Qad (Qao (Qad (Qad (s) 32) 4)) 32) 1) : Nat) : Int)], #[.bool (nUs (Qad (Qad (Qao (Qad (Qad (s) 32) 4)) 32) 1))], #[.int .i64 (nNm (Qad (Qad (Qao (Qad (Qad (s) 32) 4)) 32) 1))], ints .u8 (nKy (Qad (Qad (Qao (Qad (Qad (s) 32) 4)) 32) 1)), ints .u8 (nSg (Qad (Qad (Qao (Qad (Qad (s) 32) 4)) 32) 1)), ints .u8 (nPa (Qad (Qad (Qao (Qad (Qad (s) 32) 4)) 32) 1)), #[.slice ax17 xs17.length cx17], ints .u8 (List.replicate 32 0), #[.int .i64 0], ints .u8 (Qbn (Qaj (QaL (Qad (Qad (Qao (Qad (Qad (s) 32) 4)) 32) 1)) 64))]) 47 r10_11 rfl kj (Qbh 45 _ _ g10 199 47 [ints .u8 (keyV (Qaj (s) 32)), #[.int .i64 ((bigN (Qaj (Qad (s) 32) 4) : Nat) : Int)], #[.int .i64 ((bigN (Qaj (Qad (Qad (s) 32) 4) 1) : Nat) : Int)], ints .u8 (keyV (Qaj (Qao (Qad (Qad (s) 32) 4)) 32)), #[.int .i64 ((bigN (Qaj (Qad (Qao (Qad (Qad (s) 32) 4)) 32) 1) : Nat) : Int)], #[.bool (nUs (Qad (Qad (Qao (Qad (Qad (s) 32) 4)) 32) 1))], #[.int .i64 (nNm (Qad (Qad (Qao (Qad (Qad (s) 32) 4)) 32) 1))], ints .u8 (nKy (Qad (Qad (Qao (Qad (Qad (s) 32) 4)) 32) 1)), ints .u8 (nSg (Qad (Qad (Qao (Qad (Qad (s) 32) 4)) 32) 1)), ints .u8 (nPa (Qad (Qad (Qao (Qad (Qad (s) 32) 4)) 32) 1)), #[.slice ax17 xs17.length cx17], ints .u8 (List.replicate 32 0), #[.int .i64 0]] [ints .u8 (List.replicate 64 0)] [ints .u8 (Qbn (Qaj (QaL (Qad (Qad (Qao (Qad (Qad (s) 32) 4)) 32) 1)) 64))] [] r10_11 rfl kj kj (isz (n := 64) kj ((Qac _ _).trans (QaB _ (Qam (QaL (Qad (Qad (Qao (Qad (Qad (s) 32) 4)) 32) 1)) 64)))) (by rw [Qaa, Qaa, Qaa, Qaa, Qaa, Qaa, Qaa, Qaa, Qaa, Qaa, Qaa, Qaa, Qaa]; simp only [Array.size_append, cat, ((Qac _ _).trans (List.length_replicate (n := 32))), ((Qac _ _).trans (Qan _ (Qam (Qao (Qad (Qad (s) 32) 4)) 32))), ((Qac _ _).trans (Qan _ (Qam (s) 32))), ((Qac _ _).trans (Qbs (Qad (Qad (Qao (Qad (Qad (s) 32) 4)) 32) 1))), ((Qac _ _).trans (Qbr (Qad (Qad (Qao (Qad (Qad (s) 32) 4)) 32) 1))), ((Qac _ _).trans (Qbq (Qad (Qad (Qao (Qad (Qad (s) 32) 4)) 32) 1)))]; rfl) (eqsz (n := 64) ((Qac _ _).trans (QaB _ (Qam (QaL (Qad (Qad (Qao (Qad (Qad (s) 32) 4)) 32) 1)) 64))) ((Qac _ _).trans (List.length_replicate (n := 64)))) (Qat _ _)) fun W12 p12 r10_12 => ?_
  have x12 : ExtB gr w W12 := ExtB.putsN x11 p12 b10
  refine Qaf ?_
  refine hK18 _ _ ?_
  refine wp_seq_k fun K21 hK21 => ?_
  refine Qae ?_
  refine Qab (.agg (cat [ints .u8 (keyV (Qaj (s) 32)), #[.int .i64 ((bigN (Qaj (Qad (s) 32) 4) : Nat) : Int)], #[.int .i64 ((bigN (Qaj (Qad (Qad (s) 32) 4) 1) : Nat) : Int)], ints .u8 (keyV (Qaj (Qao (Qad (Qad (s) 32) 4)) 32)), #[.int .i64 ((bigN (Qaj (Qad (Qao (Qad (Qad (s) 32) 4)) 32) 1) : Nat) : Int)], #[.bool (nUs (Qad (Qad (Qao (Qad (Qad (s) 32) 4)) 32) 1))], #[.int .i64 (nNm (Qad (Qad (Qao (Qad (Qad (s) 32) 4)) 32) 1))], ints .u8 (nKy (Qad (Qad (Qao (Qad (Qad (s) 32) 4)) 32) 1)), ints .u8 (nSg (Qad (Qad (Qao (Qad (Qad (s) 32) 4)) 32) 1)), ints .u8 (nPa (Qad (Qad (Qao (Qad (Qad (s) 32) 4)) 32) 1)), #[.slice ax17 xs17.length cx17], ints .u8 (List.replicate 32 0), #[.int .i64 0], ints .u8 (Qbn (Qaj (QaL (Qad (Qad (Qao (Qad (Qad (s) 32) 4)) 32) 1)) 64))])) 40 rfl kj (Qa4 47 _ g10 47 _ _ r10_12 rfl kj kj (isz (n := 263) kj (by rw [Qaa, Qaa, Qaa, Qaa, Qaa, Qaa, Qaa, Qaa, Qaa, Qaa, Qaa, Qaa, Qaa, Qaa]; simp only [Array.size_append, cat, ((Qac _ _).trans (List.length_replicate (n := 32))), ((Qac _ _).trans (Qan _ (Qam (Qao (Qad (Qad (s) 32) 4)) 32))), ((Qac _ _).trans (Qan _ (Qam (s) 32))), ((Qac _ _).trans (Qbs (Qad (Qad (Qao (Qad (Qad (s) 32) 4)) 32) 1))), ((Qac _ _).trans (Qbr (Qad (Qad (Qao (Qad (Qad (s) 32) 4)) 32) 1))), ((Qac _ _).trans (Qbq (Qad (Qad (Qao (Qad (Qad (s) 32) 4)) 32) 1))), ((Qac _ _).trans (QaB _ (Qam (QaL (Qad (Qad (Qao (Qad (Qad (s) 32) 4)) 32) 1)) 64)))]; rfl))) ?_
  have r2_2 := (ExtB.row q2 r2_1 (Ne.symm (Nat.ne_of_lt (Nat.lt_of_lt_of_le hgr b2))))
  have r2_3 := (ExtB.row q3 r2_2 (Ne.symm (Nat.ne_of_lt (Nat.lt_of_lt_of_le hgr b2))))
  have r2_4 := (ExtB.row q4 r2_3 (Ne.symm (Nat.ne_of_lt (Nat.lt_of_lt_of_le hgr b2))))
  have r2_5 := (ExtB.row q5 r2_4 (Ne.symm (Nat.ne_of_lt (Nat.lt_of_lt_of_le hgr b2))))
  have r2_6 := (ExtB.row q6 r2_5 (Ne.symm (Nat.ne_of_lt (Nat.lt_of_lt_of_le hgr b2))))
  have r2_7 := (Qas r2_6 e7)
  have r2_8 := (Puts.row p8 r2_7 (QaA r2_6 l10))
  have r2_9 := (ExtB.row q9 r2_8 (Ne.symm (Nat.ne_of_lt (Nat.lt_of_lt_of_le hgr b2))))
  have r2_10 := (Puts.row p10 r2_9 (QaA r2_6 l10))
  have r2_11 := (ExtB.row q11 r2_10 (Ne.symm (Nat.ne_of_lt (Nat.lt_of_lt_of_le hgr b2))))
  have r2_12 := (Puts.row p12 r2_11 (QaA r2_6 l10))
  refine Qa2 g2 _ (cat [ints .u8 (keyV (Qaj (s) 32)), #[.int .i64 ((bigN (Qaj (Qad (s) 32) 4) : Nat) : Int)], #[.int .i64 ((bigN (Qaj (Qad (Qad (s) 32) 4) 1) : Nat) : Int)], ints .u8 (keyV (Qaj (Qao (Qad (Qad (s) 32) 4)) 32)), #[.int .i64 ((bigN (Qaj (Qad (Qao (Qad (Qad (s) 32) 4)) 32) 1) : Nat) : Int)], #[.bool (nUs (Qad (Qad (Qao (Qad (Qad (s) 32) 4)) 32) 1))], #[.int .i64 (nNm (Qad (Qad (Qao (Qad (Qad (s) 32) 4)) 32) 1))], ints .u8 (nKy (Qad (Qad (Qao (Qad (Qad (s) 32) 4)) 32) 1)), ints .u8 (nSg (Qad (Qad (Qao (Qad (Qad (s) 32) 4)) 32) 1)), ints .u8 (nPa (Qad (Qad (Qao (Qad (Qad (s) 32) 4)) 32) 1)), #[.slice ax17 xs17.length cx17], ints .u8 (List.replicate 32 0), #[.int .i64 0], ints .u8 (Qbn (Qaj (QaL (Qad (Qad (Qao (Qad (Qad (s) 32) 4)) 32) 1)) 64))]) 47 r2_12 rfl kj (Qaz 47 _ _ g2 47 _ _ r2_12 rfl kj kj (isz (n := 263) kj (by rw [Qaa, Qaa, Qaa, Qaa, Qaa, Qaa, Qaa, Qaa, Qaa, Qaa, Qaa, Qaa, Qaa, Qaa]; simp only [Array.size_append, cat, ((Qac _ _).trans (List.length_replicate (n := 32))), ((Qac _ _).trans (Qan _ (Qam (Qao (Qad (Qad (s) 32) 4)) 32))), ((Qac _ _).trans (Qan _ (Qam (s) 32))), ((Qac _ _).trans (Qbs (Qad (Qad (Qao (Qad (Qad (s) 32) 4)) 32) 1))), ((Qac _ _).trans (Qbr (Qad (Qad (Qao (Qad (Qad (s) 32) 4)) 32) 1))), ((Qac _ _).trans (Qbq (Qad (Qad (Qao (Qad (Qad (s) 32) 4)) 32) 1))), ((Qac _ _).trans (QaB _ (Qam (QaL (Qad (Qad (Qao (Qad (Qad (s) 32) 4)) 32) 1)) 64)))]; rfl)) (eqsz (n := 263) (by rw [Qaa, Qaa, Qaa, Qaa, Qaa, Qaa, Qaa, Qaa, Qaa, Qaa, Qaa, Qaa, Qaa, Qaa]; simp only [Array.size_append, cat, ((Qac _ _).trans (List.length_replicate (n := 32))), ((Qac _ _).trans (List.length_replicate (n := 64)))]; rfl) (by rw [Qaa, Qaa, Qaa, Qaa, Qaa, Qaa, Qaa, Qaa, Qaa, Qaa, Qaa, Qaa, Qaa, Qaa]; simp only [Array.size_append, cat, ((Qac _ _).trans (List.length_replicate (n := 32))), ((Qac _ _).trans (Qan _ (Qam (Qao (Qad (Qad (s) 32) 4)) 32))), ((Qac _ _).trans (Qan _ (Qam (s) 32))), ((Qac _ _).trans (Qbs (Qad (Qad (Qao (Qad (Qad (s) 32) 4)) 32) 1))), ((Qac _ _).trans (Qbr (Qad (Qad (Qao (Qad (Qad (s) 32) 4)) 32) 1))), ((Qac _ _).trans (Qbq (Qad (Qad (Qao (Qad (Qad (s) 32) 4)) 32) 1))), ((Qac _ _).trans (QaB _ (Qam (QaL (Qad (Qad (Qao (Qad (Qad (s) 32) 4)) 32) 1)) 64)))]; rfl)) (QaP _ (by intro a ha; simp only [List.mem_cons, List.not_mem_nil, or_false] at ha; rcases ha with rfl | rfl | rfl | rfl | rfl | rfl | rfl | rfl | rfl | rfl | rfl | rfl | rfl | rfl; exact (Qat _ _); exact (Qaq _ rfl); exact (Qaq _ rfl); exact (Qat _ _); exact (Qaq _ rfl); exact (Qaq _ rfl); exact (Qaq _ rfl); exact (Qat _ _); exact (Qat _ _); exact (Qat _ _); exact (Qaq _ rfl); exact (Qat _ _); exact (Qaq _ rfl); exact (Qat _ _)))) fun W13 p13 r2_13 => ?_
  have x13 : ExtB gr w W13 := ExtB.putsN x12 p13 b2
  refine Qaf ?_
  refine hK21 _ _ ?_
  refine wp_ret ?_
  repeat (first | with_reducible refine goR1 ?_ | with_reducible refine goR2 ?_)
  have f22_10 := (hox17.puts p10 (QaV hox17 (Qay r10_8)))
  have f23_11 := (Qbg f22_10 q11 (QaV f22_10 (Nat.lt_of_lt_of_le hgr x8.2.2.2.1)))
  have f24_12 := (f23_11.puts p12 (QaV hox17 (Qay r10_8)))
  have f25_13 := (f24_12.puts p13 (QaV hox17 (Qay r2_8)))
  have rs26 := (RSt.put (RSt.put rs20 hB p12 (Nat.lt_of_lt_of_le hgr b10)) hB p13 (Nat.lt_of_lt_of_le hgr b2))
  exact (show bodyPost _ _ _ .ret _ _ from ret1 (.agg (cat [ints .u8 (keyV (Qaj (s) 32)), #[.int .i64 ((bigN (Qaj (Qad (s) 32) 4) : Nat) : Int)], #[.int .i64 ((bigN (Qaj (Qad (Qad (s) 32) 4) 1) : Nat) : Int)], ints .u8 (keyV (Qaj (Qao (Qad (Qad (s) 32) 4)) 32)), #[.int .i64 ((bigN (Qaj (Qad (Qao (Qad (Qad (s) 32) 4)) 32) 1) : Nat) : Int)], #[.bool (nUs (Qad (Qad (Qao (Qad (Qad (s) 32) 4)) 32) 1))], #[.int .i64 (nNm (Qad (Qad (Qao (Qad (Qad (s) 32) 4)) 32) 1))], ints .u8 (nKy (Qad (Qad (Qao (Qad (Qad (s) 32) 4)) 32) 1)), ints .u8 (nSg (Qad (Qad (Qao (Qad (Qad (s) 32) 4)) 32) 1)), ints .u8 (nPa (Qad (Qad (Qao (Qad (Qad (s) 32) 4)) 32) 1)), #[.slice ax17 xs17.length cx17], ints .u8 (List.replicate 32 0), #[.int .i64 0], ints .u8 (Qbn (Qaj (QaL (Qad (Qad (Qao (Qad (Qad (s) 32) 4)) 32) 1)) 64))])) rfl (QaW g2 47 _ r2_13 kj kj (isz (n := 263) kj (by rw [Qaa, Qaa, Qaa, Qaa, Qaa, Qaa, Qaa, Qaa, Qaa, Qaa, Qaa, Qaa, Qaa, Qaa]; simp only [Array.size_append, cat, ((Qac _ _).trans (List.length_replicate (n := 32))), ((Qac _ _).trans (Qan _ (Qam (Qao (Qad (Qad (s) 32) 4)) 32))), ((Qac _ _).trans (Qan _ (Qam (s) 32))), ((Qac _ _).trans (Qbs (Qad (Qad (Qao (Qad (Qad (s) 32) 4)) 32) 1))), ((Qac _ _).trans (Qbr (Qad (Qad (Qao (Qad (Qad (s) 32) 4)) 32) 1))), ((Qac _ _).trans (Qbq (Qad (Qad (Qao (Qad (Qad (s) 32) 4)) 32) 1))), ((Qac _ _).trans (QaB _ (Qam (QaL (Qad (Qad (Qao (Qad (Qad (s) 32) 4)) 32) 1)) 64)))]; rfl))) ⟨_, rfl, x13, (show RSt B gr (Qbx s) _ by have h9 := rs26; unfold Qbx; rw [eM]; exact h9), xs17, _, _, by rw [eUs, eNm, eKy, eSg, ePa, eSt, eAt]; unfold qSig; rw [eM]; rfl, OwnN.base x8.2.2.2.1 f25_13, hlx17, fun hne => by rw [eL]; exact hxx17 (fun h0 => hne (by have h1 : QaL (qS5 s) = none := h0; unfold Qbx; rw [eM, h1]; rfl))⟩)
set_option maxHeartbeats 4000000 in
set_option maxRecDepth 100000 in
theorem QfC (B gr : Nat) (s : Option (List Int)) (w : World) (hB : B ≤ gr) (h : RSt B gr s w) (hk : bigN (Qaj (qS4 s) 1) = 3) : Calls Try.prog 61 #[.pointer (some ⟨gr, 0, none⟩)] w (Qb4 B gr w (Qbx s) fun v W => ∃ (xz : List Int) (a : Option Addr) (c : Nat), v = .agg (cat [ints .u8 (qGrp s), #[.int .i64 (qEp s)], #[.int .i64 (qFr s)], ints .u8 (qBa s), #[.int .i64 ((qKd s : Nat) : Int)], #[.bool (qUs s)], #[.int .i64 (qNm s)], ints .u8 (qKy s), ints .u8 (qSg s), ints .u8 (qPa s), #[.slice a xz.length c], ints .u8 (qSt s), #[.int .i64 (qAt s)], ints .u8 (qSig s)]) ∧ OwnN .i64 3 w.heap.size xz (.slice a xz.length c) W ∧ xz.length ≤ 255 ∧ (Qbx s ≠ none → xz = qL s)) := by
  have hgr := h.lt
  have hk2 : bigN (Qaj (Qad (Qao (Qad (Qad s 32) 4)) 32) 1) = qKd s := rfl
  unfold qKd at hk2
  have hk0 : qKd s = bigN (Qaj (qS4 s) 1) := rfl
  have k1 : (qKd s == 1) = false := beq_eq_false_iff_ne.2 (show qKd s ≠ 1 by omega)
  have k2 : (qKd s == 2) = false := beq_eq_false_iff_ne.2 (show qKd s ≠ 2 by omega)
  have k3 : (qKd s == 3) = true := beq_iff_eq.2 (show qKd s = 3 by omega)
  have kn : qNd s = false := by unfold qNd; rw [k1, k2]; rfl
  have eUs : qUs s = false := by unfold qUs; rw [kn]; rfl
  have eNm : qNm s = 0 := by unfold qNm; rw [kn]; rfl
  have eKy : qKy s = List.replicate 32 0 := by unfold qKy; rw [kn]; rfl
  have eSg : qSg s = List.replicate 32 0 := by unfold qSg; rw [kn]; rfl
  have ePa : qPa s = List.replicate 32 0 := by unfold qPa; rw [kn]; rfl
  have eL : qL s = [] := by unfold qL; rw [kn]; rfl
  have eSt : qSt s = List.replicate 32 0 := by unfold qSt; rw [k1]; rfl
  have eAt : qAt s = ((bigN (Qaj (qS5 s) 1) : Nat) : Int) := by unfold qAt; rw [k3]; rfl
  have eM : Qce s = Qao (qS5 s) := by unfold Qce; rw [k1, k2, k3]; rfl
  refine enter 41 [(0, .pointer (some ⟨gr, 0, none⟩))] Try.func61 rfl rfl kj rfl ?_
  refine wp_seq_k fun K1 hK1 => ?_
  refine Qae ?_
  refine Qav (cat [ints .u8 (List.replicate 32 0), #[.int .i64 0], #[.int .i64 0], ints .u8 (List.replicate 32 0), #[.int .i64 0], #[.bool false], #[.int .i64 0], ints .u8 (List.replicate 32 0), ints .u8 (List.replicate 32 0), ints .u8 (List.replicate 32 0), #[.slice none 0 0], ints .u8 (List.replicate 32 0), #[.int .i64 0], ints .u8 (List.replicate 64 0)]) 47 2 rfl kj (QaZ 47 _ rfl (Qb3 _)) fun g2 W1 l2 e1 r2_1 => ?_
  have x1 : ExtB gr w W1 := ExtB.ext (ExtB.refl gr w) e1
  have b2 : w.heap.size ≤ g2 := Nat.le_trans (ExtB.refl gr w).size l2
  refine Qaf ?_
  refine hK1 _ _ ?_
  refine wp_seq_k fun K3 hK3 => ?_
  refine Qae ?_
  refine Qab (.pointer (some ⟨gr, 0, none⟩)) 4 rfl kj kj ?_
  have rs4 := (RSt.ext h hB e1)
  refine Qal (fun v W' => ExtB gr W1 W' ∧ RSt B gr (Qad (s) 32) W' ∧ (fun (v : Value) (_ : World) => v = .agg (ints .u8 (keyV (Qaj (s) 32)))) v W') 109 #[.pointer (some ⟨gr, 0, none⟩)] 5 rfl kj kj (QbO B gr _ _ hB rs4) fun vv5 W2 hh5 => ?_
  obtain ⟨q2, rs5, hv5⟩ := hh5
  have x2 : ExtB gr w W2 := ExtB.tr x1 q2
  subst hv5
  refine Qab (.pointer (some ⟨gr, 0, none⟩)) 6 rfl kj kj ?_
  refine Qal (fun v W' => ExtB gr W2 W' ∧ RSt B gr (Qad (Qad (s) 32) 4) W' ∧ (fun (v : Value) (_ : World) => v = .int .i64 ((bigN (Qaj (Qad (s) 32) 4) : Nat) : Int)) v W') 110 #[.pointer (some ⟨gr, 0, none⟩), .int .i64 4] 7 rfl kj kj (QaS B gr _ 4 _ hB rs5 (by decide)) fun vv6 W3 hh6 => ?_
  obtain ⟨q3, rs6, hv6⟩ := hh6
  have x3 : ExtB gr w W3 := ExtB.tr x2 q3
  subst hv6
  refine Qab (.pointer (some ⟨gr, 0, none⟩)) 8 rfl kj kj ?_
  refine Qal (fun v W' => ExtB gr W3 W' ∧ RSt B gr (Qao (Qad (Qad (s) 32) 4)) W' ∧ (fun (v : Value) (_ : World) => v = .int .i64 ((bigN (Qaj (Qad (Qad (s) 32) 4) 1) : Nat) : Int)) v W') 111 #[.pointer (some ⟨gr, 0, none⟩)] 9 rfl kj kj (Qc6 B gr _ _ hB rs6) fun vv7 W4 hh7 => ?_
  obtain ⟨q4, rs7, hv7⟩ := hh7
  have x4 : ExtB gr w W4 := ExtB.tr x3 q4
  subst hv7
  refine Qab (.pointer (some ⟨gr, 0, none⟩)) 10 rfl kj kj ?_
  refine Qal (fun v W' => ExtB gr W4 W' ∧ RSt B gr (Qad (Qao (Qad (Qad (s) 32) 4)) 32) W' ∧ (fun (v : Value) (_ : World) => v = .agg (ints .u8 (keyV (Qaj (Qao (Qad (Qad (s) 32) 4)) 32)))) v W') 109 #[.pointer (some ⟨gr, 0, none⟩)] 11 rfl kj kj (QbO B gr _ _ hB rs7) fun vv8 W5 hh8 => ?_
  obtain ⟨q5, rs8, hv8⟩ := hh8
  have x5 : ExtB gr w W5 := ExtB.tr x4 q5
  subst hv8
  refine Qab (.pointer (some ⟨gr, 0, none⟩)) 12 rfl kj kj ?_
  refine Qal (fun v W' => ExtB gr W5 W' ∧ RSt B gr (Qad (Qad (Qao (Qad (Qad (s) 32) 4)) 32) 1) W' ∧ (fun (v : Value) (_ : World) => v = .int .i64 ((bigN (Qaj (Qad (Qao (Qad (Qad (s) 32) 4)) 32) 1) : Nat) : Int)) v W') 110 #[.pointer (some ⟨gr, 0, none⟩), .int .i64 1] 13 rfl kj kj (QaS B gr _ 1 _ hB rs8 (by decide)) fun vv9 W6 hh9 => ?_
  obtain ⟨q6, rs9, hv9⟩ := hh9
  have x6 : ExtB gr w W6 := ExtB.tr x5 q6
  subst hv9
  refine Qab (.agg (cat [ints .u8 (keyV (Qaj (s) 32)), #[.int .i64 ((bigN (Qaj (Qad (s) 32) 4) : Nat) : Int)], #[.int .i64 ((bigN (Qaj (Qad (Qad (s) 32) 4) 1) : Nat) : Int)], ints .u8 (keyV (Qaj (Qao (Qad (Qad (s) 32) 4)) 32)), #[.int .i64 ((bigN (Qaj (Qad (Qao (Qad (Qad (s) 32) 4)) 32) 1) : Nat) : Int)], #[.bool false], #[.int .i64 0], ints .u8 (List.replicate 32 0), ints .u8 (List.replicate 32 0), ints .u8 (List.replicate 32 0), #[.slice none 0 0], ints .u8 (List.replicate 32 0), #[.int .i64 0], ints .u8 (List.replicate 64 0)])) 14 rfl kj (Qca 47 _ [ints .u8 (List.replicate 32 0), #[.int .i64 0], #[.int .i64 0], ints .u8 (List.replicate 32 0), #[.int .i64 0]] [#[.bool false], #[.int .i64 0], ints .u8 (List.replicate 32 0), ints .u8 (List.replicate 32 0), ints .u8 (List.replicate 32 0), #[.slice none 0 0], ints .u8 (List.replicate 32 0), #[.int .i64 0], ints .u8 (List.replicate 64 0)] #[(0, 32), (32, 1), (33, 1), (34, 32), (66, 1), (67, 99), (166, 32), (198, 1), (199, 64)] [(0, 32, .agg (ints .u8 (keyV (Qaj (s) 32))), ints .u8 (keyV (Qaj (s) 32))), (1, 1, .int .i64 ((bigN (Qaj (Qad (s) 32) 4) : Nat) : Int), #[.int .i64 ((bigN (Qaj (Qad (s) 32) 4) : Nat) : Int)]), (2, 1, .int .i64 ((bigN (Qaj (Qad (Qad (s) 32) 4) 1) : Nat) : Int), #[.int .i64 ((bigN (Qaj (Qad (Qad (s) 32) 4) 1) : Nat) : Int)]), (3, 32, .agg (ints .u8 (keyV (Qaj (Qao (Qad (Qad (s) 32) 4)) 32))), ints .u8 (keyV (Qaj (Qao (Qad (Qad (s) 32) 4)) 32))), (4, 1, .int .i64 ((bigN (Qaj (Qad (Qao (Qad (Qad (s) 32) 4)) 32) 1) : Nat) : Int), #[.int .i64 ((bigN (Qaj (Qad (Qao (Qad (Qad (s) 32) 4)) 32) 1) : Nat) : Int)])] rfl kj ⟨kj, rfl, ((Qac _ _).trans (Qan _ (Qam (s) 32))), kj, rfl, kj, kj, rfl, kj, kj, rfl, ((Qac _ _).trans (Qan _ (Qam (Qao (Qad (Qad (s) 32) 4)) 32))), kj, rfl, kj, trivial⟩ kj (Qb3 _) kj kj) ?_
  refine Qav (cat [ints .u8 (List.replicate 32 0), #[.int .i64 0], #[.int .i64 0], ints .u8 (List.replicate 32 0), #[.int .i64 0], #[.bool false], #[.int .i64 0], ints .u8 (List.replicate 32 0), ints .u8 (List.replicate 32 0), ints .u8 (List.replicate 32 0), #[.slice none 0 0], ints .u8 (List.replicate 32 0), #[.int .i64 0], ints .u8 (List.replicate 64 0)]) 47 3 rfl kj (QaZ 47 _ rfl (Qb3 _)) fun g10 W7 l10 e7 r10_7 => ?_
  have x7 : ExtB gr w W7 := ExtB.ext x6 e7
  have b10 : w.heap.size ≤ g10 := Nat.le_trans x6.size l10
  refine Qa2 g10 _ (cat [ints .u8 (keyV (Qaj (s) 32)), #[.int .i64 ((bigN (Qaj (Qad (s) 32) 4) : Nat) : Int)], #[.int .i64 ((bigN (Qaj (Qad (Qad (s) 32) 4) 1) : Nat) : Int)], ints .u8 (keyV (Qaj (Qao (Qad (Qad (s) 32) 4)) 32)), #[.int .i64 ((bigN (Qaj (Qad (Qao (Qad (Qad (s) 32) 4)) 32) 1) : Nat) : Int)], #[.bool false], #[.int .i64 0], ints .u8 (List.replicate 32 0), ints .u8 (List.replicate 32 0), ints .u8 (List.replicate 32 0), #[.slice none 0 0], ints .u8 (List.replicate 32 0), #[.int .i64 0], ints .u8 (List.replicate 64 0)]) 47 r10_7 rfl kj (Qaz 47 _ _ g10 47 _ _ r10_7 rfl kj kj (isz (n := 263) kj (by rw [Qaa, Qaa, Qaa, Qaa, Qaa, Qaa, Qaa, Qaa, Qaa, Qaa, Qaa, Qaa, Qaa, Qaa]; simp only [Array.size_append, cat, ((Qac _ _).trans (List.length_replicate (n := 32))), ((Qac _ _).trans (List.length_replicate (n := 64))), ((Qac _ _).trans (Qan _ (Qam (Qao (Qad (Qad (s) 32) 4)) 32))), ((Qac _ _).trans (Qan _ (Qam (s) 32)))]; rfl)) (eqsz (n := 263) (by rw [Qaa, Qaa, Qaa, Qaa, Qaa, Qaa, Qaa, Qaa, Qaa, Qaa, Qaa, Qaa, Qaa, Qaa]; simp only [Array.size_append, cat, ((Qac _ _).trans (List.length_replicate (n := 32))), ((Qac _ _).trans (List.length_replicate (n := 64)))]; rfl) (by rw [Qaa, Qaa, Qaa, Qaa, Qaa, Qaa, Qaa, Qaa, Qaa, Qaa, Qaa, Qaa, Qaa, Qaa]; simp only [Array.size_append, cat, ((Qac _ _).trans (List.length_replicate (n := 32))), ((Qac _ _).trans (List.length_replicate (n := 64))), ((Qac _ _).trans (Qan _ (Qam (Qao (Qad (Qad (s) 32) 4)) 32))), ((Qac _ _).trans (Qan _ (Qam (s) 32)))]; rfl)) (QaP _ (by intro a ha; simp only [List.mem_cons, List.not_mem_nil, or_false] at ha; rcases ha with rfl | rfl | rfl | rfl | rfl | rfl | rfl | rfl | rfl | rfl | rfl | rfl | rfl | rfl; exact (Qat _ _); exact (Qaq _ rfl); exact (Qaq _ rfl); exact (Qat _ _); exact (Qaq _ rfl); exact (Qaq _ rfl); exact (Qaq _ rfl); exact (Qat _ _); exact (Qat _ _); exact (Qat _ _); exact (Qaq _ rfl); exact (Qat _ _); exact (Qaq _ rfl); exact (Qat _ _)))) fun W8 p8 r10_8 => ?_
  have x8 : ExtB gr w W8 := ExtB.putsN x7 p8 b10
  refine Qaf ?_
  refine hK3 _ _ ?_
  refine wp_seq_k fun K11 hK11 => ?_
  refine wp_seq_k fun K12 hK12 => ?_
  refine Qae ?_
  refine Qab (.pointer (some ⟨g10, 66, none⟩)) 15 rfl kj kj ?_
  refine Qab (.int .i64 ((bigN (Qaj (Qad (Qao (Qad (Qad (s) 32) 4)) 32) 1) : Nat) : Int)) 16 rfl kj (Qah 3 _ g10 66 47 _ (.int .i64 ((bigN (Qaj (Qad (Qao (Qad (Qad (s) 32) 4)) 32) 1) : Nat) : Int)) _ r10_8 rfl kj (Qak [ints .u8 (keyV (Qaj (s) 32)), #[.int .i64 ((bigN (Qaj (Qad (s) 32) 4) : Nat) : Int)], #[.int .i64 ((bigN (Qaj (Qad (Qad (s) 32) 4) 1) : Nat) : Int)], ints .u8 (keyV (Qaj (Qao (Qad (Qad (s) 32) 4)) 32))] [#[.int .i64 ((bigN (Qaj (Qad (Qao (Qad (Qad (s) 32) 4)) 32) 1) : Nat) : Int)]] [#[.bool false], #[.int .i64 0], ints .u8 (List.replicate 32 0), ints .u8 (List.replicate 32 0), ints .u8 (List.replicate 32 0), #[.slice none 0 0], ints .u8 (List.replicate 32 0), #[.int .i64 0], ints .u8 (List.replicate 64 0)] 66 (by rw [Qaa, Qaa, Qaa, Qaa]; simp only [Array.size_append, cat, ((Qac _ _).trans (Qan _ (Qam (Qao (Qad (Qad (s) 32) 4)) 32))), ((Qac _ _).trans (Qan _ (Qam (s) 32)))]; rfl) 0 _ rfl) kj) ?_
  refine Qaf ?_
  refine hK12 _ _ ?_
  refine wp_block ?_
  refine wp_seq_k fun K13 hK13 => ?_
  refine Qae ?_
  refine Qab (.bool false) 20 rfl kj (Qax (u := .bool ((((bigN (Qaj (Qad (Qao (Qad (Qad (s) 32) 4)) 32) 1) : Nat) : Int) == 1))) kj (congrArg Value.bool (beq_eq_false_iff_ne.2 (by omega)))) ?_
  refine Qab (.bool false) 19 rfl kj kj ?_
  refine Qaf ?_
  refine hK13 _ _ ?_
  refine cond_false kj ?_
  refine wp_seq_k fun K14 hK14 => ?_
  refine Qae ?_
  refine Qab (.bool false) 28 rfl kj (Qax (u := .bool ((((bigN (Qaj (Qad (Qao (Qad (Qad (s) 32) 4)) 32) 1) : Nat) : Int) == 2))) kj (congrArg Value.bool (beq_eq_false_iff_ne.2 (by omega)))) ?_
  refine Qab (.bool false) 27 rfl kj kj ?_
  refine Qaf ?_
  refine hK14 _ _ ?_
  refine cond_false kj ?_
  refine wp_seq_k fun K15 hK15 => ?_
  refine Qae ?_
  refine Qab (.bool true) 33 rfl kj (Qax (u := .bool ((((bigN (Qaj (Qad (Qao (Qad (Qad (s) 32) 4)) 32) 1) : Nat) : Int) == 3))) kj (congrArg Value.bool (beq_iff_eq.2 (by omega)))) ?_
  refine Qab (.bool true) 32 rfl kj kj ?_
  refine Qaf ?_
  refine hK15 _ _ ?_
  refine cond_true kj ?_
  refine Qae ?_
  refine Qab (.pointer (some ⟨gr, 0, none⟩)) 34 rfl kj kj ?_
  have rs16 := (RSt.put (RSt.ext rs9 hB e7) hB p8 (Nat.lt_of_lt_of_le hgr b10))
  refine Qal (fun v W' => ExtB gr W8 W' ∧ RSt B gr (Qao (Qad (Qad (Qao (Qad (Qad (s) 32) 4)) 32) 1)) W' ∧ (fun (v : Value) (_ : World) => v = .int .i64 ((bigN (Qaj (Qad (Qad (Qao (Qad (Qad (s) 32) 4)) 32) 1) 1) : Nat) : Int)) v W') 111 #[.pointer (some ⟨gr, 0, none⟩)] 35 rfl kj kj (Qc6 B gr _ _ hB rs16) fun vv17 W9 hh17 => ?_
  obtain ⟨q9, rs17, hv17⟩ := hh17
  have x9 : ExtB gr w W9 := ExtB.tr x8 q9
  subst hv17
  refine Qab (.pointer (some ⟨g10, 198, none⟩)) 36 rfl kj kj ?_
  have r10_9 := (ExtB.row q9 r10_8 (Ne.symm (Nat.ne_of_lt (Nat.lt_of_lt_of_le hgr b10))))
  refine Qa2 g10 _ (cat [ints .u8 (keyV (Qaj (s) 32)), #[.int .i64 ((bigN (Qaj (Qad (s) 32) 4) : Nat) : Int)], #[.int .i64 ((bigN (Qaj (Qad (Qad (s) 32) 4) 1) : Nat) : Int)], ints .u8 (keyV (Qaj (Qao (Qad (Qad (s) 32) 4)) 32)), #[.int .i64 ((bigN (Qaj (Qad (Qao (Qad (Qad (s) 32) 4)) 32) 1) : Nat) : Int)], #[.bool false], #[.int .i64 0], ints .u8 (List.replicate 32 0), ints .u8 (List.replicate 32 0), ints .u8 (List.replicate 32 0), #[.slice none 0 0], ints .u8 (List.replicate 32 0), #[.int .i64 ((bigN (Qaj (Qad (Qad (Qao (Qad (Qad (s) 32) 4)) 32) 1) 1) : Nat) : Int)], ints .u8 (List.replicate 64 0)]) 47 r10_9 rfl kj (Qeg 3 _ _ g10 198 47 [ints .u8 (keyV (Qaj (s) 32)), #[.int .i64 ((bigN (Qaj (Qad (s) 32) 4) : Nat) : Int)], #[.int .i64 ((bigN (Qaj (Qad (Qad (s) 32) 4) 1) : Nat) : Int)], ints .u8 (keyV (Qaj (Qao (Qad (Qad (s) 32) 4)) 32)), #[.int .i64 ((bigN (Qaj (Qad (Qao (Qad (Qad (s) 32) 4)) 32) 1) : Nat) : Int)], #[.bool false], #[.int .i64 0], ints .u8 (List.replicate 32 0), ints .u8 (List.replicate 32 0), ints .u8 (List.replicate 32 0), #[.slice none 0 0], ints .u8 (List.replicate 32 0)] [ints .u8 (List.replicate 64 0)] _ (.int .i64 ((bigN (Qaj (Qad (Qad (Qao (Qad (Qad (s) 32) 4)) 32) 1) 1) : Nat) : Int)) r10_9 rfl kj kj kj (by rw [Qaa, Qaa, Qaa, Qaa, Qaa, Qaa, Qaa, Qaa, Qaa, Qaa, Qaa, Qaa]; simp only [Array.size_append, cat, ((Qac _ _).trans (List.length_replicate (n := 32))), ((Qac _ _).trans (Qan _ (Qam (Qao (Qad (Qad (s) 32) 4)) 32))), ((Qac _ _).trans (Qan _ (Qam (s) 32)))]; rfl) rfl rfl) fun W10 p10 r10_10 => ?_
  have x10 : ExtB gr w W10 := ExtB.putsN x9 p10 b10
  refine Qaf ?_
  refine hK11 _ _ ?_
  refine wp_seq_k fun K18 hK18 => ?_
  refine Qae ?_
  refine Qab (.pointer (some ⟨gr, 0, none⟩)) 37 rfl kj kj ?_
  have rs19 := (RSt.put rs17 hB p10 (Nat.lt_of_lt_of_le hgr b10))
  refine Qal (fun v W' => ExtB gr W10 W' ∧ RSt B gr (Qad (Qao (Qad (Qad (Qao (Qad (Qad (s) 32) 4)) 32) 1)) 64) W' ∧ (fun (v : Value) (_ : World) => v = .agg (ints .u8 (Qbn (Qaj (Qao (Qad (Qad (Qao (Qad (Qad (s) 32) 4)) 32) 1)) 64)))) v W') 112 #[.pointer (some ⟨gr, 0, none⟩)] 38 rfl kj kj (QdQ B gr _ _ hB rs19) fun vv20 W11 hh20 => ?_
  obtain ⟨q11, rs20, hv20⟩ := hh20
  have x11 : ExtB gr w W11 := ExtB.tr x10 q11
  subst hv20
  refine Qab (.pointer (some ⟨g10, 199, none⟩)) 39 rfl kj kj ?_
  have r10_11 := (ExtB.row q11 r10_10 (Ne.symm (Nat.ne_of_lt (Nat.lt_of_lt_of_le hgr b10))))
  refine Qa2 g10 _ (cat [ints .u8 (keyV (Qaj (s) 32)), #[.int .i64 ((bigN (Qaj (Qad (s) 32) 4) : Nat) : Int)], #[.int .i64 ((bigN (Qaj (Qad (Qad (s) 32) 4) 1) : Nat) : Int)], ints .u8 (keyV (Qaj (Qao (Qad (Qad (s) 32) 4)) 32)), #[.int .i64 ((bigN (Qaj (Qad (Qao (Qad (Qad (s) 32) 4)) 32) 1) : Nat) : Int)], #[.bool false], #[.int .i64 0], ints .u8 (List.replicate 32 0), ints .u8 (List.replicate 32 0), ints .u8 (List.replicate 32 0), #[.slice none 0 0], ints .u8 (List.replicate 32 0), #[.int .i64 ((bigN (Qaj (Qad (Qad (Qao (Qad (Qad (s) 32) 4)) 32) 1) 1) : Nat) : Int)], ints .u8 (Qbn (Qaj (Qao (Qad (Qad (Qao (Qad (Qad (s) 32) 4)) 32) 1)) 64))]) 47 r10_11 rfl kj (Qbh 45 _ _ g10 199 47 [ints .u8 (keyV (Qaj (s) 32)), #[.int .i64 ((bigN (Qaj (Qad (s) 32) 4) : Nat) : Int)], #[.int .i64 ((bigN (Qaj (Qad (Qad (s) 32) 4) 1) : Nat) : Int)], ints .u8 (keyV (Qaj (Qao (Qad (Qad (s) 32) 4)) 32)), #[.int .i64 ((bigN (Qaj (Qad (Qao (Qad (Qad (s) 32) 4)) 32) 1) : Nat) : Int)], #[.bool false], #[.int .i64 0], ints .u8 (List.replicate 32 0), ints .u8 (List.replicate 32 0), ints .u8 (List.replicate 32 0), #[.slice none 0 0], ints .u8 (List.replicate 32 0), #[.int .i64 ((bigN (Qaj (Qad (Qad (Qao (Qad (Qad (s) 32) 4)) 32) 1) 1) : Nat) : Int)]] [ints .u8 (List.replicate 64 0)] [ints .u8 (Qbn (Qaj (Qao (Qad (Qad (Qao (Qad (Qad (s) 32) 4)) 32) 1)) 64))] [] r10_11 rfl kj kj (isz (n := 64) kj ((Qac _ _).trans (QaB _ (Qam (Qao (Qad (Qad (Qao (Qad (Qad (s) 32) 4)) 32) 1)) 64)))) (by rw [Qaa, Qaa, Qaa, Qaa, Qaa, Qaa, Qaa, Qaa, Qaa, Qaa, Qaa, Qaa, Qaa]; simp only [Array.size_append, cat, ((Qac _ _).trans (List.length_replicate (n := 32))), ((Qac _ _).trans (Qan _ (Qam (Qao (Qad (Qad (s) 32) 4)) 32))), ((Qac _ _).trans (Qan _ (Qam (s) 32)))]; rfl) (eqsz (n := 64) ((Qac _ _).trans (QaB _ (Qam (Qao (Qad (Qad (Qao (Qad (Qad (s) 32) 4)) 32) 1)) 64))) ((Qac _ _).trans (List.length_replicate (n := 64)))) (Qat _ _)) fun W12 p12 r10_12 => ?_
  have x12 : ExtB gr w W12 := ExtB.putsN x11 p12 b10
  refine Qaf ?_
  refine hK18 _ _ ?_
  refine wp_seq_k fun K21 hK21 => ?_
  refine Qae ?_
  refine Qab (.agg (cat [ints .u8 (keyV (Qaj (s) 32)), #[.int .i64 ((bigN (Qaj (Qad (s) 32) 4) : Nat) : Int)], #[.int .i64 ((bigN (Qaj (Qad (Qad (s) 32) 4) 1) : Nat) : Int)], ints .u8 (keyV (Qaj (Qao (Qad (Qad (s) 32) 4)) 32)), #[.int .i64 ((bigN (Qaj (Qad (Qao (Qad (Qad (s) 32) 4)) 32) 1) : Nat) : Int)], #[.bool false], #[.int .i64 0], ints .u8 (List.replicate 32 0), ints .u8 (List.replicate 32 0), ints .u8 (List.replicate 32 0), #[.slice none 0 0], ints .u8 (List.replicate 32 0), #[.int .i64 ((bigN (Qaj (Qad (Qad (Qao (Qad (Qad (s) 32) 4)) 32) 1) 1) : Nat) : Int)], ints .u8 (Qbn (Qaj (Qao (Qad (Qad (Qao (Qad (Qad (s) 32) 4)) 32) 1)) 64))])) 40 rfl kj (Qa4 47 _ g10 47 _ _ r10_12 rfl kj kj (isz (n := 263) kj (by rw [Qaa, Qaa, Qaa, Qaa, Qaa, Qaa, Qaa, Qaa, Qaa, Qaa, Qaa, Qaa, Qaa, Qaa]; simp only [Array.size_append, cat, ((Qac _ _).trans (List.length_replicate (n := 32))), ((Qac _ _).trans (Qan _ (Qam (Qao (Qad (Qad (s) 32) 4)) 32))), ((Qac _ _).trans (Qan _ (Qam (s) 32))), ((Qac _ _).trans (QaB _ (Qam (Qao (Qad (Qad (Qao (Qad (Qad (s) 32) 4)) 32) 1)) 64)))]; rfl))) ?_
  have r2_2 := (ExtB.row q2 r2_1 (Ne.symm (Nat.ne_of_lt (Nat.lt_of_lt_of_le hgr b2))))
  have r2_3 := (ExtB.row q3 r2_2 (Ne.symm (Nat.ne_of_lt (Nat.lt_of_lt_of_le hgr b2))))
  have r2_4 := (ExtB.row q4 r2_3 (Ne.symm (Nat.ne_of_lt (Nat.lt_of_lt_of_le hgr b2))))
  have r2_5 := (ExtB.row q5 r2_4 (Ne.symm (Nat.ne_of_lt (Nat.lt_of_lt_of_le hgr b2))))
  have r2_6 := (ExtB.row q6 r2_5 (Ne.symm (Nat.ne_of_lt (Nat.lt_of_lt_of_le hgr b2))))
  have r2_7 := (Qas r2_6 e7)
  have r2_8 := (Puts.row p8 r2_7 (QaA r2_6 l10))
  have r2_9 := (ExtB.row q9 r2_8 (Ne.symm (Nat.ne_of_lt (Nat.lt_of_lt_of_le hgr b2))))
  have r2_10 := (Puts.row p10 r2_9 (QaA r2_6 l10))
  have r2_11 := (ExtB.row q11 r2_10 (Ne.symm (Nat.ne_of_lt (Nat.lt_of_lt_of_le hgr b2))))
  have r2_12 := (Puts.row p12 r2_11 (QaA r2_6 l10))
  refine Qa2 g2 _ (cat [ints .u8 (keyV (Qaj (s) 32)), #[.int .i64 ((bigN (Qaj (Qad (s) 32) 4) : Nat) : Int)], #[.int .i64 ((bigN (Qaj (Qad (Qad (s) 32) 4) 1) : Nat) : Int)], ints .u8 (keyV (Qaj (Qao (Qad (Qad (s) 32) 4)) 32)), #[.int .i64 ((bigN (Qaj (Qad (Qao (Qad (Qad (s) 32) 4)) 32) 1) : Nat) : Int)], #[.bool false], #[.int .i64 0], ints .u8 (List.replicate 32 0), ints .u8 (List.replicate 32 0), ints .u8 (List.replicate 32 0), #[.slice none 0 0], ints .u8 (List.replicate 32 0), #[.int .i64 ((bigN (Qaj (Qad (Qad (Qao (Qad (Qad (s) 32) 4)) 32) 1) 1) : Nat) : Int)], ints .u8 (Qbn (Qaj (Qao (Qad (Qad (Qao (Qad (Qad (s) 32) 4)) 32) 1)) 64))]) 47 r2_12 rfl kj (Qaz 47 _ _ g2 47 _ _ r2_12 rfl kj kj (isz (n := 263) kj (by rw [Qaa, Qaa, Qaa, Qaa, Qaa, Qaa, Qaa, Qaa, Qaa, Qaa, Qaa, Qaa, Qaa, Qaa]; simp only [Array.size_append, cat, ((Qac _ _).trans (List.length_replicate (n := 32))), ((Qac _ _).trans (Qan _ (Qam (Qao (Qad (Qad (s) 32) 4)) 32))), ((Qac _ _).trans (Qan _ (Qam (s) 32))), ((Qac _ _).trans (QaB _ (Qam (Qao (Qad (Qad (Qao (Qad (Qad (s) 32) 4)) 32) 1)) 64)))]; rfl)) (eqsz (n := 263) (by rw [Qaa, Qaa, Qaa, Qaa, Qaa, Qaa, Qaa, Qaa, Qaa, Qaa, Qaa, Qaa, Qaa, Qaa]; simp only [Array.size_append, cat, ((Qac _ _).trans (List.length_replicate (n := 32))), ((Qac _ _).trans (List.length_replicate (n := 64)))]; rfl) (by rw [Qaa, Qaa, Qaa, Qaa, Qaa, Qaa, Qaa, Qaa, Qaa, Qaa, Qaa, Qaa, Qaa, Qaa]; simp only [Array.size_append, cat, ((Qac _ _).trans (List.length_replicate (n := 32))), ((Qac _ _).trans (Qan _ (Qam (Qao (Qad (Qad (s) 32) 4)) 32))), ((Qac _ _).trans (Qan _ (Qam (s) 32))), ((Qac _ _).trans (QaB _ (Qam (Qao (Qad (Qad (Qao (Qad (Qad (s) 32) 4)) 32) 1)) 64)))]; rfl)) (QaP _ (by intro a ha; simp only [List.mem_cons, List.not_mem_nil, or_false] at ha; rcases ha with rfl | rfl | rfl | rfl | rfl | rfl | rfl | rfl | rfl | rfl | rfl | rfl | rfl | rfl; exact (Qat _ _); exact (Qaq _ rfl); exact (Qaq _ rfl); exact (Qat _ _); exact (Qaq _ rfl); exact (Qaq _ rfl); exact (Qaq _ rfl); exact (Qat _ _); exact (Qat _ _); exact (Qat _ _); exact (Qaq _ rfl); exact (Qat _ _); exact (Qaq _ rfl); exact (Qat _ _)))) fun W13 p13 r2_13 => ?_
  have x13 : ExtB gr w W13 := ExtB.putsN x12 p13 b2
  refine Qaf ?_
  refine hK21 _ _ ?_
  refine wp_ret ?_
  repeat (first | with_reducible refine goR1 ?_ | with_reducible refine goR2 ?_)
  have rs22 := (RSt.put (RSt.put rs20 hB p12 (Nat.lt_of_lt_of_le hgr b10)) hB p13 (Nat.lt_of_lt_of_le hgr b2))
  exact (show bodyPost _ _ _ .ret _ _ from ret1 (.agg (cat [ints .u8 (keyV (Qaj (s) 32)), #[.int .i64 ((bigN (Qaj (Qad (s) 32) 4) : Nat) : Int)], #[.int .i64 ((bigN (Qaj (Qad (Qad (s) 32) 4) 1) : Nat) : Int)], ints .u8 (keyV (Qaj (Qao (Qad (Qad (s) 32) 4)) 32)), #[.int .i64 ((bigN (Qaj (Qad (Qao (Qad (Qad (s) 32) 4)) 32) 1) : Nat) : Int)], #[.bool false], #[.int .i64 0], ints .u8 (List.replicate 32 0), ints .u8 (List.replicate 32 0), ints .u8 (List.replicate 32 0), #[.slice none 0 0], ints .u8 (List.replicate 32 0), #[.int .i64 ((bigN (Qaj (Qad (Qad (Qao (Qad (Qad (s) 32) 4)) 32) 1) 1) : Nat) : Int)], ints .u8 (Qbn (Qaj (Qao (Qad (Qad (Qao (Qad (Qad (s) 32) 4)) 32) 1)) 64))])) rfl (QaW g2 47 _ r2_13 kj kj (isz (n := 263) kj (by rw [Qaa, Qaa, Qaa, Qaa, Qaa, Qaa, Qaa, Qaa, Qaa, Qaa, Qaa, Qaa, Qaa, Qaa]; simp only [Array.size_append, cat, ((Qac _ _).trans (List.length_replicate (n := 32))), ((Qac _ _).trans (Qan _ (Qam (Qao (Qad (Qad (s) 32) 4)) 32))), ((Qac _ _).trans (Qan _ (Qam (s) 32))), ((Qac _ _).trans (QaB _ (Qam (Qao (Qad (Qad (Qao (Qad (Qad (s) 32) 4)) 32) 1)) 64)))]; rfl))) ⟨_, rfl, x13, (show RSt B gr (Qbx s) _ by have h9 := rs22; unfold Qbx; rw [eM]; exact h9), [], _, _, by rw [eUs, eNm, eKy, eSg, ePa, eSt, eAt]; unfold qSig; rw [eM]; rfl, QbJ _ _ _ _, by decide, fun _ => by rw [eL]⟩)
set_option maxHeartbeats 4000000 in
set_option maxRecDepth 100000 in
theorem QfB (B gr : Nat) (s : Option (List Int)) (w : World) (hB : B ≤ gr) (h : RSt B gr s w) (hk : bigN (Qaj (qS4 s) 1) < 1 ∨ 3 < bigN (Qaj (qS4 s) 1)) : Calls Try.prog 61 #[.pointer (some ⟨gr, 0, none⟩)] w (Qb4 B gr w (Qbx s) fun v W => ∃ (xz : List Int) (a : Option Addr) (c : Nat), v = .agg (cat [ints .u8 (qGrp s), #[.int .i64 (qEp s)], #[.int .i64 (qFr s)], ints .u8 (qBa s), #[.int .i64 ((qKd s : Nat) : Int)], #[.bool (qUs s)], #[.int .i64 (qNm s)], ints .u8 (qKy s), ints .u8 (qSg s), ints .u8 (qPa s), #[.slice a xz.length c], ints .u8 (qSt s), #[.int .i64 (qAt s)], ints .u8 (qSig s)]) ∧ OwnN .i64 3 w.heap.size xz (.slice a xz.length c) W ∧ xz.length ≤ 255 ∧ (Qbx s ≠ none → xz = qL s)) := by
  have hgr := h.lt
  have hk2 : bigN (Qaj (Qad (Qao (Qad (Qad s 32) 4)) 32) 1) = qKd s := rfl
  unfold qKd at hk2
  have hk0 : qKd s = bigN (Qaj (qS4 s) 1) := rfl
  have k1 : (qKd s == 1) = false := beq_eq_false_iff_ne.2 (show qKd s ≠ 1 by omega)
  have k2 : (qKd s == 2) = false := beq_eq_false_iff_ne.2 (show qKd s ≠ 2 by omega)
  have k3 : (qKd s == 3) = false := beq_eq_false_iff_ne.2 (show qKd s ≠ 3 by omega)
  have kn : qNd s = false := by unfold qNd; rw [k1, k2]; rfl
  have eUs : qUs s = false := by unfold qUs; rw [kn]; rfl
  have eNm : qNm s = 0 := by unfold qNm; rw [kn]; rfl
  have eKy : qKy s = List.replicate 32 0 := by unfold qKy; rw [kn]; rfl
  have eSg : qSg s = List.replicate 32 0 := by unfold qSg; rw [kn]; rfl
  have ePa : qPa s = List.replicate 32 0 := by unfold qPa; rw [kn]; rfl
  have eL : qL s = [] := by unfold qL; rw [kn]; rfl
  have eSt : qSt s = List.replicate 32 0 := by unfold qSt; rw [k1]; rfl
  have eAt : qAt s = 0 := by unfold qAt; rw [k3]; rfl
  have eM : Qce s = Qa0 (qS5 s) false := by unfold Qce; rw [k1, k2, k3]; rfl
  refine enter 41 [(0, .pointer (some ⟨gr, 0, none⟩))] Try.func61 rfl rfl kj rfl ?_
  refine wp_seq_k fun K1 hK1 => ?_
  refine Qae ?_
  refine Qav (cat [ints .u8 (List.replicate 32 0), #[.int .i64 0], #[.int .i64 0], ints .u8 (List.replicate 32 0), #[.int .i64 0], #[.bool false], #[.int .i64 0], ints .u8 (List.replicate 32 0), ints .u8 (List.replicate 32 0), ints .u8 (List.replicate 32 0), #[.slice none 0 0], ints .u8 (List.replicate 32 0), #[.int .i64 0], ints .u8 (List.replicate 64 0)]) 47 2 rfl kj (QaZ 47 _ rfl (Qb3 _)) fun g2 W1 l2 e1 r2_1 => ?_
  have x1 : ExtB gr w W1 := ExtB.ext (ExtB.refl gr w) e1
  have b2 : w.heap.size ≤ g2 := Nat.le_trans (ExtB.refl gr w).size l2
  refine Qaf ?_
  refine hK1 _ _ ?_
  refine wp_seq_k fun K3 hK3 => ?_
  refine Qae ?_
  refine Qab (.pointer (some ⟨gr, 0, none⟩)) 4 rfl kj kj ?_
  have rs4 := (RSt.ext h hB e1)
  refine Qal (fun v W' => ExtB gr W1 W' ∧ RSt B gr (Qad (s) 32) W' ∧ (fun (v : Value) (_ : World) => v = .agg (ints .u8 (keyV (Qaj (s) 32)))) v W') 109 #[.pointer (some ⟨gr, 0, none⟩)] 5 rfl kj kj (QbO B gr _ _ hB rs4) fun vv5 W2 hh5 => ?_
  obtain ⟨q2, rs5, hv5⟩ := hh5
  have x2 : ExtB gr w W2 := ExtB.tr x1 q2
  subst hv5
  refine Qab (.pointer (some ⟨gr, 0, none⟩)) 6 rfl kj kj ?_
  refine Qal (fun v W' => ExtB gr W2 W' ∧ RSt B gr (Qad (Qad (s) 32) 4) W' ∧ (fun (v : Value) (_ : World) => v = .int .i64 ((bigN (Qaj (Qad (s) 32) 4) : Nat) : Int)) v W') 110 #[.pointer (some ⟨gr, 0, none⟩), .int .i64 4] 7 rfl kj kj (QaS B gr _ 4 _ hB rs5 (by decide)) fun vv6 W3 hh6 => ?_
  obtain ⟨q3, rs6, hv6⟩ := hh6
  have x3 : ExtB gr w W3 := ExtB.tr x2 q3
  subst hv6
  refine Qab (.pointer (some ⟨gr, 0, none⟩)) 8 rfl kj kj ?_
  refine Qal (fun v W' => ExtB gr W3 W' ∧ RSt B gr (Qao (Qad (Qad (s) 32) 4)) W' ∧ (fun (v : Value) (_ : World) => v = .int .i64 ((bigN (Qaj (Qad (Qad (s) 32) 4) 1) : Nat) : Int)) v W') 111 #[.pointer (some ⟨gr, 0, none⟩)] 9 rfl kj kj (Qc6 B gr _ _ hB rs6) fun vv7 W4 hh7 => ?_
  obtain ⟨q4, rs7, hv7⟩ := hh7
  have x4 : ExtB gr w W4 := ExtB.tr x3 q4
  subst hv7
  refine Qab (.pointer (some ⟨gr, 0, none⟩)) 10 rfl kj kj ?_
  refine Qal (fun v W' => ExtB gr W4 W' ∧ RSt B gr (Qad (Qao (Qad (Qad (s) 32) 4)) 32) W' ∧ (fun (v : Value) (_ : World) => v = .agg (ints .u8 (keyV (Qaj (Qao (Qad (Qad (s) 32) 4)) 32)))) v W') 109 #[.pointer (some ⟨gr, 0, none⟩)] 11 rfl kj kj (QbO B gr _ _ hB rs7) fun vv8 W5 hh8 => ?_
  obtain ⟨q5, rs8, hv8⟩ := hh8
  have x5 : ExtB gr w W5 := ExtB.tr x4 q5
  subst hv8
  refine Qab (.pointer (some ⟨gr, 0, none⟩)) 12 rfl kj kj ?_
  refine Qal (fun v W' => ExtB gr W5 W' ∧ RSt B gr (Qad (Qad (Qao (Qad (Qad (s) 32) 4)) 32) 1) W' ∧ (fun (v : Value) (_ : World) => v = .int .i64 ((bigN (Qaj (Qad (Qao (Qad (Qad (s) 32) 4)) 32) 1) : Nat) : Int)) v W') 110 #[.pointer (some ⟨gr, 0, none⟩), .int .i64 1] 13 rfl kj kj (QaS B gr _ 1 _ hB rs8 (by decide)) fun vv9 W6 hh9 => ?_
  obtain ⟨q6, rs9, hv9⟩ := hh9
  have x6 : ExtB gr w W6 := ExtB.tr x5 q6
  subst hv9
  refine Qab (.agg (cat [ints .u8 (keyV (Qaj (s) 32)), #[.int .i64 ((bigN (Qaj (Qad (s) 32) 4) : Nat) : Int)], #[.int .i64 ((bigN (Qaj (Qad (Qad (s) 32) 4) 1) : Nat) : Int)], ints .u8 (keyV (Qaj (Qao (Qad (Qad (s) 32) 4)) 32)), #[.int .i64 ((bigN (Qaj (Qad (Qao (Qad (Qad (s) 32) 4)) 32) 1) : Nat) : Int)], #[.bool false], #[.int .i64 0], ints .u8 (List.replicate 32 0), ints .u8 (List.replicate 32 0), ints .u8 (List.replicate 32 0), #[.slice none 0 0], ints .u8 (List.replicate 32 0), #[.int .i64 0], ints .u8 (List.replicate 64 0)])) 14 rfl kj (Qca 47 _ [ints .u8 (List.replicate 32 0), #[.int .i64 0], #[.int .i64 0], ints .u8 (List.replicate 32 0), #[.int .i64 0]] [#[.bool false], #[.int .i64 0], ints .u8 (List.replicate 32 0), ints .u8 (List.replicate 32 0), ints .u8 (List.replicate 32 0), #[.slice none 0 0], ints .u8 (List.replicate 32 0), #[.int .i64 0], ints .u8 (List.replicate 64 0)] #[(0, 32), (32, 1), (33, 1), (34, 32), (66, 1), (67, 99), (166, 32), (198, 1), (199, 64)] [(0, 32, .agg (ints .u8 (keyV (Qaj (s) 32))), ints .u8 (keyV (Qaj (s) 32))), (1, 1, .int .i64 ((bigN (Qaj (Qad (s) 32) 4) : Nat) : Int), #[.int .i64 ((bigN (Qaj (Qad (s) 32) 4) : Nat) : Int)]), (2, 1, .int .i64 ((bigN (Qaj (Qad (Qad (s) 32) 4) 1) : Nat) : Int), #[.int .i64 ((bigN (Qaj (Qad (Qad (s) 32) 4) 1) : Nat) : Int)]), (3, 32, .agg (ints .u8 (keyV (Qaj (Qao (Qad (Qad (s) 32) 4)) 32))), ints .u8 (keyV (Qaj (Qao (Qad (Qad (s) 32) 4)) 32))), (4, 1, .int .i64 ((bigN (Qaj (Qad (Qao (Qad (Qad (s) 32) 4)) 32) 1) : Nat) : Int), #[.int .i64 ((bigN (Qaj (Qad (Qao (Qad (Qad (s) 32) 4)) 32) 1) : Nat) : Int)])] rfl kj ⟨kj, rfl, ((Qac _ _).trans (Qan _ (Qam (s) 32))), kj, rfl, kj, kj, rfl, kj, kj, rfl, ((Qac _ _).trans (Qan _ (Qam (Qao (Qad (Qad (s) 32) 4)) 32))), kj, rfl, kj, trivial⟩ kj (Qb3 _) kj kj) ?_
  refine Qav (cat [ints .u8 (List.replicate 32 0), #[.int .i64 0], #[.int .i64 0], ints .u8 (List.replicate 32 0), #[.int .i64 0], #[.bool false], #[.int .i64 0], ints .u8 (List.replicate 32 0), ints .u8 (List.replicate 32 0), ints .u8 (List.replicate 32 0), #[.slice none 0 0], ints .u8 (List.replicate 32 0), #[.int .i64 0], ints .u8 (List.replicate 64 0)]) 47 3 rfl kj (QaZ 47 _ rfl (Qb3 _)) fun g10 W7 l10 e7 r10_7 => ?_
  have x7 : ExtB gr w W7 := ExtB.ext x6 e7
  have b10 : w.heap.size ≤ g10 := Nat.le_trans x6.size l10
  refine Qa2 g10 _ (cat [ints .u8 (keyV (Qaj (s) 32)), #[.int .i64 ((bigN (Qaj (Qad (s) 32) 4) : Nat) : Int)], #[.int .i64 ((bigN (Qaj (Qad (Qad (s) 32) 4) 1) : Nat) : Int)], ints .u8 (keyV (Qaj (Qao (Qad (Qad (s) 32) 4)) 32)), #[.int .i64 ((bigN (Qaj (Qad (Qao (Qad (Qad (s) 32) 4)) 32) 1) : Nat) : Int)], #[.bool false], #[.int .i64 0], ints .u8 (List.replicate 32 0), ints .u8 (List.replicate 32 0), ints .u8 (List.replicate 32 0), #[.slice none 0 0], ints .u8 (List.replicate 32 0), #[.int .i64 0], ints .u8 (List.replicate 64 0)]) 47 r10_7 rfl kj (Qaz 47 _ _ g10 47 _ _ r10_7 rfl kj kj (isz (n := 263) kj (by rw [Qaa, Qaa, Qaa, Qaa, Qaa, Qaa, Qaa, Qaa, Qaa, Qaa, Qaa, Qaa, Qaa, Qaa]; simp only [Array.size_append, cat, ((Qac _ _).trans (List.length_replicate (n := 32))), ((Qac _ _).trans (List.length_replicate (n := 64))), ((Qac _ _).trans (Qan _ (Qam (Qao (Qad (Qad (s) 32) 4)) 32))), ((Qac _ _).trans (Qan _ (Qam (s) 32)))]; rfl)) (eqsz (n := 263) (by rw [Qaa, Qaa, Qaa, Qaa, Qaa, Qaa, Qaa, Qaa, Qaa, Qaa, Qaa, Qaa, Qaa, Qaa]; simp only [Array.size_append, cat, ((Qac _ _).trans (List.length_replicate (n := 32))), ((Qac _ _).trans (List.length_replicate (n := 64)))]; rfl) (by rw [Qaa, Qaa, Qaa, Qaa, Qaa, Qaa, Qaa, Qaa, Qaa, Qaa, Qaa, Qaa, Qaa, Qaa]; simp only [Array.size_append, cat, ((Qac _ _).trans (List.length_replicate (n := 32))), ((Qac _ _).trans (List.length_replicate (n := 64))), ((Qac _ _).trans (Qan _ (Qam (Qao (Qad (Qad (s) 32) 4)) 32))), ((Qac _ _).trans (Qan _ (Qam (s) 32)))]; rfl)) (QaP _ (by intro a ha; simp only [List.mem_cons, List.not_mem_nil, or_false] at ha; rcases ha with rfl | rfl | rfl | rfl | rfl | rfl | rfl | rfl | rfl | rfl | rfl | rfl | rfl | rfl; exact (Qat _ _); exact (Qaq _ rfl); exact (Qaq _ rfl); exact (Qat _ _); exact (Qaq _ rfl); exact (Qaq _ rfl); exact (Qaq _ rfl); exact (Qat _ _); exact (Qat _ _); exact (Qat _ _); exact (Qaq _ rfl); exact (Qat _ _); exact (Qaq _ rfl); exact (Qat _ _)))) fun W8 p8 r10_8 => ?_
  have x8 : ExtB gr w W8 := ExtB.putsN x7 p8 b10
  refine Qaf ?_
  refine hK3 _ _ ?_
  refine wp_seq_k fun K11 hK11 => ?_
  refine wp_seq_k fun K12 hK12 => ?_
  refine Qae ?_
  refine Qab (.pointer (some ⟨g10, 66, none⟩)) 15 rfl kj kj ?_
  refine Qab (.int .i64 ((bigN (Qaj (Qad (Qao (Qad (Qad (s) 32) 4)) 32) 1) : Nat) : Int)) 16 rfl kj (Qah 3 _ g10 66 47 _ (.int .i64 ((bigN (Qaj (Qad (Qao (Qad (Qad (s) 32) 4)) 32) 1) : Nat) : Int)) _ r10_8 rfl kj (Qak [ints .u8 (keyV (Qaj (s) 32)), #[.int .i64 ((bigN (Qaj (Qad (s) 32) 4) : Nat) : Int)], #[.int .i64 ((bigN (Qaj (Qad (Qad (s) 32) 4) 1) : Nat) : Int)], ints .u8 (keyV (Qaj (Qao (Qad (Qad (s) 32) 4)) 32))] [#[.int .i64 ((bigN (Qaj (Qad (Qao (Qad (Qad (s) 32) 4)) 32) 1) : Nat) : Int)]] [#[.bool false], #[.int .i64 0], ints .u8 (List.replicate 32 0), ints .u8 (List.replicate 32 0), ints .u8 (List.replicate 32 0), #[.slice none 0 0], ints .u8 (List.replicate 32 0), #[.int .i64 0], ints .u8 (List.replicate 64 0)] 66 (by rw [Qaa, Qaa, Qaa, Qaa]; simp only [Array.size_append, cat, ((Qac _ _).trans (Qan _ (Qam (Qao (Qad (Qad (s) 32) 4)) 32))), ((Qac _ _).trans (Qan _ (Qam (s) 32)))]; rfl) 0 _ rfl) kj) ?_
  refine Qaf ?_
  refine hK12 _ _ ?_
  refine wp_block ?_
  refine wp_seq_k fun K13 hK13 => ?_
  refine Qae ?_
  refine Qab (.bool false) 20 rfl kj (Qax (u := .bool ((((bigN (Qaj (Qad (Qao (Qad (Qad (s) 32) 4)) 32) 1) : Nat) : Int) == 1))) kj (congrArg Value.bool (beq_eq_false_iff_ne.2 (by omega)))) ?_
  refine Qab (.bool false) 19 rfl kj kj ?_
  refine Qaf ?_
  refine hK13 _ _ ?_
  refine cond_false kj ?_
  refine wp_seq_k fun K14 hK14 => ?_
  refine Qae ?_
  refine Qab (.bool false) 28 rfl kj (Qax (u := .bool ((((bigN (Qaj (Qad (Qao (Qad (Qad (s) 32) 4)) 32) 1) : Nat) : Int) == 2))) kj (congrArg Value.bool (beq_eq_false_iff_ne.2 (by omega)))) ?_
  refine Qab (.bool false) 27 rfl kj kj ?_
  refine Qaf ?_
  refine hK14 _ _ ?_
  refine cond_false kj ?_
  refine wp_seq_k fun K15 hK15 => ?_
  refine Qae ?_
  refine Qab (.bool false) 33 rfl kj (Qax (u := .bool ((((bigN (Qaj (Qad (Qao (Qad (Qad (s) 32) 4)) 32) 1) : Nat) : Int) == 3))) kj (congrArg Value.bool (beq_eq_false_iff_ne.2 (by omega)))) ?_
  refine Qab (.bool false) 32 rfl kj kj ?_
  refine Qaf ?_
  refine hK15 _ _ ?_
  refine cond_false kj ?_
  refine Qae ?_
  refine Qab (.pointer (some ⟨gr, 0, none⟩)) 17 rfl kj kj ?_
  have rs16 := (RSt.put (RSt.ext rs9 hB e7) hB p8 (Nat.lt_of_lt_of_le hgr b10))
  refine Qal (fun v W' => ExtB gr W8 W' ∧ RSt B gr (Qa0 (Qad (Qad (Qao (Qad (Qad (s) 32) 4)) 32) 1) false) W' ∧ (fun (v : Value) (_ : World) => v = .tuple #[]) v W') 103 #[.pointer (some ⟨gr, 0, none⟩), .bool false] 18 rfl kj kj (Qcx B gr _ false _ hB rs16) fun vv17 W9 hh17 => ?_
  obtain ⟨q9, rs17, hv17⟩ := hh17
  have x9 : ExtB gr w W9 := ExtB.tr x8 q9
  subst hv17
  refine Qaf ?_
  refine hK11 _ _ ?_
  refine wp_seq_k fun K18 hK18 => ?_
  refine Qae ?_
  refine Qab (.pointer (some ⟨gr, 0, none⟩)) 37 rfl kj kj ?_
  refine Qal (fun v W' => ExtB gr W9 W' ∧ RSt B gr (Qad (Qa0 (Qad (Qad (Qao (Qad (Qad (s) 32) 4)) 32) 1) false) 64) W' ∧ (fun (v : Value) (_ : World) => v = .agg (ints .u8 (Qbn (Qaj (Qa0 (Qad (Qad (Qao (Qad (Qad (s) 32) 4)) 32) 1) false) 64)))) v W') 112 #[.pointer (some ⟨gr, 0, none⟩)] 38 rfl kj kj (QdQ B gr _ _ hB rs17) fun vv19 W10 hh19 => ?_
  obtain ⟨q10, rs19, hv19⟩ := hh19
  have x10 : ExtB gr w W10 := ExtB.tr x9 q10
  subst hv19
  refine Qab (.pointer (some ⟨g10, 199, none⟩)) 39 rfl kj kj ?_
  have r10_9 := (ExtB.row q9 r10_8 (Ne.symm (Nat.ne_of_lt (Nat.lt_of_lt_of_le hgr b10))))
  have r10_10 := (ExtB.row q10 r10_9 (Ne.symm (Nat.ne_of_lt (Nat.lt_of_lt_of_le hgr b10))))
  refine Qa2 g10 _ (cat [ints .u8 (keyV (Qaj (s) 32)), #[.int .i64 ((bigN (Qaj (Qad (s) 32) 4) : Nat) : Int)], #[.int .i64 ((bigN (Qaj (Qad (Qad (s) 32) 4) 1) : Nat) : Int)], ints .u8 (keyV (Qaj (Qao (Qad (Qad (s) 32) 4)) 32)), #[.int .i64 ((bigN (Qaj (Qad (Qao (Qad (Qad (s) 32) 4)) 32) 1) : Nat) : Int)], #[.bool false], #[.int .i64 0], ints .u8 (List.replicate 32 0), ints .u8 (List.replicate 32 0), ints .u8 (List.replicate 32 0), #[.slice none 0 0], ints .u8 (List.replicate 32 0), #[.int .i64 0], ints .u8 (Qbn (Qaj (Qa0 (Qad (Qad (Qao (Qad (Qad (s) 32) 4)) 32) 1) false) 64))]) 47 r10_10 rfl kj (Qbh 45 _ _ g10 199 47 [ints .u8 (keyV (Qaj (s) 32)), #[.int .i64 ((bigN (Qaj (Qad (s) 32) 4) : Nat) : Int)], #[.int .i64 ((bigN (Qaj (Qad (Qad (s) 32) 4) 1) : Nat) : Int)], ints .u8 (keyV (Qaj (Qao (Qad (Qad (s) 32) 4)) 32)), #[.int .i64 ((bigN (Qaj (Qad (Qao (Qad (Qad (s) 32) 4)) 32) 1) : Nat) : Int)], #[.bool false], #[.int .i64 0], ints .u8 (List.replicate 32 0), ints .u8 (List.replicate 32 0), ints .u8 (List.replicate 32 0), #[.slice none 0 0], ints .u8 (List.replicate 32 0), #[.int .i64 0]] [ints .u8 (List.replicate 64 0)] [ints .u8 (Qbn (Qaj (Qa0 (Qad (Qad (Qao (Qad (Qad (s) 32) 4)) 32) 1) false) 64))] [] r10_10 rfl kj kj (isz (n := 64) kj ((Qac _ _).trans (QaB _ (Qam (Qa0 (Qad (Qad (Qao (Qad (Qad (s) 32) 4)) 32) 1) false) 64)))) (by rw [Qaa, Qaa, Qaa, Qaa, Qaa, Qaa, Qaa, Qaa, Qaa, Qaa, Qaa, Qaa, Qaa]; simp only [Array.size_append, cat, ((Qac _ _).trans (List.length_replicate (n := 32))), ((Qac _ _).trans (Qan _ (Qam (Qao (Qad (Qad (s) 32) 4)) 32))), ((Qac _ _).trans (Qan _ (Qam (s) 32)))]; rfl) (eqsz (n := 64) ((Qac _ _).trans (QaB _ (Qam (Qa0 (Qad (Qad (Qao (Qad (Qad (s) 32) 4)) 32) 1) false) 64))) ((Qac _ _).trans (List.length_replicate (n := 64)))) (Qat _ _)) fun W11 p11 r10_11 => ?_
  have x11 : ExtB gr w W11 := ExtB.putsN x10 p11 b10
  refine Qaf ?_
  refine hK18 _ _ ?_
  refine wp_seq_k fun K20 hK20 => ?_
  refine Qae ?_
  refine Qab (.agg (cat [ints .u8 (keyV (Qaj (s) 32)), #[.int .i64 ((bigN (Qaj (Qad (s) 32) 4) : Nat) : Int)], #[.int .i64 ((bigN (Qaj (Qad (Qad (s) 32) 4) 1) : Nat) : Int)], ints .u8 (keyV (Qaj (Qao (Qad (Qad (s) 32) 4)) 32)), #[.int .i64 ((bigN (Qaj (Qad (Qao (Qad (Qad (s) 32) 4)) 32) 1) : Nat) : Int)], #[.bool false], #[.int .i64 0], ints .u8 (List.replicate 32 0), ints .u8 (List.replicate 32 0), ints .u8 (List.replicate 32 0), #[.slice none 0 0], ints .u8 (List.replicate 32 0), #[.int .i64 0], ints .u8 (Qbn (Qaj (Qa0 (Qad (Qad (Qao (Qad (Qad (s) 32) 4)) 32) 1) false) 64))])) 40 rfl kj (Qa4 47 _ g10 47 _ _ r10_11 rfl kj kj (isz (n := 263) kj (by rw [Qaa, Qaa, Qaa, Qaa, Qaa, Qaa, Qaa, Qaa, Qaa, Qaa, Qaa, Qaa, Qaa, Qaa]; simp only [Array.size_append, cat, ((Qac _ _).trans (List.length_replicate (n := 32))), ((Qac _ _).trans (Qan _ (Qam (Qao (Qad (Qad (s) 32) 4)) 32))), ((Qac _ _).trans (Qan _ (Qam (s) 32))), ((Qac _ _).trans (QaB _ (Qam (Qa0 (Qad (Qad (Qao (Qad (Qad (s) 32) 4)) 32) 1) false) 64)))]; rfl))) ?_
  have r2_2 := (ExtB.row q2 r2_1 (Ne.symm (Nat.ne_of_lt (Nat.lt_of_lt_of_le hgr b2))))
  have r2_3 := (ExtB.row q3 r2_2 (Ne.symm (Nat.ne_of_lt (Nat.lt_of_lt_of_le hgr b2))))
  have r2_4 := (ExtB.row q4 r2_3 (Ne.symm (Nat.ne_of_lt (Nat.lt_of_lt_of_le hgr b2))))
  have r2_5 := (ExtB.row q5 r2_4 (Ne.symm (Nat.ne_of_lt (Nat.lt_of_lt_of_le hgr b2))))
  have r2_6 := (ExtB.row q6 r2_5 (Ne.symm (Nat.ne_of_lt (Nat.lt_of_lt_of_le hgr b2))))
  have r2_7 := (Qas r2_6 e7)
  have r2_8 := (Puts.row p8 r2_7 (QaA r2_6 l10))
  have r2_9 := (ExtB.row q9 r2_8 (Ne.symm (Nat.ne_of_lt (Nat.lt_of_lt_of_le hgr b2))))
  have r2_10 := (ExtB.row q10 r2_9 (Ne.symm (Nat.ne_of_lt (Nat.lt_of_lt_of_le hgr b2))))
  have r2_11 := (Puts.row p11 r2_10 (QaA r2_6 l10))
  refine Qa2 g2 _ (cat [ints .u8 (keyV (Qaj (s) 32)), #[.int .i64 ((bigN (Qaj (Qad (s) 32) 4) : Nat) : Int)], #[.int .i64 ((bigN (Qaj (Qad (Qad (s) 32) 4) 1) : Nat) : Int)], ints .u8 (keyV (Qaj (Qao (Qad (Qad (s) 32) 4)) 32)), #[.int .i64 ((bigN (Qaj (Qad (Qao (Qad (Qad (s) 32) 4)) 32) 1) : Nat) : Int)], #[.bool false], #[.int .i64 0], ints .u8 (List.replicate 32 0), ints .u8 (List.replicate 32 0), ints .u8 (List.replicate 32 0), #[.slice none 0 0], ints .u8 (List.replicate 32 0), #[.int .i64 0], ints .u8 (Qbn (Qaj (Qa0 (Qad (Qad (Qao (Qad (Qad (s) 32) 4)) 32) 1) false) 64))]) 47 r2_11 rfl kj (Qaz 47 _ _ g2 47 _ _ r2_11 rfl kj kj (isz (n := 263) kj (by rw [Qaa, Qaa, Qaa, Qaa, Qaa, Qaa, Qaa, Qaa, Qaa, Qaa, Qaa, Qaa, Qaa, Qaa]; simp only [Array.size_append, cat, ((Qac _ _).trans (List.length_replicate (n := 32))), ((Qac _ _).trans (Qan _ (Qam (Qao (Qad (Qad (s) 32) 4)) 32))), ((Qac _ _).trans (Qan _ (Qam (s) 32))), ((Qac _ _).trans (QaB _ (Qam (Qa0 (Qad (Qad (Qao (Qad (Qad (s) 32) 4)) 32) 1) false) 64)))]; rfl)) (eqsz (n := 263) (by rw [Qaa, Qaa, Qaa, Qaa, Qaa, Qaa, Qaa, Qaa, Qaa, Qaa, Qaa, Qaa, Qaa, Qaa]; simp only [Array.size_append, cat, ((Qac _ _).trans (List.length_replicate (n := 32))), ((Qac _ _).trans (List.length_replicate (n := 64)))]; rfl) (by rw [Qaa, Qaa, Qaa, Qaa, Qaa, Qaa, Qaa, Qaa, Qaa, Qaa, Qaa, Qaa, Qaa, Qaa]; simp only [Array.size_append, cat, ((Qac _ _).trans (List.length_replicate (n := 32))), ((Qac _ _).trans (Qan _ (Qam (Qao (Qad (Qad (s) 32) 4)) 32))), ((Qac _ _).trans (Qan _ (Qam (s) 32))), ((Qac _ _).trans (QaB _ (Qam (Qa0 (Qad (Qad (Qao (Qad (Qad (s) 32) 4)) 32) 1) false) 64)))]; rfl)) (QaP _ (by intro a ha; simp only [List.mem_cons, List.not_mem_nil, or_false] at ha; rcases ha with rfl | rfl | rfl | rfl | rfl | rfl | rfl | rfl | rfl | rfl | rfl | rfl | rfl | rfl; exact (Qat _ _); exact (Qaq _ rfl); exact (Qaq _ rfl); exact (Qat _ _); exact (Qaq _ rfl); exact (Qaq _ rfl); exact (Qaq _ rfl); exact (Qat _ _); exact (Qat _ _); exact (Qat _ _); exact (Qaq _ rfl); exact (Qat _ _); exact (Qaq _ rfl); exact (Qat _ _)))) fun W12 p12 r2_12 => ?_
  have x12 : ExtB gr w W12 := ExtB.putsN x11 p12 b2
  refine Qaf ?_
  refine hK20 _ _ ?_
  refine wp_ret ?_
  repeat (first | with_reducible refine goR1 ?_ | with_reducible refine goR2 ?_)
  have rs21 := (RSt.put (RSt.put rs19 hB p11 (Nat.lt_of_lt_of_le hgr b10)) hB p12 (Nat.lt_of_lt_of_le hgr b2))
  exact (show bodyPost _ _ _ .ret _ _ from ret1 (.agg (cat [ints .u8 (keyV (Qaj (s) 32)), #[.int .i64 ((bigN (Qaj (Qad (s) 32) 4) : Nat) : Int)], #[.int .i64 ((bigN (Qaj (Qad (Qad (s) 32) 4) 1) : Nat) : Int)], ints .u8 (keyV (Qaj (Qao (Qad (Qad (s) 32) 4)) 32)), #[.int .i64 ((bigN (Qaj (Qad (Qao (Qad (Qad (s) 32) 4)) 32) 1) : Nat) : Int)], #[.bool false], #[.int .i64 0], ints .u8 (List.replicate 32 0), ints .u8 (List.replicate 32 0), ints .u8 (List.replicate 32 0), #[.slice none 0 0], ints .u8 (List.replicate 32 0), #[.int .i64 0], ints .u8 (Qbn (Qaj (Qa0 (Qad (Qad (Qao (Qad (Qad (s) 32) 4)) 32) 1) false) 64))])) rfl (QaW g2 47 _ r2_12 kj kj (isz (n := 263) kj (by rw [Qaa, Qaa, Qaa, Qaa, Qaa, Qaa, Qaa, Qaa, Qaa, Qaa, Qaa, Qaa, Qaa, Qaa]; simp only [Array.size_append, cat, ((Qac _ _).trans (List.length_replicate (n := 32))), ((Qac _ _).trans (Qan _ (Qam (Qao (Qad (Qad (s) 32) 4)) 32))), ((Qac _ _).trans (Qan _ (Qam (s) 32))), ((Qac _ _).trans (QaB _ (Qam (Qa0 (Qad (Qad (Qao (Qad (Qad (s) 32) 4)) 32) 1) false) 64)))]; rfl))) ⟨_, rfl, x12, (show RSt B gr (Qbx s) _ by have h9 := rs21; unfold Qbx; rw [eM]; exact h9), [], _, _, by rw [eUs, eNm, eKy, eSg, ePa, eSt, eAt]; unfold qSig; rw [eM]; rfl, QbJ _ _ _ _, by decide, fun _ => by rw [eL]⟩)
theorem Qgu (B gr : Nat) (s : Option (List Int)) (w : World) (hB : B ≤ gr) (h : RSt B gr s w) : Calls Try.prog 61 #[.pointer (some ⟨gr, 0, none⟩)] w (Qb4 B gr w (Qbx s) fun v W => ∃ (xz : List Int) (a : Option Addr) (c : Nat), v = .agg (cat [ints .u8 (qGrp s), #[.int .i64 (qEp s)], #[.int .i64 (qFr s)], ints .u8 (qBa s), #[.int .i64 ((qKd s : Nat) : Int)], #[.bool (qUs s)], #[.int .i64 (qNm s)], ints .u8 (qKy s), ints .u8 (qSg s), ints .u8 (qPa s), #[.slice a xz.length c], ints .u8 (qSt s), #[.int .i64 (qAt s)], ints .u8 (qSig s)]) ∧ OwnN .i64 3 w.heap.size xz (.slice a xz.length c) W ∧ xz.length ≤ 255 ∧ (Qbx s ≠ none → xz = qL s)) := by
  rcases (show bigN (Qaj (qS4 s) 1) = 1 ∨ bigN (Qaj (qS4 s) 1) = 2 ∨ bigN (Qaj (qS4 s) 1) = 3 ∨ (bigN (Qaj (qS4 s) 1) < 1 ∨ 3 < bigN (Qaj (qS4 s) 1)) by omega) with hk | hk | hk | hk
  · exact QfE B gr s w hB h hk
  · exact QfD B gr s w hB h hk
  · exact QfC B gr s w hB h hk
  · exact QfB B gr s w hB h hk
end Go.Proofs.Ytfelfmchachljaa.Wr
end
section
namespace Go.Proofs.Ytfelfmchachljaa.Wr
open Go Go.RowKit
open Rely Auto Own Sha
set_option linter.unusedVariables false
set_option linter.unusedSimpArgs false
theorem Qd6 (us : Bool) (nm : Int) (key sg pa ms : List Int) (a_m : Option Addr) (c_m : Nat) (b : Bool) (hb : Qb8 us nm key sg pa ms = b) (w : World) (hkl : key.length = 32) (hgl : sg.length = 32) (hpl : pa.length = 32) (hm : RdK .i64 w.heap.size ms (.slice a_m ms.length c_m) w) : Calls Try.prog 96 #[.agg (cat [#[.bool us], #[.int .i64 nm], ints .u8 (key), ints .u8 (sg), ints .u8 (pa), #[.slice a_m ms.length c_m]])] w (Ret w (.bool b)) := hb ▸ QgP us nm key sg pa ms a_m c_m w hkl hgl hpl hm
theorem Qf8 (us : Bool) (nm : Int) (key sg pa ms : List Int) (a_m : Option Addr) (c_m : Nat) (b : Bool) (hb : Qa7 us nm key sg pa ms = b) (w : World) (hkl : key.length = 32) (hgl : sg.length = 32) (hpl : pa.length = 32) : Calls Try.prog 108 #[.agg (cat [#[.bool us], #[.int .i64 nm], ints .u8 (key), ints .u8 (sg), ints .u8 (pa), #[.slice a_m ms.length c_m]])] w (Ret w (.bool b)) := hb ▸ Qgp us nm key sg pa ms a_m c_m w hkl hgl hpl
def Qbk (ep fr kd : Int) (us : Bool) (nm : Int) (key sg pa ms start : List Int) (at_ : Int) : Bool := hgB ep fr && (if kd = 1 then Qb8 us nm key sg pa ms && (at_ == 0) else if kd = 2 then Qb8 us nm key sg pa ms && (decide (start = List.replicate 32 0) && (at_ == 0)) else if kd = 3 then Qa7 us nm key sg pa ms && (decide (start = List.replicate 32 0) && inB at_ 31) else false)
def Qbm (grp : List Int) (ep fr : Int) (bas : List Int) (kd : Int) (us : Bool) (nm : Int) (key sg pa ms start : List Int) (at_ : Int) (sig : List Int) : List Int := QaE grp ep fr ++ bas ++ [byV kd 0] ++ (if kd = 3 then [] else Qbd us nm key sg pa ms) ++ (if kd = 1 then start else []) ++ (if kd = 3 then [byV at_ 0] else []) ++ sig
def Qcm (grp : List Int) (ep fr : Int) (bas : List Int) (kd : Int) (us : Bool) (nm : Int) (key sg pa ms start : List Int) (at_ : Int) (sig : List Int) : Option (List Int) := if Qbk ep fr kd us nm key sg pa ms start at_ = true then some (Qbm grp ep fr bas kd us nm key sg pa ms start at_ sig) else none
set_option maxHeartbeats 4000000 in
theorem Qff (grp : List Int) (ep fr : Int) (bas : List Int) (kd : Int) (us : Bool) (nm : Int) (key sg pa ms start : List Int) (at_ : Int) (sig : List Int) (a_m : Option Addr) (c_m : Nat) (w : World) (hrl : grp.length = 32) (hrb : Qag grp) (hal : bas.length = 32) (hab : Qag bas) (hkl : key.length = 32) (hgl : sg.length = 32) (hpl : pa.length = 32) (hkb : Qag key) (hgb : Qag sg) (hpb : Qag pa) (hml : ms.length ≤ 1000000) (htl : start.length = 32) (htb : Qag start) (hil : sig.length = 64) (hib : Qag sig) (hm : RdK .i64 w.heap.size ms (.slice a_m ms.length c_m) w) (h0 : hgB ep fr = false) : Calls Try.prog 58 #[.agg (cat [ints .u8 (grp), #[.int .i64 ep], #[.int .i64 fr], ints .u8 (bas), #[.int .i64 kd], #[.bool us], #[.int .i64 nm], ints .u8 (key), ints .u8 (sg), ints .u8 (pa), #[.slice a_m ms.length c_m], ints .u8 (start), #[.int .i64 at_], ints .u8 (sig)])] w (Ret w (.bool false)) := by
  refine enter 52 [(0, .agg (cat [ints .u8 (grp), #[.int .i64 ep], #[.int .i64 fr], ints .u8 (bas), #[.int .i64 kd], #[.bool us], #[.int .i64 nm], ints .u8 (key), ints .u8 (sg), ints .u8 (pa), #[.slice a_m ms.length c_m], ints .u8 (start), #[.int .i64 at_], ints .u8 (sig)]))] Try.func58 rfl rfl kj rfl ?_
  refine wp_seq_k fun K1 hK1 => ?_
  refine Qae ?_
  refine Qav (cat [ints .u8 (grp), #[.int .i64 ep], #[.int .i64 fr], ints .u8 (bas), #[.int .i64 kd], #[.bool us], #[.int .i64 nm], ints .u8 (key), ints .u8 (sg), ints .u8 (pa), #[.slice a_m ms.length c_m], ints .u8 (start), #[.int .i64 at_], ints .u8 (sig)]) 47 1 rfl kj kj fun g2 W1 l2 e1 r2_1 => ?_
  have x1 : Ext w W1 := Ext.tr (Rely.Ext.refl w) e1
  have b2 : w.heap.size ≤ g2 := Nat.le_trans (Rely.Ext.refl w).size l2
  refine Qab (.bool false) 2 rfl kj kj ?_
  refine Qaf ?_
  refine hK1 _ _ ?_
  refine wp_seq_k fun K3 hK3 => ?_
  refine wp_seq_k fun K4 hK4 => ?_
  refine Qae ?_
  refine Qab (.pointer (some ⟨g2, 32, none⟩)) 4 rfl kj kj ?_
  refine Qab (.int .i64 ep) 5 rfl kj (Qah 3 _ g2 32 47 _ (.int .i64 ep) _ r2_1 rfl kj (Qak [ints .u8 (grp)] [#[.int .i64 ep]] [#[.int .i64 fr], ints .u8 (bas), #[.int .i64 kd], #[.bool us], #[.int .i64 nm], ints .u8 (key), ints .u8 (sg), ints .u8 (pa), #[.slice a_m ms.length c_m], ints .u8 (start), #[.int .i64 at_], ints .u8 (sig)] 32 ((Qac _ _).trans hrl) 0 _ rfl) kj) ?_
  refine Qab (.pointer (some ⟨g2, 33, none⟩)) 6 rfl kj kj ?_
  refine Qab (.int .i64 fr) 7 rfl kj (Qah 3 _ g2 33 47 _ (.int .i64 fr) _ r2_1 rfl kj (Qak [ints .u8 (grp), #[.int .i64 ep]] [#[.int .i64 fr]] [ints .u8 (bas), #[.int .i64 kd], #[.bool us], #[.int .i64 nm], ints .u8 (key), ints .u8 (sg), ints .u8 (pa), #[.slice a_m ms.length c_m], ints .u8 (start), #[.int .i64 at_], ints .u8 (sig)] 33 (by rw [Qaa, Qaa]; simp only [Array.size_append, cat, ((Qac _ _).trans hrl)]; rfl) 0 _ rfl) kj) ?_
  refine Qa3 (.bool false) 64 #[.int .i64 ep, .int .i64 fr] 8 rfl kj kj ((hgE ep fr _ h0) _) fun W2 e2 => ?_
  have x2 : Ext w W2 := Ext.tr x1 e2
  refine Qab (.bool true) 9 rfl kj kj ?_
  refine Qaf ?_
  refine hK4 _ _ ?_
  refine cond_true kj ?_
  refine wp_seq_k fun K5 hK5 => ?_
  refine Qae ?_
  refine Qab (.bool false) 2 rfl kj kj ?_
  refine Qaf ?_
  refine hK5 _ _ ?_
  refine wp_ret ?_
  repeat (first | with_reducible refine goR1 ?_ | with_reducible refine goR2 ?_)
  exact (show bodyPost _ _ _ .ret _ _ from ret1 (.bool false) rfl (Qaw kj) ⟨rfl, x2⟩)
set_option maxHeartbeats 4000000 in
theorem QeA (grp : List Int) (ep fr : Int) (bas : List Int) (us : Bool) (nm : Int) (key sg pa ms start : List Int) (at_ : Int) (sig : List Int) (a_m : Option Addr) (c_m : Nat) (w : World) (hrl : grp.length = 32) (hrb : Qag grp) (hal : bas.length = 32) (hab : Qag bas) (hkl : key.length = 32) (hgl : sg.length = 32) (hpl : pa.length = 32) (hkb : Qag key) (hgb : Qag sg) (hpb : Qag pa) (hml : ms.length ≤ 1000000) (htl : start.length = 32) (htb : Qag start) (hil : sig.length = 64) (hib : Qag sig) (hm : RdK .i64 w.heap.size ms (.slice a_m ms.length c_m) w) (h0 : hgB ep fr = true) (h1 : Qb8 us nm key sg pa ms = false) : Calls Try.prog 58 #[.agg (cat [ints .u8 (grp), #[.int .i64 ep], #[.int .i64 fr], ints .u8 (bas), #[.int .i64 1], #[.bool us], #[.int .i64 nm], ints .u8 (key), ints .u8 (sg), ints .u8 (pa), #[.slice a_m ms.length c_m], ints .u8 (start), #[.int .i64 at_], ints .u8 (sig)])] w (Ret w (.bool false)) := by
  refine enter 52 [(0, .agg (cat [ints .u8 (grp), #[.int .i64 ep], #[.int .i64 fr], ints .u8 (bas), #[.int .i64 1], #[.bool us], #[.int .i64 nm], ints .u8 (key), ints .u8 (sg), ints .u8 (pa), #[.slice a_m ms.length c_m], ints .u8 (start), #[.int .i64 at_], ints .u8 (sig)]))] Try.func58 rfl rfl kj rfl ?_
  refine wp_seq_k fun K1 hK1 => ?_
  refine Qae ?_
  refine Qav (cat [ints .u8 (grp), #[.int .i64 ep], #[.int .i64 fr], ints .u8 (bas), #[.int .i64 1], #[.bool us], #[.int .i64 nm], ints .u8 (key), ints .u8 (sg), ints .u8 (pa), #[.slice a_m ms.length c_m], ints .u8 (start), #[.int .i64 at_], ints .u8 (sig)]) 47 1 rfl kj kj fun g2 W1 l2 e1 r2_1 => ?_
  have x1 : Ext w W1 := Ext.tr (Rely.Ext.refl w) e1
  have b2 : w.heap.size ≤ g2 := Nat.le_trans (Rely.Ext.refl w).size l2
  refine Qab (.bool false) 2 rfl kj kj ?_
  refine Qaf ?_
  refine hK1 _ _ ?_
  refine wp_seq_k fun K3 hK3 => ?_
  refine wp_seq_k fun K4 hK4 => ?_
  refine Qae ?_
  refine Qab (.pointer (some ⟨g2, 32, none⟩)) 4 rfl kj kj ?_
  refine Qab (.int .i64 ep) 5 rfl kj (Qah 3 _ g2 32 47 _ (.int .i64 ep) _ r2_1 rfl kj (Qak [ints .u8 (grp)] [#[.int .i64 ep]] [#[.int .i64 fr], ints .u8 (bas), #[.int .i64 1], #[.bool us], #[.int .i64 nm], ints .u8 (key), ints .u8 (sg), ints .u8 (pa), #[.slice a_m ms.length c_m], ints .u8 (start), #[.int .i64 at_], ints .u8 (sig)] 32 ((Qac _ _).trans hrl) 0 _ rfl) kj) ?_
  refine Qab (.pointer (some ⟨g2, 33, none⟩)) 6 rfl kj kj ?_
  refine Qab (.int .i64 fr) 7 rfl kj (Qah 3 _ g2 33 47 _ (.int .i64 fr) _ r2_1 rfl kj (Qak [ints .u8 (grp), #[.int .i64 ep]] [#[.int .i64 fr]] [ints .u8 (bas), #[.int .i64 1], #[.bool us], #[.int .i64 nm], ints .u8 (key), ints .u8 (sg), ints .u8 (pa), #[.slice a_m ms.length c_m], ints .u8 (start), #[.int .i64 at_], ints .u8 (sig)] 33 (by rw [Qaa, Qaa]; simp only [Array.size_append, cat, ((Qac _ _).trans hrl)]; rfl) 0 _ rfl) kj) ?_
  refine Qa3 (.bool true) 64 #[.int .i64 ep, .int .i64 fr] 8 rfl kj kj ((hgE ep fr _ h0) _) fun W2 e2 => ?_
  have x2 : Ext w W2 := Ext.tr x1 e2
  refine Qab (.bool false) 9 rfl kj kj ?_
  refine Qaf ?_
  refine hK4 _ _ ?_
  refine cond_false kj ?_
  refine wp_skip ?_
  refine hK3 _ _ ?_
  refine wp_seq_k fun K5 hK5 => ?_
  refine Qae ?_
  refine Qab (.pointer (some ⟨g2, 166, none⟩)) 10 rfl kj kj ?_
  have r2_2 := (Qas r2_1 e2)
  refine Qab (.agg (ints .u8 (start))) 11 rfl kj (Qau 40 _ g2 166 47 _ _ _ r2_2 rfl kj (Qak [ints .u8 (grp), #[.int .i64 ep], #[.int .i64 fr], ints .u8 (bas), #[.int .i64 1], #[.bool us], #[.int .i64 nm], ints .u8 (key), ints .u8 (sg), ints .u8 (pa), #[.slice a_m ms.length c_m]] [ints .u8 (start)] [#[.int .i64 at_], ints .u8 (sig)] 166 (by rw [Qaa, Qaa, Qaa, Qaa, Qaa, Qaa, Qaa, Qaa, Qaa, Qaa, Qaa]; simp only [Array.size_append, cat, ((Qac _ _).trans hal), ((Qac _ _).trans hgl), ((Qac _ _).trans hkl), ((Qac _ _).trans hpl), ((Qac _ _).trans hrl)]; rfl)) kj (isz (n := 32) kj ((Qac _ _).trans htl))) ?_
  refine Qab (.agg (ints .u8 (List.replicate 32 0))) 12 rfl kj kj ?_
  refine Qab (.bool (decide (start = List.replicate 32 0))) 13 rfl kj (Qa1 40 _ _ _ _ _ (.bool (decide (start = List.replicate 32 0))) rfl kj kj kj (Qa6 40 (e := 5) (k := .u8) (start) (List.replicate 32 0) rfl htl (List.length_replicate (n := 32)) kj kj kj _)) ?_
  refine Qab (.bool (decide (start = List.replicate 32 0))) 3 rfl kj kj ?_
  refine Qaf ?_
  refine hK5 _ _ ?_
  refine wp_seq_k fun K6 hK6 => ?_
  refine wp_seq_k fun K7 hK7 => ?_
  refine Qae ?_
  refine Qab (.pointer (some ⟨g2, 66, none⟩)) 14 rfl kj kj ?_
  refine Qab (.int .i64 1) 15 rfl kj (Qah 3 _ g2 66 47 _ (.int .i64 1) _ r2_2 rfl kj (Qak [ints .u8 (grp), #[.int .i64 ep], #[.int .i64 fr], ints .u8 (bas)] [#[.int .i64 1]] [#[.bool us], #[.int .i64 nm], ints .u8 (key), ints .u8 (sg), ints .u8 (pa), #[.slice a_m ms.length c_m], ints .u8 (start), #[.int .i64 at_], ints .u8 (sig)] 66 (by rw [Qaa, Qaa, Qaa, Qaa]; simp only [Array.size_append, cat, ((Qac _ _).trans hal), ((Qac _ _).trans hrl)]; rfl) 0 _ rfl) kj) ?_
  refine Qaf ?_
  refine hK7 _ _ ?_
  refine wp_block ?_
  refine wp_seq_k fun K8 hK8 => ?_
  refine Qae ?_
  refine Qab (.bool true) 17 rfl kj kj ?_
  refine Qab (.bool true) 16 rfl kj kj ?_
  refine Qaf ?_
  refine hK8 _ _ ?_
  refine cond_true kj ?_
  refine wp_seq_k fun K9 hK9 => ?_
  refine Qae ?_
  refine Qab (.pointer (some ⟨g2, 67, none⟩)) 18 rfl kj kj ?_
  refine Qab (.agg (cat [#[.bool us], #[.int .i64 nm], ints .u8 (key), ints .u8 (sg), ints .u8 (pa), #[.slice a_m ms.length c_m]])) 19 rfl kj (Qau 43 _ g2 67 47 _ _ _ r2_2 rfl kj (Qak [ints .u8 (grp), #[.int .i64 ep], #[.int .i64 fr], ints .u8 (bas), #[.int .i64 1]] [#[.bool us], #[.int .i64 nm], ints .u8 (key), ints .u8 (sg), ints .u8 (pa), #[.slice a_m ms.length c_m]] [ints .u8 (start), #[.int .i64 at_], ints .u8 (sig)] 67 (by rw [Qaa, Qaa, Qaa, Qaa, Qaa]; simp only [Array.size_append, cat, ((Qac _ _).trans hal), ((Qac _ _).trans hrl)]; rfl)) kj (isz (n := 99) kj (by rw [Qaa, Qaa, Qaa, Qaa, Qaa, Qaa]; simp only [Array.size_append, cat, ((Qac _ _).trans hgl), ((Qac _ _).trans hkl), ((Qac _ _).trans hpl)]; rfl))) ?_
  refine Qa3 (.bool false) 96 #[.agg (cat [#[.bool us], #[.int .i64 nm], ints .u8 (key), ints .u8 (sg), ints .u8 (pa), #[.slice a_m ms.length c_m]])] 20 rfl kj kj (Qd6 us nm key sg pa ms _ _ _ h1 _ hkl hgl hpl (RdK.here (RdK.ext hm x2))) fun W3 e3 => ?_
  have x3 : Ext w W3 := Ext.tr x2 e3
  refine Qab (.bool false) 21 rfl kj kj ?_
  refine Qap 22 rfl kj ?_
  refine Qap 23 rfl kj ?_
  refine Qap 24 rfl kj ?_
  refine Qab (.bool false) 25 rfl kj kj ?_
  refine Qab (.bool false) 2 rfl kj kj ?_
  refine Qaf ?_
  refine hK9 _ _ ?_
  refine wp_ret ?_
  repeat (first | with_reducible refine goR1 ?_ | with_reducible refine goR2 ?_)
  exact (show bodyPost _ _ _ .ret _ _ from ret1 (.bool false) rfl (Qaw kj) ⟨rfl, x3⟩)
set_option maxHeartbeats 4000000 in
theorem Qe9 (grp : List Int) (ep fr : Int) (bas : List Int) (us : Bool) (nm : Int) (key sg pa ms start : List Int) (at_ : Int) (sig : List Int) (a_m : Option Addr) (c_m : Nat) (w : World) (hrl : grp.length = 32) (hrb : Qag grp) (hal : bas.length = 32) (hab : Qag bas) (hkl : key.length = 32) (hgl : sg.length = 32) (hpl : pa.length = 32) (hkb : Qag key) (hgb : Qag sg) (hpb : Qag pa) (hml : ms.length ≤ 1000000) (htl : start.length = 32) (htb : Qag start) (hil : sig.length = 64) (hib : Qag sig) (hm : RdK .i64 w.heap.size ms (.slice a_m ms.length c_m) w) (h0 : hgB ep fr = true) (h1 : Qb8 us nm key sg pa ms = true) : Calls Try.prog 58 #[.agg (cat [ints .u8 (grp), #[.int .i64 ep], #[.int .i64 fr], ints .u8 (bas), #[.int .i64 1], #[.bool us], #[.int .i64 nm], ints .u8 (key), ints .u8 (sg), ints .u8 (pa), #[.slice a_m ms.length c_m], ints .u8 (start), #[.int .i64 at_], ints .u8 (sig)])] w (Ret w (.bool (at_ == 0))) := by
  refine enter 52 [(0, .agg (cat [ints .u8 (grp), #[.int .i64 ep], #[.int .i64 fr], ints .u8 (bas), #[.int .i64 1], #[.bool us], #[.int .i64 nm], ints .u8 (key), ints .u8 (sg), ints .u8 (pa), #[.slice a_m ms.length c_m], ints .u8 (start), #[.int .i64 at_], ints .u8 (sig)]))] Try.func58 rfl rfl kj rfl ?_
  refine wp_seq_k fun K1 hK1 => ?_
  refine Qae ?_
  refine Qav (cat [ints .u8 (grp), #[.int .i64 ep], #[.int .i64 fr], ints .u8 (bas), #[.int .i64 1], #[.bool us], #[.int .i64 nm], ints .u8 (key), ints .u8 (sg), ints .u8 (pa), #[.slice a_m ms.length c_m], ints .u8 (start), #[.int .i64 at_], ints .u8 (sig)]) 47 1 rfl kj kj fun g2 W1 l2 e1 r2_1 => ?_
  have x1 : Ext w W1 := Ext.tr (Rely.Ext.refl w) e1
  have b2 : w.heap.size ≤ g2 := Nat.le_trans (Rely.Ext.refl w).size l2
  refine Qab (.bool false) 2 rfl kj kj ?_
  refine Qaf ?_
  refine hK1 _ _ ?_
  refine wp_seq_k fun K3 hK3 => ?_
  refine wp_seq_k fun K4 hK4 => ?_
  refine Qae ?_
  refine Qab (.pointer (some ⟨g2, 32, none⟩)) 4 rfl kj kj ?_
  refine Qab (.int .i64 ep) 5 rfl kj (Qah 3 _ g2 32 47 _ (.int .i64 ep) _ r2_1 rfl kj (Qak [ints .u8 (grp)] [#[.int .i64 ep]] [#[.int .i64 fr], ints .u8 (bas), #[.int .i64 1], #[.bool us], #[.int .i64 nm], ints .u8 (key), ints .u8 (sg), ints .u8 (pa), #[.slice a_m ms.length c_m], ints .u8 (start), #[.int .i64 at_], ints .u8 (sig)] 32 ((Qac _ _).trans hrl) 0 _ rfl) kj) ?_
  refine Qab (.pointer (some ⟨g2, 33, none⟩)) 6 rfl kj kj ?_
  refine Qab (.int .i64 fr) 7 rfl kj (Qah 3 _ g2 33 47 _ (.int .i64 fr) _ r2_1 rfl kj (Qak [ints .u8 (grp), #[.int .i64 ep]] [#[.int .i64 fr]] [ints .u8 (bas), #[.int .i64 1], #[.bool us], #[.int .i64 nm], ints .u8 (key), ints .u8 (sg), ints .u8 (pa), #[.slice a_m ms.length c_m], ints .u8 (start), #[.int .i64 at_], ints .u8 (sig)] 33 (by rw [Qaa, Qaa]; simp only [Array.size_append, cat, ((Qac _ _).trans hrl)]; rfl) 0 _ rfl) kj) ?_
  refine Qa3 (.bool true) 64 #[.int .i64 ep, .int .i64 fr] 8 rfl kj kj ((hgE ep fr _ h0) _) fun W2 e2 => ?_
  have x2 : Ext w W2 := Ext.tr x1 e2
  refine Qab (.bool false) 9 rfl kj kj ?_
  refine Qaf ?_
  refine hK4 _ _ ?_
  refine cond_false kj ?_
  refine wp_skip ?_
  refine hK3 _ _ ?_
  refine wp_seq_k fun K5 hK5 => ?_
  refine Qae ?_
  refine Qab (.pointer (some ⟨g2, 166, none⟩)) 10 rfl kj kj ?_
  have r2_2 := (Qas r2_1 e2)
  refine Qab (.agg (ints .u8 (start))) 11 rfl kj (Qau 40 _ g2 166 47 _ _ _ r2_2 rfl kj (Qak [ints .u8 (grp), #[.int .i64 ep], #[.int .i64 fr], ints .u8 (bas), #[.int .i64 1], #[.bool us], #[.int .i64 nm], ints .u8 (key), ints .u8 (sg), ints .u8 (pa), #[.slice a_m ms.length c_m]] [ints .u8 (start)] [#[.int .i64 at_], ints .u8 (sig)] 166 (by rw [Qaa, Qaa, Qaa, Qaa, Qaa, Qaa, Qaa, Qaa, Qaa, Qaa, Qaa]; simp only [Array.size_append, cat, ((Qac _ _).trans hal), ((Qac _ _).trans hgl), ((Qac _ _).trans hkl), ((Qac _ _).trans hpl), ((Qac _ _).trans hrl)]; rfl)) kj (isz (n := 32) kj ((Qac _ _).trans htl))) ?_
  refine Qab (.agg (ints .u8 (List.replicate 32 0))) 12 rfl kj kj ?_
  refine Qab (.bool (decide (start = List.replicate 32 0))) 13 rfl kj (Qa1 40 _ _ _ _ _ (.bool (decide (start = List.replicate 32 0))) rfl kj kj kj (Qa6 40 (e := 5) (k := .u8) (start) (List.replicate 32 0) rfl htl (List.length_replicate (n := 32)) kj kj kj _)) ?_
  refine Qab (.bool (decide (start = List.replicate 32 0))) 3 rfl kj kj ?_
  refine Qaf ?_
  refine hK5 _ _ ?_
  refine wp_seq_k fun K6 hK6 => ?_
  refine wp_seq_k fun K7 hK7 => ?_
  refine Qae ?_
  refine Qab (.pointer (some ⟨g2, 66, none⟩)) 14 rfl kj kj ?_
  refine Qab (.int .i64 1) 15 rfl kj (Qah 3 _ g2 66 47 _ (.int .i64 1) _ r2_2 rfl kj (Qak [ints .u8 (grp), #[.int .i64 ep], #[.int .i64 fr], ints .u8 (bas)] [#[.int .i64 1]] [#[.bool us], #[.int .i64 nm], ints .u8 (key), ints .u8 (sg), ints .u8 (pa), #[.slice a_m ms.length c_m], ints .u8 (start), #[.int .i64 at_], ints .u8 (sig)] 66 (by rw [Qaa, Qaa, Qaa, Qaa]; simp only [Array.size_append, cat, ((Qac _ _).trans hal), ((Qac _ _).trans hrl)]; rfl) 0 _ rfl) kj) ?_
  refine Qaf ?_
  refine hK7 _ _ ?_
  refine wp_block ?_
  refine wp_seq_k fun K8 hK8 => ?_
  refine Qae ?_
  refine Qab (.bool true) 17 rfl kj kj ?_
  refine Qab (.bool true) 16 rfl kj kj ?_
  refine Qaf ?_
  refine hK8 _ _ ?_
  refine cond_true kj ?_
  refine wp_seq_k fun K9 hK9 => ?_
  refine Qae ?_
  refine Qab (.pointer (some ⟨g2, 67, none⟩)) 18 rfl kj kj ?_
  refine Qab (.agg (cat [#[.bool us], #[.int .i64 nm], ints .u8 (key), ints .u8 (sg), ints .u8 (pa), #[.slice a_m ms.length c_m]])) 19 rfl kj (Qau 43 _ g2 67 47 _ _ _ r2_2 rfl kj (Qak [ints .u8 (grp), #[.int .i64 ep], #[.int .i64 fr], ints .u8 (bas), #[.int .i64 1]] [#[.bool us], #[.int .i64 nm], ints .u8 (key), ints .u8 (sg), ints .u8 (pa), #[.slice a_m ms.length c_m]] [ints .u8 (start), #[.int .i64 at_], ints .u8 (sig)] 67 (by rw [Qaa, Qaa, Qaa, Qaa, Qaa]; simp only [Array.size_append, cat, ((Qac _ _).trans hal), ((Qac _ _).trans hrl)]; rfl)) kj (isz (n := 99) kj (by rw [Qaa, Qaa, Qaa, Qaa, Qaa, Qaa]; simp only [Array.size_append, cat, ((Qac _ _).trans hgl), ((Qac _ _).trans hkl), ((Qac _ _).trans hpl)]; rfl))) ?_
  refine Qa3 (.bool true) 96 #[.agg (cat [#[.bool us], #[.int .i64 nm], ints .u8 (key), ints .u8 (sg), ints .u8 (pa), #[.slice a_m ms.length c_m]])] 20 rfl kj kj (Qd6 us nm key sg pa ms _ _ _ h1 _ hkl hgl hpl (RdK.here (RdK.ext hm x2))) fun W3 e3 => ?_
  have x3 : Ext w W3 := Ext.tr x2 e3
  refine Qab (.bool true) 21 rfl kj kj ?_
  refine Qab (.pointer (some ⟨g2, 198, none⟩)) 22 rfl kj kj ?_
  have r2_3 := (Qas r2_2 e3)
  refine Qab (.int .i64 at_) 23 rfl kj (Qah 3 _ g2 198 47 _ (.int .i64 at_) _ r2_3 rfl kj (Qak [ints .u8 (grp), #[.int .i64 ep], #[.int .i64 fr], ints .u8 (bas), #[.int .i64 1], #[.bool us], #[.int .i64 nm], ints .u8 (key), ints .u8 (sg), ints .u8 (pa), #[.slice a_m ms.length c_m], ints .u8 (start)] [#[.int .i64 at_]] [ints .u8 (sig)] 198 (by rw [Qaa, Qaa, Qaa, Qaa, Qaa, Qaa, Qaa, Qaa, Qaa, Qaa, Qaa, Qaa]; simp only [Array.size_append, cat, ((Qac _ _).trans hal), ((Qac _ _).trans hgl), ((Qac _ _).trans hkl), ((Qac _ _).trans hpl), ((Qac _ _).trans hrl), ((Qac _ _).trans htl)]; rfl) 0 _ rfl) kj) ?_
  refine Qab (.bool ((at_ == 0))) 24 rfl kj kj ?_
  refine Qab (.bool ((at_ == 0))) 25 rfl kj kj ?_
  refine Qab (.bool ((at_ == 0))) 2 rfl kj kj ?_
  refine Qaf ?_
  refine hK9 _ _ ?_
  refine wp_ret ?_
  repeat (first | with_reducible refine goR1 ?_ | with_reducible refine goR2 ?_)
  exact (show bodyPost _ _ _ .ret _ _ from ret1 (.bool ((at_ == 0))) rfl (Qaw kj) ⟨rfl, x3⟩)
set_option maxHeartbeats 4000000 in
theorem Qe8 (grp : List Int) (ep fr : Int) (bas : List Int) (us : Bool) (nm : Int) (key sg pa ms start : List Int) (at_ : Int) (sig : List Int) (a_m : Option Addr) (c_m : Nat) (w : World) (hrl : grp.length = 32) (hrb : Qag grp) (hal : bas.length = 32) (hab : Qag bas) (hkl : key.length = 32) (hgl : sg.length = 32) (hpl : pa.length = 32) (hkb : Qag key) (hgb : Qag sg) (hpb : Qag pa) (hml : ms.length ≤ 1000000) (htl : start.length = 32) (htb : Qag start) (hil : sig.length = 64) (hib : Qag sig) (hm : RdK .i64 w.heap.size ms (.slice a_m ms.length c_m) w) (h0 : hgB ep fr = true) (h1 : Qb8 us nm key sg pa ms = false) : Calls Try.prog 58 #[.agg (cat [ints .u8 (grp), #[.int .i64 ep], #[.int .i64 fr], ints .u8 (bas), #[.int .i64 2], #[.bool us], #[.int .i64 nm], ints .u8 (key), ints .u8 (sg), ints .u8 (pa), #[.slice a_m ms.length c_m], ints .u8 (start), #[.int .i64 at_], ints .u8 (sig)])] w (Ret w (.bool false)) := by
  refine enter 52 [(0, .agg (cat [ints .u8 (grp), #[.int .i64 ep], #[.int .i64 fr], ints .u8 (bas), #[.int .i64 2], #[.bool us], #[.int .i64 nm], ints .u8 (key), ints .u8 (sg), ints .u8 (pa), #[.slice a_m ms.length c_m], ints .u8 (start), #[.int .i64 at_], ints .u8 (sig)]))] Try.func58 rfl rfl kj rfl ?_
  refine wp_seq_k fun K1 hK1 => ?_
  refine Qae ?_
  refine Qav (cat [ints .u8 (grp), #[.int .i64 ep], #[.int .i64 fr], ints .u8 (bas), #[.int .i64 2], #[.bool us], #[.int .i64 nm], ints .u8 (key), ints .u8 (sg), ints .u8 (pa), #[.slice a_m ms.length c_m], ints .u8 (start), #[.int .i64 at_], ints .u8 (sig)]) 47 1 rfl kj kj fun g2 W1 l2 e1 r2_1 => ?_
  have x1 : Ext w W1 := Ext.tr (Rely.Ext.refl w) e1
  have b2 : w.heap.size ≤ g2 := Nat.le_trans (Rely.Ext.refl w).size l2
  refine Qab (.bool false) 2 rfl kj kj ?_
  refine Qaf ?_
  refine hK1 _ _ ?_
  refine wp_seq_k fun K3 hK3 => ?_
  refine wp_seq_k fun K4 hK4 => ?_
  refine Qae ?_
  refine Qab (.pointer (some ⟨g2, 32, none⟩)) 4 rfl kj kj ?_
  refine Qab (.int .i64 ep) 5 rfl kj (Qah 3 _ g2 32 47 _ (.int .i64 ep) _ r2_1 rfl kj (Qak [ints .u8 (grp)] [#[.int .i64 ep]] [#[.int .i64 fr], ints .u8 (bas), #[.int .i64 2], #[.bool us], #[.int .i64 nm], ints .u8 (key), ints .u8 (sg), ints .u8 (pa), #[.slice a_m ms.length c_m], ints .u8 (start), #[.int .i64 at_], ints .u8 (sig)] 32 ((Qac _ _).trans hrl) 0 _ rfl) kj) ?_
  refine Qab (.pointer (some ⟨g2, 33, none⟩)) 6 rfl kj kj ?_
  refine Qab (.int .i64 fr) 7 rfl kj (Qah 3 _ g2 33 47 _ (.int .i64 fr) _ r2_1 rfl kj (Qak [ints .u8 (grp), #[.int .i64 ep]] [#[.int .i64 fr]] [ints .u8 (bas), #[.int .i64 2], #[.bool us], #[.int .i64 nm], ints .u8 (key), ints .u8 (sg), ints .u8 (pa), #[.slice a_m ms.length c_m], ints .u8 (start), #[.int .i64 at_], ints .u8 (sig)] 33 (by rw [Qaa, Qaa]; simp only [Array.size_append, cat, ((Qac _ _).trans hrl)]; rfl) 0 _ rfl) kj) ?_
  refine Qa3 (.bool true) 64 #[.int .i64 ep, .int .i64 fr] 8 rfl kj kj ((hgE ep fr _ h0) _) fun W2 e2 => ?_
  have x2 : Ext w W2 := Ext.tr x1 e2
  refine Qab (.bool false) 9 rfl kj kj ?_
  refine Qaf ?_
  refine hK4 _ _ ?_
  refine cond_false kj ?_
  refine wp_skip ?_
  refine hK3 _ _ ?_
  refine wp_seq_k fun K5 hK5 => ?_
  refine Qae ?_
  refine Qab (.pointer (some ⟨g2, 166, none⟩)) 10 rfl kj kj ?_
  have r2_2 := (Qas r2_1 e2)
  refine Qab (.agg (ints .u8 (start))) 11 rfl kj (Qau 40 _ g2 166 47 _ _ _ r2_2 rfl kj (Qak [ints .u8 (grp), #[.int .i64 ep], #[.int .i64 fr], ints .u8 (bas), #[.int .i64 2], #[.bool us], #[.int .i64 nm], ints .u8 (key), ints .u8 (sg), ints .u8 (pa), #[.slice a_m ms.length c_m]] [ints .u8 (start)] [#[.int .i64 at_], ints .u8 (sig)] 166 (by rw [Qaa, Qaa, Qaa, Qaa, Qaa, Qaa, Qaa, Qaa, Qaa, Qaa, Qaa]; simp only [Array.size_append, cat, ((Qac _ _).trans hal), ((Qac _ _).trans hgl), ((Qac _ _).trans hkl), ((Qac _ _).trans hpl), ((Qac _ _).trans hrl)]; rfl)) kj (isz (n := 32) kj ((Qac _ _).trans htl))) ?_
  refine Qab (.agg (ints .u8 (List.replicate 32 0))) 12 rfl kj kj ?_
  refine Qab (.bool (decide (start = List.replicate 32 0))) 13 rfl kj (Qa1 40 _ _ _ _ _ (.bool (decide (start = List.replicate 32 0))) rfl kj kj kj (Qa6 40 (e := 5) (k := .u8) (start) (List.replicate 32 0) rfl htl (List.length_replicate (n := 32)) kj kj kj _)) ?_
  refine Qab (.bool (decide (start = List.replicate 32 0))) 3 rfl kj kj ?_
  refine Qaf ?_
  refine hK5 _ _ ?_
  refine wp_seq_k fun K6 hK6 => ?_
  refine wp_seq_k fun K7 hK7 => ?_
  refine Qae ?_
  refine Qab (.pointer (some ⟨g2, 66, none⟩)) 14 rfl kj kj ?_
  refine Qab (.int .i64 2) 15 rfl kj (Qah 3 _ g2 66 47 _ (.int .i64 2) _ r2_2 rfl kj (Qak [ints .u8 (grp), #[.int .i64 ep], #[.int .i64 fr], ints .u8 (bas)] [#[.int .i64 2]] [#[.bool us], #[.int .i64 nm], ints .u8 (key), ints .u8 (sg), ints .u8 (pa), #[.slice a_m ms.length c_m], ints .u8 (start), #[.int .i64 at_], ints .u8 (sig)] 66 (by rw [Qaa, Qaa, Qaa, Qaa]; simp only [Array.size_append, cat, ((Qac _ _).trans hal), ((Qac _ _).trans hrl)]; rfl) 0 _ rfl) kj) ?_
  refine Qaf ?_
  refine hK7 _ _ ?_
  refine wp_block ?_
  refine wp_seq_k fun K8 hK8 => ?_
  refine Qae ?_
  refine Qab (.bool false) 17 rfl kj kj ?_
  refine Qab (.bool false) 16 rfl kj kj ?_
  refine Qaf ?_
  refine hK8 _ _ ?_
  refine cond_false kj ?_
  refine wp_seq_k fun K9 hK9 => ?_
  refine Qae ?_
  refine Qab (.bool true) 27 rfl kj kj ?_
  refine Qab (.bool true) 26 rfl kj kj ?_
  refine Qaf ?_
  refine hK9 _ _ ?_
  refine cond_true kj ?_
  refine wp_seq_k fun K10 hK10 => ?_
  refine Qae ?_
  refine Qab (.pointer (some ⟨g2, 67, none⟩)) 28 rfl kj kj ?_
  refine Qab (.agg (cat [#[.bool us], #[.int .i64 nm], ints .u8 (key), ints .u8 (sg), ints .u8 (pa), #[.slice a_m ms.length c_m]])) 29 rfl kj (Qau 43 _ g2 67 47 _ _ _ r2_2 rfl kj (Qak [ints .u8 (grp), #[.int .i64 ep], #[.int .i64 fr], ints .u8 (bas), #[.int .i64 2]] [#[.bool us], #[.int .i64 nm], ints .u8 (key), ints .u8 (sg), ints .u8 (pa), #[.slice a_m ms.length c_m]] [ints .u8 (start), #[.int .i64 at_], ints .u8 (sig)] 67 (by rw [Qaa, Qaa, Qaa, Qaa, Qaa]; simp only [Array.size_append, cat, ((Qac _ _).trans hal), ((Qac _ _).trans hrl)]; rfl)) kj (isz (n := 99) kj (by rw [Qaa, Qaa, Qaa, Qaa, Qaa, Qaa]; simp only [Array.size_append, cat, ((Qac _ _).trans hgl), ((Qac _ _).trans hkl), ((Qac _ _).trans hpl)]; rfl))) ?_
  refine Qa3 (.bool false) 96 #[.agg (cat [#[.bool us], #[.int .i64 nm], ints .u8 (key), ints .u8 (sg), ints .u8 (pa), #[.slice a_m ms.length c_m]])] 30 rfl kj kj (Qd6 us nm key sg pa ms _ _ _ h1 _ hkl hgl hpl (RdK.here (RdK.ext hm x2))) fun W3 e3 => ?_
  have x3 : Ext w W3 := Ext.tr x2 e3
  refine Qab (.bool false) 31 rfl kj kj ?_
  refine Qap 32 rfl kj ?_
  refine Qab (.bool false) 33 rfl kj kj ?_
  refine Qab (.bool false) 34 rfl kj kj ?_
  refine Qap 35 rfl kj ?_
  refine Qap 36 rfl kj ?_
  refine Qap 37 rfl kj ?_
  refine Qab (.bool false) 38 rfl kj kj ?_
  refine Qab (.bool false) 2 rfl kj kj ?_
  refine Qaf ?_
  refine hK10 _ _ ?_
  refine wp_ret ?_
  repeat (first | with_reducible refine goR1 ?_ | with_reducible refine goR2 ?_)
  exact (show bodyPost _ _ _ .ret _ _ from ret1 (.bool false) rfl (Qaw kj) ⟨rfl, x3⟩)
set_option maxHeartbeats 4000000 in
theorem Qe7 (grp : List Int) (ep fr : Int) (bas : List Int) (us : Bool) (nm : Int) (key sg pa ms start : List Int) (at_ : Int) (sig : List Int) (a_m : Option Addr) (c_m : Nat) (w : World) (hrl : grp.length = 32) (hrb : Qag grp) (hal : bas.length = 32) (hab : Qag bas) (hkl : key.length = 32) (hgl : sg.length = 32) (hpl : pa.length = 32) (hkb : Qag key) (hgb : Qag sg) (hpb : Qag pa) (hml : ms.length ≤ 1000000) (htl : start.length = 32) (htb : Qag start) (hil : sig.length = 64) (hib : Qag sig) (hm : RdK .i64 w.heap.size ms (.slice a_m ms.length c_m) w) (h0 : hgB ep fr = true) (h1 : Qb8 us nm key sg pa ms = true) (h2 : ¬ start = List.replicate 32 0) : Calls Try.prog 58 #[.agg (cat [ints .u8 (grp), #[.int .i64 ep], #[.int .i64 fr], ints .u8 (bas), #[.int .i64 2], #[.bool us], #[.int .i64 nm], ints .u8 (key), ints .u8 (sg), ints .u8 (pa), #[.slice a_m ms.length c_m], ints .u8 (start), #[.int .i64 at_], ints .u8 (sig)])] w (Ret w (.bool false)) := by
  refine enter 52 [(0, .agg (cat [ints .u8 (grp), #[.int .i64 ep], #[.int .i64 fr], ints .u8 (bas), #[.int .i64 2], #[.bool us], #[.int .i64 nm], ints .u8 (key), ints .u8 (sg), ints .u8 (pa), #[.slice a_m ms.length c_m], ints .u8 (start), #[.int .i64 at_], ints .u8 (sig)]))] Try.func58 rfl rfl kj rfl ?_
  refine wp_seq_k fun K1 hK1 => ?_
  refine Qae ?_
  refine Qav (cat [ints .u8 (grp), #[.int .i64 ep], #[.int .i64 fr], ints .u8 (bas), #[.int .i64 2], #[.bool us], #[.int .i64 nm], ints .u8 (key), ints .u8 (sg), ints .u8 (pa), #[.slice a_m ms.length c_m], ints .u8 (start), #[.int .i64 at_], ints .u8 (sig)]) 47 1 rfl kj kj fun g2 W1 l2 e1 r2_1 => ?_
  have x1 : Ext w W1 := Ext.tr (Rely.Ext.refl w) e1
  have b2 : w.heap.size ≤ g2 := Nat.le_trans (Rely.Ext.refl w).size l2
  refine Qab (.bool false) 2 rfl kj kj ?_
  refine Qaf ?_
  refine hK1 _ _ ?_
  refine wp_seq_k fun K3 hK3 => ?_
  refine wp_seq_k fun K4 hK4 => ?_
  refine Qae ?_
  refine Qab (.pointer (some ⟨g2, 32, none⟩)) 4 rfl kj kj ?_
  refine Qab (.int .i64 ep) 5 rfl kj (Qah 3 _ g2 32 47 _ (.int .i64 ep) _ r2_1 rfl kj (Qak [ints .u8 (grp)] [#[.int .i64 ep]] [#[.int .i64 fr], ints .u8 (bas), #[.int .i64 2], #[.bool us], #[.int .i64 nm], ints .u8 (key), ints .u8 (sg), ints .u8 (pa), #[.slice a_m ms.length c_m], ints .u8 (start), #[.int .i64 at_], ints .u8 (sig)] 32 ((Qac _ _).trans hrl) 0 _ rfl) kj) ?_
  refine Qab (.pointer (some ⟨g2, 33, none⟩)) 6 rfl kj kj ?_
  refine Qab (.int .i64 fr) 7 rfl kj (Qah 3 _ g2 33 47 _ (.int .i64 fr) _ r2_1 rfl kj (Qak [ints .u8 (grp), #[.int .i64 ep]] [#[.int .i64 fr]] [ints .u8 (bas), #[.int .i64 2], #[.bool us], #[.int .i64 nm], ints .u8 (key), ints .u8 (sg), ints .u8 (pa), #[.slice a_m ms.length c_m], ints .u8 (start), #[.int .i64 at_], ints .u8 (sig)] 33 (by rw [Qaa, Qaa]; simp only [Array.size_append, cat, ((Qac _ _).trans hrl)]; rfl) 0 _ rfl) kj) ?_
  refine Qa3 (.bool true) 64 #[.int .i64 ep, .int .i64 fr] 8 rfl kj kj ((hgE ep fr _ h0) _) fun W2 e2 => ?_
  have x2 : Ext w W2 := Ext.tr x1 e2
  refine Qab (.bool false) 9 rfl kj kj ?_
  refine Qaf ?_
  refine hK4 _ _ ?_
  refine cond_false kj ?_
  refine wp_skip ?_
  refine hK3 _ _ ?_
  refine wp_seq_k fun K5 hK5 => ?_
  refine Qae ?_
  refine Qab (.pointer (some ⟨g2, 166, none⟩)) 10 rfl kj kj ?_
  have r2_2 := (Qas r2_1 e2)
  refine Qab (.agg (ints .u8 (start))) 11 rfl kj (Qau 40 _ g2 166 47 _ _ _ r2_2 rfl kj (Qak [ints .u8 (grp), #[.int .i64 ep], #[.int .i64 fr], ints .u8 (bas), #[.int .i64 2], #[.bool us], #[.int .i64 nm], ints .u8 (key), ints .u8 (sg), ints .u8 (pa), #[.slice a_m ms.length c_m]] [ints .u8 (start)] [#[.int .i64 at_], ints .u8 (sig)] 166 (by rw [Qaa, Qaa, Qaa, Qaa, Qaa, Qaa, Qaa, Qaa, Qaa, Qaa, Qaa]; simp only [Array.size_append, cat, ((Qac _ _).trans hal), ((Qac _ _).trans hgl), ((Qac _ _).trans hkl), ((Qac _ _).trans hpl), ((Qac _ _).trans hrl)]; rfl)) kj (isz (n := 32) kj ((Qac _ _).trans htl))) ?_
  refine Qab (.agg (ints .u8 (List.replicate 32 0))) 12 rfl kj kj ?_
  refine Qab (.bool false) 13 rfl kj (Qa1 40 _ _ _ _ _ (.bool false) rfl kj kj kj (Qa6 40 (e := 5) (k := .u8) (start) (List.replicate 32 0) (decide_eq_false h2) htl (List.length_replicate (n := 32)) kj kj kj _)) ?_
  refine Qab (.bool false) 3 rfl kj kj ?_
  refine Qaf ?_
  refine hK5 _ _ ?_
  refine wp_seq_k fun K6 hK6 => ?_
  refine wp_seq_k fun K7 hK7 => ?_
  refine Qae ?_
  refine Qab (.pointer (some ⟨g2, 66, none⟩)) 14 rfl kj kj ?_
  refine Qab (.int .i64 2) 15 rfl kj (Qah 3 _ g2 66 47 _ (.int .i64 2) _ r2_2 rfl kj (Qak [ints .u8 (grp), #[.int .i64 ep], #[.int .i64 fr], ints .u8 (bas)] [#[.int .i64 2]] [#[.bool us], #[.int .i64 nm], ints .u8 (key), ints .u8 (sg), ints .u8 (pa), #[.slice a_m ms.length c_m], ints .u8 (start), #[.int .i64 at_], ints .u8 (sig)] 66 (by rw [Qaa, Qaa, Qaa, Qaa]; simp only [Array.size_append, cat, ((Qac _ _).trans hal), ((Qac _ _).trans hrl)]; rfl) 0 _ rfl) kj) ?_
  refine Qaf ?_
  refine hK7 _ _ ?_
  refine wp_block ?_
  refine wp_seq_k fun K8 hK8 => ?_
  refine Qae ?_
  refine Qab (.bool false) 17 rfl kj kj ?_
  refine Qab (.bool false) 16 rfl kj kj ?_
  refine Qaf ?_
  refine hK8 _ _ ?_
  refine cond_false kj ?_
  refine wp_seq_k fun K9 hK9 => ?_
  refine Qae ?_
  refine Qab (.bool true) 27 rfl kj kj ?_
  refine Qab (.bool true) 26 rfl kj kj ?_
  refine Qaf ?_
  refine hK9 _ _ ?_
  refine cond_true kj ?_
  refine wp_seq_k fun K10 hK10 => ?_
  refine Qae ?_
  refine Qab (.pointer (some ⟨g2, 67, none⟩)) 28 rfl kj kj ?_
  refine Qab (.agg (cat [#[.bool us], #[.int .i64 nm], ints .u8 (key), ints .u8 (sg), ints .u8 (pa), #[.slice a_m ms.length c_m]])) 29 rfl kj (Qau 43 _ g2 67 47 _ _ _ r2_2 rfl kj (Qak [ints .u8 (grp), #[.int .i64 ep], #[.int .i64 fr], ints .u8 (bas), #[.int .i64 2]] [#[.bool us], #[.int .i64 nm], ints .u8 (key), ints .u8 (sg), ints .u8 (pa), #[.slice a_m ms.length c_m]] [ints .u8 (start), #[.int .i64 at_], ints .u8 (sig)] 67 (by rw [Qaa, Qaa, Qaa, Qaa, Qaa]; simp only [Array.size_append, cat, ((Qac _ _).trans hal), ((Qac _ _).trans hrl)]; rfl)) kj (isz (n := 99) kj (by rw [Qaa, Qaa, Qaa, Qaa, Qaa, Qaa]; simp only [Array.size_append, cat, ((Qac _ _).trans hgl), ((Qac _ _).trans hkl), ((Qac _ _).trans hpl)]; rfl))) ?_
  refine Qa3 (.bool true) 96 #[.agg (cat [#[.bool us], #[.int .i64 nm], ints .u8 (key), ints .u8 (sg), ints .u8 (pa), #[.slice a_m ms.length c_m]])] 30 rfl kj kj (Qd6 us nm key sg pa ms _ _ _ h1 _ hkl hgl hpl (RdK.here (RdK.ext hm x2))) fun W3 e3 => ?_
  have x3 : Ext w W3 := Ext.tr x2 e3
  refine Qab (.bool true) 31 rfl kj kj ?_
  refine Qab (.bool false) 32 rfl kj kj ?_
  refine Qab (.bool false) 33 rfl kj kj ?_
  refine Qab (.bool false) 34 rfl kj kj ?_
  refine Qap 35 rfl kj ?_
  refine Qap 36 rfl kj ?_
  refine Qap 37 rfl kj ?_
  refine Qab (.bool false) 38 rfl kj kj ?_
  refine Qab (.bool false) 2 rfl kj kj ?_
  refine Qaf ?_
  refine hK10 _ _ ?_
  refine wp_ret ?_
  repeat (first | with_reducible refine goR1 ?_ | with_reducible refine goR2 ?_)
  exact (show bodyPost _ _ _ .ret _ _ from ret1 (.bool false) rfl (Qaw kj) ⟨rfl, x3⟩)
set_option maxHeartbeats 4000000 in
theorem Qe6 (grp : List Int) (ep fr : Int) (bas : List Int) (us : Bool) (nm : Int) (key sg pa ms start : List Int) (at_ : Int) (sig : List Int) (a_m : Option Addr) (c_m : Nat) (w : World) (hrl : grp.length = 32) (hrb : Qag grp) (hal : bas.length = 32) (hab : Qag bas) (hkl : key.length = 32) (hgl : sg.length = 32) (hpl : pa.length = 32) (hkb : Qag key) (hgb : Qag sg) (hpb : Qag pa) (hml : ms.length ≤ 1000000) (htl : start.length = 32) (htb : Qag start) (hil : sig.length = 64) (hib : Qag sig) (hm : RdK .i64 w.heap.size ms (.slice a_m ms.length c_m) w) (h0 : hgB ep fr = true) (h1 : Qb8 us nm key sg pa ms = true) (h2 : start = List.replicate 32 0) : Calls Try.prog 58 #[.agg (cat [ints .u8 (grp), #[.int .i64 ep], #[.int .i64 fr], ints .u8 (bas), #[.int .i64 2], #[.bool us], #[.int .i64 nm], ints .u8 (key), ints .u8 (sg), ints .u8 (pa), #[.slice a_m ms.length c_m], ints .u8 (start), #[.int .i64 at_], ints .u8 (sig)])] w (Ret w (.bool (at_ == 0))) := by
  refine enter 52 [(0, .agg (cat [ints .u8 (grp), #[.int .i64 ep], #[.int .i64 fr], ints .u8 (bas), #[.int .i64 2], #[.bool us], #[.int .i64 nm], ints .u8 (key), ints .u8 (sg), ints .u8 (pa), #[.slice a_m ms.length c_m], ints .u8 (start), #[.int .i64 at_], ints .u8 (sig)]))] Try.func58 rfl rfl kj rfl ?_
  refine wp_seq_k fun K1 hK1 => ?_
  refine Qae ?_
  refine Qav (cat [ints .u8 (grp), #[.int .i64 ep], #[.int .i64 fr], ints .u8 (bas), #[.int .i64 2], #[.bool us], #[.int .i64 nm], ints .u8 (key), ints .u8 (sg), ints .u8 (pa), #[.slice a_m ms.length c_m], ints .u8 (start), #[.int .i64 at_], ints .u8 (sig)]) 47 1 rfl kj kj fun g2 W1 l2 e1 r2_1 => ?_
  have x1 : Ext w W1 := Ext.tr (Rely.Ext.refl w) e1
  have b2 : w.heap.size ≤ g2 := Nat.le_trans (Rely.Ext.refl w).size l2
  refine Qab (.bool false) 2 rfl kj kj ?_
  refine Qaf ?_
  refine hK1 _ _ ?_
  refine wp_seq_k fun K3 hK3 => ?_
  refine wp_seq_k fun K4 hK4 => ?_
  refine Qae ?_
  refine Qab (.pointer (some ⟨g2, 32, none⟩)) 4 rfl kj kj ?_
  refine Qab (.int .i64 ep) 5 rfl kj (Qah 3 _ g2 32 47 _ (.int .i64 ep) _ r2_1 rfl kj (Qak [ints .u8 (grp)] [#[.int .i64 ep]] [#[.int .i64 fr], ints .u8 (bas), #[.int .i64 2], #[.bool us], #[.int .i64 nm], ints .u8 (key), ints .u8 (sg), ints .u8 (pa), #[.slice a_m ms.length c_m], ints .u8 (start), #[.int .i64 at_], ints .u8 (sig)] 32 ((Qac _ _).trans hrl) 0 _ rfl) kj) ?_
  refine Qab (.pointer (some ⟨g2, 33, none⟩)) 6 rfl kj kj ?_
  refine Qab (.int .i64 fr) 7 rfl kj (Qah 3 _ g2 33 47 _ (.int .i64 fr) _ r2_1 rfl kj (Qak [ints .u8 (grp), #[.int .i64 ep]] [#[.int .i64 fr]] [ints .u8 (bas), #[.int .i64 2], #[.bool us], #[.int .i64 nm], ints .u8 (key), ints .u8 (sg), ints .u8 (pa), #[.slice a_m ms.length c_m], ints .u8 (start), #[.int .i64 at_], ints .u8 (sig)] 33 (by rw [Qaa, Qaa]; simp only [Array.size_append, cat, ((Qac _ _).trans hrl)]; rfl) 0 _ rfl) kj) ?_
  refine Qa3 (.bool true) 64 #[.int .i64 ep, .int .i64 fr] 8 rfl kj kj ((hgE ep fr _ h0) _) fun W2 e2 => ?_
  have x2 : Ext w W2 := Ext.tr x1 e2
  refine Qab (.bool false) 9 rfl kj kj ?_
  refine Qaf ?_
  refine hK4 _ _ ?_
  refine cond_false kj ?_
  refine wp_skip ?_
  refine hK3 _ _ ?_
  refine wp_seq_k fun K5 hK5 => ?_
  refine Qae ?_
  refine Qab (.pointer (some ⟨g2, 166, none⟩)) 10 rfl kj kj ?_
  have r2_2 := (Qas r2_1 e2)
  refine Qab (.agg (ints .u8 (start))) 11 rfl kj (Qau 40 _ g2 166 47 _ _ _ r2_2 rfl kj (Qak [ints .u8 (grp), #[.int .i64 ep], #[.int .i64 fr], ints .u8 (bas), #[.int .i64 2], #[.bool us], #[.int .i64 nm], ints .u8 (key), ints .u8 (sg), ints .u8 (pa), #[.slice a_m ms.length c_m]] [ints .u8 (start)] [#[.int .i64 at_], ints .u8 (sig)] 166 (by rw [Qaa, Qaa, Qaa, Qaa, Qaa, Qaa, Qaa, Qaa, Qaa, Qaa, Qaa]; simp only [Array.size_append, cat, ((Qac _ _).trans hal), ((Qac _ _).trans hgl), ((Qac _ _).trans hkl), ((Qac _ _).trans hpl), ((Qac _ _).trans hrl)]; rfl)) kj (isz (n := 32) kj ((Qac _ _).trans htl))) ?_
  refine Qab (.agg (ints .u8 (List.replicate 32 0))) 12 rfl kj kj ?_
  refine Qab (.bool true) 13 rfl kj (Qa1 40 _ _ _ _ _ (.bool true) rfl kj kj kj (Qa6 40 (e := 5) (k := .u8) (start) (List.replicate 32 0) (decide_eq_true h2) htl (List.length_replicate (n := 32)) kj kj kj _)) ?_
  refine Qab (.bool true) 3 rfl kj kj ?_
  refine Qaf ?_
  refine hK5 _ _ ?_
  refine wp_seq_k fun K6 hK6 => ?_
  refine wp_seq_k fun K7 hK7 => ?_
  refine Qae ?_
  refine Qab (.pointer (some ⟨g2, 66, none⟩)) 14 rfl kj kj ?_
  refine Qab (.int .i64 2) 15 rfl kj (Qah 3 _ g2 66 47 _ (.int .i64 2) _ r2_2 rfl kj (Qak [ints .u8 (grp), #[.int .i64 ep], #[.int .i64 fr], ints .u8 (bas)] [#[.int .i64 2]] [#[.bool us], #[.int .i64 nm], ints .u8 (key), ints .u8 (sg), ints .u8 (pa), #[.slice a_m ms.length c_m], ints .u8 (start), #[.int .i64 at_], ints .u8 (sig)] 66 (by rw [Qaa, Qaa, Qaa, Qaa]; simp only [Array.size_append, cat, ((Qac _ _).trans hal), ((Qac _ _).trans hrl)]; rfl) 0 _ rfl) kj) ?_
  refine Qaf ?_
  refine hK7 _ _ ?_
  refine wp_block ?_
  refine wp_seq_k fun K8 hK8 => ?_
  refine Qae ?_
  refine Qab (.bool false) 17 rfl kj kj ?_
  refine Qab (.bool false) 16 rfl kj kj ?_
  refine Qaf ?_
  refine hK8 _ _ ?_
  refine cond_false kj ?_
  refine wp_seq_k fun K9 hK9 => ?_
  refine Qae ?_
  refine Qab (.bool true) 27 rfl kj kj ?_
  refine Qab (.bool true) 26 rfl kj kj ?_
  refine Qaf ?_
  refine hK9 _ _ ?_
  refine cond_true kj ?_
  refine wp_seq_k fun K10 hK10 => ?_
  refine Qae ?_
  refine Qab (.pointer (some ⟨g2, 67, none⟩)) 28 rfl kj kj ?_
  refine Qab (.agg (cat [#[.bool us], #[.int .i64 nm], ints .u8 (key), ints .u8 (sg), ints .u8 (pa), #[.slice a_m ms.length c_m]])) 29 rfl kj (Qau 43 _ g2 67 47 _ _ _ r2_2 rfl kj (Qak [ints .u8 (grp), #[.int .i64 ep], #[.int .i64 fr], ints .u8 (bas), #[.int .i64 2]] [#[.bool us], #[.int .i64 nm], ints .u8 (key), ints .u8 (sg), ints .u8 (pa), #[.slice a_m ms.length c_m]] [ints .u8 (start), #[.int .i64 at_], ints .u8 (sig)] 67 (by rw [Qaa, Qaa, Qaa, Qaa, Qaa]; simp only [Array.size_append, cat, ((Qac _ _).trans hal), ((Qac _ _).trans hrl)]; rfl)) kj (isz (n := 99) kj (by rw [Qaa, Qaa, Qaa, Qaa, Qaa, Qaa]; simp only [Array.size_append, cat, ((Qac _ _).trans hgl), ((Qac _ _).trans hkl), ((Qac _ _).trans hpl)]; rfl))) ?_
  refine Qa3 (.bool true) 96 #[.agg (cat [#[.bool us], #[.int .i64 nm], ints .u8 (key), ints .u8 (sg), ints .u8 (pa), #[.slice a_m ms.length c_m]])] 30 rfl kj kj (Qd6 us nm key sg pa ms _ _ _ h1 _ hkl hgl hpl (RdK.here (RdK.ext hm x2))) fun W3 e3 => ?_
  have x3 : Ext w W3 := Ext.tr x2 e3
  refine Qab (.bool true) 31 rfl kj kj ?_
  refine Qab (.bool true) 32 rfl kj kj ?_
  refine Qab (.bool true) 33 rfl kj kj ?_
  refine Qab (.bool true) 34 rfl kj kj ?_
  refine Qab (.pointer (some ⟨g2, 198, none⟩)) 35 rfl kj kj ?_
  have r2_3 := (Qas r2_2 e3)
  refine Qab (.int .i64 at_) 36 rfl kj (Qah 3 _ g2 198 47 _ (.int .i64 at_) _ r2_3 rfl kj (Qak [ints .u8 (grp), #[.int .i64 ep], #[.int .i64 fr], ints .u8 (bas), #[.int .i64 2], #[.bool us], #[.int .i64 nm], ints .u8 (key), ints .u8 (sg), ints .u8 (pa), #[.slice a_m ms.length c_m], ints .u8 (start)] [#[.int .i64 at_]] [ints .u8 (sig)] 198 (by rw [Qaa, Qaa, Qaa, Qaa, Qaa, Qaa, Qaa, Qaa, Qaa, Qaa, Qaa, Qaa]; simp only [Array.size_append, cat, ((Qac _ _).trans hal), ((Qac _ _).trans hgl), ((Qac _ _).trans hkl), ((Qac _ _).trans hpl), ((Qac _ _).trans hrl), ((Qac _ _).trans htl)]; rfl) 0 _ rfl) kj) ?_
  refine Qab (.bool ((at_ == 0))) 37 rfl kj kj ?_
  refine Qab (.bool ((at_ == 0))) 38 rfl kj kj ?_
  refine Qab (.bool ((at_ == 0))) 2 rfl kj kj ?_
  refine Qaf ?_
  refine hK10 _ _ ?_
  refine wp_ret ?_
  repeat (first | with_reducible refine goR1 ?_ | with_reducible refine goR2 ?_)
  exact (show bodyPost _ _ _ .ret _ _ from ret1 (.bool ((at_ == 0))) rfl (Qaw kj) ⟨rfl, x3⟩)
set_option maxHeartbeats 4000000 in
theorem Qe5 (grp : List Int) (ep fr : Int) (bas : List Int) (us : Bool) (nm : Int) (key sg pa ms start : List Int) (at_ : Int) (sig : List Int) (a_m : Option Addr) (c_m : Nat) (w : World) (hrl : grp.length = 32) (hrb : Qag grp) (hal : bas.length = 32) (hab : Qag bas) (hkl : key.length = 32) (hgl : sg.length = 32) (hpl : pa.length = 32) (hkb : Qag key) (hgb : Qag sg) (hpb : Qag pa) (hml : ms.length ≤ 1000000) (htl : start.length = 32) (htb : Qag start) (hil : sig.length = 64) (hib : Qag sig) (hm : RdK .i64 w.heap.size ms (.slice a_m ms.length c_m) w) (h0 : hgB ep fr = true) (h1 : Qa7 us nm key sg pa ms = false) : Calls Try.prog 58 #[.agg (cat [ints .u8 (grp), #[.int .i64 ep], #[.int .i64 fr], ints .u8 (bas), #[.int .i64 3], #[.bool us], #[.int .i64 nm], ints .u8 (key), ints .u8 (sg), ints .u8 (pa), #[.slice a_m ms.length c_m], ints .u8 (start), #[.int .i64 at_], ints .u8 (sig)])] w (Ret w (.bool false)) := by
  refine enter 52 [(0, .agg (cat [ints .u8 (grp), #[.int .i64 ep], #[.int .i64 fr], ints .u8 (bas), #[.int .i64 3], #[.bool us], #[.int .i64 nm], ints .u8 (key), ints .u8 (sg), ints .u8 (pa), #[.slice a_m ms.length c_m], ints .u8 (start), #[.int .i64 at_], ints .u8 (sig)]))] Try.func58 rfl rfl kj rfl ?_
  refine wp_seq_k fun K1 hK1 => ?_
  refine Qae ?_
  refine Qav (cat [ints .u8 (grp), #[.int .i64 ep], #[.int .i64 fr], ints .u8 (bas), #[.int .i64 3], #[.bool us], #[.int .i64 nm], ints .u8 (key), ints .u8 (sg), ints .u8 (pa), #[.slice a_m ms.length c_m], ints .u8 (start), #[.int .i64 at_], ints .u8 (sig)]) 47 1 rfl kj kj fun g2 W1 l2 e1 r2_1 => ?_
  have x1 : Ext w W1 := Ext.tr (Rely.Ext.refl w) e1
  have b2 : w.heap.size ≤ g2 := Nat.le_trans (Rely.Ext.refl w).size l2
  refine Qab (.bool false) 2 rfl kj kj ?_
  refine Qaf ?_
  refine hK1 _ _ ?_
  refine wp_seq_k fun K3 hK3 => ?_
  refine wp_seq_k fun K4 hK4 => ?_
  refine Qae ?_
  refine Qab (.pointer (some ⟨g2, 32, none⟩)) 4 rfl kj kj ?_
  refine Qab (.int .i64 ep) 5 rfl kj (Qah 3 _ g2 32 47 _ (.int .i64 ep) _ r2_1 rfl kj (Qak [ints .u8 (grp)] [#[.int .i64 ep]] [#[.int .i64 fr], ints .u8 (bas), #[.int .i64 3], #[.bool us], #[.int .i64 nm], ints .u8 (key), ints .u8 (sg), ints .u8 (pa), #[.slice a_m ms.length c_m], ints .u8 (start), #[.int .i64 at_], ints .u8 (sig)] 32 ((Qac _ _).trans hrl) 0 _ rfl) kj) ?_
  refine Qab (.pointer (some ⟨g2, 33, none⟩)) 6 rfl kj kj ?_
  refine Qab (.int .i64 fr) 7 rfl kj (Qah 3 _ g2 33 47 _ (.int .i64 fr) _ r2_1 rfl kj (Qak [ints .u8 (grp), #[.int .i64 ep]] [#[.int .i64 fr]] [ints .u8 (bas), #[.int .i64 3], #[.bool us], #[.int .i64 nm], ints .u8 (key), ints .u8 (sg), ints .u8 (pa), #[.slice a_m ms.length c_m], ints .u8 (start), #[.int .i64 at_], ints .u8 (sig)] 33 (by rw [Qaa, Qaa]; simp only [Array.size_append, cat, ((Qac _ _).trans hrl)]; rfl) 0 _ rfl) kj) ?_
  refine Qa3 (.bool true) 64 #[.int .i64 ep, .int .i64 fr] 8 rfl kj kj ((hgE ep fr _ h0) _) fun W2 e2 => ?_
  have x2 : Ext w W2 := Ext.tr x1 e2
  refine Qab (.bool false) 9 rfl kj kj ?_
  refine Qaf ?_
  refine hK4 _ _ ?_
  refine cond_false kj ?_
  refine wp_skip ?_
  refine hK3 _ _ ?_
  refine wp_seq_k fun K5 hK5 => ?_
  refine Qae ?_
  refine Qab (.pointer (some ⟨g2, 166, none⟩)) 10 rfl kj kj ?_
  have r2_2 := (Qas r2_1 e2)
  refine Qab (.agg (ints .u8 (start))) 11 rfl kj (Qau 40 _ g2 166 47 _ _ _ r2_2 rfl kj (Qak [ints .u8 (grp), #[.int .i64 ep], #[.int .i64 fr], ints .u8 (bas), #[.int .i64 3], #[.bool us], #[.int .i64 nm], ints .u8 (key), ints .u8 (sg), ints .u8 (pa), #[.slice a_m ms.length c_m]] [ints .u8 (start)] [#[.int .i64 at_], ints .u8 (sig)] 166 (by rw [Qaa, Qaa, Qaa, Qaa, Qaa, Qaa, Qaa, Qaa, Qaa, Qaa, Qaa]; simp only [Array.size_append, cat, ((Qac _ _).trans hal), ((Qac _ _).trans hgl), ((Qac _ _).trans hkl), ((Qac _ _).trans hpl), ((Qac _ _).trans hrl)]; rfl)) kj (isz (n := 32) kj ((Qac _ _).trans htl))) ?_
  refine Qab (.agg (ints .u8 (List.replicate 32 0))) 12 rfl kj kj ?_
  refine Qab (.bool (decide (start = List.replicate 32 0))) 13 rfl kj (Qa1 40 _ _ _ _ _ (.bool (decide (start = List.replicate 32 0))) rfl kj kj kj (Qa6 40 (e := 5) (k := .u8) (start) (List.replicate 32 0) rfl htl (List.length_replicate (n := 32)) kj kj kj _)) ?_
  refine Qab (.bool (decide (start = List.replicate 32 0))) 3 rfl kj kj ?_
  refine Qaf ?_
  refine hK5 _ _ ?_
  refine wp_seq_k fun K6 hK6 => ?_
  refine wp_seq_k fun K7 hK7 => ?_
  refine Qae ?_
  refine Qab (.pointer (some ⟨g2, 66, none⟩)) 14 rfl kj kj ?_
  refine Qab (.int .i64 3) 15 rfl kj (Qah 3 _ g2 66 47 _ (.int .i64 3) _ r2_2 rfl kj (Qak [ints .u8 (grp), #[.int .i64 ep], #[.int .i64 fr], ints .u8 (bas)] [#[.int .i64 3]] [#[.bool us], #[.int .i64 nm], ints .u8 (key), ints .u8 (sg), ints .u8 (pa), #[.slice a_m ms.length c_m], ints .u8 (start), #[.int .i64 at_], ints .u8 (sig)] 66 (by rw [Qaa, Qaa, Qaa, Qaa]; simp only [Array.size_append, cat, ((Qac _ _).trans hal), ((Qac _ _).trans hrl)]; rfl) 0 _ rfl) kj) ?_
  refine Qaf ?_
  refine hK7 _ _ ?_
  refine wp_block ?_
  refine wp_seq_k fun K8 hK8 => ?_
  refine Qae ?_
  refine Qab (.bool false) 17 rfl kj kj ?_
  refine Qab (.bool false) 16 rfl kj kj ?_
  refine Qaf ?_
  refine hK8 _ _ ?_
  refine cond_false kj ?_
  refine wp_seq_k fun K9 hK9 => ?_
  refine Qae ?_
  refine Qab (.bool false) 27 rfl kj kj ?_
  refine Qab (.bool false) 26 rfl kj kj ?_
  refine Qaf ?_
  refine hK9 _ _ ?_
  refine cond_false kj ?_
  refine wp_seq_k fun K10 hK10 => ?_
  refine Qae ?_
  refine Qab (.bool true) 40 rfl kj kj ?_
  refine Qab (.bool true) 39 rfl kj kj ?_
  refine Qaf ?_
  refine hK10 _ _ ?_
  refine cond_true kj ?_
  refine wp_seq_k fun K11 hK11 => ?_
  refine Qae ?_
  refine Qab (.pointer (some ⟨g2, 67, none⟩)) 41 rfl kj kj ?_
  refine Qab (.agg (cat [#[.bool us], #[.int .i64 nm], ints .u8 (key), ints .u8 (sg), ints .u8 (pa), #[.slice a_m ms.length c_m]])) 42 rfl kj (Qau 43 _ g2 67 47 _ _ _ r2_2 rfl kj (Qak [ints .u8 (grp), #[.int .i64 ep], #[.int .i64 fr], ints .u8 (bas), #[.int .i64 3]] [#[.bool us], #[.int .i64 nm], ints .u8 (key), ints .u8 (sg), ints .u8 (pa), #[.slice a_m ms.length c_m]] [ints .u8 (start), #[.int .i64 at_], ints .u8 (sig)] 67 (by rw [Qaa, Qaa, Qaa, Qaa, Qaa]; simp only [Array.size_append, cat, ((Qac _ _).trans hal), ((Qac _ _).trans hrl)]; rfl)) kj (isz (n := 99) kj (by rw [Qaa, Qaa, Qaa, Qaa, Qaa, Qaa]; simp only [Array.size_append, cat, ((Qac _ _).trans hgl), ((Qac _ _).trans hkl), ((Qac _ _).trans hpl)]; rfl))) ?_
  refine Qa3 (.bool false) 108 #[.agg (cat [#[.bool us], #[.int .i64 nm], ints .u8 (key), ints .u8 (sg), ints .u8 (pa), #[.slice a_m ms.length c_m]])] 43 rfl kj kj (Qf8 us nm key sg pa ms _ _ _ h1 _ hkl hgl hpl) fun W3 e3 => ?_
  have x3 : Ext w W3 := Ext.tr x2 e3
  refine Qab (.bool false) 44 rfl kj kj ?_
  refine Qap 45 rfl kj ?_
  refine Qab (.bool false) 46 rfl kj kj ?_
  refine Qab (.bool false) 47 rfl kj kj ?_
  refine Qap 48 rfl kj ?_
  refine Qap 49 rfl kj ?_
  refine Qap 50 rfl kj ?_
  refine Qab (.bool false) 51 rfl kj kj ?_
  refine Qab (.bool false) 2 rfl kj kj ?_
  refine Qaf ?_
  refine hK11 _ _ ?_
  refine wp_ret ?_
  repeat (first | with_reducible refine goR1 ?_ | with_reducible refine goR2 ?_)
  exact (show bodyPost _ _ _ .ret _ _ from ret1 (.bool false) rfl (Qaw kj) ⟨rfl, x3⟩)
set_option maxHeartbeats 4000000 in
theorem Qe4 (grp : List Int) (ep fr : Int) (bas : List Int) (us : Bool) (nm : Int) (key sg pa ms start : List Int) (at_ : Int) (sig : List Int) (a_m : Option Addr) (c_m : Nat) (w : World) (hrl : grp.length = 32) (hrb : Qag grp) (hal : bas.length = 32) (hab : Qag bas) (hkl : key.length = 32) (hgl : sg.length = 32) (hpl : pa.length = 32) (hkb : Qag key) (hgb : Qag sg) (hpb : Qag pa) (hml : ms.length ≤ 1000000) (htl : start.length = 32) (htb : Qag start) (hil : sig.length = 64) (hib : Qag sig) (hm : RdK .i64 w.heap.size ms (.slice a_m ms.length c_m) w) (h0 : hgB ep fr = true) (h1 : Qa7 us nm key sg pa ms = true) (h2 : ¬ start = List.replicate 32 0) : Calls Try.prog 58 #[.agg (cat [ints .u8 (grp), #[.int .i64 ep], #[.int .i64 fr], ints .u8 (bas), #[.int .i64 3], #[.bool us], #[.int .i64 nm], ints .u8 (key), ints .u8 (sg), ints .u8 (pa), #[.slice a_m ms.length c_m], ints .u8 (start), #[.int .i64 at_], ints .u8 (sig)])] w (Ret w (.bool false)) := by
  refine enter 52 [(0, .agg (cat [ints .u8 (grp), #[.int .i64 ep], #[.int .i64 fr], ints .u8 (bas), #[.int .i64 3], #[.bool us], #[.int .i64 nm], ints .u8 (key), ints .u8 (sg), ints .u8 (pa), #[.slice a_m ms.length c_m], ints .u8 (start), #[.int .i64 at_], ints .u8 (sig)]))] Try.func58 rfl rfl kj rfl ?_
  refine wp_seq_k fun K1 hK1 => ?_
  refine Qae ?_
  refine Qav (cat [ints .u8 (grp), #[.int .i64 ep], #[.int .i64 fr], ints .u8 (bas), #[.int .i64 3], #[.bool us], #[.int .i64 nm], ints .u8 (key), ints .u8 (sg), ints .u8 (pa), #[.slice a_m ms.length c_m], ints .u8 (start), #[.int .i64 at_], ints .u8 (sig)]) 47 1 rfl kj kj fun g2 W1 l2 e1 r2_1 => ?_
  have x1 : Ext w W1 := Ext.tr (Rely.Ext.refl w) e1
  have b2 : w.heap.size ≤ g2 := Nat.le_trans (Rely.Ext.refl w).size l2
  refine Qab (.bool false) 2 rfl kj kj ?_
  refine Qaf ?_
  refine hK1 _ _ ?_
  refine wp_seq_k fun K3 hK3 => ?_
  refine wp_seq_k fun K4 hK4 => ?_
  refine Qae ?_
  refine Qab (.pointer (some ⟨g2, 32, none⟩)) 4 rfl kj kj ?_
  refine Qab (.int .i64 ep) 5 rfl kj (Qah 3 _ g2 32 47 _ (.int .i64 ep) _ r2_1 rfl kj (Qak [ints .u8 (grp)] [#[.int .i64 ep]] [#[.int .i64 fr], ints .u8 (bas), #[.int .i64 3], #[.bool us], #[.int .i64 nm], ints .u8 (key), ints .u8 (sg), ints .u8 (pa), #[.slice a_m ms.length c_m], ints .u8 (start), #[.int .i64 at_], ints .u8 (sig)] 32 ((Qac _ _).trans hrl) 0 _ rfl) kj) ?_
  refine Qab (.pointer (some ⟨g2, 33, none⟩)) 6 rfl kj kj ?_
  refine Qab (.int .i64 fr) 7 rfl kj (Qah 3 _ g2 33 47 _ (.int .i64 fr) _ r2_1 rfl kj (Qak [ints .u8 (grp), #[.int .i64 ep]] [#[.int .i64 fr]] [ints .u8 (bas), #[.int .i64 3], #[.bool us], #[.int .i64 nm], ints .u8 (key), ints .u8 (sg), ints .u8 (pa), #[.slice a_m ms.length c_m], ints .u8 (start), #[.int .i64 at_], ints .u8 (sig)] 33 (by rw [Qaa, Qaa]; simp only [Array.size_append, cat, ((Qac _ _).trans hrl)]; rfl) 0 _ rfl) kj) ?_
  refine Qa3 (.bool true) 64 #[.int .i64 ep, .int .i64 fr] 8 rfl kj kj ((hgE ep fr _ h0) _) fun W2 e2 => ?_
  have x2 : Ext w W2 := Ext.tr x1 e2
  refine Qab (.bool false) 9 rfl kj kj ?_
  refine Qaf ?_
  refine hK4 _ _ ?_
  refine cond_false kj ?_
  refine wp_skip ?_
  refine hK3 _ _ ?_
  refine wp_seq_k fun K5 hK5 => ?_
  refine Qae ?_
  refine Qab (.pointer (some ⟨g2, 166, none⟩)) 10 rfl kj kj ?_
  have r2_2 := (Qas r2_1 e2)
  refine Qab (.agg (ints .u8 (start))) 11 rfl kj (Qau 40 _ g2 166 47 _ _ _ r2_2 rfl kj (Qak [ints .u8 (grp), #[.int .i64 ep], #[.int .i64 fr], ints .u8 (bas), #[.int .i64 3], #[.bool us], #[.int .i64 nm], ints .u8 (key), ints .u8 (sg), ints .u8 (pa), #[.slice a_m ms.length c_m]] [ints .u8 (start)] [#[.int .i64 at_], ints .u8 (sig)] 166 (by rw [Qaa, Qaa, Qaa, Qaa, Qaa, Qaa, Qaa, Qaa, Qaa, Qaa, Qaa]; simp only [Array.size_append, cat, ((Qac _ _).trans hal), ((Qac _ _).trans hgl), ((Qac _ _).trans hkl), ((Qac _ _).trans hpl), ((Qac _ _).trans hrl)]; rfl)) kj (isz (n := 32) kj ((Qac _ _).trans htl))) ?_
  refine Qab (.agg (ints .u8 (List.replicate 32 0))) 12 rfl kj kj ?_
  refine Qab (.bool false) 13 rfl kj (Qa1 40 _ _ _ _ _ (.bool false) rfl kj kj kj (Qa6 40 (e := 5) (k := .u8) (start) (List.replicate 32 0) (decide_eq_false h2) htl (List.length_replicate (n := 32)) kj kj kj _)) ?_
  refine Qab (.bool false) 3 rfl kj kj ?_
  refine Qaf ?_
  refine hK5 _ _ ?_
  refine wp_seq_k fun K6 hK6 => ?_
  refine wp_seq_k fun K7 hK7 => ?_
  refine Qae ?_
  refine Qab (.pointer (some ⟨g2, 66, none⟩)) 14 rfl kj kj ?_
  refine Qab (.int .i64 3) 15 rfl kj (Qah 3 _ g2 66 47 _ (.int .i64 3) _ r2_2 rfl kj (Qak [ints .u8 (grp), #[.int .i64 ep], #[.int .i64 fr], ints .u8 (bas)] [#[.int .i64 3]] [#[.bool us], #[.int .i64 nm], ints .u8 (key), ints .u8 (sg), ints .u8 (pa), #[.slice a_m ms.length c_m], ints .u8 (start), #[.int .i64 at_], ints .u8 (sig)] 66 (by rw [Qaa, Qaa, Qaa, Qaa]; simp only [Array.size_append, cat, ((Qac _ _).trans hal), ((Qac _ _).trans hrl)]; rfl) 0 _ rfl) kj) ?_
  refine Qaf ?_
  refine hK7 _ _ ?_
  refine wp_block ?_
  refine wp_seq_k fun K8 hK8 => ?_
  refine Qae ?_
  refine Qab (.bool false) 17 rfl kj kj ?_
  refine Qab (.bool false) 16 rfl kj kj ?_
  refine Qaf ?_
  refine hK8 _ _ ?_
  refine cond_false kj ?_
  refine wp_seq_k fun K9 hK9 => ?_
  refine Qae ?_
  refine Qab (.bool false) 27 rfl kj kj ?_
  refine Qab (.bool false) 26 rfl kj kj ?_
  refine Qaf ?_
  refine hK9 _ _ ?_
  refine cond_false kj ?_
  refine wp_seq_k fun K10 hK10 => ?_
  refine Qae ?_
  refine Qab (.bool true) 40 rfl kj kj ?_
  refine Qab (.bool true) 39 rfl kj kj ?_
  refine Qaf ?_
  refine hK10 _ _ ?_
  refine cond_true kj ?_
  refine wp_seq_k fun K11 hK11 => ?_
  refine Qae ?_
  refine Qab (.pointer (some ⟨g2, 67, none⟩)) 41 rfl kj kj ?_
  refine Qab (.agg (cat [#[.bool us], #[.int .i64 nm], ints .u8 (key), ints .u8 (sg), ints .u8 (pa), #[.slice a_m ms.length c_m]])) 42 rfl kj (Qau 43 _ g2 67 47 _ _ _ r2_2 rfl kj (Qak [ints .u8 (grp), #[.int .i64 ep], #[.int .i64 fr], ints .u8 (bas), #[.int .i64 3]] [#[.bool us], #[.int .i64 nm], ints .u8 (key), ints .u8 (sg), ints .u8 (pa), #[.slice a_m ms.length c_m]] [ints .u8 (start), #[.int .i64 at_], ints .u8 (sig)] 67 (by rw [Qaa, Qaa, Qaa, Qaa, Qaa]; simp only [Array.size_append, cat, ((Qac _ _).trans hal), ((Qac _ _).trans hrl)]; rfl)) kj (isz (n := 99) kj (by rw [Qaa, Qaa, Qaa, Qaa, Qaa, Qaa]; simp only [Array.size_append, cat, ((Qac _ _).trans hgl), ((Qac _ _).trans hkl), ((Qac _ _).trans hpl)]; rfl))) ?_
  refine Qa3 (.bool true) 108 #[.agg (cat [#[.bool us], #[.int .i64 nm], ints .u8 (key), ints .u8 (sg), ints .u8 (pa), #[.slice a_m ms.length c_m]])] 43 rfl kj kj (Qf8 us nm key sg pa ms _ _ _ h1 _ hkl hgl hpl) fun W3 e3 => ?_
  have x3 : Ext w W3 := Ext.tr x2 e3
  refine Qab (.bool true) 44 rfl kj kj ?_
  refine Qab (.bool false) 45 rfl kj kj ?_
  refine Qab (.bool false) 46 rfl kj kj ?_
  refine Qab (.bool false) 47 rfl kj kj ?_
  refine Qap 48 rfl kj ?_
  refine Qap 49 rfl kj ?_
  refine Qap 50 rfl kj ?_
  refine Qab (.bool false) 51 rfl kj kj ?_
  refine Qab (.bool false) 2 rfl kj kj ?_
  refine Qaf ?_
  refine hK11 _ _ ?_
  refine wp_ret ?_
  repeat (first | with_reducible refine goR1 ?_ | with_reducible refine goR2 ?_)
  exact (show bodyPost _ _ _ .ret _ _ from ret1 (.bool false) rfl (Qaw kj) ⟨rfl, x3⟩)
set_option maxHeartbeats 4000000 in
theorem Qe3 (grp : List Int) (ep fr : Int) (bas : List Int) (us : Bool) (nm : Int) (key sg pa ms start : List Int) (at_ : Int) (sig : List Int) (a_m : Option Addr) (c_m : Nat) (w : World) (hrl : grp.length = 32) (hrb : Qag grp) (hal : bas.length = 32) (hab : Qag bas) (hkl : key.length = 32) (hgl : sg.length = 32) (hpl : pa.length = 32) (hkb : Qag key) (hgb : Qag sg) (hpb : Qag pa) (hml : ms.length ≤ 1000000) (htl : start.length = 32) (htb : Qag start) (hil : sig.length = 64) (hib : Qag sig) (hm : RdK .i64 w.heap.size ms (.slice a_m ms.length c_m) w) (h0 : hgB ep fr = true) (h1 : Qa7 us nm key sg pa ms = true) (h2 : start = List.replicate 32 0) : Calls Try.prog 58 #[.agg (cat [ints .u8 (grp), #[.int .i64 ep], #[.int .i64 fr], ints .u8 (bas), #[.int .i64 3], #[.bool us], #[.int .i64 nm], ints .u8 (key), ints .u8 (sg), ints .u8 (pa), #[.slice a_m ms.length c_m], ints .u8 (start), #[.int .i64 at_], ints .u8 (sig)])] w (Ret w (.bool (inB at_ 31))) := by
  refine enter 52 [(0, .agg (cat [ints .u8 (grp), #[.int .i64 ep], #[.int .i64 fr], ints .u8 (bas), #[.int .i64 3], #[.bool us], #[.int .i64 nm], ints .u8 (key), ints .u8 (sg), ints .u8 (pa), #[.slice a_m ms.length c_m], ints .u8 (start), #[.int .i64 at_], ints .u8 (sig)]))] Try.func58 rfl rfl kj rfl ?_
  refine wp_seq_k fun K1 hK1 => ?_
  refine Qae ?_
  refine Qav (cat [ints .u8 (grp), #[.int .i64 ep], #[.int .i64 fr], ints .u8 (bas), #[.int .i64 3], #[.bool us], #[.int .i64 nm], ints .u8 (key), ints .u8 (sg), ints .u8 (pa), #[.slice a_m ms.length c_m], ints .u8 (start), #[.int .i64 at_], ints .u8 (sig)]) 47 1 rfl kj kj fun g2 W1 l2 e1 r2_1 => ?_
  have x1 : Ext w W1 := Ext.tr (Rely.Ext.refl w) e1
  have b2 : w.heap.size ≤ g2 := Nat.le_trans (Rely.Ext.refl w).size l2
  refine Qab (.bool false) 2 rfl kj kj ?_
  refine Qaf ?_
  refine hK1 _ _ ?_
  refine wp_seq_k fun K3 hK3 => ?_
  refine wp_seq_k fun K4 hK4 => ?_
  refine Qae ?_
  refine Qab (.pointer (some ⟨g2, 32, none⟩)) 4 rfl kj kj ?_
  refine Qab (.int .i64 ep) 5 rfl kj (Qah 3 _ g2 32 47 _ (.int .i64 ep) _ r2_1 rfl kj (Qak [ints .u8 (grp)] [#[.int .i64 ep]] [#[.int .i64 fr], ints .u8 (bas), #[.int .i64 3], #[.bool us], #[.int .i64 nm], ints .u8 (key), ints .u8 (sg), ints .u8 (pa), #[.slice a_m ms.length c_m], ints .u8 (start), #[.int .i64 at_], ints .u8 (sig)] 32 ((Qac _ _).trans hrl) 0 _ rfl) kj) ?_
  refine Qab (.pointer (some ⟨g2, 33, none⟩)) 6 rfl kj kj ?_
  refine Qab (.int .i64 fr) 7 rfl kj (Qah 3 _ g2 33 47 _ (.int .i64 fr) _ r2_1 rfl kj (Qak [ints .u8 (grp), #[.int .i64 ep]] [#[.int .i64 fr]] [ints .u8 (bas), #[.int .i64 3], #[.bool us], #[.int .i64 nm], ints .u8 (key), ints .u8 (sg), ints .u8 (pa), #[.slice a_m ms.length c_m], ints .u8 (start), #[.int .i64 at_], ints .u8 (sig)] 33 (by rw [Qaa, Qaa]; simp only [Array.size_append, cat, ((Qac _ _).trans hrl)]; rfl) 0 _ rfl) kj) ?_
  refine Qa3 (.bool true) 64 #[.int .i64 ep, .int .i64 fr] 8 rfl kj kj ((hgE ep fr _ h0) _) fun W2 e2 => ?_
  have x2 : Ext w W2 := Ext.tr x1 e2
  refine Qab (.bool false) 9 rfl kj kj ?_
  refine Qaf ?_
  refine hK4 _ _ ?_
  refine cond_false kj ?_
  refine wp_skip ?_
  refine hK3 _ _ ?_
  refine wp_seq_k fun K5 hK5 => ?_
  refine Qae ?_
  refine Qab (.pointer (some ⟨g2, 166, none⟩)) 10 rfl kj kj ?_
  have r2_2 := (Qas r2_1 e2)
  refine Qab (.agg (ints .u8 (start))) 11 rfl kj (Qau 40 _ g2 166 47 _ _ _ r2_2 rfl kj (Qak [ints .u8 (grp), #[.int .i64 ep], #[.int .i64 fr], ints .u8 (bas), #[.int .i64 3], #[.bool us], #[.int .i64 nm], ints .u8 (key), ints .u8 (sg), ints .u8 (pa), #[.slice a_m ms.length c_m]] [ints .u8 (start)] [#[.int .i64 at_], ints .u8 (sig)] 166 (by rw [Qaa, Qaa, Qaa, Qaa, Qaa, Qaa, Qaa, Qaa, Qaa, Qaa, Qaa]; simp only [Array.size_append, cat, ((Qac _ _).trans hal), ((Qac _ _).trans hgl), ((Qac _ _).trans hkl), ((Qac _ _).trans hpl), ((Qac _ _).trans hrl)]; rfl)) kj (isz (n := 32) kj ((Qac _ _).trans htl))) ?_
  refine Qab (.agg (ints .u8 (List.replicate 32 0))) 12 rfl kj kj ?_
  refine Qab (.bool true) 13 rfl kj (Qa1 40 _ _ _ _ _ (.bool true) rfl kj kj kj (Qa6 40 (e := 5) (k := .u8) (start) (List.replicate 32 0) (decide_eq_true h2) htl (List.length_replicate (n := 32)) kj kj kj _)) ?_
  refine Qab (.bool true) 3 rfl kj kj ?_
  refine Qaf ?_
  refine hK5 _ _ ?_
  refine wp_seq_k fun K6 hK6 => ?_
  refine wp_seq_k fun K7 hK7 => ?_
  refine Qae ?_
  refine Qab (.pointer (some ⟨g2, 66, none⟩)) 14 rfl kj kj ?_
  refine Qab (.int .i64 3) 15 rfl kj (Qah 3 _ g2 66 47 _ (.int .i64 3) _ r2_2 rfl kj (Qak [ints .u8 (grp), #[.int .i64 ep], #[.int .i64 fr], ints .u8 (bas)] [#[.int .i64 3]] [#[.bool us], #[.int .i64 nm], ints .u8 (key), ints .u8 (sg), ints .u8 (pa), #[.slice a_m ms.length c_m], ints .u8 (start), #[.int .i64 at_], ints .u8 (sig)] 66 (by rw [Qaa, Qaa, Qaa, Qaa]; simp only [Array.size_append, cat, ((Qac _ _).trans hal), ((Qac _ _).trans hrl)]; rfl) 0 _ rfl) kj) ?_
  refine Qaf ?_
  refine hK7 _ _ ?_
  refine wp_block ?_
  refine wp_seq_k fun K8 hK8 => ?_
  refine Qae ?_
  refine Qab (.bool false) 17 rfl kj kj ?_
  refine Qab (.bool false) 16 rfl kj kj ?_
  refine Qaf ?_
  refine hK8 _ _ ?_
  refine cond_false kj ?_
  refine wp_seq_k fun K9 hK9 => ?_
  refine Qae ?_
  refine Qab (.bool false) 27 rfl kj kj ?_
  refine Qab (.bool false) 26 rfl kj kj ?_
  refine Qaf ?_
  refine hK9 _ _ ?_
  refine cond_false kj ?_
  refine wp_seq_k fun K10 hK10 => ?_
  refine Qae ?_
  refine Qab (.bool true) 40 rfl kj kj ?_
  refine Qab (.bool true) 39 rfl kj kj ?_
  refine Qaf ?_
  refine hK10 _ _ ?_
  refine cond_true kj ?_
  refine wp_seq_k fun K11 hK11 => ?_
  refine Qae ?_
  refine Qab (.pointer (some ⟨g2, 67, none⟩)) 41 rfl kj kj ?_
  refine Qab (.agg (cat [#[.bool us], #[.int .i64 nm], ints .u8 (key), ints .u8 (sg), ints .u8 (pa), #[.slice a_m ms.length c_m]])) 42 rfl kj (Qau 43 _ g2 67 47 _ _ _ r2_2 rfl kj (Qak [ints .u8 (grp), #[.int .i64 ep], #[.int .i64 fr], ints .u8 (bas), #[.int .i64 3]] [#[.bool us], #[.int .i64 nm], ints .u8 (key), ints .u8 (sg), ints .u8 (pa), #[.slice a_m ms.length c_m]] [ints .u8 (start), #[.int .i64 at_], ints .u8 (sig)] 67 (by rw [Qaa, Qaa, Qaa, Qaa, Qaa]; simp only [Array.size_append, cat, ((Qac _ _).trans hal), ((Qac _ _).trans hrl)]; rfl)) kj (isz (n := 99) kj (by rw [Qaa, Qaa, Qaa, Qaa, Qaa, Qaa]; simp only [Array.size_append, cat, ((Qac _ _).trans hgl), ((Qac _ _).trans hkl), ((Qac _ _).trans hpl)]; rfl))) ?_
  refine Qa3 (.bool true) 108 #[.agg (cat [#[.bool us], #[.int .i64 nm], ints .u8 (key), ints .u8 (sg), ints .u8 (pa), #[.slice a_m ms.length c_m]])] 43 rfl kj kj (Qf8 us nm key sg pa ms _ _ _ h1 _ hkl hgl hpl) fun W3 e3 => ?_
  have x3 : Ext w W3 := Ext.tr x2 e3
  refine Qab (.bool true) 44 rfl kj kj ?_
  refine Qab (.bool true) 45 rfl kj kj ?_
  refine Qab (.bool true) 46 rfl kj kj ?_
  refine Qab (.bool true) 47 rfl kj kj ?_
  refine Qab (.pointer (some ⟨g2, 198, none⟩)) 48 rfl kj kj ?_
  have r2_3 := (Qas r2_2 e3)
  refine Qab (.int .i64 at_) 49 rfl kj (Qah 3 _ g2 198 47 _ (.int .i64 at_) _ r2_3 rfl kj (Qak [ints .u8 (grp), #[.int .i64 ep], #[.int .i64 fr], ints .u8 (bas), #[.int .i64 3], #[.bool us], #[.int .i64 nm], ints .u8 (key), ints .u8 (sg), ints .u8 (pa), #[.slice a_m ms.length c_m], ints .u8 (start)] [#[.int .i64 at_]] [ints .u8 (sig)] 198 (by rw [Qaa, Qaa, Qaa, Qaa, Qaa, Qaa, Qaa, Qaa, Qaa, Qaa, Qaa, Qaa]; simp only [Array.size_append, cat, ((Qac _ _).trans hal), ((Qac _ _).trans hgl), ((Qac _ _).trans hkl), ((Qac _ _).trans hpl), ((Qac _ _).trans hrl), ((Qac _ _).trans htl)]; rfl) 0 _ rfl) kj) ?_
  refine Qa3 (.bool (inB at_ 31)) 77 #[.int .i64 at_, .int .i64 31] 50 rfl kj kj ((inC at_ 31) _) fun W4 e4 => ?_
  have x4 : Ext w W4 := Ext.tr x3 e4
  refine Qab (.bool (inB at_ 31)) 51 rfl kj kj ?_
  refine Qab (.bool (inB at_ 31)) 2 rfl kj kj ?_
  refine Qaf ?_
  refine hK11 _ _ ?_
  refine wp_ret ?_
  repeat (first | with_reducible refine goR1 ?_ | with_reducible refine goR2 ?_)
  exact (show bodyPost _ _ _ .ret _ _ from ret1 (.bool (inB at_ 31)) rfl (Qaw kj) ⟨rfl, x4⟩)
set_option maxHeartbeats 4000000 in
theorem Qfg (grp : List Int) (ep fr : Int) (bas : List Int) (kd : Int) (us : Bool) (nm : Int) (key sg pa ms start : List Int) (at_ : Int) (sig : List Int) (a_m : Option Addr) (c_m : Nat) (w : World) (hrl : grp.length = 32) (hrb : Qag grp) (hal : bas.length = 32) (hab : Qag bas) (hkl : key.length = 32) (hgl : sg.length = 32) (hpl : pa.length = 32) (hkb : Qag key) (hgb : Qag sg) (hpb : Qag pa) (hml : ms.length ≤ 1000000) (htl : start.length = 32) (htb : Qag start) (hil : sig.length = 64) (hib : Qag sig) (hm : RdK .i64 w.heap.size ms (.slice a_m ms.length c_m) w) (h0 : hgB ep fr = true) (hk : kd < 1 ∨ 3 < kd) : Calls Try.prog 58 #[.agg (cat [ints .u8 (grp), #[.int .i64 ep], #[.int .i64 fr], ints .u8 (bas), #[.int .i64 kd], #[.bool us], #[.int .i64 nm], ints .u8 (key), ints .u8 (sg), ints .u8 (pa), #[.slice a_m ms.length c_m], ints .u8 (start), #[.int .i64 at_], ints .u8 (sig)])] w (Ret w (.bool false)) := by
  refine enter 52 [(0, .agg (cat [ints .u8 (grp), #[.int .i64 ep], #[.int .i64 fr], ints .u8 (bas), #[.int .i64 kd], #[.bool us], #[.int .i64 nm], ints .u8 (key), ints .u8 (sg), ints .u8 (pa), #[.slice a_m ms.length c_m], ints .u8 (start), #[.int .i64 at_], ints .u8 (sig)]))] Try.func58 rfl rfl kj rfl ?_
  refine wp_seq_k fun K1 hK1 => ?_
  refine Qae ?_
  refine Qav (cat [ints .u8 (grp), #[.int .i64 ep], #[.int .i64 fr], ints .u8 (bas), #[.int .i64 kd], #[.bool us], #[.int .i64 nm], ints .u8 (key), ints .u8 (sg), ints .u8 (pa), #[.slice a_m ms.length c_m], ints .u8 (start), #[.int .i64 at_], ints .u8 (sig)]) 47 1 rfl kj kj fun g2 W1 l2 e1 r2_1 => ?_
  have x1 : Ext w W1 := Ext.tr (Rely.Ext.refl w) e1
  have b2 : w.heap.size ≤ g2 := Nat.le_trans (Rely.Ext.refl w).size l2
  refine Qab (.bool false) 2 rfl kj kj ?_
  refine Qaf ?_
  refine hK1 _ _ ?_
  refine wp_seq_k fun K3 hK3 => ?_
  refine wp_seq_k fun K4 hK4 => ?_
  refine Qae ?_
  refine Qab (.pointer (some ⟨g2, 32, none⟩)) 4 rfl kj kj ?_
  refine Qab (.int .i64 ep) 5 rfl kj (Qah 3 _ g2 32 47 _ (.int .i64 ep) _ r2_1 rfl kj (Qak [ints .u8 (grp)] [#[.int .i64 ep]] [#[.int .i64 fr], ints .u8 (bas), #[.int .i64 kd], #[.bool us], #[.int .i64 nm], ints .u8 (key), ints .u8 (sg), ints .u8 (pa), #[.slice a_m ms.length c_m], ints .u8 (start), #[.int .i64 at_], ints .u8 (sig)] 32 ((Qac _ _).trans hrl) 0 _ rfl) kj) ?_
  refine Qab (.pointer (some ⟨g2, 33, none⟩)) 6 rfl kj kj ?_
  refine Qab (.int .i64 fr) 7 rfl kj (Qah 3 _ g2 33 47 _ (.int .i64 fr) _ r2_1 rfl kj (Qak [ints .u8 (grp), #[.int .i64 ep]] [#[.int .i64 fr]] [ints .u8 (bas), #[.int .i64 kd], #[.bool us], #[.int .i64 nm], ints .u8 (key), ints .u8 (sg), ints .u8 (pa), #[.slice a_m ms.length c_m], ints .u8 (start), #[.int .i64 at_], ints .u8 (sig)] 33 (by rw [Qaa, Qaa]; simp only [Array.size_append, cat, ((Qac _ _).trans hrl)]; rfl) 0 _ rfl) kj) ?_
  refine Qa3 (.bool true) 64 #[.int .i64 ep, .int .i64 fr] 8 rfl kj kj ((hgE ep fr _ h0) _) fun W2 e2 => ?_
  have x2 : Ext w W2 := Ext.tr x1 e2
  refine Qab (.bool false) 9 rfl kj kj ?_
  refine Qaf ?_
  refine hK4 _ _ ?_
  refine cond_false kj ?_
  refine wp_skip ?_
  refine hK3 _ _ ?_
  refine wp_seq_k fun K5 hK5 => ?_
  refine Qae ?_
  refine Qab (.pointer (some ⟨g2, 166, none⟩)) 10 rfl kj kj ?_
  have r2_2 := (Qas r2_1 e2)
  refine Qab (.agg (ints .u8 (start))) 11 rfl kj (Qau 40 _ g2 166 47 _ _ _ r2_2 rfl kj (Qak [ints .u8 (grp), #[.int .i64 ep], #[.int .i64 fr], ints .u8 (bas), #[.int .i64 kd], #[.bool us], #[.int .i64 nm], ints .u8 (key), ints .u8 (sg), ints .u8 (pa), #[.slice a_m ms.length c_m]] [ints .u8 (start)] [#[.int .i64 at_], ints .u8 (sig)] 166 (by rw [Qaa, Qaa, Qaa, Qaa, Qaa, Qaa, Qaa, Qaa, Qaa, Qaa, Qaa]; simp only [Array.size_append, cat, ((Qac _ _).trans hal), ((Qac _ _).trans hgl), ((Qac _ _).trans hkl), ((Qac _ _).trans hpl), ((Qac _ _).trans hrl)]; rfl)) kj (isz (n := 32) kj ((Qac _ _).trans htl))) ?_
  refine Qab (.agg (ints .u8 (List.replicate 32 0))) 12 rfl kj kj ?_
  refine Qab (.bool (decide (start = List.replicate 32 0))) 13 rfl kj (Qa1 40 _ _ _ _ _ (.bool (decide (start = List.replicate 32 0))) rfl kj kj kj (Qa6 40 (e := 5) (k := .u8) (start) (List.replicate 32 0) rfl htl (List.length_replicate (n := 32)) kj kj kj _)) ?_
  refine Qab (.bool (decide (start = List.replicate 32 0))) 3 rfl kj kj ?_
  refine Qaf ?_
  refine hK5 _ _ ?_
  refine wp_seq_k fun K6 hK6 => ?_
  refine wp_seq_k fun K7 hK7 => ?_
  refine Qae ?_
  refine Qab (.pointer (some ⟨g2, 66, none⟩)) 14 rfl kj kj ?_
  refine Qab (.int .i64 kd) 15 rfl kj (Qah 3 _ g2 66 47 _ (.int .i64 kd) _ r2_2 rfl kj (Qak [ints .u8 (grp), #[.int .i64 ep], #[.int .i64 fr], ints .u8 (bas)] [#[.int .i64 kd]] [#[.bool us], #[.int .i64 nm], ints .u8 (key), ints .u8 (sg), ints .u8 (pa), #[.slice a_m ms.length c_m], ints .u8 (start), #[.int .i64 at_], ints .u8 (sig)] 66 (by rw [Qaa, Qaa, Qaa, Qaa]; simp only [Array.size_append, cat, ((Qac _ _).trans hal), ((Qac _ _).trans hrl)]; rfl) 0 _ rfl) kj) ?_
  refine Qaf ?_
  refine hK7 _ _ ?_
  refine wp_block ?_
  refine wp_seq_k fun K8 hK8 => ?_
  refine Qae ?_
  refine Qab (.bool false) 17 rfl kj (Qax (u := .bool ((kd == 1))) kj (congrArg Value.bool (beq_eq_false_iff_ne.2 (by omega)))) ?_
  refine Qab (.bool false) 16 rfl kj kj ?_
  refine Qaf ?_
  refine hK8 _ _ ?_
  refine cond_false kj ?_
  refine wp_seq_k fun K9 hK9 => ?_
  refine Qae ?_
  refine Qab (.bool false) 27 rfl kj (Qax (u := .bool ((kd == 2))) kj (congrArg Value.bool (beq_eq_false_iff_ne.2 (by omega)))) ?_
  refine Qab (.bool false) 26 rfl kj kj ?_
  refine Qaf ?_
  refine hK9 _ _ ?_
  refine cond_false kj ?_
  refine wp_seq_k fun K10 hK10 => ?_
  refine Qae ?_
  refine Qab (.bool false) 40 rfl kj (Qax (u := .bool ((kd == 3))) kj (congrArg Value.bool (beq_eq_false_iff_ne.2 (by omega)))) ?_
  refine Qab (.bool false) 39 rfl kj kj ?_
  refine Qaf ?_
  refine hK10 _ _ ?_
  refine cond_false kj ?_
  refine wp_skip ?_
  refine hK6 _ _ ?_
  refine wp_seq_k fun K11 hK11 => ?_
  refine Qae ?_
  refine Qab (.bool false) 2 rfl kj kj ?_
  refine Qaf ?_
  refine hK11 _ _ ?_
  refine wp_ret ?_
  repeat (first | with_reducible refine goR1 ?_ | with_reducible refine goR2 ?_)
  exact (show bodyPost _ _ _ .ret _ _ from ret1 (.bool false) rfl (Qaw kj) ⟨rfl, x2⟩)
theorem QfH (grp : List Int) (ep fr : Int) (bas : List Int) (kd : Int) (us : Bool) (nm : Int) (key sg pa ms start : List Int) (at_ : Int) (sig : List Int) (a_m : Option Addr) (c_m : Nat) (w : World) (hrl : grp.length = 32) (hrb : Qag grp) (hal : bas.length = 32) (hab : Qag bas) (hkl : key.length = 32) (hgl : sg.length = 32) (hpl : pa.length = 32) (hkb : Qag key) (hgb : Qag sg) (hpb : Qag pa) (hml : ms.length ≤ 1000000) (htl : start.length = 32) (htb : Qag start) (hil : sig.length = 64) (hib : Qag sig) (hm : RdK .i64 w.heap.size ms (.slice a_m ms.length c_m) w) : Calls Try.prog 58 #[.agg (cat [ints .u8 (grp), #[.int .i64 ep], #[.int .i64 fr], ints .u8 (bas), #[.int .i64 kd], #[.bool us], #[.int .i64 nm], ints .u8 (key), ints .u8 (sg), ints .u8 (pa), #[.slice a_m ms.length c_m], ints .u8 (start), #[.int .i64 at_], ints .u8 (sig)])] w (Ret w (.bool (Qbk ep fr kd us nm key sg pa ms start at_))) := by
  unfold Qbk
  cases h0 : hgB ep fr with
  | false => rw [Bool.false_and]; exact Qff grp ep fr bas kd us nm key sg pa ms start at_ sig a_m c_m w hrl hrb hal hab hkl hgl hpl hkb hgb hpb hml htl htb hil hib hm h0
  | true =>
    rw [Bool.true_and]
    rcases (show kd = 1 ∨ kd = 2 ∨ kd = 3 ∨ (kd < 1 ∨ 3 < kd) by omega) with rfl | rfl | rfl | hk
    · rw [if_pos rfl]
      cases h1 : Qb8 us nm key sg pa ms with
      | false => rw [Bool.false_and]; exact QeA grp ep fr bas us nm key sg pa ms start at_ sig a_m c_m w hrl hrb hal hab hkl hgl hpl hkb hgb hpb hml htl htb hil hib hm h0 h1
      | true => rw [Bool.true_and]; exact Qe9 grp ep fr bas us nm key sg pa ms start at_ sig a_m c_m w hrl hrb hal hab hkl hgl hpl hkb hgb hpb hml htl htb hil hib hm h0 h1
    · rw [if_neg (by decide), if_pos rfl]
      cases h1 : Qb8 us nm key sg pa ms with
      | false => rw [Bool.false_and]; exact Qe8 grp ep fr bas us nm key sg pa ms start at_ sig a_m c_m w hrl hrb hal hab hkl hgl hpl hkb hgb hpb hml htl htb hil hib hm h0 h1
      | true =>
        rw [Bool.true_and]
        by_cases h2 : start = List.replicate 32 0
        · rw [decide_eq_true h2, Bool.true_and]; exact Qe6 grp ep fr bas us nm key sg pa ms start at_ sig a_m c_m w hrl hrb hal hab hkl hgl hpl hkb hgb hpb hml htl htb hil hib hm h0 h1 h2
        · rw [decide_eq_false h2, Bool.false_and]; exact Qe7 grp ep fr bas us nm key sg pa ms start at_ sig a_m c_m w hrl hrb hal hab hkl hgl hpl hkb hgb hpb hml htl htb hil hib hm h0 h1 h2
    · rw [if_neg (by decide), if_neg (by decide), if_pos rfl]
      cases h1 : Qa7 us nm key sg pa ms with
      | false => rw [Bool.false_and]; exact Qe5 grp ep fr bas us nm key sg pa ms start at_ sig a_m c_m w hrl hrb hal hab hkl hgl hpl hkb hgb hpb hml htl htb hil hib hm h0 h1
      | true =>
        rw [Bool.true_and]
        by_cases h2 : start = List.replicate 32 0
        · rw [decide_eq_true h2, Bool.true_and]; exact Qe3 grp ep fr bas us nm key sg pa ms start at_ sig a_m c_m w hrl hrb hal hab hkl hgl hpl hkb hgb hpb hml htl htb hil hib hm h0 h1 h2
        · rw [decide_eq_false h2, Bool.false_and]; exact Qe4 grp ep fr bas us nm key sg pa ms start at_ sig a_m c_m w hrl hrb hal hab hkl hgl hpl hkb hgb hpb hml htl htb hil hib hm h0 h1 h2
    · rw [if_neg (by omega), if_neg (by omega), if_neg (by omega)]; exact Qfg grp ep fr bas kd us nm key sg pa ms start at_ sig a_m c_m w hrl hrb hal hab hkl hgl hpl hkb hgb hpb hml htl htb hil hib hm h0 hk
theorem QeB (grp : List Int) (ep fr : Int) (bas : List Int) (kd : Int) (us : Bool) (nm : Int) (key sg pa ms start : List Int) (at_ : Int) (sig : List Int) (a_m : Option Addr) (c_m : Nat) (b : Bool) (hb : Qbk ep fr kd us nm key sg pa ms start at_ = b) (w : World) (hrl : grp.length = 32) (hrb : Qag grp) (hal : bas.length = 32) (hab : Qag bas) (hkl : key.length = 32) (hgl : sg.length = 32) (hpl : pa.length = 32) (hkb : Qag key) (hgb : Qag sg) (hpb : Qag pa) (hml : ms.length ≤ 1000000) (htl : start.length = 32) (htb : Qag start) (hil : sig.length = 64) (hib : Qag sig) (hm : RdK .i64 w.heap.size ms (.slice a_m ms.length c_m) w) : Calls Try.prog 58 #[.agg (cat [ints .u8 (grp), #[.int .i64 ep], #[.int .i64 fr], ints .u8 (bas), #[.int .i64 kd], #[.bool us], #[.int .i64 nm], ints .u8 (key), ints .u8 (sg), ints .u8 (pa), #[.slice a_m ms.length c_m], ints .u8 (start), #[.int .i64 at_], ints .u8 (sig)])] w (Ret w (.bool b)) := hb ▸ QfH grp ep fr bas kd us nm key sg pa ms start at_ sig a_m c_m w hrl hrb hal hab hkl hgl hpl hkb hgb hpb hml htl htb hil hib hm
end Go.Proofs.Ytfelfmchachljaa.Wr
end
