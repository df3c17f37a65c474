/- Texts of this claim, joined (H3). -/
import Derived.Test.YtfelfmchachljaaZH2

section
namespace Go.Proofs.Ytfelfmchachljaa.Wr
open Go Go.RowKit
open Rely Auto Own Sha
set_option linter.unusedVariables false
set_option linter.unusedSimpArgs false
def qS1 (s : Option (List Int)) : Option (List Int) := Qac s 32
def qS2 (s : Option (List Int)) : Option (List Int) := Qac (qS1 s) 4
def qS3 (s : Option (List Int)) : Option (List Int) := Qaj (qS2 s)
def qS4 (s : Option (List Int)) : Option (List Int) := Qac (qS3 s) 32
def qS5 (s : Option (List Int)) : Option (List Int) := Qac (qS4 s) 1
def qKd (s : Option (List Int)) : Nat := bigN (Qag (qS4 s) 1)
def qGrp (s : Option (List Int)) : List Int := keyV (Qag s 32)
def qEp (s : Option (List Int)) : Int := ((bigN (Qag (qS1 s) 4) : Nat) : Int)
def qFr (s : Option (List Int)) : Int := ((bigN (Qag (qS2 s) 1) : Nat) : Int)
def qBa (s : Option (List Int)) : List Int := keyV (Qag (qS3 s) 32)
def qNd (s : Option (List Int)) : Bool := qKd s == 1 || qKd s == 2
def qUs (s : Option (List Int)) : Bool := bif qNd s then nUs (qS5 s) else false
def qNm (s : Option (List Int)) : Int := bif qNd s then nNm (qS5 s) else 0
def qKy (s : Option (List Int)) : List Int := bif qNd s then nKy (qS5 s) else List.replicate 32 0
def qSg (s : Option (List Int)) : List Int := bif qNd s then nSg (qS5 s) else List.replicate 32 0
def qPa (s : Option (List Int)) : List Int := bif qNd s then nPa (qS5 s) else List.replicate 32 0
def qL (s : Option (List Int)) : List Int := bif qNd s then nL (qS5 s) else []
def qSt (s : Option (List Int)) : List Int := bif qKd s == 1 then keyV (Qag (QaA (qS5 s)) 32) else List.replicate 32 0
def qAt (s : Option (List Int)) : Int := bif qKd s == 3 then ((bigN (Qag (qS5 s) 1) : Nat) : Int) else 0
def Qb8 (s : Option (List Int)) : Option (List Int) := bif qKd s == 1 then Qac (QaA (qS5 s)) 32 else bif qKd s == 2 then QaA (qS5 s) else bif qKd s == 3 then Qaj (qS5 s) else Qax (qS5 s) false
def qSig (s : Option (List Int)) : List Int := QaY (Qag (Qb8 s) 64)
def Qaw (s : Option (List Int)) : Option (List Int) := Qac (Qb8 s) 64
theorem Qgo (s : Option (List Int)) : (qGrp s).length = 32 := Qam _ (Qai _ 32)
theorem Qhb (s : Option (List Int)) : (qBa s).length = 32 := Qam _ (Qai _ 32)
theorem Qgn (s : Option (List Int)) : (qSig s).length = 64 := Qa6 _ (Qai _ 64)
theorem Qha (s : Option (List Int)) : (qKy s).length = 32 := by unfold qKy; cases qNd s; exact List.length_replicate ..; exact QaN _
theorem QgY (s : Option (List Int)) : (qSg s).length = 32 := by unfold qSg; cases qNd s; exact List.length_replicate ..; exact QaL _
theorem QgZ (s : Option (List Int)) : (qPa s).length = 32 := by unfold qPa; cases qNd s; exact List.length_replicate ..; exact QaM _
theorem QgX (s : Option (List Int)) : (qSt s).length = 32 := by unfold qSt; cases qKd s == 1; exact List.length_replicate ..; exact Qam _ (Qai _ 32)
set_option maxHeartbeats 4000000 in
set_option maxRecDepth 100000 in
theorem QgS (B gr : Nat) (s : Option (List Int)) (w : World) (hB : B ≤ gr) (h : RSt B gr s w) (hk : bigN (Qag (qS4 s) 1) = 1) : Calls Try.prog 61 #[.pointer (some ⟨gr, 0, none⟩)] w (Qbj B gr w (Qaw s) fun v W => ∃ (xz : List Int) (a : Option Addr) (c : Nat), v = .agg (cat [ints .u8 (qGrp s), #[.int .i64 (qEp s)], #[.int .i64 (qFr s)], ints .u8 (qBa s), #[.int .i64 ((qKd s : Nat) : Int)], #[.bool (qUs s)], #[.int .i64 (qNm s)], ints .u8 (qKy s), ints .u8 (qSg s), ints .u8 (qPa s), #[.slice a xz.length c], ints .u8 (qSt s), #[.int .i64 (qAt s)], ints .u8 (qSig s)]) ∧ OwnN .i64 3 w.heap.size xz (.slice a xz.length c) W ∧ xz.length ≤ 255 ∧ (Qaw s ≠ none → xz = qL s)) := by
  have hgr := h.lt
  have hk2 : bigN (Qag (Qac (Qaj (Qac (Qac s 32) 4)) 32) 1) = qKd s := rfl
  unfold qKd at hk2
  have hk0 : qKd s = bigN (Qag (qS4 s) 1) := rfl
  have k1 : (qKd s == 1) = true := beq_iff_eq.2 (show qKd s = 1 by omega)
  have k2 : (qKd s == 2) = false := beq_eq_false_iff_ne.2 (show qKd s ≠ 2 by omega)
  have k3 : (qKd s == 3) = false := beq_eq_false_iff_ne.2 (show qKd s ≠ 3 by omega)
  have kn : qNd s = true := by unfold qNd; rw [k1, k2]; rfl
  have eUs : qUs s = nUs (qS5 s) := by unfold qUs; rw [kn]; rfl
  have eNm : qNm s = nNm (qS5 s) := by unfold qNm; rw [kn]; rfl
  have eKy : qKy s = nKy (qS5 s) := by unfold qKy; rw [kn]; rfl
  have eSg : qSg s = nSg (qS5 s) := by unfold qSg; rw [kn]; rfl
  have ePa : qPa s = nPa (qS5 s) := by unfold qPa; rw [kn]; rfl
  have eL : qL s = nL (qS5 s) := by unfold qL; rw [kn]; rfl
  have eSt : qSt s = keyV (Qag (QaA (qS5 s)) 32) := by unfold qSt; rw [k1]; rfl
  have eAt : qAt s = 0 := by unfold qAt; rw [k3]; rfl
  have eM : Qb8 s = Qac (QaA (qS5 s)) 32 := by unfold Qb8; rw [k1, k2, k3]; rfl
  refine enter 41 [(0, .pointer (some ⟨gr, 0, none⟩))] Try.func61 rfl rfl kj rfl ?_
  refine wp_seq_k fun K1 hK1 => ?_
  refine Qae ?_
  refine Qar (cat [ints .u8 (List.replicate 32 0), #[.int .i64 0], #[.int .i64 0], ints .u8 (List.replicate 32 0), #[.int .i64 0], #[.bool false], #[.int .i64 0], ints .u8 (List.replicate 32 0), ints .u8 (List.replicate 32 0), ints .u8 (List.replicate 32 0), #[.slice none 0 0], ints .u8 (List.replicate 32 0), #[.int .i64 0], ints .u8 (List.replicate 64 0)]) 47 2 rfl kj (QaG 47 _ rfl (QbD _)) fun g2 W1 l2 e1 r2_1 => ?_
  have x1 : ExtB gr w W1 := ExtB.ext (ExtB.refl gr w) e1
  have b2 : w.heap.size ≤ g2 := Nat.le_trans (ExtB.refl gr w).size l2
  refine Qaf ?_
  refine hK1 _ _ ?_
  refine wp_seq_k fun K3 hK3 => ?_
  refine Qae ?_
  refine Qab (.pointer (some ⟨gr, 0, none⟩)) 4 rfl kj kj ?_
  have rs4 := (RSt.ext h hB e1)
  refine Qah (fun v W' => ExtB gr W1 W' ∧ RSt B gr (Qac (s) 32) W' ∧ (fun (v : Value) (_ : World) => v = .agg (ints .u8 (keyV (Qag (s) 32)))) v W') 109 #[.pointer (some ⟨gr, 0, none⟩)] 5 rfl kj kj (Qb7 B gr _ _ hB rs4) fun vv5 W2 hh5 => ?_
  obtain ⟨q2, rs5, hv5⟩ := hh5
  have x2 : ExtB gr w W2 := ExtB.tr x1 q2
  subst hv5
  refine Qab (.pointer (some ⟨gr, 0, none⟩)) 6 rfl kj kj ?_
  refine Qah (fun v W' => ExtB gr W2 W' ∧ RSt B gr (Qac (Qac (s) 32) 4) W' ∧ (fun (v : Value) (_ : World) => v = .int .i64 ((bigN (Qag (Qac (s) 32) 4) : Nat) : Int)) v W') 110 #[.pointer (some ⟨gr, 0, none⟩), .int .i64 4] 7 rfl kj kj (QaQ B gr _ 4 _ hB rs5 (by decide)) fun vv6 W3 hh6 => ?_
  obtain ⟨q3, rs6, hv6⟩ := hh6
  have x3 : ExtB gr w W3 := ExtB.tr x2 q3
  subst hv6
  refine Qab (.pointer (some ⟨gr, 0, none⟩)) 8 rfl kj kj ?_
  refine Qah (fun v W' => ExtB gr W3 W' ∧ RSt B gr (Qaj (Qac (Qac (s) 32) 4)) W' ∧ (fun (v : Value) (_ : World) => v = .int .i64 ((bigN (Qag (Qac (Qac (s) 32) 4) 1) : Nat) : Int)) v W') 111 #[.pointer (some ⟨gr, 0, none⟩)] 9 rfl kj kj (QcF B gr _ _ hB rs6) fun vv7 W4 hh7 => ?_
  obtain ⟨q4, rs7, hv7⟩ := hh7
  have x4 : ExtB gr w W4 := ExtB.tr x3 q4
  subst hv7
  refine Qab (.pointer (some ⟨gr, 0, none⟩)) 10 rfl kj kj ?_
  refine Qah (fun v W' => ExtB gr W4 W' ∧ RSt B gr (Qac (Qaj (Qac (Qac (s) 32) 4)) 32) W' ∧ (fun (v : Value) (_ : World) => v = .agg (ints .u8 (keyV (Qag (Qaj (Qac (Qac (s) 32) 4)) 32)))) v W') 109 #[.pointer (some ⟨gr, 0, none⟩)] 11 rfl kj kj (Qb7 B gr _ _ hB rs7) fun vv8 W5 hh8 => ?_
  obtain ⟨q5, rs8, hv8⟩ := hh8
  have x5 : ExtB gr w W5 := ExtB.tr x4 q5
  subst hv8
  refine Qab (.pointer (some ⟨gr, 0, none⟩)) 12 rfl kj kj ?_
  refine Qah (fun v W' => ExtB gr W5 W' ∧ RSt B gr (Qac (Qac (Qaj (Qac (Qac (s) 32) 4)) 32) 1) W' ∧ (fun (v : Value) (_ : World) => v = .int .i64 ((bigN (Qag (Qac (Qaj (Qac (Qac (s) 32) 4)) 32) 1) : Nat) : Int)) v W') 110 #[.pointer (some ⟨gr, 0, none⟩), .int .i64 1] 13 rfl kj kj (QaQ B gr _ 1 _ hB rs8 (by decide)) fun vv9 W6 hh9 => ?_
  obtain ⟨q6, rs9, hv9⟩ := hh9
  have x6 : ExtB gr w W6 := ExtB.tr x5 q6
  subst hv9
  refine Qab (.agg (cat [ints .u8 (keyV (Qag (s) 32)), #[.int .i64 ((bigN (Qag (Qac (s) 32) 4) : Nat) : Int)], #[.int .i64 ((bigN (Qag (Qac (Qac (s) 32) 4) 1) : Nat) : Int)], ints .u8 (keyV (Qag (Qaj (Qac (Qac (s) 32) 4)) 32)), #[.int .i64 ((bigN (Qag (Qac (Qaj (Qac (Qac (s) 32) 4)) 32) 1) : Nat) : Int)], #[.bool false], #[.int .i64 0], ints .u8 (List.replicate 32 0), ints .u8 (List.replicate 32 0), ints .u8 (List.replicate 32 0), #[.slice none 0 0], ints .u8 (List.replicate 32 0), #[.int .i64 0], ints .u8 (List.replicate 64 0)])) 14 rfl kj (Qb3 47 _ [ints .u8 (List.replicate 32 0), #[.int .i64 0], #[.int .i64 0], ints .u8 (List.replicate 32 0), #[.int .i64 0]] [#[.bool false], #[.int .i64 0], ints .u8 (List.replicate 32 0), ints .u8 (List.replicate 32 0), ints .u8 (List.replicate 32 0), #[.slice none 0 0], ints .u8 (List.replicate 32 0), #[.int .i64 0], ints .u8 (List.replicate 64 0)] #[(0, 32), (32, 1), (33, 1), (34, 32), (66, 1), (67, 99), (166, 32), (198, 1), (199, 64)] [(0, 32, .agg (ints .u8 (keyV (Qag (s) 32))), ints .u8 (keyV (Qag (s) 32))), (1, 1, .int .i64 ((bigN (Qag (Qac (s) 32) 4) : Nat) : Int), #[.int .i64 ((bigN (Qag (Qac (s) 32) 4) : Nat) : Int)]), (2, 1, .int .i64 ((bigN (Qag (Qac (Qac (s) 32) 4) 1) : Nat) : Int), #[.int .i64 ((bigN (Qag (Qac (Qac (s) 32) 4) 1) : Nat) : Int)]), (3, 32, .agg (ints .u8 (keyV (Qag (Qaj (Qac (Qac (s) 32) 4)) 32))), ints .u8 (keyV (Qag (Qaj (Qac (Qac (s) 32) 4)) 32))), (4, 1, .int .i64 ((bigN (Qag (Qac (Qaj (Qac (Qac (s) 32) 4)) 32) 1) : Nat) : Int), #[.int .i64 ((bigN (Qag (Qac (Qaj (Qac (Qac (s) 32) 4)) 32) 1) : Nat) : Int)])] rfl kj ⟨kj, rfl, ((Qad _ _).trans (Qam _ (Qai (s) 32))), kj, rfl, kj, kj, rfl, kj, kj, rfl, ((Qad _ _).trans (Qam _ (Qai (Qaj (Qac (Qac (s) 32) 4)) 32))), kj, rfl, kj, trivial⟩ kj (QbD _) kj kj) ?_
  refine Qar (cat [ints .u8 (List.replicate 32 0), #[.int .i64 0], #[.int .i64 0], ints .u8 (List.replicate 32 0), #[.int .i64 0], #[.bool false], #[.int .i64 0], ints .u8 (List.replicate 32 0), ints .u8 (List.replicate 32 0), ints .u8 (List.replicate 32 0), #[.slice none 0 0], ints .u8 (List.replicate 32 0), #[.int .i64 0], ints .u8 (List.replicate 64 0)]) 47 3 rfl kj (QaG 47 _ rfl (QbD _)) fun g10 W7 l10 e7 r10_7 => ?_
  have x7 : ExtB gr w W7 := ExtB.ext x6 e7
  have b10 : w.heap.size ≤ g10 := Nat.le_trans x6.size l10
  refine Qav g10 _ (cat [ints .u8 (keyV (Qag (s) 32)), #[.int .i64 ((bigN (Qag (Qac (s) 32) 4) : Nat) : Int)], #[.int .i64 ((bigN (Qag (Qac (Qac (s) 32) 4) 1) : Nat) : Int)], ints .u8 (keyV (Qag (Qaj (Qac (Qac (s) 32) 4)) 32)), #[.int .i64 ((bigN (Qag (Qac (Qaj (Qac (Qac (s) 32) 4)) 32) 1) : Nat) : Int)], #[.bool false], #[.int .i64 0], ints .u8 (List.replicate 32 0), ints .u8 (List.replicate 32 0), ints .u8 (List.replicate 32 0), #[.slice none 0 0], ints .u8 (List.replicate 32 0), #[.int .i64 0], ints .u8 (List.replicate 64 0)]) 47 r10_7 rfl kj (Qat 47 _ _ g10 47 _ _ r10_7 rfl kj kj (isz (n := 263) kj (by rw [Qaa, Qaa, Qaa, Qaa, Qaa, Qaa, Qaa, Qaa, Qaa, Qaa, Qaa, Qaa, Qaa, Qaa]; simp only [Array.size_append, cat, ((Qad _ _).trans (List.length_replicate (n := 32))), ((Qad _ _).trans (List.length_replicate (n := 64))), ((Qad _ _).trans (Qam _ (Qai (Qaj (Qac (Qac (s) 32) 4)) 32))), ((Qad _ _).trans (Qam _ (Qai (s) 32)))]; rfl)) (eqsz (n := 263) (by rw [Qaa, Qaa, Qaa, Qaa, Qaa, Qaa, Qaa, Qaa, Qaa, Qaa, Qaa, Qaa, Qaa, Qaa]; simp only [Array.size_append, cat, ((Qad _ _).trans (List.length_replicate (n := 32))), ((Qad _ _).trans (List.length_replicate (n := 64)))]; rfl) (by rw [Qaa, Qaa, Qaa, Qaa, Qaa, Qaa, Qaa, Qaa, Qaa, Qaa, Qaa, Qaa, Qaa, Qaa]; simp only [Array.size_append, cat, ((Qad _ _).trans (List.length_replicate (n := 32))), ((Qad _ _).trans (List.length_replicate (n := 64))), ((Qad _ _).trans (Qam _ (Qai (Qaj (Qac (Qac (s) 32) 4)) 32))), ((Qad _ _).trans (Qam _ (Qai (s) 32)))]; rfl)) (QaC _ (by intro a ha; simp only [List.mem_cons, List.not_mem_nil, or_false] at ha; rcases ha with rfl | rfl | rfl | rfl | rfl | rfl | rfl | rfl | rfl | rfl | rfl | rfl | rfl | rfl; exact (Qan _ _); exact (Qak _ rfl); exact (Qak _ rfl); exact (Qan _ _); exact (Qak _ rfl); exact (Qak _ rfl); exact (Qak _ rfl); exact (Qan _ _); exact (Qan _ _); exact (Qan _ _); exact (Qak _ rfl); exact (Qan _ _); exact (Qak _ rfl); exact (Qan _ _)))) fun W8 p8 r10_8 => ?_
  have x8 : ExtB gr w W8 := ExtB.putsN x7 p8 b10
  refine Qaf ?_
  refine hK3 _ _ ?_
  refine wp_seq_k fun K11 hK11 => ?_
  refine wp_seq_k fun K12 hK12 => ?_
  refine Qae ?_
  refine Qab (.pointer (some ⟨g10, 66, none⟩)) 15 rfl kj kj ?_
  refine Qab (.int .i64 ((bigN (Qag (Qac (Qaj (Qac (Qac (s) 32) 4)) 32) 1) : Nat) : Int)) 16 rfl kj (Qal 3 _ g10 66 47 _ (.int .i64 ((bigN (Qag (Qac (Qaj (Qac (Qac (s) 32) 4)) 32) 1) : Nat) : Int)) _ r10_8 rfl kj (Qaq [ints .u8 (keyV (Qag (s) 32)), #[.int .i64 ((bigN (Qag (Qac (s) 32) 4) : Nat) : Int)], #[.int .i64 ((bigN (Qag (Qac (Qac (s) 32) 4) 1) : Nat) : Int)], ints .u8 (keyV (Qag (Qaj (Qac (Qac (s) 32) 4)) 32))] [#[.int .i64 ((bigN (Qag (Qac (Qaj (Qac (Qac (s) 32) 4)) 32) 1) : Nat) : Int)]] [#[.bool false], #[.int .i64 0], ints .u8 (List.replicate 32 0), ints .u8 (List.replicate 32 0), ints .u8 (List.replicate 32 0), #[.slice none 0 0], ints .u8 (List.replicate 32 0), #[.int .i64 0], ints .u8 (List.replicate 64 0)] 66 (by rw [Qaa, Qaa, Qaa, Qaa]; simp only [Array.size_append, cat, ((Qad _ _).trans (Qam _ (Qai (Qaj (Qac (Qac (s) 32) 4)) 32))), ((Qad _ _).trans (Qam _ (Qai (s) 32)))]; rfl) 0 _ rfl) kj) ?_
  refine Qaf ?_
  refine hK12 _ _ ?_
  refine wp_block ?_
  refine wp_seq_k fun K13 hK13 => ?_
  refine Qae ?_
  refine Qab (.bool true) 20 rfl kj (Qa0 (u := .bool ((((bigN (Qag (Qac (Qaj (Qac (Qac (s) 32) 4)) 32) 1) : Nat) : Int) == 1))) kj (congrArg Value.bool (beq_iff_eq.2 (by omega)))) ?_
  refine Qab (.bool true) 19 rfl kj kj ?_
  refine Qaf ?_
  refine hK13 _ _ ?_
  refine cond_true kj ?_
  refine wp_seq_k fun K14 hK14 => ?_
  refine Qae ?_
  refine Qab (.pointer (some ⟨gr, 0, none⟩)) 21 rfl kj kj ?_
  have rs15 := (RSt.put (RSt.ext rs9 hB e7) hB p8 (Nat.lt_of_lt_of_le hgr b10))
  refine Qah (fun v W' => ExtB gr W8 W' ∧ RSt B gr (QaA (Qac (Qac (Qaj (Qac (Qac (s) 32) 4)) 32) 1)) W' ∧ (fun (v : Value) (W : World) => ∃ (xz : List Int) (a : Option Addr) (c : Nat), v = .agg (cat [#[.bool (nUs (Qac (Qac (Qaj (Qac (Qac (s) 32) 4)) 32) 1))], #[.int .i64 (nNm (Qac (Qac (Qaj (Qac (Qac (s) 32) 4)) 32) 1))], ints .u8 (nKy (Qac (Qac (Qaj (Qac (Qac (s) 32) 4)) 32) 1)), ints .u8 (nSg (Qac (Qac (Qaj (Qac (Qac (s) 32) 4)) 32) 1)), ints .u8 (nPa (Qac (Qac (Qaj (Qac (Qac (s) 32) 4)) 32) 1)), #[.slice a xz.length c]]) ∧ OwnN .i64 3 W8.heap.size xz (.slice a xz.length c) W ∧ xz.length ≤ 255 ∧ (QaA (Qac (Qac (Qaj (Qac (Qac (s) 32) 4)) 32) 1) ≠ none → xz = nL (Qac (Qac (Qaj (Qac (Qac (s) 32) 4)) 32) 1))) v W') 102 #[.pointer (some ⟨gr, 0, none⟩)] 22 rfl kj kj (Qf3 B gr _ _ hB rs15) fun vv16 W9 hh16 => ?_
  obtain ⟨q9, rs16, hv16⟩ := hh16
  have x9 : ExtB gr w W9 := ExtB.tr x8 q9
  obtain ⟨xs17, ax17, cx17, rfl, hox17, hlx17, hxx17⟩ := hv16
  refine Qab (.pointer (some ⟨g10, 67, none⟩)) 23 rfl kj kj ?_
  have r10_9 := (ExtB.row q9 r10_8 (Ne.symm (Nat.ne_of_lt (Nat.lt_of_lt_of_le hgr b10))))
  refine Qav g10 _ (cat [ints .u8 (keyV (Qag (s) 32)), #[.int .i64 ((bigN (Qag (Qac (s) 32) 4) : Nat) : Int)], #[.int .i64 ((bigN (Qag (Qac (Qac (s) 32) 4) 1) : Nat) : Int)], ints .u8 (keyV (Qag (Qaj (Qac (Qac (s) 32) 4)) 32)), #[.int .i64 ((bigN (Qag (Qac (Qaj (Qac (Qac (s) 32) 4)) 32) 1) : Nat) : Int)], #[.bool (nUs (Qac (Qac (Qaj (Qac (Qac (s) 32) 4)) 32) 1))], #[.int .i64 (nNm (Qac (Qac (Qaj (Qac (Qac (s) 32) 4)) 32) 1))], ints .u8 (nKy (Qac (Qac (Qaj (Qac (Qac (s) 32) 4)) 32) 1)), ints .u8 (nSg (Qac (Qac (Qaj (Qac (Qac (s) 32) 4)) 32) 1)), ints .u8 (nPa (Qac (Qac (Qaj (Qac (Qac (s) 32) 4)) 32) 1)), #[.slice ax17 xs17.length cx17], ints .u8 (List.replicate 32 0), #[.int .i64 0], ints .u8 (List.replicate 64 0)]) 47 r10_9 rfl kj (Qbd 43 _ _ g10 67 47 [ints .u8 (keyV (Qag (s) 32)), #[.int .i64 ((bigN (Qag (Qac (s) 32) 4) : Nat) : Int)], #[.int .i64 ((bigN (Qag (Qac (Qac (s) 32) 4) 1) : Nat) : Int)], ints .u8 (keyV (Qag (Qaj (Qac (Qac (s) 32) 4)) 32)), #[.int .i64 ((bigN (Qag (Qac (Qaj (Qac (Qac (s) 32) 4)) 32) 1) : Nat) : Int)]] [#[.bool false], #[.int .i64 0], ints .u8 (List.replicate 32 0), ints .u8 (List.replicate 32 0), ints .u8 (List.replicate 32 0), #[.slice none 0 0]] [#[.bool (nUs (Qac (Qac (Qaj (Qac (Qac (s) 32) 4)) 32) 1))], #[.int .i64 (nNm (Qac (Qac (Qaj (Qac (Qac (s) 32) 4)) 32) 1))], ints .u8 (nKy (Qac (Qac (Qaj (Qac (Qac (s) 32) 4)) 32) 1)), ints .u8 (nSg (Qac (Qac (Qaj (Qac (Qac (s) 32) 4)) 32) 1)), ints .u8 (nPa (Qac (Qac (Qaj (Qac (Qac (s) 32) 4)) 32) 1)), #[.slice ax17 xs17.length cx17]] [ints .u8 (List.replicate 32 0), #[.int .i64 0], ints .u8 (List.replicate 64 0)] r10_9 rfl kj kj (isz (n := 99) kj (by rw [Qaa, Qaa, Qaa, Qaa, Qaa, Qaa]; simp only [Array.size_append, cat, ((Qad _ _).trans (QaN (Qac (Qac (Qaj (Qac (Qac (s) 32) 4)) 32) 1))), ((Qad _ _).trans (QaM (Qac (Qac (Qaj (Qac (Qac (s) 32) 4)) 32) 1))), ((Qad _ _).trans (QaL (Qac (Qac (Qaj (Qac (Qac (s) 32) 4)) 32) 1)))]; rfl)) (by rw [Qaa, Qaa, Qaa, Qaa, Qaa]; simp only [Array.size_append, cat, ((Qad _ _).trans (Qam _ (Qai (Qaj (Qac (Qac (s) 32) 4)) 32))), ((Qad _ _).trans (Qam _ (Qai (s) 32)))]; rfl) (eqsz (n := 99) (by rw [Qaa, Qaa, Qaa, Qaa, Qaa, Qaa]; simp only [Array.size_append, cat, ((Qad _ _).trans (QaN (Qac (Qac (Qaj (Qac (Qac (s) 32) 4)) 32) 1))), ((Qad _ _).trans (QaM (Qac (Qac (Qaj (Qac (Qac (s) 32) 4)) 32) 1))), ((Qad _ _).trans (QaL (Qac (Qac (Qaj (Qac (Qac (s) 32) 4)) 32) 1)))]; rfl) (by rw [Qaa, Qaa, Qaa, Qaa, Qaa, Qaa]; simp only [Array.size_append, cat, ((Qad _ _).trans (List.length_replicate (n := 32)))]; rfl)) (QaC _ (by intro a ha; simp only [List.mem_cons, List.not_mem_nil, or_false] at ha; rcases ha with rfl | rfl | rfl | rfl | rfl | rfl; exact (Qak _ rfl); exact (Qak _ rfl); exact (Qan _ _); exact (Qan _ _); exact (Qan _ _); exact (Qak _ rfl)))) fun W10 p10 r10_10 => ?_
  have x10 : ExtB gr w W10 := ExtB.putsN x9 p10 b10
  refine Qaf ?_
  refine hK14 _ _ ?_
  refine Qae ?_
  refine Qab (.pointer (some ⟨gr, 0, none⟩)) 24 rfl kj kj ?_
  have rs18 := (RSt.put rs16 hB p10 (Nat.lt_of_lt_of_le hgr b10))
  refine Qah (fun v W' => ExtB gr W10 W' ∧ RSt B gr (Qac (QaA (Qac (Qac (Qaj (Qac (Qac (s) 32) 4)) 32) 1)) 32) W' ∧ (fun (v : Value) (_ : World) => v = .agg (ints .u8 (keyV (Qag (QaA (Qac (Qac (Qaj (Qac (Qac (s) 32) 4)) 32) 1)) 32)))) v W') 109 #[.pointer (some ⟨gr, 0, none⟩)] 25 rfl kj kj (Qb7 B gr _ _ hB rs18) fun vv19 W11 hh19 => ?_
  obtain ⟨q11, rs19, hv19⟩ := hh19
  have x11 : ExtB gr w W11 := ExtB.tr x10 q11
  subst hv19
  refine Qab (.pointer (some ⟨g10, 166, none⟩)) 26 rfl kj kj ?_
  have r10_11 := (ExtB.row q11 r10_10 (Ne.symm (Nat.ne_of_lt (Nat.lt_of_lt_of_le hgr b10))))
  refine Qav g10 _ (cat [ints .u8 (keyV (Qag (s) 32)), #[.int .i64 ((bigN (Qag (Qac (s) 32) 4) : Nat) : Int)], #[.int .i64 ((bigN (Qag (Qac (Qac (s) 32) 4) 1) : Nat) : Int)], ints .u8 (keyV (Qag (Qaj (Qac (Qac (s) 32) 4)) 32)), #[.int .i64 ((bigN (Qag (Qac (Qaj (Qac (Qac (s) 32) 4)) 32) 1) : Nat) : Int)], #[.bool (nUs (Qac (Qac (Qaj (Qac (Qac (s) 32) 4)) 32) 1))], #[.int .i64 (nNm (Qac (Qac (Qaj (Qac (Qac (s) 32) 4)) 32) 1))], ints .u8 (nKy (Qac (Qac (Qaj (Qac (Qac (s) 32) 4)) 32) 1)), ints .u8 (nSg (Qac (Qac (Qaj (Qac (Qac (s) 32) 4)) 32) 1)), ints .u8 (nPa (Qac (Qac (Qaj (Qac (Qac (s) 32) 4)) 32) 1)), #[.slice ax17 xs17.length cx17], ints .u8 (keyV (Qag (QaA (Qac (Qac (Qaj (Qac (Qac (s) 32) 4)) 32) 1)) 32)), #[.int .i64 0], ints .u8 (List.replicate 64 0)]) 47 r10_11 rfl kj (Qbd 40 _ _ g10 166 47 [ints .u8 (keyV (Qag (s) 32)), #[.int .i64 ((bigN (Qag (Qac (s) 32) 4) : Nat) : Int)], #[.int .i64 ((bigN (Qag (Qac (Qac (s) 32) 4) 1) : Nat) : Int)], ints .u8 (keyV (Qag (Qaj (Qac (Qac (s) 32) 4)) 32)), #[.int .i64 ((bigN (Qag (Qac (Qaj (Qac (Qac (s) 32) 4)) 32) 1) : Nat) : Int)], #[.bool (nUs (Qac (Qac (Qaj (Qac (Qac (s) 32) 4)) 32) 1))], #[.int .i64 (nNm (Qac (Qac (Qaj (Qac (Qac (s) 32) 4)) 32) 1))], ints .u8 (nKy (Qac (Qac (Qaj (Qac (Qac (s) 32) 4)) 32) 1)), ints .u8 (nSg (Qac (Qac (Qaj (Qac (Qac (s) 32) 4)) 32) 1)), ints .u8 (nPa (Qac (Qac (Qaj (Qac (Qac (s) 32) 4)) 32) 1)), #[.slice ax17 xs17.length cx17]] [ints .u8 (List.replicate 32 0)] [ints .u8 (keyV (Qag (QaA (Qac (Qac (Qaj (Qac (Qac (s) 32) 4)) 32) 1)) 32))] [#[.int .i64 0], ints .u8 (List.replicate 64 0)] r10_11 rfl kj kj (isz (n := 32) kj ((Qad _ _).trans (Qam _ (Qai (QaA (Qac (Qac (Qaj (Qac (Qac (s) 32) 4)) 32) 1)) 32)))) (by rw [Qaa, Qaa, Qaa, Qaa, Qaa, Qaa, Qaa, Qaa, Qaa, Qaa, Qaa]; simp only [Array.size_append, cat, ((Qad _ _).trans (Qam _ (Qai (Qaj (Qac (Qac (s) 32) 4)) 32))), ((Qad _ _).trans (Qam _ (Qai (s) 32))), ((Qad _ _).trans (QaN (Qac (Qac (Qaj (Qac (Qac (s) 32) 4)) 32) 1))), ((Qad _ _).trans (QaM (Qac (Qac (Qaj (Qac (Qac (s) 32) 4)) 32) 1))), ((Qad _ _).trans (QaL (Qac (Qac (Qaj (Qac (Qac (s) 32) 4)) 32) 1)))]; rfl) (eqsz (n := 32) ((Qad _ _).trans (Qam _ (Qai (QaA (Qac (Qac (Qaj (Qac (Qac (s) 32) 4)) 32) 1)) 32))) ((Qad _ _).trans (List.length_replicate (n := 32)))) (Qan _ _)) fun W12 p12 r10_12 => ?_
  have x12 : ExtB gr w W12 := ExtB.putsN x11 p12 b10
  refine Qaf ?_
  refine hK11 _ _ ?_
  refine wp_seq_k fun K20 hK20 => ?_
  refine Qae ?_
  refine Qab (.pointer (some ⟨gr, 0, none⟩)) 37 rfl kj kj ?_
  have rs21 := (RSt.put rs19 hB p12 (Nat.lt_of_lt_of_le hgr b10))
  refine Qah (fun v W' => ExtB gr W12 W' ∧ RSt B gr (Qac (Qac (QaA (Qac (Qac (Qaj (Qac (Qac (s) 32) 4)) 32) 1)) 32) 64) W' ∧ (fun (v : Value) (_ : World) => v = .agg (ints .u8 (QaY (Qag (Qac (QaA (Qac (Qac (Qaj (Qac (Qac (s) 32) 4)) 32) 1)) 32) 64)))) v W') 112 #[.pointer (some ⟨gr, 0, none⟩)] 38 rfl kj kj (QdX B gr _ _ hB rs21) fun vv22 W13 hh22 => ?_
  obtain ⟨q13, rs22, hv22⟩ := hh22
  have x13 : ExtB gr w W13 := ExtB.tr x12 q13
  subst hv22
  refine Qab (.pointer (some ⟨g10, 199, none⟩)) 39 rfl kj kj ?_
  have r10_13 := (ExtB.row q13 r10_12 (Ne.symm (Nat.ne_of_lt (Nat.lt_of_lt_of_le hgr b10))))
  refine Qav g10 _ (cat [ints .u8 (keyV (Qag (s) 32)), #[.int .i64 ((bigN (Qag (Qac (s) 32) 4) : Nat) : Int)], #[.int .i64 ((bigN (Qag (Qac (Qac (s) 32) 4) 1) : Nat) : Int)], ints .u8 (keyV (Qag (Qaj (Qac (Qac (s) 32) 4)) 32)), #[.int .i64 ((bigN (Qag (Qac (Qaj (Qac (Qac (s) 32) 4)) 32) 1) : Nat) : Int)], #[.bool (nUs (Qac (Qac (Qaj (Qac (Qac (s) 32) 4)) 32) 1))], #[.int .i64 (nNm (Qac (Qac (Qaj (Qac (Qac (s) 32) 4)) 32) 1))], ints .u8 (nKy (Qac (Qac (Qaj (Qac (Qac (s) 32) 4)) 32) 1)), ints .u8 (nSg (Qac (Qac (Qaj (Qac (Qac (s) 32) 4)) 32) 1)), ints .u8 (nPa (Qac (Qac (Qaj (Qac (Qac (s) 32) 4)) 32) 1)), #[.slice ax17 xs17.length cx17], ints .u8 (keyV (Qag (QaA (Qac (Qac (Qaj (Qac (Qac (s) 32) 4)) 32) 1)) 32)), #[.int .i64 0], ints .u8 (QaY (Qag (Qac (QaA (Qac (Qac (Qaj (Qac (Qac (s) 32) 4)) 32) 1)) 32) 64))]) 47 r10_13 rfl kj (Qbd 45 _ _ g10 199 47 [ints .u8 (keyV (Qag (s) 32)), #[.int .i64 ((bigN (Qag (Qac (s) 32) 4) : Nat) : Int)], #[.int .i64 ((bigN (Qag (Qac (Qac (s) 32) 4) 1) : Nat) : Int)], ints .u8 (keyV (Qag (Qaj (Qac (Qac (s) 32) 4)) 32)), #[.int .i64 ((bigN (Qag (Qac (Qaj (Qac (Qac (s) 32) 4)) 32) 1) : Nat) : Int)], #[.bool (nUs (Qac (Qac (Qaj (Qac (Qac (s) 32) 4)) 32) 1))], #[.int .i64 (nNm (Qac (Qac (Qaj (Qac (Qac (s) 32) 4)) 32) 1))], ints .u8 (nKy (Qac (Qac (Qaj (Qac (Qac (s) 32) 4)) 32) 1)), ints .u8 (nSg (Qac (Qac (Qaj (Qac (Qac (s) 32) 4)) 32) 1)), ints .u8 (nPa (Qac (Qac (Qaj (Qac (Qac (s) 32) 4)) 32) 1)), #[.slice ax17 xs17.length cx17], ints .u8 (keyV (Qag (QaA (Qac (Qac (Qaj (Qac (Qac (s) 32) 4)) 32) 1)) 32)), #[.int .i64 0]] [ints .u8 (List.replicate 64 0)] [ints .u8 (QaY (Qag (Qac (QaA (Qac (Qac (Qaj (Qac (Qac (s) 32) 4)) 32) 1)) 32) 64))] [] r10_13 rfl kj kj (isz (n := 64) kj ((Qad _ _).trans (Qa6 _ (Qai (Qac (QaA (Qac (Qac (Qaj (Qac (Qac (s) 32) 4)) 32) 1)) 32) 64)))) (by rw [Qaa, Qaa, Qaa, Qaa, Qaa, Qaa, Qaa, Qaa, Qaa, Qaa, Qaa, Qaa, Qaa]; simp only [Array.size_append, cat, ((Qad _ _).trans (Qam _ (Qai (Qaj (Qac (Qac (s) 32) 4)) 32))), ((Qad _ _).trans (Qam _ (Qai (QaA (Qac (Qac (Qaj (Qac (Qac (s) 32) 4)) 32) 1)) 32))), ((Qad _ _).trans (Qam _ (Qai (s) 32))), ((Qad _ _).trans (QaN (Qac (Qac (Qaj (Qac (Qac (s) 32) 4)) 32) 1))), ((Qad _ _).trans (QaM (Qac (Qac (Qaj (Qac (Qac (s) 32) 4)) 32) 1))), ((Qad _ _).trans (QaL (Qac (Qac (Qaj (Qac (Qac (s) 32) 4)) 32) 1)))]; rfl) (eqsz (n := 64) ((Qad _ _).trans (Qa6 _ (Qai (Qac (QaA (Qac (Qac (Qaj (Qac (Qac (s) 32) 4)) 32) 1)) 32) 64))) ((Qad _ _).trans (List.length_replicate (n := 64)))) (Qan _ _)) fun W14 p14 r10_14 => ?_
  have x14 : ExtB gr w W14 := ExtB.putsN x13 p14 b10
  refine Qaf ?_
  refine hK20 _ _ ?_
  refine wp_seq_k fun K23 hK23 => ?_
  refine Qae ?_
  refine Qab (.agg (cat [ints .u8 (keyV (Qag (s) 32)), #[.int .i64 ((bigN (Qag (Qac (s) 32) 4) : Nat) : Int)], #[.int .i64 ((bigN (Qag (Qac (Qac (s) 32) 4) 1) : Nat) : Int)], ints .u8 (keyV (Qag (Qaj (Qac (Qac (s) 32) 4)) 32)), #[.int .i64 ((bigN (Qag (Qac (Qaj (Qac (Qac (s) 32) 4)) 32) 1) : Nat) : Int)], #[.bool (nUs (Qac (Qac (Qaj (Qac (Qac (s) 32) 4)) 32) 1))], #[.int .i64 (nNm (Qac (Qac (Qaj (Qac (Qac (s) 32) 4)) 32) 1))], ints .u8 (nKy (Qac (Qac (Qaj (Qac (Qac (s) 32) 4)) 32) 1)), ints .u8 (nSg (Qac (Qac (Qaj (Qac (Qac (s) 32) 4)) 32) 1)), ints .u8 (nPa (Qac (Qac (Qaj (Qac (Qac (s) 32) 4)) 32) 1)), #[.slice ax17 xs17.length cx17], ints .u8 (keyV (Qag (QaA (Qac (Qac (Qaj (Qac (Qac (s) 32) 4)) 32) 1)) 32)), #[.int .i64 0], ints .u8 (QaY (Qag (Qac (QaA (Qac (Qac (Qaj (Qac (Qac (s) 32) 4)) 32) 1)) 32) 64))])) 40 rfl kj (Qaz 47 _ g10 47 _ _ r10_14 rfl kj kj (isz (n := 263) kj (by rw [Qaa, Qaa, Qaa, Qaa, Qaa, Qaa, Qaa, Qaa, Qaa, Qaa, Qaa, Qaa, Qaa, Qaa]; simp only [Array.size_append, cat, ((Qad _ _).trans (Qam _ (Qai (Qaj (Qac (Qac (s) 32) 4)) 32))), ((Qad _ _).trans (Qam _ (Qai (QaA (Qac (Qac (Qaj (Qac (Qac (s) 32) 4)) 32) 1)) 32))), ((Qad _ _).trans (Qam _ (Qai (s) 32))), ((Qad _ _).trans (QaN (Qac (Qac (Qaj (Qac (Qac (s) 32) 4)) 32) 1))), ((Qad _ _).trans (QaM (Qac (Qac (Qaj (Qac (Qac (s) 32) 4)) 32) 1))), ((Qad _ _).trans (QaL (Qac (Qac (Qaj (Qac (Qac (s) 32) 4)) 32) 1))), ((Qad _ _).trans (Qa6 _ (Qai (Qac (QaA (Qac (Qac (Qaj (Qac (Qac (s) 32) 4)) 32) 1)) 32) 64)))]; rfl))) ?_
  have r2_2 := (ExtB.row q2 r2_1 (Ne.symm (Nat.ne_of_lt (Nat.lt_of_lt_of_le hgr b2))))
  have r2_3 := (ExtB.row q3 r2_2 (Ne.symm (Nat.ne_of_lt (Nat.lt_of_lt_of_le hgr b2))))
  have r2_4 := (ExtB.row q4 r2_3 (Ne.symm (Nat.ne_of_lt (Nat.lt_of_lt_of_le hgr b2))))
  have r2_5 := (ExtB.row q5 r2_4 (Ne.symm (Nat.ne_of_lt (Nat.lt_of_lt_of_le hgr b2))))
  have r2_6 := (ExtB.row q6 r2_5 (Ne.symm (Nat.ne_of_lt (Nat.lt_of_lt_of_le hgr b2))))
  have r2_7 := (Qau r2_6 e7)
  have r2_8 := (Puts.row p8 r2_7 (Qa2 r2_6 l10))
  have r2_9 := (ExtB.row q9 r2_8 (Ne.symm (Nat.ne_of_lt (Nat.lt_of_lt_of_le hgr b2))))
  have r2_10 := (Puts.row p10 r2_9 (Qa2 r2_6 l10))
  have r2_11 := (ExtB.row q11 r2_10 (Ne.symm (Nat.ne_of_lt (Nat.lt_of_lt_of_le hgr b2))))
  have r2_12 := (Puts.row p12 r2_11 (Qa2 r2_6 l10))
  have r2_13 := (ExtB.row q13 r2_12 (Ne.symm (Nat.ne_of_lt (Nat.lt_of_lt_of_le hgr b2))))
  have r2_14 := (Puts.row p14 r2_13 (Qa2 r2_6 l10))
  refine Qav g2 _ (cat [ints .u8 (keyV (Qag (s) 32)), #[.int .i64 ((bigN (Qag (Qac (s) 32) 4) : Nat) : Int)], #[.int .i64 ((bigN (Qag (Qac (Qac (s) 32) 4) 1) : Nat) : Int)], ints .u8 (keyV (Qag (Qaj (Qac (Qac (s) 32) 4)) 32)), #[.int .i64 ((bigN (Qag (Qac (Qaj (Qac (Qac (s) 32) 4)) 32) 1) : Nat) : Int)], #[.bool (nUs (Qac (Qac (Qaj (Qac (Qac (s) 32) 4)) 32) 1))], #[.int .i64 (nNm (Qac (Qac (Qaj (Qac (Qac (s) 32) 4)) 32) 1))], ints .u8 (nKy (Qac (Qac (Qaj (Qac (Qac (s) 32) 4)) 32) 1)), ints .u8 (nSg (Qac (Qac (Qaj (Qac (Qac (s) 32) 4)) 32) 1)), ints .u8 (nPa (Qac (Qac (Qaj (Qac (Qac (s) 32) 4)) 32) 1)), #[.slice ax17 xs17.length cx17], ints .u8 (keyV (Qag (QaA (Qac (Qac (Qaj (Qac (Qac (s) 32) 4)) 32) 1)) 32)), #[.int .i64 0], ints .u8 (QaY (Qag (Qac (QaA (Qac (Qac (Qaj (Qac (Qac (s) 32) 4)) 32) 1)) 32) 64))]) 47 r2_14 rfl kj (Qat 47 _ _ g2 47 _ _ r2_14 rfl kj kj (isz (n := 263) kj (by rw [Qaa, Qaa, Qaa, Qaa, Qaa, Qaa, Qaa, Qaa, Qaa, Qaa, Qaa, Qaa, Qaa, Qaa]; simp only [Array.size_append, cat, ((Qad _ _).trans (Qam _ (Qai (Qaj (Qac (Qac (s) 32) 4)) 32))), ((Qad _ _).trans (Qam _ (Qai (QaA (Qac (Qac (Qaj (Qac (Qac (s) 32) 4)) 32) 1)) 32))), ((Qad _ _).trans (Qam _ (Qai (s) 32))), ((Qad _ _).trans (QaN (Qac (Qac (Qaj (Qac (Qac (s) 32) 4)) 32) 1))), ((Qad _ _).trans (QaM (Qac (Qac (Qaj (Qac (Qac (s) 32) 4)) 32) 1))), ((Qad _ _).trans (QaL (Qac (Qac (Qaj (Qac (Qac (s) 32) 4)) 32) 1))), ((Qad _ _).trans (Qa6 _ (Qai (Qac (QaA (Qac (Qac (Qaj (Qac (Qac (s) 32) 4)) 32) 1)) 32) 64)))]; rfl)) (eqsz (n := 263) (by rw [Qaa, Qaa, Qaa, Qaa, Qaa, Qaa, Qaa, Qaa, Qaa, Qaa, Qaa, Qaa, Qaa, Qaa]; simp only [Array.size_append, cat, ((Qad _ _).trans (List.length_replicate (n := 32))), ((Qad _ _).trans (List.length_replicate (n := 64)))]; rfl) (by rw [Qaa, Qaa, Qaa, Qaa, Qaa, Qaa, Qaa, Qaa, Qaa, Qaa, Qaa, Qaa, Qaa, Qaa]; simp only [Array.size_append, cat, ((Qad _ _).trans (Qam _ (Qai (Qaj (Qac (Qac (s) 32) 4)) 32))), ((Qad _ _).trans (Qam _ (Qai (QaA (Qac (Qac (Qaj (Qac (Qac (s) 32) 4)) 32) 1)) 32))), ((Qad _ _).trans (Qam _ (Qai (s) 32))), ((Qad _ _).trans (QaN (Qac (Qac (Qaj (Qac (Qac (s) 32) 4)) 32) 1))), ((Qad _ _).trans (QaM (Qac (Qac (Qaj (Qac (Qac (s) 32) 4)) 32) 1))), ((Qad _ _).trans (QaL (Qac (Qac (Qaj (Qac (Qac (s) 32) 4)) 32) 1))), ((Qad _ _).trans (Qa6 _ (Qai (Qac (QaA (Qac (Qac (Qaj (Qac (Qac (s) 32) 4)) 32) 1)) 32) 64)))]; rfl)) (QaC _ (by intro a ha; simp only [List.mem_cons, List.not_mem_nil, or_false] at ha; rcases ha with rfl | rfl | rfl | rfl | rfl | rfl | rfl | rfl | rfl | rfl | rfl | rfl | rfl | rfl; exact (Qan _ _); exact (Qak _ rfl); exact (Qak _ rfl); exact (Qan _ _); exact (Qak _ rfl); exact (Qak _ rfl); exact (Qak _ rfl); exact (Qan _ _); exact (Qan _ _); exact (Qan _ _); exact (Qak _ rfl); exact (Qan _ _); exact (Qak _ rfl); exact (Qan _ _)))) fun W15 p15 r2_15 => ?_
  have x15 : ExtB gr w W15 := ExtB.putsN x14 p15 b2
  refine Qaf ?_
  refine hK23 _ _ ?_
  refine wp_ret ?_
  repeat (first | with_reducible refine goR1 ?_ | with_reducible refine goR2 ?_)
  have f24_10 := (hox17.puts p10 (Qbf hox17 (Qa5 r10_8)))
  have f25_11 := (Qbe f24_10 q11 (Qbf f24_10 (Nat.lt_of_lt_of_le hgr x8.2.2.2.1)))
  have f26_12 := (f25_11.puts p12 (Qbf hox17 (Qa5 r10_8)))
  have f27_13 := (Qbe f26_12 q13 (Qbf f26_12 (Nat.lt_of_lt_of_le hgr x8.2.2.2.1)))
  have f28_14 := (f27_13.puts p14 (Qbf hox17 (Qa5 r10_8)))
  have f29_15 := (f28_14.puts p15 (Qbf hox17 (Qa5 r2_8)))
  have rs30 := (RSt.put (RSt.put rs22 hB p14 (Nat.lt_of_lt_of_le hgr b10)) hB p15 (Nat.lt_of_lt_of_le hgr b2))
  exact (show bodyPost _ _ _ .ret _ _ from ret1 (.agg (cat [ints .u8 (keyV (Qag (s) 32)), #[.int .i64 ((bigN (Qag (Qac (s) 32) 4) : Nat) : Int)], #[.int .i64 ((bigN (Qag (Qac (Qac (s) 32) 4) 1) : Nat) : Int)], ints .u8 (keyV (Qag (Qaj (Qac (Qac (s) 32) 4)) 32)), #[.int .i64 ((bigN (Qag (Qac (Qaj (Qac (Qac (s) 32) 4)) 32) 1) : Nat) : Int)], #[.bool (nUs (Qac (Qac (Qaj (Qac (Qac (s) 32) 4)) 32) 1))], #[.int .i64 (nNm (Qac (Qac (Qaj (Qac (Qac (s) 32) 4)) 32) 1))], ints .u8 (nKy (Qac (Qac (Qaj (Qac (Qac (s) 32) 4)) 32) 1)), ints .u8 (nSg (Qac (Qac (Qaj (Qac (Qac (s) 32) 4)) 32) 1)), ints .u8 (nPa (Qac (Qac (Qaj (Qac (Qac (s) 32) 4)) 32) 1)), #[.slice ax17 xs17.length cx17], ints .u8 (keyV (Qag (QaA (Qac (Qac (Qaj (Qac (Qac (s) 32) 4)) 32) 1)) 32)), #[.int .i64 0], ints .u8 (QaY (Qag (Qac (QaA (Qac (Qac (Qaj (Qac (Qac (s) 32) 4)) 32) 1)) 32) 64))])) rfl (QaR g2 47 _ r2_15 kj kj (isz (n := 263) kj (by rw [Qaa, Qaa, Qaa, Qaa, Qaa, Qaa, Qaa, Qaa, Qaa, Qaa, Qaa, Qaa, Qaa, Qaa]; simp only [Array.size_append, cat, ((Qad _ _).trans (Qam _ (Qai (Qaj (Qac (Qac (s) 32) 4)) 32))), ((Qad _ _).trans (Qam _ (Qai (QaA (Qac (Qac (Qaj (Qac (Qac (s) 32) 4)) 32) 1)) 32))), ((Qad _ _).trans (Qam _ (Qai (s) 32))), ((Qad _ _).trans (QaN (Qac (Qac (Qaj (Qac (Qac (s) 32) 4)) 32) 1))), ((Qad _ _).trans (QaM (Qac (Qac (Qaj (Qac (Qac (s) 32) 4)) 32) 1))), ((Qad _ _).trans (QaL (Qac (Qac (Qaj (Qac (Qac (s) 32) 4)) 32) 1))), ((Qad _ _).trans (Qa6 _ (Qai (Qac (QaA (Qac (Qac (Qaj (Qac (Qac (s) 32) 4)) 32) 1)) 32) 64)))]; rfl))) ⟨_, rfl, x15, (show RSt B gr (Qaw s) _ by have h9 := rs30; unfold Qaw; rw [eM]; exact h9), xs17, _, _, by rw [eUs, eNm, eKy, eSg, ePa, eSt, eAt]; unfold qSig; rw [eM]; rfl, OwnN.base x8.2.2.2.1 f29_15, hlx17, fun hne => by rw [eL]; exact hxx17 (fun h0 => hne (by have h1 : QaA (qS5 s) = none := h0; unfold Qaw; rw [eM, h1]; rfl))⟩)
set_option maxHeartbeats 4000000 in
set_option maxRecDepth 100000 in
theorem QgR (B gr : Nat) (s : Option (List Int)) (w : World) (hB : B ≤ gr) (h : RSt B gr s w) (hk : bigN (Qag (qS4 s) 1) = 2) : Calls Try.prog 61 #[.pointer (some ⟨gr, 0, none⟩)] w (Qbj B gr w (Qaw s) fun v W => ∃ (xz : List Int) (a : Option Addr) (c : Nat), v = .agg (cat [ints .u8 (qGrp s), #[.int .i64 (qEp s)], #[.int .i64 (qFr s)], ints .u8 (qBa s), #[.int .i64 ((qKd s : Nat) : Int)], #[.bool (qUs s)], #[.int .i64 (qNm s)], ints .u8 (qKy s), ints .u8 (qSg s), ints .u8 (qPa s), #[.slice a xz.length c], ints .u8 (qSt s), #[.int .i64 (qAt s)], ints .u8 (qSig s)]) ∧ OwnN .i64 3 w.heap.size xz (.slice a xz.length c) W ∧ xz.length ≤ 255 ∧ (Qaw s ≠ none → xz = qL s)) := by
  have hgr := h.lt
  have hk2 : bigN (Qag (Qac (Qaj (Qac (Qac s 32) 4)) 32) 1) = qKd s := rfl
  unfold qKd at hk2
  have hk0 : qKd s = bigN (Qag (qS4 s) 1) := rfl
  have k1 : (qKd s == 1) = false := beq_eq_false_iff_ne.2 (show qKd s ≠ 1 by omega)
  have k2 : (qKd s == 2) = true := beq_iff_eq.2 (show qKd s = 2 by omega)
  have k3 : (qKd s == 3) = false := beq_eq_false_iff_ne.2 (show qKd s ≠ 3 by omega)
  have kn : qNd s = true := by unfold qNd; rw [k1, k2]; rfl
  have eUs : qUs s = nUs (qS5 s) := by unfold qUs; rw [kn]; rfl
  have eNm : qNm s = nNm (qS5 s) := by unfold qNm; rw [kn]; rfl
  have eKy : qKy s = nKy (qS5 s) := by unfold qKy; rw [kn]; rfl
  have eSg : qSg s = nSg (qS5 s) := by unfold qSg; rw [kn]; rfl
  have ePa : qPa s = nPa (qS5 s) := by unfold qPa; rw [kn]; rfl
  have eL : qL s = nL (qS5 s) := by unfold qL; rw [kn]; rfl
  have eSt : qSt s = List.replicate 32 0 := by unfold qSt; rw [k1]; rfl
  have eAt : qAt s = 0 := by unfold qAt; rw [k3]; rfl
  have eM : Qb8 s = QaA (qS5 s) := by unfold Qb8; rw [k1, k2, k3]; rfl
  refine enter 41 [(0, .pointer (some ⟨gr, 0, none⟩))] Try.func61 rfl rfl kj rfl ?_
  refine wp_seq_k fun K1 hK1 => ?_
  refine Qae ?_
  refine Qar (cat [ints .u8 (List.replicate 32 0), #[.int .i64 0], #[.int .i64 0], ints .u8 (List.replicate 32 0), #[.int .i64 0], #[.bool false], #[.int .i64 0], ints .u8 (List.replicate 32 0), ints .u8 (List.replicate 32 0), ints .u8 (List.replicate 32 0), #[.slice none 0 0], ints .u8 (List.replicate 32 0), #[.int .i64 0], ints .u8 (List.replicate 64 0)]) 47 2 rfl kj (QaG 47 _ rfl (QbD _)) fun g2 W1 l2 e1 r2_1 => ?_
  have x1 : ExtB gr w W1 := ExtB.ext (ExtB.refl gr w) e1
  have b2 : w.heap.size ≤ g2 := Nat.le_trans (ExtB.refl gr w).size l2
  refine Qaf ?_
  refine hK1 _ _ ?_
  refine wp_seq_k fun K3 hK3 => ?_
  refine Qae ?_
  refine Qab (.pointer (some ⟨gr, 0, none⟩)) 4 rfl kj kj ?_
  have rs4 := (RSt.ext h hB e1)
  refine Qah (fun v W' => ExtB gr W1 W' ∧ RSt B gr (Qac (s) 32) W' ∧ (fun (v : Value) (_ : World) => v = .agg (ints .u8 (keyV (Qag (s) 32)))) v W') 109 #[.pointer (some ⟨gr, 0, none⟩)] 5 rfl kj kj (Qb7 B gr _ _ hB rs4) fun vv5 W2 hh5 => ?_
  obtain ⟨q2, rs5, hv5⟩ := hh5
  have x2 : ExtB gr w W2 := ExtB.tr x1 q2
  subst hv5
  refine Qab (.pointer (some ⟨gr, 0, none⟩)) 6 rfl kj kj ?_
  refine Qah (fun v W' => ExtB gr W2 W' ∧ RSt B gr (Qac (Qac (s) 32) 4) W' ∧ (fun (v : Value) (_ : World) => v = .int .i64 ((bigN (Qag (Qac (s) 32) 4) : Nat) : Int)) v W') 110 #[.pointer (some ⟨gr, 0, none⟩), .int .i64 4] 7 rfl kj kj (QaQ B gr _ 4 _ hB rs5 (by decide)) fun vv6 W3 hh6 => ?_
  obtain ⟨q3, rs6, hv6⟩ := hh6
  have x3 : ExtB gr w W3 := ExtB.tr x2 q3
  subst hv6
  refine Qab (.pointer (some ⟨gr, 0, none⟩)) 8 rfl kj kj ?_
  refine Qah (fun v W' => ExtB gr W3 W' ∧ RSt B gr (Qaj (Qac (Qac (s) 32) 4)) W' ∧ (fun (v : Value) (_ : World) => v = .int .i64 ((bigN (Qag (Qac (Qac (s) 32) 4) 1) : Nat) : Int)) v W') 111 #[.pointer (some ⟨gr, 0, none⟩)] 9 rfl kj kj (QcF B gr _ _ hB rs6) fun vv7 W4 hh7 => ?_
  obtain ⟨q4, rs7, hv7⟩ := hh7
  have x4 : ExtB gr w W4 := ExtB.tr x3 q4
  subst hv7
  refine Qab (.pointer (some ⟨gr, 0, none⟩)) 10 rfl kj kj ?_
  refine Qah (fun v W' => ExtB gr W4 W' ∧ RSt B gr (Qac (Qaj (Qac (Qac (s) 32) 4)) 32) W' ∧ (fun (v : Value) (_ : World) => v = .agg (ints .u8 (keyV (Qag (Qaj (Qac (Qac (s) 32) 4)) 32)))) v W') 109 #[.pointer (some ⟨gr, 0, none⟩)] 11 rfl kj kj (Qb7 B gr _ _ hB rs7) fun vv8 W5 hh8 => ?_
  obtain ⟨q5, rs8, hv8⟩ := hh8
  have x5 : ExtB gr w W5 := ExtB.tr x4 q5
  subst hv8
  refine Qab (.pointer (some ⟨gr, 0, none⟩)) 12 rfl kj kj ?_
  refine Qah (fun v W' => ExtB gr W5 W' ∧ RSt B gr (Qac (Qac (Qaj (Qac (Qac (s) 32) 4)) 32) 1) W' ∧ (fun (v : Value) (_ : World) => v = .int .i64 ((bigN (Qag (Qac (Qaj (Qac (Qac (s) 32) 4)) 32) 1) : Nat) : Int)) v W') 110 #[.pointer (some ⟨gr, 0, none⟩), .int .i64 1] 13 rfl kj kj (QaQ B gr _ 1 _ hB rs8 (by decide)) fun vv9 W6 hh9 => ?_
  obtain ⟨q6, rs9, hv9⟩ := hh9
  have x6 : ExtB gr w W6 := ExtB.tr x5 q6
  subst hv9
  refine Qab (.agg (cat [ints .u8 (keyV (Qag (s) 32)), #[.int .i64 ((bigN (Qag (Qac (s) 32) 4) : Nat) : Int)], #[.int .i64 ((bigN (Qag (Qac (Qac (s) 32) 4) 1) : Nat) : Int)], ints .u8 (keyV (Qag (Qaj (Qac (Qac (s) 32) 4)) 32)), #[.int .i64 ((bigN (Qag (Qac (Qaj (Qac (Qac (s) 32) 4)) 32) 1) : Nat) : Int)], #[.bool false], #[.int .i64 0], ints .u8 (List.replicate 32 0), ints .u8 (List.replicate 32 0), ints .u8 (List.replicate 32 0), #[.slice none 0 0], ints .u8 (List.replicate 32 0), #[.int .i64 0], ints .u8 (List.replicate 64 0)])) 14 rfl kj (Qb3 47 _ [ints .u8 (List.replicate 32 0), #[.int .i64 0], #[.int .i64 0], ints .u8 (List.replicate 32 0), #[.int .i64 0]] [#[.bool false], #[.int .i64 0], ints .u8 (List.replicate 32 0), ints .u8 (List.replicate 32 0), ints .u8 (List.replicate 32 0), #[.slice none 0 0], ints .u8 (List.replicate 32 0), #[.int .i64 0], ints .u8 (List.replicate 64 0)] #[(0, 32), (32, 1), (33, 1), (34, 32), (66, 1), (67, 99), (166, 32), (198, 1), (199, 64)] [(0, 32, .agg (ints .u8 (keyV (Qag (s) 32))), ints .u8 (keyV (Qag (s) 32))), (1, 1, .int .i64 ((bigN (Qag (Qac (s) 32) 4) : Nat) : Int), #[.int .i64 ((bigN (Qag (Qac (s) 32) 4) : Nat) : Int)]), (2, 1, .int .i64 ((bigN (Qag (Qac (Qac (s) 32) 4) 1) : Nat) : Int), #[.int .i64 ((bigN (Qag (Qac (Qac (s) 32) 4) 1) : Nat) : Int)]), (3, 32, .agg (ints .u8 (keyV (Qag (Qaj (Qac (Qac (s) 32) 4)) 32))), ints .u8 (keyV (Qag (Qaj (Qac (Qac (s) 32) 4)) 32))), (4, 1, .int .i64 ((bigN (Qag (Qac (Qaj (Qac (Qac (s) 32) 4)) 32) 1) : Nat) : Int), #[.int .i64 ((bigN (Qag (Qac (Qaj (Qac (Qac (s) 32) 4)) 32) 1) : Nat) : Int)])] rfl kj ⟨kj, rfl, ((Qad _ _).trans (Qam _ (Qai (s) 32))), kj, rfl, kj, kj, rfl, kj, kj, rfl, ((Qad _ _).trans (Qam _ (Qai (Qaj (Qac (Qac (s) 32) 4)) 32))), kj, rfl, kj, trivial⟩ kj (QbD _) kj kj) ?_
  refine Qar (cat [ints .u8 (List.replicate 32 0), #[.int .i64 0], #[.int .i64 0], ints .u8 (List.replicate 32 0), #[.int .i64 0], #[.bool false], #[.int .i64 0], ints .u8 (List.replicate 32 0), ints .u8 (List.replicate 32 0), ints .u8 (List.replicate 32 0), #[.slice none 0 0], ints .u8 (List.replicate 32 0), #[.int .i64 0], ints .u8 (List.replicate 64 0)]) 47 3 rfl kj (QaG 47 _ rfl (QbD _)) fun g10 W7 l10 e7 r10_7 => ?_
  have x7 : ExtB gr w W7 := ExtB.ext x6 e7
  have b10 : w.heap.size ≤ g10 := Nat.le_trans x6.size l10
  refine Qav g10 _ (cat [ints .u8 (keyV (Qag (s) 32)), #[.int .i64 ((bigN (Qag (Qac (s) 32) 4) : Nat) : Int)], #[.int .i64 ((bigN (Qag (Qac (Qac (s) 32) 4) 1) : Nat) : Int)], ints .u8 (keyV (Qag (Qaj (Qac (Qac (s) 32) 4)) 32)), #[.int .i64 ((bigN (Qag (Qac (Qaj (Qac (Qac (s) 32) 4)) 32) 1) : Nat) : Int)], #[.bool false], #[.int .i64 0], ints .u8 (List.replicate 32 0), ints .u8 (List.replicate 32 0), ints .u8 (List.replicate 32 0), #[.slice none 0 0], ints .u8 (List.replicate 32 0), #[.int .i64 0], ints .u8 (List.replicate 64 0)]) 47 r10_7 rfl kj (Qat 47 _ _ g10 47 _ _ r10_7 rfl kj kj (isz (n := 263) kj (by rw [Qaa, Qaa, Qaa, Qaa, Qaa, Qaa, Qaa, Qaa, Qaa, Qaa, Qaa, Qaa, Qaa, Qaa]; simp only [Array.size_append, cat, ((Qad _ _).trans (List.length_replicate (n := 32))), ((Qad _ _).trans (List.length_replicate (n := 64))), ((Qad _ _).trans (Qam _ (Qai (Qaj (Qac (Qac (s) 32) 4)) 32))), ((Qad _ _).trans (Qam _ (Qai (s) 32)))]; rfl)) (eqsz (n := 263) (by rw [Qaa, Qaa, Qaa, Qaa, Qaa, Qaa, Qaa, Qaa, Qaa, Qaa, Qaa, Qaa, Qaa, Qaa]; simp only [Array.size_append, cat, ((Qad _ _).trans (List.length_replicate (n := 32))), ((Qad _ _).trans (List.length_replicate (n := 64)))]; rfl) (by rw [Qaa, Qaa, Qaa, Qaa, Qaa, Qaa, Qaa, Qaa, Qaa, Qaa, Qaa, Qaa, Qaa, Qaa]; simp only [Array.size_append, cat, ((Qad _ _).trans (List.length_replicate (n := 32))), ((Qad _ _).trans (List.length_replicate (n := 64))), ((Qad _ _).trans (Qam _ (Qai (Qaj (Qac (Qac (s) 32) 4)) 32))), ((Qad _ _).trans (Qam _ (Qai (s) 32)))]; rfl)) (QaC _ (by intro a ha; simp only [List.mem_cons, List.not_mem_nil, or_false] at ha; rcases ha with rfl | rfl | rfl | rfl | rfl | rfl | rfl | rfl | rfl | rfl | rfl | rfl | rfl | rfl; exact (Qan _ _); exact (Qak _ rfl); exact (Qak _ rfl); exact (Qan _ _); exact (Qak _ rfl); exact (Qak _ rfl); exact (Qak _ rfl); exact (Qan _ _); exact (Qan _ _); exact (Qan _ _); exact (Qak _ rfl); exact (Qan _ _); exact (Qak _ rfl); exact (Qan _ _)))) fun W8 p8 r10_8 => ?_
  have x8 : ExtB gr w W8 := ExtB.putsN x7 p8 b10
  refine Qaf ?_
  refine hK3 _ _ ?_
  refine wp_seq_k fun K11 hK11 => ?_
  refine wp_seq_k fun K12 hK12 => ?_
  refine Qae ?_
  refine Qab (.pointer (some ⟨g10, 66, none⟩)) 15 rfl kj kj ?_
  refine Qab (.int .i64 ((bigN (Qag (Qac (Qaj (Qac (Qac (s) 32) 4)) 32) 1) : Nat) : Int)) 16 rfl kj (Qal 3 _ g10 66 47 _ (.int .i64 ((bigN (Qag (Qac (Qaj (Qac (Qac (s) 32) 4)) 32) 1) : Nat) : Int)) _ r10_8 rfl kj (Qaq [ints .u8 (keyV (Qag (s) 32)), #[.int .i64 ((bigN (Qag (Qac (s) 32) 4) : Nat) : Int)], #[.int .i64 ((bigN (Qag (Qac (Qac (s) 32) 4) 1) : Nat) : Int)], ints .u8 (keyV (Qag (Qaj (Qac (Qac (s) 32) 4)) 32))] [#[.int .i64 ((bigN (Qag (Qac (Qaj (Qac (Qac (s) 32) 4)) 32) 1) : Nat) : Int)]] [#[.bool false], #[.int .i64 0], ints .u8 (List.replicate 32 0), ints .u8 (List.replicate 32 0), ints .u8 (List.replicate 32 0), #[.slice none 0 0], ints .u8 (List.replicate 32 0), #[.int .i64 0], ints .u8 (List.replicate 64 0)] 66 (by rw [Qaa, Qaa, Qaa, Qaa]; simp only [Array.size_append, cat, ((Qad _ _).trans (Qam _ (Qai (Qaj (Qac (Qac (s) 32) 4)) 32))), ((Qad _ _).trans (Qam _ (Qai (s) 32)))]; rfl) 0 _ rfl) kj) ?_
  refine Qaf ?_
  refine hK12 _ _ ?_
  refine wp_block ?_
  refine wp_seq_k fun K13 hK13 => ?_
  refine Qae ?_
  refine Qab (.bool false) 20 rfl kj (Qa0 (u := .bool ((((bigN (Qag (Qac (Qaj (Qac (Qac (s) 32) 4)) 32) 1) : Nat) : Int) == 1))) kj (congrArg Value.bool (beq_eq_false_iff_ne.2 (by omega)))) ?_
  refine Qab (.bool false) 19 rfl kj kj ?_
  refine Qaf ?_
  refine hK13 _ _ ?_
  refine cond_false kj ?_
  refine wp_seq_k fun K14 hK14 => ?_
  refine Qae ?_
  refine Qab (.bool true) 28 rfl kj (Qa0 (u := .bool ((((bigN (Qag (Qac (Qaj (Qac (Qac (s) 32) 4)) 32) 1) : Nat) : Int) == 2))) kj (congrArg Value.bool (beq_iff_eq.2 (by omega)))) ?_
  refine Qab (.bool true) 27 rfl kj kj ?_
  refine Qaf ?_
  refine hK14 _ _ ?_
  refine cond_true kj ?_
  refine Qae ?_
  refine Qab (.pointer (some ⟨gr, 0, none⟩)) 29 rfl kj kj ?_
  have rs15 := (RSt.put (RSt.ext rs9 hB e7) hB p8 (Nat.lt_of_lt_of_le hgr b10))
  refine Qah (fun v W' => ExtB gr W8 W' ∧ RSt B gr (QaA (Qac (Qac (Qaj (Qac (Qac (s) 32) 4)) 32) 1)) W' ∧ (fun (v : Value) (W : World) => ∃ (xz : List Int) (a : Option Addr) (c : Nat), v = .agg (cat [#[.bool (nUs (Qac (Qac (Qaj (Qac (Qac (s) 32) 4)) 32) 1))], #[.int .i64 (nNm (Qac (Qac (Qaj (Qac (Qac (s) 32) 4)) 32) 1))], ints .u8 (nKy (Qac (Qac (Qaj (Qac (Qac (s) 32) 4)) 32) 1)), ints .u8 (nSg (Qac (Qac (Qaj (Qac (Qac (s) 32) 4)) 32) 1)), ints .u8 (nPa (Qac (Qac (Qaj (Qac (Qac (s) 32) 4)) 32) 1)), #[.slice a xz.length c]]) ∧ OwnN .i64 3 W8.heap.size xz (.slice a xz.length c) W ∧ xz.length ≤ 255 ∧ (QaA (Qac (Qac (Qaj (Qac (Qac (s) 32) 4)) 32) 1) ≠ none → xz = nL (Qac (Qac (Qaj (Qac (Qac (s) 32) 4)) 32) 1))) v W') 102 #[.pointer (some ⟨gr, 0, none⟩)] 30 rfl kj kj (Qf3 B gr _ _ hB rs15) fun vv16 W9 hh16 => ?_
  obtain ⟨q9, rs16, hv16⟩ := hh16
  have x9 : ExtB gr w W9 := ExtB.tr x8 q9
  obtain ⟨xs17, ax17, cx17, rfl, hox17, hlx17, hxx17⟩ := hv16
  refine Qab (.pointer (some ⟨g10, 67, none⟩)) 31 rfl kj kj ?_
  have r10_9 := (ExtB.row q9 r10_8 (Ne.symm (Nat.ne_of_lt (Nat.lt_of_lt_of_le hgr b10))))
  refine Qav g10 _ (cat [ints .u8 (keyV (Qag (s) 32)), #[.int .i64 ((bigN (Qag (Qac (s) 32) 4) : Nat) : Int)], #[.int .i64 ((bigN (Qag (Qac (Qac (s) 32) 4) 1) : Nat) : Int)], ints .u8 (keyV (Qag (Qaj (Qac (Qac (s) 32) 4)) 32)), #[.int .i64 ((bigN (Qag (Qac (Qaj (Qac (Qac (s) 32) 4)) 32) 1) : Nat) : Int)], #[.bool (nUs (Qac (Qac (Qaj (Qac (Qac (s) 32) 4)) 32) 1))], #[.int .i64 (nNm (Qac (Qac (Qaj (Qac (Qac (s) 32) 4)) 32) 1))], ints .u8 (nKy (Qac (Qac (Qaj (Qac (Qac (s) 32) 4)) 32) 1)), ints .u8 (nSg (Qac (Qac (Qaj (Qac (Qac (s) 32) 4)) 32) 1)), ints .u8 (nPa (Qac (Qac (Qaj (Qac (Qac (s) 32) 4)) 32) 1)), #[.slice ax17 xs17.length cx17], ints .u8 (List.replicate 32 0), #[.int .i64 0], ints .u8 (List.replicate 64 0)]) 47 r10_9 rfl kj (Qbd 43 _ _ g10 67 47 [ints .u8 (keyV (Qag (s) 32)), #[.int .i64 ((bigN (Qag (Qac (s) 32) 4) : Nat) : Int)], #[.int .i64 ((bigN (Qag (Qac (Qac (s) 32) 4) 1) : Nat) : Int)], ints .u8 (keyV (Qag (Qaj (Qac (Qac (s) 32) 4)) 32)), #[.int .i64 ((bigN (Qag (Qac (Qaj (Qac (Qac (s) 32) 4)) 32) 1) : Nat) : Int)]] [#[.bool false], #[.int .i64 0], ints .u8 (List.replicate 32 0), ints .u8 (List.replicate 32 0), ints .u8 (List.replicate 32 0), #[.slice none 0 0]] [#[.bool (nUs (Qac (Qac (Qaj (Qac (Qac (s) 32) 4)) 32) 1))], #[.int .i64 (nNm (Qac (Qac (Qaj (Qac (Qac (s) 32) 4)) 32) 1))], ints .u8 (nKy (Qac (Qac (Qaj (Qac (Qac (s) 32) 4)) 32) 1)), ints .u8 (nSg (Qac (Qac (Qaj (Qac (Qac (s) 32) 4)) 32) 1)), ints .u8 (nPa (Qac (Qac (Qaj (Qac (Qac (s) 32) 4)) 32) 1)), #[.slice ax17 xs17.length cx17]] [ints .u8 (List.replicate 32 0), #[.int .i64 0], ints .u8 (List.replicate 64 0)] r10_9 rfl kj kj (isz (n := 99) kj (by rw [Qaa, Qaa, Qaa, Qaa, Qaa, Qaa]; simp only [Array.size_append, cat, ((Qad _ _).trans (QaN (Qac (Qac (Qaj (Qac (Qac (s) 32) 4)) 32) 1))), ((Qad _ _).trans (QaM (Qac (Qac (Qaj (Qac (Qac (s) 32) 4)) 32) 1))), ((Qad _ _).trans (QaL (Qac (Qac (Qaj (Qac (Qac (s) 32) 4)) 32) 1)))]; rfl)) (by rw [Qaa, Qaa, Qaa, Qaa, Qaa]; simp only [Array.size_append, cat, ((Qad _ _).trans (Qam _ (Qai (Qaj (Qac (Qac (s) 32) 4)) 32))), ((Qad _ _).trans (Qam _ (Qai (s) 32)))]; rfl) (eqsz (n := 99) (by rw [Qaa, Qaa, Qaa, Qaa, Qaa, Qaa]; simp only [Array.size_append, cat, ((Qad _ _).trans (QaN (Qac (Qac (Qaj (Qac (Qac (s) 32) 4)) 32) 1))), ((Qad _ _).trans (QaM (Qac (Qac (Qaj (Qac (Qac (s) 32) 4)) 32) 1))), ((Qad _ _).trans (QaL (Qac (Qac (Qaj (Qac (Qac (s) 32) 4)) 32) 1)))]; rfl) (by rw [Qaa, Qaa, Qaa, Qaa, Qaa, Qaa]; simp only [Array.size_append, cat, ((Qad _ _).trans (List.length_replicate (n := 32)))]; rfl)) (QaC _ (by intro a ha; simp only [List.mem_cons, List.not_mem_nil, or_false] at ha; rcases ha with rfl | rfl | rfl | rfl | rfl | rfl; exact (Qak _ rfl); exact (Qak _ rfl); exact (Qan _ _); exact (Qan _ _); exact (Qan _ _); exact (Qak _ rfl)))) fun W10 p10 r10_10 => ?_
  have x10 : ExtB gr w W10 := ExtB.putsN x9 p10 b10
  refine Qaf ?_
  refine hK11 _ _ ?_
  refine wp_seq_k fun K18 hK18 => ?_
  refine Qae ?_
  refine Qab (.pointer (some ⟨gr, 0, none⟩)) 37 rfl kj kj ?_
  have rs19 := (RSt.put rs16 hB p10 (Nat.lt_of_lt_of_le hgr b10))
  refine Qah (fun v W' => ExtB gr W10 W' ∧ RSt B gr (Qac (QaA (Qac (Qac (Qaj (Qac (Qac (s) 32) 4)) 32) 1)) 64) W' ∧ (fun (v : Value) (_ : World) => v = .agg (ints .u8 (QaY (Qag (QaA (Qac (Qac (Qaj (Qac (Qac (s) 32) 4)) 32) 1)) 64)))) v W') 112 #[.pointer (some ⟨gr, 0, none⟩)] 38 rfl kj kj (QdX B gr _ _ hB rs19) fun vv20 W11 hh20 => ?_
  obtain ⟨q11, rs20, hv20⟩ := hh20
  have x11 : ExtB gr w W11 := ExtB.tr x10 q11
  subst hv20
  refine Qab (.pointer (some ⟨g10, 199, none⟩)) 39 rfl kj kj ?_
  have r10_11 := (ExtB.row q11 r10_10 (Ne.symm (Nat.ne_of_lt (Nat.lt_of_lt_of_le hgr b10))))
  refine Qav g10 _ (cat [ints .u8 (keyV (Qag (s) 32)), #[.int .i64 ((bigN (Qag (Qac (s) 32) 4) : Nat) : Int)], #[.int .i64 ((bigN (Qag (Qac (Qac (s) 32) 4) 1) : Nat) : Int)], ints .u8 (keyV (Qag (Qaj (Qac (Qac (s) 32) 4)) 32)), #[.int .i64 ((bigN (Qag (Qac (Qaj (Qac (Qac (s) 32) 4)) 32) 1) : Nat) : Int)], #[.bool (nUs (Qac (Qac (Qaj (Qac (Qac (s) 32) 4)) 32) 1))], #[.int .i64 (nNm (Qac (Qac (Qaj (Qac (Qac (s) 32) 4)) 32) 1))], ints .u8 (nKy (Qac (Qac (Qaj (Qac (Qac (s) 32) 4)) 32) 1)), ints .u8 (nSg (Qac (Qac (Qaj (Qac (Qac (s) 32) 4)) 32) 1)), ints .u8 (nPa (Qac (Qac (Qaj (Qac (Qac (s) 32) 4)) 32) 1)), #[.slice ax17 xs17.length cx17], ints .u8 (List.replicate 32 0), #[.int .i64 0], ints .u8 (QaY (Qag (QaA (Qac (Qac (Qaj (Qac (Qac (s) 32) 4)) 32) 1)) 64))]) 47 r10_11 rfl kj (Qbd 45 _ _ g10 199 47 [ints .u8 (keyV (Qag (s) 32)), #[.int .i64 ((bigN (Qag (Qac (s) 32) 4) : Nat) : Int)], #[.int .i64 ((bigN (Qag (Qac (Qac (s) 32) 4) 1) : Nat) : Int)], ints .u8 (keyV (Qag (Qaj (Qac (Qac (s) 32) 4)) 32)), #[.int .i64 ((bigN (Qag (Qac (Qaj (Qac (Qac (s) 32) 4)) 32) 1) : Nat) : Int)], #[.bool (nUs (Qac (Qac (Qaj (Qac (Qac (s) 32) 4)) 32) 1))], #[.int .i64 (nNm (Qac (Qac (Qaj (Qac (Qac (s) 32) 4)) 32) 1))], ints .u8 (nKy (Qac (Qac (Qaj (Qac (Qac (s) 32) 4)) 32) 1)), ints .u8 (nSg (Qac (Qac (Qaj (Qac (Qac (s) 32) 4)) 32) 1)), ints .u8 (nPa (Qac (Qac (Qaj (Qac (Qac (s) 32) 4)) 32) 1)), #[.slice ax17 xs17.length cx17], ints .u8 (List.replicate 32 0), #[.int .i64 0]] [ints .u8 (List.replicate 64 0)] [ints .u8 (QaY (Qag (QaA (Qac (Qac (Qaj (Qac (Qac (s) 32) 4)) 32) 1)) 64))] [] r10_11 rfl kj kj (isz (n := 64) kj ((Qad _ _).trans (Qa6 _ (Qai (QaA (Qac (Qac (Qaj (Qac (Qac (s) 32) 4)) 32) 1)) 64)))) (by rw [Qaa, Qaa, Qaa, Qaa, Qaa, Qaa, Qaa, Qaa, Qaa, Qaa, Qaa, Qaa, Qaa]; simp only [Array.size_append, cat, ((Qad _ _).trans (List.length_replicate (n := 32))), ((Qad _ _).trans (Qam _ (Qai (Qaj (Qac (Qac (s) 32) 4)) 32))), ((Qad _ _).trans (Qam _ (Qai (s) 32))), ((Qad _ _).trans (QaN (Qac (Qac (Qaj (Qac (Qac (s) 32) 4)) 32) 1))), ((Qad _ _).trans (QaM (Qac (Qac (Qaj (Qac (Qac (s) 32) 4)) 32) 1))), ((Qad _ _).trans (QaL (Qac (Qac (Qaj (Qac (Qac (s) 32) 4)) 32) 1)))]; rfl) (eqsz (n := 64) ((Qad _ _).trans (Qa6 _ (Qai (QaA (Qac (Qac (Qaj (Qac (Qac (s) 32) 4)) 32) 1)) 64))) ((Qad _ _).trans (List.length_replicate (n := 64)))) (Qan _ _)) fun W12 p12 r10_12 => ?_
  have x12 : ExtB gr w W12 := ExtB.putsN x11 p12 b10
  refine Qaf ?_
  refine hK18 _ _ ?_
  refine wp_seq_k fun K21 hK21 => ?_
  refine Qae ?_
  refine Qab (.agg (cat [ints .u8 (keyV (Qag (s) 32)), #[.int .i64 ((bigN (Qag (Qac (s) 32) 4) : Nat) : Int)], #[.int .i64 ((bigN (Qag (Qac (Qac (s) 32) 4) 1) : Nat) : Int)], ints .u8 (keyV (Qag (Qaj (Qac (Qac (s) 32) 4)) 32)), #[.int .i64 ((bigN (Qag (Qac (Qaj (Qac (Qac (s) 32) 4)) 32) 1) : Nat) : Int)], #[.bool (nUs (Qac (Qac (Qaj (Qac (Qac (s) 32) 4)) 32) 1))], #[.int .i64 (nNm (Qac (Qac (Qaj (Qac (Qac (s) 32) 4)) 32) 1))], ints .u8 (nKy (Qac (Qac (Qaj (Qac (Qac (s) 32) 4)) 32) 1)), ints .u8 (nSg (Qac (Qac (Qaj (Qac (Qac (s) 32) 4)) 32) 1)), ints .u8 (nPa (Qac (Qac (Qaj (Qac (Qac (s) 32) 4)) 32) 1)), #[.slice ax17 xs17.length cx17], ints .u8 (List.replicate 32 0), #[.int .i64 0], ints .u8 (QaY (Qag (QaA (Qac (Qac (Qaj (Qac (Qac (s) 32) 4)) 32) 1)) 64))])) 40 rfl kj (Qaz 47 _ g10 47 _ _ r10_12 rfl kj kj (isz (n := 263) kj (by rw [Qaa, Qaa, Qaa, Qaa, Qaa, Qaa, Qaa, Qaa, Qaa, Qaa, Qaa, Qaa, Qaa, Qaa]; simp only [Array.size_append, cat, ((Qad _ _).trans (List.length_replicate (n := 32))), ((Qad _ _).trans (Qam _ (Qai (Qaj (Qac (Qac (s) 32) 4)) 32))), ((Qad _ _).trans (Qam _ (Qai (s) 32))), ((Qad _ _).trans (QaN (Qac (Qac (Qaj (Qac (Qac (s) 32) 4)) 32) 1))), ((Qad _ _).trans (QaM (Qac (Qac (Qaj (Qac (Qac (s) 32) 4)) 32) 1))), ((Qad _ _).trans (QaL (Qac (Qac (Qaj (Qac (Qac (s) 32) 4)) 32) 1))), ((Qad _ _).trans (Qa6 _ (Qai (QaA (Qac (Qac (Qaj (Qac (Qac (s) 32) 4)) 32) 1)) 64)))]; rfl))) ?_
  have r2_2 := (ExtB.row q2 r2_1 (Ne.symm (Nat.ne_of_lt (Nat.lt_of_lt_of_le hgr b2))))
  have r2_3 := (ExtB.row q3 r2_2 (Ne.symm (Nat.ne_of_lt (Nat.lt_of_lt_of_le hgr b2))))
  have r2_4 := (ExtB.row q4 r2_3 (Ne.symm (Nat.ne_of_lt (Nat.lt_of_lt_of_le hgr b2))))
  have r2_5 := (ExtB.row q5 r2_4 (Ne.symm (Nat.ne_of_lt (Nat.lt_of_lt_of_le hgr b2))))
  have r2_6 := (ExtB.row q6 r2_5 (Ne.symm (Nat.ne_of_lt (Nat.lt_of_lt_of_le hgr b2))))
  have r2_7 := (Qau r2_6 e7)
  have r2_8 := (Puts.row p8 r2_7 (Qa2 r2_6 l10))
  have r2_9 := (ExtB.row q9 r2_8 (Ne.symm (Nat.ne_of_lt (Nat.lt_of_lt_of_le hgr b2))))
  have r2_10 := (Puts.row p10 r2_9 (Qa2 r2_6 l10))
  have r2_11 := (ExtB.row q11 r2_10 (Ne.symm (Nat.ne_of_lt (Nat.lt_of_lt_of_le hgr b2))))
  have r2_12 := (Puts.row p12 r2_11 (Qa2 r2_6 l10))
  refine Qav g2 _ (cat [ints .u8 (keyV (Qag (s) 32)), #[.int .i64 ((bigN (Qag (Qac (s) 32) 4) : Nat) : Int)], #[.int .i64 ((bigN (Qag (Qac (Qac (s) 32) 4) 1) : Nat) : Int)], ints .u8 (keyV (Qag (Qaj (Qac (Qac (s) 32) 4)) 32)), #[.int .i64 ((bigN (Qag (Qac (Qaj (Qac (Qac (s) 32) 4)) 32) 1) : Nat) : Int)], #[.bool (nUs (Qac (Qac (Qaj (Qac (Qac (s) 32) 4)) 32) 1))], #[.int .i64 (nNm (Qac (Qac (Qaj (Qac (Qac (s) 32) 4)) 32) 1))], ints .u8 (nKy (Qac (Qac (Qaj (Qac (Qac (s) 32) 4)) 32) 1)), ints .u8 (nSg (Qac (Qac (Qaj (Qac (Qac (s) 32) 4)) 32) 1)), ints .u8 (nPa (Qac (Qac (Qaj (Qac (Qac (s) 32) 4)) 32) 1)), #[.slice ax17 xs17.length cx17], ints .u8 (List.replicate 32 0), #[.int .i64 0], ints .u8 (QaY (Qag (QaA (Qac (Qac (Qaj (Qac (Qac (s) 32) 4)) 32) 1)) 64))]) 47 r2_12 rfl kj (Qat 47 _ _ g2 47 _ _ r2_12 rfl kj kj (isz (n := 263) kj (by rw [Qaa, Qaa, Qaa, Qaa, Qaa, Qaa, Qaa, Qaa, Qaa, Qaa, Qaa, Qaa, Qaa, Qaa]; simp only [Array.size_append, cat, ((Qad _ _).trans (List.length_replicate (n := 32))), ((Qad _ _).trans (Qam _ (Qai (Qaj (Qac (Qac (s) 32) 4)) 32))), ((Qad _ _).trans (Qam _ (Qai (s) 32))), ((Qad _ _).trans (QaN (Qac (Qac (Qaj (Qac (Qac (s) 32) 4)) 32) 1))), ((Qad _ _).trans (QaM (Qac (Qac (Qaj (Qac (Qac (s) 32) 4)) 32) 1))), ((Qad _ _).trans (QaL (Qac (Qac (Qaj (Qac (Qac (s) 32) 4)) 32) 1))), ((Qad _ _).trans (Qa6 _ (Qai (QaA (Qac (Qac (Qaj (Qac (Qac (s) 32) 4)) 32) 1)) 64)))]; rfl)) (eqsz (n := 263) (by rw [Qaa, Qaa, Qaa, Qaa, Qaa, Qaa, Qaa, Qaa, Qaa, Qaa, Qaa, Qaa, Qaa, Qaa]; simp only [Array.size_append, cat, ((Qad _ _).trans (List.length_replicate (n := 32))), ((Qad _ _).trans (List.length_replicate (n := 64)))]; rfl) (by rw [Qaa, Qaa, Qaa, Qaa, Qaa, Qaa, Qaa, Qaa, Qaa, Qaa, Qaa, Qaa, Qaa, Qaa]; simp only [Array.size_append, cat, ((Qad _ _).trans (List.length_replicate (n := 32))), ((Qad _ _).trans (Qam _ (Qai (Qaj (Qac (Qac (s) 32) 4)) 32))), ((Qad _ _).trans (Qam _ (Qai (s) 32))), ((Qad _ _).trans (QaN (Qac (Qac (Qaj (Qac (Qac (s) 32) 4)) 32) 1))), ((Qad _ _).trans (QaM (Qac (Qac (Qaj (Qac (Qac (s) 32) 4)) 32) 1))), ((Qad _ _).trans (QaL (Qac (Qac (Qaj (Qac (Qac (s) 32) 4)) 32) 1))), ((Qad _ _).trans (Qa6 _ (Qai (QaA (Qac (Qac (Qaj (Qac (Qac (s) 32) 4)) 32) 1)) 64)))]; rfl)) (QaC _ (by intro a ha; simp only [List.mem_cons, List.not_mem_nil, or_false] at ha; rcases ha with rfl | rfl | rfl | rfl | rfl | rfl | rfl | rfl | rfl | rfl | rfl | rfl | rfl | rfl; exact (Qan _ _); exact (Qak _ rfl); exact (Qak _ rfl); exact (Qan _ _); exact (Qak _ rfl); exact (Qak _ rfl); exact (Qak _ rfl); exact (Qan _ _); exact (Qan _ _); exact (Qan _ _); exact (Qak _ rfl); exact (Qan _ _); exact (Qak _ rfl); exact (Qan _ _)))) fun W13 p13 r2_13 => ?_
  have x13 : ExtB gr w W13 := ExtB.putsN x12 p13 b2
  refine Qaf ?_
  refine hK21 _ _ ?_
  refine wp_ret ?_
  repeat (first | with_reducible refine goR1 ?_ | with_reducible refine goR2 ?_)
  have f22_10 := (hox17.puts p10 (Qbf hox17 (Qa5 r10_8)))
  have f23_11 := (Qbe f22_10 q11 (Qbf f22_10 (Nat.lt_of_lt_of_le hgr x8.2.2.2.1)))
  have f24_12 := (f23_11.puts p12 (Qbf hox17 (Qa5 r10_8)))
  have f25_13 := (f24_12.puts p13 (Qbf hox17 (Qa5 r2_8)))
  have rs26 := (RSt.put (RSt.put rs20 hB p12 (Nat.lt_of_lt_of_le hgr b10)) hB p13 (Nat.lt_of_lt_of_le hgr b2))
  exact (show bodyPost _ _ _ .ret _ _ from ret1 (.agg (cat [ints .u8 (keyV (Qag (s) 32)), #[.int .i64 ((bigN (Qag (Qac (s) 32) 4) : Nat) : Int)], #[.int .i64 ((bigN (Qag (Qac (Qac (s) 32) 4) 1) : Nat) : Int)], ints .u8 (keyV (Qag (Qaj (Qac (Qac (s) 32) 4)) 32)), #[.int .i64 ((bigN (Qag (Qac (Qaj (Qac (Qac (s) 32) 4)) 32) 1) : Nat) : Int)], #[.bool (nUs (Qac (Qac (Qaj (Qac (Qac (s) 32) 4)) 32) 1))], #[.int .i64 (nNm (Qac (Qac (Qaj (Qac (Qac (s) 32) 4)) 32) 1))], ints .u8 (nKy (Qac (Qac (Qaj (Qac (Qac (s) 32) 4)) 32) 1)), ints .u8 (nSg (Qac (Qac (Qaj (Qac (Qac (s) 32) 4)) 32) 1)), ints .u8 (nPa (Qac (Qac (Qaj (Qac (Qac (s) 32) 4)) 32) 1)), #[.slice ax17 xs17.length cx17], ints .u8 (List.replicate 32 0), #[.int .i64 0], ints .u8 (QaY (Qag (QaA (Qac (Qac (Qaj (Qac (Qac (s) 32) 4)) 32) 1)) 64))])) rfl (QaR g2 47 _ r2_13 kj kj (isz (n := 263) kj (by rw [Qaa, Qaa, Qaa, Qaa, Qaa, Qaa, Qaa, Qaa, Qaa, Qaa, Qaa, Qaa, Qaa, Qaa]; simp only [Array.size_append, cat, ((Qad _ _).trans (List.length_replicate (n := 32))), ((Qad _ _).trans (Qam _ (Qai (Qaj (Qac (Qac (s) 32) 4)) 32))), ((Qad _ _).trans (Qam _ (Qai (s) 32))), ((Qad _ _).trans (QaN (Qac (Qac (Qaj (Qac (Qac (s) 32) 4)) 32) 1))), ((Qad _ _).trans (QaM (Qac (Qac (Qaj (Qac (Qac (s) 32) 4)) 32) 1))), ((Qad _ _).trans (QaL (Qac (Qac (Qaj (Qac (Qac (s) 32) 4)) 32) 1))), ((Qad _ _).trans (Qa6 _ (Qai (QaA (Qac (Qac (Qaj (Qac (Qac (s) 32) 4)) 32) 1)) 64)))]; rfl))) ⟨_, rfl, x13, (show RSt B gr (Qaw s) _ by have h9 := rs26; unfold Qaw; rw [eM]; exact h9), xs17, _, _, by rw [eUs, eNm, eKy, eSg, ePa, eSt, eAt]; unfold qSig; rw [eM]; rfl, OwnN.base x8.2.2.2.1 f25_13, hlx17, fun hne => by rw [eL]; exact hxx17 (fun h0 => hne (by have h1 : QaA (qS5 s) = none := h0; unfold Qaw; rw [eM, h1]; rfl))⟩)
set_option maxHeartbeats 4000000 in
set_option maxRecDepth 100000 in
theorem QgQ (B gr : Nat) (s : Option (List Int)) (w : World) (hB : B ≤ gr) (h : RSt B gr s w) (hk : bigN (Qag (qS4 s) 1) = 3) : Calls Try.prog 61 #[.pointer (some ⟨gr, 0, none⟩)] w (Qbj B gr w (Qaw s) fun v W => ∃ (xz : List Int) (a : Option Addr) (c : Nat), v = .agg (cat [ints .u8 (qGrp s), #[.int .i64 (qEp s)], #[.int .i64 (qFr s)], ints .u8 (qBa s), #[.int .i64 ((qKd s : Nat) : Int)], #[.bool (qUs s)], #[.int .i64 (qNm s)], ints .u8 (qKy s), ints .u8 (qSg s), ints .u8 (qPa s), #[.slice a xz.length c], ints .u8 (qSt s), #[.int .i64 (qAt s)], ints .u8 (qSig s)]) ∧ OwnN .i64 3 w.heap.size xz (.slice a xz.length c) W ∧ xz.length ≤ 255 ∧ (Qaw s ≠ none → xz = qL s)) := by
  have hgr := h.lt
  have hk2 : bigN (Qag (Qac (Qaj (Qac (Qac s 32) 4)) 32) 1) = qKd s := rfl
  unfold qKd at hk2
  have hk0 : qKd s = bigN (Qag (qS4 s) 1) := rfl
  have k1 : (qKd s == 1) = false := beq_eq_false_iff_ne.2 (show qKd s ≠ 1 by omega)
  have k2 : (qKd s == 2) = false := beq_eq_false_iff_ne.2 (show qKd s ≠ 2 by omega)
  have k3 : (qKd s == 3) = true := beq_iff_eq.2 (show qKd s = 3 by omega)
  have kn : qNd s = false := by unfold qNd; rw [k1, k2]; rfl
  have eUs : qUs s = false := by unfold qUs; rw [kn]; rfl
  have eNm : qNm s = 0 := by unfold qNm; rw [kn]; rfl
  have eKy : qKy s = List.replicate 32 0 := by unfold qKy; rw [kn]; rfl
  have eSg : qSg s = List.replicate 32 0 := by unfold qSg; rw [kn]; rfl
  have ePa : qPa s = List.replicate 32 0 := by unfold qPa; rw [kn]; rfl
  have eL : qL s = [] := by unfold qL; rw [kn]; rfl
  have eSt : qSt s = List.replicate 32 0 := by unfold qSt; rw [k1]; rfl
  have eAt : qAt s = ((bigN (Qag (qS5 s) 1) : Nat) : Int) := by unfold qAt; rw [k3]; rfl
  have eM : Qb8 s = Qaj (qS5 s) := by unfold Qb8; rw [k1, k2, k3]; rfl
  refine enter 41 [(0, .pointer (some ⟨gr, 0, none⟩))] Try.func61 rfl rfl kj rfl ?_
  refine wp_seq_k fun K1 hK1 => ?_
  refine Qae ?_
  refine Qar (cat [ints .u8 (List.replicate 32 0), #[.int .i64 0], #[.int .i64 0], ints .u8 (List.replicate 32 0), #[.int .i64 0], #[.bool false], #[.int .i64 0], ints .u8 (List.replicate 32 0), ints .u8 (List.replicate 32 0), ints .u8 (List.replicate 32 0), #[.slice none 0 0], ints .u8 (List.replicate 32 0), #[.int .i64 0], ints .u8 (List.replicate 64 0)]) 47 2 rfl kj (QaG 47 _ rfl (QbD _)) fun g2 W1 l2 e1 r2_1 => ?_
  have x1 : ExtB gr w W1 := ExtB.ext (ExtB.refl gr w) e1
  have b2 : w.heap.size ≤ g2 := Nat.le_trans (ExtB.refl gr w).size l2
  refine Qaf ?_
  refine hK1 _ _ ?_
  refine wp_seq_k fun K3 hK3 => ?_
  refine Qae ?_
  refine Qab (.pointer (some ⟨gr, 0, none⟩)) 4 rfl kj kj ?_
  have rs4 := (RSt.ext h hB e1)
  refine Qah (fun v W' => ExtB gr W1 W' ∧ RSt B gr (Qac (s) 32) W' ∧ (fun (v : Value) (_ : World) => v = .agg (ints .u8 (keyV (Qag (s) 32)))) v W') 109 #[.pointer (some ⟨gr, 0, none⟩)] 5 rfl kj kj (Qb7 B gr _ _ hB rs4) fun vv5 W2 hh5 => ?_
  obtain ⟨q2, rs5, hv5⟩ := hh5
  have x2 : ExtB gr w W2 := ExtB.tr x1 q2
  subst hv5
  refine Qab (.pointer (some ⟨gr, 0, none⟩)) 6 rfl kj kj ?_
  refine Qah (fun v W' => ExtB gr W2 W' ∧ RSt B gr (Qac (Qac (s) 32) 4) W' ∧ (fun (v : Value) (_ : World) => v = .int .i64 ((bigN (Qag (Qac (s) 32) 4) : Nat) : Int)) v W') 110 #[.pointer (some ⟨gr, 0, none⟩), .int .i64 4] 7 rfl kj kj (QaQ B gr _ 4 _ hB rs5 (by decide)) fun vv6 W3 hh6 => ?_
  obtain ⟨q3, rs6, hv6⟩ := hh6
  have x3 : ExtB gr w W3 := ExtB.tr x2 q3
  subst hv6
  refine Qab (.pointer (some ⟨gr, 0, none⟩)) 8 rfl kj kj ?_
  refine Qah (fun v W' => ExtB gr W3 W' ∧ RSt B gr (Qaj (Qac (Qac (s) 32) 4)) W' ∧ (fun (v : Value) (_ : World) => v = .int .i64 ((bigN (Qag (Qac (Qac (s) 32) 4) 1) : Nat) : Int)) v W') 111 #[.pointer (some ⟨gr, 0, none⟩)] 9 rfl kj kj (QcF B gr _ _ hB rs6) fun vv7 W4 hh7 => ?_
  obtain ⟨q4, rs7, hv7⟩ := hh7
  have x4 : ExtB gr w W4 := ExtB.tr x3 q4
  subst hv7
  refine Qab (.pointer (some ⟨gr, 0, none⟩)) 10 rfl kj kj ?_
  refine Qah (fun v W' => ExtB gr W4 W' ∧ RSt B gr (Qac (Qaj (Qac (Qac (s) 32) 4)) 32) W' ∧ (fun (v : Value) (_ : World) => v = .agg (ints .u8 (keyV (Qag (Qaj (Qac (Qac (s) 32) 4)) 32)))) v W') 109 #[.pointer (some ⟨gr, 0, none⟩)] 11 rfl kj kj (Qb7 B gr _ _ hB rs7) fun vv8 W5 hh8 => ?_
  obtain ⟨q5, rs8, hv8⟩ := hh8
  have x5 : ExtB gr w W5 := ExtB.tr x4 q5
  subst hv8
  refine Qab (.pointer (some ⟨gr, 0, none⟩)) 12 rfl kj kj ?_
  refine Qah (fun v W' => ExtB gr W5 W' ∧ RSt B gr (Qac (Qac (Qaj (Qac (Qac (s) 32) 4)) 32) 1) W' ∧ (fun (v : Value) (_ : World) => v = .int .i64 ((bigN (Qag (Qac (Qaj (Qac (Qac (s) 32) 4)) 32) 1) : Nat) : Int)) v W') 110 #[.pointer (some ⟨gr, 0, none⟩), .int .i64 1] 13 rfl kj kj (QaQ B gr _ 1 _ hB rs8 (by decide)) fun vv9 W6 hh9 => ?_
  obtain ⟨q6, rs9, hv9⟩ := hh9
  have x6 : ExtB gr w W6 := ExtB.tr x5 q6
  subst hv9
  refine Qab (.agg (cat [ints .u8 (keyV (Qag (s) 32)), #[.int .i64 ((bigN (Qag (Qac (s) 32) 4) : Nat) : Int)], #[.int .i64 ((bigN (Qag (Qac (Qac (s) 32) 4) 1) : Nat) : Int)], ints .u8 (keyV (Qag (Qaj (Qac (Qac (s) 32) 4)) 32)), #[.int .i64 ((bigN (Qag (Qac (Qaj (Qac (Qac (s) 32) 4)) 32) 1) : Nat) : Int)], #[.bool false], #[.int .i64 0], ints .u8 (List.replicate 32 0), ints .u8 (List.replicate 32 0), ints .u8 (List.replicate 32 0), #[.slice none 0 0], ints .u8 (List.replicate 32 0), #[.int .i64 0], ints .u8 (List.replicate 64 0)])) 14 rfl kj (Qb3 47 _ [ints .u8 (List.replicate 32 0), #[.int .i64 0], #[.int .i64 0], ints .u8 (List.replicate 32 0), #[.int .i64 0]] [#[.bool false], #[.int .i64 0], ints .u8 (List.replicate 32 0), ints .u8 (List.replicate 32 0), ints .u8 (List.replicate 32 0), #[.slice none 0 0], ints .u8 (List.replicate 32 0), #[.int .i64 0], ints .u8 (List.replicate 64 0)] #[(0, 32), (32, 1), (33, 1), (34, 32), (66, 1), (67, 99), (166, 32), (198, 1), (199, 64)] [(0, 32, .agg (ints .u8 (keyV (Qag (s) 32))), ints .u8 (keyV (Qag (s) 32))), (1, 1, .int .i64 ((bigN (Qag (Qac (s) 32) 4) : Nat) : Int), #[.int .i64 ((bigN (Qag (Qac (s) 32) 4) : Nat) : Int)]), (2, 1, .int .i64 ((bigN (Qag (Qac (Qac (s) 32) 4) 1) : Nat) : Int), #[.int .i64 ((bigN (Qag (Qac (Qac (s) 32) 4) 1) : Nat) : Int)]), (3, 32, .agg (ints .u8 (keyV (Qag (Qaj (Qac (Qac (s) 32) 4)) 32))), ints .u8 (keyV (Qag (Qaj (Qac (Qac (s) 32) 4)) 32))), (4, 1, .int .i64 ((bigN (Qag (Qac (Qaj (Qac (Qac (s) 32) 4)) 32) 1) : Nat) : Int), #[.int .i64 ((bigN (Qag (Qac (Qaj (Qac (Qac (s) 32) 4)) 32) 1) : Nat) : Int)])] rfl kj ⟨kj, rfl, ((Qad _ _).trans (Qam _ (Qai (s) 32))), kj, rfl, kj, kj, rfl, kj, kj, rfl, ((Qad _ _).trans (Qam _ (Qai (Qaj (Qac (Qac (s) 32) 4)) 32))), kj, rfl, kj, trivial⟩ kj (QbD _) kj kj) ?_
  refine Qar (cat [ints .u8 (List.replicate 32 0), #[.int .i64 0], #[.int .i64 0], ints .u8 (List.replicate 32 0), #[.int .i64 0], #[.bool false], #[.int .i64 0], ints .u8 (List.replicate 32 0), ints .u8 (List.replicate 32 0), ints .u8 (List.replicate 32 0), #[.slice none 0 0], ints .u8 (List.replicate 32 0), #[.int .i64 0], ints .u8 (List.replicate 64 0)]) 47 3 rfl kj (QaG 47 _ rfl (QbD _)) fun g10 W7 l10 e7 r10_7 => ?_
  have x7 : ExtB gr w W7 := ExtB.ext x6 e7
  have b10 : w.heap.size ≤ g10 := Nat.le_trans x6.size l10
  refine Qav g10 _ (cat [ints .u8 (keyV (Qag (s) 32)), #[.int .i64 ((bigN (Qag (Qac (s) 32) 4) : Nat) : Int)], #[.int .i64 ((bigN (Qag (Qac (Qac (s) 32) 4) 1) : Nat) : Int)], ints .u8 (keyV (Qag (Qaj (Qac (Qac (s) 32) 4)) 32)), #[.int .i64 ((bigN (Qag (Qac (Qaj (Qac (Qac (s) 32) 4)) 32) 1) : Nat) : Int)], #[.bool false], #[.int .i64 0], ints .u8 (List.replicate 32 0), ints .u8 (List.replicate 32 0), ints .u8 (List.replicate 32 0), #[.slice none 0 0], ints .u8 (List.replicate 32 0), #[.int .i64 0], ints .u8 (List.replicate 64 0)]) 47 r10_7 rfl kj (Qat 47 _ _ g10 47 _ _ r10_7 rfl kj kj (isz (n := 263) kj (by rw [Qaa, Qaa, Qaa, Qaa, Qaa, Qaa, Qaa, Qaa, Qaa, Qaa, Qaa, Qaa, Qaa, Qaa]; simp only [Array.size_append, cat, ((Qad _ _).trans (List.length_replicate (n := 32))), ((Qad _ _).trans (List.length_replicate (n := 64))), ((Qad _ _).trans (Qam _ (Qai (Qaj (Qac (Qac (s) 32) 4)) 32))), ((Qad _ _).trans (Qam _ (Qai (s) 32)))]; rfl)) (eqsz (n := 263) (by rw [Qaa, Qaa, Qaa, Qaa, Qaa, Qaa, Qaa, Qaa, Qaa, Qaa, Qaa, Qaa, Qaa, Qaa]; simp only [Array.size_append, cat, ((Qad _ _).trans (List.length_replicate (n := 32))), ((Qad _ _).trans (List.length_replicate (n := 64)))]; rfl) (by rw [Qaa, Qaa, Qaa, Qaa, Qaa, Qaa, Qaa, Qaa, Qaa, Qaa, Qaa, Qaa, Qaa, Qaa]; simp only [Array.size_append, cat, ((Qad _ _).trans (List.length_replicate (n := 32))), ((Qad _ _).trans (List.length_replicate (n := 64))), ((Qad _ _).trans (Qam _ (Qai (Qaj (Qac (Qac (s) 32) 4)) 32))), ((Qad _ _).trans (Qam _ (Qai (s) 32)))]; rfl)) (QaC _ (by intro a ha; simp only [List.mem_cons, List.not_mem_nil, or_false] at ha; rcases ha with rfl | rfl | rfl | rfl | rfl | rfl | rfl | rfl | rfl | rfl | rfl | rfl | rfl | rfl; exact (Qan _ _); exact (Qak _ rfl); exact (Qak _ rfl); exact (Qan _ _); exact (Qak _ rfl); exact (Qak _ rfl); exact (Qak _ rfl); exact (Qan _ _); exact (Qan _ _); exact (Qan _ _); exact (Qak _ rfl); exact (Qan _ _); exact (Qak _ rfl); exact (Qan _ _)))) fun W8 p8 r10_8 => ?_
  have x8 : ExtB gr w W8 := ExtB.putsN x7 p8 b10
  refine Qaf ?_
  refine hK3 _ _ ?_
  refine wp_seq_k fun K11 hK11 => ?_
  refine wp_seq_k fun K12 hK12 => ?_
  refine Qae ?_
  refine Qab (.pointer (some ⟨g10, 66, none⟩)) 15 rfl kj kj ?_
  refine Qab (.int .i64 ((bigN (Qag (Qac (Qaj (Qac (Qac (s) 32) 4)) 32) 1) : Nat) : Int)) 16 rfl kj (Qal 3 _ g10 66 47 _ (.int .i64 ((bigN (Qag (Qac (Qaj (Qac (Qac (s) 32) 4)) 32) 1) : Nat) : Int)) _ r10_8 rfl kj (Qaq [ints .u8 (keyV (Qag (s) 32)), #[.int .i64 ((bigN (Qag (Qac (s) 32) 4) : Nat) : Int)], #[.int .i64 ((bigN (Qag (Qac (Qac (s) 32) 4) 1) : Nat) : Int)], ints .u8 (keyV (Qag (Qaj (Qac (Qac (s) 32) 4)) 32))] [#[.int .i64 ((bigN (Qag (Qac (Qaj (Qac (Qac (s) 32) 4)) 32) 1) : Nat) : Int)]] [#[.bool false], #[.int .i64 0], ints .u8 (List.replicate 32 0), ints .u8 (List.replicate 32 0), ints .u8 (List.replicate 32 0), #[.slice none 0 0], ints .u8 (List.replicate 32 0), #[.int .i64 0], ints .u8 (List.replicate 64 0)] 66 (by rw [Qaa, Qaa, Qaa, Qaa]; simp only [Array.size_append, cat, ((Qad _ _).trans (Qam _ (Qai (Qaj (Qac (Qac (s) 32) 4)) 32))), ((Qad _ _).trans (Qam _ (Qai (s) 32)))]; rfl) 0 _ rfl) kj) ?_
  refine Qaf ?_
  refine hK12 _ _ ?_
  refine wp_block ?_
  refine wp_seq_k fun K13 hK13 => ?_
  refine Qae ?_
  refine Qab (.bool false) 20 rfl kj (Qa0 (u := .bool ((((bigN (Qag (Qac (Qaj (Qac (Qac (s) 32) 4)) 32) 1) : Nat) : Int) == 1))) kj (congrArg Value.bool (beq_eq_false_iff_ne.2 (by omega)))) ?_
  refine Qab (.bool false) 19 rfl kj kj ?_
  refine Qaf ?_
  refine hK13 _ _ ?_
  refine cond_false kj ?_
  refine wp_seq_k fun K14 hK14 => ?_
  refine Qae ?_
  refine Qab (.bool false) 28 rfl kj (Qa0 (u := .bool ((((bigN (Qag (Qac (Qaj (Qac (Qac (s) 32) 4)) 32) 1) : Nat) : Int) == 2))) kj (congrArg Value.bool (beq_eq_false_iff_ne.2 (by omega)))) ?_
  refine Qab (.bool false) 27 rfl kj kj ?_
  refine Qaf ?_
  refine hK14 _ _ ?_
  refine cond_false kj ?_
  refine wp_seq_k fun K15 hK15 => ?_
  refine Qae ?_
  refine Qab (.bool true) 33 rfl kj (Qa0 (u := .bool ((((bigN (Qag (Qac (Qaj (Qac (Qac (s) 32) 4)) 32) 1) : Nat) : Int) == 3))) kj (congrArg Value.bool (beq_iff_eq.2 (by omega)))) ?_
  refine Qab (.bool true) 32 rfl kj kj ?_
  refine Qaf ?_
  refine hK15 _ _ ?_
  refine cond_true kj ?_
  refine Qae ?_
  refine Qab (.pointer (some ⟨gr, 0, none⟩)) 34 rfl kj kj ?_
  have rs16 := (RSt.put (RSt.ext rs9 hB e7) hB p8 (Nat.lt_of_lt_of_le hgr b10))
  refine Qah (fun v W' => ExtB gr W8 W' ∧ RSt B gr (Qaj (Qac (Qac (Qaj (Qac (Qac (s) 32) 4)) 32) 1)) W' ∧ (fun (v : Value) (_ : World) => v = .int .i64 ((bigN (Qag (Qac (Qac (Qaj (Qac (Qac (s) 32) 4)) 32) 1) 1) : Nat) : Int)) v W') 111 #[.pointer (some ⟨gr, 0, none⟩)] 35 rfl kj kj (QcF B gr _ _ hB rs16) fun vv17 W9 hh17 => ?_
  obtain ⟨q9, rs17, hv17⟩ := hh17
  have x9 : ExtB gr w W9 := ExtB.tr x8 q9
  subst hv17
  refine Qab (.pointer (some ⟨g10, 198, none⟩)) 36 rfl kj kj ?_
  have r10_9 := (ExtB.row q9 r10_8 (Ne.symm (Nat.ne_of_lt (Nat.lt_of_lt_of_le hgr b10))))
  refine Qav g10 _ (cat [ints .u8 (keyV (Qag (s) 32)), #[.int .i64 ((bigN (Qag (Qac (s) 32) 4) : Nat) : Int)], #[.int .i64 ((bigN (Qag (Qac (Qac (s) 32) 4) 1) : Nat) : Int)], ints .u8 (keyV (Qag (Qaj (Qac (Qac (s) 32) 4)) 32)), #[.int .i64 ((bigN (Qag (Qac (Qaj (Qac (Qac (s) 32) 4)) 32) 1) : Nat) : Int)], #[.bool false], #[.int .i64 0], ints .u8 (List.replicate 32 0), ints .u8 (List.replicate 32 0), ints .u8 (List.replicate 32 0), #[.slice none 0 0], ints .u8 (List.replicate 32 0), #[.int .i64 ((bigN (Qag (Qac (Qac (Qaj (Qac (Qac (s) 32) 4)) 32) 1) 1) : Nat) : Int)], ints .u8 (List.replicate 64 0)]) 47 r10_9 rfl kj (Qfe 3 _ _ g10 198 47 [ints .u8 (keyV (Qag (s) 32)), #[.int .i64 ((bigN (Qag (Qac (s) 32) 4) : Nat) : Int)], #[.int .i64 ((bigN (Qag (Qac (Qac (s) 32) 4) 1) : Nat) : Int)], ints .u8 (keyV (Qag (Qaj (Qac (Qac (s) 32) 4)) 32)), #[.int .i64 ((bigN (Qag (Qac (Qaj (Qac (Qac (s) 32) 4)) 32) 1) : Nat) : Int)], #[.bool false], #[.int .i64 0], ints .u8 (List.replicate 32 0), ints .u8 (List.replicate 32 0), ints .u8 (List.replicate 32 0), #[.slice none 0 0], ints .u8 (List.replicate 32 0)] [ints .u8 (List.replicate 64 0)] _ (.int .i64 ((bigN (Qag (Qac (Qac (Qaj (Qac (Qac (s) 32) 4)) 32) 1) 1) : Nat) : Int)) r10_9 rfl kj kj kj (by rw [Qaa, Qaa, Qaa, Qaa, Qaa, Qaa, Qaa, Qaa, Qaa, Qaa, Qaa, Qaa]; simp only [Array.size_append, cat, ((Qad _ _).trans (List.length_replicate (n := 32))), ((Qad _ _).trans (Qam _ (Qai (Qaj (Qac (Qac (s) 32) 4)) 32))), ((Qad _ _).trans (Qam _ (Qai (s) 32)))]; rfl) rfl rfl) fun W10 p10 r10_10 => ?_
  have x10 : ExtB gr w W10 := ExtB.putsN x9 p10 b10
  refine Qaf ?_
  refine hK11 _ _ ?_
  refine wp_seq_k fun K18 hK18 => ?_
  refine Qae ?_
  refine Qab (.pointer (some ⟨gr, 0, none⟩)) 37 rfl kj kj ?_
  have rs19 := (RSt.put rs17 hB p10 (Nat.lt_of_lt_of_le hgr b10))
  refine Qah (fun v W' => ExtB gr W10 W' ∧ RSt B gr (Qac (Qaj (Qac (Qac (Qaj (Qac (Qac (s) 32) 4)) 32) 1)) 64) W' ∧ (fun (v : Value) (_ : World) => v = .agg (ints .u8 (QaY (Qag (Qaj (Qac (Qac (Qaj (Qac (Qac (s) 32) 4)) 32) 1)) 64)))) v W') 112 #[.pointer (some ⟨gr, 0, none⟩)] 38 rfl kj kj (QdX B gr _ _ hB rs19) fun vv20 W11 hh20 => ?_
  obtain ⟨q11, rs20, hv20⟩ := hh20
  have x11 : ExtB gr w W11 := ExtB.tr x10 q11
  subst hv20
  refine Qab (.pointer (some ⟨g10, 199, none⟩)) 39 rfl kj kj ?_
  have r10_11 := (ExtB.row q11 r10_10 (Ne.symm (Nat.ne_of_lt (Nat.lt_of_lt_of_le hgr b10))))
  refine Qav g10 _ (cat [ints .u8 (keyV (Qag (s) 32)), #[.int .i64 ((bigN (Qag (Qac (s) 32) 4) : Nat) : Int)], #[.int .i64 ((bigN (Qag (Qac (Qac (s) 32) 4) 1) : Nat) : Int)], ints .u8 (keyV (Qag (Qaj (Qac (Qac (s) 32) 4)) 32)), #[.int .i64 ((bigN (Qag (Qac (Qaj (Qac (Qac (s) 32) 4)) 32) 1) : Nat) : Int)], #[.bool false], #[.int .i64 0], ints .u8 (List.replicate 32 0), ints .u8 (List.replicate 32 0), ints .u8 (List.replicate 32 0), #[.slice none 0 0], ints .u8 (List.replicate 32 0), #[.int .i64 ((bigN (Qag (Qac (Qac (Qaj (Qac (Qac (s) 32) 4)) 32) 1) 1) : Nat) : Int)], ints .u8 (QaY (Qag (Qaj (Qac (Qac (Qaj (Qac (Qac (s) 32) 4)) 32) 1)) 64))]) 47 r10_11 rfl kj (Qbd 45 _ _ g10 199 47 [ints .u8 (keyV (Qag (s) 32)), #[.int .i64 ((bigN (Qag (Qac (s) 32) 4) : Nat) : Int)], #[.int .i64 ((bigN (Qag (Qac (Qac (s) 32) 4) 1) : Nat) : Int)], ints .u8 (keyV (Qag (Qaj (Qac (Qac (s) 32) 4)) 32)), #[.int .i64 ((bigN (Qag (Qac (Qaj (Qac (Qac (s) 32) 4)) 32) 1) : Nat) : Int)], #[.bool false], #[.int .i64 0], ints .u8 (List.replicate 32 0), ints .u8 (List.replicate 32 0), ints .u8 (List.replicate 32 0), #[.slice none 0 0], ints .u8 (List.replicate 32 0), #[.int .i64 ((bigN (Qag (Qac (Qac (Qaj (Qac (Qac (s) 32) 4)) 32) 1) 1) : Nat) : Int)]] [ints .u8 (List.replicate 64 0)] [ints .u8 (QaY (Qag (Qaj (Qac (Qac (Qaj (Qac (Qac (s) 32) 4)) 32) 1)) 64))] [] r10_11 rfl kj kj (isz (n := 64) kj ((Qad _ _).trans (Qa6 _ (Qai (Qaj (Qac (Qac (Qaj (Qac (Qac (s) 32) 4)) 32) 1)) 64)))) (by rw [Qaa, Qaa, Qaa, Qaa, Qaa, Qaa, Qaa, Qaa, Qaa, Qaa, Qaa, Qaa, Qaa]; simp only [Array.size_append, cat, ((Qad _ _).trans (List.length_replicate (n := 32))), ((Qad _ _).trans (Qam _ (Qai (Qaj (Qac (Qac (s) 32) 4)) 32))), ((Qad _ _).trans (Qam _ (Qai (s) 32)))]; rfl) (eqsz (n := 64) ((Qad _ _).trans (Qa6 _ (Qai (Qaj (Qac (Qac (Qaj (Qac (Qac (s) 32) 4)) 32) 1)) 64))) ((Qad _ _).trans (List.length_replicate (n := 64)))) (Qan _ _)) fun W12 p12 r10_12 => ?_
  have x12 : ExtB gr w W12 := ExtB.putsN x11 p12 b10
  refine Qaf ?_
  refine hK18 _ _ ?_
  refine wp_seq_k fun K21 hK21 => ?_
  refine Qae ?_
  refine Qab (.agg (cat [ints .u8 (keyV (Qag (s) 32)), #[.int .i64 ((bigN (Qag (Qac (s) 32) 4) : Nat) : Int)], #[.int .i64 ((bigN (Qag (Qac (Qac (s) 32) 4) 1) : Nat) : Int)], ints .u8 (keyV (Qag (Qaj (Qac (Qac (s) 32) 4)) 32)), #[.int .i64 ((bigN (Qag (Qac (Qaj (Qac (Qac (s) 32) 4)) 32) 1) : Nat) : Int)], #[.bool false], #[.int .i64 0], ints .u8 (List.replicate 32 0), ints .u8 (List.replicate 32 0), ints .u8 (List.replicate 32 0), #[.slice none 0 0], ints .u8 (List.replicate 32 0), #[.int .i64 ((bigN (Qag (Qac (Qac (Qaj (Qac (Qac (s) 32) 4)) 32) 1) 1) : Nat) : Int)], ints .u8 (QaY (Qag (Qaj (Qac (Qac (Qaj (Qac (Qac (s) 32) 4)) 32) 1)) 64))])) 40 rfl kj (Qaz 47 _ g10 47 _ _ r10_12 rfl kj kj (isz (n := 263) kj (by rw [Qaa, Qaa, Qaa, Qaa, Qaa, Qaa, Qaa, Qaa, Qaa, Qaa, Qaa, Qaa, Qaa, Qaa]; simp only [Array.size_append, cat, ((Qad _ _).trans (List.length_replicate (n := 32))), ((Qad _ _).trans (Qam _ (Qai (Qaj (Qac (Qac (s) 32) 4)) 32))), ((Qad _ _).trans (Qam _ (Qai (s) 32))), ((Qad _ _).trans (Qa6 _ (Qai (Qaj (Qac (Qac (Qaj (Qac (Qac (s) 32) 4)) 32) 1)) 64)))]; rfl))) ?_
  have r2_2 := (ExtB.row q2 r2_1 (Ne.symm (Nat.ne_of_lt (Nat.lt_of_lt_of_le hgr b2))))
  have r2_3 := (ExtB.row q3 r2_2 (Ne.symm (Nat.ne_of_lt (Nat.lt_of_lt_of_le hgr b2))))
  have r2_4 := (ExtB.row q4 r2_3 (Ne.symm (Nat.ne_of_lt (Nat.lt_of_lt_of_le hgr b2))))
  have r2_5 := (ExtB.row q5 r2_4 (Ne.symm (Nat.ne_of_lt (Nat.lt_of_lt_of_le hgr b2))))
  have r2_6 := (ExtB.row q6 r2_5 (Ne.symm (Nat.ne_of_lt (Nat.lt_of_lt_of_le hgr b2))))
  have r2_7 := (Qau r2_6 e7)
  have r2_8 := (Puts.row p8 r2_7 (Qa2 r2_6 l10))
  have r2_9 := (ExtB.row q9 r2_8 (Ne.symm (Nat.ne_of_lt (Nat.lt_of_lt_of_le hgr b2))))
  have r2_10 := (Puts.row p10 r2_9 (Qa2 r2_6 l10))
  have r2_11 := (ExtB.row q11 r2_10 (Ne.symm (Nat.ne_of_lt (Nat.lt_of_lt_of_le hgr b2))))
  have r2_12 := (Puts.row p12 r2_11 (Qa2 r2_6 l10))
  refine Qav g2 _ (cat [ints .u8 (keyV (Qag (s) 32)), #[.int .i64 ((bigN (Qag (Qac (s) 32) 4) : Nat) : Int)], #[.int .i64 ((bigN (Qag (Qac (Qac (s) 32) 4) 1) : Nat) : Int)], ints .u8 (keyV (Qag (Qaj (Qac (Qac (s) 32) 4)) 32)), #[.int .i64 ((bigN (Qag (Qac (Qaj (Qac (Qac (s) 32) 4)) 32) 1) : Nat) : Int)], #[.bool false], #[.int .i64 0], ints .u8 (List.replicate 32 0), ints .u8 (List.replicate 32 0), ints .u8 (List.replicate 32 0), #[.slice none 0 0], ints .u8 (List.replicate 32 0), #[.int .i64 ((bigN (Qag (Qac (Qac (Qaj (Qac (Qac (s) 32) 4)) 32) 1) 1) : Nat) : Int)], ints .u8 (QaY (Qag (Qaj (Qac (Qac (Qaj (Qac (Qac (s) 32) 4)) 32) 1)) 64))]) 47 r2_12 rfl kj (Qat 47 _ _ g2 47 _ _ r2_12 rfl kj kj (isz (n := 263) kj (by rw [Qaa, Qaa, Qaa, Qaa, Qaa, Qaa, Qaa, Qaa, Qaa, Qaa, Qaa, Qaa, Qaa, Qaa]; simp only [Array.size_append, cat, ((Qad _ _).trans (List.length_replicate (n := 32))), ((Qad _ _).trans (Qam _ (Qai (Qaj (Qac (Qac (s) 32) 4)) 32))), ((Qad _ _).trans (Qam _ (Qai (s) 32))), ((Qad _ _).trans (Qa6 _ (Qai (Qaj (Qac (Qac (Qaj (Qac (Qac (s) 32) 4)) 32) 1)) 64)))]; rfl)) (eqsz (n := 263) (by rw [Qaa, Qaa, Qaa, Qaa, Qaa, Qaa, Qaa, Qaa, Qaa, Qaa, Qaa, Qaa, Qaa, Qaa]; simp only [Array.size_append, cat, ((Qad _ _).trans (List.length_replicate (n := 32))), ((Qad _ _).trans (List.length_replicate (n := 64)))]; rfl) (by rw [Qaa, Qaa, Qaa, Qaa, Qaa, Qaa, Qaa, Qaa, Qaa, Qaa, Qaa, Qaa, Qaa, Qaa]; simp only [Array.size_append, cat, ((Qad _ _).trans (List.length_replicate (n := 32))), ((Qad _ _).trans (Qam _ (Qai (Qaj (Qac (Qac (s) 32) 4)) 32))), ((Qad _ _).trans (Qam _ (Qai (s) 32))), ((Qad _ _).trans (Qa6 _ (Qai (Qaj (Qac (Qac (Qaj (Qac (Qac (s) 32) 4)) 32) 1)) 64)))]; rfl)) (QaC _ (by intro a ha; simp only [List.mem_cons, List.not_mem_nil, or_false] at ha; rcases ha with rfl | rfl | rfl | rfl | rfl | rfl | rfl | rfl | rfl | rfl | rfl | rfl | rfl | rfl; exact (Qan _ _); exact (Qak _ rfl); exact (Qak _ rfl); exact (Qan _ _); exact (Qak _ rfl); exact (Qak _ rfl); exact (Qak _ rfl); exact (Qan _ _); exact (Qan _ _); exact (Qan _ _); exact (Qak _ rfl); exact (Qan _ _); exact (Qak _ rfl); exact (Qan _ _)))) fun W13 p13 r2_13 => ?_
  have x13 : ExtB gr w W13 := ExtB.putsN x12 p13 b2
  refine Qaf ?_
  refine hK21 _ _ ?_
  refine wp_ret ?_
  repeat (first | with_reducible refine goR1 ?_ | with_reducible refine goR2 ?_)
  have rs22 := (RSt.put (RSt.put rs20 hB p12 (Nat.lt_of_lt_of_le hgr b10)) hB p13 (Nat.lt_of_lt_of_le hgr b2))
  exact (show bodyPost _ _ _ .ret _ _ from ret1 (.agg (cat [ints .u8 (keyV (Qag (s) 32)), #[.int .i64 ((bigN (Qag (Qac (s) 32) 4) : Nat) : Int)], #[.int .i64 ((bigN (Qag (Qac (Qac (s) 32) 4) 1) : Nat) : Int)], ints .u8 (keyV (Qag (Qaj (Qac (Qac (s) 32) 4)) 32)), #[.int .i64 ((bigN (Qag (Qac (Qaj (Qac (Qac (s) 32) 4)) 32) 1) : Nat) : Int)], #[.bool false], #[.int .i64 0], ints .u8 (List.replicate 32 0), ints .u8 (List.replicate 32 0), ints .u8 (List.replicate 32 0), #[.slice none 0 0], ints .u8 (List.replicate 32 0), #[.int .i64 ((bigN (Qag (Qac (Qac (Qaj (Qac (Qac (s) 32) 4)) 32) 1) 1) : Nat) : Int)], ints .u8 (QaY (Qag (Qaj (Qac (Qac (Qaj (Qac (Qac (s) 32) 4)) 32) 1)) 64))])) rfl (QaR g2 47 _ r2_13 kj kj (isz (n := 263) kj (by rw [Qaa, Qaa, Qaa, Qaa, Qaa, Qaa, Qaa, Qaa, Qaa, Qaa, Qaa, Qaa, Qaa, Qaa]; simp only [Array.size_append, cat, ((Qad _ _).trans (List.length_replicate (n := 32))), ((Qad _ _).trans (Qam _ (Qai (Qaj (Qac (Qac (s) 32) 4)) 32))), ((Qad _ _).trans (Qam _ (Qai (s) 32))), ((Qad _ _).trans (Qa6 _ (Qai (Qaj (Qac (Qac (Qaj (Qac (Qac (s) 32) 4)) 32) 1)) 64)))]; rfl))) ⟨_, rfl, x13, (show RSt B gr (Qaw s) _ by have h9 := rs22; unfold Qaw; rw [eM]; exact h9), [], _, _, by rw [eUs, eNm, eKy, eSg, ePa, eSt, eAt]; unfold qSig; rw [eM]; rfl, QbV _ _ _ _, by decide, fun _ => by rw [eL]⟩)
set_option maxHeartbeats 4000000 in
set_option maxRecDepth 100000 in
theorem QgP (B gr : Nat) (s : Option (List Int)) (w : World) (hB : B ≤ gr) (h : RSt B gr s w) (hk : bigN (Qag (qS4 s) 1) < 1 ∨ 3 < bigN (Qag (qS4 s) 1)) : Calls Try.prog 61 #[.pointer (some ⟨gr, 0, none⟩)] w (Qbj B gr w (Qaw s) fun v W => ∃ (xz : List Int) (a : Option Addr) (c : Nat), v = .agg (cat [ints .u8 (qGrp s), #[.int .i64 (qEp s)], #[.int .i64 (qFr s)], ints .u8 (qBa s), #[.int .i64 ((qKd s : Nat) : Int)], #[.bool (qUs s)], #[.int .i64 (qNm s)], ints .u8 (qKy s), ints .u8 (qSg s), ints .u8 (qPa s), #[.slice a xz.length c], ints .u8 (qSt s), #[.int .i64 (qAt s)], ints .u8 (qSig s)]) ∧ OwnN .i64 3 w.heap.size xz (.slice a xz.length c) W ∧ xz.length ≤ 255 ∧ (Qaw s ≠ none → xz = qL s)) := by
  have hgr := h.lt
  have hk2 : bigN (Qag (Qac (Qaj (Qac (Qac s 32) 4)) 32) 1) = qKd s := rfl
  unfold qKd at hk2
  have hk0 : qKd s = bigN (Qag (qS4 s) 1) := rfl
  have k1 : (qKd s == 1) = false := beq_eq_false_iff_ne.2 (show qKd s ≠ 1 by omega)
  have k2 : (qKd s == 2) = false := beq_eq_false_iff_ne.2 (show qKd s ≠ 2 by omega)
  have k3 : (qKd s == 3) = false := beq_eq_false_iff_ne.2 (show qKd s ≠ 3 by omega)
  have kn : qNd s = false := by unfold qNd; rw [k1, k2]; rfl
  have eUs : qUs s = false := by unfold qUs; rw [kn]; rfl
  have eNm : qNm s = 0 := by unfold qNm; rw [kn]; rfl
  have eKy : qKy s = List.replicate 32 0 := by unfold qKy; rw [kn]; rfl
  have eSg : qSg s = List.replicate 32 0 := by unfold qSg; rw [kn]; rfl
  have ePa : qPa s = List.replicate 32 0 := by unfold qPa; rw [kn]; rfl
  have eL : qL s = [] := by unfold qL; rw [kn]; rfl
  have eSt : qSt s = List.replicate 32 0 := by unfold qSt; rw [k1]; rfl
  have eAt : qAt s = 0 := by unfold qAt; rw [k3]; rfl
  have eM : Qb8 s = Qax (qS5 s) false := by unfold Qb8; rw [k1, k2, k3]; rfl
  refine enter 41 [(0, .pointer (some ⟨gr, 0, none⟩))] Try.func61 rfl rfl kj rfl ?_
  refine wp_seq_k fun K1 hK1 => ?_
  refine Qae ?_
  refine Qar (cat [ints .u8 (List.replicate 32 0), #[.int .i64 0], #[.int .i64 0], ints .u8 (List.replicate 32 0), #[.int .i64 0], #[.bool false], #[.int .i64 0], ints .u8 (List.replicate 32 0), ints .u8 (List.replicate 32 0), ints .u8 (List.replicate 32 0), #[.slice none 0 0], ints .u8 (List.replicate 32 0), #[.int .i64 0], ints .u8 (List.replicate 64 0)]) 47 2 rfl kj (QaG 47 _ rfl (QbD _)) fun g2 W1 l2 e1 r2_1 => ?_
  have x1 : ExtB gr w W1 := ExtB.ext (ExtB.refl gr w) e1
  have b2 : w.heap.size ≤ g2 := Nat.le_trans (ExtB.refl gr w).size l2
  refine Qaf ?_
  refine hK1 _ _ ?_
  refine wp_seq_k fun K3 hK3 => ?_
  refine Qae ?_
  refine Qab (.pointer (some ⟨gr, 0, none⟩)) 4 rfl kj kj ?_
  have rs4 := (RSt.ext h hB e1)
  refine Qah (fun v W' => ExtB gr W1 W' ∧ RSt B gr (Qac (s) 32) W' ∧ (fun (v : Value) (_ : World) => v = .agg (ints .u8 (keyV (Qag (s) 32)))) v W') 109 #[.pointer (some ⟨gr, 0, none⟩)] 5 rfl kj kj (Qb7 B gr _ _ hB rs4) fun vv5 W2 hh5 => ?_
  obtain ⟨q2, rs5, hv5⟩ := hh5
  have x2 : ExtB gr w W2 := ExtB.tr x1 q2
  subst hv5
  refine Qab (.pointer (some ⟨gr, 0, none⟩)) 6 rfl kj kj ?_
  refine Qah (fun v W' => ExtB gr W2 W' ∧ RSt B gr (Qac (Qac (s) 32) 4) W' ∧ (fun (v : Value) (_ : World) => v = .int .i64 ((bigN (Qag (Qac (s) 32) 4) : Nat) : Int)) v W') 110 #[.pointer (some ⟨gr, 0, none⟩), .int .i64 4] 7 rfl kj kj (QaQ B gr _ 4 _ hB rs5 (by decide)) fun vv6 W3 hh6 => ?_
  obtain ⟨q3, rs6, hv6⟩ := hh6
  have x3 : ExtB gr w W3 := ExtB.tr x2 q3
  subst hv6
  refine Qab (.pointer (some ⟨gr, 0, none⟩)) 8 rfl kj kj ?_
  refine Qah (fun v W' => ExtB gr W3 W' ∧ RSt B gr (Qaj (Qac (Qac (s) 32) 4)) W' ∧ (fun (v : Value) (_ : World) => v = .int .i64 ((bigN (Qag (Qac (Qac (s) 32) 4) 1) : Nat) : Int)) v W') 111 #[.pointer (some ⟨gr, 0, none⟩)] 9 rfl kj kj (QcF B gr _ _ hB rs6) fun vv7 W4 hh7 => ?_
  obtain ⟨q4, rs7, hv7⟩ := hh7
  have x4 : ExtB gr w W4 := ExtB.tr x3 q4
  subst hv7
  refine Qab (.pointer (some ⟨gr, 0, none⟩)) 10 rfl kj kj ?_
  refine Qah (fun v W' => ExtB gr W4 W' ∧ RSt B gr (Qac (Qaj (Qac (Qac (s) 32) 4)) 32) W' ∧ (fun (v : Value) (_ : World) => v = .agg (ints .u8 (keyV (Qag (Qaj (Qac (Qac (s) 32) 4)) 32)))) v W') 109 #[.pointer (some ⟨gr, 0, none⟩)] 11 rfl kj kj (Qb7 B gr _ _ hB rs7) fun vv8 W5 hh8 => ?_
  obtain ⟨q5, rs8, hv8⟩ := hh8
  have x5 : ExtB gr w W5 := ExtB.tr x4 q5
  subst hv8
  refine Qab (.pointer (some ⟨gr, 0, none⟩)) 12 rfl kj kj ?_
  refine Qah (fun v W' => ExtB gr W5 W' ∧ RSt B gr (Qac (Qac (Qaj (Qac (Qac (s) 32) 4)) 32) 1) W' ∧ (fun (v : Value) (_ : World) => v = .int .i64 ((bigN (Qag (Qac (Qaj (Qac (Qac (s) 32) 4)) 32) 1) : Nat) : Int)) v W') 110 #[.pointer (some ⟨gr, 0, none⟩), .int .i64 1] 13 rfl kj kj (QaQ B gr _ 1 _ hB rs8 (by decide)) fun vv9 W6 hh9 => ?_
  obtain ⟨q6, rs9, hv9⟩ := hh9
  have x6 : ExtB gr w W6 := ExtB.tr x5 q6
  subst hv9
  refine Qab (.agg (cat [ints .u8 (keyV (Qag (s) 32)), #[.int .i64 ((bigN (Qag (Qac (s) 32) 4) : Nat) : Int)], #[.int .i64 ((bigN (Qag (Qac (Qac (s) 32) 4) 1) : Nat) : Int)], ints .u8 (keyV (Qag (Qaj (Qac (Qac (s) 32) 4)) 32)), #[.int .i64 ((bigN (Qag (Qac (Qaj (Qac (Qac (s) 32) 4)) 32) 1) : Nat) : Int)], #[.bool false], #[.int .i64 0], ints .u8 (List.replicate 32 0), ints .u8 (List.replicate 32 0), ints .u8 (List.replicate 32 0), #[.slice none 0 0], ints .u8 (List.replicate 32 0), #[.int .i64 0], ints .u8 (List.replicate 64 0)])) 14 rfl kj (Qb3 47 _ [ints .u8 (List.replicate 32 0), #[.int .i64 0], #[.int .i64 0], ints .u8 (List.replicate 32 0), #[.int .i64 0]] [#[.bool false], #[.int .i64 0], ints .u8 (List.replicate 32 0), ints .u8 (List.replicate 32 0), ints .u8 (List.replicate 32 0), #[.slice none 0 0], ints .u8 (List.replicate 32 0), #[.int .i64 0], ints .u8 (List.replicate 64 0)] #[(0, 32), (32, 1), (33, 1), (34, 32), (66, 1), (67, 99), (166, 32), (198, 1), (199, 64)] [(0, 32, .agg (ints .u8 (keyV (Qag (s) 32))), ints .u8 (keyV (Qag (s) 32))), (1, 1, .int .i64 ((bigN (Qag (Qac (s) 32) 4) : Nat) : Int), #[.int .i64 ((bigN (Qag (Qac (s) 32) 4) : Nat) : Int)]), (2, 1, .int .i64 ((bigN (Qag (Qac (Qac (s) 32) 4) 1) : Nat) : Int), #[.int .i64 ((bigN (Qag (Qac (Qac (s) 32) 4) 1) : Nat) : Int)]), (3, 32, .agg (ints .u8 (keyV (Qag (Qaj (Qac (Qac (s) 32) 4)) 32))), ints .u8 (keyV (Qag (Qaj (Qac (Qac (s) 32) 4)) 32))), (4, 1, .int .i64 ((bigN (Qag (Qac (Qaj (Qac (Qac (s) 32) 4)) 32) 1) : Nat) : Int), #[.int .i64 ((bigN (Qag (Qac (Qaj (Qac (Qac (s) 32) 4)) 32) 1) : Nat) : Int)])] rfl kj ⟨kj, rfl, ((Qad _ _).trans (Qam _ (Qai (s) 32))), kj, rfl, kj, kj, rfl, kj, kj, rfl, ((Qad _ _).trans (Qam _ (Qai (Qaj (Qac (Qac (s) 32) 4)) 32))), kj, rfl, kj, trivial⟩ kj (QbD _) kj kj) ?_
  refine Qar (cat [ints .u8 (List.replicate 32 0), #[.int .i64 0], #[.int .i64 0], ints .u8 (List.replicate 32 0), #[.int .i64 0], #[.bool false], #[.int .i64 0], ints .u8 (List.replicate 32 0), ints .u8 (List.replicate 32 0), ints .u8 (List.replicate 32 0), #[.slice none 0 0], ints .u8 (List.replicate 32 0), #[.int .i64 0], ints .u8 (List.replicate 64 0)]) 47 3 rfl kj (QaG 47 _ rfl (QbD _)) fun g10 W7 l10 e7 r10_7 => ?_
  have x7 : ExtB gr w W7 := ExtB.ext x6 e7
  have b10 : w.heap.size ≤ g10 := Nat.le_trans x6.size l10
  refine Qav g10 _ (cat [ints .u8 (keyV (Qag (s) 32)), #[.int .i64 ((bigN (Qag (Qac (s) 32) 4) : Nat) : Int)], #[.int .i64 ((bigN (Qag (Qac (Qac (s) 32) 4) 1) : Nat) : Int)], ints .u8 (keyV (Qag (Qaj (Qac (Qac (s) 32) 4)) 32)), #[.int .i64 ((bigN (Qag (Qac (Qaj (Qac (Qac (s) 32) 4)) 32) 1) : Nat) : Int)], #[.bool false], #[.int .i64 0], ints .u8 (List.replicate 32 0), ints .u8 (List.replicate 32 0), ints .u8 (List.replicate 32 0), #[.slice none 0 0], ints .u8 (List.replicate 32 0), #[.int .i64 0], ints .u8 (List.replicate 64 0)]) 47 r10_7 rfl kj (Qat 47 _ _ g10 47 _ _ r10_7 rfl kj kj (isz (n := 263) kj (by rw [Qaa, Qaa, Qaa, Qaa, Qaa, Qaa, Qaa, Qaa, Qaa, Qaa, Qaa, Qaa, Qaa, Qaa]; simp only [Array.size_append, cat, ((Qad _ _).trans (List.length_replicate (n := 32))), ((Qad _ _).trans (List.length_replicate (n := 64))), ((Qad _ _).trans (Qam _ (Qai (Qaj (Qac (Qac (s) 32) 4)) 32))), ((Qad _ _).trans (Qam _ (Qai (s) 32)))]; rfl)) (eqsz (n := 263) (by rw [Qaa, Qaa, Qaa, Qaa, Qaa, Qaa, Qaa, Qaa, Qaa, Qaa, Qaa, Qaa, Qaa, Qaa]; simp only [Array.size_append, cat, ((Qad _ _).trans (List.length_replicate (n := 32))), ((Qad _ _).trans (List.length_replicate (n := 64)))]; rfl) (by rw [Qaa, Qaa, Qaa, Qaa, Qaa, Qaa, Qaa, Qaa, Qaa, Qaa, Qaa, Qaa, Qaa, Qaa]; simp only [Array.size_append, cat, ((Qad _ _).trans (List.length_replicate (n := 32))), ((Qad _ _).trans (List.length_replicate (n := 64))), ((Qad _ _).trans (Qam _ (Qai (Qaj (Qac (Qac (s) 32) 4)) 32))), ((Qad _ _).trans (Qam _ (Qai (s) 32)))]; rfl)) (QaC _ (by intro a ha; simp only [List.mem_cons, List.not_mem_nil, or_false] at ha; rcases ha with rfl | rfl | rfl | rfl | rfl | rfl | rfl | rfl | rfl | rfl | rfl | rfl | rfl | rfl; exact (Qan _ _); exact (Qak _ rfl); exact (Qak _ rfl); exact (Qan _ _); exact (Qak _ rfl); exact (Qak _ rfl); exact (Qak _ rfl); exact (Qan _ _); exact (Qan _ _); exact (Qan _ _); exact (Qak _ rfl); exact (Qan _ _); exact (Qak _ rfl); exact (Qan _ _)))) fun W8 p8 r10_8 => ?_
  have x8 : ExtB gr w W8 := ExtB.putsN x7 p8 b10
  refine Qaf ?_
  refine hK3 _ _ ?_
  refine wp_seq_k fun K11 hK11 => ?_
  refine wp_seq_k fun K12 hK12 => ?_
  refine Qae ?_
  refine Qab (.pointer (some ⟨g10, 66, none⟩)) 15 rfl kj kj ?_
  refine Qab (.int .i64 ((bigN (Qag (Qac (Qaj (Qac (Qac (s) 32) 4)) 32) 1) : Nat) : Int)) 16 rfl kj (Qal 3 _ g10 66 47 _ (.int .i64 ((bigN (Qag (Qac (Qaj (Qac (Qac (s) 32) 4)) 32) 1) : Nat) : Int)) _ r10_8 rfl kj (Qaq [ints .u8 (keyV (Qag (s) 32)), #[.int .i64 ((bigN (Qag (Qac (s) 32) 4) : Nat) : Int)], #[.int .i64 ((bigN (Qag (Qac (Qac (s) 32) 4) 1) : Nat) : Int)], ints .u8 (keyV (Qag (Qaj (Qac (Qac (s) 32) 4)) 32))] [#[.int .i64 ((bigN (Qag (Qac (Qaj (Qac (Qac (s) 32) 4)) 32) 1) : Nat) : Int)]] [#[.bool false], #[.int .i64 0], ints .u8 (List.replicate 32 0), ints .u8 (List.replicate 32 0), ints .u8 (List.replicate 32 0), #[.slice none 0 0], ints .u8 (List.replicate 32 0), #[.int .i64 0], ints .u8 (List.replicate 64 0)] 66 (by rw [Qaa, Qaa, Qaa, Qaa]; simp only [Array.size_append, cat, ((Qad _ _).trans (Qam _ (Qai (Qaj (Qac (Qac (s) 32) 4)) 32))), ((Qad _ _).trans (Qam _ (Qai (s) 32)))]; rfl) 0 _ rfl) kj) ?_
  refine Qaf ?_
  refine hK12 _ _ ?_
  refine wp_block ?_
  refine wp_seq_k fun K13 hK13 => ?_
  refine Qae ?_
  refine Qab (.bool false) 20 rfl kj (Qa0 (u := .bool ((((bigN (Qag (Qac (Qaj (Qac (Qac (s) 32) 4)) 32) 1) : Nat) : Int) == 1))) kj (congrArg Value.bool (beq_eq_false_iff_ne.2 (by omega)))) ?_
  refine Qab (.bool false) 19 rfl kj kj ?_
  refine Qaf ?_
  refine hK13 _ _ ?_
  refine cond_false kj ?_
  refine wp_seq_k fun K14 hK14 => ?_
  refine Qae ?_
  refine Qab (.bool false) 28 rfl kj (Qa0 (u := .bool ((((bigN (Qag (Qac (Qaj (Qac (Qac (s) 32) 4)) 32) 1) : Nat) : Int) == 2))) kj (congrArg Value.bool (beq_eq_false_iff_ne.2 (by omega)))) ?_
  refine Qab (.bool false) 27 rfl kj kj ?_
  refine Qaf ?_
  refine hK14 _ _ ?_
  refine cond_false kj ?_
  refine wp_seq_k fun K15 hK15 => ?_
  refine Qae ?_
  refine Qab (.bool false) 33 rfl kj (Qa0 (u := .bool ((((bigN (Qag (Qac (Qaj (Qac (Qac (s) 32) 4)) 32) 1) : Nat) : Int) == 3))) kj (congrArg Value.bool (beq_eq_false_iff_ne.2 (by omega)))) ?_
  refine Qab (.bool false) 32 rfl kj kj ?_
  refine Qaf ?_
  refine hK15 _ _ ?_
  refine cond_false kj ?_
  refine Qae ?_
  refine Qab (.pointer (some ⟨gr, 0, none⟩)) 17 rfl kj kj ?_
  have rs16 := (RSt.put (RSt.ext rs9 hB e7) hB p8 (Nat.lt_of_lt_of_le hgr b10))
  refine Qah (fun v W' => ExtB gr W8 W' ∧ RSt B gr (Qax (Qac (Qac (Qaj (Qac (Qac (s) 32) 4)) 32) 1) false) W' ∧ (fun (v : Value) (_ : World) => v = .tuple #[]) v W') 103 #[.pointer (some ⟨gr, 0, none⟩), .bool false] 18 rfl kj kj (Qcv B gr _ false _ hB rs16) fun vv17 W9 hh17 => ?_
  obtain ⟨q9, rs17, hv17⟩ := hh17
  have x9 : ExtB gr w W9 := ExtB.tr x8 q9
  subst hv17
  refine Qaf ?_
  refine hK11 _ _ ?_
  refine wp_seq_k fun K18 hK18 => ?_
  refine Qae ?_
  refine Qab (.pointer (some ⟨gr, 0, none⟩)) 37 rfl kj kj ?_
  refine Qah (fun v W' => ExtB gr W9 W' ∧ RSt B gr (Qac (Qax (Qac (Qac (Qaj (Qac (Qac (s) 32) 4)) 32) 1) false) 64) W' ∧ (fun (v : Value) (_ : World) => v = .agg (ints .u8 (QaY (Qag (Qax (Qac (Qac (Qaj (Qac (Qac (s) 32) 4)) 32) 1) false) 64)))) v W') 112 #[.pointer (some ⟨gr, 0, none⟩)] 38 rfl kj kj (QdX B gr _ _ hB rs17) fun vv19 W10 hh19 => ?_
  obtain ⟨q10, rs19, hv19⟩ := hh19
  have x10 : ExtB gr w W10 := ExtB.tr x9 q10
  subst hv19
  refine Qab (.pointer (some ⟨g10, 199, none⟩)) 39 rfl kj kj ?_
  have r10_9 := (ExtB.row q9 r10_8 (Ne.symm (Nat.ne_of_lt (Nat.lt_of_lt_of_le hgr b10))))
  have r10_10 := (ExtB.row q10 r10_9 (Ne.symm (Nat.ne_of_lt (Nat.lt_of_lt_of_le hgr b10))))
  refine Qav g10 _ (cat [ints .u8 (keyV (Qag (s) 32)), #[.int .i64 ((bigN (Qag (Qac (s) 32) 4) : Nat) : Int)], #[.int .i64 ((bigN (Qag (Qac (Qac (s) 32) 4) 1) : Nat) : Int)], ints .u8 (keyV (Qag (Qaj (Qac (Qac (s) 32) 4)) 32)), #[.int .i64 ((bigN (Qag (Qac (Qaj (Qac (Qac (s) 32) 4)) 32) 1) : Nat) : Int)], #[.bool false], #[.int .i64 0], ints .u8 (List.replicate 32 0), ints .u8 (List.replicate 32 0), ints .u8 (List.replicate 32 0), #[.slice none 0 0], ints .u8 (List.replicate 32 0), #[.int .i64 0], ints .u8 (QaY (Qag (Qax (Qac (Qac (Qaj (Qac (Qac (s) 32) 4)) 32) 1) false) 64))]) 47 r10_10 rfl kj (Qbd 45 _ _ g10 199 47 [ints .u8 (keyV (Qag (s) 32)), #[.int .i64 ((bigN (Qag (Qac (s) 32) 4) : Nat) : Int)], #[.int .i64 ((bigN (Qag (Qac (Qac (s) 32) 4) 1) : Nat) : Int)], ints .u8 (keyV (Qag (Qaj (Qac (Qac (s) 32) 4)) 32)), #[.int .i64 ((bigN (Qag (Qac (Qaj (Qac (Qac (s) 32) 4)) 32) 1) : Nat) : Int)], #[.bool false], #[.int .i64 0], ints .u8 (List.replicate 32 0), ints .u8 (List.replicate 32 0), ints .u8 (List.replicate 32 0), #[.slice none 0 0], ints .u8 (List.replicate 32 0), #[.int .i64 0]] [ints .u8 (List.replicate 64 0)] [ints .u8 (QaY (Qag (Qax (Qac (Qac (Qaj (Qac (Qac (s) 32) 4)) 32) 1) false) 64))] [] r10_10 rfl kj kj (isz (n := 64) kj ((Qad _ _).trans (Qa6 _ (Qai (Qax (Qac (Qac (Qaj (Qac (Qac (s) 32) 4)) 32) 1) false) 64)))) (by rw [Qaa, Qaa, Qaa, Qaa, Qaa, Qaa, Qaa, Qaa, Qaa, Qaa, Qaa, Qaa, Qaa]; simp only [Array.size_append, cat, ((Qad _ _).trans (List.length_replicate (n := 32))), ((Qad _ _).trans (Qam _ (Qai (Qaj (Qac (Qac (s) 32) 4)) 32))), ((Qad _ _).trans (Qam _ (Qai (s) 32)))]; rfl) (eqsz (n := 64) ((Qad _ _).trans (Qa6 _ (Qai (Qax (Qac (Qac (Qaj (Qac (Qac (s) 32) 4)) 32) 1) false) 64))) ((Qad _ _).trans (List.length_replicate (n := 64)))) (Qan _ _)) fun W11 p11 r10_11 => ?_
  have x11 : ExtB gr w W11 := ExtB.putsN x10 p11 b10
  refine Qaf ?_
  refine hK18 _ _ ?_
  refine wp_seq_k fun K20 hK20 => ?_
  refine Qae ?_
  refine Qab (.agg (cat [ints .u8 (keyV (Qag (s) 32)), #[.int .i64 ((bigN (Qag (Qac (s) 32) 4) : Nat) : Int)], #[.int .i64 ((bigN (Qag (Qac (Qac (s) 32) 4) 1) : Nat) : Int)], ints .u8 (keyV (Qag (Qaj (Qac (Qac (s) 32) 4)) 32)), #[.int .i64 ((bigN (Qag (Qac (Qaj (Qac (Qac (s) 32) 4)) 32) 1) : Nat) : Int)], #[.bool false], #[.int .i64 0], ints .u8 (List.replicate 32 0), ints .u8 (List.replicate 32 0), ints .u8 (List.replicate 32 0), #[.slice none 0 0], ints .u8 (List.replicate 32 0), #[.int .i64 0], ints .u8 (QaY (Qag (Qax (Qac (Qac (Qaj (Qac (Qac (s) 32) 4)) 32) 1) false) 64))])) 40 rfl kj (Qaz 47 _ g10 47 _ _ r10_11 rfl kj kj (isz (n := 263) kj (by rw [Qaa, Qaa, Qaa, Qaa, Qaa, Qaa, Qaa, Qaa, Qaa, Qaa, Qaa, Qaa, Qaa, Qaa]; simp only [Array.size_append, cat, ((Qad _ _).trans (List.length_replicate (n := 32))), ((Qad _ _).trans (Qam _ (Qai (Qaj (Qac (Qac (s) 32) 4)) 32))), ((Qad _ _).trans (Qam _ (Qai (s) 32))), ((Qad _ _).trans (Qa6 _ (Qai (Qax (Qac (Qac (Qaj (Qac (Qac (s) 32) 4)) 32) 1) false) 64)))]; rfl))) ?_
  have r2_2 := (ExtB.row q2 r2_1 (Ne.symm (Nat.ne_of_lt (Nat.lt_of_lt_of_le hgr b2))))
  have r2_3 := (ExtB.row q3 r2_2 (Ne.symm (Nat.ne_of_lt (Nat.lt_of_lt_of_le hgr b2))))
  have r2_4 := (ExtB.row q4 r2_3 (Ne.symm (Nat.ne_of_lt (Nat.lt_of_lt_of_le hgr b2))))
  have r2_5 := (ExtB.row q5 r2_4 (Ne.symm (Nat.ne_of_lt (Nat.lt_of_lt_of_le hgr b2))))
  have r2_6 := (ExtB.row q6 r2_5 (Ne.symm (Nat.ne_of_lt (Nat.lt_of_lt_of_le hgr b2))))
  have r2_7 := (Qau r2_6 e7)
  have r2_8 := (Puts.row p8 r2_7 (Qa2 r2_6 l10))
  have r2_9 := (ExtB.row q9 r2_8 (Ne.symm (Nat.ne_of_lt (Nat.lt_of_lt_of_le hgr b2))))
  have r2_10 := (ExtB.row q10 r2_9 (Ne.symm (Nat.ne_of_lt (Nat.lt_of_lt_of_le hgr b2))))
  have r2_11 := (Puts.row p11 r2_10 (Qa2 r2_6 l10))
  refine Qav g2 _ (cat [ints .u8 (keyV (Qag (s) 32)), #[.int .i64 ((bigN (Qag (Qac (s) 32) 4) : Nat) : Int)], #[.int .i64 ((bigN (Qag (Qac (Qac (s) 32) 4) 1) : Nat) : Int)], ints .u8 (keyV (Qag (Qaj (Qac (Qac (s) 32) 4)) 32)), #[.int .i64 ((bigN (Qag (Qac (Qaj (Qac (Qac (s) 32) 4)) 32) 1) : Nat) : Int)], #[.bool false], #[.int .i64 0], ints .u8 (List.replicate 32 0), ints .u8 (List.replicate 32 0), ints .u8 (List.replicate 32 0), #[.slice none 0 0], ints .u8 (List.replicate 32 0), #[.int .i64 0], ints .u8 (QaY (Qag (Qax (Qac (Qac (Qaj (Qac (Qac (s) 32) 4)) 32) 1) false) 64))]) 47 r2_11 rfl kj (Qat 47 _ _ g2 47 _ _ r2_11 rfl kj kj (isz (n := 263) kj (by rw [Qaa, Qaa, Qaa, Qaa, Qaa, Qaa, Qaa, Qaa, Qaa, Qaa, Qaa, Qaa, Qaa, Qaa]; simp only [Array.size_append, cat, ((Qad _ _).trans (List.length_replicate (n := 32))), ((Qad _ _).trans (Qam _ (Qai (Qaj (Qac (Qac (s) 32) 4)) 32))), ((Qad _ _).trans (Qam _ (Qai (s) 32))), ((Qad _ _).trans (Qa6 _ (Qai (Qax (Qac (Qac (Qaj (Qac (Qac (s) 32) 4)) 32) 1) false) 64)))]; rfl)) (eqsz (n := 263) (by rw [Qaa, Qaa, Qaa, Qaa, Qaa, Qaa, Qaa, Qaa, Qaa, Qaa, Qaa, Qaa, Qaa, Qaa]; simp only [Array.size_append, cat, ((Qad _ _).trans (List.length_replicate (n := 32))), ((Qad _ _).trans (List.length_replicate (n := 64)))]; rfl) (by rw [Qaa, Qaa, Qaa, Qaa, Qaa, Qaa, Qaa, Qaa, Qaa, Qaa, Qaa, Qaa, Qaa, Qaa]; simp only [Array.size_append, cat, ((Qad _ _).trans (List.length_replicate (n := 32))), ((Qad _ _).trans (Qam _ (Qai (Qaj (Qac (Qac (s) 32) 4)) 32))), ((Qad _ _).trans (Qam _ (Qai (s) 32))), ((Qad _ _).trans (Qa6 _ (Qai (Qax (Qac (Qac (Qaj (Qac (Qac (s) 32) 4)) 32) 1) false) 64)))]; rfl)) (QaC _ (by intro a ha; simp only [List.mem_cons, List.not_mem_nil, or_false] at ha; rcases ha with rfl | rfl | rfl | rfl | rfl | rfl | rfl | rfl | rfl | rfl | rfl | rfl | rfl | rfl; exact (Qan _ _); exact (Qak _ rfl); exact (Qak _ rfl); exact (Qan _ _); exact (Qak _ rfl); exact (Qak _ rfl); exact (Qak _ rfl); exact (Qan _ _); exact (Qan _ _); exact (Qan _ _); exact (Qak _ rfl); exact (Qan _ _); exact (Qak _ rfl); exact (Qan _ _)))) fun W12 p12 r2_12 => ?_
  have x12 : ExtB gr w W12 := ExtB.putsN x11 p12 b2
  refine Qaf ?_
  refine hK20 _ _ ?_
  refine wp_ret ?_
  repeat (first | with_reducible refine goR1 ?_ | with_reducible refine goR2 ?_)
  have rs21 := (RSt.put (RSt.put rs19 hB p11 (Nat.lt_of_lt_of_le hgr b10)) hB p12 (Nat.lt_of_lt_of_le hgr b2))
  exact (show bodyPost _ _ _ .ret _ _ from ret1 (.agg (cat [ints .u8 (keyV (Qag (s) 32)), #[.int .i64 ((bigN (Qag (Qac (s) 32) 4) : Nat) : Int)], #[.int .i64 ((bigN (Qag (Qac (Qac (s) 32) 4) 1) : Nat) : Int)], ints .u8 (keyV (Qag (Qaj (Qac (Qac (s) 32) 4)) 32)), #[.int .i64 ((bigN (Qag (Qac (Qaj (Qac (Qac (s) 32) 4)) 32) 1) : Nat) : Int)], #[.bool false], #[.int .i64 0], ints .u8 (List.replicate 32 0), ints .u8 (List.replicate 32 0), ints .u8 (List.replicate 32 0), #[.slice none 0 0], ints .u8 (List.replicate 32 0), #[.int .i64 0], ints .u8 (QaY (Qag (Qax (Qac (Qac (Qaj (Qac (Qac (s) 32) 4)) 32) 1) false) 64))])) rfl (QaR g2 47 _ r2_12 kj kj (isz (n := 263) kj (by rw [Qaa, Qaa, Qaa, Qaa, Qaa, Qaa, Qaa, Qaa, Qaa, Qaa, Qaa, Qaa, Qaa, Qaa]; simp only [Array.size_append, cat, ((Qad _ _).trans (List.length_replicate (n := 32))), ((Qad _ _).trans (Qam _ (Qai (Qaj (Qac (Qac (s) 32) 4)) 32))), ((Qad _ _).trans (Qam _ (Qai (s) 32))), ((Qad _ _).trans (Qa6 _ (Qai (Qax (Qac (Qac (Qaj (Qac (Qac (s) 32) 4)) 32) 1) false) 64)))]; rfl))) ⟨_, rfl, x12, (show RSt B gr (Qaw s) _ by have h9 := rs21; unfold Qaw; rw [eM]; exact h9), [], _, _, by rw [eUs, eNm, eKy, eSg, ePa, eSt, eAt]; unfold qSig; rw [eM]; rfl, QbV _ _ _ _, by decide, fun _ => by rw [eL]⟩)
theorem QhK (B gr : Nat) (s : Option (List Int)) (w : World) (hB : B ≤ gr) (h : RSt B gr s w) : Calls Try.prog 61 #[.pointer (some ⟨gr, 0, none⟩)] w (Qbj B gr w (Qaw s) fun v W => ∃ (xz : List Int) (a : Option Addr) (c : Nat), v = .agg (cat [ints .u8 (qGrp s), #[.int .i64 (qEp s)], #[.int .i64 (qFr s)], ints .u8 (qBa s), #[.int .i64 ((qKd s : Nat) : Int)], #[.bool (qUs s)], #[.int .i64 (qNm s)], ints .u8 (qKy s), ints .u8 (qSg s), ints .u8 (qPa s), #[.slice a xz.length c], ints .u8 (qSt s), #[.int .i64 (qAt s)], ints .u8 (qSig s)]) ∧ OwnN .i64 3 w.heap.size xz (.slice a xz.length c) W ∧ xz.length ≤ 255 ∧ (Qaw s ≠ none → xz = qL s)) := by
  rcases (show bigN (Qag (qS4 s) 1) = 1 ∨ bigN (Qag (qS4 s) 1) = 2 ∨ bigN (Qag (qS4 s) 1) = 3 ∨ (bigN (Qag (qS4 s) 1) < 1 ∨ 3 < bigN (Qag (qS4 s) 1)) by omega) with hk | hk | hk | hk
  · exact QgS B gr s w hB h hk
  · exact QgR B gr s w hB h hk
  · exact QgQ B gr s w hB h hk
  · exact QgP B gr s w hB h hk
end Go.Proofs.Ytfelfmchachljaa.Wr
end
section
namespace Go.Proofs.Ytfelfmchachljaa.Wr
open Go Go.RowKit
open Rely Auto Own Sha
set_option linter.unusedVariables false
set_option linter.unusedSimpArgs false
def itG (F : Option (List Int) → Option (List Int)) (s : Option (List Int)) : Nat → Option (List Int)
  | 0 => s
  | i + 1 => F (itG F s i)
def lsN (s : Option (List Int)) : Nat := bigN (Qag s 1)
def lsR (F : Option (List Int) → Option (List Int)) (s : Option (List Int)) : Option (List Int) := itG F (Qac s 1) (lsN s)
theorem Qbk {F : Option (List Int) → Option (List Int)} (hF : F none = none) (s : Option (List Int)) (i : Nat) (h : itG F s i = none) : ∀ n, i ≤ n → itG F s n = none
  | 0, hn => by obtain rfl : i = 0 := by omega
                exact h
  | n + 1, hn => by
    by_cases e : i = n + 1
    · rw [← e]; exact h
    · show F (itG F s n) = none
      rw [Qbk hF s i h n (by omega)]; exact hF
def Qba (s : Option (List Int)) : Option (List Int) := lsR rowR (Qac s 32)
def Qbc (s : Option (List Int)) : Option (List Int) := Qax (lsR Qba (QaA s)) (decide (((lsN (QaA s) : Nat) : Int) ≤ 5))
theorem Qcu : rowR none = none := rfl
theorem Qb1 : Qba none = none := Qbk Qcu _ 0 rfl _ (Nat.zero_le _)
theorem Qc6 : QaA none = none := by
  have e6 : nR6 none = none := QdH (Qac (nR5 none) 1) 0 rfl _ (Nat.zero_le _)
  unfold QaA
  rw [e6, QaO, QaO]
theorem Qcg : Qaw none = none := by
  have h5 : qS5 none = none := by unfold qS5 qS4 qS3 qS2 qS1; rw [show Qac (Qac none 32) 4 = none from rfl, Qb4]; rfl
  unfold Qaw Qb8
  rw [h5, Qc6, Qb4, QaO]
  cases qKd none == 1 <;> cases qKd none == 2 <;> cases qKd none == 3 <;> rfl
def RwIs (s : Option (List Int)) (r : RwV) : Prop := r.xs = rowL s
def StIs (s : Option (List Int)) (t : StV) : Prop := t.key = keyV (Qag s 32) ∧ t.rows.length = lsN (Qac s 32) ∧ ∀ j, j < t.rows.length → RwIs (itG rowR (Qac (Qac s 32) 1) j) (t.rows.getD j rw0)
structure PrIs (s : Option (List Int)) (p : PrV) : Prop where
  grp : p.p.grp = qGrp s
  ep : p.p.ep = qEp s
  fr : p.p.fr = qFr s
  bas : p.p.bas = qBa s
  kd : p.p.kd = ((qKd s : Nat) : Int)
  us : p.p.n.us = qUs s
  nm : p.p.n.nm = qNm s
  key : p.p.n.key = qKy s
  sg : p.p.n.sg = qSg s
  pa : p.p.n.pa = qPa s
  ms : p.p.n.ms = qL s
  start : p.p.start = qSt s
  at_ : p.p.at_ = qAt s
  sig : p.p.sig = qSig s
theorem QcT {α : Type} (ts : List α) (n d : α) (j : Nat) : (ts ++ [n]).getD j d = if j < ts.length then ts.getD j d else if j = ts.length then n else d := by
  rw [List.getD_eq_getElem?_getD, List.getD_eq_getElem?_getD]
  split
  · rename_i h; rw [List.getElem?_append_left h]
  · rename_i h
    rw [List.getElem?_append_right (by omega)]
    split
    · rename_i h2; rw [h2, Nat.sub_self]; rfl
    · rw [List.getElem?_eq_none (by simp; omega)]; rfl
theorem QgM (n : StV) : ∀ u ∈ (cat (stP n)).toList, u.oneCell' = true := by
  intro u hu
  unfold stP at hu
  simp only [cat, Array.toList_append, ints, List.mem_append, List.mem_map, List.mem_cons, List.not_mem_nil, or_false] at hu
  rcases hu with ⟨x, -, rfl⟩ | rfl <;> rfl
theorem Qhh (n : PrV) : ∀ u ∈ (cat (prP n)).toList, u.oneCell' = true := by
  intro u hu
  unfold prP at hu
  simp only [cat, Array.toList_append, ints, List.mem_append, List.mem_map, List.mem_cons, List.not_mem_nil, or_false] at hu
  rcases hu with ⟨x, -, rfl⟩ | rfl | rfl | ⟨x, -, rfl⟩ | rfl | rfl | rfl | ⟨x, -, rfl⟩ | ⟨x, -, rfl⟩ | ⟨x, -, rfl⟩ | rfl | ⟨x, -, rfl⟩ | rfl | ⟨x, -, rfl⟩ <;> rfl
theorem ByS.leaf {s : Option (List Int)} (h : ByS s) : ByS (Qaj s) := by
  intro ys hy
  unfold Qaj Qax at hy
  cases hd : decide (((bigN (Qag s 1) : Nat) : Int) < 32) with
  | true => rw [hd] at hy; exact h.take 1 ys hy
  | false => rw [hd] at hy; cases hy
theorem ByS.must {s : Option (List Int)} (h : ByS s) (b : Bool) : ByS (Qax s b) := by
  cases b with
  | true => exact h
  | false => intro ys hy; cases hy
theorem ByS.leaves {s : Option (List Int)} (h : ByS s) : ∀ n, ByS (itR s n)
  | 0 => h
  | n + 1 => (ByS.leaves h n).leaf
theorem ByS.node {s : Option (List Int)} (h : ByS s) : ByS (QaA s) := by
  unfold QaA nR6 nR5 nR4 nR3 nR2 nR1
  exact (((((((h.take 1).take 1).take 32).take 32).take 32).take 1).leaves _ |>.must _).must _
theorem QbP (n : Nat) : Qao (List.replicate n (0 : Int)) := fun x hx => by rw [(List.mem_replicate.1 hx).2]; decide
theorem Qiq {s : Option (List Int)} (h : ByS s) (ms : List Int) : PrOk ⟨qGrp s, qEp s, qFr s, qBa s, ((qKd s : Nat) : Int), ⟨qUs s, qNm s, qKy s, qSg s, qPa s, ms⟩, qSt s, qAt s, qSig s⟩ := by
  have h3 : ByS (qS3 s) := ((h.take 32).take 4).leaf
  have h5 : ByS (qS5 s) := (h3.take 32).take 1
  have hn := Qis h5 true 0 []
  have hM : ByS (Qb8 s) := by
    unfold Qb8
    cases qKd s == 1 with
    | true => exact h5.node.take 32
    | false =>
      cases qKd s == 2 with
      | true => exact h5.node
      | false =>
        cases qKd s == 3 with
        | true => exact h5.leaf
        | false => exact (h5.must false : ByS (Qax (qS5 s) false))
  refine ⟨Qgo s, Qbr _ (h.bytes 32), Qhb s, Qbr _ (h3.bytes 32), ⟨Qha s, QgY s, QgZ s, ?_, ?_, ?_⟩, QgX s, ?_, Qgn s, Qep _ (hM.bytes 64)⟩
  · unfold qKy; cases qNd s; exact QbP 32; exact hn.kb
  · unfold qSg; cases qNd s; exact QbP 32; exact hn.gb
  · unfold qPa; cases qNd s; exact QbP 32; exact hn.pb
  · unfold qSt; cases qKd s == 1; exact QbP 32; exact Qbr _ (h5.node.bytes 32)
set_option maxHeartbeats 4000000 in
set_option maxRecDepth 100000 in
theorem Qfx (B gr : Nat) (s : Option (List Int)) (w : World) (hB : B ≤ gr) (h : RSt B gr s w) : Calls Try.prog 131 #[.pointer (some ⟨gr, 0, none⟩), .func (.func 118) #[] #[]] w (Qbj B gr w (lsR rowR s) fun v W => ∃ ts : List RwV, QbO w.heap.size ts v W ∧ ts.length ≤ 255 ∧ (lsR rowR s ≠ none → ts.length = lsN s ∧ ∀ j, j < ts.length → RwIs (itG rowR (Qac s 1) j) (ts.getD j rw0))) := by
 have hgr := h.lt
 have hN : bigN (Qag s 1) < 256 := QcB _ (h.bytes 1) 1 (Qai s 1)
 refine enter 22 [(0, .pointer (some ⟨gr, 0, none⟩)), (1, .func (.func 118) #[] #[])] Try.func131 rfl rfl kj rfl ?_
 refine wp_seq_k fun K1 hK1 => ?_
 refine Qae ?_
 refine Qab (.slice none 0 0) 4 rfl kj kj ?_
 refine Qaf ?_
 refine hK1 _ _ ?_
 refine wp_seq_k fun K2 hK2 => ?_
 refine Qae ?_
 refine Qab (.slice none 0 0) 5 rfl kj kj ?_
 refine Qaf ?_
 refine hK2 _ _ ?_
 refine wp_seq_k fun K3 hK3 => ?_
 refine wp_seq_k fun K4 hK4 => ?_
 refine Qae ?_
 refine Qab (.pointer (some ⟨gr, 0, none⟩)) 6 rfl kj kj ?_
 refine Qah (fun v W' => ExtB gr w W' ∧ RSt B gr (Qac (s) 1) W' ∧ (fun (v : Value) (_ : World) => v = .int .i64 ((bigN (Qag (s) 1) : Nat) : Int)) v W') 110 #[.pointer (some ⟨gr, 0, none⟩), .int .i64 1] 7 rfl kj kj (QaQ B gr _ 1 _ hB h (by decide)) fun vv5 W1 hh5 => ?_
 obtain ⟨q1, rs5, hv5⟩ := hh5
 have x1 : ExtB gr w W1 := ExtB.tr (ExtB.refl gr w) q1
 subst hv5
 refine Qab (.int .i64 0) 8 rfl kj kj ?_
 refine Qaf ?_
 refine hK4 _ _ ?_
 refine wp_block ?_
 refine QaX (fun (s1 : Nat × Value × List RwV) => [(0, .pointer (some ⟨gr, 0, none⟩)), (1, .func (.func 118) #[] #[]), (5, s1.2.1), (7, .int .i64 ((bigN (Qag (s) 1) : Nat) : Int)), (8, .int .i64 ((s1.1 : Nat) : Int))]) (fun (s1 : Nat × Value × List RwV) W => (s1.1 ≤ bigN (Qag s 1)) ∧ (RSt B gr (itG rowR (Qac s 1) s1.1) W) ∧ (QbO w.heap.size s1.2.2 s1.2.1 W) ∧ (s1.2.2.length = s1.1) ∧ (itG rowR (Qac s 1) s1.1 ≠ none → ∀ j, j < s1.2.2.length → RwIs (itG rowR (Qac s 1) j) (s1.2.2.getD j rw0)) ∧ (ExtB gr w W)) (fun (s1 : Nat × Value × List RwV) => bigN (Qag s 1) - s1.1) (0, (.slice none 0 0), []) ⟨rfl, rfl, rfl, rfl, rfl, trivial⟩ ⟨(Nat.zero_le _), rs5, (OwL.nil _), rfl, (fun _ j hj => absurd hj (Nat.not_lt_zero _)), x1⟩ fun s1 X1 V1 hI1 => ?_
 obtain ⟨i, u, ts⟩ := s1
 obtain ⟨hi, hrs, hu, htl, hnd, xx1⟩ := hI1
 replace hi : i ≤ bigN (Qag s 1) := hi
 replace hrs : RSt B gr (itG rowR (Qac s 1) i) V1 := hrs
 replace hu : QbO w.heap.size ts u V1 := hu
 replace htl : ts.length = i := htl
 replace hnd : itG rowR (Qac s 1) i ≠ none → ∀ j, j < ts.length → RwIs (itG rowR (Qac s 1) j) (ts.getD j rw0) := hnd
 replace xx1 : ExtB gr w V1 := xx1
 refine wp_seq_k fun K6 hK6 => ?_
 refine Qae ?_
 refine Qab (.bool (decide (((i : Nat) : Int) < ((bigN (Qag (s) 1) : Nat) : Int)))) 9 rfl kj kj ?_
 refine Qaf ?_
 refine hK6 _ _ ?_
 refine wp_seq_k fun K7 hK7 => ?_
 refine Qa7 (t := decide (((i : Nat) : Int) < ((bigN (Qag (s) 1) : Nat) : Int))) kj (fun c8 => ?_) (fun c8 => ?_)
 ·skip
  have hlt9 : i < bigN (Qag s 1) := by have := of_decide_eq_true c8; omega
  refine wp_skip ?_
  refine hK7 _ _ ?_
  refine wp_seq_k fun K9 hK9 => ?_
  refine wp_block ?_
  refine wp_seq_k fun K10 hK10 => ?_
  refine wp_seq_k fun K11 hK11 => ?_
  refine Qae ?_
  obtain ⟨u12, xs12, bad, rb12, -, -, hsc⟩ := id hrs
  refine Qab (.pointer (some ⟨gr, 0, none⟩)) 10 rfl kj kj ?_
  refine Qab (.pointer (some ⟨gr, 0, none⟩)) 11 rfl kj kj ?_
  refine Qab (.pointer (some ⟨gr, 1, none⟩)) 12 rfl kj kj ?_
  refine Qab (.bool bad) 13 rfl kj (Qal 4 _ gr 1 179 _ (.bool bad) _ rb12 rfl kj kj kj) ?_
  refine Qaf ?_
  refine hK11 _ _ ?_
  refine Qa7 (t := bad) kj (fun c14 => ?_) (fun c14 => ?_)
  ·skip
   have hbad : bad = true := c14
   have h9 : itG rowR (Qac s 1) i = none := by rw [hsc, hbad]; rfl
   have h8 : itG rowR (Qac s 1) (bigN (Qag s 1)) = none := Qbk Qcu _ i h9 _ hi
   have hrs3 : RSt B gr (itG rowR (Qac s 1) (bigN (Qag s 1))) V1 := by rw [h8, ← h9]; exact hrs
   refine wp_seq_k fun K15 hK15 => ?_
   refine Qae ?_
   refine Qab (.slice none 0 0) 4 rfl kj kj ?_
   refine Qaf ?_
   refine hK15 _ _ ?_
   refine wp_ret ?_
   repeat (first | with_reducible refine goR1 ?_ | with_reducible refine goR2 ?_)
   exact (show bodyPost _ _ _ .ret _ _ from ret1 (.slice none 0 0) rfl (Qa1 kj) ⟨_, rfl, xx1, hrs3, [], OwL.nil _, by decide, fun hne => absurd h8 hne⟩)
  ·skip
   refine wp_skip ?_
   refine hK10 _ _ ?_
   refine Qae ?_
   refine Qab (u) 14 rfl kj kj ?_
   refine Qab (.func (.func 118) #[] #[]) 15 rfl kj kj ?_
   refine Qab (.pointer (some ⟨gr, 0, none⟩)) 16 rfl kj kj ?_
   refine Qah (fun v W' => ExtB gr V1 W' ∧ RSt B gr (rowR (itG rowR (Qac s 1) i)) W' ∧ (fun (v : Value) (W : World) => OwnN .u8 5 V1.heap.size (rowL (itG rowR (Qac s 1) i)) v W ∧ Qao (rowL (itG rowR (Qac s 1) i)) ∧ (rowL (itG rowR (Qac s 1) i)).length ≤ 65535) v W') 118 #[.pointer (some ⟨gr, 0, none⟩)] 17 rfl kj kj (Qf5 B gr _ _ hB hrs) fun vv16 W3 hh16 => ?_
   obtain ⟨q3, rs16, hv16⟩ := hh16
   have x3 : ExtB gr w W3 := ExtB.tr xx1 q3
   obtain ⟨ho17, hb17, hl17⟩ := hv16
   obtain ⟨a17_, c17_, rfl, -⟩ := id (OwnN.rd ho17)
   obtain ⟨tt17, htt17⟩ : ∃ z : RwV, z = ⟨rowL (itG rowR (Qac s 1) i), a17_, c17_⟩ := ⟨_, rfl⟩
   have hin17 : InRw V1.heap.size tt17 W3 := by rw [htt17]; exact ⟨hb17, hl17, ho17⟩
   have his17 : rowR (itG rowR (Qac s 1) i) ≠ none → RwIs (itG rowR (Qac s 1) i) tt17 := fun _ => by rw [htt17]; rfl
   refine Qdz (.cells #[.slice a17_ (rowL (itG rowR (Qac s 1) i)).length c17_] 26) (fun g => .slice (some ⟨g, 0, none⟩) 1 1) 18 rfl kj (Qew 127 26 1 _ (.slice a17_ (rowL (itG rowR (Qac s 1) i)).length c17_) rfl kj kj kj kj kj (by decide) (by decide)) fun gz W4 lz e4 rz => ?_
   have x4 : ExtB gr w W4 := ExtB.ext x3 e4
   refine Qd0 inRw (by decide) 24 (.tmp 14) (.tmp 18) 127 rfl kj kj (by decide) (by decide) 19 rfl kj kj kj (OwL.rows inRw (OwL.rows inRw hu (Qbb 0 q3 hgr) (by decide)) (QbH _ 0 e4) (by decide)) (n := tt17) (cells := #[Value.slice tt17.a tt17.xs.length tt17.c]) (inRw 0 (by decide) _ _ _ _ (QbH _ 0 e4) (InRw.base xx1.2.2.2.1 tt17 hin17)) rfl rfl (fun u hu => by simp only [List.mem_cons, List.not_mem_nil, or_false] at hu; subst hu; rfl) (by rw [htt17]; exact rz) (by omega) x4.2.2.2.1 fun u2 W5 hu2 l5 => ?_
   have x5 : ExtB gr w W5 := ExtB.low x4 l5 (Nat.le_refl _)
   refine Qab (u2) 5 rfl kj kj ?_
   refine Qaf ?_
   refine hK9 _ _ ?_
   refine Qae ?_
   refine Qab (.int .i64 ((i + 1 : Nat) : Int)) 20 rfl kj (Qa0 (u := .int .i64 (IntKind.i64.wrap (((i : Nat) : Int) + 1))) kj (congrArg (Value.int .i64) (i64n _ _ (by omega) (by omega)))) ?_
   refine Qab (.int .i64 ((i + 1 : Nat) : Int)) 8 rfl kj kj ?_
   refine Qaf ?_
   have hts2 : (ts ++ [tt17]).length = i + 1 := by rw [List.length_append, List.length_singleton]; omega
   have hnd2 : itG rowR (Qac s 1) (i + 1) ≠ none → ∀ j, j < (ts ++ [tt17]).length → RwIs (itG rowR (Qac s 1) j) ((ts ++ [tt17]).getD j rw0) := by
    intro hne j hj
    rw [QcT]
    split
    ·rename_i h5
     exact hnd (fun h6 => hne (Qbk Qcu _ i h6 _ (by omega))) j h5
    ·rename_i h5
     obtain rfl : j = ts.length := by omega
     rw [if_pos rfl, htl]
     exact his17 hne
   have rs18 := (RSt.low (RSt.ext rs16 hB e4) hB l5 hgr)
   repeat (first | with_reducible refine goX1 ?_ | with_reducible refine goX2 ?_ | with_reducible refine goX3 ?_)
   exact QaU ((i + 1), u2, (ts ++ [tt17])) ⟨rfl, rfl, rfl, rfl, rfl, trivial⟩ ⟨(by omega), rs18, hu2, hts2, hnd2, x5⟩ (by omega)
 ·skip
  have heq9 : i = bigN (Qag s 1) := by have := of_decide_eq_false c8; omega
  have hrs2 := hrs
  rw [heq9] at hrs2
  refine wp_exit ?_
  refine hK3 _ _ ?_
  refine wp_seq_k fun K19 hK19 => ?_
  refine Qae ?_
  refine Qab (u) 21 rfl kj kj ?_
  refine Qab (u) 4 rfl kj kj ?_
  refine Qaf ?_
  refine hK19 _ _ ?_
  refine wp_ret ?_
  repeat (first | with_reducible refine goR1 ?_ | with_reducible refine goR2 ?_)
  exact (show bodyPost _ _ _ .ret _ _ from ret1 (u) rfl (Qa1 kj) ⟨_, rfl, xx1, hrs2, ts, hu, by omega, fun hne => ⟨(show ts.length = bigN (Qag s 1) by omega), fun j hj => hnd (by rw [heq9]; exact hne) j hj⟩⟩)
set_option maxHeartbeats 4000000 in
theorem QhG (B gr : Nat) (s : Option (List Int)) (w : World) (hB : B ≤ gr) (h : RSt B gr s w) : Calls Try.prog 128 #[.pointer (some ⟨gr, 0, none⟩)] w (Qbj B gr w (Qba s) fun v W => ∃ t : StV, v = .agg (cat [ints .u8 t.key, #[.slice t.a t.rows.length t.c]]) ∧ InSt w.heap.size t W ∧ (Qba s ≠ none → StIs s t)) := by
  have hgr := h.lt
  refine enter 8 [(0, .pointer (some ⟨gr, 0, none⟩))] Try.func128 rfl rfl kj rfl ?_
  refine wp_seq_k fun K1 hK1 => ?_
  refine Qae ?_
  refine Qar (cat [ints .u8 (List.replicate 32 0), #[.slice none 0 0]]) 129 2 rfl kj kj fun g2 W1 l2 e1 r2_1 => ?_
  have x1 : ExtB gr w W1 := ExtB.ext (ExtB.refl gr w) e1
  have b2 : w.heap.size ≤ g2 := Nat.le_trans (ExtB.refl gr w).size l2
  refine Qaf ?_
  refine hK1 _ _ ?_
  refine wp_seq_k fun K3 hK3 => ?_
  refine Qae ?_
  refine Qab (.pointer (some ⟨gr, 0, none⟩)) 3 rfl kj kj ?_
  have rs4 := (RSt.ext h hB e1)
  refine Qah (fun v W' => ExtB gr W1 W' ∧ RSt B gr (Qac (s) 32) W' ∧ (fun (v : Value) (_ : World) => v = .agg (ints .u8 (keyV (Qag (s) 32)))) v W') 109 #[.pointer (some ⟨gr, 0, none⟩)] 4 rfl kj kj (Qb7 B gr _ _ hB rs4) fun vv5 W2 hh5 => ?_
  obtain ⟨q2, rs5, hv5⟩ := hh5
  have x2 : ExtB gr w W2 := ExtB.tr x1 q2
  subst hv5
  refine Qab (.pointer (some ⟨gr, 0, none⟩)) 5 rfl kj kj ?_
  refine Qah (fun v W' => ExtB gr W2 W' ∧ RSt B gr (lsR rowR (Qac (s) 32)) W' ∧ (fun (v : Value) (W : World) => ∃ ts : List RwV, QbO W2.heap.size ts v W ∧ ts.length ≤ 255 ∧ (lsR rowR (Qac (s) 32) ≠ none → ts.length = lsN (Qac (s) 32) ∧ ∀ j, j < ts.length → RwIs (itG rowR (Qac (Qac (s) 32) 1) j) (ts.getD j rw0))) v W') 131 #[.pointer (some ⟨gr, 0, none⟩), .func (.func 118) #[] #[]] 6 rfl kj kj (Qfx B gr _ _ hB rs5) fun vv6 W3 hh6 => ?_
  obtain ⟨q3, rs6, hv6⟩ := hh6
  have x3 : ExtB gr w W3 := ExtB.tr x2 q3
  obtain ⟨lsR, howR, hlnR, hisR⟩ := hv6
  obtain ⟨alR, clR, rfl⟩ := howR.sl
  refine Qab (.agg (cat [ints .u8 (keyV (Qag (s) 32)), #[.slice alR lsR.length clR]])) 7 rfl kj (QbL 129 _ (.agg (cat [ints .u8 (List.replicate 32 0), #[.slice none 0 0]])) #[(0, 32), (32, 1)] [(0, 32, .agg (ints .u8 (keyV (Qag (s) 32))), ints .u8 (keyV (Qag (s) 32))), (1, 1, .slice alR lsR.length clR, #[.slice alR lsR.length clR])] rfl kj ⟨kj, rfl, ((Qad _ _).trans (Qam _ (Qai (s) 32))), kj, rfl, kj, trivial⟩ kj kj kj kj) ?_
  have r2_2 := (ExtB.row q2 r2_1 (Ne.symm (Nat.ne_of_lt (Nat.lt_of_lt_of_le hgr b2))))
  have r2_3 := (ExtB.row q3 r2_2 (Ne.symm (Nat.ne_of_lt (Nat.lt_of_lt_of_le hgr b2))))
  refine Qav g2 _ (cat [ints .u8 (keyV (Qag (s) 32)), #[.slice alR lsR.length clR]]) 129 r2_3 rfl kj (Qat 129 _ _ g2 129 _ _ r2_3 rfl kj kj (isz (n := 33) kj (by rw [Qaa, Qaa]; simp only [Array.size_append, cat, ((Qad _ _).trans (Qam _ (Qai (s) 32)))]; rfl)) (eqsz (n := 33) (by rw [Qaa, Qaa]; simp only [Array.size_append, cat, ((Qad _ _).trans (List.length_replicate (n := 32)))]; rfl) (by rw [Qaa, Qaa]; simp only [Array.size_append, cat, ((Qad _ _).trans (Qam _ (Qai (s) 32)))]; rfl)) (QaC _ (by intro a ha; simp only [List.mem_cons, List.not_mem_nil, or_false] at ha; rcases ha with rfl | rfl; exact (Qan _ _); exact (Qak _ rfl)))) fun W4 p4 r2_4 => ?_
  have x4 : ExtB gr w W4 := ExtB.putsN x3 p4 b2
  refine Qaf ?_
  refine hK3 _ _ ?_
  refine wp_ret ?_
  repeat (first | with_reducible refine goR1 ?_ | with_reducible refine goR2 ?_)
  have rs8 := (RSt.put rs6 hB p4 (Nat.lt_of_lt_of_le hgr b2))
  exact (show bodyPost _ _ _ .ret _ _ from ret1 (.agg (cat [ints .u8 (keyV (Qag (s) 32)), #[.slice alR lsR.length clR]])) rfl (QaR g2 129 _ r2_4 kj kj (isz (n := 33) kj (by rw [Qaa, Qaa]; simp only [Array.size_append, cat, ((Qad _ _).trans (Qam _ (Qai (s) 32)))]; rfl))) ⟨_, rfl, x4, (show RSt B gr (Qba s) _ from rs8), ⟨keyV (Qag s 32), lsR, alR, clR⟩, rfl, ⟨Qam _ (Qai s 32), Qbr _ (h.bytes 32), hlnR, (QbO.base_ x2.2.2.2.1 (OwL.rows inRw howR (Qbt _ p4 r2_3) (by decide)))⟩, fun hne => ⟨rfl, (hisR hne).1, (hisR hne).2⟩⟩)
set_option maxHeartbeats 4000000 in
set_option maxRecDepth 100000 in
theorem Qfw (B gr : Nat) (s : Option (List Int)) (w : World) (hB : B ≤ gr) (h : RSt B gr s w) : Calls Try.prog 127 #[.pointer (some ⟨gr, 0, none⟩), .func (.func 128) #[] #[]] w (Qbj B gr w (lsR Qba s) fun v W => ∃ ts : List StV, Qbn w.heap.size ts v W ∧ ts.length ≤ 255 ∧ (lsR Qba s ≠ none → ts.length = lsN s ∧ ∀ j, j < ts.length → StIs (itG Qba (Qac s 1) j) (ts.getD j st0))) := by
 have hgr := h.lt
 have hN : bigN (Qag s 1) < 256 := QcB _ (h.bytes 1) 1 (Qai s 1)
 refine enter 22 [(0, .pointer (some ⟨gr, 0, none⟩)), (1, .func (.func 128) #[] #[])] Try.func127 rfl rfl kj rfl ?_
 refine wp_seq_k fun K1 hK1 => ?_
 refine Qae ?_
 refine Qab (.slice none 0 0) 4 rfl kj kj ?_
 refine Qaf ?_
 refine hK1 _ _ ?_
 refine wp_seq_k fun K2 hK2 => ?_
 refine Qae ?_
 refine Qab (.slice none 0 0) 5 rfl kj kj ?_
 refine Qaf ?_
 refine hK2 _ _ ?_
 refine wp_seq_k fun K3 hK3 => ?_
 refine wp_seq_k fun K4 hK4 => ?_
 refine Qae ?_
 refine Qab (.pointer (some ⟨gr, 0, none⟩)) 6 rfl kj kj ?_
 refine Qah (fun v W' => ExtB gr w W' ∧ RSt B gr (Qac (s) 1) W' ∧ (fun (v : Value) (_ : World) => v = .int .i64 ((bigN (Qag (s) 1) : Nat) : Int)) v W') 110 #[.pointer (some ⟨gr, 0, none⟩), .int .i64 1] 7 rfl kj kj (QaQ B gr _ 1 _ hB h (by decide)) fun vv5 W1 hh5 => ?_
 obtain ⟨q1, rs5, hv5⟩ := hh5
 have x1 : ExtB gr w W1 := ExtB.tr (ExtB.refl gr w) q1
 subst hv5
 refine Qab (.int .i64 0) 8 rfl kj kj ?_
 refine Qaf ?_
 refine hK4 _ _ ?_
 refine wp_block ?_
 refine QaX (fun (s1 : Nat × Value × List StV) => [(0, .pointer (some ⟨gr, 0, none⟩)), (1, .func (.func 128) #[] #[]), (5, s1.2.1), (7, .int .i64 ((bigN (Qag (s) 1) : Nat) : Int)), (8, .int .i64 ((s1.1 : Nat) : Int))]) (fun (s1 : Nat × Value × List StV) W => (s1.1 ≤ bigN (Qag s 1)) ∧ (RSt B gr (itG Qba (Qac s 1) s1.1) W) ∧ (Qbn w.heap.size s1.2.2 s1.2.1 W) ∧ (s1.2.2.length = s1.1) ∧ (itG Qba (Qac s 1) s1.1 ≠ none → ∀ j, j < s1.2.2.length → StIs (itG Qba (Qac s 1) j) (s1.2.2.getD j st0)) ∧ (ExtB gr w W)) (fun (s1 : Nat × Value × List StV) => bigN (Qag s 1) - s1.1) (0, (.slice none 0 0), []) ⟨rfl, rfl, rfl, rfl, rfl, trivial⟩ ⟨(Nat.zero_le _), rs5, (OwL.nil _), rfl, (fun _ j hj => absurd hj (Nat.not_lt_zero _)), x1⟩ fun s1 X1 V1 hI1 => ?_
 obtain ⟨i, u, ts⟩ := s1
 obtain ⟨hi, hrs, hu, htl, hnd, xx1⟩ := hI1
 replace hi : i ≤ bigN (Qag s 1) := hi
 replace hrs : RSt B gr (itG Qba (Qac s 1) i) V1 := hrs
 replace hu : Qbn w.heap.size ts u V1 := hu
 replace htl : ts.length = i := htl
 replace hnd : itG Qba (Qac s 1) i ≠ none → ∀ j, j < ts.length → StIs (itG Qba (Qac s 1) j) (ts.getD j st0) := hnd
 replace xx1 : ExtB gr w V1 := xx1
 refine wp_seq_k fun K6 hK6 => ?_
 refine Qae ?_
 refine Qab (.bool (decide (((i : Nat) : Int) < ((bigN (Qag (s) 1) : Nat) : Int)))) 9 rfl kj kj ?_
 refine Qaf ?_
 refine hK6 _ _ ?_
 refine wp_seq_k fun K7 hK7 => ?_
 refine Qa7 (t := decide (((i : Nat) : Int) < ((bigN (Qag (s) 1) : Nat) : Int))) kj (fun c8 => ?_) (fun c8 => ?_)
 ·skip
  have hlt9 : i < bigN (Qag s 1) := by have := of_decide_eq_true c8; omega
  refine wp_skip ?_
  refine hK7 _ _ ?_
  refine wp_seq_k fun K9 hK9 => ?_
  refine wp_block ?_
  refine wp_seq_k fun K10 hK10 => ?_
  refine wp_seq_k fun K11 hK11 => ?_
  refine Qae ?_
  obtain ⟨u12, xs12, bad, rb12, -, -, hsc⟩ := id hrs
  refine Qab (.pointer (some ⟨gr, 0, none⟩)) 10 rfl kj kj ?_
  refine Qab (.pointer (some ⟨gr, 0, none⟩)) 11 rfl kj kj ?_
  refine Qab (.pointer (some ⟨gr, 1, none⟩)) 12 rfl kj kj ?_
  refine Qab (.bool bad) 13 rfl kj (Qal 4 _ gr 1 179 _ (.bool bad) _ rb12 rfl kj kj kj) ?_
  refine Qaf ?_
  refine hK11 _ _ ?_
  refine Qa7 (t := bad) kj (fun c14 => ?_) (fun c14 => ?_)
  ·skip
   have hbad : bad = true := c14
   have h9 : itG Qba (Qac s 1) i = none := by rw [hsc, hbad]; rfl
   have h8 : itG Qba (Qac s 1) (bigN (Qag s 1)) = none := Qbk Qb1 _ i h9 _ hi
   have hrs3 : RSt B gr (itG Qba (Qac s 1) (bigN (Qag s 1))) V1 := by rw [h8, ← h9]; exact hrs
   refine wp_seq_k fun K15 hK15 => ?_
   refine Qae ?_
   refine Qab (.slice none 0 0) 4 rfl kj kj ?_
   refine Qaf ?_
   refine hK15 _ _ ?_
   refine wp_ret ?_
   repeat (first | with_reducible refine goR1 ?_ | with_reducible refine goR2 ?_)
   exact (show bodyPost _ _ _ .ret _ _ from ret1 (.slice none 0 0) rfl (Qa1 kj) ⟨_, rfl, xx1, hrs3, [], OwL.nil _, by decide, fun hne => absurd h8 hne⟩)
  ·skip
   refine wp_skip ?_
   refine hK10 _ _ ?_
   refine Qae ?_
   refine Qab (u) 14 rfl kj kj ?_
   refine Qab (.func (.func 128) #[] #[]) 15 rfl kj kj ?_
   refine Qab (.pointer (some ⟨gr, 0, none⟩)) 16 rfl kj kj ?_
   refine Qah (fun v W' => ExtB gr V1 W' ∧ RSt B gr (Qba (itG Qba (Qac s 1) i)) W' ∧ (fun (v : Value) (W : World) => ∃ t : StV, v = .agg (cat [ints .u8 t.key, #[.slice t.a t.rows.length t.c]]) ∧ InSt V1.heap.size t W ∧ (Qba (itG Qba (Qac s 1) i) ≠ none → StIs (itG Qba (Qac s 1) i) t)) v W') 128 #[.pointer (some ⟨gr, 0, none⟩)] 17 rfl kj kj (QhG B gr _ _ hB hrs) fun vv16 W3 hh16 => ?_
   obtain ⟨q3, rs16, hv16⟩ := hh16
   have x3 : ExtB gr w W3 := ExtB.tr xx1 q3
   obtain ⟨tt17, rfl, hin17, his17⟩ := hv16
   refine Qdz (.cells (cat [ints .u8 (tt17.key), #[.slice tt17.a tt17.rows.length tt17.c]]) 129) (fun g => .slice (some ⟨g, 0, none⟩) 1 1) 18 rfl kj (Qew 55 129 33 _ (.agg (cat [ints .u8 (tt17.key), #[.slice tt17.a tt17.rows.length tt17.c]])) rfl kj kj kj kj (QbR tt17 hin17.1) (by decide) (by decide)) fun gz W4 lz e4 rz => ?_
   have x4 : ExtB gr w W4 := ExtB.ext x3 e4
   refine Qd0 inSt (by decide) 56 (.tmp 14) (.tmp 18) 55 rfl kj kj (by decide) (by decide) 19 rfl kj kj kj (OwL.rows inSt (OwL.rows inSt hu (Qbb 0 q3 hgr) (by decide)) (QbH _ 0 e4) (by decide)) (n := tt17) (cells := (cat (stP tt17))) (inSt 0 (by decide) _ _ _ _ (QbH _ 0 e4) (InSt.base xx1.2.2.2.1 tt17 hin17)) rfl (QbR tt17 hin17.1) (QgM tt17) rz (by omega) x4.2.2.2.1 fun u2 W5 hu2 l5 => ?_
   have x5 : ExtB gr w W5 := ExtB.low x4 l5 (Nat.le_refl _)
   refine Qab (u2) 5 rfl kj kj ?_
   refine Qaf ?_
   refine hK9 _ _ ?_
   refine Qae ?_
   refine Qab (.int .i64 ((i + 1 : Nat) : Int)) 20 rfl kj (Qa0 (u := .int .i64 (IntKind.i64.wrap (((i : Nat) : Int) + 1))) kj (congrArg (Value.int .i64) (i64n _ _ (by omega) (by omega)))) ?_
   refine Qab (.int .i64 ((i + 1 : Nat) : Int)) 8 rfl kj kj ?_
   refine Qaf ?_
   have hts2 : (ts ++ [tt17]).length = i + 1 := by rw [List.length_append, List.length_singleton]; omega
   have hnd2 : itG Qba (Qac s 1) (i + 1) ≠ none → ∀ j, j < (ts ++ [tt17]).length → StIs (itG Qba (Qac s 1) j) ((ts ++ [tt17]).getD j st0) := by
    intro hne j hj
    rw [QcT]
    split
    ·rename_i h5
     exact hnd (fun h6 => hne (Qbk Qb1 _ i h6 _ (by omega))) j h5
    ·rename_i h5
     obtain rfl : j = ts.length := by omega
     rw [if_pos rfl, htl]
     exact his17 hne
   have rs18 := (RSt.low (RSt.ext rs16 hB e4) hB l5 hgr)
   repeat (first | with_reducible refine goX1 ?_ | with_reducible refine goX2 ?_ | with_reducible refine goX3 ?_)
   exact QaU ((i + 1), u2, (ts ++ [tt17])) ⟨rfl, rfl, rfl, rfl, rfl, trivial⟩ ⟨(by omega), rs18, hu2, hts2, hnd2, x5⟩ (by omega)
 ·skip
  have heq9 : i = bigN (Qag s 1) := by have := of_decide_eq_false c8; omega
  have hrs2 := hrs
  rw [heq9] at hrs2
  refine wp_exit ?_
  refine hK3 _ _ ?_
  refine wp_seq_k fun K19 hK19 => ?_
  refine Qae ?_
  refine Qab (u) 21 rfl kj kj ?_
  refine Qab (u) 4 rfl kj kj ?_
  refine Qaf ?_
  refine hK19 _ _ ?_
  refine wp_ret ?_
  repeat (first | with_reducible refine goR1 ?_ | with_reducible refine goR2 ?_)
  exact (show bodyPost _ _ _ .ret _ _ from ret1 (u) rfl (Qa1 kj) ⟨_, rfl, xx1, hrs2, ts, hu, by omega, fun hne => ⟨(show ts.length = bigN (Qag s 1) by omega), fun j hj => hnd (by rw [heq9]; exact hne) j hj⟩⟩)
set_option maxHeartbeats 4000000 in
set_option maxRecDepth 100000 in
theorem Qfy (B gr : Nat) (s : Option (List Int)) (w : World) (hB : B ≤ gr) (h : RSt B gr s w) : Calls Try.prog 115 #[.pointer (some ⟨gr, 0, none⟩), .func (.func 61) #[] #[]] w (Qbj B gr w (lsR Qaw s) fun v W => ∃ ts : List PrV, Qby w.heap.size ts v W ∧ ts.length ≤ 255 ∧ (lsR Qaw s ≠ none → ts.length = lsN s ∧ ∀ j, j < ts.length → PrIs (itG Qaw (Qac s 1) j) (ts.getD j pr0))) := by
 have hgr := h.lt
 have hN : bigN (Qag s 1) < 256 := QcB _ (h.bytes 1) 1 (Qai s 1)
 refine enter 22 [(0, .pointer (some ⟨gr, 0, none⟩)), (1, .func (.func 61) #[] #[])] Try.func115 rfl rfl kj rfl ?_
 refine wp_seq_k fun K1 hK1 => ?_
 refine Qae ?_
 refine Qab (.slice none 0 0) 4 rfl kj kj ?_
 refine Qaf ?_
 refine hK1 _ _ ?_
 refine wp_seq_k fun K2 hK2 => ?_
 refine Qae ?_
 refine Qab (.slice none 0 0) 5 rfl kj kj ?_
 refine Qaf ?_
 refine hK2 _ _ ?_
 refine wp_seq_k fun K3 hK3 => ?_
 refine wp_seq_k fun K4 hK4 => ?_
 refine Qae ?_
 refine Qab (.pointer (some ⟨gr, 0, none⟩)) 6 rfl kj kj ?_
 refine Qah (fun v W' => ExtB gr w W' ∧ RSt B gr (Qac (s) 1) W' ∧ (fun (v : Value) (_ : World) => v = .int .i64 ((bigN (Qag (s) 1) : Nat) : Int)) v W') 110 #[.pointer (some ⟨gr, 0, none⟩), .int .i64 1] 7 rfl kj kj (QaQ B gr _ 1 _ hB h (by decide)) fun vv5 W1 hh5 => ?_
 obtain ⟨q1, rs5, hv5⟩ := hh5
 have x1 : ExtB gr w W1 := ExtB.tr (ExtB.refl gr w) q1
 subst hv5
 refine Qab (.int .i64 0) 8 rfl kj kj ?_
 refine Qaf ?_
 refine hK4 _ _ ?_
 refine wp_block ?_
 refine QaX (fun (s1 : Nat × Value × List PrV) => [(0, .pointer (some ⟨gr, 0, none⟩)), (1, .func (.func 61) #[] #[]), (5, s1.2.1), (7, .int .i64 ((bigN (Qag (s) 1) : Nat) : Int)), (8, .int .i64 ((s1.1 : Nat) : Int))]) (fun (s1 : Nat × Value × List PrV) W => (s1.1 ≤ bigN (Qag s 1)) ∧ (RSt B gr (itG Qaw (Qac s 1) s1.1) W) ∧ (Qby w.heap.size s1.2.2 s1.2.1 W) ∧ (s1.2.2.length = s1.1) ∧ (itG Qaw (Qac s 1) s1.1 ≠ none → ∀ j, j < s1.2.2.length → PrIs (itG Qaw (Qac s 1) j) (s1.2.2.getD j pr0)) ∧ (ExtB gr w W)) (fun (s1 : Nat × Value × List PrV) => bigN (Qag s 1) - s1.1) (0, (.slice none 0 0), []) ⟨rfl, rfl, rfl, rfl, rfl, trivial⟩ ⟨(Nat.zero_le _), rs5, (OwL.nil _), rfl, (fun _ j hj => absurd hj (Nat.not_lt_zero _)), x1⟩ fun s1 X1 V1 hI1 => ?_
 obtain ⟨i, u, ts⟩ := s1
 obtain ⟨hi, hrs, hu, htl, hnd, xx1⟩ := hI1
 replace hi : i ≤ bigN (Qag s 1) := hi
 replace hrs : RSt B gr (itG Qaw (Qac s 1) i) V1 := hrs
 replace hu : Qby w.heap.size ts u V1 := hu
 replace htl : ts.length = i := htl
 replace hnd : itG Qaw (Qac s 1) i ≠ none → ∀ j, j < ts.length → PrIs (itG Qaw (Qac s 1) j) (ts.getD j pr0) := hnd
 replace xx1 : ExtB gr w V1 := xx1
 refine wp_seq_k fun K6 hK6 => ?_
 refine Qae ?_
 refine Qab (.bool (decide (((i : Nat) : Int) < ((bigN (Qag (s) 1) : Nat) : Int)))) 9 rfl kj kj ?_
 refine Qaf ?_
 refine hK6 _ _ ?_
 refine wp_seq_k fun K7 hK7 => ?_
 refine Qa7 (t := decide (((i : Nat) : Int) < ((bigN (Qag (s) 1) : Nat) : Int))) kj (fun c8 => ?_) (fun c8 => ?_)
 ·skip
  have hlt9 : i < bigN (Qag s 1) := by have := of_decide_eq_true c8; omega
  refine wp_skip ?_
  refine hK7 _ _ ?_
  refine wp_seq_k fun K9 hK9 => ?_
  refine wp_block ?_
  refine wp_seq_k fun K10 hK10 => ?_
  refine wp_seq_k fun K11 hK11 => ?_
  refine Qae ?_
  obtain ⟨u12, xs12, bad, rb12, -, -, hsc⟩ := id hrs
  refine Qab (.pointer (some ⟨gr, 0, none⟩)) 10 rfl kj kj ?_
  refine Qab (.pointer (some ⟨gr, 0, none⟩)) 11 rfl kj kj ?_
  refine Qab (.pointer (some ⟨gr, 1, none⟩)) 12 rfl kj kj ?_
  refine Qab (.bool bad) 13 rfl kj (Qal 4 _ gr 1 179 _ (.bool bad) _ rb12 rfl kj kj kj) ?_
  refine Qaf ?_
  refine hK11 _ _ ?_
  refine Qa7 (t := bad) kj (fun c14 => ?_) (fun c14 => ?_)
  ·skip
   have hbad : bad = true := c14
   have h9 : itG Qaw (Qac s 1) i = none := by rw [hsc, hbad]; rfl
   have h8 : itG Qaw (Qac s 1) (bigN (Qag s 1)) = none := Qbk Qcg _ i h9 _ hi
   have hrs3 : RSt B gr (itG Qaw (Qac s 1) (bigN (Qag s 1))) V1 := by rw [h8, ← h9]; exact hrs
   refine wp_seq_k fun K15 hK15 => ?_
   refine Qae ?_
   refine Qab (.slice none 0 0) 4 rfl kj kj ?_
   refine Qaf ?_
   refine hK15 _ _ ?_
   refine wp_ret ?_
   repeat (first | with_reducible refine goR1 ?_ | with_reducible refine goR2 ?_)
   exact (show bodyPost _ _ _ .ret _ _ from ret1 (.slice none 0 0) rfl (Qa1 kj) ⟨_, rfl, xx1, hrs3, [], OwL.nil _, by decide, fun hne => absurd h8 hne⟩)
  ·skip
   refine wp_skip ?_
   refine hK10 _ _ ?_
   refine Qae ?_
   refine Qab (u) 14 rfl kj kj ?_
   refine Qab (.func (.func 61) #[] #[]) 15 rfl kj kj ?_
   refine Qab (.pointer (some ⟨gr, 0, none⟩)) 16 rfl kj kj ?_
   refine Qah (fun v W' => ExtB gr V1 W' ∧ RSt B gr (Qaw (itG Qaw (Qac s 1) i)) W' ∧ (fun (v : Value) (W : World) => ∃ (xz : List Int) (a : Option Addr) (c : Nat), v = .agg (cat [ints .u8 (qGrp (itG Qaw (Qac s 1) i)), #[.int .i64 (qEp (itG Qaw (Qac s 1) i))], #[.int .i64 (qFr (itG Qaw (Qac s 1) i))], ints .u8 (qBa (itG Qaw (Qac s 1) i)), #[.int .i64 ((qKd (itG Qaw (Qac s 1) i) : Nat) : Int)], #[.bool (qUs (itG Qaw (Qac s 1) i))], #[.int .i64 (qNm (itG Qaw (Qac s 1) i))], ints .u8 (qKy (itG Qaw (Qac s 1) i)), ints .u8 (qSg (itG Qaw (Qac s 1) i)), ints .u8 (qPa (itG Qaw (Qac s 1) i)), #[.slice a xz.length c], ints .u8 (qSt (itG Qaw (Qac s 1) i)), #[.int .i64 (qAt (itG Qaw (Qac s 1) i))], ints .u8 (qSig (itG Qaw (Qac s 1) i))]) ∧ OwnN .i64 3 V1.heap.size xz (.slice a xz.length c) W ∧ xz.length ≤ 255 ∧ (Qaw (itG Qaw (Qac s 1) i) ≠ none → xz = qL (itG Qaw (Qac s 1) i))) v W') 61 #[.pointer (some ⟨gr, 0, none⟩)] 17 rfl kj kj (QhK B gr _ _ hB hrs) fun vv16 W3 hh16 => ?_
   obtain ⟨q3, rs16, hv16⟩ := hh16
   have x3 : ExtB gr w W3 := ExtB.tr xx1 q3
   have hby17 := hrs.byS
   obtain ⟨xs17, ax17, cx17, rfl, hox17, hlx17, hxx17⟩ := hv16
   obtain ⟨tt17, htt17⟩ : ∃ z : PrV, z = ⟨⟨qGrp (itG Qaw (Qac s 1) i), qEp (itG Qaw (Qac s 1) i), qFr (itG Qaw (Qac s 1) i), qBa (itG Qaw (Qac s 1) i), ((qKd (itG Qaw (Qac s 1) i) : Nat) : Int), ⟨qUs (itG Qaw (Qac s 1) i), qNm (itG Qaw (Qac s 1) i), qKy (itG Qaw (Qac s 1) i), qSg (itG Qaw (Qac s 1) i), qPa (itG Qaw (Qac s 1) i), xs17⟩, qSt (itG Qaw (Qac s 1) i), qAt (itG Qaw (Qac s 1) i), qSig (itG Qaw (Qac s 1) i)⟩, ax17, cx17⟩ := ⟨_, rfl⟩
   have hin17 : InPr V1.heap.size tt17 W3 := by rw [htt17]; exact ⟨Qiq hby17 _, hlx17, hox17⟩
   have his17 : Qaw (itG Qaw (Qac s 1) i) ≠ none → PrIs (itG Qaw (Qac s 1) i) tt17 := fun hne => by rw [htt17]; exact ⟨rfl, rfl, rfl, rfl, rfl, rfl, rfl, rfl, rfl, rfl, hxx17 hne, rfl, rfl, rfl⟩
   refine Qdz (.cells (cat [ints .u8 (qGrp (itG Qaw (Qac s 1) i)), #[.int .i64 (qEp (itG Qaw (Qac s 1) i))], #[.int .i64 (qFr (itG Qaw (Qac s 1) i))], ints .u8 (qBa (itG Qaw (Qac s 1) i)), #[.int .i64 ((qKd (itG Qaw (Qac s 1) i) : Nat) : Int)], #[.bool (qUs (itG Qaw (Qac s 1) i))], #[.int .i64 (qNm (itG Qaw (Qac s 1) i))], ints .u8 (qKy (itG Qaw (Qac s 1) i)), ints .u8 (qSg (itG Qaw (Qac s 1) i)), ints .u8 (qPa (itG Qaw (Qac s 1) i)), #[.slice ax17 xs17.length cx17], ints .u8 (qSt (itG Qaw (Qac s 1) i)), #[.int .i64 (qAt (itG Qaw (Qac s 1) i))], ints .u8 (qSig (itG Qaw (Qac s 1) i))]) 47) (fun g => .slice (some ⟨g, 0, none⟩) 1 1) 18 rfl kj (Qew 54 47 263 _ (.agg (cat [ints .u8 (qGrp (itG Qaw (Qac s 1) i)), #[.int .i64 (qEp (itG Qaw (Qac s 1) i))], #[.int .i64 (qFr (itG Qaw (Qac s 1) i))], ints .u8 (qBa (itG Qaw (Qac s 1) i)), #[.int .i64 ((qKd (itG Qaw (Qac s 1) i) : Nat) : Int)], #[.bool (qUs (itG Qaw (Qac s 1) i))], #[.int .i64 (qNm (itG Qaw (Qac s 1) i))], ints .u8 (qKy (itG Qaw (Qac s 1) i)), ints .u8 (qSg (itG Qaw (Qac s 1) i)), ints .u8 (qPa (itG Qaw (Qac s 1) i)), #[.slice ax17 xs17.length cx17], ints .u8 (qSt (itG Qaw (Qac s 1) i)), #[.int .i64 (qAt (itG Qaw (Qac s 1) i))], ints .u8 (qSig (itG Qaw (Qac s 1) i))])) rfl kj kj kj kj (by have h9 := QbU tt17 hin17.1; rw [htt17] at h9; exact h9) (by decide) (by decide)) fun gz W4 lz e4 rz => ?_
   have x4 : ExtB gr w W4 := ExtB.ext x3 e4
   refine Qd0 inPr (by decide) 328 (.tmp 14) (.tmp 18) 54 rfl kj kj (by decide) (by decide) 19 rfl kj kj kj (OwL.rows inPr (OwL.rows inPr hu (Qbb 0 q3 hgr) (by decide)) (QbH _ 0 e4) (by decide)) (n := tt17) (cells := (cat (prP tt17))) (inPr 0 (by decide) _ _ _ _ (QbH _ 0 e4) (InPr.base xx1.2.2.2.1 tt17 hin17)) rfl (QbU tt17 hin17.1) (Qhh tt17) (by rw [htt17]; exact rz) (by omega) x4.2.2.2.1 fun u2 W5 hu2 l5 => ?_
   have x5 : ExtB gr w W5 := ExtB.low x4 l5 (Nat.le_refl _)
   refine Qab (u2) 5 rfl kj kj ?_
   refine Qaf ?_
   refine hK9 _ _ ?_
   refine Qae ?_
   refine Qab (.int .i64 ((i + 1 : Nat) : Int)) 20 rfl kj (Qa0 (u := .int .i64 (IntKind.i64.wrap (((i : Nat) : Int) + 1))) kj (congrArg (Value.int .i64) (i64n _ _ (by omega) (by omega)))) ?_
   refine Qab (.int .i64 ((i + 1 : Nat) : Int)) 8 rfl kj kj ?_
   refine Qaf ?_
   have hts2 : (ts ++ [tt17]).length = i + 1 := by rw [List.length_append, List.length_singleton]; omega
   have hnd2 : itG Qaw (Qac s 1) (i + 1) ≠ none → ∀ j, j < (ts ++ [tt17]).length → PrIs (itG Qaw (Qac s 1) j) ((ts ++ [tt17]).getD j pr0) := by
    intro hne j hj
    rw [QcT]
    split
    ·rename_i h5
     exact hnd (fun h6 => hne (Qbk Qcg _ i h6 _ (by omega))) j h5
    ·rename_i h5
     obtain rfl : j = ts.length := by omega
     rw [if_pos rfl, htl]
     exact his17 hne
   have rs18 := (RSt.low (RSt.ext rs16 hB e4) hB l5 hgr)
   repeat (first | with_reducible refine goX1 ?_ | with_reducible refine goX2 ?_ | with_reducible refine goX3 ?_)
   exact QaU ((i + 1), u2, (ts ++ [tt17])) ⟨rfl, rfl, rfl, rfl, rfl, trivial⟩ ⟨(by omega), rs18, hu2, hts2, hnd2, x5⟩ (by omega)
 ·skip
  have heq9 : i = bigN (Qag s 1) := by have := of_decide_eq_false c8; omega
  have hrs2 := hrs
  rw [heq9] at hrs2
  refine wp_exit ?_
  refine hK3 _ _ ?_
  refine wp_seq_k fun K19 hK19 => ?_
  refine Qae ?_
  refine Qab (u) 21 rfl kj kj ?_
  refine Qab (u) 4 rfl kj kj ?_
  refine Qaf ?_
  refine hK19 _ _ ?_
  refine wp_ret ?_
  repeat (first | with_reducible refine goR1 ?_ | with_reducible refine goR2 ?_)
  exact (show bodyPost _ _ _ .ret _ _ from ret1 (u) rfl (Qa1 kj) ⟨_, rfl, xx1, hrs2, ts, hu, by omega, fun hne => ⟨(show ts.length = bigN (Qag s 1) by omega), fun j hj => hnd (by rw [heq9]; exact hne) j hj⟩⟩)
end Go.Proofs.Ytfelfmchachljaa.Wr
end
section
namespace Go.Proofs.Ytfelfmchachljaa.Wr
open Go Go.RowKit
open Rely Auto Own Sha
set_option linter.unusedVariables false
set_option linter.unusedSimpArgs false
theorem Qfu (w : World) : (zeroValue 57).run Try.prog w = .ok (.agg (cat [#[.bool false], #[.int .i64 0], ints .u8 (List.replicate 32 0), ints .u8 (List.replicate 32 0), ints .u8 (List.replicate 32 0), #[.slice none 0 0], #[.slice none 0 0]])) w := by
  have h := QcO [[.bool false], [.int .i64 0], (List.replicate 32 0).map (Value.int .u8), (List.replicate 32 0).map (Value.int .u8), (List.replicate 32 0).map (Value.int .u8), [.slice none 0 0], [.slice none 0 0]]
  refine Eq.trans ?_ (congrArg (fun z => Result.ok (Value.agg z) w) h.symm)
  kernel_rfl
theorem QbX (w : World) : (zeroValue 59).run Try.prog w = .ok (.agg (cat [ints .u8 (List.replicate 32 0), #[.int .i64 0], #[.int .i64 0], ints .u8 (List.replicate 32 0), #[.slice none 0 0], #[.bool false], #[.int .i64 0], ints .u8 (List.replicate 32 0), ints .u8 (List.replicate 32 0), ints .u8 (List.replicate 32 0), #[.slice none 0 0], #[.slice none 0 0], ints .u8 (List.replicate 32 0), ints .u8 (List.replicate 64 0)])) w := by
  have h := QcO [(List.replicate 32 0).map (Value.int .u8), [.int .i64 0], [.int .i64 0], (List.replicate 32 0).map (Value.int .u8), [.slice none 0 0], [.bool false], [.int .i64 0], (List.replicate 32 0).map (Value.int .u8), (List.replicate 32 0).map (Value.int .u8), (List.replicate 32 0).map (Value.int .u8), [.slice none 0 0], [.slice none 0 0], (List.replicate 32 0).map (Value.int .u8), (List.replicate 64 0).map (Value.int .u8)]
  refine Eq.trans ?_ (congrArg (fun z => Result.ok (Value.agg z) w) h.symm)
  kernel_rfl
theorem QfR (pre l post : List (Array Value)) : cat (pre ++ (cat l :: post)) = cat (pre ++ (l ++ post)) := by rw [QaD, QaD, Qaa, QaD]
set_option maxHeartbeats 4000000 in
set_option maxRecDepth 100000 in
theorem QhL (B gr : Nat) (s : Option (List Int)) (w : World) (hB : B ≤ gr) (h : RSt B gr s w) : Calls Try.prog 116 #[.pointer (some ⟨gr, 0, none⟩)] w (Qbj B gr w (Qbc s) fun v W => ∃ (xs : List Int) (a : Option Addr) (c : Nat) (ts : List StV) (at_ : Option Addr) (ct : Nat), v = .agg (cat [#[.bool (nUs s)], #[.int .i64 (nNm s)], ints .u8 (nKy s), ints .u8 (nSg s), ints .u8 (nPa s), #[.slice a xs.length c], #[.slice at_ ts.length ct]]) ∧ OwnN .i64 3 w.heap.size xs (.slice a xs.length c) W ∧ Qbn w.heap.size ts (.slice at_ ts.length ct) W ∧ xs.length ≤ 255 ∧ ts.length ≤ 255 ∧ (Qbc s ≠ none → xs = nL s ∧ ts.length = lsN (QaA s) ∧ ∀ j, j < ts.length → StIs (itG Qba (Qac (QaA s) 1) j) (ts.getD j st0))) := by
  have hgr := h.lt
  refine enter 16 [(0, .pointer (some ⟨gr, 0, none⟩))] Try.func116 rfl rfl kj rfl ?_
  refine wp_seq_k fun K1 hK1 => ?_
  refine Qae ?_
  refine Qar (cat [#[.bool false], #[.int .i64 0], ints .u8 (List.replicate 32 0), ints .u8 (List.replicate 32 0), ints .u8 (List.replicate 32 0), #[.slice none 0 0], #[.slice none 0 0]]) 57 2 rfl kj (QaG 57 _ rfl (Qfu _)) fun g2 W1 l2 e1 r2_1 => ?_
  have x1 : ExtB gr w W1 := ExtB.ext (ExtB.refl gr w) e1
  have b2 : w.heap.size ≤ g2 := Nat.le_trans (ExtB.refl gr w).size l2
  refine Qaf ?_
  refine hK1 _ _ ?_
  refine wp_seq_k fun K3 hK3 => ?_
  refine Qae ?_
  refine Qab (.pointer (some ⟨gr, 0, none⟩)) 4 rfl kj kj ?_
  have rs4 := (RSt.ext h hB e1)
  refine Qah (fun v W' => ExtB gr W1 W' ∧ RSt B gr (QaA s) W' ∧ (fun (v : Value) (W : World) => ∃ (xz : List Int) (a : Option Addr) (c : Nat), v = .agg (cat [#[.bool (nUs s)], #[.int .i64 (nNm s)], ints .u8 (nKy s), ints .u8 (nSg s), ints .u8 (nPa s), #[.slice a xz.length c]]) ∧ OwnN .i64 3 W1.heap.size xz (.slice a xz.length c) W ∧ xz.length ≤ 255 ∧ (QaA s ≠ none → xz = nL s)) v W') 102 #[.pointer (some ⟨gr, 0, none⟩)] 5 rfl kj kj (Qf3 B gr _ _ hB rs4) fun vv5 W2 hh5 => ?_
  obtain ⟨q2, rs5, hv5⟩ := hh5
  have x2 : ExtB gr w W2 := ExtB.tr x1 q2
  obtain ⟨xs6, ax6, cx6, rfl, hox6, hlx6, hxx6⟩ := hv5
  refine Qab (.pointer (some ⟨gr, 0, none⟩)) 6 rfl kj kj ?_
  refine Qah (fun v W' => ExtB gr W2 W' ∧ RSt B gr (lsR Qba (QaA s)) W' ∧ (fun (v : Value) (W : World) => ∃ ts : List StV, Qbn W2.heap.size ts v W ∧ ts.length ≤ 255 ∧ (lsR Qba (QaA s) ≠ none → ts.length = lsN (QaA s) ∧ ∀ j, j < ts.length → StIs (itG Qba (Qac (QaA s) 1) j) (ts.getD j st0))) v W') 127 #[.pointer (some ⟨gr, 0, none⟩), .func (.func 128) #[] #[]] 7 rfl kj kj (Qfw B gr _ _ hB rs5) fun vv7 W3 hh7 => ?_
  obtain ⟨q3, rs7, hv7⟩ := hh7
  have x3 : ExtB gr w W3 := ExtB.tr x2 q3
  obtain ⟨lsS, howS, hlnS, hisS⟩ := hv7
  obtain ⟨alS, clS, rfl⟩ := howS.sl
  refine Qab (.agg (cat [#[.bool (nUs s)], #[.int .i64 (nNm s)], ints .u8 (nKy s), ints .u8 (nSg s), ints .u8 (nPa s), #[.slice ax6 xs6.length cx6], #[.slice alS lsS.length clS]])) 8 rfl kj (Eq.trans (Qb3 57 _ [#[.bool false], #[.int .i64 0], ints .u8 (List.replicate 32 0), ints .u8 (List.replicate 32 0), ints .u8 (List.replicate 32 0), #[.slice none 0 0], #[.slice none 0 0]] [] #[(0, 99), (99, 1)] [(0, 99, .agg (cat [#[.bool (nUs s)], #[.int .i64 (nNm s)], ints .u8 (nKy s), ints .u8 (nSg s), ints .u8 (nPa s), #[.slice ax6 xs6.length cx6]]), cat [#[.bool (nUs s)], #[.int .i64 (nNm s)], ints .u8 (nKy s), ints .u8 (nSg s), ints .u8 (nPa s), #[.slice ax6 xs6.length cx6]]), (1, 1, .slice alS lsS.length clS, #[.slice alS lsS.length clS])] rfl kj ⟨kj, rfl, (by rw [Qaa, Qaa, Qaa, Qaa, Qaa, Qaa]; simp only [Array.size_append, cat, ((Qad _ _).trans (QaN s)), ((Qad _ _).trans (QaM s)), ((Qad _ _).trans (QaL s))]; rfl), kj, rfl, kj, trivial⟩ kj (Qfu _) kj kj) (congrArg (fun z => Result.ok (Next.value (Value.agg z)) _) (QfR [] [#[.bool (nUs s)], #[.int .i64 (nNm s)], ints .u8 (nKy s), ints .u8 (nSg s), ints .u8 (nPa s), #[.slice ax6 xs6.length cx6]] [#[.slice alS lsS.length clS]]))) ?_
  refine Qar (cat [#[.bool false], #[.int .i64 0], ints .u8 (List.replicate 32 0), ints .u8 (List.replicate 32 0), ints .u8 (List.replicate 32 0), #[.slice none 0 0], #[.slice none 0 0]]) 57 3 rfl kj (QaG 57 _ rfl (Qfu _)) fun g9 W4 l9 e4 r9_4 => ?_
  have x4 : ExtB gr w W4 := ExtB.ext x3 e4
  have b9 : w.heap.size ≤ g9 := Nat.le_trans x3.size l9
  refine Qav g9 _ (cat [#[.bool (nUs s)], #[.int .i64 (nNm s)], ints .u8 (nKy s), ints .u8 (nSg s), ints .u8 (nPa s), #[.slice ax6 xs6.length cx6], #[.slice alS lsS.length clS]]) 57 r9_4 rfl kj (Qat 57 _ _ g9 57 _ _ r9_4 rfl kj kj (isz (n := 100) kj (by rw [Qaa, Qaa, Qaa, Qaa, Qaa, Qaa, Qaa]; simp only [Array.size_append, cat, ((Qad _ _).trans (QaN s)), ((Qad _ _).trans (QaM s)), ((Qad _ _).trans (QaL s))]; rfl)) (eqsz (n := 100) (by rw [Qaa, Qaa, Qaa, Qaa, Qaa, Qaa, Qaa]; simp only [Array.size_append, cat, ((Qad _ _).trans (List.length_replicate (n := 32)))]; rfl) (by rw [Qaa, Qaa, Qaa, Qaa, Qaa, Qaa, Qaa]; simp only [Array.size_append, cat, ((Qad _ _).trans (QaN s)), ((Qad _ _).trans (QaM s)), ((Qad _ _).trans (QaL s))]; rfl)) (QaC _ (by intro a ha; simp only [List.mem_cons, List.not_mem_nil, or_false] at ha; rcases ha with rfl | rfl | rfl | rfl | rfl | rfl | rfl; exact (Qak _ rfl); exact (Qak _ rfl); exact (Qan _ _); exact (Qan _ _); exact (Qan _ _); exact (Qak _ rfl); exact (Qak _ rfl)))) fun W5 p5 r9_5 => ?_
  have x5 : ExtB gr w W5 := ExtB.putsN x4 p5 b9
  refine Qaf ?_
  refine hK3 _ _ ?_
  refine wp_seq_k fun K10 hK10 => ?_
  refine Qae ?_
  refine Qab (.pointer (some ⟨gr, 0, none⟩)) 9 rfl kj kj ?_
  refine Qab (.pointer (some ⟨g9, 99, none⟩)) 10 rfl kj kj ?_
  refine Qab (.slice alS lsS.length clS) 11 rfl kj (Qal 55 _ g9 99 57 _ (.slice alS lsS.length clS) _ r9_5 rfl kj (Qaq [#[.bool (nUs s)], #[.int .i64 (nNm s)], ints .u8 (nKy s), ints .u8 (nSg s), ints .u8 (nPa s), #[.slice ax6 xs6.length cx6]] [#[.slice alS lsS.length clS]] [] 99 (by rw [Qaa, Qaa, Qaa, Qaa, Qaa, Qaa]; simp only [Array.size_append, cat, ((Qad _ _).trans (QaN s)), ((Qad _ _).trans (QaM s)), ((Qad _ _).trans (QaL s))]; rfl) 0 _ rfl) kj) ?_
  refine Qab (.int .i64 ((lsS.length : Nat) : Int)) 12 rfl kj kj ?_
  refine Qab (.bool (decide (((lsS.length : Nat) : Int) ≤ 5))) 13 rfl kj kj ?_
  have rs11 := (RSt.put (RSt.ext rs7 hB e4) hB p5 (Nat.lt_of_lt_of_le hgr b9))
  refine Qah (fun v W' => ExtB gr W5 W' ∧ RSt B gr (Qax (lsR Qba (QaA s)) (decide (((lsS.length : Nat) : Int) ≤ 5))) W' ∧ (fun (v : Value) (_ : World) => v = .tuple #[]) v W') 103 #[.pointer (some ⟨gr, 0, none⟩), .bool (decide (((lsS.length : Nat) : Int) ≤ 5))] 14 rfl kj kj (Qcv B gr _ (decide (((lsS.length : Nat) : Int) ≤ 5)) _ hB rs11) fun vv12 W6 hh12 => ?_
  obtain ⟨q6, rs12, hv12⟩ := hh12
  have x6 : ExtB gr w W6 := ExtB.tr x5 q6
  subst hv12
  refine Qaf ?_
  refine hK10 _ _ ?_
  refine wp_seq_k fun K13 hK13 => ?_
  refine Qae ?_
  have r9_6 := (ExtB.row q6 r9_5 (Ne.symm (Nat.ne_of_lt (Nat.lt_of_lt_of_le hgr b9))))
  refine Qab (.agg (cat [#[.bool (nUs s)], #[.int .i64 (nNm s)], ints .u8 (nKy s), ints .u8 (nSg s), ints .u8 (nPa s), #[.slice ax6 xs6.length cx6], #[.slice alS lsS.length clS]])) 15 rfl kj (Qaz 57 _ g9 57 _ _ r9_6 rfl kj kj (isz (n := 100) kj (by rw [Qaa, Qaa, Qaa, Qaa, Qaa, Qaa, Qaa]; simp only [Array.size_append, cat, ((Qad _ _).trans (QaN s)), ((Qad _ _).trans (QaM s)), ((Qad _ _).trans (QaL s))]; rfl))) ?_
  have r2_2 := (ExtB.row q2 r2_1 (Ne.symm (Nat.ne_of_lt (Nat.lt_of_lt_of_le hgr b2))))
  have r2_3 := (ExtB.row q3 r2_2 (Ne.symm (Nat.ne_of_lt (Nat.lt_of_lt_of_le hgr b2))))
  have r2_4 := (Qau r2_3 e4)
  have r2_5 := (Puts.row p5 r2_4 (Qa2 r2_3 l9))
  have r2_6 := (ExtB.row q6 r2_5 (Ne.symm (Nat.ne_of_lt (Nat.lt_of_lt_of_le hgr b2))))
  refine Qav g2 _ (cat [#[.bool (nUs s)], #[.int .i64 (nNm s)], ints .u8 (nKy s), ints .u8 (nSg s), ints .u8 (nPa s), #[.slice ax6 xs6.length cx6], #[.slice alS lsS.length clS]]) 57 r2_6 rfl kj (Qat 57 _ _ g2 57 _ _ r2_6 rfl kj kj (isz (n := 100) kj (by rw [Qaa, Qaa, Qaa, Qaa, Qaa, Qaa, Qaa]; simp only [Array.size_append, cat, ((Qad _ _).trans (QaN s)), ((Qad _ _).trans (QaM s)), ((Qad _ _).trans (QaL s))]; rfl)) (eqsz (n := 100) (by rw [Qaa, Qaa, Qaa, Qaa, Qaa, Qaa, Qaa]; simp only [Array.size_append, cat, ((Qad _ _).trans (List.length_replicate (n := 32)))]; rfl) (by rw [Qaa, Qaa, Qaa, Qaa, Qaa, Qaa, Qaa]; simp only [Array.size_append, cat, ((Qad _ _).trans (QaN s)), ((Qad _ _).trans (QaM s)), ((Qad _ _).trans (QaL s))]; rfl)) (QaC _ (by intro a ha; simp only [List.mem_cons, List.not_mem_nil, or_false] at ha; rcases ha with rfl | rfl | rfl | rfl | rfl | rfl | rfl; exact (Qak _ rfl); exact (Qak _ rfl); exact (Qan _ _); exact (Qan _ _); exact (Qan _ _); exact (Qak _ rfl); exact (Qak _ rfl)))) fun W7 p7 r2_7 => ?_
  have x7 : ExtB gr w W7 := ExtB.putsN x6 p7 b2
  refine Qaf ?_
  refine hK13 _ _ ?_
  refine wp_ret ?_
  repeat (first | with_reducible refine goR1 ?_ | with_reducible refine goR2 ?_)
  have rs14 := (RSt.put rs12 hB p7 (Nat.lt_of_lt_of_le hgr b2))
  exact (show bodyPost _ _ _ .ret _ _ from ret1 (.agg (cat [#[.bool (nUs s)], #[.int .i64 (nNm s)], ints .u8 (nKy s), ints .u8 (nSg s), ints .u8 (nPa s), #[.slice ax6 xs6.length cx6], #[.slice alS lsS.length clS]])) rfl (QaR g2 57 _ r2_7 kj kj (isz (n := 100) kj (by rw [Qaa, Qaa, Qaa, Qaa, Qaa, Qaa, Qaa]; simp only [Array.size_append, cat, ((Qad _ _).trans (QaN s)), ((Qad _ _).trans (QaM s)), ((Qad _ _).trans (QaL s))]; rfl))) ⟨_, rfl, x7, (show RSt B gr (Qbc s) _ by
      have h9 := rs14
      unfold Qbc
      by_cases h0 : lsR Qba (QaA s) = none
      · rw [h0, QaO] at h9 ⊢; exact h9
      · rw [(hisS h0).1] at h9; exact h9), xs6, _, _, lsS, _, _, rfl, OwnN.base x1.2.2.2.1 (Qbp (Qbp (Qbp (Qbp (Qbp hox6 (Qbb 0 q3 (Nat.lt_of_lt_of_le hgr x1.2.2.2.1)) (by decide)) (QbH _ 0 e4) (by decide)) (Qbt _ p5 r9_4) (by decide)) (Qbb 0 q6 (Nat.lt_of_lt_of_le hgr x1.2.2.2.1)) (by decide)) (Qbt _ p7 r2_6) (by decide)), (Qbn.base_ x2.2.2.2.1 (OwL.rows inSt (OwL.rows inSt (OwL.rows inSt (OwL.rows inSt howS (QbH _ 0 e4) (by decide)) (Qbt _ p5 r9_4) (by decide)) (Qbb 0 q6 (Nat.lt_of_lt_of_le hgr x2.2.2.2.1)) (by decide)) (Qbt _ p7 r2_6) (by decide))), hlx6, hlnS, fun hne => ⟨hxx6 (fun h0 => hne (by unfold Qbc; rw [show lsR Qba (QaA s) = none by rw [h0]; exact Qbk Qb1 _ 0 rfl _ (Nat.zero_le _), QaO])), hisS (fun h0 => hne (by unfold Qbc; rw [h0, QaO]))⟩⟩)
def cS1 (s : Option (List Int)) : Option (List Int) := Qac s 32
def cS2 (s : Option (List Int)) : Option (List Int) := Qac (cS1 s) 4
def cS3 (s : Option (List Int)) : Option (List Int) := Qaj (cS2 s)
def cS4 (s : Option (List Int)) : Option (List Int) := Qac (cS3 s) 32
def cS5 (s : Option (List Int)) : Option (List Int) := lsR Qaw (cS4 s)
def cS6 (s : Option (List Int)) : Option (List Int) := Qbc (cS5 s)
def cS7 (s : Option (List Int)) : Option (List Int) := Qac (cS6 s) 32
def QbC (s : Option (List Int)) : Option (List Int) := Qac (cS7 s) 64
def cGrp (s : Option (List Int)) : List Int := keyV (Qag s 32)
def cEp (s : Option (List Int)) : Int := ((bigN (Qag (cS1 s) 4) : Nat) : Int)
def cFr (s : Option (List Int)) : Int := ((bigN (Qag (cS2 s) 1) : Nat) : Int)
def cBas (s : Option (List Int)) : List Int := keyV (Qag (cS3 s) 32)
def cTag (s : Option (List Int)) : List Int := keyV (Qag (cS6 s) 32)
def cSig (s : Option (List Int)) : List Int := QaY (Qag (cS7 s) 64)
theorem QcR (s : Option (List Int)) : (cGrp s).length = 32 := Qam _ (Qai _ 32)
theorem QcS (s : Option (List Int)) : (cBas s).length = 32 := Qam _ (Qai _ 32)
theorem QcP (s : Option (List Int)) : (cTag s).length = 32 := Qam _ (Qai _ 32)
theorem QcQ (s : Option (List Int)) : (cSig s).length = 64 := Qa6 _ (Qai _ 64)
theorem Qfl : Qbc none = none := by
  unfold Qbc
  rw [Qc6, show lsR Qba none = none from Qbk Qb1 _ 0 rfl _ (Nat.zero_le _), QaO]
theorem Qdw {s : Option (List Int)} (h : QbC s ≠ none) : Qbc (cS5 s) ≠ none := fun h0 => h (by unfold QbC cS7 cS6; rw [h0]; rfl)
theorem Qdg {s : Option (List Int)} (h : QbC s ≠ none) : lsR Qaw (cS4 s) ≠ none := fun h0 => Qdw h (by unfold cS5; rw [h0, Qfl])
structure CmRd (base : Nat) (W : World) (s : Option (List Int)) (ps : List PrV) (vp : Value) (xs : List Int) (vm : Value) (ts : List StV) (vt : Value) : Prop where
  op : Qby base ps vp W
  om : OwnN .i64 3 base xs vm W
  ot : Qbn base ts vt W
  pl : ps.length ≤ 255
  ml : xs.length ≤ 255
  tl : ts.length ≤ 255
  is : QbC s ≠ none → (ps.length = lsN (cS4 s) ∧ ∀ j, j < ps.length → PrIs (itG Qaw (Qac (cS4 s) 1) j) (ps.getD j pr0)) ∧ xs = nL (cS5 s) ∧ ts.length = lsN (QaA (cS5 s)) ∧ ∀ j, j < ts.length → StIs (itG Qba (Qac (QaA (cS5 s)) 1) j) (ts.getD j st0)
section
variable {base : Nat} {W W' : World} {s : Option (List Int)} {ps : List PrV} {vp : Value} {xs : List Int} {vm : Value} {ts : List StV} {vt : Value}
theorem CmRd.rows (h : CmRd base W s ps vp xs vm ts vt) {T0 : TypeId} (q : QdR base T0 W W') (h1 : T0 ∉ [47, 3]) (h2 : T0 ∉ [129, 26, 5]) : CmRd base W' s ps vp xs vm ts vt :=
  ⟨h.op.rows inPr q h1, Qbp h.om q (fun e => h1 (by rw [e]; simp)), h.ot.rows inSt q h2, h.pl, h.ml, h.tl, h.is⟩
theorem CmRd.mono {b : Nat} (h : CmRd b W s ps vp xs vm ts vt) (hab : base ≤ b) : CmRd base W s ps vp xs vm ts vt :=
  ⟨Qby.base_ hab h.op, OwnN.base hab h.om, Qbn.base_ hab h.ot, h.pl, h.ml, h.tl, h.is⟩
end
set_option maxHeartbeats 4000000 in
set_option maxRecDepth 100000 in
theorem Qg8 (B gr : Nat) (s : Option (List Int)) (w : World) (hB : B ≤ gr) (h : RSt B gr s w) : Calls Try.prog 69 #[.pointer (some ⟨gr, 0, none⟩)] w (Qbj B gr w (QbC s) fun v W => ∃ (ps : List PrV) (ap : Option Addr) (cp : Nat) (xs : List Int) (a : Option Addr) (c : Nat) (ts : List StV) (at_ : Option Addr) (ct : Nat), v = .agg (cat [ints .u8 (cGrp s), #[.int .i64 (cEp s)], #[.int .i64 (cFr s)], ints .u8 (cBas s), #[.slice ap ps.length cp], #[.bool (nUs (cS5 s))], #[.int .i64 (nNm (cS5 s))], ints .u8 (nKy (cS5 s)), ints .u8 (nSg (cS5 s)), ints .u8 (nPa (cS5 s)), #[.slice a xs.length c], #[.slice at_ ts.length ct], ints .u8 (cTag s), ints .u8 (cSig s)]) ∧ CmRd w.heap.size W s ps (.slice ap ps.length cp) xs (.slice a xs.length c) ts (.slice at_ ts.length ct)) := by
  have hgr := h.lt
  refine enter 20 [(0, .pointer (some ⟨gr, 0, none⟩))] Try.func69 rfl rfl kj rfl ?_
  refine wp_seq_k fun K1 hK1 => ?_
  refine Qae ?_
  refine Qar (cat [ints .u8 (List.replicate 32 0), #[.int .i64 0], #[.int .i64 0], ints .u8 (List.replicate 32 0), #[.slice none 0 0], #[.bool false], #[.int .i64 0], ints .u8 (List.replicate 32 0), ints .u8 (List.replicate 32 0), ints .u8 (List.replicate 32 0), #[.slice none 0 0], #[.slice none 0 0], ints .u8 (List.replicate 32 0), ints .u8 (List.replicate 64 0)]) 59 2 rfl kj (QaG 59 _ rfl (QbX _)) fun g2 W1 l2 e1 r2_1 => ?_
  have x1 : ExtB gr w W1 := ExtB.ext (ExtB.refl gr w) e1
  have b2 : w.heap.size ≤ g2 := Nat.le_trans (ExtB.refl gr w).size l2
  refine Qaf ?_
  refine hK1 _ _ ?_
  refine wp_seq_k fun K3 hK3 => ?_
  refine Qae ?_
  refine Qab (.pointer (some ⟨gr, 0, none⟩)) 3 rfl kj kj ?_
  have rs4 := (RSt.ext h hB e1)
  refine Qah (fun v W' => ExtB gr W1 W' ∧ RSt B gr (Qac (s) 32) W' ∧ (fun (v : Value) (_ : World) => v = .agg (ints .u8 (keyV (Qag (s) 32)))) v W') 109 #[.pointer (some ⟨gr, 0, none⟩)] 4 rfl kj kj (Qb7 B gr _ _ hB rs4) fun vv5 W2 hh5 => ?_
  obtain ⟨q2, rs5, hv5⟩ := hh5
  have x2 : ExtB gr w W2 := ExtB.tr x1 q2
  subst hv5
  refine Qab (.pointer (some ⟨gr, 0, none⟩)) 5 rfl kj kj ?_
  refine Qah (fun v W' => ExtB gr W2 W' ∧ RSt B gr (Qac (Qac (s) 32) 4) W' ∧ (fun (v : Value) (_ : World) => v = .int .i64 ((bigN (Qag (Qac (s) 32) 4) : Nat) : Int)) v W') 110 #[.pointer (some ⟨gr, 0, none⟩), .int .i64 4] 6 rfl kj kj (QaQ B gr _ 4 _ hB rs5 (by decide)) fun vv6 W3 hh6 => ?_
  obtain ⟨q3, rs6, hv6⟩ := hh6
  have x3 : ExtB gr w W3 := ExtB.tr x2 q3
  subst hv6
  refine Qab (.pointer (some ⟨gr, 0, none⟩)) 7 rfl kj kj ?_
  refine Qah (fun v W' => ExtB gr W3 W' ∧ RSt B gr (Qaj (Qac (Qac (s) 32) 4)) W' ∧ (fun (v : Value) (_ : World) => v = .int .i64 ((bigN (Qag (Qac (Qac (s) 32) 4) 1) : Nat) : Int)) v W') 111 #[.pointer (some ⟨gr, 0, none⟩)] 8 rfl kj kj (QcF B gr _ _ hB rs6) fun vv7 W4 hh7 => ?_
  obtain ⟨q4, rs7, hv7⟩ := hh7
  have x4 : ExtB gr w W4 := ExtB.tr x3 q4
  subst hv7
  refine Qab (.pointer (some ⟨gr, 0, none⟩)) 9 rfl kj kj ?_
  refine Qah (fun v W' => ExtB gr W4 W' ∧ RSt B gr (Qac (Qaj (Qac (Qac (s) 32) 4)) 32) W' ∧ (fun (v : Value) (_ : World) => v = .agg (ints .u8 (keyV (Qag (Qaj (Qac (Qac (s) 32) 4)) 32)))) v W') 109 #[.pointer (some ⟨gr, 0, none⟩)] 10 rfl kj kj (Qb7 B gr _ _ hB rs7) fun vv8 W5 hh8 => ?_
  obtain ⟨q5, rs8, hv8⟩ := hh8
  have x5 : ExtB gr w W5 := ExtB.tr x4 q5
  subst hv8
  refine Qab (.pointer (some ⟨gr, 0, none⟩)) 11 rfl kj kj ?_
  refine Qah (fun v W' => ExtB gr W5 W' ∧ RSt B gr (lsR Qaw (Qac (Qaj (Qac (Qac (s) 32) 4)) 32)) W' ∧ (fun (v : Value) (W : World) => ∃ ts : List PrV, Qby W5.heap.size ts v W ∧ ts.length ≤ 255 ∧ (lsR Qaw (Qac (Qaj (Qac (Qac (s) 32) 4)) 32) ≠ none → ts.length = lsN (Qac (Qaj (Qac (Qac (s) 32) 4)) 32) ∧ ∀ j, j < ts.length → PrIs (itG Qaw (Qac (Qac (Qaj (Qac (Qac (s) 32) 4)) 32) 1) j) (ts.getD j pr0))) v W') 115 #[.pointer (some ⟨gr, 0, none⟩), .func (.func 61) #[] #[]] 12 rfl kj kj (Qfy B gr _ _ hB rs8) fun vv9 W6 hh9 => ?_
  obtain ⟨q6, rs9, hv9⟩ := hh9
  have x6 : ExtB gr w W6 := ExtB.tr x5 q6
  obtain ⟨lsP, howP, hlnP, hisP⟩ := hv9
  obtain ⟨alP, clP, rfl⟩ := howP.sl
  refine Qab (.pointer (some ⟨gr, 0, none⟩)) 13 rfl kj kj ?_
  refine Qah (fun v W' => ExtB gr W6 W' ∧ RSt B gr (Qbc (lsR Qaw (Qac (Qaj (Qac (Qac (s) 32) 4)) 32))) W' ∧ (fun (v : Value) (W : World) => ∃ (xs : List Int) (a : Option Addr) (c : Nat) (ts : List StV) (at_ : Option Addr) (ct : Nat), v = .agg (cat [#[.bool (nUs (lsR Qaw (Qac (Qaj (Qac (Qac (s) 32) 4)) 32)))], #[.int .i64 (nNm (lsR Qaw (Qac (Qaj (Qac (Qac (s) 32) 4)) 32)))], ints .u8 (nKy (lsR Qaw (Qac (Qaj (Qac (Qac (s) 32) 4)) 32))), ints .u8 (nSg (lsR Qaw (Qac (Qaj (Qac (Qac (s) 32) 4)) 32))), ints .u8 (nPa (lsR Qaw (Qac (Qaj (Qac (Qac (s) 32) 4)) 32))), #[.slice a xs.length c], #[.slice at_ ts.length ct]]) ∧ OwnN .i64 3 W6.heap.size xs (.slice a xs.length c) W ∧ Qbn W6.heap.size ts (.slice at_ ts.length ct) W ∧ xs.length ≤ 255 ∧ ts.length ≤ 255 ∧ (Qbc (lsR Qaw (Qac (Qaj (Qac (Qac (s) 32) 4)) 32)) ≠ none → xs = nL (lsR Qaw (Qac (Qaj (Qac (Qac (s) 32) 4)) 32)) ∧ ts.length = lsN (QaA (lsR Qaw (Qac (Qaj (Qac (Qac (s) 32) 4)) 32))) ∧ ∀ j, j < ts.length → StIs (itG Qba (Qac (QaA (lsR Qaw (Qac (Qaj (Qac (Qac (s) 32) 4)) 32))) 1) j) (ts.getD j st0))) v W') 116 #[.pointer (some ⟨gr, 0, none⟩)] 14 rfl kj kj (QhL B gr _ _ hB rs9) fun vv11 W7 hh11 => ?_
  obtain ⟨q7, rs11, hv11⟩ := hh11
  have x7 : ExtB gr w W7 := ExtB.tr x6 q7
  obtain ⟨xs, a, c, ts, at_, ct, rfl, hoM, hoT, hlM, hlT, hisT⟩ := hv11
  refine Qab (.pointer (some ⟨gr, 0, none⟩)) 15 rfl kj kj ?_
  refine Qah (fun v W' => ExtB gr W7 W' ∧ RSt B gr (Qac (Qbc (lsR Qaw (Qac (Qaj (Qac (Qac (s) 32) 4)) 32))) 32) W' ∧ (fun (v : Value) (_ : World) => v = .agg (ints .u8 (keyV (Qag (Qbc (lsR Qaw (Qac (Qaj (Qac (Qac (s) 32) 4)) 32))) 32)))) v W') 109 #[.pointer (some ⟨gr, 0, none⟩)] 16 rfl kj kj (Qb7 B gr _ _ hB rs11) fun vv12 W8 hh12 => ?_
  obtain ⟨q8, rs12, hv12⟩ := hh12
  have x8 : ExtB gr w W8 := ExtB.tr x7 q8
  subst hv12
  refine Qab (.pointer (some ⟨gr, 0, none⟩)) 17 rfl kj kj ?_
  refine Qah (fun v W' => ExtB gr W8 W' ∧ RSt B gr (Qac (Qac (Qbc (lsR Qaw (Qac (Qaj (Qac (Qac (s) 32) 4)) 32))) 32) 64) W' ∧ (fun (v : Value) (_ : World) => v = .agg (ints .u8 (QaY (Qag (Qac (Qbc (lsR Qaw (Qac (Qaj (Qac (Qac (s) 32) 4)) 32))) 32) 64)))) v W') 112 #[.pointer (some ⟨gr, 0, none⟩)] 18 rfl kj kj (QdX B gr _ _ hB rs12) fun vv13 W9 hh13 => ?_
  obtain ⟨q9, rs13, hv13⟩ := hh13
  have x9 : ExtB gr w W9 := ExtB.tr x8 q9
  subst hv13
  refine Qab (.agg (cat [ints .u8 (keyV (Qag (s) 32)), #[.int .i64 ((bigN (Qag (Qac (s) 32) 4) : Nat) : Int)], #[.int .i64 ((bigN (Qag (Qac (Qac (s) 32) 4) 1) : Nat) : Int)], ints .u8 (keyV (Qag (Qaj (Qac (Qac (s) 32) 4)) 32)), #[.slice alP lsP.length clP], #[.bool (nUs (lsR Qaw (Qac (Qaj (Qac (Qac (s) 32) 4)) 32)))], #[.int .i64 (nNm (lsR Qaw (Qac (Qaj (Qac (Qac (s) 32) 4)) 32)))], ints .u8 (nKy (lsR Qaw (Qac (Qaj (Qac (Qac (s) 32) 4)) 32))), ints .u8 (nSg (lsR Qaw (Qac (Qaj (Qac (Qac (s) 32) 4)) 32))), ints .u8 (nPa (lsR Qaw (Qac (Qaj (Qac (Qac (s) 32) 4)) 32))), #[.slice a xs.length c], #[.slice at_ ts.length ct], ints .u8 (keyV (Qag (Qbc (lsR Qaw (Qac (Qaj (Qac (Qac (s) 32) 4)) 32))) 32)), ints .u8 (QaY (Qag (Qac (Qbc (lsR Qaw (Qac (Qaj (Qac (Qac (s) 32) 4)) 32))) 32) 64))])) 19 rfl kj (Eq.trans (Qb3 59 _ [ints .u8 (List.replicate 32 0), #[.int .i64 0], #[.int .i64 0], ints .u8 (List.replicate 32 0), #[.slice none 0 0], #[.bool false], #[.int .i64 0], ints .u8 (List.replicate 32 0), ints .u8 (List.replicate 32 0), ints .u8 (List.replicate 32 0), #[.slice none 0 0], #[.slice none 0 0], ints .u8 (List.replicate 32 0), ints .u8 (List.replicate 64 0)] [] #[(0, 32), (32, 1), (33, 1), (34, 32), (66, 1), (67, 100), (167, 32), (199, 64)] [(0, 32, .agg (ints .u8 (keyV (Qag (s) 32))), ints .u8 (keyV (Qag (s) 32))), (1, 1, .int .i64 ((bigN (Qag (Qac (s) 32) 4) : Nat) : Int), #[.int .i64 ((bigN (Qag (Qac (s) 32) 4) : Nat) : Int)]), (2, 1, .int .i64 ((bigN (Qag (Qac (Qac (s) 32) 4) 1) : Nat) : Int), #[.int .i64 ((bigN (Qag (Qac (Qac (s) 32) 4) 1) : Nat) : Int)]), (3, 32, .agg (ints .u8 (keyV (Qag (Qaj (Qac (Qac (s) 32) 4)) 32))), ints .u8 (keyV (Qag (Qaj (Qac (Qac (s) 32) 4)) 32))), (4, 1, .slice alP lsP.length clP, #[.slice alP lsP.length clP]), (5, 100, .agg (cat [#[.bool (nUs (lsR Qaw (Qac (Qaj (Qac (Qac (s) 32) 4)) 32)))], #[.int .i64 (nNm (lsR Qaw (Qac (Qaj (Qac (Qac (s) 32) 4)) 32)))], ints .u8 (nKy (lsR Qaw (Qac (Qaj (Qac (Qac (s) 32) 4)) 32))), ints .u8 (nSg (lsR Qaw (Qac (Qaj (Qac (Qac (s) 32) 4)) 32))), ints .u8 (nPa (lsR Qaw (Qac (Qaj (Qac (Qac (s) 32) 4)) 32))), #[.slice a xs.length c], #[.slice at_ ts.length ct]]), cat [#[.bool (nUs (lsR Qaw (Qac (Qaj (Qac (Qac (s) 32) 4)) 32)))], #[.int .i64 (nNm (lsR Qaw (Qac (Qaj (Qac (Qac (s) 32) 4)) 32)))], ints .u8 (nKy (lsR Qaw (Qac (Qaj (Qac (Qac (s) 32) 4)) 32))), ints .u8 (nSg (lsR Qaw (Qac (Qaj (Qac (Qac (s) 32) 4)) 32))), ints .u8 (nPa (lsR Qaw (Qac (Qaj (Qac (Qac (s) 32) 4)) 32))), #[.slice a xs.length c], #[.slice at_ ts.length ct]]), (6, 32, .agg (ints .u8 (keyV (Qag (Qbc (lsR Qaw (Qac (Qaj (Qac (Qac (s) 32) 4)) 32))) 32))), ints .u8 (keyV (Qag (Qbc (lsR Qaw (Qac (Qaj (Qac (Qac (s) 32) 4)) 32))) 32))), (7, 64, .agg (ints .u8 (QaY (Qag (Qac (Qbc (lsR Qaw (Qac (Qaj (Qac (Qac (s) 32) 4)) 32))) 32) 64))), ints .u8 (QaY (Qag (Qac (Qbc (lsR Qaw (Qac (Qaj (Qac (Qac (s) 32) 4)) 32))) 32) 64)))] rfl kj ⟨kj, rfl, ((Qad _ _).trans (Qam _ (Qai (s) 32))), kj, rfl, kj, kj, rfl, kj, kj, rfl, ((Qad _ _).trans (Qam _ (Qai (Qaj (Qac (Qac (s) 32) 4)) 32))), kj, rfl, kj, kj, rfl, (by rw [Qaa, Qaa, Qaa, Qaa, Qaa, Qaa, Qaa]; simp only [Array.size_append, cat, ((Qad _ _).trans (QaN (lsR Qaw (Qac (Qaj (Qac (Qac (s) 32) 4)) 32)))), ((Qad _ _).trans (QaM (lsR Qaw (Qac (Qaj (Qac (Qac (s) 32) 4)) 32)))), ((Qad _ _).trans (QaL (lsR Qaw (Qac (Qaj (Qac (Qac (s) 32) 4)) 32))))]; rfl), kj, rfl, ((Qad _ _).trans (Qam _ (Qai (Qbc (lsR Qaw (Qac (Qaj (Qac (Qac (s) 32) 4)) 32))) 32))), kj, rfl, ((Qad _ _).trans (Qa6 _ (Qai (Qac (Qbc (lsR Qaw (Qac (Qaj (Qac (Qac (s) 32) 4)) 32))) 32) 64))), trivial⟩ kj (QbX _) kj kj) (congrArg (fun z => Result.ok (Next.value (Value.agg z)) _) (QfR [ints .u8 (keyV (Qag (s) 32)), #[.int .i64 ((bigN (Qag (Qac (s) 32) 4) : Nat) : Int)], #[.int .i64 ((bigN (Qag (Qac (Qac (s) 32) 4) 1) : Nat) : Int)], ints .u8 (keyV (Qag (Qaj (Qac (Qac (s) 32) 4)) 32)), #[.slice alP lsP.length clP]] [#[.bool (nUs (lsR Qaw (Qac (Qaj (Qac (Qac (s) 32) 4)) 32)))], #[.int .i64 (nNm (lsR Qaw (Qac (Qaj (Qac (Qac (s) 32) 4)) 32)))], ints .u8 (nKy (lsR Qaw (Qac (Qaj (Qac (Qac (s) 32) 4)) 32))), ints .u8 (nSg (lsR Qaw (Qac (Qaj (Qac (Qac (s) 32) 4)) 32))), ints .u8 (nPa (lsR Qaw (Qac (Qaj (Qac (Qac (s) 32) 4)) 32))), #[.slice a xs.length c], #[.slice at_ ts.length ct]] [ints .u8 (keyV (Qag (Qbc (lsR Qaw (Qac (Qaj (Qac (Qac (s) 32) 4)) 32))) 32)), ints .u8 (QaY (Qag (Qac (Qbc (lsR Qaw (Qac (Qaj (Qac (Qac (s) 32) 4)) 32))) 32) 64))]))) ?_
  have r2_2 := (ExtB.row q2 r2_1 (Ne.symm (Nat.ne_of_lt (Nat.lt_of_lt_of_le hgr b2))))
  have r2_3 := (ExtB.row q3 r2_2 (Ne.symm (Nat.ne_of_lt (Nat.lt_of_lt_of_le hgr b2))))
  have r2_4 := (ExtB.row q4 r2_3 (Ne.symm (Nat.ne_of_lt (Nat.lt_of_lt_of_le hgr b2))))
  have r2_5 := (ExtB.row q5 r2_4 (Ne.symm (Nat.ne_of_lt (Nat.lt_of_lt_of_le hgr b2))))
  have r2_6 := (ExtB.row q6 r2_5 (Ne.symm (Nat.ne_of_lt (Nat.lt_of_lt_of_le hgr b2))))
  have r2_7 := (ExtB.row q7 r2_6 (Ne.symm (Nat.ne_of_lt (Nat.lt_of_lt_of_le hgr b2))))
  have r2_8 := (ExtB.row q8 r2_7 (Ne.symm (Nat.ne_of_lt (Nat.lt_of_lt_of_le hgr b2))))
  have r2_9 := (ExtB.row q9 r2_8 (Ne.symm (Nat.ne_of_lt (Nat.lt_of_lt_of_le hgr b2))))
  refine Qav g2 _ (cat [ints .u8 (keyV (Qag (s) 32)), #[.int .i64 ((bigN (Qag (Qac (s) 32) 4) : Nat) : Int)], #[.int .i64 ((bigN (Qag (Qac (Qac (s) 32) 4) 1) : Nat) : Int)], ints .u8 (keyV (Qag (Qaj (Qac (Qac (s) 32) 4)) 32)), #[.slice alP lsP.length clP], #[.bool (nUs (lsR Qaw (Qac (Qaj (Qac (Qac (s) 32) 4)) 32)))], #[.int .i64 (nNm (lsR Qaw (Qac (Qaj (Qac (Qac (s) 32) 4)) 32)))], ints .u8 (nKy (lsR Qaw (Qac (Qaj (Qac (Qac (s) 32) 4)) 32))), ints .u8 (nSg (lsR Qaw (Qac (Qaj (Qac (Qac (s) 32) 4)) 32))), ints .u8 (nPa (lsR Qaw (Qac (Qaj (Qac (Qac (s) 32) 4)) 32))), #[.slice a xs.length c], #[.slice at_ ts.length ct], ints .u8 (keyV (Qag (Qbc (lsR Qaw (Qac (Qaj (Qac (Qac (s) 32) 4)) 32))) 32)), ints .u8 (QaY (Qag (Qac (Qbc (lsR Qaw (Qac (Qaj (Qac (Qac (s) 32) 4)) 32))) 32) 64))]) 59 r2_9 rfl kj (Qat 59 _ _ g2 59 _ _ r2_9 rfl kj kj (isz (n := 263) kj (by rw [Qaa, Qaa, Qaa, Qaa, Qaa, Qaa, Qaa, Qaa, Qaa, Qaa, Qaa, Qaa, Qaa, Qaa]; simp only [Array.size_append, cat, ((Qad _ _).trans (Qam _ (Qai (Qaj (Qac (Qac (s) 32) 4)) 32))), ((Qad _ _).trans (Qam _ (Qai (Qbc (lsR Qaw (Qac (Qaj (Qac (Qac (s) 32) 4)) 32))) 32))), ((Qad _ _).trans (Qam _ (Qai (s) 32))), ((Qad _ _).trans (QaN (lsR Qaw (Qac (Qaj (Qac (Qac (s) 32) 4)) 32)))), ((Qad _ _).trans (QaM (lsR Qaw (Qac (Qaj (Qac (Qac (s) 32) 4)) 32)))), ((Qad _ _).trans (QaL (lsR Qaw (Qac (Qaj (Qac (Qac (s) 32) 4)) 32)))), ((Qad _ _).trans (Qa6 _ (Qai (Qac (Qbc (lsR Qaw (Qac (Qaj (Qac (Qac (s) 32) 4)) 32))) 32) 64)))]; rfl)) (eqsz (n := 263) (by rw [Qaa, Qaa, Qaa, Qaa, Qaa, Qaa, Qaa, Qaa, Qaa, Qaa, Qaa, Qaa, Qaa, Qaa]; simp only [Array.size_append, cat, ((Qad _ _).trans (List.length_replicate (n := 32))), ((Qad _ _).trans (List.length_replicate (n := 64)))]; rfl) (by rw [Qaa, Qaa, Qaa, Qaa, Qaa, Qaa, Qaa, Qaa, Qaa, Qaa, Qaa, Qaa, Qaa, Qaa]; simp only [Array.size_append, cat, ((Qad _ _).trans (Qam _ (Qai (Qaj (Qac (Qac (s) 32) 4)) 32))), ((Qad _ _).trans (Qam _ (Qai (Qbc (lsR Qaw (Qac (Qaj (Qac (Qac (s) 32) 4)) 32))) 32))), ((Qad _ _).trans (Qam _ (Qai (s) 32))), ((Qad _ _).trans (QaN (lsR Qaw (Qac (Qaj (Qac (Qac (s) 32) 4)) 32)))), ((Qad _ _).trans (QaM (lsR Qaw (Qac (Qaj (Qac (Qac (s) 32) 4)) 32)))), ((Qad _ _).trans (QaL (lsR Qaw (Qac (Qaj (Qac (Qac (s) 32) 4)) 32)))), ((Qad _ _).trans (Qa6 _ (Qai (Qac (Qbc (lsR Qaw (Qac (Qaj (Qac (Qac (s) 32) 4)) 32))) 32) 64)))]; rfl)) (QaC _ (by intro a ha; simp only [List.mem_cons, List.not_mem_nil, or_false] at ha; rcases ha with rfl | rfl | rfl | rfl | rfl | rfl | rfl | rfl | rfl | rfl | rfl | rfl | rfl | rfl; exact (Qan _ _); exact (Qak _ rfl); exact (Qak _ rfl); exact (Qan _ _); exact (Qak _ rfl); exact (Qak _ rfl); exact (Qak _ rfl); exact (Qan _ _); exact (Qan _ _); exact (Qan _ _); exact (Qak _ rfl); exact (Qak _ rfl); exact (Qan _ _); exact (Qan _ _)))) fun W10 p10 r2_10 => ?_
  have x10 : ExtB gr w W10 := ExtB.putsN x9 p10 b2
  refine Qaf ?_
  refine hK3 _ _ ?_
  refine wp_ret ?_
  repeat (first | with_reducible refine goR1 ?_ | with_reducible refine goR2 ?_)
  have rs14 := (RSt.put rs13 hB p10 (Nat.lt_of_lt_of_le hgr b2))
  exact (show bodyPost _ _ _ .ret _ _ from ret1 (.agg (cat [ints .u8 (keyV (Qag (s) 32)), #[.int .i64 ((bigN (Qag (Qac (s) 32) 4) : Nat) : Int)], #[.int .i64 ((bigN (Qag (Qac (Qac (s) 32) 4) 1) : Nat) : Int)], ints .u8 (keyV (Qag (Qaj (Qac (Qac (s) 32) 4)) 32)), #[.slice alP lsP.length clP], #[.bool (nUs (lsR Qaw (Qac (Qaj (Qac (Qac (s) 32) 4)) 32)))], #[.int .i64 (nNm (lsR Qaw (Qac (Qaj (Qac (Qac (s) 32) 4)) 32)))], ints .u8 (nKy (lsR Qaw (Qac (Qaj (Qac (Qac (s) 32) 4)) 32))), ints .u8 (nSg (lsR Qaw (Qac (Qaj (Qac (Qac (s) 32) 4)) 32))), ints .u8 (nPa (lsR Qaw (Qac (Qaj (Qac (Qac (s) 32) 4)) 32))), #[.slice a xs.length c], #[.slice at_ ts.length ct], ints .u8 (keyV (Qag (Qbc (lsR Qaw (Qac (Qaj (Qac (Qac (s) 32) 4)) 32))) 32)), ints .u8 (QaY (Qag (Qac (Qbc (lsR Qaw (Qac (Qaj (Qac (Qac (s) 32) 4)) 32))) 32) 64))])) rfl (QaR g2 59 _ r2_10 kj kj (isz (n := 263) kj (by rw [Qaa, Qaa, Qaa, Qaa, Qaa, Qaa, Qaa, Qaa, Qaa, Qaa, Qaa, Qaa, Qaa, Qaa]; simp only [Array.size_append, cat, ((Qad _ _).trans (Qam _ (Qai (Qaj (Qac (Qac (s) 32) 4)) 32))), ((Qad _ _).trans (Qam _ (Qai (Qbc (lsR Qaw (Qac (Qaj (Qac (Qac (s) 32) 4)) 32))) 32))), ((Qad _ _).trans (Qam _ (Qai (s) 32))), ((Qad _ _).trans (QaN (lsR Qaw (Qac (Qaj (Qac (Qac (s) 32) 4)) 32)))), ((Qad _ _).trans (QaM (lsR Qaw (Qac (Qaj (Qac (Qac (s) 32) 4)) 32)))), ((Qad _ _).trans (QaL (lsR Qaw (Qac (Qaj (Qac (Qac (s) 32) 4)) 32)))), ((Qad _ _).trans (Qa6 _ (Qai (Qac (Qbc (lsR Qaw (Qac (Qaj (Qac (Qac (s) 32) 4)) 32))) 32) 64)))]; rfl))) ⟨_, rfl, x10, (show RSt B gr (QbC s) _ from rs14), lsP, _, _, xs, _, _, ts, _, _, rfl, ⟨(Qby.base_ x5.2.2.2.1 (OwL.rows inPr (OwL.rows inPr (OwL.rows inPr (OwL.rows inPr howP (Qbb 0 q7 (Nat.lt_of_lt_of_le hgr x5.2.2.2.1)) (by decide)) (Qbb 0 q8 (Nat.lt_of_lt_of_le hgr x5.2.2.2.1)) (by decide)) (Qbb 0 q9 (Nat.lt_of_lt_of_le hgr x5.2.2.2.1)) (by decide)) (Qbt _ p10 r2_9) (by decide))), OwnN.base x6.2.2.2.1 (Qbp (Qbp (Qbp hoM (Qbb 0 q8 (Nat.lt_of_lt_of_le hgr x6.2.2.2.1)) (by decide)) (Qbb 0 q9 (Nat.lt_of_lt_of_le hgr x6.2.2.2.1)) (by decide)) (Qbt _ p10 r2_9) (by decide)), Qbn.base_ x6.2.2.2.1 (OwL.rows inSt (OwL.rows inSt (OwL.rows inSt hoT (Qbb 0 q8 (Nat.lt_of_lt_of_le hgr x6.2.2.2.1)) (by decide)) (Qbb 0 q9 (Nat.lt_of_lt_of_le hgr x6.2.2.2.1)) (by decide)) (Qbt _ p10 r2_9) (by decide)), hlnP, hlM, hlT, fun hne => ⟨hisP (Qdg hne), hisT (Qdw hne)⟩⟩⟩)
set_option maxHeartbeats 4000000 in
set_option maxRecDepth 100000 in
theorem Qey (bs : List Int) (a_y : Option Addr) (c_y : Nat) (w : World) (hyb : Qao bs) (hy : RdK .u8 w.heap.size bs (.slice a_y bs.length c_y) w) (hS : QbC (Qap bs) = none) : Calls Try.prog 68 #[.slice a_y bs.length c_y, .func (.func 69) #[] #[]] w (Ret w (.tuple #[.agg (cat [ints .u8 (List.replicate 32 0), #[.int .i64 0], #[.int .i64 0], ints .u8 (List.replicate 32 0), #[.slice none 0 0], #[.bool false], #[.int .i64 0], ints .u8 (List.replicate 32 0), ints .u8 (List.replicate 32 0), ints .u8 (List.replicate 32 0), #[.slice none 0 0], #[.slice none 0 0], ints .u8 (List.replicate 32 0), ints .u8 (List.replicate 64 0)]), .iface 102 (.int .i64 3)])) := by
  refine enter 33 [(0, .slice a_y bs.length c_y), (1, .func (.func 69) #[] #[])] Try.func68 rfl rfl kj rfl ?_
  refine wp_seq_k fun K1 hK1 => ?_
  refine Qae ?_
  refine Qar (cat [ints .u8 (List.replicate 32 0), #[.int .i64 0], #[.int .i64 0], ints .u8 (List.replicate 32 0), #[.slice none 0 0], #[.bool false], #[.int .i64 0], ints .u8 (List.replicate 32 0), ints .u8 (List.replicate 32 0), ints .u8 (List.replicate 32 0), #[.slice none 0 0], #[.slice none 0 0], ints .u8 (List.replicate 32 0), ints .u8 (List.replicate 64 0)]) 59 4 rfl kj (QaG 59 _ rfl (QbX _)) fun g2 W1 l2 e1 r2_1 => ?_
  have x1 : Ext w W1 := Ext.tr (Rely.Ext.refl w) e1
  have b2 : w.heap.size ≤ g2 := Nat.le_trans (Rely.Ext.refl w).size l2
  refine Qab (.nilIface) 5 rfl kj kj ?_
  refine Qaf ?_
  refine hK1 _ _ ?_
  refine wp_seq_k fun K3 hK3 => ?_
  refine Qae ?_
  refine Qab (.slice a_y bs.length c_y) 9 rfl kj kj ?_
  refine Qab (.slice a_y bs.length c_y) 10 rfl kj kj ?_
  refine Qab (.int .i64 ((bs.length : Nat) : Int)) 11 rfl kj kj ?_
  refine Qab (.bool (decide (((bs.length : Nat) : Int) > 65536))) 12 rfl kj kj ?_
  refine Qab (.agg (cat [#[.slice a_y bs.length c_y], #[.bool (decide (((bs.length : Nat) : Int) > 65536))]])) 13 rfl kj kj ?_
  refine Qar (cat [#[.slice a_y bs.length c_y], #[.bool (decide (((bs.length : Nat) : Int) > 65536))]]) 179 14 rfl kj kj fun g4 W2 l4 e2 r4_2 => ?_
  have x2 : Ext w W2 := Ext.tr x1 e2
  have b4 : w.heap.size ≤ g4 := Nat.le_trans x1.size l4
  refine Qab (.pointer (some ⟨g4, 0, none⟩)) 6 rfl kj kj ?_
  refine Qaf ?_
  refine hK3 _ _ ?_
  refine wp_seq_k fun K5 hK5 => ?_
  refine Qae ?_
  refine Qab (.func (.func 69) #[] #[]) 15 rfl kj kj ?_
  refine Qab (.pointer (some ⟨g4, 0, none⟩)) 16 rfl kj kj ?_
  refine Qah (fun v W' => ExtB g4 W2 W' ∧ RSt w.heap.size g4 (QbC (Qap bs)) W' ∧ ∃ (ps : List PrV) (ap : Option Addr) (cp : Nat) (xs : List Int) (a : Option Addr) (c : Nat) (ts : List StV) (at_ : Option Addr) (ct : Nat), v = .agg (cat [ints .u8 (cGrp (Qap bs)), #[.int .i64 (cEp (Qap bs))], #[.int .i64 (cFr (Qap bs))], ints .u8 (cBas (Qap bs)), #[.slice ap ps.length cp], #[.bool (nUs (cS5 (Qap bs)))], #[.int .i64 (nNm (cS5 (Qap bs)))], ints .u8 (nKy (cS5 (Qap bs))), ints .u8 (nSg (cS5 (Qap bs))), ints .u8 (nPa (cS5 (Qap bs))), #[.slice a xs.length c], #[.slice at_ ts.length ct], ints .u8 (cTag (Qap bs)), ints .u8 (cSig (Qap bs))]) ∧ CmRd W2.heap.size W' (Qap bs) ps (.slice ap ps.length cp) xs (.slice a xs.length c) ts (.slice at_ ts.length ct)) 69 #[.pointer (some ⟨g4, 0, none⟩)] 17 rfl kj kj (Qg8 w.heap.size g4 (Qap bs) _ b4 ⟨_, bs, _, r4_2, RdK.ext hy x2, hyb, rfl⟩) fun vv6 W3 hh6 => ?_
  obtain ⟨q3, ⟨u6, xs2, bad, rb3, hu6, -, hS2⟩, ps, ap, cp, xs, a, c, ts, at_, ct, rfl, hcr⟩ := hh6
  rw [hS] at hS2
  obtain ⟨au_, cu_, rfl, -⟩ := id hu6
  obtain rfl : bad = true := by cases bad with | true => rfl | false => cases hS2
  have rc3 : W3.heap[g4]? = some (.cells (cat [#[.slice au_ xs2.length cu_], #[.bool true]]) 179) := rb3
  have x3 : Ext w W3 := ExtB.toExt x2 q3 b4
  refine Qar (cat [ints .u8 (List.replicate 32 0), #[.int .i64 0], #[.int .i64 0], ints .u8 (List.replicate 32 0), #[.slice none 0 0], #[.bool false], #[.int .i64 0], ints .u8 (List.replicate 32 0), ints .u8 (List.replicate 32 0), ints .u8 (List.replicate 32 0), #[.slice none 0 0], #[.slice none 0 0], ints .u8 (List.replicate 32 0), ints .u8 (List.replicate 64 0)]) 59 7 rfl kj (QaG 59 _ rfl (QbX _)) fun g7 W4 l7 e4 r7_4 => ?_
  have x4 : Ext w W4 := Ext.tr x3 e4
  have b7 : w.heap.size ≤ g7 := Nat.le_trans x3.size l7
  refine Qav g7 _ (cat [ints .u8 (cGrp (Qap bs)), #[.int .i64 (cEp (Qap bs))], #[.int .i64 (cFr (Qap bs))], ints .u8 (cBas (Qap bs)), #[.slice ap ps.length cp], #[.bool (nUs (cS5 (Qap bs)))], #[.int .i64 (nNm (cS5 (Qap bs)))], ints .u8 (nKy (cS5 (Qap bs))), ints .u8 (nSg (cS5 (Qap bs))), ints .u8 (nPa (cS5 (Qap bs))), #[.slice a xs.length c], #[.slice at_ ts.length ct], ints .u8 (cTag (Qap bs)), ints .u8 (cSig (Qap bs))]) 59 r7_4 rfl kj (Qat 59 _ _ g7 59 _ _ r7_4 rfl kj kj (isz (n := 263) kj (by rw [Qaa, Qaa, Qaa, Qaa, Qaa, Qaa, Qaa, Qaa, Qaa, Qaa, Qaa, Qaa, Qaa, Qaa]; simp only [Array.size_append, cat, ((Qad _ _).trans (QcS (Qap bs))), ((Qad _ _).trans (QcR (Qap bs))), ((Qad _ _).trans (QcQ (Qap bs))), ((Qad _ _).trans (QcP (Qap bs))), ((Qad _ _).trans (QaN (cS5 (Qap bs)))), ((Qad _ _).trans (QaM (cS5 (Qap bs)))), ((Qad _ _).trans (QaL (cS5 (Qap bs))))]; rfl)) (eqsz (n := 263) (by rw [Qaa, Qaa, Qaa, Qaa, Qaa, Qaa, Qaa, Qaa, Qaa, Qaa, Qaa, Qaa, Qaa, Qaa]; simp only [Array.size_append, cat, ((Qad _ _).trans (List.length_replicate (n := 32))), ((Qad _ _).trans (List.length_replicate (n := 64)))]; rfl) (by rw [Qaa, Qaa, Qaa, Qaa, Qaa, Qaa, Qaa, Qaa, Qaa, Qaa, Qaa, Qaa, Qaa, Qaa]; simp only [Array.size_append, cat, ((Qad _ _).trans (QcS (Qap bs))), ((Qad _ _).trans (QcR (Qap bs))), ((Qad _ _).trans (QcQ (Qap bs))), ((Qad _ _).trans (QcP (Qap bs))), ((Qad _ _).trans (QaN (cS5 (Qap bs)))), ((Qad _ _).trans (QaM (cS5 (Qap bs)))), ((Qad _ _).trans (QaL (cS5 (Qap bs))))]; rfl)) (QaC _ (by intro a ha; simp only [List.mem_cons, List.not_mem_nil, or_false] at ha; rcases ha with rfl | rfl | rfl | rfl | rfl | rfl | rfl | rfl | rfl | rfl | rfl | rfl | rfl | rfl; exact (Qan _ _); exact (Qak _ rfl); exact (Qak _ rfl); exact (Qan _ _); exact (Qak _ rfl); exact (Qak _ rfl); exact (Qak _ rfl); exact (Qan _ _); exact (Qan _ _); exact (Qan _ _); exact (Qak _ rfl); exact (Qak _ rfl); exact (Qan _ _); exact (Qan _ _)))) fun W5 p5 r7_5 => ?_
  have x5 : Ext w W5 := Puts.ext p5 x4 b7
  refine Qaf ?_
  refine hK5 _ _ ?_
  refine wp_seq_k fun K8 hK8 => ?_
  refine wp_seq_k fun K9 hK9 => ?_
  refine Qae ?_
  refine Qab (.pointer (some ⟨g4, 0, none⟩)) 18 rfl kj kj ?_
  refine Qab (.pointer (some ⟨g4, 0, none⟩)) 19 rfl kj kj ?_
  refine Qab (.pointer (some ⟨g4, 1, none⟩)) 20 rfl kj kj ?_
  have r4_4 := (Qau rc3 e4)
  have r4_5 := (Puts.row p5 r4_4 (Qa2 rc3 l7))
  refine Qab (.bool true) 21 rfl kj (Qal 4 _ g4 1 179 _ (.bool true) _ r4_5 rfl kj kj kj) ?_
  refine Qab (.bool true) 22 rfl kj kj ?_
  refine Qas 23 rfl kj ?_
  refine Qas 24 rfl kj ?_
  refine Qas 25 rfl kj ?_
  refine Qas 26 rfl kj ?_
  refine Qas 27 rfl kj ?_
  refine Qas 28 rfl kj ?_
  refine Qab (.bool true) 29 rfl kj kj ?_
  refine Qaf ?_
  refine hK9 _ _ ?_
  refine cond_true kj ?_
  refine wp_seq_k fun K10 hK10 => ?_
  refine Qae ?_
  refine Qar (cat [ints .u8 (List.replicate 32 0), #[.int .i64 0], #[.int .i64 0], ints .u8 (List.replicate 32 0), #[.slice none 0 0], #[.bool false], #[.int .i64 0], ints .u8 (List.replicate 32 0), ints .u8 (List.replicate 32 0), ints .u8 (List.replicate 32 0), #[.slice none 0 0], #[.slice none 0 0], ints .u8 (List.replicate 32 0), ints .u8 (List.replicate 64 0)]) 59 8 rfl kj (QaG 59 _ rfl (QbX _)) fun g11 W6 l11 e6 r11_6 => ?_
  have x6 : Ext w W6 := Ext.tr x5 e6
  have b11 : w.heap.size ≤ g11 := Nat.le_trans x5.size l11
  refine Qaf ?_
  refine hK10 _ _ ?_
  refine wp_seq_k fun K12 hK12 => ?_
  refine Qae ?_
  refine Qab (.agg (cat [ints .u8 (List.replicate 32 0), #[.int .i64 0], #[.int .i64 0], ints .u8 (List.replicate 32 0), #[.slice none 0 0], #[.bool false], #[.int .i64 0], ints .u8 (List.replicate 32 0), ints .u8 (List.replicate 32 0), ints .u8 (List.replicate 32 0), #[.slice none 0 0], #[.slice none 0 0], ints .u8 (List.replicate 32 0), ints .u8 (List.replicate 64 0)])) 30 rfl kj (Qaz 59 _ g11 59 _ _ r11_6 rfl kj kj (isz (n := 263) kj (by rw [Qaa, Qaa, Qaa, Qaa, Qaa, Qaa, Qaa, Qaa, Qaa, Qaa, Qaa, Qaa, Qaa, Qaa]; simp only [Array.size_append, cat, ((Qad _ _).trans (List.length_replicate (n := 32))), ((Qad _ _).trans (List.length_replicate (n := 64)))]; rfl))) ?_
  refine Qab (.iface 102 (.int .i64 3)) 31 rfl kj kj ?_
  have r2_2 := (Qau r2_1 e2)
  have r2_3 := (ExtB.row q3 r2_2 (Qa2 r2_1 l4))
  have r2_4 := (Qau r2_3 e4)
  have r2_5 := (Puts.row p5 r2_4 (Qa2 r2_3 l7))
  have r2_6 := (Qau r2_5 e6)
  refine Qav g2 _ (cat [ints .u8 (List.replicate 32 0), #[.int .i64 0], #[.int .i64 0], ints .u8 (List.replicate 32 0), #[.slice none 0 0], #[.bool false], #[.int .i64 0], ints .u8 (List.replicate 32 0), ints .u8 (List.replicate 32 0), ints .u8 (List.replicate 32 0), #[.slice none 0 0], #[.slice none 0 0], ints .u8 (List.replicate 32 0), ints .u8 (List.replicate 64 0)]) 59 r2_6 rfl kj (Qat 59 _ _ g2 59 _ _ r2_6 rfl kj kj (isz (n := 263) kj (by rw [Qaa, Qaa, Qaa, Qaa, Qaa, Qaa, Qaa, Qaa, Qaa, Qaa, Qaa, Qaa, Qaa, Qaa]; simp only [Array.size_append, cat, ((Qad _ _).trans (List.length_replicate (n := 32))), ((Qad _ _).trans (List.length_replicate (n := 64)))]; rfl)) (eqsz (n := 263) (by rw [Qaa, Qaa, Qaa, Qaa, Qaa, Qaa, Qaa, Qaa, Qaa, Qaa, Qaa, Qaa, Qaa, Qaa]; simp only [Array.size_append, cat, ((Qad _ _).trans (List.length_replicate (n := 32))), ((Qad _ _).trans (List.length_replicate (n := 64)))]; rfl) (by rw [Qaa, Qaa, Qaa, Qaa, Qaa, Qaa, Qaa, Qaa, Qaa, Qaa, Qaa, Qaa, Qaa, Qaa]; simp only [Array.size_append, cat, ((Qad _ _).trans (List.length_replicate (n := 32))), ((Qad _ _).trans (List.length_replicate (n := 64)))]; rfl)) (QaC _ (by intro a ha; simp only [List.mem_cons, List.not_mem_nil, or_false] at ha; rcases ha with rfl | rfl | rfl | rfl | rfl | rfl | rfl | rfl | rfl | rfl | rfl | rfl | rfl | rfl; exact (Qan _ _); exact (Qak _ rfl); exact (Qak _ rfl); exact (Qan _ _); exact (Qak _ rfl); exact (Qak _ rfl); exact (Qak _ rfl); exact (Qan _ _); exact (Qan _ _); exact (Qan _ _); exact (Qak _ rfl); exact (Qak _ rfl); exact (Qan _ _); exact (Qan _ _)))) fun W7 p7 r2_7 => ?_
  have x7 : Ext w W7 := Puts.ext p7 x6 b2
  refine Qab (.iface 102 (.int .i64 3)) 5 rfl kj kj ?_
  refine Qaf ?_
  refine hK12 _ _ ?_
  refine wp_ret ?_
  repeat (first | with_reducible refine goR1 ?_ | with_reducible refine goR2 ?_)
  exact (show bodyPost _ _ _ .ret _ _ from ret2 (.agg (cat [ints .u8 (List.replicate 32 0), #[.int .i64 0], #[.int .i64 0], ints .u8 (List.replicate 32 0), #[.slice none 0 0], #[.bool false], #[.int .i64 0], ints .u8 (List.replicate 32 0), ints .u8 (List.replicate 32 0), ints .u8 (List.replicate 32 0), #[.slice none 0 0], #[.slice none 0 0], ints .u8 (List.replicate 32 0), ints .u8 (List.replicate 64 0)])) (.iface 102 (.int .i64 3)) rfl (QaR g2 59 _ r2_7 kj kj (isz (n := 263) kj (by rw [Qaa, Qaa, Qaa, Qaa, Qaa, Qaa, Qaa, Qaa, Qaa, Qaa, Qaa, Qaa, Qaa, Qaa]; simp only [Array.size_append, cat, ((Qad _ _).trans (List.length_replicate (n := 32))), ((Qad _ _).trans (List.length_replicate (n := 64)))]; rfl))) (Qa1 kj) ⟨rfl, x7⟩)
set_option maxHeartbeats 4000000 in
set_option maxRecDepth 100000 in
theorem Qex (bs : List Int) (a_y : Option Addr) (c_y : Nat) (w : World) (hyb : Qao bs) (hy : RdK .u8 w.heap.size bs (.slice a_y bs.length c_y) w) (y : Int) (ys : List Int) (hS : QbC (Qap bs) = some (y :: ys)) : Calls Try.prog 68 #[.slice a_y bs.length c_y, .func (.func 69) #[] #[]] w (Ret w (.tuple #[.agg (cat [ints .u8 (List.replicate 32 0), #[.int .i64 0], #[.int .i64 0], ints .u8 (List.replicate 32 0), #[.slice none 0 0], #[.bool false], #[.int .i64 0], ints .u8 (List.replicate 32 0), ints .u8 (List.replicate 32 0), ints .u8 (List.replicate 32 0), #[.slice none 0 0], #[.slice none 0 0], ints .u8 (List.replicate 32 0), ints .u8 (List.replicate 64 0)]), .iface 102 (.int .i64 3)])) := by
  refine enter 33 [(0, .slice a_y bs.length c_y), (1, .func (.func 69) #[] #[])] Try.func68 rfl rfl kj rfl ?_
  refine wp_seq_k fun K1 hK1 => ?_
  refine Qae ?_
  refine Qar (cat [ints .u8 (List.replicate 32 0), #[.int .i64 0], #[.int .i64 0], ints .u8 (List.replicate 32 0), #[.slice none 0 0], #[.bool false], #[.int .i64 0], ints .u8 (List.replicate 32 0), ints .u8 (List.replicate 32 0), ints .u8 (List.replicate 32 0), #[.slice none 0 0], #[.slice none 0 0], ints .u8 (List.replicate 32 0), ints .u8 (List.replicate 64 0)]) 59 4 rfl kj (QaG 59 _ rfl (QbX _)) fun g2 W1 l2 e1 r2_1 => ?_
  have x1 : Ext w W1 := Ext.tr (Rely.Ext.refl w) e1
  have b2 : w.heap.size ≤ g2 := Nat.le_trans (Rely.Ext.refl w).size l2
  refine Qab (.nilIface) 5 rfl kj kj ?_
  refine Qaf ?_
  refine hK1 _ _ ?_
  refine wp_seq_k fun K3 hK3 => ?_
  refine Qae ?_
  refine Qab (.slice a_y bs.length c_y) 9 rfl kj kj ?_
  refine Qab (.slice a_y bs.length c_y) 10 rfl kj kj ?_
  refine Qab (.int .i64 ((bs.length : Nat) : Int)) 11 rfl kj kj ?_
  refine Qab (.bool (decide (((bs.length : Nat) : Int) > 65536))) 12 rfl kj kj ?_
  refine Qab (.agg (cat [#[.slice a_y bs.length c_y], #[.bool (decide (((bs.length : Nat) : Int) > 65536))]])) 13 rfl kj kj ?_
  refine Qar (cat [#[.slice a_y bs.length c_y], #[.bool (decide (((bs.length : Nat) : Int) > 65536))]]) 179 14 rfl kj kj fun g4 W2 l4 e2 r4_2 => ?_
  have x2 : Ext w W2 := Ext.tr x1 e2
  have b4 : w.heap.size ≤ g4 := Nat.le_trans x1.size l4
  refine Qab (.pointer (some ⟨g4, 0, none⟩)) 6 rfl kj kj ?_
  refine Qaf ?_
  refine hK3 _ _ ?_
  refine wp_seq_k fun K5 hK5 => ?_
  refine Qae ?_
  refine Qab (.func (.func 69) #[] #[]) 15 rfl kj kj ?_
  refine Qab (.pointer (some ⟨g4, 0, none⟩)) 16 rfl kj kj ?_
  refine Qah (fun v W' => ExtB g4 W2 W' ∧ RSt w.heap.size g4 (QbC (Qap bs)) W' ∧ ∃ (ps : List PrV) (ap : Option Addr) (cp : Nat) (xs : List Int) (a : Option Addr) (c : Nat) (ts : List StV) (at_ : Option Addr) (ct : Nat), v = .agg (cat [ints .u8 (cGrp (Qap bs)), #[.int .i64 (cEp (Qap bs))], #[.int .i64 (cFr (Qap bs))], ints .u8 (cBas (Qap bs)), #[.slice ap ps.length cp], #[.bool (nUs (cS5 (Qap bs)))], #[.int .i64 (nNm (cS5 (Qap bs)))], ints .u8 (nKy (cS5 (Qap bs))), ints .u8 (nSg (cS5 (Qap bs))), ints .u8 (nPa (cS5 (Qap bs))), #[.slice a xs.length c], #[.slice at_ ts.length ct], ints .u8 (cTag (Qap bs)), ints .u8 (cSig (Qap bs))]) ∧ CmRd W2.heap.size W' (Qap bs) ps (.slice ap ps.length cp) xs (.slice a xs.length c) ts (.slice at_ ts.length ct)) 69 #[.pointer (some ⟨g4, 0, none⟩)] 17 rfl kj kj (Qg8 w.heap.size g4 (Qap bs) _ b4 ⟨_, bs, _, r4_2, RdK.ext hy x2, hyb, rfl⟩) fun vv6 W3 hh6 => ?_
  obtain ⟨q3, ⟨u6, xs2, bad, rb3, hu6, -, hS2⟩, ps, ap, cp, xs, a, c, ts, at_, ct, rfl, hcr⟩ := hh6
  rw [hS] at hS2
  obtain ⟨au_, cu_, rfl, -⟩ := id hu6
  obtain ⟨rfl, rfl⟩ : bad = false ∧ xs2 = y :: ys := by cases bad with | true => cases hS2 | false => exact ⟨rfl, (Option.some.inj hS2).symm⟩
  have rc3 : W3.heap[g4]? = some (.cells (cat [#[.slice au_ ((y :: ys).length) cu_], #[.bool false]]) 179) := rb3
  have x3 : Ext w W3 := ExtB.toExt x2 q3 b4
  refine Qar (cat [ints .u8 (List.replicate 32 0), #[.int .i64 0], #[.int .i64 0], ints .u8 (List.replicate 32 0), #[.slice none 0 0], #[.bool false], #[.int .i64 0], ints .u8 (List.replicate 32 0), ints .u8 (List.replicate 32 0), ints .u8 (List.replicate 32 0), #[.slice none 0 0], #[.slice none 0 0], ints .u8 (List.replicate 32 0), ints .u8 (List.replicate 64 0)]) 59 7 rfl kj (QaG 59 _ rfl (QbX _)) fun g7 W4 l7 e4 r7_4 => ?_
  have x4 : Ext w W4 := Ext.tr x3 e4
  have b7 : w.heap.size ≤ g7 := Nat.le_trans x3.size l7
  refine Qav g7 _ (cat [ints .u8 (cGrp (Qap bs)), #[.int .i64 (cEp (Qap bs))], #[.int .i64 (cFr (Qap bs))], ints .u8 (cBas (Qap bs)), #[.slice ap ps.length cp], #[.bool (nUs (cS5 (Qap bs)))], #[.int .i64 (nNm (cS5 (Qap bs)))], ints .u8 (nKy (cS5 (Qap bs))), ints .u8 (nSg (cS5 (Qap bs))), ints .u8 (nPa (cS5 (Qap bs))), #[.slice a xs.length c], #[.slice at_ ts.length ct], ints .u8 (cTag (Qap bs)), ints .u8 (cSig (Qap bs))]) 59 r7_4 rfl kj (Qat 59 _ _ g7 59 _ _ r7_4 rfl kj kj (isz (n := 263) kj (by rw [Qaa, Qaa, Qaa, Qaa, Qaa, Qaa, Qaa, Qaa, Qaa, Qaa, Qaa, Qaa, Qaa, Qaa]; simp only [Array.size_append, cat, ((Qad _ _).trans (QcS (Qap bs))), ((Qad _ _).trans (QcR (Qap bs))), ((Qad _ _).trans (QcQ (Qap bs))), ((Qad _ _).trans (QcP (Qap bs))), ((Qad _ _).trans (QaN (cS5 (Qap bs)))), ((Qad _ _).trans (QaM (cS5 (Qap bs)))), ((Qad _ _).trans (QaL (cS5 (Qap bs))))]; rfl)) (eqsz (n := 263) (by rw [Qaa, Qaa, Qaa, Qaa, Qaa, Qaa, Qaa, Qaa, Qaa, Qaa, Qaa, Qaa, Qaa, Qaa]; simp only [Array.size_append, cat, ((Qad _ _).trans (List.length_replicate (n := 32))), ((Qad _ _).trans (List.length_replicate (n := 64)))]; rfl) (by rw [Qaa, Qaa, Qaa, Qaa, Qaa, Qaa, Qaa, Qaa, Qaa, Qaa, Qaa, Qaa, Qaa, Qaa]; simp only [Array.size_append, cat, ((Qad _ _).trans (QcS (Qap bs))), ((Qad _ _).trans (QcR (Qap bs))), ((Qad _ _).trans (QcQ (Qap bs))), ((Qad _ _).trans (QcP (Qap bs))), ((Qad _ _).trans (QaN (cS5 (Qap bs)))), ((Qad _ _).trans (QaM (cS5 (Qap bs)))), ((Qad _ _).trans (QaL (cS5 (Qap bs))))]; rfl)) (QaC _ (by intro a ha; simp only [List.mem_cons, List.not_mem_nil, or_false] at ha; rcases ha with rfl | rfl | rfl | rfl | rfl | rfl | rfl | rfl | rfl | rfl | rfl | rfl | rfl | rfl; exact (Qan _ _); exact (Qak _ rfl); exact (Qak _ rfl); exact (Qan _ _); exact (Qak _ rfl); exact (Qak _ rfl); exact (Qak _ rfl); exact (Qan _ _); exact (Qan _ _); exact (Qan _ _); exact (Qak _ rfl); exact (Qak _ rfl); exact (Qan _ _); exact (Qan _ _)))) fun W5 p5 r7_5 => ?_
  have x5 : Ext w W5 := Puts.ext p5 x4 b7
  refine Qaf ?_
  refine hK5 _ _ ?_
  refine wp_seq_k fun K8 hK8 => ?_
  refine wp_seq_k fun K9 hK9 => ?_
  refine Qae ?_
  refine Qab (.pointer (some ⟨g4, 0, none⟩)) 18 rfl kj kj ?_
  refine Qab (.pointer (some ⟨g4, 0, none⟩)) 19 rfl kj kj ?_
  refine Qab (.pointer (some ⟨g4, 1, none⟩)) 20 rfl kj kj ?_
  have r4_4 := (Qau rc3 e4)
  have r4_5 := (Puts.row p5 r4_4 (Qa2 rc3 l7))
  refine Qab (.bool false) 21 rfl kj (Qal 4 _ g4 1 179 _ (.bool false) _ r4_5 rfl kj kj kj) ?_
  refine Qab (.bool false) 22 rfl kj kj ?_
  refine Qab (.pointer (some ⟨g4, 0, none⟩)) 23 rfl kj kj ?_
  refine Qab (.pointer (some ⟨g4, 0, none⟩)) 24 rfl kj kj ?_
  refine Qab (.pointer (some ⟨g4, 0, none⟩)) 25 rfl kj kj ?_
  refine Qab (.slice au_ ((y :: ys).length) cu_) 26 rfl kj (Qal 26 _ g4 0 179 _ (.slice au_ ((y :: ys).length) cu_) _ r4_5 rfl kj kj kj) ?_
  refine Qab (.int .i64 (((y :: ys).length : Nat) : Int)) 27 rfl kj kj ?_
  refine Qab (.bool true) 28 rfl kj (Qa0 (u := .bool (decide ((((y :: ys).length : Nat) : Int) > 0))) kj (congrArg Value.bool (decide_eq_true (by simp only [List.length_cons]; omega)))) ?_
  refine Qab (.bool true) 29 rfl kj kj ?_
  refine Qaf ?_
  refine hK9 _ _ ?_
  refine cond_true kj ?_
  refine wp_seq_k fun K10 hK10 => ?_
  refine Qae ?_
  refine Qar (cat [ints .u8 (List.replicate 32 0), #[.int .i64 0], #[.int .i64 0], ints .u8 (List.replicate 32 0), #[.slice none 0 0], #[.bool false], #[.int .i64 0], ints .u8 (List.replicate 32 0), ints .u8 (List.replicate 32 0), ints .u8 (List.replicate 32 0), #[.slice none 0 0], #[.slice none 0 0], ints .u8 (List.replicate 32 0), ints .u8 (List.replicate 64 0)]) 59 8 rfl kj (QaG 59 _ rfl (QbX _)) fun g11 W6 l11 e6 r11_6 => ?_
  have x6 : Ext w W6 := Ext.tr x5 e6
  have b11 : w.heap.size ≤ g11 := Nat.le_trans x5.size l11
  refine Qaf ?_
  refine hK10 _ _ ?_
  refine wp_seq_k fun K12 hK12 => ?_
  refine Qae ?_
  refine Qab (.agg (cat [ints .u8 (List.replicate 32 0), #[.int .i64 0], #[.int .i64 0], ints .u8 (List.replicate 32 0), #[.slice none 0 0], #[.bool false], #[.int .i64 0], ints .u8 (List.replicate 32 0), ints .u8 (List.replicate 32 0), ints .u8 (List.replicate 32 0), #[.slice none 0 0], #[.slice none 0 0], ints .u8 (List.replicate 32 0), ints .u8 (List.replicate 64 0)])) 30 rfl kj (Qaz 59 _ g11 59 _ _ r11_6 rfl kj kj (isz (n := 263) kj (by rw [Qaa, Qaa, Qaa, Qaa, Qaa, Qaa, Qaa, Qaa, Qaa, Qaa, Qaa, Qaa, Qaa, Qaa]; simp only [Array.size_append, cat, ((Qad _ _).trans (List.length_replicate (n := 32))), ((Qad _ _).trans (List.length_replicate (n := 64)))]; rfl))) ?_
  refine Qab (.iface 102 (.int .i64 3)) 31 rfl kj kj ?_
  have r2_2 := (Qau r2_1 e2)
  have r2_3 := (ExtB.row q3 r2_2 (Qa2 r2_1 l4))
  have r2_4 := (Qau r2_3 e4)
  have r2_5 := (Puts.row p5 r2_4 (Qa2 r2_3 l7))
  have r2_6 := (Qau r2_5 e6)
  refine Qav g2 _ (cat [ints .u8 (List.replicate 32 0), #[.int .i64 0], #[.int .i64 0], ints .u8 (List.replicate 32 0), #[.slice none 0 0], #[.bool false], #[.int .i64 0], ints .u8 (List.replicate 32 0), ints .u8 (List.replicate 32 0), ints .u8 (List.replicate 32 0), #[.slice none 0 0], #[.slice none 0 0], ints .u8 (List.replicate 32 0), ints .u8 (List.replicate 64 0)]) 59 r2_6 rfl kj (Qat 59 _ _ g2 59 _ _ r2_6 rfl kj kj (isz (n := 263) kj (by rw [Qaa, Qaa, Qaa, Qaa, Qaa, Qaa, Qaa, Qaa, Qaa, Qaa, Qaa, Qaa, Qaa, Qaa]; simp only [Array.size_append, cat, ((Qad _ _).trans (List.length_replicate (n := 32))), ((Qad _ _).trans (List.length_replicate (n := 64)))]; rfl)) (eqsz (n := 263) (by rw [Qaa, Qaa, Qaa, Qaa, Qaa, Qaa, Qaa, Qaa, Qaa, Qaa, Qaa, Qaa, Qaa, Qaa]; simp only [Array.size_append, cat, ((Qad _ _).trans (List.length_replicate (n := 32))), ((Qad _ _).trans (List.length_replicate (n := 64)))]; rfl) (by rw [Qaa, Qaa, Qaa, Qaa, Qaa, Qaa, Qaa, Qaa, Qaa, Qaa, Qaa, Qaa, Qaa, Qaa]; simp only [Array.size_append, cat, ((Qad _ _).trans (List.length_replicate (n := 32))), ((Qad _ _).trans (List.length_replicate (n := 64)))]; rfl)) (QaC _ (by intro a ha; simp only [List.mem_cons, List.not_mem_nil, or_false] at ha; rcases ha with rfl | rfl | rfl | rfl | rfl | rfl | rfl | rfl | rfl | rfl | rfl | rfl | rfl | rfl; exact (Qan _ _); exact (Qak _ rfl); exact (Qak _ rfl); exact (Qan _ _); exact (Qak _ rfl); exact (Qak _ rfl); exact (Qak _ rfl); exact (Qan _ _); exact (Qan _ _); exact (Qan _ _); exact (Qak _ rfl); exact (Qak _ rfl); exact (Qan _ _); exact (Qan _ _)))) fun W7 p7 r2_7 => ?_
  have x7 : Ext w W7 := Puts.ext p7 x6 b2
  refine Qab (.iface 102 (.int .i64 3)) 5 rfl kj kj ?_
  refine Qaf ?_
  refine hK12 _ _ ?_
  refine wp_ret ?_
  repeat (first | with_reducible refine goR1 ?_ | with_reducible refine goR2 ?_)
  exact (show bodyPost _ _ _ .ret _ _ from ret2 (.agg (cat [ints .u8 (List.replicate 32 0), #[.int .i64 0], #[.int .i64 0], ints .u8 (List.replicate 32 0), #[.slice none 0 0], #[.bool false], #[.int .i64 0], ints .u8 (List.replicate 32 0), ints .u8 (List.replicate 32 0), ints .u8 (List.replicate 32 0), #[.slice none 0 0], #[.slice none 0 0], ints .u8 (List.replicate 32 0), ints .u8 (List.replicate 64 0)])) (.iface 102 (.int .i64 3)) rfl (QaR g2 59 _ r2_7 kj kj (isz (n := 263) kj (by rw [Qaa, Qaa, Qaa, Qaa, Qaa, Qaa, Qaa, Qaa, Qaa, Qaa, Qaa, Qaa, Qaa, Qaa]; simp only [Array.size_append, cat, ((Qad _ _).trans (List.length_replicate (n := 32))), ((Qad _ _).trans (List.length_replicate (n := 64)))]; rfl))) (Qa1 kj) ⟨rfl, x7⟩)
set_option maxHeartbeats 4000000 in
set_option maxRecDepth 100000 in
theorem Qe2 (bs : List Int) (a_y : Option Addr) (c_y : Nat) (w : World) (hyb : Qao bs) (hy : RdK .u8 w.heap.size bs (.slice a_y bs.length c_y) w) (hS : QbC (Qap bs) = none) : Calls Try.prog 27 #[.slice a_y bs.length c_y] w (Ret w (.tuple #[.agg (cat [ints .u8 (List.replicate 32 0), #[.int .i64 0], #[.int .i64 0], ints .u8 (List.replicate 32 0), #[.slice none 0 0], #[.bool false], #[.int .i64 0], ints .u8 (List.replicate 32 0), ints .u8 (List.replicate 32 0), ints .u8 (List.replicate 32 0), #[.slice none 0 0], #[.slice none 0 0], ints .u8 (List.replicate 32 0), ints .u8 (List.replicate 64 0)]), .iface 102 (.int .i64 3)])) := by
  refine enter 8 [(0, .slice a_y bs.length c_y)] Try.func27 rfl rfl kj rfl ?_
  refine wp_seq_k fun K1 hK1 => ?_
  refine Qae ?_
  refine Qar (cat [ints .u8 (List.replicate 32 0), #[.int .i64 0], #[.int .i64 0], ints .u8 (List.replicate 32 0), #[.slice none 0 0], #[.bool false], #[.int .i64 0], ints .u8 (List.replicate 32 0), ints .u8 (List.replicate 32 0), ints .u8 (List.replicate 32 0), #[.slice none 0 0], #[.slice none 0 0], ints .u8 (List.replicate 32 0), ints .u8 (List.replicate 64 0)]) 59 2 rfl kj (QaG 59 _ rfl (QbX _)) fun g2 W1 l2 e1 r2_1 => ?_
  have x1 : Ext w W1 := Ext.tr (Rely.Ext.refl w) e1
  have b2 : w.heap.size ≤ g2 := Nat.le_trans (Rely.Ext.refl w).size l2
  refine Qab (.nilIface) 3 rfl kj kj ?_
  refine Qaf ?_
  refine hK1 _ _ ?_
  refine wp_seq_k fun K3 hK3 => ?_
  refine Qae ?_
  refine Qab (.slice a_y bs.length c_y) 4 rfl kj kj ?_
  refine Qa8 (.tuple #[.agg (cat [ints .u8 (List.replicate 32 0), #[.int .i64 0], #[.int .i64 0], ints .u8 (List.replicate 32 0), #[.slice none 0 0], #[.bool false], #[.int .i64 0], ints .u8 (List.replicate 32 0), ints .u8 (List.replicate 32 0), ints .u8 (List.replicate 32 0), #[.slice none 0 0], #[.slice none 0 0], ints .u8 (List.replicate 32 0), ints .u8 (List.replicate 64 0)]), .iface 102 (.int .i64 3)]) 68 #[.slice a_y bs.length c_y, .func (.func 69) #[] #[]] 5 rfl kj kj (Qey bs _ _ _ hyb (RdK.here (RdK.ext hy x1)) hS) fun W2 e2 => ?_
  have x2 : Ext w W2 := Ext.tr x1 e2
  refine Qab (.agg (cat [ints .u8 (List.replicate 32 0), #[.int .i64 0], #[.int .i64 0], ints .u8 (List.replicate 32 0), #[.slice none 0 0], #[.bool false], #[.int .i64 0], ints .u8 (List.replicate 32 0), ints .u8 (List.replicate 32 0), ints .u8 (List.replicate 32 0), #[.slice none 0 0], #[.slice none 0 0], ints .u8 (List.replicate 32 0), ints .u8 (List.replicate 64 0)])) 6 rfl kj kj ?_
  refine Qab (.iface 102 (.int .i64 3)) 7 rfl kj kj ?_
  have r2_2 := (Qau r2_1 e2)
  refine Qav g2 _ (cat [ints .u8 (List.replicate 32 0), #[.int .i64 0], #[.int .i64 0], ints .u8 (List.replicate 32 0), #[.slice none 0 0], #[.bool false], #[.int .i64 0], ints .u8 (List.replicate 32 0), ints .u8 (List.replicate 32 0), ints .u8 (List.replicate 32 0), #[.slice none 0 0], #[.slice none 0 0], ints .u8 (List.replicate 32 0), ints .u8 (List.replicate 64 0)]) 59 r2_2 rfl kj (Qat 59 _ _ g2 59 _ _ r2_2 rfl kj kj (isz (n := 263) kj (by rw [Qaa, Qaa, Qaa, Qaa, Qaa, Qaa, Qaa, Qaa, Qaa, Qaa, Qaa, Qaa, Qaa, Qaa]; simp only [Array.size_append, cat, ((Qad _ _).trans (List.length_replicate (n := 32))), ((Qad _ _).trans (List.length_replicate (n := 64)))]; rfl)) (eqsz (n := 263) (by rw [Qaa, Qaa, Qaa, Qaa, Qaa, Qaa, Qaa, Qaa, Qaa, Qaa, Qaa, Qaa, Qaa, Qaa]; simp only [Array.size_append, cat, ((Qad _ _).trans (List.length_replicate (n := 32))), ((Qad _ _).trans (List.length_replicate (n := 64)))]; rfl) (by rw [Qaa, Qaa, Qaa, Qaa, Qaa, Qaa, Qaa, Qaa, Qaa, Qaa, Qaa, Qaa, Qaa, Qaa]; simp only [Array.size_append, cat, ((Qad _ _).trans (List.length_replicate (n := 32))), ((Qad _ _).trans (List.length_replicate (n := 64)))]; rfl)) (QaC _ (by intro a ha; simp only [List.mem_cons, List.not_mem_nil, or_false] at ha; rcases ha with rfl | rfl | rfl | rfl | rfl | rfl | rfl | rfl | rfl | rfl | rfl | rfl | rfl | rfl; exact (Qan _ _); exact (Qak _ rfl); exact (Qak _ rfl); exact (Qan _ _); exact (Qak _ rfl); exact (Qak _ rfl); exact (Qak _ rfl); exact (Qan _ _); exact (Qan _ _); exact (Qan _ _); exact (Qak _ rfl); exact (Qak _ rfl); exact (Qan _ _); exact (Qan _ _)))) fun W3 p3 r2_3 => ?_
  have x3 : Ext w W3 := Puts.ext p3 x2 b2
  refine Qab (.iface 102 (.int .i64 3)) 3 rfl kj kj ?_
  refine Qaf ?_
  refine hK3 _ _ ?_
  refine wp_ret ?_
  repeat (first | with_reducible refine goR1 ?_ | with_reducible refine goR2 ?_)
  exact (show bodyPost _ _ _ .ret _ _ from ret2 (.agg (cat [ints .u8 (List.replicate 32 0), #[.int .i64 0], #[.int .i64 0], ints .u8 (List.replicate 32 0), #[.slice none 0 0], #[.bool false], #[.int .i64 0], ints .u8 (List.replicate 32 0), ints .u8 (List.replicate 32 0), ints .u8 (List.replicate 32 0), #[.slice none 0 0], #[.slice none 0 0], ints .u8 (List.replicate 32 0), ints .u8 (List.replicate 64 0)])) (.iface 102 (.int .i64 3)) rfl (QaR g2 59 _ r2_3 kj kj (isz (n := 263) kj (by rw [Qaa, Qaa, Qaa, Qaa, Qaa, Qaa, Qaa, Qaa, Qaa, Qaa, Qaa, Qaa, Qaa, Qaa]; simp only [Array.size_append, cat, ((Qad _ _).trans (List.length_replicate (n := 32))), ((Qad _ _).trans (List.length_replicate (n := 64)))]; rfl))) (Qa1 kj) ⟨rfl, x3⟩)
set_option maxHeartbeats 4000000 in
set_option maxRecDepth 100000 in
theorem Qe1 (bs : List Int) (a_y : Option Addr) (c_y : Nat) (w : World) (hyb : Qao bs) (hy : RdK .u8 w.heap.size bs (.slice a_y bs.length c_y) w) (y : Int) (ys : List Int) (hS : QbC (Qap bs) = some (y :: ys)) : Calls Try.prog 27 #[.slice a_y bs.length c_y] w (Ret w (.tuple #[.agg (cat [ints .u8 (List.replicate 32 0), #[.int .i64 0], #[.int .i64 0], ints .u8 (List.replicate 32 0), #[.slice none 0 0], #[.bool false], #[.int .i64 0], ints .u8 (List.replicate 32 0), ints .u8 (List.replicate 32 0), ints .u8 (List.replicate 32 0), #[.slice none 0 0], #[.slice none 0 0], ints .u8 (List.replicate 32 0), ints .u8 (List.replicate 64 0)]), .iface 102 (.int .i64 3)])) := by
  refine enter 8 [(0, .slice a_y bs.length c_y)] Try.func27 rfl rfl kj rfl ?_
  refine wp_seq_k fun K1 hK1 => ?_
  refine Qae ?_
  refine Qar (cat [ints .u8 (List.replicate 32 0), #[.int .i64 0], #[.int .i64 0], ints .u8 (List.replicate 32 0), #[.slice none 0 0], #[.bool false], #[.int .i64 0], ints .u8 (List.replicate 32 0), ints .u8 (List.replicate 32 0), ints .u8 (List.replicate 32 0), #[.slice none 0 0], #[.slice none 0 0], ints .u8 (List.replicate 32 0), ints .u8 (List.replicate 64 0)]) 59 2 rfl kj (QaG 59 _ rfl (QbX _)) fun g2 W1 l2 e1 r2_1 => ?_
  have x1 : Ext w W1 := Ext.tr (Rely.Ext.refl w) e1
  have b2 : w.heap.size ≤ g2 := Nat.le_trans (Rely.Ext.refl w).size l2
  refine Qab (.nilIface) 3 rfl kj kj ?_
  refine Qaf ?_
  refine hK1 _ _ ?_
  refine wp_seq_k fun K3 hK3 => ?_
  refine Qae ?_
  refine Qab (.slice a_y bs.length c_y) 4 rfl kj kj ?_
  refine Qa8 (.tuple #[.agg (cat [ints .u8 (List.replicate 32 0), #[.int .i64 0], #[.int .i64 0], ints .u8 (List.replicate 32 0), #[.slice none 0 0], #[.bool false], #[.int .i64 0], ints .u8 (List.replicate 32 0), ints .u8 (List.replicate 32 0), ints .u8 (List.replicate 32 0), #[.slice none 0 0], #[.slice none 0 0], ints .u8 (List.replicate 32 0), ints .u8 (List.replicate 64 0)]), .iface 102 (.int .i64 3)]) 68 #[.slice a_y bs.length c_y, .func (.func 69) #[] #[]] 5 rfl kj kj (Qex bs _ _ _ hyb (RdK.here (RdK.ext hy x1)) y ys hS) fun W2 e2 => ?_
  have x2 : Ext w W2 := Ext.tr x1 e2
  refine Qab (.agg (cat [ints .u8 (List.replicate 32 0), #[.int .i64 0], #[.int .i64 0], ints .u8 (List.replicate 32 0), #[.slice none 0 0], #[.bool false], #[.int .i64 0], ints .u8 (List.replicate 32 0), ints .u8 (List.replicate 32 0), ints .u8 (List.replicate 32 0), #[.slice none 0 0], #[.slice none 0 0], ints .u8 (List.replicate 32 0), ints .u8 (List.replicate 64 0)])) 6 rfl kj kj ?_
  refine Qab (.iface 102 (.int .i64 3)) 7 rfl kj kj ?_
  have r2_2 := (Qau r2_1 e2)
  refine Qav g2 _ (cat [ints .u8 (List.replicate 32 0), #[.int .i64 0], #[.int .i64 0], ints .u8 (List.replicate 32 0), #[.slice none 0 0], #[.bool false], #[.int .i64 0], ints .u8 (List.replicate 32 0), ints .u8 (List.replicate 32 0), ints .u8 (List.replicate 32 0), #[.slice none 0 0], #[.slice none 0 0], ints .u8 (List.replicate 32 0), ints .u8 (List.replicate 64 0)]) 59 r2_2 rfl kj (Qat 59 _ _ g2 59 _ _ r2_2 rfl kj kj (isz (n := 263) kj (by rw [Qaa, Qaa, Qaa, Qaa, Qaa, Qaa, Qaa, Qaa, Qaa, Qaa, Qaa, Qaa, Qaa, Qaa]; simp only [Array.size_append, cat, ((Qad _ _).trans (List.length_replicate (n := 32))), ((Qad _ _).trans (List.length_replicate (n := 64)))]; rfl)) (eqsz (n := 263) (by rw [Qaa, Qaa, Qaa, Qaa, Qaa, Qaa, Qaa, Qaa, Qaa, Qaa, Qaa, Qaa, Qaa, Qaa]; simp only [Array.size_append, cat, ((Qad _ _).trans (List.length_replicate (n := 32))), ((Qad _ _).trans (List.length_replicate (n := 64)))]; rfl) (by rw [Qaa, Qaa, Qaa, Qaa, Qaa, Qaa, Qaa, Qaa, Qaa, Qaa, Qaa, Qaa, Qaa, Qaa]; simp only [Array.size_append, cat, ((Qad _ _).trans (List.length_replicate (n := 32))), ((Qad _ _).trans (List.length_replicate (n := 64)))]; rfl)) (QaC _ (by intro a ha; simp only [List.mem_cons, List.not_mem_nil, or_false] at ha; rcases ha with rfl | rfl | rfl | rfl | rfl | rfl | rfl | rfl | rfl | rfl | rfl | rfl | rfl | rfl; exact (Qan _ _); exact (Qak _ rfl); exact (Qak _ rfl); exact (Qan _ _); exact (Qak _ rfl); exact (Qak _ rfl); exact (Qak _ rfl); exact (Qan _ _); exact (Qan _ _); exact (Qan _ _); exact (Qak _ rfl); exact (Qak _ rfl); exact (Qan _ _); exact (Qan _ _)))) fun W3 p3 r2_3 => ?_
  have x3 : Ext w W3 := Puts.ext p3 x2 b2
  refine Qab (.iface 102 (.int .i64 3)) 3 rfl kj kj ?_
  refine Qaf ?_
  refine hK3 _ _ ?_
  refine wp_ret ?_
  repeat (first | with_reducible refine goR1 ?_ | with_reducible refine goR2 ?_)
  exact (show bodyPost _ _ _ .ret _ _ from ret2 (.agg (cat [ints .u8 (List.replicate 32 0), #[.int .i64 0], #[.int .i64 0], ints .u8 (List.replicate 32 0), #[.slice none 0 0], #[.bool false], #[.int .i64 0], ints .u8 (List.replicate 32 0), ints .u8 (List.replicate 32 0), ints .u8 (List.replicate 32 0), #[.slice none 0 0], #[.slice none 0 0], ints .u8 (List.replicate 32 0), ints .u8 (List.replicate 64 0)])) (.iface 102 (.int .i64 3)) rfl (QaR g2 59 _ r2_3 kj kj (isz (n := 263) kj (by rw [Qaa, Qaa, Qaa, Qaa, Qaa, Qaa, Qaa, Qaa, Qaa, Qaa, Qaa, Qaa, Qaa, Qaa]; simp only [Array.size_append, cat, ((Qad _ _).trans (List.length_replicate (n := 32))), ((Qad _ _).trans (List.length_replicate (n := 64)))]; rfl))) (Qa1 kj) ⟨rfl, x3⟩)
theorem Qdo (bs : List Int) (a_y : Option Addr) (c_y : Nat) (w : World) (hyb : Qao bs) (hy : RdK .u8 w.heap.size bs (.slice a_y bs.length c_y) w) (hS : QbC (Qap bs) ≠ some []) : Calls Try.prog 27 #[.slice a_y bs.length c_y] w (Ret w (.tuple #[.agg (cat [ints .u8 (List.replicate 32 0), #[.int .i64 0], #[.int .i64 0], ints .u8 (List.replicate 32 0), #[.slice none 0 0], #[.bool false], #[.int .i64 0], ints .u8 (List.replicate 32 0), ints .u8 (List.replicate 32 0), ints .u8 (List.replicate 32 0), #[.slice none 0 0], #[.slice none 0 0], ints .u8 (List.replicate 32 0), ints .u8 (List.replicate 64 0)]), .iface 102 (.int .i64 3)])) := by
  cases h : QbC (Qap bs) with
  | none => exact Qe2 bs a_y c_y w hyb hy h
  | some l => cases l with
    | nil => exact absurd h hS
    | cons y ys => exact Qe1 bs a_y c_y w hyb hy y ys h
end Go.Proofs.Ytfelfmchachljaa.Wr
end
section
namespace Go.Proofs.Ytfelfmchachljaa.Wr
open Go Go.RowKit
open Rely Auto Own Sha
set_option linter.unusedVariables false
set_option linter.unusedSimpArgs false
def Ex (r : List Int) (s s' : Option (List Int)) : Prop := ∀ q, s = some q → s' = some (q ++ r)
section
variable {r : List Int} {s s' : Option (List Int)}
theorem QaP (n : Nat) (h : Ex r s s') : Ex r (Qac s n) (Qac s' n) := fun q hq => by
  cases s with
  | none => cases hq
  | some p =>
    rw [h p rfl]
    unfold Qac at hq ⊢
    simp only [Option.bind_some] at hq ⊢
    split at hq
    · rename_i hn
      obtain rfl := Option.some.inj hq
      rw [if_pos (by rw [List.length_append]; omega), List.drop_append_of_le_length hn]
    · cases hq
theorem Qcl {n : Nat} (h : Qac s n ≠ none) : s ≠ none := fun e => h (by rw [e]; rfl)
theorem Qbi (n : Nat) (h : Ex r s s') (hn : Qac s n ≠ none) : Qag s' n = Qag s n := by
  cases s with
  | none => exact absurd rfl hn
  | some p =>
    rw [h p rfl]
    unfold Qac at hn
    simp only [Option.bind_some] at hn
    split at hn
    · rename_i hl
      unfold Qag
      simp only
      rw [if_pos (by rw [List.length_append]; omega), if_pos hl, List.take_append_of_le_length hl]
    · exact absurd rfl hn
theorem QeB {b : Bool} (h : Qax s b ≠ none) : s ≠ none := fun e => h (by rw [e, QaO])
theorem QdM {b b' : Bool} (h : Ex r s s') (hb : s ≠ none → b' = b) : Ex r (Qax s b) (Qax s' b') := fun q hq => by
  have hs : s ≠ none := QeB (b := b) (by rw [hq]; exact fun e => by cases e)
  rw [hb hs]
  cases b with
  | false => cases hq
  | true => exact h q hq
theorem Qdf (h : Ex r s s') : Ex r (Qaj s) (Qaj s') := QdM (QaP 1 h) fun hn => by rw [Qbi 1 h hn]
theorem Qhw (h : Ex r s s') : ∀ n, Ex r (itR s n) (itR s' n)
  | 0 => h
  | n + 1 => Qdf (Qhw h n)
theorem QgE (h : Ex r s s') : ∀ n, itR s n ≠ none → itL s' n = itL s n
  | 0, _ => rfl
  | n + 1, hn => by
    have h1 : Qac (itR s n) 1 ≠ none := QeB hn
    show itL s' n ++ [_] = itL s n ++ [_]
    rw [QgE h n (Qcl h1), Qbi 1 (Qhw h n) h1]
theorem QfE (h : nR6 s ≠ none) : Qac (nR5 s) 1 ≠ none := fun e => h (by unfold nR6; rw [e, QdH none 0 rfl _ (Nat.zero_le _)])
theorem QeX (h : Ex r s s') : Ex r (nR5 s) (nR5 s') := QaP 32 (QaP 32 (QaP 32 (QaP 1 (QaP 1 h))))
theorem QhX (h : Ex r s s') : Ex r (nR6 s) (nR6 s') := fun q hq => by
  have hne := QfE (s := s) (by rw [hq]; exact fun e => by cases e)
  unfold nR6 at hq ⊢
  rw [Qbi 1 (QeX h) hne]
  exact Qhw (QaP 1 (QeX h)) _ q hq
theorem QhZ (h : Ex r s s') (hn : nR6 s ≠ none) : nL s' = nL s := by
  have hne := QfE hn
  unfold nL
  rw [Qbi 1 (QeX h) hne]
  exact QgE (QaP 1 (QeX h)) _ hn
theorem QhY (h : Ex r s s') (hn : nR6 s ≠ none) : nOk s' = nOk s := by
  have n5 : nR5 s ≠ none := Qcl (QfE hn)
  have n4 : nR4 s ≠ none := Qcl n5
  have n3 : nR3 s ≠ none := Qcl n4
  have n2 : nR2 s ≠ none := Qcl n3
  have n1 : nR1 s ≠ none := Qcl n2
  have x1 : Ex r (nR1 s) (nR1 s') := QaP 1 h
  have x2 : Ex r (nR2 s) (nR2 s') := QaP 1 x1
  have x3 : Ex r (nR3 s) (nR3 s') := QaP 32 x2
  have x4 : Ex r (nR4 s) (nR4 s') := QaP 32 x3
  unfold nOk nUs nNm nKy nSg nPa
  rw [QhZ h hn, Qbi 1 h n1, Qbi 1 x1 n2, Qbi 32 x2 n3, Qbi 32 x3 n4, Qbi 32 x4 n5]
theorem QdL (h : Ex r s s') : Ex r (QaA s) (QaA s') := QdM (QdM (QhX h) fun hn => QhY h hn) fun hn => by rw [QhZ h (QeB hn)]
theorem QgF {F : Option (List Int) → Option (List Int)} (hF : ∀ s s', Ex r s s' → Ex r (F s) (F s')) (h : Ex r s s') : ∀ n, Ex r (itG F s n) (itG F s' n)
  | 0 => h
  | n + 1 => hF _ _ (QgF hF h n)
theorem QhU {F : Option (List Int) → Option (List Int)} (h0 : F none = none) (h : lsR F s ≠ none) : Qac s 1 ≠ none := fun e => h (by unfold lsR; rw [e]; exact Qbk h0 none 0 rfl _ (Nat.zero_le _))
theorem Qhv {F : Option (List Int) → Option (List Int)} (h0 : F none = none) (hF : ∀ s s', Ex r s s' → Ex r (F s) (F s')) (h : Ex r s s') : Ex r (lsR F s) (lsR F s') := fun q hq => by
  have hne := QhU (s := s) h0 (by rw [hq]; exact fun e => by cases e)
  unfold lsR lsN at hq ⊢
  rw [Qbi 1 h hne]
  exact QgF hF (QaP 1 h) _ q hq
theorem QgD (h : Ex r s s') : Ex r (rowR s) (rowR s') := fun q hq => by
  unfold rowR at hq ⊢
  have hne : Qac s 2 ≠ none := Qcl (n := bigN (Qag s 2)) (by rw [hq]; exact fun e => by cases e)
  rw [Qbi 2 h hne]
  exact QaP _ (QaP 2 h) q hq
theorem Qhs (h : Ex r s s') : Ex r (Qba s) (Qba s') := Qhv Qcu (fun _ _ => QgD) (QaP 32 h)
theorem Qhu (h : Ex r s s') : Ex r (Qbc s) (Qbc s') := QdM (Qhv Qb1 (fun _ _ => Qhs) (QdL h)) fun hn => by
  have e : lsN (QaA s') = lsN (QaA s) := congrArg bigN (Qbi 1 (QdL h) (QhU Qb1 hn))
  rw [e]
theorem Qg0 (h : Ex r s s') : Ex r (Qb8 s) (Qb8 s') := fun q hq => by
  have x4 : Ex r (qS4 s) (qS4 s') := QaP 32 (Qdf (QaP 4 (QaP 32 h)))
  have x5 : Ex r (qS5 s) (qS5 s') := QaP 1 x4
  have hne : qS5 s ≠ none := fun e => by
    unfold Qb8 at hq
    rw [e, Qc6, Qb4, QaO] at hq
    revert hq
    cases (qKd s == 1) <;> cases (qKd s == 2) <;> cases (qKd s == 3) <;> (intro hq; cases hq)
  have e : qKd s' = qKd s := congrArg bigN (Qbi 1 x4 hne)
  unfold Qb8 at hq ⊢
  rw [e]
  revert hq
  cases (qKd s == 1) with
  | true => exact fun hq => QaP 32 (QdL x5) q hq
  | false =>
    cases (qKd s == 2) with
    | true => exact fun hq => QdL x5 q hq
    | false =>
      cases (qKd s == 3) with
      | true => exact fun hq => Qdf x5 q hq
      | false => exact fun hq => by cases hq
theorem Qht (h : Ex r s s') : Ex r (Qaw s) (Qaw s') := QaP 64 (Qg0 h)
theorem QfL (h : Ex r s s') : Ex r (QbC s) (QbC s') :=
  QaP 64 (QaP 32 (Qhu (Qhv Qcg (fun _ _ => Qht) (QaP 32 (Qdf (QaP 4 (QaP 32 h)))))))
theorem QdK (h : Ex r s s') : Ex r (QbB s) (QbB s') := QgD (QaP 4 (Qdf (QaP 4 (QaP 32 h))))
end
theorem Qfr : QbC none = none := by
  by_cases h : QbC none = none
  · exact h
  · exact absurd (by unfold cS4 cS3 cS2 cS1; rw [show Qac (Qac none 32) 4 = none from rfl, Qb4]; exact Qbk Qcg _ 0 rfl _ (Nat.zero_le _)) (Qdg h)
theorem Qdr : QbB none = none := by
  unfold QbB pS4 pS3 pS2 pS1
  rw [show Qac (Qac none 32) 4 = none from rfl, Qb4]
  rfl
theorem Qfc (xs : List Int) (h : 65536 < xs.length) : Qap xs = none := by
  unfold Qap
  rw [decide_eq_true (by omega)]; rfl
theorem QfO {R : Option (List Int) → Option (List Int)} (hR : ∀ r s s', Ex r s s' → Ex r (R s) (R s')) (bs : List Int) (k : Nat) (hl : bs.length ≤ 65536) (h : R (Qap bs) = some []) (hk : k < bs.length) : R (Qap (bs.take k)) ≠ some [] := fun e => by
  rw [Qbq _ hl] at h
  rw [Qbq _ (by rw [List.length_take]; omega)] at e
  have e2 := hR (bs.drop k) (some (bs.take k)) (some bs) (fun q hq => by obtain rfl := Option.some.inj hq; rw [List.take_append_drop]) [] e
  rw [h] at e2
  have e3 := congrArg List.length (Option.some.inj e2)
  rw [List.nil_append, List.length_drop] at e3
  simp only [List.length_nil] at e3
  omega
theorem QeC {R : Option (List Int) → Option (List Int)} (hR : ∀ r s s', Ex r s s' → Ex r (R s) (R s')) (h0 : R none = none) (bs : List Int) (b : Int) (hl : bs.length ≤ 65536) (h : R (Qap bs) = some []) : R (Qap (bs ++ [b])) ≠ some [] := fun e => by
  by_cases hb : (bs ++ [b]).length ≤ 65536
  · rw [Qbq _ hl] at h
    rw [Qbq _ hb] at e
    have e2 := hR [b] (some bs) (some (bs ++ [b])) (fun q hq => by obtain rfl := Option.some.inj hq; rfl) [] h
    rw [e] at e2
    cases e2
  · rw [Qfc _ (by omega), h0] at e
    cases e
end Go.Proofs.Ytfelfmchachljaa.Wr
end
section
namespace Go.Proofs.Ytfelfmchachljaa.Wr
open Go Go.RowKit
open Rely Auto Own Sha
set_option linter.unusedVariables false
set_option linter.unusedSimpArgs false
theorem Qh9 {P : Program} {w : World} (t : TypeId) (k : IntKind) (a b : Int) (hb : b ≠ 0) : (binOp .rem t (.int k a) (.int k b)).run P w = .ok (.int k (a.tmod b)) w := by
  unfold binOp Op.intDiv
  simp [hb]
theorem Qfb (n : Int) : 0 ≤ IntKind.u64.wrap n := Int.emod_nonneg _ (by decide)
theorem Qe0 (at_ : Int) (n : Nat) (hn : 0 < n) : ∃ k : Nat, k < n ∧ Int.tmod (IntKind.u64.wrap at_) ((n : Nat) : Int) = (k : Int) := by
  have h0 := Qfb at_
  have h1 := Int.emod_nonneg (IntKind.u64.wrap at_) (show ((n : Nat) : Int) ≠ 0 by omega)
  have h2 := Int.emod_lt_of_pos (IntKind.u64.wrap at_) (show (0 : Int) < ((n : Nat) : Int) by omega)
  refine ⟨(IntKind.u64.wrap at_ % (n : Int)).toNat, by omega, ?_⟩
  rw [Int.tmod_eq_emod_of_nonneg h0, Int.toNat_of_nonneg h1]
theorem Qeq (n : Nat) (h : n ≤ 65536) : IntKind.u64.wrap ((n : Nat) : Int) = ((n : Nat) : Int) := Int.emod_eq_of_lt (by omega) (by show ((n : Nat) : Int) < 18446744073709551616; omega)
end Go.Proofs.Ytfelfmchachljaa.Wr
end
section
namespace Go.Proofs.Ytfelfmchachljaa.Wr
open Go Go.RowKit
open Rely Auto Own Sha
set_option linter.unusedVariables false
set_option linter.unusedSimpArgs false
def Qbo (ep fr kd : Int) (us : Bool) (nm : Int) (key sg pa ms start : List Int) (at_ : Int) : Bool := hgB ep fr && (if kd = 1 then Qca us nm key sg pa ms && (at_ == 0) else if kd = 2 then Qca us nm key sg pa ms && (decide (start = List.replicate 32 0) && (at_ == 0)) else if kd = 3 then QaB us nm key sg pa ms && (decide (start = List.replicate 32 0) && inB at_ 31) else false)
def Qdl (grp : List Int) (ep fr : Int) (bas : List Int) (kd : Int) (us : Bool) (nm : Int) (key sg pa ms start : List Int) (at_ : Int) (sig : List Int) : List Int := Qci grp ep fr ++ bas ++ [byV kd 0] ++ (if kd = 3 then [] else Qch us nm key sg pa ms) ++ (if kd = 1 then start else []) ++ (if kd = 3 then [byV at_ 0] else []) ++ sig
end Go.Proofs.Ytfelfmchachljaa.Wr
end
section
namespace Go.Proofs.Ytfelfmchachljaa.Wr
open Go Go.RowKit
open Rely Auto Own Sha
set_option linter.unusedVariables false
set_option linter.unusedSimpArgs false
open Wk
section
variable {P : Program} {ops : Array Oper} {Q : Exit → Act → World → Prop} {o : Oper} {N : Nat} {L : Env} {w V : World} {ds : List Deferred} {fuel : Nat} {listed : Array Bool}
def Joins (N : Nat) (ds : List Deferred) {α : Type} (live : α → Env) (I : α → World → Prop) (e : Exit) (a : Act) (W : World) : Prop := match e with
  | .normal => ∃ (s : α) (X : Env), a = QaH ds N (live s ++ X) ∧ I s W
  | _ => False
end
theorem QeO {ep fr kd : Int} {us : Bool} {nm : Int} {key sg pa ms start : List Int} {at_ : Int} (h : Qbo ep fr kd us nm key sg pa ms start at_ = true) : hgB ep fr = true ∧ (kd = 1 ∨ kd = 2 ∨ kd = 3) ∧ (kd = 3 ∨ Qca us nm key sg pa ms = true) := by
  unfold Qbo at h
  rw [Bool.and_eq_true] at h
  refine ⟨h.1, ?_⟩
  have h2 := h.2
  by_cases k1 : kd = 1
  · rw [if_pos k1, Bool.and_eq_true] at h2; exact ⟨.inl k1, .inr h2.1⟩
  · rw [if_neg k1] at h2
    by_cases k2 : kd = 2
    · rw [if_pos k2, Bool.and_eq_true] at h2; exact ⟨.inr (.inl k2), .inr h2.1⟩
    · rw [if_neg k2] at h2
      by_cases k3 : kd = 3
      · exact ⟨.inr (.inr k3), .inl k3⟩
      · rw [if_neg k3] at h2; cases h2
end Go.Proofs.Ytfelfmchachljaa.Wr
end
section
namespace Go.Proofs.Ytfelfmchachljaa.Wr
open Go Go.RowKit
open Rely Auto Own Sha
set_option linter.unusedVariables false
set_option linter.unusedSimpArgs false
structure Qbz (T : TypeId) (n : Nat) (w W : World) : Prop where
  os : W.os = w.os
  tape : W.tape = w.tape
  output : W.output = w.output
  size : w.heap.size ≤ W.heap.size
  block : ∀ k, k < w.heap.size → (k < n ∨ ∀ cs fr, w.heap[k]? ≠ some (.cells cs T fr)) → W.heap[k]? = w.heap[k]?
theorem Qbz.refl (T : TypeId) (n : Nat) (w : World) : Qbz T n w w := ⟨rfl, rfl, rfl, Nat.le_refl _, fun _ _ _ => rfl⟩
theorem Qbz.trans {T : TypeId} {n : Nat} {u w W : World} (h : Qbz T n u w) (k : Qbz T n w W) : Qbz T n u W :=
  ⟨k.os.trans h.os, k.tape.trans h.tape, k.output.trans h.output, Nat.le_trans h.size k.size, fun i hi hc => by
    have e := h.block i hi hc
    refine (k.block i (Nat.lt_of_lt_of_le hi h.size) ?_).trans e
    rcases hc with hc | hc
    · exact .inl hc
    · exact .inr fun cs fr => by rw [e]; exact hc cs fr⟩
theorem Qbz.ext {T : TypeId} {n : Nat} {u w W : World} (h : Qbz T n u w) (e : Ext w W) : Qbz T n u W := h.trans ⟨e.os, e.tape, e.output, e.size, fun k hk _ => e.block k hk⟩
theorem Qbz.put {T : TypeId} {n g : Nat} {u w W : World} (h : Qbz T n u w) (p : Puts w g W) (hg : u.heap.size ≤ g) : Qbz T n u W :=
  ⟨p.1.trans h.os, p.2.1.trans h.tape, p.2.2.1.trans h.output, by have := h.size; have := p.2.2.2.1; omega, fun k hk hc => (p.2.2.2.2 k (by omega)).trans (h.block k hk hc)⟩
theorem Qbz.row {T T' : TypeId} {n g : Nat} {w W : World} {c : Array Value} (h : Qbz T n w W) (r : w.heap[g]? = some (.cells c T')) (hT : T' ≠ T) : W.heap[g]? = some (.cells c T') :=
  (h.block g (Qa5 r) (.inr fun cs fr e => by rw [r] at e; simp only [Option.some.injEq, Obj.cells.injEq] at e; exact hT e.2.1)).trans r
theorem Qbz.toExt {T : TypeId} {n : Nat} {u w W : World} (h : Ext u w) (l : Qbz T n w W) (hn : u.heap.size ≤ n) : Ext u W :=
  ⟨l.os.trans h.os, l.tape.trans h.tape, l.output.trans h.output, Nat.le_trans h.size l.size, fun k hk => (l.block k (Nat.lt_of_lt_of_le hk h.size) (.inl (by omega))).trans (h.block k hk)⟩
section
variable {P : Program} {ops : Array Oper} {Q : Exit → Act → World → Prop} {rest : List Oper} {o : Oper} {N : Nat} {L : Env} {w V : World} {ds : List Deferred} {fuel : Nat} {listed : Array Bool}
end
section
variable {P : Program} {Q : Exit → Act → World → Prop} {N : Nat} {L : Env} {w V : World} {ds : List Deferred}
end
def stB (t : StV) : List Int := t.key ++ [byV ((t.rows.length : Nat) : Int) 0] ++ (t.rows.map fun r => rowV r.xs).flatten
def Qcq (n : NdC) (ts : List StV) : List Int := Qhm n ++ [byV ((ts.length : Nat) : Int) 0] ++ (ts.map stB).flatten
end Go.Proofs.Ytfelfmchachljaa.Wr
end
section
namespace Go.Proofs.Ytfelfmchachljaa.Wr
open Go Go.RowKit
open Rely Auto Own Sha
set_option linter.unusedVariables false
set_option linter.unusedSimpArgs false
open Wk
end Go.Proofs.Ytfelfmchachljaa.Wr
end
section
namespace Go.Proofs.Ytfelfmchachljaa.Wr
open Go Go.RowKit
open Rely Auto Own Sha
set_option linter.unusedVariables false
set_option linter.unusedSimpArgs false
open Wk
def okP (p : PrV) : Bool := Qbo p.p.ep p.p.fr p.p.kd p.p.n.us p.p.n.nm p.p.n.key p.p.n.sg p.p.n.pa p.p.n.ms p.p.start p.p.at_
def Qc3 (p : PrV) : List Int := Qdl p.p.grp p.p.ep p.p.fr p.p.bas p.p.kd p.p.n.us p.p.n.nm p.p.n.key p.p.n.sg p.p.n.pa p.p.n.ms p.p.start p.p.at_ p.p.sig
def QdO (grp : List Int) (ep fr : Int) (bas : List Int) (ps : List PrV) (n : NdC) (ts : List StV) (tag sig : List Int) : List Int := Qci grp ep fr ++ bas ++ [byV ((ps.length : Nat) : Int) 0] ++ (ps.map Qc3).flatten ++ Qcq n ts ++ tag ++ sig
def QfQ (ep fr : Int) (ps : List PrV) (n : NdC) (ts : List StV) : Bool := hgB ep fr && (decide (ps.length ≤ 255) && (QcH n ts && ps.all okP))
def refC (grp : List Int) (ep fr : Int) (bas : List Int) (ps : List PrV) (n : NdC) (ts : List StV) (tag sig : List Int) : Option (List Int) := if QfQ ep fr ps n ts = true then fitV (QdO grp ep fr bas ps n ts tag sig) else none
theorem QgL {B : Nat} {w : World} {a : Option Addr} {ts : List StV} (h : LsAt StAt 33 st0 B w a ts) : ∀ t ∈ ts, t.key.length = 32 ∧ Qao t.key := fun t ht => by
  obtain ⟨g, o, -, h2⟩ := h
  obtain ⟨i, hi, e⟩ := List.mem_iff_getElem.1 ht
  have h3 := h2 i hi
  rw [List.getD_eq_getElem?_getD, List.getElem?_eq_getElem hi] at h3
  rw [← e]; exact ⟨h3.kl, h3.kb⟩
theorem QeQ {B : Nat} {w : World} {a : Option Addr} {ps : List PrV} (h : LsAt PrAt 263 pr0 B w a ps) : ∀ p ∈ ps, PrOk p.p := fun p hp => by
  obtain ⟨g, o, -, h2⟩ := h
  obtain ⟨i, hi, e⟩ := List.mem_iff_getElem.1 hp
  have h3 := h2 i hi
  rw [List.getD_eq_getElem?_getD, List.getElem?_eq_getElem hi] at h3
  rw [← e]; exact h3.ok
end Go.Proofs.Ytfelfmchachljaa.Wr
end
section
namespace Go.Proofs.Ytfelfmchachljaa.Wr
open Go Go.RowKit
open Rely Auto Own Sha
set_option linter.unusedVariables false
set_option linter.unusedSimpArgs false
end Go.Proofs.Ytfelfmchachljaa.Wr
end
section
namespace Go.Proofs.Ytfelfmchachljaa.Wr
open Go Go.RowKit
open Rely Auto Own Sha
set_option linter.unusedVariables false
set_option linter.unusedSimpArgs false
open Wk
end Go.Proofs.Ytfelfmchachljaa.Wr
end
section
namespace Go.Proofs.Ytfelfmchachljaa.Wr
open Go Go.RowKit
open Rely Auto Own Sha
set_option linter.unusedVariables false
set_option linter.unusedSimpArgs false
theorem QbQ (ys : List Int) (h : ys.length = 64) : QaY ys = ys := by
  unfold QaY
  rw [h, show (List.replicate 64 (0 : Int)).drop 64 = [] from rfl, List.append_nil]
end Go.Proofs.Ytfelfmchachljaa.Wr
end
section
namespace Go.Proofs.Ytfelfmchachljaa.Wr
open Go Go.RowKit
open Rely Auto Own Sha
set_option linter.unusedVariables false
set_option linter.unusedSimpArgs false
theorem Qf9 (s : Option (List Int)) (grp : List Int) (ep fr : Int) (bas : List Int) (kd : Int) (hk : 1 ≤ kd ∧ kd ≤ 3) : Qe5 s grp ep fr bas kd = bif hgB ep fr then rawS s (Qci grp ep fr ++ bas ++ [byV kd 0]) else none := by
  unfold Qe5 hgB
  rw [decide_eq_true hk, Qbm _ kd 0 255 (by decide) (by decide), QbW, Qbm _ ep 3 4294967295 (by decide) (by decide), show inB kd 255 = true by unfold inB; simp; omega]
  cases inB ep 4294967295 with
  | false => cases inB fr 31 <;> rfl
  | true =>
    cases inB fr 31 with
    | false => rfl
    | true =>
      show rawS (rawS (rawS (rawS (rawS s grp) (beV ep 4)) (beV fr 1)) bas) (beV kd 1) = rawS s _
      rw [QaF, QaF, QaF, QaF]
      congr 1; unfold Qci; simp only [List.append_assoc]; rfl
theorem Qe9 (us : Bool) (nm : Int) (key sg pa ms : List Int) (hkl : key.length = 32) (hgl : sg.length = 32) (hpl : pa.length = 32) : QbM none us nm key sg pa ms = none := by
  rw [Qcx none us nm key sg pa ms hkl hgl hpl]
  unfold putN
  split <;> rfl
theorem QfI (n : Int) : QaE none n = none := by rw [QbW]; cases inB n 31 <;> rfl
theorem Qf8 (s : Option (List Int)) (grp : List Int) (ep fr : Int) (bas : List Int) (kd : Int) (us : Bool) (nm : Int) (key sg pa ms start : List Int) (at_ : Int) (sig : List Int) (hrl : grp.length = 32) (hal : bas.length = 32) (hkl : key.length = 32) (hgl : sg.length = 32) (hpl : pa.length = 32) (htl : start.length = 32) (hil : sig.length = 64) : Qe4 s grp ep fr bas kd us nm key sg pa ms start at_ sig = if Qbo ep fr kd us nm key sg pa ms start at_ = true then rawS s (Qdl grp ep fr bas kd us nm key sg pa ms start at_ sig) else none := by
  unfold Qe4
  by_cases hk : 1 ≤ kd ∧ kd ≤ 3
  · rw [Qf9 s grp ep fr bas kd hk]
    cases h0 : hgB ep fr with
    | false =>
      have e : Qbo ep fr kd us nm key sg pa ms start at_ = false := by unfold Qbo; rw [h0, Bool.false_and]
      rw [e, if_neg (show ¬ (false = true) by decide), _root_.cond_false, Qe9 us nm key sg pa ms hkl hgl hpl]
      simp only [Qb9, QfI, show rawS none start = none from rfl, ite_self]
      rfl
    | true =>
    rw [_root_.cond_true]
    rcases (show kd = 1 ∨ kd = 2 ∨ kd = 3 by omega) with rfl | rfl | rfl
    · rw [if_pos rfl, Qcx _ us nm key sg pa ms hkl hgl hpl]
      have eo : Qbo ep fr 1 us nm key sg pa ms start at_ = (Qca us nm key sg pa ms && (at_ == 0)) := by unfold Qbo; rw [h0, Bool.true_and, if_pos rfl]
      unfold putN
      cases hg : Qca us nm key sg pa ms with
      | false => rw [eo, hg]; cases at_ == 0 <;> rfl
      | true =>
        cases ha : at_ == 0 with
        | false => rw [eo, hg, ha]; rfl
        | true =>
          have ho : Qbo ep fr 1 us nm key sg pa ms start at_ = true := by rw [eo, hg, ha]; rfl
          rw [if_pos rfl, if_pos ho]
          show rawS (rawS (rawS (rawS s (Qci grp ep fr ++ bas ++ [byV 1 0])) (Qch us nm key sg pa ms)) start) sig = _
          rw [QaF, QaF, QaF]
          congr 1; unfold Qdl; simp
    · rw [if_neg (by decide), if_pos rfl, Qcx _ us nm key sg pa ms hkl hgl hpl]
      have eo : Qbo ep fr 2 us nm key sg pa ms start at_ = (Qca us nm key sg pa ms && (decide (start = List.replicate 32 0) && (at_ == 0))) := by unfold Qbo; rw [h0, Bool.true_and, if_neg (by decide), if_pos rfl]
      unfold putN
      cases hg : Qca us nm key sg pa ms with
      | false => rw [eo, hg]; cases decide (start = List.replicate 32 0) <;> cases at_ == 0 <;> rfl
      | true =>
        cases hd : decide (start = List.replicate 32 0) with
        | false => rw [eo, hg, hd]; cases at_ == 0 <;> rfl
        | true =>
          cases ha : at_ == 0 with
          | false => rw [eo, hg, hd, ha]; rfl
          | true =>
            have ho : Qbo ep fr 2 us nm key sg pa ms start at_ = true := by rw [eo, hg, hd, ha]; rfl
            rw [if_pos rfl, if_pos ho]
            show rawS (rawS (rawS s (Qci grp ep fr ++ bas ++ [byV 2 0])) (Qch us nm key sg pa ms)) sig = _
            rw [QaF, QaF]
            congr 1; unfold Qdl; simp
    · rw [if_neg (by decide), if_neg (by decide), if_pos rfl]
      have eo : Qbo ep fr 3 us nm key sg pa ms start at_ = (QaB us nm key sg pa ms && (decide (start = List.replicate 32 0) && inB at_ 31)) := by unfold Qbo; rw [h0, Bool.true_and, if_neg (by decide), if_neg (by decide), if_pos rfl]
      rw [QbW]
      cases hg : QaB us nm key sg pa ms with
      | false => rw [eo, hg]; cases decide (start = List.replicate 32 0) <;> cases inB at_ 31 <;> rfl
      | true =>
        cases hd : decide (start = List.replicate 32 0) with
        | false => rw [eo, hg, hd]; cases inB at_ 31 <;> rfl
        | true =>
          cases ha : inB at_ 31 with
          | false => rw [eo, hg, hd, ha]; rfl
          | true =>
            have ho : Qbo ep fr 3 us nm key sg pa ms start at_ = true := by rw [eo, hg, hd, ha]; rfl
            rw [if_pos ho]
            show rawS (rawS (rawS s (Qci grp ep fr ++ bas ++ [byV 3 0])) (beV at_ 1)) sig = _
            rw [QaF, QaF]
            congr 1; unfold Qdl; simp only [if_true, if_neg (show ¬ (3 : Int) = 1 by decide), List.append_nil, List.append_assoc]; rfl
  · rw [if_neg (by omega), if_neg (by omega), if_neg (by omega), if_neg (fun h => hk (by have := (QeO h).2.1; omega))]
    rfl
theorem Qfj (grp : List Int) (ep fr : Int) (bas : List Int) (kd : Int) (us : Bool) (nm : Int) (key sg pa ms start : List Int) (at_ : Int) (sig : List Int) (r : List Int) (s : Option (List Int)) (hrl : grp.length = 32) (hal : bas.length = 32) (hkl : key.length = 32) (hgl : sg.length = 32) (hpl : pa.length = 32) (htl : start.length = 32) (hil : sig.length = 64) (hok : Qbo ep fr kd us nm key sg pa ms start at_ = true) (hs : s = some (Qdl grp ep fr bas kd us nm key sg pa ms start at_ sig ++ r)) : Qaw s = some r ∧ qGrp s = grp ∧ qEp s = ep ∧ qFr s = fr ∧ qBa s = bas ∧ ((qKd s : Nat) : Int) = kd ∧ qUs s = us ∧ qNm s = nm ∧ qKy s = key ∧ qSg s = sg ∧ qPa s = pa ∧ qL s = ms ∧ qSt s = start ∧ qAt s = at_ ∧ qSig s = sig := by
 obtain ⟨h0, hk, hg⟩ := QeO hok
 unfold hgB at h0
 simp only [Bool.and_eq_true] at h0
 have b1 := Qbw h0.1
 have b2 := Qbw h0.2
 obtain ⟨rest, hrest⟩ : ∃ q9, q9 = (if kd = 3 then [] else Qch us nm key sg pa ms) ++ ((if kd = 1 then start else []) ++ ((if kd = 3 then [byV at_ 0] else []) ++ (sig ++ r))) := ⟨_, rfl⟩
 have e : Qdl grp ep fr bas kd us nm key sg pa ms start at_ sig ++ r = grp ++ (beV ep 4 ++ (beV fr 1 ++ (bas ++ (beV kd 1 ++ rest)))) := by rw [hrest]; unfold Qdl Qci; simp only [List.append_assoc]; rfl
 rw [e] at hs
 have s1 : qS1 s = some (beV ep 4 ++ (beV fr 1 ++ (bas ++ (beV kd 1 ++ rest)))) := by unfold qS1; rw [hs]; exact Qa9 _ _ 32 hrl
 have s2 : qS2 s = some (beV fr 1 ++ (bas ++ (beV kd 1 ++ rest))) := by unfold qS2; rw [s1]; exact Qa9 _ _ 4 (QaI _ 4)
 have q : ((bigN (beV fr 1) : Nat) : Int) = fr := Qcd fr 1 b2.1 (by omega)
 have s3 : qS3 s = some (bas ++ (beV kd 1 ++ rest)) := by unfold qS3 Qaj; rw [s2, Qa4 _ _ 1 (QaI _ 1), q, Qa9 _ _ 1 (QaI _ 1), decide_eq_true (by omega)]; rfl
 have s4 : qS4 s = some (beV kd 1 ++ rest) := by unfold qS4; rw [s3]; exact Qa9 _ _ 32 hal
 have s5 : qS5 s = some rest := by unfold qS5; rw [s4]; exact Qa9 _ _ 1 (QaI _ 1)
 have k5 : ((qKd s : Nat) : Int) = kd := by unfold qKd; rw [s4, Qa4 _ _ 1 (QaI _ 1), Qcd kd 1 (by omega) (by omega)]
 have f1 : qGrp s = grp := by unfold qGrp; rw [hs, Qa4 _ _ 32 hrl, Qbh _ hrl]
 have f2 : qEp s = ep := by unfold qEp; rw [s1, Qa4 _ _ 4 (QaI _ 4), Qcd ep 4 b1.1 (by omega)]
 have f3 : qFr s = fr := by unfold qFr; rw [s2, Qa4 _ _ 1 (QaI _ 1), q]
 have f4 : qBa s = bas := by unfold qBa; rw [s3, Qa4 _ _ 32 hal, Qbh _ hal]
 have w0 : Qag (some (sig ++ r)) 64 = sig := Qa4 sig r 64 hil
 have w1 : Qac (some (sig ++ r)) 64 = some r := Qa9 sig r 64 hil
 rcases hk with rfl | rfl | rfl
 ·skip
  have kq : qKd s = 1 := by omega
  have kn : qNd s = true := by unfold qNd; rw [kq]; rfl
  have hr : rest = Qch us nm key sg pa ms ++ (start ++ (sig ++ r)) := by rw [hrest]; simp
  have hg1 := hg.resolve_left (by decide)
  obtain ⟨n1, n2, n3, n4, n5, n6, n7⟩ := Qc5 us nm key sg pa ms (start ++ (sig ++ r)) hkl hgl hpl hg1 (qS5 s) (by rw [s5, hr])
  have m1 : Qb8 s = some (sig ++ r) := by unfold Qb8; rw [kq, n6]; exact Qa9 _ _ 32 htl
  have hat : at_ = 0 := by unfold Qbo at hok; rw [if_pos rfl, Bool.and_eq_true, Bool.and_eq_true] at hok; exact beq_iff_eq.1 hok.2.2
  exact ⟨by unfold Qaw; rw [m1]; exact w1, f1, f2, f3, f4, k5, by unfold qUs; rw [kn]; exact n1, by unfold qNm; rw [kn]; exact n2, by unfold qKy; rw [kn]; exact n3, by unfold qSg; rw [kn]; exact n4, by unfold qPa; rw [kn]; exact n5, by unfold qL; rw [kn]; exact n7, by unfold qSt; rw [kq, n6]; show keyV (Qag (some (start ++ (sig ++ r))) 32) = start; rw [Qa4 _ _ 32 htl, Qbh _ htl], by unfold qAt; rw [kq, hat]; rfl, by unfold qSig; rw [m1, w0]; exact QbQ _ hil⟩
 ·skip
  have kq : qKd s = 2 := by omega
  have kn : qNd s = true := by unfold qNd; rw [kq]; rfl
  have hr : rest = Qch us nm key sg pa ms ++ (sig ++ r) := by rw [hrest]; simp
  have hg1 := hg.resolve_left (by decide)
  obtain ⟨n1, n2, n3, n4, n5, n6, n7⟩ := Qc5 us nm key sg pa ms (sig ++ r) hkl hgl hpl hg1 (qS5 s) (by rw [s5, hr])
  have m1 : Qb8 s = some (sig ++ r) := by unfold Qb8; rw [kq, n6]; rfl
  obtain ⟨hst, hat⟩ : start = List.replicate 32 0 ∧ at_ = 0 := by unfold Qbo at hok; rw [if_neg (by decide), if_pos rfl] at hok; simp only [Bool.and_eq_true, decide_eq_true_eq, beq_iff_eq] at hok; exact hok.2.2
  exact ⟨by unfold Qaw; rw [m1]; exact w1, f1, f2, f3, f4, k5, by unfold qUs; rw [kn]; exact n1, by unfold qNm; rw [kn]; exact n2, by unfold qKy; rw [kn]; exact n3, by unfold qSg; rw [kn]; exact n4, by unfold qPa; rw [kn]; exact n5, by unfold qL; rw [kn]; exact n7, by unfold qSt; rw [kq, hst]; rfl, by unfold qAt; rw [kq, hat]; rfl, by unfold qSig; rw [m1, w0]; exact QbQ _ hil⟩
 ·skip
  have kq : qKd s = 3 := by omega
  have kn : qNd s = false := by unfold qNd; rw [kq]; rfl
  have hr : rest = beV at_ 1 ++ (sig ++ r) := by rw [hrest]; simp only [if_true, if_neg (show ¬ (3 : Int) = 1 by decide), List.nil_append]; rfl
  obtain ⟨hbl, hst, hat⟩ : QaB us nm key sg pa ms = true ∧ start = List.replicate 32 0 ∧ inB at_ 31 = true := by unfold Qbo at hok; rw [if_neg (by decide), if_neg (by decide), if_pos rfl] at hok; simp only [Bool.and_eq_true, decide_eq_true_eq] at hok; exact hok.2
  have ba := Qbw hat
  have qa : ((bigN (beV at_ 1) : Nat) : Int) = at_ := Qcd at_ 1 ba.1 (by omega)
  have m1 : Qb8 s = some (sig ++ r) := by
   unfold Qb8; rw [kq]
   show Qaj (qS5 s) = _
   unfold Qaj
   rw [s5, hr, Qa4 _ _ 1 (QaI _ 1), qa, Qa9 _ _ 1 (QaI _ 1), decide_eq_true (by omega)]; rfl
  unfold QaB at hbl
  simp only [Bool.and_eq_true, decide_eq_true_eq, beq_iff_eq, Bool.not_eq_true'] at hbl
  obtain ⟨⟨⟨⟨⟨z1, z2⟩, z3⟩, z4⟩, z5⟩, z6⟩ := hbl
  exact ⟨by unfold Qaw; rw [m1]; exact w1, f1, f2, f3, f4, k5, by unfold qUs; rw [kn]; exact z1.symm, by unfold qNm; rw [kn]; exact z2.symm, by unfold qKy; rw [kn]; exact z3.symm, by unfold qSg; rw [kn]; exact z4.symm, by unfold qPa; rw [kn]; exact z5.symm, by unfold qL; rw [kn]; exact (List.length_eq_zero_iff.1 z6).symm, by unfold qSt; rw [kq]; exact hst.symm, by unfold qAt; rw [kq]; show ((bigN (Qag (qS5 s) 1) : Nat) : Int) = at_; rw [s5, hr, Qa4 _ _ 1 (QaI _ 1), qa], by unfold qSig; rw [m1, w0]; exact QbQ _ hil⟩
theorem QfJ {α : Type} (F : Option (List Int) → α → Option (List Int)) (ok : α → Bool) (Bt : α → List Int) (hno : ∀ x, F none x = none) : ∀ (ts : List α), (∀ x ∈ ts, ∀ s, F s x = if ok x = true then rawS s (Bt x) else none) → ∀ s a, ts.foldl F (rawS s a) = if ts.all ok = true then rawS s (a ++ (ts.map Bt).flatten) else none
  | [], _, s, a => by rw [show ([] : List α).all ok = true from rfl, if_pos rfl]; show rawS s a = rawS s (a ++ []); rw [List.append_nil]
  | x :: r, h, s, a => by
    rw [List.foldl_cons, h x List.mem_cons_self, List.all_cons]
    cases hx : ok x with
    | false => rw [if_neg (show ¬ (false = true) by decide), Qcs hno, Bool.false_and, if_neg (show ¬ (false = true) by decide)]
    | true =>
      rw [if_pos rfl, QaF, QfJ F ok Bt hno r (fun y hy => h y (List.mem_cons_of_mem _ hy)), Bool.true_and, List.map_cons, List.flatten_cons, List.append_assoc]
theorem QeD {α : Type} (F : Option (List Int) → α → Option (List Int)) (ok : α → Bool) (Bt : α → List Int) (hno : ∀ x, F none x = none) (ts : List α) (h : ∀ x ∈ ts, ∀ s, F s x = if ok x = true then rawS s (Bt x) else none) (s : Option (List Int)) :
    ts.foldl F (numS s ((ts.length : Nat) : Int) 1) = if (decide (ts.length ≤ 255) && ts.all ok) = true then rawS s ([byV ((ts.length : Nat) : Int) 0] ++ (ts.map Bt).flatten) else none := by
  rw [Qbm _ _ 0 255 (by decide) (by decide)]
  by_cases hl : ts.length ≤ 255
  · rw [show inB ((ts.length : Nat) : Int) 255 = true by unfold inB; simp; omega, decide_eq_true hl, Bool.true_and]
    exact QfJ F ok Bt hno ts h s _
  · rw [show inB ((ts.length : Nat) : Int) 255 = false by unfold inB; simp; omega, decide_eq_false hl, Bool.false_and, if_neg (show ¬ (false = true) by decide)]
    exact Qcs hno ts
theorem QgT (r : RwV) (s : Option (List Int)) : rowF s r = if Qfi r = true then rawS s (rowV r.xs) else none := by
  unfold rowF Qfi
  rw [QeG]
  by_cases h : r.xs.length ≤ 65535
  · rw [if_pos h, if_pos (decide_eq_true h)]
  · rw [if_neg h, if_neg (by rw [decide_eq_false h]; decide)]
theorem Qgf (t : StV) (s : Option (List Int)) : Qdy s t = if stOk t = true then rawS s (stB t) else none := by
  unfold Qdy QcW stOk
  rw [QeD rowF Qfi (fun r => rowV r.xs) Qez t.rows (fun x _ s => QgT x s)]
  cases (decide (t.rows.length ≤ 255) && t.rows.all Qfi) with
  | false => rfl
  | true =>
    rw [if_pos rfl, if_pos rfl, QaF]
    congr 1
    unfold stB
    rw [List.append_assoc]
theorem Qgs (p : PrV) (h : PrOk p.p) (s : Option (List Int)) : QdB s p = if okP p = true then rawS s (Qc3 p) else none :=
  Qf8 s _ _ _ _ _ _ _ _ _ _ _ _ _ _ h.rl h.al h.n.kl h.n.gl h.n.pl h.tl h.il
theorem Qgt (n : NdC) (ts : List StV) (hn : NdOk n) (s : Option (List Int)) : Qee s n ts = if QcH n ts = true then rawS s (Qcq n ts) else none := by
  unfold Qee QcU
  rw [QeD Qdy stOk stB QeJ ts (fun x _ s => Qgf x s)]
  have e : QeA s n = putN s n.us n.nm n.key n.sg n.pa n.ms := Qcx _ _ _ _ _ _ _ hn.kl hn.gl hn.pl
  rw [e]
  unfold putN QcH
  by_cases h5 : ts.length ≤ 5
  · rw [decide_eq_true (show ((ts.length : Nat) : Int) ≤ 5 by omega), decide_eq_true (show ts.length ≤ 255 by omega), decide_eq_true h5, Bool.true_and]
    cases hg : okN_ n with
    | false =>
      rw [if_neg (show ¬ Qca n.us n.nm n.key n.sg n.pa n.ms = true from fun h => by rw [show Qca n.us n.nm n.key n.sg n.pa n.ms = false from hg] at h; cases h), Bool.false_and, if_neg (show ¬ (false = true) by decide)]
      split <;> rfl
    | true =>
      rw [if_pos (show Qca n.us n.nm n.key n.sg n.pa n.ms = true from hg), Bool.true_and]
      cases ts.all stOk with
      | false => rfl
      | true =>
        rw [if_pos rfl, if_pos rfl]
        show rawS (rawS s (Qhm n)) _ = _
        rw [QaF]
        congr 1
        unfold Qcq
        rw [List.append_assoc]
  · rw [decide_eq_false (show ¬ ((ts.length : Nat) : Int) ≤ 5 by omega), decide_eq_false h5, Bool.false_and, Bool.and_false, if_neg (show ¬ (false = true) by decide)]
    split <;> rfl
theorem QeZ (grp : List Int) (ep fr : Int) (bas : List Int) (ps : List PrV) (n : NdC) (ts : List StV) (tag sig : List Int) (ho : CmOk grp bas n tag sig) (hp : ∀ p ∈ ps, PrOk p.p) : QdN (some []) grp ep fr bas ps n ts tag sig = refC grp ep fr bas ps n ts tag sig := by
  unfold QdN QbZ refC
  rw [Qgt n ts ho.n, QeD QdB okP Qc3 QeP ps (fun x hx s => Qgs x (hp x hx) s), QbW, Qbm _ ep 3 4294967295 (by decide) (by decide)]
  unfold QfQ hgB
  cases h1 : inB ep 4294967295 with
  | false =>
    rw [Bool.false_and, Bool.false_and, if_neg (show ¬ (false = true) by decide)]
    cases inB fr 31 <;> cases QcH n ts <;> cases (decide (ps.length ≤ 255) && ps.all okP) <;> rfl
  | true =>
    cases h2 : inB fr 31 with
    | false =>
      rw [Bool.and_false, Bool.false_and, if_neg (show ¬ (false = true) by decide)]
      cases QcH n ts <;> cases (decide (ps.length ≤ 255) && ps.all okP) <;> rfl
    | true =>
      cases h3 : QcH n ts with
      | false =>
        rw [Bool.false_and, Bool.and_false, Bool.and_false, if_neg (show ¬ (false = true) by decide), if_neg (show ¬ (false = true) by decide)]
        rfl
      | true =>
        rw [if_pos rfl, Bool.true_and, Bool.true_and, Bool.true_and]
        cases h4 : (decide (ps.length ≤ 255) && ps.all okP) with
        | false => rfl
        | true =>
          rw [if_pos rfl, if_pos rfl]
          show rawS (rawS (rawS (rawS (rawS (rawS (rawS (rawS (some []) grp) (beV ep 4)) (beV fr 1)) bas) _) (Qcq n ts)) tag) sig = _
          rw [QaF, QaF, QaF, QaF, QaF, QaF, QaF, QeN]
          congr 1
          unfold QdO Qci
          simp only [List.append_assoc]
          rfl
theorem QfG {α : Type} (F : Option (List Int) → Option (List Int)) (ok : α → Bool) (Bt : α → List Int) (Is : Option (List Int) → α → Prop) (d : α) (ts : List α) (hb : ∀ x ∈ ts, ∀ r, F (some (Bt x ++ r)) = some r ∧ Is (some (Bt x ++ r)) x) (r : List Int) : ∀ j, j ≤ ts.length → itG F (some ((ts.map Bt).flatten ++ r)) j = some (((ts.drop j).map Bt).flatten ++ r) ∧ ∀ i, i < j → Is (itG F (some ((ts.map Bt).flatten ++ r)) i) (ts.getD i d)
  | 0, _ => ⟨rfl, fun i hi => absurd hi (Nat.not_lt_zero _)⟩
  | j + 1, hj => by
    obtain ⟨h1, h2⟩ := QfG F ok Bt Is d ts hb r j (by omega)
    have hm := QbI ts d j (by omega)
    rw [Qcz ts d j (by omega), List.map_cons, List.flatten_cons, List.append_assoc] at h1
    obtain ⟨h3, h4⟩ := hb _ hm (((ts.drop (j + 1)).map Bt).flatten ++ r)
    refine ⟨by show F (itG F _ j) = _; rw [h1]; exact h3, fun i hi => ?_⟩
    rcases Nat.lt_or_ge i j with h5 | h5
    · exact h2 i h5
    · obtain rfl : i = j := by omega
      rw [h1]; exact h4
theorem QdE {α : Type} (F : Option (List Int) → Option (List Int)) (ok : α → Bool) (Bt : α → List Int) (Is : Option (List Int) → α → Prop) (d : α) (ts : List α) (hb : ∀ x ∈ ts, ∀ r, F (some (Bt x ++ r)) = some r ∧ Is (some (Bt x ++ r)) x) (hl : ts.length ≤ 255) (r : List Int) (s : Option (List Int)) (hs : s = some ([byV ((ts.length : Nat) : Int) 0] ++ (ts.map Bt).flatten ++ r)) :
    lsR F s = some r ∧ lsN s = ts.length ∧ ∀ j, j < ts.length → Is (itG F (Qac s 1) j) (ts.getD j d) := by
  have e : s = some (beV ((ts.length : Nat) : Int) 1 ++ ((ts.map Bt).flatten ++ r)) := by rw [hs, List.append_assoc]; rfl
  have h1 : Qac s 1 = some ((ts.map Bt).flatten ++ r) := by rw [e]; exact Qa9 _ _ 1 (QaI _ 1)
  have h2 : lsN s = ts.length := by unfold lsN; rw [e, Qa4 _ _ 1 (QaI _ 1), Qel, Nat.mod_eq_of_lt (by omega)]
  obtain ⟨h3, h4⟩ := QfG F ok Bt Is d ts hb r ts.length (Nat.le_refl _)
  refine ⟨?_, h2, fun j hj => by rw [h1]; exact h4 j hj⟩
  unfold lsR
  rw [h1, h2, h3, List.drop_length]
  rfl
theorem Qfz (t : StV) (hk : t.key.length = 32) (ho : stOk t = true) (r : List Int) : Qba (some (stB t ++ r)) = some r ∧ StIs (some (stB t ++ r)) t := by
  unfold stOk at ho
  simp only [Bool.and_eq_true, decide_eq_true_eq] at ho
  have e : stB t ++ r = t.key ++ ([byV ((t.rows.length : Nat) : Int) 0] ++ (t.rows.map fun r => rowV r.xs).flatten ++ r) := by unfold stB; simp only [List.append_assoc]
  have h1 : Qac (some (stB t ++ r)) 32 = some ([byV ((t.rows.length : Nat) : Int) 0] ++ (t.rows.map fun r => rowV r.xs).flatten ++ r) := by rw [e]; exact Qa9 _ _ 32 hk
  have h0 : Qag (some (stB t ++ r)) 32 = t.key := by rw [e]; exact Qa4 _ _ 32 hk
  obtain ⟨h2, h3, h4⟩ := QdE rowR Qfi (fun r => rowV r.xs) RwIs rw0 t.rows (fun x hx r' => by
    have hx2 := of_decide_eq_true ((List.all_eq_true.1 ho.2) x hx)
    exact ⟨(Qd6 x.xs r' hx2).2, (Qd6 x.xs r' hx2).1.symm⟩) ho.1 r _ rfl
  refine ⟨by unfold Qba; rw [h1]; exact h2, by rw [h0, Qbh _ hk], by rw [h1]; exact h3.symm, fun j hj => by rw [h1]; exact h4 j hj⟩
theorem Qfk (p : PrV) (h : PrOk p.p) (ho : okP p = true) (r : List Int) : Qaw (some (Qc3 p ++ r)) = some r ∧ PrIs (some (Qc3 p ++ r)) p := by
  obtain ⟨h1, h2, h3, h4, h5, h6, h7, h8, h9, h10, h11, h12, h13, h14, h15⟩ := Qfj _ _ _ _ _ _ _ _ _ _ _ _ _ _ r (some (Qc3 p ++ r)) h.rl h.al h.n.kl h.n.gl h.n.pl h.tl h.il ho rfl
  exact ⟨h1, ⟨h2.symm, h3.symm, h4.symm, h5.symm, h6.symm, h7.symm, h8.symm, h9.symm, h10.symm, h11.symm, h12.symm, h13.symm, h14.symm, h15.symm⟩⟩
theorem QfA (n : NdC) (ts : List StV) (hn : NdOk n) (hk : ∀ t ∈ ts, t.key.length = 32) (ho : QcH n ts = true) (r : List Int) (s : Option (List Int)) (hs : s = some (Qcq n ts ++ r)) : Qbc s = some r ∧ NdIs s n ∧ ts.length = lsN (QaA s) ∧ ∀ j, j < ts.length → StIs (itG Qba (Qac (QaA s) 1) j) (ts.getD j st0) := by
  unfold QcH at ho
  simp only [Bool.and_eq_true, decide_eq_true_eq] at ho
  have e : Qcq n ts ++ r = Qhm n ++ ([byV ((ts.length : Nat) : Int) 0] ++ (ts.map stB).flatten ++ r) := by unfold Qcq; simp only [List.append_assoc]
  rw [e] at hs
  obtain ⟨n1, n2, n3, n4, n5, n6, n7⟩ := Qc5 _ _ _ _ _ _ _ hn.kl hn.gl hn.pl ho.1 s hs
  obtain ⟨h2, h3, h4⟩ := QdE Qba stOk stB StIs st0 ts (fun x hx r' => Qfz x (hk x hx) ((List.all_eq_true.1 ho.2.2) x hx) r') (by omega) r (QaA s) n6
  refine ⟨?_, ⟨n1.symm, n2.symm, n3.symm, n4.symm, n5.symm, n7.symm⟩, h3.symm, h4⟩
  unfold Qbc
  rw [h2, h3, decide_eq_true (by omega)]
  rfl
theorem QfP (grp : List Int) (ep fr : Int) (bas : List Int) (ps : List PrV) (n : NdC) (ts : List StV) (tag sig : List Int) (bs : List Int) (ho : CmOk grp bas n tag sig) (hp : ∀ p ∈ ps, PrOk p.p) (hk : ∀ t ∈ ts, t.key.length = 32) (h : refC grp ep fr bas ps n ts tag sig = some bs) :
    QbC (Qap bs) = some [] ∧ cGrp (Qap bs) = grp ∧ cEp (Qap bs) = ep ∧ cFr (Qap bs) = fr ∧ cBas (Qap bs) = bas ∧ cTag (Qap bs) = tag ∧ cSig (Qap bs) = sig ∧ NdIs (cS5 (Qap bs)) n ∧ (ps.length = lsN (cS4 (Qap bs)) ∧ ∀ j, j < ps.length → PrIs (itG Qaw (Qac (cS4 (Qap bs)) 1) j) (ps.getD j pr0)) ∧ (ts.length = lsN (QaA (cS5 (Qap bs))) ∧ ∀ j, j < ts.length → StIs (itG Qba (Qac (QaA (cS5 (Qap bs))) 1) j) (ts.getD j st0)) ∧ bs = QdO grp ep fr bas ps n ts tag sig ∧ bs.length ≤ 65536 ∧ 0 < bs.length := by
  unfold refC at h
  split at h
  · rename_i hc
    unfold fitV at h
    split at h
    · rename_i hf
      obtain rfl := Option.some.inj h
      unfold QfQ hgB at hc
      simp only [Bool.and_eq_true, decide_eq_true_eq] at hc
      obtain ⟨⟨h1, h2⟩, h3, h4, h5⟩ := hc
      have b1 := Qbw h1
      have b2 := Qbw h2
      rw [Qbq _ hf]
      have e : QdO grp ep fr bas ps n ts tag sig = grp ++ (beV ep 4 ++ (beV fr 1 ++ (bas ++ ([byV ((ps.length : Nat) : Int) 0] ++ (ps.map Qc3).flatten ++ (Qcq n ts ++ (tag ++ sig)))))) := by unfold QdO Qci; simp only [List.append_assoc]; rfl
      have hlen : 0 < (QdO grp ep fr bas ps n ts tag sig).length := by rw [e, List.length_append, ho.rl]; omega
      obtain ⟨s, hs⟩ : ∃ s, s = some (QdO grp ep fr bas ps n ts tag sig) := ⟨_, rfl⟩
      rw [← hs]
      rw [e] at hs
      have s1 : cS1 s = some (beV ep 4 ++ (beV fr 1 ++ (bas ++ ([byV ((ps.length : Nat) : Int) 0] ++ (ps.map Qc3).flatten ++ (Qcq n ts ++ (tag ++ sig)))))) := by unfold cS1; rw [hs]; exact Qa9 _ _ 32 ho.rl
      have s2 : cS2 s = some (beV fr 1 ++ (bas ++ ([byV ((ps.length : Nat) : Int) 0] ++ (ps.map Qc3).flatten ++ (Qcq n ts ++ (tag ++ sig))))) := by unfold cS2; rw [s1]; exact Qa9 _ _ 4 (QaI _ 4)
      have q : ((bigN (beV fr 1) : Nat) : Int) = fr := Qcd fr 1 b2.1 (by omega)
      have s3 : cS3 s = some (bas ++ ([byV ((ps.length : Nat) : Int) 0] ++ (ps.map Qc3).flatten ++ (Qcq n ts ++ (tag ++ sig)))) := by unfold cS3 Qaj; rw [s2, Qa4 _ _ 1 (QaI _ 1), q, Qa9 _ _ 1 (QaI _ 1), decide_eq_true (by omega)]; rfl
      have s4 : cS4 s = some ([byV ((ps.length : Nat) : Int) 0] ++ (ps.map Qc3).flatten ++ (Qcq n ts ++ (tag ++ sig))) := by unfold cS4; rw [s3]; exact Qa9 _ _ 32 ho.al
      obtain ⟨p1, p2, p3⟩ := QdE Qaw okP Qc3 PrIs pr0 ps (fun x hx r' => Qfk x (hp x hx) ((List.all_eq_true.1 h5) x hx) r') h3 (Qcq n ts ++ (tag ++ sig)) (cS4 s) s4
      have s5 : cS5 s = some (Qcq n ts ++ (tag ++ sig)) := p1
      obtain ⟨t1, t2, t3, t4⟩ := QfA n ts ho.n hk h4 (tag ++ sig) (cS5 s) s5
      have s6 : cS6 s = some (tag ++ sig) := t1
      have s7 : cS7 s = some sig := by unfold cS7; rw [s6]; exact Qa9 _ _ 32 ho.gl
      have w0 : Qag (some sig) 64 = sig := by have := Qa4 sig [] 64 ho.il; rwa [List.append_nil] at this
      have w1 : Qac (some sig) 64 = some [] := by have := Qa9 sig [] 64 ho.il; rwa [List.append_nil] at this
      refine ⟨by unfold QbC; rw [s7]; exact w1, ?_, ?_, ?_, ?_, ?_, ?_, t2, ⟨p2.symm, p3⟩, ⟨t3, t4⟩, rfl, hf, hlen⟩
      · unfold cGrp; rw [hs, Qa4 _ _ 32 ho.rl, Qbh _ ho.rl]
      · unfold cEp; rw [s1, Qa4 _ _ 4 (QaI _ 4), Qcd ep 4 b1.1 (by omega)]
      · unfold cFr; rw [s2, Qa4 _ _ 1 (QaI _ 1), q]
      · unfold cBas; rw [s3, Qa4 _ _ 32 ho.al, Qbh _ ho.al]
      · unfold cTag; rw [s6, Qa4 _ _ 32 ho.gl, Qbh _ ho.gl]
      · unfold cSig; rw [s7, w0]; exact QbQ _ ho.il
    · cases h
  · cases h
end Go.Proofs.Ytfelfmchachljaa.Wr
end
section
namespace Go.Proofs.Ytfelfmchachljaa.Wr
open Go Go.RowKit
open Rely Auto Own Sha
set_option linter.unusedVariables false
set_option linter.unusedSimpArgs false
set_option maxHeartbeats 4000000 in
theorem QgI (w : World) : Calls Try.prog 12 #[] w (Ret w (.bool true)) := by
  refine enter 40 [] Try.func12 rfl rfl kj rfl ?_
  refine wp_seq_k fun K1 hK1 => ?_
  refine Qae ?_
  refine Qab (.bool false) 0 rfl kj kj ?_
  refine Qaf ?_
  refine hK1 _ _ ?_
  refine wp_seq_k fun K2 hK2 => ?_
  refine Qae ?_
  refine Qab (.agg (cat [(Array.replicate 32 (.int .u8 0)), #[.int .i64 0], #[.int .i64 0], #[.int .i64 0], #[.slice none 0 0]])) 7 rfl kj kj ?_
  refine Qah (fun v W' => (PutR w.heap.size (some (List.replicate 43 (0 : Int)))) v W' ∧ Ext w W') 34 #[.agg (cat [(Array.replicate 32 (.int .u8 0)), #[.int .i64 0], #[.int .i64 0], #[.int .i64 0], #[.slice none 0 0]])] 8 rfl kj kj ((Qct (List.replicate 32 0) 0 0 0 [] none 0 _ rfl (fun x hx => by rw [(List.mem_replicate.1 hx).2]; decide) (by decide) Qcc (Qhn _ _) (List.replicate 43 (0 : Int)) (by decide +kernel)).mono (by rintro e w' ⟨v, rfl, e1, hv⟩; exact ⟨v, rfl, hv, e1⟩)) fun vv3 W1 hh3 => ?_
  obtain ⟨hv3, e1⟩ := hh3
  have x1 : Ext w W1 := Ext.tr (Rely.Ext.refl w) e1
  obtain ⟨ub, rfl, hub⟩ := hv3
  obtain ⟨ab, cb, rfl, hcb, -⟩ := id (OwnN.rd hub)
  have hb43 : OwnN .u8 5 w.heap.size (List.replicate 43 (0 : Int)) (.slice ab 43 cb) W1 := hub
  replace hcb : 43 ≤ cb := hcb
  refine Qab (.tuple #[.slice ab 43 cb, .nilIface]) 6 rfl kj kj ?_
  refine Qab (.slice ab 43 cb) 9 rfl kj kj ?_
  refine Qab (.nilIface) 10 rfl kj kj ?_
  refine Qab (.slice ab 43 cb) 1 rfl kj kj ?_
  refine Qab (.nilIface) 2 rfl kj kj ?_
  refine Qaf ?_
  refine hK2 _ _ ?_
  refine wp_seq_k fun K4 hK4 => ?_
  refine wp_seq_k fun K5 hK5 => ?_
  refine Qae ?_
  refine Qab (.nilIface) 11 rfl kj kj ?_
  refine Qab (.bool false) 12 rfl kj kj ?_
  refine Qab (.bool false) 13 rfl kj kj ?_
  refine Qab (.slice ab 43 cb) 14 rfl kj kj ?_
  refine Qab (.int .i64 43) 15 rfl kj kj ?_
  refine Qab (.bool false) 16 rfl kj kj ?_
  refine Qab (.bool false) 17 rfl kj kj ?_
  refine Qaf ?_
  refine hK5 _ _ ?_
  refine cond_false kj ?_
  refine wp_skip ?_
  refine hK4 _ _ ?_
  refine wp_seq_k fun K6 hK6 => ?_
  refine Qae ?_
  refine Qab (.slice ab 43 cb) 19 rfl kj kj ?_
  refine Qah (fun v W' => (fun v W => ∃ (a_s : Option Addr) (c_s : Nat), v = .tuple #[.agg (cat [ints .u8 (pGrp (Qap (List.replicate 43 (0 : Int)))), #[.int .i64 (pEp (Qap (List.replicate 43 (0 : Int))))], #[.int .i64 (pFr (Qap (List.replicate 43 (0 : Int))))], #[.int .i64 (pNo (Qap (List.replicate 43 (0 : Int))))], #[.slice a_s (pSe (Qap (List.replicate 43 (0 : Int)))).length c_s]]), .nilIface] ∧ OwnN .u8 5 W1.heap.size (pSe (Qap (List.replicate 43 (0 : Int)))) (.slice a_s (pSe (Qap (List.replicate 43 (0 : Int)))).length c_s) W ∧ Qao (pSe (Qap (List.replicate 43 (0 : Int)))) ∧ (pSe (Qap (List.replicate 43 (0 : Int)))).length ≤ 65535) v W' ∧ Ext W1 W') 36 #[.slice ab 43 cb] 20 rfl kj kj ((Qd9 (List.replicate 43 (0 : Int)) _ _ _ (fun x hx => by rw [(List.mem_replicate.1 hx).2]; decide) (RdK.here (OwnN.rd hb43)) (by decide +kernel)).mono (by rintro e w' ⟨v, rfl, e1, hv⟩; exact ⟨v, rfl, hv, e1⟩)) fun vv7 W2 hh7 => ?_
  obtain ⟨hv7, e2⟩ := hh7
  have x2 : Ext w W2 := Ext.tr x1 e2
  obtain ⟨as1, cs1, rfl, hs1, -, -⟩ := hv7
  refine Qab (.tuple #[.agg (cat [ints .u8 (pGrp (Qap (List.replicate 43 (0 : Int)))), #[.int .i64 (pEp (Qap (List.replicate 43 (0 : Int))))], #[.int .i64 (pFr (Qap (List.replicate 43 (0 : Int))))], #[.int .i64 (pNo (Qap (List.replicate 43 (0 : Int))))], #[.slice as1 ((pSe (Qap (List.replicate 43 (0 : Int)))).length) cs1]]), .nilIface]) 18 rfl kj kj ?_
  refine Qab (.agg (cat [ints .u8 (pGrp (Qap (List.replicate 43 (0 : Int)))), #[.int .i64 (pEp (Qap (List.replicate 43 (0 : Int))))], #[.int .i64 (pFr (Qap (List.replicate 43 (0 : Int))))], #[.int .i64 (pNo (Qap (List.replicate 43 (0 : Int))))], #[.slice as1 ((pSe (Qap (List.replicate 43 (0 : Int)))).length) cs1]])) 21 rfl kj kj ?_
  refine Qab (.nilIface) 22 rfl kj kj ?_
  refine Qar (cat [(Array.replicate 32 (.int .u8 0)), #[.int .i64 0], #[.int .i64 0], #[.int .i64 0], #[.slice none 0 0]]) 81 3 rfl kj kj fun g8 W3 l8 e3 r8_3 => ?_
  have x3 : Ext w W3 := Ext.tr x2 e3
  have b8 : w.heap.size ≤ g8 := Nat.le_trans x2.size l8
  refine Qav g8 _ (cat [ints .u8 (pGrp (Qap (List.replicate 43 (0 : Int)))), #[.int .i64 (pEp (Qap (List.replicate 43 (0 : Int))))], #[.int .i64 (pFr (Qap (List.replicate 43 (0 : Int))))], #[.int .i64 (pNo (Qap (List.replicate 43 (0 : Int))))], #[.slice as1 ((pSe (Qap (List.replicate 43 (0 : Int)))).length) cs1]]) 81 r8_3 rfl kj (Qat 81 _ _ g8 81 _ _ r8_3 rfl kj kj (isz (n := 36) kj (by rw [Qaa, Qaa, Qaa, Qaa, Qaa]; simp only [Array.size_append, cat, ((Qad _ _).trans (QaZ (Qap (List.replicate 43 (0 : Int)))))]; rfl)) (eqsz (n := 36) kj (by rw [Qaa, Qaa, Qaa, Qaa, Qaa]; simp only [Array.size_append, cat, ((Qad _ _).trans (QaZ (Qap (List.replicate 43 (0 : Int)))))]; rfl)) (QaC _ (by intro a ha; simp only [List.mem_cons, List.not_mem_nil, or_false] at ha; rcases ha with rfl | rfl | rfl | rfl | rfl; exact (Qan _ _); exact (Qak _ rfl); exact (Qak _ rfl); exact (Qak _ rfl); exact (Qak _ rfl)))) fun W4 p4 r8_4 => ?_
  have x4 : Ext w W4 := Puts.ext p4 x3 b8
  refine Qab (.nilIface) 2 rfl kj kj ?_
  refine Qaf ?_
  refine hK6 _ _ ?_
  refine wp_seq_k fun K9 hK9 => ?_
  refine Qae ?_
  refine Qab (.slice ab 43 cb) 24 rfl kj kj ?_
  refine Qab (.slice (Qda ab cb 1) (43 - 1) (cb - 1)) 25 rfl kj (Qdm 26 _ _ 1 5 rfl (a := ab) (len := 43) (cap := cb) kj kj kj .i64 kj (by decide) hcb) ?_
  have f10_2 := (hb43.ext e2)
  have f11_3 := (f10_2.ext e3)
  have f12_4 := (f11_3.puts p4 (QcI f10_2 l8))
  refine Qa8 (.tuple #[.agg (cat [(Array.replicate 32 (.int .u8 0)), #[.int .i64 0], #[.int .i64 0], #[.int .i64 0], #[.slice none 0 0]]), .iface 102 (.int .i64 3)]) 36 #[.slice (Qda ab cb 1) (43 - 1) (cb - 1)] 26 rfl kj kj (Qbu ((List.replicate 43 (0 : Int)).drop 1) _ _ _ (QbN (fun x hx => by rw [(List.mem_replicate.1 hx).2]; decide) 1) (RdK.here (QeM (OwnN.rd f12_4) 1 (by decide))) (by decide +kernel)) fun W5 e5 => ?_
  have x5 : Ext w W5 := Ext.tr x4 e5
  refine Qab (.tuple #[.agg (cat [(Array.replicate 32 (.int .u8 0)), #[.int .i64 0], #[.int .i64 0], #[.int .i64 0], #[.slice none 0 0]]), .iface 102 (.int .i64 3)]) 23 rfl kj kj ?_
  refine Qab (.agg (cat [(Array.replicate 32 (.int .u8 0)), #[.int .i64 0], #[.int .i64 0], #[.int .i64 0], #[.slice none 0 0]])) 27 rfl kj kj ?_
  refine Qab (.iface 102 (.int .i64 3)) 28 rfl kj kj ?_
  refine Qar (cat [(Array.replicate 32 (.int .u8 0)), #[.int .i64 0], #[.int .i64 0], #[.int .i64 0], #[.slice none 0 0]]) 81 4 rfl kj kj fun g13 W6 l13 e6 r13_6 => ?_
  have x6 : Ext w W6 := Ext.tr x5 e6
  have b13 : w.heap.size ≤ g13 := Nat.le_trans x5.size l13
  refine Qav g13 _ (cat [(Array.replicate 32 (.int .u8 0)), #[.int .i64 0], #[.int .i64 0], #[.int .i64 0], #[.slice none 0 0]]) 81 r13_6 rfl kj (Qat 81 _ _ g13 81 _ _ r13_6 rfl kj kj (isz (n := 36) kj kj) (eqsz (n := 36) kj kj) kj) fun W7 p7 r13_7 => ?_
  have x7 : Ext w W7 := Puts.ext p7 x6 b13
  refine Qab (.iface 102 (.int .i64 3)) 5 rfl kj kj ?_
  refine Qaf ?_
  refine hK9 _ _ ?_
  refine wp_seq_k fun K14 hK14 => ?_
  refine Qae ?_
  refine Qab (.nilIface) 29 rfl kj kj ?_
  refine Qab (.bool true) 30 rfl kj kj ?_
  refine Qab (.bool true) 31 rfl kj kj ?_
  refine Qab (.pointer (some ⟨g8, 32, none⟩)) 32 rfl kj kj ?_
  have r8_5 := (Qau r8_4 e5)
  have r8_6 := (Qau r8_5 e6)
  have r8_7 := (Puts.row p7 r8_6 (Qa2 r8_5 l13))
  refine Qab (.int .i64 (pEp (Qap (List.replicate 43 (0 : Int))))) 33 rfl kj (Qal 3 _ g8 32 81 _ (.int .i64 (pEp (Qap (List.replicate 43 (0 : Int))))) _ r8_7 rfl kj (Qaq [ints .u8 (pGrp (Qap (List.replicate 43 (0 : Int))))] [#[.int .i64 (pEp (Qap (List.replicate 43 (0 : Int))))]] [#[.int .i64 (pFr (Qap (List.replicate 43 (0 : Int))))], #[.int .i64 (pNo (Qap (List.replicate 43 (0 : Int))))], #[.slice as1 ((pSe (Qap (List.replicate 43 (0 : Int)))).length) cs1]] 32 ((Qad _ _).trans (QaZ (Qap (List.replicate 43 (0 : Int))))) 0 _ rfl) kj) ?_
  refine Qab (.bool true) 34 rfl kj kj ?_
  refine Qab (.bool true) 35 rfl kj kj ?_
  refine Qab (.bool true) 36 rfl kj kj ?_
  refine Qab (.iface 102 (.int .i64 3)) 37 rfl kj kj ?_
  refine Qa8 (.bool true) 45 #[.iface 102 (.int .i64 3), .int .i64 3] 38 rfl kj kj ((is3) _) fun W8 e8 => ?_
  have x8 : Ext w W8 := Ext.tr x7 e8
  refine Qab (.bool true) 39 rfl kj kj ?_
  refine Qab (.bool true) 0 rfl kj kj ?_
  refine Qaf ?_
  refine hK14 _ _ ?_
  refine wp_ret ?_
  repeat (first | with_reducible refine goR1 ?_ | with_reducible refine goR2 ?_)
  exact (show bodyPost _ _ _ .ret _ _ from ret1 (.bool true) rfl (Qa1 kj) ⟨rfl, x8⟩)
end Go.Proofs.Ytfelfmchachljaa.Wr
end
section
namespace Go.Proofs.Ytfelfmchachljaa.Wr
open Go Go.RowKit
open Rely Auto Own Sha
set_option linter.unusedVariables false
set_option linter.unusedSimpArgs false
set_option maxHeartbeats 4000000 in
theorem QdF (us : Bool) (nm : Int) (key sg pa ms : List Int) (a_m : Option Addr) (c_m : Nat) (w : World) (hkl : key.length = 32) (hgl : sg.length = 32) (hpl : pa.length = 32) (h : ms.length < 100) : Calls Try.prog 20 #[.agg (cat [#[.bool us], #[.int .i64 nm], ints .u8 (key), ints .u8 (sg), ints .u8 (pa), #[.slice a_m ms.length c_m]])] w (Ret w (.bool true)) := by
  refine enter 7 [(0, .agg (cat [#[.bool us], #[.int .i64 nm], ints .u8 (key), ints .u8 (sg), ints .u8 (pa), #[.slice a_m ms.length c_m]]))] Try.func20 rfl rfl kj rfl ?_
  refine wp_seq_k fun K1 hK1 => ?_
  refine Qae ?_
  refine Qar (cat [#[.bool us], #[.int .i64 nm], ints .u8 (key), ints .u8 (sg), ints .u8 (pa), #[.slice a_m ms.length c_m]]) 43 1 rfl kj kj fun g2 W1 l2 e1 r2_1 => ?_
  have x1 : Ext w W1 := Ext.tr (Rely.Ext.refl w) e1
  have b2 : w.heap.size ≤ g2 := Nat.le_trans (Rely.Ext.refl w).size l2
  refine Qab (.bool false) 2 rfl kj kj ?_
  refine Qaf ?_
  refine hK1 _ _ ?_
  refine wp_seq_k fun K3 hK3 => ?_
  refine Qae ?_
  refine Qab (.pointer (some ⟨g2, 98, none⟩)) 3 rfl kj kj ?_
  refine Qab (.slice a_m ms.length c_m) 4 rfl kj (Qal 41 _ g2 98 43 _ (.slice a_m ms.length c_m) _ r2_1 rfl kj (Qaq [#[.bool us], #[.int .i64 nm], ints .u8 (key), ints .u8 (sg), ints .u8 (pa)] [#[.slice a_m ms.length c_m]] [] 98 (by rw [Qaa, Qaa, Qaa, Qaa, Qaa]; simp only [Array.size_append, cat, ((Qad _ _).trans hgl), ((Qad _ _).trans hkl), ((Qad _ _).trans hpl)]; rfl) 0 _ rfl) kj) ?_
  refine Qab (.int .i64 ((ms.length : Nat) : Int)) 5 rfl kj kj ?_
  refine Qab (.bool true) 6 rfl kj (Qa0 (u := .bool (decide (((ms.length : Nat) : Int) < 100))) kj (congrArg Value.bool (decide_eq_true (by omega)))) ?_
  refine Qab (.bool true) 2 rfl kj kj ?_
  refine Qaf ?_
  refine hK3 _ _ ?_
  refine wp_ret ?_
  repeat (first | with_reducible refine goR1 ?_ | with_reducible refine goR2 ?_)
  exact (show bodyPost _ _ _ .ret _ _ from ret1 (.bool true) rfl (Qa1 kj) ⟨rfl, x1⟩)
set_option maxHeartbeats 4000000 in
theorem QeT (us : Bool) (nm : Int) (key sg pa ms : List Int) (a_m : Option Addr) (c_m : Nat) (w : World) (hkl : key.length = 32) (hgl : sg.length = 32) (hpl : pa.length = 32) (h : 100 ≤ ms.length) : Calls Try.prog 20 #[.agg (cat [#[.bool us], #[.int .i64 nm], ints .u8 (key), ints .u8 (sg), ints .u8 (pa), #[.slice a_m ms.length c_m]])] w (Ret w (.bool false)) := by
  refine enter 7 [(0, .agg (cat [#[.bool us], #[.int .i64 nm], ints .u8 (key), ints .u8 (sg), ints .u8 (pa), #[.slice a_m ms.length c_m]]))] Try.func20 rfl rfl kj rfl ?_
  refine wp_seq_k fun K1 hK1 => ?_
  refine Qae ?_
  refine Qar (cat [#[.bool us], #[.int .i64 nm], ints .u8 (key), ints .u8 (sg), ints .u8 (pa), #[.slice a_m ms.length c_m]]) 43 1 rfl kj kj fun g2 W1 l2 e1 r2_1 => ?_
  have x1 : Ext w W1 := Ext.tr (Rely.Ext.refl w) e1
  have b2 : w.heap.size ≤ g2 := Nat.le_trans (Rely.Ext.refl w).size l2
  refine Qab (.bool false) 2 rfl kj kj ?_
  refine Qaf ?_
  refine hK1 _ _ ?_
  refine wp_seq_k fun K3 hK3 => ?_
  refine Qae ?_
  refine Qab (.pointer (some ⟨g2, 98, none⟩)) 3 rfl kj kj ?_
  refine Qab (.slice a_m ms.length c_m) 4 rfl kj (Qal 41 _ g2 98 43 _ (.slice a_m ms.length c_m) _ r2_1 rfl kj (Qaq [#[.bool us], #[.int .i64 nm], ints .u8 (key), ints .u8 (sg), ints .u8 (pa)] [#[.slice a_m ms.length c_m]] [] 98 (by rw [Qaa, Qaa, Qaa, Qaa, Qaa]; simp only [Array.size_append, cat, ((Qad _ _).trans hgl), ((Qad _ _).trans hkl), ((Qad _ _).trans hpl)]; rfl) 0 _ rfl) kj) ?_
  refine Qab (.int .i64 ((ms.length : Nat) : Int)) 5 rfl kj kj ?_
  refine Qab (.bool false) 6 rfl kj (Qa0 (u := .bool (decide (((ms.length : Nat) : Int) < 100))) kj (congrArg Value.bool (decide_eq_false (by omega)))) ?_
  refine Qab (.bool false) 2 rfl kj kj ?_
  refine Qaf ?_
  refine hK3 _ _ ?_
  refine wp_ret ?_
  repeat (first | with_reducible refine goR1 ?_ | with_reducible refine goR2 ?_)
  exact (show bodyPost _ _ _ .ret _ _ from ret1 (.bool false) rfl (Qa1 kj) ⟨rfl, x1⟩)
end Go.Proofs.Ytfelfmchachljaa.Wr
end
