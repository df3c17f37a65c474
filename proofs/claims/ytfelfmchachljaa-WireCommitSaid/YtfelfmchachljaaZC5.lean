/- Texts of this claim, joined (C5). -/
import Derived.Test.YtfelfmchachljaaZC4
import Derived.Lib.SmallJoins
import Derived.Lib.LaidTab
import Derived.Deep.Strs

section
namespace Go.Proofs.Ytfelfmchachljaa.Wr
open Go Go.RowKit
open Rely Auto Own Sha
set_option linter.unusedVariables false
set_option linter.unusedSimpArgs false
theorem QfI (w : World) : (zeroValue 57).run Try.prog w = .ok (.agg (cat [#[.bool false], #[.int .i64 0], ints .u8 (List.replicate 32 0), ints .u8 (List.replicate 32 0), ints .u8 (List.replicate 32 0), #[.slice none 0 0], #[.slice none 0 0]])) w := by
  have h := Qdt [[.bool false], [.int .i64 0], (List.replicate 32 0).map (Value.int .u8), (List.replicate 32 0).map (Value.int .u8), (List.replicate 32 0).map (Value.int .u8), [.slice none 0 0], [.slice none 0 0]]
  refine Eq.trans ?_ (congrArg (fun z => Result.ok (Value.agg z) w) h.symm)
  kernel_rfl
theorem QdE (w : World) : (zeroValue 59).run Try.prog w = .ok (.agg (cat [ints .u8 (List.replicate 32 0), #[.int .i64 0], #[.int .i64 0], ints .u8 (List.replicate 32 0), #[.slice none 0 0], #[.bool false], #[.int .i64 0], ints .u8 (List.replicate 32 0), ints .u8 (List.replicate 32 0), ints .u8 (List.replicate 32 0), #[.slice none 0 0], #[.slice none 0 0], ints .u8 (List.replicate 32 0), ints .u8 (List.replicate 64 0)])) w := by
  have h := Qdt [(List.replicate 32 0).map (Value.int .u8), [.int .i64 0], [.int .i64 0], (List.replicate 32 0).map (Value.int .u8), [.slice none 0 0], [.bool false], [.int .i64 0], (List.replicate 32 0).map (Value.int .u8), (List.replicate 32 0).map (Value.int .u8), (List.replicate 32 0).map (Value.int .u8), [.slice none 0 0], [.slice none 0 0], (List.replicate 32 0).map (Value.int .u8), (List.replicate 64 0).map (Value.int .u8)]
  refine Eq.trans ?_ (congrArg (fun z => Result.ok (Value.agg z) w) h.symm)
  kernel_rfl
theorem Qg7 (pre l post : List (Array Value)) : cat (pre ++ (cat l :: post)) = cat (pre ++ (l ++ post)) := by rw [QaO, QaO, Qaa, QaO]
set_option maxHeartbeats 4000000 in
set_option maxRecDepth 100000 in
theorem QiD (B gr : Nat) (s : Option (List Int)) (w : World) (hB : B ≤ gr) (h : RSt B gr s w) : Calls Try.prog 116 #[.pointer (some ⟨gr, 0, none⟩)] w (QbB B gr w (Qb4 s) fun v W => ∃ (xs : List Int) (a : Option Addr) (c : Nat) (ts : List StV) (at_ : Option Addr) (ct : Nat), v = .agg (cat [#[.bool (nUs s)], #[.int .i64 (nNm s)], ints .u8 (nKy s), ints .u8 (nSg s), ints .u8 (nPa s), #[.slice a xs.length c], #[.slice at_ ts.length ct]]) ∧ OwnN .i64 3 w.heap.size xs (.slice a xs.length c) W ∧ Qb8 w.heap.size ts (.slice at_ ts.length ct) W ∧ xs.length ≤ 255 ∧ ts.length ≤ 255 ∧ (Qb4 s ≠ none → xs = nL s ∧ ts.length = lsN (QaN s) ∧ ∀ j, j < ts.length → StIs (itG Qb0 (Qad (QaN s) 1) j) (ts.getD j st0))) := by
  have hgr := h.lt
  refine enter 16 [(0, .pointer (some ⟨gr, 0, none⟩))] Try.func116 rfl rfl kj rfl ?_
  refine wp_seq_k fun K1 hK1 => ?_
  refine Qae ?_
  refine Qav (cat [#[.bool false], #[.int .i64 0], ints .u8 (List.replicate 32 0), ints .u8 (List.replicate 32 0), ints .u8 (List.replicate 32 0), #[.slice none 0 0], #[.slice none 0 0]]) 57 2 rfl kj (Qbe 57 _ rfl (QfI _)) fun g2 W1 l2 e1 r2_1 => ?_
  have x1 : ExtB gr w W1 := ExtB.ext (ExtB.refl gr w) e1
  have b2 : w.heap.size ≤ g2 := Nat.le_trans (ExtB.refl gr w).size l2
  refine Qaf ?_
  refine hK1 _ _ ?_
  refine wp_seq_k fun K3 hK3 => ?_
  refine Qae ?_
  refine Qab (.pointer (some ⟨gr, 0, none⟩)) 4 rfl kj kj ?_
  have rs4 := (RSt.ext h hB e1)
  refine Qak (fun v W' => ExtB gr W1 W' ∧ RSt B gr (QaN s) W' ∧ (fun (v : Value) (W : World) => ∃ (xz : List Int) (a : Option Addr) (c : Nat), v = .agg (cat [#[.bool (nUs s)], #[.int .i64 (nNm s)], ints .u8 (nKy s), ints .u8 (nSg s), ints .u8 (nPa s), #[.slice a xz.length c]]) ∧ OwnN .i64 3 W1.heap.size xz (.slice a xz.length c) W ∧ xz.length ≤ 255 ∧ (QaN s ≠ none → xz = nL s)) v W') 102 #[.pointer (some ⟨gr, 0, none⟩)] 5 rfl kj kj (QfX B gr _ _ hB rs4) fun vv5 W2 hh5 => ?_
  obtain ⟨q2, rs5, hv5⟩ := hh5
  have x2 : ExtB gr w W2 := ExtB.tr x1 q2
  obtain ⟨xs6, ax6, cx6, rfl, hox6, hlx6, hxx6⟩ := hv5
  refine Qab (.pointer (some ⟨gr, 0, none⟩)) 6 rfl kj kj ?_
  refine Qak (fun v W' => ExtB gr W2 W' ∧ RSt B gr (lsR Qb0 (QaN s)) W' ∧ (fun (v : Value) (W : World) => ∃ ts : List StV, Qb8 W2.heap.size ts v W ∧ ts.length ≤ 255 ∧ (lsR Qb0 (QaN s) ≠ none → ts.length = lsN (QaN s) ∧ ∀ j, j < ts.length → StIs (itG Qb0 (Qad (QaN s) 1) j) (ts.getD j st0))) v W') 127 #[.pointer (some ⟨gr, 0, none⟩), .func (.func 128) #[] #[]] 7 rfl kj kj (QfK B gr _ _ hB rs5) fun vv7 W3 hh7 => ?_
  obtain ⟨q3, rs7, hv7⟩ := hh7
  have x3 : ExtB gr w W3 := ExtB.tr x2 q3
  obtain ⟨lsS, howS, hlnS, hisS⟩ := hv7
  obtain ⟨alS, clS, rfl⟩ := howS.sl
  refine Qab (.agg (cat [#[.bool (nUs s)], #[.int .i64 (nNm s)], ints .u8 (nKy s), ints .u8 (nSg s), ints .u8 (nPa s), #[.slice ax6 xs6.length cx6], #[.slice alS lsS.length clS]])) 8 rfl kj (Eq.trans (Qcc 57 _ [#[.bool false], #[.int .i64 0], ints .u8 (List.replicate 32 0), ints .u8 (List.replicate 32 0), ints .u8 (List.replicate 32 0), #[.slice none 0 0], #[.slice none 0 0]] [] #[(0, 99), (99, 1)] [(0, 99, .agg (cat [#[.bool (nUs s)], #[.int .i64 (nNm s)], ints .u8 (nKy s), ints .u8 (nSg s), ints .u8 (nPa s), #[.slice ax6 xs6.length cx6]]), cat [#[.bool (nUs s)], #[.int .i64 (nNm s)], ints .u8 (nKy s), ints .u8 (nSg s), ints .u8 (nPa s), #[.slice ax6 xs6.length cx6]]), (1, 1, .slice alS lsS.length clS, #[.slice alS lsS.length clS])] rfl kj ⟨kj, rfl, (by rw [Qaa, Qaa, Qaa, Qaa, Qaa, Qaa]; simp only [Array.size_append, cat, ((Qac _ _).trans (QaW s)), ((Qac _ _).trans (QaV s)), ((Qac _ _).trans (QaU s))]; rfl), kj, rfl, kj, trivial⟩ kj (QfI _) kj kj) (congrArg (fun z => Result.ok (Next.value (Value.agg z)) _) (Qg7 [] [#[.bool (nUs s)], #[.int .i64 (nNm s)], ints .u8 (nKy s), ints .u8 (nSg s), ints .u8 (nPa s), #[.slice ax6 xs6.length cx6]] [#[.slice alS lsS.length clS]]))) ?_
  refine Qav (cat [#[.bool false], #[.int .i64 0], ints .u8 (List.replicate 32 0), ints .u8 (List.replicate 32 0), ints .u8 (List.replicate 32 0), #[.slice none 0 0], #[.slice none 0 0]]) 57 3 rfl kj (Qbe 57 _ rfl (QfI _)) fun g9 W4 l9 e4 r9_4 => ?_
  have x4 : ExtB gr w W4 := ExtB.ext x3 e4
  have b9 : w.heap.size ≤ g9 := Nat.le_trans x3.size l9
  refine Qa3 g9 _ (cat [#[.bool (nUs s)], #[.int .i64 (nNm s)], ints .u8 (nKy s), ints .u8 (nSg s), ints .u8 (nPa s), #[.slice ax6 xs6.length cx6], #[.slice alS lsS.length clS]]) 57 r9_4 rfl kj (Qa0 57 _ _ g9 57 _ _ r9_4 rfl kj kj (isz (n := 100) kj (by rw [Qaa, Qaa, Qaa, Qaa, Qaa, Qaa, Qaa]; simp only [Array.size_append, cat, ((Qac _ _).trans (QaW s)), ((Qac _ _).trans (QaV s)), ((Qac _ _).trans (QaU s))]; rfl)) (eqsz (n := 100) (by rw [Qaa, Qaa, Qaa, Qaa, Qaa, Qaa, Qaa]; simp only [Array.size_append, cat, ((Qac _ _).trans (List.length_replicate (n := 32)))]; rfl) (by rw [Qaa, Qaa, Qaa, Qaa, Qaa, Qaa, Qaa]; simp only [Array.size_append, cat, ((Qac _ _).trans (QaW s)), ((Qac _ _).trans (QaV s)), ((Qac _ _).trans (QaU s))]; rfl)) (QaX _ (by intro a ha; simp only [List.mem_cons, List.not_mem_nil, or_false] at ha; rcases ha with rfl | rfl | rfl | rfl | rfl | rfl | rfl; exact (Qaq _ rfl); exact (Qaq _ rfl); exact (Qas _ _); exact (Qas _ _); exact (Qas _ _); exact (Qaq _ rfl); exact (Qaq _ rfl)))) fun W5 p5 r9_5 => ?_
  have x5 : ExtB gr w W5 := ExtB.putsN x4 p5 b9
  refine Qaf ?_
  refine hK3 _ _ ?_
  refine wp_seq_k fun K10 hK10 => ?_
  refine Qae ?_
  refine Qab (.pointer (some ⟨gr, 0, none⟩)) 9 rfl kj kj ?_
  refine Qab (.pointer (some ⟨g9, 99, none⟩)) 10 rfl kj kj ?_
  refine Qab (.slice alS lsS.length clS) 11 rfl kj (Qag 55 _ g9 99 57 _ (.slice alS lsS.length clS) _ r9_5 rfl kj (Qah [#[.bool (nUs s)], #[.int .i64 (nNm s)], ints .u8 (nKy s), ints .u8 (nSg s), ints .u8 (nPa s), #[.slice ax6 xs6.length cx6]] [#[.slice alS lsS.length clS]] [] 99 (by rw [Qaa, Qaa, Qaa, Qaa, Qaa, Qaa]; simp only [Array.size_append, cat, ((Qac _ _).trans (QaW s)), ((Qac _ _).trans (QaV s)), ((Qac _ _).trans (QaU s))]; rfl) 0 _ rfl) kj) ?_
  refine Qab (.int .i64 ((lsS.length : Nat) : Int)) 12 rfl kj kj ?_
  refine Qab (.bool (decide (((lsS.length : Nat) : Int) ≤ 5))) 13 rfl kj kj ?_
  have rs11 := (RSt.put (RSt.ext rs7 hB e4) hB p5 (Nat.lt_of_lt_of_le hgr b9))
  refine Qak (fun v W' => ExtB gr W5 W' ∧ RSt B gr (Qa4 (lsR Qb0 (QaN s)) (decide (((lsS.length : Nat) : Int) ≤ 5))) W' ∧ (fun (v : Value) (_ : World) => v = .tuple #[]) v W') 103 #[.pointer (some ⟨gr, 0, none⟩), .bool (decide (((lsS.length : Nat) : Int) ≤ 5))] 14 rfl kj kj (QcN B gr _ (decide (((lsS.length : Nat) : Int) ≤ 5)) _ hB rs11) fun vv12 W6 hh12 => ?_
  obtain ⟨q6, rs12, hv12⟩ := hh12
  have x6 : ExtB gr w W6 := ExtB.tr x5 q6
  subst hv12
  refine Qaf ?_
  refine hK10 _ _ ?_
  refine wp_seq_k fun K13 hK13 => ?_
  refine Qae ?_
  have r9_6 := (ExtB.row q6 r9_5 (Ne.symm (Nat.ne_of_lt (Nat.lt_of_lt_of_le hgr b9))))
  refine Qab (.agg (cat [#[.bool (nUs s)], #[.int .i64 (nNm s)], ints .u8 (nKy s), ints .u8 (nSg s), ints .u8 (nPa s), #[.slice ax6 xs6.length cx6], #[.slice alS lsS.length clS]])) 15 rfl kj (QaA 57 _ g9 57 _ _ r9_6 rfl kj kj (isz (n := 100) kj (by rw [Qaa, Qaa, Qaa, Qaa, Qaa, Qaa, Qaa]; simp only [Array.size_append, cat, ((Qac _ _).trans (QaW s)), ((Qac _ _).trans (QaV s)), ((Qac _ _).trans (QaU s))]; rfl))) ?_
  have r2_2 := (ExtB.row q2 r2_1 (Ne.symm (Nat.ne_of_lt (Nat.lt_of_lt_of_le hgr b2))))
  have r2_3 := (ExtB.row q3 r2_2 (Ne.symm (Nat.ne_of_lt (Nat.lt_of_lt_of_le hgr b2))))
  have r2_4 := (Qar r2_3 e4)
  have r2_5 := (Puts.row p5 r2_4 (QaI r2_3 l9))
  have r2_6 := (ExtB.row q6 r2_5 (Ne.symm (Nat.ne_of_lt (Nat.lt_of_lt_of_le hgr b2))))
  refine Qa3 g2 _ (cat [#[.bool (nUs s)], #[.int .i64 (nNm s)], ints .u8 (nKy s), ints .u8 (nSg s), ints .u8 (nPa s), #[.slice ax6 xs6.length cx6], #[.slice alS lsS.length clS]]) 57 r2_6 rfl kj (Qa0 57 _ _ g2 57 _ _ r2_6 rfl kj kj (isz (n := 100) kj (by rw [Qaa, Qaa, Qaa, Qaa, Qaa, Qaa, Qaa]; simp only [Array.size_append, cat, ((Qac _ _).trans (QaW s)), ((Qac _ _).trans (QaV s)), ((Qac _ _).trans (QaU s))]; rfl)) (eqsz (n := 100) (by rw [Qaa, Qaa, Qaa, Qaa, Qaa, Qaa, Qaa]; simp only [Array.size_append, cat, ((Qac _ _).trans (List.length_replicate (n := 32)))]; rfl) (by rw [Qaa, Qaa, Qaa, Qaa, Qaa, Qaa, Qaa]; simp only [Array.size_append, cat, ((Qac _ _).trans (QaW s)), ((Qac _ _).trans (QaV s)), ((Qac _ _).trans (QaU s))]; rfl)) (QaX _ (by intro a ha; simp only [List.mem_cons, List.not_mem_nil, or_false] at ha; rcases ha with rfl | rfl | rfl | rfl | rfl | rfl | rfl; exact (Qaq _ rfl); exact (Qaq _ rfl); exact (Qas _ _); exact (Qas _ _); exact (Qas _ _); exact (Qaq _ rfl); exact (Qaq _ rfl)))) fun W7 p7 r2_7 => ?_
  have x7 : ExtB gr w W7 := ExtB.putsN x6 p7 b2
  refine Qaf ?_
  refine hK13 _ _ ?_
  refine wp_ret ?_
  repeat (first | with_reducible refine goR1 ?_ | with_reducible refine goR2 ?_)
  have rs14 := (RSt.put rs12 hB p7 (Nat.lt_of_lt_of_le hgr b2))
  exact (show bodyPost _ _ _ .ret _ _ from ret1 (.agg (cat [#[.bool (nUs s)], #[.int .i64 (nNm s)], ints .u8 (nKy s), ints .u8 (nSg s), ints .u8 (nPa s), #[.slice ax6 xs6.length cx6], #[.slice alS lsS.length clS]])) rfl (Qbk g2 57 _ r2_7 kj kj (isz (n := 100) kj (by rw [Qaa, Qaa, Qaa, Qaa, Qaa, Qaa, Qaa]; simp only [Array.size_append, cat, ((Qac _ _).trans (QaW s)), ((Qac _ _).trans (QaV s)), ((Qac _ _).trans (QaU s))]; rfl))) ⟨_, rfl, x7, (show RSt B gr (Qb4 s) _ by
      have h9 := rs14
      unfold Qb4
      by_cases h0 : lsR Qb0 (QaN s) = none
      · rw [h0, Qbj] at h9 ⊢; exact h9
      · rw [(hisS h0).1] at h9; exact h9), xs6, _, _, lsS, _, _, rfl, OwnN.base x1.2.2.2.1 (QbI (QbI (QbI (QbI (QbI hox6 (Qbt 0 q3 (Nat.lt_of_lt_of_le hgr x1.2.2.2.1)) (by decide)) (QbF _ 0 e4) (by decide)) (Qbx _ p5 r9_4) (by decide)) (Qbt 0 q6 (Nat.lt_of_lt_of_le hgr x1.2.2.2.1)) (by decide)) (Qbx _ p7 r2_6) (by decide)), (Qb8.base_ x2.2.2.2.1 (OwL.rows inSt (OwL.rows inSt (OwL.rows inSt (OwL.rows inSt howS (QbF _ 0 e4) (by decide)) (Qbx _ p5 r9_4) (by decide)) (Qbt 0 q6 (Nat.lt_of_lt_of_le hgr x2.2.2.2.1)) (by decide)) (Qbx _ p7 r2_6) (by decide))), hlx6, hlnS, fun hne => ⟨hxx6 (fun h0 => hne (by unfold Qb4; rw [show lsR Qb0 (QaN s) = none by rw [h0]; exact QbS Qc8 _ 0 rfl _ (Nat.zero_le _), Qbj])), hisS (fun h0 => hne (by unfold Qb4; rw [h0, Qbj]))⟩⟩)
def cS1 (s : Option (List Int)) : Option (List Int) := Qad s 32
def cS2 (s : Option (List Int)) : Option (List Int) := Qad (cS1 s) 4
def cS3 (s : Option (List Int)) : Option (List Int) := Qan (cS2 s)
def cS4 (s : Option (List Int)) : Option (List Int) := Qad (cS3 s) 32
def cS5 (s : Option (List Int)) : Option (List Int) := lsR Qa2 (cS4 s)
def cS6 (s : Option (List Int)) : Option (List Int) := Qb4 (cS5 s)
def cS7 (s : Option (List Int)) : Option (List Int) := Qad (cS6 s) 32
def Qd7 (s : Option (List Int)) : Option (List Int) := Qad (cS7 s) 64
def cGrp (s : Option (List Int)) : List Int := keyV (Qai s 32)
def cEp (s : Option (List Int)) : Int := ((bigN (Qai (cS1 s) 4) : Nat) : Int)
def cFr (s : Option (List Int)) : Int := ((bigN (Qai (cS2 s) 1) : Nat) : Int)
def cBas (s : Option (List Int)) : List Int := keyV (Qai (cS3 s) 32)
def cTag (s : Option (List Int)) : List Int := keyV (Qai (cS6 s) 32)
def cSig (s : Option (List Int)) : List Int := Qbq (Qai (cS7 s) 64)
theorem QbY (s : Option (List Int)) : (cGrp s).length = 32 := Qap _ (Qal _ 32)
theorem QbZ (s : Option (List Int)) : (cBas s).length = 32 := Qap _ (Qal _ 32)
theorem QbW (s : Option (List Int)) : (cTag s).length = 32 := Qap _ (Qal _ 32)
theorem QbX (s : Option (List Int)) : (cSig s).length = 64 := QaF _ (Qal _ 64)
theorem QfA : Qb4 none = none := by
  unfold Qb4
  rw [QdO, show lsR Qb0 none = none from QbS Qc8 _ 0 rfl _ (Nat.zero_le _), Qbj]
theorem QdR {s : Option (List Int)} (h : Qd7 s ≠ none) : Qb4 (cS5 s) ≠ none := fun h0 => h (by unfold Qd7 cS7 cS6; rw [h0]; rfl)
theorem Qfh {s : Option (List Int)} (h : Qd7 s ≠ none) : lsR Qa2 (cS4 s) ≠ none := fun h0 => QdR h (by unfold cS5; rw [h0, QfA])
structure CmRd (base : Nat) (W : World) (s : Option (List Int)) (ps : List PrV) (vp : Value) (xs : List Int) (vm : Value) (ts : List StV) (vt : Value) : Prop where
  op : QbK base ps vp W
  om : OwnN .i64 3 base xs vm W
  ot : Qb8 base ts vt W
  pl : ps.length ≤ 255
  ml : xs.length ≤ 255
  tl : ts.length ≤ 255
  is : Qd7 s ≠ none → (ps.length = lsN (cS4 s) ∧ ∀ j, j < ps.length → PrIs (itG Qa2 (Qad (cS4 s) 1) j) (ps.getD j pr0)) ∧ xs = nL (cS5 s) ∧ ts.length = lsN (QaN (cS5 s)) ∧ ∀ j, j < ts.length → StIs (itG Qb0 (Qad (QaN (cS5 s)) 1) j) (ts.getD j st0)
section
variable {base : Nat} {W W' : World} {s : Option (List Int)} {ps : List PrV} {vp : Value} {xs : List Int} {vm : Value} {ts : List StV} {vt : Value}
theorem CmRd.rows (h : CmRd base W s ps vp xs vm ts vt) {T0 : TypeId} (q : Qet base T0 W W') (h1 : T0 ∉ [47, 3]) (h2 : T0 ∉ [129, 26, 5]) : CmRd base W' s ps vp xs vm ts vt :=
  ⟨h.op.rows inPr q h1, QbI h.om q (fun e => h1 (by rw [e]; simp)), h.ot.rows inSt q h2, h.pl, h.ml, h.tl, h.is⟩
theorem CmRd.mono {b : Nat} (h : CmRd b W s ps vp xs vm ts vt) (hab : base ≤ b) : CmRd base W s ps vp xs vm ts vt :=
  ⟨QbK.base_ hab h.op, OwnN.base hab h.om, Qb8.base_ hab h.ot, h.pl, h.ml, h.tl, h.is⟩
end
set_option maxHeartbeats 4000000 in
set_option maxRecDepth 100000 in
theorem QiI (B gr : Nat) (s : Option (List Int)) (w : World) (hB : B ≤ gr) (h : RSt B gr s w) : Calls Try.prog 69 #[.pointer (some ⟨gr, 0, none⟩)] w (QbB B gr w (Qd7 s) fun v W => ∃ (ps : List PrV) (ap : Option Addr) (cp : Nat) (xs : List Int) (a : Option Addr) (c : Nat) (ts : List StV) (at_ : Option Addr) (ct : Nat), v = .agg (cat [ints .u8 (cGrp s), #[.int .i64 (cEp s)], #[.int .i64 (cFr s)], ints .u8 (cBas s), #[.slice ap ps.length cp], #[.bool (nUs (cS5 s))], #[.int .i64 (nNm (cS5 s))], ints .u8 (nKy (cS5 s)), ints .u8 (nSg (cS5 s)), ints .u8 (nPa (cS5 s)), #[.slice a xs.length c], #[.slice at_ ts.length ct], ints .u8 (cTag s), ints .u8 (cSig s)]) ∧ CmRd w.heap.size W s ps (.slice ap ps.length cp) xs (.slice a xs.length c) ts (.slice at_ ts.length ct)) := by
  have hgr := h.lt
  refine enter 20 [(0, .pointer (some ⟨gr, 0, none⟩))] Try.func69 rfl rfl kj rfl ?_
  refine wp_seq_k fun K1 hK1 => ?_
  refine Qae ?_
  refine Qav (cat [ints .u8 (List.replicate 32 0), #[.int .i64 0], #[.int .i64 0], ints .u8 (List.replicate 32 0), #[.slice none 0 0], #[.bool false], #[.int .i64 0], ints .u8 (List.replicate 32 0), ints .u8 (List.replicate 32 0), ints .u8 (List.replicate 32 0), #[.slice none 0 0], #[.slice none 0 0], ints .u8 (List.replicate 32 0), ints .u8 (List.replicate 64 0)]) 59 2 rfl kj (Qbe 59 _ rfl (QdE _)) fun g2 W1 l2 e1 r2_1 => ?_
  have x1 : ExtB gr w W1 := ExtB.ext (ExtB.refl gr w) e1
  have b2 : w.heap.size ≤ g2 := Nat.le_trans (ExtB.refl gr w).size l2
  refine Qaf ?_
  refine hK1 _ _ ?_
  refine wp_seq_k fun K3 hK3 => ?_
  refine Qae ?_
  refine Qab (.pointer (some ⟨gr, 0, none⟩)) 3 rfl kj kj ?_
  have rs4 := (RSt.ext h hB e1)
  refine Qak (fun v W' => ExtB gr W1 W' ∧ RSt B gr (Qad (s) 32) W' ∧ (fun (v : Value) (_ : World) => v = .agg (ints .u8 (keyV (Qai (s) 32)))) v W') 109 #[.pointer (some ⟨gr, 0, none⟩)] 4 rfl kj kj (Qcg B gr _ _ hB rs4) fun vv5 W2 hh5 => ?_
  obtain ⟨q2, rs5, hv5⟩ := hh5
  have x2 : ExtB gr w W2 := ExtB.tr x1 q2
  subst hv5
  refine Qab (.pointer (some ⟨gr, 0, none⟩)) 5 rfl kj kj ?_
  refine Qak (fun v W' => ExtB gr W2 W' ∧ RSt B gr (Qad (Qad (s) 32) 4) W' ∧ (fun (v : Value) (_ : World) => v = .int .i64 ((bigN (Qai (Qad (s) 32) 4) : Nat) : Int)) v W') 110 #[.pointer (some ⟨gr, 0, none⟩), .int .i64 4] 6 rfl kj kj (Qbg B gr _ 4 _ hB rs5 (by decide)) fun vv6 W3 hh6 => ?_
  obtain ⟨q3, rs6, hv6⟩ := hh6
  have x3 : ExtB gr w W3 := ExtB.tr x2 q3
  subst hv6
  refine Qab (.pointer (some ⟨gr, 0, none⟩)) 7 rfl kj kj ?_
  refine Qak (fun v W' => ExtB gr W3 W' ∧ RSt B gr (Qan (Qad (Qad (s) 32) 4)) W' ∧ (fun (v : Value) (_ : World) => v = .int .i64 ((bigN (Qai (Qad (Qad (s) 32) 4) 1) : Nat) : Int)) v W') 111 #[.pointer (some ⟨gr, 0, none⟩)] 8 rfl kj kj (Qdk B gr _ _ hB rs6) fun vv7 W4 hh7 => ?_
  obtain ⟨q4, rs7, hv7⟩ := hh7
  have x4 : ExtB gr w W4 := ExtB.tr x3 q4
  subst hv7
  refine Qab (.pointer (some ⟨gr, 0, none⟩)) 9 rfl kj kj ?_
  refine Qak (fun v W' => ExtB gr W4 W' ∧ RSt B gr (Qad (Qan (Qad (Qad (s) 32) 4)) 32) W' ∧ (fun (v : Value) (_ : World) => v = .agg (ints .u8 (keyV (Qai (Qan (Qad (Qad (s) 32) 4)) 32)))) v W') 109 #[.pointer (some ⟨gr, 0, none⟩)] 10 rfl kj kj (Qcg B gr _ _ hB rs7) fun vv8 W5 hh8 => ?_
  obtain ⟨q5, rs8, hv8⟩ := hh8
  have x5 : ExtB gr w W5 := ExtB.tr x4 q5
  subst hv8
  refine Qab (.pointer (some ⟨gr, 0, none⟩)) 11 rfl kj kj ?_
  refine Qak (fun v W' => ExtB gr W5 W' ∧ RSt B gr (lsR Qa2 (Qad (Qan (Qad (Qad (s) 32) 4)) 32)) W' ∧ (fun (v : Value) (W : World) => ∃ ts : List PrV, QbK W5.heap.size ts v W ∧ ts.length ≤ 255 ∧ (lsR Qa2 (Qad (Qan (Qad (Qad (s) 32) 4)) 32) ≠ none → ts.length = lsN (Qad (Qan (Qad (Qad (s) 32) 4)) 32) ∧ ∀ j, j < ts.length → PrIs (itG Qa2 (Qad (Qad (Qan (Qad (Qad (s) 32) 4)) 32) 1) j) (ts.getD j pr0))) v W') 115 #[.pointer (some ⟨gr, 0, none⟩), .func (.func 61) #[] #[]] 12 rfl kj kj (QfM B gr _ _ hB rs8) fun vv9 W6 hh9 => ?_
  obtain ⟨q6, rs9, hv9⟩ := hh9
  have x6 : ExtB gr w W6 := ExtB.tr x5 q6
  obtain ⟨lsP, howP, hlnP, hisP⟩ := hv9
  obtain ⟨alP, clP, rfl⟩ := howP.sl
  refine Qab (.pointer (some ⟨gr, 0, none⟩)) 13 rfl kj kj ?_
  refine Qak (fun v W' => ExtB gr W6 W' ∧ RSt B gr (Qb4 (lsR Qa2 (Qad (Qan (Qad (Qad (s) 32) 4)) 32))) W' ∧ (fun (v : Value) (W : World) => ∃ (xs : List Int) (a : Option Addr) (c : Nat) (ts : List StV) (at_ : Option Addr) (ct : Nat), v = .agg (cat [#[.bool (nUs (lsR Qa2 (Qad (Qan (Qad (Qad (s) 32) 4)) 32)))], #[.int .i64 (nNm (lsR Qa2 (Qad (Qan (Qad (Qad (s) 32) 4)) 32)))], ints .u8 (nKy (lsR Qa2 (Qad (Qan (Qad (Qad (s) 32) 4)) 32))), ints .u8 (nSg (lsR Qa2 (Qad (Qan (Qad (Qad (s) 32) 4)) 32))), ints .u8 (nPa (lsR Qa2 (Qad (Qan (Qad (Qad (s) 32) 4)) 32))), #[.slice a xs.length c], #[.slice at_ ts.length ct]]) ∧ OwnN .i64 3 W6.heap.size xs (.slice a xs.length c) W ∧ Qb8 W6.heap.size ts (.slice at_ ts.length ct) W ∧ xs.length ≤ 255 ∧ ts.length ≤ 255 ∧ (Qb4 (lsR Qa2 (Qad (Qan (Qad (Qad (s) 32) 4)) 32)) ≠ none → xs = nL (lsR Qa2 (Qad (Qan (Qad (Qad (s) 32) 4)) 32)) ∧ ts.length = lsN (QaN (lsR Qa2 (Qad (Qan (Qad (Qad (s) 32) 4)) 32))) ∧ ∀ j, j < ts.length → StIs (itG Qb0 (Qad (QaN (lsR Qa2 (Qad (Qan (Qad (Qad (s) 32) 4)) 32))) 1) j) (ts.getD j st0))) v W') 116 #[.pointer (some ⟨gr, 0, none⟩)] 14 rfl kj kj (QiD B gr _ _ hB rs9) fun vv11 W7 hh11 => ?_
  obtain ⟨q7, rs11, hv11⟩ := hh11
  have x7 : ExtB gr w W7 := ExtB.tr x6 q7
  obtain ⟨xs, a, c, ts, at_, ct, rfl, hoM, hoT, hlM, hlT, hisT⟩ := hv11
  refine Qab (.pointer (some ⟨gr, 0, none⟩)) 15 rfl kj kj ?_
  refine Qak (fun v W' => ExtB gr W7 W' ∧ RSt B gr (Qad (Qb4 (lsR Qa2 (Qad (Qan (Qad (Qad (s) 32) 4)) 32))) 32) W' ∧ (fun (v : Value) (_ : World) => v = .agg (ints .u8 (keyV (Qai (Qb4 (lsR Qa2 (Qad (Qan (Qad (Qad (s) 32) 4)) 32))) 32)))) v W') 109 #[.pointer (some ⟨gr, 0, none⟩)] 16 rfl kj kj (Qcg B gr _ _ hB rs11) fun vv12 W8 hh12 => ?_
  obtain ⟨q8, rs12, hv12⟩ := hh12
  have x8 : ExtB gr w W8 := ExtB.tr x7 q8
  subst hv12
  refine Qab (.pointer (some ⟨gr, 0, none⟩)) 17 rfl kj kj ?_
  refine Qak (fun v W' => ExtB gr W8 W' ∧ RSt B gr (Qad (Qad (Qb4 (lsR Qa2 (Qad (Qan (Qad (Qad (s) 32) 4)) 32))) 32) 64) W' ∧ (fun (v : Value) (_ : World) => v = .agg (ints .u8 (Qbq (Qai (Qad (Qb4 (lsR Qa2 (Qad (Qan (Qad (Qad (s) 32) 4)) 32))) 32) 64)))) v W') 112 #[.pointer (some ⟨gr, 0, none⟩)] 18 rfl kj kj (Qey B gr _ _ hB rs12) fun vv13 W9 hh13 => ?_
  obtain ⟨q9, rs13, hv13⟩ := hh13
  have x9 : ExtB gr w W9 := ExtB.tr x8 q9
  subst hv13
  refine Qab (.agg (cat [ints .u8 (keyV (Qai (s) 32)), #[.int .i64 ((bigN (Qai (Qad (s) 32) 4) : Nat) : Int)], #[.int .i64 ((bigN (Qai (Qad (Qad (s) 32) 4) 1) : Nat) : Int)], ints .u8 (keyV (Qai (Qan (Qad (Qad (s) 32) 4)) 32)), #[.slice alP lsP.length clP], #[.bool (nUs (lsR Qa2 (Qad (Qan (Qad (Qad (s) 32) 4)) 32)))], #[.int .i64 (nNm (lsR Qa2 (Qad (Qan (Qad (Qad (s) 32) 4)) 32)))], ints .u8 (nKy (lsR Qa2 (Qad (Qan (Qad (Qad (s) 32) 4)) 32))), ints .u8 (nSg (lsR Qa2 (Qad (Qan (Qad (Qad (s) 32) 4)) 32))), ints .u8 (nPa (lsR Qa2 (Qad (Qan (Qad (Qad (s) 32) 4)) 32))), #[.slice a xs.length c], #[.slice at_ ts.length ct], ints .u8 (keyV (Qai (Qb4 (lsR Qa2 (Qad (Qan (Qad (Qad (s) 32) 4)) 32))) 32)), ints .u8 (Qbq (Qai (Qad (Qb4 (lsR Qa2 (Qad (Qan (Qad (Qad (s) 32) 4)) 32))) 32) 64))])) 19 rfl kj (Eq.trans (Qcc 59 _ [ints .u8 (List.replicate 32 0), #[.int .i64 0], #[.int .i64 0], ints .u8 (List.replicate 32 0), #[.slice none 0 0], #[.bool false], #[.int .i64 0], ints .u8 (List.replicate 32 0), ints .u8 (List.replicate 32 0), ints .u8 (List.replicate 32 0), #[.slice none 0 0], #[.slice none 0 0], ints .u8 (List.replicate 32 0), ints .u8 (List.replicate 64 0)] [] #[(0, 32), (32, 1), (33, 1), (34, 32), (66, 1), (67, 100), (167, 32), (199, 64)] [(0, 32, .agg (ints .u8 (keyV (Qai (s) 32))), ints .u8 (keyV (Qai (s) 32))), (1, 1, .int .i64 ((bigN (Qai (Qad (s) 32) 4) : Nat) : Int), #[.int .i64 ((bigN (Qai (Qad (s) 32) 4) : Nat) : Int)]), (2, 1, .int .i64 ((bigN (Qai (Qad (Qad (s) 32) 4) 1) : Nat) : Int), #[.int .i64 ((bigN (Qai (Qad (Qad (s) 32) 4) 1) : Nat) : Int)]), (3, 32, .agg (ints .u8 (keyV (Qai (Qan (Qad (Qad (s) 32) 4)) 32))), ints .u8 (keyV (Qai (Qan (Qad (Qad (s) 32) 4)) 32))), (4, 1, .slice alP lsP.length clP, #[.slice alP lsP.length clP]), (5, 100, .agg (cat [#[.bool (nUs (lsR Qa2 (Qad (Qan (Qad (Qad (s) 32) 4)) 32)))], #[.int .i64 (nNm (lsR Qa2 (Qad (Qan (Qad (Qad (s) 32) 4)) 32)))], ints .u8 (nKy (lsR Qa2 (Qad (Qan (Qad (Qad (s) 32) 4)) 32))), ints .u8 (nSg (lsR Qa2 (Qad (Qan (Qad (Qad (s) 32) 4)) 32))), ints .u8 (nPa (lsR Qa2 (Qad (Qan (Qad (Qad (s) 32) 4)) 32))), #[.slice a xs.length c], #[.slice at_ ts.length ct]]), cat [#[.bool (nUs (lsR Qa2 (Qad (Qan (Qad (Qad (s) 32) 4)) 32)))], #[.int .i64 (nNm (lsR Qa2 (Qad (Qan (Qad (Qad (s) 32) 4)) 32)))], ints .u8 (nKy (lsR Qa2 (Qad (Qan (Qad (Qad (s) 32) 4)) 32))), ints .u8 (nSg (lsR Qa2 (Qad (Qan (Qad (Qad (s) 32) 4)) 32))), ints .u8 (nPa (lsR Qa2 (Qad (Qan (Qad (Qad (s) 32) 4)) 32))), #[.slice a xs.length c], #[.slice at_ ts.length ct]]), (6, 32, .agg (ints .u8 (keyV (Qai (Qb4 (lsR Qa2 (Qad (Qan (Qad (Qad (s) 32) 4)) 32))) 32))), ints .u8 (keyV (Qai (Qb4 (lsR Qa2 (Qad (Qan (Qad (Qad (s) 32) 4)) 32))) 32))), (7, 64, .agg (ints .u8 (Qbq (Qai (Qad (Qb4 (lsR Qa2 (Qad (Qan (Qad (Qad (s) 32) 4)) 32))) 32) 64))), ints .u8 (Qbq (Qai (Qad (Qb4 (lsR Qa2 (Qad (Qan (Qad (Qad (s) 32) 4)) 32))) 32) 64)))] rfl kj ⟨kj, rfl, ((Qac _ _).trans (Qap _ (Qal (s) 32))), kj, rfl, kj, kj, rfl, kj, kj, rfl, ((Qac _ _).trans (Qap _ (Qal (Qan (Qad (Qad (s) 32) 4)) 32))), kj, rfl, kj, kj, rfl, (by rw [Qaa, Qaa, Qaa, Qaa, Qaa, Qaa, Qaa]; simp only [Array.size_append, cat, ((Qac _ _).trans (QaW (lsR Qa2 (Qad (Qan (Qad (Qad (s) 32) 4)) 32)))), ((Qac _ _).trans (QaV (lsR Qa2 (Qad (Qan (Qad (Qad (s) 32) 4)) 32)))), ((Qac _ _).trans (QaU (lsR Qa2 (Qad (Qan (Qad (Qad (s) 32) 4)) 32))))]; rfl), kj, rfl, ((Qac _ _).trans (Qap _ (Qal (Qb4 (lsR Qa2 (Qad (Qan (Qad (Qad (s) 32) 4)) 32))) 32))), kj, rfl, ((Qac _ _).trans (QaF _ (Qal (Qad (Qb4 (lsR Qa2 (Qad (Qan (Qad (Qad (s) 32) 4)) 32))) 32) 64))), trivial⟩ kj (QdE _) kj kj) (congrArg (fun z => Result.ok (Next.value (Value.agg z)) _) (Qg7 [ints .u8 (keyV (Qai (s) 32)), #[.int .i64 ((bigN (Qai (Qad (s) 32) 4) : Nat) : Int)], #[.int .i64 ((bigN (Qai (Qad (Qad (s) 32) 4) 1) : Nat) : Int)], ints .u8 (keyV (Qai (Qan (Qad (Qad (s) 32) 4)) 32)), #[.slice alP lsP.length clP]] [#[.bool (nUs (lsR Qa2 (Qad (Qan (Qad (Qad (s) 32) 4)) 32)))], #[.int .i64 (nNm (lsR Qa2 (Qad (Qan (Qad (Qad (s) 32) 4)) 32)))], ints .u8 (nKy (lsR Qa2 (Qad (Qan (Qad (Qad (s) 32) 4)) 32))), ints .u8 (nSg (lsR Qa2 (Qad (Qan (Qad (Qad (s) 32) 4)) 32))), ints .u8 (nPa (lsR Qa2 (Qad (Qan (Qad (Qad (s) 32) 4)) 32))), #[.slice a xs.length c], #[.slice at_ ts.length ct]] [ints .u8 (keyV (Qai (Qb4 (lsR Qa2 (Qad (Qan (Qad (Qad (s) 32) 4)) 32))) 32)), ints .u8 (Qbq (Qai (Qad (Qb4 (lsR Qa2 (Qad (Qan (Qad (Qad (s) 32) 4)) 32))) 32) 64))]))) ?_
  have r2_2 := (ExtB.row q2 r2_1 (Ne.symm (Nat.ne_of_lt (Nat.lt_of_lt_of_le hgr b2))))
  have r2_3 := (ExtB.row q3 r2_2 (Ne.symm (Nat.ne_of_lt (Nat.lt_of_lt_of_le hgr b2))))
  have r2_4 := (ExtB.row q4 r2_3 (Ne.symm (Nat.ne_of_lt (Nat.lt_of_lt_of_le hgr b2))))
  have r2_5 := (ExtB.row q5 r2_4 (Ne.symm (Nat.ne_of_lt (Nat.lt_of_lt_of_le hgr b2))))
  have r2_6 := (ExtB.row q6 r2_5 (Ne.symm (Nat.ne_of_lt (Nat.lt_of_lt_of_le hgr b2))))
  have r2_7 := (ExtB.row q7 r2_6 (Ne.symm (Nat.ne_of_lt (Nat.lt_of_lt_of_le hgr b2))))
  have r2_8 := (ExtB.row q8 r2_7 (Ne.symm (Nat.ne_of_lt (Nat.lt_of_lt_of_le hgr b2))))
  have r2_9 := (ExtB.row q9 r2_8 (Ne.symm (Nat.ne_of_lt (Nat.lt_of_lt_of_le hgr b2))))
  refine Qa3 g2 _ (cat [ints .u8 (keyV (Qai (s) 32)), #[.int .i64 ((bigN (Qai (Qad (s) 32) 4) : Nat) : Int)], #[.int .i64 ((bigN (Qai (Qad (Qad (s) 32) 4) 1) : Nat) : Int)], ints .u8 (keyV (Qai (Qan (Qad (Qad (s) 32) 4)) 32)), #[.slice alP lsP.length clP], #[.bool (nUs (lsR Qa2 (Qad (Qan (Qad (Qad (s) 32) 4)) 32)))], #[.int .i64 (nNm (lsR Qa2 (Qad (Qan (Qad (Qad (s) 32) 4)) 32)))], ints .u8 (nKy (lsR Qa2 (Qad (Qan (Qad (Qad (s) 32) 4)) 32))), ints .u8 (nSg (lsR Qa2 (Qad (Qan (Qad (Qad (s) 32) 4)) 32))), ints .u8 (nPa (lsR Qa2 (Qad (Qan (Qad (Qad (s) 32) 4)) 32))), #[.slice a xs.length c], #[.slice at_ ts.length ct], ints .u8 (keyV (Qai (Qb4 (lsR Qa2 (Qad (Qan (Qad (Qad (s) 32) 4)) 32))) 32)), ints .u8 (Qbq (Qai (Qad (Qb4 (lsR Qa2 (Qad (Qan (Qad (Qad (s) 32) 4)) 32))) 32) 64))]) 59 r2_9 rfl kj (Qa0 59 _ _ g2 59 _ _ r2_9 rfl kj kj (isz (n := 263) kj (by rw [Qaa, Qaa, Qaa, Qaa, Qaa, Qaa, Qaa, Qaa, Qaa, Qaa, Qaa, Qaa, Qaa, Qaa]; simp only [Array.size_append, cat, ((Qac _ _).trans (Qap _ (Qal (Qan (Qad (Qad (s) 32) 4)) 32))), ((Qac _ _).trans (Qap _ (Qal (Qb4 (lsR Qa2 (Qad (Qan (Qad (Qad (s) 32) 4)) 32))) 32))), ((Qac _ _).trans (Qap _ (Qal (s) 32))), ((Qac _ _).trans (QaW (lsR Qa2 (Qad (Qan (Qad (Qad (s) 32) 4)) 32)))), ((Qac _ _).trans (QaV (lsR Qa2 (Qad (Qan (Qad (Qad (s) 32) 4)) 32)))), ((Qac _ _).trans (QaU (lsR Qa2 (Qad (Qan (Qad (Qad (s) 32) 4)) 32)))), ((Qac _ _).trans (QaF _ (Qal (Qad (Qb4 (lsR Qa2 (Qad (Qan (Qad (Qad (s) 32) 4)) 32))) 32) 64)))]; rfl)) (eqsz (n := 263) (by rw [Qaa, Qaa, Qaa, Qaa, Qaa, Qaa, Qaa, Qaa, Qaa, Qaa, Qaa, Qaa, Qaa, Qaa]; simp only [Array.size_append, cat, ((Qac _ _).trans (List.length_replicate (n := 32))), ((Qac _ _).trans (List.length_replicate (n := 64)))]; rfl) (by rw [Qaa, Qaa, Qaa, Qaa, Qaa, Qaa, Qaa, Qaa, Qaa, Qaa, Qaa, Qaa, Qaa, Qaa]; simp only [Array.size_append, cat, ((Qac _ _).trans (Qap _ (Qal (Qan (Qad (Qad (s) 32) 4)) 32))), ((Qac _ _).trans (Qap _ (Qal (Qb4 (lsR Qa2 (Qad (Qan (Qad (Qad (s) 32) 4)) 32))) 32))), ((Qac _ _).trans (Qap _ (Qal (s) 32))), ((Qac _ _).trans (QaW (lsR Qa2 (Qad (Qan (Qad (Qad (s) 32) 4)) 32)))), ((Qac _ _).trans (QaV (lsR Qa2 (Qad (Qan (Qad (Qad (s) 32) 4)) 32)))), ((Qac _ _).trans (QaU (lsR Qa2 (Qad (Qan (Qad (Qad (s) 32) 4)) 32)))), ((Qac _ _).trans (QaF _ (Qal (Qad (Qb4 (lsR Qa2 (Qad (Qan (Qad (Qad (s) 32) 4)) 32))) 32) 64)))]; rfl)) (QaX _ (by intro a ha; simp only [List.mem_cons, List.not_mem_nil, or_false] at ha; rcases ha with rfl | rfl | rfl | rfl | rfl | rfl | rfl | rfl | rfl | rfl | rfl | rfl | rfl | rfl; exact (Qas _ _); exact (Qaq _ rfl); exact (Qaq _ rfl); exact (Qas _ _); exact (Qaq _ rfl); exact (Qaq _ rfl); exact (Qaq _ rfl); exact (Qas _ _); exact (Qas _ _); exact (Qas _ _); exact (Qaq _ rfl); exact (Qaq _ rfl); exact (Qas _ _); exact (Qas _ _)))) fun W10 p10 r2_10 => ?_
  have x10 : ExtB gr w W10 := ExtB.putsN x9 p10 b2
  refine Qaf ?_
  refine hK3 _ _ ?_
  refine wp_ret ?_
  repeat (first | with_reducible refine goR1 ?_ | with_reducible refine goR2 ?_)
  have rs14 := (RSt.put rs13 hB p10 (Nat.lt_of_lt_of_le hgr b2))
  exact (show bodyPost _ _ _ .ret _ _ from ret1 (.agg (cat [ints .u8 (keyV (Qai (s) 32)), #[.int .i64 ((bigN (Qai (Qad (s) 32) 4) : Nat) : Int)], #[.int .i64 ((bigN (Qai (Qad (Qad (s) 32) 4) 1) : Nat) : Int)], ints .u8 (keyV (Qai (Qan (Qad (Qad (s) 32) 4)) 32)), #[.slice alP lsP.length clP], #[.bool (nUs (lsR Qa2 (Qad (Qan (Qad (Qad (s) 32) 4)) 32)))], #[.int .i64 (nNm (lsR Qa2 (Qad (Qan (Qad (Qad (s) 32) 4)) 32)))], ints .u8 (nKy (lsR Qa2 (Qad (Qan (Qad (Qad (s) 32) 4)) 32))), ints .u8 (nSg (lsR Qa2 (Qad (Qan (Qad (Qad (s) 32) 4)) 32))), ints .u8 (nPa (lsR Qa2 (Qad (Qan (Qad (Qad (s) 32) 4)) 32))), #[.slice a xs.length c], #[.slice at_ ts.length ct], ints .u8 (keyV (Qai (Qb4 (lsR Qa2 (Qad (Qan (Qad (Qad (s) 32) 4)) 32))) 32)), ints .u8 (Qbq (Qai (Qad (Qb4 (lsR Qa2 (Qad (Qan (Qad (Qad (s) 32) 4)) 32))) 32) 64))])) rfl (Qbk g2 59 _ r2_10 kj kj (isz (n := 263) kj (by rw [Qaa, Qaa, Qaa, Qaa, Qaa, Qaa, Qaa, Qaa, Qaa, Qaa, Qaa, Qaa, Qaa, Qaa]; simp only [Array.size_append, cat, ((Qac _ _).trans (Qap _ (Qal (Qan (Qad (Qad (s) 32) 4)) 32))), ((Qac _ _).trans (Qap _ (Qal (Qb4 (lsR Qa2 (Qad (Qan (Qad (Qad (s) 32) 4)) 32))) 32))), ((Qac _ _).trans (Qap _ (Qal (s) 32))), ((Qac _ _).trans (QaW (lsR Qa2 (Qad (Qan (Qad (Qad (s) 32) 4)) 32)))), ((Qac _ _).trans (QaV (lsR Qa2 (Qad (Qan (Qad (Qad (s) 32) 4)) 32)))), ((Qac _ _).trans (QaU (lsR Qa2 (Qad (Qan (Qad (Qad (s) 32) 4)) 32)))), ((Qac _ _).trans (QaF _ (Qal (Qad (Qb4 (lsR Qa2 (Qad (Qan (Qad (Qad (s) 32) 4)) 32))) 32) 64)))]; rfl))) ⟨_, rfl, x10, (show RSt B gr (Qd7 s) _ from rs14), lsP, _, _, xs, _, _, ts, _, _, rfl, ⟨(QbK.base_ x5.2.2.2.1 (OwL.rows inPr (OwL.rows inPr (OwL.rows inPr (OwL.rows inPr howP (Qbt 0 q7 (Nat.lt_of_lt_of_le hgr x5.2.2.2.1)) (by decide)) (Qbt 0 q8 (Nat.lt_of_lt_of_le hgr x5.2.2.2.1)) (by decide)) (Qbt 0 q9 (Nat.lt_of_lt_of_le hgr x5.2.2.2.1)) (by decide)) (Qbx _ p10 r2_9) (by decide))), OwnN.base x6.2.2.2.1 (QbI (QbI (QbI hoM (Qbt 0 q8 (Nat.lt_of_lt_of_le hgr x6.2.2.2.1)) (by decide)) (Qbt 0 q9 (Nat.lt_of_lt_of_le hgr x6.2.2.2.1)) (by decide)) (Qbx _ p10 r2_9) (by decide)), Qb8.base_ x6.2.2.2.1 (OwL.rows inSt (OwL.rows inSt (OwL.rows inSt hoT (Qbt 0 q8 (Nat.lt_of_lt_of_le hgr x6.2.2.2.1)) (by decide)) (Qbt 0 q9 (Nat.lt_of_lt_of_le hgr x6.2.2.2.1)) (by decide)) (Qbx _ p10 r2_9) (by decide)), hlnP, hlM, hlT, fun hne => ⟨hisP (Qfh hne), hisT (QdR hne)⟩⟩⟩)
set_option maxHeartbeats 4000000 in
set_option maxRecDepth 100000 in
theorem QeP (bs : List Int) (a_y : Option Addr) (c_y : Nat) (w : World) (hyb : Qaj bs) (hy : RdK .u8 w.heap.size bs (.slice a_y bs.length c_y) w) (hS : Qd7 (Qam bs) = some []) : Calls Try.prog 68 #[.slice a_y bs.length c_y, .func (.func 69) #[] #[]] w (QbE w (fun v W => ∃ (ps : List PrV) (ap : Option Addr) (cp : Nat) (xs : List Int) (a : Option Addr) (c : Nat) (ts : List StV) (at_ : Option Addr) (ct : Nat), v = .tuple #[.agg (cat [ints .u8 (cGrp (Qam bs)), #[.int .i64 (cEp (Qam bs))], #[.int .i64 (cFr (Qam bs))], ints .u8 (cBas (Qam bs)), #[.slice ap ps.length cp], #[.bool (nUs (cS5 (Qam bs)))], #[.int .i64 (nNm (cS5 (Qam bs)))], ints .u8 (nKy (cS5 (Qam bs))), ints .u8 (nSg (cS5 (Qam bs))), ints .u8 (nPa (cS5 (Qam bs))), #[.slice a xs.length c], #[.slice at_ ts.length ct], ints .u8 (cTag (Qam bs)), ints .u8 (cSig (Qam bs))]), .nilIface] ∧ CmRd w.heap.size W (Qam bs) ps (.slice ap ps.length cp) xs (.slice a xs.length c) ts (.slice at_ ts.length ct))) := by
  refine enter 33 [(0, .slice a_y bs.length c_y), (1, .func (.func 69) #[] #[])] Try.func68 rfl rfl kj rfl ?_
  refine wp_seq_k fun K1 hK1 => ?_
  refine Qae ?_
  refine Qav (cat [ints .u8 (List.replicate 32 0), #[.int .i64 0], #[.int .i64 0], ints .u8 (List.replicate 32 0), #[.slice none 0 0], #[.bool false], #[.int .i64 0], ints .u8 (List.replicate 32 0), ints .u8 (List.replicate 32 0), ints .u8 (List.replicate 32 0), #[.slice none 0 0], #[.slice none 0 0], ints .u8 (List.replicate 32 0), ints .u8 (List.replicate 64 0)]) 59 4 rfl kj (Qbe 59 _ rfl (QdE _)) fun g2 W1 l2 e1 r2_1 => ?_
  have x1 : Ext w W1 := Ext.tr (Rely.Ext.refl w) e1
  have b2 : w.heap.size ≤ g2 := Nat.le_trans (Rely.Ext.refl w).size l2
  refine Qab (.nilIface) 5 rfl kj kj ?_
  refine Qaf ?_
  refine hK1 _ _ ?_
  refine wp_seq_k fun K3 hK3 => ?_
  refine Qae ?_
  refine Qab (.slice a_y bs.length c_y) 9 rfl kj kj ?_
  refine Qab (.slice a_y bs.length c_y) 10 rfl kj kj ?_
  refine Qab (.int .i64 ((bs.length : Nat) : Int)) 11 rfl kj kj ?_
  refine Qab (.bool (decide (((bs.length : Nat) : Int) > 65536))) 12 rfl kj kj ?_
  refine Qab (.agg (cat [#[.slice a_y bs.length c_y], #[.bool (decide (((bs.length : Nat) : Int) > 65536))]])) 13 rfl kj kj ?_
  refine Qav (cat [#[.slice a_y bs.length c_y], #[.bool (decide (((bs.length : Nat) : Int) > 65536))]]) 179 14 rfl kj kj fun g4 W2 l4 e2 r4_2 => ?_
  have x2 : Ext w W2 := Ext.tr x1 e2
  have b4 : w.heap.size ≤ g4 := Nat.le_trans x1.size l4
  refine Qab (.pointer (some ⟨g4, 0, none⟩)) 6 rfl kj kj ?_
  refine Qaf ?_
  refine hK3 _ _ ?_
  refine wp_seq_k fun K5 hK5 => ?_
  refine Qae ?_
  refine Qab (.func (.func 69) #[] #[]) 15 rfl kj kj ?_
  refine Qab (.pointer (some ⟨g4, 0, none⟩)) 16 rfl kj kj ?_
  refine Qak (fun v W' => ExtB g4 W2 W' ∧ RSt w.heap.size g4 (Qd7 (Qam bs)) W' ∧ ∃ (ps : List PrV) (ap : Option Addr) (cp : Nat) (xs : List Int) (a : Option Addr) (c : Nat) (ts : List StV) (at_ : Option Addr) (ct : Nat), v = .agg (cat [ints .u8 (cGrp (Qam bs)), #[.int .i64 (cEp (Qam bs))], #[.int .i64 (cFr (Qam bs))], ints .u8 (cBas (Qam bs)), #[.slice ap ps.length cp], #[.bool (nUs (cS5 (Qam bs)))], #[.int .i64 (nNm (cS5 (Qam bs)))], ints .u8 (nKy (cS5 (Qam bs))), ints .u8 (nSg (cS5 (Qam bs))), ints .u8 (nPa (cS5 (Qam bs))), #[.slice a xs.length c], #[.slice at_ ts.length ct], ints .u8 (cTag (Qam bs)), ints .u8 (cSig (Qam bs))]) ∧ CmRd W2.heap.size W' (Qam bs) ps (.slice ap ps.length cp) xs (.slice a xs.length c) ts (.slice at_ ts.length ct)) 69 #[.pointer (some ⟨g4, 0, none⟩)] 17 rfl kj kj (QiI w.heap.size g4 (Qam bs) _ b4 ⟨_, bs, _, r4_2, RdK.ext hy x2, hyb, rfl⟩) fun vv6 W3 hh6 => ?_
  obtain ⟨q3, ⟨u6, xs2, bad, rb3, hu6, -, hS2⟩, ps, ap, cp, xs, a, c, ts, at_, ct, rfl, hcr⟩ := hh6
  rw [hS] at hS2
  obtain ⟨au_, cu_, rfl, -⟩ := id hu6
  obtain ⟨rfl, rfl⟩ : bad = false ∧ xs2 = [] := by cases bad with | true => cases hS2 | false => exact ⟨rfl, (Option.some.inj hS2).symm⟩
  have rc3 : W3.heap[g4]? = some (.cells (cat [#[.slice au_ 0 cu_], #[.bool false]]) 179) := rb3
  have x3 : Ext w W3 := ExtB.toExt x2 q3 b4
  refine Qav (cat [ints .u8 (List.replicate 32 0), #[.int .i64 0], #[.int .i64 0], ints .u8 (List.replicate 32 0), #[.slice none 0 0], #[.bool false], #[.int .i64 0], ints .u8 (List.replicate 32 0), ints .u8 (List.replicate 32 0), ints .u8 (List.replicate 32 0), #[.slice none 0 0], #[.slice none 0 0], ints .u8 (List.replicate 32 0), ints .u8 (List.replicate 64 0)]) 59 7 rfl kj (Qbe 59 _ rfl (QdE _)) fun g7 W4 l7 e4 r7_4 => ?_
  have x4 : Ext w W4 := Ext.tr x3 e4
  have b7 : w.heap.size ≤ g7 := Nat.le_trans x3.size l7
  refine Qa3 g7 _ (cat [ints .u8 (cGrp (Qam bs)), #[.int .i64 (cEp (Qam bs))], #[.int .i64 (cFr (Qam bs))], ints .u8 (cBas (Qam bs)), #[.slice ap ps.length cp], #[.bool (nUs (cS5 (Qam bs)))], #[.int .i64 (nNm (cS5 (Qam bs)))], ints .u8 (nKy (cS5 (Qam bs))), ints .u8 (nSg (cS5 (Qam bs))), ints .u8 (nPa (cS5 (Qam bs))), #[.slice a xs.length c], #[.slice at_ ts.length ct], ints .u8 (cTag (Qam bs)), ints .u8 (cSig (Qam bs))]) 59 r7_4 rfl kj (Qa0 59 _ _ g7 59 _ _ r7_4 rfl kj kj (isz (n := 263) kj (by rw [Qaa, Qaa, Qaa, Qaa, Qaa, Qaa, Qaa, Qaa, Qaa, Qaa, Qaa, Qaa, Qaa, Qaa]; simp only [Array.size_append, cat, ((Qac _ _).trans (QbZ (Qam bs))), ((Qac _ _).trans (QbY (Qam bs))), ((Qac _ _).trans (QbX (Qam bs))), ((Qac _ _).trans (QbW (Qam bs))), ((Qac _ _).trans (QaW (cS5 (Qam bs)))), ((Qac _ _).trans (QaV (cS5 (Qam bs)))), ((Qac _ _).trans (QaU (cS5 (Qam bs))))]; rfl)) (eqsz (n := 263) (by rw [Qaa, Qaa, Qaa, Qaa, Qaa, Qaa, Qaa, Qaa, Qaa, Qaa, Qaa, Qaa, Qaa, Qaa]; simp only [Array.size_append, cat, ((Qac _ _).trans (List.length_replicate (n := 32))), ((Qac _ _).trans (List.length_replicate (n := 64)))]; rfl) (by rw [Qaa, Qaa, Qaa, Qaa, Qaa, Qaa, Qaa, Qaa, Qaa, Qaa, Qaa, Qaa, Qaa, Qaa]; simp only [Array.size_append, cat, ((Qac _ _).trans (QbZ (Qam bs))), ((Qac _ _).trans (QbY (Qam bs))), ((Qac _ _).trans (QbX (Qam bs))), ((Qac _ _).trans (QbW (Qam bs))), ((Qac _ _).trans (QaW (cS5 (Qam bs)))), ((Qac _ _).trans (QaV (cS5 (Qam bs)))), ((Qac _ _).trans (QaU (cS5 (Qam bs))))]; rfl)) (QaX _ (by intro a ha; simp only [List.mem_cons, List.not_mem_nil, or_false] at ha; rcases ha with rfl | rfl | rfl | rfl | rfl | rfl | rfl | rfl | rfl | rfl | rfl | rfl | rfl | rfl; exact (Qas _ _); exact (Qaq _ rfl); exact (Qaq _ rfl); exact (Qas _ _); exact (Qaq _ rfl); exact (Qaq _ rfl); exact (Qaq _ rfl); exact (Qas _ _); exact (Qas _ _); exact (Qas _ _); exact (Qaq _ rfl); exact (Qaq _ rfl); exact (Qas _ _); exact (Qas _ _)))) fun W5 p5 r7_5 => ?_
  have x5 : Ext w W5 := Puts.ext p5 x4 b7
  refine Qaf ?_
  refine hK5 _ _ ?_
  refine wp_seq_k fun K8 hK8 => ?_
  refine wp_seq_k fun K9 hK9 => ?_
  refine Qae ?_
  refine Qab (.pointer (some ⟨g4, 0, none⟩)) 18 rfl kj kj ?_
  refine Qab (.pointer (some ⟨g4, 0, none⟩)) 19 rfl kj kj ?_
  refine Qab (.pointer (some ⟨g4, 1, none⟩)) 20 rfl kj kj ?_
  have r4_4 := (Qar rc3 e4)
  have r4_5 := (Puts.row p5 r4_4 (QaI rc3 l7))
  refine Qab (.bool false) 21 rfl kj (Qag 4 _ g4 1 179 _ (.bool false) _ r4_5 rfl kj kj kj) ?_
  refine Qab (.bool false) 22 rfl kj kj ?_
  refine Qab (.pointer (some ⟨g4, 0, none⟩)) 23 rfl kj kj ?_
  refine Qab (.pointer (some ⟨g4, 0, none⟩)) 24 rfl kj kj ?_
  refine Qab (.pointer (some ⟨g4, 0, none⟩)) 25 rfl kj kj ?_
  refine Qab (.slice au_ 0 cu_) 26 rfl kj (Qag 26 _ g4 0 179 _ (.slice au_ 0 cu_) _ r4_5 rfl kj kj kj) ?_
  refine Qab (.int .i64 0) 27 rfl kj kj ?_
  refine Qab (.bool false) 28 rfl kj kj ?_
  refine Qab (.bool false) 29 rfl kj kj ?_
  refine Qaf ?_
  refine hK9 _ _ ?_
  refine cond_false kj ?_
  refine wp_skip ?_
  refine hK8 _ _ ?_
  refine wp_seq_k fun K10 hK10 => ?_
  refine Qae ?_
  refine Qab (.agg (cat [ints .u8 (cGrp (Qam bs)), #[.int .i64 (cEp (Qam bs))], #[.int .i64 (cFr (Qam bs))], ints .u8 (cBas (Qam bs)), #[.slice ap ps.length cp], #[.bool (nUs (cS5 (Qam bs)))], #[.int .i64 (nNm (cS5 (Qam bs)))], ints .u8 (nKy (cS5 (Qam bs))), ints .u8 (nSg (cS5 (Qam bs))), ints .u8 (nPa (cS5 (Qam bs))), #[.slice a xs.length c], #[.slice at_ ts.length ct], ints .u8 (cTag (Qam bs)), ints .u8 (cSig (Qam bs))])) 32 rfl kj (QaA 59 _ g7 59 _ _ r7_5 rfl kj kj (isz (n := 263) kj (by rw [Qaa, Qaa, Qaa, Qaa, Qaa, Qaa, Qaa, Qaa, Qaa, Qaa, Qaa, Qaa, Qaa, Qaa]; simp only [Array.size_append, cat, ((Qac _ _).trans (QbZ (Qam bs))), ((Qac _ _).trans (QbY (Qam bs))), ((Qac _ _).trans (QbX (Qam bs))), ((Qac _ _).trans (QbW (Qam bs))), ((Qac _ _).trans (QaW (cS5 (Qam bs)))), ((Qac _ _).trans (QaV (cS5 (Qam bs)))), ((Qac _ _).trans (QaU (cS5 (Qam bs))))]; rfl))) ?_
  have r2_2 := (Qar r2_1 e2)
  have r2_3 := (ExtB.row q3 r2_2 (QaI r2_1 l4))
  have r2_4 := (Qar r2_3 e4)
  have r2_5 := (Puts.row p5 r2_4 (QaI r2_3 l7))
  refine Qa3 g2 _ (cat [ints .u8 (cGrp (Qam bs)), #[.int .i64 (cEp (Qam bs))], #[.int .i64 (cFr (Qam bs))], ints .u8 (cBas (Qam bs)), #[.slice ap ps.length cp], #[.bool (nUs (cS5 (Qam bs)))], #[.int .i64 (nNm (cS5 (Qam bs)))], ints .u8 (nKy (cS5 (Qam bs))), ints .u8 (nSg (cS5 (Qam bs))), ints .u8 (nPa (cS5 (Qam bs))), #[.slice a xs.length c], #[.slice at_ ts.length ct], ints .u8 (cTag (Qam bs)), ints .u8 (cSig (Qam bs))]) 59 r2_5 rfl kj (Qa0 59 _ _ g2 59 _ _ r2_5 rfl kj kj (isz (n := 263) kj (by rw [Qaa, Qaa, Qaa, Qaa, Qaa, Qaa, Qaa, Qaa, Qaa, Qaa, Qaa, Qaa, Qaa, Qaa]; simp only [Array.size_append, cat, ((Qac _ _).trans (QbZ (Qam bs))), ((Qac _ _).trans (QbY (Qam bs))), ((Qac _ _).trans (QbX (Qam bs))), ((Qac _ _).trans (QbW (Qam bs))), ((Qac _ _).trans (QaW (cS5 (Qam bs)))), ((Qac _ _).trans (QaV (cS5 (Qam bs)))), ((Qac _ _).trans (QaU (cS5 (Qam bs))))]; rfl)) (eqsz (n := 263) (by rw [Qaa, Qaa, Qaa, Qaa, Qaa, Qaa, Qaa, Qaa, Qaa, Qaa, Qaa, Qaa, Qaa, Qaa]; simp only [Array.size_append, cat, ((Qac _ _).trans (List.length_replicate (n := 32))), ((Qac _ _).trans (List.length_replicate (n := 64)))]; rfl) (by rw [Qaa, Qaa, Qaa, Qaa, Qaa, Qaa, Qaa, Qaa, Qaa, Qaa, Qaa, Qaa, Qaa, Qaa]; simp only [Array.size_append, cat, ((Qac _ _).trans (QbZ (Qam bs))), ((Qac _ _).trans (QbY (Qam bs))), ((Qac _ _).trans (QbX (Qam bs))), ((Qac _ _).trans (QbW (Qam bs))), ((Qac _ _).trans (QaW (cS5 (Qam bs)))), ((Qac _ _).trans (QaV (cS5 (Qam bs)))), ((Qac _ _).trans (QaU (cS5 (Qam bs))))]; rfl)) (QaX _ (by intro a ha; simp only [List.mem_cons, List.not_mem_nil, or_false] at ha; rcases ha with rfl | rfl | rfl | rfl | rfl | rfl | rfl | rfl | rfl | rfl | rfl | rfl | rfl | rfl; exact (Qas _ _); exact (Qaq _ rfl); exact (Qaq _ rfl); exact (Qas _ _); exact (Qaq _ rfl); exact (Qaq _ rfl); exact (Qaq _ rfl); exact (Qas _ _); exact (Qas _ _); exact (Qas _ _); exact (Qaq _ rfl); exact (Qaq _ rfl); exact (Qas _ _); exact (Qas _ _)))) fun W6 p6 r2_6 => ?_
  have x6 : Ext w W6 := Puts.ext p6 x5 b2
  refine Qab (.nilIface) 5 rfl kj kj ?_
  refine Qaf ?_
  refine hK10 _ _ ?_
  refine wp_ret ?_
  repeat (first | with_reducible refine goR1 ?_ | with_reducible refine goR2 ?_)
  exact (show bodyPost _ _ _ .ret _ _ from ret2 (.agg (cat [ints .u8 (cGrp (Qam bs)), #[.int .i64 (cEp (Qam bs))], #[.int .i64 (cFr (Qam bs))], ints .u8 (cBas (Qam bs)), #[.slice ap ps.length cp], #[.bool (nUs (cS5 (Qam bs)))], #[.int .i64 (nNm (cS5 (Qam bs)))], ints .u8 (nKy (cS5 (Qam bs))), ints .u8 (nSg (cS5 (Qam bs))), ints .u8 (nPa (cS5 (Qam bs))), #[.slice a xs.length c], #[.slice at_ ts.length ct], ints .u8 (cTag (Qam bs)), ints .u8 (cSig (Qam bs))])) (.nilIface) rfl (Qbk g2 59 _ r2_6 kj kj (isz (n := 263) kj (by rw [Qaa, Qaa, Qaa, Qaa, Qaa, Qaa, Qaa, Qaa, Qaa, Qaa, Qaa, Qaa, Qaa, Qaa]; simp only [Array.size_append, cat, ((Qac _ _).trans (QbZ (Qam bs))), ((Qac _ _).trans (QbY (Qam bs))), ((Qac _ _).trans (QbX (Qam bs))), ((Qac _ _).trans (QbW (Qam bs))), ((Qac _ _).trans (QaW (cS5 (Qam bs)))), ((Qac _ _).trans (QaV (cS5 (Qam bs)))), ((Qac _ _).trans (QaU (cS5 (Qam bs))))]; rfl))) (Qaw kj) ⟨_, rfl, x6, ps, _, _, xs, _, _, ts, _, _, rfl, CmRd.mono (CmRd.rows (CmRd.rows (CmRd.rows hcr (QbF _ 0 e4) (by decide) (by decide)) (Qbx _ p5 r7_4) (by decide) (by decide)) (Qbx _ p6 r2_5) (by decide) (by decide)) x2.size⟩)
set_option maxHeartbeats 4000000 in
set_option maxRecDepth 100000 in
theorem QeT (bs : List Int) (a_y : Option Addr) (c_y : Nat) (w : World) (hyb : Qaj bs) (hy : RdK .u8 w.heap.size bs (.slice a_y bs.length c_y) w) (hS : Qd7 (Qam bs) = some []) : Calls Try.prog 27 #[.slice a_y bs.length c_y] w (QbE w (fun v W => ∃ (ps : List PrV) (ap : Option Addr) (cp : Nat) (xs : List Int) (a : Option Addr) (c : Nat) (ts : List StV) (at_ : Option Addr) (ct : Nat), v = .tuple #[.agg (cat [ints .u8 (cGrp (Qam bs)), #[.int .i64 (cEp (Qam bs))], #[.int .i64 (cFr (Qam bs))], ints .u8 (cBas (Qam bs)), #[.slice ap ps.length cp], #[.bool (nUs (cS5 (Qam bs)))], #[.int .i64 (nNm (cS5 (Qam bs)))], ints .u8 (nKy (cS5 (Qam bs))), ints .u8 (nSg (cS5 (Qam bs))), ints .u8 (nPa (cS5 (Qam bs))), #[.slice a xs.length c], #[.slice at_ ts.length ct], ints .u8 (cTag (Qam bs)), ints .u8 (cSig (Qam bs))]), .nilIface] ∧ CmRd w.heap.size W (Qam bs) ps (.slice ap ps.length cp) xs (.slice a xs.length c) ts (.slice at_ ts.length ct))) := by
  refine enter 8 [(0, .slice a_y bs.length c_y)] Try.func27 rfl rfl kj rfl ?_
  refine wp_seq_k fun K1 hK1 => ?_
  refine Qae ?_
  refine Qav (cat [ints .u8 (List.replicate 32 0), #[.int .i64 0], #[.int .i64 0], ints .u8 (List.replicate 32 0), #[.slice none 0 0], #[.bool false], #[.int .i64 0], ints .u8 (List.replicate 32 0), ints .u8 (List.replicate 32 0), ints .u8 (List.replicate 32 0), #[.slice none 0 0], #[.slice none 0 0], ints .u8 (List.replicate 32 0), ints .u8 (List.replicate 64 0)]) 59 2 rfl kj (Qbe 59 _ rfl (QdE _)) fun g2 W1 l2 e1 r2_1 => ?_
  have x1 : Ext w W1 := Ext.tr (Rely.Ext.refl w) e1
  have b2 : w.heap.size ≤ g2 := Nat.le_trans (Rely.Ext.refl w).size l2
  refine Qab (.nilIface) 3 rfl kj kj ?_
  refine Qaf ?_
  refine hK1 _ _ ?_
  refine wp_seq_k fun K3 hK3 => ?_
  refine Qae ?_
  refine Qab (.slice a_y bs.length c_y) 4 rfl kj kj ?_
  refine Qak (fun v W' => (fun v W => ∃ (ps : List PrV) (ap : Option Addr) (cp : Nat) (xs : List Int) (a : Option Addr) (c : Nat) (ts : List StV) (at_ : Option Addr) (ct : Nat), v = .tuple #[.agg (cat [ints .u8 (cGrp (Qam bs)), #[.int .i64 (cEp (Qam bs))], #[.int .i64 (cFr (Qam bs))], ints .u8 (cBas (Qam bs)), #[.slice ap ps.length cp], #[.bool (nUs (cS5 (Qam bs)))], #[.int .i64 (nNm (cS5 (Qam bs)))], ints .u8 (nKy (cS5 (Qam bs))), ints .u8 (nSg (cS5 (Qam bs))), ints .u8 (nPa (cS5 (Qam bs))), #[.slice a xs.length c], #[.slice at_ ts.length ct], ints .u8 (cTag (Qam bs)), ints .u8 (cSig (Qam bs))]), .nilIface] ∧ CmRd W1.heap.size W (Qam bs) ps (.slice ap ps.length cp) xs (.slice a xs.length c) ts (.slice at_ ts.length ct)) v W' ∧ Ext W1 W') 68 #[.slice a_y bs.length c_y, .func (.func 69) #[] #[]] 5 rfl kj kj ((QeP bs _ _ _ hyb (RdK.here (RdK.ext hy x1)) hS).mono (by rintro e w' ⟨v, rfl, e1, hv⟩; exact ⟨v, rfl, hv, e1⟩)) fun vv4 W2 hh4 => ?_
  obtain ⟨hv4, e2⟩ := hh4
  have x2 : Ext w W2 := Ext.tr x1 e2
  obtain ⟨ps, ap, cp, xs, a, c, ts, at_, ct, rfl, hcr⟩ := hv4
  refine Qab (.agg (cat [ints .u8 (cGrp (Qam bs)), #[.int .i64 (cEp (Qam bs))], #[.int .i64 (cFr (Qam bs))], ints .u8 (cBas (Qam bs)), #[.slice ap ps.length cp], #[.bool (nUs (cS5 (Qam bs)))], #[.int .i64 (nNm (cS5 (Qam bs)))], ints .u8 (nKy (cS5 (Qam bs))), ints .u8 (nSg (cS5 (Qam bs))), ints .u8 (nPa (cS5 (Qam bs))), #[.slice a xs.length c], #[.slice at_ ts.length ct], ints .u8 (cTag (Qam bs)), ints .u8 (cSig (Qam bs))])) 6 rfl kj kj ?_
  refine Qab (.nilIface) 7 rfl kj kj ?_
  have r2_2 := (Qar r2_1 e2)
  refine Qa3 g2 _ (cat [ints .u8 (cGrp (Qam bs)), #[.int .i64 (cEp (Qam bs))], #[.int .i64 (cFr (Qam bs))], ints .u8 (cBas (Qam bs)), #[.slice ap ps.length cp], #[.bool (nUs (cS5 (Qam bs)))], #[.int .i64 (nNm (cS5 (Qam bs)))], ints .u8 (nKy (cS5 (Qam bs))), ints .u8 (nSg (cS5 (Qam bs))), ints .u8 (nPa (cS5 (Qam bs))), #[.slice a xs.length c], #[.slice at_ ts.length ct], ints .u8 (cTag (Qam bs)), ints .u8 (cSig (Qam bs))]) 59 r2_2 rfl kj (Qa0 59 _ _ g2 59 _ _ r2_2 rfl kj kj (isz (n := 263) kj (by rw [Qaa, Qaa, Qaa, Qaa, Qaa, Qaa, Qaa, Qaa, Qaa, Qaa, Qaa, Qaa, Qaa, Qaa]; simp only [Array.size_append, cat, ((Qac _ _).trans (QbZ (Qam bs))), ((Qac _ _).trans (QbY (Qam bs))), ((Qac _ _).trans (QbX (Qam bs))), ((Qac _ _).trans (QbW (Qam bs))), ((Qac _ _).trans (QaW (cS5 (Qam bs)))), ((Qac _ _).trans (QaV (cS5 (Qam bs)))), ((Qac _ _).trans (QaU (cS5 (Qam bs))))]; rfl)) (eqsz (n := 263) (by rw [Qaa, Qaa, Qaa, Qaa, Qaa, Qaa, Qaa, Qaa, Qaa, Qaa, Qaa, Qaa, Qaa, Qaa]; simp only [Array.size_append, cat, ((Qac _ _).trans (List.length_replicate (n := 32))), ((Qac _ _).trans (List.length_replicate (n := 64)))]; rfl) (by rw [Qaa, Qaa, Qaa, Qaa, Qaa, Qaa, Qaa, Qaa, Qaa, Qaa, Qaa, Qaa, Qaa, Qaa]; simp only [Array.size_append, cat, ((Qac _ _).trans (QbZ (Qam bs))), ((Qac _ _).trans (QbY (Qam bs))), ((Qac _ _).trans (QbX (Qam bs))), ((Qac _ _).trans (QbW (Qam bs))), ((Qac _ _).trans (QaW (cS5 (Qam bs)))), ((Qac _ _).trans (QaV (cS5 (Qam bs)))), ((Qac _ _).trans (QaU (cS5 (Qam bs))))]; rfl)) (QaX _ (by intro a ha; simp only [List.mem_cons, List.not_mem_nil, or_false] at ha; rcases ha with rfl | rfl | rfl | rfl | rfl | rfl | rfl | rfl | rfl | rfl | rfl | rfl | rfl | rfl; exact (Qas _ _); exact (Qaq _ rfl); exact (Qaq _ rfl); exact (Qas _ _); exact (Qaq _ rfl); exact (Qaq _ rfl); exact (Qaq _ rfl); exact (Qas _ _); exact (Qas _ _); exact (Qas _ _); exact (Qaq _ rfl); exact (Qaq _ rfl); exact (Qas _ _); exact (Qas _ _)))) fun W3 p3 r2_3 => ?_
  have x3 : Ext w W3 := Puts.ext p3 x2 b2
  refine Qab (.nilIface) 3 rfl kj kj ?_
  refine Qaf ?_
  refine hK3 _ _ ?_
  refine wp_ret ?_
  repeat (first | with_reducible refine goR1 ?_ | with_reducible refine goR2 ?_)
  exact (show bodyPost _ _ _ .ret _ _ from ret2 (.agg (cat [ints .u8 (cGrp (Qam bs)), #[.int .i64 (cEp (Qam bs))], #[.int .i64 (cFr (Qam bs))], ints .u8 (cBas (Qam bs)), #[.slice ap ps.length cp], #[.bool (nUs (cS5 (Qam bs)))], #[.int .i64 (nNm (cS5 (Qam bs)))], ints .u8 (nKy (cS5 (Qam bs))), ints .u8 (nSg (cS5 (Qam bs))), ints .u8 (nPa (cS5 (Qam bs))), #[.slice a xs.length c], #[.slice at_ ts.length ct], ints .u8 (cTag (Qam bs)), ints .u8 (cSig (Qam bs))])) (.nilIface) rfl (Qbk g2 59 _ r2_3 kj kj (isz (n := 263) kj (by rw [Qaa, Qaa, Qaa, Qaa, Qaa, Qaa, Qaa, Qaa, Qaa, Qaa, Qaa, Qaa, Qaa, Qaa]; simp only [Array.size_append, cat, ((Qac _ _).trans (QbZ (Qam bs))), ((Qac _ _).trans (QbY (Qam bs))), ((Qac _ _).trans (QbX (Qam bs))), ((Qac _ _).trans (QbW (Qam bs))), ((Qac _ _).trans (QaW (cS5 (Qam bs)))), ((Qac _ _).trans (QaV (cS5 (Qam bs)))), ((Qac _ _).trans (QaU (cS5 (Qam bs))))]; rfl))) (Qaw kj) ⟨_, rfl, x3, ps, _, _, xs, _, _, ts, _, _, rfl, CmRd.mono (CmRd.rows hcr (Qbx _ p3 r2_2) (by decide) (by decide)) x1.size⟩)
end Go.Proofs.Ytfelfmchachljaa.Wr
end
section
namespace Go.Proofs.Ytfelfmchachljaa.Wr
open Go Go.RowKit
open Rely Auto Own Sha
set_option linter.unusedVariables false
set_option linter.unusedSimpArgs false
end Go.Proofs.Ytfelfmchachljaa.Wr
end
section
namespace Go.Proofs.Ytfelfmchachljaa.Wr
open Go Go.RowKit
open Rely Auto Own Sha
set_option linter.unusedVariables false
set_option linter.unusedSimpArgs false
open Wk
end Go.Proofs.Ytfelfmchachljaa.Wr
end
section
namespace Go.Proofs.Ytfelfmchachljaa.Wr
open Go Go.RowKit
open Rely Auto Own Sha
set_option linter.unusedVariables false
set_option linter.unusedSimpArgs false
theorem Qcw (ys : List Int) (h : ys.length = 64) : Qbq ys = ys := by
  unfold Qbq
  rw [h, show (List.replicate 64 (0 : Int)).drop 64 = [] from rfl, List.append_nil]
end Go.Proofs.Ytfelfmchachljaa.Wr
end
section
namespace Go.Proofs.Ytfelfmchachljaa.Wr
open Go Go.RowKit
open Rely Auto Own Sha
set_option linter.unusedVariables false
set_option linter.unusedSimpArgs false
theorem Qgo (s : Option (List Int)) (grp : List Int) (ep fr : Int) (bas : List Int) (kd : Int) (hk : 1 ≤ kd ∧ kd ≤ 3) : QeW s grp ep fr bas kd = bif hgB ep fr then rawS s (Qa6 grp ep fr ++ bas ++ [byV kd 0]) else none := by
  unfold QeW hgB
  rw [decide_eq_true hk, QbP _ kd 0 255 (by decide) (by decide), QcB, QbP _ ep 3 4294967295 (by decide) (by decide), show inB kd 255 = true by unfold inB; simp; omega]
  cases inB ep 4294967295 with
  | false => cases inB fr 31 <;> rfl
  | true =>
    cases inB fr 31 with
    | false => rfl
    | true =>
      show rawS (rawS (rawS (rawS (rawS s grp) (beV ep 4)) (beV fr 1)) bas) (beV kd 1) = rawS s _
      rw [Qba, Qba, Qba, Qba]
      congr 1; unfold Qa6; simp only [List.append_assoc]; rfl
theorem Qfa (us : Bool) (nm : Int) (key sg pa ms : List Int) (hkl : key.length = 32) (hgl : sg.length = 32) (hpl : pa.length = 32) : Qcs none us nm key sg pa ms = none := by
  rw [QcQ none us nm key sg pa ms hkl hgl hpl]
  unfold putN
  split <;> rfl
theorem Qg0 (n : Int) : QaQ none n = none := by rw [QcB]; cases inB n 31 <;> rfl
theorem Qgn (s : Option (List Int)) (grp : List Int) (ep fr : Int) (bas : List Int) (kd : Int) (us : Bool) (nm : Int) (key sg pa ms start : List Int) (at_ : Int) (sig : List Int) (hrl : grp.length = 32) (hal : bas.length = 32) (hkl : key.length = 32) (hgl : sg.length = 32) (hpl : pa.length = 32) (htl : start.length = 32) (hil : sig.length = 64) : QeV s grp ep fr bas kd us nm key sg pa ms start at_ sig = if QbA ep fr kd us nm key sg pa ms start at_ = true then rawS s (QbV grp ep fr bas kd us nm key sg pa ms start at_ sig) else none := by
  unfold QeV
  by_cases hk : 1 ≤ kd ∧ kd ≤ 3
  · rw [Qgo s grp ep fr bas kd hk]
    cases h0 : hgB ep fr with
    | false =>
      have e : QbA ep fr kd us nm key sg pa ms start at_ = false := by unfold QbA; rw [h0, Bool.false_and]
      rw [e, if_neg (show ¬ (false = true) by decide), _root_.cond_false, Qfa us nm key sg pa ms hkl hgl hpl]
      simp only [Qci, Qg0, show rawS none start = none from rfl, ite_self]
      rfl
    | true =>
    rw [_root_.cond_true]
    rcases (show kd = 1 ∨ kd = 2 ∨ kd = 3 by omega) with rfl | rfl | rfl
    · rw [if_pos rfl, QcQ _ us nm key sg pa ms hkl hgl hpl]
      have eo : QbA ep fr 1 us nm key sg pa ms start at_ = (QbN us nm key sg pa ms && (at_ == 0)) := by unfold QbA; rw [h0, Bool.true_and, if_pos rfl]
      unfold putN
      cases hg : QbN us nm key sg pa ms with
      | false => rw [eo, hg]; cases at_ == 0 <;> rfl
      | true =>
        cases ha : at_ == 0 with
        | false => rw [eo, hg, ha]; rfl
        | true =>
          have ho : QbA ep fr 1 us nm key sg pa ms start at_ = true := by rw [eo, hg, ha]; rfl
          rw [if_pos rfl, if_pos ho]
          show rawS (rawS (rawS (rawS s (Qa6 grp ep fr ++ bas ++ [byV 1 0])) (Qbo us nm key sg pa ms)) start) sig = _
          rw [Qba, Qba, Qba]
          congr 1; unfold QbV; simp
    · rw [if_neg (by decide), if_pos rfl, QcQ _ us nm key sg pa ms hkl hgl hpl]
      have eo : QbA ep fr 2 us nm key sg pa ms start at_ = (QbN us nm key sg pa ms && (decide (start = List.replicate 32 0) && (at_ == 0))) := by unfold QbA; rw [h0, Bool.true_and, if_neg (by decide), if_pos rfl]
      unfold putN
      cases hg : QbN us nm key sg pa ms with
      | false => rw [eo, hg]; cases decide (start = List.replicate 32 0) <;> cases at_ == 0 <;> rfl
      | true =>
        cases hd : decide (start = List.replicate 32 0) with
        | false => rw [eo, hg, hd]; cases at_ == 0 <;> rfl
        | true =>
          cases ha : at_ == 0 with
          | false => rw [eo, hg, hd, ha]; rfl
          | true =>
            have ho : QbA ep fr 2 us nm key sg pa ms start at_ = true := by rw [eo, hg, hd, ha]; rfl
            rw [if_pos rfl, if_pos ho]
            show rawS (rawS (rawS s (Qa6 grp ep fr ++ bas ++ [byV 2 0])) (Qbo us nm key sg pa ms)) sig = _
            rw [Qba, Qba]
            congr 1; unfold QbV; simp
    · rw [if_neg (by decide), if_neg (by decide), if_pos rfl]
      have eo : QbA ep fr 3 us nm key sg pa ms start at_ = (QaE us nm key sg pa ms && (decide (start = List.replicate 32 0) && inB at_ 31)) := by unfold QbA; rw [h0, Bool.true_and, if_neg (by decide), if_neg (by decide), if_pos rfl]
      rw [QcB]
      cases hg : QaE us nm key sg pa ms with
      | false => rw [eo, hg]; cases decide (start = List.replicate 32 0) <;> cases inB at_ 31 <;> rfl
      | true =>
        cases hd : decide (start = List.replicate 32 0) with
        | false => rw [eo, hg, hd]; cases inB at_ 31 <;> rfl
        | true =>
          cases ha : inB at_ 31 with
          | false => rw [eo, hg, hd, ha]; rfl
          | true =>
            have ho : QbA ep fr 3 us nm key sg pa ms start at_ = true := by rw [eo, hg, hd, ha]; rfl
            rw [if_pos ho]
            show rawS (rawS (rawS s (Qa6 grp ep fr ++ bas ++ [byV 3 0])) (beV at_ 1)) sig = _
            rw [Qba, Qba]
            congr 1; unfold QbV; simp only [if_true, if_neg (show ¬ (3 : Int) = 1 by decide), List.append_nil, List.append_assoc]; rfl
  · rw [if_neg (by omega), if_neg (by omega), if_neg (by omega), if_neg (fun h => hk (by have := (Qc9 h).2.1; omega))]
    rfl
theorem Qf8 (grp : List Int) (ep fr : Int) (bas : List Int) (kd : Int) (us : Bool) (nm : Int) (key sg pa ms start : List Int) (at_ : Int) (sig : List Int) (r : List Int) (s : Option (List Int)) (hrl : grp.length = 32) (hal : bas.length = 32) (hkl : key.length = 32) (hgl : sg.length = 32) (hpl : pa.length = 32) (htl : start.length = 32) (hil : sig.length = 64) (hok : QbA ep fr kd us nm key sg pa ms start at_ = true) (hs : s = some (QbV grp ep fr bas kd us nm key sg pa ms start at_ sig ++ r)) : Qa2 s = some r ∧ qGrp s = grp ∧ qEp s = ep ∧ qFr s = fr ∧ qBa s = bas ∧ ((qKd s : Nat) : Int) = kd ∧ qUs s = us ∧ qNm s = nm ∧ qKy s = key ∧ qSg s = sg ∧ qPa s = pa ∧ qL s = ms ∧ qSt s = start ∧ qAt s = at_ ∧ qSig s = sig := by
 obtain ⟨h0, hk, hg⟩ := Qc9 hok
 unfold hgB at h0
 simp only [Bool.and_eq_true] at h0
 have b1 := QbR h0.1
 have b2 := QbR h0.2
 obtain ⟨rest, hrest⟩ : ∃ q9, q9 = (if kd = 3 then [] else Qbo us nm key sg pa ms) ++ ((if kd = 1 then start else []) ++ ((if kd = 3 then [byV at_ 0] else []) ++ (sig ++ r))) := ⟨_, rfl⟩
 have e : QbV grp ep fr bas kd us nm key sg pa ms start at_ sig ++ r = grp ++ (beV ep 4 ++ (beV fr 1 ++ (bas ++ (beV kd 1 ++ rest)))) := by rw [hrest]; unfold QbV Qa6; simp only [List.append_assoc]; rfl
 rw [e] at hs
 have s1 : qS1 s = some (beV ep 4 ++ (beV fr 1 ++ (bas ++ (beV kd 1 ++ rest)))) := by unfold qS1; rw [hs]; exact QaR _ _ 32 hrl
 have s2 : qS2 s = some (beV fr 1 ++ (bas ++ (beV kd 1 ++ rest))) := by unfold qS2; rw [s1]; exact QaR _ _ 4 (QaZ _ 4)
 have q : ((bigN (beV fr 1) : Nat) : Int) = fr := Qdn fr 1 b2.1 (by omega)
 have s3 : qS3 s = some (bas ++ (beV kd 1 ++ rest)) := by unfold qS3 Qan; rw [s2, QaL _ _ 1 (QaZ _ 1), q, QaR _ _ 1 (QaZ _ 1), decide_eq_true (by omega)]; rfl
 have s4 : qS4 s = some (beV kd 1 ++ rest) := by unfold qS4; rw [s3]; exact QaR _ _ 32 hal
 have s5 : qS5 s = some rest := by unfold qS5; rw [s4]; exact QaR _ _ 1 (QaZ _ 1)
 have k5 : ((qKd s : Nat) : Int) = kd := by unfold qKd; rw [s4, QaL _ _ 1 (QaZ _ 1), Qdn kd 1 (by omega) (by omega)]
 have f1 : qGrp s = grp := by unfold qGrp; rw [hs, QaL _ _ 32 hrl, QbD _ hrl]
 have f2 : qEp s = ep := by unfold qEp; rw [s1, QaL _ _ 4 (QaZ _ 4), Qdn ep 4 b1.1 (by omega)]
 have f3 : qFr s = fr := by unfold qFr; rw [s2, QaL _ _ 1 (QaZ _ 1), q]
 have f4 : qBa s = bas := by unfold qBa; rw [s3, QaL _ _ 32 hal, QbD _ hal]
 have w0 : Qai (some (sig ++ r)) 64 = sig := QaL sig r 64 hil
 have w1 : Qad (some (sig ++ r)) 64 = some r := QaR sig r 64 hil
 rcases hk with rfl | rfl | rfl
 ·skip
  have kq : qKd s = 1 := by omega
  have kn : qNd s = true := by unfold qNd; rw [kq]; rfl
  have hr : rest = Qbo us nm key sg pa ms ++ (start ++ (sig ++ r)) := by rw [hrest]; simp
  have hg1 := hg.resolve_left (by decide)
  obtain ⟨n1, n2, n3, n4, n5, n6, n7⟩ := Qdb us nm key sg pa ms (start ++ (sig ++ r)) hkl hgl hpl hg1 (qS5 s) (by rw [s5, hr])
  have m1 : Qcz s = some (sig ++ r) := by unfold Qcz; rw [kq, n6]; exact QaR _ _ 32 htl
  have hat : at_ = 0 := by unfold QbA at hok; rw [if_pos rfl, Bool.and_eq_true, Bool.and_eq_true] at hok; exact beq_iff_eq.1 hok.2.2
  exact ⟨by unfold Qa2; rw [m1]; exact w1, f1, f2, f3, f4, k5, by unfold qUs; rw [kn]; exact n1, by unfold qNm; rw [kn]; exact n2, by unfold qKy; rw [kn]; exact n3, by unfold qSg; rw [kn]; exact n4, by unfold qPa; rw [kn]; exact n5, by unfold qL; rw [kn]; exact n7, by unfold qSt; rw [kq, n6]; show keyV (Qai (some (start ++ (sig ++ r))) 32) = start; rw [QaL _ _ 32 htl, QbD _ htl], by unfold qAt; rw [kq, hat]; rfl, by unfold qSig; rw [m1, w0]; exact Qcw _ hil⟩
 ·skip
  have kq : qKd s = 2 := by omega
  have kn : qNd s = true := by unfold qNd; rw [kq]; rfl
  have hr : rest = Qbo us nm key sg pa ms ++ (sig ++ r) := by rw [hrest]; simp
  have hg1 := hg.resolve_left (by decide)
  obtain ⟨n1, n2, n3, n4, n5, n6, n7⟩ := Qdb us nm key sg pa ms (sig ++ r) hkl hgl hpl hg1 (qS5 s) (by rw [s5, hr])
  have m1 : Qcz s = some (sig ++ r) := by unfold Qcz; rw [kq, n6]; rfl
  obtain ⟨hst, hat⟩ : start = List.replicate 32 0 ∧ at_ = 0 := by unfold QbA at hok; rw [if_neg (by decide), if_pos rfl] at hok; simp only [Bool.and_eq_true, decide_eq_true_eq, beq_iff_eq] at hok; exact hok.2.2
  exact ⟨by unfold Qa2; rw [m1]; exact w1, f1, f2, f3, f4, k5, by unfold qUs; rw [kn]; exact n1, by unfold qNm; rw [kn]; exact n2, by unfold qKy; rw [kn]; exact n3, by unfold qSg; rw [kn]; exact n4, by unfold qPa; rw [kn]; exact n5, by unfold qL; rw [kn]; exact n7, by unfold qSt; rw [kq, hst]; rfl, by unfold qAt; rw [kq, hat]; rfl, by unfold qSig; rw [m1, w0]; exact Qcw _ hil⟩
 ·skip
  have kq : qKd s = 3 := by omega
  have kn : qNd s = false := by unfold qNd; rw [kq]; rfl
  have hr : rest = beV at_ 1 ++ (sig ++ r) := by rw [hrest]; simp only [if_true, if_neg (show ¬ (3 : Int) = 1 by decide), List.nil_append]; rfl
  obtain ⟨hbl, hst, hat⟩ : QaE us nm key sg pa ms = true ∧ start = List.replicate 32 0 ∧ inB at_ 31 = true := by unfold QbA at hok; rw [if_neg (by decide), if_neg (by decide), if_pos rfl] at hok; simp only [Bool.and_eq_true, decide_eq_true_eq] at hok; exact hok.2
  have ba := QbR hat
  have qa : ((bigN (beV at_ 1) : Nat) : Int) = at_ := Qdn at_ 1 ba.1 (by omega)
  have m1 : Qcz s = some (sig ++ r) := by
   unfold Qcz; rw [kq]
   show Qan (qS5 s) = _
   unfold Qan
   rw [s5, hr, QaL _ _ 1 (QaZ _ 1), qa, QaR _ _ 1 (QaZ _ 1), decide_eq_true (by omega)]; rfl
  unfold QaE at hbl
  simp only [Bool.and_eq_true, decide_eq_true_eq, beq_iff_eq, Bool.not_eq_true'] at hbl
  obtain ⟨⟨⟨⟨⟨z1, z2⟩, z3⟩, z4⟩, z5⟩, z6⟩ := hbl
  exact ⟨by unfold Qa2; rw [m1]; exact w1, f1, f2, f3, f4, k5, by unfold qUs; rw [kn]; exact z1.symm, by unfold qNm; rw [kn]; exact z2.symm, by unfold qKy; rw [kn]; exact z3.symm, by unfold qSg; rw [kn]; exact z4.symm, by unfold qPa; rw [kn]; exact z5.symm, by unfold qL; rw [kn]; exact (List.length_eq_zero_iff.1 z6).symm, by unfold qSt; rw [kq]; exact hst.symm, by unfold qAt; rw [kq]; show ((bigN (Qai (qS5 s) 1) : Nat) : Int) = at_; rw [s5, hr, QaL _ _ 1 (QaZ _ 1), qa], by unfold qSig; rw [m1, w0]; exact Qcw _ hil⟩
theorem Qg2 {α : Type} (F : Option (List Int) → α → Option (List Int)) (ok : α → Bool) (Bt : α → List Int) (hno : ∀ x, F none x = none) : ∀ (ts : List α), (∀ x ∈ ts, ∀ s, F s x = if ok x = true then rawS s (Bt x) else none) → ∀ s a, ts.foldl F (rawS s a) = if ts.all ok = true then rawS s (a ++ (ts.map Bt).flatten) else none
  | [], _, s, a => by rw [show ([] : List α).all ok = true from rfl, if_pos rfl]; show rawS s a = rawS s (a ++ []); rw [List.append_nil]
  | x :: r, h, s, a => by
    rw [List.foldl_cons, h x List.mem_cons_self, List.all_cons]
    cases hx : ok x with
    | false => rw [if_neg (show ¬ (false = true) by decide), QcL hno, Bool.false_and, if_neg (show ¬ (false = true) by decide)]
    | true =>
      rw [if_pos rfl, Qba, Qg2 F ok Bt hno r (fun y hy => h y (List.mem_cons_of_mem _ hy)), Bool.true_and, List.map_cons, List.flatten_cons, List.append_assoc]
theorem Qfd {α : Type} (F : Option (List Int) → α → Option (List Int)) (ok : α → Bool) (Bt : α → List Int) (hno : ∀ x, F none x = none) (ts : List α) (h : ∀ x ∈ ts, ∀ s, F s x = if ok x = true then rawS s (Bt x) else none) (s : Option (List Int)) :
    ts.foldl F (numS s ((ts.length : Nat) : Int) 1) = if (decide (ts.length ≤ 255) && ts.all ok) = true then rawS s ([byV ((ts.length : Nat) : Int) 0] ++ (ts.map Bt).flatten) else none := by
  rw [QbP _ _ 0 255 (by decide) (by decide)]
  by_cases hl : ts.length ≤ 255
  · rw [show inB ((ts.length : Nat) : Int) 255 = true by unfold inB; simp; omega, decide_eq_true hl, Bool.true_and]
    exact Qg2 F ok Bt hno ts h s _
  · rw [show inB ((ts.length : Nat) : Int) 255 = false by unfold inB; simp; omega, decide_eq_false hl, Bool.false_and, if_neg (show ¬ (false = true) by decide)]
    exact QcL hno ts
theorem QhH (r : RwV) (s : Option (List Int)) : rowF s r = if QdA r = true then rawS s (rowV r.xs) else none := by
  unfold rowF QdA
  rw [Qg8]
  by_cases h : r.xs.length ≤ 65535
  · rw [if_pos h, if_pos (decide_eq_true h)]
  · rw [if_neg h, if_neg (by rw [decide_eq_false h]; decide)]
theorem QgM (t : StV) (s : Option (List Int)) : QdU s t = if stOk t = true then rawS s (stB t) else none := by
  unfold QdU Qdw stOk
  rw [Qfd rowF QdA (fun r => rowV r.xs) QeR t.rows (fun x _ s => QhH x s)]
  cases (decide (t.rows.length ≤ 255) && t.rows.all QdA) with
  | false => rfl
  | true =>
    rw [if_pos rfl, if_pos rfl, Qba]
    congr 1
    unfold stB
    rw [List.append_assoc]
theorem Qhj (p : PrV) (h : PrOk p.p) (s : Option (List Int)) : Qej s p = if okP p = true then rawS s (Qbh p) else none :=
  Qgn s _ _ _ _ _ _ _ _ _ _ _ _ _ _ h.rl h.al h.n.kl h.n.gl h.n.pl h.tl h.il
theorem Qhk (n : NdC) (ts : List StV) (hn : NdOk n) (s : Option (List Int)) : Qe5 s n ts = if QbT n ts = true then rawS s (Qb9 n ts) else none := by
  unfold Qe5 Qdv
  rw [Qfd QdU stOk stB Qfj ts (fun x _ s => QgM x s)]
  have e : Qfb s n = putN s n.us n.nm n.key n.sg n.pa n.ms := QcQ _ _ _ _ _ _ _ hn.kl hn.gl hn.pl
  rw [e]
  unfold putN QbT
  by_cases h5 : ts.length ≤ 5
  · rw [decide_eq_true (show ((ts.length : Nat) : Int) ≤ 5 by omega), decide_eq_true (show ts.length ≤ 255 by omega), decide_eq_true h5, Bool.true_and]
    cases hg : okN_ n with
    | false =>
      rw [if_neg (show ¬ QbN n.us n.nm n.key n.sg n.pa n.ms = true from fun h => by rw [show QbN n.us n.nm n.key n.sg n.pa n.ms = false from hg] at h; cases h), Bool.false_and, if_neg (show ¬ (false = true) by decide)]
      split <;> rfl
    | true =>
      rw [if_pos (show QbN n.us n.nm n.key n.sg n.pa n.ms = true from hg), Bool.true_and]
      cases ts.all stOk with
      | false => rfl
      | true =>
        rw [if_pos rfl, if_pos rfl]
        show rawS (rawS s (QbM n)) _ = _
        rw [Qba]
        congr 1
        unfold Qb9
        rw [List.append_assoc]
  · rw [decide_eq_false (show ¬ ((ts.length : Nat) : Int) ≤ 5 by omega), decide_eq_false h5, Bool.false_and, Bool.and_false, if_neg (show ¬ (false = true) by decide)]
    split <;> rfl
theorem Qfz (grp : List Int) (ep fr : Int) (bas : List Int) (ps : List PrV) (n : NdC) (ts : List StV) (tag sig : List Int) (ho : CmOk grp bas n tag sig) (hp : ∀ p ∈ ps, PrOk p.p) : Qer (some []) grp ep fr bas ps n ts tag sig = refC grp ep fr bas ps n ts tag sig := by
  unfold Qer Qc5 refC
  rw [Qhk n ts ho.n, Qfd Qej okP Qbh Qfp ps (fun x hx s => Qhj x (hp x hx) s), QcB, QbP _ ep 3 4294967295 (by decide) (by decide)]
  unfold QeB hgB
  cases h1 : inB ep 4294967295 with
  | false =>
    rw [Bool.false_and, Bool.false_and, if_neg (show ¬ (false = true) by decide)]
    cases inB fr 31 <;> cases QbT n ts <;> cases (decide (ps.length ≤ 255) && ps.all okP) <;> rfl
  | true =>
    cases h2 : inB fr 31 with
    | false =>
      rw [Bool.and_false, Bool.false_and, if_neg (show ¬ (false = true) by decide)]
      cases QbT n ts <;> cases (decide (ps.length ≤ 255) && ps.all okP) <;> rfl
    | true =>
      cases h3 : QbT n ts with
      | false =>
        rw [Bool.false_and, Bool.and_false, Bool.and_false, if_neg (show ¬ (false = true) by decide), if_neg (show ¬ (false = true) by decide)]
        rfl
      | true =>
        rw [if_pos rfl, Bool.true_and, Bool.true_and, Bool.true_and]
        cases h4 : (decide (ps.length ≤ 255) && ps.all okP) with
        | false => rfl
        | true =>
          rw [if_pos rfl, if_pos rfl]
          show rawS (rawS (rawS (rawS (rawS (rawS (rawS (rawS (some []) grp) (beV ep 4)) (beV fr 1)) bas) _) (Qb9 n ts)) tag) sig = _
          rw [Qba, Qba, Qba, Qba, Qba, Qba, Qba, Qhd]
          congr 1
          unfold Qc0 Qa6
          simp only [List.append_assoc]
          rfl
theorem Qgz {α : Type} (F : Option (List Int) → Option (List Int)) (ok : α → Bool) (Bt : α → List Int) (Is : Option (List Int) → α → Prop) (d : α) (ts : List α) (hb : ∀ x ∈ ts, ∀ r, F (some (Bt x ++ r)) = some r ∧ Is (some (Bt x ++ r)) x) (r : List Int) : ∀ j, j ≤ ts.length → itG F (some ((ts.map Bt).flatten ++ r)) j = some (((ts.drop j).map Bt).flatten ++ r) ∧ ∀ i, i < j → Is (itG F (some ((ts.map Bt).flatten ++ r)) i) (ts.getD i d)
  | 0, _ => ⟨rfl, fun i hi => absurd hi (Nat.not_lt_zero _)⟩
  | j + 1, hj => by
    obtain ⟨h1, h2⟩ := Qgz F ok Bt Is d ts hb r j (by omega)
    have hm := Qb3 ts d j (by omega)
    rw [QcU ts d j (by omega), List.map_cons, List.flatten_cons, List.append_assoc] at h1
    obtain ⟨h3, h4⟩ := hb _ hm (((ts.drop (j + 1)).map Bt).flatten ++ r)
    refine ⟨by show F (itG F _ j) = _; rw [h1]; exact h3, fun i hi => ?_⟩
    rcases Nat.lt_or_ge i j with h5 | h5
    · exact h2 i h5
    · obtain rfl : i = j := by omega
      rw [h1]; exact h4
theorem Qel {α : Type} (F : Option (List Int) → Option (List Int)) (ok : α → Bool) (Bt : α → List Int) (Is : Option (List Int) → α → Prop) (d : α) (ts : List α) (hb : ∀ x ∈ ts, ∀ r, F (some (Bt x ++ r)) = some r ∧ Is (some (Bt x ++ r)) x) (hl : ts.length ≤ 255) (r : List Int) (s : Option (List Int)) (hs : s = some ([byV ((ts.length : Nat) : Int) 0] ++ (ts.map Bt).flatten ++ r)) :
    lsR F s = some r ∧ lsN s = ts.length ∧ ∀ j, j < ts.length → Is (itG F (Qad s 1) j) (ts.getD j d) := by
  have e : s = some (beV ((ts.length : Nat) : Int) 1 ++ ((ts.map Bt).flatten ++ r)) := by rw [hs, List.append_assoc]; rfl
  have h1 : Qad s 1 = some ((ts.map Bt).flatten ++ r) := by rw [e]; exact QaR _ _ 1 (QaZ _ 1)
  have h2 : lsN s = ts.length := by unfold lsN; rw [e, QaL _ _ 1 (QaZ _ 1), QeD, Nat.mod_eq_of_lt (by omega)]
  obtain ⟨h3, h4⟩ := Qgz F ok Bt Is d ts hb r ts.length (Nat.le_refl _)
  refine ⟨?_, h2, fun j hj => by rw [h1]; exact h4 j hj⟩
  unfold lsR
  rw [h1, h2, h3, List.drop_length]
  rfl
theorem QfP (t : StV) (hk : t.key.length = 32) (ho : stOk t = true) (r : List Int) : Qb0 (some (stB t ++ r)) = some r ∧ StIs (some (stB t ++ r)) t := by
  unfold stOk at ho
  simp only [Bool.and_eq_true, decide_eq_true_eq] at ho
  have e : stB t ++ r = t.key ++ ([byV ((t.rows.length : Nat) : Int) 0] ++ (t.rows.map fun r => rowV r.xs).flatten ++ r) := by unfold stB; simp only [List.append_assoc]
  have h1 : Qad (some (stB t ++ r)) 32 = some ([byV ((t.rows.length : Nat) : Int) 0] ++ (t.rows.map fun r => rowV r.xs).flatten ++ r) := by rw [e]; exact QaR _ _ 32 hk
  have h0 : Qai (some (stB t ++ r)) 32 = t.key := by rw [e]; exact QaL _ _ 32 hk
  obtain ⟨h2, h3, h4⟩ := Qel rowR QdA (fun r => rowV r.xs) RwIs rw0 t.rows (fun x hx r' => by
    have hx2 := of_decide_eq_true ((List.all_eq_true.1 ho.2) x hx)
    exact ⟨(QfW x.xs r' hx2).2, (QfW x.xs r' hx2).1.symm⟩) ho.1 r _ rfl
  refine ⟨by unfold Qb0; rw [h1]; exact h2, by rw [h0, QbD _ hk], by rw [h1]; exact h3.symm, fun j hj => by rw [h1]; exact h4 j hj⟩
theorem Qf9 (p : PrV) (h : PrOk p.p) (ho : okP p = true) (r : List Int) : Qa2 (some (Qbh p ++ r)) = some r ∧ PrIs (some (Qbh p ++ r)) p := by
  obtain ⟨h1, h2, h3, h4, h5, h6, h7, h8, h9, h10, h11, h12, h13, h14, h15⟩ := Qf8 _ _ _ _ _ _ _ _ _ _ _ _ _ _ r (some (Qbh p ++ r)) h.rl h.al h.n.kl h.n.gl h.n.pl h.tl h.il ho rfl
  exact ⟨h1, ⟨h2.symm, h3.symm, h4.symm, h5.symm, h6.symm, h7.symm, h8.symm, h9.symm, h10.symm, h11.symm, h12.symm, h13.symm, h14.symm, h15.symm⟩⟩
theorem Qgq (n : NdC) (ts : List StV) (hn : NdOk n) (hk : ∀ t ∈ ts, t.key.length = 32) (ho : QbT n ts = true) (r : List Int) (s : Option (List Int)) (hs : s = some (Qb9 n ts ++ r)) : Qb4 s = some r ∧ NdIs s n ∧ ts.length = lsN (QaN s) ∧ ∀ j, j < ts.length → StIs (itG Qb0 (Qad (QaN s) 1) j) (ts.getD j st0) := by
  unfold QbT at ho
  simp only [Bool.and_eq_true, decide_eq_true_eq] at ho
  have e : Qb9 n ts ++ r = QbM n ++ ([byV ((ts.length : Nat) : Int) 0] ++ (ts.map stB).flatten ++ r) := by unfold Qb9; simp only [List.append_assoc]
  rw [e] at hs
  obtain ⟨n1, n2, n3, n4, n5, n6, n7⟩ := Qdb _ _ _ _ _ _ _ hn.kl hn.gl hn.pl ho.1 s hs
  obtain ⟨h2, h3, h4⟩ := Qel Qb0 stOk stB StIs st0 ts (fun x hx r' => QfP x (hk x hx) ((List.all_eq_true.1 ho.2.2) x hx) r') (by omega) r (QaN s) n6
  refine ⟨?_, ⟨n1.symm, n2.symm, n3.symm, n4.symm, n5.symm, n7.symm⟩, h3.symm, h4⟩
  unfold Qb4
  rw [h2, h3, decide_eq_true (by omega)]
  rfl
theorem Qg6 (grp : List Int) (ep fr : Int) (bas : List Int) (ps : List PrV) (n : NdC) (ts : List StV) (tag sig : List Int) (bs : List Int) (ho : CmOk grp bas n tag sig) (hp : ∀ p ∈ ps, PrOk p.p) (hk : ∀ t ∈ ts, t.key.length = 32) (h : refC grp ep fr bas ps n ts tag sig = some bs) :
    Qd7 (Qam bs) = some [] ∧ cGrp (Qam bs) = grp ∧ cEp (Qam bs) = ep ∧ cFr (Qam bs) = fr ∧ cBas (Qam bs) = bas ∧ cTag (Qam bs) = tag ∧ cSig (Qam bs) = sig ∧ NdIs (cS5 (Qam bs)) n ∧ (ps.length = lsN (cS4 (Qam bs)) ∧ ∀ j, j < ps.length → PrIs (itG Qa2 (Qad (cS4 (Qam bs)) 1) j) (ps.getD j pr0)) ∧ (ts.length = lsN (QaN (cS5 (Qam bs))) ∧ ∀ j, j < ts.length → StIs (itG Qb0 (Qad (QaN (cS5 (Qam bs))) 1) j) (ts.getD j st0)) ∧ bs = Qc0 grp ep fr bas ps n ts tag sig ∧ bs.length ≤ 65536 ∧ 0 < bs.length := by
  unfold refC at h
  split at h
  · rename_i hc
    unfold fitV at h
    split at h
    · rename_i hf
      obtain rfl := Option.some.inj h
      unfold QeB hgB at hc
      simp only [Bool.and_eq_true, decide_eq_true_eq] at hc
      obtain ⟨⟨h1, h2⟩, h3, h4, h5⟩ := hc
      have b1 := QbR h1
      have b2 := QbR h2
      rw [QeI _ hf]
      have e : Qc0 grp ep fr bas ps n ts tag sig = grp ++ (beV ep 4 ++ (beV fr 1 ++ (bas ++ ([byV ((ps.length : Nat) : Int) 0] ++ (ps.map Qbh).flatten ++ (Qb9 n ts ++ (tag ++ sig)))))) := by unfold Qc0 Qa6; simp only [List.append_assoc]; rfl
      have hlen : 0 < (Qc0 grp ep fr bas ps n ts tag sig).length := by rw [e, List.length_append, ho.rl]; omega
      obtain ⟨s, hs⟩ : ∃ s, s = some (Qc0 grp ep fr bas ps n ts tag sig) := ⟨_, rfl⟩
      rw [← hs]
      rw [e] at hs
      have s1 : cS1 s = some (beV ep 4 ++ (beV fr 1 ++ (bas ++ ([byV ((ps.length : Nat) : Int) 0] ++ (ps.map Qbh).flatten ++ (Qb9 n ts ++ (tag ++ sig)))))) := by unfold cS1; rw [hs]; exact QaR _ _ 32 ho.rl
      have s2 : cS2 s = some (beV fr 1 ++ (bas ++ ([byV ((ps.length : Nat) : Int) 0] ++ (ps.map Qbh).flatten ++ (Qb9 n ts ++ (tag ++ sig))))) := by unfold cS2; rw [s1]; exact QaR _ _ 4 (QaZ _ 4)
      have q : ((bigN (beV fr 1) : Nat) : Int) = fr := Qdn fr 1 b2.1 (by omega)
      have s3 : cS3 s = some (bas ++ ([byV ((ps.length : Nat) : Int) 0] ++ (ps.map Qbh).flatten ++ (Qb9 n ts ++ (tag ++ sig)))) := by unfold cS3 Qan; rw [s2, QaL _ _ 1 (QaZ _ 1), q, QaR _ _ 1 (QaZ _ 1), decide_eq_true (by omega)]; rfl
      have s4 : cS4 s = some ([byV ((ps.length : Nat) : Int) 0] ++ (ps.map Qbh).flatten ++ (Qb9 n ts ++ (tag ++ sig))) := by unfold cS4; rw [s3]; exact QaR _ _ 32 ho.al
      obtain ⟨p1, p2, p3⟩ := Qel Qa2 okP Qbh PrIs pr0 ps (fun x hx r' => Qf9 x (hp x hx) ((List.all_eq_true.1 h5) x hx) r') h3 (Qb9 n ts ++ (tag ++ sig)) (cS4 s) s4
      have s5 : cS5 s = some (Qb9 n ts ++ (tag ++ sig)) := p1
      obtain ⟨t1, t2, t3, t4⟩ := Qgq n ts ho.n hk h4 (tag ++ sig) (cS5 s) s5
      have s6 : cS6 s = some (tag ++ sig) := t1
      have s7 : cS7 s = some sig := by unfold cS7; rw [s6]; exact QaR _ _ 32 ho.gl
      have w0 : Qai (some sig) 64 = sig := by have := QaL sig [] 64 ho.il; rwa [List.append_nil] at this
      have w1 : Qad (some sig) 64 = some [] := by have := QaR sig [] 64 ho.il; rwa [List.append_nil] at this
      refine ⟨by unfold Qd7; rw [s7]; exact w1, ?_, ?_, ?_, ?_, ?_, ?_, t2, ⟨p2.symm, p3⟩, ⟨t3, t4⟩, rfl, hf, hlen⟩
      · unfold cGrp; rw [hs, QaL _ _ 32 ho.rl, QbD _ ho.rl]
      · unfold cEp; rw [s1, QaL _ _ 4 (QaZ _ 4), Qdn ep 4 b1.1 (by omega)]
      · unfold cFr; rw [s2, QaL _ _ 1 (QaZ _ 1), q]
      · unfold cBas; rw [s3, QaL _ _ 32 ho.al, QbD _ ho.al]
      · unfold cTag; rw [s6, QaL _ _ 32 ho.gl, QbD _ ho.gl]
      · unfold cSig; rw [s7, w0]; exact Qcw _ ho.il
    · cases h
  · cases h
end Go.Proofs.Ytfelfmchachljaa.Wr
end
section
namespace Go.Proofs.Ytfelfmchachljaa.Wr
open Go Go.RowKit
open Rely Auto Own Sha
set_option linter.unusedVariables false
set_option linter.unusedSimpArgs false
set_option maxHeartbeats 4000000 in
theorem QgC (w : World) : Calls Try.prog 12 #[] w (Ret w (.bool true)) := by
  refine enter 40 [] Try.func12 rfl rfl kj rfl ?_
  refine wp_seq_k fun K1 hK1 => ?_
  refine Qae ?_
  refine Qab (.bool false) 0 rfl kj kj ?_
  refine Qaf ?_
  refine hK1 _ _ ?_
  refine wp_seq_k fun K2 hK2 => ?_
  refine Qae ?_
  refine Qab (.agg (cat [(Array.replicate 32 (.int .u8 0)), #[.int .i64 0], #[.int .i64 0], #[.int .i64 0], #[.slice none 0 0]])) 7 rfl kj kj ?_
  refine Qak (fun v W' => (PutR w.heap.size (some (List.replicate 43 (0 : Int)))) v W' ∧ Ext w W') 34 #[.agg (cat [(Array.replicate 32 (.int .u8 0)), #[.int .i64 0], #[.int .i64 0], #[.int .i64 0], #[.slice none 0 0]])] 8 rfl kj kj ((Qfi (List.replicate 32 0) 0 0 0 [] none 0 _ rfl (fun x hx => by rw [(List.mem_replicate.1 hx).2]; decide) (by decide) Qc7 (Qig _ _) (List.replicate 43 (0 : Int)) (by decide +kernel)).mono (by rintro e w' ⟨v, rfl, e1, hv⟩; exact ⟨v, rfl, hv, e1⟩)) fun vv3 W1 hh3 => ?_
  obtain ⟨hv3, e1⟩ := hh3
  have x1 : Ext w W1 := Ext.tr (Rely.Ext.refl w) e1
  obtain ⟨ub, rfl, hub⟩ := hv3
  obtain ⟨ab, cb, rfl, hcb, -⟩ := id (OwnN.rd hub)
  have hb43 : OwnN .u8 5 w.heap.size (List.replicate 43 (0 : Int)) (.slice ab 43 cb) W1 := hub
  replace hcb : 43 ≤ cb := hcb
  refine Qab (.tuple #[.slice ab 43 cb, .nilIface]) 6 rfl kj kj ?_
  refine Qab (.slice ab 43 cb) 9 rfl kj kj ?_
  refine Qab (.nilIface) 10 rfl kj kj ?_
  refine Qab (.slice ab 43 cb) 1 rfl kj kj ?_
  refine Qab (.nilIface) 2 rfl kj kj ?_
  refine Qaf ?_
  refine hK2 _ _ ?_
  refine wp_seq_k fun K4 hK4 => ?_
  refine wp_seq_k fun K5 hK5 => ?_
  refine Qae ?_
  refine Qab (.nilIface) 11 rfl kj kj ?_
  refine Qab (.bool false) 12 rfl kj kj ?_
  refine Qab (.bool false) 13 rfl kj kj ?_
  refine Qab (.slice ab 43 cb) 14 rfl kj kj ?_
  refine Qab (.int .i64 43) 15 rfl kj kj ?_
  refine Qab (.bool false) 16 rfl kj kj ?_
  refine Qab (.bool false) 17 rfl kj kj ?_
  refine Qaf ?_
  refine hK5 _ _ ?_
  refine cond_false kj ?_
  refine wp_skip ?_
  refine hK4 _ _ ?_
  refine wp_seq_k fun K6 hK6 => ?_
  refine Qae ?_
  refine Qab (.slice ab 43 cb) 19 rfl kj kj ?_
  refine Qak (fun v W' => (fun v W => ∃ (a_s : Option Addr) (c_s : Nat), v = .tuple #[.agg (cat [ints .u8 (pGrp (Qam (List.replicate 43 (0 : Int)))), #[.int .i64 (pEp (Qam (List.replicate 43 (0 : Int))))], #[.int .i64 (pFr (Qam (List.replicate 43 (0 : Int))))], #[.int .i64 (pNo (Qam (List.replicate 43 (0 : Int))))], #[.slice a_s (pSe (Qam (List.replicate 43 (0 : Int)))).length c_s]]), .nilIface] ∧ OwnN .u8 5 W1.heap.size (pSe (Qam (List.replicate 43 (0 : Int)))) (.slice a_s (pSe (Qam (List.replicate 43 (0 : Int)))).length c_s) W ∧ Qaj (pSe (Qam (List.replicate 43 (0 : Int)))) ∧ (pSe (Qam (List.replicate 43 (0 : Int)))).length ≤ 65535) v W' ∧ Ext W1 W') 36 #[.slice ab 43 cb] 20 rfl kj kj ((Qeh (List.replicate 43 (0 : Int)) _ _ _ (fun x hx => by rw [(List.mem_replicate.1 hx).2]; decide) (RdK.here (OwnN.rd hb43)) (by decide +kernel)).mono (by rintro e w' ⟨v, rfl, e1, hv⟩; exact ⟨v, rfl, hv, e1⟩)) fun vv7 W2 hh7 => ?_
  obtain ⟨hv7, e2⟩ := hh7
  have x2 : Ext w W2 := Ext.tr x1 e2
  obtain ⟨as1, cs1, rfl, hs1, -, -⟩ := hv7
  refine Qab (.tuple #[.agg (cat [ints .u8 (pGrp (Qam (List.replicate 43 (0 : Int)))), #[.int .i64 (pEp (Qam (List.replicate 43 (0 : Int))))], #[.int .i64 (pFr (Qam (List.replicate 43 (0 : Int))))], #[.int .i64 (pNo (Qam (List.replicate 43 (0 : Int))))], #[.slice as1 ((pSe (Qam (List.replicate 43 (0 : Int)))).length) cs1]]), .nilIface]) 18 rfl kj kj ?_
  refine Qab (.agg (cat [ints .u8 (pGrp (Qam (List.replicate 43 (0 : Int)))), #[.int .i64 (pEp (Qam (List.replicate 43 (0 : Int))))], #[.int .i64 (pFr (Qam (List.replicate 43 (0 : Int))))], #[.int .i64 (pNo (Qam (List.replicate 43 (0 : Int))))], #[.slice as1 ((pSe (Qam (List.replicate 43 (0 : Int)))).length) cs1]])) 21 rfl kj kj ?_
  refine Qab (.nilIface) 22 rfl kj kj ?_
  refine Qav (cat [(Array.replicate 32 (.int .u8 0)), #[.int .i64 0], #[.int .i64 0], #[.int .i64 0], #[.slice none 0 0]]) 81 3 rfl kj kj fun g8 W3 l8 e3 r8_3 => ?_
  have x3 : Ext w W3 := Ext.tr x2 e3
  have b8 : w.heap.size ≤ g8 := Nat.le_trans x2.size l8
  refine Qa3 g8 _ (cat [ints .u8 (pGrp (Qam (List.replicate 43 (0 : Int)))), #[.int .i64 (pEp (Qam (List.replicate 43 (0 : Int))))], #[.int .i64 (pFr (Qam (List.replicate 43 (0 : Int))))], #[.int .i64 (pNo (Qam (List.replicate 43 (0 : Int))))], #[.slice as1 ((pSe (Qam (List.replicate 43 (0 : Int)))).length) cs1]]) 81 r8_3 rfl kj (Qa0 81 _ _ g8 81 _ _ r8_3 rfl kj kj (isz (n := 36) kj (by rw [Qaa, Qaa, Qaa, Qaa, Qaa]; simp only [Array.size_append, cat, ((Qac _ _).trans (Qbv (Qam (List.replicate 43 (0 : Int)))))]; rfl)) (eqsz (n := 36) kj (by rw [Qaa, Qaa, Qaa, Qaa, Qaa]; simp only [Array.size_append, cat, ((Qac _ _).trans (Qbv (Qam (List.replicate 43 (0 : Int)))))]; rfl)) (QaX _ (by intro a ha; simp only [List.mem_cons, List.not_mem_nil, or_false] at ha; rcases ha with rfl | rfl | rfl | rfl | rfl; exact (Qas _ _); exact (Qaq _ rfl); exact (Qaq _ rfl); exact (Qaq _ rfl); exact (Qaq _ rfl)))) fun W4 p4 r8_4 => ?_
  have x4 : Ext w W4 := Puts.ext p4 x3 b8
  refine Qab (.nilIface) 2 rfl kj kj ?_
  refine Qaf ?_
  refine hK6 _ _ ?_
  refine wp_seq_k fun K9 hK9 => ?_
  refine Qae ?_
  refine Qab (.slice ab 43 cb) 24 rfl kj kj ?_
  refine Qab (.slice (Qd1 ab cb 1) (43 - 1) (cb - 1)) 25 rfl kj (QdF 26 _ _ 1 5 rfl (a := ab) (len := 43) (cap := cb) kj kj kj .i64 kj (by decide) hcb) ?_
  have f10_2 := (hb43.ext e2)
  have f11_3 := (f10_2.ext e3)
  have f12_4 := (f11_3.puts p4 (Qdl f10_2 l8))
  refine Qa1 (.tuple #[.agg (cat [(Array.replicate 32 (.int .u8 0)), #[.int .i64 0], #[.int .i64 0], #[.int .i64 0], #[.slice none 0 0]]), .iface 102 (.int .i64 3)]) 36 #[.slice (Qd1 ab cb 1) (43 - 1) (cb - 1)] 26 rfl kj kj (Qe4 ((List.replicate 43 (0 : Int)).drop 1) _ _ _ (Qct (fun x hx => by rw [(List.mem_replicate.1 hx).2]; decide) 1) (RdK.here (Qfo (OwnN.rd f12_4) 1 (by decide))) (by decide +kernel)) fun W5 e5 => ?_
  have x5 : Ext w W5 := Ext.tr x4 e5
  refine Qab (.tuple #[.agg (cat [(Array.replicate 32 (.int .u8 0)), #[.int .i64 0], #[.int .i64 0], #[.int .i64 0], #[.slice none 0 0]]), .iface 102 (.int .i64 3)]) 23 rfl kj kj ?_
  refine Qab (.agg (cat [(Array.replicate 32 (.int .u8 0)), #[.int .i64 0], #[.int .i64 0], #[.int .i64 0], #[.slice none 0 0]])) 27 rfl kj kj ?_
  refine Qab (.iface 102 (.int .i64 3)) 28 rfl kj kj ?_
  refine Qav (cat [(Array.replicate 32 (.int .u8 0)), #[.int .i64 0], #[.int .i64 0], #[.int .i64 0], #[.slice none 0 0]]) 81 4 rfl kj kj fun g13 W6 l13 e6 r13_6 => ?_
  have x6 : Ext w W6 := Ext.tr x5 e6
  have b13 : w.heap.size ≤ g13 := Nat.le_trans x5.size l13
  refine Qa3 g13 _ (cat [(Array.replicate 32 (.int .u8 0)), #[.int .i64 0], #[.int .i64 0], #[.int .i64 0], #[.slice none 0 0]]) 81 r13_6 rfl kj (Qa0 81 _ _ g13 81 _ _ r13_6 rfl kj kj (isz (n := 36) kj kj) (eqsz (n := 36) kj kj) kj) fun W7 p7 r13_7 => ?_
  have x7 : Ext w W7 := Puts.ext p7 x6 b13
  refine Qab (.iface 102 (.int .i64 3)) 5 rfl kj kj ?_
  refine Qaf ?_
  refine hK9 _ _ ?_
  refine wp_seq_k fun K14 hK14 => ?_
  refine Qae ?_
  refine Qab (.nilIface) 29 rfl kj kj ?_
  refine Qab (.bool true) 30 rfl kj kj ?_
  refine Qab (.bool true) 31 rfl kj kj ?_
  refine Qab (.pointer (some ⟨g8, 32, none⟩)) 32 rfl kj kj ?_
  have r8_5 := (Qar r8_4 e5)
  have r8_6 := (Qar r8_5 e6)
  have r8_7 := (Puts.row p7 r8_6 (QaI r8_5 l13))
  refine Qab (.int .i64 (pEp (Qam (List.replicate 43 (0 : Int))))) 33 rfl kj (Qag 3 _ g8 32 81 _ (.int .i64 (pEp (Qam (List.replicate 43 (0 : Int))))) _ r8_7 rfl kj (Qah [ints .u8 (pGrp (Qam (List.replicate 43 (0 : Int))))] [#[.int .i64 (pEp (Qam (List.replicate 43 (0 : Int))))]] [#[.int .i64 (pFr (Qam (List.replicate 43 (0 : Int))))], #[.int .i64 (pNo (Qam (List.replicate 43 (0 : Int))))], #[.slice as1 ((pSe (Qam (List.replicate 43 (0 : Int)))).length) cs1]] 32 ((Qac _ _).trans (Qbv (Qam (List.replicate 43 (0 : Int))))) 0 _ rfl) kj) ?_
  refine Qab (.bool true) 34 rfl kj kj ?_
  refine Qab (.bool true) 35 rfl kj kj ?_
  refine Qab (.bool true) 36 rfl kj kj ?_
  refine Qab (.iface 102 (.int .i64 3)) 37 rfl kj kj ?_
  refine Qa1 (.bool true) 45 #[.iface 102 (.int .i64 3), .int .i64 3] 38 rfl kj kj ((is3) _) fun W8 e8 => ?_
  have x8 : Ext w W8 := Ext.tr x7 e8
  refine Qab (.bool true) 39 rfl kj kj ?_
  refine Qab (.bool true) 0 rfl kj kj ?_
  refine Qaf ?_
  refine hK14 _ _ ?_
  refine wp_ret ?_
  repeat (first | with_reducible refine goR1 ?_ | with_reducible refine goR2 ?_)
  exact (show bodyPost _ _ _ .ret _ _ from ret1 (.bool true) rfl (Qaw kj) ⟨rfl, x8⟩)
end Go.Proofs.Ytfelfmchachljaa.Wr
end
section
namespace Go.Proofs.Ytfelfmchachljaa.Wr
open Go Go.RowKit
open Rely Auto Own Sha
set_option linter.unusedVariables false
set_option linter.unusedSimpArgs false
set_option maxHeartbeats 4000000 in
theorem Qdr (us : Bool) (nm : Int) (key sg pa ms : List Int) (a_m : Option Addr) (c_m : Nat) (w : World) (hkl : key.length = 32) (hgl : sg.length = 32) (hpl : pa.length = 32) (h : ms.length < 100) : Calls Try.prog 20 #[.agg (cat [#[.bool us], #[.int .i64 nm], ints .u8 (key), ints .u8 (sg), ints .u8 (pa), #[.slice a_m ms.length c_m]])] w (Ret w (.bool true)) := by
  refine enter 7 [(0, .agg (cat [#[.bool us], #[.int .i64 nm], ints .u8 (key), ints .u8 (sg), ints .u8 (pa), #[.slice a_m ms.length c_m]]))] Try.func20 rfl rfl kj rfl ?_
  refine wp_seq_k fun K1 hK1 => ?_
  refine Qae ?_
  refine Qav (cat [#[.bool us], #[.int .i64 nm], ints .u8 (key), ints .u8 (sg), ints .u8 (pa), #[.slice a_m ms.length c_m]]) 43 1 rfl kj kj fun g2 W1 l2 e1 r2_1 => ?_
  have x1 : Ext w W1 := Ext.tr (Rely.Ext.refl w) e1
  have b2 : w.heap.size ≤ g2 := Nat.le_trans (Rely.Ext.refl w).size l2
  refine Qab (.bool false) 2 rfl kj kj ?_
  refine Qaf ?_
  refine hK1 _ _ ?_
  refine wp_seq_k fun K3 hK3 => ?_
  refine Qae ?_
  refine Qab (.pointer (some ⟨g2, 98, none⟩)) 3 rfl kj kj ?_
  refine Qab (.slice a_m ms.length c_m) 4 rfl kj (Qag 41 _ g2 98 43 _ (.slice a_m ms.length c_m) _ r2_1 rfl kj (Qah [#[.bool us], #[.int .i64 nm], ints .u8 (key), ints .u8 (sg), ints .u8 (pa)] [#[.slice a_m ms.length c_m]] [] 98 (by rw [Qaa, Qaa, Qaa, Qaa, Qaa]; simp only [Array.size_append, cat, ((Qac _ _).trans hgl), ((Qac _ _).trans hkl), ((Qac _ _).trans hpl)]; rfl) 0 _ rfl) kj) ?_
  refine Qab (.int .i64 ((ms.length : Nat) : Int)) 5 rfl kj kj ?_
  refine Qab (.bool true) 6 rfl kj (Qax (u := .bool (decide (((ms.length : Nat) : Int) < 100))) kj (congrArg Value.bool (decide_eq_true (by omega)))) ?_
  refine Qab (.bool true) 2 rfl kj kj ?_
  refine Qaf ?_
  refine hK3 _ _ ?_
  refine wp_ret ?_
  repeat (first | with_reducible refine goR1 ?_ | with_reducible refine goR2 ?_)
  exact (show bodyPost _ _ _ .ret _ _ from ret1 (.bool true) rfl (Qaw kj) ⟨rfl, x1⟩)
set_option maxHeartbeats 4000000 in
theorem Qem (us : Bool) (nm : Int) (key sg pa ms : List Int) (a_m : Option Addr) (c_m : Nat) (w : World) (hkl : key.length = 32) (hgl : sg.length = 32) (hpl : pa.length = 32) (h : 100 ≤ ms.length) : Calls Try.prog 20 #[.agg (cat [#[.bool us], #[.int .i64 nm], ints .u8 (key), ints .u8 (sg), ints .u8 (pa), #[.slice a_m ms.length c_m]])] w (Ret w (.bool false)) := by
  refine enter 7 [(0, .agg (cat [#[.bool us], #[.int .i64 nm], ints .u8 (key), ints .u8 (sg), ints .u8 (pa), #[.slice a_m ms.length c_m]]))] Try.func20 rfl rfl kj rfl ?_
  refine wp_seq_k fun K1 hK1 => ?_
  refine Qae ?_
  refine Qav (cat [#[.bool us], #[.int .i64 nm], ints .u8 (key), ints .u8 (sg), ints .u8 (pa), #[.slice a_m ms.length c_m]]) 43 1 rfl kj kj fun g2 W1 l2 e1 r2_1 => ?_
  have x1 : Ext w W1 := Ext.tr (Rely.Ext.refl w) e1
  have b2 : w.heap.size ≤ g2 := Nat.le_trans (Rely.Ext.refl w).size l2
  refine Qab (.bool false) 2 rfl kj kj ?_
  refine Qaf ?_
  refine hK1 _ _ ?_
  refine wp_seq_k fun K3 hK3 => ?_
  refine Qae ?_
  refine Qab (.pointer (some ⟨g2, 98, none⟩)) 3 rfl kj kj ?_
  refine Qab (.slice a_m ms.length c_m) 4 rfl kj (Qag 41 _ g2 98 43 _ (.slice a_m ms.length c_m) _ r2_1 rfl kj (Qah [#[.bool us], #[.int .i64 nm], ints .u8 (key), ints .u8 (sg), ints .u8 (pa)] [#[.slice a_m ms.length c_m]] [] 98 (by rw [Qaa, Qaa, Qaa, Qaa, Qaa]; simp only [Array.size_append, cat, ((Qac _ _).trans hgl), ((Qac _ _).trans hkl), ((Qac _ _).trans hpl)]; rfl) 0 _ rfl) kj) ?_
  refine Qab (.int .i64 ((ms.length : Nat) : Int)) 5 rfl kj kj ?_
  refine Qab (.bool false) 6 rfl kj (Qax (u := .bool (decide (((ms.length : Nat) : Int) < 100))) kj (congrArg Value.bool (decide_eq_false (by omega)))) ?_
  refine Qab (.bool false) 2 rfl kj kj ?_
  refine Qaf ?_
  refine hK3 _ _ ?_
  refine wp_ret ?_
  repeat (first | with_reducible refine goR1 ?_ | with_reducible refine goR2 ?_)
  exact (show bodyPost _ _ _ .ret _ _ from ret1 (.bool false) rfl (Qaw kj) ⟨rfl, x1⟩)
end Go.Proofs.Ytfelfmchachljaa.Wr
end
section
namespace Go.Proofs.Ytfelfmchachljaa.Wr
open Go Go.RowKit
open Rely Auto Own Sha
set_option linter.unusedVariables false
set_option linter.unusedSimpArgs false
theorem QeU (grp : List Int) (ep fr : Int) (bas : List Int) (kd : Int) (us : Bool) (nm : Int) (key sg pa ms start : List Int) (at_ : Int) (sig : List Int) (hrb : Qaj grp) (hab : Qaj bas) (hkb : Qaj key) (hgb : Qaj sg) (hpb : Qaj pa) (htb : Qaj start) (hib : Qaj sig) : Qaj (QbV grp ep fr bas kd us nm key sg pa ms start at_ sig) := by
  have nil : Qaj ([] : List Int) := fun x hx => by cases hx
  unfold QbV Qa6
  refine QaM (QaM (QaM (QaM (QaM (QaM (QaM (QaM hrb (Qbu ep 4)) (Qbu fr 1)) hab) (Qbu kd 1)) ?_) ?_) ?_) hib
  · split
    · exact nil
    · exact QdM us nm key sg pa ms hkb hgb hpb
  · split
    · exact htb
    · exact nil
  · split
    · exact Qbu at_ 1
    · exact nil
theorem Qde {α : Type} (f : α → List Int) (ts : List α) (h : ∀ t ∈ ts, Qaj (f t)) : Qaj (ts.map f).flatten := fun x hx => by
  obtain ⟨l, hl, hxl⟩ := List.mem_flatten.1 hx
  obtain ⟨n, hn, rfl⟩ := List.mem_map.1 hl
  exact h n hn x hxl
theorem Qh3 {α : Type} {El : Nat → World → Nat → Nat → α → Prop} {sz : Nat} {d : α} {B : Nat} {w : World} {a : Option Addr} {ts : List α} (h : LsAt El sz d B w a ts) : ∀ t ∈ ts, ∃ g o, El B w g o t := fun t ht => by
  obtain ⟨g, o, -, h2⟩ := h
  obtain ⟨i, hi, e⟩ := List.mem_iff_getElem.1 ht
  have h3 := h2 i hi
  rw [List.getD_eq_getElem?_getD, List.getElem?_eq_getElem hi] at h3
  rw [← e]; exact ⟨_, _, h3⟩
theorem QfH (grp : List Int) (ep fr : Int) (bas : List Int) (ps : List PrV) (n : NdC) (ts : List StV) (tag sig : List Int) (a_p : Option Addr) (c_p : Nat) (a_m : Option Addr) (c_m : Nat) (a_t : Option Addr) (c_t : Nat) (w : World) (ho : CmOk grp bas n tag sig) (hcm : CmAt w.heap.size w ps a_p n a_m c_m ts a_t) : Qaj (Qc0 grp ep fr bas ps n ts tag sig) := by
  unfold Qc0 Qa6 Qb9
  refine QaM (QaM (QaM (QaM (QaM (QaM (QaM (QaM ho.rb (Qbu ep 4)) (Qbu fr 1)) ho.ab) (Qbu _ 1)) ?_) (QaM (QaM ?_ (Qbu _ 1)) ?_)) ho.gb) ho.ib
  · refine Qde Qbh ps fun p hp => ?_
    have hok := QdK hcm.ps p hp
    exact QeU _ _ _ _ _ _ _ _ _ _ _ _ _ _ hok.rb hok.ab hok.n.kb hok.n.gb hok.n.pb hok.tb hok.ib
  · exact QdM _ _ _ _ _ _ ho.n.kb ho.n.gb ho.n.pb
  · refine Qde stB ts fun t ht => ?_
    obtain ⟨g, o, hst⟩ := Qh3 hcm.ts t ht
    unfold stB
    refine QaM (QaM hst.kb (Qbu _ 1)) (Qde _ t.rows fun r hr => ?_)
    obtain ⟨g2, o2, hrw⟩ := Qh3 hst.rows r hr
    exact QaM (Qbu _ 2) hrw.by_
theorem Qfc {α β : Type} (Is : Option (List Int) → α → Prop) (q : α → β) (d : α) (hq : ∀ s x y, Is s x → Is s y → q x = q y) (ts us : List α) (hl : us.length = ts.length) (S : Nat → Option (List Int)) (h : ∀ j, j < ts.length → Is (S j) (ts.getD j d)) (k : ∀ j, j < us.length → Is (S j) (us.getD j d)) : us.map q = ts.map q := by
  refine List.ext_getElem (by rw [List.length_map, List.length_map, hl]) fun j h1 h2 => ?_
  rw [List.length_map] at h1 h2
  have a := h j h2
  have b := k j h1
  rw [List.getD_eq_getElem?_getD, List.getElem?_eq_getElem h2] at a
  rw [List.getD_eq_getElem?_getD, List.getElem?_eq_getElem h1] at b
  rw [List.getElem_map, List.getElem_map]
  exact hq _ _ _ b a
theorem PrIs.eq {s : Option (List Int)} {p q : PrV} (h : PrIs s p) (k : PrIs s q) : p.p = q.p := by
  obtain ⟨⟨g1, e1, r1, b1, k1, ⟨u1, n1, y1, s1, a1, m1⟩, t1, o1, i1⟩, x1, c1⟩ := p
  obtain ⟨⟨g2, e2, r2, b2, k2, ⟨u2, n2, y2, s2, a2, m2⟩, t2, o2, i2⟩, x2, c2⟩ := q
  obtain ⟨h1, h2, h3, h4, h5, h6, h7, h8, h9, h10, h11, h12, h13, h14⟩ := h
  obtain ⟨l1, l2, l3, l4, l5, l6, l7, l8, l9, l10, l11, l12, l13, l14⟩ := k
  simp only at h1 h2 h3 h4 h5 h6 h7 h8 h9 h10 h11 h12 h13 h14 l1 l2 l3 l4 l5 l6 l7 l8 l9 l10 l11 l12 l13 l14
  rw [h1, h2, h3, h4, h5, h6, h7, h8, h9, h10, h11, h12, h13, h14, l1, l2, l3, l4, l5, l6, l7, l8, l9, l10, l11, l12, l13, l14]
def stQ (t : StV) : List Int × List (List Int) := (t.key, t.rows.map RwV.xs)
theorem StIs.eq {s : Option (List Int)} {x y : StV} (h : StIs s x) (k : StIs s y) : stQ x = stQ y := by
  have e := Qfc RwIs RwV.xs rw0 (fun s a b (ha : a.xs = rowL s) (hb : b.xs = rowL s) => ha.trans hb.symm) y.rows x.rows (h.2.1.trans k.2.1.symm) _ k.2.2 h.2.2
  unfold stQ
  rw [e, h.1, k.1]
def okQ (q : List Int × List (List Int)) : Bool := decide (q.2.length ≤ 255) && q.2.all fun xs => decide (xs.length ≤ 65535)
def bQ (q : List Int × List (List Int)) : List Int := q.1 ++ [byV ((q.2.length : Nat) : Int) 0] ++ (q.2.map rowV).flatten
theorem Qi7 (t : StV) : stOk t = okQ (stQ t) := by
  unfold stOk okQ stQ
  rw [List.length_map, List.all_map]; rfl
theorem Qjk (t : StV) : stB t = bQ (stQ t) := by
  unfold stB bQ stQ
  rw [List.length_map, List.map_map]; rfl
def okPC (p : PrC) : Bool := okP ⟨p, none, 0⟩
def QiJ (p : PrC) : List Int := Qbh ⟨p, none, 0⟩
theorem Qh2 {α β γ : Type} (q : α → β) (f : α → γ) (g : β → γ) (hf : ∀ x, f x = g (q x)) (ts us : List α) (h : us.map q = ts.map q) : us.map f = ts.map f := by
  rw [show f = g ∘ q from funext hf, ← List.map_map, ← List.map_map, h]
theorem Qh7 {α β : Type} (q : α → β) (f : α → Bool) (g : β → Bool) (hf : ∀ x, f x = g (q x)) (ts us : List α) (h : us.map q = ts.map q) : us.all f = ts.all f := by
  rw [show f = g ∘ q from funext hf, ← List.all_map, ← List.all_map, h]
theorem Qft {α β : Type} (q : α → β) (ts us : List α) (h : us.map q = ts.map q) : us.length = ts.length := by
  have := congrArg List.length h
  rwa [List.length_map, List.length_map] at this
theorem Qh1 {α β : Type} (q : α → β) (ts us : List α) (h : us.map q = ts.map q) (x : α) (hx : x ∈ us) : ∃ y ∈ ts, q y = q x := by
  have : q x ∈ ts.map q := by rw [← h]; exact List.mem_map.2 ⟨x, hx, rfl⟩
  exact List.mem_map.1 this
theorem Qgi (grp : List Int) (ep fr : Int) (bas : List Int) (ps : List PrV) (n : NdC) (ts : List StV) (tag sig : List Int) (qs : List PrV) (us : List StV) (hp : qs.map PrV.p = ps.map PrV.p) (ht : us.map stQ = ts.map stQ) : refC grp ep fr bas qs n us tag sig = refC grp ep fr bas ps n ts tag sig := by
  unfold refC QeB Qc0 QbT Qb9
  rw [Qft _ _ _ hp, Qft _ _ _ ht, Qh2 PrV.p Qbh QiJ (fun _ => rfl) _ _ hp, Qh7 PrV.p okP okPC (fun _ => rfl) _ _ hp, Qh2 stQ stB bQ Qjk _ _ ht, Qh7 stQ stOk okQ Qi7 _ _ ht]
theorem CmSz.same {ps qs : List PrV} {n : NdC} {ts us : List StV} (hz : CmSz ps n ts) (hp : qs.map PrV.p = ps.map PrV.p) (ht : us.map stQ = ts.map stQ) : CmSz qs n us :=
  ⟨by rw [Qft _ _ _ hp]; exact hz.pn, fun p hm => by
    obtain ⟨y, hy, e⟩ := Qh1 _ _ _ hp p hm
    rw [← e]; exact hz.pm y hy, hz.nm, by rw [Qft _ _ _ ht]; exact hz.tn, fun t hm => by
    obtain ⟨y, hy, e⟩ := Qh1 _ _ _ ht t hm
    have e2 := congrArg (fun q : List Int × List (List Int) => q.2.length) e
    simp only [stQ, List.length_map] at e2
    exact ⟨by rw [← e2]; exact (hz.tr y hy).1, fun _ _ => trivial⟩⟩
set_option maxHeartbeats 4000000 in
set_option maxRecDepth 100000 in
theorem Qjc (n : NdC) (ts : List StV) (a_m : Option Addr) (c_m : Nat) (a_t : Option Addr) (c_t : Nat) (w : World) (hn : NdOk n) (hm : RdK .i64 w.heap.size n.ms (.slice a_m n.ms.length c_m) w) (hls : LsAt StAt 33 st0 w.heap.size w a_t ts) (h1 : 100 ≤ n.ms.length) : Calls Try.prog 24 #[.agg (cat [#[.bool n.us], #[.int .i64 n.nm], ints .u8 (n.key), ints .u8 (n.sg), ints .u8 (n.pa), #[.slice a_m n.ms.length c_m], #[.slice a_t ts.length c_t]])] w (fun e W => ∃ v, e = .returned v ∧ Ext w W ∧ ∃ b, v = .bool b ∧ (b = true → n.ms.length < 100 ∧ ts.length ≤ 10 ∧ ∀ j, j < ts.length → (ts.getD j st0).rows.length ≤ 300)) := by
  refine enter 45 [(0, .agg (cat [#[.bool n.us], #[.int .i64 n.nm], ints .u8 (n.key), ints .u8 (n.sg), ints .u8 (n.pa), #[.slice a_m n.ms.length c_m], #[.slice a_t ts.length c_t]]))] Try.func24 rfl rfl kj rfl ?_
  refine wp_seq_k fun K1 hK1 => ?_
  refine Qae ?_
  refine Qav (cat [#[.bool n.us], #[.int .i64 n.nm], ints .u8 (n.key), ints .u8 (n.sg), ints .u8 (n.pa), #[.slice a_m n.ms.length c_m], #[.slice a_t ts.length c_t]]) 57 1 rfl kj kj fun g2 W1 l2 e1 r2_1 => ?_
  have x1 : Ext w W1 := Ext.tr (Rely.Ext.refl w) e1
  have b2 : w.heap.size ≤ g2 := Nat.le_trans (Rely.Ext.refl w).size l2
  refine Qab (.bool false) 2 rfl kj kj ?_
  refine Qaf ?_
  refine hK1 _ _ ?_
  refine wp_seq_k fun K3 hK3 => ?_
  refine wp_seq_k fun K4 hK4 => ?_
  refine Qae ?_
  refine Qab (.pointer (some ⟨g2, 0, none⟩)) 7 rfl kj kj ?_
  refine Qab (.agg (cat [#[.bool n.us], #[.int .i64 n.nm], ints .u8 (n.key), ints .u8 (n.sg), ints .u8 (n.pa), #[.slice a_m n.ms.length c_m]])) 8 rfl kj (Qau 43 _ g2 0 57 _ _ _ r2_1 rfl kj (Qah [] [#[.bool n.us], #[.int .i64 n.nm], ints .u8 (n.key), ints .u8 (n.sg), ints .u8 (n.pa), #[.slice a_m n.ms.length c_m]] [#[.slice a_t ts.length c_t]] 0 kj) kj (isz (n := 99) kj (by rw [Qaa, Qaa, Qaa, Qaa, Qaa, Qaa]; simp only [Array.size_append, cat, ((Qac _ _).trans hn.gl), ((Qac _ _).trans hn.kl), ((Qac _ _).trans hn.pl)]; rfl))) ?_
  refine Qa1 (.bool false) 20 #[.agg (cat [#[.bool n.us], #[.int .i64 n.nm], ints .u8 (n.key), ints .u8 (n.sg), ints .u8 (n.pa), #[.slice a_m n.ms.length c_m]])] 9 rfl kj kj (Qem n.us n.nm n.key n.sg n.pa n.ms _ _ _ hn.kl hn.gl hn.pl h1) fun W2 e2 => ?_
  have x2 : Ext w W2 := Ext.tr x1 e2
  refine Qab (.bool true) 10 rfl kj kj ?_
  refine Qab (.bool true) 11 rfl kj kj ?_
  refine Qao 12 rfl kj ?_
  refine Qao 13 rfl kj ?_
  refine Qao 14 rfl kj ?_
  refine Qao 15 rfl kj ?_
  refine Qab (.bool true) 16 rfl kj kj ?_
  refine Qaf ?_
  refine hK4 _ _ ?_
  refine cond_true kj ?_
  refine wp_seq_k fun K5 hK5 => ?_
  refine Qae ?_
  refine Qab (.bool false) 2 rfl kj kj ?_
  refine Qaf ?_
  refine hK5 _ _ ?_
  refine wp_ret ?_
  repeat (first | with_reducible refine goR1 ?_ | with_reducible refine goR2 ?_)
  exact (show bodyPost _ _ _ .ret _ _ from ret1 (.bool false) rfl (Qaw kj) ⟨_, rfl, x2, _, rfl, fun h => by cases h⟩)
set_option maxHeartbeats 4000000 in
set_option maxRecDepth 100000 in
theorem Qjb (n : NdC) (ts : List StV) (a_m : Option Addr) (c_m : Nat) (a_t : Option Addr) (c_t : Nat) (w : World) (hn : NdOk n) (hm : RdK .i64 w.heap.size n.ms (.slice a_m n.ms.length c_m) w) (hls : LsAt StAt 33 st0 w.heap.size w a_t ts) (h1 : n.ms.length < 100) (h2 : 10 < ts.length) : Calls Try.prog 24 #[.agg (cat [#[.bool n.us], #[.int .i64 n.nm], ints .u8 (n.key), ints .u8 (n.sg), ints .u8 (n.pa), #[.slice a_m n.ms.length c_m], #[.slice a_t ts.length c_t]])] w (fun e W => ∃ v, e = .returned v ∧ Ext w W ∧ ∃ b, v = .bool b ∧ (b = true → n.ms.length < 100 ∧ ts.length ≤ 10 ∧ ∀ j, j < ts.length → (ts.getD j st0).rows.length ≤ 300)) := by
  refine enter 45 [(0, .agg (cat [#[.bool n.us], #[.int .i64 n.nm], ints .u8 (n.key), ints .u8 (n.sg), ints .u8 (n.pa), #[.slice a_m n.ms.length c_m], #[.slice a_t ts.length c_t]]))] Try.func24 rfl rfl kj rfl ?_
  refine wp_seq_k fun K1 hK1 => ?_
  refine Qae ?_
  refine Qav (cat [#[.bool n.us], #[.int .i64 n.nm], ints .u8 (n.key), ints .u8 (n.sg), ints .u8 (n.pa), #[.slice a_m n.ms.length c_m], #[.slice a_t ts.length c_t]]) 57 1 rfl kj kj fun g2 W1 l2 e1 r2_1 => ?_
  have x1 : Ext w W1 := Ext.tr (Rely.Ext.refl w) e1
  have b2 : w.heap.size ≤ g2 := Nat.le_trans (Rely.Ext.refl w).size l2
  refine Qab (.bool false) 2 rfl kj kj ?_
  refine Qaf ?_
  refine hK1 _ _ ?_
  refine wp_seq_k fun K3 hK3 => ?_
  refine wp_seq_k fun K4 hK4 => ?_
  refine Qae ?_
  refine Qab (.pointer (some ⟨g2, 0, none⟩)) 7 rfl kj kj ?_
  refine Qab (.agg (cat [#[.bool n.us], #[.int .i64 n.nm], ints .u8 (n.key), ints .u8 (n.sg), ints .u8 (n.pa), #[.slice a_m n.ms.length c_m]])) 8 rfl kj (Qau 43 _ g2 0 57 _ _ _ r2_1 rfl kj (Qah [] [#[.bool n.us], #[.int .i64 n.nm], ints .u8 (n.key), ints .u8 (n.sg), ints .u8 (n.pa), #[.slice a_m n.ms.length c_m]] [#[.slice a_t ts.length c_t]] 0 kj) kj (isz (n := 99) kj (by rw [Qaa, Qaa, Qaa, Qaa, Qaa, Qaa]; simp only [Array.size_append, cat, ((Qac _ _).trans hn.gl), ((Qac _ _).trans hn.kl), ((Qac _ _).trans hn.pl)]; rfl))) ?_
  refine Qa1 (.bool true) 20 #[.agg (cat [#[.bool n.us], #[.int .i64 n.nm], ints .u8 (n.key), ints .u8 (n.sg), ints .u8 (n.pa), #[.slice a_m n.ms.length c_m]])] 9 rfl kj kj (Qdr n.us n.nm n.key n.sg n.pa n.ms _ _ _ hn.kl hn.gl hn.pl h1) fun W2 e2 => ?_
  have x2 : Ext w W2 := Ext.tr x1 e2
  refine Qab (.bool false) 10 rfl kj kj ?_
  refine Qab (.bool false) 11 rfl kj kj ?_
  refine Qab (.pointer (some ⟨g2, 99, none⟩)) 12 rfl kj kj ?_
  have r2_2 := (Qar r2_1 e2)
  refine Qab (.slice a_t ts.length c_t) 13 rfl kj (Qag 55 _ g2 99 57 _ (.slice a_t ts.length c_t) _ r2_2 rfl kj (Qah [#[.bool n.us], #[.int .i64 n.nm], ints .u8 (n.key), ints .u8 (n.sg), ints .u8 (n.pa), #[.slice a_m n.ms.length c_m]] [#[.slice a_t ts.length c_t]] [] 99 (by rw [Qaa, Qaa, Qaa, Qaa, Qaa, Qaa]; simp only [Array.size_append, cat, ((Qac _ _).trans hn.gl), ((Qac _ _).trans hn.kl), ((Qac _ _).trans hn.pl)]; rfl) 0 _ rfl) kj) ?_
  refine Qab (.int .i64 ((ts.length : Nat) : Int)) 14 rfl kj kj ?_
  refine Qab (.bool true) 15 rfl kj (Qax (u := .bool (decide (((ts.length : Nat) : Int) > 10))) kj (congrArg Value.bool (decide_eq_true (by omega)))) ?_
  refine Qab (.bool true) 16 rfl kj kj ?_
  refine Qaf ?_
  refine hK4 _ _ ?_
  refine cond_true kj ?_
  refine wp_seq_k fun K5 hK5 => ?_
  refine Qae ?_
  refine Qab (.bool false) 2 rfl kj kj ?_
  refine Qaf ?_
  refine hK5 _ _ ?_
  refine wp_ret ?_
  repeat (first | with_reducible refine goR1 ?_ | with_reducible refine goR2 ?_)
  exact (show bodyPost _ _ _ .ret _ _ from ret1 (.bool false) rfl (Qaw kj) ⟨_, rfl, x2, _, rfl, fun h => by cases h⟩)
set_option maxHeartbeats 4000000 in
set_option maxRecDepth 100000 in
theorem Qja (n : NdC) (ts : List StV) (a_m : Option Addr) (c_m : Nat) (a_t : Option Addr) (c_t : Nat) (w : World) (hn : NdOk n) (hm : RdK .i64 w.heap.size n.ms (.slice a_m n.ms.length c_m) w) (hls : LsAt StAt 33 st0 w.heap.size w a_t ts) (h1 : n.ms.length < 100) (h2 : ts.length ≤ 10) : Calls Try.prog 24 #[.agg (cat [#[.bool n.us], #[.int .i64 n.nm], ints .u8 (n.key), ints .u8 (n.sg), ints .u8 (n.pa), #[.slice a_m n.ms.length c_m], #[.slice a_t ts.length c_t]])] w (fun e W => ∃ v, e = .returned v ∧ Ext w W ∧ ∃ b, v = .bool b ∧ (b = true → n.ms.length < 100 ∧ ts.length ≤ 10 ∧ ∀ j, j < ts.length → (ts.getD j st0).rows.length ≤ 300)) := by
 refine enter 45 [(0, .agg (cat [#[.bool n.us], #[.int .i64 n.nm], ints .u8 (n.key), ints .u8 (n.sg), ints .u8 (n.pa), #[.slice a_m n.ms.length c_m], #[.slice a_t ts.length c_t]]))] Try.func24 rfl rfl kj rfl ?_
 refine wp_seq_k fun K1 hK1 => ?_
 refine Qae ?_
 refine Qav (cat [#[.bool n.us], #[.int .i64 n.nm], ints .u8 (n.key), ints .u8 (n.sg), ints .u8 (n.pa), #[.slice a_m n.ms.length c_m], #[.slice a_t ts.length c_t]]) 57 1 rfl kj kj fun g2 W1 l2 e1 r2_1 => ?_
 have x1 : Ext w W1 := Ext.tr (Rely.Ext.refl w) e1
 have b2 : w.heap.size ≤ g2 := Nat.le_trans (Rely.Ext.refl w).size l2
 refine Qab (.bool false) 2 rfl kj kj ?_
 refine Qaf ?_
 refine hK1 _ _ ?_
 refine wp_seq_k fun K3 hK3 => ?_
 refine wp_seq_k fun K4 hK4 => ?_
 refine Qae ?_
 refine Qab (.pointer (some ⟨g2, 0, none⟩)) 7 rfl kj kj ?_
 refine Qab (.agg (cat [#[.bool n.us], #[.int .i64 n.nm], ints .u8 (n.key), ints .u8 (n.sg), ints .u8 (n.pa), #[.slice a_m n.ms.length c_m]])) 8 rfl kj (Qau 43 _ g2 0 57 _ _ _ r2_1 rfl kj (Qah [] [#[.bool n.us], #[.int .i64 n.nm], ints .u8 (n.key), ints .u8 (n.sg), ints .u8 (n.pa), #[.slice a_m n.ms.length c_m]] [#[.slice a_t ts.length c_t]] 0 kj) kj (isz (n := 99) kj (by rw [Qaa, Qaa, Qaa, Qaa, Qaa, Qaa]; simp only [Array.size_append, cat, ((Qac _ _).trans hn.gl), ((Qac _ _).trans hn.kl), ((Qac _ _).trans hn.pl)]; rfl))) ?_
 refine Qa1 (.bool true) 20 #[.agg (cat [#[.bool n.us], #[.int .i64 n.nm], ints .u8 (n.key), ints .u8 (n.sg), ints .u8 (n.pa), #[.slice a_m n.ms.length c_m]])] 9 rfl kj kj (Qdr n.us n.nm n.key n.sg n.pa n.ms _ _ _ hn.kl hn.gl hn.pl h1) fun W2 e2 => ?_
 have x2 : Ext w W2 := Ext.tr x1 e2
 refine Qab (.bool false) 10 rfl kj kj ?_
 refine Qab (.bool false) 11 rfl kj kj ?_
 refine Qab (.pointer (some ⟨g2, 99, none⟩)) 12 rfl kj kj ?_
 have r2_2 := (Qar r2_1 e2)
 refine Qab (.slice a_t ts.length c_t) 13 rfl kj (Qag 55 _ g2 99 57 _ (.slice a_t ts.length c_t) _ r2_2 rfl kj (Qah [#[.bool n.us], #[.int .i64 n.nm], ints .u8 (n.key), ints .u8 (n.sg), ints .u8 (n.pa), #[.slice a_m n.ms.length c_m]] [#[.slice a_t ts.length c_t]] [] 99 (by rw [Qaa, Qaa, Qaa, Qaa, Qaa, Qaa]; simp only [Array.size_append, cat, ((Qac _ _).trans hn.gl), ((Qac _ _).trans hn.kl), ((Qac _ _).trans hn.pl)]; rfl) 0 _ rfl) kj) ?_
 refine Qab (.int .i64 ((ts.length : Nat) : Int)) 14 rfl kj kj ?_
 refine Qab (.bool false) 15 rfl kj (Qax (u := .bool (decide (((ts.length : Nat) : Int) > 10))) kj (congrArg Value.bool (decide_eq_false (by omega)))) ?_
 refine Qab (.bool false) 16 rfl kj kj ?_
 refine Qaf ?_
 refine hK4 _ _ ?_
 refine cond_false kj ?_
 refine wp_skip ?_
 refine hK3 _ _ ?_
 refine wp_seq_k fun K5 hK5 => ?_
 refine wp_seq_k fun K6 hK6 => ?_
 refine Qae ?_
 refine Qab (.pointer (some ⟨g2, 99, none⟩)) 17 rfl kj kj ?_
 refine Qab (.slice a_t ts.length c_t) 18 rfl kj (Qag 55 _ g2 99 57 _ (.slice a_t ts.length c_t) _ r2_2 rfl kj (Qah [#[.bool n.us], #[.int .i64 n.nm], ints .u8 (n.key), ints .u8 (n.sg), ints .u8 (n.pa), #[.slice a_m n.ms.length c_m]] [#[.slice a_t ts.length c_t]] [] 99 (by rw [Qaa, Qaa, Qaa, Qaa, Qaa, Qaa]; simp only [Array.size_append, cat, ((Qac _ _).trans hn.gl), ((Qac _ _).trans hn.kl), ((Qac _ _).trans hn.pl)]; rfl) 0 _ rfl) kj) ?_
 refine Qab (.int .i64 ((ts.length : Nat) : Int)) 19 rfl kj kj ?_
 refine Qab (.int .i64 0) 20 rfl kj kj ?_
 refine Qaf ?_
 refine hK6 _ _ ?_
 refine wp_block ?_
 refine QaP (fun (s1 : Nat) => [(1, .pointer (some ⟨g2, 0, none⟩)), (18, .slice a_t ts.length c_t), (19, .int .i64 ((ts.length : Nat) : Int)), (20, .int .i64 ((s1 : Nat) : Int))]) (fun (s1 : Nat) W => (s1 ≤ ts.length) ∧ (∀ j, j < s1 → (ts.getD j st0).rows.length ≤ 300) ∧ (Ext W2 W) ∧ (Ext w W)) (fun (s1 : Nat) => ts.length - s1) 0 ⟨rfl, rfl, rfl, rfl, trivial⟩ ⟨(Nat.zero_le _), (fun j hj => absurd hj (Nat.not_lt_zero _)), (Rely.Ext.refl W2), x2⟩ fun s1 X1 V1 hI1 => ?_
 obtain ⟨i, hs1⟩ : ∃ z, z = s1 := ⟨_, rfl⟩
 subst hs1
 obtain ⟨hi, hr, kk1, xx1⟩ := hI1
 replace hi : i ≤ ts.length := hi
 replace hr : ∀ j, j < i → (ts.getD j st0).rows.length ≤ 300 := hr
 replace kk1 : Ext W2 V1 := kk1
 replace xx1 : Ext w V1 := xx1
 have e3 := kk1
 refine wp_seq_k fun K7 hK7 => ?_
 refine Qae ?_
 refine Qab (.bool (decide (((i : Nat) : Int) < ((ts.length : Nat) : Int)))) 21 rfl kj kj ?_
 refine Qaf ?_
 refine hK7 _ _ ?_
 refine wp_seq_k fun K8 hK8 => ?_
 refine Qa5 (t := decide (((i : Nat) : Int) < ((ts.length : Nat) : Int))) kj (fun c9 => ?_) (fun c9 => ?_)
 ·skip
  have hlt21 : i < ts.length := by have := of_decide_eq_true c9; omega
  refine wp_skip ?_
  refine hK8 _ _ ?_
  refine wp_seq_k fun K10 hK10 => ?_
  refine wp_block ?_
  refine wp_seq_k fun K11 hK11 => ?_
  refine Qae ?_
  obtain ⟨gTnd, oTnd, hatnd, helsnd⟩ := (LsAt.ext stK hls xx1)
  have helnd := helsnd i (by omega)
  obtain ⟨_, _, -, hels0nd⟩ := id hls
  have hel0nd := hels0nd i (by omega)
  have hmemnd := Qb3 ts st0 i (by omega)
  obtain ⟨nd, hndnd⟩ : ∃ z, z = ts.getD i st0 := ⟨_, rfl⟩
  rw [← hndnd] at helnd hel0nd hmemnd
  refine Qab (.pointer (some ⟨gTnd, oTnd + i * 33, none⟩)) 22 rfl kj (Qbc 55 _ _ .i64 i gTnd oTnd ts.length c_t 129 33 a_t (hatnd (by omega)) rfl kj kj kj kj (by omega)) ?_
  obtain ⟨u0nd, hu0nd⟩ := QhB nd helnd.kl
  refine Qab (.agg (cat [ints .u8 (nd.key), #[.slice nd.a nd.rows.length nd.c]])) 23 rfl kj (Qbm 129 _ gTnd (oTnd + i * 33) 33 (cat (stP nd)) u0nd hu0nd (Qcm nd helnd.kl) helnd.cell rfl kj kj kj) ?_
  refine Qav (cat [ints .u8 (List.replicate 32 0), #[.slice none 0 0]]) 129 4 rfl kj kj fun g12 W4 l12 e4 r12_4 => ?_
  have x4 : Ext w W4 := Ext.tr xx1 e4
  have b12 : w.heap.size ≤ g12 := Nat.le_trans xx1.size l12
  refine Qa3 g12 _ (cat [ints .u8 (nd.key), #[.slice nd.a nd.rows.length nd.c]]) 129 r12_4 rfl kj (Qa0 129 _ _ g12 129 _ _ r12_4 rfl kj kj (isz (n := 33) kj (by rw [Qaa, Qaa]; simp only [Array.size_append, cat, ((Qac _ _).trans hel0nd.kl)]; rfl)) (eqsz (n := 33) (by rw [Qaa, Qaa]; simp only [Array.size_append, cat, ((Qac _ _).trans (List.length_replicate (n := 32)))]; rfl) (by rw [Qaa, Qaa]; simp only [Array.size_append, cat, ((Qac _ _).trans hel0nd.kl)]; rfl)) (QaX _ (by intro a ha; simp only [List.mem_cons, List.not_mem_nil, or_false] at ha; rcases ha with rfl | rfl; exact (Qas _ _); exact (Qaq _ rfl)))) fun W5 p5 r12_5 => ?_
  have x5 : Ext w W5 := Puts.ext p5 x4 b12
  refine Qaf ?_
  refine hK11 _ _ ?_
  refine wp_seq_k fun K13 hK13 => ?_
  refine wp_seq_k fun K14 hK14 => ?_
  refine Qae ?_
  refine Qab (.pointer (some ⟨g12, 32, none⟩)) 24 rfl kj kj ?_
  refine Qab (.slice nd.a nd.rows.length nd.c) 25 rfl kj (Qag 127 _ g12 32 129 _ (.slice nd.a nd.rows.length nd.c) _ r12_5 rfl kj (Qah [ints .u8 (nd.key)] [#[.slice nd.a nd.rows.length nd.c]] [] 32 ((Qac _ _).trans hel0nd.kl) 0 _ rfl) kj) ?_
  refine Qab (.int .i64 ((nd.rows.length : Nat) : Int)) 26 rfl kj kj ?_
  refine Qab (.bool (decide (((nd.rows.length : Nat) : Int) > 300))) 27 rfl kj kj ?_
  refine Qaf ?_
  refine hK14 _ _ ?_
  refine Qa5 (t := decide (((nd.rows.length : Nat) : Int) > 300)) kj (fun c15 => ?_) (fun c15 => ?_)
  ·skip
   refine wp_seq_k fun K16 hK16 => ?_
   refine Qae ?_
   refine Qab (.bool false) 2 rfl kj kj ?_
   refine Qaf ?_
   refine hK16 _ _ ?_
   refine wp_ret ?_
   repeat (first | with_reducible refine goR1 ?_ | with_reducible refine goR2 ?_)
   exact (show bodyPost _ _ _ .ret _ _ from ret1 (.bool false) rfl (Qaw kj) ⟨_, rfl, x5, _, rfl, fun h => by cases h⟩)
  ·skip
   have hrl : nd.rows.length ≤ 300 := by have h9 := of_decide_eq_false c15; omega
   refine wp_skip ?_
   refine hK13 _ _ ?_
   refine wp_seq_k fun K17 hK17 => ?_
   refine Qae ?_
   refine Qab (.pointer (some ⟨g12, 32, none⟩)) 28 rfl kj kj ?_
   refine Qab (.slice nd.a nd.rows.length nd.c) 29 rfl kj (Qag 127 _ g12 32 129 _ (.slice nd.a nd.rows.length nd.c) _ r12_5 rfl kj (Qah [ints .u8 (nd.key)] [#[.slice nd.a nd.rows.length nd.c]] [] 32 ((Qac _ _).trans hel0nd.kl) 0 _ rfl) kj) ?_
   refine Qab (.int .i64 ((nd.rows.length : Nat) : Int)) 30 rfl kj kj ?_
   refine Qab (.int .i64 0) 31 rfl kj kj ?_
   refine Qaf ?_
   refine hK17 _ _ ?_
   refine wp_block ?_
   refine QaP (fun (s2 : Nat) => [(1, .pointer (some ⟨g2, 0, none⟩)), (18, .slice a_t ts.length c_t), (19, .int .i64 ((ts.length : Nat) : Int)), (20, .int .i64 ((i : Nat) : Int)), (29, .slice nd.a nd.rows.length nd.c), (30, .int .i64 ((nd.rows.length : Nat) : Int)), (31, .int .i64 ((s2 : Nat) : Int))]) (fun (s2 : Nat) W => (s2 ≤ nd.rows.length) ∧ (Ext W5 W) ∧ (Ext w W)) (fun (s2 : Nat) => nd.rows.length - s2) 0 ⟨rfl, rfl, rfl, rfl, rfl, rfl, rfl, trivial⟩ ⟨(Nat.zero_le _), (Rely.Ext.refl W5), x5⟩ fun s2 X2 V2 hI2 => ?_
   obtain ⟨j, hs2⟩ : ∃ z, z = s2 := ⟨_, rfl⟩
   subst hs2
   obtain ⟨hj, kk2, xx2⟩ := hI2
   replace hj : j ≤ nd.rows.length := hj
   replace kk2 : Ext W5 V2 := kk2
   replace xx2 : Ext w V2 := xx2
   have e6 := kk2
   refine wp_seq_k fun K18 hK18 => ?_
   refine Qae ?_
   refine Qab (.bool (decide (((j : Nat) : Int) < ((nd.rows.length : Nat) : Int)))) 32 rfl kj kj ?_
   refine Qaf ?_
   refine hK18 _ _ ?_
   refine wp_seq_k fun K19 hK19 => ?_
   refine Qa5 (t := decide (((j : Nat) : Int) < ((nd.rows.length : Nat) : Int))) kj (fun c20 => ?_) (fun c20 => ?_)
   ·skip
    have hlt32 : j < nd.rows.length := by have := of_decide_eq_true c20; omega
    refine wp_skip ?_
    refine hK19 _ _ ?_
    refine wp_seq_k fun K21 hK21 => ?_
    refine wp_block ?_
    refine wp_seq_k fun K22 hK22 => ?_
    refine Qae ?_
    obtain ⟨gTnr, oTnr, hatnr, helsnr⟩ := (LsAt.ext rwK hel0nd.rows xx2)
    have helnr := helsnr j (by omega)
    obtain ⟨_, _, -, hels0nr⟩ := id hel0nd.rows
    have hel0nr := hels0nr j (by omega)
    have hmemnr := Qb3 nd.rows rw0 j (by omega)
    obtain ⟨nr, hndnr⟩ : ∃ z, z = nd.rows.getD j rw0 := ⟨_, rfl⟩
    rw [← hndnr] at helnr hel0nr hmemnr
    refine Qab (.pointer (some ⟨gTnr, oTnr + j * 1, none⟩)) 33 rfl kj (Qbc 127 _ _ .i64 j gTnr oTnr nd.rows.length nd.c 26 1 nd.a (hatnr (by omega)) rfl kj kj kj kj (by omega)) ?_
    refine Qab (.slice nr.a nr.xs.length nr.c) 34 rfl kj (QbG 26 _ gTnr (oTnr + j * 1) _ helnr.cell rfl kj kj) ?_
    refine Qab (.slice nr.a nr.xs.length nr.c) 6 rfl kj kj ?_
    refine Qaf ?_
    refine hK22 _ _ ?_
    refine wp_seq_k fun K23 hK23 => ?_
    rcases (show nr.xs.length ≤ 300 ∨ (300 < nr.xs.length ∧ nr.xs.length < 65536) ∨ (300 < nr.xs.length ∧ 65536 ≤ nr.xs.length) by omega) with hc1 | ⟨hc1, hc2⟩ | ⟨hc1, hc2⟩
    ·skip
     refine Qae ?_
     refine Qab (.slice nr.a nr.xs.length nr.c) 35 rfl kj kj ?_
     refine Qab (.int .i64 ((nr.xs.length : Nat) : Int)) 36 rfl kj kj ?_
     refine Qab (.bool false) 37 rfl kj (Qax (u := .bool (decide (((nr.xs.length : Nat) : Int) > 300))) kj (congrArg Value.bool (decide_eq_false (by omega)))) ?_
     refine Qab (.bool false) 38 rfl kj kj ?_
     refine Qao 39 rfl kj ?_
     refine Qao 40 rfl kj ?_
     refine Qao 41 rfl kj ?_
     refine Qab (.bool false) 42 rfl kj kj ?_
     refine Qaf ?_
     refine hK23 _ _ ?_
     refine cond_false kj ?_
     refine wp_skip ?_
     refine hK21 _ _ ?_
     refine Qae ?_
     refine Qab (.int .i64 ((j + 1 : Nat) : Int)) 43 rfl kj (Qax (u := .int .i64 (IntKind.i64.wrap (((j : Nat) : Int) + 1))) kj (congrArg (Value.int .i64) (i64n _ _ (by omega) (by omega)))) ?_
     refine Qab (.int .i64 ((j + 1 : Nat) : Int)) 31 rfl kj kj ?_
     refine Qaf ?_
     repeat (first | with_reducible refine goX1 ?_ | with_reducible refine goX2 ?_ | with_reducible refine goX3 ?_)
     exact QaK (j + 1) ⟨rfl, rfl, rfl, rfl, rfl, rfl, rfl, trivial⟩ ⟨(by omega), e6, xx2⟩ (by omega)
    ·skip
     refine Qae ?_
     refine Qab (.slice nr.a nr.xs.length nr.c) 35 rfl kj kj ?_
     refine Qab (.int .i64 ((nr.xs.length : Nat) : Int)) 36 rfl kj kj ?_
     refine Qab (.bool true) 37 rfl kj (Qax (u := .bool (decide (((nr.xs.length : Nat) : Int) > 300))) kj (congrArg Value.bool (decide_eq_true (by omega)))) ?_
     refine Qab (.bool true) 38 rfl kj kj ?_
     refine Qab (.slice nr.a nr.xs.length nr.c) 39 rfl kj kj ?_
     refine Qab (.int .i64 ((nr.xs.length : Nat) : Int)) 40 rfl kj kj ?_
     refine Qab (.bool true) 41 rfl kj (Qax (u := .bool (decide (((nr.xs.length : Nat) : Int) < 65536))) kj (congrArg Value.bool (decide_eq_true (by omega)))) ?_
     refine Qab (.bool true) 42 rfl kj kj ?_
     refine Qaf ?_
     refine hK23 _ _ ?_
     refine cond_true kj ?_
     refine wp_seq_k fun K24 hK24 => ?_
     refine Qae ?_
     refine Qab (.bool false) 2 rfl kj kj ?_
     refine Qaf ?_
     refine hK24 _ _ ?_
     refine wp_ret ?_
     repeat (first | with_reducible refine goR1 ?_ | with_reducible refine goR2 ?_)
     exact (show bodyPost _ _ _ .ret _ _ from ret1 (.bool false) rfl (Qaw kj) ⟨_, rfl, xx2, _, rfl, fun h => by cases h⟩)
    ·skip
     refine Qae ?_
     refine Qab (.slice nr.a nr.xs.length nr.c) 35 rfl kj kj ?_
     refine Qab (.int .i64 ((nr.xs.length : Nat) : Int)) 36 rfl kj kj ?_
     refine Qab (.bool true) 37 rfl kj (Qax (u := .bool (decide (((nr.xs.length : Nat) : Int) > 300))) kj (congrArg Value.bool (decide_eq_true (by omega)))) ?_
     refine Qab (.bool true) 38 rfl kj kj ?_
     refine Qab (.slice nr.a nr.xs.length nr.c) 39 rfl kj kj ?_
     refine Qab (.int .i64 ((nr.xs.length : Nat) : Int)) 40 rfl kj kj ?_
     refine Qab (.bool false) 41 rfl kj (Qax (u := .bool (decide (((nr.xs.length : Nat) : Int) < 65536))) kj (congrArg Value.bool (decide_eq_false (by omega)))) ?_
     refine Qab (.bool false) 42 rfl kj kj ?_
     refine Qaf ?_
     refine hK23 _ _ ?_
     refine cond_false kj ?_
     refine wp_skip ?_
     refine hK21 _ _ ?_
     refine Qae ?_
     refine Qab (.int .i64 ((j + 1 : Nat) : Int)) 43 rfl kj (Qax (u := .int .i64 (IntKind.i64.wrap (((j : Nat) : Int) + 1))) kj (congrArg (Value.int .i64) (i64n _ _ (by omega) (by omega)))) ?_
     refine Qab (.int .i64 ((j + 1 : Nat) : Int)) 31 rfl kj kj ?_
     refine Qaf ?_
     repeat (first | with_reducible refine goX1 ?_ | with_reducible refine goX2 ?_ | with_reducible refine goX3 ?_)
     exact QaK (j + 1) ⟨rfl, rfl, rfl, rfl, rfl, rfl, rfl, trivial⟩ ⟨(by omega), e6, xx2⟩ (by omega)
   ·skip
    have heq32 : j = nd.rows.length := by have := of_decide_eq_false c20; omega
    refine wp_exit ?_
    refine hK10 _ _ ?_
    refine Qae ?_
    refine Qab (.int .i64 ((i + 1 : Nat) : Int)) 44 rfl kj (Qax (u := .int .i64 (IntKind.i64.wrap (((i : Nat) : Int) + 1))) kj (congrArg (Value.int .i64) (i64n _ _ (by omega) (by omega)))) ?_
    refine Qab (.int .i64 ((i + 1 : Nat) : Int)) 20 rfl kj kj ?_
    refine Qaf ?_
    have y2_4 : Ext W2 W4 := (Rely.Ext.trans e3 e4)
    have y2_5 : Ext W2 W5 := (Puts.ext p5 y2_4 (Nat.le_trans e3.size l12))
    have y2_6 : Ext W2 V2 := (Rely.Ext.trans y2_5 e6)
    repeat (first | with_reducible refine goX1 ?_ | with_reducible refine goX2 ?_ | with_reducible refine goX3 ?_)
    exact QaK (i + 1) ⟨rfl, rfl, rfl, rfl, trivial⟩ ⟨(by omega), (fun j hj => (Nat.lt_or_ge j i).elim (hr j) fun h => by have e : j = i := (by omega); rw [e, ← hndnd]; exact hrl), y2_6, xx2⟩ (by omega)
 ·skip
  have heq21 : i = ts.length := by have := of_decide_eq_false c9; omega
  refine wp_exit ?_
  refine hK5 _ _ ?_
  refine wp_seq_k fun K25 hK25 => ?_
  refine Qae ?_
  refine Qab (.bool true) 2 rfl kj kj ?_
  refine Qaf ?_
  refine hK25 _ _ ?_
  refine wp_ret ?_
  repeat (first | with_reducible refine goR1 ?_ | with_reducible refine goR2 ?_)
  exact (show bodyPost _ _ _ .ret _ _ from ret1 (.bool true) rfl (Qaw kj) ⟨_, rfl, xx1, _, rfl, fun _ => ⟨h1, h2, fun j hj => hr j (by omega)⟩⟩)
theorem chkP (n : NdC) (ts : List StV) (a_m : Option Addr) (c_m : Nat) (a_t : Option Addr) (c_t : Nat) (w : World) (hn : NdOk n) (hm : RdK .i64 w.heap.size n.ms (.slice a_m n.ms.length c_m) w) (hls : LsAt StAt 33 st0 w.heap.size w a_t ts) : Calls Try.prog 24 #[.agg (cat [#[.bool n.us], #[.int .i64 n.nm], ints .u8 (n.key), ints .u8 (n.sg), ints .u8 (n.pa), #[.slice a_m n.ms.length c_m], #[.slice a_t ts.length c_t]])] w (fun e W => ∃ v, e = .returned v ∧ Ext w W ∧ ∃ b, v = .bool b ∧ (b = true → n.ms.length < 100 ∧ ts.length ≤ 10 ∧ ∀ j, j < ts.length → (ts.getD j st0).rows.length ≤ 300)) := by
  by_cases h1 : n.ms.length < 100
  · by_cases h2 : ts.length ≤ 10
    · exact Qja n ts a_m c_m a_t c_t w hn hm hls h1 h2
    · exact Qjb n ts a_m c_m a_t c_t w hn hm hls h1 (by omega)
  · exact Qjc n ts a_m c_m a_t c_t w hn hm hls (by omega)
end Go.Proofs.Ytfelfmchachljaa.Wr
end
section
namespace Go.Proofs.Ytfelfmchachljaa.Wr
open Go Go.RowKit
open Rely Auto Own Sha
set_option linter.unusedVariables false
set_option linter.unusedSimpArgs false
theorem Qh4 {ps : List PrV} {n : NdC} {ts : List StV} (h1 : ps.length ≤ 1000000) (hr : ∀ j, j < ps.length → (ps.getD j pr0).p.n.ms.length < 100) (hb1 : n.ms.length < 100) (hb2 : ts.length ≤ 10) (hb3 : ∀ j, j < ts.length → (ts.getD j st0).rows.length ≤ 300) : CmSz ps n ts :=
  ⟨h1, fun p hp => by
    obtain ⟨j, hj, e⟩ := List.mem_iff_getElem.1 hp
    have h9 := hr j hj
    rw [List.getD_eq_getElem?_getD, List.getElem?_eq_getElem hj] at h9
    rw [← e]; exact Nat.le_of_lt (Nat.lt_trans h9 (by decide)), by omega, by omega, fun t ht => by
    obtain ⟨j, hj, e⟩ := List.mem_iff_getElem.1 ht
    have h9 := hb3 j hj
    rw [List.getD_eq_getElem?_getD, List.getElem?_eq_getElem hj] at h9
    rw [← e]; exact ⟨Nat.le_trans h9 (by decide), fun _ _ => trivial⟩⟩
set_option maxHeartbeats 4000000 in
set_option maxRecDepth 100000 in
theorem QiS (grp : List Int) (ep fr : Int) (bas : List Int) (ps : List PrV) (n : NdC) (ts : List StV) (tag sig : List Int) (a_p : Option Addr) (c_p : Nat) (a_m : Option Addr) (c_m : Nat) (a_t : Option Addr) (c_t : Nat) (w : World) (ho : CmOk grp bas n tag sig) (hcm : CmAt w.heap.size w ps a_p n a_m c_m ts a_t) (h1 : 300 ≤ ps.length) : Calls Try.prog 5 #[.agg (cat [ints .u8 (grp), #[.int .i64 ep], #[.int .i64 fr], ints .u8 (bas), #[.slice a_p ps.length c_p], #[.bool n.us], #[.int .i64 n.nm], ints .u8 (n.key), ints .u8 (n.sg), ints .u8 (n.pa), #[.slice a_m n.ms.length c_m], #[.slice a_t ts.length c_t], ints .u8 (tag), ints .u8 (sig)])] w (Ret w (.bool true)) := by
  refine enter 91 [(0, .agg (cat [ints .u8 (grp), #[.int .i64 ep], #[.int .i64 fr], ints .u8 (bas), #[.slice a_p ps.length c_p], #[.bool n.us], #[.int .i64 n.nm], ints .u8 (n.key), ints .u8 (n.sg), ints .u8 (n.pa), #[.slice a_m n.ms.length c_m], #[.slice a_t ts.length c_t], ints .u8 (tag), ints .u8 (sig)]))] Try.func5 rfl rfl kj rfl ?_
  refine wp_seq_k fun K1 hK1 => ?_
  refine Qae ?_
  refine Qav (cat [ints .u8 (grp), #[.int .i64 ep], #[.int .i64 fr], ints .u8 (bas), #[.slice a_p ps.length c_p], #[.bool n.us], #[.int .i64 n.nm], ints .u8 (n.key), ints .u8 (n.sg), ints .u8 (n.pa), #[.slice a_m n.ms.length c_m], #[.slice a_t ts.length c_t], ints .u8 (tag), ints .u8 (sig)]) 59 1 rfl kj kj fun g2 W1 l2 e1 r2_1 => ?_
  have x1 : Ext w W1 := Ext.tr (Rely.Ext.refl w) e1
  have b2 : w.heap.size ≤ g2 := Nat.le_trans (Rely.Ext.refl w).size l2
  refine Qab (.bool false) 2 rfl kj kj ?_
  refine Qaf ?_
  refine hK1 _ _ ?_
  refine wp_seq_k fun K3 hK3 => ?_
  refine wp_seq_k fun K4 hK4 => ?_
  refine Qae ?_
  refine Qa1 (.bool true) 12 #[] 14 rfl kj kj ((QgC) _) fun W2 e2 => ?_
  have x2 : Ext w W2 := Ext.tr x1 e2
  refine Qab (.bool false) 15 rfl kj kj ?_
  refine Qaf ?_
  refine hK4 _ _ ?_
  refine cond_false kj ?_
  refine wp_skip ?_
  refine hK3 _ _ ?_
  refine wp_seq_k fun K5 hK5 => ?_
  refine wp_seq_k fun K6 hK6 => ?_
  refine Qae ?_
  refine Qab (.pointer (some ⟨g2, 66, none⟩)) 16 rfl kj kj ?_
  have r2_2 := (Qar r2_1 e2)
  refine Qab (.slice a_p ps.length c_p) 17 rfl kj (Qag 54 _ g2 66 59 _ (.slice a_p ps.length c_p) _ r2_2 rfl kj (Qah [ints .u8 (grp), #[.int .i64 ep], #[.int .i64 fr], ints .u8 (bas)] [#[.slice a_p ps.length c_p]] [#[.bool n.us], #[.int .i64 n.nm], ints .u8 (n.key), ints .u8 (n.sg), ints .u8 (n.pa), #[.slice a_m n.ms.length c_m], #[.slice a_t ts.length c_t], ints .u8 (tag), ints .u8 (sig)] 66 (by rw [Qaa, Qaa, Qaa, Qaa]; simp only [Array.size_append, cat, ((Qac _ _).trans ho.al), ((Qac _ _).trans ho.rl)]; rfl) 0 _ rfl) kj) ?_
  refine Qab (.int .i64 ((ps.length : Nat) : Int)) 18 rfl kj kj ?_
  refine Qab (.bool false) 19 rfl kj (Qax (u := .bool (decide (((ps.length : Nat) : Int) < 300))) kj (congrArg Value.bool (decide_eq_false (by omega)))) ?_
  refine Qab (.bool false) 20 rfl kj kj ?_
  refine Qao 21 rfl kj ?_
  refine Qao 22 rfl kj ?_
  refine Qao 23 rfl kj ?_
  refine Qab (.bool false) 24 rfl kj kj ?_
  refine Qab (.bool true) 25 rfl kj kj ?_
  refine Qaf ?_
  refine hK6 _ _ ?_
  refine cond_true kj ?_
  refine wp_seq_k fun K7 hK7 => ?_
  refine Qae ?_
  refine Qab (.bool true) 2 rfl kj kj ?_
  refine Qaf ?_
  refine hK7 _ _ ?_
  refine wp_ret ?_
  repeat (first | with_reducible refine goR1 ?_ | with_reducible refine goR2 ?_)
  exact (show bodyPost _ _ _ .ret _ _ from ret1 (.bool true) rfl (Qaw kj) ⟨rfl, x2⟩)
set_option maxHeartbeats 4000000 in
set_option maxRecDepth 100000 in
theorem QiR (grp : List Int) (ep fr : Int) (bas : List Int) (ps : List PrV) (n : NdC) (ts : List StV) (tag sig : List Int) (a_p : Option Addr) (c_p : Nat) (a_m : Option Addr) (c_m : Nat) (a_t : Option Addr) (c_t : Nat) (w : World) (ho : CmOk grp bas n tag sig) (hcm : CmAt w.heap.size w ps a_p n a_m c_m ts a_t) (h1 : ps.length < 300) (hS : refC grp ep fr bas ps n ts tag sig = none) : Calls Try.prog 5 #[.agg (cat [ints .u8 (grp), #[.int .i64 ep], #[.int .i64 fr], ints .u8 (bas), #[.slice a_p ps.length c_p], #[.bool n.us], #[.int .i64 n.nm], ints .u8 (n.key), ints .u8 (n.sg), ints .u8 (n.pa), #[.slice a_m n.ms.length c_m], #[.slice a_t ts.length c_t], ints .u8 (tag), ints .u8 (sig)])] w (Ret w (.bool true)) := by
 refine enter 91 [(0, .agg (cat [ints .u8 (grp), #[.int .i64 ep], #[.int .i64 fr], ints .u8 (bas), #[.slice a_p ps.length c_p], #[.bool n.us], #[.int .i64 n.nm], ints .u8 (n.key), ints .u8 (n.sg), ints .u8 (n.pa), #[.slice a_m n.ms.length c_m], #[.slice a_t ts.length c_t], ints .u8 (tag), ints .u8 (sig)]))] Try.func5 rfl rfl kj rfl ?_
 refine wp_seq_k fun K1 hK1 => ?_
 refine Qae ?_
 refine Qav (cat [ints .u8 (grp), #[.int .i64 ep], #[.int .i64 fr], ints .u8 (bas), #[.slice a_p ps.length c_p], #[.bool n.us], #[.int .i64 n.nm], ints .u8 (n.key), ints .u8 (n.sg), ints .u8 (n.pa), #[.slice a_m n.ms.length c_m], #[.slice a_t ts.length c_t], ints .u8 (tag), ints .u8 (sig)]) 59 1 rfl kj kj fun g2 W1 l2 e1 r2_1 => ?_
 have x1 : Ext w W1 := Ext.tr (Rely.Ext.refl w) e1
 have b2 : w.heap.size ≤ g2 := Nat.le_trans (Rely.Ext.refl w).size l2
 refine Qab (.bool false) 2 rfl kj kj ?_
 refine Qaf ?_
 refine hK1 _ _ ?_
 refine wp_seq_k fun K3 hK3 => ?_
 refine wp_seq_k fun K4 hK4 => ?_
 refine Qae ?_
 refine Qa1 (.bool true) 12 #[] 14 rfl kj kj ((QgC) _) fun W2 e2 => ?_
 have x2 : Ext w W2 := Ext.tr x1 e2
 refine Qab (.bool false) 15 rfl kj kj ?_
 refine Qaf ?_
 refine hK4 _ _ ?_
 refine cond_false kj ?_
 refine wp_skip ?_
 refine hK3 _ _ ?_
 refine wp_seq_k fun K5 hK5 => ?_
 refine wp_seq_k fun K6 hK6 => ?_
 refine Qae ?_
 refine Qab (.pointer (some ⟨g2, 66, none⟩)) 16 rfl kj kj ?_
 have r2_2 := (Qar r2_1 e2)
 refine Qab (.slice a_p ps.length c_p) 17 rfl kj (Qag 54 _ g2 66 59 _ (.slice a_p ps.length c_p) _ r2_2 rfl kj (Qah [ints .u8 (grp), #[.int .i64 ep], #[.int .i64 fr], ints .u8 (bas)] [#[.slice a_p ps.length c_p]] [#[.bool n.us], #[.int .i64 n.nm], ints .u8 (n.key), ints .u8 (n.sg), ints .u8 (n.pa), #[.slice a_m n.ms.length c_m], #[.slice a_t ts.length c_t], ints .u8 (tag), ints .u8 (sig)] 66 (by rw [Qaa, Qaa, Qaa, Qaa]; simp only [Array.size_append, cat, ((Qac _ _).trans ho.al), ((Qac _ _).trans ho.rl)]; rfl) 0 _ rfl) kj) ?_
 refine Qab (.int .i64 ((ps.length : Nat) : Int)) 18 rfl kj kj ?_
 refine Qab (.bool true) 19 rfl kj (Qax (u := .bool (decide (((ps.length : Nat) : Int) < 300))) kj (congrArg Value.bool (decide_eq_true (by omega)))) ?_
 refine Qab (.bool true) 20 rfl kj kj ?_
 refine Qab (.pointer (some ⟨g2, 67, none⟩)) 21 rfl kj kj ?_
 refine Qab (.agg (cat [#[.bool n.us], #[.int .i64 n.nm], ints .u8 (n.key), ints .u8 (n.sg), ints .u8 (n.pa), #[.slice a_m n.ms.length c_m], #[.slice a_t ts.length c_t]])) 22 rfl kj (Qau 57 _ g2 67 59 _ _ _ r2_2 rfl kj (Qah [ints .u8 (grp), #[.int .i64 ep], #[.int .i64 fr], ints .u8 (bas), #[.slice a_p ps.length c_p]] [#[.bool n.us], #[.int .i64 n.nm], ints .u8 (n.key), ints .u8 (n.sg), ints .u8 (n.pa), #[.slice a_m n.ms.length c_m], #[.slice a_t ts.length c_t]] [ints .u8 (tag), ints .u8 (sig)] 67 (by rw [Qaa, Qaa, Qaa, Qaa, Qaa]; simp only [Array.size_append, cat, ((Qac _ _).trans ho.al), ((Qac _ _).trans ho.rl)]; rfl)) kj (isz (n := 100) kj (by rw [Qaa, Qaa, Qaa, Qaa, Qaa, Qaa, Qaa]; simp only [Array.size_append, cat, ((Qac _ _).trans ho.n.gl), ((Qac _ _).trans ho.n.kl), ((Qac _ _).trans ho.n.pl)]; rfl))) ?_
 refine Qak (fun v W' => (fun (v : Value) (_ : World) => ∃ b, v = .bool b ∧ (b = true → n.ms.length < 100 ∧ ts.length ≤ 10 ∧ ∀ j, j < ts.length → (ts.getD j st0).rows.length ≤ 300)) v W' ∧ Ext W2 W') 24 #[.agg (cat [#[.bool n.us], #[.int .i64 n.nm], ints .u8 (n.key), ints .u8 (n.sg), ints .u8 (n.pa), #[.slice a_m n.ms.length c_m], #[.slice a_t ts.length c_t]])] 23 rfl kj kj ((chkP n ts _ _ _ _ _ ho.n (RdK.here (RdK.ext hcm.m x2)) ((hcm.ts.ext stK x2).here stK)).mono (by rintro e w' ⟨v, rfl, e1, hv⟩; exact ⟨v, rfl, hv, e1⟩)) fun vv7 W3 hh7 => ?_
 obtain ⟨hv7, e3⟩ := hh7
 have x3 : Ext w W3 := Ext.tr x2 e3
 obtain ⟨bk, rfl, hbk⟩ := hv7
 refine Qab (.bool bk) 24 rfl kj kj ?_
 refine Qab (.bool (!bk)) 25 rfl kj kj ?_
 refine Qaf ?_
 refine hK6 _ _ ?_
 refine Qa5 (t := !bk) kj (fun c8 => ?_) (fun c8 => ?_)
 ·skip
  refine wp_seq_k fun K9 hK9 => ?_
  refine Qae ?_
  refine Qab (.bool true) 2 rfl kj kj ?_
  refine Qaf ?_
  refine hK9 _ _ ?_
  refine wp_ret ?_
  repeat (first | with_reducible refine goR1 ?_ | with_reducible refine goR2 ?_)
  exact (show bodyPost _ _ _ .ret _ _ from ret1 (.bool true) rfl (Qaw kj) ⟨rfl, x3⟩)
 ·skip
  obtain ⟨hb1, hb2, hb3⟩ := hbk (by have h9 := c8; cases bk with | true => rfl | false => cases h9)
  refine wp_skip ?_
  refine hK5 _ _ ?_
  refine wp_seq_k fun K10 hK10 => ?_
  refine wp_seq_k fun K11 hK11 => ?_
  refine Qae ?_
  refine Qab (.pointer (some ⟨g2, 66, none⟩)) 26 rfl kj kj ?_
  have r2_3 := (Qar r2_2 e3)
  refine Qab (.slice a_p ps.length c_p) 27 rfl kj (Qag 54 _ g2 66 59 _ (.slice a_p ps.length c_p) _ r2_3 rfl kj (Qah [ints .u8 (grp), #[.int .i64 ep], #[.int .i64 fr], ints .u8 (bas)] [#[.slice a_p ps.length c_p]] [#[.bool n.us], #[.int .i64 n.nm], ints .u8 (n.key), ints .u8 (n.sg), ints .u8 (n.pa), #[.slice a_m n.ms.length c_m], #[.slice a_t ts.length c_t], ints .u8 (tag), ints .u8 (sig)] 66 (by rw [Qaa, Qaa, Qaa, Qaa]; simp only [Array.size_append, cat, ((Qac _ _).trans ho.al), ((Qac _ _).trans ho.rl)]; rfl) 0 _ rfl) kj) ?_
  refine Qab (.int .i64 ((ps.length : Nat) : Int)) 28 rfl kj kj ?_
  refine Qab (.int .i64 0) 29 rfl kj kj ?_
  refine Qaf ?_
  refine hK11 _ _ ?_
  refine wp_block ?_
  refine QaP (fun (s1 : Nat) => [(1, .pointer (some ⟨g2, 0, none⟩)), (27, .slice a_p ps.length c_p), (28, .int .i64 ((ps.length : Nat) : Int)), (29, .int .i64 ((s1 : Nat) : Int))]) (fun (s1 : Nat) W => (s1 ≤ ps.length) ∧ (∀ j, j < s1 → (ps.getD j pr0).p.n.ms.length < 100) ∧ (Ext W3 W) ∧ (Ext w W)) (fun (s1 : Nat) => ps.length - s1) 0 ⟨rfl, rfl, rfl, rfl, trivial⟩ ⟨(Nat.zero_le _), (fun j hj => absurd hj (Nat.not_lt_zero _)), (Rely.Ext.refl W3), x3⟩ fun s1 X1 V1 hI1 => ?_
  obtain ⟨i, hs1⟩ : ∃ z, z = s1 := ⟨_, rfl⟩
  subst hs1
  obtain ⟨hi, hr, kk1, xx1⟩ := hI1
  replace hi : i ≤ ps.length := hi
  replace hr : ∀ j, j < i → (ps.getD j pr0).p.n.ms.length < 100 := hr
  replace kk1 : Ext W3 V1 := kk1
  replace xx1 : Ext w V1 := xx1
  have e4 := kk1
  refine wp_seq_k fun K12 hK12 => ?_
  refine Qae ?_
  refine Qab (.bool (decide (((i : Nat) : Int) < ((ps.length : Nat) : Int)))) 30 rfl kj kj ?_
  refine Qaf ?_
  refine hK12 _ _ ?_
  refine wp_seq_k fun K13 hK13 => ?_
  refine Qa5 (t := decide (((i : Nat) : Int) < ((ps.length : Nat) : Int))) kj (fun c14 => ?_) (fun c14 => ?_)
  ·skip
   have hlt30 : i < ps.length := by have := of_decide_eq_true c14; omega
   refine wp_skip ?_
   refine hK13 _ _ ?_
   refine wp_seq_k fun K15 hK15 => ?_
   refine wp_block ?_
   refine wp_seq_k fun K16 hK16 => ?_
   refine Qae ?_
   obtain ⟨gTnd, oTnd, hatnd, helsnd⟩ := (LsAt.ext prK hcm.ps xx1)
   have helnd := helsnd i (by omega)
   obtain ⟨_, _, -, hels0nd⟩ := id hcm.ps
   have hel0nd := hels0nd i (by omega)
   have hmemnd := Qb3 ps pr0 i (by omega)
   obtain ⟨nd, hndnd⟩ : ∃ z, z = ps.getD i pr0 := ⟨_, rfl⟩
   rw [← hndnd] at helnd hel0nd hmemnd
   have hok := hel0nd.ok
   refine Qab (.pointer (some ⟨gTnd, oTnd + i * 263, none⟩)) 31 rfl kj (Qbc 54 _ _ .i64 i gTnd oTnd ps.length c_p 47 263 a_p (hatnd (by omega)) rfl kj kj kj kj (by omega)) ?_
   obtain ⟨u0nd, hu0nd⟩ := Qek nd helnd.ok
   refine Qab (.agg (cat [ints .u8 (nd.p.grp), #[.int .i64 nd.p.ep], #[.int .i64 nd.p.fr], ints .u8 (nd.p.bas), #[.int .i64 nd.p.kd], #[.bool nd.p.n.us], #[.int .i64 nd.p.n.nm], ints .u8 (nd.p.n.key), ints .u8 (nd.p.n.sg), ints .u8 (nd.p.n.pa), #[.slice nd.a nd.p.n.ms.length nd.c], ints .u8 (nd.p.start), #[.int .i64 nd.p.at_], ints .u8 (nd.p.sig)])) 32 rfl kj (Qbm 47 _ gTnd (oTnd + i * 263) 263 (cat (prP nd)) u0nd hu0nd (Qb5 nd helnd.ok) helnd.cell rfl kj kj kj) ?_
   refine Qav (cat [ints .u8 (List.replicate 32 0), #[.int .i64 0], #[.int .i64 0], ints .u8 (List.replicate 32 0), #[.int .i64 0], #[.bool false], #[.int .i64 0], ints .u8 (List.replicate 32 0), ints .u8 (List.replicate 32 0), ints .u8 (List.replicate 32 0), #[.slice none 0 0], ints .u8 (List.replicate 32 0), #[.int .i64 0], ints .u8 (List.replicate 64 0)]) 47 4 rfl kj (Qbe 47 _ rfl (Qcd _)) fun g17 W5 l17 e5 r17_5 => ?_
   have x5 : Ext w W5 := Ext.tr xx1 e5
   have b17 : w.heap.size ≤ g17 := Nat.le_trans xx1.size l17
   refine Qa3 g17 _ (cat [ints .u8 (nd.p.grp), #[.int .i64 nd.p.ep], #[.int .i64 nd.p.fr], ints .u8 (nd.p.bas), #[.int .i64 nd.p.kd], #[.bool nd.p.n.us], #[.int .i64 nd.p.n.nm], ints .u8 (nd.p.n.key), ints .u8 (nd.p.n.sg), ints .u8 (nd.p.n.pa), #[.slice nd.a nd.p.n.ms.length nd.c], ints .u8 (nd.p.start), #[.int .i64 nd.p.at_], ints .u8 (nd.p.sig)]) 47 r17_5 rfl kj (Qa0 47 _ _ g17 47 _ _ r17_5 rfl kj kj (isz (n := 263) kj (by rw [Qaa, Qaa, Qaa, Qaa, Qaa, Qaa, Qaa, Qaa, Qaa, Qaa, Qaa, Qaa, Qaa, Qaa]; simp only [Array.size_append, cat, ((Qac _ _).trans hok.al), ((Qac _ _).trans hok.il), ((Qac _ _).trans hok.n.gl), ((Qac _ _).trans hok.n.kl), ((Qac _ _).trans hok.n.pl), ((Qac _ _).trans hok.rl), ((Qac _ _).trans hok.tl)]; rfl)) (eqsz (n := 263) (by rw [Qaa, Qaa, Qaa, Qaa, Qaa, Qaa, Qaa, Qaa, Qaa, Qaa, Qaa, Qaa, Qaa, Qaa]; simp only [Array.size_append, cat, ((Qac _ _).trans (List.length_replicate (n := 32))), ((Qac _ _).trans (List.length_replicate (n := 64)))]; rfl) (by rw [Qaa, Qaa, Qaa, Qaa, Qaa, Qaa, Qaa, Qaa, Qaa, Qaa, Qaa, Qaa, Qaa, Qaa]; simp only [Array.size_append, cat, ((Qac _ _).trans hok.al), ((Qac _ _).trans hok.il), ((Qac _ _).trans hok.n.gl), ((Qac _ _).trans hok.n.kl), ((Qac _ _).trans hok.n.pl), ((Qac _ _).trans hok.rl), ((Qac _ _).trans hok.tl)]; rfl)) (QaX _ (by intro a ha; simp only [List.mem_cons, List.not_mem_nil, or_false] at ha; rcases ha with rfl | rfl | rfl | rfl | rfl | rfl | rfl | rfl | rfl | rfl | rfl | rfl | rfl | rfl; exact (Qas _ _); exact (Qaq _ rfl); exact (Qaq _ rfl); exact (Qas _ _); exact (Qaq _ rfl); exact (Qaq _ rfl); exact (Qaq _ rfl); exact (Qas _ _); exact (Qas _ _); exact (Qas _ _); exact (Qaq _ rfl); exact (Qas _ _); exact (Qaq _ rfl); exact (Qas _ _)))) fun W6 p6 r17_6 => ?_
   have x6 : Ext w W6 := Puts.ext p6 x5 b17
   refine Qaf ?_
   refine hK16 _ _ ?_
   refine wp_seq_k fun K18 hK18 => ?_
   rcases (show nd.p.n.ms.length < 100 ∨ 100 ≤ nd.p.n.ms.length by omega) with hc2 | hc2
   ·skip
    refine Qae ?_
    refine Qab (.pointer (some ⟨g17, 67, none⟩)) 33 rfl kj kj ?_
    refine Qab (.agg (cat [#[.bool nd.p.n.us], #[.int .i64 nd.p.n.nm], ints .u8 (nd.p.n.key), ints .u8 (nd.p.n.sg), ints .u8 (nd.p.n.pa), #[.slice nd.a nd.p.n.ms.length nd.c]])) 34 rfl kj (Qau 43 _ g17 67 47 _ _ _ r17_6 rfl kj (Qah [ints .u8 (nd.p.grp), #[.int .i64 nd.p.ep], #[.int .i64 nd.p.fr], ints .u8 (nd.p.bas), #[.int .i64 nd.p.kd]] [#[.bool nd.p.n.us], #[.int .i64 nd.p.n.nm], ints .u8 (nd.p.n.key), ints .u8 (nd.p.n.sg), ints .u8 (nd.p.n.pa), #[.slice nd.a nd.p.n.ms.length nd.c]] [ints .u8 (nd.p.start), #[.int .i64 nd.p.at_], ints .u8 (nd.p.sig)] 67 (by rw [Qaa, Qaa, Qaa, Qaa, Qaa]; simp only [Array.size_append, cat, ((Qac _ _).trans hok.al), ((Qac _ _).trans hok.rl)]; rfl)) kj (isz (n := 99) kj (by rw [Qaa, Qaa, Qaa, Qaa, Qaa, Qaa]; simp only [Array.size_append, cat, ((Qac _ _).trans hok.n.gl), ((Qac _ _).trans hok.n.kl), ((Qac _ _).trans hok.n.pl)]; rfl))) ?_
    refine Qa1 (.bool true) 20 #[.agg (cat [#[.bool nd.p.n.us], #[.int .i64 nd.p.n.nm], ints .u8 (nd.p.n.key), ints .u8 (nd.p.n.sg), ints .u8 (nd.p.n.pa), #[.slice nd.a nd.p.n.ms.length nd.c]])] 35 rfl kj kj (Qdr nd.p.n.us nd.p.n.nm nd.p.n.key nd.p.n.sg nd.p.n.pa nd.p.n.ms _ _ _ hok.n.kl hok.n.gl hok.n.pl hc2) fun W7 e7 => ?_
    have x7 : Ext w W7 := Ext.tr x6 e7
    refine Qab (.bool false) 36 rfl kj kj ?_
    refine Qaf ?_
    refine hK18 _ _ ?_
    refine cond_false kj ?_
    refine wp_skip ?_
    refine hK15 _ _ ?_
    refine Qae ?_
    refine Qab (.int .i64 ((i + 1 : Nat) : Int)) 37 rfl kj (Qax (u := .int .i64 (IntKind.i64.wrap (((i : Nat) : Int) + 1))) kj (congrArg (Value.int .i64) (i64n _ _ (by omega) (by omega)))) ?_
    refine Qab (.int .i64 ((i + 1 : Nat) : Int)) 29 rfl kj kj ?_
    refine Qaf ?_
    have y3_5 : Ext W3 W5 := (Rely.Ext.trans e4 e5)
    have y3_6 : Ext W3 W6 := (Puts.ext p6 y3_5 (Nat.le_trans e4.size l17))
    have y3_7 : Ext W3 W7 := (Rely.Ext.trans y3_6 e7)
    repeat (first | with_reducible refine goX1 ?_ | with_reducible refine goX2 ?_ | with_reducible refine goX3 ?_)
    exact QaK (i + 1) ⟨rfl, rfl, rfl, rfl, trivial⟩ ⟨(by omega), (fun j hj => (Nat.lt_or_ge j i).elim (hr j) fun h => by have e : j = i := (by omega); rw [e, ← hndnd]; exact hc2), y3_7, x7⟩ (by omega)
   ·skip
    refine Qae ?_
    refine Qab (.pointer (some ⟨g17, 67, none⟩)) 33 rfl kj kj ?_
    refine Qab (.agg (cat [#[.bool nd.p.n.us], #[.int .i64 nd.p.n.nm], ints .u8 (nd.p.n.key), ints .u8 (nd.p.n.sg), ints .u8 (nd.p.n.pa), #[.slice nd.a nd.p.n.ms.length nd.c]])) 34 rfl kj (Qau 43 _ g17 67 47 _ _ _ r17_6 rfl kj (Qah [ints .u8 (nd.p.grp), #[.int .i64 nd.p.ep], #[.int .i64 nd.p.fr], ints .u8 (nd.p.bas), #[.int .i64 nd.p.kd]] [#[.bool nd.p.n.us], #[.int .i64 nd.p.n.nm], ints .u8 (nd.p.n.key), ints .u8 (nd.p.n.sg), ints .u8 (nd.p.n.pa), #[.slice nd.a nd.p.n.ms.length nd.c]] [ints .u8 (nd.p.start), #[.int .i64 nd.p.at_], ints .u8 (nd.p.sig)] 67 (by rw [Qaa, Qaa, Qaa, Qaa, Qaa]; simp only [Array.size_append, cat, ((Qac _ _).trans hok.al), ((Qac _ _).trans hok.rl)]; rfl)) kj (isz (n := 99) kj (by rw [Qaa, Qaa, Qaa, Qaa, Qaa, Qaa]; simp only [Array.size_append, cat, ((Qac _ _).trans hok.n.gl), ((Qac _ _).trans hok.n.kl), ((Qac _ _).trans hok.n.pl)]; rfl))) ?_
    refine Qa1 (.bool false) 20 #[.agg (cat [#[.bool nd.p.n.us], #[.int .i64 nd.p.n.nm], ints .u8 (nd.p.n.key), ints .u8 (nd.p.n.sg), ints .u8 (nd.p.n.pa), #[.slice nd.a nd.p.n.ms.length nd.c]])] 35 rfl kj kj (Qem nd.p.n.us nd.p.n.nm nd.p.n.key nd.p.n.sg nd.p.n.pa nd.p.n.ms _ _ _ hok.n.kl hok.n.gl hok.n.pl hc2) fun W7 e7 => ?_
    have x7 : Ext w W7 := Ext.tr x6 e7
    refine Qab (.bool true) 36 rfl kj kj ?_
    refine Qaf ?_
    refine hK18 _ _ ?_
    refine cond_true kj ?_
    refine wp_seq_k fun K19 hK19 => ?_
    refine Qae ?_
    refine Qab (.bool true) 2 rfl kj kj ?_
    refine Qaf ?_
    refine hK19 _ _ ?_
    refine wp_ret ?_
    repeat (first | with_reducible refine goR1 ?_ | with_reducible refine goR2 ?_)
    exact (show bodyPost _ _ _ .ret _ _ from ret1 (.bool true) rfl (Qaw kj) ⟨rfl, x7⟩)
  ·skip
   have heq30 : i = ps.length := by have := of_decide_eq_false c14; omega
   have hz : CmSz ps n ts := Qh4 (by omega) (fun j hj => hr j (by omega)) hb1 hb2 hb3
   refine wp_exit ?_
   refine hK10 _ _ ?_
   refine wp_seq_k fun K20 hK20 => ?_
   refine Qae ?_
   have r2_4 := (Qar r2_3 e4)
   refine Qab (.agg (cat [ints .u8 (grp), #[.int .i64 ep], #[.int .i64 fr], ints .u8 (bas), #[.slice a_p ps.length c_p], #[.bool n.us], #[.int .i64 n.nm], ints .u8 (n.key), ints .u8 (n.sg), ints .u8 (n.pa), #[.slice a_m n.ms.length c_m], #[.slice a_t ts.length c_t], ints .u8 (tag), ints .u8 (sig)])) 39 rfl kj (QaA 59 _ g2 59 _ _ r2_4 rfl kj kj (isz (n := 263) kj (by rw [Qaa, Qaa, Qaa, Qaa, Qaa, Qaa, Qaa, Qaa, Qaa, Qaa, Qaa, Qaa, Qaa, Qaa]; simp only [Array.size_append, cat, ((Qac _ _).trans ho.al), ((Qac _ _).trans ho.gl), ((Qac _ _).trans ho.il), ((Qac _ _).trans ho.n.gl), ((Qac _ _).trans ho.n.kl), ((Qac _ _).trans ho.n.pl), ((Qac _ _).trans ho.rl)]; rfl))) ?_
   refine Qak (fun v W' => (PutR V1.heap.size none) v W' ∧ Ext V1 W') 25 #[.agg (cat [ints .u8 (grp), #[.int .i64 ep], #[.int .i64 fr], ints .u8 (bas), #[.slice a_p ps.length c_p], #[.bool n.us], #[.int .i64 n.nm], ints .u8 (n.key), ints .u8 (n.sg), ints .u8 (n.pa), #[.slice a_m n.ms.length c_m], #[.slice a_t ts.length c_t], ints .u8 (tag), ints .u8 (sig)])] 40 rfl kj kj ((QgF grp ep fr bas ps n ts tag sig _ _ _ _ _ _ _ ho hz (CmAt.here (CmAt.ext hcm xx1)) ((Qfz grp ep fr bas ps n ts tag sig ho (QdK hcm.ps)).trans hS)).mono (by rintro e w' ⟨v, rfl, e1, hv⟩; exact ⟨v, rfl, hv, e1⟩)) fun vv21 W5 hh21 => ?_
   obtain ⟨hv21, e5⟩ := hh21
   have x5 : Ext w W5 := Ext.tr xx1 e5
   have hv5 : vv21 = .tuple #[.slice none 0 0, .iface 102 (.int .i64 3)] := hv21
   subst hv5
   refine Qab (.tuple #[.slice none 0 0, .iface 102 (.int .i64 3)]) 38 rfl kj kj ?_
   refine Qab (.slice none 0 0) 41 rfl kj kj ?_
   refine Qab (.iface 102 (.int .i64 3)) 42 rfl kj kj ?_
   refine Qab (.slice none 0 0) 5 rfl kj kj ?_
   refine Qab (.iface 102 (.int .i64 3)) 6 rfl kj kj ?_
   refine Qaf ?_
   refine hK20 _ _ ?_
   refine wp_seq_k fun K22 hK22 => ?_
   refine Qae ?_
   have r2_5 := (Qar r2_4 e5)
   refine Qab (.agg (cat [ints .u8 (grp), #[.int .i64 ep], #[.int .i64 fr], ints .u8 (bas), #[.slice a_p ps.length c_p], #[.bool n.us], #[.int .i64 n.nm], ints .u8 (n.key), ints .u8 (n.sg), ints .u8 (n.pa), #[.slice a_m n.ms.length c_m], #[.slice a_t ts.length c_t], ints .u8 (tag), ints .u8 (sig)])) 44 rfl kj (QaA 59 _ g2 59 _ _ r2_5 rfl kj kj (isz (n := 263) kj (by rw [Qaa, Qaa, Qaa, Qaa, Qaa, Qaa, Qaa, Qaa, Qaa, Qaa, Qaa, Qaa, Qaa, Qaa]; simp only [Array.size_append, cat, ((Qac _ _).trans ho.al), ((Qac _ _).trans ho.gl), ((Qac _ _).trans ho.il), ((Qac _ _).trans ho.n.gl), ((Qac _ _).trans ho.n.kl), ((Qac _ _).trans ho.n.pl), ((Qac _ _).trans ho.rl)]; rfl))) ?_
   refine Qak (fun v W' => (QdB W5.heap.size (refC grp ep fr bas ps n ts tag sig)) v W' ∧ Ext W5 W') 26 #[.agg (cat [ints .u8 (grp), #[.int .i64 ep], #[.int .i64 fr], ints .u8 (bas), #[.slice a_p ps.length c_p], #[.bool n.us], #[.int .i64 n.nm], ints .u8 (n.key), ints .u8 (n.sg), ints .u8 (n.pa), #[.slice a_m n.ms.length c_m], #[.slice a_t ts.length c_t], ints .u8 (tag), ints .u8 (sig)])] 45 rfl kj kj ((QcO grp ep fr bas ps n ts tag sig _ _ _ _ _ _ _ ho hz (CmAt.here (CmAt.ext hcm x5))).mono (by rintro e w' ⟨v, rfl, e1, hv⟩; exact ⟨v, rfl, hv, e1⟩)) fun vv23 W6 hh23 => ?_
   obtain ⟨hv23, e6⟩ := hh23
   have x6 : Ext w W6 := Ext.tr x5 e6
   rw [hS] at hv23
   have hv6 : vv23 = .tuple #[.slice none 0 0, .bool false] := hv23
   subst hv6
   refine Qab (.tuple #[.slice none 0 0, .bool false]) 43 rfl kj kj ?_
   refine Qab (.slice none 0 0) 46 rfl kj kj ?_
   refine Qab (.bool false) 47 rfl kj kj ?_
   refine Qab (.slice none 0 0) 7 rfl kj kj ?_
   refine Qab (.bool false) 8 rfl kj kj ?_
   refine Qaf ?_
   refine hK22 _ _ ?_
   refine wp_seq_k fun K25 hK25 => ?_
   refine wp_seq_k fun K26 hK26 => ?_
   refine Qae ?_
   refine Qab (.slice none 0 0) 48 rfl kj kj ?_
   refine Qab (.iface 102 (.int .i64 3)) 49 rfl kj kj ?_
   refine Qab (.slice none 0 0) 50 rfl kj kj ?_
   refine Qab (.bool false) 51 rfl kj kj ?_
   refine Qa1 (.bool true) 16 #[.slice none 0 0, .iface 102 (.int .i64 3), .slice none 0 0, .bool false] 52 rfl kj kj ((Qhw _) _) fun W7 e7 => ?_
   have x7 : Ext w W7 := Ext.tr x6 e7
   refine Qab (.bool false) 53 rfl kj kj ?_
   refine Qaf ?_
   refine hK26 _ _ ?_
   refine cond_false kj ?_
   refine wp_skip ?_
   refine hK25 _ _ ?_
   refine wp_seq_k fun K27 hK27 => ?_
   refine wp_seq_k fun K28 hK28 => ?_
   refine Qae ?_
   refine Qab (.bool false) 54 rfl kj kj ?_
   refine Qab (.bool true) 55 rfl kj kj ?_
   refine Qaf ?_
   refine hK28 _ _ ?_
   refine cond_true kj ?_
   refine wp_seq_k fun K29 hK29 => ?_
   refine Qae ?_
   refine Qab (.bool true) 2 rfl kj kj ?_
   refine Qaf ?_
   refine hK29 _ _ ?_
   refine wp_ret ?_
   repeat (first | with_reducible refine goR1 ?_ | with_reducible refine goR2 ?_)
   exact (show bodyPost _ _ _ .ret _ _ from ret1 (.bool true) rfl (Qaw kj) ⟨rfl, x7⟩)
set_option maxHeartbeats 4000000 in
set_option maxRecDepth 100000 in
theorem QiQ (grp : List Int) (ep fr : Int) (bas : List Int) (ps : List PrV) (n : NdC) (ts : List StV) (tag sig : List Int) (a_p : Option Addr) (c_p : Nat) (a_m : Option Addr) (c_m : Nat) (a_t : Option Addr) (c_t : Nat) (w : World) (ho : CmOk grp bas n tag sig) (hcm : CmAt w.heap.size w ps a_p n a_m c_m ts a_t) (h1 : ps.length < 300) (bs : List Int) (hS : refC grp ep fr bas ps n ts tag sig = some bs) : Calls Try.prog 5 #[.agg (cat [ints .u8 (grp), #[.int .i64 ep], #[.int .i64 fr], ints .u8 (bas), #[.slice a_p ps.length c_p], #[.bool n.us], #[.int .i64 n.nm], ints .u8 (n.key), ints .u8 (n.sg), ints .u8 (n.pa), #[.slice a_m n.ms.length c_m], #[.slice a_t ts.length c_t], ints .u8 (tag), ints .u8 (sig)])] w (Ret w (.bool true)) := by
 obtain ⟨hR0, f1, f2, f3, f4, f5, f6, hN, ⟨hp1, hp2⟩, ⟨ht1, ht2⟩, hbs, hbl, hpos⟩ := Qg6 grp ep fr bas ps n ts tag sig bs ho (QdK hcm.ps) (fun t ht => (QeJ hcm.ts t ht).1) hS
 have n1 := hN.us.symm
 have n2 := hN.nm.symm
 have n3 := hN.key.symm
 have n4 := hN.sg.symm
 have n5 := hN.pa.symm
 have hbb : Qaj bs := by rw [hbs]; exact QfH grp ep fr bas ps n ts tag sig a_p c_p a_m c_m a_t c_t w ho hcm
 refine enter 91 [(0, .agg (cat [ints .u8 (grp), #[.int .i64 ep], #[.int .i64 fr], ints .u8 (bas), #[.slice a_p ps.length c_p], #[.bool n.us], #[.int .i64 n.nm], ints .u8 (n.key), ints .u8 (n.sg), ints .u8 (n.pa), #[.slice a_m n.ms.length c_m], #[.slice a_t ts.length c_t], ints .u8 (tag), ints .u8 (sig)]))] Try.func5 rfl rfl kj rfl ?_
 refine wp_seq_k fun K1 hK1 => ?_
 refine Qae ?_
 refine Qav (cat [ints .u8 (grp), #[.int .i64 ep], #[.int .i64 fr], ints .u8 (bas), #[.slice a_p ps.length c_p], #[.bool n.us], #[.int .i64 n.nm], ints .u8 (n.key), ints .u8 (n.sg), ints .u8 (n.pa), #[.slice a_m n.ms.length c_m], #[.slice a_t ts.length c_t], ints .u8 (tag), ints .u8 (sig)]) 59 1 rfl kj kj fun g2 W1 l2 e1 r2_1 => ?_
 have x1 : Ext w W1 := Ext.tr (Rely.Ext.refl w) e1
 have b2 : w.heap.size ≤ g2 := Nat.le_trans (Rely.Ext.refl w).size l2
 refine Qab (.bool false) 2 rfl kj kj ?_
 refine Qaf ?_
 refine hK1 _ _ ?_
 refine wp_seq_k fun K3 hK3 => ?_
 refine wp_seq_k fun K4 hK4 => ?_
 refine Qae ?_
 refine Qa1 (.bool true) 12 #[] 14 rfl kj kj ((QgC) _) fun W2 e2 => ?_
 have x2 : Ext w W2 := Ext.tr x1 e2
 refine Qab (.bool false) 15 rfl kj kj ?_
 refine Qaf ?_
 refine hK4 _ _ ?_
 refine cond_false kj ?_
 refine wp_skip ?_
 refine hK3 _ _ ?_
 refine wp_seq_k fun K5 hK5 => ?_
 refine wp_seq_k fun K6 hK6 => ?_
 refine Qae ?_
 refine Qab (.pointer (some ⟨g2, 66, none⟩)) 16 rfl kj kj ?_
 have r2_2 := (Qar r2_1 e2)
 refine Qab (.slice a_p ps.length c_p) 17 rfl kj (Qag 54 _ g2 66 59 _ (.slice a_p ps.length c_p) _ r2_2 rfl kj (Qah [ints .u8 (grp), #[.int .i64 ep], #[.int .i64 fr], ints .u8 (bas)] [#[.slice a_p ps.length c_p]] [#[.bool n.us], #[.int .i64 n.nm], ints .u8 (n.key), ints .u8 (n.sg), ints .u8 (n.pa), #[.slice a_m n.ms.length c_m], #[.slice a_t ts.length c_t], ints .u8 (tag), ints .u8 (sig)] 66 (by rw [Qaa, Qaa, Qaa, Qaa]; simp only [Array.size_append, cat, ((Qac _ _).trans ho.al), ((Qac _ _).trans ho.rl)]; rfl) 0 _ rfl) kj) ?_
 refine Qab (.int .i64 ((ps.length : Nat) : Int)) 18 rfl kj kj ?_
 refine Qab (.bool true) 19 rfl kj (Qax (u := .bool (decide (((ps.length : Nat) : Int) < 300))) kj (congrArg Value.bool (decide_eq_true (by omega)))) ?_
 refine Qab (.bool true) 20 rfl kj kj ?_
 refine Qab (.pointer (some ⟨g2, 67, none⟩)) 21 rfl kj kj ?_
 refine Qab (.agg (cat [#[.bool n.us], #[.int .i64 n.nm], ints .u8 (n.key), ints .u8 (n.sg), ints .u8 (n.pa), #[.slice a_m n.ms.length c_m], #[.slice a_t ts.length c_t]])) 22 rfl kj (Qau 57 _ g2 67 59 _ _ _ r2_2 rfl kj (Qah [ints .u8 (grp), #[.int .i64 ep], #[.int .i64 fr], ints .u8 (bas), #[.slice a_p ps.length c_p]] [#[.bool n.us], #[.int .i64 n.nm], ints .u8 (n.key), ints .u8 (n.sg), ints .u8 (n.pa), #[.slice a_m n.ms.length c_m], #[.slice a_t ts.length c_t]] [ints .u8 (tag), ints .u8 (sig)] 67 (by rw [Qaa, Qaa, Qaa, Qaa, Qaa]; simp only [Array.size_append, cat, ((Qac _ _).trans ho.al), ((Qac _ _).trans ho.rl)]; rfl)) kj (isz (n := 100) kj (by rw [Qaa, Qaa, Qaa, Qaa, Qaa, Qaa, Qaa]; simp only [Array.size_append, cat, ((Qac _ _).trans ho.n.gl), ((Qac _ _).trans ho.n.kl), ((Qac _ _).trans ho.n.pl)]; rfl))) ?_
 refine Qak (fun v W' => (fun (v : Value) (_ : World) => ∃ b, v = .bool b ∧ (b = true → n.ms.length < 100 ∧ ts.length ≤ 10 ∧ ∀ j, j < ts.length → (ts.getD j st0).rows.length ≤ 300)) v W' ∧ Ext W2 W') 24 #[.agg (cat [#[.bool n.us], #[.int .i64 n.nm], ints .u8 (n.key), ints .u8 (n.sg), ints .u8 (n.pa), #[.slice a_m n.ms.length c_m], #[.slice a_t ts.length c_t]])] 23 rfl kj kj ((chkP n ts _ _ _ _ _ ho.n (RdK.here (RdK.ext hcm.m x2)) ((hcm.ts.ext stK x2).here stK)).mono (by rintro e w' ⟨v, rfl, e1, hv⟩; exact ⟨v, rfl, hv, e1⟩)) fun vv7 W3 hh7 => ?_
 obtain ⟨hv7, e3⟩ := hh7
 have x3 : Ext w W3 := Ext.tr x2 e3
 obtain ⟨bk, rfl, hbk⟩ := hv7
 refine Qab (.bool bk) 24 rfl kj kj ?_
 refine Qab (.bool (!bk)) 25 rfl kj kj ?_
 refine Qaf ?_
 refine hK6 _ _ ?_
 refine Qa5 (t := !bk) kj (fun c8 => ?_) (fun c8 => ?_)
 ·skip
  refine wp_seq_k fun K9 hK9 => ?_
  refine Qae ?_
  refine Qab (.bool true) 2 rfl kj kj ?_
  refine Qaf ?_
  refine hK9 _ _ ?_
  refine wp_ret ?_
  repeat (first | with_reducible refine goR1 ?_ | with_reducible refine goR2 ?_)
  exact (show bodyPost _ _ _ .ret _ _ from ret1 (.bool true) rfl (Qaw kj) ⟨rfl, x3⟩)
 ·skip
  obtain ⟨hb1, hb2, hb3⟩ := hbk (by have h9 := c8; cases bk with | true => rfl | false => cases h9)
  refine wp_skip ?_
  refine hK5 _ _ ?_
  refine wp_seq_k fun K10 hK10 => ?_
  refine wp_seq_k fun K11 hK11 => ?_
  refine Qae ?_
  refine Qab (.pointer (some ⟨g2, 66, none⟩)) 26 rfl kj kj ?_
  have r2_3 := (Qar r2_2 e3)
  refine Qab (.slice a_p ps.length c_p) 27 rfl kj (Qag 54 _ g2 66 59 _ (.slice a_p ps.length c_p) _ r2_3 rfl kj (Qah [ints .u8 (grp), #[.int .i64 ep], #[.int .i64 fr], ints .u8 (bas)] [#[.slice a_p ps.length c_p]] [#[.bool n.us], #[.int .i64 n.nm], ints .u8 (n.key), ints .u8 (n.sg), ints .u8 (n.pa), #[.slice a_m n.ms.length c_m], #[.slice a_t ts.length c_t], ints .u8 (tag), ints .u8 (sig)] 66 (by rw [Qaa, Qaa, Qaa, Qaa]; simp only [Array.size_append, cat, ((Qac _ _).trans ho.al), ((Qac _ _).trans ho.rl)]; rfl) 0 _ rfl) kj) ?_
  refine Qab (.int .i64 ((ps.length : Nat) : Int)) 28 rfl kj kj ?_
  refine Qab (.int .i64 0) 29 rfl kj kj ?_
  refine Qaf ?_
  refine hK11 _ _ ?_
  refine wp_block ?_
  refine QaP (fun (s1 : Nat) => [(1, .pointer (some ⟨g2, 0, none⟩)), (27, .slice a_p ps.length c_p), (28, .int .i64 ((ps.length : Nat) : Int)), (29, .int .i64 ((s1 : Nat) : Int))]) (fun (s1 : Nat) W => (s1 ≤ ps.length) ∧ (∀ j, j < s1 → (ps.getD j pr0).p.n.ms.length < 100) ∧ (Ext W3 W) ∧ (Ext w W)) (fun (s1 : Nat) => ps.length - s1) 0 ⟨rfl, rfl, rfl, rfl, trivial⟩ ⟨(Nat.zero_le _), (fun j hj => absurd hj (Nat.not_lt_zero _)), (Rely.Ext.refl W3), x3⟩ fun s1 X1 V1 hI1 => ?_
  obtain ⟨i, hs1⟩ : ∃ z, z = s1 := ⟨_, rfl⟩
  subst hs1
  obtain ⟨hi, hr, kk1, xx1⟩ := hI1
  replace hi : i ≤ ps.length := hi
  replace hr : ∀ j, j < i → (ps.getD j pr0).p.n.ms.length < 100 := hr
  replace kk1 : Ext W3 V1 := kk1
  replace xx1 : Ext w V1 := xx1
  have e4 := kk1
  refine wp_seq_k fun K12 hK12 => ?_
  refine Qae ?_
  refine Qab (.bool (decide (((i : Nat) : Int) < ((ps.length : Nat) : Int)))) 30 rfl kj kj ?_
  refine Qaf ?_
  refine hK12 _ _ ?_
  refine wp_seq_k fun K13 hK13 => ?_
  refine Qa5 (t := decide (((i : Nat) : Int) < ((ps.length : Nat) : Int))) kj (fun c14 => ?_) (fun c14 => ?_)
  ·skip
   have hlt30 : i < ps.length := by have := of_decide_eq_true c14; omega
   refine wp_skip ?_
   refine hK13 _ _ ?_
   refine wp_seq_k fun K15 hK15 => ?_
   refine wp_block ?_
   refine wp_seq_k fun K16 hK16 => ?_
   refine Qae ?_
   obtain ⟨gTnd, oTnd, hatnd, helsnd⟩ := (LsAt.ext prK hcm.ps xx1)
   have helnd := helsnd i (by omega)
   obtain ⟨_, _, -, hels0nd⟩ := id hcm.ps
   have hel0nd := hels0nd i (by omega)
   have hmemnd := Qb3 ps pr0 i (by omega)
   obtain ⟨nd, hndnd⟩ : ∃ z, z = ps.getD i pr0 := ⟨_, rfl⟩
   rw [← hndnd] at helnd hel0nd hmemnd
   have hok := hel0nd.ok
   refine Qab (.pointer (some ⟨gTnd, oTnd + i * 263, none⟩)) 31 rfl kj (Qbc 54 _ _ .i64 i gTnd oTnd ps.length c_p 47 263 a_p (hatnd (by omega)) rfl kj kj kj kj (by omega)) ?_
   obtain ⟨u0nd, hu0nd⟩ := Qek nd helnd.ok
   refine Qab (.agg (cat [ints .u8 (nd.p.grp), #[.int .i64 nd.p.ep], #[.int .i64 nd.p.fr], ints .u8 (nd.p.bas), #[.int .i64 nd.p.kd], #[.bool nd.p.n.us], #[.int .i64 nd.p.n.nm], ints .u8 (nd.p.n.key), ints .u8 (nd.p.n.sg), ints .u8 (nd.p.n.pa), #[.slice nd.a nd.p.n.ms.length nd.c], ints .u8 (nd.p.start), #[.int .i64 nd.p.at_], ints .u8 (nd.p.sig)])) 32 rfl kj (Qbm 47 _ gTnd (oTnd + i * 263) 263 (cat (prP nd)) u0nd hu0nd (Qb5 nd helnd.ok) helnd.cell rfl kj kj kj) ?_
   refine Qav (cat [ints .u8 (List.replicate 32 0), #[.int .i64 0], #[.int .i64 0], ints .u8 (List.replicate 32 0), #[.int .i64 0], #[.bool false], #[.int .i64 0], ints .u8 (List.replicate 32 0), ints .u8 (List.replicate 32 0), ints .u8 (List.replicate 32 0), #[.slice none 0 0], ints .u8 (List.replicate 32 0), #[.int .i64 0], ints .u8 (List.replicate 64 0)]) 47 4 rfl kj (Qbe 47 _ rfl (Qcd _)) fun g17 W5 l17 e5 r17_5 => ?_
   have x5 : Ext w W5 := Ext.tr xx1 e5
   have b17 : w.heap.size ≤ g17 := Nat.le_trans xx1.size l17
   refine Qa3 g17 _ (cat [ints .u8 (nd.p.grp), #[.int .i64 nd.p.ep], #[.int .i64 nd.p.fr], ints .u8 (nd.p.bas), #[.int .i64 nd.p.kd], #[.bool nd.p.n.us], #[.int .i64 nd.p.n.nm], ints .u8 (nd.p.n.key), ints .u8 (nd.p.n.sg), ints .u8 (nd.p.n.pa), #[.slice nd.a nd.p.n.ms.length nd.c], ints .u8 (nd.p.start), #[.int .i64 nd.p.at_], ints .u8 (nd.p.sig)]) 47 r17_5 rfl kj (Qa0 47 _ _ g17 47 _ _ r17_5 rfl kj kj (isz (n := 263) kj (by rw [Qaa, Qaa, Qaa, Qaa, Qaa, Qaa, Qaa, Qaa, Qaa, Qaa, Qaa, Qaa, Qaa, Qaa]; simp only [Array.size_append, cat, ((Qac _ _).trans hok.al), ((Qac _ _).trans hok.il), ((Qac _ _).trans hok.n.gl), ((Qac _ _).trans hok.n.kl), ((Qac _ _).trans hok.n.pl), ((Qac _ _).trans hok.rl), ((Qac _ _).trans hok.tl)]; rfl)) (eqsz (n := 263) (by rw [Qaa, Qaa, Qaa, Qaa, Qaa, Qaa, Qaa, Qaa, Qaa, Qaa, Qaa, Qaa, Qaa, Qaa]; simp only [Array.size_append, cat, ((Qac _ _).trans (List.length_replicate (n := 32))), ((Qac _ _).trans (List.length_replicate (n := 64)))]; rfl) (by rw [Qaa, Qaa, Qaa, Qaa, Qaa, Qaa, Qaa, Qaa, Qaa, Qaa, Qaa, Qaa, Qaa, Qaa]; simp only [Array.size_append, cat, ((Qac _ _).trans hok.al), ((Qac _ _).trans hok.il), ((Qac _ _).trans hok.n.gl), ((Qac _ _).trans hok.n.kl), ((Qac _ _).trans hok.n.pl), ((Qac _ _).trans hok.rl), ((Qac _ _).trans hok.tl)]; rfl)) (QaX _ (by intro a ha; simp only [List.mem_cons, List.not_mem_nil, or_false] at ha; rcases ha with rfl | rfl | rfl | rfl | rfl | rfl | rfl | rfl | rfl | rfl | rfl | rfl | rfl | rfl; exact (Qas _ _); exact (Qaq _ rfl); exact (Qaq _ rfl); exact (Qas _ _); exact (Qaq _ rfl); exact (Qaq _ rfl); exact (Qaq _ rfl); exact (Qas _ _); exact (Qas _ _); exact (Qas _ _); exact (Qaq _ rfl); exact (Qas _ _); exact (Qaq _ rfl); exact (Qas _ _)))) fun W6 p6 r17_6 => ?_
   have x6 : Ext w W6 := Puts.ext p6 x5 b17
   refine Qaf ?_
   refine hK16 _ _ ?_
   refine wp_seq_k fun K18 hK18 => ?_
   rcases (show nd.p.n.ms.length < 100 ∨ 100 ≤ nd.p.n.ms.length by omega) with hc2 | hc2
   ·skip
    refine Qae ?_
    refine Qab (.pointer (some ⟨g17, 67, none⟩)) 33 rfl kj kj ?_
    refine Qab (.agg (cat [#[.bool nd.p.n.us], #[.int .i64 nd.p.n.nm], ints .u8 (nd.p.n.key), ints .u8 (nd.p.n.sg), ints .u8 (nd.p.n.pa), #[.slice nd.a nd.p.n.ms.length nd.c]])) 34 rfl kj (Qau 43 _ g17 67 47 _ _ _ r17_6 rfl kj (Qah [ints .u8 (nd.p.grp), #[.int .i64 nd.p.ep], #[.int .i64 nd.p.fr], ints .u8 (nd.p.bas), #[.int .i64 nd.p.kd]] [#[.bool nd.p.n.us], #[.int .i64 nd.p.n.nm], ints .u8 (nd.p.n.key), ints .u8 (nd.p.n.sg), ints .u8 (nd.p.n.pa), #[.slice nd.a nd.p.n.ms.length nd.c]] [ints .u8 (nd.p.start), #[.int .i64 nd.p.at_], ints .u8 (nd.p.sig)] 67 (by rw [Qaa, Qaa, Qaa, Qaa, Qaa]; simp only [Array.size_append, cat, ((Qac _ _).trans hok.al), ((Qac _ _).trans hok.rl)]; rfl)) kj (isz (n := 99) kj (by rw [Qaa, Qaa, Qaa, Qaa, Qaa, Qaa]; simp only [Array.size_append, cat, ((Qac _ _).trans hok.n.gl), ((Qac _ _).trans hok.n.kl), ((Qac _ _).trans hok.n.pl)]; rfl))) ?_
    refine Qa1 (.bool true) 20 #[.agg (cat [#[.bool nd.p.n.us], #[.int .i64 nd.p.n.nm], ints .u8 (nd.p.n.key), ints .u8 (nd.p.n.sg), ints .u8 (nd.p.n.pa), #[.slice nd.a nd.p.n.ms.length nd.c]])] 35 rfl kj kj (Qdr nd.p.n.us nd.p.n.nm nd.p.n.key nd.p.n.sg nd.p.n.pa nd.p.n.ms _ _ _ hok.n.kl hok.n.gl hok.n.pl hc2) fun W7 e7 => ?_
    have x7 : Ext w W7 := Ext.tr x6 e7
    refine Qab (.bool false) 36 rfl kj kj ?_
    refine Qaf ?_
    refine hK18 _ _ ?_
    refine cond_false kj ?_
    refine wp_skip ?_
    refine hK15 _ _ ?_
    refine Qae ?_
    refine Qab (.int .i64 ((i + 1 : Nat) : Int)) 37 rfl kj (Qax (u := .int .i64 (IntKind.i64.wrap (((i : Nat) : Int) + 1))) kj (congrArg (Value.int .i64) (i64n _ _ (by omega) (by omega)))) ?_
    refine Qab (.int .i64 ((i + 1 : Nat) : Int)) 29 rfl kj kj ?_
    refine Qaf ?_
    have y3_5 : Ext W3 W5 := (Rely.Ext.trans e4 e5)
    have y3_6 : Ext W3 W6 := (Puts.ext p6 y3_5 (Nat.le_trans e4.size l17))
    have y3_7 : Ext W3 W7 := (Rely.Ext.trans y3_6 e7)
    repeat (first | with_reducible refine goX1 ?_ | with_reducible refine goX2 ?_ | with_reducible refine goX3 ?_)
    exact QaK (i + 1) ⟨rfl, rfl, rfl, rfl, trivial⟩ ⟨(by omega), (fun j hj => (Nat.lt_or_ge j i).elim (hr j) fun h => by have e : j = i := (by omega); rw [e, ← hndnd]; exact hc2), y3_7, x7⟩ (by omega)
   ·skip
    refine Qae ?_
    refine Qab (.pointer (some ⟨g17, 67, none⟩)) 33 rfl kj kj ?_
    refine Qab (.agg (cat [#[.bool nd.p.n.us], #[.int .i64 nd.p.n.nm], ints .u8 (nd.p.n.key), ints .u8 (nd.p.n.sg), ints .u8 (nd.p.n.pa), #[.slice nd.a nd.p.n.ms.length nd.c]])) 34 rfl kj (Qau 43 _ g17 67 47 _ _ _ r17_6 rfl kj (Qah [ints .u8 (nd.p.grp), #[.int .i64 nd.p.ep], #[.int .i64 nd.p.fr], ints .u8 (nd.p.bas), #[.int .i64 nd.p.kd]] [#[.bool nd.p.n.us], #[.int .i64 nd.p.n.nm], ints .u8 (nd.p.n.key), ints .u8 (nd.p.n.sg), ints .u8 (nd.p.n.pa), #[.slice nd.a nd.p.n.ms.length nd.c]] [ints .u8 (nd.p.start), #[.int .i64 nd.p.at_], ints .u8 (nd.p.sig)] 67 (by rw [Qaa, Qaa, Qaa, Qaa, Qaa]; simp only [Array.size_append, cat, ((Qac _ _).trans hok.al), ((Qac _ _).trans hok.rl)]; rfl)) kj (isz (n := 99) kj (by rw [Qaa, Qaa, Qaa, Qaa, Qaa, Qaa]; simp only [Array.size_append, cat, ((Qac _ _).trans hok.n.gl), ((Qac _ _).trans hok.n.kl), ((Qac _ _).trans hok.n.pl)]; rfl))) ?_
    refine Qa1 (.bool false) 20 #[.agg (cat [#[.bool nd.p.n.us], #[.int .i64 nd.p.n.nm], ints .u8 (nd.p.n.key), ints .u8 (nd.p.n.sg), ints .u8 (nd.p.n.pa), #[.slice nd.a nd.p.n.ms.length nd.c]])] 35 rfl kj kj (Qem nd.p.n.us nd.p.n.nm nd.p.n.key nd.p.n.sg nd.p.n.pa nd.p.n.ms _ _ _ hok.n.kl hok.n.gl hok.n.pl hc2) fun W7 e7 => ?_
    have x7 : Ext w W7 := Ext.tr x6 e7
    refine Qab (.bool true) 36 rfl kj kj ?_
    refine Qaf ?_
    refine hK18 _ _ ?_
    refine cond_true kj ?_
    refine wp_seq_k fun K19 hK19 => ?_
    refine Qae ?_
    refine Qab (.bool true) 2 rfl kj kj ?_
    refine Qaf ?_
    refine hK19 _ _ ?_
    refine wp_ret ?_
    repeat (first | with_reducible refine goR1 ?_ | with_reducible refine goR2 ?_)
    exact (show bodyPost _ _ _ .ret _ _ from ret1 (.bool true) rfl (Qaw kj) ⟨rfl, x7⟩)
  ·skip
   have heq30 : i = ps.length := by have := of_decide_eq_false c14; omega
   have hz : CmSz ps n ts := Qh4 (by omega) (fun j hj => hr j (by omega)) hb1 hb2 hb3
   refine wp_exit ?_
   refine hK10 _ _ ?_
   refine wp_seq_k fun K20 hK20 => ?_
   refine Qae ?_
   have r2_4 := (Qar r2_3 e4)
   refine Qab (.agg (cat [ints .u8 (grp), #[.int .i64 ep], #[.int .i64 fr], ints .u8 (bas), #[.slice a_p ps.length c_p], #[.bool n.us], #[.int .i64 n.nm], ints .u8 (n.key), ints .u8 (n.sg), ints .u8 (n.pa), #[.slice a_m n.ms.length c_m], #[.slice a_t ts.length c_t], ints .u8 (tag), ints .u8 (sig)])) 39 rfl kj (QaA 59 _ g2 59 _ _ r2_4 rfl kj kj (isz (n := 263) kj (by rw [Qaa, Qaa, Qaa, Qaa, Qaa, Qaa, Qaa, Qaa, Qaa, Qaa, Qaa, Qaa, Qaa, Qaa]; simp only [Array.size_append, cat, ((Qac _ _).trans ho.al), ((Qac _ _).trans ho.gl), ((Qac _ _).trans ho.il), ((Qac _ _).trans ho.n.gl), ((Qac _ _).trans ho.n.kl), ((Qac _ _).trans ho.n.pl), ((Qac _ _).trans ho.rl)]; rfl))) ?_
   refine Qak (fun v W' => (PutR V1.heap.size (some bs)) v W' ∧ Ext V1 W') 25 #[.agg (cat [ints .u8 (grp), #[.int .i64 ep], #[.int .i64 fr], ints .u8 (bas), #[.slice a_p ps.length c_p], #[.bool n.us], #[.int .i64 n.nm], ints .u8 (n.key), ints .u8 (n.sg), ints .u8 (n.pa), #[.slice a_m n.ms.length c_m], #[.slice a_t ts.length c_t], ints .u8 (tag), ints .u8 (sig)])] 40 rfl kj kj ((QgE grp ep fr bas ps n ts tag sig _ _ _ _ _ _ _ ho hz (CmAt.here (CmAt.ext hcm xx1)) bs ((Qfz grp ep fr bas ps n ts tag sig ho (QdK hcm.ps)).trans hS)).mono (by rintro e w' ⟨v, rfl, e1, hv⟩; exact ⟨v, rfl, hv, e1⟩)) fun vv21 W5 hh21 => ?_
   obtain ⟨hv21, e5⟩ := hh21
   have x5 : Ext w W5 := Ext.tr xx1 e5
   obtain ⟨ub, rfl, hub⟩ := hv21
   obtain ⟨gb, cb, rb_, rfl, lb, rowb, hcb_⟩ := Qgt hub rfl hpos
   have lo0b : w.heap.size ≤ gb := Nat.le_trans xx1.size lb
   refine Qab (.tuple #[.slice (some ⟨gb, 0, none⟩) bs.length cb, .nilIface]) 38 rfl kj kj ?_
   refine Qab (.slice (some ⟨gb, 0, none⟩) bs.length cb) 41 rfl kj kj ?_
   refine Qab (.nilIface) 42 rfl kj kj ?_
   refine Qab (.slice (some ⟨gb, 0, none⟩) bs.length cb) 5 rfl kj kj ?_
   refine Qab (.nilIface) 6 rfl kj kj ?_
   refine Qaf ?_
   refine hK20 _ _ ?_
   refine wp_seq_k fun K23 hK23 => ?_
   refine Qae ?_
   have r2_5 := (Qar r2_4 e5)
   refine Qab (.agg (cat [ints .u8 (grp), #[.int .i64 ep], #[.int .i64 fr], ints .u8 (bas), #[.slice a_p ps.length c_p], #[.bool n.us], #[.int .i64 n.nm], ints .u8 (n.key), ints .u8 (n.sg), ints .u8 (n.pa), #[.slice a_m n.ms.length c_m], #[.slice a_t ts.length c_t], ints .u8 (tag), ints .u8 (sig)])) 44 rfl kj (QaA 59 _ g2 59 _ _ r2_5 rfl kj kj (isz (n := 263) kj (by rw [Qaa, Qaa, Qaa, Qaa, Qaa, Qaa, Qaa, Qaa, Qaa, Qaa, Qaa, Qaa, Qaa, Qaa]; simp only [Array.size_append, cat, ((Qac _ _).trans ho.al), ((Qac _ _).trans ho.gl), ((Qac _ _).trans ho.il), ((Qac _ _).trans ho.n.gl), ((Qac _ _).trans ho.n.kl), ((Qac _ _).trans ho.n.pl), ((Qac _ _).trans ho.rl)]; rfl))) ?_
   refine Qak (fun v W' => (QdB W5.heap.size (refC grp ep fr bas ps n ts tag sig)) v W' ∧ Ext W5 W') 26 #[.agg (cat [ints .u8 (grp), #[.int .i64 ep], #[.int .i64 fr], ints .u8 (bas), #[.slice a_p ps.length c_p], #[.bool n.us], #[.int .i64 n.nm], ints .u8 (n.key), ints .u8 (n.sg), ints .u8 (n.pa), #[.slice a_m n.ms.length c_m], #[.slice a_t ts.length c_t], ints .u8 (tag), ints .u8 (sig)])] 45 rfl kj kj ((QcO grp ep fr bas ps n ts tag sig _ _ _ _ _ _ _ ho hz (CmAt.here (CmAt.ext hcm x5))).mono (by rintro e w' ⟨v, rfl, e1, hv⟩; exact ⟨v, rfl, hv, e1⟩)) fun vv24 W6 hh24 => ?_
   obtain ⟨hv24, e6⟩ := hh24
   have x6 : Ext w W6 := Ext.tr x5 e6
   rw [hS] at hv24
   obtain ⟨u25_, rfl, hu25_⟩ := hv24
   obtain ⟨ar25_, cr25_, rfl, -⟩ := id (OwnN.rd hu25_)
   refine Qab (.tuple #[.slice ar25_ ((bs).length) cr25_, .bool true]) 43 rfl kj kj ?_
   refine Qab (.slice ar25_ ((bs).length) cr25_) 46 rfl kj kj ?_
   refine Qab (.bool true) 47 rfl kj kj ?_
   refine Qab (.slice ar25_ ((bs).length) cr25_) 7 rfl kj kj ?_
   refine Qab (.bool true) 8 rfl kj kj ?_
   refine Qaf ?_
   refine hK23 _ _ ?_
   refine wp_seq_k fun K26 hK26 => ?_
   refine wp_seq_k fun K27 hK27 => ?_
   refine Qae ?_
   refine Qab (.slice (some ⟨gb, 0, none⟩) bs.length cb) 48 rfl kj kj ?_
   refine Qab (.nilIface) 49 rfl kj kj ?_
   refine Qab (.slice ar25_ ((bs).length) cr25_) 50 rfl kj kj ?_
   refine Qab (.bool true) 51 rfl kj kj ?_
   have r22_6 := (Qar rowb e6)
   refine Qa1 (.bool true) 16 #[.slice (some ⟨gb, 0, none⟩) bs.length cb, .nilIface, .slice ar25_ ((bs).length) cr25_, .bool true] 52 rfl kj kj (Qhv _ _ bs _ (RdK.bytes (Qfn (rfl) r22_6 hcb_) hbb) (RdK.bytes (OwnN.rd hu25_) hbb)) fun W7 e7 => ?_
   have x7 : Ext w W7 := Ext.tr x6 e7
   refine Qab (.bool false) 53 rfl kj kj ?_
   refine Qaf ?_
   refine hK27 _ _ ?_
   refine cond_false kj ?_
   refine wp_skip ?_
   refine hK26 _ _ ?_
   refine wp_seq_k fun K28 hK28 => ?_
   refine wp_seq_k fun K29 hK29 => ?_
   refine Qae ?_
   refine Qab (.bool true) 54 rfl kj kj ?_
   refine Qab (.bool false) 55 rfl kj kj ?_
   refine Qaf ?_
   refine hK29 _ _ ?_
   refine cond_false kj ?_
   refine wp_skip ?_
   refine hK28 _ _ ?_
   refine wp_seq_k fun K30 hK30 => ?_
   refine Qae ?_
   refine Qab (.slice (some ⟨gb, 0, none⟩) bs.length cb) 57 rfl kj kj ?_
   have r22_7 := (Qar r22_6 e7)
   refine Qak (fun v W' => (fun v W => ∃ (ps : List PrV) (ap : Option Addr) (cp : Nat) (xs : List Int) (a : Option Addr) (c : Nat) (ts : List StV) (at_ : Option Addr) (ct : Nat), v = .tuple #[.agg (cat [ints .u8 (cGrp (Qam bs)), #[.int .i64 (cEp (Qam bs))], #[.int .i64 (cFr (Qam bs))], ints .u8 (cBas (Qam bs)), #[.slice ap ps.length cp], #[.bool (nUs (cS5 (Qam bs)))], #[.int .i64 (nNm (cS5 (Qam bs)))], ints .u8 (nKy (cS5 (Qam bs))), ints .u8 (nSg (cS5 (Qam bs))), ints .u8 (nPa (cS5 (Qam bs))), #[.slice a xs.length c], #[.slice at_ ts.length ct], ints .u8 (cTag (Qam bs)), ints .u8 (cSig (Qam bs))]), .nilIface] ∧ CmRd W7.heap.size W (Qam bs) ps (.slice ap ps.length cp) xs (.slice a xs.length c) ts (.slice at_ ts.length ct)) v W' ∧ Ext W7 W') 27 #[.slice (some ⟨gb, 0, none⟩) bs.length cb] 58 rfl kj kj ((QeT bs _ _ _ hbb (RdK.here (Qfn (rfl) r22_7 hcb_)) hR0).mono (by rintro e w' ⟨v, rfl, e1, hv⟩; exact ⟨v, rfl, hv, e1⟩)) fun vv31 W8 hh31 => ?_
   obtain ⟨hv31, e8⟩ := hh31
   have x8 : Ext w W8 := Ext.tr x7 e8
   replace hv31 : ∃ (ps : List PrV) (ap : Option Addr) (cp : Nat) (xs : List Int) (a : Option Addr) (c : Nat) (ts : List StV) (at_ : Option Addr) (ct : Nat), vv31 = .tuple #[.agg (cat [ints .u8 (cGrp (Qam bs)), #[.int .i64 (cEp (Qam bs))], #[.int .i64 (cFr (Qam bs))], ints .u8 (cBas (Qam bs)), #[.slice ap ps.length cp], #[.bool (nUs (cS5 (Qam bs)))], #[.int .i64 (nNm (cS5 (Qam bs)))], ints .u8 (nKy (cS5 (Qam bs))), ints .u8 (nSg (cS5 (Qam bs))), ints .u8 (nPa (cS5 (Qam bs))), #[.slice a xs.length c], #[.slice at_ ts.length ct], ints .u8 (cTag (Qam bs)), ints .u8 (cSig (Qam bs))]), .nilIface] ∧ CmRd W7.heap.size W8 (Qam bs) ps (.slice ap ps.length cp) xs (.slice a xs.length c) ts (.slice at_ ts.length ct) := hv31
   rw [f1, f2, f3, f4, f5, f6, n1, n2, n3, n4, n5] at hv31
   obtain ⟨qs, aq_, cq_, ys_, am_, cm_, us, at_, ct_, rfl, hcr⟩ := hv31
   obtain ⟨⟨hq1, hq2⟩, hys, hu1, hu2⟩ := hcr.is (by rw [hR0]; exact fun h => by cases h)
   obtain rfl : ys_ = n.ms := hys.trans hN.ms.symm
   have hqp : qs.map PrV.p = ps.map PrV.p := Qfc PrIs PrV.p pr0 (fun _ _ _ a b => PrIs.eq a b) ps qs (hq1.trans hp1.symm) _ hp2 hq2
   have hut : us.map stQ = ts.map stQ := Qfc StIs stQ st0 (fun _ _ _ a b => StIs.eq a b) ts us (hu1.trans ht1.symm) _ ht2 hu2
   have hus : refC grp ep fr bas qs n us tag sig = refC grp ep fr bas ps n ts tag sig := Qgi grp ep fr bas ps n ts tag sig qs us hqp hut
   have hz2 := CmSz.same hz hqp hut
   refine Qab (.tuple #[.agg (cat [ints .u8 (grp), #[.int .i64 ep], #[.int .i64 fr], ints .u8 (bas), #[.slice aq_ qs.length cq_], #[.bool n.us], #[.int .i64 n.nm], ints .u8 (n.key), ints .u8 (n.sg), ints .u8 (n.pa), #[.slice am_ n.ms.length cm_], #[.slice at_ us.length ct_], ints .u8 (tag), ints .u8 (sig)]), .nilIface]) 56 rfl kj kj ?_
   refine Qab (.agg (cat [ints .u8 (grp), #[.int .i64 ep], #[.int .i64 fr], ints .u8 (bas), #[.slice aq_ qs.length cq_], #[.bool n.us], #[.int .i64 n.nm], ints .u8 (n.key), ints .u8 (n.sg), ints .u8 (n.pa), #[.slice am_ n.ms.length cm_], #[.slice at_ us.length ct_], ints .u8 (tag), ints .u8 (sig)])) 59 rfl kj kj ?_
   refine Qab (.nilIface) 60 rfl kj kj ?_
   refine Qav (cat [ints .u8 (List.replicate 32 0), #[.int .i64 0], #[.int .i64 0], ints .u8 (List.replicate 32 0), #[.slice none 0 0], #[.bool false], #[.int .i64 0], ints .u8 (List.replicate 32 0), ints .u8 (List.replicate 32 0), ints .u8 (List.replicate 32 0), #[.slice none 0 0], #[.slice none 0 0], ints .u8 (List.replicate 32 0), ints .u8 (List.replicate 64 0)]) 59 9 rfl kj (Qbe 59 _ rfl (QdE _)) fun g32 W9 l32 e9 r32_9 => ?_
   have x9 : Ext w W9 := Ext.tr x8 e9
   have b32 : w.heap.size ≤ g32 := Nat.le_trans x8.size l32
   refine Qa3 g32 _ (cat [ints .u8 (grp), #[.int .i64 ep], #[.int .i64 fr], ints .u8 (bas), #[.slice aq_ qs.length cq_], #[.bool n.us], #[.int .i64 n.nm], ints .u8 (n.key), ints .u8 (n.sg), ints .u8 (n.pa), #[.slice am_ n.ms.length cm_], #[.slice at_ us.length ct_], ints .u8 (tag), ints .u8 (sig)]) 59 r32_9 rfl kj (Qa0 59 _ _ g32 59 _ _ r32_9 rfl kj kj (isz (n := 263) kj (by rw [Qaa, Qaa, Qaa, Qaa, Qaa, Qaa, Qaa, Qaa, Qaa, Qaa, Qaa, Qaa, Qaa, Qaa]; simp only [Array.size_append, cat, ((Qac _ _).trans ho.al), ((Qac _ _).trans ho.gl), ((Qac _ _).trans ho.il), ((Qac _ _).trans ho.n.gl), ((Qac _ _).trans ho.n.kl), ((Qac _ _).trans ho.n.pl), ((Qac _ _).trans ho.rl)]; rfl)) (eqsz (n := 263) (by rw [Qaa, Qaa, Qaa, Qaa, Qaa, Qaa, Qaa, Qaa, Qaa, Qaa, Qaa, Qaa, Qaa, Qaa]; simp only [Array.size_append, cat, ((Qac _ _).trans (List.length_replicate (n := 32))), ((Qac _ _).trans (List.length_replicate (n := 64)))]; rfl) (by rw [Qaa, Qaa, Qaa, Qaa, Qaa, Qaa, Qaa, Qaa, Qaa, Qaa, Qaa, Qaa, Qaa, Qaa]; simp only [Array.size_append, cat, ((Qac _ _).trans ho.al), ((Qac _ _).trans ho.gl), ((Qac _ _).trans ho.il), ((Qac _ _).trans ho.n.gl), ((Qac _ _).trans ho.n.kl), ((Qac _ _).trans ho.n.pl), ((Qac _ _).trans ho.rl)]; rfl)) (QaX _ (by intro a ha; simp only [List.mem_cons, List.not_mem_nil, or_false] at ha; rcases ha with rfl | rfl | rfl | rfl | rfl | rfl | rfl | rfl | rfl | rfl | rfl | rfl | rfl | rfl; exact (Qas _ _); exact (Qaq _ rfl); exact (Qaq _ rfl); exact (Qas _ _); exact (Qaq _ rfl); exact (Qaq _ rfl); exact (Qaq _ rfl); exact (Qas _ _); exact (Qas _ _); exact (Qas _ _); exact (Qaq _ rfl); exact (Qaq _ rfl); exact (Qas _ _); exact (Qas _ _)))) fun W10 p10 r32_10 => ?_
   have x10 : Ext w W10 := Puts.ext p10 x9 b32
   refine Qab (.nilIface) 6 rfl kj kj ?_
   refine Qaf ?_
   refine hK30 _ _ ?_
   refine wp_seq_k fun K33 hK33 => ?_
   refine Qae ?_
   refine Qab (.agg (cat [ints .u8 (grp), #[.int .i64 ep], #[.int .i64 fr], ints .u8 (bas), #[.slice aq_ qs.length cq_], #[.bool n.us], #[.int .i64 n.nm], ints .u8 (n.key), ints .u8 (n.sg), ints .u8 (n.pa), #[.slice am_ n.ms.length cm_], #[.slice at_ us.length ct_], ints .u8 (tag), ints .u8 (sig)])) 62 rfl kj (QaA 59 _ g32 59 _ _ r32_10 rfl kj kj (isz (n := 263) kj (by rw [Qaa, Qaa, Qaa, Qaa, Qaa, Qaa, Qaa, Qaa, Qaa, Qaa, Qaa, Qaa, Qaa, Qaa]; simp only [Array.size_append, cat, ((Qac _ _).trans ho.al), ((Qac _ _).trans ho.gl), ((Qac _ _).trans ho.il), ((Qac _ _).trans ho.n.gl), ((Qac _ _).trans ho.n.kl), ((Qac _ _).trans ho.n.pl), ((Qac _ _).trans ho.rl)]; rfl))) ?_
   have hcx34 := (CmRd.rows (CmRd.rows hcr (QbF _ 0 e9) (by decide) (by decide)) (Qbx _ p10 r32_9) (by decide) (by decide))
   refine Qak (fun v W' => (QdB W10.heap.size (refC grp ep fr bas qs n us tag sig)) v W' ∧ Ext W10 W') 26 #[.agg (cat [ints .u8 (grp), #[.int .i64 ep], #[.int .i64 fr], ints .u8 (bas), #[.slice aq_ qs.length cq_], #[.bool n.us], #[.int .i64 n.nm], ints .u8 (n.key), ints .u8 (n.sg), ints .u8 (n.pa), #[.slice am_ n.ms.length cm_], #[.slice at_ us.length ct_], ints .u8 (tag), ints .u8 (sig)])] 63 rfl kj kj ((QcO grp ep fr bas qs n us tag sig _ _ _ _ _ _ _ ho hz2 ⟨QbK.ls hcx34.op, RdK.here (OwnN.rd hcx34.om), Qb8.ls hcx34.ot⟩).mono (by rintro e w' ⟨v, rfl, e1, hv⟩; exact ⟨v, rfl, hv, e1⟩)) fun vv35 W11 hh35 => ?_
   obtain ⟨hv35, e11⟩ := hh35
   have x11 : Ext w W11 := Ext.tr x10 e11
   rw [hus, hS] at hv35
   obtain ⟨u36_, rfl, hu36_⟩ := hv35
   obtain ⟨ar36_, cr36_, rfl, -⟩ := id (OwnN.rd hu36_)
   refine Qab (.tuple #[.slice ar36_ ((bs).length) cr36_, .bool true]) 61 rfl kj kj ?_
   refine Qab (.slice ar36_ ((bs).length) cr36_) 64 rfl kj kj ?_
   refine Qab (.bool true) 65 rfl kj kj ?_
   refine Qab (.slice ar36_ ((bs).length) cr36_) 10 rfl kj kj ?_
   refine Qab (.bool true) 11 rfl kj kj ?_
   refine Qaf ?_
   refine hK33 _ _ ?_
   refine wp_seq_k fun K37 hK37 => ?_
   refine Qae ?_
   refine Qab (.slice (some ⟨gb, 0, none⟩) bs.length cb) 66 rfl kj kj ?_
   have r22_8 := (Qar r22_7 e8)
   have r22_9 := (Qar r22_8 e9)
   have r22_10 := (Puts.row p10 r22_9 (QaI r22_8 l32))
   have r22_11 := (Qar r22_10 e11)
   refine Qak (fun v W' => v = .tuple #[] ∧ ExtB gb W11 W') 18 #[.slice (some ⟨gb, 0, none⟩) bs.length cb] 67 rfl kj kj ((Qju gb bs.length cb bs rb_ _ (by omega) rfl r22_11).mono fun e w' h => ⟨_, h.1, rfl, h.2⟩) fun v38 W12 h38 => ?_
   obtain ⟨rfl, q12⟩ := h38
   have x12 : Ext w W12 := ExtB.toExt x11 q12 lo0b
   refine Qaf ?_
   refine hK37 _ _ ?_
   refine wp_seq_k fun K39 hK39 => ?_
   refine Qae ?_
   have r32_11 := (Qar r32_10 e11)
   have r32_12 := (ExtB.row q12 r32_11 (Qgx r22_8 l32))
   refine Qab (.agg (cat [ints .u8 (grp), #[.int .i64 ep], #[.int .i64 fr], ints .u8 (bas), #[.slice aq_ qs.length cq_], #[.bool n.us], #[.int .i64 n.nm], ints .u8 (n.key), ints .u8 (n.sg), ints .u8 (n.pa), #[.slice am_ n.ms.length cm_], #[.slice at_ us.length ct_], ints .u8 (tag), ints .u8 (sig)])) 69 rfl kj (QaA 59 _ g32 59 _ _ r32_12 rfl kj kj (isz (n := 263) kj (by rw [Qaa, Qaa, Qaa, Qaa, Qaa, Qaa, Qaa, Qaa, Qaa, Qaa, Qaa, Qaa, Qaa, Qaa]; simp only [Array.size_append, cat, ((Qac _ _).trans ho.al), ((Qac _ _).trans ho.gl), ((Qac _ _).trans ho.il), ((Qac _ _).trans ho.n.gl), ((Qac _ _).trans ho.n.kl), ((Qac _ _).trans ho.n.pl), ((Qac _ _).trans ho.rl)]; rfl))) ?_
   have hcx40 := (CmRd.rows (CmRd.rows (CmRd.rows (CmRd.rows hcr (QbF _ 0 e9) (by decide) (by decide)) (Qbx _ p10 r32_9) (by decide) (by decide)) (QbF _ 0 e11) (by decide) (by decide)) (Qbt 0 q12 (Nat.lt_of_lt_of_le (Qay rowb) (Nat.le_trans (Nat.le_trans (Nat.le_refl _) e6.size) e7.size))) (by decide) (by decide))
   refine Qak (fun v W' => (QdB W12.heap.size (refC grp ep fr bas qs n us tag sig)) v W' ∧ Ext W12 W') 26 #[.agg (cat [ints .u8 (grp), #[.int .i64 ep], #[.int .i64 fr], ints .u8 (bas), #[.slice aq_ qs.length cq_], #[.bool n.us], #[.int .i64 n.nm], ints .u8 (n.key), ints .u8 (n.sg), ints .u8 (n.pa), #[.slice am_ n.ms.length cm_], #[.slice at_ us.length ct_], ints .u8 (tag), ints .u8 (sig)])] 70 rfl kj kj ((QcO grp ep fr bas qs n us tag sig _ _ _ _ _ _ _ ho hz2 ⟨QbK.ls hcx40.op, RdK.here (OwnN.rd hcx40.om), Qb8.ls hcx40.ot⟩).mono (by rintro e w' ⟨v, rfl, e1, hv⟩; exact ⟨v, rfl, hv, e1⟩)) fun vv41 W13 hh41 => ?_
   obtain ⟨hv41, e13⟩ := hh41
   have x13 : Ext w W13 := Ext.tr x12 e13
   rw [hus, hS] at hv41
   obtain ⟨u42_, rfl, hu42_⟩ := hv41
   obtain ⟨ar42_, cr42_, rfl, -⟩ := id (OwnN.rd hu42_)
   refine Qab (.tuple #[.slice ar42_ ((bs).length) cr42_, .bool true]) 68 rfl kj kj ?_
   refine Qab (.slice ar42_ ((bs).length) cr42_) 71 rfl kj kj ?_
   refine Qab (.bool true) 72 rfl kj kj ?_
   refine Qab (.slice ar42_ ((bs).length) cr42_) 12 rfl kj kj ?_
   refine Qab (.bool true) 13 rfl kj kj ?_
   refine Qaf ?_
   refine hK39 _ _ ?_
   refine wp_seq_k fun K43 hK43 => ?_
   refine Qae ?_
   refine Qab (.nilIface) 73 rfl kj kj ?_
   refine Qab (.bool true) 74 rfl kj kj ?_
   refine Qab (.bool true) 75 rfl kj kj ?_
   refine Qab (.bool true) 76 rfl kj kj ?_
   refine Qab (.bool true) 77 rfl kj kj ?_
   refine Qab (.bool true) 78 rfl kj kj ?_
   refine Qab (.bool true) 79 rfl kj kj ?_
   refine Qab (.bool true) 80 rfl kj kj ?_
   refine Qab (.bool true) 81 rfl kj kj ?_
   refine Qab (.slice ar36_ ((bs).length) cr36_) 82 rfl kj kj ?_
   refine Qab (.slice ar25_ ((bs).length) cr25_) 83 rfl kj kj ?_
   have f44_12 := (Qbw hu36_ q12 (Qbp hu36_ (Qay r22_10)))
   have f45_13 := (f44_12.ext e13)
   have f46_7 := (hu25_.ext e7)
   have f47_8 := (f46_7.ext e8)
   have f48_9 := (f47_8.ext e9)
   have f49_10 := (f48_9.puts p10 (Qdl f47_8 l32))
   have f50_11 := (f49_10.ext e11)
   have f51_12 := (Qbw f50_11 q12 (Qbp hu25_ (Qay rowb)))
   have f52_13 := (f51_12.ext e13)
   refine Qa1 (.bool true) 19 #[.slice ar36_ ((bs).length) cr36_, .slice ar25_ ((bs).length) cr25_] 84 rfl kj kj (QhC _ _ _ _ _ rfl (RdK.bytes (OwnN.rd f45_13) hbb) (RdK.bytes (OwnN.rd f52_13) hbb)) fun W14 e14 => ?_
   have x14 : Ext w W14 := Ext.tr x13 e14
   refine Qab (.bool true) 85 rfl kj kj ?_
   refine Qab (.bool true) 86 rfl kj kj ?_
   refine Qab (.slice ar42_ ((bs).length) cr42_) 87 rfl kj kj ?_
   refine Qab (.slice ar25_ ((bs).length) cr25_) 88 rfl kj kj ?_
   have f53_14 := (hu42_.ext e14)
   have f54_14 := (f52_13.ext e14)
   refine Qa1 (.bool true) 19 #[.slice ar42_ ((bs).length) cr42_, .slice ar25_ ((bs).length) cr25_] 89 rfl kj kj (QhC _ _ _ _ _ rfl (RdK.bytes (OwnN.rd f53_14) hbb) (RdK.bytes (OwnN.rd f54_14) hbb)) fun W15 e15 => ?_
   have x15 : Ext w W15 := Ext.tr x14 e15
   refine Qab (.bool true) 90 rfl kj kj ?_
   refine Qab (.bool true) 2 rfl kj kj ?_
   refine Qaf ?_
   refine hK43 _ _ ?_
   refine wp_ret ?_
   repeat (first | with_reducible refine goR1 ?_ | with_reducible refine goR2 ?_)
   exact (show bodyPost _ _ _ .ret _ _ from ret1 (.bool true) rfl (Qaw kj) ⟨rfl, x15⟩)
theorem lawC (grp : List Int) (ep fr : Int) (bas : List Int) (ps : List PrV) (n : NdC) (ts : List StV) (tag sig : List Int) (a_p : Option Addr) (c_p : Nat) (a_m : Option Addr) (c_m : Nat) (a_t : Option Addr) (c_t : Nat) (w : World) (ho : CmOk grp bas n tag sig) (hcm : CmAt w.heap.size w ps a_p n a_m c_m ts a_t) : Calls Try.prog 5 #[.agg (cat [ints .u8 (grp), #[.int .i64 ep], #[.int .i64 fr], ints .u8 (bas), #[.slice a_p ps.length c_p], #[.bool n.us], #[.int .i64 n.nm], ints .u8 (n.key), ints .u8 (n.sg), ints .u8 (n.pa), #[.slice a_m n.ms.length c_m], #[.slice a_t ts.length c_t], ints .u8 (tag), ints .u8 (sig)])] w (Ret w (.bool true)) := by
  by_cases h1 : ps.length < 300
  · cases hS : refC grp ep fr bas ps n ts tag sig with
    | none => exact QiR grp ep fr bas ps n ts tag sig a_p c_p a_m c_m a_t c_t w ho hcm h1 hS
    | some bs => exact QiQ grp ep fr bas ps n ts tag sig a_p c_p a_m c_m a_t c_t w ho hcm h1 bs hS
  · exact QiS grp ep fr bas ps n ts tag sig a_p c_p a_m c_m a_t c_t w ho hcm (by omega)
end Go.Proofs.Ytfelfmchachljaa.Wr
end
section
namespace Go.Proofs.Ytfelfmchachljaa.Auto
open Go Go.RowKit Go.WideShapes
open Rely
set_option linter.unusedVariables false
section
variable {H : Type} {enc : TypeId × Value → H} {P : Program} {W w : World} {r : Reach} {base b0 : Nat} {sp : Nat → Bool} {held : Bool}
theorem open_raw {n : Nat} {t e : TypeId} {cs : List Value} {fuel : Nat} {x : DataW H × List MemPlace} (ht : P.underlying t = some (.array n e)) (he : P.underlying e = some (.int .u8)) (hce : P.cellsOf e = 1) (hct : P.cellsOf t = n)
    (hf : DataW.trod enc P w b0 sp held fuel t cs = some x) : ∃ xs : List Int, cs = xs.map (Value.int .u8) ∧ xs.length = n ∧ Qaj xs := by
  obtain ⟨xs, m, -, -, hl, hn, hx⟩ := DataW.trod_array ht hf
  have hcs : cs.length = n := by simpa [hct] using hl
  have each : ∀ i, i < n → ∃ z : Int, cs[i]? = some (.int .u8 z) ∧ (0 ≤ z ∧ z ≤ 255) := by
    intro i hi
    have h1 := hx i hi
    rw [hce, Nat.mul_one] at h1
    have hlt : i < cs.length := by omega
    have h2 : cs.drop i = cs[i] :: cs.drop (i + 1) := List.drop_eq_getElem_cons hlt
    have h1 : DataW.trod enc P w b0 sp held m e ((cs.drop i).take 1) = xs[i]? := h1
    rw [h2] at h1
    simp only [List.take_succ_cons, List.take_zero] at h1
    obtain ⟨y, hy⟩ : ∃ y, xs[i]? = some y := ⟨xs[i], by simp [hn, hi]⟩
    rw [hy] at h1
    obtain ⟨z, hc, -, hw⟩ := DataW.trod_int he h1
    refine ⟨z, ?_, ?_⟩
    · rw [List.getElem?_eq_getElem hlt]
      simp only [List.cons.injEq] at hc
      rw [hc.1]
    · simpa [Lit.wf, IntKind.min, IntKind.max, IntKind.signed, IntKind.bits] using hw
  have all : ∀ (l : List Value), (∀ i, i < l.length → ∃ z : Int, l[i]? = some (.int .u8 z) ∧ (0 ≤ z ∧ z ≤ 255)) → ∃ zs : List Int, l = zs.map (Value.int .u8) ∧ Qaj zs := by
    intro l
    induction l with
    | nil => exact fun _ => ⟨[], rfl, fun x hx => by simp at hx⟩
    | cons a l ih =>
      intro h
      obtain ⟨zs, h1, h2⟩ := ih fun i hi => by simpa using h (i + 1) (by simp; omega)
      obtain ⟨z, h3, h4⟩ := h 0 (by simp)
      simp only [List.getElem?_cons_zero, Option.some.injEq] at h3
      refine ⟨z :: zs, by rw [h3, h1]; rfl, fun x hx => ?_⟩
      rcases List.mem_cons.1 hx with e | e
      · rw [e]; exact h4
      · exact h2 x e
  obtain ⟨zs, h1, h2⟩ := all cs fun i hi => each i (by omega)
  exact ⟨zs, h1, by rw [← hcs, h1, List.length_map], h2⟩
end
end Go.Proofs.Ytfelfmchachljaa.Auto
end
section
namespace Go.Proofs.Ytfelfmchachljaa.Auto
open Go Go.RowKit Go.WideShapes
open Rely
set_option linter.unusedVariables false
section
variable {H : Type} {enc : TypeId × Value → H} {P : Program} {W w : World} {r : Reach} {base b0 : Nat} {sp : Nat → Bool} {held : Bool}
theorem QgL {t : TypeId} {f0 f1 : Field} {fuel : Nat} {cs : List Value} {x : DataW H × List MemPlace} (ht : P.underlying t = some (.struct #[f0, f1])) (h : DataW.trod enc P w b0 sp held fuel t cs = some x) :
    ∃ y0 y1 n, cs.length = P.cellsOf t ∧ DataW.trod enc P w b0 sp held n f0.type ((cs.drop f0.offset).take (P.cellsOf f0.type)) = some y0 ∧ DataW.trod enc P w b0 sp held n f1.type ((cs.drop f1.offset).take (P.cellsOf f1.type)) = some y1 := by
  obtain ⟨xs, n, _, rfl, hl, hlen, hf⟩ := DataW.trod_struct ht h
  match xs, hlen with
  | [y0, y1], _ => exact ⟨y0, y1, n, hl, by simpa using hf 0 f0 rfl, by simpa using hf 1 f1 rfl⟩
theorem sub_st2 {t : TypeId} {f0 f1 : Field} {fuel : Nat} {cs : List Value} {x : DataW H × List MemPlace} {n0 n1 : Nat} (ht : P.underlying t = some (.struct #[f0, f1]))
    (ho : f0.offset = 0 ∧ f1.offset = n0) (hc : P.cellsOf f0.type = n0 ∧ P.cellsOf f1.type = n1) (hC : P.cellsOf t = n0 + n1) (h : DataW.trod enc P w b0 sp held fuel t cs = some x) :
    ∃ (X0 X1 : List Value) (y0 y1 : DataW H × List MemPlace) (n : Nat), cs = X0 ++ X1 ∧ DataW.trod enc P w b0 sp held n f0.type X0 = some y0 ∧ DataW.trod enc P w b0 sp held n f1.type X1 = some y1 := by
  obtain ⟨y0, y1, n, hl, h0, h1⟩ := QgL ht h
  obtain ⟨o0, o1⟩ := ho
  obtain ⟨c0, c1⟩ := hc
  rw [o0, c0] at h0
  rw [o1, c1] at h1
  refine ⟨_, _, y0, y1, n, ?_, h0, h1⟩
  rw [hC] at hl
  simp only [List.drop_zero]
  have e1 : cs.take (n0) ++ (cs.drop (n0)).take n1 = cs.take (n0 + n1) := by rw [List.take_add (i := n0)]
  rw [e1, List.take_of_length_le (by omega)]
end
end Go.Proofs.Ytfelfmchachljaa.Auto
end
section
namespace Go.Proofs.Ytfelfmchachljaa.Auto
open Go Go.RowKit Go.WideShapes
open Rely
set_option linter.unusedVariables false
section
variable {H : Type} {enc : TypeId × Value → H} {P : Program} {W w : World} {r : Reach} {base b0 : Nat} {sp : Nat → Bool} {held : Bool}
theorem QgK {t : TypeId} {f0 f1 f2 f3 f4 f5 : Field} {fuel : Nat} {cs : List Value} {x : DataW H × List MemPlace} (ht : P.underlying t = some (.struct #[f0, f1, f2, f3, f4, f5])) (h : DataW.trod enc P w b0 sp held fuel t cs = some x) :
    ∃ y0 y1 y2 y3 y4 y5 n, cs.length = P.cellsOf t ∧ DataW.trod enc P w b0 sp held n f0.type ((cs.drop f0.offset).take (P.cellsOf f0.type)) = some y0 ∧ DataW.trod enc P w b0 sp held n f1.type ((cs.drop f1.offset).take (P.cellsOf f1.type)) = some y1 ∧ DataW.trod enc P w b0 sp held n f2.type ((cs.drop f2.offset).take (P.cellsOf f2.type)) = some y2 ∧ DataW.trod enc P w b0 sp held n f3.type ((cs.drop f3.offset).take (P.cellsOf f3.type)) = some y3 ∧ DataW.trod enc P w b0 sp held n f4.type ((cs.drop f4.offset).take (P.cellsOf f4.type)) = some y4 ∧ DataW.trod enc P w b0 sp held n f5.type ((cs.drop f5.offset).take (P.cellsOf f5.type)) = some y5 := by
  obtain ⟨xs, n, _, rfl, hl, hlen, hf⟩ := DataW.trod_struct ht h
  match xs, hlen with
  | [y0, y1, y2, y3, y4, y5], _ => exact ⟨y0, y1, y2, y3, y4, y5, n, hl, by simpa using hf 0 f0 rfl, by simpa using hf 1 f1 rfl, by simpa using hf 2 f2 rfl, by simpa using hf 3 f3 rfl, by simpa using hf 4 f4 rfl, by simpa using hf 5 f5 rfl⟩
theorem sub_st6 {t : TypeId} {f0 f1 f2 f3 f4 f5 : Field} {fuel : Nat} {cs : List Value} {x : DataW H × List MemPlace} {n0 n1 n2 n3 n4 n5 : Nat} (ht : P.underlying t = some (.struct #[f0, f1, f2, f3, f4, f5]))
    (ho : f0.offset = 0 ∧ f1.offset = n0 ∧ f2.offset = n0 + n1 ∧ f3.offset = n0 + n1 + n2 ∧ f4.offset = n0 + n1 + n2 + n3 ∧ f5.offset = n0 + n1 + n2 + n3 + n4) (hc : P.cellsOf f0.type = n0 ∧ P.cellsOf f1.type = n1 ∧ P.cellsOf f2.type = n2 ∧ P.cellsOf f3.type = n3 ∧ P.cellsOf f4.type = n4 ∧ P.cellsOf f5.type = n5) (hC : P.cellsOf t = n0 + n1 + n2 + n3 + n4 + n5) (h : DataW.trod enc P w b0 sp held fuel t cs = some x) :
    ∃ (X0 X1 X2 X3 X4 X5 : List Value) (y0 y1 y2 y3 y4 y5 : DataW H × List MemPlace) (n : Nat), cs = X0 ++ X1 ++ X2 ++ X3 ++ X4 ++ X5 ∧ DataW.trod enc P w b0 sp held n f0.type X0 = some y0 ∧ DataW.trod enc P w b0 sp held n f1.type X1 = some y1 ∧ DataW.trod enc P w b0 sp held n f2.type X2 = some y2 ∧ DataW.trod enc P w b0 sp held n f3.type X3 = some y3 ∧ DataW.trod enc P w b0 sp held n f4.type X4 = some y4 ∧ DataW.trod enc P w b0 sp held n f5.type X5 = some y5 := by
  obtain ⟨y0, y1, y2, y3, y4, y5, n, hl, h0, h1, h2, h3, h4, h5⟩ := QgK ht h
  obtain ⟨o0, o1, o2, o3, o4, o5⟩ := ho
  obtain ⟨c0, c1, c2, c3, c4, c5⟩ := hc
  rw [o0, c0] at h0
  rw [o1, c1] at h1
  rw [o2, c2] at h2
  rw [o3, c3] at h3
  rw [o4, c4] at h4
  rw [o5, c5] at h5
  refine ⟨_, _, _, _, _, _, y0, y1, y2, y3, y4, y5, n, ?_, h0, h1, h2, h3, h4, h5⟩
  rw [hC] at hl
  simp only [List.drop_zero]
  have e1 : cs.take (n0) ++ (cs.drop (n0)).take n1 = cs.take (n0 + n1) := by rw [List.take_add (i := n0)]
  have e2 : cs.take (n0 + n1) ++ (cs.drop (n0 + n1)).take n2 = cs.take (n0 + n1 + n2) := by rw [List.take_add (i := n0 + n1)]
  have e3 : cs.take (n0 + n1 + n2) ++ (cs.drop (n0 + n1 + n2)).take n3 = cs.take (n0 + n1 + n2 + n3) := by rw [List.take_add (i := n0 + n1 + n2)]
  have e4 : cs.take (n0 + n1 + n2 + n3) ++ (cs.drop (n0 + n1 + n2 + n3)).take n4 = cs.take (n0 + n1 + n2 + n3 + n4) := by rw [List.take_add (i := n0 + n1 + n2 + n3)]
  have e5 : cs.take (n0 + n1 + n2 + n3 + n4) ++ (cs.drop (n0 + n1 + n2 + n3 + n4)).take n5 = cs.take (n0 + n1 + n2 + n3 + n4 + n5) := by rw [List.take_add (i := n0 + n1 + n2 + n3 + n4)]
  rw [e1, e2, e3, e4, e5, List.take_of_length_le (by omega)]
end
end Go.Proofs.Ytfelfmchachljaa.Auto
end
section
namespace Go.Proofs.Ytfelfmchachljaa.Auto
open Go Go.RowKit Go.WideShapes
open Rely
set_option linter.unusedVariables false
section
variable {H : Type} {enc : TypeId × Value → H} {P : Program} {W w : World} {r : Reach} {base b0 : Nat} {sp : Nat → Bool} {held : Bool}
theorem QgI {t : TypeId} {f0 f1 f2 f3 f4 f5 f6 f7 f8 : Field} {fuel : Nat} {cs : List Value} {x : DataW H × List MemPlace} (ht : P.underlying t = some (.struct #[f0, f1, f2, f3, f4, f5, f6, f7, f8])) (h : DataW.trod enc P w b0 sp held fuel t cs = some x) :
    ∃ y0 y1 y2 y3 y4 y5 y6 y7 y8 n, cs.length = P.cellsOf t ∧ DataW.trod enc P w b0 sp held n f0.type ((cs.drop f0.offset).take (P.cellsOf f0.type)) = some y0 ∧ DataW.trod enc P w b0 sp held n f1.type ((cs.drop f1.offset).take (P.cellsOf f1.type)) = some y1 ∧ DataW.trod enc P w b0 sp held n f2.type ((cs.drop f2.offset).take (P.cellsOf f2.type)) = some y2 ∧ DataW.trod enc P w b0 sp held n f3.type ((cs.drop f3.offset).take (P.cellsOf f3.type)) = some y3 ∧ DataW.trod enc P w b0 sp held n f4.type ((cs.drop f4.offset).take (P.cellsOf f4.type)) = some y4 ∧ DataW.trod enc P w b0 sp held n f5.type ((cs.drop f5.offset).take (P.cellsOf f5.type)) = some y5 ∧ DataW.trod enc P w b0 sp held n f6.type ((cs.drop f6.offset).take (P.cellsOf f6.type)) = some y6 ∧ DataW.trod enc P w b0 sp held n f7.type ((cs.drop f7.offset).take (P.cellsOf f7.type)) = some y7 ∧ DataW.trod enc P w b0 sp held n f8.type ((cs.drop f8.offset).take (P.cellsOf f8.type)) = some y8 := by
  obtain ⟨xs, n, _, rfl, hl, hlen, hf⟩ := DataW.trod_struct ht h
  match xs, hlen with
  | [y0, y1, y2, y3, y4, y5, y6, y7, y8], _ => exact ⟨y0, y1, y2, y3, y4, y5, y6, y7, y8, n, hl, by simpa using hf 0 f0 rfl, by simpa using hf 1 f1 rfl, by simpa using hf 2 f2 rfl, by simpa using hf 3 f3 rfl, by simpa using hf 4 f4 rfl, by simpa using hf 5 f5 rfl, by simpa using hf 6 f6 rfl, by simpa using hf 7 f7 rfl, by simpa using hf 8 f8 rfl⟩
theorem sub_st9 {t : TypeId} {f0 f1 f2 f3 f4 f5 f6 f7 f8 : Field} {fuel : Nat} {cs : List Value} {x : DataW H × List MemPlace} {n0 n1 n2 n3 n4 n5 n6 n7 n8 : Nat} (ht : P.underlying t = some (.struct #[f0, f1, f2, f3, f4, f5, f6, f7, f8]))
    (ho : f0.offset = 0 ∧ f1.offset = n0 ∧ f2.offset = n0 + n1 ∧ f3.offset = n0 + n1 + n2 ∧ f4.offset = n0 + n1 + n2 + n3 ∧ f5.offset = n0 + n1 + n2 + n3 + n4 ∧ f6.offset = n0 + n1 + n2 + n3 + n4 + n5 ∧ f7.offset = n0 + n1 + n2 + n3 + n4 + n5 + n6 ∧ f8.offset = n0 + n1 + n2 + n3 + n4 + n5 + n6 + n7) (hc : P.cellsOf f0.type = n0 ∧ P.cellsOf f1.type = n1 ∧ P.cellsOf f2.type = n2 ∧ P.cellsOf f3.type = n3 ∧ P.cellsOf f4.type = n4 ∧ P.cellsOf f5.type = n5 ∧ P.cellsOf f6.type = n6 ∧ P.cellsOf f7.type = n7 ∧ P.cellsOf f8.type = n8) (hC : P.cellsOf t = n0 + n1 + n2 + n3 + n4 + n5 + n6 + n7 + n8) (h : DataW.trod enc P w b0 sp held fuel t cs = some x) :
    ∃ (X0 X1 X2 X3 X4 X5 X6 X7 X8 : List Value) (y0 y1 y2 y3 y4 y5 y6 y7 y8 : DataW H × List MemPlace) (n : Nat), cs = X0 ++ X1 ++ X2 ++ X3 ++ X4 ++ X5 ++ X6 ++ X7 ++ X8 ∧ DataW.trod enc P w b0 sp held n f0.type X0 = some y0 ∧ DataW.trod enc P w b0 sp held n f1.type X1 = some y1 ∧ DataW.trod enc P w b0 sp held n f2.type X2 = some y2 ∧ DataW.trod enc P w b0 sp held n f3.type X3 = some y3 ∧ DataW.trod enc P w b0 sp held n f4.type X4 = some y4 ∧ DataW.trod enc P w b0 sp held n f5.type X5 = some y5 ∧ DataW.trod enc P w b0 sp held n f6.type X6 = some y6 ∧ DataW.trod enc P w b0 sp held n f7.type X7 = some y7 ∧ DataW.trod enc P w b0 sp held n f8.type X8 = some y8 := by
  obtain ⟨y0, y1, y2, y3, y4, y5, y6, y7, y8, n, hl, h0, h1, h2, h3, h4, h5, h6, h7, h8⟩ := QgI ht h
  obtain ⟨o0, o1, o2, o3, o4, o5, o6, o7, o8⟩ := ho
  obtain ⟨c0, c1, c2, c3, c4, c5, c6, c7, c8⟩ := hc
  rw [o0, c0] at h0
  rw [o1, c1] at h1
  rw [o2, c2] at h2
  rw [o3, c3] at h3
  rw [o4, c4] at h4
  rw [o5, c5] at h5
  rw [o6, c6] at h6
  rw [o7, c7] at h7
  rw [o8, c8] at h8
  refine ⟨_, _, _, _, _, _, _, _, _, y0, y1, y2, y3, y4, y5, y6, y7, y8, n, ?_, h0, h1, h2, h3, h4, h5, h6, h7, h8⟩
  rw [hC] at hl
  simp only [List.drop_zero]
  have e1 : cs.take (n0) ++ (cs.drop (n0)).take n1 = cs.take (n0 + n1) := by rw [List.take_add (i := n0)]
  have e2 : cs.take (n0 + n1) ++ (cs.drop (n0 + n1)).take n2 = cs.take (n0 + n1 + n2) := by rw [List.take_add (i := n0 + n1)]
  have e3 : cs.take (n0 + n1 + n2) ++ (cs.drop (n0 + n1 + n2)).take n3 = cs.take (n0 + n1 + n2 + n3) := by rw [List.take_add (i := n0 + n1 + n2)]
  have e4 : cs.take (n0 + n1 + n2 + n3) ++ (cs.drop (n0 + n1 + n2 + n3)).take n4 = cs.take (n0 + n1 + n2 + n3 + n4) := by rw [List.take_add (i := n0 + n1 + n2 + n3)]
  have e5 : cs.take (n0 + n1 + n2 + n3 + n4) ++ (cs.drop (n0 + n1 + n2 + n3 + n4)).take n5 = cs.take (n0 + n1 + n2 + n3 + n4 + n5) := by rw [List.take_add (i := n0 + n1 + n2 + n3 + n4)]
  have e6 : cs.take (n0 + n1 + n2 + n3 + n4 + n5) ++ (cs.drop (n0 + n1 + n2 + n3 + n4 + n5)).take n6 = cs.take (n0 + n1 + n2 + n3 + n4 + n5 + n6) := by rw [List.take_add (i := n0 + n1 + n2 + n3 + n4 + n5)]
  have e7 : cs.take (n0 + n1 + n2 + n3 + n4 + n5 + n6) ++ (cs.drop (n0 + n1 + n2 + n3 + n4 + n5 + n6)).take n7 = cs.take (n0 + n1 + n2 + n3 + n4 + n5 + n6 + n7) := by rw [List.take_add (i := n0 + n1 + n2 + n3 + n4 + n5 + n6)]
  have e8 : cs.take (n0 + n1 + n2 + n3 + n4 + n5 + n6 + n7) ++ (cs.drop (n0 + n1 + n2 + n3 + n4 + n5 + n6 + n7)).take n8 = cs.take (n0 + n1 + n2 + n3 + n4 + n5 + n6 + n7 + n8) := by rw [List.take_add (i := n0 + n1 + n2 + n3 + n4 + n5 + n6 + n7)]
  rw [e1, e2, e3, e4, e5, e6, e7, e8, List.take_of_length_le (by omega)]
end
end Go.Proofs.Ytfelfmchachljaa.Auto
end
section
namespace Go.Proofs.Ytfelfmchachljaa.Auto
open Go Go.RowKit
open Rely
set_option linter.unusedVariables false
theorem bytes_wf {bs : List Int} (h : ∀ n ∈ bs, (Lit.int .u8 n).wf = true) : Qaj bs := fun n hn => by
  have := h n hn
  simpa [Lit.wf, IntKind.min, IntKind.max, IntKind.signed, IntKind.bits] using this
end Go.Proofs.Ytfelfmchachljaa.Auto
end
section
namespace Go.Proofs.Ytfelfmchachljaa.Wr
open Go Go.RowKit
open Rely Auto Own Sha
set_option linter.unusedVariables false
set_option linter.unusedSimpArgs false
open Go.WideShapes Go.ChangeShapes Go.ChangeAt Go.Deep
section
variable {H : Type} {enc : TypeId × Value → H} {w : World} {b0 : Nat} {held : Bool}
theorem Qhs (x : Addr) (i j : Nat) : (x.add i).add j = x.add (i + j) := by
  by_cases hi : i = 0 <;> by_cases hj : j = 0 <;> simp [Addr.add, hi, hj, Nat.add_assoc]
theorem QeX {α : Type} {El : Nat → World → Nat → Nat → α → Prop} {sz : Nat} {d : α} {P : Program} {t s : TypeId} (h0 : 0 < sz) (hs : P.underlying t = some (.slice s)) (hC : P.cellsOf s = sz)
    (hel : ∀ (fuel : Nat) (cs : List Value) (y : DataW H × List MemPlace), DataW.trod enc P w b0 (fun _ => true) held fuel s cs = some y → ∃ x : α, ∀ g off, g < w.heap.size → (∀ (j : Nat) (u : Value), cs[j]? = some u → w.cell? ⟨g, off + j, none⟩ = some u) → El w.heap.size w g off x)
    {fuel : Nat} {cs : List Value} {y : DataW H × List MemPlace} (h : DataW.trod enc P w b0 (fun _ => true) held fuel t cs = some y) :
    ∃ (ad : Option Addr) (len cap : Nat) (ts : List α), cs = [.slice ad len cap] ∧ ts.length = len ∧ LsAt El sz d w.heap.size w ad ts := by
  rcases DataW.trod_slice hs h with ⟨hcs', -⟩ | ⟨x, l, c, elems, rest, n, -, hcs', -, hb, hl, hmx, hlen, hel', -, -⟩
  · exact ⟨none, 0, 0, [], hcs', rfl, 0, 0, fun h => absurd h (Nat.lt_irrefl 0), fun i hi => absurd hi (Nat.not_lt_zero _)⟩
  · have key : ∀ i, i < l → ∃ (cs1 : List Value) (xx : α), cs1.length = sz ∧ (∀ (j : Nat) (u : Value), cs1[j]? = some u → w.cell? (x.add (i * sz + j)) = some u) ∧ (∀ g off, g < w.heap.size → (∀ (j : Nat) (u : Value), cs1[j]? = some u → w.cell? ⟨g, off + j, none⟩ = some u) → El w.heap.size w g off xx) := fun i hi => by
      have h9 := hel' i hi
      rw [hC, List.getElem?_eq_getElem (by omega)] at h9
      obtain ⟨cs1, hc1, hc2⟩ := Option.bind_eq_some_iff.1 h9
      obtain ⟨hn, q1, q2⟩ := World.cells?_some hc1
      obtain ⟨xx, hx⟩ := hel _ _ _ hc2
      refine ⟨cs1, xx, q1, fun j u hu => ?_, hx⟩
      have hj : j < sz := by have := (List.getElem?_eq_some_iff.1 hu).1; omega
      have := q2 j hj
      rw [Qhs] at this
      rw [this]; exact hu
    rcases Nat.eq_zero_or_pos l with h0' | h0'
    · subst h0'
      exact ⟨some x, 0, c, [], hcs', rfl, 0, 0, fun h => absurd h (Nat.lt_irrefl 0), fun i hi => absurd hi (Nat.not_lt_zero _)⟩
    obtain ⟨b, off, spot⟩ := x
    obtain ⟨cs0, x0, hl0, hq, -⟩ := key 0 h0'
    have hq0 := hq 0 _ (List.getElem?_eq_getElem (by omega))
    have hspot : spot = none := by simpa [Addr.add] using World.cell?_spot hq0
    subst hspot
    rw [WideShapes.add_plain] at hq0
    have hlt : b < w.heap.size := QdP hq0
    have all : ∀ m, m ≤ l → ∃ ts : List α, ts.length = m ∧ ∀ i, i < m → El w.heap.size w b (off + i * sz) (ts.getD i d) := by
      intro m
      induction m with
      | zero => exact fun _ => ⟨[], rfl, fun i hi => absurd hi (Nat.not_lt_zero _)⟩
      | succ m ih =>
        intro hm
        obtain ⟨ts, htl, hts⟩ := ih (by omega)
        obtain ⟨cs1, n, -, k1, k2⟩ := key m (by omega)
        refine ⟨ts ++ [n], by rw [List.length_append, htl]; rfl, fun i hi => ?_⟩
        rw [Qdu]
        split
        · rename_i h; exact hts i (by omega)
        · rename_i h
          obtain rfl : i = m := by omega
          rw [if_pos htl.symm]
          exact k2 _ _ hlt fun j u hu => by have := k1 j u hu; rw [WideShapes.add_plain] at this; rw [Nat.add_assoc]; exact this
    obtain ⟨ts, htl, hts⟩ := all l (Nat.le_refl _)
    exact ⟨_, l, c, ts, hcs', htl, b, off, fun _ => rfl, fun i hi => hts i (by omega)⟩
theorem QiY (fuel : Nat) (cs : List Value) (y : DataW H × List MemPlace) (h : DataW.trod enc Try.prog w b0 (fun _ => true) held fuel 26 cs = some y) : ∃ x : RwV, ∀ g off, g < w.heap.size → (∀ (j : Nat) (u : Value), cs[j]? = some u → w.cell? ⟨g, off + j, none⟩ = some u) → RwAt w.heap.size w g off x := by
  rcases open_ints Try.underlying26 Try.underlying5 kj h with ⟨hcs, -⟩ | ⟨a, l, c, zs, hcs, -, hl, hm, hz, -, hcell, hwz⟩
  · exact ⟨⟨[], none, 0⟩, fun g off hg hc => ⟨hg, hg, hc 0 _ (by rw [hcs]; rfl), ⟨none, 0, rfl, Nat.le_refl _, Nat.zero_le _, fun _ => rfl, .inl rfl⟩, fun x hx => by cases hx⟩⟩
  · obtain ⟨r, rl, rf⟩ := Auto.rdK_of_row (k := .u8) (w := w) (a := some a) (len := l) (cap := c) (zs := zs) (.inr ⟨a, rfl, hl, hm, by simpa using hz, hcell, hwz⟩)
    exact ⟨⟨zs.take l, some a, c⟩, fun g off hg hc => ⟨hg, hg, by show _ = some (Value.slice (some a) (zs.take l).length c); rw [rl]; exact hc 0 _ (by rw [hcs]; rfl), by show RdK .u8 _ _ (.slice (some a) (zs.take l).length c) w; rw [rl]; exact r, Auto.bytes_wf rf⟩⟩
theorem Qik (fuel : Nat) (cs : List Value) (y : DataW H × List MemPlace) (h : DataW.trod enc Try.prog w b0 (fun _ => true) held fuel 129 cs = some y) : ∃ x : StV, ∀ g off, g < w.heap.size → (∀ (j : Nat) (u : Value), cs[j]? = some u → w.cell? ⟨g, off + j, none⟩ = some u) → StAt w.heap.size w g off x := by
  obtain ⟨X0, X1, y0, y1, m, hcs, t0, t1⟩ := Auto.sub_st2 (n0 := 32) (n1 := 1) Try.underlying129 ⟨by kernel_rfl, by kernel_rfl⟩ ⟨by kernel_rfl, by kernel_rfl⟩ kj h
  obtain ⟨z0, rfl, hz0, b0_⟩ := open_raw Try.underlying40 Try.underlying5 kj kj t0
  obtain ⟨ad, len, cap, rows, rfl, hrl, hrows⟩ := QeX (d := rw0) (El := RwAt) (sz := 1) (by decide) Try.underlying127 kj (fun f c y h => QiY f c y h) t1
  subst hrl
  refine ⟨⟨z0, rows, ad, cap⟩, fun g off hg hc => ⟨hg, hg, fun j u hu => hc j u ?_, hrows, hz0, b0_⟩⟩
  have e9 : (cat (stP ⟨z0, rows, ad, cap⟩)).toList = cs := by
    rw [hcs]
    unfold stP
    simp [cat, Rely.ints]
  rw [← Array.getElem?_toList, e9] at hu
  exact hu
theorem Qil (fuel : Nat) (cs : List Value) (y : DataW H × List MemPlace) (h : DataW.trod enc Try.prog w b0 (fun _ => true) held fuel 47 cs = some y) : ∃ x : PrV, ∀ g off, g < w.heap.size → (∀ (j : Nat) (u : Value), cs[j]? = some u → w.cell? ⟨g, off + j, none⟩ = some u) → PrAt w.heap.size w g off x := by
  obtain ⟨X0, X1, X2, X3, X4, X5, X6, X7, X8, y0, y1, y2, y3, y4, y5, y6, y7, y8, m, hcs, t0, t1, t2, t3, t4, t5, t6, t7, t8⟩ := Auto.sub_st9 (n0 := 32) (n1 := 1) (n2 := 1) (n3 := 32) (n4 := 1) (n5 := 99) (n6 := 32) (n7 := 1) (n8 := 64) Try.underlying47 ⟨by kernel_rfl, by kernel_rfl, by kernel_rfl, by kernel_rfl, by kernel_rfl, by kernel_rfl, by kernel_rfl, by kernel_rfl, by kernel_rfl⟩ ⟨by kernel_rfl, by kernel_rfl, by kernel_rfl, by kernel_rfl, by kernel_rfl, by kernel_rfl, by kernel_rfl, by kernel_rfl, by kernel_rfl⟩ kj h
  obtain ⟨N0, N1, N2, N3, N4, N5, v0, v1, v2, v3, v4, v5, m5, hcs5, s0, s1, s2, s3, s4, s5⟩ := Auto.sub_st6 (n0 := 1) (n1 := 1) (n2 := 32) (n3 := 32) (n4 := 32) (n5 := 1) Try.underlying43 ⟨by kernel_rfl, by kernel_rfl, by kernel_rfl, by kernel_rfl, by kernel_rfl, by kernel_rfl⟩ ⟨by kernel_rfl, by kernel_rfl, by kernel_rfl, by kernel_rfl, by kernel_rfl, by kernel_rfl⟩ kj t5
  obtain ⟨z0, rfl, hz0, b0_⟩ := open_raw Try.underlying39 Try.underlying5 kj kj t0
  obtain ⟨ep, rfl, -, -⟩ := DataW.trod_int Try.underlying3 t1
  obtain ⟨fr, rfl, -, -⟩ := DataW.trod_int Try.underlying3 t2
  obtain ⟨z3, rfl, hz3, b3_⟩ := open_raw Try.underlying39 Try.underlying5 kj kj t3
  obtain ⟨kd, rfl, -, -⟩ := DataW.trod_int Try.underlying3 t4
  obtain ⟨z6, rfl, hz6, b6_⟩ := open_raw Try.underlying40 Try.underlying5 kj kj t6
  obtain ⟨at_, rfl, -, -⟩ := DataW.trod_int Try.underlying3 t7
  obtain ⟨z8, rfl, hz8, b8_⟩ := open_raw Try.underlying45 Try.underlying5 kj kj t8
  obtain ⟨us, rfl, -⟩ := DataW.trod_bool Try.underlying4 s0
  obtain ⟨nm, rfl, -, -⟩ := DataW.trod_int Try.underlying3 s1
  obtain ⟨z12, rfl, hz12, b12_⟩ := open_raw Try.underlying40 Try.underlying5 kj kj s2
  obtain ⟨z13, rfl, hz13, b13_⟩ := open_raw Try.underlying40 Try.underlying5 kj kj s3
  obtain ⟨z14, rfl, hz14, b14_⟩ := open_raw Try.underlying39 Try.underlying5 kj kj s4
  have fin : ∀ (a : Option Addr) (ms : List Int) (c : Nat), N5 = [.slice a ms.length c] → RdK .i64 w.heap.size ms (.slice a ms.length c) w → ∃ x : PrV, ∀ g off, g < w.heap.size → (∀ (j : Nat) (u : Value), cs[j]? = some u → w.cell? ⟨g, off + j, none⟩ = some u) → PrAt w.heap.size w g off x := fun a ms c e r => by
    refine ⟨⟨⟨z0, ep, fr, z3, kd, ⟨us, nm, z12, z13, z14, ms⟩, z6, at_, z8⟩, a, c⟩, fun g off hg hc => ⟨hg, hg, fun j u hu => hc j u ?_, r, ⟨hz0, b0_, hz3, b3_, ⟨hz12, hz13, hz14, b12_, b13_, b14_⟩, hz6, b6_, hz8, b8_⟩⟩⟩
    have e9 : (cat (prP ⟨⟨z0, ep, fr, z3, kd, ⟨us, nm, z12, z13, z14, ms⟩, z6, at_, z8⟩, a, c⟩)).toList = cs := by
      rw [hcs, hcs5, e]
      unfold prP
      simp [cat, Rely.ints]
    rw [← Array.getElem?_toList, e9] at hu
    exact hu
  rcases open_ints Try.underlying41 Try.underlying3 kj s5 with ⟨hcv, -⟩ | ⟨x, l, cc, zs, hcv, -, hl2, hm2, hz2, -, hcell, hwz⟩
  · exact fin none [] 0 hcv ⟨none, 0, rfl, Nat.le_refl _, Nat.zero_le _, fun _ => rfl, .inl rfl⟩
  · obtain ⟨r, rl, rf⟩ := Auto.rdK_of_row (k := .i64) (w := w) (a := some x) (len := l) (cap := cc) (zs := zs) (.inr ⟨x, rfl, hl2, hm2, by simpa using hz2, hcell, hwz⟩)
    refine fin (some x) (zs.take l) cc (by rw [rl]; exact hcv) ?_
    rw [rl]; exact r
theorem open_props {fuel : Nat} {cs : List Value} {y : DataW H × List MemPlace} (h : DataW.trod enc Try.prog w b0 (fun _ => true) held fuel 54 cs = some y) : ∃ (ad : Option Addr) (len cap : Nat) (ts : List PrV), cs = [.slice ad len cap] ∧ ts.length = len ∧ LsAt PrAt 263 pr0 w.heap.size w ad ts :=
  QeX (by decide) Try.underlying54 kj (fun f c y h => Qil f c y h) h
theorem open_steps {fuel : Nat} {cs : List Value} {y : DataW H × List MemPlace} (h : DataW.trod enc Try.prog w b0 (fun _ => true) held fuel 55 cs = some y) : ∃ (ad : Option Addr) (len cap : Nat) (ts : List StV), cs = [.slice ad len cap] ∧ ts.length = len ∧ LsAt StAt 33 st0 w.heap.size w ad ts :=
  QeX (by decide) Try.underlying55 kj (fun f c y h => Qik f c y h) h
end
end Go.Proofs.Ytfelfmchachljaa.Wr
end
section
namespace Go.Proofs.Ytfelfmchachljaa.Auto
open Go Go.RowKit Go.WideShapes
open Rely
set_option linter.unusedVariables false
section
variable {H : Type} {enc : TypeId × Value → H} {P : Program} {W w : World} {r : Reach} {base b0 : Nat} {sp : Nat → Bool} {held : Bool}
theorem QgJ {t : TypeId} {f0 f1 f2 f3 f4 f5 f6 f7 : Field} {fuel : Nat} {cs : List Value} {x : DataW H × List MemPlace} (ht : P.underlying t = some (.struct #[f0, f1, f2, f3, f4, f5, f6, f7])) (h : DataW.trod enc P w b0 sp held fuel t cs = some x) :
    ∃ y0 y1 y2 y3 y4 y5 y6 y7 n, cs.length = P.cellsOf t ∧ DataW.trod enc P w b0 sp held n f0.type ((cs.drop f0.offset).take (P.cellsOf f0.type)) = some y0 ∧ DataW.trod enc P w b0 sp held n f1.type ((cs.drop f1.offset).take (P.cellsOf f1.type)) = some y1 ∧ DataW.trod enc P w b0 sp held n f2.type ((cs.drop f2.offset).take (P.cellsOf f2.type)) = some y2 ∧ DataW.trod enc P w b0 sp held n f3.type ((cs.drop f3.offset).take (P.cellsOf f3.type)) = some y3 ∧ DataW.trod enc P w b0 sp held n f4.type ((cs.drop f4.offset).take (P.cellsOf f4.type)) = some y4 ∧ DataW.trod enc P w b0 sp held n f5.type ((cs.drop f5.offset).take (P.cellsOf f5.type)) = some y5 ∧ DataW.trod enc P w b0 sp held n f6.type ((cs.drop f6.offset).take (P.cellsOf f6.type)) = some y6 ∧ DataW.trod enc P w b0 sp held n f7.type ((cs.drop f7.offset).take (P.cellsOf f7.type)) = some y7 := by
  obtain ⟨xs, n, _, rfl, hl, hlen, hf⟩ := DataW.trod_struct ht h
  match xs, hlen with
  | [y0, y1, y2, y3, y4, y5, y6, y7], _ => exact ⟨y0, y1, y2, y3, y4, y5, y6, y7, n, hl, by simpa using hf 0 f0 rfl, by simpa using hf 1 f1 rfl, by simpa using hf 2 f2 rfl, by simpa using hf 3 f3 rfl, by simpa using hf 4 f4 rfl, by simpa using hf 5 f5 rfl, by simpa using hf 6 f6 rfl, by simpa using hf 7 f7 rfl⟩
theorem open_st8 {t : TypeId} {f0 f1 f2 f3 f4 f5 f6 f7 : Field} {v : Value} {d : DataW H} {p : List MemPlace} {n0 n1 n2 n3 n4 n5 n6 n7 : Nat} (hs : P.underlying t = some (.struct #[f0, f1, f2, f3, f4, f5, f6, f7]))
    (ho : f0.offset = 0 ∧ f1.offset = n0 ∧ f2.offset = n0 + n1 ∧ f3.offset = n0 + n1 + n2 ∧ f4.offset = n0 + n1 + n2 + n3 ∧ f5.offset = n0 + n1 + n2 + n3 + n4 ∧ f6.offset = n0 + n1 + n2 + n3 + n4 + n5 ∧ f7.offset = n0 + n1 + n2 + n3 + n4 + n5 + n6) (hc : P.cellsOf f0.type = n0 ∧ P.cellsOf f1.type = n1 ∧ P.cellsOf f2.type = n2 ∧ P.cellsOf f3.type = n3 ∧ P.cellsOf f4.type = n4 ∧ P.cellsOf f5.type = n5 ∧ P.cellsOf f6.type = n6 ∧ P.cellsOf f7.type = n7) (hC : P.cellsOf t = n0 + n1 + n2 + n3 + n4 + n5 + n6 + n7)
    (hv : Value.okWide P W r base t v) (h : DataW.Trod enc P w b0 sp held t v d p) :
    ∃ (X0 X1 X2 X3 X4 X5 X6 X7 : List Value) (y0 y1 y2 y3 y4 y5 y6 y7 : DataW H × List MemPlace) (n : Nat), v = .agg (X0 ++ X1 ++ X2 ++ X3 ++ X4 ++ X5 ++ X6 ++ X7).toArray ∧ DataW.trod enc P w b0 sp held n f0.type X0 = some y0 ∧ DataW.trod enc P w b0 sp held n f1.type X1 = some y1 ∧ DataW.trod enc P w b0 sp held n f2.type X2 = some y2 ∧ DataW.trod enc P w b0 sp held n f3.type X3 = some y3 ∧ DataW.trod enc P w b0 sp held n f4.type X4 = some y4 ∧ DataW.trod enc P w b0 sp held n f5.type X5 = some y5 ∧ DataW.trod enc P w b0 sp held n f6.type X6 = some y6 ∧ DataW.trod enc P w b0 sp held n f7.type X7 = some y7 := by
  obtain ⟨cs, rfl, hsz⟩ := okWide_struct hs hv
  obtain ⟨fuel, hf⟩ := h
  obtain ⟨y0, y1, y2, y3, y4, y5, y6, y7, n, hlen, h0, h1, h2, h3, h4, h5, h6, h7⟩ := QgJ hs hf
  obtain ⟨o0, o1, o2, o3, o4, o5, o6, o7⟩ := ho
  obtain ⟨c0, c1, c2, c3, c4, c5, c6, c7⟩ := hc
  rw [o0, c0] at h0
  rw [o1, c1] at h1
  rw [o2, c2] at h2
  rw [o3, c3] at h3
  rw [o4, c4] at h4
  rw [o5, c5] at h5
  rw [o6, c6] at h6
  rw [o7, c7] at h7
  refine ⟨_, _, _, _, _, _, _, _, y0, y1, y2, y3, y4, y5, y6, y7, n, ?_, h0, h1, h2, h3, h4, h5, h6, h7⟩
  congr 1
  have hl : cs.toList.length = n0 + n1 + n2 + n3 + n4 + n5 + n6 + n7 := by rw [Array.length_toList, hsz, hC]
  apply Array.ext'
  show cs.toList = _
  simp only [Value.cells, List.drop_zero]
  generalize cs.toList = l at hl
  have e1 : l.take (n0) ++ (l.drop (n0)).take n1 = l.take (n0 + n1) := by rw [List.take_add (i := n0)]
  have e2 : l.take (n0 + n1) ++ (l.drop (n0 + n1)).take n2 = l.take (n0 + n1 + n2) := by rw [List.take_add (i := n0 + n1)]
  have e3 : l.take (n0 + n1 + n2) ++ (l.drop (n0 + n1 + n2)).take n3 = l.take (n0 + n1 + n2 + n3) := by rw [List.take_add (i := n0 + n1 + n2)]
  have e4 : l.take (n0 + n1 + n2 + n3) ++ (l.drop (n0 + n1 + n2 + n3)).take n4 = l.take (n0 + n1 + n2 + n3 + n4) := by rw [List.take_add (i := n0 + n1 + n2 + n3)]
  have e5 : l.take (n0 + n1 + n2 + n3 + n4) ++ (l.drop (n0 + n1 + n2 + n3 + n4)).take n5 = l.take (n0 + n1 + n2 + n3 + n4 + n5) := by rw [List.take_add (i := n0 + n1 + n2 + n3 + n4)]
  have e6 : l.take (n0 + n1 + n2 + n3 + n4 + n5) ++ (l.drop (n0 + n1 + n2 + n3 + n4 + n5)).take n6 = l.take (n0 + n1 + n2 + n3 + n4 + n5 + n6) := by rw [List.take_add (i := n0 + n1 + n2 + n3 + n4 + n5)]
  have e7 : l.take (n0 + n1 + n2 + n3 + n4 + n5 + n6) ++ (l.drop (n0 + n1 + n2 + n3 + n4 + n5 + n6)).take n7 = l.take (n0 + n1 + n2 + n3 + n4 + n5 + n6 + n7) := by rw [List.take_add (i := n0 + n1 + n2 + n3 + n4 + n5 + n6)]
  rw [e1, e2, e3, e4, e5, e6, e7, List.take_of_length_le (by omega)]
end
end Go.Proofs.Ytfelfmchachljaa.Auto
end
