/- Texts of this claim, joined (H2). -/
import Derived.Test.YtfelfmchachljaaZH1

section
namespace Go.Proofs.Ytfelfmchachljaa.Wr
open Go Go.RowKit
open Rely Auto Own Sha
set_option linter.unusedVariables false
set_option linter.unusedSimpArgs false
set_option maxHeartbeats 4000000 in
theorem Qhg (base gw : Nat) (s : Option (List Int)) (grp : List Int) (ep fr : Int) (bas : List Int) (us : Bool) (nm : Int) (key sg pa ms start : List Int) (at_ : Int) (sig : List Int) (a_m : Option Addr) (c_m : Nat) (w : World) (hbw : base ≤ w.heap.size) (hbg : base ≤ gw) (h : WSt base gw s w) (hrl : grp.length = 32) (hrb : Qao grp) (hal : bas.length = 32) (hab : Qao bas) (hkl : key.length = 32) (hgl : sg.length = 32) (hpl : pa.length = 32) (hkb : Qao key) (hgb : Qao sg) (hpb : Qao pa) (hml : ms.length ≤ 1000000) (htl : start.length = 32) (htb : Qao start) (hil : sig.length = 64) (hib : Qao sig) (hm : RdK .i64 base ms (.slice a_m ms.length c_m) w) : Calls Try.prog 57 #[.pointer (some ⟨gw, 0, none⟩), .agg (cat [ints .u8 (grp), #[.int .i64 ep], #[.int .i64 fr], ints .u8 (bas), #[.int .i64 1], #[.bool us], #[.int .i64 nm], ints .u8 (key), ints .u8 (sg), ints .u8 (pa), #[.slice a_m ms.length c_m], ints .u8 (start), #[.int .i64 at_], ints .u8 (sig)])] w (fun e W => e = .returned (.tuple #[]) ∧ GW base gw w W ∧ WSt base gw (rawS (Qax (rawS (QbM (numS (Qax (rawS (QaE (numS (rawS (s) grp) ep 4) fr) bas) true) 1 1) us nm key sg pa ms) start) ((at_ == 0))) sig) W) := by
  have hgw := h.lt
  refine enter 80 [(0, .pointer (some ⟨gw, 0, none⟩)), (1, .agg (cat [ints .u8 (grp), #[.int .i64 ep], #[.int .i64 fr], ints .u8 (bas), #[.int .i64 1], #[.bool us], #[.int .i64 nm], ints .u8 (key), ints .u8 (sg), ints .u8 (pa), #[.slice a_m ms.length c_m], ints .u8 (start), #[.int .i64 at_], ints .u8 (sig)]))] Try.func57 rfl rfl kj rfl ?_
  refine wp_seq_k fun K1 hK1 => ?_
  refine Qae ?_
  refine Qar (cat [ints .u8 (grp), #[.int .i64 ep], #[.int .i64 fr], ints .u8 (bas), #[.int .i64 1], #[.bool us], #[.int .i64 nm], ints .u8 (key), ints .u8 (sg), ints .u8 (pa), #[.slice a_m ms.length c_m], ints .u8 (start), #[.int .i64 at_], ints .u8 (sig)]) 47 3 rfl kj kj fun g2 W1 l2 e1 r2_1 => ?_
  have x1 : GW base gw w W1 := GW.ext (GW.refl base gw w) e1
  have ws3 := WSt.ext h e1
  have b2 : w.heap.size ≤ g2 := Nat.le_trans (GW.refl base gw w).size l2
  refine Qaf ?_
  refine hK1 _ _ ?_
  refine wp_seq_k fun K4 hK4 => ?_
  refine Qae ?_
  refine Qab (.pointer (some ⟨gw, 0, none⟩)) 4 rfl kj kj ?_
  refine Qab (.pointer (some ⟨g2, 0, none⟩)) 5 rfl kj kj ?_
  refine Qab (.slice (some ⟨g2, 0, none⟩) 32 32) 6 rfl kj kj ?_
  refine Qah (fun v W' => v = .tuple #[] ∧ GW base gw W1 W' ∧ WSt base gw (rawS (s) grp) W') 104 #[.pointer (some ⟨gw, 0, none⟩), .slice (some ⟨g2, 0, none⟩) 32 32] 7 rfl kj kj ((rawW base gw _ grp _ _ (Nat.le_trans hbw x1.size) ws3 (by omega) hrb (fun W e => (QaS 0 hrl (ExtB.row e r2_1 (Ne.symm (Nat.ne_of_lt (Nat.lt_of_lt_of_le hgw b2)))) (fun i hi => QaJ [] [#[.int .i64 ep], #[.int .i64 fr], ints .u8 (bas), #[.int .i64 1], #[.bool us], #[.int .i64 nm], ints .u8 (key), ints .u8 (sg), ints .u8 (pa), #[.slice a_m ms.length c_m], ints .u8 (start), #[.int .i64 at_], ints .u8 (sig)] grp 0 i (0 + i) kj rfl (by rw [hrl]; exact hi)) (Qa5 (ExtB.row e r2_1 (Ne.symm (Nat.ne_of_lt (Nat.lt_of_lt_of_le hgw b2))))) (Nat.le_refl _) (by decide)))).mono (by rintro e w' ⟨rfl, h1, h2⟩; exact ⟨_, rfl, rfl, h1, h2⟩)) fun v5 W2 h5 => ?_
  obtain ⟨rfl, q2, ws5⟩ := h5
  have x2 : GW base gw w W2 := GW.trans x1 q2
  refine Qaf ?_
  refine hK4 _ _ ?_
  refine wp_seq_k fun K6 hK6 => ?_
  refine Qae ?_
  refine Qab (.pointer (some ⟨gw, 0, none⟩)) 8 rfl kj kj ?_
  refine Qab (.pointer (some ⟨g2, 32, none⟩)) 9 rfl kj kj ?_
  have r2_2 := (GW.row q2 r2_1 (by decide) (Ne.symm (Nat.ne_of_lt (Nat.lt_of_lt_of_le hgw b2))))
  refine Qab (.int .i64 ep) 10 rfl kj (Qal 3 _ g2 32 47 _ (.int .i64 ep) _ r2_2 rfl kj (Qaq [ints .u8 (grp)] [#[.int .i64 ep]] [#[.int .i64 fr], ints .u8 (bas), #[.int .i64 1], #[.bool us], #[.int .i64 nm], ints .u8 (key), ints .u8 (sg), ints .u8 (pa), #[.slice a_m ms.length c_m], ints .u8 (start), #[.int .i64 at_], ints .u8 (sig)] 32 ((Qad _ _).trans hrl) 0 _ rfl) kj) ?_
  refine Qah (fun v W' => v = .tuple #[] ∧ GW base gw W2 W' ∧ WSt base gw (numS (rawS (s) grp) ep 4) W') 105 #[.pointer (some ⟨gw, 0, none⟩), .int .i64 ep, .int .i64 4] 11 rfl kj kj ((QaW base gw _ ep 4 _ (Nat.le_trans hbw x2.size) ws5 (by decide)).mono (by rintro e w' ⟨rfl, h1, h2⟩; exact ⟨_, rfl, rfl, h1, h2⟩)) fun v7 W3 h7 => ?_
  obtain ⟨rfl, q3, ws7⟩ := h7
  have x3 : GW base gw w W3 := GW.trans x2 q3
  refine Qaf ?_
  refine hK6 _ _ ?_
  refine wp_seq_k fun K8 hK8 => ?_
  refine Qae ?_
  refine Qab (.pointer (some ⟨gw, 0, none⟩)) 12 rfl kj kj ?_
  refine Qab (.pointer (some ⟨g2, 33, none⟩)) 13 rfl kj kj ?_
  have r2_3 := (GW.row q3 r2_2 (by decide) (Ne.symm (Nat.ne_of_lt (Nat.lt_of_lt_of_le hgw b2))))
  refine Qab (.int .i64 fr) 14 rfl kj (Qal 3 _ g2 33 47 _ (.int .i64 fr) _ r2_3 rfl kj (Qaq [ints .u8 (grp), #[.int .i64 ep]] [#[.int .i64 fr]] [ints .u8 (bas), #[.int .i64 1], #[.bool us], #[.int .i64 nm], ints .u8 (key), ints .u8 (sg), ints .u8 (pa), #[.slice a_m ms.length c_m], ints .u8 (start), #[.int .i64 at_], ints .u8 (sig)] 33 (by rw [Qaa, Qaa]; simp only [Array.size_append, cat, ((Qad _ _).trans hrl)]; rfl) 0 _ rfl) kj) ?_
  refine Qah (fun v W' => v = .tuple #[] ∧ GW base gw W3 W' ∧ WSt base gw (QaE (numS (rawS (s) grp) ep 4) fr) W') 106 #[.pointer (some ⟨gw, 0, none⟩), .int .i64 fr] 15 rfl kj kj ((QdG base gw _ fr _ (Nat.le_trans hbw x3.size) ws7).mono (by rintro e w' ⟨rfl, h1, h2⟩; exact ⟨_, rfl, rfl, h1, h2⟩)) fun v9 W4 h9 => ?_
  obtain ⟨rfl, q4, ws9⟩ := h9
  have x4 : GW base gw w W4 := GW.trans x3 q4
  refine Qaf ?_
  refine hK8 _ _ ?_
  refine wp_seq_k fun K10 hK10 => ?_
  refine Qae ?_
  refine Qab (.pointer (some ⟨gw, 0, none⟩)) 16 rfl kj kj ?_
  refine Qab (.pointer (some ⟨g2, 34, none⟩)) 17 rfl kj kj ?_
  refine Qab (.slice (some ⟨g2, 34, none⟩) 32 32) 18 rfl kj kj ?_
  have r2_4 := (GW.row q4 r2_3 (by decide) (Ne.symm (Nat.ne_of_lt (Nat.lt_of_lt_of_le hgw b2))))
  refine Qah (fun v W' => v = .tuple #[] ∧ GW base gw W4 W' ∧ WSt base gw (rawS (QaE (numS (rawS (s) grp) ep 4) fr) bas) W') 104 #[.pointer (some ⟨gw, 0, none⟩), .slice (some ⟨g2, 34, none⟩) 32 32] 19 rfl kj kj ((rawW base gw _ bas _ _ (Nat.le_trans hbw x4.size) ws9 (by omega) hab (fun W e => (QaS 34 hal (ExtB.row e r2_4 (Ne.symm (Nat.ne_of_lt (Nat.lt_of_lt_of_le hgw b2)))) (fun i hi => QaJ [ints .u8 (grp), #[.int .i64 ep], #[.int .i64 fr]] [#[.int .i64 1], #[.bool us], #[.int .i64 nm], ints .u8 (key), ints .u8 (sg), ints .u8 (pa), #[.slice a_m ms.length c_m], ints .u8 (start), #[.int .i64 at_], ints .u8 (sig)] bas 34 i (34 + i) (by rw [Qaa, Qaa, Qaa]; simp only [Array.size_append, cat, ((Qad _ _).trans hrl)]; rfl) rfl (by rw [hal]; exact hi)) (Qa5 (ExtB.row e r2_4 (Ne.symm (Nat.ne_of_lt (Nat.lt_of_lt_of_le hgw b2))))) (Nat.le_refl _) (by decide)))).mono (by rintro e w' ⟨rfl, h1, h2⟩; exact ⟨_, rfl, rfl, h1, h2⟩)) fun v11 W5 h11 => ?_
  obtain ⟨rfl, q5, ws11⟩ := h11
  have x5 : GW base gw w W5 := GW.trans x4 q5
  refine Qaf ?_
  refine hK10 _ _ ?_
  refine wp_seq_k fun K12 hK12 => ?_
  refine Qae ?_
  refine Qab (.pointer (some ⟨gw, 0, none⟩)) 20 rfl kj kj ?_
  refine Qab (.pointer (some ⟨g2, 66, none⟩)) 21 rfl kj kj ?_
  have r2_5 := (GW.row q5 r2_4 (by decide) (Ne.symm (Nat.ne_of_lt (Nat.lt_of_lt_of_le hgw b2))))
  refine Qab (.int .i64 1) 22 rfl kj (Qal 3 _ g2 66 47 _ (.int .i64 1) _ r2_5 rfl kj (Qaq [ints .u8 (grp), #[.int .i64 ep], #[.int .i64 fr], ints .u8 (bas)] [#[.int .i64 1]] [#[.bool us], #[.int .i64 nm], ints .u8 (key), ints .u8 (sg), ints .u8 (pa), #[.slice a_m ms.length c_m], ints .u8 (start), #[.int .i64 at_], ints .u8 (sig)] 66 (by rw [Qaa, Qaa, Qaa, Qaa]; simp only [Array.size_append, cat, ((Qad _ _).trans hal), ((Qad _ _).trans hrl)]; rfl) 0 _ rfl) kj) ?_
  refine Qab (.bool true) 23 rfl kj kj ?_
  refine Qab (.bool true) 24 rfl kj kj ?_
  refine Qab (.pointer (some ⟨g2, 66, none⟩)) 25 rfl kj kj ?_
  refine Qab (.int .i64 1) 26 rfl kj (Qal 3 _ g2 66 47 _ (.int .i64 1) _ r2_5 rfl kj (Qaq [ints .u8 (grp), #[.int .i64 ep], #[.int .i64 fr], ints .u8 (bas)] [#[.int .i64 1]] [#[.bool us], #[.int .i64 nm], ints .u8 (key), ints .u8 (sg), ints .u8 (pa), #[.slice a_m ms.length c_m], ints .u8 (start), #[.int .i64 at_], ints .u8 (sig)] 66 (by rw [Qaa, Qaa, Qaa, Qaa]; simp only [Array.size_append, cat, ((Qad _ _).trans hal), ((Qad _ _).trans hrl)]; rfl) 0 _ rfl) kj) ?_
  refine Qab (.bool true) 27 rfl kj kj ?_
  refine Qab (.bool true) 28 rfl kj kj ?_
  refine Qah (fun v W' => v = .tuple #[] ∧ GW base gw W5 W' ∧ WSt base gw (Qax (rawS (QaE (numS (rawS (s) grp) ep 4) fr) bas) true) W') 98 #[.pointer (some ⟨gw, 0, none⟩), .bool true] 29 rfl kj kj ((QbA base gw _ true _ ws11).mono (by rintro e w' ⟨rfl, h1, h2⟩; exact ⟨_, rfl, rfl, h1, h2⟩)) fun v13 W6 h13 => ?_
  obtain ⟨rfl, q6, ws13⟩ := h13
  have x6 : GW base gw w W6 := GW.trans x5 q6
  refine Qaf ?_
  refine hK12 _ _ ?_
  refine wp_seq_k fun K14 hK14 => ?_
  refine Qae ?_
  refine Qab (.pointer (some ⟨gw, 0, none⟩)) 30 rfl kj kj ?_
  refine Qab (.pointer (some ⟨g2, 66, none⟩)) 31 rfl kj kj ?_
  have r2_6 := (GW.row q6 r2_5 (by decide) (Ne.symm (Nat.ne_of_lt (Nat.lt_of_lt_of_le hgw b2))))
  refine Qab (.int .i64 1) 32 rfl kj (Qal 3 _ g2 66 47 _ (.int .i64 1) _ r2_6 rfl kj (Qaq [ints .u8 (grp), #[.int .i64 ep], #[.int .i64 fr], ints .u8 (bas)] [#[.int .i64 1]] [#[.bool us], #[.int .i64 nm], ints .u8 (key), ints .u8 (sg), ints .u8 (pa), #[.slice a_m ms.length c_m], ints .u8 (start), #[.int .i64 at_], ints .u8 (sig)] 66 (by rw [Qaa, Qaa, Qaa, Qaa]; simp only [Array.size_append, cat, ((Qad _ _).trans hal), ((Qad _ _).trans hrl)]; rfl) 0 _ rfl) kj) ?_
  refine Qah (fun v W' => v = .tuple #[] ∧ GW base gw W6 W' ∧ WSt base gw (numS (Qax (rawS (QaE (numS (rawS (s) grp) ep 4) fr) bas) true) 1 1) W') 105 #[.pointer (some ⟨gw, 0, none⟩), .int .i64 1, .int .i64 1] 33 rfl kj kj ((QaW base gw _ 1 1 _ (Nat.le_trans hbw x6.size) ws13 (by decide)).mono (by rintro e w' ⟨rfl, h1, h2⟩; exact ⟨_, rfl, rfl, h1, h2⟩)) fun v15 W7 h15 => ?_
  obtain ⟨rfl, q7, ws15⟩ := h15
  have x7 : GW base gw w W7 := GW.trans x6 q7
  refine Qaf ?_
  refine hK14 _ _ ?_
  refine wp_seq_k fun K16 hK16 => ?_
  refine wp_seq_k fun K17 hK17 => ?_
  refine Qae ?_
  refine Qab (.pointer (some ⟨g2, 66, none⟩)) 34 rfl kj kj ?_
  have r2_7 := (GW.row q7 r2_6 (by decide) (Ne.symm (Nat.ne_of_lt (Nat.lt_of_lt_of_le hgw b2))))
  refine Qab (.int .i64 1) 35 rfl kj (Qal 3 _ g2 66 47 _ (.int .i64 1) _ r2_7 rfl kj (Qaq [ints .u8 (grp), #[.int .i64 ep], #[.int .i64 fr], ints .u8 (bas)] [#[.int .i64 1]] [#[.bool us], #[.int .i64 nm], ints .u8 (key), ints .u8 (sg), ints .u8 (pa), #[.slice a_m ms.length c_m], ints .u8 (start), #[.int .i64 at_], ints .u8 (sig)] 66 (by rw [Qaa, Qaa, Qaa, Qaa]; simp only [Array.size_append, cat, ((Qad _ _).trans hal), ((Qad _ _).trans hrl)]; rfl) 0 _ rfl) kj) ?_
  refine Qab (.bool true) 36 rfl kj kj ?_
  refine Qab (.bool true) 37 rfl kj kj ?_
  refine Qas 38 rfl kj ?_
  refine Qas 39 rfl kj ?_
  refine Qas 40 rfl kj ?_
  refine Qab (.bool true) 41 rfl kj kj ?_
  refine Qaf ?_
  refine hK17 _ _ ?_
  refine cond_true kj ?_
  refine Qae ?_
  refine Qab (.pointer (some ⟨gw, 0, none⟩)) 42 rfl kj kj ?_
  refine Qab (.pointer (some ⟨g2, 67, none⟩)) 43 rfl kj kj ?_
  refine Qab (.agg (cat [#[.bool us], #[.int .i64 nm], ints .u8 (key), ints .u8 (sg), ints .u8 (pa), #[.slice a_m ms.length c_m]])) 44 rfl kj (Qay 43 _ g2 67 47 _ _ _ r2_7 rfl kj (Qaq [ints .u8 (grp), #[.int .i64 ep], #[.int .i64 fr], ints .u8 (bas), #[.int .i64 1]] [#[.bool us], #[.int .i64 nm], ints .u8 (key), ints .u8 (sg), ints .u8 (pa), #[.slice a_m ms.length c_m]] [ints .u8 (start), #[.int .i64 at_], ints .u8 (sig)] 67 (by rw [Qaa, Qaa, Qaa, Qaa, Qaa]; simp only [Array.size_append, cat, ((Qad _ _).trans hal), ((Qad _ _).trans hrl)]; rfl)) kj (isz (n := 99) kj (by rw [Qaa, Qaa, Qaa, Qaa, Qaa, Qaa]; simp only [Array.size_append, cat, ((Qad _ _).trans hgl), ((Qad _ _).trans hkl), ((Qad _ _).trans hpl)]; rfl))) ?_
  refine Qah (fun v W' => v = .tuple #[] ∧ GW base gw W7 W' ∧ WSt base gw (QbM (numS (Qax (rawS (QaE (numS (rawS (s) grp) ep 4) fr) bas) true) 1 1) us nm key sg pa ms) W') 95 #[.pointer (some ⟨gw, 0, none⟩), .agg (cat [#[.bool us], #[.int .i64 nm], ints .u8 (key), ints .u8 (sg), ints .u8 (pa), #[.slice a_m ms.length c_m]])] 45 rfl kj kj ((Qhl base gw _ us nm key sg pa ms _ _ _ (Nat.le_trans hbw x7.size) hbg ws15 hkl hgl hpl hkb hgb hpb hml (Qck hm x7 hbg)).mono (by rintro e w' ⟨rfl, h1, h2⟩; exact ⟨_, rfl, rfl, h1, h2⟩)) fun v18 W8 h18 => ?_
  obtain ⟨rfl, q8, ws18⟩ := h18
  have x8 : GW base gw w W8 := GW.trans x7 q8
  refine Qaf ?_
  refine hK16 _ _ ?_
  refine wp_seq_k fun K19 hK19 => ?_
  refine wp_seq_k fun K20 hK20 => ?_
  refine Qae ?_
  refine Qab (.pointer (some ⟨g2, 66, none⟩)) 51 rfl kj kj ?_
  have r2_8 := (GW.row q8 r2_7 (by decide) (Ne.symm (Nat.ne_of_lt (Nat.lt_of_lt_of_le hgw b2))))
  refine Qab (.int .i64 1) 52 rfl kj (Qal 3 _ g2 66 47 _ (.int .i64 1) _ r2_8 rfl kj (Qaq [ints .u8 (grp), #[.int .i64 ep], #[.int .i64 fr], ints .u8 (bas)] [#[.int .i64 1]] [#[.bool us], #[.int .i64 nm], ints .u8 (key), ints .u8 (sg), ints .u8 (pa), #[.slice a_m ms.length c_m], ints .u8 (start), #[.int .i64 at_], ints .u8 (sig)] 66 (by rw [Qaa, Qaa, Qaa, Qaa]; simp only [Array.size_append, cat, ((Qad _ _).trans hal), ((Qad _ _).trans hrl)]; rfl) 0 _ rfl) kj) ?_
  refine Qab (.bool true) 53 rfl kj kj ?_
  refine Qaf ?_
  refine hK20 _ _ ?_
  refine cond_true kj ?_
  refine Qae ?_
  refine Qab (.pointer (some ⟨gw, 0, none⟩)) 54 rfl kj kj ?_
  refine Qab (.pointer (some ⟨g2, 166, none⟩)) 55 rfl kj kj ?_
  refine Qab (.slice (some ⟨g2, 166, none⟩) 32 32) 56 rfl kj kj ?_
  refine Qah (fun v W' => v = .tuple #[] ∧ GW base gw W8 W' ∧ WSt base gw (rawS (QbM (numS (Qax (rawS (QaE (numS (rawS (s) grp) ep 4) fr) bas) true) 1 1) us nm key sg pa ms) start) W') 104 #[.pointer (some ⟨gw, 0, none⟩), .slice (some ⟨g2, 166, none⟩) 32 32] 57 rfl kj kj ((rawW base gw _ start _ _ (Nat.le_trans hbw x8.size) ws18 (by omega) htb (fun W e => (QaS 166 htl (ExtB.row e r2_8 (Ne.symm (Nat.ne_of_lt (Nat.lt_of_lt_of_le hgw b2)))) (fun i hi => QaJ [ints .u8 (grp), #[.int .i64 ep], #[.int .i64 fr], ints .u8 (bas), #[.int .i64 1], #[.bool us], #[.int .i64 nm], ints .u8 (key), ints .u8 (sg), ints .u8 (pa), #[.slice a_m ms.length c_m]] [#[.int .i64 at_], ints .u8 (sig)] start 166 i (166 + i) (by rw [Qaa, Qaa, Qaa, Qaa, Qaa, Qaa, Qaa, Qaa, Qaa, Qaa, Qaa]; simp only [Array.size_append, cat, ((Qad _ _).trans hal), ((Qad _ _).trans hgl), ((Qad _ _).trans hkl), ((Qad _ _).trans hpl), ((Qad _ _).trans hrl)]; rfl) rfl (by rw [htl]; exact hi)) (Qa5 (ExtB.row e r2_8 (Ne.symm (Nat.ne_of_lt (Nat.lt_of_lt_of_le hgw b2))))) (Nat.le_refl _) (by decide)))).mono (by rintro e w' ⟨rfl, h1, h2⟩; exact ⟨_, rfl, rfl, h1, h2⟩)) fun v21 W9 h21 => ?_
  obtain ⟨rfl, q9, ws21⟩ := h21
  have x9 : GW base gw w W9 := GW.trans x8 q9
  refine Qaf ?_
  refine hK19 _ _ ?_
  refine wp_seq_k fun K22 hK22 => ?_
  refine wp_seq_k fun K23 hK23 => ?_
  refine Qae ?_
  refine Qab (.pointer (some ⟨g2, 66, none⟩)) 64 rfl kj kj ?_
  have r2_9 := (GW.row q9 r2_8 (by decide) (Ne.symm (Nat.ne_of_lt (Nat.lt_of_lt_of_le hgw b2))))
  refine Qab (.int .i64 1) 65 rfl kj (Qal 3 _ g2 66 47 _ (.int .i64 1) _ r2_9 rfl kj (Qaq [ints .u8 (grp), #[.int .i64 ep], #[.int .i64 fr], ints .u8 (bas)] [#[.int .i64 1]] [#[.bool us], #[.int .i64 nm], ints .u8 (key), ints .u8 (sg), ints .u8 (pa), #[.slice a_m ms.length c_m], ints .u8 (start), #[.int .i64 at_], ints .u8 (sig)] 66 (by rw [Qaa, Qaa, Qaa, Qaa]; simp only [Array.size_append, cat, ((Qad _ _).trans hal), ((Qad _ _).trans hrl)]; rfl) 0 _ rfl) kj) ?_
  refine Qab (.bool false) 66 rfl kj kj ?_
  refine Qaf ?_
  refine hK23 _ _ ?_
  refine cond_false kj ?_
  refine Qae ?_
  refine Qab (.pointer (some ⟨gw, 0, none⟩)) 71 rfl kj kj ?_
  refine Qab (.pointer (some ⟨g2, 198, none⟩)) 72 rfl kj kj ?_
  refine Qab (.int .i64 at_) 73 rfl kj (Qal 3 _ g2 198 47 _ (.int .i64 at_) _ r2_9 rfl kj (Qaq [ints .u8 (grp), #[.int .i64 ep], #[.int .i64 fr], ints .u8 (bas), #[.int .i64 1], #[.bool us], #[.int .i64 nm], ints .u8 (key), ints .u8 (sg), ints .u8 (pa), #[.slice a_m ms.length c_m], ints .u8 (start)] [#[.int .i64 at_]] [ints .u8 (sig)] 198 (by rw [Qaa, Qaa, Qaa, Qaa, Qaa, Qaa, Qaa, Qaa, Qaa, Qaa, Qaa, Qaa]; simp only [Array.size_append, cat, ((Qad _ _).trans hal), ((Qad _ _).trans hgl), ((Qad _ _).trans hkl), ((Qad _ _).trans hpl), ((Qad _ _).trans hrl), ((Qad _ _).trans htl)]; rfl) 0 _ rfl) kj) ?_
  refine Qab (.bool ((at_ == 0))) 74 rfl kj kj ?_
  refine Qah (fun v W' => v = .tuple #[] ∧ GW base gw W9 W' ∧ WSt base gw (Qax (rawS (QbM (numS (Qax (rawS (QaE (numS (rawS (s) grp) ep 4) fr) bas) true) 1 1) us nm key sg pa ms) start) ((at_ == 0))) W') 98 #[.pointer (some ⟨gw, 0, none⟩), .bool ((at_ == 0))] 75 rfl kj kj ((QbA base gw _ ((at_ == 0)) _ ws21).mono (by rintro e w' ⟨rfl, h1, h2⟩; exact ⟨_, rfl, rfl, h1, h2⟩)) fun v24 W10 h24 => ?_
  obtain ⟨rfl, q10, ws24⟩ := h24
  have x10 : GW base gw w W10 := GW.trans x9 q10
  refine Qaf ?_
  refine hK22 _ _ ?_
  refine Qae ?_
  refine Qab (.pointer (some ⟨gw, 0, none⟩)) 76 rfl kj kj ?_
  refine Qab (.pointer (some ⟨g2, 199, none⟩)) 77 rfl kj kj ?_
  refine Qab (.slice (some ⟨g2, 199, none⟩) 64 64) 78 rfl kj kj ?_
  have r2_10 := (GW.row q10 r2_9 (by decide) (Ne.symm (Nat.ne_of_lt (Nat.lt_of_lt_of_le hgw b2))))
  refine Qah (fun v W' => v = .tuple #[] ∧ GW base gw W10 W' ∧ WSt base gw (rawS (Qax (rawS (QbM (numS (Qax (rawS (QaE (numS (rawS (s) grp) ep 4) fr) bas) true) 1 1) us nm key sg pa ms) start) ((at_ == 0))) sig) W') 104 #[.pointer (some ⟨gw, 0, none⟩), .slice (some ⟨g2, 199, none⟩) 64 64] 79 rfl kj kj ((rawW base gw _ sig _ _ (Nat.le_trans hbw x10.size) ws24 (by omega) hib (fun W e => (QaS 199 hil (ExtB.row e r2_10 (Ne.symm (Nat.ne_of_lt (Nat.lt_of_lt_of_le hgw b2)))) (fun i hi => QaJ [ints .u8 (grp), #[.int .i64 ep], #[.int .i64 fr], ints .u8 (bas), #[.int .i64 1], #[.bool us], #[.int .i64 nm], ints .u8 (key), ints .u8 (sg), ints .u8 (pa), #[.slice a_m ms.length c_m], ints .u8 (start), #[.int .i64 at_]] [] sig 199 i (199 + i) (by rw [Qaa, Qaa, Qaa, Qaa, Qaa, Qaa, Qaa, Qaa, Qaa, Qaa, Qaa, Qaa, Qaa]; simp only [Array.size_append, cat, ((Qad _ _).trans hal), ((Qad _ _).trans hgl), ((Qad _ _).trans hkl), ((Qad _ _).trans hpl), ((Qad _ _).trans hrl), ((Qad _ _).trans htl)]; rfl) rfl (by rw [hil]; exact hi)) (Qa5 (ExtB.row e r2_10 (Ne.symm (Nat.ne_of_lt (Nat.lt_of_lt_of_le hgw b2))))) (Nat.le_refl _) (by decide)))).mono (by rintro e w' ⟨rfl, h1, h2⟩; exact ⟨_, rfl, rfl, h1, h2⟩)) fun v25 W11 h25 => ?_
  obtain ⟨rfl, q11, ws25⟩ := h25
  have x11 : GW base gw w W11 := GW.trans x10 q11
  refine Qaf ?_
  repeat (first | with_reducible refine goX1 ?_ | with_reducible refine goX2 ?_ | with_reducible refine goX3 ?_)
  exact (show bodyPost _ _ _ .normal _ _ from end0 rfl ⟨rfl, x11, ws25⟩)
set_option maxHeartbeats 4000000 in
theorem Qhf (base gw : Nat) (s : Option (List Int)) (grp : List Int) (ep fr : Int) (bas : List Int) (us : Bool) (nm : Int) (key sg pa ms start : List Int) (at_ : Int) (sig : List Int) (a_m : Option Addr) (c_m : Nat) (w : World) (hbw : base ≤ w.heap.size) (hbg : base ≤ gw) (h : WSt base gw s w) (hrl : grp.length = 32) (hrb : Qao grp) (hal : bas.length = 32) (hab : Qao bas) (hkl : key.length = 32) (hgl : sg.length = 32) (hpl : pa.length = 32) (hkb : Qao key) (hgb : Qao sg) (hpb : Qao pa) (hml : ms.length ≤ 1000000) (htl : start.length = 32) (htb : Qao start) (hil : sig.length = 64) (hib : Qao sig) (hm : RdK .i64 base ms (.slice a_m ms.length c_m) w) : Calls Try.prog 57 #[.pointer (some ⟨gw, 0, none⟩), .agg (cat [ints .u8 (grp), #[.int .i64 ep], #[.int .i64 fr], ints .u8 (bas), #[.int .i64 2], #[.bool us], #[.int .i64 nm], ints .u8 (key), ints .u8 (sg), ints .u8 (pa), #[.slice a_m ms.length c_m], ints .u8 (start), #[.int .i64 at_], ints .u8 (sig)])] w (fun e W => e = .returned (.tuple #[]) ∧ GW base gw w W ∧ WSt base gw (rawS (Qax (Qax (QbM (numS (Qax (rawS (QaE (numS (rawS (s) grp) ep 4) fr) bas) true) 2 1) us nm key sg pa ms) (decide (start = List.replicate 32 0))) ((at_ == 0))) sig) W) := by
  have hgw := h.lt
  refine enter 80 [(0, .pointer (some ⟨gw, 0, none⟩)), (1, .agg (cat [ints .u8 (grp), #[.int .i64 ep], #[.int .i64 fr], ints .u8 (bas), #[.int .i64 2], #[.bool us], #[.int .i64 nm], ints .u8 (key), ints .u8 (sg), ints .u8 (pa), #[.slice a_m ms.length c_m], ints .u8 (start), #[.int .i64 at_], ints .u8 (sig)]))] Try.func57 rfl rfl kj rfl ?_
  refine wp_seq_k fun K1 hK1 => ?_
  refine Qae ?_
  refine Qar (cat [ints .u8 (grp), #[.int .i64 ep], #[.int .i64 fr], ints .u8 (bas), #[.int .i64 2], #[.bool us], #[.int .i64 nm], ints .u8 (key), ints .u8 (sg), ints .u8 (pa), #[.slice a_m ms.length c_m], ints .u8 (start), #[.int .i64 at_], ints .u8 (sig)]) 47 3 rfl kj kj fun g2 W1 l2 e1 r2_1 => ?_
  have x1 : GW base gw w W1 := GW.ext (GW.refl base gw w) e1
  have ws3 := WSt.ext h e1
  have b2 : w.heap.size ≤ g2 := Nat.le_trans (GW.refl base gw w).size l2
  refine Qaf ?_
  refine hK1 _ _ ?_
  refine wp_seq_k fun K4 hK4 => ?_
  refine Qae ?_
  refine Qab (.pointer (some ⟨gw, 0, none⟩)) 4 rfl kj kj ?_
  refine Qab (.pointer (some ⟨g2, 0, none⟩)) 5 rfl kj kj ?_
  refine Qab (.slice (some ⟨g2, 0, none⟩) 32 32) 6 rfl kj kj ?_
  refine Qah (fun v W' => v = .tuple #[] ∧ GW base gw W1 W' ∧ WSt base gw (rawS (s) grp) W') 104 #[.pointer (some ⟨gw, 0, none⟩), .slice (some ⟨g2, 0, none⟩) 32 32] 7 rfl kj kj ((rawW base gw _ grp _ _ (Nat.le_trans hbw x1.size) ws3 (by omega) hrb (fun W e => (QaS 0 hrl (ExtB.row e r2_1 (Ne.symm (Nat.ne_of_lt (Nat.lt_of_lt_of_le hgw b2)))) (fun i hi => QaJ [] [#[.int .i64 ep], #[.int .i64 fr], ints .u8 (bas), #[.int .i64 2], #[.bool us], #[.int .i64 nm], ints .u8 (key), ints .u8 (sg), ints .u8 (pa), #[.slice a_m ms.length c_m], ints .u8 (start), #[.int .i64 at_], ints .u8 (sig)] grp 0 i (0 + i) kj rfl (by rw [hrl]; exact hi)) (Qa5 (ExtB.row e r2_1 (Ne.symm (Nat.ne_of_lt (Nat.lt_of_lt_of_le hgw b2))))) (Nat.le_refl _) (by decide)))).mono (by rintro e w' ⟨rfl, h1, h2⟩; exact ⟨_, rfl, rfl, h1, h2⟩)) fun v5 W2 h5 => ?_
  obtain ⟨rfl, q2, ws5⟩ := h5
  have x2 : GW base gw w W2 := GW.trans x1 q2
  refine Qaf ?_
  refine hK4 _ _ ?_
  refine wp_seq_k fun K6 hK6 => ?_
  refine Qae ?_
  refine Qab (.pointer (some ⟨gw, 0, none⟩)) 8 rfl kj kj ?_
  refine Qab (.pointer (some ⟨g2, 32, none⟩)) 9 rfl kj kj ?_
  have r2_2 := (GW.row q2 r2_1 (by decide) (Ne.symm (Nat.ne_of_lt (Nat.lt_of_lt_of_le hgw b2))))
  refine Qab (.int .i64 ep) 10 rfl kj (Qal 3 _ g2 32 47 _ (.int .i64 ep) _ r2_2 rfl kj (Qaq [ints .u8 (grp)] [#[.int .i64 ep]] [#[.int .i64 fr], ints .u8 (bas), #[.int .i64 2], #[.bool us], #[.int .i64 nm], ints .u8 (key), ints .u8 (sg), ints .u8 (pa), #[.slice a_m ms.length c_m], ints .u8 (start), #[.int .i64 at_], ints .u8 (sig)] 32 ((Qad _ _).trans hrl) 0 _ rfl) kj) ?_
  refine Qah (fun v W' => v = .tuple #[] ∧ GW base gw W2 W' ∧ WSt base gw (numS (rawS (s) grp) ep 4) W') 105 #[.pointer (some ⟨gw, 0, none⟩), .int .i64 ep, .int .i64 4] 11 rfl kj kj ((QaW base gw _ ep 4 _ (Nat.le_trans hbw x2.size) ws5 (by decide)).mono (by rintro e w' ⟨rfl, h1, h2⟩; exact ⟨_, rfl, rfl, h1, h2⟩)) fun v7 W3 h7 => ?_
  obtain ⟨rfl, q3, ws7⟩ := h7
  have x3 : GW base gw w W3 := GW.trans x2 q3
  refine Qaf ?_
  refine hK6 _ _ ?_
  refine wp_seq_k fun K8 hK8 => ?_
  refine Qae ?_
  refine Qab (.pointer (some ⟨gw, 0, none⟩)) 12 rfl kj kj ?_
  refine Qab (.pointer (some ⟨g2, 33, none⟩)) 13 rfl kj kj ?_
  have r2_3 := (GW.row q3 r2_2 (by decide) (Ne.symm (Nat.ne_of_lt (Nat.lt_of_lt_of_le hgw b2))))
  refine Qab (.int .i64 fr) 14 rfl kj (Qal 3 _ g2 33 47 _ (.int .i64 fr) _ r2_3 rfl kj (Qaq [ints .u8 (grp), #[.int .i64 ep]] [#[.int .i64 fr]] [ints .u8 (bas), #[.int .i64 2], #[.bool us], #[.int .i64 nm], ints .u8 (key), ints .u8 (sg), ints .u8 (pa), #[.slice a_m ms.length c_m], ints .u8 (start), #[.int .i64 at_], ints .u8 (sig)] 33 (by rw [Qaa, Qaa]; simp only [Array.size_append, cat, ((Qad _ _).trans hrl)]; rfl) 0 _ rfl) kj) ?_
  refine Qah (fun v W' => v = .tuple #[] ∧ GW base gw W3 W' ∧ WSt base gw (QaE (numS (rawS (s) grp) ep 4) fr) W') 106 #[.pointer (some ⟨gw, 0, none⟩), .int .i64 fr] 15 rfl kj kj ((QdG base gw _ fr _ (Nat.le_trans hbw x3.size) ws7).mono (by rintro e w' ⟨rfl, h1, h2⟩; exact ⟨_, rfl, rfl, h1, h2⟩)) fun v9 W4 h9 => ?_
  obtain ⟨rfl, q4, ws9⟩ := h9
  have x4 : GW base gw w W4 := GW.trans x3 q4
  refine Qaf ?_
  refine hK8 _ _ ?_
  refine wp_seq_k fun K10 hK10 => ?_
  refine Qae ?_
  refine Qab (.pointer (some ⟨gw, 0, none⟩)) 16 rfl kj kj ?_
  refine Qab (.pointer (some ⟨g2, 34, none⟩)) 17 rfl kj kj ?_
  refine Qab (.slice (some ⟨g2, 34, none⟩) 32 32) 18 rfl kj kj ?_
  have r2_4 := (GW.row q4 r2_3 (by decide) (Ne.symm (Nat.ne_of_lt (Nat.lt_of_lt_of_le hgw b2))))
  refine Qah (fun v W' => v = .tuple #[] ∧ GW base gw W4 W' ∧ WSt base gw (rawS (QaE (numS (rawS (s) grp) ep 4) fr) bas) W') 104 #[.pointer (some ⟨gw, 0, none⟩), .slice (some ⟨g2, 34, none⟩) 32 32] 19 rfl kj kj ((rawW base gw _ bas _ _ (Nat.le_trans hbw x4.size) ws9 (by omega) hab (fun W e => (QaS 34 hal (ExtB.row e r2_4 (Ne.symm (Nat.ne_of_lt (Nat.lt_of_lt_of_le hgw b2)))) (fun i hi => QaJ [ints .u8 (grp), #[.int .i64 ep], #[.int .i64 fr]] [#[.int .i64 2], #[.bool us], #[.int .i64 nm], ints .u8 (key), ints .u8 (sg), ints .u8 (pa), #[.slice a_m ms.length c_m], ints .u8 (start), #[.int .i64 at_], ints .u8 (sig)] bas 34 i (34 + i) (by rw [Qaa, Qaa, Qaa]; simp only [Array.size_append, cat, ((Qad _ _).trans hrl)]; rfl) rfl (by rw [hal]; exact hi)) (Qa5 (ExtB.row e r2_4 (Ne.symm (Nat.ne_of_lt (Nat.lt_of_lt_of_le hgw b2))))) (Nat.le_refl _) (by decide)))).mono (by rintro e w' ⟨rfl, h1, h2⟩; exact ⟨_, rfl, rfl, h1, h2⟩)) fun v11 W5 h11 => ?_
  obtain ⟨rfl, q5, ws11⟩ := h11
  have x5 : GW base gw w W5 := GW.trans x4 q5
  refine Qaf ?_
  refine hK10 _ _ ?_
  refine wp_seq_k fun K12 hK12 => ?_
  refine Qae ?_
  refine Qab (.pointer (some ⟨gw, 0, none⟩)) 20 rfl kj kj ?_
  refine Qab (.pointer (some ⟨g2, 66, none⟩)) 21 rfl kj kj ?_
  have r2_5 := (GW.row q5 r2_4 (by decide) (Ne.symm (Nat.ne_of_lt (Nat.lt_of_lt_of_le hgw b2))))
  refine Qab (.int .i64 2) 22 rfl kj (Qal 3 _ g2 66 47 _ (.int .i64 2) _ r2_5 rfl kj (Qaq [ints .u8 (grp), #[.int .i64 ep], #[.int .i64 fr], ints .u8 (bas)] [#[.int .i64 2]] [#[.bool us], #[.int .i64 nm], ints .u8 (key), ints .u8 (sg), ints .u8 (pa), #[.slice a_m ms.length c_m], ints .u8 (start), #[.int .i64 at_], ints .u8 (sig)] 66 (by rw [Qaa, Qaa, Qaa, Qaa]; simp only [Array.size_append, cat, ((Qad _ _).trans hal), ((Qad _ _).trans hrl)]; rfl) 0 _ rfl) kj) ?_
  refine Qab (.bool true) 23 rfl kj kj ?_
  refine Qab (.bool true) 24 rfl kj kj ?_
  refine Qab (.pointer (some ⟨g2, 66, none⟩)) 25 rfl kj kj ?_
  refine Qab (.int .i64 2) 26 rfl kj (Qal 3 _ g2 66 47 _ (.int .i64 2) _ r2_5 rfl kj (Qaq [ints .u8 (grp), #[.int .i64 ep], #[.int .i64 fr], ints .u8 (bas)] [#[.int .i64 2]] [#[.bool us], #[.int .i64 nm], ints .u8 (key), ints .u8 (sg), ints .u8 (pa), #[.slice a_m ms.length c_m], ints .u8 (start), #[.int .i64 at_], ints .u8 (sig)] 66 (by rw [Qaa, Qaa, Qaa, Qaa]; simp only [Array.size_append, cat, ((Qad _ _).trans hal), ((Qad _ _).trans hrl)]; rfl) 0 _ rfl) kj) ?_
  refine Qab (.bool true) 27 rfl kj kj ?_
  refine Qab (.bool true) 28 rfl kj kj ?_
  refine Qah (fun v W' => v = .tuple #[] ∧ GW base gw W5 W' ∧ WSt base gw (Qax (rawS (QaE (numS (rawS (s) grp) ep 4) fr) bas) true) W') 98 #[.pointer (some ⟨gw, 0, none⟩), .bool true] 29 rfl kj kj ((QbA base gw _ true _ ws11).mono (by rintro e w' ⟨rfl, h1, h2⟩; exact ⟨_, rfl, rfl, h1, h2⟩)) fun v13 W6 h13 => ?_
  obtain ⟨rfl, q6, ws13⟩ := h13
  have x6 : GW base gw w W6 := GW.trans x5 q6
  refine Qaf ?_
  refine hK12 _ _ ?_
  refine wp_seq_k fun K14 hK14 => ?_
  refine Qae ?_
  refine Qab (.pointer (some ⟨gw, 0, none⟩)) 30 rfl kj kj ?_
  refine Qab (.pointer (some ⟨g2, 66, none⟩)) 31 rfl kj kj ?_
  have r2_6 := (GW.row q6 r2_5 (by decide) (Ne.symm (Nat.ne_of_lt (Nat.lt_of_lt_of_le hgw b2))))
  refine Qab (.int .i64 2) 32 rfl kj (Qal 3 _ g2 66 47 _ (.int .i64 2) _ r2_6 rfl kj (Qaq [ints .u8 (grp), #[.int .i64 ep], #[.int .i64 fr], ints .u8 (bas)] [#[.int .i64 2]] [#[.bool us], #[.int .i64 nm], ints .u8 (key), ints .u8 (sg), ints .u8 (pa), #[.slice a_m ms.length c_m], ints .u8 (start), #[.int .i64 at_], ints .u8 (sig)] 66 (by rw [Qaa, Qaa, Qaa, Qaa]; simp only [Array.size_append, cat, ((Qad _ _).trans hal), ((Qad _ _).trans hrl)]; rfl) 0 _ rfl) kj) ?_
  refine Qah (fun v W' => v = .tuple #[] ∧ GW base gw W6 W' ∧ WSt base gw (numS (Qax (rawS (QaE (numS (rawS (s) grp) ep 4) fr) bas) true) 2 1) W') 105 #[.pointer (some ⟨gw, 0, none⟩), .int .i64 2, .int .i64 1] 33 rfl kj kj ((QaW base gw _ 2 1 _ (Nat.le_trans hbw x6.size) ws13 (by decide)).mono (by rintro e w' ⟨rfl, h1, h2⟩; exact ⟨_, rfl, rfl, h1, h2⟩)) fun v15 W7 h15 => ?_
  obtain ⟨rfl, q7, ws15⟩ := h15
  have x7 : GW base gw w W7 := GW.trans x6 q7
  refine Qaf ?_
  refine hK14 _ _ ?_
  refine wp_seq_k fun K16 hK16 => ?_
  refine wp_seq_k fun K17 hK17 => ?_
  refine Qae ?_
  refine Qab (.pointer (some ⟨g2, 66, none⟩)) 34 rfl kj kj ?_
  have r2_7 := (GW.row q7 r2_6 (by decide) (Ne.symm (Nat.ne_of_lt (Nat.lt_of_lt_of_le hgw b2))))
  refine Qab (.int .i64 2) 35 rfl kj (Qal 3 _ g2 66 47 _ (.int .i64 2) _ r2_7 rfl kj (Qaq [ints .u8 (grp), #[.int .i64 ep], #[.int .i64 fr], ints .u8 (bas)] [#[.int .i64 2]] [#[.bool us], #[.int .i64 nm], ints .u8 (key), ints .u8 (sg), ints .u8 (pa), #[.slice a_m ms.length c_m], ints .u8 (start), #[.int .i64 at_], ints .u8 (sig)] 66 (by rw [Qaa, Qaa, Qaa, Qaa]; simp only [Array.size_append, cat, ((Qad _ _).trans hal), ((Qad _ _).trans hrl)]; rfl) 0 _ rfl) kj) ?_
  refine Qab (.bool false) 36 rfl kj kj ?_
  refine Qab (.bool false) 37 rfl kj kj ?_
  refine Qab (.pointer (some ⟨g2, 66, none⟩)) 38 rfl kj kj ?_
  refine Qab (.int .i64 2) 39 rfl kj (Qal 3 _ g2 66 47 _ (.int .i64 2) _ r2_7 rfl kj (Qaq [ints .u8 (grp), #[.int .i64 ep], #[.int .i64 fr], ints .u8 (bas)] [#[.int .i64 2]] [#[.bool us], #[.int .i64 nm], ints .u8 (key), ints .u8 (sg), ints .u8 (pa), #[.slice a_m ms.length c_m], ints .u8 (start), #[.int .i64 at_], ints .u8 (sig)] 66 (by rw [Qaa, Qaa, Qaa, Qaa]; simp only [Array.size_append, cat, ((Qad _ _).trans hal), ((Qad _ _).trans hrl)]; rfl) 0 _ rfl) kj) ?_
  refine Qab (.bool true) 40 rfl kj kj ?_
  refine Qab (.bool true) 41 rfl kj kj ?_
  refine Qaf ?_
  refine hK17 _ _ ?_
  refine cond_true kj ?_
  refine Qae ?_
  refine Qab (.pointer (some ⟨gw, 0, none⟩)) 42 rfl kj kj ?_
  refine Qab (.pointer (some ⟨g2, 67, none⟩)) 43 rfl kj kj ?_
  refine Qab (.agg (cat [#[.bool us], #[.int .i64 nm], ints .u8 (key), ints .u8 (sg), ints .u8 (pa), #[.slice a_m ms.length c_m]])) 44 rfl kj (Qay 43 _ g2 67 47 _ _ _ r2_7 rfl kj (Qaq [ints .u8 (grp), #[.int .i64 ep], #[.int .i64 fr], ints .u8 (bas), #[.int .i64 2]] [#[.bool us], #[.int .i64 nm], ints .u8 (key), ints .u8 (sg), ints .u8 (pa), #[.slice a_m ms.length c_m]] [ints .u8 (start), #[.int .i64 at_], ints .u8 (sig)] 67 (by rw [Qaa, Qaa, Qaa, Qaa, Qaa]; simp only [Array.size_append, cat, ((Qad _ _).trans hal), ((Qad _ _).trans hrl)]; rfl)) kj (isz (n := 99) kj (by rw [Qaa, Qaa, Qaa, Qaa, Qaa, Qaa]; simp only [Array.size_append, cat, ((Qad _ _).trans hgl), ((Qad _ _).trans hkl), ((Qad _ _).trans hpl)]; rfl))) ?_
  refine Qah (fun v W' => v = .tuple #[] ∧ GW base gw W7 W' ∧ WSt base gw (QbM (numS (Qax (rawS (QaE (numS (rawS (s) grp) ep 4) fr) bas) true) 2 1) us nm key sg pa ms) W') 95 #[.pointer (some ⟨gw, 0, none⟩), .agg (cat [#[.bool us], #[.int .i64 nm], ints .u8 (key), ints .u8 (sg), ints .u8 (pa), #[.slice a_m ms.length c_m]])] 45 rfl kj kj ((Qhl base gw _ us nm key sg pa ms _ _ _ (Nat.le_trans hbw x7.size) hbg ws15 hkl hgl hpl hkb hgb hpb hml (Qck hm x7 hbg)).mono (by rintro e w' ⟨rfl, h1, h2⟩; exact ⟨_, rfl, rfl, h1, h2⟩)) fun v18 W8 h18 => ?_
  obtain ⟨rfl, q8, ws18⟩ := h18
  have x8 : GW base gw w W8 := GW.trans x7 q8
  refine Qaf ?_
  refine hK16 _ _ ?_
  refine wp_seq_k fun K19 hK19 => ?_
  refine wp_seq_k fun K20 hK20 => ?_
  refine Qae ?_
  refine Qab (.pointer (some ⟨g2, 66, none⟩)) 51 rfl kj kj ?_
  have r2_8 := (GW.row q8 r2_7 (by decide) (Ne.symm (Nat.ne_of_lt (Nat.lt_of_lt_of_le hgw b2))))
  refine Qab (.int .i64 2) 52 rfl kj (Qal 3 _ g2 66 47 _ (.int .i64 2) _ r2_8 rfl kj (Qaq [ints .u8 (grp), #[.int .i64 ep], #[.int .i64 fr], ints .u8 (bas)] [#[.int .i64 2]] [#[.bool us], #[.int .i64 nm], ints .u8 (key), ints .u8 (sg), ints .u8 (pa), #[.slice a_m ms.length c_m], ints .u8 (start), #[.int .i64 at_], ints .u8 (sig)] 66 (by rw [Qaa, Qaa, Qaa, Qaa]; simp only [Array.size_append, cat, ((Qad _ _).trans hal), ((Qad _ _).trans hrl)]; rfl) 0 _ rfl) kj) ?_
  refine Qab (.bool false) 53 rfl kj kj ?_
  refine Qaf ?_
  refine hK20 _ _ ?_
  refine cond_false kj ?_
  refine Qae ?_
  refine Qab (.pointer (some ⟨gw, 0, none⟩)) 58 rfl kj kj ?_
  refine Qab (.pointer (some ⟨g2, 166, none⟩)) 59 rfl kj kj ?_
  refine Qab (.agg (ints .u8 (start))) 60 rfl kj (Qay 40 _ g2 166 47 _ _ _ r2_8 rfl kj (Qaq [ints .u8 (grp), #[.int .i64 ep], #[.int .i64 fr], ints .u8 (bas), #[.int .i64 2], #[.bool us], #[.int .i64 nm], ints .u8 (key), ints .u8 (sg), ints .u8 (pa), #[.slice a_m ms.length c_m]] [ints .u8 (start)] [#[.int .i64 at_], ints .u8 (sig)] 166 (by rw [Qaa, Qaa, Qaa, Qaa, Qaa, Qaa, Qaa, Qaa, Qaa, Qaa, Qaa]; simp only [Array.size_append, cat, ((Qad _ _).trans hal), ((Qad _ _).trans hgl), ((Qad _ _).trans hkl), ((Qad _ _).trans hpl), ((Qad _ _).trans hrl)]; rfl)) kj (isz (n := 32) kj ((Qad _ _).trans htl))) ?_
  refine Qab (.agg (ints .u8 (List.replicate 32 0))) 61 rfl kj kj ?_
  refine Qab (.bool (decide (start = List.replicate 32 0))) 62 rfl kj (QaK 40 _ _ _ _ _ (.bool (decide (start = List.replicate 32 0))) rfl kj kj kj (QaV 40 (e := 5) (k := .u8) (start) (List.replicate 32 0) rfl htl (List.length_replicate (n := 32)) kj kj kj _)) ?_
  refine Qah (fun v W' => v = .tuple #[] ∧ GW base gw W8 W' ∧ WSt base gw (Qax (QbM (numS (Qax (rawS (QaE (numS (rawS (s) grp) ep 4) fr) bas) true) 2 1) us nm key sg pa ms) (decide (start = List.replicate 32 0))) W') 98 #[.pointer (some ⟨gw, 0, none⟩), .bool (decide (start = List.replicate 32 0))] 63 rfl kj kj ((QbA base gw _ (decide (start = List.replicate 32 0)) _ ws18).mono (by rintro e w' ⟨rfl, h1, h2⟩; exact ⟨_, rfl, rfl, h1, h2⟩)) fun v21 W9 h21 => ?_
  obtain ⟨rfl, q9, ws21⟩ := h21
  have x9 : GW base gw w W9 := GW.trans x8 q9
  refine Qaf ?_
  refine hK19 _ _ ?_
  refine wp_seq_k fun K22 hK22 => ?_
  refine wp_seq_k fun K23 hK23 => ?_
  refine Qae ?_
  refine Qab (.pointer (some ⟨g2, 66, none⟩)) 64 rfl kj kj ?_
  have r2_9 := (GW.row q9 r2_8 (by decide) (Ne.symm (Nat.ne_of_lt (Nat.lt_of_lt_of_le hgw b2))))
  refine Qab (.int .i64 2) 65 rfl kj (Qal 3 _ g2 66 47 _ (.int .i64 2) _ r2_9 rfl kj (Qaq [ints .u8 (grp), #[.int .i64 ep], #[.int .i64 fr], ints .u8 (bas)] [#[.int .i64 2]] [#[.bool us], #[.int .i64 nm], ints .u8 (key), ints .u8 (sg), ints .u8 (pa), #[.slice a_m ms.length c_m], ints .u8 (start), #[.int .i64 at_], ints .u8 (sig)] 66 (by rw [Qaa, Qaa, Qaa, Qaa]; simp only [Array.size_append, cat, ((Qad _ _).trans hal), ((Qad _ _).trans hrl)]; rfl) 0 _ rfl) kj) ?_
  refine Qab (.bool false) 66 rfl kj kj ?_
  refine Qaf ?_
  refine hK23 _ _ ?_
  refine cond_false kj ?_
  refine Qae ?_
  refine Qab (.pointer (some ⟨gw, 0, none⟩)) 71 rfl kj kj ?_
  refine Qab (.pointer (some ⟨g2, 198, none⟩)) 72 rfl kj kj ?_
  refine Qab (.int .i64 at_) 73 rfl kj (Qal 3 _ g2 198 47 _ (.int .i64 at_) _ r2_9 rfl kj (Qaq [ints .u8 (grp), #[.int .i64 ep], #[.int .i64 fr], ints .u8 (bas), #[.int .i64 2], #[.bool us], #[.int .i64 nm], ints .u8 (key), ints .u8 (sg), ints .u8 (pa), #[.slice a_m ms.length c_m], ints .u8 (start)] [#[.int .i64 at_]] [ints .u8 (sig)] 198 (by rw [Qaa, Qaa, Qaa, Qaa, Qaa, Qaa, Qaa, Qaa, Qaa, Qaa, Qaa, Qaa]; simp only [Array.size_append, cat, ((Qad _ _).trans hal), ((Qad _ _).trans hgl), ((Qad _ _).trans hkl), ((Qad _ _).trans hpl), ((Qad _ _).trans hrl), ((Qad _ _).trans htl)]; rfl) 0 _ rfl) kj) ?_
  refine Qab (.bool ((at_ == 0))) 74 rfl kj kj ?_
  refine Qah (fun v W' => v = .tuple #[] ∧ GW base gw W9 W' ∧ WSt base gw (Qax (Qax (QbM (numS (Qax (rawS (QaE (numS (rawS (s) grp) ep 4) fr) bas) true) 2 1) us nm key sg pa ms) (decide (start = List.replicate 32 0))) ((at_ == 0))) W') 98 #[.pointer (some ⟨gw, 0, none⟩), .bool ((at_ == 0))] 75 rfl kj kj ((QbA base gw _ ((at_ == 0)) _ ws21).mono (by rintro e w' ⟨rfl, h1, h2⟩; exact ⟨_, rfl, rfl, h1, h2⟩)) fun v24 W10 h24 => ?_
  obtain ⟨rfl, q10, ws24⟩ := h24
  have x10 : GW base gw w W10 := GW.trans x9 q10
  refine Qaf ?_
  refine hK22 _ _ ?_
  refine Qae ?_
  refine Qab (.pointer (some ⟨gw, 0, none⟩)) 76 rfl kj kj ?_
  refine Qab (.pointer (some ⟨g2, 199, none⟩)) 77 rfl kj kj ?_
  refine Qab (.slice (some ⟨g2, 199, none⟩) 64 64) 78 rfl kj kj ?_
  have r2_10 := (GW.row q10 r2_9 (by decide) (Ne.symm (Nat.ne_of_lt (Nat.lt_of_lt_of_le hgw b2))))
  refine Qah (fun v W' => v = .tuple #[] ∧ GW base gw W10 W' ∧ WSt base gw (rawS (Qax (Qax (QbM (numS (Qax (rawS (QaE (numS (rawS (s) grp) ep 4) fr) bas) true) 2 1) us nm key sg pa ms) (decide (start = List.replicate 32 0))) ((at_ == 0))) sig) W') 104 #[.pointer (some ⟨gw, 0, none⟩), .slice (some ⟨g2, 199, none⟩) 64 64] 79 rfl kj kj ((rawW base gw _ sig _ _ (Nat.le_trans hbw x10.size) ws24 (by omega) hib (fun W e => (QaS 199 hil (ExtB.row e r2_10 (Ne.symm (Nat.ne_of_lt (Nat.lt_of_lt_of_le hgw b2)))) (fun i hi => QaJ [ints .u8 (grp), #[.int .i64 ep], #[.int .i64 fr], ints .u8 (bas), #[.int .i64 2], #[.bool us], #[.int .i64 nm], ints .u8 (key), ints .u8 (sg), ints .u8 (pa), #[.slice a_m ms.length c_m], ints .u8 (start), #[.int .i64 at_]] [] sig 199 i (199 + i) (by rw [Qaa, Qaa, Qaa, Qaa, Qaa, Qaa, Qaa, Qaa, Qaa, Qaa, Qaa, Qaa, Qaa]; simp only [Array.size_append, cat, ((Qad _ _).trans hal), ((Qad _ _).trans hgl), ((Qad _ _).trans hkl), ((Qad _ _).trans hpl), ((Qad _ _).trans hrl), ((Qad _ _).trans htl)]; rfl) rfl (by rw [hil]; exact hi)) (Qa5 (ExtB.row e r2_10 (Ne.symm (Nat.ne_of_lt (Nat.lt_of_lt_of_le hgw b2))))) (Nat.le_refl _) (by decide)))).mono (by rintro e w' ⟨rfl, h1, h2⟩; exact ⟨_, rfl, rfl, h1, h2⟩)) fun v25 W11 h25 => ?_
  obtain ⟨rfl, q11, ws25⟩ := h25
  have x11 : GW base gw w W11 := GW.trans x10 q11
  refine Qaf ?_
  repeat (first | with_reducible refine goX1 ?_ | with_reducible refine goX2 ?_ | with_reducible refine goX3 ?_)
  exact (show bodyPost _ _ _ .normal _ _ from end0 rfl ⟨rfl, x11, ws25⟩)
set_option maxHeartbeats 4000000 in
theorem Qhe (base gw : Nat) (s : Option (List Int)) (grp : List Int) (ep fr : Int) (bas : List Int) (us : Bool) (nm : Int) (key sg pa ms start : List Int) (at_ : Int) (sig : List Int) (a_m : Option Addr) (c_m : Nat) (w : World) (hbw : base ≤ w.heap.size) (hbg : base ≤ gw) (h : WSt base gw s w) (hrl : grp.length = 32) (hrb : Qao grp) (hal : bas.length = 32) (hab : Qao bas) (hkl : key.length = 32) (hgl : sg.length = 32) (hpl : pa.length = 32) (hkb : Qao key) (hgb : Qao sg) (hpb : Qao pa) (hml : ms.length ≤ 1000000) (htl : start.length = 32) (htb : Qao start) (hil : sig.length = 64) (hib : Qao sig) (hm : RdK .i64 base ms (.slice a_m ms.length c_m) w) : Calls Try.prog 57 #[.pointer (some ⟨gw, 0, none⟩), .agg (cat [ints .u8 (grp), #[.int .i64 ep], #[.int .i64 fr], ints .u8 (bas), #[.int .i64 3], #[.bool us], #[.int .i64 nm], ints .u8 (key), ints .u8 (sg), ints .u8 (pa), #[.slice a_m ms.length c_m], ints .u8 (start), #[.int .i64 at_], ints .u8 (sig)])] w (fun e W => e = .returned (.tuple #[]) ∧ GW base gw w W ∧ WSt base gw (rawS (QaE (Qax (Qax (numS (Qax (rawS (QaE (numS (rawS (s) grp) ep 4) fr) bas) true) 3 1) (QaB us nm key sg pa ms)) (decide (start = List.replicate 32 0))) at_) sig) W) := by
  have hgw := h.lt
  refine enter 80 [(0, .pointer (some ⟨gw, 0, none⟩)), (1, .agg (cat [ints .u8 (grp), #[.int .i64 ep], #[.int .i64 fr], ints .u8 (bas), #[.int .i64 3], #[.bool us], #[.int .i64 nm], ints .u8 (key), ints .u8 (sg), ints .u8 (pa), #[.slice a_m ms.length c_m], ints .u8 (start), #[.int .i64 at_], ints .u8 (sig)]))] Try.func57 rfl rfl kj rfl ?_
  refine wp_seq_k fun K1 hK1 => ?_
  refine Qae ?_
  refine Qar (cat [ints .u8 (grp), #[.int .i64 ep], #[.int .i64 fr], ints .u8 (bas), #[.int .i64 3], #[.bool us], #[.int .i64 nm], ints .u8 (key), ints .u8 (sg), ints .u8 (pa), #[.slice a_m ms.length c_m], ints .u8 (start), #[.int .i64 at_], ints .u8 (sig)]) 47 3 rfl kj kj fun g2 W1 l2 e1 r2_1 => ?_
  have x1 : GW base gw w W1 := GW.ext (GW.refl base gw w) e1
  have ws3 := WSt.ext h e1
  have b2 : w.heap.size ≤ g2 := Nat.le_trans (GW.refl base gw w).size l2
  refine Qaf ?_
  refine hK1 _ _ ?_
  refine wp_seq_k fun K4 hK4 => ?_
  refine Qae ?_
  refine Qab (.pointer (some ⟨gw, 0, none⟩)) 4 rfl kj kj ?_
  refine Qab (.pointer (some ⟨g2, 0, none⟩)) 5 rfl kj kj ?_
  refine Qab (.slice (some ⟨g2, 0, none⟩) 32 32) 6 rfl kj kj ?_
  refine Qah (fun v W' => v = .tuple #[] ∧ GW base gw W1 W' ∧ WSt base gw (rawS (s) grp) W') 104 #[.pointer (some ⟨gw, 0, none⟩), .slice (some ⟨g2, 0, none⟩) 32 32] 7 rfl kj kj ((rawW base gw _ grp _ _ (Nat.le_trans hbw x1.size) ws3 (by omega) hrb (fun W e => (QaS 0 hrl (ExtB.row e r2_1 (Ne.symm (Nat.ne_of_lt (Nat.lt_of_lt_of_le hgw b2)))) (fun i hi => QaJ [] [#[.int .i64 ep], #[.int .i64 fr], ints .u8 (bas), #[.int .i64 3], #[.bool us], #[.int .i64 nm], ints .u8 (key), ints .u8 (sg), ints .u8 (pa), #[.slice a_m ms.length c_m], ints .u8 (start), #[.int .i64 at_], ints .u8 (sig)] grp 0 i (0 + i) kj rfl (by rw [hrl]; exact hi)) (Qa5 (ExtB.row e r2_1 (Ne.symm (Nat.ne_of_lt (Nat.lt_of_lt_of_le hgw b2))))) (Nat.le_refl _) (by decide)))).mono (by rintro e w' ⟨rfl, h1, h2⟩; exact ⟨_, rfl, rfl, h1, h2⟩)) fun v5 W2 h5 => ?_
  obtain ⟨rfl, q2, ws5⟩ := h5
  have x2 : GW base gw w W2 := GW.trans x1 q2
  refine Qaf ?_
  refine hK4 _ _ ?_
  refine wp_seq_k fun K6 hK6 => ?_
  refine Qae ?_
  refine Qab (.pointer (some ⟨gw, 0, none⟩)) 8 rfl kj kj ?_
  refine Qab (.pointer (some ⟨g2, 32, none⟩)) 9 rfl kj kj ?_
  have r2_2 := (GW.row q2 r2_1 (by decide) (Ne.symm (Nat.ne_of_lt (Nat.lt_of_lt_of_le hgw b2))))
  refine Qab (.int .i64 ep) 10 rfl kj (Qal 3 _ g2 32 47 _ (.int .i64 ep) _ r2_2 rfl kj (Qaq [ints .u8 (grp)] [#[.int .i64 ep]] [#[.int .i64 fr], ints .u8 (bas), #[.int .i64 3], #[.bool us], #[.int .i64 nm], ints .u8 (key), ints .u8 (sg), ints .u8 (pa), #[.slice a_m ms.length c_m], ints .u8 (start), #[.int .i64 at_], ints .u8 (sig)] 32 ((Qad _ _).trans hrl) 0 _ rfl) kj) ?_
  refine Qah (fun v W' => v = .tuple #[] ∧ GW base gw W2 W' ∧ WSt base gw (numS (rawS (s) grp) ep 4) W') 105 #[.pointer (some ⟨gw, 0, none⟩), .int .i64 ep, .int .i64 4] 11 rfl kj kj ((QaW base gw _ ep 4 _ (Nat.le_trans hbw x2.size) ws5 (by decide)).mono (by rintro e w' ⟨rfl, h1, h2⟩; exact ⟨_, rfl, rfl, h1, h2⟩)) fun v7 W3 h7 => ?_
  obtain ⟨rfl, q3, ws7⟩ := h7
  have x3 : GW base gw w W3 := GW.trans x2 q3
  refine Qaf ?_
  refine hK6 _ _ ?_
  refine wp_seq_k fun K8 hK8 => ?_
  refine Qae ?_
  refine Qab (.pointer (some ⟨gw, 0, none⟩)) 12 rfl kj kj ?_
  refine Qab (.pointer (some ⟨g2, 33, none⟩)) 13 rfl kj kj ?_
  have r2_3 := (GW.row q3 r2_2 (by decide) (Ne.symm (Nat.ne_of_lt (Nat.lt_of_lt_of_le hgw b2))))
  refine Qab (.int .i64 fr) 14 rfl kj (Qal 3 _ g2 33 47 _ (.int .i64 fr) _ r2_3 rfl kj (Qaq [ints .u8 (grp), #[.int .i64 ep]] [#[.int .i64 fr]] [ints .u8 (bas), #[.int .i64 3], #[.bool us], #[.int .i64 nm], ints .u8 (key), ints .u8 (sg), ints .u8 (pa), #[.slice a_m ms.length c_m], ints .u8 (start), #[.int .i64 at_], ints .u8 (sig)] 33 (by rw [Qaa, Qaa]; simp only [Array.size_append, cat, ((Qad _ _).trans hrl)]; rfl) 0 _ rfl) kj) ?_
  refine Qah (fun v W' => v = .tuple #[] ∧ GW base gw W3 W' ∧ WSt base gw (QaE (numS (rawS (s) grp) ep 4) fr) W') 106 #[.pointer (some ⟨gw, 0, none⟩), .int .i64 fr] 15 rfl kj kj ((QdG base gw _ fr _ (Nat.le_trans hbw x3.size) ws7).mono (by rintro e w' ⟨rfl, h1, h2⟩; exact ⟨_, rfl, rfl, h1, h2⟩)) fun v9 W4 h9 => ?_
  obtain ⟨rfl, q4, ws9⟩ := h9
  have x4 : GW base gw w W4 := GW.trans x3 q4
  refine Qaf ?_
  refine hK8 _ _ ?_
  refine wp_seq_k fun K10 hK10 => ?_
  refine Qae ?_
  refine Qab (.pointer (some ⟨gw, 0, none⟩)) 16 rfl kj kj ?_
  refine Qab (.pointer (some ⟨g2, 34, none⟩)) 17 rfl kj kj ?_
  refine Qab (.slice (some ⟨g2, 34, none⟩) 32 32) 18 rfl kj kj ?_
  have r2_4 := (GW.row q4 r2_3 (by decide) (Ne.symm (Nat.ne_of_lt (Nat.lt_of_lt_of_le hgw b2))))
  refine Qah (fun v W' => v = .tuple #[] ∧ GW base gw W4 W' ∧ WSt base gw (rawS (QaE (numS (rawS (s) grp) ep 4) fr) bas) W') 104 #[.pointer (some ⟨gw, 0, none⟩), .slice (some ⟨g2, 34, none⟩) 32 32] 19 rfl kj kj ((rawW base gw _ bas _ _ (Nat.le_trans hbw x4.size) ws9 (by omega) hab (fun W e => (QaS 34 hal (ExtB.row e r2_4 (Ne.symm (Nat.ne_of_lt (Nat.lt_of_lt_of_le hgw b2)))) (fun i hi => QaJ [ints .u8 (grp), #[.int .i64 ep], #[.int .i64 fr]] [#[.int .i64 3], #[.bool us], #[.int .i64 nm], ints .u8 (key), ints .u8 (sg), ints .u8 (pa), #[.slice a_m ms.length c_m], ints .u8 (start), #[.int .i64 at_], ints .u8 (sig)] bas 34 i (34 + i) (by rw [Qaa, Qaa, Qaa]; simp only [Array.size_append, cat, ((Qad _ _).trans hrl)]; rfl) rfl (by rw [hal]; exact hi)) (Qa5 (ExtB.row e r2_4 (Ne.symm (Nat.ne_of_lt (Nat.lt_of_lt_of_le hgw b2))))) (Nat.le_refl _) (by decide)))).mono (by rintro e w' ⟨rfl, h1, h2⟩; exact ⟨_, rfl, rfl, h1, h2⟩)) fun v11 W5 h11 => ?_
  obtain ⟨rfl, q5, ws11⟩ := h11
  have x5 : GW base gw w W5 := GW.trans x4 q5
  refine Qaf ?_
  refine hK10 _ _ ?_
  refine wp_seq_k fun K12 hK12 => ?_
  refine Qae ?_
  refine Qab (.pointer (some ⟨gw, 0, none⟩)) 20 rfl kj kj ?_
  refine Qab (.pointer (some ⟨g2, 66, none⟩)) 21 rfl kj kj ?_
  have r2_5 := (GW.row q5 r2_4 (by decide) (Ne.symm (Nat.ne_of_lt (Nat.lt_of_lt_of_le hgw b2))))
  refine Qab (.int .i64 3) 22 rfl kj (Qal 3 _ g2 66 47 _ (.int .i64 3) _ r2_5 rfl kj (Qaq [ints .u8 (grp), #[.int .i64 ep], #[.int .i64 fr], ints .u8 (bas)] [#[.int .i64 3]] [#[.bool us], #[.int .i64 nm], ints .u8 (key), ints .u8 (sg), ints .u8 (pa), #[.slice a_m ms.length c_m], ints .u8 (start), #[.int .i64 at_], ints .u8 (sig)] 66 (by rw [Qaa, Qaa, Qaa, Qaa]; simp only [Array.size_append, cat, ((Qad _ _).trans hal), ((Qad _ _).trans hrl)]; rfl) 0 _ rfl) kj) ?_
  refine Qab (.bool true) 23 rfl kj kj ?_
  refine Qab (.bool true) 24 rfl kj kj ?_
  refine Qab (.pointer (some ⟨g2, 66, none⟩)) 25 rfl kj kj ?_
  refine Qab (.int .i64 3) 26 rfl kj (Qal 3 _ g2 66 47 _ (.int .i64 3) _ r2_5 rfl kj (Qaq [ints .u8 (grp), #[.int .i64 ep], #[.int .i64 fr], ints .u8 (bas)] [#[.int .i64 3]] [#[.bool us], #[.int .i64 nm], ints .u8 (key), ints .u8 (sg), ints .u8 (pa), #[.slice a_m ms.length c_m], ints .u8 (start), #[.int .i64 at_], ints .u8 (sig)] 66 (by rw [Qaa, Qaa, Qaa, Qaa]; simp only [Array.size_append, cat, ((Qad _ _).trans hal), ((Qad _ _).trans hrl)]; rfl) 0 _ rfl) kj) ?_
  refine Qab (.bool true) 27 rfl kj kj ?_
  refine Qab (.bool true) 28 rfl kj kj ?_
  refine Qah (fun v W' => v = .tuple #[] ∧ GW base gw W5 W' ∧ WSt base gw (Qax (rawS (QaE (numS (rawS (s) grp) ep 4) fr) bas) true) W') 98 #[.pointer (some ⟨gw, 0, none⟩), .bool true] 29 rfl kj kj ((QbA base gw _ true _ ws11).mono (by rintro e w' ⟨rfl, h1, h2⟩; exact ⟨_, rfl, rfl, h1, h2⟩)) fun v13 W6 h13 => ?_
  obtain ⟨rfl, q6, ws13⟩ := h13
  have x6 : GW base gw w W6 := GW.trans x5 q6
  refine Qaf ?_
  refine hK12 _ _ ?_
  refine wp_seq_k fun K14 hK14 => ?_
  refine Qae ?_
  refine Qab (.pointer (some ⟨gw, 0, none⟩)) 30 rfl kj kj ?_
  refine Qab (.pointer (some ⟨g2, 66, none⟩)) 31 rfl kj kj ?_
  have r2_6 := (GW.row q6 r2_5 (by decide) (Ne.symm (Nat.ne_of_lt (Nat.lt_of_lt_of_le hgw b2))))
  refine Qab (.int .i64 3) 32 rfl kj (Qal 3 _ g2 66 47 _ (.int .i64 3) _ r2_6 rfl kj (Qaq [ints .u8 (grp), #[.int .i64 ep], #[.int .i64 fr], ints .u8 (bas)] [#[.int .i64 3]] [#[.bool us], #[.int .i64 nm], ints .u8 (key), ints .u8 (sg), ints .u8 (pa), #[.slice a_m ms.length c_m], ints .u8 (start), #[.int .i64 at_], ints .u8 (sig)] 66 (by rw [Qaa, Qaa, Qaa, Qaa]; simp only [Array.size_append, cat, ((Qad _ _).trans hal), ((Qad _ _).trans hrl)]; rfl) 0 _ rfl) kj) ?_
  refine Qah (fun v W' => v = .tuple #[] ∧ GW base gw W6 W' ∧ WSt base gw (numS (Qax (rawS (QaE (numS (rawS (s) grp) ep 4) fr) bas) true) 3 1) W') 105 #[.pointer (some ⟨gw, 0, none⟩), .int .i64 3, .int .i64 1] 33 rfl kj kj ((QaW base gw _ 3 1 _ (Nat.le_trans hbw x6.size) ws13 (by decide)).mono (by rintro e w' ⟨rfl, h1, h2⟩; exact ⟨_, rfl, rfl, h1, h2⟩)) fun v15 W7 h15 => ?_
  obtain ⟨rfl, q7, ws15⟩ := h15
  have x7 : GW base gw w W7 := GW.trans x6 q7
  refine Qaf ?_
  refine hK14 _ _ ?_
  refine wp_seq_k fun K16 hK16 => ?_
  refine wp_seq_k fun K17 hK17 => ?_
  refine Qae ?_
  refine Qab (.pointer (some ⟨g2, 66, none⟩)) 34 rfl kj kj ?_
  have r2_7 := (GW.row q7 r2_6 (by decide) (Ne.symm (Nat.ne_of_lt (Nat.lt_of_lt_of_le hgw b2))))
  refine Qab (.int .i64 3) 35 rfl kj (Qal 3 _ g2 66 47 _ (.int .i64 3) _ r2_7 rfl kj (Qaq [ints .u8 (grp), #[.int .i64 ep], #[.int .i64 fr], ints .u8 (bas)] [#[.int .i64 3]] [#[.bool us], #[.int .i64 nm], ints .u8 (key), ints .u8 (sg), ints .u8 (pa), #[.slice a_m ms.length c_m], ints .u8 (start), #[.int .i64 at_], ints .u8 (sig)] 66 (by rw [Qaa, Qaa, Qaa, Qaa]; simp only [Array.size_append, cat, ((Qad _ _).trans hal), ((Qad _ _).trans hrl)]; rfl) 0 _ rfl) kj) ?_
  refine Qab (.bool false) 36 rfl kj kj ?_
  refine Qab (.bool false) 37 rfl kj kj ?_
  refine Qab (.pointer (some ⟨g2, 66, none⟩)) 38 rfl kj kj ?_
  refine Qab (.int .i64 3) 39 rfl kj (Qal 3 _ g2 66 47 _ (.int .i64 3) _ r2_7 rfl kj (Qaq [ints .u8 (grp), #[.int .i64 ep], #[.int .i64 fr], ints .u8 (bas)] [#[.int .i64 3]] [#[.bool us], #[.int .i64 nm], ints .u8 (key), ints .u8 (sg), ints .u8 (pa), #[.slice a_m ms.length c_m], ints .u8 (start), #[.int .i64 at_], ints .u8 (sig)] 66 (by rw [Qaa, Qaa, Qaa, Qaa]; simp only [Array.size_append, cat, ((Qad _ _).trans hal), ((Qad _ _).trans hrl)]; rfl) 0 _ rfl) kj) ?_
  refine Qab (.bool false) 40 rfl kj kj ?_
  refine Qab (.bool false) 41 rfl kj kj ?_
  refine Qaf ?_
  refine hK17 _ _ ?_
  refine cond_false kj ?_
  refine Qae ?_
  refine Qab (.pointer (some ⟨gw, 0, none⟩)) 46 rfl kj kj ?_
  refine Qab (.pointer (some ⟨g2, 67, none⟩)) 47 rfl kj kj ?_
  refine Qab (.agg (cat [#[.bool us], #[.int .i64 nm], ints .u8 (key), ints .u8 (sg), ints .u8 (pa), #[.slice a_m ms.length c_m]])) 48 rfl kj (Qay 43 _ g2 67 47 _ _ _ r2_7 rfl kj (Qaq [ints .u8 (grp), #[.int .i64 ep], #[.int .i64 fr], ints .u8 (bas), #[.int .i64 3]] [#[.bool us], #[.int .i64 nm], ints .u8 (key), ints .u8 (sg), ints .u8 (pa), #[.slice a_m ms.length c_m]] [ints .u8 (start), #[.int .i64 at_], ints .u8 (sig)] 67 (by rw [Qaa, Qaa, Qaa, Qaa, Qaa]; simp only [Array.size_append, cat, ((Qad _ _).trans hal), ((Qad _ _).trans hrl)]; rfl)) kj (isz (n := 99) kj (by rw [Qaa, Qaa, Qaa, Qaa, Qaa, Qaa]; simp only [Array.size_append, cat, ((Qad _ _).trans hgl), ((Qad _ _).trans hkl), ((Qad _ _).trans hpl)]; rfl))) ?_
  refine Qa8 (.bool (QaB us nm key sg pa ms)) 107 #[.agg (cat [#[.bool us], #[.int .i64 nm], ints .u8 (key), ints .u8 (sg), ints .u8 (pa), #[.slice a_m ms.length c_m]])] 49 rfl kj kj (Qek us nm key sg pa ms _ _ _ hkl hgl hpl) fun W8 e8 => ?_
  have x8 : GW base gw w W8 := GW.ext x7 e8
  have ws18 := WSt.ext ws15 e8
  refine Qah (fun v W' => v = .tuple #[] ∧ GW base gw W8 W' ∧ WSt base gw (Qax (numS (Qax (rawS (QaE (numS (rawS (s) grp) ep 4) fr) bas) true) 3 1) (QaB us nm key sg pa ms)) W') 98 #[.pointer (some ⟨gw, 0, none⟩), .bool (QaB us nm key sg pa ms)] 50 rfl kj kj ((QbA base gw _ (QaB us nm key sg pa ms) _ ws18).mono (by rintro e w' ⟨rfl, h1, h2⟩; exact ⟨_, rfl, rfl, h1, h2⟩)) fun v19 W9 h19 => ?_
  obtain ⟨rfl, q9, ws19⟩ := h19
  have x9 : GW base gw w W9 := GW.trans x8 q9
  refine Qaf ?_
  refine hK16 _ _ ?_
  refine wp_seq_k fun K20 hK20 => ?_
  refine wp_seq_k fun K21 hK21 => ?_
  refine Qae ?_
  refine Qab (.pointer (some ⟨g2, 66, none⟩)) 51 rfl kj kj ?_
  have r2_8 := (Qau r2_7 e8)
  have r2_9 := (GW.row q9 r2_8 (by decide) (Ne.symm (Nat.ne_of_lt (Nat.lt_of_lt_of_le hgw b2))))
  refine Qab (.int .i64 3) 52 rfl kj (Qal 3 _ g2 66 47 _ (.int .i64 3) _ r2_9 rfl kj (Qaq [ints .u8 (grp), #[.int .i64 ep], #[.int .i64 fr], ints .u8 (bas)] [#[.int .i64 3]] [#[.bool us], #[.int .i64 nm], ints .u8 (key), ints .u8 (sg), ints .u8 (pa), #[.slice a_m ms.length c_m], ints .u8 (start), #[.int .i64 at_], ints .u8 (sig)] 66 (by rw [Qaa, Qaa, Qaa, Qaa]; simp only [Array.size_append, cat, ((Qad _ _).trans hal), ((Qad _ _).trans hrl)]; rfl) 0 _ rfl) kj) ?_
  refine Qab (.bool false) 53 rfl kj kj ?_
  refine Qaf ?_
  refine hK21 _ _ ?_
  refine cond_false kj ?_
  refine Qae ?_
  refine Qab (.pointer (some ⟨gw, 0, none⟩)) 58 rfl kj kj ?_
  refine Qab (.pointer (some ⟨g2, 166, none⟩)) 59 rfl kj kj ?_
  refine Qab (.agg (ints .u8 (start))) 60 rfl kj (Qay 40 _ g2 166 47 _ _ _ r2_9 rfl kj (Qaq [ints .u8 (grp), #[.int .i64 ep], #[.int .i64 fr], ints .u8 (bas), #[.int .i64 3], #[.bool us], #[.int .i64 nm], ints .u8 (key), ints .u8 (sg), ints .u8 (pa), #[.slice a_m ms.length c_m]] [ints .u8 (start)] [#[.int .i64 at_], ints .u8 (sig)] 166 (by rw [Qaa, Qaa, Qaa, Qaa, Qaa, Qaa, Qaa, Qaa, Qaa, Qaa, Qaa]; simp only [Array.size_append, cat, ((Qad _ _).trans hal), ((Qad _ _).trans hgl), ((Qad _ _).trans hkl), ((Qad _ _).trans hpl), ((Qad _ _).trans hrl)]; rfl)) kj (isz (n := 32) kj ((Qad _ _).trans htl))) ?_
  refine Qab (.agg (ints .u8 (List.replicate 32 0))) 61 rfl kj kj ?_
  refine Qab (.bool (decide (start = List.replicate 32 0))) 62 rfl kj (QaK 40 _ _ _ _ _ (.bool (decide (start = List.replicate 32 0))) rfl kj kj kj (QaV 40 (e := 5) (k := .u8) (start) (List.replicate 32 0) rfl htl (List.length_replicate (n := 32)) kj kj kj _)) ?_
  refine Qah (fun v W' => v = .tuple #[] ∧ GW base gw W9 W' ∧ WSt base gw (Qax (Qax (numS (Qax (rawS (QaE (numS (rawS (s) grp) ep 4) fr) bas) true) 3 1) (QaB us nm key sg pa ms)) (decide (start = List.replicate 32 0))) W') 98 #[.pointer (some ⟨gw, 0, none⟩), .bool (decide (start = List.replicate 32 0))] 63 rfl kj kj ((QbA base gw _ (decide (start = List.replicate 32 0)) _ ws19).mono (by rintro e w' ⟨rfl, h1, h2⟩; exact ⟨_, rfl, rfl, h1, h2⟩)) fun v22 W10 h22 => ?_
  obtain ⟨rfl, q10, ws22⟩ := h22
  have x10 : GW base gw w W10 := GW.trans x9 q10
  refine Qaf ?_
  refine hK20 _ _ ?_
  refine wp_seq_k fun K23 hK23 => ?_
  refine wp_seq_k fun K24 hK24 => ?_
  refine Qae ?_
  refine Qab (.pointer (some ⟨g2, 66, none⟩)) 64 rfl kj kj ?_
  have r2_10 := (GW.row q10 r2_9 (by decide) (Ne.symm (Nat.ne_of_lt (Nat.lt_of_lt_of_le hgw b2))))
  refine Qab (.int .i64 3) 65 rfl kj (Qal 3 _ g2 66 47 _ (.int .i64 3) _ r2_10 rfl kj (Qaq [ints .u8 (grp), #[.int .i64 ep], #[.int .i64 fr], ints .u8 (bas)] [#[.int .i64 3]] [#[.bool us], #[.int .i64 nm], ints .u8 (key), ints .u8 (sg), ints .u8 (pa), #[.slice a_m ms.length c_m], ints .u8 (start), #[.int .i64 at_], ints .u8 (sig)] 66 (by rw [Qaa, Qaa, Qaa, Qaa]; simp only [Array.size_append, cat, ((Qad _ _).trans hal), ((Qad _ _).trans hrl)]; rfl) 0 _ rfl) kj) ?_
  refine Qab (.bool true) 66 rfl kj kj ?_
  refine Qaf ?_
  refine hK24 _ _ ?_
  refine cond_true kj ?_
  refine Qae ?_
  refine Qab (.pointer (some ⟨gw, 0, none⟩)) 67 rfl kj kj ?_
  refine Qab (.pointer (some ⟨g2, 198, none⟩)) 68 rfl kj kj ?_
  refine Qab (.int .i64 at_) 69 rfl kj (Qal 3 _ g2 198 47 _ (.int .i64 at_) _ r2_10 rfl kj (Qaq [ints .u8 (grp), #[.int .i64 ep], #[.int .i64 fr], ints .u8 (bas), #[.int .i64 3], #[.bool us], #[.int .i64 nm], ints .u8 (key), ints .u8 (sg), ints .u8 (pa), #[.slice a_m ms.length c_m], ints .u8 (start)] [#[.int .i64 at_]] [ints .u8 (sig)] 198 (by rw [Qaa, Qaa, Qaa, Qaa, Qaa, Qaa, Qaa, Qaa, Qaa, Qaa, Qaa, Qaa]; simp only [Array.size_append, cat, ((Qad _ _).trans hal), ((Qad _ _).trans hgl), ((Qad _ _).trans hkl), ((Qad _ _).trans hpl), ((Qad _ _).trans hrl), ((Qad _ _).trans htl)]; rfl) 0 _ rfl) kj) ?_
  refine Qah (fun v W' => v = .tuple #[] ∧ GW base gw W10 W' ∧ WSt base gw (QaE (Qax (Qax (numS (Qax (rawS (QaE (numS (rawS (s) grp) ep 4) fr) bas) true) 3 1) (QaB us nm key sg pa ms)) (decide (start = List.replicate 32 0))) at_) W') 106 #[.pointer (some ⟨gw, 0, none⟩), .int .i64 at_] 70 rfl kj kj ((QdG base gw _ at_ _ (Nat.le_trans hbw x10.size) ws22).mono (by rintro e w' ⟨rfl, h1, h2⟩; exact ⟨_, rfl, rfl, h1, h2⟩)) fun v25 W11 h25 => ?_
  obtain ⟨rfl, q11, ws25⟩ := h25
  have x11 : GW base gw w W11 := GW.trans x10 q11
  refine Qaf ?_
  refine hK23 _ _ ?_
  refine Qae ?_
  refine Qab (.pointer (some ⟨gw, 0, none⟩)) 76 rfl kj kj ?_
  refine Qab (.pointer (some ⟨g2, 199, none⟩)) 77 rfl kj kj ?_
  refine Qab (.slice (some ⟨g2, 199, none⟩) 64 64) 78 rfl kj kj ?_
  have r2_11 := (GW.row q11 r2_10 (by decide) (Ne.symm (Nat.ne_of_lt (Nat.lt_of_lt_of_le hgw b2))))
  refine Qah (fun v W' => v = .tuple #[] ∧ GW base gw W11 W' ∧ WSt base gw (rawS (QaE (Qax (Qax (numS (Qax (rawS (QaE (numS (rawS (s) grp) ep 4) fr) bas) true) 3 1) (QaB us nm key sg pa ms)) (decide (start = List.replicate 32 0))) at_) sig) W') 104 #[.pointer (some ⟨gw, 0, none⟩), .slice (some ⟨g2, 199, none⟩) 64 64] 79 rfl kj kj ((rawW base gw _ sig _ _ (Nat.le_trans hbw x11.size) ws25 (by omega) hib (fun W e => (QaS 199 hil (ExtB.row e r2_11 (Ne.symm (Nat.ne_of_lt (Nat.lt_of_lt_of_le hgw b2)))) (fun i hi => QaJ [ints .u8 (grp), #[.int .i64 ep], #[.int .i64 fr], ints .u8 (bas), #[.int .i64 3], #[.bool us], #[.int .i64 nm], ints .u8 (key), ints .u8 (sg), ints .u8 (pa), #[.slice a_m ms.length c_m], ints .u8 (start), #[.int .i64 at_]] [] sig 199 i (199 + i) (by rw [Qaa, Qaa, Qaa, Qaa, Qaa, Qaa, Qaa, Qaa, Qaa, Qaa, Qaa, Qaa, Qaa]; simp only [Array.size_append, cat, ((Qad _ _).trans hal), ((Qad _ _).trans hgl), ((Qad _ _).trans hkl), ((Qad _ _).trans hpl), ((Qad _ _).trans hrl), ((Qad _ _).trans htl)]; rfl) rfl (by rw [hil]; exact hi)) (Qa5 (ExtB.row e r2_11 (Ne.symm (Nat.ne_of_lt (Nat.lt_of_lt_of_le hgw b2))))) (Nat.le_refl _) (by decide)))).mono (by rintro e w' ⟨rfl, h1, h2⟩; exact ⟨_, rfl, rfl, h1, h2⟩)) fun v26 W12 h26 => ?_
  obtain ⟨rfl, q12, ws26⟩ := h26
  have x12 : GW base gw w W12 := GW.trans x11 q12
  refine Qaf ?_
  repeat (first | with_reducible refine goX1 ?_ | with_reducible refine goX2 ?_ | with_reducible refine goX3 ?_)
  exact (show bodyPost _ _ _ .normal _ _ from end0 rfl ⟨rfl, x12, ws26⟩)
set_option maxHeartbeats 4000000 in
theorem Qhc (base gw : Nat) (s : Option (List Int)) (kd : Int) (hkd : kd < 1) (grp : List Int) (ep fr : Int) (bas : List Int) (us : Bool) (nm : Int) (key sg pa ms start : List Int) (at_ : Int) (sig : List Int) (a_m : Option Addr) (c_m : Nat) (w : World) (hbw : base ≤ w.heap.size) (hbg : base ≤ gw) (h : WSt base gw s w) (hrl : grp.length = 32) (hrb : Qao grp) (hal : bas.length = 32) (hab : Qao bas) (hkl : key.length = 32) (hgl : sg.length = 32) (hpl : pa.length = 32) (hkb : Qao key) (hgb : Qao sg) (hpb : Qao pa) (hml : ms.length ≤ 1000000) (htl : start.length = 32) (htb : Qao start) (hil : sig.length = 64) (hib : Qao sig) (hm : RdK .i64 base ms (.slice a_m ms.length c_m) w) : Calls Try.prog 57 #[.pointer (some ⟨gw, 0, none⟩), .agg (cat [ints .u8 (grp), #[.int .i64 ep], #[.int .i64 fr], ints .u8 (bas), #[.int .i64 kd], #[.bool us], #[.int .i64 nm], ints .u8 (key), ints .u8 (sg), ints .u8 (pa), #[.slice a_m ms.length c_m], ints .u8 (start), #[.int .i64 at_], ints .u8 (sig)])] w (fun e W => e = .returned (.tuple #[]) ∧ GW base gw w W ∧ WSt base gw (rawS (Qax (Qax (Qax (numS (Qax (rawS (QaE (numS (rawS (s) grp) ep 4) fr) bas) false) kd 1) (QaB us nm key sg pa ms)) (decide (start = List.replicate 32 0))) ((at_ == 0))) sig) W) := by
  have hgw := h.lt
  refine enter 80 [(0, .pointer (some ⟨gw, 0, none⟩)), (1, .agg (cat [ints .u8 (grp), #[.int .i64 ep], #[.int .i64 fr], ints .u8 (bas), #[.int .i64 kd], #[.bool us], #[.int .i64 nm], ints .u8 (key), ints .u8 (sg), ints .u8 (pa), #[.slice a_m ms.length c_m], ints .u8 (start), #[.int .i64 at_], ints .u8 (sig)]))] Try.func57 rfl rfl kj rfl ?_
  refine wp_seq_k fun K1 hK1 => ?_
  refine Qae ?_
  refine Qar (cat [ints .u8 (grp), #[.int .i64 ep], #[.int .i64 fr], ints .u8 (bas), #[.int .i64 kd], #[.bool us], #[.int .i64 nm], ints .u8 (key), ints .u8 (sg), ints .u8 (pa), #[.slice a_m ms.length c_m], ints .u8 (start), #[.int .i64 at_], ints .u8 (sig)]) 47 3 rfl kj kj fun g2 W1 l2 e1 r2_1 => ?_
  have x1 : GW base gw w W1 := GW.ext (GW.refl base gw w) e1
  have ws3 := WSt.ext h e1
  have b2 : w.heap.size ≤ g2 := Nat.le_trans (GW.refl base gw w).size l2
  refine Qaf ?_
  refine hK1 _ _ ?_
  refine wp_seq_k fun K4 hK4 => ?_
  refine Qae ?_
  refine Qab (.pointer (some ⟨gw, 0, none⟩)) 4 rfl kj kj ?_
  refine Qab (.pointer (some ⟨g2, 0, none⟩)) 5 rfl kj kj ?_
  refine Qab (.slice (some ⟨g2, 0, none⟩) 32 32) 6 rfl kj kj ?_
  refine Qah (fun v W' => v = .tuple #[] ∧ GW base gw W1 W' ∧ WSt base gw (rawS (s) grp) W') 104 #[.pointer (some ⟨gw, 0, none⟩), .slice (some ⟨g2, 0, none⟩) 32 32] 7 rfl kj kj ((rawW base gw _ grp _ _ (Nat.le_trans hbw x1.size) ws3 (by omega) hrb (fun W e => (QaS 0 hrl (ExtB.row e r2_1 (Ne.symm (Nat.ne_of_lt (Nat.lt_of_lt_of_le hgw b2)))) (fun i hi => QaJ [] [#[.int .i64 ep], #[.int .i64 fr], ints .u8 (bas), #[.int .i64 kd], #[.bool us], #[.int .i64 nm], ints .u8 (key), ints .u8 (sg), ints .u8 (pa), #[.slice a_m ms.length c_m], ints .u8 (start), #[.int .i64 at_], ints .u8 (sig)] grp 0 i (0 + i) kj rfl (by rw [hrl]; exact hi)) (Qa5 (ExtB.row e r2_1 (Ne.symm (Nat.ne_of_lt (Nat.lt_of_lt_of_le hgw b2))))) (Nat.le_refl _) (by decide)))).mono (by rintro e w' ⟨rfl, h1, h2⟩; exact ⟨_, rfl, rfl, h1, h2⟩)) fun v5 W2 h5 => ?_
  obtain ⟨rfl, q2, ws5⟩ := h5
  have x2 : GW base gw w W2 := GW.trans x1 q2
  refine Qaf ?_
  refine hK4 _ _ ?_
  refine wp_seq_k fun K6 hK6 => ?_
  refine Qae ?_
  refine Qab (.pointer (some ⟨gw, 0, none⟩)) 8 rfl kj kj ?_
  refine Qab (.pointer (some ⟨g2, 32, none⟩)) 9 rfl kj kj ?_
  have r2_2 := (GW.row q2 r2_1 (by decide) (Ne.symm (Nat.ne_of_lt (Nat.lt_of_lt_of_le hgw b2))))
  refine Qab (.int .i64 ep) 10 rfl kj (Qal 3 _ g2 32 47 _ (.int .i64 ep) _ r2_2 rfl kj (Qaq [ints .u8 (grp)] [#[.int .i64 ep]] [#[.int .i64 fr], ints .u8 (bas), #[.int .i64 kd], #[.bool us], #[.int .i64 nm], ints .u8 (key), ints .u8 (sg), ints .u8 (pa), #[.slice a_m ms.length c_m], ints .u8 (start), #[.int .i64 at_], ints .u8 (sig)] 32 ((Qad _ _).trans hrl) 0 _ rfl) kj) ?_
  refine Qah (fun v W' => v = .tuple #[] ∧ GW base gw W2 W' ∧ WSt base gw (numS (rawS (s) grp) ep 4) W') 105 #[.pointer (some ⟨gw, 0, none⟩), .int .i64 ep, .int .i64 4] 11 rfl kj kj ((QaW base gw _ ep 4 _ (Nat.le_trans hbw x2.size) ws5 (by decide)).mono (by rintro e w' ⟨rfl, h1, h2⟩; exact ⟨_, rfl, rfl, h1, h2⟩)) fun v7 W3 h7 => ?_
  obtain ⟨rfl, q3, ws7⟩ := h7
  have x3 : GW base gw w W3 := GW.trans x2 q3
  refine Qaf ?_
  refine hK6 _ _ ?_
  refine wp_seq_k fun K8 hK8 => ?_
  refine Qae ?_
  refine Qab (.pointer (some ⟨gw, 0, none⟩)) 12 rfl kj kj ?_
  refine Qab (.pointer (some ⟨g2, 33, none⟩)) 13 rfl kj kj ?_
  have r2_3 := (GW.row q3 r2_2 (by decide) (Ne.symm (Nat.ne_of_lt (Nat.lt_of_lt_of_le hgw b2))))
  refine Qab (.int .i64 fr) 14 rfl kj (Qal 3 _ g2 33 47 _ (.int .i64 fr) _ r2_3 rfl kj (Qaq [ints .u8 (grp), #[.int .i64 ep]] [#[.int .i64 fr]] [ints .u8 (bas), #[.int .i64 kd], #[.bool us], #[.int .i64 nm], ints .u8 (key), ints .u8 (sg), ints .u8 (pa), #[.slice a_m ms.length c_m], ints .u8 (start), #[.int .i64 at_], ints .u8 (sig)] 33 (by rw [Qaa, Qaa]; simp only [Array.size_append, cat, ((Qad _ _).trans hrl)]; rfl) 0 _ rfl) kj) ?_
  refine Qah (fun v W' => v = .tuple #[] ∧ GW base gw W3 W' ∧ WSt base gw (QaE (numS (rawS (s) grp) ep 4) fr) W') 106 #[.pointer (some ⟨gw, 0, none⟩), .int .i64 fr] 15 rfl kj kj ((QdG base gw _ fr _ (Nat.le_trans hbw x3.size) ws7).mono (by rintro e w' ⟨rfl, h1, h2⟩; exact ⟨_, rfl, rfl, h1, h2⟩)) fun v9 W4 h9 => ?_
  obtain ⟨rfl, q4, ws9⟩ := h9
  have x4 : GW base gw w W4 := GW.trans x3 q4
  refine Qaf ?_
  refine hK8 _ _ ?_
  refine wp_seq_k fun K10 hK10 => ?_
  refine Qae ?_
  refine Qab (.pointer (some ⟨gw, 0, none⟩)) 16 rfl kj kj ?_
  refine Qab (.pointer (some ⟨g2, 34, none⟩)) 17 rfl kj kj ?_
  refine Qab (.slice (some ⟨g2, 34, none⟩) 32 32) 18 rfl kj kj ?_
  have r2_4 := (GW.row q4 r2_3 (by decide) (Ne.symm (Nat.ne_of_lt (Nat.lt_of_lt_of_le hgw b2))))
  refine Qah (fun v W' => v = .tuple #[] ∧ GW base gw W4 W' ∧ WSt base gw (rawS (QaE (numS (rawS (s) grp) ep 4) fr) bas) W') 104 #[.pointer (some ⟨gw, 0, none⟩), .slice (some ⟨g2, 34, none⟩) 32 32] 19 rfl kj kj ((rawW base gw _ bas _ _ (Nat.le_trans hbw x4.size) ws9 (by omega) hab (fun W e => (QaS 34 hal (ExtB.row e r2_4 (Ne.symm (Nat.ne_of_lt (Nat.lt_of_lt_of_le hgw b2)))) (fun i hi => QaJ [ints .u8 (grp), #[.int .i64 ep], #[.int .i64 fr]] [#[.int .i64 kd], #[.bool us], #[.int .i64 nm], ints .u8 (key), ints .u8 (sg), ints .u8 (pa), #[.slice a_m ms.length c_m], ints .u8 (start), #[.int .i64 at_], ints .u8 (sig)] bas 34 i (34 + i) (by rw [Qaa, Qaa, Qaa]; simp only [Array.size_append, cat, ((Qad _ _).trans hrl)]; rfl) rfl (by rw [hal]; exact hi)) (Qa5 (ExtB.row e r2_4 (Ne.symm (Nat.ne_of_lt (Nat.lt_of_lt_of_le hgw b2))))) (Nat.le_refl _) (by decide)))).mono (by rintro e w' ⟨rfl, h1, h2⟩; exact ⟨_, rfl, rfl, h1, h2⟩)) fun v11 W5 h11 => ?_
  obtain ⟨rfl, q5, ws11⟩ := h11
  have x5 : GW base gw w W5 := GW.trans x4 q5
  refine Qaf ?_
  refine hK10 _ _ ?_
  refine wp_seq_k fun K12 hK12 => ?_
  refine Qae ?_
  refine Qab (.pointer (some ⟨gw, 0, none⟩)) 20 rfl kj kj ?_
  refine Qab (.pointer (some ⟨g2, 66, none⟩)) 21 rfl kj kj ?_
  have r2_5 := (GW.row q5 r2_4 (by decide) (Ne.symm (Nat.ne_of_lt (Nat.lt_of_lt_of_le hgw b2))))
  refine Qab (.int .i64 kd) 22 rfl kj (Qal 3 _ g2 66 47 _ (.int .i64 kd) _ r2_5 rfl kj (Qaq [ints .u8 (grp), #[.int .i64 ep], #[.int .i64 fr], ints .u8 (bas)] [#[.int .i64 kd]] [#[.bool us], #[.int .i64 nm], ints .u8 (key), ints .u8 (sg), ints .u8 (pa), #[.slice a_m ms.length c_m], ints .u8 (start), #[.int .i64 at_], ints .u8 (sig)] 66 (by rw [Qaa, Qaa, Qaa, Qaa]; simp only [Array.size_append, cat, ((Qad _ _).trans hal), ((Qad _ _).trans hrl)]; rfl) 0 _ rfl) kj) ?_
  refine Qab (.bool false) 23 rfl kj (Qa0 (u := .bool (decide (kd ≥ 1))) kj (congrArg Value.bool (decide_eq_false (by omega)))) ?_
  refine Qab (.bool false) 24 rfl kj kj ?_
  refine Qas 25 rfl kj ?_
  refine Qas 26 rfl kj ?_
  refine Qas 27 rfl kj ?_
  refine Qab (.bool false) 28 rfl kj kj ?_
  refine Qah (fun v W' => v = .tuple #[] ∧ GW base gw W5 W' ∧ WSt base gw (Qax (rawS (QaE (numS (rawS (s) grp) ep 4) fr) bas) false) W') 98 #[.pointer (some ⟨gw, 0, none⟩), .bool false] 29 rfl kj kj ((QbA base gw _ false _ ws11).mono (by rintro e w' ⟨rfl, h1, h2⟩; exact ⟨_, rfl, rfl, h1, h2⟩)) fun v13 W6 h13 => ?_
  obtain ⟨rfl, q6, ws13⟩ := h13
  have x6 : GW base gw w W6 := GW.trans x5 q6
  refine Qaf ?_
  refine hK12 _ _ ?_
  refine wp_seq_k fun K14 hK14 => ?_
  refine Qae ?_
  refine Qab (.pointer (some ⟨gw, 0, none⟩)) 30 rfl kj kj ?_
  refine Qab (.pointer (some ⟨g2, 66, none⟩)) 31 rfl kj kj ?_
  have r2_6 := (GW.row q6 r2_5 (by decide) (Ne.symm (Nat.ne_of_lt (Nat.lt_of_lt_of_le hgw b2))))
  refine Qab (.int .i64 kd) 32 rfl kj (Qal 3 _ g2 66 47 _ (.int .i64 kd) _ r2_6 rfl kj (Qaq [ints .u8 (grp), #[.int .i64 ep], #[.int .i64 fr], ints .u8 (bas)] [#[.int .i64 kd]] [#[.bool us], #[.int .i64 nm], ints .u8 (key), ints .u8 (sg), ints .u8 (pa), #[.slice a_m ms.length c_m], ints .u8 (start), #[.int .i64 at_], ints .u8 (sig)] 66 (by rw [Qaa, Qaa, Qaa, Qaa]; simp only [Array.size_append, cat, ((Qad _ _).trans hal), ((Qad _ _).trans hrl)]; rfl) 0 _ rfl) kj) ?_
  refine Qah (fun v W' => v = .tuple #[] ∧ GW base gw W6 W' ∧ WSt base gw (numS (Qax (rawS (QaE (numS (rawS (s) grp) ep 4) fr) bas) false) kd 1) W') 105 #[.pointer (some ⟨gw, 0, none⟩), .int .i64 kd, .int .i64 1] 33 rfl kj kj ((QaW base gw _ kd 1 _ (Nat.le_trans hbw x6.size) ws13 (by decide)).mono (by rintro e w' ⟨rfl, h1, h2⟩; exact ⟨_, rfl, rfl, h1, h2⟩)) fun v15 W7 h15 => ?_
  obtain ⟨rfl, q7, ws15⟩ := h15
  have x7 : GW base gw w W7 := GW.trans x6 q7
  refine Qaf ?_
  refine hK14 _ _ ?_
  refine wp_seq_k fun K16 hK16 => ?_
  refine wp_seq_k fun K17 hK17 => ?_
  refine Qae ?_
  refine Qab (.pointer (some ⟨g2, 66, none⟩)) 34 rfl kj kj ?_
  have r2_7 := (GW.row q7 r2_6 (by decide) (Ne.symm (Nat.ne_of_lt (Nat.lt_of_lt_of_le hgw b2))))
  refine Qab (.int .i64 kd) 35 rfl kj (Qal 3 _ g2 66 47 _ (.int .i64 kd) _ r2_7 rfl kj (Qaq [ints .u8 (grp), #[.int .i64 ep], #[.int .i64 fr], ints .u8 (bas)] [#[.int .i64 kd]] [#[.bool us], #[.int .i64 nm], ints .u8 (key), ints .u8 (sg), ints .u8 (pa), #[.slice a_m ms.length c_m], ints .u8 (start), #[.int .i64 at_], ints .u8 (sig)] 66 (by rw [Qaa, Qaa, Qaa, Qaa]; simp only [Array.size_append, cat, ((Qad _ _).trans hal), ((Qad _ _).trans hrl)]; rfl) 0 _ rfl) kj) ?_
  refine Qab (.bool false) 36 rfl kj (Qa0 (u := .bool ((kd == 1))) kj (congrArg Value.bool (beq_eq_false_iff_ne.2 (by omega)))) ?_
  refine Qab (.bool false) 37 rfl kj kj ?_
  refine Qab (.pointer (some ⟨g2, 66, none⟩)) 38 rfl kj kj ?_
  refine Qab (.int .i64 kd) 39 rfl kj (Qal 3 _ g2 66 47 _ (.int .i64 kd) _ r2_7 rfl kj (Qaq [ints .u8 (grp), #[.int .i64 ep], #[.int .i64 fr], ints .u8 (bas)] [#[.int .i64 kd]] [#[.bool us], #[.int .i64 nm], ints .u8 (key), ints .u8 (sg), ints .u8 (pa), #[.slice a_m ms.length c_m], ints .u8 (start), #[.int .i64 at_], ints .u8 (sig)] 66 (by rw [Qaa, Qaa, Qaa, Qaa]; simp only [Array.size_append, cat, ((Qad _ _).trans hal), ((Qad _ _).trans hrl)]; rfl) 0 _ rfl) kj) ?_
  refine Qab (.bool false) 40 rfl kj (Qa0 (u := .bool ((kd == 2))) kj (congrArg Value.bool (beq_eq_false_iff_ne.2 (by omega)))) ?_
  refine Qab (.bool false) 41 rfl kj kj ?_
  refine Qaf ?_
  refine hK17 _ _ ?_
  refine cond_false kj ?_
  refine Qae ?_
  refine Qab (.pointer (some ⟨gw, 0, none⟩)) 46 rfl kj kj ?_
  refine Qab (.pointer (some ⟨g2, 67, none⟩)) 47 rfl kj kj ?_
  refine Qab (.agg (cat [#[.bool us], #[.int .i64 nm], ints .u8 (key), ints .u8 (sg), ints .u8 (pa), #[.slice a_m ms.length c_m]])) 48 rfl kj (Qay 43 _ g2 67 47 _ _ _ r2_7 rfl kj (Qaq [ints .u8 (grp), #[.int .i64 ep], #[.int .i64 fr], ints .u8 (bas), #[.int .i64 kd]] [#[.bool us], #[.int .i64 nm], ints .u8 (key), ints .u8 (sg), ints .u8 (pa), #[.slice a_m ms.length c_m]] [ints .u8 (start), #[.int .i64 at_], ints .u8 (sig)] 67 (by rw [Qaa, Qaa, Qaa, Qaa, Qaa]; simp only [Array.size_append, cat, ((Qad _ _).trans hal), ((Qad _ _).trans hrl)]; rfl)) kj (isz (n := 99) kj (by rw [Qaa, Qaa, Qaa, Qaa, Qaa, Qaa]; simp only [Array.size_append, cat, ((Qad _ _).trans hgl), ((Qad _ _).trans hkl), ((Qad _ _).trans hpl)]; rfl))) ?_
  refine Qa8 (.bool (QaB us nm key sg pa ms)) 107 #[.agg (cat [#[.bool us], #[.int .i64 nm], ints .u8 (key), ints .u8 (sg), ints .u8 (pa), #[.slice a_m ms.length c_m]])] 49 rfl kj kj (Qek us nm key sg pa ms _ _ _ hkl hgl hpl) fun W8 e8 => ?_
  have x8 : GW base gw w W8 := GW.ext x7 e8
  have ws18 := WSt.ext ws15 e8
  refine Qah (fun v W' => v = .tuple #[] ∧ GW base gw W8 W' ∧ WSt base gw (Qax (numS (Qax (rawS (QaE (numS (rawS (s) grp) ep 4) fr) bas) false) kd 1) (QaB us nm key sg pa ms)) W') 98 #[.pointer (some ⟨gw, 0, none⟩), .bool (QaB us nm key sg pa ms)] 50 rfl kj kj ((QbA base gw _ (QaB us nm key sg pa ms) _ ws18).mono (by rintro e w' ⟨rfl, h1, h2⟩; exact ⟨_, rfl, rfl, h1, h2⟩)) fun v19 W9 h19 => ?_
  obtain ⟨rfl, q9, ws19⟩ := h19
  have x9 : GW base gw w W9 := GW.trans x8 q9
  refine Qaf ?_
  refine hK16 _ _ ?_
  refine wp_seq_k fun K20 hK20 => ?_
  refine wp_seq_k fun K21 hK21 => ?_
  refine Qae ?_
  refine Qab (.pointer (some ⟨g2, 66, none⟩)) 51 rfl kj kj ?_
  have r2_8 := (Qau r2_7 e8)
  have r2_9 := (GW.row q9 r2_8 (by decide) (Ne.symm (Nat.ne_of_lt (Nat.lt_of_lt_of_le hgw b2))))
  refine Qab (.int .i64 kd) 52 rfl kj (Qal 3 _ g2 66 47 _ (.int .i64 kd) _ r2_9 rfl kj (Qaq [ints .u8 (grp), #[.int .i64 ep], #[.int .i64 fr], ints .u8 (bas)] [#[.int .i64 kd]] [#[.bool us], #[.int .i64 nm], ints .u8 (key), ints .u8 (sg), ints .u8 (pa), #[.slice a_m ms.length c_m], ints .u8 (start), #[.int .i64 at_], ints .u8 (sig)] 66 (by rw [Qaa, Qaa, Qaa, Qaa]; simp only [Array.size_append, cat, ((Qad _ _).trans hal), ((Qad _ _).trans hrl)]; rfl) 0 _ rfl) kj) ?_
  refine Qab (.bool false) 53 rfl kj (Qa0 (u := .bool ((kd == 1))) kj (congrArg Value.bool (beq_eq_false_iff_ne.2 (by omega)))) ?_
  refine Qaf ?_
  refine hK21 _ _ ?_
  refine cond_false kj ?_
  refine Qae ?_
  refine Qab (.pointer (some ⟨gw, 0, none⟩)) 58 rfl kj kj ?_
  refine Qab (.pointer (some ⟨g2, 166, none⟩)) 59 rfl kj kj ?_
  refine Qab (.agg (ints .u8 (start))) 60 rfl kj (Qay 40 _ g2 166 47 _ _ _ r2_9 rfl kj (Qaq [ints .u8 (grp), #[.int .i64 ep], #[.int .i64 fr], ints .u8 (bas), #[.int .i64 kd], #[.bool us], #[.int .i64 nm], ints .u8 (key), ints .u8 (sg), ints .u8 (pa), #[.slice a_m ms.length c_m]] [ints .u8 (start)] [#[.int .i64 at_], ints .u8 (sig)] 166 (by rw [Qaa, Qaa, Qaa, Qaa, Qaa, Qaa, Qaa, Qaa, Qaa, Qaa, Qaa]; simp only [Array.size_append, cat, ((Qad _ _).trans hal), ((Qad _ _).trans hgl), ((Qad _ _).trans hkl), ((Qad _ _).trans hpl), ((Qad _ _).trans hrl)]; rfl)) kj (isz (n := 32) kj ((Qad _ _).trans htl))) ?_
  refine Qab (.agg (ints .u8 (List.replicate 32 0))) 61 rfl kj kj ?_
  refine Qab (.bool (decide (start = List.replicate 32 0))) 62 rfl kj (QaK 40 _ _ _ _ _ (.bool (decide (start = List.replicate 32 0))) rfl kj kj kj (QaV 40 (e := 5) (k := .u8) (start) (List.replicate 32 0) rfl htl (List.length_replicate (n := 32)) kj kj kj _)) ?_
  refine Qah (fun v W' => v = .tuple #[] ∧ GW base gw W9 W' ∧ WSt base gw (Qax (Qax (numS (Qax (rawS (QaE (numS (rawS (s) grp) ep 4) fr) bas) false) kd 1) (QaB us nm key sg pa ms)) (decide (start = List.replicate 32 0))) W') 98 #[.pointer (some ⟨gw, 0, none⟩), .bool (decide (start = List.replicate 32 0))] 63 rfl kj kj ((QbA base gw _ (decide (start = List.replicate 32 0)) _ ws19).mono (by rintro e w' ⟨rfl, h1, h2⟩; exact ⟨_, rfl, rfl, h1, h2⟩)) fun v22 W10 h22 => ?_
  obtain ⟨rfl, q10, ws22⟩ := h22
  have x10 : GW base gw w W10 := GW.trans x9 q10
  refine Qaf ?_
  refine hK20 _ _ ?_
  refine wp_seq_k fun K23 hK23 => ?_
  refine wp_seq_k fun K24 hK24 => ?_
  refine Qae ?_
  refine Qab (.pointer (some ⟨g2, 66, none⟩)) 64 rfl kj kj ?_
  have r2_10 := (GW.row q10 r2_9 (by decide) (Ne.symm (Nat.ne_of_lt (Nat.lt_of_lt_of_le hgw b2))))
  refine Qab (.int .i64 kd) 65 rfl kj (Qal 3 _ g2 66 47 _ (.int .i64 kd) _ r2_10 rfl kj (Qaq [ints .u8 (grp), #[.int .i64 ep], #[.int .i64 fr], ints .u8 (bas)] [#[.int .i64 kd]] [#[.bool us], #[.int .i64 nm], ints .u8 (key), ints .u8 (sg), ints .u8 (pa), #[.slice a_m ms.length c_m], ints .u8 (start), #[.int .i64 at_], ints .u8 (sig)] 66 (by rw [Qaa, Qaa, Qaa, Qaa]; simp only [Array.size_append, cat, ((Qad _ _).trans hal), ((Qad _ _).trans hrl)]; rfl) 0 _ rfl) kj) ?_
  refine Qab (.bool false) 66 rfl kj (Qa0 (u := .bool ((kd == 3))) kj (congrArg Value.bool (beq_eq_false_iff_ne.2 (by omega)))) ?_
  refine Qaf ?_
  refine hK24 _ _ ?_
  refine cond_false kj ?_
  refine Qae ?_
  refine Qab (.pointer (some ⟨gw, 0, none⟩)) 71 rfl kj kj ?_
  refine Qab (.pointer (some ⟨g2, 198, none⟩)) 72 rfl kj kj ?_
  refine Qab (.int .i64 at_) 73 rfl kj (Qal 3 _ g2 198 47 _ (.int .i64 at_) _ r2_10 rfl kj (Qaq [ints .u8 (grp), #[.int .i64 ep], #[.int .i64 fr], ints .u8 (bas), #[.int .i64 kd], #[.bool us], #[.int .i64 nm], ints .u8 (key), ints .u8 (sg), ints .u8 (pa), #[.slice a_m ms.length c_m], ints .u8 (start)] [#[.int .i64 at_]] [ints .u8 (sig)] 198 (by rw [Qaa, Qaa, Qaa, Qaa, Qaa, Qaa, Qaa, Qaa, Qaa, Qaa, Qaa, Qaa]; simp only [Array.size_append, cat, ((Qad _ _).trans hal), ((Qad _ _).trans hgl), ((Qad _ _).trans hkl), ((Qad _ _).trans hpl), ((Qad _ _).trans hrl), ((Qad _ _).trans htl)]; rfl) 0 _ rfl) kj) ?_
  refine Qab (.bool ((at_ == 0))) 74 rfl kj kj ?_
  refine Qah (fun v W' => v = .tuple #[] ∧ GW base gw W10 W' ∧ WSt base gw (Qax (Qax (Qax (numS (Qax (rawS (QaE (numS (rawS (s) grp) ep 4) fr) bas) false) kd 1) (QaB us nm key sg pa ms)) (decide (start = List.replicate 32 0))) ((at_ == 0))) W') 98 #[.pointer (some ⟨gw, 0, none⟩), .bool ((at_ == 0))] 75 rfl kj kj ((QbA base gw _ ((at_ == 0)) _ ws22).mono (by rintro e w' ⟨rfl, h1, h2⟩; exact ⟨_, rfl, rfl, h1, h2⟩)) fun v25 W11 h25 => ?_
  obtain ⟨rfl, q11, ws25⟩ := h25
  have x11 : GW base gw w W11 := GW.trans x10 q11
  refine Qaf ?_
  refine hK23 _ _ ?_
  refine Qae ?_
  refine Qab (.pointer (some ⟨gw, 0, none⟩)) 76 rfl kj kj ?_
  refine Qab (.pointer (some ⟨g2, 199, none⟩)) 77 rfl kj kj ?_
  refine Qab (.slice (some ⟨g2, 199, none⟩) 64 64) 78 rfl kj kj ?_
  have r2_11 := (GW.row q11 r2_10 (by decide) (Ne.symm (Nat.ne_of_lt (Nat.lt_of_lt_of_le hgw b2))))
  refine Qah (fun v W' => v = .tuple #[] ∧ GW base gw W11 W' ∧ WSt base gw (rawS (Qax (Qax (Qax (numS (Qax (rawS (QaE (numS (rawS (s) grp) ep 4) fr) bas) false) kd 1) (QaB us nm key sg pa ms)) (decide (start = List.replicate 32 0))) ((at_ == 0))) sig) W') 104 #[.pointer (some ⟨gw, 0, none⟩), .slice (some ⟨g2, 199, none⟩) 64 64] 79 rfl kj kj ((rawW base gw _ sig _ _ (Nat.le_trans hbw x11.size) ws25 (by omega) hib (fun W e => (QaS 199 hil (ExtB.row e r2_11 (Ne.symm (Nat.ne_of_lt (Nat.lt_of_lt_of_le hgw b2)))) (fun i hi => QaJ [ints .u8 (grp), #[.int .i64 ep], #[.int .i64 fr], ints .u8 (bas), #[.int .i64 kd], #[.bool us], #[.int .i64 nm], ints .u8 (key), ints .u8 (sg), ints .u8 (pa), #[.slice a_m ms.length c_m], ints .u8 (start), #[.int .i64 at_]] [] sig 199 i (199 + i) (by rw [Qaa, Qaa, Qaa, Qaa, Qaa, Qaa, Qaa, Qaa, Qaa, Qaa, Qaa, Qaa, Qaa]; simp only [Array.size_append, cat, ((Qad _ _).trans hal), ((Qad _ _).trans hgl), ((Qad _ _).trans hkl), ((Qad _ _).trans hpl), ((Qad _ _).trans hrl), ((Qad _ _).trans htl)]; rfl) rfl (by rw [hil]; exact hi)) (Qa5 (ExtB.row e r2_11 (Ne.symm (Nat.ne_of_lt (Nat.lt_of_lt_of_le hgw b2))))) (Nat.le_refl _) (by decide)))).mono (by rintro e w' ⟨rfl, h1, h2⟩; exact ⟨_, rfl, rfl, h1, h2⟩)) fun v26 W12 h26 => ?_
  obtain ⟨rfl, q12, ws26⟩ := h26
  have x12 : GW base gw w W12 := GW.trans x11 q12
  refine Qaf ?_
  repeat (first | with_reducible refine goX1 ?_ | with_reducible refine goX2 ?_ | with_reducible refine goX3 ?_)
  exact (show bodyPost _ _ _ .normal _ _ from end0 rfl ⟨rfl, x12, ws26⟩)
set_option maxHeartbeats 4000000 in
theorem Qhd (base gw : Nat) (s : Option (List Int)) (kd : Int) (hkd : 3 < kd) (grp : List Int) (ep fr : Int) (bas : List Int) (us : Bool) (nm : Int) (key sg pa ms start : List Int) (at_ : Int) (sig : List Int) (a_m : Option Addr) (c_m : Nat) (w : World) (hbw : base ≤ w.heap.size) (hbg : base ≤ gw) (h : WSt base gw s w) (hrl : grp.length = 32) (hrb : Qao grp) (hal : bas.length = 32) (hab : Qao bas) (hkl : key.length = 32) (hgl : sg.length = 32) (hpl : pa.length = 32) (hkb : Qao key) (hgb : Qao sg) (hpb : Qao pa) (hml : ms.length ≤ 1000000) (htl : start.length = 32) (htb : Qao start) (hil : sig.length = 64) (hib : Qao sig) (hm : RdK .i64 base ms (.slice a_m ms.length c_m) w) : Calls Try.prog 57 #[.pointer (some ⟨gw, 0, none⟩), .agg (cat [ints .u8 (grp), #[.int .i64 ep], #[.int .i64 fr], ints .u8 (bas), #[.int .i64 kd], #[.bool us], #[.int .i64 nm], ints .u8 (key), ints .u8 (sg), ints .u8 (pa), #[.slice a_m ms.length c_m], ints .u8 (start), #[.int .i64 at_], ints .u8 (sig)])] w (fun e W => e = .returned (.tuple #[]) ∧ GW base gw w W ∧ WSt base gw (rawS (Qax (Qax (Qax (numS (Qax (rawS (QaE (numS (rawS (s) grp) ep 4) fr) bas) false) kd 1) (QaB us nm key sg pa ms)) (decide (start = List.replicate 32 0))) ((at_ == 0))) sig) W) := by
  have hgw := h.lt
  refine enter 80 [(0, .pointer (some ⟨gw, 0, none⟩)), (1, .agg (cat [ints .u8 (grp), #[.int .i64 ep], #[.int .i64 fr], ints .u8 (bas), #[.int .i64 kd], #[.bool us], #[.int .i64 nm], ints .u8 (key), ints .u8 (sg), ints .u8 (pa), #[.slice a_m ms.length c_m], ints .u8 (start), #[.int .i64 at_], ints .u8 (sig)]))] Try.func57 rfl rfl kj rfl ?_
  refine wp_seq_k fun K1 hK1 => ?_
  refine Qae ?_
  refine Qar (cat [ints .u8 (grp), #[.int .i64 ep], #[.int .i64 fr], ints .u8 (bas), #[.int .i64 kd], #[.bool us], #[.int .i64 nm], ints .u8 (key), ints .u8 (sg), ints .u8 (pa), #[.slice a_m ms.length c_m], ints .u8 (start), #[.int .i64 at_], ints .u8 (sig)]) 47 3 rfl kj kj fun g2 W1 l2 e1 r2_1 => ?_
  have x1 : GW base gw w W1 := GW.ext (GW.refl base gw w) e1
  have ws3 := WSt.ext h e1
  have b2 : w.heap.size ≤ g2 := Nat.le_trans (GW.refl base gw w).size l2
  refine Qaf ?_
  refine hK1 _ _ ?_
  refine wp_seq_k fun K4 hK4 => ?_
  refine Qae ?_
  refine Qab (.pointer (some ⟨gw, 0, none⟩)) 4 rfl kj kj ?_
  refine Qab (.pointer (some ⟨g2, 0, none⟩)) 5 rfl kj kj ?_
  refine Qab (.slice (some ⟨g2, 0, none⟩) 32 32) 6 rfl kj kj ?_
  refine Qah (fun v W' => v = .tuple #[] ∧ GW base gw W1 W' ∧ WSt base gw (rawS (s) grp) W') 104 #[.pointer (some ⟨gw, 0, none⟩), .slice (some ⟨g2, 0, none⟩) 32 32] 7 rfl kj kj ((rawW base gw _ grp _ _ (Nat.le_trans hbw x1.size) ws3 (by omega) hrb (fun W e => (QaS 0 hrl (ExtB.row e r2_1 (Ne.symm (Nat.ne_of_lt (Nat.lt_of_lt_of_le hgw b2)))) (fun i hi => QaJ [] [#[.int .i64 ep], #[.int .i64 fr], ints .u8 (bas), #[.int .i64 kd], #[.bool us], #[.int .i64 nm], ints .u8 (key), ints .u8 (sg), ints .u8 (pa), #[.slice a_m ms.length c_m], ints .u8 (start), #[.int .i64 at_], ints .u8 (sig)] grp 0 i (0 + i) kj rfl (by rw [hrl]; exact hi)) (Qa5 (ExtB.row e r2_1 (Ne.symm (Nat.ne_of_lt (Nat.lt_of_lt_of_le hgw b2))))) (Nat.le_refl _) (by decide)))).mono (by rintro e w' ⟨rfl, h1, h2⟩; exact ⟨_, rfl, rfl, h1, h2⟩)) fun v5 W2 h5 => ?_
  obtain ⟨rfl, q2, ws5⟩ := h5
  have x2 : GW base gw w W2 := GW.trans x1 q2
  refine Qaf ?_
  refine hK4 _ _ ?_
  refine wp_seq_k fun K6 hK6 => ?_
  refine Qae ?_
  refine Qab (.pointer (some ⟨gw, 0, none⟩)) 8 rfl kj kj ?_
  refine Qab (.pointer (some ⟨g2, 32, none⟩)) 9 rfl kj kj ?_
  have r2_2 := (GW.row q2 r2_1 (by decide) (Ne.symm (Nat.ne_of_lt (Nat.lt_of_lt_of_le hgw b2))))
  refine Qab (.int .i64 ep) 10 rfl kj (Qal 3 _ g2 32 47 _ (.int .i64 ep) _ r2_2 rfl kj (Qaq [ints .u8 (grp)] [#[.int .i64 ep]] [#[.int .i64 fr], ints .u8 (bas), #[.int .i64 kd], #[.bool us], #[.int .i64 nm], ints .u8 (key), ints .u8 (sg), ints .u8 (pa), #[.slice a_m ms.length c_m], ints .u8 (start), #[.int .i64 at_], ints .u8 (sig)] 32 ((Qad _ _).trans hrl) 0 _ rfl) kj) ?_
  refine Qah (fun v W' => v = .tuple #[] ∧ GW base gw W2 W' ∧ WSt base gw (numS (rawS (s) grp) ep 4) W') 105 #[.pointer (some ⟨gw, 0, none⟩), .int .i64 ep, .int .i64 4] 11 rfl kj kj ((QaW base gw _ ep 4 _ (Nat.le_trans hbw x2.size) ws5 (by decide)).mono (by rintro e w' ⟨rfl, h1, h2⟩; exact ⟨_, rfl, rfl, h1, h2⟩)) fun v7 W3 h7 => ?_
  obtain ⟨rfl, q3, ws7⟩ := h7
  have x3 : GW base gw w W3 := GW.trans x2 q3
  refine Qaf ?_
  refine hK6 _ _ ?_
  refine wp_seq_k fun K8 hK8 => ?_
  refine Qae ?_
  refine Qab (.pointer (some ⟨gw, 0, none⟩)) 12 rfl kj kj ?_
  refine Qab (.pointer (some ⟨g2, 33, none⟩)) 13 rfl kj kj ?_
  have r2_3 := (GW.row q3 r2_2 (by decide) (Ne.symm (Nat.ne_of_lt (Nat.lt_of_lt_of_le hgw b2))))
  refine Qab (.int .i64 fr) 14 rfl kj (Qal 3 _ g2 33 47 _ (.int .i64 fr) _ r2_3 rfl kj (Qaq [ints .u8 (grp), #[.int .i64 ep]] [#[.int .i64 fr]] [ints .u8 (bas), #[.int .i64 kd], #[.bool us], #[.int .i64 nm], ints .u8 (key), ints .u8 (sg), ints .u8 (pa), #[.slice a_m ms.length c_m], ints .u8 (start), #[.int .i64 at_], ints .u8 (sig)] 33 (by rw [Qaa, Qaa]; simp only [Array.size_append, cat, ((Qad _ _).trans hrl)]; rfl) 0 _ rfl) kj) ?_
  refine Qah (fun v W' => v = .tuple #[] ∧ GW base gw W3 W' ∧ WSt base gw (QaE (numS (rawS (s) grp) ep 4) fr) W') 106 #[.pointer (some ⟨gw, 0, none⟩), .int .i64 fr] 15 rfl kj kj ((QdG base gw _ fr _ (Nat.le_trans hbw x3.size) ws7).mono (by rintro e w' ⟨rfl, h1, h2⟩; exact ⟨_, rfl, rfl, h1, h2⟩)) fun v9 W4 h9 => ?_
  obtain ⟨rfl, q4, ws9⟩ := h9
  have x4 : GW base gw w W4 := GW.trans x3 q4
  refine Qaf ?_
  refine hK8 _ _ ?_
  refine wp_seq_k fun K10 hK10 => ?_
  refine Qae ?_
  refine Qab (.pointer (some ⟨gw, 0, none⟩)) 16 rfl kj kj ?_
  refine Qab (.pointer (some ⟨g2, 34, none⟩)) 17 rfl kj kj ?_
  refine Qab (.slice (some ⟨g2, 34, none⟩) 32 32) 18 rfl kj kj ?_
  have r2_4 := (GW.row q4 r2_3 (by decide) (Ne.symm (Nat.ne_of_lt (Nat.lt_of_lt_of_le hgw b2))))
  refine Qah (fun v W' => v = .tuple #[] ∧ GW base gw W4 W' ∧ WSt base gw (rawS (QaE (numS (rawS (s) grp) ep 4) fr) bas) W') 104 #[.pointer (some ⟨gw, 0, none⟩), .slice (some ⟨g2, 34, none⟩) 32 32] 19 rfl kj kj ((rawW base gw _ bas _ _ (Nat.le_trans hbw x4.size) ws9 (by omega) hab (fun W e => (QaS 34 hal (ExtB.row e r2_4 (Ne.symm (Nat.ne_of_lt (Nat.lt_of_lt_of_le hgw b2)))) (fun i hi => QaJ [ints .u8 (grp), #[.int .i64 ep], #[.int .i64 fr]] [#[.int .i64 kd], #[.bool us], #[.int .i64 nm], ints .u8 (key), ints .u8 (sg), ints .u8 (pa), #[.slice a_m ms.length c_m], ints .u8 (start), #[.int .i64 at_], ints .u8 (sig)] bas 34 i (34 + i) (by rw [Qaa, Qaa, Qaa]; simp only [Array.size_append, cat, ((Qad _ _).trans hrl)]; rfl) rfl (by rw [hal]; exact hi)) (Qa5 (ExtB.row e r2_4 (Ne.symm (Nat.ne_of_lt (Nat.lt_of_lt_of_le hgw b2))))) (Nat.le_refl _) (by decide)))).mono (by rintro e w' ⟨rfl, h1, h2⟩; exact ⟨_, rfl, rfl, h1, h2⟩)) fun v11 W5 h11 => ?_
  obtain ⟨rfl, q5, ws11⟩ := h11
  have x5 : GW base gw w W5 := GW.trans x4 q5
  refine Qaf ?_
  refine hK10 _ _ ?_
  refine wp_seq_k fun K12 hK12 => ?_
  refine Qae ?_
  refine Qab (.pointer (some ⟨gw, 0, none⟩)) 20 rfl kj kj ?_
  refine Qab (.pointer (some ⟨g2, 66, none⟩)) 21 rfl kj kj ?_
  have r2_5 := (GW.row q5 r2_4 (by decide) (Ne.symm (Nat.ne_of_lt (Nat.lt_of_lt_of_le hgw b2))))
  refine Qab (.int .i64 kd) 22 rfl kj (Qal 3 _ g2 66 47 _ (.int .i64 kd) _ r2_5 rfl kj (Qaq [ints .u8 (grp), #[.int .i64 ep], #[.int .i64 fr], ints .u8 (bas)] [#[.int .i64 kd]] [#[.bool us], #[.int .i64 nm], ints .u8 (key), ints .u8 (sg), ints .u8 (pa), #[.slice a_m ms.length c_m], ints .u8 (start), #[.int .i64 at_], ints .u8 (sig)] 66 (by rw [Qaa, Qaa, Qaa, Qaa]; simp only [Array.size_append, cat, ((Qad _ _).trans hal), ((Qad _ _).trans hrl)]; rfl) 0 _ rfl) kj) ?_
  refine Qab (.bool true) 23 rfl kj (Qa0 (u := .bool (decide (kd ≥ 1))) kj (congrArg Value.bool (decide_eq_true (by omega)))) ?_
  refine Qab (.bool true) 24 rfl kj kj ?_
  refine Qab (.pointer (some ⟨g2, 66, none⟩)) 25 rfl kj kj ?_
  refine Qab (.int .i64 kd) 26 rfl kj (Qal 3 _ g2 66 47 _ (.int .i64 kd) _ r2_5 rfl kj (Qaq [ints .u8 (grp), #[.int .i64 ep], #[.int .i64 fr], ints .u8 (bas)] [#[.int .i64 kd]] [#[.bool us], #[.int .i64 nm], ints .u8 (key), ints .u8 (sg), ints .u8 (pa), #[.slice a_m ms.length c_m], ints .u8 (start), #[.int .i64 at_], ints .u8 (sig)] 66 (by rw [Qaa, Qaa, Qaa, Qaa]; simp only [Array.size_append, cat, ((Qad _ _).trans hal), ((Qad _ _).trans hrl)]; rfl) 0 _ rfl) kj) ?_
  refine Qab (.bool false) 27 rfl kj (Qa0 (u := .bool (decide (kd ≤ 3))) kj (congrArg Value.bool (decide_eq_false (by omega)))) ?_
  refine Qab (.bool false) 28 rfl kj kj ?_
  refine Qah (fun v W' => v = .tuple #[] ∧ GW base gw W5 W' ∧ WSt base gw (Qax (rawS (QaE (numS (rawS (s) grp) ep 4) fr) bas) false) W') 98 #[.pointer (some ⟨gw, 0, none⟩), .bool false] 29 rfl kj kj ((QbA base gw _ false _ ws11).mono (by rintro e w' ⟨rfl, h1, h2⟩; exact ⟨_, rfl, rfl, h1, h2⟩)) fun v13 W6 h13 => ?_
  obtain ⟨rfl, q6, ws13⟩ := h13
  have x6 : GW base gw w W6 := GW.trans x5 q6
  refine Qaf ?_
  refine hK12 _ _ ?_
  refine wp_seq_k fun K14 hK14 => ?_
  refine Qae ?_
  refine Qab (.pointer (some ⟨gw, 0, none⟩)) 30 rfl kj kj ?_
  refine Qab (.pointer (some ⟨g2, 66, none⟩)) 31 rfl kj kj ?_
  have r2_6 := (GW.row q6 r2_5 (by decide) (Ne.symm (Nat.ne_of_lt (Nat.lt_of_lt_of_le hgw b2))))
  refine Qab (.int .i64 kd) 32 rfl kj (Qal 3 _ g2 66 47 _ (.int .i64 kd) _ r2_6 rfl kj (Qaq [ints .u8 (grp), #[.int .i64 ep], #[.int .i64 fr], ints .u8 (bas)] [#[.int .i64 kd]] [#[.bool us], #[.int .i64 nm], ints .u8 (key), ints .u8 (sg), ints .u8 (pa), #[.slice a_m ms.length c_m], ints .u8 (start), #[.int .i64 at_], ints .u8 (sig)] 66 (by rw [Qaa, Qaa, Qaa, Qaa]; simp only [Array.size_append, cat, ((Qad _ _).trans hal), ((Qad _ _).trans hrl)]; rfl) 0 _ rfl) kj) ?_
  refine Qah (fun v W' => v = .tuple #[] ∧ GW base gw W6 W' ∧ WSt base gw (numS (Qax (rawS (QaE (numS (rawS (s) grp) ep 4) fr) bas) false) kd 1) W') 105 #[.pointer (some ⟨gw, 0, none⟩), .int .i64 kd, .int .i64 1] 33 rfl kj kj ((QaW base gw _ kd 1 _ (Nat.le_trans hbw x6.size) ws13 (by decide)).mono (by rintro e w' ⟨rfl, h1, h2⟩; exact ⟨_, rfl, rfl, h1, h2⟩)) fun v15 W7 h15 => ?_
  obtain ⟨rfl, q7, ws15⟩ := h15
  have x7 : GW base gw w W7 := GW.trans x6 q7
  refine Qaf ?_
  refine hK14 _ _ ?_
  refine wp_seq_k fun K16 hK16 => ?_
  refine wp_seq_k fun K17 hK17 => ?_
  refine Qae ?_
  refine Qab (.pointer (some ⟨g2, 66, none⟩)) 34 rfl kj kj ?_
  have r2_7 := (GW.row q7 r2_6 (by decide) (Ne.symm (Nat.ne_of_lt (Nat.lt_of_lt_of_le hgw b2))))
  refine Qab (.int .i64 kd) 35 rfl kj (Qal 3 _ g2 66 47 _ (.int .i64 kd) _ r2_7 rfl kj (Qaq [ints .u8 (grp), #[.int .i64 ep], #[.int .i64 fr], ints .u8 (bas)] [#[.int .i64 kd]] [#[.bool us], #[.int .i64 nm], ints .u8 (key), ints .u8 (sg), ints .u8 (pa), #[.slice a_m ms.length c_m], ints .u8 (start), #[.int .i64 at_], ints .u8 (sig)] 66 (by rw [Qaa, Qaa, Qaa, Qaa]; simp only [Array.size_append, cat, ((Qad _ _).trans hal), ((Qad _ _).trans hrl)]; rfl) 0 _ rfl) kj) ?_
  refine Qab (.bool false) 36 rfl kj (Qa0 (u := .bool ((kd == 1))) kj (congrArg Value.bool (beq_eq_false_iff_ne.2 (by omega)))) ?_
  refine Qab (.bool false) 37 rfl kj kj ?_
  refine Qab (.pointer (some ⟨g2, 66, none⟩)) 38 rfl kj kj ?_
  refine Qab (.int .i64 kd) 39 rfl kj (Qal 3 _ g2 66 47 _ (.int .i64 kd) _ r2_7 rfl kj (Qaq [ints .u8 (grp), #[.int .i64 ep], #[.int .i64 fr], ints .u8 (bas)] [#[.int .i64 kd]] [#[.bool us], #[.int .i64 nm], ints .u8 (key), ints .u8 (sg), ints .u8 (pa), #[.slice a_m ms.length c_m], ints .u8 (start), #[.int .i64 at_], ints .u8 (sig)] 66 (by rw [Qaa, Qaa, Qaa, Qaa]; simp only [Array.size_append, cat, ((Qad _ _).trans hal), ((Qad _ _).trans hrl)]; rfl) 0 _ rfl) kj) ?_
  refine Qab (.bool false) 40 rfl kj (Qa0 (u := .bool ((kd == 2))) kj (congrArg Value.bool (beq_eq_false_iff_ne.2 (by omega)))) ?_
  refine Qab (.bool false) 41 rfl kj kj ?_
  refine Qaf ?_
  refine hK17 _ _ ?_
  refine cond_false kj ?_
  refine Qae ?_
  refine Qab (.pointer (some ⟨gw, 0, none⟩)) 46 rfl kj kj ?_
  refine Qab (.pointer (some ⟨g2, 67, none⟩)) 47 rfl kj kj ?_
  refine Qab (.agg (cat [#[.bool us], #[.int .i64 nm], ints .u8 (key), ints .u8 (sg), ints .u8 (pa), #[.slice a_m ms.length c_m]])) 48 rfl kj (Qay 43 _ g2 67 47 _ _ _ r2_7 rfl kj (Qaq [ints .u8 (grp), #[.int .i64 ep], #[.int .i64 fr], ints .u8 (bas), #[.int .i64 kd]] [#[.bool us], #[.int .i64 nm], ints .u8 (key), ints .u8 (sg), ints .u8 (pa), #[.slice a_m ms.length c_m]] [ints .u8 (start), #[.int .i64 at_], ints .u8 (sig)] 67 (by rw [Qaa, Qaa, Qaa, Qaa, Qaa]; simp only [Array.size_append, cat, ((Qad _ _).trans hal), ((Qad _ _).trans hrl)]; rfl)) kj (isz (n := 99) kj (by rw [Qaa, Qaa, Qaa, Qaa, Qaa, Qaa]; simp only [Array.size_append, cat, ((Qad _ _).trans hgl), ((Qad _ _).trans hkl), ((Qad _ _).trans hpl)]; rfl))) ?_
  refine Qa8 (.bool (QaB us nm key sg pa ms)) 107 #[.agg (cat [#[.bool us], #[.int .i64 nm], ints .u8 (key), ints .u8 (sg), ints .u8 (pa), #[.slice a_m ms.length c_m]])] 49 rfl kj kj (Qek us nm key sg pa ms _ _ _ hkl hgl hpl) fun W8 e8 => ?_
  have x8 : GW base gw w W8 := GW.ext x7 e8
  have ws18 := WSt.ext ws15 e8
  refine Qah (fun v W' => v = .tuple #[] ∧ GW base gw W8 W' ∧ WSt base gw (Qax (numS (Qax (rawS (QaE (numS (rawS (s) grp) ep 4) fr) bas) false) kd 1) (QaB us nm key sg pa ms)) W') 98 #[.pointer (some ⟨gw, 0, none⟩), .bool (QaB us nm key sg pa ms)] 50 rfl kj kj ((QbA base gw _ (QaB us nm key sg pa ms) _ ws18).mono (by rintro e w' ⟨rfl, h1, h2⟩; exact ⟨_, rfl, rfl, h1, h2⟩)) fun v19 W9 h19 => ?_
  obtain ⟨rfl, q9, ws19⟩ := h19
  have x9 : GW base gw w W9 := GW.trans x8 q9
  refine Qaf ?_
  refine hK16 _ _ ?_
  refine wp_seq_k fun K20 hK20 => ?_
  refine wp_seq_k fun K21 hK21 => ?_
  refine Qae ?_
  refine Qab (.pointer (some ⟨g2, 66, none⟩)) 51 rfl kj kj ?_
  have r2_8 := (Qau r2_7 e8)
  have r2_9 := (GW.row q9 r2_8 (by decide) (Ne.symm (Nat.ne_of_lt (Nat.lt_of_lt_of_le hgw b2))))
  refine Qab (.int .i64 kd) 52 rfl kj (Qal 3 _ g2 66 47 _ (.int .i64 kd) _ r2_9 rfl kj (Qaq [ints .u8 (grp), #[.int .i64 ep], #[.int .i64 fr], ints .u8 (bas)] [#[.int .i64 kd]] [#[.bool us], #[.int .i64 nm], ints .u8 (key), ints .u8 (sg), ints .u8 (pa), #[.slice a_m ms.length c_m], ints .u8 (start), #[.int .i64 at_], ints .u8 (sig)] 66 (by rw [Qaa, Qaa, Qaa, Qaa]; simp only [Array.size_append, cat, ((Qad _ _).trans hal), ((Qad _ _).trans hrl)]; rfl) 0 _ rfl) kj) ?_
  refine Qab (.bool false) 53 rfl kj (Qa0 (u := .bool ((kd == 1))) kj (congrArg Value.bool (beq_eq_false_iff_ne.2 (by omega)))) ?_
  refine Qaf ?_
  refine hK21 _ _ ?_
  refine cond_false kj ?_
  refine Qae ?_
  refine Qab (.pointer (some ⟨gw, 0, none⟩)) 58 rfl kj kj ?_
  refine Qab (.pointer (some ⟨g2, 166, none⟩)) 59 rfl kj kj ?_
  refine Qab (.agg (ints .u8 (start))) 60 rfl kj (Qay 40 _ g2 166 47 _ _ _ r2_9 rfl kj (Qaq [ints .u8 (grp), #[.int .i64 ep], #[.int .i64 fr], ints .u8 (bas), #[.int .i64 kd], #[.bool us], #[.int .i64 nm], ints .u8 (key), ints .u8 (sg), ints .u8 (pa), #[.slice a_m ms.length c_m]] [ints .u8 (start)] [#[.int .i64 at_], ints .u8 (sig)] 166 (by rw [Qaa, Qaa, Qaa, Qaa, Qaa, Qaa, Qaa, Qaa, Qaa, Qaa, Qaa]; simp only [Array.size_append, cat, ((Qad _ _).trans hal), ((Qad _ _).trans hgl), ((Qad _ _).trans hkl), ((Qad _ _).trans hpl), ((Qad _ _).trans hrl)]; rfl)) kj (isz (n := 32) kj ((Qad _ _).trans htl))) ?_
  refine Qab (.agg (ints .u8 (List.replicate 32 0))) 61 rfl kj kj ?_
  refine Qab (.bool (decide (start = List.replicate 32 0))) 62 rfl kj (QaK 40 _ _ _ _ _ (.bool (decide (start = List.replicate 32 0))) rfl kj kj kj (QaV 40 (e := 5) (k := .u8) (start) (List.replicate 32 0) rfl htl (List.length_replicate (n := 32)) kj kj kj _)) ?_
  refine Qah (fun v W' => v = .tuple #[] ∧ GW base gw W9 W' ∧ WSt base gw (Qax (Qax (numS (Qax (rawS (QaE (numS (rawS (s) grp) ep 4) fr) bas) false) kd 1) (QaB us nm key sg pa ms)) (decide (start = List.replicate 32 0))) W') 98 #[.pointer (some ⟨gw, 0, none⟩), .bool (decide (start = List.replicate 32 0))] 63 rfl kj kj ((QbA base gw _ (decide (start = List.replicate 32 0)) _ ws19).mono (by rintro e w' ⟨rfl, h1, h2⟩; exact ⟨_, rfl, rfl, h1, h2⟩)) fun v22 W10 h22 => ?_
  obtain ⟨rfl, q10, ws22⟩ := h22
  have x10 : GW base gw w W10 := GW.trans x9 q10
  refine Qaf ?_
  refine hK20 _ _ ?_
  refine wp_seq_k fun K23 hK23 => ?_
  refine wp_seq_k fun K24 hK24 => ?_
  refine Qae ?_
  refine Qab (.pointer (some ⟨g2, 66, none⟩)) 64 rfl kj kj ?_
  have r2_10 := (GW.row q10 r2_9 (by decide) (Ne.symm (Nat.ne_of_lt (Nat.lt_of_lt_of_le hgw b2))))
  refine Qab (.int .i64 kd) 65 rfl kj (Qal 3 _ g2 66 47 _ (.int .i64 kd) _ r2_10 rfl kj (Qaq [ints .u8 (grp), #[.int .i64 ep], #[.int .i64 fr], ints .u8 (bas)] [#[.int .i64 kd]] [#[.bool us], #[.int .i64 nm], ints .u8 (key), ints .u8 (sg), ints .u8 (pa), #[.slice a_m ms.length c_m], ints .u8 (start), #[.int .i64 at_], ints .u8 (sig)] 66 (by rw [Qaa, Qaa, Qaa, Qaa]; simp only [Array.size_append, cat, ((Qad _ _).trans hal), ((Qad _ _).trans hrl)]; rfl) 0 _ rfl) kj) ?_
  refine Qab (.bool false) 66 rfl kj (Qa0 (u := .bool ((kd == 3))) kj (congrArg Value.bool (beq_eq_false_iff_ne.2 (by omega)))) ?_
  refine Qaf ?_
  refine hK24 _ _ ?_
  refine cond_false kj ?_
  refine Qae ?_
  refine Qab (.pointer (some ⟨gw, 0, none⟩)) 71 rfl kj kj ?_
  refine Qab (.pointer (some ⟨g2, 198, none⟩)) 72 rfl kj kj ?_
  refine Qab (.int .i64 at_) 73 rfl kj (Qal 3 _ g2 198 47 _ (.int .i64 at_) _ r2_10 rfl kj (Qaq [ints .u8 (grp), #[.int .i64 ep], #[.int .i64 fr], ints .u8 (bas), #[.int .i64 kd], #[.bool us], #[.int .i64 nm], ints .u8 (key), ints .u8 (sg), ints .u8 (pa), #[.slice a_m ms.length c_m], ints .u8 (start)] [#[.int .i64 at_]] [ints .u8 (sig)] 198 (by rw [Qaa, Qaa, Qaa, Qaa, Qaa, Qaa, Qaa, Qaa, Qaa, Qaa, Qaa, Qaa]; simp only [Array.size_append, cat, ((Qad _ _).trans hal), ((Qad _ _).trans hgl), ((Qad _ _).trans hkl), ((Qad _ _).trans hpl), ((Qad _ _).trans hrl), ((Qad _ _).trans htl)]; rfl) 0 _ rfl) kj) ?_
  refine Qab (.bool ((at_ == 0))) 74 rfl kj kj ?_
  refine Qah (fun v W' => v = .tuple #[] ∧ GW base gw W10 W' ∧ WSt base gw (Qax (Qax (Qax (numS (Qax (rawS (QaE (numS (rawS (s) grp) ep 4) fr) bas) false) kd 1) (QaB us nm key sg pa ms)) (decide (start = List.replicate 32 0))) ((at_ == 0))) W') 98 #[.pointer (some ⟨gw, 0, none⟩), .bool ((at_ == 0))] 75 rfl kj kj ((QbA base gw _ ((at_ == 0)) _ ws22).mono (by rintro e w' ⟨rfl, h1, h2⟩; exact ⟨_, rfl, rfl, h1, h2⟩)) fun v25 W11 h25 => ?_
  obtain ⟨rfl, q11, ws25⟩ := h25
  have x11 : GW base gw w W11 := GW.trans x10 q11
  refine Qaf ?_
  refine hK23 _ _ ?_
  refine Qae ?_
  refine Qab (.pointer (some ⟨gw, 0, none⟩)) 76 rfl kj kj ?_
  refine Qab (.pointer (some ⟨g2, 199, none⟩)) 77 rfl kj kj ?_
  refine Qab (.slice (some ⟨g2, 199, none⟩) 64 64) 78 rfl kj kj ?_
  have r2_11 := (GW.row q11 r2_10 (by decide) (Ne.symm (Nat.ne_of_lt (Nat.lt_of_lt_of_le hgw b2))))
  refine Qah (fun v W' => v = .tuple #[] ∧ GW base gw W11 W' ∧ WSt base gw (rawS (Qax (Qax (Qax (numS (Qax (rawS (QaE (numS (rawS (s) grp) ep 4) fr) bas) false) kd 1) (QaB us nm key sg pa ms)) (decide (start = List.replicate 32 0))) ((at_ == 0))) sig) W') 104 #[.pointer (some ⟨gw, 0, none⟩), .slice (some ⟨g2, 199, none⟩) 64 64] 79 rfl kj kj ((rawW base gw _ sig _ _ (Nat.le_trans hbw x11.size) ws25 (by omega) hib (fun W e => (QaS 199 hil (ExtB.row e r2_11 (Ne.symm (Nat.ne_of_lt (Nat.lt_of_lt_of_le hgw b2)))) (fun i hi => QaJ [ints .u8 (grp), #[.int .i64 ep], #[.int .i64 fr], ints .u8 (bas), #[.int .i64 kd], #[.bool us], #[.int .i64 nm], ints .u8 (key), ints .u8 (sg), ints .u8 (pa), #[.slice a_m ms.length c_m], ints .u8 (start), #[.int .i64 at_]] [] sig 199 i (199 + i) (by rw [Qaa, Qaa, Qaa, Qaa, Qaa, Qaa, Qaa, Qaa, Qaa, Qaa, Qaa, Qaa, Qaa]; simp only [Array.size_append, cat, ((Qad _ _).trans hal), ((Qad _ _).trans hgl), ((Qad _ _).trans hkl), ((Qad _ _).trans hpl), ((Qad _ _).trans hrl), ((Qad _ _).trans htl)]; rfl) rfl (by rw [hil]; exact hi)) (Qa5 (ExtB.row e r2_11 (Ne.symm (Nat.ne_of_lt (Nat.lt_of_lt_of_le hgw b2))))) (Nat.le_refl _) (by decide)))).mono (by rintro e w' ⟨rfl, h1, h2⟩; exact ⟨_, rfl, rfl, h1, h2⟩)) fun v26 W12 h26 => ?_
  obtain ⟨rfl, q12, ws26⟩ := h26
  have x12 : GW base gw w W12 := GW.trans x11 q12
  refine Qaf ?_
  repeat (first | with_reducible refine goX1 ?_ | with_reducible refine goX2 ?_ | with_reducible refine goX3 ?_)
  exact (show bodyPost _ _ _ .normal _ _ from end0 rfl ⟨rfl, x12, ws26⟩)
end Go.Proofs.Ytfelfmchachljaa.Wr
end
section
namespace Go.Proofs.Ytfelfmchachljaa.Wr
open Go Go.RowKit
open Rely Auto Own Sha
set_option linter.unusedVariables false
set_option linter.unusedSimpArgs false
def Qe5 (s : Option (List Int)) (grp : List Int) (ep fr : Int) (bas : List Int) (kd : Int) : Option (List Int) := numS (Qax (rawS (QaE (numS (rawS s grp) ep 4) fr) bas) (decide (1 ≤ kd ∧ kd ≤ 3))) kd 1
def Qe4 (s : Option (List Int)) (grp : List Int) (ep fr : Int) (bas : List Int) (kd : Int) (us : Bool) (nm : Int) (key sg pa ms start : List Int) (at_ : Int) (sig : List Int) : Option (List Int) :=
  rawS (if kd = 1 then Qax (rawS (QbM (Qe5 s grp ep fr bas kd) us nm key sg pa ms) start) (at_ == 0)
    else if kd = 2 then Qax (Qax (QbM (Qe5 s grp ep fr bas kd) us nm key sg pa ms) (decide (start = List.replicate 32 0))) (at_ == 0)
    else if kd = 3 then QaE (Qax (Qax (Qe5 s grp ep fr bas kd) (QaB us nm key sg pa ms)) (decide (start = List.replicate 32 0))) at_ else none) sig
theorem Qds (n : Int) (k : Nat) : numS none n k = none := by unfold numS; rw [show Qax none (okN n k) = none by cases okN n k <;> rfl, Qcw]
theorem Qb9 (b : Bool) : Qax none b = none := by cases b <;> rfl
set_option maxHeartbeats 4000000 in
theorem Qf7 (base gw : Nat) (s : Option (List Int)) (grp : List Int) (ep fr : Int) (bas : List Int) (kd : Int) (us : Bool) (nm : Int) (key sg pa ms start : List Int) (at_ : Int) (sig : List Int) (a_m : Option Addr) (c_m : Nat) (w : World) (hbw : base ≤ w.heap.size) (hbg : base ≤ gw) (h : WSt base gw s w) (hrl : grp.length = 32) (hrb : Qao grp) (hal : bas.length = 32) (hab : Qao bas) (hkl : key.length = 32) (hgl : sg.length = 32) (hpl : pa.length = 32) (hkb : Qao key) (hgb : Qao sg) (hpb : Qao pa) (hml : ms.length ≤ 1000000) (htl : start.length = 32) (htb : Qao start) (hil : sig.length = 64) (hib : Qao sig) (hm : RdK .i64 base ms (.slice a_m ms.length c_m) w) : Calls Try.prog 57 #[.pointer (some ⟨gw, 0, none⟩), .agg (cat [ints .u8 (grp), #[.int .i64 ep], #[.int .i64 fr], ints .u8 (bas), #[.int .i64 kd], #[.bool us], #[.int .i64 nm], ints .u8 (key), ints .u8 (sg), ints .u8 (pa), #[.slice a_m ms.length c_m], ints .u8 (start), #[.int .i64 at_], ints .u8 (sig)])] w (fun e W => e = .returned (.tuple #[]) ∧ GW base gw w W ∧ WSt base gw (Qe4 s grp ep fr bas kd us nm key sg pa ms start at_ sig) W) := by
  rcases (show kd = 1 ∨ kd = 2 ∨ kd = 3 ∨ kd < 1 ∨ 3 < kd by omega) with rfl | rfl | rfl | hk | hk
  ·
    exact (Qhg base gw s grp ep fr bas us nm key sg pa ms start at_ sig a_m c_m w hbw hbg h hrl hrb hal hab hkl hgl hpl hkb hgb hpb hml htl htb hil hib hm).mono fun e W hh => ⟨hh.1, hh.2.1, hh.2.2⟩
  ·
    exact (Qhf base gw s grp ep fr bas us nm key sg pa ms start at_ sig a_m c_m w hbw hbg h hrl hrb hal hab hkl hgl hpl hkb hgb hpb hml htl htb hil hib hm).mono fun e W hh => ⟨hh.1, hh.2.1, hh.2.2⟩
  ·
    exact (Qhe base gw s grp ep fr bas us nm key sg pa ms start at_ sig a_m c_m w hbw hbg h hrl hrb hal hab hkl hgl hpl hkb hgb hpb hml htl htb hil hib hm).mono fun e W hh => ⟨hh.1, hh.2.1, hh.2.2⟩
  ·
    exact (Qhc base gw s kd hk grp ep fr bas us nm key sg pa ms start at_ sig a_m c_m w hbw hbg h hrl hrb hal hab hkl hgl hpl hkb hgb hpb hml htl htb hil hib hm).mono fun e W hh => ⟨hh.1, hh.2.1, by have h9 := hh.2.2; unfold Qe4; rw [if_neg (by omega), if_neg (by omega), if_neg (by omega)]; rw [show Qax (rawS (QaE (numS (rawS s grp) ep 4) fr) bas) false = none from rfl, Qds, Qb9, Qb9, Qb9] at h9; exact h9⟩
  ·
    exact (Qhd base gw s kd hk grp ep fr bas us nm key sg pa ms start at_ sig a_m c_m w hbw hbg h hrl hrb hal hab hkl hgl hpl hkb hgb hpb hml htl htb hil hib hm).mono fun e W hh => ⟨hh.1, hh.2.1, by have h9 := hh.2.2; unfold Qe4; rw [if_neg (by omega), if_neg (by omega), if_neg (by omega)]; rw [show Qax (rawS (QaE (numS (rawS s grp) ep 4) fr) bas) false = none from rfl, Qds, Qb9, Qb9, Qb9] at h9; exact h9⟩
end Go.Proofs.Ytfelfmchachljaa.Wr
end
section
namespace Go.Proofs.Ytfelfmchachljaa.Wr
open Go Go.RowKit
open Rely Auto Own Sha
set_option linter.unusedVariables false
set_option linter.unusedSimpArgs false
def rowF (s : Option (List Int)) (r : RwV) : Option (List Int) := bytS s r.xs
def QcW (s : Option (List Int)) (rs : List RwV) : Option (List Int) := rs.foldl rowF (numS s ((rs.length : Nat) : Int) 1)
def Qdy (s : Option (List Int)) (t : StV) : Option (List Int) := QcW (rawS s t.key) t.rows
def QcU (s : Option (List Int)) (ts : List StV) : Option (List Int) := ts.foldl Qdy (numS s ((ts.length : Nat) : Int) 1)
def QdB (s : Option (List Int)) (p : PrV) : Option (List Int) := Qe4 s p.p.grp p.p.ep p.p.fr p.p.bas p.p.kd p.p.n.us p.p.n.nm p.p.n.key p.p.n.sg p.p.n.pa p.p.n.ms p.p.start p.p.at_ p.p.sig
def QbZ (s : Option (List Int)) (ps : List PrV) : Option (List Int) := ps.foldl QdB (numS s ((ps.length : Nat) : Int) 1)
def Qee (s : Option (List Int)) (n : NdC) (ts : List StV) : Option (List Int) := QcU (Qax (QeA s n) (decide (((ts.length : Nat) : Int) ≤ 5))) ts
def QdN (s : Option (List Int)) (grp : List Int) (ep fr : Int) (bas : List Int) (ps : List PrV) (n : NdC) (ts : List StV) (tag sig : List Int) : Option (List Int) := rawS (rawS (Qee (QbZ (rawS (QaE (numS (rawS s grp) ep 4) fr) bas) ps) n ts) tag) sig
theorem Qez (r : RwV) : rowF none r = none := by unfold rowF; rw [QeG]; split <;> rfl
theorem Qgh (rs : List RwV) : QcW none rs = none := by unfold QcW; rw [Qcr]; exact Qcs Qez rs
theorem QeJ (t : StV) : Qdy none t = none := Qgh t.rows
theorem QeP (p : PrV) : QdB none p = none := by
  unfold QdB Qe4
  have e : ∀ k, Qe5 none p.p.grp p.p.ep p.p.fr p.p.bas k = none := fun k => by
    unfold Qe5
    rw [show rawS none p.p.grp = none from rfl, Qcr, Qc7]
    rw [show rawS none p.p.bas = none from rfl, QaO, Qcr]
  rw [e]
  have hn := Qfn p.p.n
  unfold QeA at hn
  rw [hn]
  simp only [QaO, Qc7, show rawS none p.p.start = none from rfl, ite_self]
  rfl
set_option maxHeartbeats 4000000 in
theorem Qim (base gw : Nat) (u v : Value) (xs ys : List Int) (w : World) (hbw : base ≤ w.heap.size) (hg : w.heap[gw]? = some (.cells #[u, .bool true] 174)) (ho : OwnN .u8 5 base xs u w) (hxl : xs.length ≤ 65536) (hst : ∀ W, ExtB gw w W → RdK .u8 W.heap.size ys v W) :
    Calls Try.prog 104 #[.pointer (some ⟨gw, 0, none⟩), v] w (fun e W => e = .returned (.tuple #[]) ∧ GW base gw w W ∧ ∃ u', W.heap[gw]? = some (.cells (cat [#[u'], #[.bool true]]) 174) ∧ OwnN .u8 5 base (xs) u' W) := by
  obtain ⟨a_u, c_u, rfl, -⟩ := id (OwnN.rd ho)
  obtain ⟨a_y, c_y, rfl, -⟩ := id (hst _ (ExtB.refl gw w))
  obtain ⟨ok, hok⟩ : ∃ b, b = decide (IntKind.i64.wrap (((xs.length : Nat) : Int) + ((ys.length : Nat) : Int)) ≤ 65536) := ⟨_, rfl⟩
  refine enter 29 [(0, .pointer (some ⟨gw, 0, none⟩)), (1, .slice a_y ys.length c_y)] Try.func104 rfl rfl kj rfl ?_
  refine wp_seq_k fun K2 hK2 => ?_
  refine Qae ?_
  refine Qab (.pointer (some ⟨gw, 0, none⟩)) 4 rfl kj kj ?_
  refine Qab (.pointer (some ⟨gw, 0, none⟩)) 5 rfl kj kj ?_
  refine Qab (.pointer (some ⟨gw, 0, none⟩)) 6 rfl kj kj ?_
  refine Qab (.pointer (some ⟨gw, 0, none⟩)) 7 rfl kj kj ?_
  refine Qab (.slice a_u xs.length c_u) 8 rfl kj (Qal 26 _ gw 0 174 _ (.slice a_u xs.length c_u) _ hg rfl kj kj kj) ?_
  refine Qab (.int .i64 ((xs.length : Nat) : Int)) 9 rfl kj kj ?_
  refine Qab (.slice a_y ys.length c_y) 10 rfl kj kj ?_
  refine Qab (.int .i64 ((ys.length : Nat) : Int)) 11 rfl kj kj ?_
  refine Qab (.int .i64 (IntKind.i64.wrap (((xs.length : Nat) : Int) + ((ys.length : Nat) : Int)))) 12 rfl kj kj ?_
  refine Qab (.bool (ok)) 13 rfl kj (Qa0 (u := .bool (decide (IntKind.i64.wrap (((xs.length : Nat) : Int) + ((ys.length : Nat) : Int)) ≤ 65536))) kj (congrArg Value.bool hok.symm)) ?_
  refine Qah (fun v W' => v = .tuple #[] ∧ ExtB gw w W' ∧ W'.heap[gw]? = some (.cells (cat [#[.slice a_u xs.length c_u], #[.bool true]]) 174)) 98 #[.pointer (some ⟨gw, 0, none⟩), .bool (ok)] 14 rfl kj kj ((QfF gw _ _ _ _ hg).mono (by intro e w' h; exact ⟨_, h.1, rfl, h.2⟩)) fun v W1 h3 => ?_
  obtain ⟨rfl, q1, r1_1⟩ := h3
  have x1 : GW base gw w W1 := GW.trans (GW.refl base gw w) (GW.of_but q1)
  refine Qaf ?_
  refine hK2 _ _ ?_
  refine wp_seq_k fun K4 hK4 => ?_
  refine Qae ?_
  refine Qab (.pointer (some ⟨gw, 0, none⟩)) 15 rfl kj kj ?_
  refine Qab (.pointer (some ⟨gw, 0, none⟩)) 16 rfl kj kj ?_
  refine Qab (.pointer (some ⟨gw, 1, none⟩)) 17 rfl kj kj ?_
  refine Qab (.bool true) 18 rfl kj (Qal 4 _ gw 1 174 _ (.bool true) _ r1_1 rfl kj kj kj) ?_
  refine Qab (.bool false) 19 rfl kj kj ?_
  refine Qaf ?_
  refine hK4 _ _ ?_
  refine cond_false kj ?_
  refine wp_skip ?_
  repeat (first | with_reducible refine goX1 ?_ | with_reducible refine goX2 ?_ | with_reducible refine goX3 ?_)
  have f5_1 := (Qbe ho q1 (Qcy ho hg (by decide)))
  exact (show bodyPost _ _ _ .normal _ _ from end0 rfl ⟨rfl, x1, _, r1_1, f5_1⟩)
theorem QgW (base gw : Nat) (ys : List Int) (v : Value) (w : World) (hbw : base ≤ w.heap.size) (h : WSt base gw none w) (hst : ∀ W, ExtB gw w W → RdK .u8 W.heap.size ys v W) : Calls Try.prog 104 #[.pointer (some ⟨gw, 0, none⟩), v] w (fun e W => e = .returned (.tuple #[]) ∧ GW base gw w W ∧ WSt base gw none W) := by
  obtain ⟨u, xs, bad, h1, h2, h3, h4, e⟩ := h
  cases bad with
  | false => cases e
  | true => exact (Qim base gw u v xs ys w hbw h1 h2 h3 hst).mono fun e W ⟨a, b, u', c, d⟩ => ⟨a, b, u', xs, true, c, d, h3, h4, rfl⟩
theorem QeR (s : Option (List Int)) (ys : List Int) (h : 65535 < ys.length) : numS s ((ys.length : Nat) : Int) 2 = none := by
  rw [Qbm _ _ 1 65535 (by decide) (by decide), show inB ((ys.length : Nat) : Int) 65535 = false by unfold inB; simp; omega]
  rfl
set_option maxHeartbeats 4000000 in
theorem Qif (base gw : Nat) (s : Option (List Int)) (ys : List Int) (v : Value) (w : World) (hbw : base ≤ w.heap.size) (hbg : base ≤ gw) (h : WSt base gw s w) (hyl : 65535 < ys.length) (hyb : Qao ys) (hy : RdK .u8 base ys v w) : Calls Try.prog 117 #[.pointer (some ⟨gw, 0, none⟩), v] w (fun e W => e = .returned (.tuple #[]) ∧ GW base gw w W ∧ WSt base gw (bytS s ys) W) := by
  have hgw := h.lt
  obtain ⟨a_y, c_y, rfl, -⟩ := id hy
  refine enter 11 [(0, .pointer (some ⟨gw, 0, none⟩)), (1, .slice a_y ys.length c_y)] Try.func117 rfl rfl kj rfl ?_
  refine wp_seq_k fun K1 hK1 => ?_
  refine Qae ?_
  refine Qab (.pointer (some ⟨gw, 0, none⟩)) 4 rfl kj kj ?_
  refine Qab (.slice a_y ys.length c_y) 5 rfl kj kj ?_
  refine Qab (.int .i64 ((ys.length : Nat) : Int)) 6 rfl kj kj ?_
  refine Qah (fun v W' => v = .tuple #[] ∧ GW base gw w W' ∧ WSt base gw (numS (s) ((ys.length : Nat) : Int) 2) W') 105 #[.pointer (some ⟨gw, 0, none⟩), .int .i64 ((ys.length : Nat) : Int), .int .i64 2] 7 rfl kj kj ((QaW base gw _ ((ys.length : Nat) : Int) 2 _ (Nat.le_trans hbw (GW.refl base gw w).size) h (by decide)).mono (by rintro e w' ⟨rfl, h1, h2⟩; exact ⟨_, rfl, rfl, h1, h2⟩)) fun v2 W1 h2 => ?_
  obtain ⟨rfl, q1, ws2⟩ := h2
  have x1 : GW base gw w W1 := GW.trans (GW.refl base gw w) q1
  refine Qaf ?_
  refine hK1 _ _ ?_
  refine Qae ?_
  refine Qab (.pointer (some ⟨gw, 0, none⟩)) 8 rfl kj kj ?_
  refine Qab (.slice a_y ys.length c_y) 9 rfl kj kj ?_
  refine Qah (fun v W' => v = .tuple #[] ∧ GW base gw W1 W' ∧ WSt base gw (rawS (numS (s) ((ys.length : Nat) : Int) 2) ys) W') 104 #[.pointer (some ⟨gw, 0, none⟩), .slice a_y ys.length c_y] 10 rfl kj kj ((QgW base gw ys _ _ (Nat.le_trans hbw x1.size) (by rw [QeR s ys hyl] at ws2; exact ws2) (fun W e => RdK.here (RdK.extB (Qgl hy x1 hbg) e hbg))).mono (by rintro e w' ⟨rfl, h1, h2⟩; exact ⟨_, rfl, rfl, h1, by rw [QeR s ys hyl]; exact h2⟩)) fun v3 W2 h3 => ?_
  obtain ⟨rfl, q2, ws3⟩ := h3
  have x2 : GW base gw w W2 := GW.trans x1 q2
  refine Qaf ?_
  repeat (first | with_reducible refine goX1 ?_ | with_reducible refine goX2 ?_ | with_reducible refine goX3 ?_)
  exact (show bodyPost _ _ _ .normal _ _ from end0 rfl ⟨rfl, x2, ws3⟩)
theorem Qg3 (base gw : Nat) (s : Option (List Int)) (ys : List Int) (v : Value) (w : World) (hbw : base ≤ w.heap.size) (hbg : base ≤ gw) (h : WSt base gw s w) (hyb : Qao ys) (hy : RdK .u8 base ys v w) : Calls Try.prog 117 #[.pointer (some ⟨gw, 0, none⟩), v] w (fun e W => e = .returned (.tuple #[]) ∧ GW base gw w W ∧ WSt base gw (bytS s ys) W) := by
  by_cases hyl : ys.length ≤ 65535
  · exact QgH base gw s ys v w hbw hbg h (by omega) hyb hy
  · exact Qif base gw s ys v w hbw hbg h (by omega) hyb hy
set_option maxHeartbeats 4000000 in
set_option maxRecDepth 100000 in
theorem Qgq (base gw : Nat) (s : Option (List Int)) (ts : List RwV) (a_t : Option Addr) (c_t : Nat) (w : World) (hbw : base ≤ w.heap.size) (hbg : base ≤ gw) (h : WSt base gw s w) (htl : ts.length ≤ 1000000) (hrl : ∀ r ∈ ts, True) (hls : LsAt RwAt 1 rw0 base w a_t ts) : Calls Try.prog 130 #[.pointer (some ⟨gw, 0, none⟩), .slice a_t ts.length c_t, .func (.func 117) #[] #[]] w (fun e W => e = .returned (.tuple #[]) ∧ GW base gw w W ∧ WSt base gw (QcW s ts) W) := by
 have hgw := h.lt
 refine enter 27 [(0, .pointer (some ⟨gw, 0, none⟩)), (1, .slice a_t ts.length c_t), (2, .func (.func 117) #[] #[])] Try.func130 rfl rfl kj rfl ?_
 refine wp_seq_k fun K1 hK1 => ?_
 refine Qae ?_
 refine Qab (.pointer (some ⟨gw, 0, none⟩)) 8 rfl kj kj ?_
 refine Qab (.slice a_t ts.length c_t) 9 rfl kj kj ?_
 refine Qab (.int .i64 ((ts.length : Nat) : Int)) 10 rfl kj kj ?_
 refine Qah (fun v W' => v = .tuple #[] ∧ GW base gw w W' ∧ WSt base gw (numS s ((ts.length : Nat) : Int) 1) W') 105 #[.pointer (some ⟨gw, 0, none⟩), .int .i64 ((ts.length : Nat) : Int), .int .i64 1] 11 rfl kj kj ((QaW base gw s ((ts.length : Nat) : Int) 1 _ (Nat.le_trans hbw (GW.refl base gw w).size) h (by decide)).mono (by rintro e w' ⟨rfl, h1, h2⟩; exact ⟨_, rfl, rfl, h1, h2⟩)) fun v2 W1 h2 => ?_
 obtain ⟨rfl, q1, ws2⟩ := h2
 have x1 : GW base gw w W1 := GW.trans (GW.refl base gw w) q1
 refine Qaf ?_
 refine hK1 _ _ ?_
 refine wp_seq_k fun K3 hK3 => ?_
 refine Qae ?_
 refine Qab (.slice a_t ts.length c_t) 12 rfl kj kj ?_
 refine Qab (.int .i64 ((ts.length : Nat) : Int)) 13 rfl kj kj ?_
 refine Qab (.int .i64 0) 14 rfl kj kj ?_
 refine Qaf ?_
 refine hK3 _ _ ?_
 refine wp_block ?_
 refine QaX (fun (s1 : Nat × Option (List Int)) => [(0, .pointer (some ⟨gw, 0, none⟩)), (2, .func (.func 117) #[] #[]), (12, .slice a_t ts.length c_t), (13, .int .i64 ((ts.length : Nat) : Int)), (14, .int .i64 ((s1.1 : Nat) : Int))]) (fun (s1 : Nat × Option (List Int)) W => (s1.1 ≤ ts.length) ∧ (WSt base gw s1.2 W) ∧ ((ts.drop s1.1).foldl rowF s1.2 = QcW s ts) ∧ (GW base gw w W)) (fun (s1 : Nat × Option (List Int)) => ts.length - s1.1) (0, numS s ((ts.length : Nat) : Int) 1) ⟨rfl, rfl, rfl, rfl, rfl, trivial⟩ ⟨(Nat.zero_le _), ws2, rfl, x1⟩ fun s1 X1 V1 hI1 => ?_
 obtain ⟨i, sc⟩ := s1
 obtain ⟨hi, hws, hnum, xx1⟩ := hI1
 replace hi : i ≤ ts.length := hi
 replace hws : WSt base gw sc V1 := hws
 replace hnum : (ts.drop i).foldl rowF sc = QcW s ts := hnum
 replace xx1 : GW base gw w V1 := xx1
 refine wp_seq_k fun K4 hK4 => ?_
 refine Qae ?_
 refine Qab (.bool (decide (((i : Nat) : Int) < ((ts.length : Nat) : Int)))) 15 rfl kj kj ?_
 refine Qaf ?_
 refine hK4 _ _ ?_
 refine wp_seq_k fun K5 hK5 => ?_
 refine Qa7 (t := decide (((i : Nat) : Int) < ((ts.length : Nat) : Int))) kj (fun c6 => ?_) (fun c6 => ?_)
 ·skip
  have hlt15 : i < ts.length := by have := of_decide_eq_true c6; omega
  refine wp_skip ?_
  refine hK5 _ _ ?_
  refine wp_seq_k fun K7 hK7 => ?_
  refine wp_block ?_
  refine wp_seq_k fun K8 hK8 => ?_
  refine Qae ?_
  obtain ⟨gTnd, oTnd, hatnd, helsnd⟩ := (LsAt.gw rwK hls xx1 hbg)
  have helnd := helsnd i (by omega)
  obtain ⟨_, _, -, hels0nd⟩ := id hls
  have hel0nd := hels0nd i (by omega)
  have hmemnd := QbI ts rw0 i (by omega)
  obtain ⟨nd, hndnd⟩ : ∃ z, z = ts.getD i rw0 := ⟨_, rfl⟩
  rw [← hndnd] at helnd hel0nd hmemnd
  refine Qab (.pointer (some ⟨gTnd, oTnd + i * 1, none⟩)) 16 rfl kj (Qb2 127 _ _ .i64 i gTnd oTnd ts.length c_t 26 1 a_t (hatnd (by omega)) rfl kj kj kj kj (by omega)) ?_
  refine Qab (.slice nd.a nd.xs.length nd.c) 17 rfl kj (QcV 26 _ gTnd (oTnd + i * 1) _ helnd.cell rfl kj kj) ?_
  refine Qab (.slice nd.a nd.xs.length nd.c) 7 rfl kj kj ?_
  refine Qaf ?_
  refine hK8 _ _ ?_
  refine wp_seq_k fun K9 hK9 => ?_
  refine wp_seq_k fun K10 hK10 => ?_
  refine Qae ?_
  obtain ⟨u11, xs11, bad, rb11, -, -, -, hsc⟩ := id hws
  refine Qab (.pointer (some ⟨gw, 0, none⟩)) 18 rfl kj kj ?_
  refine Qab (.pointer (some ⟨gw, 0, none⟩)) 19 rfl kj kj ?_
  refine Qab (.pointer (some ⟨gw, 1, none⟩)) 20 rfl kj kj ?_
  refine Qab (.bool bad) 21 rfl kj (Qal 4 _ gw 1 174 _ (.bool bad) _ rb11 rfl kj kj kj) ?_
  refine Qaf ?_
  refine hK10 _ _ ?_
  refine Qa7 (t := bad) kj (fun c13 => ?_) (fun c13 => ?_)
  ·skip
   have hbad : bad = true := c13
   have h9 : sc = none := by rw [hsc, hbad]; rfl
   have h8 : QcW s ts = none := by rw [← hnum, h9]; exact Qcs Qez _
   refine wp_ret ?_
   repeat (first | with_reducible refine goR1 ?_ | with_reducible refine goR2 ?_)
   exact (show bodyPost _ _ _ .ret _ _ from ret0 rfl ⟨rfl, xx1, by rw [h8, ← h9]; exact hws⟩)
  ·skip
   refine wp_skip ?_
   refine hK9 _ _ ?_
   refine Qae ?_
   refine Qab (.func (.func 117) #[] #[]) 22 rfl kj kj ?_
   refine Qab (.pointer (some ⟨gw, 0, none⟩)) 23 rfl kj kj ?_
   refine Qab (.slice nd.a nd.xs.length nd.c) 24 rfl kj kj ?_
   refine Qah (fun v W' => v = .tuple #[] ∧ GW base gw V1 W' ∧ WSt base gw (rowF sc nd) W') 117 #[.pointer (some ⟨gw, 0, none⟩), .slice nd.a nd.xs.length nd.c] 25 rfl kj kj ((Qg3 base gw sc nd.xs _ _ (Nat.le_trans hbw xx1.size) hbg hws hel0nd.by_ (Qgl hel0nd.rd xx1 hbg)).mono (by rintro e w' ⟨rfl, h1, h2⟩; exact ⟨_, rfl, rfl, h1, h2⟩)) fun v14 W3 h14 => ?_
   obtain ⟨rfl, q3, ws14⟩ := h14
   have x3 : GW base gw w W3 := GW.trans xx1 q3
   refine Qaf ?_
   refine hK7 _ _ ?_
   refine Qae ?_
   refine Qab (.int .i64 ((i + 1 : Nat) : Int)) 26 rfl kj (Qa0 (u := .int .i64 (IntKind.i64.wrap (((i : Nat) : Int) + 1))) kj (congrArg (Value.int .i64) (i64n _ _ (by omega) (by omega)))) ?_
   refine Qab (.int .i64 ((i + 1 : Nat) : Int)) 14 rfl kj kj ?_
   refine Qaf ?_
   repeat (first | with_reducible refine goX1 ?_ | with_reducible refine goX2 ?_ | with_reducible refine goX3 ?_)
   exact QaU ((i + 1), rowF sc nd) ⟨rfl, rfl, rfl, rfl, rfl, trivial⟩ ⟨(by omega), ws14, (by rw [← hnum, Qcz ts rw0 i hlt15, ← hndnd]; rfl), x3⟩ (by omega)
 ·skip
  have heq15 : i = ts.length := by have := of_decide_eq_false c6; omega
  refine wp_exit ?_
  repeat (first | with_reducible refine goX1 ?_ | with_reducible refine goX2 ?_ | with_reducible refine goX3 ?_)
  exact (show bodyPost _ _ _ .normal _ _ from end0 rfl ⟨rfl, xx1, by have h9 : sc = QcW s ts := (by have h7 := hnum; rw [heq15, List.drop_length] at h7; exact h7); rw [← h9]; exact hws⟩)
set_option maxHeartbeats 4000000 in
theorem Qik (base gw : Nat) (s : Option (List Int)) (key : List Int) (rows : List RwV) (sa : Option Addr) (sc_ : Nat) (w : World) (hbw : base ≤ w.heap.size) (hbg : base ≤ gw) (h : WSt base gw s w) (hkl : key.length = 32) (hkb : Qao key) (hrn : rows.length ≤ 1000000) (hrl : ∀ r ∈ rows, True) (hrows : LsAt RwAt 1 rw0 base w sa rows) : Calls Try.prog 126 #[.pointer (some ⟨gw, 0, none⟩), .agg (cat [ints .u8 (key), #[.slice sa rows.length sc_]])] w (fun e W => e = .returned (.tuple #[]) ∧ GW base gw w W ∧ WSt base gw (QcW (rawS s key) rows) W) := by
  have hgw := h.lt
  refine enter 12 [(0, .pointer (some ⟨gw, 0, none⟩)), (1, .agg (cat [ints .u8 (key), #[.slice sa rows.length sc_]]))] Try.func126 rfl rfl kj rfl ?_
  refine wp_seq_k fun K1 hK1 => ?_
  refine Qae ?_
  refine Qar (cat [ints .u8 (key), #[.slice sa rows.length sc_]]) 129 3 rfl kj kj fun g2 W1 l2 e1 r2_1 => ?_
  have x1 : GW base gw w W1 := GW.ext (GW.refl base gw w) e1
  have ws3 := WSt.ext h e1
  have b2 : w.heap.size ≤ g2 := Nat.le_trans (GW.refl base gw w).size l2
  refine Qaf ?_
  refine hK1 _ _ ?_
  refine wp_seq_k fun K4 hK4 => ?_
  refine Qae ?_
  refine Qab (.pointer (some ⟨gw, 0, none⟩)) 4 rfl kj kj ?_
  refine Qab (.pointer (some ⟨g2, 0, none⟩)) 5 rfl kj kj ?_
  refine Qab (.slice (some ⟨g2, 0, none⟩) 32 32) 6 rfl kj kj ?_
  refine Qah (fun v W' => v = .tuple #[] ∧ GW base gw W1 W' ∧ WSt base gw (rawS (s) key) W') 104 #[.pointer (some ⟨gw, 0, none⟩), .slice (some ⟨g2, 0, none⟩) 32 32] 7 rfl kj kj ((rawW base gw _ key _ _ (Nat.le_trans hbw x1.size) ws3 (by omega) hkb (fun W e => (QaS 0 hkl (ExtB.row e r2_1 (Ne.symm (Nat.ne_of_lt (Nat.lt_of_lt_of_le hgw b2)))) (fun i hi => QaJ [] [#[.slice sa rows.length sc_]] key 0 i (0 + i) kj rfl (by rw [hkl]; exact hi)) (Qa5 (ExtB.row e r2_1 (Ne.symm (Nat.ne_of_lt (Nat.lt_of_lt_of_le hgw b2))))) (Nat.le_refl _) (by decide)))).mono (by rintro e w' ⟨rfl, h1, h2⟩; exact ⟨_, rfl, rfl, h1, h2⟩)) fun v5 W2 h5 => ?_
  obtain ⟨rfl, q2, ws5⟩ := h5
  have x2 : GW base gw w W2 := GW.trans x1 q2
  refine Qaf ?_
  refine hK4 _ _ ?_
  refine Qae ?_
  refine Qab (.pointer (some ⟨gw, 0, none⟩)) 8 rfl kj kj ?_
  refine Qab (.pointer (some ⟨g2, 32, none⟩)) 9 rfl kj kj ?_
  have r2_2 := (GW.row q2 r2_1 (by decide) (Ne.symm (Nat.ne_of_lt (Nat.lt_of_lt_of_le hgw b2))))
  refine Qab (.slice sa rows.length sc_) 10 rfl kj (Qal 127 _ g2 32 129 _ (.slice sa rows.length sc_) _ r2_2 rfl kj (Qaq [ints .u8 (key)] [#[.slice sa rows.length sc_]] [] 32 ((Qad _ _).trans hkl) 0 _ rfl) kj) ?_
  refine Qah (fun v W' => v = .tuple #[] ∧ GW base gw W2 W' ∧ WSt base gw (QcW (rawS s key) rows) W') 130 #[.pointer (some ⟨gw, 0, none⟩), .slice sa rows.length sc_, .func (.func 117) #[] #[]] 11 rfl kj kj ((Qgq base gw _ rows _ _ _ (Nat.le_trans hbw x2.size) hbg ws5 hrn hrl (LsAt.gw rwK hrows x2 hbg)).mono (by rintro e w' ⟨rfl, h1, h2⟩; exact ⟨_, rfl, rfl, h1, h2⟩)) fun v6 W3 h6 => ?_
  obtain ⟨rfl, q3, ws6⟩ := h6
  have x3 : GW base gw w W3 := GW.trans x2 q3
  refine Qaf ?_
  repeat (first | with_reducible refine goX1 ?_ | with_reducible refine goX2 ?_ | with_reducible refine goX3 ?_)
  exact (show bodyPost _ _ _ .normal _ _ from end0 rfl ⟨rfl, x3, ws6⟩)
set_option maxHeartbeats 4000000 in
set_option maxRecDepth 100000 in
theorem Qgp (base gw : Nat) (s : Option (List Int)) (ts : List StV) (a_t : Option Addr) (c_t : Nat) (w : World) (hbw : base ≤ w.heap.size) (hbg : base ≤ gw) (h : WSt base gw s w) (htl : ts.length ≤ 1000000) (hrs : ∀ t ∈ ts, t.rows.length ≤ 1000000 ∧ ∀ r ∈ t.rows, True) (hls : LsAt StAt 33 st0 base w a_t ts) : Calls Try.prog 125 #[.pointer (some ⟨gw, 0, none⟩), .slice a_t ts.length c_t, .func (.func 126) #[] #[]] w (fun e W => e = .returned (.tuple #[]) ∧ GW base gw w W ∧ WSt base gw (QcU s ts) W) := by
 have hgw := h.lt
 refine enter 27 [(0, .pointer (some ⟨gw, 0, none⟩)), (1, .slice a_t ts.length c_t), (2, .func (.func 126) #[] #[])] Try.func125 rfl rfl kj rfl ?_
 refine wp_seq_k fun K1 hK1 => ?_
 refine Qae ?_
 refine Qab (.pointer (some ⟨gw, 0, none⟩)) 8 rfl kj kj ?_
 refine Qab (.slice a_t ts.length c_t) 9 rfl kj kj ?_
 refine Qab (.int .i64 ((ts.length : Nat) : Int)) 10 rfl kj kj ?_
 refine Qah (fun v W' => v = .tuple #[] ∧ GW base gw w W' ∧ WSt base gw (numS s ((ts.length : Nat) : Int) 1) W') 105 #[.pointer (some ⟨gw, 0, none⟩), .int .i64 ((ts.length : Nat) : Int), .int .i64 1] 11 rfl kj kj ((QaW base gw s ((ts.length : Nat) : Int) 1 _ (Nat.le_trans hbw (GW.refl base gw w).size) h (by decide)).mono (by rintro e w' ⟨rfl, h1, h2⟩; exact ⟨_, rfl, rfl, h1, h2⟩)) fun v2 W1 h2 => ?_
 obtain ⟨rfl, q1, ws2⟩ := h2
 have x1 : GW base gw w W1 := GW.trans (GW.refl base gw w) q1
 refine Qaf ?_
 refine hK1 _ _ ?_
 refine wp_seq_k fun K3 hK3 => ?_
 refine Qae ?_
 refine Qab (.slice a_t ts.length c_t) 12 rfl kj kj ?_
 refine Qab (.int .i64 ((ts.length : Nat) : Int)) 13 rfl kj kj ?_
 refine Qab (.int .i64 0) 14 rfl kj kj ?_
 refine Qaf ?_
 refine hK3 _ _ ?_
 refine wp_block ?_
 refine QaX (fun (s1 : Nat × Option (List Int)) => [(0, .pointer (some ⟨gw, 0, none⟩)), (2, .func (.func 126) #[] #[]), (12, .slice a_t ts.length c_t), (13, .int .i64 ((ts.length : Nat) : Int)), (14, .int .i64 ((s1.1 : Nat) : Int))]) (fun (s1 : Nat × Option (List Int)) W => (s1.1 ≤ ts.length) ∧ (WSt base gw s1.2 W) ∧ ((ts.drop s1.1).foldl Qdy s1.2 = QcU s ts) ∧ (GW base gw w W)) (fun (s1 : Nat × Option (List Int)) => ts.length - s1.1) (0, numS s ((ts.length : Nat) : Int) 1) ⟨rfl, rfl, rfl, rfl, rfl, trivial⟩ ⟨(Nat.zero_le _), ws2, rfl, x1⟩ fun s1 X1 V1 hI1 => ?_
 obtain ⟨i, sc⟩ := s1
 obtain ⟨hi, hws, hnum, xx1⟩ := hI1
 replace hi : i ≤ ts.length := hi
 replace hws : WSt base gw sc V1 := hws
 replace hnum : (ts.drop i).foldl Qdy sc = QcU s ts := hnum
 replace xx1 : GW base gw w V1 := xx1
 refine wp_seq_k fun K4 hK4 => ?_
 refine Qae ?_
 refine Qab (.bool (decide (((i : Nat) : Int) < ((ts.length : Nat) : Int)))) 15 rfl kj kj ?_
 refine Qaf ?_
 refine hK4 _ _ ?_
 refine wp_seq_k fun K5 hK5 => ?_
 refine Qa7 (t := decide (((i : Nat) : Int) < ((ts.length : Nat) : Int))) kj (fun c6 => ?_) (fun c6 => ?_)
 ·skip
  have hlt15 : i < ts.length := by have := of_decide_eq_true c6; omega
  refine wp_skip ?_
  refine hK5 _ _ ?_
  refine wp_seq_k fun K7 hK7 => ?_
  refine wp_block ?_
  refine wp_seq_k fun K8 hK8 => ?_
  refine Qae ?_
  obtain ⟨gTnd, oTnd, hatnd, helsnd⟩ := (LsAt.gw stK hls xx1 hbg)
  have helnd := helsnd i (by omega)
  obtain ⟨_, _, -, hels0nd⟩ := id hls
  have hel0nd := hels0nd i (by omega)
  have hmemnd := QbI ts st0 i (by omega)
  obtain ⟨nd, hndnd⟩ : ∃ z, z = ts.getD i st0 := ⟨_, rfl⟩
  rw [← hndnd] at helnd hel0nd hmemnd
  refine Qab (.pointer (some ⟨gTnd, oTnd + i * 33, none⟩)) 16 rfl kj (Qb2 55 _ _ .i64 i gTnd oTnd ts.length c_t 129 33 a_t (hatnd (by omega)) rfl kj kj kj kj (by omega)) ?_
  obtain ⟨u0nd, hu0nd⟩ := QhE nd helnd.kl
  refine Qab (.agg (cat [ints .u8 (nd.key), #[.slice nd.a nd.rows.length nd.c]])) 17 rfl kj (QbT 129 _ gTnd (oTnd + i * 33) 33 (cat (stP nd)) u0nd hu0nd (QbR nd helnd.kl) helnd.cell rfl kj kj kj) ?_
  refine Qar (cat [ints .u8 (List.replicate 32 0), #[.slice none 0 0]]) 129 7 rfl kj kj fun g9 W3 l9 e3 r9_3 => ?_
  have x3 : GW base gw w W3 := GW.ext xx1 e3
  have ws10 := WSt.ext hws e3
  have b9 : w.heap.size ≤ g9 := Nat.le_trans xx1.size l9
  refine Qav g9 _ (cat [ints .u8 (nd.key), #[.slice nd.a nd.rows.length nd.c]]) 129 r9_3 rfl kj (Qat 129 _ _ g9 129 _ _ r9_3 rfl kj kj (isz (n := 33) kj (by rw [Qaa, Qaa]; simp only [Array.size_append, cat, ((Qad _ _).trans hel0nd.kl)]; rfl)) (eqsz (n := 33) (by rw [Qaa, Qaa]; simp only [Array.size_append, cat, ((Qad _ _).trans (List.length_replicate (n := 32)))]; rfl) (by rw [Qaa, Qaa]; simp only [Array.size_append, cat, ((Qad _ _).trans hel0nd.kl)]; rfl)) (QaC _ (by intro a ha; simp only [List.mem_cons, List.not_mem_nil, or_false] at ha; rcases ha with rfl | rfl; exact (Qan _ _); exact (Qak _ rfl)))) fun W4 p4 r9_4 => ?_
  have x4 : GW base gw w W4 := GW.put x3 p4 b9
  have ws11 := WSt.put ws10 p4 r9_3 (by decide) (Nat.ne_of_lt (Nat.lt_of_lt_of_le hgw b9))
  refine Qaf ?_
  refine hK8 _ _ ?_
  refine wp_seq_k fun K12 hK12 => ?_
  refine wp_seq_k fun K13 hK13 => ?_
  refine Qae ?_
  obtain ⟨u14, xs14, bad, rb14, -, -, -, hsc⟩ := id ws11
  refine Qab (.pointer (some ⟨gw, 0, none⟩)) 18 rfl kj kj ?_
  refine Qab (.pointer (some ⟨gw, 0, none⟩)) 19 rfl kj kj ?_
  refine Qab (.pointer (some ⟨gw, 1, none⟩)) 20 rfl kj kj ?_
  refine Qab (.bool bad) 21 rfl kj (Qal 4 _ gw 1 174 _ (.bool bad) _ rb14 rfl kj kj kj) ?_
  refine Qaf ?_
  refine hK13 _ _ ?_
  refine Qa7 (t := bad) kj (fun c16 => ?_) (fun c16 => ?_)
  ·skip
   have hbad : bad = true := c16
   have h9 : sc = none := by rw [hsc, hbad]; rfl
   have h8 : QcU s ts = none := by rw [← hnum, h9]; exact Qcs QeJ _
   refine wp_ret ?_
   repeat (first | with_reducible refine goR1 ?_ | with_reducible refine goR2 ?_)
   exact (show bodyPost _ _ _ .ret _ _ from ret0 rfl ⟨rfl, x4, by rw [h8, ← h9]; exact ws11⟩)
  ·skip
   refine wp_skip ?_
   refine hK12 _ _ ?_
   refine Qae ?_
   refine Qab (.func (.func 126) #[] #[]) 22 rfl kj kj ?_
   refine Qab (.pointer (some ⟨gw, 0, none⟩)) 23 rfl kj kj ?_
   refine Qab (.agg (cat [ints .u8 (nd.key), #[.slice nd.a nd.rows.length nd.c]])) 24 rfl kj (Qaz 129 _ g9 129 _ _ r9_4 rfl kj kj (isz (n := 33) kj (by rw [Qaa, Qaa]; simp only [Array.size_append, cat, ((Qad _ _).trans hel0nd.kl)]; rfl))) ?_
   refine Qah (fun v W' => v = .tuple #[] ∧ GW base gw W4 W' ∧ WSt base gw (Qdy sc nd) W') 126 #[.pointer (some ⟨gw, 0, none⟩), .agg (cat [ints .u8 (nd.key), #[.slice nd.a nd.rows.length nd.c]])] 25 rfl kj kj ((Qik base gw sc nd.key nd.rows nd.a nd.c _ (Nat.le_trans hbw x4.size) hbg ws11 hel0nd.kl hel0nd.kb (hrs nd hmemnd).1 (hrs nd hmemnd).2 (LsAt.gw rwK hel0nd.rows x4 hbg)).mono (by rintro e w' ⟨rfl, h1, h2⟩; exact ⟨_, rfl, rfl, h1, h2⟩)) fun v17 W5 h17 => ?_
   obtain ⟨rfl, q5, ws17⟩ := h17
   have x5 : GW base gw w W5 := GW.trans x4 q5
   refine Qaf ?_
   refine hK7 _ _ ?_
   refine Qae ?_
   refine Qab (.int .i64 ((i + 1 : Nat) : Int)) 26 rfl kj (Qa0 (u := .int .i64 (IntKind.i64.wrap (((i : Nat) : Int) + 1))) kj (congrArg (Value.int .i64) (i64n _ _ (by omega) (by omega)))) ?_
   refine Qab (.int .i64 ((i + 1 : Nat) : Int)) 14 rfl kj kj ?_
   refine Qaf ?_
   repeat (first | with_reducible refine goX1 ?_ | with_reducible refine goX2 ?_ | with_reducible refine goX3 ?_)
   exact QaU ((i + 1), Qdy sc nd) ⟨rfl, rfl, rfl, rfl, rfl, trivial⟩ ⟨(by omega), ws17, (by rw [← hnum, Qcz ts st0 i hlt15, ← hndnd]; rfl), x5⟩ (by omega)
 ·skip
  have heq15 : i = ts.length := by have := of_decide_eq_false c6; omega
  refine wp_exit ?_
  repeat (first | with_reducible refine goX1 ?_ | with_reducible refine goX2 ?_ | with_reducible refine goX3 ?_)
  exact (show bodyPost _ _ _ .normal _ _ from end0 rfl ⟨rfl, xx1, by have h9 : sc = QcU s ts := (by have h7 := hnum; rw [heq15, List.drop_length] at h7; exact h7); rw [← h9]; exact hws⟩)
set_option maxHeartbeats 4000000 in
set_option maxRecDepth 100000 in
theorem Qgr (base gw : Nat) (s : Option (List Int)) (ts : List PrV) (a_t : Option Addr) (c_t : Nat) (w : World) (hbw : base ≤ w.heap.size) (hbg : base ≤ gw) (h : WSt base gw s w) (htl : ts.length ≤ 1000000) (hms : ∀ p ∈ ts, p.p.n.ms.length ≤ 1000000) (hls : LsAt PrAt 263 pr0 base w a_t ts) : Calls Try.prog 113 #[.pointer (some ⟨gw, 0, none⟩), .slice a_t ts.length c_t, .func (.func 57) #[] #[]] w (fun e W => e = .returned (.tuple #[]) ∧ GW base gw w W ∧ WSt base gw (QbZ s ts) W) := by
 have hgw := h.lt
 refine enter 27 [(0, .pointer (some ⟨gw, 0, none⟩)), (1, .slice a_t ts.length c_t), (2, .func (.func 57) #[] #[])] Try.func113 rfl rfl kj rfl ?_
 refine wp_seq_k fun K1 hK1 => ?_
 refine Qae ?_
 refine Qab (.pointer (some ⟨gw, 0, none⟩)) 8 rfl kj kj ?_
 refine Qab (.slice a_t ts.length c_t) 9 rfl kj kj ?_
 refine Qab (.int .i64 ((ts.length : Nat) : Int)) 10 rfl kj kj ?_
 refine Qah (fun v W' => v = .tuple #[] ∧ GW base gw w W' ∧ WSt base gw (numS s ((ts.length : Nat) : Int) 1) W') 105 #[.pointer (some ⟨gw, 0, none⟩), .int .i64 ((ts.length : Nat) : Int), .int .i64 1] 11 rfl kj kj ((QaW base gw s ((ts.length : Nat) : Int) 1 _ (Nat.le_trans hbw (GW.refl base gw w).size) h (by decide)).mono (by rintro e w' ⟨rfl, h1, h2⟩; exact ⟨_, rfl, rfl, h1, h2⟩)) fun v2 W1 h2 => ?_
 obtain ⟨rfl, q1, ws2⟩ := h2
 have x1 : GW base gw w W1 := GW.trans (GW.refl base gw w) q1
 refine Qaf ?_
 refine hK1 _ _ ?_
 refine wp_seq_k fun K3 hK3 => ?_
 refine Qae ?_
 refine Qab (.slice a_t ts.length c_t) 12 rfl kj kj ?_
 refine Qab (.int .i64 ((ts.length : Nat) : Int)) 13 rfl kj kj ?_
 refine Qab (.int .i64 0) 14 rfl kj kj ?_
 refine Qaf ?_
 refine hK3 _ _ ?_
 refine wp_block ?_
 refine QaX (fun (s1 : Nat × Option (List Int)) => [(0, .pointer (some ⟨gw, 0, none⟩)), (2, .func (.func 57) #[] #[]), (12, .slice a_t ts.length c_t), (13, .int .i64 ((ts.length : Nat) : Int)), (14, .int .i64 ((s1.1 : Nat) : Int))]) (fun (s1 : Nat × Option (List Int)) W => (s1.1 ≤ ts.length) ∧ (WSt base gw s1.2 W) ∧ ((ts.drop s1.1).foldl QdB s1.2 = QbZ s ts) ∧ (GW base gw w W)) (fun (s1 : Nat × Option (List Int)) => ts.length - s1.1) (0, numS s ((ts.length : Nat) : Int) 1) ⟨rfl, rfl, rfl, rfl, rfl, trivial⟩ ⟨(Nat.zero_le _), ws2, rfl, x1⟩ fun s1 X1 V1 hI1 => ?_
 obtain ⟨i, sc⟩ := s1
 obtain ⟨hi, hws, hnum, xx1⟩ := hI1
 replace hi : i ≤ ts.length := hi
 replace hws : WSt base gw sc V1 := hws
 replace hnum : (ts.drop i).foldl QdB sc = QbZ s ts := hnum
 replace xx1 : GW base gw w V1 := xx1
 refine wp_seq_k fun K4 hK4 => ?_
 refine Qae ?_
 refine Qab (.bool (decide (((i : Nat) : Int) < ((ts.length : Nat) : Int)))) 15 rfl kj kj ?_
 refine Qaf ?_
 refine hK4 _ _ ?_
 refine wp_seq_k fun K5 hK5 => ?_
 refine Qa7 (t := decide (((i : Nat) : Int) < ((ts.length : Nat) : Int))) kj (fun c6 => ?_) (fun c6 => ?_)
 ·skip
  have hlt15 : i < ts.length := by have := of_decide_eq_true c6; omega
  refine wp_skip ?_
  refine hK5 _ _ ?_
  refine wp_seq_k fun K7 hK7 => ?_
  refine wp_block ?_
  refine wp_seq_k fun K8 hK8 => ?_
  refine Qae ?_
  obtain ⟨gTnd, oTnd, hatnd, helsnd⟩ := (LsAt.gw prK hls xx1 hbg)
  have helnd := helsnd i (by omega)
  obtain ⟨_, _, -, hels0nd⟩ := id hls
  have hel0nd := hels0nd i (by omega)
  have hmemnd := QbI ts pr0 i (by omega)
  obtain ⟨nd, hndnd⟩ : ∃ z, z = ts.getD i pr0 := ⟨_, rfl⟩
  rw [← hndnd] at helnd hel0nd hmemnd
  have hok := hel0nd.ok
  refine Qab (.pointer (some ⟨gTnd, oTnd + i * 263, none⟩)) 16 rfl kj (Qb2 54 _ _ .i64 i gTnd oTnd ts.length c_t 47 263 a_t (hatnd (by omega)) rfl kj kj kj kj (by omega)) ?_
  obtain ⟨u0nd, hu0nd⟩ := QhO nd helnd.ok
  refine Qab (.agg (cat [ints .u8 (nd.p.grp), #[.int .i64 nd.p.ep], #[.int .i64 nd.p.fr], ints .u8 (nd.p.bas), #[.int .i64 nd.p.kd], #[.bool nd.p.n.us], #[.int .i64 nd.p.n.nm], ints .u8 (nd.p.n.key), ints .u8 (nd.p.n.sg), ints .u8 (nd.p.n.pa), #[.slice nd.a nd.p.n.ms.length nd.c], ints .u8 (nd.p.start), #[.int .i64 nd.p.at_], ints .u8 (nd.p.sig)])) 17 rfl kj (QbT 47 _ gTnd (oTnd + i * 263) 263 (cat (prP nd)) u0nd hu0nd (QbU nd helnd.ok) helnd.cell rfl kj kj kj) ?_
  refine Qar (cat [ints .u8 (List.replicate 32 0), #[.int .i64 0], #[.int .i64 0], ints .u8 (List.replicate 32 0), #[.int .i64 0], #[.bool false], #[.int .i64 0], ints .u8 (List.replicate 32 0), ints .u8 (List.replicate 32 0), ints .u8 (List.replicate 32 0), #[.slice none 0 0], ints .u8 (List.replicate 32 0), #[.int .i64 0], ints .u8 (List.replicate 64 0)]) 47 7 rfl kj (QaG 47 _ rfl (QbD _)) fun g9 W3 l9 e3 r9_3 => ?_
  have x3 : GW base gw w W3 := GW.ext xx1 e3
  have ws10 := WSt.ext hws e3
  have b9 : w.heap.size ≤ g9 := Nat.le_trans xx1.size l9
  refine Qav g9 _ (cat [ints .u8 (nd.p.grp), #[.int .i64 nd.p.ep], #[.int .i64 nd.p.fr], ints .u8 (nd.p.bas), #[.int .i64 nd.p.kd], #[.bool nd.p.n.us], #[.int .i64 nd.p.n.nm], ints .u8 (nd.p.n.key), ints .u8 (nd.p.n.sg), ints .u8 (nd.p.n.pa), #[.slice nd.a nd.p.n.ms.length nd.c], ints .u8 (nd.p.start), #[.int .i64 nd.p.at_], ints .u8 (nd.p.sig)]) 47 r9_3 rfl kj (Qat 47 _ _ g9 47 _ _ r9_3 rfl kj kj (isz (n := 263) kj (by rw [Qaa, Qaa, Qaa, Qaa, Qaa, Qaa, Qaa, Qaa, Qaa, Qaa, Qaa, Qaa, Qaa, Qaa]; simp only [Array.size_append, cat, ((Qad _ _).trans hok.al), ((Qad _ _).trans hok.il), ((Qad _ _).trans hok.n.gl), ((Qad _ _).trans hok.n.kl), ((Qad _ _).trans hok.n.pl), ((Qad _ _).trans hok.rl), ((Qad _ _).trans hok.tl)]; rfl)) (eqsz (n := 263) (by rw [Qaa, Qaa, Qaa, Qaa, Qaa, Qaa, Qaa, Qaa, Qaa, Qaa, Qaa, Qaa, Qaa, Qaa]; simp only [Array.size_append, cat, ((Qad _ _).trans (List.length_replicate (n := 32))), ((Qad _ _).trans (List.length_replicate (n := 64)))]; rfl) (by rw [Qaa, Qaa, Qaa, Qaa, Qaa, Qaa, Qaa, Qaa, Qaa, Qaa, Qaa, Qaa, Qaa, Qaa]; simp only [Array.size_append, cat, ((Qad _ _).trans hok.al), ((Qad _ _).trans hok.il), ((Qad _ _).trans hok.n.gl), ((Qad _ _).trans hok.n.kl), ((Qad _ _).trans hok.n.pl), ((Qad _ _).trans hok.rl), ((Qad _ _).trans hok.tl)]; rfl)) (QaC _ (by intro a ha; simp only [List.mem_cons, List.not_mem_nil, or_false] at ha; rcases ha with rfl | rfl | rfl | rfl | rfl | rfl | rfl | rfl | rfl | rfl | rfl | rfl | rfl | rfl; exact (Qan _ _); exact (Qak _ rfl); exact (Qak _ rfl); exact (Qan _ _); exact (Qak _ rfl); exact (Qak _ rfl); exact (Qak _ rfl); exact (Qan _ _); exact (Qan _ _); exact (Qan _ _); exact (Qak _ rfl); exact (Qan _ _); exact (Qak _ rfl); exact (Qan _ _)))) fun W4 p4 r9_4 => ?_
  have x4 : GW base gw w W4 := GW.put x3 p4 b9
  have ws11 := WSt.put ws10 p4 r9_3 (by decide) (Nat.ne_of_lt (Nat.lt_of_lt_of_le hgw b9))
  refine Qaf ?_
  refine hK8 _ _ ?_
  refine wp_seq_k fun K12 hK12 => ?_
  refine wp_seq_k fun K13 hK13 => ?_
  refine Qae ?_
  obtain ⟨u14, xs14, bad, rb14, -, -, -, hsc⟩ := id ws11
  refine Qab (.pointer (some ⟨gw, 0, none⟩)) 18 rfl kj kj ?_
  refine Qab (.pointer (some ⟨gw, 0, none⟩)) 19 rfl kj kj ?_
  refine Qab (.pointer (some ⟨gw, 1, none⟩)) 20 rfl kj kj ?_
  refine Qab (.bool bad) 21 rfl kj (Qal 4 _ gw 1 174 _ (.bool bad) _ rb14 rfl kj kj kj) ?_
  refine Qaf ?_
  refine hK13 _ _ ?_
  refine Qa7 (t := bad) kj (fun c16 => ?_) (fun c16 => ?_)
  ·skip
   have hbad : bad = true := c16
   have h9 : sc = none := by rw [hsc, hbad]; rfl
   have h8 : QbZ s ts = none := by rw [← hnum, h9]; exact Qcs QeP _
   refine wp_ret ?_
   repeat (first | with_reducible refine goR1 ?_ | with_reducible refine goR2 ?_)
   exact (show bodyPost _ _ _ .ret _ _ from ret0 rfl ⟨rfl, x4, by rw [h8, ← h9]; exact ws11⟩)
  ·skip
   refine wp_skip ?_
   refine hK12 _ _ ?_
   refine Qae ?_
   refine Qab (.func (.func 57) #[] #[]) 22 rfl kj kj ?_
   refine Qab (.pointer (some ⟨gw, 0, none⟩)) 23 rfl kj kj ?_
   refine Qab (.agg (cat [ints .u8 (nd.p.grp), #[.int .i64 nd.p.ep], #[.int .i64 nd.p.fr], ints .u8 (nd.p.bas), #[.int .i64 nd.p.kd], #[.bool nd.p.n.us], #[.int .i64 nd.p.n.nm], ints .u8 (nd.p.n.key), ints .u8 (nd.p.n.sg), ints .u8 (nd.p.n.pa), #[.slice nd.a nd.p.n.ms.length nd.c], ints .u8 (nd.p.start), #[.int .i64 nd.p.at_], ints .u8 (nd.p.sig)])) 24 rfl kj (Qaz 47 _ g9 47 _ _ r9_4 rfl kj kj (isz (n := 263) kj (by rw [Qaa, Qaa, Qaa, Qaa, Qaa, Qaa, Qaa, Qaa, Qaa, Qaa, Qaa, Qaa, Qaa, Qaa]; simp only [Array.size_append, cat, ((Qad _ _).trans hok.al), ((Qad _ _).trans hok.il), ((Qad _ _).trans hok.n.gl), ((Qad _ _).trans hok.n.kl), ((Qad _ _).trans hok.n.pl), ((Qad _ _).trans hok.rl), ((Qad _ _).trans hok.tl)]; rfl))) ?_
   refine Qah (fun v W' => v = .tuple #[] ∧ GW base gw W4 W' ∧ WSt base gw (QdB sc nd) W') 57 #[.pointer (some ⟨gw, 0, none⟩), .agg (cat [ints .u8 (nd.p.grp), #[.int .i64 nd.p.ep], #[.int .i64 nd.p.fr], ints .u8 (nd.p.bas), #[.int .i64 nd.p.kd], #[.bool nd.p.n.us], #[.int .i64 nd.p.n.nm], ints .u8 (nd.p.n.key), ints .u8 (nd.p.n.sg), ints .u8 (nd.p.n.pa), #[.slice nd.a nd.p.n.ms.length nd.c], ints .u8 (nd.p.start), #[.int .i64 nd.p.at_], ints .u8 (nd.p.sig)])] 25 rfl kj kj ((Qf7 base gw sc nd.p.grp nd.p.ep nd.p.fr nd.p.bas nd.p.kd nd.p.n.us nd.p.n.nm nd.p.n.key nd.p.n.sg nd.p.n.pa nd.p.n.ms nd.p.start nd.p.at_ nd.p.sig nd.a nd.c _ (Nat.le_trans hbw x4.size) hbg ws11 hok.rl hok.rb hok.al hok.ab hok.n.kl hok.n.gl hok.n.pl hok.n.kb hok.n.gb hok.n.pb (hms nd hmemnd) hok.tl hok.tb hok.il hok.ib (Qck hel0nd.rd x4 hbg)).mono (by rintro e w' ⟨rfl, h1, h2⟩; exact ⟨_, rfl, rfl, h1, h2⟩)) fun v17 W5 h17 => ?_
   obtain ⟨rfl, q5, ws17⟩ := h17
   have x5 : GW base gw w W5 := GW.trans x4 q5
   refine Qaf ?_
   refine hK7 _ _ ?_
   refine Qae ?_
   refine Qab (.int .i64 ((i + 1 : Nat) : Int)) 26 rfl kj (Qa0 (u := .int .i64 (IntKind.i64.wrap (((i : Nat) : Int) + 1))) kj (congrArg (Value.int .i64) (i64n _ _ (by omega) (by omega)))) ?_
   refine Qab (.int .i64 ((i + 1 : Nat) : Int)) 14 rfl kj kj ?_
   refine Qaf ?_
   repeat (first | with_reducible refine goX1 ?_ | with_reducible refine goX2 ?_ | with_reducible refine goX3 ?_)
   exact QaU ((i + 1), QdB sc nd) ⟨rfl, rfl, rfl, rfl, rfl, trivial⟩ ⟨(by omega), ws17, (by rw [← hnum, Qcz ts pr0 i hlt15, ← hndnd]; rfl), x5⟩ (by omega)
 ·skip
  have heq15 : i = ts.length := by have := of_decide_eq_false c6; omega
  refine wp_exit ?_
  repeat (first | with_reducible refine goX1 ?_ | with_reducible refine goX2 ?_ | with_reducible refine goX3 ?_)
  exact (show bodyPost _ _ _ .normal _ _ from end0 rfl ⟨rfl, xx1, by have h9 : sc = QbZ s ts := (by have h7 := hnum; rw [heq15, List.drop_length] at h7; exact h7); rw [← h9]; exact hws⟩)
end Go.Proofs.Ytfelfmchachljaa.Wr
end
section
namespace Go.Proofs.Ytfelfmchachljaa.Wr
open Go Go.RowKit
open Rely Auto Own Sha
set_option linter.unusedVariables false
set_option linter.unusedSimpArgs false
structure CmAt (B : Nat) (w : World) (ps : List PrV) (a_p : Option Addr) (n : NdC) (a_m : Option Addr) (c_m : Nat) (ts : List StV) (a_t : Option Addr) : Prop where
  ps : LsAt PrAt 263 pr0 B w a_p ps
  m : RdK .i64 B n.ms (.slice a_m n.ms.length c_m) w
  ts : LsAt StAt 33 st0 B w a_t ts
section
variable {B : Nat} {w W : World} {ps : List PrV} {a_p : Option Addr} {n : NdC} {a_m : Option Addr} {c_m : Nat} {ts : List StV} {a_t : Option Addr}
theorem CmAt.ext (h : CmAt B w ps a_p n a_m c_m ts a_t) (e : Ext w W) : CmAt B W ps a_p n a_m c_m ts a_t := ⟨h.ps.ext prK e, h.m.ext e, h.ts.ext stK e⟩
theorem CmAt.here (h : CmAt B w ps a_p n a_m c_m ts a_t) : CmAt w.heap.size w ps a_p n a_m c_m ts a_t := ⟨h.ps.here prK, RdK.here h.m, h.ts.here stK⟩
theorem CmAt.more {B' : Nat} (h : CmAt B w ps a_p n a_m c_m ts a_t) (hb : B ≤ B') : CmAt B' w ps a_p n a_m c_m ts a_t := ⟨h.ps.more prK hb, RdK.more h.m hb, h.ts.more stK hb⟩
end
structure CmSz (ps : List PrV) (n : NdC) (ts : List StV) : Prop where
  pn : ps.length ≤ 1000000
  pm : ∀ p ∈ ps, p.p.n.ms.length ≤ 1000000
  nm : n.ms.length ≤ 1000000
  tn : ts.length ≤ 1000000
  tr : ∀ t ∈ ts, t.rows.length ≤ 1000000 ∧ ∀ r ∈ t.rows, True
structure CmOk (grp bas : List Int) (n : NdC) (tag sig : List Int) : Prop where
  rl : grp.length = 32
  rb : Qao grp
  al : bas.length = 32
  ab : Qao bas
  n : NdOk n
  gl : tag.length = 32
  gb : Qao tag
  il : sig.length = 64
  ib : Qao sig
set_option maxHeartbeats 4000000 in
set_option maxRecDepth 100000 in
theorem Qir (base gw : Nat) (s : Option (List Int)) (grp : List Int) (ep fr : Int) (bas : List Int) (ps : List PrV) (n : NdC) (ts : List StV) (tag sig : List Int) (a_p : Option Addr) (c_p : Nat) (a_m : Option Addr) (c_m : Nat) (a_t : Option Addr) (c_t : Nat) (w : World) (hbw : base ≤ w.heap.size) (hbg : base ≤ gw) (h : WSt base gw s w) (ho : CmOk grp bas n tag sig) (hz : CmSz ps n ts) (hm : RdK .i64 base n.ms (.slice a_m n.ms.length c_m) w) (hls : LsAt StAt 33 st0 base w a_t ts) : Calls Try.prog 114 #[.pointer (some ⟨gw, 0, none⟩), .agg (cat [#[.bool n.us], #[.int .i64 n.nm], ints .u8 (n.key), ints .u8 (n.sg), ints .u8 (n.pa), #[.slice a_m n.ms.length c_m], #[.slice a_t ts.length c_t]])] w (fun e W => e = .returned (.tuple #[]) ∧ GW base gw w W ∧ WSt base gw (Qee s n ts) W) := by
  have hgw := h.lt
  refine enter 18 [(0, .pointer (some ⟨gw, 0, none⟩)), (1, .agg (cat [#[.bool n.us], #[.int .i64 n.nm], ints .u8 (n.key), ints .u8 (n.sg), ints .u8 (n.pa), #[.slice a_m n.ms.length c_m], #[.slice a_t ts.length c_t]]))] Try.func114 rfl rfl kj rfl ?_
  refine wp_seq_k fun K1 hK1 => ?_
  refine Qae ?_
  refine Qar (cat [#[.bool n.us], #[.int .i64 n.nm], ints .u8 (n.key), ints .u8 (n.sg), ints .u8 (n.pa), #[.slice a_m n.ms.length c_m], #[.slice a_t ts.length c_t]]) 57 3 rfl kj kj fun g2 W1 l2 e1 r2_1 => ?_
  have x1 : GW base gw w W1 := GW.ext (GW.refl base gw w) e1
  have ws3 := WSt.ext h e1
  have b2 : w.heap.size ≤ g2 := Nat.le_trans (GW.refl base gw w).size l2
  refine Qaf ?_
  refine hK1 _ _ ?_
  refine wp_seq_k fun K4 hK4 => ?_
  refine Qae ?_
  refine Qab (.pointer (some ⟨gw, 0, none⟩)) 4 rfl kj kj ?_
  refine Qab (.pointer (some ⟨g2, 0, none⟩)) 5 rfl kj kj ?_
  refine Qab (.agg (cat [#[.bool n.us], #[.int .i64 n.nm], ints .u8 (n.key), ints .u8 (n.sg), ints .u8 (n.pa), #[.slice a_m n.ms.length c_m]])) 6 rfl kj (Qay 43 _ g2 0 57 _ _ _ r2_1 rfl kj (Qaq [] [#[.bool n.us], #[.int .i64 n.nm], ints .u8 (n.key), ints .u8 (n.sg), ints .u8 (n.pa), #[.slice a_m n.ms.length c_m]] [#[.slice a_t ts.length c_t]] 0 kj) kj (isz (n := 99) kj (by rw [Qaa, Qaa, Qaa, Qaa, Qaa, Qaa]; simp only [Array.size_append, cat, ((Qad _ _).trans ho.n.gl), ((Qad _ _).trans ho.n.kl), ((Qad _ _).trans ho.n.pl)]; rfl))) ?_
  refine Qah (fun v W' => v = .tuple #[] ∧ GW base gw W1 W' ∧ WSt base gw (QeA (s) n) W') 95 #[.pointer (some ⟨gw, 0, none⟩), .agg (cat [#[.bool n.us], #[.int .i64 n.nm], ints .u8 (n.key), ints .u8 (n.sg), ints .u8 (n.pa), #[.slice a_m n.ms.length c_m]])] 7 rfl kj kj ((Qhl base gw _ n.us n.nm n.key n.sg n.pa n.ms a_m c_m _ (Nat.le_trans hbw x1.size) hbg ws3 ho.n.kl ho.n.gl ho.n.pl ho.n.kb ho.n.gb ho.n.pb hz.nm (Qck hm x1 hbg)).mono (by rintro e w' ⟨rfl, h1, h2⟩; exact ⟨_, rfl, rfl, h1, h2⟩)) fun v5 W2 h5 => ?_
  obtain ⟨rfl, q2, ws5⟩ := h5
  have x2 : GW base gw w W2 := GW.trans x1 q2
  refine Qaf ?_
  refine hK4 _ _ ?_
  refine wp_seq_k fun K6 hK6 => ?_
  refine Qae ?_
  refine Qab (.pointer (some ⟨gw, 0, none⟩)) 8 rfl kj kj ?_
  refine Qab (.pointer (some ⟨g2, 99, none⟩)) 9 rfl kj kj ?_
  have r2_2 := (GW.row q2 r2_1 (by decide) (Ne.symm (Nat.ne_of_lt (Nat.lt_of_lt_of_le hgw b2))))
  refine Qab (.slice a_t ts.length c_t) 10 rfl kj (Qal 55 _ g2 99 57 _ (.slice a_t ts.length c_t) _ r2_2 rfl kj (Qaq [#[.bool n.us], #[.int .i64 n.nm], ints .u8 (n.key), ints .u8 (n.sg), ints .u8 (n.pa), #[.slice a_m n.ms.length c_m]] [#[.slice a_t ts.length c_t]] [] 99 (by rw [Qaa, Qaa, Qaa, Qaa, Qaa, Qaa]; simp only [Array.size_append, cat, ((Qad _ _).trans ho.n.gl), ((Qad _ _).trans ho.n.kl), ((Qad _ _).trans ho.n.pl)]; rfl) 0 _ rfl) kj) ?_
  refine Qab (.int .i64 ((ts.length : Nat) : Int)) 11 rfl kj kj ?_
  refine Qab (.bool (decide (((ts.length : Nat) : Int) ≤ 5))) 12 rfl kj kj ?_
  refine Qah (fun v W' => v = .tuple #[] ∧ GW base gw W2 W' ∧ WSt base gw (Qax (QeA (s) n) (decide (((ts.length : Nat) : Int) ≤ 5))) W') 98 #[.pointer (some ⟨gw, 0, none⟩), .bool (decide (((ts.length : Nat) : Int) ≤ 5))] 13 rfl kj kj ((QbA base gw _ (decide (((ts.length : Nat) : Int) ≤ 5)) _ ws5).mono (by rintro e w' ⟨rfl, h1, h2⟩; exact ⟨_, rfl, rfl, h1, h2⟩)) fun v7 W3 h7 => ?_
  obtain ⟨rfl, q3, ws7⟩ := h7
  have x3 : GW base gw w W3 := GW.trans x2 q3
  refine Qaf ?_
  refine hK6 _ _ ?_
  refine Qae ?_
  refine Qab (.pointer (some ⟨gw, 0, none⟩)) 14 rfl kj kj ?_
  refine Qab (.pointer (some ⟨g2, 99, none⟩)) 15 rfl kj kj ?_
  have r2_3 := (GW.row q3 r2_2 (by decide) (Ne.symm (Nat.ne_of_lt (Nat.lt_of_lt_of_le hgw b2))))
  refine Qab (.slice a_t ts.length c_t) 16 rfl kj (Qal 55 _ g2 99 57 _ (.slice a_t ts.length c_t) _ r2_3 rfl kj (Qaq [#[.bool n.us], #[.int .i64 n.nm], ints .u8 (n.key), ints .u8 (n.sg), ints .u8 (n.pa), #[.slice a_m n.ms.length c_m]] [#[.slice a_t ts.length c_t]] [] 99 (by rw [Qaa, Qaa, Qaa, Qaa, Qaa, Qaa]; simp only [Array.size_append, cat, ((Qad _ _).trans ho.n.gl), ((Qad _ _).trans ho.n.kl), ((Qad _ _).trans ho.n.pl)]; rfl) 0 _ rfl) kj) ?_
  refine Qah (fun v W' => v = .tuple #[] ∧ GW base gw W3 W' ∧ WSt base gw (Qee s n ts) W') 125 #[.pointer (some ⟨gw, 0, none⟩), .slice a_t ts.length c_t, .func (.func 126) #[] #[]] 17 rfl kj kj ((Qgp base gw _ ts _ _ _ (Nat.le_trans hbw x3.size) hbg ws7 hz.tn hz.tr (LsAt.gw stK hls x3 hbg)).mono (by rintro e w' ⟨rfl, h1, h2⟩; exact ⟨_, rfl, rfl, h1, h2⟩)) fun v8 W4 h8 => ?_
  obtain ⟨rfl, q4, ws8⟩ := h8
  have x4 : GW base gw w W4 := GW.trans x3 q4
  refine Qaf ?_
  repeat (first | with_reducible refine goX1 ?_ | with_reducible refine goX2 ?_ | with_reducible refine goX3 ?_)
  exact (show bodyPost _ _ _ .normal _ _ from end0 rfl ⟨rfl, x4, ws8⟩)
set_option maxHeartbeats 4000000 in
set_option maxRecDepth 100000 in
theorem Qiw (base gw : Nat) (s : Option (List Int)) (grp : List Int) (ep fr : Int) (bas : List Int) (ps : List PrV) (n : NdC) (ts : List StV) (tag sig : List Int) (a_p : Option Addr) (c_p : Nat) (a_m : Option Addr) (c_m : Nat) (a_t : Option Addr) (c_t : Nat) (w : World) (hbw : base ≤ w.heap.size) (hbg : base ≤ gw) (h : WSt base gw s w) (ho : CmOk grp bas n tag sig) (hz : CmSz ps n ts) (hcm : CmAt base w ps a_p n a_m c_m ts a_t) : Calls Try.prog 63 #[.pointer (some ⟨gw, 0, none⟩), .agg (cat [ints .u8 (grp), #[.int .i64 ep], #[.int .i64 fr], ints .u8 (bas), #[.slice a_p ps.length c_p], #[.bool n.us], #[.int .i64 n.nm], ints .u8 (n.key), ints .u8 (n.sg), ints .u8 (n.pa), #[.slice a_m n.ms.length c_m], #[.slice a_t ts.length c_t], ints .u8 (tag), ints .u8 (sig)])] w (fun e W => e = .returned (.tuple #[]) ∧ GW base gw w W ∧ WSt base gw (QdN s grp ep fr bas ps n ts tag sig) W) := by
  have hgw := h.lt
  refine enter 36 [(0, .pointer (some ⟨gw, 0, none⟩)), (1, .agg (cat [ints .u8 (grp), #[.int .i64 ep], #[.int .i64 fr], ints .u8 (bas), #[.slice a_p ps.length c_p], #[.bool n.us], #[.int .i64 n.nm], ints .u8 (n.key), ints .u8 (n.sg), ints .u8 (n.pa), #[.slice a_m n.ms.length c_m], #[.slice a_t ts.length c_t], ints .u8 (tag), ints .u8 (sig)]))] Try.func63 rfl rfl kj rfl ?_
  refine wp_seq_k fun K1 hK1 => ?_
  refine Qae ?_
  refine Qar (cat [ints .u8 (grp), #[.int .i64 ep], #[.int .i64 fr], ints .u8 (bas), #[.slice a_p ps.length c_p], #[.bool n.us], #[.int .i64 n.nm], ints .u8 (n.key), ints .u8 (n.sg), ints .u8 (n.pa), #[.slice a_m n.ms.length c_m], #[.slice a_t ts.length c_t], ints .u8 (tag), ints .u8 (sig)]) 59 3 rfl kj kj fun g2 W1 l2 e1 r2_1 => ?_
  have x1 : GW base gw w W1 := GW.ext (GW.refl base gw w) e1
  have ws3 := WSt.ext h e1
  have b2 : w.heap.size ≤ g2 := Nat.le_trans (GW.refl base gw w).size l2
  refine Qaf ?_
  refine hK1 _ _ ?_
  refine wp_seq_k fun K4 hK4 => ?_
  refine Qae ?_
  refine Qab (.pointer (some ⟨gw, 0, none⟩)) 4 rfl kj kj ?_
  refine Qab (.pointer (some ⟨g2, 0, none⟩)) 5 rfl kj kj ?_
  refine Qab (.slice (some ⟨g2, 0, none⟩) 32 32) 6 rfl kj kj ?_
  refine Qah (fun v W' => v = .tuple #[] ∧ GW base gw W1 W' ∧ WSt base gw (rawS (s) grp) W') 104 #[.pointer (some ⟨gw, 0, none⟩), .slice (some ⟨g2, 0, none⟩) 32 32] 7 rfl kj kj ((rawW base gw _ grp _ _ (Nat.le_trans hbw x1.size) ws3 (by rw [ho.rl]; decide) ho.rb (fun W e => (QaS 0 ho.rl (ExtB.row e r2_1 (Ne.symm (Nat.ne_of_lt (Nat.lt_of_lt_of_le hgw b2)))) (fun i hi => QaJ [] [#[.int .i64 ep], #[.int .i64 fr], ints .u8 (bas), #[.slice a_p ps.length c_p], #[.bool n.us], #[.int .i64 n.nm], ints .u8 (n.key), ints .u8 (n.sg), ints .u8 (n.pa), #[.slice a_m n.ms.length c_m], #[.slice a_t ts.length c_t], ints .u8 (tag), ints .u8 (sig)] grp 0 i (0 + i) kj rfl (by rw [ho.rl]; exact hi)) (Qa5 (ExtB.row e r2_1 (Ne.symm (Nat.ne_of_lt (Nat.lt_of_lt_of_le hgw b2))))) (Nat.le_refl _) (by decide)))).mono (by rintro e w' ⟨rfl, h1, h2⟩; exact ⟨_, rfl, rfl, h1, h2⟩)) fun v5 W2 h5 => ?_
  obtain ⟨rfl, q2, ws5⟩ := h5
  have x2 : GW base gw w W2 := GW.trans x1 q2
  refine Qaf ?_
  refine hK4 _ _ ?_
  refine wp_seq_k fun K6 hK6 => ?_
  refine Qae ?_
  refine Qab (.pointer (some ⟨gw, 0, none⟩)) 8 rfl kj kj ?_
  refine Qab (.pointer (some ⟨g2, 32, none⟩)) 9 rfl kj kj ?_
  have r2_2 := (GW.row q2 r2_1 (by decide) (Ne.symm (Nat.ne_of_lt (Nat.lt_of_lt_of_le hgw b2))))
  refine Qab (.int .i64 ep) 10 rfl kj (Qal 3 _ g2 32 59 _ (.int .i64 ep) _ r2_2 rfl kj (Qaq [ints .u8 (grp)] [#[.int .i64 ep]] [#[.int .i64 fr], ints .u8 (bas), #[.slice a_p ps.length c_p], #[.bool n.us], #[.int .i64 n.nm], ints .u8 (n.key), ints .u8 (n.sg), ints .u8 (n.pa), #[.slice a_m n.ms.length c_m], #[.slice a_t ts.length c_t], ints .u8 (tag), ints .u8 (sig)] 32 ((Qad _ _).trans ho.rl) 0 _ rfl) kj) ?_
  refine Qah (fun v W' => v = .tuple #[] ∧ GW base gw W2 W' ∧ WSt base gw (numS (rawS (s) grp) ep 4) W') 105 #[.pointer (some ⟨gw, 0, none⟩), .int .i64 ep, .int .i64 4] 11 rfl kj kj ((QaW base gw _ ep 4 _ (Nat.le_trans hbw x2.size) ws5 (by decide)).mono (by rintro e w' ⟨rfl, h1, h2⟩; exact ⟨_, rfl, rfl, h1, h2⟩)) fun v7 W3 h7 => ?_
  obtain ⟨rfl, q3, ws7⟩ := h7
  have x3 : GW base gw w W3 := GW.trans x2 q3
  refine Qaf ?_
  refine hK6 _ _ ?_
  refine wp_seq_k fun K8 hK8 => ?_
  refine Qae ?_
  refine Qab (.pointer (some ⟨gw, 0, none⟩)) 12 rfl kj kj ?_
  refine Qab (.pointer (some ⟨g2, 33, none⟩)) 13 rfl kj kj ?_
  have r2_3 := (GW.row q3 r2_2 (by decide) (Ne.symm (Nat.ne_of_lt (Nat.lt_of_lt_of_le hgw b2))))
  refine Qab (.int .i64 fr) 14 rfl kj (Qal 3 _ g2 33 59 _ (.int .i64 fr) _ r2_3 rfl kj (Qaq [ints .u8 (grp), #[.int .i64 ep]] [#[.int .i64 fr]] [ints .u8 (bas), #[.slice a_p ps.length c_p], #[.bool n.us], #[.int .i64 n.nm], ints .u8 (n.key), ints .u8 (n.sg), ints .u8 (n.pa), #[.slice a_m n.ms.length c_m], #[.slice a_t ts.length c_t], ints .u8 (tag), ints .u8 (sig)] 33 (by rw [Qaa, Qaa]; simp only [Array.size_append, cat, ((Qad _ _).trans ho.rl)]; rfl) 0 _ rfl) kj) ?_
  refine Qah (fun v W' => v = .tuple #[] ∧ GW base gw W3 W' ∧ WSt base gw (QaE (numS (rawS (s) grp) ep 4) fr) W') 106 #[.pointer (some ⟨gw, 0, none⟩), .int .i64 fr] 15 rfl kj kj ((QdG base gw _ fr _ (Nat.le_trans hbw x3.size) ws7).mono (by rintro e w' ⟨rfl, h1, h2⟩; exact ⟨_, rfl, rfl, h1, h2⟩)) fun v9 W4 h9 => ?_
  obtain ⟨rfl, q4, ws9⟩ := h9
  have x4 : GW base gw w W4 := GW.trans x3 q4
  refine Qaf ?_
  refine hK8 _ _ ?_
  refine wp_seq_k fun K10 hK10 => ?_
  refine Qae ?_
  refine Qab (.pointer (some ⟨gw, 0, none⟩)) 16 rfl kj kj ?_
  refine Qab (.pointer (some ⟨g2, 34, none⟩)) 17 rfl kj kj ?_
  refine Qab (.slice (some ⟨g2, 34, none⟩) 32 32) 18 rfl kj kj ?_
  have r2_4 := (GW.row q4 r2_3 (by decide) (Ne.symm (Nat.ne_of_lt (Nat.lt_of_lt_of_le hgw b2))))
  refine Qah (fun v W' => v = .tuple #[] ∧ GW base gw W4 W' ∧ WSt base gw (rawS (QaE (numS (rawS (s) grp) ep 4) fr) bas) W') 104 #[.pointer (some ⟨gw, 0, none⟩), .slice (some ⟨g2, 34, none⟩) 32 32] 19 rfl kj kj ((rawW base gw _ bas _ _ (Nat.le_trans hbw x4.size) ws9 (by rw [ho.al]; decide) ho.ab (fun W e => (QaS 34 ho.al (ExtB.row e r2_4 (Ne.symm (Nat.ne_of_lt (Nat.lt_of_lt_of_le hgw b2)))) (fun i hi => QaJ [ints .u8 (grp), #[.int .i64 ep], #[.int .i64 fr]] [#[.slice a_p ps.length c_p], #[.bool n.us], #[.int .i64 n.nm], ints .u8 (n.key), ints .u8 (n.sg), ints .u8 (n.pa), #[.slice a_m n.ms.length c_m], #[.slice a_t ts.length c_t], ints .u8 (tag), ints .u8 (sig)] bas 34 i (34 + i) (by rw [Qaa, Qaa, Qaa]; simp only [Array.size_append, cat, ((Qad _ _).trans ho.rl)]; rfl) rfl (by rw [ho.al]; exact hi)) (Qa5 (ExtB.row e r2_4 (Ne.symm (Nat.ne_of_lt (Nat.lt_of_lt_of_le hgw b2))))) (Nat.le_refl _) (by decide)))).mono (by rintro e w' ⟨rfl, h1, h2⟩; exact ⟨_, rfl, rfl, h1, h2⟩)) fun v11 W5 h11 => ?_
  obtain ⟨rfl, q5, ws11⟩ := h11
  have x5 : GW base gw w W5 := GW.trans x4 q5
  refine Qaf ?_
  refine hK10 _ _ ?_
  refine wp_seq_k fun K12 hK12 => ?_
  refine Qae ?_
  refine Qab (.pointer (some ⟨gw, 0, none⟩)) 20 rfl kj kj ?_
  refine Qab (.pointer (some ⟨g2, 66, none⟩)) 21 rfl kj kj ?_
  have r2_5 := (GW.row q5 r2_4 (by decide) (Ne.symm (Nat.ne_of_lt (Nat.lt_of_lt_of_le hgw b2))))
  refine Qab (.slice a_p ps.length c_p) 22 rfl kj (Qal 54 _ g2 66 59 _ (.slice a_p ps.length c_p) _ r2_5 rfl kj (Qaq [ints .u8 (grp), #[.int .i64 ep], #[.int .i64 fr], ints .u8 (bas)] [#[.slice a_p ps.length c_p]] [#[.bool n.us], #[.int .i64 n.nm], ints .u8 (n.key), ints .u8 (n.sg), ints .u8 (n.pa), #[.slice a_m n.ms.length c_m], #[.slice a_t ts.length c_t], ints .u8 (tag), ints .u8 (sig)] 66 (by rw [Qaa, Qaa, Qaa, Qaa]; simp only [Array.size_append, cat, ((Qad _ _).trans ho.al), ((Qad _ _).trans ho.rl)]; rfl) 0 _ rfl) kj) ?_
  refine Qah (fun v W' => v = .tuple #[] ∧ GW base gw W5 W' ∧ WSt base gw (QbZ (rawS (QaE (numS (rawS (s) grp) ep 4) fr) bas) ps) W') 113 #[.pointer (some ⟨gw, 0, none⟩), .slice a_p ps.length c_p, .func (.func 57) #[] #[]] 23 rfl kj kj ((Qgr base gw _ ps _ _ _ (Nat.le_trans hbw x5.size) hbg ws11 hz.pn hz.pm (LsAt.gw prK hcm.ps x5 hbg)).mono (by rintro e w' ⟨rfl, h1, h2⟩; exact ⟨_, rfl, rfl, h1, h2⟩)) fun v13 W6 h13 => ?_
  obtain ⟨rfl, q6, ws13⟩ := h13
  have x6 : GW base gw w W6 := GW.trans x5 q6
  refine Qaf ?_
  refine hK12 _ _ ?_
  refine wp_seq_k fun K14 hK14 => ?_
  refine Qae ?_
  refine Qab (.pointer (some ⟨gw, 0, none⟩)) 24 rfl kj kj ?_
  refine Qab (.pointer (some ⟨g2, 67, none⟩)) 25 rfl kj kj ?_
  have r2_6 := (GW.row q6 r2_5 (by decide) (Ne.symm (Nat.ne_of_lt (Nat.lt_of_lt_of_le hgw b2))))
  refine Qab (.agg (cat [#[.bool n.us], #[.int .i64 n.nm], ints .u8 (n.key), ints .u8 (n.sg), ints .u8 (n.pa), #[.slice a_m n.ms.length c_m], #[.slice a_t ts.length c_t]])) 26 rfl kj (Qay 57 _ g2 67 59 _ _ _ r2_6 rfl kj (Qaq [ints .u8 (grp), #[.int .i64 ep], #[.int .i64 fr], ints .u8 (bas), #[.slice a_p ps.length c_p]] [#[.bool n.us], #[.int .i64 n.nm], ints .u8 (n.key), ints .u8 (n.sg), ints .u8 (n.pa), #[.slice a_m n.ms.length c_m], #[.slice a_t ts.length c_t]] [ints .u8 (tag), ints .u8 (sig)] 67 (by rw [Qaa, Qaa, Qaa, Qaa, Qaa]; simp only [Array.size_append, cat, ((Qad _ _).trans ho.al), ((Qad _ _).trans ho.rl)]; rfl)) kj (isz (n := 100) kj (by rw [Qaa, Qaa, Qaa, Qaa, Qaa, Qaa, Qaa]; simp only [Array.size_append, cat, ((Qad _ _).trans ho.n.gl), ((Qad _ _).trans ho.n.kl), ((Qad _ _).trans ho.n.pl)]; rfl))) ?_
  refine Qah (fun v W' => v = .tuple #[] ∧ GW base gw W6 W' ∧ WSt base gw (Qee (QbZ (rawS (QaE (numS (rawS (s) grp) ep 4) fr) bas) ps) n ts) W') 114 #[.pointer (some ⟨gw, 0, none⟩), .agg (cat [#[.bool n.us], #[.int .i64 n.nm], ints .u8 (n.key), ints .u8 (n.sg), ints .u8 (n.pa), #[.slice a_m n.ms.length c_m], #[.slice a_t ts.length c_t]])] 27 rfl kj kj ((Qir base gw _ grp ep fr bas ps n ts tag sig a_p c_p a_m c_m a_t c_t _ (Nat.le_trans hbw x6.size) hbg ws13 ho hz (Qck hcm.m x6 hbg) (LsAt.gw stK hcm.ts x6 hbg)).mono (by rintro e w' ⟨rfl, h1, h2⟩; exact ⟨_, rfl, rfl, h1, h2⟩)) fun v15 W7 h15 => ?_
  obtain ⟨rfl, q7, ws15⟩ := h15
  have x7 : GW base gw w W7 := GW.trans x6 q7
  refine Qaf ?_
  refine hK14 _ _ ?_
  refine wp_seq_k fun K16 hK16 => ?_
  refine Qae ?_
  refine Qab (.pointer (some ⟨gw, 0, none⟩)) 28 rfl kj kj ?_
  refine Qab (.pointer (some ⟨g2, 167, none⟩)) 29 rfl kj kj ?_
  refine Qab (.slice (some ⟨g2, 167, none⟩) 32 32) 30 rfl kj kj ?_
  have r2_7 := (GW.row q7 r2_6 (by decide) (Ne.symm (Nat.ne_of_lt (Nat.lt_of_lt_of_le hgw b2))))
  refine Qah (fun v W' => v = .tuple #[] ∧ GW base gw W7 W' ∧ WSt base gw (rawS (Qee (QbZ (rawS (QaE (numS (rawS (s) grp) ep 4) fr) bas) ps) n ts) tag) W') 104 #[.pointer (some ⟨gw, 0, none⟩), .slice (some ⟨g2, 167, none⟩) 32 32] 31 rfl kj kj ((rawW base gw _ tag _ _ (Nat.le_trans hbw x7.size) ws15 (by rw [ho.gl]; decide) ho.gb (fun W e => (QaS 167 ho.gl (ExtB.row e r2_7 (Ne.symm (Nat.ne_of_lt (Nat.lt_of_lt_of_le hgw b2)))) (fun i hi => QaJ [ints .u8 (grp), #[.int .i64 ep], #[.int .i64 fr], ints .u8 (bas), #[.slice a_p ps.length c_p], #[.bool n.us], #[.int .i64 n.nm], ints .u8 (n.key), ints .u8 (n.sg), ints .u8 (n.pa), #[.slice a_m n.ms.length c_m], #[.slice a_t ts.length c_t]] [ints .u8 (sig)] tag 167 i (167 + i) (by rw [Qaa, Qaa, Qaa, Qaa, Qaa, Qaa, Qaa, Qaa, Qaa, Qaa, Qaa, Qaa]; simp only [Array.size_append, cat, ((Qad _ _).trans ho.al), ((Qad _ _).trans ho.n.gl), ((Qad _ _).trans ho.n.kl), ((Qad _ _).trans ho.n.pl), ((Qad _ _).trans ho.rl)]; rfl) rfl (by rw [ho.gl]; exact hi)) (Qa5 (ExtB.row e r2_7 (Ne.symm (Nat.ne_of_lt (Nat.lt_of_lt_of_le hgw b2))))) (Nat.le_refl _) (by decide)))).mono (by rintro e w' ⟨rfl, h1, h2⟩; exact ⟨_, rfl, rfl, h1, h2⟩)) fun v17 W8 h17 => ?_
  obtain ⟨rfl, q8, ws17⟩ := h17
  have x8 : GW base gw w W8 := GW.trans x7 q8
  refine Qaf ?_
  refine hK16 _ _ ?_
  refine Qae ?_
  refine Qab (.pointer (some ⟨gw, 0, none⟩)) 32 rfl kj kj ?_
  refine Qab (.pointer (some ⟨g2, 199, none⟩)) 33 rfl kj kj ?_
  refine Qab (.slice (some ⟨g2, 199, none⟩) 64 64) 34 rfl kj kj ?_
  have r2_8 := (GW.row q8 r2_7 (by decide) (Ne.symm (Nat.ne_of_lt (Nat.lt_of_lt_of_le hgw b2))))
  refine Qah (fun v W' => v = .tuple #[] ∧ GW base gw W8 W' ∧ WSt base gw (rawS (rawS (Qee (QbZ (rawS (QaE (numS (rawS (s) grp) ep 4) fr) bas) ps) n ts) tag) sig) W') 104 #[.pointer (some ⟨gw, 0, none⟩), .slice (some ⟨g2, 199, none⟩) 64 64] 35 rfl kj kj ((rawW base gw _ sig _ _ (Nat.le_trans hbw x8.size) ws17 (by rw [ho.il]; decide) ho.ib (fun W e => (QaS 199 ho.il (ExtB.row e r2_8 (Ne.symm (Nat.ne_of_lt (Nat.lt_of_lt_of_le hgw b2)))) (fun i hi => QaJ [ints .u8 (grp), #[.int .i64 ep], #[.int .i64 fr], ints .u8 (bas), #[.slice a_p ps.length c_p], #[.bool n.us], #[.int .i64 n.nm], ints .u8 (n.key), ints .u8 (n.sg), ints .u8 (n.pa), #[.slice a_m n.ms.length c_m], #[.slice a_t ts.length c_t], ints .u8 (tag)] [] sig 199 i (199 + i) (by rw [Qaa, Qaa, Qaa, Qaa, Qaa, Qaa, Qaa, Qaa, Qaa, Qaa, Qaa, Qaa, Qaa]; simp only [Array.size_append, cat, ((Qad _ _).trans ho.al), ((Qad _ _).trans ho.gl), ((Qad _ _).trans ho.n.gl), ((Qad _ _).trans ho.n.kl), ((Qad _ _).trans ho.n.pl), ((Qad _ _).trans ho.rl)]; rfl) rfl (by rw [ho.il]; exact hi)) (Qa5 (ExtB.row e r2_8 (Ne.symm (Nat.ne_of_lt (Nat.lt_of_lt_of_le hgw b2))))) (Nat.le_refl _) (by decide)))).mono (by rintro e w' ⟨rfl, h1, h2⟩; exact ⟨_, rfl, rfl, h1, h2⟩)) fun v18 W9 h18 => ?_
  obtain ⟨rfl, q9, ws18⟩ := h18
  have x9 : GW base gw w W9 := GW.trans x8 q9
  refine Qaf ?_
  repeat (first | with_reducible refine goX1 ?_ | with_reducible refine goX2 ?_ | with_reducible refine goX3 ?_)
  exact (show bodyPost _ _ _ .normal _ _ from end0 rfl ⟨rfl, x9, ws18⟩)
set_option maxHeartbeats 4000000 in
set_option maxRecDepth 100000 in
theorem Qf6 (grp : List Int) (ep fr : Int) (bas : List Int) (ps : List PrV) (n : NdC) (ts : List StV) (tag sig : List Int) (a_p : Option Addr) (c_p : Nat) (a_m : Option Addr) (c_m : Nat) (a_t : Option Addr) (c_t : Nat) (w : World) (ho : CmOk grp bas n tag sig) (hz : CmSz ps n ts) (hcm : CmAt w.heap.size w ps a_p n a_m c_m ts a_t) : Calls Try.prog 62 #[.agg (cat [ints .u8 (grp), #[.int .i64 ep], #[.int .i64 fr], ints .u8 (bas), #[.slice a_p ps.length c_p], #[.bool n.us], #[.int .i64 n.nm], ints .u8 (n.key), ints .u8 (n.sg), ints .u8 (n.pa), #[.slice a_m n.ms.length c_m], #[.slice a_t ts.length c_t], ints .u8 (tag), ints .u8 (sig)]), .func (.func 63) #[] #[]] w (QcD w (PutR w.heap.size (QdN (some []) grp ep fr bas ps n ts tag sig))) := by
 refine enter 22 [(0, .agg (cat [ints .u8 (grp), #[.int .i64 ep], #[.int .i64 fr], ints .u8 (bas), #[.slice a_p ps.length c_p], #[.bool n.us], #[.int .i64 n.nm], ints .u8 (n.key), ints .u8 (n.sg), ints .u8 (n.pa), #[.slice a_m n.ms.length c_m], #[.slice a_t ts.length c_t], ints .u8 (tag), ints .u8 (sig)])), (1, .func (.func 63) #[] #[])] Try.func62 rfl rfl kj rfl ?_
 refine wp_seq_k fun K1 hK1 => ?_
 refine Qae ?_
 refine Qar (cat [ints .u8 (grp), #[.int .i64 ep], #[.int .i64 fr], ints .u8 (bas), #[.slice a_p ps.length c_p], #[.bool n.us], #[.int .i64 n.nm], ints .u8 (n.key), ints .u8 (n.sg), ints .u8 (n.pa), #[.slice a_m n.ms.length c_m], #[.slice a_t ts.length c_t], ints .u8 (tag), ints .u8 (sig)]) 59 2 rfl kj kj fun g2 W1 l2 e1 r2_1 => ?_
 have x1 : Ext w W1 := Ext.tr (Rely.Ext.refl w) e1
 have b2 : w.heap.size ≤ g2 := Nat.le_trans (Rely.Ext.refl w).size l2
 refine Qab (.slice none 0 0) 4 rfl kj kj ?_
 refine Qab (.nilIface) 5 rfl kj kj ?_
 refine Qaf ?_
 refine hK1 _ _ ?_
 refine wp_seq_k fun K3 hK3 => ?_
 refine Qae ?_
 refine Qab (.agg (cat [#[.slice none 0 0], #[.bool false]])) 7 rfl kj kj ?_
 refine Qar (cat [#[.slice none 0 0], #[.bool false]]) 174 8 rfl kj kj fun g4 W2 l4 e2 r4_2 => ?_
 have x2 : Ext w W2 := Ext.tr x1 e2
 have b4 : w.heap.size ≤ g4 := Nat.le_trans x1.size l4
 refine Qab (.pointer (some ⟨g4, 0, none⟩)) 6 rfl kj kj ?_
 refine Qaf ?_
 refine hK3 _ _ ?_
 refine wp_seq_k fun K5 hK5 => ?_
 refine Qae ?_
 refine Qab (.func (.func 63) #[] #[]) 9 rfl kj kj ?_
 refine Qab (.pointer (some ⟨g4, 0, none⟩)) 10 rfl kj kj ?_
 have r2_2 := (Qau r2_1 e2)
 refine Qab (.agg (cat [ints .u8 (grp), #[.int .i64 ep], #[.int .i64 fr], ints .u8 (bas), #[.slice a_p ps.length c_p], #[.bool n.us], #[.int .i64 n.nm], ints .u8 (n.key), ints .u8 (n.sg), ints .u8 (n.pa), #[.slice a_m n.ms.length c_m], #[.slice a_t ts.length c_t], ints .u8 (tag), ints .u8 (sig)])) 11 rfl kj (Qaz 59 _ g2 59 _ _ r2_2 rfl kj kj (isz (n := 263) kj (by rw [Qaa, Qaa, Qaa, Qaa, Qaa, Qaa, Qaa, Qaa, Qaa, Qaa, Qaa, Qaa, Qaa, Qaa]; simp only [Array.size_append, cat, ((Qad _ _).trans ho.al), ((Qad _ _).trans ho.gl), ((Qad _ _).trans ho.il), ((Qad _ _).trans ho.n.gl), ((Qad _ _).trans ho.n.kl), ((Qad _ _).trans ho.n.pl), ((Qad _ _).trans ho.rl)]; rfl))) ?_
 refine Qah (fun v W' => v = .tuple #[] ∧ GW W1.heap.size g4 W2 W' ∧ WSt W1.heap.size g4 (QdN (some []) grp ep fr bas ps n ts tag sig) W') 63 #[.pointer (some ⟨g4, 0, none⟩), .agg (cat [ints .u8 (grp), #[.int .i64 ep], #[.int .i64 fr], ints .u8 (bas), #[.slice a_p ps.length c_p], #[.bool n.us], #[.int .i64 n.nm], ints .u8 (n.key), ints .u8 (n.sg), ints .u8 (n.pa), #[.slice a_m n.ms.length c_m], #[.slice a_t ts.length c_t], ints .u8 (tag), ints .u8 (sig)])] 12 rfl kj kj ((Qiw W1.heap.size g4 (some []) grp ep fr bas ps n ts tag sig a_p c_p a_m c_m a_t c_t _ (Nat.le_trans (Nat.le_refl _) e2.size) l4 ⟨_, [], false, r4_2, QbV .u8 5 _ _, Nat.zero_le _, (fun x hx => by cases hx), rfl⟩ ho hz ((hcm.ext x2).more (Nat.le_trans (Nat.le_refl _) e1.size))).mono (by rintro e w' ⟨rfl, h1, h2⟩; exact ⟨_, rfl, rfl, h1, h2⟩)) fun v6 W3 h6 => ?_
 obtain ⟨rfl, q3, u, xs, bad, rb3, how, -, -, hS⟩ := h6
 have x3 : Ext w W3 := GW.back x2 q3 (Nat.le_trans (Nat.le_refl _) e1.size) b4
 obtain ⟨au, cu, rfl, -⟩ := id (OwnN.rd how)
 refine Qaf ?_
 refine hK5 _ _ ?_
 refine wp_seq_k fun K7 hK7 => ?_
 refine wp_seq_k fun K8 hK8 => ?_
 refine Qae ?_
 refine Qab (.pointer (some ⟨g4, 0, none⟩)) 13 rfl kj kj ?_
 refine Qab (.pointer (some ⟨g4, 0, none⟩)) 14 rfl kj kj ?_
 refine Qab (.pointer (some ⟨g4, 1, none⟩)) 15 rfl kj kj ?_
 refine Qab (.bool bad) 16 rfl kj (Qal 4 _ g4 1 174 _ (.bool bad) _ rb3 rfl kj kj kj) ?_
 refine Qaf ?_
 refine hK8 _ _ ?_
 refine Qa7 (t := bad) kj (fun c9 => ?_) (fun c9 => ?_)
 ·skip
  refine wp_seq_k fun K10 hK10 => ?_
  refine Qae ?_
  refine Qab (.iface 102 (.int .i64 3)) 17 rfl kj kj ?_
  refine Qab (.slice none 0 0) 4 rfl kj kj ?_
  refine Qab (.iface 102 (.int .i64 3)) 5 rfl kj kj ?_
  refine Qaf ?_
  refine hK10 _ _ ?_
  refine wp_ret ?_
  repeat (first | with_reducible refine goR1 ?_ | with_reducible refine goR2 ?_)
  exact (show bodyPost _ _ _ .ret _ _ from ret2 (.slice none 0 0) (.iface 102 (.int .i64 3)) rfl (Qa1 kj) (Qa1 kj) ⟨_, rfl, x3, by rw [hS, c9]; exact rfl⟩)
 ·skip
  refine wp_skip ?_
  refine hK7 _ _ ?_
  refine wp_seq_k fun K11 hK11 => ?_
  refine Qae ?_
  refine Qab (.pointer (some ⟨g4, 0, none⟩)) 18 rfl kj kj ?_
  refine Qab (.pointer (some ⟨g4, 0, none⟩)) 19 rfl kj kj ?_
  refine Qab (.pointer (some ⟨g4, 0, none⟩)) 20 rfl kj kj ?_
  refine Qab (.slice au xs.length cu) 21 rfl kj (Qal 26 _ g4 0 174 _ (.slice au xs.length cu) _ rb3 rfl kj kj kj) ?_
  refine Qab (.slice au xs.length cu) 4 rfl kj kj ?_
  refine Qab (.nilIface) 5 rfl kj kj ?_
  refine Qaf ?_
  refine hK11 _ _ ?_
  refine wp_ret ?_
  repeat (first | with_reducible refine goR1 ?_ | with_reducible refine goR2 ?_)
  exact (show bodyPost _ _ _ .ret _ _ from ret2 (.slice au xs.length cu) (.nilIface) rfl (Qa1 kj) (Qa1 kj) ⟨_, rfl, x3, by rw [hS, c9]; exact ⟨_, rfl, OwnN.base (Nat.le_trans (Nat.le_refl _) e1.size) how⟩⟩)
set_option maxHeartbeats 4000000 in
set_option maxRecDepth 100000 in
theorem QfX (grp : List Int) (ep fr : Int) (bas : List Int) (ps : List PrV) (n : NdC) (ts : List StV) (tag sig : List Int) (a_p : Option Addr) (c_p : Nat) (a_m : Option Addr) (c_m : Nat) (a_t : Option Addr) (c_t : Nat) (w : World) (ho : CmOk grp bas n tag sig) (hz : CmSz ps n ts) (hcm : CmAt w.heap.size w ps a_p n a_m c_m ts a_t) (hS : QdN (some []) grp ep fr bas ps n ts tag sig = none) : Calls Try.prog 25 #[.agg (cat [ints .u8 (grp), #[.int .i64 ep], #[.int .i64 fr], ints .u8 (bas), #[.slice a_p ps.length c_p], #[.bool n.us], #[.int .i64 n.nm], ints .u8 (n.key), ints .u8 (n.sg), ints .u8 (n.pa), #[.slice a_m n.ms.length c_m], #[.slice a_t ts.length c_t], ints .u8 (tag), ints .u8 (sig)])] w (QcD w (PutR w.heap.size (none))) := by
  refine enter 8 [(0, .agg (cat [ints .u8 (grp), #[.int .i64 ep], #[.int .i64 fr], ints .u8 (bas), #[.slice a_p ps.length c_p], #[.bool n.us], #[.int .i64 n.nm], ints .u8 (n.key), ints .u8 (n.sg), ints .u8 (n.pa), #[.slice a_m n.ms.length c_m], #[.slice a_t ts.length c_t], ints .u8 (tag), ints .u8 (sig)]))] Try.func25 rfl rfl kj rfl ?_
  refine wp_seq_k fun K1 hK1 => ?_
  refine Qae ?_
  refine Qar (cat [ints .u8 (grp), #[.int .i64 ep], #[.int .i64 fr], ints .u8 (bas), #[.slice a_p ps.length c_p], #[.bool n.us], #[.int .i64 n.nm], ints .u8 (n.key), ints .u8 (n.sg), ints .u8 (n.pa), #[.slice a_m n.ms.length c_m], #[.slice a_t ts.length c_t], ints .u8 (tag), ints .u8 (sig)]) 59 1 rfl kj kj fun g2 W1 l2 e1 r2_1 => ?_
  have x1 : Ext w W1 := Ext.tr (Rely.Ext.refl w) e1
  have b2 : w.heap.size ≤ g2 := Nat.le_trans (Rely.Ext.refl w).size l2
  refine Qab (.slice none 0 0) 2 rfl kj kj ?_
  refine Qab (.nilIface) 3 rfl kj kj ?_
  refine Qaf ?_
  refine hK1 _ _ ?_
  refine wp_seq_k fun K3 hK3 => ?_
  refine Qae ?_
  refine Qab (.agg (cat [ints .u8 (grp), #[.int .i64 ep], #[.int .i64 fr], ints .u8 (bas), #[.slice a_p ps.length c_p], #[.bool n.us], #[.int .i64 n.nm], ints .u8 (n.key), ints .u8 (n.sg), ints .u8 (n.pa), #[.slice a_m n.ms.length c_m], #[.slice a_t ts.length c_t], ints .u8 (tag), ints .u8 (sig)])) 4 rfl kj (Qaz 59 _ g2 59 _ _ r2_1 rfl kj kj (isz (n := 263) kj (by rw [Qaa, Qaa, Qaa, Qaa, Qaa, Qaa, Qaa, Qaa, Qaa, Qaa, Qaa, Qaa, Qaa, Qaa]; simp only [Array.size_append, cat, ((Qad _ _).trans ho.al), ((Qad _ _).trans ho.gl), ((Qad _ _).trans ho.il), ((Qad _ _).trans ho.n.gl), ((Qad _ _).trans ho.n.kl), ((Qad _ _).trans ho.n.pl), ((Qad _ _).trans ho.rl)]; rfl))) ?_
  refine Qah (fun v W' => (PutR W1.heap.size (QdN (some []) grp ep fr bas ps n ts tag sig)) v W' ∧ Ext W1 W') 62 #[.agg (cat [ints .u8 (grp), #[.int .i64 ep], #[.int .i64 fr], ints .u8 (bas), #[.slice a_p ps.length c_p], #[.bool n.us], #[.int .i64 n.nm], ints .u8 (n.key), ints .u8 (n.sg), ints .u8 (n.pa), #[.slice a_m n.ms.length c_m], #[.slice a_t ts.length c_t], ints .u8 (tag), ints .u8 (sig)]), .func (.func 63) #[] #[]] 5 rfl kj kj ((Qf6 grp ep fr bas ps n ts tag sig a_p c_p a_m c_m a_t c_t _ ho hz (hcm.ext x1).here).mono (by rintro e w' ⟨v, rfl, e1, hv⟩; exact ⟨v, rfl, hv, e1⟩)) fun vv4 W2 hh4 => ?_
  obtain ⟨hv4, e2⟩ := hh4
  have x2 : Ext w W2 := Ext.tr x1 e2
  rw [hS] at hv4
  have hv2 : vv4 = .tuple #[.slice none 0 0, .iface 102 (.int .i64 3)] := hv4
  subst hv2
  refine Qab (.slice none 0 0) 6 rfl kj kj ?_
  refine Qab (.iface 102 (.int .i64 3)) 7 rfl kj kj ?_
  refine Qab (.slice none 0 0) 2 rfl kj kj ?_
  refine Qab (.iface 102 (.int .i64 3)) 3 rfl kj kj ?_
  refine Qaf ?_
  refine hK3 _ _ ?_
  refine wp_ret ?_
  repeat (first | with_reducible refine goR1 ?_ | with_reducible refine goR2 ?_)
  exact (show bodyPost _ _ _ .ret _ _ from ret2 (.slice none 0 0) (.iface 102 (.int .i64 3)) rfl (Qa1 kj) (Qa1 kj) ⟨_, rfl, x2, rfl⟩)
set_option maxHeartbeats 4000000 in
set_option maxRecDepth 100000 in
theorem QfW (grp : List Int) (ep fr : Int) (bas : List Int) (ps : List PrV) (n : NdC) (ts : List StV) (tag sig : List Int) (a_p : Option Addr) (c_p : Nat) (a_m : Option Addr) (c_m : Nat) (a_t : Option Addr) (c_t : Nat) (w : World) (ho : CmOk grp bas n tag sig) (hz : CmSz ps n ts) (hcm : CmAt w.heap.size w ps a_p n a_m c_m ts a_t) (xs : List Int) (hS : QdN (some []) grp ep fr bas ps n ts tag sig = some xs) : Calls Try.prog 25 #[.agg (cat [ints .u8 (grp), #[.int .i64 ep], #[.int .i64 fr], ints .u8 (bas), #[.slice a_p ps.length c_p], #[.bool n.us], #[.int .i64 n.nm], ints .u8 (n.key), ints .u8 (n.sg), ints .u8 (n.pa), #[.slice a_m n.ms.length c_m], #[.slice a_t ts.length c_t], ints .u8 (tag), ints .u8 (sig)])] w (QcD w (PutR w.heap.size (some xs))) := by
  refine enter 8 [(0, .agg (cat [ints .u8 (grp), #[.int .i64 ep], #[.int .i64 fr], ints .u8 (bas), #[.slice a_p ps.length c_p], #[.bool n.us], #[.int .i64 n.nm], ints .u8 (n.key), ints .u8 (n.sg), ints .u8 (n.pa), #[.slice a_m n.ms.length c_m], #[.slice a_t ts.length c_t], ints .u8 (tag), ints .u8 (sig)]))] Try.func25 rfl rfl kj rfl ?_
  refine wp_seq_k fun K1 hK1 => ?_
  refine Qae ?_
  refine Qar (cat [ints .u8 (grp), #[.int .i64 ep], #[.int .i64 fr], ints .u8 (bas), #[.slice a_p ps.length c_p], #[.bool n.us], #[.int .i64 n.nm], ints .u8 (n.key), ints .u8 (n.sg), ints .u8 (n.pa), #[.slice a_m n.ms.length c_m], #[.slice a_t ts.length c_t], ints .u8 (tag), ints .u8 (sig)]) 59 1 rfl kj kj fun g2 W1 l2 e1 r2_1 => ?_
  have x1 : Ext w W1 := Ext.tr (Rely.Ext.refl w) e1
  have b2 : w.heap.size ≤ g2 := Nat.le_trans (Rely.Ext.refl w).size l2
  refine Qab (.slice none 0 0) 2 rfl kj kj ?_
  refine Qab (.nilIface) 3 rfl kj kj ?_
  refine Qaf ?_
  refine hK1 _ _ ?_
  refine wp_seq_k fun K3 hK3 => ?_
  refine Qae ?_
  refine Qab (.agg (cat [ints .u8 (grp), #[.int .i64 ep], #[.int .i64 fr], ints .u8 (bas), #[.slice a_p ps.length c_p], #[.bool n.us], #[.int .i64 n.nm], ints .u8 (n.key), ints .u8 (n.sg), ints .u8 (n.pa), #[.slice a_m n.ms.length c_m], #[.slice a_t ts.length c_t], ints .u8 (tag), ints .u8 (sig)])) 4 rfl kj (Qaz 59 _ g2 59 _ _ r2_1 rfl kj kj (isz (n := 263) kj (by rw [Qaa, Qaa, Qaa, Qaa, Qaa, Qaa, Qaa, Qaa, Qaa, Qaa, Qaa, Qaa, Qaa, Qaa]; simp only [Array.size_append, cat, ((Qad _ _).trans ho.al), ((Qad _ _).trans ho.gl), ((Qad _ _).trans ho.il), ((Qad _ _).trans ho.n.gl), ((Qad _ _).trans ho.n.kl), ((Qad _ _).trans ho.n.pl), ((Qad _ _).trans ho.rl)]; rfl))) ?_
  refine Qah (fun v W' => (PutR W1.heap.size (QdN (some []) grp ep fr bas ps n ts tag sig)) v W' ∧ Ext W1 W') 62 #[.agg (cat [ints .u8 (grp), #[.int .i64 ep], #[.int .i64 fr], ints .u8 (bas), #[.slice a_p ps.length c_p], #[.bool n.us], #[.int .i64 n.nm], ints .u8 (n.key), ints .u8 (n.sg), ints .u8 (n.pa), #[.slice a_m n.ms.length c_m], #[.slice a_t ts.length c_t], ints .u8 (tag), ints .u8 (sig)]), .func (.func 63) #[] #[]] 5 rfl kj kj ((Qf6 grp ep fr bas ps n ts tag sig a_p c_p a_m c_m a_t c_t _ ho hz (hcm.ext x1).here).mono (by rintro e w' ⟨v, rfl, e1, hv⟩; exact ⟨v, rfl, hv, e1⟩)) fun vv4 W2 hh4 => ?_
  obtain ⟨hv4, e2⟩ := hh4
  have x2 : Ext w W2 := Ext.tr x1 e2
  rw [hS] at hv4
  obtain ⟨u5_, rfl, hu5_⟩ := hv4
  obtain ⟨a5_, c5_, rfl, -⟩ := id (OwnN.rd hu5_)
  refine Qab (.slice a5_ ((xs).length) c5_) 6 rfl kj kj ?_
  refine Qab (.nilIface) 7 rfl kj kj ?_
  refine Qab (.slice a5_ ((xs).length) c5_) 2 rfl kj kj ?_
  refine Qab (.nilIface) 3 rfl kj kj ?_
  refine Qaf ?_
  refine hK3 _ _ ?_
  refine wp_ret ?_
  repeat (first | with_reducible refine goR1 ?_ | with_reducible refine goR2 ?_)
  exact (show bodyPost _ _ _ .ret _ _ from ret2 (.slice a5_ ((xs).length) c5_) (.nilIface) rfl (Qa1 kj) (Qa1 kj) ⟨_, rfl, x2, _, rfl, OwnN.base x1.size hu5_⟩)
end Go.Proofs.Ytfelfmchachljaa.Wr
end
section
namespace Go.Proofs.Ytfelfmchachljaa.Wr
open Go Go.RowKit
open Rely Auto Own Sha
set_option linter.unusedVariables false
set_option linter.unusedSimpArgs false
def Qfi (r : RwV) : Bool := decide (r.xs.length ≤ 65535)
def stOk (t : StV) : Bool := decide (t.rows.length ≤ 255) && t.rows.all Qfi
def QcH (n : NdC) (ts : List StV) : Bool := okN_ n && (decide (ts.length ≤ 5) && ts.all stOk)
end Go.Proofs.Ytfelfmchachljaa.Wr
end
section
namespace Go.Proofs.Ytfelfmchachljaa.Wr
open Go Go.RowKit
open Rely Auto Own Sha
set_option linter.unusedVariables false
set_option linter.unusedSimpArgs false
def QdR (base : Nat) (T : TypeId) (W W' : World) : Prop := ∀ k cur T', T' ≠ T → base ≤ k → W.heap[k]? = some (.cells cur T') → W'.heap[k]? = some (.cells cur T')
theorem QbH {W W' : World} (base : Nat) (T : TypeId) (e : Ext W W') : QdR base T W W' := fun k cur T' _ _ r => Qau r e
theorem Qbb {W W' : World} {g : Nat} {base : Nat} (T : TypeId) (q : ExtB g W W') (hg : g < base) : QdR base T W W' := fun k cur T' _ hb r => (q.2.2.2.2 k (Qa5 r) (by omega)).trans r
theorem Qbt {W W' : World} {g : Nat} {c : Array Value} {T : TypeId} (base : Nat) (p : Puts W g W') (r0 : W.heap[g]? = some (.cells c T)) : QdR base T W W' := fun k cur T' hT _ r => (p.2.2.2.2 k (fun e => by subst e; rw [r] at r0; simp only [Option.some.injEq, Obj.cells.injEq] at r0; exact hT r0.2.1)).trans r
def InK {α : Type} (tys : List TypeId) (In : Nat → α → World → Prop) : Prop := ∀ (T : TypeId), T ∉ tys → ∀ (base : Nat) (x : α) (W W' : World), QdR base T W W' → In base x W → In base x W'
theorem Qbp {k : IntKind} {T T0 : TypeId} {base : Nat} {xs : List Int} {v : Value} {W W' : World} (h : OwnN k T base xs v W) (q : QdR base T0 W W') (hT : T0 ≠ T) : OwnN k T base xs v W' :=
  h.keep fun g hg => by
    obtain ⟨cur, r⟩ := QdD h hg
    rw [q g cur T (Ne.symm hT) (h.ge hg) r, r]
theorem QfB {T T0 : TypeId} {base sz n : Nat} {xs : List Value} {v : Value} {W W' : World} (h : W.ownsRow base T sz v n xs) (q : QdR base T0 W W') (hT : T0 ≠ T) : W'.ownsRow base T sz v n xs :=
  ⟨h.1, h.2.imp id fun ⟨g, c, cur, q1, q2, q3, q4⟩ => ⟨g, c, cur, q1, q2, q g cur T (Ne.symm hT) q2 q3, q4⟩⟩
structure OwL {α : Type} (T : TypeId) (sz : Nat) (cs : α → List Value) (In : Nat → α → World → Prop) (base : Nat) (ts : List α) (v : Value) (W : World) : Prop where
  row : W.ownsRow base T sz v ts.length (ts.flatMap cs)
  el : ∀ x ∈ ts, In base x W
section
variable {α : Type} {T : TypeId} {sz : Nat} {cs : α → List Value} {In : Nat → α → World → Prop} {base : Nat} {ts : List α} {v : Value} {W W' : World} {tys : List TypeId}
theorem OwL.nil (W : World) : OwL T sz cs In base [] (.slice none 0 0) W := ⟨World.ownsRow_nil W base T sz, fun x hx => by cases hx⟩
theorem OwL.rows (K : InK tys In) (h : OwL T sz cs In base ts v W) {T0 : TypeId} (q : QdR base T0 W W') (hT : T0 ∉ T :: tys) : OwL T sz cs In base ts v W' := by
  rw [List.mem_cons, not_or] at hT
  exact ⟨QfB h.row q hT.1, fun x hx => K T0 hT.2 base x W W' q (h.el x hx)⟩
theorem OwL.sl (h : OwL T sz cs In base ts v W) : ∃ a c, v = .slice a ts.length c := by
  rcases h.row.2 with ⟨e, e2⟩ | ⟨g, cap, cur, e, -⟩
  · exact ⟨none, 0, by rw [e, e2]⟩
  · exact ⟨_, _, e⟩
theorem OwL.app {P : Program} {ρ : Operand → Value} {o : Oper} (K : InK tys In) (hTt : T ∉ tys) (b : Nat) (s x : Operand) (t : TypeId) (ho : o.op = .call { callee := .builtin .append, args := #[s, x], argTypes := #[t, t] }) (ht : P.underlying t = some (.slice T))
    (hi : (P.info? T).map (fun i => (i.zero.map (·.cells.size), i.size, i.bytes)) = some (some sz, sz, b)) (hb8 : b ≤ 1000) (h0 : 0 < sz) {g : Nat} {n : α} {cells : Array Value} (hs : ρ s = v) (hx : ρ x = .slice (some ⟨g, 0, none⟩) 1 1)
    (h : OwL T sz cs In base ts v W) (hn : In base n W) (hc : cells.toList = cs n) (hsz : cells.size = sz) (h1 : ∀ u ∈ cells.toList, u.oneCell' = true) (hrow : W.heap[g]? = some (.cells cells T)) (htl : ts.length ≤ 1000000) (hbase : base ≤ W.heap.size) :
    ∃ v' W', (execOp ρ o).run P W = .ok (.value v') W' ∧ OwL T sz cs In base (ts ++ [n]) v' W' ∧ RowKit.Below base W W' := by
  obtain ⟨i, hq, z, hz, hzs, hi2, hi3⟩ : ∃ i, P.info? T = some i ∧ ∃ z, i.zero = some z ∧ z.cells.size = sz ∧ i.size = sz ∧ i.bytes = b := by
    cases hq : P.info? T with
    | none => rw [hq] at hi; cases hi
    | some i =>
      rw [hq] at hi
      simp only [Option.map_some, Option.some.injEq, Prod.mk.injEq] at hi
      obtain ⟨z, hz, hzs⟩ := Option.map_eq_some_iff.1 hi.1
      exact ⟨i, rfl, z, hz, hzs, hi.2.1, hi.2.2⟩
  obtain ⟨v', W', hr, h2, h3, -, -⟩ := run_append_own_at (P := P) W base t o.type T i z sz b ht hq hz hi2 hi3 hzs h0 v ts.length _ h.row ⟨g, 0, none⟩ 1 1 cells.toList (by rw [Array.length_toList, hsz, Nat.one_mul])
    (fun j u hu => by
      rw [WideShapes.add_plain, Nat.zero_add]
      unfold World.cell?
      simp only [hrow]
      rw [Array.getElem?_toList] at hu
      rw [← hu]; rfl) h1 (by simp only [maxLen]; omega) (by
        have : (ts.length + 1) * b ≤ 1000001 * 1000 := Nat.mul_le_mul (by omega) hb8
        omega) hbase
  have hrows : QdR base T W W' := fun k cur T' hT hb r => (h3.block k (Qa5 r) fun q => by
    obtain ⟨-, cur2, r2⟩ := Qc4 h.row q.symm
    rw [r] at r2
    simp only [Option.some.injEq, Obj.cells.injEq] at r2
    exact hT r2.2.1).trans r
  refine ⟨v', W', ?_, ⟨?_, ?_⟩, ⟨h3.os, h3.tape, h3.output, h3.size, fun k hk => h3.block k (Nat.lt_of_lt_of_le hk hbase) fun q => by have := (Qc4 h.row q.symm).1; omega⟩⟩
  · unfold execOp
    simp only [ho, resolve, invoke, builtin, Sem.run_bind, Sem.run_pure, Result.andThen_ok, List.map_toArray, List.map_cons, List.map_nil, hs, hx, hr]
  · rw [List.length_append, List.flatMap_append]
    rw [hc] at h2
    simpa using h2
  · intro m hm
    rcases List.mem_append.1 hm with h5 | h5
    · exact K T hTt base m W W' hrows (h.el m h5)
    · obtain rfl : m = n := by simpa using h5
      exact K T hTt base m W W' hrows hn
theorem OwL.mono {b : Nat} (h : OwL T sz cs In b ts v W) (hab : base ≤ b) (hIn : ∀ x, In b x W → In base x W) : OwL T sz cs In base ts v W :=
  ⟨⟨h.row.1, h.row.2.imp id fun ⟨g, c, cur, q1, q2, q3⟩ => ⟨g, c, cur, q1, Nat.le_trans hab q2, q3⟩⟩, fun x hx => hIn x (h.el x hx)⟩
theorem Qei (cs : α → List Value) (sz : Nat) (d : α) : ∀ (ts : List α), (∀ x ∈ ts, (cs x).length = sz) → ∀ i, i < ts.length → ∀ j, j < sz → (ts.flatMap cs)[i * sz + j]? = (cs (ts.getD i d))[j]?
  | [], _, i, hi, _, _ => absurd hi (Nat.not_lt_zero _)
  | x :: r, ho, i, hi, j, hj => by
    have hsz := ho x List.mem_cons_self
    rw [List.flatMap_cons]
    cases i with
    | zero => rw [List.getElem?_append_left (by omega), Nat.zero_mul, Nat.zero_add]; rfl
    | succ i =>
      have e1 : (i + 1) * sz = i * sz + sz := by rw [Nat.add_mul, Nat.one_mul]
      rw [List.getElem?_append_right (by omega), hsz, show (i + 1) * sz + j - sz = i * sz + j by omega]
      exact Qei cs sz d r (fun y hy => ho y (List.mem_cons_of_mem _ hy)) i (by simpa using hi) j hj
theorem OwL.ls {El : Nat → World → Nat → Nat → α → Prop} {a : Option Addr} {c : Nat} (d : α) (h : OwL T sz cs In base ts (.slice a ts.length c) W) (ho : ∀ x ∈ ts, (cs x).length = sz)
    (hEl : ∀ x ∈ ts, ∀ g off, g < W.heap.size → (∀ j, j < sz → ∀ u, (cs x)[j]? = some u → W.cell? ⟨g, off + j, none⟩ = some u) → In base x W → El W.heap.size W g off x) : LsAt El sz d W.heap.size W a ts := by
  rcases h.row.2 with ⟨e, -⟩ | ⟨g, cap, cur, e, q2, q3, -⟩
  · have h0 : ts.length = 0 := by simp only [Value.slice.injEq] at e; exact e.2.1
    exact ⟨0, 0, fun h1 => absurd h1 (by omega), fun i hi => absurd hi (by omega)⟩
  · simp only [Value.slice.injEq] at e
    obtain ⟨rfl, -, rfl⟩ := e
    refine ⟨g, 0, fun _ => rfl, fun i hi => ?_⟩
    have hm := QbI ts d i hi
    refine hEl _ hm g _ (Qa5 q3) (fun j hj u hu => ?_) (h.el _ hm)
    rw [← Qei cs sz d ts ho i hi j hj] at hu
    have := h.row.cells (g := g) rfl (i * sz + j) u hu
    rw [WideShapes.add_plain] at this
    rw [Nat.zero_add]
    rw [Nat.zero_add] at this
    exact this
end
section
variable {ds : List Deferred} {P : Program} {ops : Array Oper} {Q : Exit → Act → World → Prop} {rest : List Oper} {o : Oper} {N : Nat} {L : Env} {W : World}
theorem Qd0 {α : Type} {T : TypeId} {sz : Nat} {cs : α → List Value} {In : Nat → α → World → Prop} {base : Nat} {ts : List α} {v : Value} {tys : List TypeId} (K : InK tys In) (hTt : T ∉ tys) (b : Nat) (s x : Operand) (t : TypeId) (ho : o.op = .call { callee := .builtin .append, args := #[s, x], argTypes := #[t, t] }) (ht : P.underlying t = some (.slice T))
    (hi : (P.info? T).map (fun i => (i.zero.map (·.cells.size), i.size, i.bytes)) = some (some sz, sz, b)) (hb8 : b ≤ 1000) (h0 : 0 < sz) (d : Nat) (hd : o.dst = some d) (hg : QbJ ops o N L = some true) {g : Nat} {n : α} {cells : Array Value} (hs : Rely.look (envN N L) s = v) (hx : Rely.look (envN N L) x = .slice (some ⟨g, 0, none⟩) 1 1)
    (h : OwL T sz cs In base ts v W) (hn : In base n W) (hc : cells.toList = cs n) (hsz : cells.size = sz) (h1 : ∀ u ∈ cells.toList, u.oneCell' = true) (hrow : W.heap[g]? = some (.cells cells T)) (htl : ts.length ≤ 1000000) (hbase : base ≤ W.heap.size)
    (kk : ∀ (u : Value) (W' : World), OwL T sz cs In base (ts ++ [n]) u W' → RowKit.Below base W W' → WL P ops Q rest (QaH ds N ((d, u) :: L)) W') : WL P ops Q (o :: rest) (QaH ds N L) W := by
  obtain ⟨v', W', h1', h2, h3⟩ := OwL.app (ρ := Rely.look (envN N L)) K hTt b s x t ho ht hi hb8 h0 hs hx h hn hc hsz h1 hrow htl hbase
  exact QbF _ _ d hd hg h1' (kk v' W' h2 h3)
end
def InRw (base : Nat) (r : RwV) (W : World) : Prop := Qao r.xs ∧ r.xs.length ≤ 65535 ∧ OwnN .u8 5 base r.xs (.slice r.a r.xs.length r.c) W
def rwC (r : RwV) : List Value := [.slice r.a r.xs.length r.c]
theorem inRw : InK [5] InRw := fun T hT base x W W' q h => ⟨h.1, h.2.1, Qbp h.2.2 q (by simpa using hT)⟩
abbrev QbO := OwL 26 1 rwC InRw
def stC (t : StV) : List Value := (cat (stP t)).toList
def InSt (base : Nat) (t : StV) (W : World) : Prop := t.key.length = 32 ∧ Qao t.key ∧ t.rows.length ≤ 255 ∧ QbO base t.rows (.slice t.a t.rows.length t.c) W
theorem inSt : InK [26, 5] InSt := fun T hT base x W W' q h => ⟨h.1, h.2.1, h.2.2.1, h.2.2.2.rows inRw q hT⟩
abbrev Qbn := OwL 129 33 stC InSt
def prC (p : PrV) : List Value := (cat (prP p)).toList
def InPr (base : Nat) (p : PrV) (W : World) : Prop := PrOk p.p ∧ p.p.n.ms.length ≤ 255 ∧ OwnN .i64 3 base p.p.n.ms (.slice p.a p.p.n.ms.length p.c) W
theorem inPr : InK [3] InPr := fun T hT base x W W' q h => ⟨h.1, h.2.1, Qbp h.2.2 q (by simpa using hT)⟩
abbrev Qby := OwL 47 263 prC InPr
theorem InRw.base {a b : Nat} (hab : a ≤ b) (r : RwV) {W : World} (h : InRw b r W) : InRw a r W := ⟨h.1, h.2.1, OwnN.base hab h.2.2⟩
theorem QbO.base_ {a b : Nat} (hab : a ≤ b) {rs : List RwV} {v : Value} {W : World} (h : QbO b rs v W) : QbO a rs v W := OwL.mono h hab fun x hx => InRw.base hab x hx
theorem InSt.base {a b : Nat} (hab : a ≤ b) (t : StV) {W : World} (h : InSt b t W) : InSt a t W := ⟨h.1, h.2.1, h.2.2.1, QbO.base_ hab h.2.2.2⟩
theorem Qbn.base_ {a b : Nat} (hab : a ≤ b) {ts : List StV} {v : Value} {W : World} (h : Qbn b ts v W) : Qbn a ts v W := OwL.mono h hab fun x hx => InSt.base hab x hx
theorem InPr.base {a b : Nat} (hab : a ≤ b) (p : PrV) {W : World} (h : InPr b p W) : InPr a p W := ⟨h.1, h.2.1, OwnN.base hab h.2.2⟩
theorem Qby.base_ {a b : Nat} (hab : a ≤ b) {ps : List PrV} {v : Value} {W : World} (h : Qby b ps v W) : Qby a ps v W := OwL.mono h hab fun x hx => InPr.base hab x hx
theorem QbO.ls {base : Nat} {rs : List RwV} {a : Option Addr} {c : Nat} {W : World} (h : QbO base rs (.slice a rs.length c) W) : LsAt RwAt 1 rw0 W.heap.size W a rs :=
  OwL.ls rw0 h (fun x _ => rfl) fun x _ g off hg hc hi => ⟨hg, hg, hc 0 (by decide) _ rfl, RdK.here (OwnN.rd hi.2.2), hi.1⟩
theorem Qbn.ls {base : Nat} {ts : List StV} {a : Option Addr} {c : Nat} {W : World} (h : Qbn base ts (.slice a ts.length c) W) : LsAt StAt 33 st0 W.heap.size W a ts :=
  OwL.ls st0 h (fun x hx => by unfold stC; rw [Array.length_toList]; exact QbR x (h.el x hx).1) fun x _ g off hg hc hi => ⟨hg, hg, fun j u hu => by
    have hj : j < 33 := by have := (Array.getElem?_eq_some_iff.1 hu).1; rw [QbR x hi.1] at this; exact this
    exact hc j hj u (by unfold stC; rw [Array.getElem?_toList]; exact hu), QbO.ls hi.2.2.2, hi.1, hi.2.1⟩
theorem Qby.ls {base : Nat} {ps : List PrV} {a : Option Addr} {c : Nat} {W : World} (h : Qby base ps (.slice a ps.length c) W) : LsAt PrAt 263 pr0 W.heap.size W a ps :=
  OwL.ls pr0 h (fun x hx => by unfold prC; rw [Array.length_toList]; exact QbU x (h.el x hx).1) fun x _ g off hg hc hi => ⟨hg, hg, fun j u hu => by
    have hj : j < 263 := by have := (Array.getElem?_eq_some_iff.1 hu).1; rw [QbU x hi.1] at this; exact this
    exact hc j hj u (by unfold prC; rw [Array.getElem?_toList]; exact hu), RdK.here (OwnN.rd hi.2.2), hi.1⟩
end Go.Proofs.Ytfelfmchachljaa.Wr
end
