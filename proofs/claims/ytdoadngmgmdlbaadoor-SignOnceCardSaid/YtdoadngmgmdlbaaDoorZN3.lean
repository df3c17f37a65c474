/- Texts of this claim, joined (N3). -/
import Derived.Test.YtdoadngmgmdlbaaDoorZN2

set_option linter.unusedVariables false
set_option linter.unusedSimpArgs false
set_option maxHeartbeats 4000000
section
namespace Go.Proofs.YtdoadngmgmdlbaaDoor.Field
open Go Go.RowKit
open Rely Auto
abbrev QbW : Array Value := ints .u64 [6346243789798364141, 1503914060200516822, 0, 1152921504606846976]
theorem Qqf (m0 m1 m2 m3 y0 y1 y2 y3 v0 v1 v2 v3 ca0 ca1 ca2 ca3 u0 u1 u2 u3 d0 d1 d2:Int)
    (r0:∀ W,(callFunc 88 #[.int .u64 m0,.int .u64 y0,.int .u64 0]).run Tryd.prog W=.ok (.value (.tuple #[.int .u64 v0,.int .u64 ca0])) W)
    (s0:∀ W,(callFunc 89 #[.int .u64 v0,.int .u64 6346243789798364141,.int .u64 0]).run Tryd.prog W=.ok (.value (.tuple #[.int .u64 u0,.int .u64 d0])) W)
    (r1:∀ W,(callFunc 88 #[.int .u64 m1,.int .u64 y1,.int .u64 ca0]).run Tryd.prog W=.ok (.value (.tuple #[.int .u64 v1,.int .u64 ca1])) W)
    (s1:∀ W,(callFunc 89 #[.int .u64 v1,.int .u64 1503914060200516822,.int .u64 d0]).run Tryd.prog W=.ok (.value (.tuple #[.int .u64 u1,.int .u64 d1])) W)
    (r2:∀ W,(callFunc 88 #[.int .u64 m2,.int .u64 y2,.int .u64 ca1]).run Tryd.prog W=.ok (.value (.tuple #[.int .u64 v2,.int .u64 ca2])) W)
    (s2:∀ W,(callFunc 89 #[.int .u64 v2,.int .u64 0,.int .u64 d1]).run Tryd.prog W=.ok (.value (.tuple #[.int .u64 u2,.int .u64 d2])) W)
    (r3:∀ W,(callFunc 88 #[.int .u64 m3,.int .u64 y3,.int .u64 ca2]).run Tryd.prog W=.ok (.value (.tuple #[.int .u64 v3,.int .u64 ca3])) W)
    (s3:∀ W,(callFunc 89 #[.int .u64 v3,.int .u64 1152921504606846976,.int .u64 d2]).run Tryd.prog W=.ok (.value (.tuple #[.int .u64 u3,.int .u64 1])) W) (w:World) (tO:TypeId) (hO:w.heap[3]? = some (.cells QbW tO)) :
    Calls Tryd.prog 63 #[.agg #[.int .u64 m0,.int .u64 m1,.int .u64 m2,.int .u64 m3],.agg #[.int .u64 y0,.int .u64 y1,.int .u64 y2,.int .u64 y3]] w (Ret w (words v0 v1 v2 v3)):=by
  refine enter 44 [(0,.agg (ints .u64 ([m0,m1,m2,m3]))),(1,.agg (ints .u64 ([y0,y1,y2,y3])))] Tryd.func63 rfl rfl kj rfl ?_
  refine wp_seq_k fun K2 hK2=>?_
  refine Qac ?_
  refine Qaj (ints .u64 ([m0,m1,m2,m3])) 97 2 rfl kj kj fun g3 W1 l3 e1 r3_1=>?_
  have x1:Ext w W1:=Ext.tr (Rely.Ext.refl w) e1
  have b3:w.heap.size≤g3:=qT (Rely.Ext.refl w).size l3
  refine Qaj (ints .u64 ([y0,y1,y2,y3])) 97 3 rfl kj kj fun g4 W2 l4 e2 r4_2=>?_
  have x2:Ext w W2:=Ext.tr x1 e2
  have b4:w.heap.size≤g4:=qT x1.size l4
  refine Qaj (ints .u64 ([0,0,0,0])) 97 4 rfl kj kj fun g5 W3 l5 e3 r5_3=>?_
  have x3:Ext w W3:=Ext.tr x2 e3
  have b5:w.heap.size≤g5:=qT x2.size l5
  refine Qaf ?_
  refine hK2 _ _ ?_
  refine wp_seq_k fun K6 hK6=>?_
  refine Qac ?_
  refine Qab (.int .u64 0) 5 rfl kj kj ?_
  refine Qab (.int .u64 0) 6 rfl kj kj ?_
  refine Qaf ?_
  refine hK6 _ _ ?_
  refine wp_seq_k fun K7 hK7=>?_
  refine Qac ?_
  have r3_3:=(Qaa (Qaa r3_1 e2) e3)
  refine Qab (.agg (ints .u64 ([m0,m1,m2,m3]))) 9 rfl kj (Qag 97 _ g3 97 _ _ r3_3 rfl kj kj (isz (n:=4) kj kj)) ?_
  refine Qaj (ints .u64 ([0,0,0,0])) 97 7 rfl kj kj fun g8 W4 l8 e4 r8_4=>?_
  have x4:Ext w W4:=Ext.tr x3 e4
  have b8:w.heap.size≤g8:=qT x3.size l8
  refine Qak g8 _ (ints .u64 ([m0,m1,m2,m3])) 97 r8_4 rfl kj (Qah 97 _ _ g8 97 _ _ r8_4 rfl kj kj (isz (n:=4) kj kj) (eqsz (n:=4) kj kj) kj) fun W5 p5 r8_5=>?_
  have x5:Ext w W5:=Puts.ext p5 x4 b8
  refine Qaf ?_
  refine hK7 _ _ ?_
  refine wp_seq_k fun K9 hK9=>?_
  refine wp_seq_k fun K10 hK10=>?_
  refine Qac ?_
  refine Qab (.int .i64 0) 10 rfl kj kj ?_
  refine Qaf ?_
  refine hK10 _ _ ?_
  refine wp_block ?_
  refine wp_loop_rounds 5 ?_
  show Code.wp _ _ (Exit.then (Code.rounds _ _ _ 4) _) _ _
  refine wp_seq_k fun K11 hK11=>?_
  refine Qac ?_
  refine Qab (.bool true) 11 rfl kj kj ?_
  refine Qaf ?_
  refine hK11 _ _ ?_
  refine wp_seq_k fun K12 hK12=>?_
  refine cond_true kj ?_
  refine wp_skip ?_
  refine hK12 _ _ ?_
  refine wp_seq_k fun K13 hK13=>?_
  refine wp_block ?_
  refine wp_seq_k fun K14 hK14=>?_
  refine Qac ?_
  refine Qab (.int .i64 0) 12 rfl kj kj ?_
  refine Qab (.int .i64 0) 8 rfl kj kj ?_
  refine Qaf ?_
  refine hK14 _ _ ?_
  refine wp_seq_k fun K15 hK15=>?_
  refine QaP (fun W=>True) [⟨none,[(8,none)]⟩,⟨none,[(8,none)]⟩,⟨none,[(2,none),(15,some 1)]⟩,⟨none,[(16,some 2)]⟩,⟨none,[(8,none)]⟩,⟨none,[(3,none),(18,some 4)]⟩,⟨none,[(19,some 5)]⟩,⟨none,[(5,none)]⟩,⟨none,[(17,some 3),(20,some 6),(21,some 7)]⟩,⟨none,[(22,some 8)]⟩,⟨none,[(13,some 9)]⟩,⟨none,[(13,some 9)]⟩,⟨none,[(2,none),(14,some 0)]⟩,⟨none,[(25,some 12),(23,some 10)]⟩,⟨none,[(24,some 11)]⟩] [] [11,14] kj kj kj (fun W hR=>trivial) fun F hF=>?_
  refine Qax (.int .i64 0) kj kj rfl (fun W=>kj) ?_
  refine Qax (.int .i64 0) kj kj rfl (fun W=>kj) ?_
  refine Qax (.pointer (some ⟨g3,0,none⟩)) kj kj rfl (fun W=>kj) ?_
  have r3_5:=(Puts.row p5 (Qaa r3_3 e4) (Qad r3_3 l8))
  refine QaW (.int .u64 m0) kj kj kj rfl (fun W hR=>(Qam 46 _ g3 0 97 _ (.int .u64 m0) _ (Qaa (Qaa r3_5 (Qai _)) hR) rfl kj kj kj)) ?_
  refine Qax (.int .i64 0) kj kj rfl (fun W=>kj) ?_
  refine Qax (.pointer (some ⟨g4,0,none⟩)) kj kj rfl (fun W=>kj) ?_
  have r4_3:=(Qaa r4_2 e3)
  have r4_5:=(Puts.row p5 (Qaa (Qaa r4_2 e3) e4) (Qad r4_3 l8))
  refine QaW (.int .u64 y0) kj kj kj rfl (fun W hR=>(Qam 46 _ g4 0 97 _ (.int .u64 y0) _ (Qaa (Qaa r4_5 (Qai _)) hR) rfl kj kj kj)) ?_
  refine Qax (.int .u64 0) kj kj rfl (fun W=>kj) ?_
  refine Qax (.tuple #[.int .u64 v0,.int .u64 ca0]) kj kj rfl (fun W=>(QbD (f:=88) (args:=#[.int .u64 m0,.int .u64 y0,.int .u64 0]) _ _ _ rfl kj kj (r0 _))) ?_
  refine Qax (.tuple #[.int .u64 v0,.int .u64 ca0]) kj kj rfl (fun W=>kj) ?_
  refine Qax (.int .u64 v0) kj kj rfl (fun W=>kj) ?_
  refine Qax (.int .u64 ca0) kj kj rfl (fun W=>kj) ?_
  refine Qax (.pointer (some ⟨g3,0,none⟩)) kj kj rfl (fun W=>kj) ?_
  refine Qb1 rfl ?_
  refine Qax (.int .u64 ca0) kj kj rfl (fun W=>kj) ?_
  refine QcX (hF _ kj fun W6 e6=>?_)
  simp only [List.nil_append,List.cons_append,fins,up]
  clear hF
  have x6:Ext w W6:=Ext.tr x5 e6
  have r3_6:=(Qaa r3_5 e6)
  refine Qbh _ g3 _ (ints .u64 ([v0,m1,m2,m3])) 97 r3_6 rfl (Qa1 46 _ _ g3 0 97 _ _ r3_6 rfl kj kj kj (Nat.lt_of_lt_of_eq (show 0<4 by decide) rfl.symm)) (fun W hp=>trivial) fun W7 p7 r3_7=>?_
  have x7:Ext w W7:=Puts.ext p7 x6 b3
  refine Qci ?_
  refine hK15 _ _ ?_
  refine QaP (fun W=>True) [⟨none,[(8,none)]⟩,⟨none,[(8,none)]⟩,⟨none,[(2,none),(28,some 1)]⟩,⟨none,[(29,some 2)]⟩,⟨none,[(8,none)]⟩,⟨none,[(31,some 4)]⟩,⟨none,[(32,some 5)]⟩,⟨none,[(6,none)]⟩,⟨none,[(30,some 3),(33,some 6),(34,some 7)]⟩,⟨none,[(35,some 8)]⟩,⟨none,[(26,some 9)]⟩,⟨none,[(26,some 9)]⟩,⟨none,[(7,none),(27,some 0)]⟩,⟨none,[(38,some 12),(36,some 10)]⟩,⟨none,[(37,some 11)]⟩] [] [11,14] kj kj kj (fun W hR=>trivial) fun F hF=>?_
  refine Qax (.int .i64 0) kj kj rfl (fun W=>kj) ?_
  refine Qax (.int .i64 0) kj kj rfl (fun W=>kj) ?_
  refine Qax (.pointer (some ⟨g3,0,none⟩)) kj kj rfl (fun W=>kj) ?_
  refine QaW (.int .u64 v0) kj kj kj rfl (fun W hR=>(Qam 46 _ g3 0 97 _ (.int .u64 v0) _ (Qaa (Qaa r3_7 (Qai _)) hR) rfl kj kj kj)) ?_
  refine Qax (.int .i64 0) kj kj rfl (fun W=>kj) ?_
  refine Qax (.pointer (some ⟨3,0,none⟩)) kj kj rfl (fun W=>kj) ?_
  have r1_3:=(Qaa (Qaa (Qaa hO e1) e2) e3)
  have r1_7:=(Puts.row p7 (Qaa (Puts.row p5 (Qaa (Qaa (Qaa (Qaa hO e1) e2) e3) e4) (Qad r1_3 l8)) e6) (Qad hO l3))
  refine QaW (.int .u64 6346243789798364141) kj kj kj rfl (fun W hR=>(Qam 46 _ 3 0 tO _ (.int .u64 6346243789798364141) _ (Qaa (Qaa r1_7 (Qai _)) hR) rfl kj kj kj)) ?_
  refine Qax (.int .u64 0) kj kj rfl (fun W=>kj) ?_
  refine Qax (.tuple #[.int .u64 u0,.int .u64 d0]) kj kj rfl (fun W=>(QbD (f:=89) (args:=#[.int .u64 v0,.int .u64 6346243789798364141,.int .u64 0]) _ _ _ rfl kj kj (s0 _))) ?_
  refine Qax (.tuple #[.int .u64 u0,.int .u64 d0]) kj kj rfl (fun W=>kj) ?_
  refine Qax (.int .u64 u0) kj kj rfl (fun W=>kj) ?_
  refine Qax (.int .u64 d0) kj kj rfl (fun W=>kj) ?_
  refine Qax (.pointer (some ⟨g8,0,none⟩)) kj kj rfl (fun W=>kj) ?_
  refine Qb1 rfl ?_
  refine Qax (.int .u64 d0) kj kj rfl (fun W=>kj) ?_
  refine QcX (hF _ kj fun W8 e8=>?_)
  simp only [List.nil_append,List.cons_append,fins,up]
  clear hF
  have x8:Ext w W8:=Ext.tr x7 e8
  have r8_8:=(Qaa (Puts.row p7 (Qaa r8_5 e6) (Qat r3_3 l8)) e8)
  refine Qbh _ g8 _ (ints .u64 ([u0,m1,m2,m3])) 97 r8_8 rfl (Qa1 46 _ _ g8 0 97 _ _ r8_8 rfl kj kj kj (Nat.lt_of_lt_of_eq (show 0<4 by decide) rfl.symm)) (fun W hp=>trivial) fun W9 p9 r8_9=>?_
  have x9:Ext w W9:=Puts.ext p9 x8 b8
  refine Qci ?_
  refine hK13 _ _ ?_
  refine Qac ?_
  refine Qab (.int .i64 1) 39 rfl kj kj ?_
  refine Qab (.int .i64 1) 10 rfl kj kj ?_
  refine Qaf ?_
  show Code.rounds _ _ _ 4 _ _
  show Code.wp _ _ (Exit.then (Code.rounds _ _ _ 3) _) _ _
  refine wp_seq_k fun K16 hK16=>?_
  refine Qac ?_
  refine Qab (.bool true) 11 rfl kj kj ?_
  refine Qaf ?_
  refine hK16 _ _ ?_
  refine wp_seq_k fun K17 hK17=>?_
  refine cond_true kj ?_
  refine wp_skip ?_
  refine hK17 _ _ ?_
  refine wp_seq_k fun K18 hK18=>?_
  refine wp_block ?_
  refine wp_seq_k fun K19 hK19=>?_
  refine Qac ?_
  refine Qab (.int .i64 1) 12 rfl kj kj ?_
  refine Qab (.int .i64 1) 8 rfl kj kj ?_
  refine Qaf ?_
  refine hK19 _ _ ?_
  refine wp_seq_k fun K20 hK20=>?_
  refine QaP (fun W=>True) [⟨none,[(8,none)]⟩,⟨none,[(8,none)]⟩,⟨none,[(2,none),(15,some 1)]⟩,⟨none,[(16,some 2)]⟩,⟨none,[(8,none)]⟩,⟨none,[(3,none),(18,some 4)]⟩,⟨none,[(19,some 5)]⟩,⟨none,[(5,none)]⟩,⟨none,[(17,some 3),(20,some 6),(21,some 7)]⟩,⟨none,[(22,some 8)]⟩,⟨none,[(13,some 9)]⟩,⟨none,[(13,some 9)]⟩,⟨none,[(2,none),(14,some 0)]⟩,⟨none,[(25,some 12),(23,some 10)]⟩,⟨none,[(24,some 11)]⟩] [] [11,14] kj kj kj (fun W hR=>trivial) fun F hF=>?_
  refine Qax (.int .i64 1) kj kj rfl (fun W=>kj) ?_
  refine Qax (.int .i64 1) kj kj rfl (fun W=>kj) ?_
  refine Qax (.pointer (some ⟨g3,1,none⟩)) kj kj rfl (fun W=>kj) ?_
  have r3_9:=(Puts.row p9 (Qaa r3_7 e8) (Qad r3_3 l8))
  refine QaW (.int .u64 m1) kj kj kj rfl (fun W hR=>(Qam 46 _ g3 1 97 _ (.int .u64 m1) _ (Qaa (Qaa r3_9 (Qai _)) hR) rfl kj kj kj)) ?_
  refine Qax (.int .i64 1) kj kj rfl (fun W=>kj) ?_
  refine Qax (.pointer (some ⟨g4,1,none⟩)) kj kj rfl (fun W=>kj) ?_
  have r4_9:=(Puts.row p9 (Qaa (Puts.row p7 (Qaa r4_5 e6) (Qat r3_1 l4)) e8) (Qad r4_3 l8))
  refine QaW (.int .u64 y1) kj kj kj rfl (fun W hR=>(Qam 46 _ g4 1 97 _ (.int .u64 y1) _ (Qaa (Qaa r4_9 (Qai _)) hR) rfl kj kj kj)) ?_
  refine Qax (.int .u64 ca0) kj kj rfl (fun W=>kj) ?_
  refine Qax (.tuple #[.int .u64 v1,.int .u64 ca1]) kj kj rfl (fun W=>(QbD (f:=88) (args:=#[.int .u64 m1,.int .u64 y1,.int .u64 ca0]) _ _ _ rfl kj kj (r1 _))) ?_
  refine Qax (.tuple #[.int .u64 v1,.int .u64 ca1]) kj kj rfl (fun W=>kj) ?_
  refine Qax (.int .u64 v1) kj kj rfl (fun W=>kj) ?_
  refine Qax (.int .u64 ca1) kj kj rfl (fun W=>kj) ?_
  refine Qax (.pointer (some ⟨g3,1,none⟩)) kj kj rfl (fun W=>kj) ?_
  refine Qb1 rfl ?_
  refine Qax (.int .u64 ca1) kj kj rfl (fun W=>kj) ?_
  refine QcX (hF _ kj fun W10 e10=>?_)
  simp only [List.nil_append,List.cons_append,fins,up]
  clear hF
  have x10:Ext w W10:=Ext.tr x9 e10
  have r3_10:=(Qaa r3_9 e10)
  refine Qbh _ g3 _ (ints .u64 ([v0,v1,m2,m3])) 97 r3_10 rfl (Qa1 46 _ _ g3 1 97 _ _ r3_10 rfl kj kj kj (Nat.lt_of_lt_of_eq (show 1<4 by decide) rfl.symm)) (fun W hp=>trivial) fun W11 p11 r3_11=>?_
  have x11:Ext w W11:=Puts.ext p11 x10 b3
  refine Qci ?_
  refine hK20 _ _ ?_
  refine QaP (fun W=>True) [⟨none,[(8,none)]⟩,⟨none,[(8,none)]⟩,⟨none,[(2,none),(28,some 1)]⟩,⟨none,[(29,some 2)]⟩,⟨none,[(8,none)]⟩,⟨none,[(31,some 4)]⟩,⟨none,[(32,some 5)]⟩,⟨none,[(6,none)]⟩,⟨none,[(30,some 3),(33,some 6),(34,some 7)]⟩,⟨none,[(35,some 8)]⟩,⟨none,[(26,some 9)]⟩,⟨none,[(26,some 9)]⟩,⟨none,[(7,none),(27,some 0)]⟩,⟨none,[(38,some 12),(36,some 10)]⟩,⟨none,[(37,some 11)]⟩] [] [11,14] kj kj kj (fun W hR=>trivial) fun F hF=>?_
  refine Qax (.int .i64 1) kj kj rfl (fun W=>kj) ?_
  refine Qax (.int .i64 1) kj kj rfl (fun W=>kj) ?_
  refine Qax (.pointer (some ⟨g3,1,none⟩)) kj kj rfl (fun W=>kj) ?_
  refine QaW (.int .u64 v1) kj kj kj rfl (fun W hR=>(Qam 46 _ g3 1 97 _ (.int .u64 v1) _ (Qaa (Qaa r3_11 (Qai _)) hR) rfl kj kj kj)) ?_
  refine Qax (.int .i64 1) kj kj rfl (fun W=>kj) ?_
  refine Qax (.pointer (some ⟨3,1,none⟩)) kj kj rfl (fun W=>kj) ?_
  have r1_11:=(Puts.row p11 (Qaa (Puts.row p9 (Qaa r1_7 e8) (Qad r1_3 l8)) e10) (Qad hO l3))
  refine QaW (.int .u64 1503914060200516822) kj kj kj rfl (fun W hR=>(Qam 46 _ 3 1 tO _ (.int .u64 1503914060200516822) _ (Qaa (Qaa r1_11 (Qai _)) hR) rfl kj kj kj)) ?_
  refine Qax (.int .u64 d0) kj kj rfl (fun W=>kj) ?_
  refine Qax (.tuple #[.int .u64 u1,.int .u64 d1]) kj kj rfl (fun W=>(QbD (f:=89) (args:=#[.int .u64 v1,.int .u64 1503914060200516822,.int .u64 d0]) _ _ _ rfl kj kj (s1 _))) ?_
  refine Qax (.tuple #[.int .u64 u1,.int .u64 d1]) kj kj rfl (fun W=>kj) ?_
  refine Qax (.int .u64 u1) kj kj rfl (fun W=>kj) ?_
  refine Qax (.int .u64 d1) kj kj rfl (fun W=>kj) ?_
  refine Qax (.pointer (some ⟨g8,1,none⟩)) kj kj rfl (fun W=>kj) ?_
  refine Qb1 rfl ?_
  refine Qax (.int .u64 d1) kj kj rfl (fun W=>kj) ?_
  refine QcX (hF _ kj fun W12 e12=>?_)
  simp only [List.nil_append,List.cons_append,fins,up]
  clear hF
  have x12:Ext w W12:=Ext.tr x11 e12
  have r8_12:=(Qaa (Puts.row p11 (Qaa r8_9 e10) (Qat r3_3 l8)) e12)
  refine Qbh _ g8 _ (ints .u64 ([u0,u1,m2,m3])) 97 r8_12 rfl (Qa1 46 _ _ g8 1 97 _ _ r8_12 rfl kj kj kj (Nat.lt_of_lt_of_eq (show 1<4 by decide) rfl.symm)) (fun W hp=>trivial) fun W13 p13 r8_13=>?_
  have x13:Ext w W13:=Puts.ext p13 x12 b8
  refine Qci ?_
  refine hK18 _ _ ?_
  refine Qac ?_
  refine Qab (.int .i64 2) 39 rfl kj kj ?_
  refine Qab (.int .i64 2) 10 rfl kj kj ?_
  refine Qaf ?_
  show Code.rounds _ _ _ 3 _ _
  show Code.wp _ _ (Exit.then (Code.rounds _ _ _ 2) _) _ _
  refine wp_seq_k fun K21 hK21=>?_
  refine Qac ?_
  refine Qab (.bool true) 11 rfl kj kj ?_
  refine Qaf ?_
  refine hK21 _ _ ?_
  refine wp_seq_k fun K22 hK22=>?_
  refine cond_true kj ?_
  refine wp_skip ?_
  refine hK22 _ _ ?_
  refine wp_seq_k fun K23 hK23=>?_
  refine wp_block ?_
  refine wp_seq_k fun K24 hK24=>?_
  refine Qac ?_
  refine Qab (.int .i64 2) 12 rfl kj kj ?_
  refine Qab (.int .i64 2) 8 rfl kj kj ?_
  refine Qaf ?_
  refine hK24 _ _ ?_
  refine wp_seq_k fun K25 hK25=>?_
  refine QaP (fun W=>True) [⟨none,[(8,none)]⟩,⟨none,[(8,none)]⟩,⟨none,[(2,none),(15,some 1)]⟩,⟨none,[(16,some 2)]⟩,⟨none,[(8,none)]⟩,⟨none,[(3,none),(18,some 4)]⟩,⟨none,[(19,some 5)]⟩,⟨none,[(5,none)]⟩,⟨none,[(17,some 3),(20,some 6),(21,some 7)]⟩,⟨none,[(22,some 8)]⟩,⟨none,[(13,some 9)]⟩,⟨none,[(13,some 9)]⟩,⟨none,[(2,none),(14,some 0)]⟩,⟨none,[(25,some 12),(23,some 10)]⟩,⟨none,[(24,some 11)]⟩] [] [11,14] kj kj kj (fun W hR=>trivial) fun F hF=>?_
  refine Qax (.int .i64 2) kj kj rfl (fun W=>kj) ?_
  refine Qax (.int .i64 2) kj kj rfl (fun W=>kj) ?_
  refine Qax (.pointer (some ⟨g3,2,none⟩)) kj kj rfl (fun W=>kj) ?_
  have r3_13:=(Puts.row p13 (Qaa r3_11 e12) (Qad r3_3 l8))
  refine QaW (.int .u64 m2) kj kj kj rfl (fun W hR=>(Qam 46 _ g3 2 97 _ (.int .u64 m2) _ (Qaa (Qaa r3_13 (Qai _)) hR) rfl kj kj kj)) ?_
  refine Qax (.int .i64 2) kj kj rfl (fun W=>kj) ?_
  refine Qax (.pointer (some ⟨g4,2,none⟩)) kj kj rfl (fun W=>kj) ?_
  have r4_13:=(Puts.row p13 (Qaa (Puts.row p11 (Qaa r4_9 e10) (Qat r3_1 l4)) e12) (Qad r4_3 l8))
  refine QaW (.int .u64 y2) kj kj kj rfl (fun W hR=>(Qam 46 _ g4 2 97 _ (.int .u64 y2) _ (Qaa (Qaa r4_13 (Qai _)) hR) rfl kj kj kj)) ?_
  refine Qax (.int .u64 ca1) kj kj rfl (fun W=>kj) ?_
  refine Qax (.tuple #[.int .u64 v2,.int .u64 ca2]) kj kj rfl (fun W=>(QbD (f:=88) (args:=#[.int .u64 m2,.int .u64 y2,.int .u64 ca1]) _ _ _ rfl kj kj (r2 _))) ?_
  refine Qax (.tuple #[.int .u64 v2,.int .u64 ca2]) kj kj rfl (fun W=>kj) ?_
  refine Qax (.int .u64 v2) kj kj rfl (fun W=>kj) ?_
  refine Qax (.int .u64 ca2) kj kj rfl (fun W=>kj) ?_
  refine Qax (.pointer (some ⟨g3,2,none⟩)) kj kj rfl (fun W=>kj) ?_
  refine Qb1 rfl ?_
  refine Qax (.int .u64 ca2) kj kj rfl (fun W=>kj) ?_
  refine QcX (hF _ kj fun W14 e14=>?_)
  simp only [List.nil_append,List.cons_append,fins,up]
  clear hF
  have x14:Ext w W14:=Ext.tr x13 e14
  have r3_14:=(Qaa r3_13 e14)
  refine Qbh _ g3 _ (ints .u64 ([v0,v1,v2,m3])) 97 r3_14 rfl (Qa1 46 _ _ g3 2 97 _ _ r3_14 rfl kj kj kj (Nat.lt_of_lt_of_eq (show 2<4 by decide) rfl.symm)) (fun W hp=>trivial) fun W15 p15 r3_15=>?_
  have x15:Ext w W15:=Puts.ext p15 x14 b3
  refine Qci ?_
  refine hK25 _ _ ?_
  refine QaP (fun W=>True) [⟨none,[(8,none)]⟩,⟨none,[(8,none)]⟩,⟨none,[(2,none),(28,some 1)]⟩,⟨none,[(29,some 2)]⟩,⟨none,[(8,none)]⟩,⟨none,[(31,some 4)]⟩,⟨none,[(32,some 5)]⟩,⟨none,[(6,none)]⟩,⟨none,[(30,some 3),(33,some 6),(34,some 7)]⟩,⟨none,[(35,some 8)]⟩,⟨none,[(26,some 9)]⟩,⟨none,[(26,some 9)]⟩,⟨none,[(7,none),(27,some 0)]⟩,⟨none,[(38,some 12),(36,some 10)]⟩,⟨none,[(37,some 11)]⟩] [] [11,14] kj kj kj (fun W hR=>trivial) fun F hF=>?_
  refine Qax (.int .i64 2) kj kj rfl (fun W=>kj) ?_
  refine Qax (.int .i64 2) kj kj rfl (fun W=>kj) ?_
  refine Qax (.pointer (some ⟨g3,2,none⟩)) kj kj rfl (fun W=>kj) ?_
  refine QaW (.int .u64 v2) kj kj kj rfl (fun W hR=>(Qam 46 _ g3 2 97 _ (.int .u64 v2) _ (Qaa (Qaa r3_15 (Qai _)) hR) rfl kj kj kj)) ?_
  refine Qax (.int .i64 2) kj kj rfl (fun W=>kj) ?_
  refine Qax (.pointer (some ⟨3,2,none⟩)) kj kj rfl (fun W=>kj) ?_
  have r1_15:=(Puts.row p15 (Qaa (Puts.row p13 (Qaa r1_11 e12) (Qad r1_3 l8)) e14) (Qad hO l3))
  refine QaW (.int .u64 0) kj kj kj rfl (fun W hR=>(Qam 46 _ 3 2 tO _ (.int .u64 0) _ (Qaa (Qaa r1_15 (Qai _)) hR) rfl kj kj kj)) ?_
  refine Qax (.int .u64 d1) kj kj rfl (fun W=>kj) ?_
  refine Qax (.tuple #[.int .u64 u2,.int .u64 d2]) kj kj rfl (fun W=>(QbD (f:=89) (args:=#[.int .u64 v2,.int .u64 0,.int .u64 d1]) _ _ _ rfl kj kj (s2 _))) ?_
  refine Qax (.tuple #[.int .u64 u2,.int .u64 d2]) kj kj rfl (fun W=>kj) ?_
  refine Qax (.int .u64 u2) kj kj rfl (fun W=>kj) ?_
  refine Qax (.int .u64 d2) kj kj rfl (fun W=>kj) ?_
  refine Qax (.pointer (some ⟨g8,2,none⟩)) kj kj rfl (fun W=>kj) ?_
  refine Qb1 rfl ?_
  refine Qax (.int .u64 d2) kj kj rfl (fun W=>kj) ?_
  refine QcX (hF _ kj fun W16 e16=>?_)
  simp only [List.nil_append,List.cons_append,fins,up]
  clear hF
  have x16:Ext w W16:=Ext.tr x15 e16
  have r8_16:=(Qaa (Puts.row p15 (Qaa r8_13 e14) (Qat r3_3 l8)) e16)
  refine Qbh _ g8 _ (ints .u64 ([u0,u1,u2,m3])) 97 r8_16 rfl (Qa1 46 _ _ g8 2 97 _ _ r8_16 rfl kj kj kj (Nat.lt_of_lt_of_eq (show 2<4 by decide) rfl.symm)) (fun W hp=>trivial) fun W17 p17 r8_17=>?_
  have x17:Ext w W17:=Puts.ext p17 x16 b8
  refine Qci ?_
  refine hK23 _ _ ?_
  refine Qac ?_
  refine Qab (.int .i64 3) 39 rfl kj kj ?_
  refine Qab (.int .i64 3) 10 rfl kj kj ?_
  refine Qaf ?_
  show Code.rounds _ _ _ 2 _ _
  show Code.wp _ _ (Exit.then (Code.rounds _ _ _ 1) _) _ _
  refine wp_seq_k fun K26 hK26=>?_
  refine Qac ?_
  refine Qab (.bool true) 11 rfl kj kj ?_
  refine Qaf ?_
  refine hK26 _ _ ?_
  refine wp_seq_k fun K27 hK27=>?_
  refine cond_true kj ?_
  refine wp_skip ?_
  refine hK27 _ _ ?_
  refine wp_seq_k fun K28 hK28=>?_
  refine wp_block ?_
  refine wp_seq_k fun K29 hK29=>?_
  refine Qac ?_
  refine Qab (.int .i64 3) 12 rfl kj kj ?_
  refine Qab (.int .i64 3) 8 rfl kj kj ?_
  refine Qaf ?_
  refine hK29 _ _ ?_
  refine wp_seq_k fun K30 hK30=>?_
  refine QaP (fun W=>True) [⟨none,[(8,none)]⟩,⟨none,[(8,none)]⟩,⟨none,[(2,none),(15,some 1)]⟩,⟨none,[(16,some 2)]⟩,⟨none,[(8,none)]⟩,⟨none,[(3,none),(18,some 4)]⟩,⟨none,[(19,some 5)]⟩,⟨none,[(5,none)]⟩,⟨none,[(17,some 3),(20,some 6),(21,some 7)]⟩,⟨none,[(22,some 8)]⟩,⟨none,[(13,some 9)]⟩,⟨none,[(13,some 9)]⟩,⟨none,[(2,none),(14,some 0)]⟩,⟨none,[(25,some 12),(23,some 10)]⟩,⟨none,[(24,some 11)]⟩] [] [11,14] kj kj kj (fun W hR=>trivial) fun F hF=>?_
  refine Qax (.int .i64 3) kj kj rfl (fun W=>kj) ?_
  refine Qax (.int .i64 3) kj kj rfl (fun W=>kj) ?_
  refine Qax (.pointer (some ⟨g3,3,none⟩)) kj kj rfl (fun W=>kj) ?_
  have r3_17:=(Puts.row p17 (Qaa r3_15 e16) (Qad r3_3 l8))
  refine QaW (.int .u64 m3) kj kj kj rfl (fun W hR=>(Qam 46 _ g3 3 97 _ (.int .u64 m3) _ (Qaa (Qaa r3_17 (Qai _)) hR) rfl kj kj kj)) ?_
  refine Qax (.int .i64 3) kj kj rfl (fun W=>kj) ?_
  refine Qax (.pointer (some ⟨g4,3,none⟩)) kj kj rfl (fun W=>kj) ?_
  have r4_17:=(Puts.row p17 (Qaa (Puts.row p15 (Qaa r4_13 e14) (Qat r3_1 l4)) e16) (Qad r4_3 l8))
  refine QaW (.int .u64 y3) kj kj kj rfl (fun W hR=>(Qam 46 _ g4 3 97 _ (.int .u64 y3) _ (Qaa (Qaa r4_17 (Qai _)) hR) rfl kj kj kj)) ?_
  refine Qax (.int .u64 ca2) kj kj rfl (fun W=>kj) ?_
  refine Qax (.tuple #[.int .u64 v3,.int .u64 ca3]) kj kj rfl (fun W=>(QbD (f:=88) (args:=#[.int .u64 m3,.int .u64 y3,.int .u64 ca2]) _ _ _ rfl kj kj (r3 _))) ?_
  refine Qax (.tuple #[.int .u64 v3,.int .u64 ca3]) kj kj rfl (fun W=>kj) ?_
  refine Qax (.int .u64 v3) kj kj rfl (fun W=>kj) ?_
  refine Qax (.int .u64 ca3) kj kj rfl (fun W=>kj) ?_
  refine Qax (.pointer (some ⟨g3,3,none⟩)) kj kj rfl (fun W=>kj) ?_
  refine Qb1 rfl ?_
  refine Qax (.int .u64 ca3) kj kj rfl (fun W=>kj) ?_
  refine QcX (hF _ kj fun W18 e18=>?_)
  simp only [List.nil_append,List.cons_append,fins,up]
  clear hF
  have x18:Ext w W18:=Ext.tr x17 e18
  have r3_18:=(Qaa r3_17 e18)
  refine Qbh _ g3 _ (ints .u64 ([v0,v1,v2,v3])) 97 r3_18 rfl (Qa1 46 _ _ g3 3 97 _ _ r3_18 rfl kj kj kj (Nat.lt_of_lt_of_eq (show 3<4 by decide) rfl.symm)) (fun W hp=>trivial) fun W19 p19 r3_19=>?_
  have x19:Ext w W19:=Puts.ext p19 x18 b3
  refine Qci ?_
  refine hK30 _ _ ?_
  refine QaP (fun W=>True) [⟨none,[(8,none)]⟩,⟨none,[(8,none)]⟩,⟨none,[(2,none),(28,some 1)]⟩,⟨none,[(29,some 2)]⟩,⟨none,[(8,none)]⟩,⟨none,[(31,some 4)]⟩,⟨none,[(32,some 5)]⟩,⟨none,[(6,none)]⟩,⟨none,[(30,some 3),(33,some 6),(34,some 7)]⟩,⟨none,[(35,some 8)]⟩,⟨none,[(26,some 9)]⟩,⟨none,[(26,some 9)]⟩,⟨none,[(7,none),(27,some 0)]⟩,⟨none,[(38,some 12),(36,some 10)]⟩,⟨none,[(37,some 11)]⟩] [] [11,14] kj kj kj (fun W hR=>trivial) fun F hF=>?_
  refine Qax (.int .i64 3) kj kj rfl (fun W=>kj) ?_
  refine Qax (.int .i64 3) kj kj rfl (fun W=>kj) ?_
  refine Qax (.pointer (some ⟨g3,3,none⟩)) kj kj rfl (fun W=>kj) ?_
  refine QaW (.int .u64 v3) kj kj kj rfl (fun W hR=>(Qam 46 _ g3 3 97 _ (.int .u64 v3) _ (Qaa (Qaa r3_19 (Qai _)) hR) rfl kj kj kj)) ?_
  refine Qax (.int .i64 3) kj kj rfl (fun W=>kj) ?_
  refine Qax (.pointer (some ⟨3,3,none⟩)) kj kj rfl (fun W=>kj) ?_
  have r1_19:=(Puts.row p19 (Qaa (Puts.row p17 (Qaa r1_15 e16) (Qad r1_3 l8)) e18) (Qad hO l3))
  refine QaW (.int .u64 1152921504606846976) kj kj kj rfl (fun W hR=>(Qam 46 _ 3 3 tO _ (.int .u64 1152921504606846976) _ (Qaa (Qaa r1_19 (Qai _)) hR) rfl kj kj kj)) ?_
  refine Qax (.int .u64 d2) kj kj rfl (fun W=>kj) ?_
  refine Qax (.tuple #[.int .u64 u3,.int .u64 1]) kj kj rfl (fun W=>(QbD (f:=89) (args:=#[.int .u64 v3,.int .u64 1152921504606846976,.int .u64 d2]) _ _ _ rfl kj kj (s3 _))) ?_
  refine Qax (.tuple #[.int .u64 u3,.int .u64 1]) kj kj rfl (fun W=>kj) ?_
  refine Qax (.int .u64 u3) kj kj rfl (fun W=>kj) ?_
  refine Qax (.int .u64 1) kj kj rfl (fun W=>kj) ?_
  refine Qax (.pointer (some ⟨g8,3,none⟩)) kj kj rfl (fun W=>kj) ?_
  refine Qb1 rfl ?_
  refine Qax (.int .u64 1) kj kj rfl (fun W=>kj) ?_
  refine QcX (hF _ kj fun W20 e20=>?_)
  simp only [List.nil_append,List.cons_append,fins,up]
  clear hF
  have x20:Ext w W20:=Ext.tr x19 e20
  have r8_20:=(Qaa (Puts.row p19 (Qaa r8_17 e18) (Qat r3_3 l8)) e20)
  refine Qbh _ g8 _ (ints .u64 ([u0,u1,u2,u3])) 97 r8_20 rfl (Qa1 46 _ _ g8 3 97 _ _ r8_20 rfl kj kj kj (Nat.lt_of_lt_of_eq (show 3<4 by decide) rfl.symm)) (fun W hp=>trivial) fun W21 p21 r8_21=>?_
  have x21:Ext w W21:=Puts.ext p21 x20 b8
  refine Qci ?_
  refine hK28 _ _ ?_
  refine Qac ?_
  refine Qab (.int .i64 4) 39 rfl kj kj ?_
  refine Qab (.int .i64 4) 10 rfl kj kj ?_
  refine Qaf ?_
  show Code.rounds _ _ _ 1 _ _
  show Code.wp _ _ (Exit.then (Code.rounds _ _ _ 0) _) _ _
  refine wp_seq_k fun K31 hK31=>?_
  refine Qac ?_
  refine Qab (.bool false) 11 rfl kj kj ?_
  refine Qaf ?_
  refine hK31 _ _ ?_
  refine wp_seq_k fun K32 hK32=>?_
  refine cond_false kj ?_
  refine wp_exit ?_
  refine hK9 _ _ ?_
  refine wp_seq_k fun K33 hK33=>?_
  refine wp_seq_k fun K34 hK34=>?_
  refine Qac ?_
  refine Qab (.int .u64 1) 40 rfl kj kj ?_
  refine Qab (.bool true) 41 rfl kj kj ?_
  refine Qaf ?_
  refine hK34 _ _ ?_
  refine cond_true kj ?_
  refine wp_seq_k fun K35 hK35=>?_
  refine Qac ?_
  have r3_21:=(Puts.row p21 (Qaa r3_19 e20) (Qad r3_3 l8))
  refine Qab (.agg (ints .u64 ([v0,v1,v2,v3]))) 42 rfl kj (Qag 97 _ g3 97 _ _ r3_21 rfl kj kj (isz (n:=4) kj kj)) ?_
  have r3_2:=(Qaa r3_1 e2)
  have r5_21:=(Puts.row p21 (Qaa (Puts.row p19 (Qaa (Puts.row p17 (Qaa (Puts.row p15 (Qaa (Puts.row p13 (Qaa (Puts.row p11 (Qaa (Puts.row p9 (Qaa (Puts.row p7 (Qaa (Puts.row p5 (Qaa r5_3 e4) (Qad r5_3 l8)) e6) (Qat r3_2 l5)) e8) (Qad r5_3 l8)) e10) (Qat r3_2 l5)) e12) (Qad r5_3 l8)) e14) (Qat r3_2 l5)) e16) (Qad r5_3 l8)) e18) (Qat r3_2 l5)) e20) (Qad r5_3 l8))
  refine Qak g5 _ (ints .u64 ([v0,v1,v2,v3])) 97 r5_21 rfl kj (Qah 97 _ _ g5 97 _ _ r5_21 rfl kj kj (isz (n:=4) kj kj) (eqsz (n:=4) kj kj) kj) fun W22 p22 r5_22=>?_
  have x22:Ext w W22:=Puts.ext p22 x21 b5
  refine Qaf ?_
  refine hK35 _ _ ?_
  refine wp_ret ?_
  exact (show bodyPost _ _ _ .ret _ _ from ret1 (.agg (ints .u64 ([v0,v1,v2,v3]))) rfl (QaC g5 97 _ r5_22 kj kj (isz (n:=4) kj kj)) ⟨rfl,x22⟩)
theorem Qqg (m0 m1 m2 m3 y0 y1 y2 y3 v0 v1 v2 v3 ca0 ca1 ca2 ca3 u0 u1 u2 u3 d0 d1 d2:Int)
    (r0:∀ W,(callFunc 88 #[.int .u64 m0,.int .u64 y0,.int .u64 0]).run Tryd.prog W=.ok (.value (.tuple #[.int .u64 v0,.int .u64 ca0])) W)
    (s0:∀ W,(callFunc 89 #[.int .u64 v0,.int .u64 6346243789798364141,.int .u64 0]).run Tryd.prog W=.ok (.value (.tuple #[.int .u64 u0,.int .u64 d0])) W)
    (r1:∀ W,(callFunc 88 #[.int .u64 m1,.int .u64 y1,.int .u64 ca0]).run Tryd.prog W=.ok (.value (.tuple #[.int .u64 v1,.int .u64 ca1])) W)
    (s1:∀ W,(callFunc 89 #[.int .u64 v1,.int .u64 1503914060200516822,.int .u64 d0]).run Tryd.prog W=.ok (.value (.tuple #[.int .u64 u1,.int .u64 d1])) W)
    (r2:∀ W,(callFunc 88 #[.int .u64 m2,.int .u64 y2,.int .u64 ca1]).run Tryd.prog W=.ok (.value (.tuple #[.int .u64 v2,.int .u64 ca2])) W)
    (s2:∀ W,(callFunc 89 #[.int .u64 v2,.int .u64 0,.int .u64 d1]).run Tryd.prog W=.ok (.value (.tuple #[.int .u64 u2,.int .u64 d2])) W)
    (r3:∀ W,(callFunc 88 #[.int .u64 m3,.int .u64 y3,.int .u64 ca2]).run Tryd.prog W=.ok (.value (.tuple #[.int .u64 v3,.int .u64 ca3])) W)
    (s3:∀ W,(callFunc 89 #[.int .u64 v3,.int .u64 1152921504606846976,.int .u64 d2]).run Tryd.prog W=.ok (.value (.tuple #[.int .u64 u3,.int .u64 0])) W) (w:World) (tO:TypeId) (hO:w.heap[3]? = some (.cells QbW tO)) :
    Calls Tryd.prog 63 #[.agg #[.int .u64 m0,.int .u64 m1,.int .u64 m2,.int .u64 m3],.agg #[.int .u64 y0,.int .u64 y1,.int .u64 y2,.int .u64 y3]] w (Ret w (words u0 u1 u2 u3)):=by
  refine enter 44 [(0,.agg (ints .u64 ([m0,m1,m2,m3]))),(1,.agg (ints .u64 ([y0,y1,y2,y3])))] Tryd.func63 rfl rfl kj rfl ?_
  refine wp_seq_k fun K2 hK2=>?_
  refine Qac ?_
  refine Qaj (ints .u64 ([m0,m1,m2,m3])) 97 2 rfl kj kj fun g3 W1 l3 e1 r3_1=>?_
  have x1:Ext w W1:=Ext.tr (Rely.Ext.refl w) e1
  have b3:w.heap.size≤g3:=qT (Rely.Ext.refl w).size l3
  refine Qaj (ints .u64 ([y0,y1,y2,y3])) 97 3 rfl kj kj fun g4 W2 l4 e2 r4_2=>?_
  have x2:Ext w W2:=Ext.tr x1 e2
  have b4:w.heap.size≤g4:=qT x1.size l4
  refine Qaj (ints .u64 ([0,0,0,0])) 97 4 rfl kj kj fun g5 W3 l5 e3 r5_3=>?_
  have x3:Ext w W3:=Ext.tr x2 e3
  have b5:w.heap.size≤g5:=qT x2.size l5
  refine Qaf ?_
  refine hK2 _ _ ?_
  refine wp_seq_k fun K6 hK6=>?_
  refine Qac ?_
  refine Qab (.int .u64 0) 5 rfl kj kj ?_
  refine Qab (.int .u64 0) 6 rfl kj kj ?_
  refine Qaf ?_
  refine hK6 _ _ ?_
  refine wp_seq_k fun K7 hK7=>?_
  refine Qac ?_
  have r3_3:=(Qaa (Qaa r3_1 e2) e3)
  refine Qab (.agg (ints .u64 ([m0,m1,m2,m3]))) 9 rfl kj (Qag 97 _ g3 97 _ _ r3_3 rfl kj kj (isz (n:=4) kj kj)) ?_
  refine Qaj (ints .u64 ([0,0,0,0])) 97 7 rfl kj kj fun g8 W4 l8 e4 r8_4=>?_
  have x4:Ext w W4:=Ext.tr x3 e4
  have b8:w.heap.size≤g8:=qT x3.size l8
  refine Qak g8 _ (ints .u64 ([m0,m1,m2,m3])) 97 r8_4 rfl kj (Qah 97 _ _ g8 97 _ _ r8_4 rfl kj kj (isz (n:=4) kj kj) (eqsz (n:=4) kj kj) kj) fun W5 p5 r8_5=>?_
  have x5:Ext w W5:=Puts.ext p5 x4 b8
  refine Qaf ?_
  refine hK7 _ _ ?_
  refine wp_seq_k fun K9 hK9=>?_
  refine wp_seq_k fun K10 hK10=>?_
  refine Qac ?_
  refine Qab (.int .i64 0) 10 rfl kj kj ?_
  refine Qaf ?_
  refine hK10 _ _ ?_
  refine wp_block ?_
  refine wp_loop_rounds 5 ?_
  show Code.wp _ _ (Exit.then (Code.rounds _ _ _ 4) _) _ _
  refine wp_seq_k fun K11 hK11=>?_
  refine Qac ?_
  refine Qab (.bool true) 11 rfl kj kj ?_
  refine Qaf ?_
  refine hK11 _ _ ?_
  refine wp_seq_k fun K12 hK12=>?_
  refine cond_true kj ?_
  refine wp_skip ?_
  refine hK12 _ _ ?_
  refine wp_seq_k fun K13 hK13=>?_
  refine wp_block ?_
  refine wp_seq_k fun K14 hK14=>?_
  refine Qac ?_
  refine Qab (.int .i64 0) 12 rfl kj kj ?_
  refine Qab (.int .i64 0) 8 rfl kj kj ?_
  refine Qaf ?_
  refine hK14 _ _ ?_
  refine wp_seq_k fun K15 hK15=>?_
  refine QaP (fun W=>True) [⟨none,[(8,none)]⟩,⟨none,[(8,none)]⟩,⟨none,[(2,none),(15,some 1)]⟩,⟨none,[(16,some 2)]⟩,⟨none,[(8,none)]⟩,⟨none,[(3,none),(18,some 4)]⟩,⟨none,[(19,some 5)]⟩,⟨none,[(5,none)]⟩,⟨none,[(17,some 3),(20,some 6),(21,some 7)]⟩,⟨none,[(22,some 8)]⟩,⟨none,[(13,some 9)]⟩,⟨none,[(13,some 9)]⟩,⟨none,[(2,none),(14,some 0)]⟩,⟨none,[(25,some 12),(23,some 10)]⟩,⟨none,[(24,some 11)]⟩] [] [11,14] kj kj kj (fun W hR=>trivial) fun F hF=>?_
  refine Qax (.int .i64 0) kj kj rfl (fun W=>kj) ?_
  refine Qax (.int .i64 0) kj kj rfl (fun W=>kj) ?_
  refine Qax (.pointer (some ⟨g3,0,none⟩)) kj kj rfl (fun W=>kj) ?_
  have r3_5:=(Puts.row p5 (Qaa r3_3 e4) (Qad r3_3 l8))
  refine QaW (.int .u64 m0) kj kj kj rfl (fun W hR=>(Qam 46 _ g3 0 97 _ (.int .u64 m0) _ (Qaa (Qaa r3_5 (Qai _)) hR) rfl kj kj kj)) ?_
  refine Qax (.int .i64 0) kj kj rfl (fun W=>kj) ?_
  refine Qax (.pointer (some ⟨g4,0,none⟩)) kj kj rfl (fun W=>kj) ?_
  have r4_3:=(Qaa r4_2 e3)
  have r4_5:=(Puts.row p5 (Qaa (Qaa r4_2 e3) e4) (Qad r4_3 l8))
  refine QaW (.int .u64 y0) kj kj kj rfl (fun W hR=>(Qam 46 _ g4 0 97 _ (.int .u64 y0) _ (Qaa (Qaa r4_5 (Qai _)) hR) rfl kj kj kj)) ?_
  refine Qax (.int .u64 0) kj kj rfl (fun W=>kj) ?_
  refine Qax (.tuple #[.int .u64 v0,.int .u64 ca0]) kj kj rfl (fun W=>(QbD (f:=88) (args:=#[.int .u64 m0,.int .u64 y0,.int .u64 0]) _ _ _ rfl kj kj (r0 _))) ?_
  refine Qax (.tuple #[.int .u64 v0,.int .u64 ca0]) kj kj rfl (fun W=>kj) ?_
  refine Qax (.int .u64 v0) kj kj rfl (fun W=>kj) ?_
  refine Qax (.int .u64 ca0) kj kj rfl (fun W=>kj) ?_
  refine Qax (.pointer (some ⟨g3,0,none⟩)) kj kj rfl (fun W=>kj) ?_
  refine Qb1 rfl ?_
  refine Qax (.int .u64 ca0) kj kj rfl (fun W=>kj) ?_
  refine QcX (hF _ kj fun W6 e6=>?_)
  simp only [List.nil_append,List.cons_append,fins,up]
  clear hF
  have x6:Ext w W6:=Ext.tr x5 e6
  have r3_6:=(Qaa r3_5 e6)
  refine Qbh _ g3 _ (ints .u64 ([v0,m1,m2,m3])) 97 r3_6 rfl (Qa1 46 _ _ g3 0 97 _ _ r3_6 rfl kj kj kj (Nat.lt_of_lt_of_eq (show 0<4 by decide) rfl.symm)) (fun W hp=>trivial) fun W7 p7 r3_7=>?_
  have x7:Ext w W7:=Puts.ext p7 x6 b3
  refine Qci ?_
  refine hK15 _ _ ?_
  refine QaP (fun W=>True) [⟨none,[(8,none)]⟩,⟨none,[(8,none)]⟩,⟨none,[(2,none),(28,some 1)]⟩,⟨none,[(29,some 2)]⟩,⟨none,[(8,none)]⟩,⟨none,[(31,some 4)]⟩,⟨none,[(32,some 5)]⟩,⟨none,[(6,none)]⟩,⟨none,[(30,some 3),(33,some 6),(34,some 7)]⟩,⟨none,[(35,some 8)]⟩,⟨none,[(26,some 9)]⟩,⟨none,[(26,some 9)]⟩,⟨none,[(7,none),(27,some 0)]⟩,⟨none,[(38,some 12),(36,some 10)]⟩,⟨none,[(37,some 11)]⟩] [] [11,14] kj kj kj (fun W hR=>trivial) fun F hF=>?_
  refine Qax (.int .i64 0) kj kj rfl (fun W=>kj) ?_
  refine Qax (.int .i64 0) kj kj rfl (fun W=>kj) ?_
  refine Qax (.pointer (some ⟨g3,0,none⟩)) kj kj rfl (fun W=>kj) ?_
  refine QaW (.int .u64 v0) kj kj kj rfl (fun W hR=>(Qam 46 _ g3 0 97 _ (.int .u64 v0) _ (Qaa (Qaa r3_7 (Qai _)) hR) rfl kj kj kj)) ?_
  refine Qax (.int .i64 0) kj kj rfl (fun W=>kj) ?_
  refine Qax (.pointer (some ⟨3,0,none⟩)) kj kj rfl (fun W=>kj) ?_
  have r1_3:=(Qaa (Qaa (Qaa hO e1) e2) e3)
  have r1_7:=(Puts.row p7 (Qaa (Puts.row p5 (Qaa (Qaa (Qaa (Qaa hO e1) e2) e3) e4) (Qad r1_3 l8)) e6) (Qad hO l3))
  refine QaW (.int .u64 6346243789798364141) kj kj kj rfl (fun W hR=>(Qam 46 _ 3 0 tO _ (.int .u64 6346243789798364141) _ (Qaa (Qaa r1_7 (Qai _)) hR) rfl kj kj kj)) ?_
  refine Qax (.int .u64 0) kj kj rfl (fun W=>kj) ?_
  refine Qax (.tuple #[.int .u64 u0,.int .u64 d0]) kj kj rfl (fun W=>(QbD (f:=89) (args:=#[.int .u64 v0,.int .u64 6346243789798364141,.int .u64 0]) _ _ _ rfl kj kj (s0 _))) ?_
  refine Qax (.tuple #[.int .u64 u0,.int .u64 d0]) kj kj rfl (fun W=>kj) ?_
  refine Qax (.int .u64 u0) kj kj rfl (fun W=>kj) ?_
  refine Qax (.int .u64 d0) kj kj rfl (fun W=>kj) ?_
  refine Qax (.pointer (some ⟨g8,0,none⟩)) kj kj rfl (fun W=>kj) ?_
  refine Qb1 rfl ?_
  refine Qax (.int .u64 d0) kj kj rfl (fun W=>kj) ?_
  refine QcX (hF _ kj fun W8 e8=>?_)
  simp only [List.nil_append,List.cons_append,fins,up]
  clear hF
  have x8:Ext w W8:=Ext.tr x7 e8
  have r8_8:=(Qaa (Puts.row p7 (Qaa r8_5 e6) (Qat r3_3 l8)) e8)
  refine Qbh _ g8 _ (ints .u64 ([u0,m1,m2,m3])) 97 r8_8 rfl (Qa1 46 _ _ g8 0 97 _ _ r8_8 rfl kj kj kj (Nat.lt_of_lt_of_eq (show 0<4 by decide) rfl.symm)) (fun W hp=>trivial) fun W9 p9 r8_9=>?_
  have x9:Ext w W9:=Puts.ext p9 x8 b8
  refine Qci ?_
  refine hK13 _ _ ?_
  refine Qac ?_
  refine Qab (.int .i64 1) 39 rfl kj kj ?_
  refine Qab (.int .i64 1) 10 rfl kj kj ?_
  refine Qaf ?_
  show Code.rounds _ _ _ 4 _ _
  show Code.wp _ _ (Exit.then (Code.rounds _ _ _ 3) _) _ _
  refine wp_seq_k fun K16 hK16=>?_
  refine Qac ?_
  refine Qab (.bool true) 11 rfl kj kj ?_
  refine Qaf ?_
  refine hK16 _ _ ?_
  refine wp_seq_k fun K17 hK17=>?_
  refine cond_true kj ?_
  refine wp_skip ?_
  refine hK17 _ _ ?_
  refine wp_seq_k fun K18 hK18=>?_
  refine wp_block ?_
  refine wp_seq_k fun K19 hK19=>?_
  refine Qac ?_
  refine Qab (.int .i64 1) 12 rfl kj kj ?_
  refine Qab (.int .i64 1) 8 rfl kj kj ?_
  refine Qaf ?_
  refine hK19 _ _ ?_
  refine wp_seq_k fun K20 hK20=>?_
  refine QaP (fun W=>True) [⟨none,[(8,none)]⟩,⟨none,[(8,none)]⟩,⟨none,[(2,none),(15,some 1)]⟩,⟨none,[(16,some 2)]⟩,⟨none,[(8,none)]⟩,⟨none,[(3,none),(18,some 4)]⟩,⟨none,[(19,some 5)]⟩,⟨none,[(5,none)]⟩,⟨none,[(17,some 3),(20,some 6),(21,some 7)]⟩,⟨none,[(22,some 8)]⟩,⟨none,[(13,some 9)]⟩,⟨none,[(13,some 9)]⟩,⟨none,[(2,none),(14,some 0)]⟩,⟨none,[(25,some 12),(23,some 10)]⟩,⟨none,[(24,some 11)]⟩] [] [11,14] kj kj kj (fun W hR=>trivial) fun F hF=>?_
  refine Qax (.int .i64 1) kj kj rfl (fun W=>kj) ?_
  refine Qax (.int .i64 1) kj kj rfl (fun W=>kj) ?_
  refine Qax (.pointer (some ⟨g3,1,none⟩)) kj kj rfl (fun W=>kj) ?_
  have r3_9:=(Puts.row p9 (Qaa r3_7 e8) (Qad r3_3 l8))
  refine QaW (.int .u64 m1) kj kj kj rfl (fun W hR=>(Qam 46 _ g3 1 97 _ (.int .u64 m1) _ (Qaa (Qaa r3_9 (Qai _)) hR) rfl kj kj kj)) ?_
  refine Qax (.int .i64 1) kj kj rfl (fun W=>kj) ?_
  refine Qax (.pointer (some ⟨g4,1,none⟩)) kj kj rfl (fun W=>kj) ?_
  have r4_9:=(Puts.row p9 (Qaa (Puts.row p7 (Qaa r4_5 e6) (Qat r3_1 l4)) e8) (Qad r4_3 l8))
  refine QaW (.int .u64 y1) kj kj kj rfl (fun W hR=>(Qam 46 _ g4 1 97 _ (.int .u64 y1) _ (Qaa (Qaa r4_9 (Qai _)) hR) rfl kj kj kj)) ?_
  refine Qax (.int .u64 ca0) kj kj rfl (fun W=>kj) ?_
  refine Qax (.tuple #[.int .u64 v1,.int .u64 ca1]) kj kj rfl (fun W=>(QbD (f:=88) (args:=#[.int .u64 m1,.int .u64 y1,.int .u64 ca0]) _ _ _ rfl kj kj (r1 _))) ?_
  refine Qax (.tuple #[.int .u64 v1,.int .u64 ca1]) kj kj rfl (fun W=>kj) ?_
  refine Qax (.int .u64 v1) kj kj rfl (fun W=>kj) ?_
  refine Qax (.int .u64 ca1) kj kj rfl (fun W=>kj) ?_
  refine Qax (.pointer (some ⟨g3,1,none⟩)) kj kj rfl (fun W=>kj) ?_
  refine Qb1 rfl ?_
  refine Qax (.int .u64 ca1) kj kj rfl (fun W=>kj) ?_
  refine QcX (hF _ kj fun W10 e10=>?_)
  simp only [List.nil_append,List.cons_append,fins,up]
  clear hF
  have x10:Ext w W10:=Ext.tr x9 e10
  have r3_10:=(Qaa r3_9 e10)
  refine Qbh _ g3 _ (ints .u64 ([v0,v1,m2,m3])) 97 r3_10 rfl (Qa1 46 _ _ g3 1 97 _ _ r3_10 rfl kj kj kj (Nat.lt_of_lt_of_eq (show 1<4 by decide) rfl.symm)) (fun W hp=>trivial) fun W11 p11 r3_11=>?_
  have x11:Ext w W11:=Puts.ext p11 x10 b3
  refine Qci ?_
  refine hK20 _ _ ?_
  refine QaP (fun W=>True) [⟨none,[(8,none)]⟩,⟨none,[(8,none)]⟩,⟨none,[(2,none),(28,some 1)]⟩,⟨none,[(29,some 2)]⟩,⟨none,[(8,none)]⟩,⟨none,[(31,some 4)]⟩,⟨none,[(32,some 5)]⟩,⟨none,[(6,none)]⟩,⟨none,[(30,some 3),(33,some 6),(34,some 7)]⟩,⟨none,[(35,some 8)]⟩,⟨none,[(26,some 9)]⟩,⟨none,[(26,some 9)]⟩,⟨none,[(7,none),(27,some 0)]⟩,⟨none,[(38,some 12),(36,some 10)]⟩,⟨none,[(37,some 11)]⟩] [] [11,14] kj kj kj (fun W hR=>trivial) fun F hF=>?_
  refine Qax (.int .i64 1) kj kj rfl (fun W=>kj) ?_
  refine Qax (.int .i64 1) kj kj rfl (fun W=>kj) ?_
  refine Qax (.pointer (some ⟨g3,1,none⟩)) kj kj rfl (fun W=>kj) ?_
  refine QaW (.int .u64 v1) kj kj kj rfl (fun W hR=>(Qam 46 _ g3 1 97 _ (.int .u64 v1) _ (Qaa (Qaa r3_11 (Qai _)) hR) rfl kj kj kj)) ?_
  refine Qax (.int .i64 1) kj kj rfl (fun W=>kj) ?_
  refine Qax (.pointer (some ⟨3,1,none⟩)) kj kj rfl (fun W=>kj) ?_
  have r1_11:=(Puts.row p11 (Qaa (Puts.row p9 (Qaa r1_7 e8) (Qad r1_3 l8)) e10) (Qad hO l3))
  refine QaW (.int .u64 1503914060200516822) kj kj kj rfl (fun W hR=>(Qam 46 _ 3 1 tO _ (.int .u64 1503914060200516822) _ (Qaa (Qaa r1_11 (Qai _)) hR) rfl kj kj kj)) ?_
  refine Qax (.int .u64 d0) kj kj rfl (fun W=>kj) ?_
  refine Qax (.tuple #[.int .u64 u1,.int .u64 d1]) kj kj rfl (fun W=>(QbD (f:=89) (args:=#[.int .u64 v1,.int .u64 1503914060200516822,.int .u64 d0]) _ _ _ rfl kj kj (s1 _))) ?_
  refine Qax (.tuple #[.int .u64 u1,.int .u64 d1]) kj kj rfl (fun W=>kj) ?_
  refine Qax (.int .u64 u1) kj kj rfl (fun W=>kj) ?_
  refine Qax (.int .u64 d1) kj kj rfl (fun W=>kj) ?_
  refine Qax (.pointer (some ⟨g8,1,none⟩)) kj kj rfl (fun W=>kj) ?_
  refine Qb1 rfl ?_
  refine Qax (.int .u64 d1) kj kj rfl (fun W=>kj) ?_
  refine QcX (hF _ kj fun W12 e12=>?_)
  simp only [List.nil_append,List.cons_append,fins,up]
  clear hF
  have x12:Ext w W12:=Ext.tr x11 e12
  have r8_12:=(Qaa (Puts.row p11 (Qaa r8_9 e10) (Qat r3_3 l8)) e12)
  refine Qbh _ g8 _ (ints .u64 ([u0,u1,m2,m3])) 97 r8_12 rfl (Qa1 46 _ _ g8 1 97 _ _ r8_12 rfl kj kj kj (Nat.lt_of_lt_of_eq (show 1<4 by decide) rfl.symm)) (fun W hp=>trivial) fun W13 p13 r8_13=>?_
  have x13:Ext w W13:=Puts.ext p13 x12 b8
  refine Qci ?_
  refine hK18 _ _ ?_
  refine Qac ?_
  refine Qab (.int .i64 2) 39 rfl kj kj ?_
  refine Qab (.int .i64 2) 10 rfl kj kj ?_
  refine Qaf ?_
  show Code.rounds _ _ _ 3 _ _
  show Code.wp _ _ (Exit.then (Code.rounds _ _ _ 2) _) _ _
  refine wp_seq_k fun K21 hK21=>?_
  refine Qac ?_
  refine Qab (.bool true) 11 rfl kj kj ?_
  refine Qaf ?_
  refine hK21 _ _ ?_
  refine wp_seq_k fun K22 hK22=>?_
  refine cond_true kj ?_
  refine wp_skip ?_
  refine hK22 _ _ ?_
  refine wp_seq_k fun K23 hK23=>?_
  refine wp_block ?_
  refine wp_seq_k fun K24 hK24=>?_
  refine Qac ?_
  refine Qab (.int .i64 2) 12 rfl kj kj ?_
  refine Qab (.int .i64 2) 8 rfl kj kj ?_
  refine Qaf ?_
  refine hK24 _ _ ?_
  refine wp_seq_k fun K25 hK25=>?_
  refine QaP (fun W=>True) [⟨none,[(8,none)]⟩,⟨none,[(8,none)]⟩,⟨none,[(2,none),(15,some 1)]⟩,⟨none,[(16,some 2)]⟩,⟨none,[(8,none)]⟩,⟨none,[(3,none),(18,some 4)]⟩,⟨none,[(19,some 5)]⟩,⟨none,[(5,none)]⟩,⟨none,[(17,some 3),(20,some 6),(21,some 7)]⟩,⟨none,[(22,some 8)]⟩,⟨none,[(13,some 9)]⟩,⟨none,[(13,some 9)]⟩,⟨none,[(2,none),(14,some 0)]⟩,⟨none,[(25,some 12),(23,some 10)]⟩,⟨none,[(24,some 11)]⟩] [] [11,14] kj kj kj (fun W hR=>trivial) fun F hF=>?_
  refine Qax (.int .i64 2) kj kj rfl (fun W=>kj) ?_
  refine Qax (.int .i64 2) kj kj rfl (fun W=>kj) ?_
  refine Qax (.pointer (some ⟨g3,2,none⟩)) kj kj rfl (fun W=>kj) ?_
  have r3_13:=(Puts.row p13 (Qaa r3_11 e12) (Qad r3_3 l8))
  refine QaW (.int .u64 m2) kj kj kj rfl (fun W hR=>(Qam 46 _ g3 2 97 _ (.int .u64 m2) _ (Qaa (Qaa r3_13 (Qai _)) hR) rfl kj kj kj)) ?_
  refine Qax (.int .i64 2) kj kj rfl (fun W=>kj) ?_
  refine Qax (.pointer (some ⟨g4,2,none⟩)) kj kj rfl (fun W=>kj) ?_
  have r4_13:=(Puts.row p13 (Qaa (Puts.row p11 (Qaa r4_9 e10) (Qat r3_1 l4)) e12) (Qad r4_3 l8))
  refine QaW (.int .u64 y2) kj kj kj rfl (fun W hR=>(Qam 46 _ g4 2 97 _ (.int .u64 y2) _ (Qaa (Qaa r4_13 (Qai _)) hR) rfl kj kj kj)) ?_
  refine Qax (.int .u64 ca1) kj kj rfl (fun W=>kj) ?_
  refine Qax (.tuple #[.int .u64 v2,.int .u64 ca2]) kj kj rfl (fun W=>(QbD (f:=88) (args:=#[.int .u64 m2,.int .u64 y2,.int .u64 ca1]) _ _ _ rfl kj kj (r2 _))) ?_
  refine Qax (.tuple #[.int .u64 v2,.int .u64 ca2]) kj kj rfl (fun W=>kj) ?_
  refine Qax (.int .u64 v2) kj kj rfl (fun W=>kj) ?_
  refine Qax (.int .u64 ca2) kj kj rfl (fun W=>kj) ?_
  refine Qax (.pointer (some ⟨g3,2,none⟩)) kj kj rfl (fun W=>kj) ?_
  refine Qb1 rfl ?_
  refine Qax (.int .u64 ca2) kj kj rfl (fun W=>kj) ?_
  refine QcX (hF _ kj fun W14 e14=>?_)
  simp only [List.nil_append,List.cons_append,fins,up]
  clear hF
  have x14:Ext w W14:=Ext.tr x13 e14
  have r3_14:=(Qaa r3_13 e14)
  refine Qbh _ g3 _ (ints .u64 ([v0,v1,v2,m3])) 97 r3_14 rfl (Qa1 46 _ _ g3 2 97 _ _ r3_14 rfl kj kj kj (Nat.lt_of_lt_of_eq (show 2<4 by decide) rfl.symm)) (fun W hp=>trivial) fun W15 p15 r3_15=>?_
  have x15:Ext w W15:=Puts.ext p15 x14 b3
  refine Qci ?_
  refine hK25 _ _ ?_
  refine QaP (fun W=>True) [⟨none,[(8,none)]⟩,⟨none,[(8,none)]⟩,⟨none,[(2,none),(28,some 1)]⟩,⟨none,[(29,some 2)]⟩,⟨none,[(8,none)]⟩,⟨none,[(31,some 4)]⟩,⟨none,[(32,some 5)]⟩,⟨none,[(6,none)]⟩,⟨none,[(30,some 3),(33,some 6),(34,some 7)]⟩,⟨none,[(35,some 8)]⟩,⟨none,[(26,some 9)]⟩,⟨none,[(26,some 9)]⟩,⟨none,[(7,none),(27,some 0)]⟩,⟨none,[(38,some 12),(36,some 10)]⟩,⟨none,[(37,some 11)]⟩] [] [11,14] kj kj kj (fun W hR=>trivial) fun F hF=>?_
  refine Qax (.int .i64 2) kj kj rfl (fun W=>kj) ?_
  refine Qax (.int .i64 2) kj kj rfl (fun W=>kj) ?_
  refine Qax (.pointer (some ⟨g3,2,none⟩)) kj kj rfl (fun W=>kj) ?_
  refine QaW (.int .u64 v2) kj kj kj rfl (fun W hR=>(Qam 46 _ g3 2 97 _ (.int .u64 v2) _ (Qaa (Qaa r3_15 (Qai _)) hR) rfl kj kj kj)) ?_
  refine Qax (.int .i64 2) kj kj rfl (fun W=>kj) ?_
  refine Qax (.pointer (some ⟨3,2,none⟩)) kj kj rfl (fun W=>kj) ?_
  have r1_15:=(Puts.row p15 (Qaa (Puts.row p13 (Qaa r1_11 e12) (Qad r1_3 l8)) e14) (Qad hO l3))
  refine QaW (.int .u64 0) kj kj kj rfl (fun W hR=>(Qam 46 _ 3 2 tO _ (.int .u64 0) _ (Qaa (Qaa r1_15 (Qai _)) hR) rfl kj kj kj)) ?_
  refine Qax (.int .u64 d1) kj kj rfl (fun W=>kj) ?_
  refine Qax (.tuple #[.int .u64 u2,.int .u64 d2]) kj kj rfl (fun W=>(QbD (f:=89) (args:=#[.int .u64 v2,.int .u64 0,.int .u64 d1]) _ _ _ rfl kj kj (s2 _))) ?_
  refine Qax (.tuple #[.int .u64 u2,.int .u64 d2]) kj kj rfl (fun W=>kj) ?_
  refine Qax (.int .u64 u2) kj kj rfl (fun W=>kj) ?_
  refine Qax (.int .u64 d2) kj kj rfl (fun W=>kj) ?_
  refine Qax (.pointer (some ⟨g8,2,none⟩)) kj kj rfl (fun W=>kj) ?_
  refine Qb1 rfl ?_
  refine Qax (.int .u64 d2) kj kj rfl (fun W=>kj) ?_
  refine QcX (hF _ kj fun W16 e16=>?_)
  simp only [List.nil_append,List.cons_append,fins,up]
  clear hF
  have x16:Ext w W16:=Ext.tr x15 e16
  have r8_16:=(Qaa (Puts.row p15 (Qaa r8_13 e14) (Qat r3_3 l8)) e16)
  refine Qbh _ g8 _ (ints .u64 ([u0,u1,u2,m3])) 97 r8_16 rfl (Qa1 46 _ _ g8 2 97 _ _ r8_16 rfl kj kj kj (Nat.lt_of_lt_of_eq (show 2<4 by decide) rfl.symm)) (fun W hp=>trivial) fun W17 p17 r8_17=>?_
  have x17:Ext w W17:=Puts.ext p17 x16 b8
  refine Qci ?_
  refine hK23 _ _ ?_
  refine Qac ?_
  refine Qab (.int .i64 3) 39 rfl kj kj ?_
  refine Qab (.int .i64 3) 10 rfl kj kj ?_
  refine Qaf ?_
  show Code.rounds _ _ _ 2 _ _
  show Code.wp _ _ (Exit.then (Code.rounds _ _ _ 1) _) _ _
  refine wp_seq_k fun K26 hK26=>?_
  refine Qac ?_
  refine Qab (.bool true) 11 rfl kj kj ?_
  refine Qaf ?_
  refine hK26 _ _ ?_
  refine wp_seq_k fun K27 hK27=>?_
  refine cond_true kj ?_
  refine wp_skip ?_
  refine hK27 _ _ ?_
  refine wp_seq_k fun K28 hK28=>?_
  refine wp_block ?_
  refine wp_seq_k fun K29 hK29=>?_
  refine Qac ?_
  refine Qab (.int .i64 3) 12 rfl kj kj ?_
  refine Qab (.int .i64 3) 8 rfl kj kj ?_
  refine Qaf ?_
  refine hK29 _ _ ?_
  refine wp_seq_k fun K30 hK30=>?_
  refine QaP (fun W=>True) [⟨none,[(8,none)]⟩,⟨none,[(8,none)]⟩,⟨none,[(2,none),(15,some 1)]⟩,⟨none,[(16,some 2)]⟩,⟨none,[(8,none)]⟩,⟨none,[(3,none),(18,some 4)]⟩,⟨none,[(19,some 5)]⟩,⟨none,[(5,none)]⟩,⟨none,[(17,some 3),(20,some 6),(21,some 7)]⟩,⟨none,[(22,some 8)]⟩,⟨none,[(13,some 9)]⟩,⟨none,[(13,some 9)]⟩,⟨none,[(2,none),(14,some 0)]⟩,⟨none,[(25,some 12),(23,some 10)]⟩,⟨none,[(24,some 11)]⟩] [] [11,14] kj kj kj (fun W hR=>trivial) fun F hF=>?_
  refine Qax (.int .i64 3) kj kj rfl (fun W=>kj) ?_
  refine Qax (.int .i64 3) kj kj rfl (fun W=>kj) ?_
  refine Qax (.pointer (some ⟨g3,3,none⟩)) kj kj rfl (fun W=>kj) ?_
  have r3_17:=(Puts.row p17 (Qaa r3_15 e16) (Qad r3_3 l8))
  refine QaW (.int .u64 m3) kj kj kj rfl (fun W hR=>(Qam 46 _ g3 3 97 _ (.int .u64 m3) _ (Qaa (Qaa r3_17 (Qai _)) hR) rfl kj kj kj)) ?_
  refine Qax (.int .i64 3) kj kj rfl (fun W=>kj) ?_
  refine Qax (.pointer (some ⟨g4,3,none⟩)) kj kj rfl (fun W=>kj) ?_
  have r4_17:=(Puts.row p17 (Qaa (Puts.row p15 (Qaa r4_13 e14) (Qat r3_1 l4)) e16) (Qad r4_3 l8))
  refine QaW (.int .u64 y3) kj kj kj rfl (fun W hR=>(Qam 46 _ g4 3 97 _ (.int .u64 y3) _ (Qaa (Qaa r4_17 (Qai _)) hR) rfl kj kj kj)) ?_
  refine Qax (.int .u64 ca2) kj kj rfl (fun W=>kj) ?_
  refine Qax (.tuple #[.int .u64 v3,.int .u64 ca3]) kj kj rfl (fun W=>(QbD (f:=88) (args:=#[.int .u64 m3,.int .u64 y3,.int .u64 ca2]) _ _ _ rfl kj kj (r3 _))) ?_
  refine Qax (.tuple #[.int .u64 v3,.int .u64 ca3]) kj kj rfl (fun W=>kj) ?_
  refine Qax (.int .u64 v3) kj kj rfl (fun W=>kj) ?_
  refine Qax (.int .u64 ca3) kj kj rfl (fun W=>kj) ?_
  refine Qax (.pointer (some ⟨g3,3,none⟩)) kj kj rfl (fun W=>kj) ?_
  refine Qb1 rfl ?_
  refine Qax (.int .u64 ca3) kj kj rfl (fun W=>kj) ?_
  refine QcX (hF _ kj fun W18 e18=>?_)
  simp only [List.nil_append,List.cons_append,fins,up]
  clear hF
  have x18:Ext w W18:=Ext.tr x17 e18
  have r3_18:=(Qaa r3_17 e18)
  refine Qbh _ g3 _ (ints .u64 ([v0,v1,v2,v3])) 97 r3_18 rfl (Qa1 46 _ _ g3 3 97 _ _ r3_18 rfl kj kj kj (Nat.lt_of_lt_of_eq (show 3<4 by decide) rfl.symm)) (fun W hp=>trivial) fun W19 p19 r3_19=>?_
  have x19:Ext w W19:=Puts.ext p19 x18 b3
  refine Qci ?_
  refine hK30 _ _ ?_
  refine QaP (fun W=>True) [⟨none,[(8,none)]⟩,⟨none,[(8,none)]⟩,⟨none,[(2,none),(28,some 1)]⟩,⟨none,[(29,some 2)]⟩,⟨none,[(8,none)]⟩,⟨none,[(31,some 4)]⟩,⟨none,[(32,some 5)]⟩,⟨none,[(6,none)]⟩,⟨none,[(30,some 3),(33,some 6),(34,some 7)]⟩,⟨none,[(35,some 8)]⟩,⟨none,[(26,some 9)]⟩,⟨none,[(26,some 9)]⟩,⟨none,[(7,none),(27,some 0)]⟩,⟨none,[(38,some 12),(36,some 10)]⟩,⟨none,[(37,some 11)]⟩] [] [11,14] kj kj kj (fun W hR=>trivial) fun F hF=>?_
  refine Qax (.int .i64 3) kj kj rfl (fun W=>kj) ?_
  refine Qax (.int .i64 3) kj kj rfl (fun W=>kj) ?_
  refine Qax (.pointer (some ⟨g3,3,none⟩)) kj kj rfl (fun W=>kj) ?_
  refine QaW (.int .u64 v3) kj kj kj rfl (fun W hR=>(Qam 46 _ g3 3 97 _ (.int .u64 v3) _ (Qaa (Qaa r3_19 (Qai _)) hR) rfl kj kj kj)) ?_
  refine Qax (.int .i64 3) kj kj rfl (fun W=>kj) ?_
  refine Qax (.pointer (some ⟨3,3,none⟩)) kj kj rfl (fun W=>kj) ?_
  have r1_19:=(Puts.row p19 (Qaa (Puts.row p17 (Qaa r1_15 e16) (Qad r1_3 l8)) e18) (Qad hO l3))
  refine QaW (.int .u64 1152921504606846976) kj kj kj rfl (fun W hR=>(Qam 46 _ 3 3 tO _ (.int .u64 1152921504606846976) _ (Qaa (Qaa r1_19 (Qai _)) hR) rfl kj kj kj)) ?_
  refine Qax (.int .u64 d2) kj kj rfl (fun W=>kj) ?_
  refine Qax (.tuple #[.int .u64 u3,.int .u64 0]) kj kj rfl (fun W=>(QbD (f:=89) (args:=#[.int .u64 v3,.int .u64 1152921504606846976,.int .u64 d2]) _ _ _ rfl kj kj (s3 _))) ?_
  refine Qax (.tuple #[.int .u64 u3,.int .u64 0]) kj kj rfl (fun W=>kj) ?_
  refine Qax (.int .u64 u3) kj kj rfl (fun W=>kj) ?_
  refine Qax (.int .u64 0) kj kj rfl (fun W=>kj) ?_
  refine Qax (.pointer (some ⟨g8,3,none⟩)) kj kj rfl (fun W=>kj) ?_
  refine Qb1 rfl ?_
  refine Qax (.int .u64 0) kj kj rfl (fun W=>kj) ?_
  refine QcX (hF _ kj fun W20 e20=>?_)
  simp only [List.nil_append,List.cons_append,fins,up]
  clear hF
  have x20:Ext w W20:=Ext.tr x19 e20
  have r8_20:=(Qaa (Puts.row p19 (Qaa r8_17 e18) (Qat r3_3 l8)) e20)
  refine Qbh _ g8 _ (ints .u64 ([u0,u1,u2,u3])) 97 r8_20 rfl (Qa1 46 _ _ g8 3 97 _ _ r8_20 rfl kj kj kj (Nat.lt_of_lt_of_eq (show 3<4 by decide) rfl.symm)) (fun W hp=>trivial) fun W21 p21 r8_21=>?_
  have x21:Ext w W21:=Puts.ext p21 x20 b8
  refine Qci ?_
  refine hK28 _ _ ?_
  refine Qac ?_
  refine Qab (.int .i64 4) 39 rfl kj kj ?_
  refine Qab (.int .i64 4) 10 rfl kj kj ?_
  refine Qaf ?_
  show Code.rounds _ _ _ 1 _ _
  show Code.wp _ _ (Exit.then (Code.rounds _ _ _ 0) _) _ _
  refine wp_seq_k fun K31 hK31=>?_
  refine Qac ?_
  refine Qab (.bool false) 11 rfl kj kj ?_
  refine Qaf ?_
  refine hK31 _ _ ?_
  refine wp_seq_k fun K32 hK32=>?_
  refine cond_false kj ?_
  refine wp_exit ?_
  refine hK9 _ _ ?_
  refine wp_seq_k fun K33 hK33=>?_
  refine wp_seq_k fun K34 hK34=>?_
  refine Qac ?_
  refine Qab (.int .u64 0) 40 rfl kj kj ?_
  refine Qab (.bool false) 41 rfl kj kj ?_
  refine Qaf ?_
  refine hK34 _ _ ?_
  refine cond_false kj ?_
  refine wp_skip ?_
  refine hK33 _ _ ?_
  refine wp_seq_k fun K35 hK35=>?_
  refine Qac ?_
  refine Qab (.agg (ints .u64 ([u0,u1,u2,u3]))) 43 rfl kj (Qag 97 _ g8 97 _ _ r8_21 rfl kj kj (isz (n:=4) kj kj)) ?_
  have r3_2:=(Qaa r3_1 e2)
  have r5_21:=(Puts.row p21 (Qaa (Puts.row p19 (Qaa (Puts.row p17 (Qaa (Puts.row p15 (Qaa (Puts.row p13 (Qaa (Puts.row p11 (Qaa (Puts.row p9 (Qaa (Puts.row p7 (Qaa (Puts.row p5 (Qaa r5_3 e4) (Qad r5_3 l8)) e6) (Qat r3_2 l5)) e8) (Qad r5_3 l8)) e10) (Qat r3_2 l5)) e12) (Qad r5_3 l8)) e14) (Qat r3_2 l5)) e16) (Qad r5_3 l8)) e18) (Qat r3_2 l5)) e20) (Qad r5_3 l8))
  refine Qak g5 _ (ints .u64 ([u0,u1,u2,u3])) 97 r5_21 rfl kj (Qah 97 _ _ g5 97 _ _ r5_21 rfl kj kj (isz (n:=4) kj kj) (eqsz (n:=4) kj kj) kj) fun W22 p22 r5_22=>?_
  have x22:Ext w W22:=Puts.ext p22 x21 b5
  refine Qaf ?_
  refine hK35 _ _ ?_
  refine wp_ret ?_
  exact (show bodyPost _ _ _ .ret _ _ from ret1 (.agg (ints .u64 ([u0,u1,u2,u3]))) rfl (QaC g5 97 _ r5_22 kj kj (isz (n:=4) kj kj)) ⟨rfl,x22⟩)
end Go.Proofs.YtdoadngmgmdlbaaDoor.Field
end
section
namespace Go.Proofs.YtdoadngmgmdlbaaDoor.Field
open Go Go.RowKit Go.Shelf
open Rely
attribute [local go_sem] Oper.semAt_some
def bitsS (bs : List Int):List Bool:=(List.range (8*bs.length)).map fun j=>bitB bs (8*bs.length-1-j)
theorem QfP (bs : List Int):(bitsS bs).length=8*bs.length:=by simp [bitsS]
theorem Qgr (bs : List Int) (j:Nat) (hj:j<8*bs.length):(bitsS bs).take (8*bs.length-j)=(bitsS bs).take (8*bs.length-(j+1))++[bitB bs j]:=by
  generalize hN:8*bs.length=N at hj
  have e:N-j=(N-(j+1))+1:=by omega
  rw [e,List.take_add_one]
  congr 1
  have h:N-(j+1)<N:=by omega
  simp only [bitsS,hN,List.getElem?_map,List.getElem?_range h,Option.map_some,Option.toList_some]
  rw [show N-1-(N-(j+1))=j by omega]
def Qfg (B g:Nat) (W W':World):Prop:=W'.heap[g]? = W.heap[g]?∧∀ k,k<B→W'.heap[k]? = W.heap[k]?
theorem Qfg.refl (B g:Nat) (W:World):Qfg B g W W:=⟨rfl,fun _ _=>rfl⟩
theorem Qfg.trans {B g:Nat} {a b c:World} (h:Qfg B g a b) (k:Qfg B g b c):Qfg B g a c:=⟨k.1.trans h.1,fun i hi=>(k.2 i hi).trans (h.2 i hi)⟩
theorem QjB {B g:Nat} {w:World} (hg:g<w.heap.size) (hB:B≤w.heap.size) (W:World) (l:Nat) (o o':Obj) (hl:w.heap.size≤l) (h:W.heap[l]? = some o) (_:o.isCells=false) (_:o.isWalk=false):Qfg B g W (W.putObj l o') :=
  ⟨World.putObj_heap_other (fun e=>by omega),fun k hk=>World.putObj_heap_other (fun e=>by omega)⟩
theorem Ql2 {B : Nat} {W W':World} {b off:Nat} (h:∀ k,k<B→W'.heap[k]? = W.heap[k]?) (hb:b<B):W'.cell? ⟨b,off,none⟩=W.cell? ⟨b,off,none⟩:=by
  unfold World.cell?
  simp only [h b hb]
set_option maxHeartbeats 2000000 in
theorem QhZ (m : Nat) (hm:1≤m) (B g1:Nat) (A:Option Addr) (n c:Nat) (bs:List Int) (hbl:bs.length=n) (hn:n≤1000) (hb:Qal bs) (w:World)
    (hg:w.heap[g1]? = some (.cells #[.slice A n c] 27)) (hB:B≤w.heap.size)
    (hc:n=0∨∃ sb so,A=some ⟨sb,so,none⟩∧sb<B∧∀ i,i<n→w.cell? ⟨sb,so+i,none⟩=some (.int .u8 (nth bs i))) :
    SeqStopsK Fence.wide m Tryd.prog 99 #[.pointer (some ⟨g1,0,none⟩)] (fun x:Bool=>#[encB x]) (Qfg B g1) (fun ys=>ys=bitsS bs) (fun pre=>pre <+: bitsS bs) (8*n) w:=fun l J Jx W hW hJ hJx hY h0=>by
  refine callsIn_of_wp Tryd.func99 rfl trivial ?_ rfl
  simp only [Tryd.ntmps99,List.size_toArray,List.length_cons,List.length_nil,Nat.reduceAdd,Nat.reduceSub,Array.replicate_succ,Array.replicate_zero,List.push_toArray,List.append_toArray,List.nil_append,List.cons_append]
  have hgW:W.heap[g1]? = some (.cells #[.slice A n c] 27):=(hW.block g1 (Qa3 hg)).trans hg
  have hcW:n=0∨∃ sb so,A=some ⟨sb,so,none⟩∧sb<B∧∀ i,i<n→W.cell? ⟨sb,so+i,none⟩=some (.int .u8 (nth bs i)):=by
    refine hc.imp id ?_
    rintro ⟨sb,so,h1,h2,h3⟩
    exact ⟨sb,so,h1,h2,fun i hi=>(hW.cell (by show sb<_; omega)).trans (h3 i hi)⟩
  have hc1:W.cell? ⟨g1,0,none⟩=some (.slice A n c):=QaE hgW rfl
  have qa:IntKind.i64.wrap (8*(n:Int))=8*(n:Int):=IntWalk.i64_in _ (by omega)
  have qb:IntKind.i64.wrap (8*(n:Int)-1)=8*(n:Int)-1:=IntWalk.i64_in _ (by omega)
  have HC:=Lib.hid hcW
  have HG:=Lib.hid hgW
  have HL:=Lib.hid hbl
  clear hcW hgW hc hg hbl
  gi_wp2
  gi_loopw [3] (fun i wr=>∃ k:Nat,k≤8*n∧i=.int .i64 ((k:Int)-1)∧J ((bitsS bs).take (8*n-k)) wr∧Qfg B g1 W wr) (fun i _=>(intOf i+1).toNat)
  case atStart=>exact ⟨8*n,by omega,by congr 1 <;> omega,by simpa using h0,Qfg.refl _ _ _⟩
  case round =>
    obtain ⟨k,hkn,rfl,hJs,hS⟩:=hrel
    rcases k with _ | j
    · gi_wp2
      go_end0
      exact ⟨⟨_,rfl⟩,.inl ⟨_,rfl,by rwa [List.take_of_length_le (by rw [QfP,HL.out]; omega)] at hJs⟩⟩
    · have hj:j<8*n:=by omega
      obtain ⟨sb,so,rfl,hsb,hcell⟩:=HC.out.resolve_left (by omega)
      rw [show ((j+1:Nat):Int)-1=(j:Int) by omega]
      have hc2:wr.cell? ⟨g1,0,none⟩=some (.slice (some ⟨sb,so,none⟩) n c):=QaE (hS.1.trans HG.out) rfl
      have hcx:wr.cell? ⟨sb,so+j/8,none⟩=some (.int .u8 (nth bs (j/8))):=(Ql2 hS.2 hsb).trans (hcell (j/8) (by omega))
      have hlen:(bitsS bs).length=8*n:=by rw [QfP,HL.out]
      obtain ⟨fn,tmps,assign,body,hy,hR⟩:=hY _ (bitB bs j) wr hJs (by rw [List.length_take]; omega)
      have hT0:=Qgr bs j (by rw [HL.out]; exact hj)
      rw [HL.out] at hT0
      have hT:=Lib.hid hT0
      have b1:=hb.nth (j/8)
      rw [Qjr,show QcR bs j=nth bs (j/8)/2^(j%8)%2 from rfl] at hy
      clear hT0 hlen hcell
      generalize bitB bs j=bt at *
      generalize nth bs (j/8)=v at *
      have q0:(0:Int)≤(j:Int):=by omega
      have q1:(j:Int)/8<(n:Int):=by omega
      have q2:IntKind.i64.wrap ((j:Int)/8)=(j:Int)/8:=IntWalk.i64_in _ (by omega)
      have qm:(j:Int).tmod 8=(j:Int)%8:=Int.tmod_eq_emod_of_nonneg (by omega)
      have q3:IntKind.i64.wrap ((j:Int)%8)=(j:Int)%8:=IntWalk.i64_in _ (by omega)
      have q4:(0:Int)≤(j:Int)/8:=by omega
      have q5:((j:Int)/8).toNat=j/8:=by omega
      have q6:((j:Int)%8).toNat=j%8:=by omega
      have q7:(0:Int)≤(j:Int)%8:=by omega
      have q8:(j:Int)%8<8:=by omega
      have hp:(1:Int)≤2^(j%8):=by
        have:(0:Int)<2^(j%8):=Int.pow_pos (by decide)
        omega
      have d1:0≤v/2^(j%8):=Int.ediv_nonneg b1.1 (by omega)
      have d2:v/2^(j%8)≤v:=Int.ediv_le_self _ b1.1
      have w1:IntKind.i64.wrap (v/2^(j%8))=v/2^(j%8):=IntWalk.i64_in _ (by omega)
      have w2:=QiC (v/2^(j%8)) (by omega)
      have hadd:(⟨sb,so,none⟩:Addr).add (j/8)=⟨sb,so+j/8,none⟩:=by unfold Addr.add; split <;> simp_all
      gi_wp2
      refine hR.mono ?_
      rintro e W3 (⟨rfl,hJ3,hk3⟩ | ⟨rfl,hJx3⟩)
      · gi_wp2
        go_roundw
        case rel=>exact ⟨j,by omega,rfl,by rw [hT.out]; exact hJ3,Qfg.trans hS hk3⟩
        case measure=>simp [intOf]
      · gi_wp2
        refine bodyPost_ret (results_none rfl _ _ _) rfl ?_
        exact ⟨⟨_,rfl⟩,.inr ⟨_,by rw [←hT.out]; exact List.take_prefix _ _,hJx3⟩⟩
end Go.Proofs.YtdoadngmgmdlbaaDoor.Field
end
section
namespace Go.Proofs.YtdoadngmgmdlbaaDoor.Field
open Go Go.RowKit
open Rely Auto
def ordL : Int:=7237005577332262213973186563042994240857116359379907606001950938285454250989
def isS (n : Int):Prop:=0≤n∧n<ordL
theorem isS_mod (n : Int):isS (n%ordL):=⟨Int.emod_nonneg _ (by decide),Int.emod_lt_of_pos _ (by decide)⟩
theorem isS_self {n : Int} (h:isS n):n%ordL=n:=Int.emod_eq_of_lt h.1 h.2
theorem Qku (a : Int) (h:isS a):∃ x0 x1 x2 x3:Int,isW x0∧isW x1∧isW x2∧isW x3∧val x0 x1 x2 x3=a∧num a=words x0 x1 x2 x3:=by
  refine ⟨a%18446744073709551616,a/18446744073709551616%18446744073709551616,a/340282366920938463463374607431768211456%18446744073709551616,a/6277101735386680763835789423207666416102355444464034512896%18446744073709551616,?_,?_,?_,?_,?_,rfl⟩
  all_goals unfold isS ordL at h
  all_goals first | (unfold isW; omega) | (unfold val; omega)
theorem Qi2 (n : Int) (h:0≤n∧n<18446744073709551616):isW n:=h
theorem Qir (a b:Int) (ha:isS a) (hb:isS b) (w:World) (tO:TypeId) (hO:w.heap[3]? = some (.cells QbW tO)) :
    Calls Tryd.prog 63 #[num a,num b] w (Ret w (num ((a+b)%ordL))):=by
  obtain ⟨x0,x1,x2,x3,wx0,wx1,wx2,wx3,ex,eX⟩:=Qku a ha
  obtain ⟨y0,y1,y2,y3,wy0,wy1,wy2,wy3,ey,eY⟩:=Qku b hb
  obtain ⟨v0,c0,wv0,wc0,e0,r0⟩:=Qej x0 y0 0 wx0 wy0 (by decide)
  obtain ⟨v1,c1,wv1,wc1,e1,r1⟩:=Qej x1 y1 c0 wx1 wy1 wc0
  obtain ⟨v2,c2,wv2,wc2,e2,r2⟩:=Qej x2 y2 c1 wx2 wy2 wc1
  obtain ⟨v3,c3,wv3,wc3,e3,r3⟩:=Qej x3 y3 c2 wx3 wy3 wc2
  obtain ⟨u0,d0,wu0,wd0,f0,s0⟩:=Qer v0 6346243789798364141 0 wv0 (Qi2 _ (by decide)) (by decide)
  obtain ⟨u1,d1,wu1,wd1,f1,s1⟩:=Qer v1 1503914060200516822 d0 wv1 (Qi2 _ (by decide)) wd0
  obtain ⟨u2,d2,wu2,wd2,f2,s2⟩:=Qer v2 0 d1 wv2 Qbs wd1
  obtain ⟨u3,d3,wu3,wd3,f3,s3⟩:=Qer v3 1152921504606846976 d2 wv3 (Qi2 _ (by decide)) wd2
  have hv:=Qfy v0 v1 v2 v3 wv0 wv1 wv2 wv3
  have hu:=Qfy u0 u1 u2 u3 wu0 wu1 wu2 wu3
  have hs:val v0 v1 v2 v3+115792089237316195423570985008687907853269984665640564039457584007913129639936*c3=a+b:=by unfold val at *; omega
  have ht:val u0 u1 u2 u3-115792089237316195423570985008687907853269984665640564039457584007913129639936*d3=val v0 v1 v2 v3-ordL:=by unfold val ordL at *; omega
  have h0:=ha.1; have h1:=ha.2; have h2:=hb.1; have h3:=hb.2
  have hc:c3=0:=by unfold ordL at *; omega
  rw [eX,eY]
  generalize hV:val v0 v1 v2 v3=V at hs ht hv
  generalize hU:val u0 u1 u2 u3=U at ht hu
  rcases (by omega:d3=0∨d3=1) with rfl | rfl
  · have e:num ((a+b)%ordL)=words u0 u1 u2 u3:=by
      rw [Qed _ _ _ _ wu0 wu1 wu2 wu3,hU]
      congr 1
      rw [show a+b=U+ordL by omega,Int.add_emod_right,Int.emod_eq_of_lt (by omega) (by unfold ordL at *; omega)]
    rw [e]
    exact Qqg _ _ _ _ _ _ _ _ _ _ _ _ _ _ _ _ _ _ _ _ _ _ _ r0 s0 r1 s1 r2 s2 r3 s3 w tO hO
  · have e:num ((a+b)%ordL)=words v0 v1 v2 v3:=by
      rw [Qed _ _ _ _ wv0 wv1 wv2 wv3,hV]
      congr 1
      rw [show a+b=V by omega,Int.emod_eq_of_lt (by omega) (by unfold ordL at *; omega)]
    rw [e]
    exact Qqf _ _ _ _ _ _ _ _ _ _ _ _ _ _ _ _ _ _ _ _ _ _ _ r0 s0 r1 s1 r2 s2 r3 s3 w tO hO
def addb (n : Int) (b:Bool):Int:=if b then ((n+n)%ordL+1)%ordL else (n+n)%ordL
def resB (bs : List Bool):Int:=bs.foldl addb 0
theorem Qho (bs : List Bool) (b:Bool):resB (bs++[b])=addb (resB bs) b:=by simp [resB]
theorem Qnu (n : Int) (b:Bool):isS (addb n b):=by unfold addb; split <;> exact isS_mod _
theorem QiN (bs : List Bool):isS (resB bs):=by
  rcases List.eq_nil_or_concat bs with h | ⟨l,b,h⟩
  · subst h; exact ⟨by decide,by decide⟩
  · subst h; rw [List.concat_eq_append,Qho]; exact Qnu _ _
theorem Qnt (m : Int) (b:Bool):addb (m%ordL) b=(2*m+if b then 1 else 0)%ordL:=by
  have e:(m%ordL+m%ordL)%ordL=(2*m)%ordL:=by rw [←Int.add_emod,Int.two_mul]
  unfold addb
  rw [e]
  cases b
  · simp
  · simp only [if_true]; rw [Int.emod_add_emod]
theorem QiM (bs : List Bool):resB bs=(bval bs:Int)%ordL:=by
  have key:∀ (bs:List Bool) (n:Nat),bs.foldl addb ((n:Int)%ordL)=((bs.foldl (fun n b=>2*n+if b then 1 else 0) n:Nat):Int)%ordL:=by
    intro bs
    induction bs with
    | nil=>intro n; rfl
    | cons b bs ih =>
      intro n
      rw [List.foldl_cons,List.foldl_cons,Qnt,←ih]
      congr 2
      cases b <;> simp
  exact key bs 0
def wl (n : Int):List Int:=[n%18446744073709551616,n/18446744073709551616%18446744073709551616,n/340282366920938463463374607431768211456%18446744073709551616,n/6277101735386680763835789423207666416102355444464034512896%18446744073709551616]
theorem Qbo (n : Int):(wl n).length=4:=rfl
theorem shrW (v : Int) (n:Nat) (h:n<64):v.fdiv (2^min (n:Int).toNat IntKind.u64.bits)=v/2^n:=by
  rw [show min ((n:Int).toNat) IntKind.u64.bits=n by show min ((n:Int).toNat) 64=n; omega]
  exact Int.fdiv_eq_ediv_of_nonneg _ (Int.le_of_lt (Int.pow_pos (by decide)))
theorem mul8 (k : Nat) (h:k<8):IntKind.i64.wrap (8*(k:Int))=((8*k:Nat):Int):=by
  rw [show (8*(k:Int))=((8*k:Nat):Int) by omega]
  exact IntWalk.i64_in _ (by omega)
theorem Qkg (m : Int) (r:Nat) (hr:r<8):m%18446744073709551616/2^(8*r)%256=m/256^r%256:=by
  rcases (by omega:r=0∨r=1∨r=2∨r=3∨r=4∨r=5∨r=6∨r=7) with rfl | rfl | rfl | rfl | rfl | rfl | rfl | rfl
  all_goals
    simp only [Int.reducePow,Nat.reduceMul]
    omega
theorem QpE (n : Int) (q:Nat) (hq:q<4):nth (wl n) q=n/256^(8*q)%18446744073709551616:=by
  rcases (by omega:q=0∨q=1∨q=2∨q=3) with rfl | rfl | rfl | rfl
  · show n%_=n/1%_
    rw [Int.ediv_one]
  · rfl
  · rfl
  · rfl
theorem QnS (n : Int) (k:Nat) (hk:k<32):IntKind.u8.wrap (nth (wl n) (k/8)/2^(8*(k%8)))=Qap n k:=by
  rw [u8_mod,QpE n _ (by omega),Qkg _ _ (by omega),Int.ediv_ediv_of_nonneg (Int.pow_nonneg (by decide)),←Int.pow_add,show 8*(k/8)+k%8=k by omega]
  rfl
theorem Qhy (n : Int):List.replicate 32 0=part n 0:=by unfold part; simp [List.map_const']
theorem Qhz (n : Int) (k:Nat) (hk:k<32):(part n k).set k (Qap n k)=part n (k+1):=by
  apply List.ext_getElem
  · simp [part]
  · intro i h1 h2
    simp only [part,List.length_map,List.length_range] at h2
    by_cases hi:i=k
    · subst hi; simp [part]
    · rw [List.getElem_set_ne (by omega)]
      simp only [part,List.getElem_map,List.getElem_range]
      by_cases h:i<k
      · rw [if_pos h,if_pos (by omega)]
      · rw [if_neg h,if_neg (by omega)]
def mulb (e n:Int) (b:Bool):Int:=if b then ((n+n)%ordL+e)%ordL else (n+n)%ordL
def mulB (e : Int) (bs:List Bool):Int:=bs.foldl (mulb e) 0
theorem Qh8 (e : Int) (bs:List Bool) (b:Bool):mulB e (bs++[b])=mulb e (mulB e bs) b:=by simp [mulB]
theorem QmB (e n:Int) (b:Bool):isS (mulb e n b):=by unfold mulb; split <;> exact isS_mod _
theorem Qjc (e : Int) (bs:List Bool):isS (mulB e bs):=by
  rcases List.eq_nil_or_concat bs with h | ⟨l,b,h⟩
  · subst h; exact (show isS 0 from ⟨by decide,by decide⟩)
  · subst h; rw [List.concat_eq_append,Qh8]; exact QmB _ _ _
theorem QmE (e : Int) (bs:List Bool):mulB e bs=(bval bs:Int)*e%ordL:=by
  have key:∀ (bs:List Bool) (n:Nat),bs.foldl (mulb e) ((n:Int)*e%ordL)=((bs.foldl (fun n b=>2*n+if b then 1 else 0) n:Nat):Int)*e%ordL:=by
    intro bs
    induction bs with
    | nil=>intro n; rfl
    | cons b bs ih =>
      intro n
      rw [List.foldl_cons,List.foldl_cons,←ih]
      congr 1
      have d:((n:Int)*e%ordL+(n:Int)*e%ordL)%ordL=(2*n)*e%ordL:=by rw [←Int.add_emod]; congr 1; grind
      unfold mulb
      rw [d]
      cases b
      · simp
      · simp only [if_true]; rw [Int.emod_add_emod]; congr 1; grind
  have h:=key bs 0
  rw [show ((0:Nat):Int)*e%ordL=0 by simp] at h
  exact h
theorem Qnp (xs : List Int) (hx:xs.length=32):bitsS xs=bitsB xs:=by unfold bitsS bitsB; rw [hx]
def resN (bs : List Int):Int:=resB (bitsS bs)
theorem QiL (bs : List Int):isS (resN bs):=QiN _
theorem numB_bytes {r : Int} (h:isS r):numB (Qao r)=r.toNat:=by
  unfold numB
  rw [leAt_mod r 32 (qR _),Int.emod_eq_of_lt h.1 (Int.lt_trans h.2 (by decide))]
theorem resN_32 (xs : List Int) (hx:xs.length=32) (hb:Qal xs):resN xs=(numB xs:Int)%ordL:=by
  unfold resN
  rw [QiM,Qnp xs hx,QfN xs hb]
theorem mulAdd_val (za zb zc:List Int) (hab:Qal za) (hb:zb.length=32) (hbb:Qal zb) (hc:zc.length=32) (hcb:Qal zc) :
    (mulB (resN zb) (bitsB za)+resN zc)%ordL=((numB za:Int)*numB zb+numB zc)%ordL:=by
  rw [QmE,resN_32 zb hb hbb,resN_32 zc hc hcb,QfN za hab,←Int.add_emod]
  rw [Int.add_emod,Int.mul_emod,Int.emod_emod,←Int.mul_emod,←Int.add_emod]
end Go.Proofs.YtdoadngmgmdlbaaDoor.Field
end
section
namespace Go.Proofs.YtdoadngmgmdlbaaDoor.Field
open Go Go.RowKit
open Rely Auto
theorem QoH : isS 1:=⟨by decide,by decide⟩
theorem Qfs {W : World} {g:Nat} {xs:List Int} {t:TypeId} (R:W.heap[g]? = some (.cells (ints .u8 xs) t)) {n:Nat} (hx:xs.length=n):∀ i,i<n→W.cell? ⟨g,0+i,none⟩=some (.int .u8 (nth xs i)):=fun i hi=>by
  rw [Nat.zero_add]
  exact QaE R (Qas _ _ _ (by omega))
theorem QhT {w W:World} {A:Option Addr} {n:Nat} {bs:List Int} (hc:n=0∨∃ sb so,A=some ⟨sb,so,none⟩∧sb<w.heap.size∧∀ i,i<n→w.cell? ⟨sb,so+i,none⟩=some (.int .u8 (nth bs i))) (e:Ext w W) :
    n=0∨∃ sb so,A=some ⟨sb,so,none⟩∧sb<W.heap.size∧∀ i,i<n→W.cell? ⟨sb,so+i,none⟩=some (.int .u8 (nth bs i)) :=
  hc.imp id fun ⟨sb,so,h1,h2,h3⟩=>⟨sb,so,h1,qL h2 e.size,fun i hi=>(Below.cell e h2).trans (h3 i hi)⟩
theorem QcE (n : Int) (k:Nat):(part n k).length=32:=by simp [part]
theorem Qik (n : Int) (w:World) (tO:TypeId) (hO:w.heap[3]? = some (.cells QbW tO)):Calls Tryd.prog 64 #[num n] w (Ret w (.agg (ints .u8 (Qao n)))):=by
 refine enter 21 [(0,.agg (ints .u64 (wl (n))))] Tryd.func64 rfl rfl kj rfl ?_
 refine wp_seq_k fun K2 hK2=>?_
 refine Qac ?_
 refine Qaj (ints .u64 (wl (n))) 97 1 rfl kj kj fun g3 W1 l3 e1 r3_1=>?_
 have x1:Ext w W1:=Ext.tr (Rely.Ext.refl w) e1
 have b3:w.heap.size≤g3:=qT (Rely.Ext.refl w).size l3
 refine Qaj (ints .u8 (List.replicate 32 0)) 23 2 rfl kj kj fun g4 W2 l4 e2 r4_2=>?_
 have x2:Ext w W2:=Ext.tr x1 e2
 have b4:w.heap.size≤g4:=qT x1.size l4
 refine Qaf ?_
 refine hK2 _ _ ?_
 refine wp_seq_k fun K5 hK5=>?_
 refine Qac ?_
 refine Qaj (ints .u8 (List.replicate 32 0)) 23 3 rfl kj kj fun g6 W3 l6 e3 r6_3=>?_
 have x3:Ext w W3:=Ext.tr x2 e3
 have b6:w.heap.size≤g6:=qT x2.size l6
 refine Qaf ?_
 refine hK5 _ _ ?_
 refine wp_seq_k fun K7 hK7=>?_
 refine wp_seq_k fun K8 hK8=>?_
 refine Qac ?_
 refine Qab (.int .i64 0) 5 rfl kj kj ?_
 refine Qaf ?_
 refine hK8 _ _ ?_
 refine wp_block ?_
 have n_3_4:g3≠g4:=(Qad r3_1 l4)
 have r3_2:=(Qaa r3_1 e2)
 have n_3_6:g3≠g6:=(Qad r3_2 l6)
 have n_4_3:g4≠g3:=(Qat r3_1 l4)
 have n_4_6:g4≠g6:=(Qad r4_2 l6)
 have n_6_3:g6≠g3:=(Qat r3_2 l6)
 have n_6_4:g6≠g4:=(Qat r4_2 l6)
 have r3_3:=(Qaa r3_2 e3)
 have r4_3:=(Qaa r4_2 e3)
 refine QaI (fun (k:Nat)=>[(5,.int .i64 ((k:Nat):Int)),(1,.pointer (some ⟨g3,0,none⟩)),(2,.pointer (some ⟨g4,0,none⟩)),(3,.pointer (some ⟨g6,0,none⟩))]) (fun (k:Nat) W=>(k≤32)∧W.heap[g3]? = some (.cells (ints .u64 (wl (n))) 97)∧W.heap[g4]? = some (.cells (ints .u8 (List.replicate 32 0)) 23)∧W.heap[g6]? = some (.cells (ints .u8 (part n k)) 23)∧Ext w W) (fun (k:Nat)=>32-k) 0 ⟨rfl,rfl,rfl,rfl,trivial⟩ ⟨(by omega),r3_3,r4_3,(QaB r6_3 (Qhy n)),x3⟩ fun k X1 V1 hI=>?_
 obtain ⟨hk32,q3_1,q4_1,q6_1,xx1⟩:=hI
 refine wp_seq_k fun K9 hK9=>?_
 refine Qac ?_
 refine Qab (.bool (decide (((k:Nat):Int)<32))) 6 rfl kj kj ?_
 refine Qaf ?_
 refine hK9 _ _ ?_
 refine wp_seq_k fun K10 hK10=>?_
 refine Qa5 (t:=decide (((k:Nat):Int)<32)) kj (fun c11=>?_) (fun c11=>?_)
 ·skip
  have hk:k<32:=by have:=of_decide_eq_true c11; omega
  refine wp_skip ?_
  refine hK10 _ _ ?_
  refine wp_seq_k fun K12 hK12=>?_
  refine wp_block ?_
  refine wp_seq_k fun K13 hK13=>?_
  refine Qac ?_
  refine Qab (.int .i64 ((k:Nat):Int)) 7 rfl kj kj ?_
  refine Qab (.int .i64 ((k:Nat):Int)) 4 rfl kj kj ?_
  refine Qaf ?_
  refine hK13 _ _ ?_
  refine Qac ?_
  refine Qab (.int .i64 ((k:Nat):Int)) 8 rfl kj kj ?_
  refine Qab (.int .i64 ((k:Nat):Int)) 9 rfl kj kj ?_
  refine Qab (.int .i64 (((k/8:Nat):Int))) 10 rfl kj (Qan (u:=.int .i64 (IntKind.i64.wrap (Int.tdiv (((k:Nat):Int)) (8)))) kj (congrArg (Value.int .i64) (QeR k 8 (by omega)))) ?_
  refine Qab (.pointer (some ⟨g3,k/8,none⟩)) 11 rfl kj (QaD _ _ _ .i64 (k/8) _ 4 46 rfl kj kj kj kj (by omega)) ?_
  refine Qab (.int .u64 (nth (wl (n)) (k/8))) 12 rfl kj (Qam 46 _ g3 (k/8) 97 _ (.int .u64 (nth (wl (n)) (k/8))) _ q3_1 rfl kj (Qas _ _ _ (Nat.lt_of_lt_of_eq (by omega) (Qbo _).symm)) kj) ?_
  refine Qab (.int .i64 ((k:Nat):Int)) 13 rfl kj kj ?_
  refine Qab (.int .i64 (((k%8:Nat):Int))) 14 rfl kj (Qan (u:=.int .i64 (Int.tmod (((k:Nat):Int)) (8))) kj (congrArg (Value.int .i64) (QcU k 8))) ?_
  refine Qab (.int .i64 (((8*(k%8):Nat):Int))) 15 rfl kj (Qan (u:=.int .i64 (IntKind.i64.wrap (8*((k%8:Nat):Int)))) kj (congrArg (Value.int .i64) (mul8 _ (by omega)))) ?_
  refine Qab (.int .u64 (nth (wl n) (k/8)/2^(8*(k%8)))) 16 rfl kj (Qbp .shr _ _ _ _ .u64 .i64 _ _ _ rfl kj kj (QcY _ _ _ _ _ _ (by omega) (shrW _ _ (by omega)))) ?_
  refine Qab (.int .u8 (Qap n k)) 17 rfl kj (Qan (u:=.int .u8 (IntKind.u8.wrap (nth (wl n) (k/8)/2^(8*(k%8))))) kj (congrArg (Value.int .u8) (QnS n k hk))) ?_
  refine Qab (.pointer (some ⟨g6,k,none⟩)) 18 rfl kj (QaD _ _ _ .i64 (k) _ 32 5 rfl kj kj kj kj hk) ?_
  refine Qak g6 _ (ints .u8 ((part n k).set k (Qap n k))) 23 q6_1 rfl kj (Qa1 5 _ _ g6 k 23 _ _ q6_1 rfl kj kj kj (Nat.lt_of_lt_of_eq hk (QcE _ _).symm)) fun W5 p5 r6_5=>?_
  have x5:Ext w W5:=Puts.ext p5 xx1 b6
  refine Qaf ?_
  refine hK12 _ _ ?_
  refine Qac ?_
  refine Qab (.int .i64 (((k+1:Nat):Int))) 19 rfl kj (Qan (u:=.int .i64 (IntKind.i64.wrap (((k:Nat):Int)+1))) kj (congrArg (Value.int .i64) (Qcg k (by omega)))) ?_
  refine Qab (.int .i64 (((k+1:Nat):Int))) 5 rfl kj kj ?_
  refine Qaf ?_
  have r3_5:=(Puts.row p5 q3_1 n_3_6)
  have r4_5:=(Puts.row p5 q4_1 n_4_6)
  repeat (first | with_reducible refine goX1 ?_ | with_reducible refine goX2 ?_ | with_reducible refine goX3 ?_)
  exact QaA (k+1) ⟨rfl,rfl,rfl,rfl,trivial⟩ ⟨(by omega),r3_5,r4_5,(QaB r6_5 (Qhz n k hk)),x5⟩ (by omega)
 ·skip
  have hk:k=32:=by have:=of_decide_eq_false c11; omega
  subst hk
  refine wp_exit ?_
  refine hK7 _ _ ?_
  refine wp_seq_k fun K14 hK14=>?_
  refine Qac ?_
  refine Qab (.agg (ints .u8 (part n 32))) 20 rfl kj (Qag 23 _ g6 23 _ _ q6_1 rfl kj kj (isz (n:=32) kj ((Qae _ _).trans (QcE _ _)))) ?_
  refine Qak g4 _ (ints .u8 (part n 32)) 23 q4_1 rfl kj (Qah 23 _ _ g4 23 _ _ q4_1 rfl kj kj (isz (n:=32) kj ((Qae _ _).trans (QcE _ _))) (eqsz (n:=32) ((Qae _ _).trans zlen) ((Qae _ _).trans (QcE _ _))) (ints_one _ _)) fun W5 p5 r4_5=>?_
  have x5:Ext w W5:=Puts.ext p5 xx1 b4
  refine Qaf ?_
  refine hK14 _ _ ?_
  refine wp_ret ?_
  exact (show bodyPost _ _ _ .ret _ _ from ret1 (.agg (ints .u8 (part n 32))) rfl (QaC g4 23 _ r4_5 kj kj (isz (n:=32) kj ((Qae _ _).trans (QcE _ _)))) ⟨rfl,x5⟩)
theorem QiA (A : Option Addr) (n c:Nat) (w:World):Calls Tryd.prog 87 #[.slice A n c] w fun e w'=>∃ v,e=.returned v∧Ext w w'∧∃ g1,w.heap.size≤g1∧v=.func (.func 99) #[] #[.pointer (some ⟨g1,0,none⟩)]∧w'.heap[g1]? = some (.cells #[.slice A n c] 27):=by
  have hmf:∀ (fn:Fn) (first cap:Array Value) (w:World),(Instr.makeFunc fn first cap).run Tryd.prog w=.ok (.func fn first cap) w:=fun _ _ _ _=>rfl
  go_enter Tryd.func87,Tryd.ntmps87
  go_wp2_with fail
  exact bodyPost_ret (results_tmp rfl _ _ _) rfl ⟨_,rfl,QaJ _ _,w.heap.size,qR _,rfl,heap_alloc_new _ _⟩
set_option maxHeartbeats 8000000 in
theorem Qfm (A : Option Addr) (n c:Nat) (bs:List Int) (hbl:bs.length=n) (hn:n≤1000) (hb:Qal bs) (w:World) (tO:TypeId) (hO:w.heap[3]? = some (.cells QbW tO))
    (hc:n=0∨∃ sb so,A=some ⟨sb,so,none⟩∧sb<w.heap.size∧∀ i,i<n→w.cell? ⟨sb,so+i,none⟩=some (.int .u8 (nth bs i))) :
    Calls Tryd.prog 62 #[.slice A n c] w (Ret w (num (resN bs))):=by
  refine Qlt 17 [(0,.slice A n c)] Tryd.func62 rfl rfl kj rfl ?_
  refine wp_seq_k fun K2 hK2=>?_
  refine Qac ?_
  refine Qaj (ints .u64 ([0,0,0,0])) 97 2 rfl kj kj fun g3 W1 l3 e1 r3_1=>?_
  have x1:Ext w W1:=Ext.tr (Rely.Ext.refl w) e1
  have b3:w.heap.size≤g3:=qT (Rely.Ext.refl w).size l3
  refine Qaf ?_
  refine hK2 _ _ ?_
  refine wp_seq_k fun K4 hK4=>?_
  refine Qac ?_
  refine Qaj (ints .u64 ([0,0,0,0])) 97 3 rfl kj kj fun g5 W2 l5 e2 r5_2=>?_
  have x2:Ext w W2:=Ext.tr x1 e2
  have b5:w.heap.size≤g5:=qT x1.size l5
  refine Qaf ?_
  refine hK4 _ _ ?_
  refine wp_seq_k fun K6 hK6=>?_
  refine wp_seq_k fun K7 hK7=>?_
  refine Qac ?_
  refine Qab (.slice A n c) 5 rfl kj kj ?_
  refine Qb6 (fun v W'=>Ext W2 W'∧∃ g1,W2.heap.size≤g1∧v=.func (.func 99) #[] #[.pointer (some ⟨g1,0,none⟩)]∧W'.heap[g1]? = some (.cells #[.slice A n c] 27)) 87 #[.slice A n c] 6 rfl kj kj (QiA A n c _) fun v W3 h=>?_
  obtain ⟨e3,g1,lk,rfl,r8_3⟩:=h
  have x3:Ext w W3:=Ext.tr x2 e3
  refine Qaf ?_
  refine hK7 _ _ ?_
  refine wp_block ?_
  have r5_3:=(Qaa r5_2 e3)
  have r3_3:=(Qaa (Qaa r3_1 e2) e3)
  have n_ry0_ro:g3≠g5:=(Qad r3_1 l5)
  have n_rk_ro:g1≠g5:=(Qat r5_2 lk)
  refine QeM (gf:=99) (lb:=#[.pointer (some ⟨g1,0,none⟩)]) (enc:=encB) kj (enters_of Tryd.func99 kj rfl) (QhZ _ (by omega) w.heap.size g1 A n c bs hbl hn hb W3 r8_3 x3.size (hc.imp id (fun ⟨sb,so,h1,h2,h3⟩=>⟨sb,so,h1,h2,fun i hi=>(Below.cell x3 h2).trans (h3 i hi)⟩))) (fun h k=>Qfg.trans h k) (QjB (Qa3 r8_3) x3.size) (Below.refl _ _)
      (fun pre W=>(W.heap[g5]? = some (.cells (ints .u64 (wl (resB pre))) 97)∧W.heap[g3]? = some (.cells (ints .u64 ([0,0,0,0])) 97)∧W.heap[g1]? = some (.cells (#[.slice A n c]) 27))∧Ext w W)
      (fun _ _ _=>False) (OwnFrom.and (Own.from (fun s A B row hs hg hr=>⟨Qb2 hs.1 hg hr,Qb2 hs.2.1 hg hr,Qb2 hs.2.2 hg hr⟩) _) (ownFrom_below (qR _) x3.size)) (fun _ _ _ _ _ h _ _=>h) ⟨⟨(QaB r5_3 (show [0,0,0,0]=wl (resB []) from rfl)),r3_3,r8_3⟩,x3⟩ (fun x=>[(4,encB x),(7,encB x)]) (fun l x W K hK=>?_) (fun l pre bt W hI hp=>?_) (fun D ys W lD hS hI rD=>?_) (fun _ _ _ _ _ _ h _=>h.elim)
  · refine QaT ?_
    refine Qbq (encB x) 4 rfl (Qa2 l 1 _) rfl kj kj ?_
    refine Qc4 ?_
    exact hK
  · obtain ⟨⟨ro,ry0,rk⟩,xx⟩:=hI
    have hO2:=Qaa hO xx
    have hS0:=Qho pre bt
    have hL:=QiN pre
    generalize resB pre=s at hS0 hL ro
    cases bt
    · have cs:=fun W tO hO=>Qir s s hL hL W tO hO
      have hn0:=isS_mod (s+s)
      obtain ⟨n0,hn⟩:∃ n0,n0=(s+s)%ordL:=⟨_,rfl⟩
      rw [←hn] at cs hn0
      have hS:resB (pre++[false])=n0:=by
        rw [hS0]
        simp only [addb,Bool.false_eq_true,if_false,hn]
      have ls:=b5
      refine wpIn_block ?_
      refine wpIn_seq_k fun K105 hK105=>?_
      refine QaT ?_
      refine Qbq (.agg (ints .u64 (wl (s)))) 8 rfl (Qa2 l 1 _) rfl kj (Qag 97 _ g5 97 _ _ ro rfl kj kj (isz (n:=4) kj ((Qae _ _).trans (Qbo _)))) ?_
      refine Qbq (.agg (ints .u64 (wl (s)))) 9 rfl (Qa2 l 1 _) rfl kj (Qag 97 _ g5 97 _ _ ro rfl kj kj (isz (n:=4) kj ((Qae _ _).trans (Qbo _)))) ?_
      refine Qdy (.agg (ints .u64 (wl (n0)))) 63 #[.agg (ints .u64 (wl (s))),.agg (ints .u64 (wl (s)))] 10 rfl (Qa2 l 1 _) rfl kj kj (cs _ tO hO2) fun W1 e1=>?_
      have x1:Ext w W1:=Ext.tr xx e1
      have r102_1:=(Qaa ro e1)
      refine QcQ g5 _ (ints .u64 (wl (n0))) 97 r102_1 rfl (Qa2 l 1 _) rfl kj (Qah 97 _ _ g5 97 _ _ r102_1 rfl kj kj (isz (n:=4) kj ((Qae _ _).trans (Qbo _))) (eqsz (n:=4) ((Qae _ _).trans (Qbo _)) ((Qae _ _).trans (Qbo _))) (ints_one _ _)) fun W2 p2 r102_2=>?_
      have x2:Ext w W2:=Puts.ext p2 x1 ls
      refine Qc4 ?_
      refine hK105 _ _ ?_
      refine wpIn_seq_k fun K106 hK106=>?_
      refine QaT ?_
      refine Qbq (.int .i64 0) 11 rfl (Qa2 l 1 _) rfl kj kj ?_
      refine Qbq (.bool false) 12 rfl (Qa2 l 1 _) rfl kj kj ?_
      refine Qc4 ?_
      refine hK106 _ _ ?_
      refine Qdx kj ?_
      refine wpIn_skip ?_
      have r103_2:=(Puts.row p2 (Qaa ry0 e1) n_ry0_ro)
      have r104_2:=(Puts.row p2 (Qaa rk e1) n_rk_ro)
      exact ⟨((QbQ e1).trans (Qcf p2 r102_1)),⟨r104_2.trans rk.symm,fun k hk=>(x2.block k hk).trans (xx.block k hk).symm⟩,⟨by rw [hS]; exact r102_2,r103_2,r104_2⟩,x2⟩
    · have cs:=fun W tO hO=>Qir s s hL hL W tO hO
      have hn0:=isS_mod (s+s)
      obtain ⟨n0,hn⟩:∃ n0,n0=(s+s)%ordL:=⟨_,rfl⟩
      rw [←hn] at cs hn0
      have ct:=fun W tO hO=>Qir n0 (1) hn0 QoH W tO hO
      obtain ⟨m0,hm⟩:∃ m0,m0=(n0+1)%ordL:=⟨_,rfl⟩
      rw [←hm] at ct
      have hS:resB (pre++[true])=m0:=by
        rw [hS0]
        simp only [addb,if_true,hm,hn]
      have ls:=b5
      refine wpIn_block ?_
      refine wpIn_seq_k fun K105 hK105=>?_
      refine QaT ?_
      refine Qbq (.agg (ints .u64 (wl (s)))) 8 rfl (Qa2 l 1 _) rfl kj (Qag 97 _ g5 97 _ _ ro rfl kj kj (isz (n:=4) kj ((Qae _ _).trans (Qbo _)))) ?_
      refine Qbq (.agg (ints .u64 (wl (s)))) 9 rfl (Qa2 l 1 _) rfl kj (Qag 97 _ g5 97 _ _ ro rfl kj kj (isz (n:=4) kj ((Qae _ _).trans (Qbo _)))) ?_
      refine Qdy (.agg (ints .u64 (wl (n0)))) 63 #[.agg (ints .u64 (wl (s))),.agg (ints .u64 (wl (s)))] 10 rfl (Qa2 l 1 _) rfl kj kj (cs _ tO hO2) fun W1 e1=>?_
      have x1:Ext w W1:=Ext.tr xx e1
      have r102_1:=(Qaa ro e1)
      refine QcQ g5 _ (ints .u64 (wl (n0))) 97 r102_1 rfl (Qa2 l 1 _) rfl kj (Qah 97 _ _ g5 97 _ _ r102_1 rfl kj kj (isz (n:=4) kj ((Qae _ _).trans (Qbo _))) (eqsz (n:=4) ((Qae _ _).trans (Qbo _)) ((Qae _ _).trans (Qbo _))) (ints_one _ _)) fun W2 p2 r102_2=>?_
      have x2:Ext w W2:=Puts.ext p2 x1 ls
      refine Qc4 ?_
      refine hK105 _ _ ?_
      refine wpIn_seq_k fun K106 hK106=>?_
      refine QaT ?_
      refine Qbq (.int .i64 1) 11 rfl (Qa2 l 1 _) rfl kj kj ?_
      refine Qbq (.bool true) 12 rfl (Qa2 l 1 _) rfl kj kj ?_
      refine Qc4 ?_
      refine hK106 _ _ ?_
      refine QdD kj ?_
      refine QaT ?_
      refine Qbq (.agg (ints .u64 (wl (n0)))) 13 rfl (Qa2 l 1 _) rfl kj (Qag 97 _ g5 97 _ _ r102_2 rfl kj kj (isz (n:=4) kj ((Qae _ _).trans (Qbo _)))) ?_
      refine Qbq (.agg (ints .u64 (wl (1)))) 14 rfl (Qa2 l 1 _) rfl kj kj ?_
      have r101_2:=(Puts.row p2 (Qaa hO2 e1) (Nat.ne_of_lt (qL (Qa3 hO) ls)))
      refine Qdy (.agg (ints .u64 (wl (m0)))) 63 #[.agg (ints .u64 (wl (n0))),.agg (ints .u64 (wl (1)))] 15 rfl (Qa2 l 1 _) rfl kj kj (ct _ tO r101_2) fun W3 e3=>?_
      have x3:Ext w W3:=Ext.tr x2 e3
      have r102_3:=(Qaa r102_2 e3)
      refine QcQ g5 _ (ints .u64 (wl (m0))) 97 r102_3 rfl (Qa2 l 1 _) rfl kj (Qah 97 _ _ g5 97 _ _ r102_3 rfl kj kj (isz (n:=4) kj ((Qae _ _).trans (Qbo _))) (eqsz (n:=4) ((Qae _ _).trans (Qbo _)) ((Qae _ _).trans (Qbo _))) (ints_one _ _)) fun W4 p4 r102_4=>?_
      have x4:Ext w W4:=Puts.ext p4 x3 ls
      refine Qc4 ?_
      have r103_4:=(Puts.row p4 (Qaa (Puts.row p2 (Qaa ry0 e1) n_ry0_ro) e3) n_ry0_ro)
      have r104_4:=(Puts.row p4 (Qaa (Puts.row p2 (Qaa rk e1) n_rk_ro) e3) n_rk_ro)
      exact ⟨((((QbQ e1).trans (Qcf p2 r102_1)).trans (QbQ e3)).trans (Qcf p4 r102_3)),⟨r104_4.trans rk.symm,fun k hk=>(x4.block k hk).trans (xx.block k hk).symm⟩,⟨by rw [hS]; exact r102_4,r103_4,r104_4⟩,x4⟩
  obtain ⟨⟨ro,ry0,rk⟩,xx⟩:=hI
  subst hS
  have bD:w.heap.size≤D:=qT x3.size lD
  refine hK6 _ _ ?_
  refine wp_seq_k fun K10 hK10=>?_
  refine Qac ?_
  refine Qab (.agg (ints .u64 (wl (resB (bitsS bs))))) 16 rfl kj (Qag 97 _ g5 97 _ _ ro rfl kj kj (isz (n:=4) kj ((Qae _ _).trans (Qbo _)))) ?_
  refine Qak g3 _ (ints .u64 (wl (resB (bitsS bs)))) 97 ry0 rfl kj (Qah 97 _ _ g3 97 _ _ ry0 rfl kj kj (isz (n:=4) kj ((Qae _ _).trans (Qbo _))) (eqsz (n:=4) kj ((Qae _ _).trans (Qbo _))) (ints_one _ _)) fun W5 p5 r3_5=>?_
  have x5:Ext w W5:=Puts.ext p5 xx b3
  refine Qaf ?_
  refine hK10 _ _ ?_
  refine wp_ret ?_
  have r9_5:=(Puts.row p5 rD (Qix ry0 rD))
  exact (show bodyPostM _ _ _ _ _ .ret _ _ from Qol (.agg (ints .u64 (wl (resB (bitsS bs))))) rfl r9_5 (QaC g3 97 _ (QgC r3_5 r9_5 _) kj kj (isz (n:=4) kj ((Qae _ _).trans (Qbo _)))) ⟨rfl,QgD x5 bD r9_5 _⟩)
end Go.Proofs.YtdoadngmgmdlbaaDoor.Field
end
section
namespace Go.Proofs.YtdoadngmgmdlbaaDoor.Field
open Go Go.RowKit
open Rely Auto
theorem reduce_ok (A : Option Addr) (n c:Nat) (bs:List Int) (hbl:bs.length=n) (hn:n≤64) (hb:Qal bs) (w:World) (tO:TypeId) (hO:w.heap[3]? = some (.cells QbW tO))
    (hc:n=0∨∃ sb so,A=some ⟨sb,so,none⟩∧sb<w.heap.size∧∀ i,i<n→w.cell? ⟨sb,so+i,none⟩=some (.int .u8 (nth bs i))) :
    Calls Tryd.prog 61 #[.slice A n c] w (Ret w (.tuple #[.agg (ints .u8 (Qao (resN bs))),.bool true])):=by
  refine enter 11 [(0,.slice A n c)] Tryd.func61 rfl rfl kj rfl ?_
  refine wp_seq_k fun K2 hK2=>?_
  refine Qac ?_
  refine Qaj (ints .u8 (List.replicate 32 0)) 23 2 rfl kj kj fun g3 W1 l3 e1 r3_1=>?_
  have x1:Ext w W1:=Ext.tr (Rely.Ext.refl w) e1
  have b3:w.heap.size≤g3:=qT (Rely.Ext.refl w).size l3
  refine Qab (.bool false) 3 rfl kj kj ?_
  refine Qaf ?_
  refine hK2 _ _ ?_
  refine wp_seq_k fun K4 hK4=>?_
  refine wp_seq_k fun K5 hK5=>?_
  refine Qac ?_
  refine Qab (.slice A n c) 4 rfl kj kj ?_
  refine Qab (.int .i64 ((n:Nat):Int)) 5 rfl kj kj ?_
  refine Qab (.bool false) 6 rfl kj (Qan (u:=.bool (decide (((n:Nat):Int)>64))) kj (congrArg Value.bool (decide_eq_false (by omega)))) ?_
  refine Qaf ?_
  refine hK5 _ _ ?_
  refine cond_false kj ?_
  refine wp_skip ?_
  refine hK4 _ _ ?_
  refine wp_seq_k fun K6 hK6=>?_
  refine Qac ?_
  refine Qab (.slice A n c) 8 rfl kj kj ?_
  have r1_1:=(Qaa hO e1)
  refine Qar (.agg (ints .u64 (wl (resN bs)))) 62 #[.slice A n c] 9 rfl kj kj (Qfm A n c bs hbl (by omega) hb _ tO r1_1 (QhT hc x1)) fun W2 e2=>?_
  have x2:Ext w W2:=Ext.tr x1 e2
  have r1_2:=(Qaa r1_1 e2)
  refine Qar (.agg (ints .u8 (Qao (resN bs)))) 64 #[.agg (ints .u64 (wl (resN bs)))] 10 rfl kj kj (Qik _ _ tO r1_2) fun W3 e3=>?_
  have x3:Ext w W3:=Ext.tr x2 e3
  have r3_3:=(Qaa (Qaa r3_1 e2) e3)
  refine Qak g3 _ (ints .u8 (Qao (resN bs))) 23 r3_3 rfl kj (Qah 23 _ _ g3 23 _ _ r3_3 rfl kj kj (isz (n:=32) kj ((Qae _ _).trans (bytes_len _))) (eqsz (n:=32) ((Qae _ _).trans zlen) ((Qae _ _).trans (bytes_len _))) (ints_one _ _)) fun W4 p4 r3_4=>?_
  have x4:Ext w W4:=Puts.ext p4 x3 b3
  refine Qab (.bool true) 3 rfl kj kj ?_
  refine Qaf ?_
  refine hK6 _ _ ?_
  refine wp_ret ?_
  exact (show bodyPost _ _ _ .ret _ _ from ret2 (.agg (ints .u8 (Qao (resN bs)))) (.bool true) rfl (QaC g3 23 _ r3_4 kj kj (isz (n:=32) kj ((Qae _ _).trans (bytes_len _)))) (Qbr kj) ⟨rfl,x4⟩)
theorem residueBC (xs : List Int) (hx:xs.length=32) (hb:Qal xs) (w:World) (tO:TypeId) (hO:w.heap[3]? = some (.cells QbW tO)):Calls Tryd.prog 33 #[.agg (ints .u8 xs)] w (Ret w (.bool (decide (Qao (resN xs)=xs)))):=by
  refine enter 8 [(0,.agg (ints .u8 (xs)))] Tryd.func33 rfl rfl kj rfl ?_
  refine wp_seq_k fun K2 hK2=>?_
  refine Qac ?_
  refine Qaj (ints .u8 (xs)) 23 1 rfl kj kj fun g3 W1 l3 e1 r3_1=>?_
  have x1:Ext w W1:=Ext.tr (Rely.Ext.refl w) e1
  have b3:w.heap.size≤g3:=qT (Rely.Ext.refl w).size l3
  refine Qab (.bool false) 2 rfl kj kj ?_
  refine Qaf ?_
  refine hK2 _ _ ?_
  refine wp_seq_k fun K4 hK4=>?_
  refine QaK 5 [⟨none,[(1,none)]⟩,⟨none,[(3,some 0)]⟩,⟨none,[(4,some 1)]⟩,⟨none,[(1,none)]⟩,⟨none,[(5,some 2),(6,some 3)]⟩] kj kj fun F hF=>?_
  refine Qav (.slice (some ⟨g3,0,none⟩) 32 32) kj kj (fun W=>kj) ?_
  have r1_1:=(Qaa hO e1)
  refine Qau (.agg (ints .u64 (wl (resN xs)))) 62 #[.slice (some ⟨g3,0,none⟩) 32 32] kj kj (fun W=>kj) (fun W hR=>Qfm _ _ _ xs hx (by omega) hb W tO (Qaa (Qaa r1_1 (Qai _)) hR) (.inr ⟨g3,0,rfl,Qa3 (Qaa (Qaa r3_1 (Qai _)) hR),Qfs (Qaa (Qaa r3_1 (Qai _)) hR) hx⟩)) ?_
  refine Qau (.agg (ints .u8 (Qao (resN xs)))) 64 #[.agg (ints .u64 (wl (resN xs)))] kj kj (fun W=>kj) (fun W hR=>Qik _ W tO (Qaa (Qaa r1_1 (Qai _)) hR)) ?_
  refine Qaq (.agg (ints .u8 (xs))) kj kj (fun W hR=>(Qag 23 _ g3 23 _ _ (Qaa (Qaa r3_1 (Qai _)) hR) rfl kj kj (isz (n:=32) kj ((Qae _ _).trans hx)))) ?_
  refine Qav (.bool (decide (Qao (resN xs)=xs))) kj kj (fun W=>(Qds 23 _ _ _ _ _ (.bool (decide (Qao (resN xs)=xs))) rfl kj kj kj (key_eql (Qao (resN xs)) (xs) (decide (Qao (resN xs)=xs)) (bytes_len _) hx rfl _))) ?_
  refine Qa9 (hF _ kj fun W2 e2=>?_)
  simp only [ups,up,Kn.val,List.take_succ_cons,List.take_zero,List.drop_succ_cons,List.drop_zero,List.nil_append,List.cons_append]
  clear hF
  have x2:Ext w W2:=Ext.tr x1 e2
  refine Qab (.bool (decide (Qao (resN xs)=xs))) 2 rfl kj kj ?_
  refine Qaf ?_
  refine hK4 _ _ ?_
  refine wp_ret ?_
  exact (show bodyPost _ _ _ .ret _ _ from ret1 (.bool (decide (Qao (resN xs)=xs))) rfl (Qbr kj) ⟨rfl,x2⟩)
set_option maxHeartbeats 8000000 in
theorem mulAddC (za zb zc:List Int) (ha:za.length=32) (hab:Qal za) (hb:zb.length=32) (hbb:Qal zb) (hc:zc.length=32) (hcb:Qal zc) (w:World) (tO:TypeId) (hO:w.heap[3]? = some (.cells QbW tO)):Calls Tryd.prog 30 #[.agg (ints .u8 za),.agg (ints .u8 zb),.agg (ints .u8 zc)] w (Ret w (.agg (ints .u8 (Qao ((mulB (resN zb) (bitsB za)+resN zc)%ordL))))):=by
  refine Qlt 28 [(0,.agg (ints .u8 (za))),(1,.agg (ints .u8 (zb))),(2,.agg (ints .u8 (zc)))] Tryd.func30 rfl rfl kj rfl ?_
  refine wp_seq_k fun K2 hK2=>?_
  refine Qac ?_
  refine Qaj (ints .u8 (za)) 23 3 rfl kj kj fun g3 W1 l3 e1 r3_1=>?_
  have x1:Ext w W1:=Ext.tr (Rely.Ext.refl w) e1
  have b3:w.heap.size≤g3:=qT (Rely.Ext.refl w).size l3
  refine Qaj (ints .u8 (zb)) 23 4 rfl kj kj fun g4 W2 l4 e2 r4_2=>?_
  have x2:Ext w W2:=Ext.tr x1 e2
  have b4:w.heap.size≤g4:=qT x1.size l4
  refine Qaj (ints .u8 (zc)) 23 5 rfl kj kj fun g5 W3 l5 e3 r5_3=>?_
  have x3:Ext w W3:=Ext.tr x2 e3
  have b5:w.heap.size≤g5:=qT x2.size l5
  refine Qaj (ints .u8 (List.replicate 32 0)) 23 6 rfl kj kj fun g6 W4 l6 e4 r6_4=>?_
  have x4:Ext w W4:=Ext.tr x3 e4
  have b6:w.heap.size≤g6:=qT x3.size l6
  refine Qaf ?_
  refine hK2 _ _ ?_
  refine wp_seq_k fun K7 hK7=>?_
  refine Qac ?_
  refine Qab (.slice (some ⟨g4,0,none⟩) 32 32) 10 rfl kj kj ?_
  have r1_4:=(Qaa (Qaa (Qaa (Qaa hO e1) e2) e3) e4)
  have r4_4:=(Qaa (Qaa r4_2 e3) e4)
  refine Qar (.agg (ints .u64 (wl (resN zb)))) 62 #[.slice (some ⟨g4,0,none⟩) 32 32] 11 rfl kj kj (Qfm _ _ _ zb hb (by omega) hbb _ tO r1_4 (.inr ⟨g4,0,rfl,Qa3 r4_4,Qfs r4_4 hb⟩)) fun W5 e5=>?_
  have x5:Ext w W5:=Ext.tr x4 e5
  refine Qaj (ints .u64 ([0,0,0,0])) 97 7 rfl kj kj fun g8 W6 l8 e6 r8_6=>?_
  have x6:Ext w W6:=Ext.tr x5 e6
  have b8:w.heap.size≤g8:=qT x5.size l8
  refine Qak g8 _ (ints .u64 (wl (resN zb))) 97 r8_6 rfl kj (Qah 97 _ _ g8 97 _ _ r8_6 rfl kj kj (isz (n:=4) kj ((Qae _ _).trans (Qbo _))) (eqsz (n:=4) kj ((Qae _ _).trans (Qbo _))) (ints_one _ _)) fun W7 p7 r8_7=>?_
  have x7:Ext w W7:=Puts.ext p7 x6 b8
  refine Qaf ?_
  refine hK7 _ _ ?_
  refine wp_seq_k fun K9 hK9=>?_
  refine Qac ?_
  refine Qaj (ints .u64 ([0,0,0,0])) 97 8 rfl kj kj fun g10 W8 l10 e8 r10_8=>?_
  have x8:Ext w W8:=Ext.tr x7 e8
  have b10:w.heap.size≤g10:=qT x7.size l10
  refine Qaf ?_
  refine hK9 _ _ ?_
  refine wp_seq_k fun K11 hK11=>?_
  refine wp_seq_k fun K12 hK12=>?_
  refine Qac ?_
  have r3_5:=(Qaa (Qaa (Qaa (Qaa r3_1 e2) e3) e4) e5)
  have r3_8:=(Qaa (Puts.row p7 (Qaa (Qaa (Qaa (Qaa (Qaa r3_1 e2) e3) e4) e5) e6) (Qad r3_5 l8)) e8)
  refine Qab (.agg (ints .u8 (za))) 12 rfl kj (Qag 23 _ g3 23 _ _ r3_8 rfl kj kj (isz (n:=32) kj ((Qae _ _).trans ha))) ?_
  refine Qb6 (fun v W'=>Ext W8 W'∧∃ kb,W8.heap.size≤kb∧v=.func (.func 82) #[] #[.pointer (some ⟨kb,0,none⟩)]∧W'.heap[kb]? = some (.cells (ints .u8 za) 23)) 46 #[.agg (ints .u8 za)] 13 rfl kj kj (Qgq _ _) fun v W9 h=>?_
  obtain ⟨e9,kb,lk,rfl,r13_9⟩:=h
  have x9:Ext w W9:=Ext.tr x8 e9
  refine Qaf ?_
  refine hK12 _ _ ?_
  refine wp_block ?_
  have r10_9:=(Qaa r10_8 e9)
  have r8_9:=(Qaa (Qaa r8_7 e8) e9)
  have r5_5:=(Qaa (Qaa r5_3 e4) e5)
  have r5_9:=(Qaa (Qaa (Puts.row p7 (Qaa (Qaa (Qaa r5_3 e4) e5) e6) (Qad r5_5 l8)) e8) e9)
  have r6_5:=(Qaa r6_4 e5)
  have r6_9:=(Qaa (Qaa (Puts.row p7 (Qaa (Qaa r6_4 e5) e6) (Qad r6_5 l8)) e8) e9)
  have n_ry0_ro:g8≠g10:=(Qad r8_7 l10)
  have r5_7:=(Puts.row p7 (Qaa r5_5 e6) (Qad r5_5 l8))
  have n_ry1_ro:g5≠g10:=(Qad r5_7 l10)
  have r6_7:=(Puts.row p7 (Qaa r6_5 e6) (Qad r6_5 l8))
  have n_ry2_ro:g6≠g10:=(Qad r6_7 l10)
  have n_rk_ro:kb≠g10:=(Qat r10_8 lk)
  refine QeM (gf:=82) (lb:=#[.pointer (some ⟨kb,0,none⟩)]) (enc:=encB) kj (enters_of Tryd.func82 kj rfl) (Qfd _ (by omega) kb za ha hab W9 r13_9) (fun h k=>Same.trans' h k) (Qhl (Qa3 r13_9)) (Below.refl _ _)
      (fun pre W=>(W.heap[g10]? = some (.cells (ints .u64 (wl (mulB (resN zb) pre))) 97)∧W.heap[g8]? = some (.cells (ints .u64 (wl (resN zb))) 97)∧W.heap[g5]? = some (.cells (ints .u8 (zc)) 23)∧W.heap[g6]? = some (.cells (ints .u8 (List.replicate 32 0)) 23)∧W.heap[kb]? = some (.cells (ints .u8 (za)) 23))∧Ext w W)
      (fun _ _ _=>False) (OwnFrom.and (Own.from (fun s A B row hs hg hr=>⟨Qb2 hs.1 hg hr,Qb2 hs.2.1 hg hr,Qb2 hs.2.2.1 hg hr,Qb2 hs.2.2.2.1 hg hr,Qb2 hs.2.2.2.2 hg hr⟩) _) (ownFrom_below (qR _) x9.size)) (fun _ _ _ _ _ h _ _=>h) ⟨⟨(QaB r10_9 (show [0,0,0,0]=wl (mulB (resN zb) []) from rfl)),r8_9,r5_9,r6_9,r13_9⟩,x9⟩ (fun x=>[(9,encB x),(14,encB x)]) (fun l x W K hK=>?_) (fun l pre bt W hI hp=>?_) (fun D ys W lD hS hI rD=>?_) (fun _ _ _ _ _ _ h _=>h.elim)
  · refine QaT ?_
    refine Qbq (encB x) 9 rfl (Qa2 l 1 _) rfl kj kj ?_
    refine Qc4 ?_
    exact hK
  · obtain ⟨⟨ro,ry0,ry1,ry2,rk⟩,xx⟩:=hI
    have hO2:=Qaa hO xx
    have hS0:=Qh8 (resN zb) pre bt
    have hL:=Qjc (resN zb) pre
    generalize mulB (resN zb) pre=s at hS0 hL ro
    cases bt
    · have cs:=fun W tO hO=>Qir s s hL hL W tO hO
      have hn0:=isS_mod (s+s)
      obtain ⟨n0,hn⟩:∃ n0,n0=(s+s)%ordL:=⟨_,rfl⟩
      rw [←hn] at cs hn0
      have hS:mulB (resN zb) (pre++[false])=n0:=by
        rw [hS0]
        simp only [mulb,Bool.false_eq_true,if_false,hn]
      have ls:=b10
      refine wpIn_block ?_
      refine wpIn_seq_k fun K107 hK107=>?_
      refine QaT ?_
      refine Qbq (.agg (ints .u64 (wl (s)))) 15 rfl (Qa2 l 1 _) rfl kj (Qag 97 _ g10 97 _ _ ro rfl kj kj (isz (n:=4) kj ((Qae _ _).trans (Qbo _)))) ?_
      refine Qbq (.agg (ints .u64 (wl (s)))) 16 rfl (Qa2 l 1 _) rfl kj (Qag 97 _ g10 97 _ _ ro rfl kj kj (isz (n:=4) kj ((Qae _ _).trans (Qbo _)))) ?_
      refine Qdy (.agg (ints .u64 (wl (n0)))) 63 #[.agg (ints .u64 (wl (s))),.agg (ints .u64 (wl (s)))] 17 rfl (Qa2 l 1 _) rfl kj kj (cs _ tO hO2) fun W1 e1=>?_
      have x1:Ext w W1:=Ext.tr xx e1
      have r102_1:=(Qaa ro e1)
      refine QcQ g10 _ (ints .u64 (wl (n0))) 97 r102_1 rfl (Qa2 l 1 _) rfl kj (Qah 97 _ _ g10 97 _ _ r102_1 rfl kj kj (isz (n:=4) kj ((Qae _ _).trans (Qbo _))) (eqsz (n:=4) ((Qae _ _).trans (Qbo _)) ((Qae _ _).trans (Qbo _))) (ints_one _ _)) fun W2 p2 r102_2=>?_
      have x2:Ext w W2:=Puts.ext p2 x1 ls
      refine Qc4 ?_
      refine hK107 _ _ ?_
      refine wpIn_seq_k fun K108 hK108=>?_
      refine QaT ?_
      refine Qbq (.int .i64 0) 18 rfl (Qa2 l 1 _) rfl kj kj ?_
      refine Qbq (.bool false) 19 rfl (Qa2 l 1 _) rfl kj kj ?_
      refine Qc4 ?_
      refine hK108 _ _ ?_
      refine Qdx kj ?_
      refine wpIn_skip ?_
      have r103_2:=(Puts.row p2 (Qaa ry0 e1) n_ry0_ro)
      have r104_2:=(Puts.row p2 (Qaa ry1 e1) n_ry1_ro)
      have r105_2:=(Puts.row p2 (Qaa ry2 e1) n_ry2_ro)
      have r106_2:=(Puts.row p2 (Qaa rk e1) n_rk_ro)
      exact ⟨((QbQ e1).trans (Qcf p2 r102_1)),r106_2.trans rk.symm,⟨by rw [hS]; exact r102_2,r103_2,r104_2,r105_2,r106_2⟩,x2⟩
    · have cs:=fun W tO hO=>Qir s s hL hL W tO hO
      have hn0:=isS_mod (s+s)
      obtain ⟨n0,hn⟩:∃ n0,n0=(s+s)%ordL:=⟨_,rfl⟩
      rw [←hn] at cs hn0
      have ct:=fun W tO hO=>Qir n0 (resN zb) hn0 (QiL zb) W tO hO
      obtain ⟨m0,hm⟩:∃ m0,m0=(n0+resN zb)%ordL:=⟨_,rfl⟩
      rw [←hm] at ct
      have hS:mulB (resN zb) (pre++[true])=m0:=by
        rw [hS0]
        simp only [mulb,if_true,hm,hn]
      have ls:=b10
      refine wpIn_block ?_
      refine wpIn_seq_k fun K107 hK107=>?_
      refine QaT ?_
      refine Qbq (.agg (ints .u64 (wl (s)))) 15 rfl (Qa2 l 1 _) rfl kj (Qag 97 _ g10 97 _ _ ro rfl kj kj (isz (n:=4) kj ((Qae _ _).trans (Qbo _)))) ?_
      refine Qbq (.agg (ints .u64 (wl (s)))) 16 rfl (Qa2 l 1 _) rfl kj (Qag 97 _ g10 97 _ _ ro rfl kj kj (isz (n:=4) kj ((Qae _ _).trans (Qbo _)))) ?_
      refine Qdy (.agg (ints .u64 (wl (n0)))) 63 #[.agg (ints .u64 (wl (s))),.agg (ints .u64 (wl (s)))] 17 rfl (Qa2 l 1 _) rfl kj kj (cs _ tO hO2) fun W1 e1=>?_
      have x1:Ext w W1:=Ext.tr xx e1
      have r102_1:=(Qaa ro e1)
      refine QcQ g10 _ (ints .u64 (wl (n0))) 97 r102_1 rfl (Qa2 l 1 _) rfl kj (Qah 97 _ _ g10 97 _ _ r102_1 rfl kj kj (isz (n:=4) kj ((Qae _ _).trans (Qbo _))) (eqsz (n:=4) ((Qae _ _).trans (Qbo _)) ((Qae _ _).trans (Qbo _))) (ints_one _ _)) fun W2 p2 r102_2=>?_
      have x2:Ext w W2:=Puts.ext p2 x1 ls
      refine Qc4 ?_
      refine hK107 _ _ ?_
      refine wpIn_seq_k fun K108 hK108=>?_
      refine QaT ?_
      refine Qbq (.int .i64 1) 18 rfl (Qa2 l 1 _) rfl kj kj ?_
      refine Qbq (.bool true) 19 rfl (Qa2 l 1 _) rfl kj kj ?_
      refine Qc4 ?_
      refine hK108 _ _ ?_
      refine QdD kj ?_
      refine QaT ?_
      refine Qbq (.agg (ints .u64 (wl (n0)))) 20 rfl (Qa2 l 1 _) rfl kj (Qag 97 _ g10 97 _ _ r102_2 rfl kj kj (isz (n:=4) kj ((Qae _ _).trans (Qbo _)))) ?_
      have r103_2:=(Puts.row p2 (Qaa ry0 e1) n_ry0_ro)
      refine Qbq (.agg (ints .u64 (wl (resN zb)))) 21 rfl (Qa2 l 1 _) rfl kj (Qag 97 _ g8 97 _ _ r103_2 rfl kj kj (isz (n:=4) kj ((Qae _ _).trans (Qbo _)))) ?_
      have r101_2:=(Puts.row p2 (Qaa hO2 e1) (Nat.ne_of_lt (qL (Qa3 hO) ls)))
      refine Qdy (.agg (ints .u64 (wl (m0)))) 63 #[.agg (ints .u64 (wl (n0))),.agg (ints .u64 (wl (resN zb)))] 22 rfl (Qa2 l 1 _) rfl kj kj (ct _ tO r101_2) fun W3 e3=>?_
      have x3:Ext w W3:=Ext.tr x2 e3
      have r102_3:=(Qaa r102_2 e3)
      refine QcQ g10 _ (ints .u64 (wl (m0))) 97 r102_3 rfl (Qa2 l 1 _) rfl kj (Qah 97 _ _ g10 97 _ _ r102_3 rfl kj kj (isz (n:=4) kj ((Qae _ _).trans (Qbo _))) (eqsz (n:=4) ((Qae _ _).trans (Qbo _)) ((Qae _ _).trans (Qbo _))) (ints_one _ _)) fun W4 p4 r102_4=>?_
      have x4:Ext w W4:=Puts.ext p4 x3 ls
      refine Qc4 ?_
      have r103_4:=(Puts.row p4 (Qaa r103_2 e3) n_ry0_ro)
      have r104_4:=(Puts.row p4 (Qaa (Puts.row p2 (Qaa ry1 e1) n_ry1_ro) e3) n_ry1_ro)
      have r105_4:=(Puts.row p4 (Qaa (Puts.row p2 (Qaa ry2 e1) n_ry2_ro) e3) n_ry2_ro)
      have r106_4:=(Puts.row p4 (Qaa (Puts.row p2 (Qaa rk e1) n_rk_ro) e3) n_rk_ro)
      exact ⟨((((QbQ e1).trans (Qcf p2 r102_1)).trans (QbQ e3)).trans (Qcf p4 r102_3)),r106_4.trans rk.symm,⟨by rw [hS]; exact r102_4,r103_4,r104_4,r105_4,r106_4⟩,x4⟩
  obtain ⟨⟨ro,ry0,ry1,ry2,rk⟩,xx⟩:=hI
  subst hS
  have bD:w.heap.size≤D:=qT x9.size lD
  refine hK11 _ _ ?_
  refine wp_seq_k fun K15 hK15=>?_
  refine QaK 5 [⟨none,[(8,none)]⟩,⟨none,[(5,none)]⟩,⟨none,[(24,some 1)]⟩,⟨none,[(23,some 0),(25,some 2)]⟩,⟨none,[(26,some 3)]⟩] kj kj fun F hF=>?_
  refine Qaq (.agg (ints .u64 (wl (mulB (resN zb) (bitsB za))))) kj kj (fun W hR=>(Qag 97 _ g10 97 _ _ (Qaa (Qaa ro (Qai _)) hR) rfl kj kj (isz (n:=4) kj ((Qae _ _).trans (Qbo _))))) ?_
  refine Qav (.slice (some ⟨g5,0,none⟩) 32 32) kj kj (fun W=>kj) ?_
  refine Qau (.agg (ints .u64 (wl (resN zc)))) 62 #[.slice (some ⟨g5,0,none⟩) 32 32] kj kj (fun W=>kj) (fun W hR=>Qfm _ _ _ zc hc (by omega) hcb W tO (Qaa (Qaa (Qaa hO xx) (Qai _)) hR) (.inr ⟨g5,0,rfl,Qa3 (Qaa (Qaa ry1 (Qai _)) hR),Qfs (Qaa (Qaa ry1 (Qai _)) hR) hc⟩)) ?_
  refine Qau (.agg (ints .u64 (wl ((mulB (resN zb) (bitsB za)+resN zc)%ordL)))) 63 #[.agg (ints .u64 (wl (mulB (resN zb) (bitsB za)))),.agg (ints .u64 (wl (resN zc)))] kj kj (fun W=>kj) (fun W hR=>Qir _ _ (Qjc _ _) (QiL _) W tO (Qaa (Qaa (Qaa hO xx) (Qai _)) hR)) ?_
  refine Qau (.agg (ints .u8 (Qao ((mulB (resN zb) (bitsB za)+resN zc)%ordL)))) 64 #[.agg (ints .u64 (wl ((mulB (resN zb) (bitsB za)+resN zc)%ordL)))] kj kj (fun W=>kj) (fun W hR=>Qik _ W tO (Qaa (Qaa (Qaa hO xx) (Qai _)) hR)) ?_
  refine Qa9 (hF _ kj fun W11 e11=>?_)
  simp only [ups,up,Kn.val,List.take_succ_cons,List.take_zero,List.drop_succ_cons,List.drop_zero,List.nil_append,List.cons_append]
  clear hF
  have x11:Ext w W11:=Ext.tr xx e11
  have r6_11:=(Qaa ry2 e11)
  refine Qak g6 _ (ints .u8 (Qao ((mulB (resN zb) (bitsB za)+resN zc)%ordL))) 23 r6_11 rfl kj (Qah 23 _ _ g6 23 _ _ r6_11 rfl kj kj (isz (n:=32) kj ((Qae _ _).trans (bytes_len _))) (eqsz (n:=32) ((Qae _ _).trans zlen) ((Qae _ _).trans (bytes_len _))) (ints_one _ _)) fun W12 p12 r6_12=>?_
  have x12:Ext w W12:=Puts.ext p12 x11 b6
  refine Qaf ?_
  refine hK15 _ _ ?_
  refine wp_ret ?_
  have r14_12:=(Puts.row p12 (Qaa rD e11) (Qix ry2 rD))
  exact (show bodyPostM _ _ _ _ _ .ret _ _ from Qol (.agg (ints .u8 (Qao ((mulB (resN zb) (bitsB za)+resN zc)%ordL)))) rfl r14_12 (QaC g6 23 _ (QgC r6_12 r14_12 _) kj kj (isz (n:=32) kj ((Qae _ _).trans (bytes_len _)))) ⟨rfl,QgD x12 bD r14_12 _⟩)
end Go.Proofs.YtdoadngmgmdlbaaDoor.Field
end
section
namespace Go.Proofs.YtdoadngmgmdlbaaDoor.Sgn
open Go Go.RowKit
open Rely Auto Own Sha5
open Ladder (clamp)
open Field (Qao resN numA num lims QbW ordL Qb0 QbH QbG QaQ)
theorem bytesOf_len (n : Int):(Qao n).length=32:=Field.bytes_len n
theorem Qmc (xs : List Int) (hxs:xs.length=32) (hbxs:Qal xs) (gh:Nat) (Th:TypeId) (gp n:Nat) (Tp:TypeId) (ps:List (Value×List Int)) (hn:ps.length=n) (hn9:n≤1000) (hone:∀ u∈ps.map Prod.fst,u.oneCell'=true) (tc tq tO:TypeId) (w:World) (hc:w.heap[5]? = some (.cells (ints .u64 Qc6) tc)) (hq:w.heap[4]? = some (.cells (ints .u64 Qbc) tq)) (hO:w.heap[3]? = some (.cells QbW tO)) (hheads:w.heap[gh]? = some (.cells (ints .u8 (xs)) Th)) (hrow:w.heap[gp]? = some (.cells (ps.map Prod.fst).toArray Tp)) (hps:∀ p∈ps,RdK .u8 w.heap.size p.2 p.1 w∧Qal p.2) (hlen:((ps.map Prod.snd).flatten).length≤100000):Calls Tryd.prog 29 #[.slice (some ⟨gp,0,none⟩) n n,.slice (some ⟨gh,0,none⟩) 1 1] w (Ret w (.agg (ints .u8 (Qao (resN (dig (xs++(ps.map Prod.snd).flatten))))))):=by
  refine enter 32 [(0,.slice (some ⟨gp,0,none⟩) n n),(1,.slice (some ⟨gh,0,none⟩) 1 1)] Tryd.func29 rfl rfl kj rfl ?_
  refine wp_seq_k fun K6 hK6=>?_
  refine Qac ?_
  refine Qaj (ints .u8 (List.replicate 32 0)) 23 4 rfl kj kj fun g7 W1 l7 e1 r7_1=>?_
  have x1:Ext w W1:=Ext.tr (Rely.Ext.refl w) e1
  have b7:w.heap.size≤g7:=qT (Rely.Ext.refl w).size l7
  refine Qaf ?_
  refine hK6 _ _ ?_
  refine wp_seq_k fun K8 hK8=>?_
  refine Qac ?_
  refine Qab (.slice none 0 0) 5 rfl kj kj ?_
  refine Qaf ?_
  refine hK8 _ _ ?_
  refine wp_seq_k fun K9 hK9=>?_
  refine wp_seq_k fun K10 hK10=>?_
  refine Qac ?_
  refine Qab (.slice (some ⟨gh,0,none⟩) 1 1) 11 rfl kj kj ?_
  refine Qab (.int .i64 1) 12 rfl kj kj ?_
  refine Qab (.int .i64 0) 13 rfl kj kj ?_
  refine Qaf ?_
  refine hK10 _ _ ?_
  refine wp_block ?_
  refine wp_loop_rounds 2 ?_
  show Code.wp _ _ (Exit.then (Code.rounds _ _ _ 1) _) _ _
  refine wp_seq_k fun K11 hK11=>?_
  refine Qac ?_
  refine Qab (.bool true) 14 rfl kj kj ?_
  refine Qaf ?_
  refine hK11 _ _ ?_
  refine wp_seq_k fun K12 hK12=>?_
  refine cond_true kj ?_
  refine wp_skip ?_
  refine hK12 _ _ ?_
  refine wp_seq_k fun K13 hK13=>?_
  refine wp_block ?_
  refine wp_seq_k fun K14 hK14=>?_
  refine Qac ?_
  refine Qab (.pointer (some ⟨gh,0,none⟩)) 15 rfl kj kj ?_
  have r4_1:=(Qaa hheads e1)
  refine Qab (.agg (ints .u8 (xs))) 16 rfl kj (Qag 23 _ gh Th _ _ r4_1 rfl kj kj (isz (n:=32) kj ((Qae _ _).trans hxs))) ?_
  refine Qaj (ints .u8 (List.replicate 32 0)) 23 7 rfl kj kj fun g15 W2 l15 e2 r15_2=>?_
  have x2:Ext w W2:=Ext.tr x1 e2
  have b15:w.heap.size≤g15:=qT x1.size l15
  refine Qak g15 _ (ints .u8 (xs)) 23 r15_2 rfl kj (Qah 23 _ _ g15 23 _ _ r15_2 rfl kj kj (isz (n:=32) kj ((Qae _ _).trans hxs)) (eqsz (n:=32) ((Qae _ _).trans (qZ (n:=32))) ((Qae _ _).trans hxs)) (ints_one _ _)) fun W3 p3 r15_3=>?_
  have x3:Ext w W3:=Puts.ext p3 x2 b15
  refine Qaf ?_
  refine hK14 _ _ ?_
  refine Qac ?_
  refine Qab (.slice none 0 0) 17 rfl kj kj ?_
  refine Qab (.slice (some ⟨g15,0,none⟩) 32 32) 18 rfl kj kj ?_
  refine QaR (#[.slice (some ⟨g15,0,none⟩) 32 32]) 27 1 19 rfl kj kj fun g16 W4 l16 e4 r16_4=>?_
  have x4:Ext w W4:=Ext.tr x3 e4
  have b16:w.heap.size≤g16:=qT x3.size l16
  have hu0:OwnR 27 w.heap.size [] (.slice none 0 0) W4:=QiV
  have r15_4:=(Qaa r15_3 e4)
  have r1_1:=(Qaa hc e1)
  have r1_2:=(Qaa r1_1 e2)
  have r1_3:=(Puts.row p3 r1_2 (Qad r1_1 l15))
  have r1_4:=(Qaa r1_3 e4)
  refine QcT (T:=27) (c:=1) (m:=1) (gy:=g16) (ys:=[.slice (some ⟨g15,0,none⟩) 32 32]) w.heap.size 24 (.tmp 17) (.tmp 19) 63 rfl kj (.slice none 0 0) kj rfl (by decide) 20 rfl kj kj kj r16_4 rfl (fun i u h=>by rw [←List.getElem?_toArray] at h; exact h) (fun u h=>by rw [List.mem_singleton.1 h]; rfl) hu0 (show 0≤100000 by decide) (by decide) x4.size fun u5 W5 hu5 q5=>?_
  have x5:Ext w W5:=QhJ x4 q5 (fun g hg=>(OwnR.at hu0 hg).1)
  refine Qab (u5) 5 rfl kj kj ?_
  refine Qaf ?_
  refine hK13 _ _ ?_
  refine Qac ?_
  refine Qab (.int .i64 1) 21 rfl kj kj ?_
  refine Qab (.int .i64 1) 13 rfl kj kj ?_
  refine Qaf ?_
  show Code.rounds _ _ _ 1 _ _
  show Code.wp _ _ (Exit.then (Code.rounds _ _ _ 0) _) _ _
  refine wp_seq_k fun K17 hK17=>?_
  refine Qac ?_
  refine Qab (.bool false) 14 rfl kj kj ?_
  refine Qaf ?_
  refine hK17 _ _ ?_
  refine wp_seq_k fun K18 hK18=>?_
  refine cond_false kj ?_
  refine wp_exit ?_
  refine hK9 _ _ ?_
  refine wp_seq_k fun K19 hK19=>?_
  refine Qac ?_
  refine Qab (u5) 22 rfl kj kj ?_
  refine Qab (.slice (some ⟨gp,0,none⟩) n n) 23 rfl kj kj ?_
  have ho5_20:=hu5
  have r15_5:=(Qbx q5 r15_4 (QcJ hu0 r15_4 (by decide)))
  have r1_5:=(Qbx q5 r1_4 (Qcp hu0 (Qa3 hc)))
  have r5_1:=(Qaa hrow e1)
  have r5_2:=(Qaa r5_1 e2)
  have r5_3:=(Puts.row p3 r5_2 (Qad r5_1 l15))
  have r5_4:=(Qaa r5_3 e4)
  have r5_5:=(Qbx q5 r5_4 (Qcp hu0 (Qa3 hrow)))
  refine QcT (T:=27) (c:=n) (m:=n) (gy:=gp) (ys:=(ps.map Prod.fst)) w.heap.size 24 (.tmp 22) (.tmp 23) 63 rfl kj (.slice none 0 0) kj rfl (by decide) 24 rfl kj kj kj r5_5 ((List.length_map _).trans hn) (fun i u h=>by rw [List.getElem?_toArray]; exact h) hone ho5_20 (show 1≤100000 by decide) (by omega) x5.size fun u6 W6 hu6 q6=>?_
  have x6:Ext w W6:=QhJ x5 q6 (fun g hg=>(OwnR.at ho5_20 hg).1)
  have ho6_21:=hu6
  have r15_6:=(Qbx q6 r15_5 (QcJ ho5_20 r15_5 (by decide)))
  have r1_6:=(Qbx q6 r1_5 (Qcp ho5_20 (Qa3 hc)))
  have r2_1:=(Qaa hq e1)
  have r2_2:=(Qaa r2_1 e2)
  have r2_3:=(Puts.row p3 r2_2 (Qad r2_1 l15))
  have r2_4:=(Qaa r2_3 e4)
  have r2_5:=(Qbx q5 r2_4 (Qcp hu0 (Qa3 hq)))
  have r2_6:=(Qbx q6 r2_5 (Qcp ho5_20 (Qa3 hq)))
  have r5_6:=(Qbx q6 r5_5 (Qcp ho5_20 (Qa3 hrow)))
  obtain ⟨gl,cl,cul,elv,hgl,rl9,hcl⟩:=OwnR.row (n:=1+n) ho6_21 (by simp only [List.length_append,List.length_map,List.length_cons,List.length_nil,hn]) (by omega)
  have hps9:∀ p∈(([(.slice (some ⟨g15,0,none⟩) 32 32,xs)]:List (Value×List Int))++ps),RdK .u8 W6.heap.size p.2 p.1 W6∧Qal p.2:=by
    intro p hp
    rcases List.mem_append.1 hp with hp | hp
    · simp only [List.mem_cons,List.not_mem_nil,or_false] at hp
      rcases hp with rfl
      · exact ⟨Qeb 0 hxs r15_6 (fun i hi=>by rw [Nat.zero_add]; exact Qas .u8 xs i (by omega)) (Qa3 r15_6) (by decide) (by decide),hbxs⟩
    · exact ⟨RdK.here ((hps p hp).1.ext x6),(hps p hp).2⟩
  have hfl:(((([(.slice (some ⟨g15,0,none⟩) 32 32,xs)]:List (Value×List Int))++ps).map Prod.snd).flatten)=xs++(ps.map Prod.snd).flatten:=by simp
  have hcs9:∀ i,i<(([(.slice (some ⟨g15,0,none⟩) 32 32,xs)]:List (Value×List Int))++ps).length→cul[i]? = some (pat (([(.slice (some ⟨g15,0,none⟩) 32 32,xs)]:List (Value×List Int))++ps) i).1:=fun i hi=>hcl i _ (by rw [Qhx hi]; rw [show []++[.slice (some ⟨g15,0,none⟩) 32 32]++(ps.map Prod.fst)=(([(.slice (some ⟨g15,0,none⟩) 32 32,xs)]:List (Value×List Int))++ps).map Prod.fst by simp]; rw [List.getElem?_map,List.getElem?_eq_getElem hi]; rfl)
  have hlg:=QoU gl (1+n) cl cul 27 (([(.slice (some ⟨g15,0,none⟩) 32 32,xs)]:List (Value×List Int))++ps) (by simp only [List.length_append,List.length_cons,List.length_nil,hn]) (by omega) tc tq W6 r1_6 r2_6 rl9 hcs9 hps9 (by rw [hfl]; simp only [List.length_append,hxs]; omega)
  rw [hfl] at hlg
  subst elv
  refine Qar (.agg (ints .u8 (dig (xs++(ps.map Prod.snd).flatten)))) 41 #[.slice (some ⟨gl,0,none⟩) (1+n) cl] 25 rfl kj kj hlg fun W7 e7=>?_
  have x7:Ext w W7:=Ext.tr x6 e7
  refine Qaj (ints .u8 (List.replicate 64 0)) 30 8 rfl kj kj fun g22 W8 l22 e8 r22_8=>?_
  have x8:Ext w W8:=Ext.tr x7 e8
  have b22:w.heap.size≤g22:=qT x7.size l22
  refine Qak g22 _ (ints .u8 (dig (xs++(ps.map Prod.snd).flatten))) 30 r22_8 rfl kj (Qah 30 _ _ g22 30 _ _ r22_8 rfl kj kj (isz (n:=64) kj ((Qae _ _).trans (dig_len _))) (eqsz (n:=64) ((Qae _ _).trans (qZ (n:=64))) ((Qae _ _).trans (dig_len _))) (ints_one _ _)) fun W9 p9 r22_9=>?_
  have x9:Ext w W9:=Puts.ext p9 x8 b22
  refine Qaf ?_
  refine hK19 _ _ ?_
  refine wp_seq_k fun K23 hK23=>?_
  refine Qac ?_
  refine Qab (.slice (some ⟨g22,0,none⟩) 64 64) 27 rfl kj kj ?_
  have r3_1:=(Qaa hO e1)
  have r3_2:=(Qaa r3_1 e2)
  have r3_3:=(Puts.row p3 r3_2 (Qad r3_1 l15))
  have r3_4:=(Qaa r3_3 e4)
  have r3_5:=(Qbx q5 r3_4 (Qcp hu0 (Qa3 hO)))
  have r3_6:=(Qbx q6 r3_5 (Qcp ho5_20 (Qa3 hO)))
  have r3_7:=(Qaa r3_6 e7)
  have r3_8:=(Qaa r3_7 e8)
  have r3_9:=(Puts.row p9 r3_8 (Qad r3_7 l22))
  refine Qar (.tuple #[.agg (ints .u8 (Qao (resN (dig (xs++(ps.map Prod.snd).flatten))))),.bool true]) 61 #[.slice (some ⟨g22,0,none⟩) 64 64] 28 rfl kj kj (Field.reduce_ok (some ⟨g22,0,none⟩) 64 64 (dig (xs++(ps.map Prod.snd).flatten)) (dig_len _) (qR _) (dig_bytes _) _ tO r3_9 (.inr ⟨g22,0,rfl,Qa3 r22_9,fun i hi=>QaE r22_9 (by rw [Nat.zero_add]; exact Qas .u8 _ i (by rw [dig_len]; exact hi))⟩)) fun W10 e10=>?_
  have x10:Ext w W10:=Ext.tr x9 e10
  refine Qab (.tuple #[.agg (ints .u8 (Qao (resN (dig (xs++(ps.map Prod.snd).flatten))))),.bool true]) 26 rfl kj kj ?_
  refine Qab (.agg (ints .u8 (Qao (resN (dig (xs++(ps.map Prod.snd).flatten)))))) 29 rfl kj kj ?_
  refine Qab (.bool true) 30 rfl kj kj ?_
  refine Qaj (ints .u8 (List.replicate 32 0)) 23 9 rfl kj kj fun g24 W11 l24 e11 r24_11=>?_
  have x11:Ext w W11:=Ext.tr x10 e11
  have b24:w.heap.size≤g24:=qT x10.size l24
  refine Qak g24 _ (ints .u8 (Qao (resN (dig (xs++(ps.map Prod.snd).flatten))))) 23 r24_11 rfl kj (Qah 23 _ _ g24 23 _ _ r24_11 rfl kj kj (isz (n:=32) kj ((Qae _ _).trans (bytesOf_len _))) (eqsz (n:=32) ((Qae _ _).trans (qZ (n:=32))) ((Qae _ _).trans (bytesOf_len _))) (ints_one _ _)) fun W12 p12 r24_12=>?_
  have x12:Ext w W12:=Puts.ext p12 x11 b24
  refine Qab (.bool true) 10 rfl kj kj ?_
  refine Qaf ?_
  refine hK23 _ _ ?_
  refine wp_seq_k fun K25 hK25=>?_
  refine Qac ?_
  refine Qab (.agg (ints .u8 (Qao (resN (dig (xs++(ps.map Prod.snd).flatten)))))) 31 rfl kj (Qag 23 _ g24 23 _ _ r24_12 rfl kj kj (isz (n:=32) kj ((Qae _ _).trans (bytesOf_len _)))) ?_
  have r7_2:=(Qaa r7_1 e2)
  have r7_3:=(Puts.row p3 r7_2 (Qad r7_1 l15))
  have r7_4:=(Qaa r7_3 e4)
  have r7_5:=(Qbx q5 r7_4 (QcJ hu0 r7_4 (by decide)))
  have r7_6:=(Qbx q6 r7_5 (QcJ ho5_20 r7_5 (by decide)))
  have r7_7:=(Qaa r7_6 e7)
  have r7_8:=(Qaa r7_7 e8)
  have r7_9:=(Puts.row p9 r7_8 (Qad r7_7 l22))
  have r7_10:=(Qaa r7_9 e10)
  have r7_11:=(Qaa r7_10 e11)
  have r7_12:=(Puts.row p12 r7_11 (Qad r7_10 l24))
  refine Qak g7 _ (ints .u8 (Qao (resN (dig (xs++(ps.map Prod.snd).flatten))))) 23 r7_12 rfl kj (Qah 23 _ _ g7 23 _ _ r7_12 rfl kj kj (isz (n:=32) kj ((Qae _ _).trans (bytesOf_len _))) (eqsz (n:=32) ((Qae _ _).trans (qZ (n:=32))) ((Qae _ _).trans (bytesOf_len _))) (ints_one _ _)) fun W13 p13 r7_13=>?_
  have x13:Ext w W13:=Puts.ext p13 x12 b7
  refine Qaf ?_
  refine hK25 _ _ ?_
  refine wp_ret ?_
  repeat (first | with_reducible refine goR1 ?_ | with_reducible refine goR2 ?_)
  exact (show bodyPost _ _ _ .ret _ _ from ret1 (.agg (ints .u8 (Qao (resN (dig (xs++(ps.map Prod.snd).flatten)))))) rfl (QaC g7 23 _ r7_13 kj kj (isz (n:=32) kj ((Qae _ _).trans (bytesOf_len _)))) ⟨rfl,x13⟩)
theorem Qmb (xs ys:List Int) (hxs:xs.length=32) (hbxs:Qal xs) (hys:ys.length=32) (hbys:Qal ys) (gh:Nat) (Th:TypeId) (gp n:Nat) (Tp:TypeId) (ps:List (Value×List Int)) (hn:ps.length=n) (hn9:n≤1000) (hone:∀ u∈ps.map Prod.fst,u.oneCell'=true) (tc tq tO:TypeId) (w:World) (hc:w.heap[5]? = some (.cells (ints .u64 Qc6) tc)) (hq:w.heap[4]? = some (.cells (ints .u64 Qbc) tq)) (hO:w.heap[3]? = some (.cells QbW tO)) (hheads:w.heap[gh]? = some (.cells (cat [ints .u8 (xs),ints .u8 (ys)]) Th)) (hrow:w.heap[gp]? = some (.cells (ps.map Prod.fst).toArray Tp)) (hps:∀ p∈ps,RdK .u8 w.heap.size p.2 p.1 w∧Qal p.2) (hlen:((ps.map Prod.snd).flatten).length≤100000):Calls Tryd.prog 29 #[.slice (some ⟨gp,0,none⟩) n n,.slice (some ⟨gh,0,none⟩) 2 2] w (Ret w (.agg (ints .u8 (Qao (resN (dig (xs++ys++(ps.map Prod.snd).flatten))))))):=by
  refine enter 32 [(0,.slice (some ⟨gp,0,none⟩) n n),(1,.slice (some ⟨gh,0,none⟩) 2 2)] Tryd.func29 rfl rfl kj rfl ?_
  refine wp_seq_k fun K6 hK6=>?_
  refine Qac ?_
  refine Qaj (ints .u8 (List.replicate 32 0)) 23 4 rfl kj kj fun g7 W1 l7 e1 r7_1=>?_
  have x1:Ext w W1:=Ext.tr (Rely.Ext.refl w) e1
  have b7:w.heap.size≤g7:=qT (Rely.Ext.refl w).size l7
  refine Qaf ?_
  refine hK6 _ _ ?_
  refine wp_seq_k fun K8 hK8=>?_
  refine Qac ?_
  refine Qab (.slice none 0 0) 5 rfl kj kj ?_
  refine Qaf ?_
  refine hK8 _ _ ?_
  refine wp_seq_k fun K9 hK9=>?_
  refine wp_seq_k fun K10 hK10=>?_
  refine Qac ?_
  refine Qab (.slice (some ⟨gh,0,none⟩) 2 2) 11 rfl kj kj ?_
  refine Qab (.int .i64 2) 12 rfl kj kj ?_
  refine Qab (.int .i64 0) 13 rfl kj kj ?_
  refine Qaf ?_
  refine hK10 _ _ ?_
  refine wp_block ?_
  refine wp_loop_rounds 3 ?_
  show Code.wp _ _ (Exit.then (Code.rounds _ _ _ 2) _) _ _
  refine wp_seq_k fun K11 hK11=>?_
  refine Qac ?_
  refine Qab (.bool true) 14 rfl kj kj ?_
  refine Qaf ?_
  refine hK11 _ _ ?_
  refine wp_seq_k fun K12 hK12=>?_
  refine cond_true kj ?_
  refine wp_skip ?_
  refine hK12 _ _ ?_
  refine wp_seq_k fun K13 hK13=>?_
  refine wp_block ?_
  refine wp_seq_k fun K14 hK14=>?_
  refine Qac ?_
  refine Qab (.pointer (some ⟨gh,0,none⟩)) 15 rfl kj kj ?_
  have r4_1:=(Qaa hheads e1)
  refine Qab (.agg (ints .u8 (xs))) 16 rfl kj (Qaw 23 _ gh 0 Th _ _ _ r4_1 rfl kj (QaH [] [ints .u8 (xs)] [ints .u8 (ys)] 0 kj) kj (isz (n:=32) kj ((Qae _ _).trans hxs))) ?_
  refine Qaj (ints .u8 (List.replicate 32 0)) 23 7 rfl kj kj fun g15 W2 l15 e2 r15_2=>?_
  have x2:Ext w W2:=Ext.tr x1 e2
  have b15:w.heap.size≤g15:=qT x1.size l15
  refine Qak g15 _ (ints .u8 (xs)) 23 r15_2 rfl kj (Qah 23 _ _ g15 23 _ _ r15_2 rfl kj kj (isz (n:=32) kj ((Qae _ _).trans hxs)) (eqsz (n:=32) ((Qae _ _).trans (qZ (n:=32))) ((Qae _ _).trans hxs)) (ints_one _ _)) fun W3 p3 r15_3=>?_
  have x3:Ext w W3:=Puts.ext p3 x2 b15
  refine Qaf ?_
  refine hK14 _ _ ?_
  refine Qac ?_
  refine Qab (.slice none 0 0) 17 rfl kj kj ?_
  refine Qab (.slice (some ⟨g15,0,none⟩) 32 32) 18 rfl kj kj ?_
  refine QaR (#[.slice (some ⟨g15,0,none⟩) 32 32]) 27 1 19 rfl kj kj fun g16 W4 l16 e4 r16_4=>?_
  have x4:Ext w W4:=Ext.tr x3 e4
  have b16:w.heap.size≤g16:=qT x3.size l16
  have hu0:OwnR 27 w.heap.size [] (.slice none 0 0) W4:=QiV
  have r15_4:=(Qaa r15_3 e4)
  have r1_1:=(Qaa hc e1)
  have r1_2:=(Qaa r1_1 e2)
  have r1_3:=(Puts.row p3 r1_2 (Qad r1_1 l15))
  have r1_4:=(Qaa r1_3 e4)
  refine QcT (T:=27) (c:=1) (m:=1) (gy:=g16) (ys:=[.slice (some ⟨g15,0,none⟩) 32 32]) w.heap.size 24 (.tmp 17) (.tmp 19) 63 rfl kj (.slice none 0 0) kj rfl (by decide) 20 rfl kj kj kj r16_4 rfl (fun i u h=>by rw [←List.getElem?_toArray] at h; exact h) (fun u h=>by rw [List.mem_singleton.1 h]; rfl) hu0 (show 0≤100000 by decide) (by decide) x4.size fun u5 W5 hu5 q5=>?_
  have x5:Ext w W5:=QhJ x4 q5 (fun g hg=>(OwnR.at hu0 hg).1)
  refine Qab (u5) 5 rfl kj kj ?_
  refine Qaf ?_
  refine hK13 _ _ ?_
  refine Qac ?_
  refine Qab (.int .i64 1) 21 rfl kj kj ?_
  refine Qab (.int .i64 1) 13 rfl kj kj ?_
  refine Qaf ?_
  show Code.rounds _ _ _ 2 _ _
  show Code.wp _ _ (Exit.then (Code.rounds _ _ _ 1) _) _ _
  refine wp_seq_k fun K17 hK17=>?_
  refine Qac ?_
  refine Qab (.bool true) 14 rfl kj kj ?_
  refine Qaf ?_
  refine hK17 _ _ ?_
  refine wp_seq_k fun K18 hK18=>?_
  refine cond_true kj ?_
  refine wp_skip ?_
  refine hK18 _ _ ?_
  refine wp_seq_k fun K19 hK19=>?_
  refine wp_block ?_
  refine wp_seq_k fun K20 hK20=>?_
  refine Qac ?_
  refine Qab (.pointer (some ⟨gh,32,none⟩)) 15 rfl kj kj ?_
  have r4_2:=(Qaa r4_1 e2)
  have r4_3:=(Puts.row p3 r4_2 (Qad r4_1 l15))
  have r4_4:=(Qaa r4_3 e4)
  have r4_5:=(Qbx q5 r4_4 (Qcp hu0 (Qa3 hheads)))
  refine Qab (.agg (ints .u8 (ys))) 16 rfl kj (Qaw 23 _ gh 32 Th _ _ _ r4_5 rfl kj (QaH [ints .u8 (xs)] [ints .u8 (ys)] [] 32 ((Qae _ _).trans hxs)) kj (isz (n:=32) kj ((Qae _ _).trans hys))) ?_
  refine Qaj (ints .u8 (List.replicate 32 0)) 23 7 rfl kj kj fun g21 W6 l21 e6 r21_6=>?_
  have x6:Ext w W6:=Ext.tr x5 e6
  have b21:w.heap.size≤g21:=qT x5.size l21
  refine Qak g21 _ (ints .u8 (ys)) 23 r21_6 rfl kj (Qah 23 _ _ g21 23 _ _ r21_6 rfl kj kj (isz (n:=32) kj ((Qae _ _).trans hys)) (eqsz (n:=32) ((Qae _ _).trans (qZ (n:=32))) ((Qae _ _).trans hys)) (ints_one _ _)) fun W7 p7 r21_7=>?_
  have x7:Ext w W7:=Puts.ext p7 x6 b21
  refine Qaf ?_
  refine hK20 _ _ ?_
  refine Qac ?_
  refine Qab (u5) 17 rfl kj kj ?_
  refine Qab (.slice (some ⟨g21,0,none⟩) 32 32) 18 rfl kj kj ?_
  refine QaR (#[.slice (some ⟨g21,0,none⟩) 32 32]) 27 1 19 rfl kj kj fun g22 W8 l22 e8 r22_8=>?_
  have x8:Ext w W8:=Ext.tr x7 e8
  have b22:w.heap.size≤g22:=qT x7.size l22
  have ho8_23:=((OwnR.puts (hu5.ext e6) p7 r21_6 (by decide)).ext e8)
  have r15_5:=(Qbx q5 r15_4 (QcJ hu0 r15_4 (by decide)))
  have r15_6:=(Qaa r15_5 e6)
  have r15_7:=(Puts.row p7 r15_6 (Qad r15_5 l21))
  have r15_8:=(Qaa r15_7 e8)
  have r21_8:=(Qaa r21_7 e8)
  have r1_5:=(Qbx q5 r1_4 (Qcp hu0 (Qa3 hc)))
  have r1_6:=(Qaa r1_5 e6)
  have r1_7:=(Puts.row p7 r1_6 (Qad r1_5 l21))
  have r1_8:=(Qaa r1_7 e8)
  refine QcT (T:=27) (c:=1) (m:=1) (gy:=g22) (ys:=[.slice (some ⟨g21,0,none⟩) 32 32]) w.heap.size 24 (.tmp 17) (.tmp 19) 63 rfl kj (.slice none 0 0) kj rfl (by decide) 20 rfl kj kj kj r22_8 rfl (fun i u h=>by rw [←List.getElem?_toArray] at h; exact h) (fun u h=>by rw [List.mem_singleton.1 h]; rfl) ho8_23 (show 1≤100000 by decide) (by decide) x8.size fun u9 W9 hu9 q9=>?_
  have x9:Ext w W9:=QhJ x8 q9 (fun g hg=>(OwnR.at ho8_23 hg).1)
  refine Qab (u9) 5 rfl kj kj ?_
  refine Qaf ?_
  refine hK19 _ _ ?_
  refine Qac ?_
  refine Qab (.int .i64 2) 21 rfl kj kj ?_
  refine Qab (.int .i64 2) 13 rfl kj kj ?_
  refine Qaf ?_
  show Code.rounds _ _ _ 1 _ _
  show Code.wp _ _ (Exit.then (Code.rounds _ _ _ 0) _) _ _
  refine wp_seq_k fun K24 hK24=>?_
  refine Qac ?_
  refine Qab (.bool false) 14 rfl kj kj ?_
  refine Qaf ?_
  refine hK24 _ _ ?_
  refine wp_seq_k fun K25 hK25=>?_
  refine cond_false kj ?_
  refine wp_exit ?_
  refine hK9 _ _ ?_
  refine wp_seq_k fun K26 hK26=>?_
  refine Qac ?_
  refine Qab (u9) 22 rfl kj kj ?_
  refine Qab (.slice (some ⟨gp,0,none⟩) n n) 23 rfl kj kj ?_
  have ho9_27:=hu9
  have r15_9:=(Qbx q9 r15_8 (QcJ ho8_23 r15_8 (by decide)))
  have r21_9:=(Qbx q9 r21_8 (QcJ ho8_23 r21_8 (by decide)))
  have r1_9:=(Qbx q9 r1_8 (Qcp ho8_23 (Qa3 hc)))
  have r5_1:=(Qaa hrow e1)
  have r5_2:=(Qaa r5_1 e2)
  have r5_3:=(Puts.row p3 r5_2 (Qad r5_1 l15))
  have r5_4:=(Qaa r5_3 e4)
  have r5_5:=(Qbx q5 r5_4 (Qcp hu0 (Qa3 hrow)))
  have r5_6:=(Qaa r5_5 e6)
  have r5_7:=(Puts.row p7 r5_6 (Qad r5_5 l21))
  have r5_8:=(Qaa r5_7 e8)
  have r5_9:=(Qbx q9 r5_8 (Qcp ho8_23 (Qa3 hrow)))
  refine QcT (T:=27) (c:=n) (m:=n) (gy:=gp) (ys:=(ps.map Prod.fst)) w.heap.size 24 (.tmp 22) (.tmp 23) 63 rfl kj (.slice none 0 0) kj rfl (by decide) 24 rfl kj kj kj r5_9 ((List.length_map _).trans hn) (fun i u h=>by rw [List.getElem?_toArray]; exact h) hone ho9_27 (show 2≤100000 by decide) (by omega) x9.size fun u10 W10 hu10 q10=>?_
  have x10:Ext w W10:=QhJ x9 q10 (fun g hg=>(OwnR.at ho9_27 hg).1)
  have ho10_28:=hu10
  have r15_10:=(Qbx q10 r15_9 (QcJ ho9_27 r15_9 (by decide)))
  have r21_10:=(Qbx q10 r21_9 (QcJ ho9_27 r21_9 (by decide)))
  have r1_10:=(Qbx q10 r1_9 (Qcp ho9_27 (Qa3 hc)))
  have r2_1:=(Qaa hq e1)
  have r2_2:=(Qaa r2_1 e2)
  have r2_3:=(Puts.row p3 r2_2 (Qad r2_1 l15))
  have r2_4:=(Qaa r2_3 e4)
  have r2_5:=(Qbx q5 r2_4 (Qcp hu0 (Qa3 hq)))
  have r2_6:=(Qaa r2_5 e6)
  have r2_7:=(Puts.row p7 r2_6 (Qad r2_5 l21))
  have r2_8:=(Qaa r2_7 e8)
  have r2_9:=(Qbx q9 r2_8 (Qcp ho8_23 (Qa3 hq)))
  have r2_10:=(Qbx q10 r2_9 (Qcp ho9_27 (Qa3 hq)))
  have r5_10:=(Qbx q10 r5_9 (Qcp ho9_27 (Qa3 hrow)))
  obtain ⟨gl,cl,cul,elv,hgl,rl9,hcl⟩:=OwnR.row (n:=2+n) ho10_28 (by simp only [List.length_append,List.length_map,List.length_cons,List.length_nil,hn]) (by omega)
  have hps9:∀ p∈(([(.slice (some ⟨g15,0,none⟩) 32 32,xs),(.slice (some ⟨g21,0,none⟩) 32 32,ys)]:List (Value×List Int))++ps),RdK .u8 W10.heap.size p.2 p.1 W10∧Qal p.2:=by
    intro p hp
    rcases List.mem_append.1 hp with hp | hp
    · simp only [List.mem_cons,List.not_mem_nil,or_false] at hp
      rcases hp with rfl | rfl
      · exact ⟨Qeb 0 hxs r15_10 (fun i hi=>by rw [Nat.zero_add]; exact Qas .u8 xs i (by omega)) (Qa3 r15_10) (by decide) (by decide),hbxs⟩
      · exact ⟨Qeb 0 hys r21_10 (fun i hi=>by rw [Nat.zero_add]; exact Qas .u8 ys i (by omega)) (Qa3 r21_10) (by decide) (by decide),hbys⟩
    · exact ⟨RdK.here ((hps p hp).1.ext x10),(hps p hp).2⟩
  have hfl:(((([(.slice (some ⟨g15,0,none⟩) 32 32,xs),(.slice (some ⟨g21,0,none⟩) 32 32,ys)]:List (Value×List Int))++ps).map Prod.snd).flatten)=xs++ys++(ps.map Prod.snd).flatten:=by simp
  have hcs9:∀ i,i<(([(.slice (some ⟨g15,0,none⟩) 32 32,xs),(.slice (some ⟨g21,0,none⟩) 32 32,ys)]:List (Value×List Int))++ps).length→cul[i]? = some (pat (([(.slice (some ⟨g15,0,none⟩) 32 32,xs),(.slice (some ⟨g21,0,none⟩) 32 32,ys)]:List (Value×List Int))++ps) i).1:=fun i hi=>hcl i _ (by rw [Qhx hi]; rw [show []++[.slice (some ⟨g15,0,none⟩) 32 32]++[.slice (some ⟨g21,0,none⟩) 32 32]++(ps.map Prod.fst)=(([(.slice (some ⟨g15,0,none⟩) 32 32,xs),(.slice (some ⟨g21,0,none⟩) 32 32,ys)]:List (Value×List Int))++ps).map Prod.fst by simp]; rw [List.getElem?_map,List.getElem?_eq_getElem hi]; rfl)
  have hlg:=QoU gl (2+n) cl cul 27 (([(.slice (some ⟨g15,0,none⟩) 32 32,xs),(.slice (some ⟨g21,0,none⟩) 32 32,ys)]:List (Value×List Int))++ps) (by simp only [List.length_append,List.length_cons,List.length_nil,hn]) (by omega) tc tq W10 r1_10 r2_10 rl9 hcs9 hps9 (by rw [hfl]; simp only [List.length_append,hxs,hys]; omega)
  rw [hfl] at hlg
  subst elv
  refine Qar (.agg (ints .u8 (dig (xs++ys++(ps.map Prod.snd).flatten)))) 41 #[.slice (some ⟨gl,0,none⟩) (2+n) cl] 25 rfl kj kj hlg fun W11 e11=>?_
  have x11:Ext w W11:=Ext.tr x10 e11
  refine Qaj (ints .u8 (List.replicate 64 0)) 30 8 rfl kj kj fun g29 W12 l29 e12 r29_12=>?_
  have x12:Ext w W12:=Ext.tr x11 e12
  have b29:w.heap.size≤g29:=qT x11.size l29
  refine Qak g29 _ (ints .u8 (dig (xs++ys++(ps.map Prod.snd).flatten))) 30 r29_12 rfl kj (Qah 30 _ _ g29 30 _ _ r29_12 rfl kj kj (isz (n:=64) kj ((Qae _ _).trans (dig_len _))) (eqsz (n:=64) ((Qae _ _).trans (qZ (n:=64))) ((Qae _ _).trans (dig_len _))) (ints_one _ _)) fun W13 p13 r29_13=>?_
  have x13:Ext w W13:=Puts.ext p13 x12 b29
  refine Qaf ?_
  refine hK26 _ _ ?_
  refine wp_seq_k fun K30 hK30=>?_
  refine Qac ?_
  refine Qab (.slice (some ⟨g29,0,none⟩) 64 64) 27 rfl kj kj ?_
  have r3_1:=(Qaa hO e1)
  have r3_2:=(Qaa r3_1 e2)
  have r3_3:=(Puts.row p3 r3_2 (Qad r3_1 l15))
  have r3_4:=(Qaa r3_3 e4)
  have r3_5:=(Qbx q5 r3_4 (Qcp hu0 (Qa3 hO)))
  have r3_6:=(Qaa r3_5 e6)
  have r3_7:=(Puts.row p7 r3_6 (Qad r3_5 l21))
  have r3_8:=(Qaa r3_7 e8)
  have r3_9:=(Qbx q9 r3_8 (Qcp ho8_23 (Qa3 hO)))
  have r3_10:=(Qbx q10 r3_9 (Qcp ho9_27 (Qa3 hO)))
  have r3_11:=(Qaa r3_10 e11)
  have r3_12:=(Qaa r3_11 e12)
  have r3_13:=(Puts.row p13 r3_12 (Qad r3_11 l29))
  refine Qar (.tuple #[.agg (ints .u8 (Qao (resN (dig (xs++ys++(ps.map Prod.snd).flatten))))),.bool true]) 61 #[.slice (some ⟨g29,0,none⟩) 64 64] 28 rfl kj kj (Field.reduce_ok (some ⟨g29,0,none⟩) 64 64 (dig (xs++ys++(ps.map Prod.snd).flatten)) (dig_len _) (qR _) (dig_bytes _) _ tO r3_13 (.inr ⟨g29,0,rfl,Qa3 r29_13,fun i hi=>QaE r29_13 (by rw [Nat.zero_add]; exact Qas .u8 _ i (by rw [dig_len]; exact hi))⟩)) fun W14 e14=>?_
  have x14:Ext w W14:=Ext.tr x13 e14
  refine Qab (.tuple #[.agg (ints .u8 (Qao (resN (dig (xs++ys++(ps.map Prod.snd).flatten))))),.bool true]) 26 rfl kj kj ?_
  refine Qab (.agg (ints .u8 (Qao (resN (dig (xs++ys++(ps.map Prod.snd).flatten)))))) 29 rfl kj kj ?_
  refine Qab (.bool true) 30 rfl kj kj ?_
  refine Qaj (ints .u8 (List.replicate 32 0)) 23 9 rfl kj kj fun g31 W15 l31 e15 r31_15=>?_
  have x15:Ext w W15:=Ext.tr x14 e15
  have b31:w.heap.size≤g31:=qT x14.size l31
  refine Qak g31 _ (ints .u8 (Qao (resN (dig (xs++ys++(ps.map Prod.snd).flatten))))) 23 r31_15 rfl kj (Qah 23 _ _ g31 23 _ _ r31_15 rfl kj kj (isz (n:=32) kj ((Qae _ _).trans (bytesOf_len _))) (eqsz (n:=32) ((Qae _ _).trans (qZ (n:=32))) ((Qae _ _).trans (bytesOf_len _))) (ints_one _ _)) fun W16 p16 r31_16=>?_
  have x16:Ext w W16:=Puts.ext p16 x15 b31
  refine Qab (.bool true) 10 rfl kj kj ?_
  refine Qaf ?_
  refine hK30 _ _ ?_
  refine wp_seq_k fun K32 hK32=>?_
  refine Qac ?_
  refine Qab (.agg (ints .u8 (Qao (resN (dig (xs++ys++(ps.map Prod.snd).flatten)))))) 31 rfl kj (Qag 23 _ g31 23 _ _ r31_16 rfl kj kj (isz (n:=32) kj ((Qae _ _).trans (bytesOf_len _)))) ?_
  have r7_2:=(Qaa r7_1 e2)
  have r7_3:=(Puts.row p3 r7_2 (Qad r7_1 l15))
  have r7_4:=(Qaa r7_3 e4)
  have r7_5:=(Qbx q5 r7_4 (QcJ hu0 r7_4 (by decide)))
  have r7_6:=(Qaa r7_5 e6)
  have r7_7:=(Puts.row p7 r7_6 (Qad r7_5 l21))
  have r7_8:=(Qaa r7_7 e8)
  have r7_9:=(Qbx q9 r7_8 (QcJ ho8_23 r7_8 (by decide)))
  have r7_10:=(Qbx q10 r7_9 (QcJ ho9_27 r7_9 (by decide)))
  have r7_11:=(Qaa r7_10 e11)
  have r7_12:=(Qaa r7_11 e12)
  have r7_13:=(Puts.row p13 r7_12 (Qad r7_11 l29))
  have r7_14:=(Qaa r7_13 e14)
  have r7_15:=(Qaa r7_14 e15)
  have r7_16:=(Puts.row p16 r7_15 (Qad r7_14 l31))
  refine Qak g7 _ (ints .u8 (Qao (resN (dig (xs++ys++(ps.map Prod.snd).flatten))))) 23 r7_16 rfl kj (Qah 23 _ _ g7 23 _ _ r7_16 rfl kj kj (isz (n:=32) kj ((Qae _ _).trans (bytesOf_len _))) (eqsz (n:=32) ((Qae _ _).trans (qZ (n:=32))) ((Qae _ _).trans (bytesOf_len _))) (ints_one _ _)) fun W17 p17 r7_17=>?_
  have x17:Ext w W17:=Puts.ext p17 x16 b7
  refine Qaf ?_
  refine hK32 _ _ ?_
  refine wp_ret ?_
  repeat (first | with_reducible refine goR1 ?_ | with_reducible refine goR2 ?_)
  exact (show bodyPost _ _ _ .ret _ _ from ret1 (.agg (ints .u8 (Qao (resN (dig (xs++ys++(ps.map Prod.snd).flatten)))))) rfl (QaC g7 23 _ r7_17 kj kj (isz (n:=32) kj ((Qae _ _).trans (bytesOf_len _)))) ⟨rfl,x17⟩)
end Go.Proofs.YtdoadngmgmdlbaaDoor.Sgn
end
section
namespace Go.Proofs.YtdoadngmgmdlbaaDoor.Field
open Go Go.RowKit
open Rely Auto
def patF (x y:Int):Int×Int :=
  let s0:=(y-1)%p
  (x,s0)
theorem Qml (x y:Int) (h_x:isN x) (h_y:isN y) (s0:Int)
    (c0:∀ W,Calls Tryd.prog 69 #[.agg (numA (y)),.agg (numA (1))] W (Ret W (.agg (numA (s0))))) (w:World) :
    Calls Tryd.prog 43 #[.agg (numA (x)),.agg (numA (y))] w (Ret w (.agg (cat [numA (x),numA (s0)]))):=by
  refine enter 10 [(0,.agg (numA (x))),(1,.agg (numA (y)))] Tryd.func43 rfl rfl kj rfl ?_
  refine wp_seq_k fun K1 hK1=>?_
  refine Qac ?_
  refine Qaj (numA (x)) 49 2 rfl kj kj fun g2 W1 l2 e1 r2_1=>?_
  have x1:Ext w W1:=Ext.tr (Rely.Ext.refl w) e1
  have b2:w.heap.size≤g2:=qT (Rely.Ext.refl w).size l2
  refine Qaj (numA (y)) 49 3 rfl kj kj fun g3 W2 l3 e2 r3_2=>?_
  have x2:Ext w W2:=Ext.tr x1 e2
  have b3:w.heap.size≤g3:=qT x1.size l3
  refine Qaj (cat [numA (0),numA (0)]) 51 4 rfl kj kj fun g4 W3 l4 e3 r4_3=>?_
  have x3:Ext w W3:=Ext.tr x2 e3
  have b4:w.heap.size≤g4:=qT x2.size l4
  refine Qaf ?_
  refine hK1 _ _ ?_
  refine wp_seq_k fun K5 hK5=>?_
  refine QaK 5 [⟨none,[(2,none)]⟩,⟨none,[(3,none)]⟩,⟨none,[]⟩,⟨none,[(6,some 1),(7,some 2)]⟩,⟨none,[(5,some 0),(8,some 3)]⟩] kj kj fun F hF=>?_
  have r2_3:=(Qaa (Qaa r2_1 e2) e3)
  refine Qaq (.agg (numA (x))) kj kj (fun W hR=>(Qag 49 _ g2 49 _ _ (Qaa (Qaa r2_3 (Qai _)) hR) rfl kj kj (isz (n:=4) kj kj))) ?_
  have r3_3:=(Qaa r3_2 e3)
  refine Qaq (.agg (numA (y))) kj kj (fun W hR=>(Qag 49 _ g3 49 _ _ (Qaa (Qaa r3_3 (Qai _)) hR) rfl kj kj (isz (n:=4) kj kj))) ?_
  refine Qau (.agg (numA (1))) 67 #[.int .i64 1] kj kj (fun W=>kj) (fun W hR=>(Qd6 1 (by decide)) W) ?_
  refine Qau (.agg (numA (s0))) 69 #[.agg (numA (y)),.agg (numA (1))] kj kj (fun W=>kj) (fun W hR=>c0 W) ?_
  refine Qav (.agg (cat [numA (x),numA (s0)])) kj kj (fun W=>kj) ?_
  refine Qa9 (hF _ kj fun W4 e4=>?_)
  simp only [ups,up,Kn.val,List.take_succ_cons,List.take_zero,List.drop_succ_cons,List.drop_zero,List.nil_append,List.cons_append]
  clear hF
  have x4:Ext w W4:=Ext.tr x3 e4
  have r4_4:=(Qaa r4_3 e4)
  refine Qak g4 _ (cat [numA (x),numA (s0)]) 51 r4_4 rfl kj (Qah 51 _ _ g4 51 _ _ r4_4 rfl kj kj (isz (n:=8) kj kj) (eqsz (n:=8) kj kj) kj) fun W5 p5 r4_5=>?_
  have x5:Ext w W5:=Puts.ext p5 x4 b4
  refine Qaf ?_
  refine hK5 _ _ ?_
  refine wp_ret ?_
  exact (show bodyPost _ _ _ .ret _ _ from ret1 (.agg (cat [numA (x),numA (s0)])) rfl (QaC g4 51 _ r4_5 kj kj (isz (n:=8) kj kj)) ⟨rfl,x5⟩)
theorem patC (x y:Int) (h_x:isN x) (h_y:isN y) (w:World):Calls Tryd.prog 43 #[.agg (numA (x)),.agg (numA (y))] w (Ret w (.agg (cat [numA ((patF x y).1),numA ((patF x y).2)]))) :=
  Qml x y h_x h_y _ (sub _ _ h_y (num_isN 1)) w
def QgF (x : Int):Int :=
  let s0:=(0-x)%p
  (s0)
theorem QkD (x : Int) (h_x:isN x) (s0:Int)
    (c0:∀ W,Calls Tryd.prog 69 #[.agg (numA (0)),.agg (numA (x))] W (Ret W (.agg (numA (s0))))) (w:World) :
    Calls Tryd.prog 72 #[.agg (numA (x))] w (Ret w (.agg (numA (s0)))):=by
  refine enter 6 [(0,.agg (numA (x)))] Tryd.func72 rfl rfl kj rfl ?_
  refine wp_seq_k fun K1 hK1=>?_
  refine Qac ?_
  refine Qaj (numA (x)) 49 1 rfl kj kj fun g2 W1 l2 e1 r2_1=>?_
  have x1:Ext w W1:=Ext.tr (Rely.Ext.refl w) e1
  have b2:w.heap.size≤g2:=qT (Rely.Ext.refl w).size l2
  refine Qaj (numA (0)) 49 2 rfl kj kj fun g3 W2 l3 e2 r3_2=>?_
  have x2:Ext w W2:=Ext.tr x1 e2
  have b3:w.heap.size≤g3:=qT x1.size l3
  refine Qaf ?_
  refine hK1 _ _ ?_
  refine wp_seq_k fun K4 hK4=>?_
  refine Qac ?_
  refine Qab (.agg (numA (0))) 3 rfl kj kj ?_
  have r2_2:=(Qaa r2_1 e2)
  refine Qab (.agg (numA (x))) 4 rfl kj (Qag 49 _ g2 49 _ _ r2_2 rfl kj kj (isz (n:=4) kj kj)) ?_
  refine Qar (.agg (numA (s0))) 69 #[.agg (numA (0)),.agg (numA (x))] 5 rfl kj kj (c0 _) fun W3 e3=>?_
  have x3:Ext w W3:=Ext.tr x2 e3
  have r3_3:=(Qaa r3_2 e3)
  refine Qak g3 _ (numA (s0)) 49 r3_3 rfl kj (Qah 49 _ _ g3 49 _ _ r3_3 rfl kj kj (isz (n:=4) kj kj) (eqsz (n:=4) kj kj) kj) fun W4 p4 r3_4=>?_
  have x4:Ext w W4:=Puts.ext p4 x3 b3
  refine Qaf ?_
  refine hK4 _ _ ?_
  refine wp_ret ?_
  exact (show bodyPost _ _ _ .ret _ _ from ret1 (.agg (numA (s0))) rfl (QaC g3 49 _ r3_4 kj kj (isz (n:=4) kj kj)) ⟨rfl,x4⟩)
theorem Qqd (x : Int) (h_x:isN x) (w:World):Calls Tryd.prog 72 #[.agg (numA (x))] w (Ret w (.agg (numA ((QgF x))))) :=
  QkD x h_x _ (sub _ _ (num_isN 0) h_x) w
theorem QiU (x : Int) (h_x:isN x):isN (QgF x):=(Qa0 _)
def pyF (x l:Int):Int :=
  let s0:=(l+1)%p
  (s0)
theorem Qon (x l:Int) (h_x:isN x) (h_l:isN l) (s0:Int)
    (c0:∀ W,Calls Tryd.prog 68 #[.agg (numA (l)),.agg (numA (1))] W (Ret W (.agg (numA (s0))))) (w:World) :
    Calls Tryd.prog 49 #[.agg (cat [numA (x),numA (l)])] w (Ret w (.agg (numA (s0)))):=by
  refine enter 7 [(0,.agg (cat [numA (x),numA (l)]))] Tryd.func49 rfl rfl kj rfl ?_
  refine wp_seq_k fun K1 hK1=>?_
  refine Qac ?_
  refine Qaj (cat [numA (x),numA (l)]) 51 1 rfl kj kj fun g2 W1 l2 e1 r2_1=>?_
  have x1:Ext w W1:=Ext.tr (Rely.Ext.refl w) e1
  have b2:w.heap.size≤g2:=qT (Rely.Ext.refl w).size l2
  refine Qaj (numA (0)) 49 2 rfl kj kj fun g3 W2 l3 e2 r3_2=>?_
  have x2:Ext w W2:=Ext.tr x1 e2
  have b3:w.heap.size≤g3:=qT x1.size l3
  refine Qaf ?_
  refine hK1 _ _ ?_
  refine wp_seq_k fun K4 hK4=>?_
  refine QaK 4 [⟨none,[(1,none)]⟩,⟨none,[(3,some 0)]⟩,⟨none,[]⟩,⟨none,[(4,some 1),(5,some 2)]⟩] kj kj fun F hF=>?_
  refine Qav (.pointer (some ⟨g2,4,none⟩)) kj kj (fun W=>kj) ?_
  have r2_2:=(Qaa r2_1 e2)
  refine Qaq (.agg (numA (l))) kj kj (fun W hR=>(Qaw 49 _ g2 4 51 _ _ _ (Qaa (Qaa r2_2 (Qai _)) hR) rfl kj (QaH [numA (x)] [numA (l)] [] 4 kj) kj (isz (n:=4) kj kj))) ?_
  refine Qau (.agg (numA (1))) 67 #[.int .i64 1] kj kj (fun W=>kj) (fun W hR=>(Qd6 1 (by decide)) W) ?_
  refine Qau (.agg (numA (s0))) 68 #[.agg (numA (l)),.agg (numA (1))] kj kj (fun W=>kj) (fun W hR=>c0 W) ?_
  refine Qa9 (hF _ kj fun W3 e3=>?_)
  simp only [ups,up,Kn.val,List.take_succ_cons,List.take_zero,List.drop_succ_cons,List.drop_zero,List.nil_append,List.cons_append]
  clear hF
  have x3:Ext w W3:=Ext.tr x2 e3
  have r3_3:=(Qaa r3_2 e3)
  refine Qak g3 _ (numA (s0)) 49 r3_3 rfl kj (Qah 49 _ _ g3 49 _ _ r3_3 rfl kj kj (isz (n:=4) kj kj) (eqsz (n:=4) kj kj) kj) fun W4 p4 r3_4=>?_
  have x4:Ext w W4:=Puts.ext p4 x3 b3
  refine Qaf ?_
  refine hK4 _ _ ?_
  refine wp_ret ?_
  exact (show bodyPost _ _ _ .ret _ _ from ret1 (.agg (numA (s0))) rfl (QaC g3 49 _ r3_4 kj kj (isz (n:=4) kj kj)) ⟨rfl,x4⟩)
theorem pyC (x l:Int) (h_x:isN x) (h_l:isN l) (w:World):Calls Tryd.prog 49 #[.agg (cat [numA (x),numA (l)])] w (Ret w (.agg (numA ((pyF x l))))) :=
  Qon x l h_x h_l _ (add _ _ h_l (num_isN 1)) w
theorem Qhr (x l:Int) (h_x:isN x) (h_l:isN l):isN (pyF x l):=(Qa0 _)
def QcF (x l:Int):Int×Int×Int×Int :=
  let s0:=(pyF x l)
  let s1:=x*s0%p
  (x,s0,1,s1)
theorem QjJ (x l:Int) (h_x:isN x) (h_l:isN l) (s0 s1:Int)
    (c0:∀ W,Calls Tryd.prog 49 #[.agg (cat [numA (x),numA (l)])] W (Ret W (.agg (numA (s0)))))
    (c1:∀ W,Calls Tryd.prog 66 #[.agg (numA (x)),.agg (numA (s0))] W (Ret W (.agg (numA (s1))))) (w:World) :
    Calls Tryd.prog 45 #[.agg (cat [numA (x),numA (l)])] w (Ret w (.agg (cat [numA (x),numA (s0),numA (1),numA (s1)]))):=by
  refine enter 14 [(0,.agg (cat [numA (x),numA (l)]))] Tryd.func45 rfl rfl kj rfl ?_
  refine wp_seq_k fun K1 hK1=>?_
  refine Qac ?_
  refine Qaj (cat [numA (x),numA (l)]) 51 1 rfl kj kj fun g2 W1 l2 e1 r2_1=>?_
  have x1:Ext w W1:=Ext.tr (Rely.Ext.refl w) e1
  have b2:w.heap.size≤g2:=qT (Rely.Ext.refl w).size l2
  refine Qaj (cat [numA (0),numA (0),numA (0),numA (0)]) 78 2 rfl kj kj fun g3 W2 l3 e2 r3_2=>?_
  have x2:Ext w W2:=Ext.tr x1 e2
  have b3:w.heap.size≤g3:=qT x1.size l3
  refine Qaf ?_
  refine hK1 _ _ ?_
  refine wp_seq_k fun K4 hK4=>?_
  refine QaK 11 [⟨none,[(1,none)]⟩,⟨none,[(3,some 0)]⟩,⟨none,[(1,none)]⟩,⟨none,[(5,some 2)]⟩,⟨none,[]⟩,⟨none,[(1,none)]⟩,⟨none,[(8,some 5)]⟩,⟨none,[(1,none)]⟩,⟨none,[(10,some 7)]⟩,⟨none,[(9,some 6),(11,some 8)]⟩,⟨none,[(4,some 1),(6,some 3),(7,some 4),(12,some 9)]⟩] kj kj fun F hF=>?_
  refine Qav (.pointer (some ⟨g2,0,none⟩)) kj kj (fun W=>kj) ?_
  have r2_2:=(Qaa r2_1 e2)
  refine Qaq (.agg (numA (x))) kj kj (fun W hR=>(Qaw 49 _ g2 0 51 _ _ _ (Qaa (Qaa r2_2 (Qai _)) hR) rfl kj (QaH [] [numA (x)] [numA (l)] 0 kj) kj (isz (n:=4) kj kj))) ?_
  refine Qaq (.agg (cat [numA (x),numA (l)])) kj kj (fun W hR=>(Qag 51 _ g2 51 _ _ (Qaa (Qaa r2_2 (Qai _)) hR) rfl kj kj (isz (n:=8) kj kj))) ?_
  refine Qau (.agg (numA (s0))) 49 #[.agg (cat [numA (x),numA (l)])] kj kj (fun W=>kj) (fun W hR=>c0 W) ?_
  refine Qau (.agg (numA (1))) 67 #[.int .i64 1] kj kj (fun W=>kj) (fun W hR=>(Qd6 1 (by decide)) W) ?_
  refine Qav (.pointer (some ⟨g2,0,none⟩)) kj kj (fun W=>kj) ?_
  refine Qaq (.agg (numA (x))) kj kj (fun W hR=>(Qaw 49 _ g2 0 51 _ _ _ (Qaa (Qaa r2_2 (Qai _)) hR) rfl kj (QaH [] [numA (x)] [numA (l)] 0 kj) kj (isz (n:=4) kj kj))) ?_
  refine Qaq (.agg (cat [numA (x),numA (l)])) kj kj (fun W hR=>(Qag 51 _ g2 51 _ _ (Qaa (Qaa r2_2 (Qai _)) hR) rfl kj kj (isz (n:=8) kj kj))) ?_
  refine Qau (.agg (numA (s0))) 49 #[.agg (cat [numA (x),numA (l)])] kj kj (fun W=>kj) (fun W hR=>c0 W) ?_
  refine Qau (.agg (numA (s1))) 66 #[.agg (numA (x)),.agg (numA (s0))] kj kj (fun W=>kj) (fun W hR=>c1 W) ?_
  refine Qav (.agg (cat [numA (x),numA (s0),numA (1),numA (s1)])) kj kj (fun W=>kj) ?_
  refine Qa9 (hF _ kj fun W3 e3=>?_)
  simp only [ups,up,Kn.val,List.take_succ_cons,List.take_zero,List.drop_succ_cons,List.drop_zero,List.nil_append,List.cons_append]
  clear hF
  have x3:Ext w W3:=Ext.tr x2 e3
  have r3_3:=(Qaa r3_2 e3)
  refine Qak g3 _ (cat [numA (x),numA (s0),numA (1),numA (s1)]) 78 r3_3 rfl kj (Qah 78 _ _ g3 78 _ _ r3_3 rfl kj kj (isz (n:=16) kj kj) (eqsz (n:=16) kj kj) kj) fun W4 p4 r3_4=>?_
  have x4:Ext w W4:=Puts.ext p4 x3 b3
  refine Qaf ?_
  refine hK4 _ _ ?_
  refine wp_ret ?_
  exact (show bodyPost _ _ _ .ret _ _ from ret1 (.agg (cat [numA (x),numA (s0),numA (1),numA (s1)])) rfl (QaC g3 78 _ r3_4 kj kj (isz (n:=16) kj kj)) ⟨rfl,x4⟩)
theorem QiQ (x l:Int) (h_x:isN x) (h_l:isN l) (w:World):Calls Tryd.prog 45 #[.agg (cat [numA (x),numA (l)])] w (Ret w (.agg (cat [numA ((QcF x l).1),numA ((QcF x l).2.1),numA ((QcF x l).2.2.1),numA ((QcF x l).2.2.2)]))) :=
  QjJ x l h_x h_l _ _ (pyC _ _ h_x h_l) (mul _ _ h_x (Qhr _ _ h_x h_l)) w
theorem QaF (x l:Int) (h_x:isN x) (h_l:isN l):isN (QcF x l).1∧isN (QcF x l).2.1∧isN (QcF x l).2.2.1∧isN (QcF x l).2.2.2:=⟨h_x,(Qhr _ _ h_x h_l),(num_isN 1),(Qa0 _)⟩
def QcI (a b c d e f g h k:Int):Int×Int×Int×Int :=
  let s0:=(b-a)%p
  let s1:=(f-e)%p
  let s2:=s0*s1%p
  let s3:=(b+a)%p
  let s4:=(f+e)%p
  let s5:=s3*s4%p
  let s6:=d*h%p
  let s7:=s6*k%p
  let s8:=(s7+s7)%p
  let s9:=c*g%p
  let s10:=(s9+s9)%p
  let s11:=(s5-s2)%p
  let s12:=(s10-s8)%p
  let s13:=(s10+s8)%p
  let s14:=(s5+s2)%p
  let s15:=s11*s12%p
  let s16:=s13*s14%p
  let s17:=s12*s13%p
  let s18:=s11*s14%p
  (s15,s16,s17,s18)
theorem Qkj (a b c d e f g h k:Int) (h_a:isN a) (h_b:isN b) (h_c:isN c) (h_d:isN d) (h_e:isN e) (h_f:isN f) (h_g:isN g) (h_h:isN h) (h_k:isN k) (s0 s1 s2 s3 s4 s5 s6 s7 s8 s9 s10 s11 s12 s13 s14 s15 s16 s17 s18:Int)
    (c0:∀ W,Calls Tryd.prog 69 #[.agg (numA (b)),.agg (numA (a))] W (Ret W (.agg (numA (s0)))))
    (c1:∀ W,Calls Tryd.prog 69 #[.agg (numA (f)),.agg (numA (e))] W (Ret W (.agg (numA (s1)))))
    (c2:∀ W,Calls Tryd.prog 66 #[.agg (numA (s0)),.agg (numA (s1))] W (Ret W (.agg (numA (s2)))))
    (c3:∀ W,Calls Tryd.prog 68 #[.agg (numA (b)),.agg (numA (a))] W (Ret W (.agg (numA (s3)))))
    (c4:∀ W,Calls Tryd.prog 68 #[.agg (numA (f)),.agg (numA (e))] W (Ret W (.agg (numA (s4)))))
    (c5:∀ W,Calls Tryd.prog 66 #[.agg (numA (s3)),.agg (numA (s4))] W (Ret W (.agg (numA (s5)))))
    (c6:∀ W,Calls Tryd.prog 66 #[.agg (numA (d)),.agg (numA (h))] W (Ret W (.agg (numA (s6)))))
    (c7:∀ W,Calls Tryd.prog 66 #[.agg (numA (s6)),.agg (numA (k))] W (Ret W (.agg (numA (s7)))))
    (c8:∀ W,Calls Tryd.prog 68 #[.agg (numA (s7)),.agg (numA (s7))] W (Ret W (.agg (numA (s8)))))
    (c9:∀ W,Calls Tryd.prog 66 #[.agg (numA (c)),.agg (numA (g))] W (Ret W (.agg (numA (s9)))))
    (c10:∀ W,Calls Tryd.prog 68 #[.agg (numA (s9)),.agg (numA (s9))] W (Ret W (.agg (numA (s10)))))
    (c11:∀ W,Calls Tryd.prog 69 #[.agg (numA (s5)),.agg (numA (s2))] W (Ret W (.agg (numA (s11)))))
    (c12:∀ W,Calls Tryd.prog 69 #[.agg (numA (s10)),.agg (numA (s8))] W (Ret W (.agg (numA (s12)))))
    (c13:∀ W,Calls Tryd.prog 68 #[.agg (numA (s10)),.agg (numA (s8))] W (Ret W (.agg (numA (s13)))))
    (c14:∀ W,Calls Tryd.prog 68 #[.agg (numA (s5)),.agg (numA (s2))] W (Ret W (.agg (numA (s14)))))
    (c15:∀ W,Calls Tryd.prog 66 #[.agg (numA (s11)),.agg (numA (s12))] W (Ret W (.agg (numA (s15)))))
    (c16:∀ W,Calls Tryd.prog 66 #[.agg (numA (s13)),.agg (numA (s14))] W (Ret W (.agg (numA (s16)))))
    (c17:∀ W,Calls Tryd.prog 66 #[.agg (numA (s12)),.agg (numA (s13))] W (Ret W (.agg (numA (s17)))))
    (c18:∀ W,Calls Tryd.prog 66 #[.agg (numA (s11)),.agg (numA (s14))] W (Ret W (.agg (numA (s18))))) (w:World) :
    Calls Tryd.prog 47 #[.agg (cat [numA (a),numA (b),numA (c),numA (d)]),.agg (cat [numA (e),numA (f),numA (g),numA (h)]),.agg (numA (k))] w (Ret w (.agg (cat [numA (s15),numA (s16),numA (s17),numA (s18)]))):=by
  refine enter 80 [(0,.agg (cat [numA (a),numA (b),numA (c),numA (d)])),(1,.agg (cat [numA (e),numA (f),numA (g),numA (h)])),(2,.agg (numA (k)))] Tryd.func47 rfl rfl kj rfl ?_
  refine wp_seq_k fun K1 hK1=>?_
  refine Qac ?_
  refine Qaj (cat [numA (a),numA (b),numA (c),numA (d)]) 78 3 rfl kj kj fun g2 W1 l2 e1 r2_1=>?_
  have x1:Ext w W1:=Ext.tr (Rely.Ext.refl w) e1
  have b2:w.heap.size≤g2:=qT (Rely.Ext.refl w).size l2
  refine Qaj (cat [numA (e),numA (f),numA (g),numA (h)]) 78 4 rfl kj kj fun g3 W2 l3 e2 r3_2=>?_
  have x2:Ext w W2:=Ext.tr x1 e2
  have b3:w.heap.size≤g3:=qT x1.size l3
  refine Qaj (numA (k)) 49 5 rfl kj kj fun g4 W3 l4 e3 r4_3=>?_
  have x3:Ext w W3:=Ext.tr x2 e3
  have b4:w.heap.size≤g4:=qT x2.size l4
  refine Qaj (cat [numA (0),numA (0),numA (0),numA (0)]) 78 6 rfl kj kj fun g5 W4 l5 e4 r5_4=>?_
  have x4:Ext w W4:=Ext.tr x3 e4
  have b5:w.heap.size≤g5:=qT x3.size l5
  refine Qaf ?_
  refine hK1 _ _ ?_
  refine wp_seq_k fun K6 hK6=>?_
  refine Qbd 12 [⟨none,[(3,none)]⟩,⟨none,[(15,some 0)]⟩,⟨none,[(3,none)]⟩,⟨none,[(17,some 2)]⟩,⟨none,[(16,some 1),(18,some 3)]⟩,⟨none,[(4,none)]⟩,⟨none,[(20,some 5)]⟩,⟨none,[(4,none)]⟩,⟨none,[(22,some 7)]⟩,⟨none,[(21,some 6),(23,some 8)]⟩,⟨none,[(19,some 4),(24,some 9)]⟩,⟨none,[]⟩] [11] kj kj kj fun F hF=>?_
  refine Qav (.pointer (some ⟨g2,4,none⟩)) kj kj (fun W=>kj) ?_
  have r2_4:=(Qaa (Qaa (Qaa r2_1 e2) e3) e4)
  refine Qaq (.agg (numA (b))) kj kj (fun W hR=>(Qaw 49 _ g2 4 78 _ _ _ (Qaa (Qaa r2_4 (Qai _)) hR) rfl kj (QaH [numA (a)] [numA (b)] [numA (c),numA (d)] 4 kj) kj (isz (n:=4) kj kj))) ?_
  refine Qav (.pointer (some ⟨g2,0,none⟩)) kj kj (fun W=>kj) ?_
  refine Qaq (.agg (numA (a))) kj kj (fun W hR=>(Qaw 49 _ g2 0 78 _ _ _ (Qaa (Qaa r2_4 (Qai _)) hR) rfl kj (QaH [] [numA (a)] [numA (b),numA (c),numA (d)] 0 kj) kj (isz (n:=4) kj kj))) ?_
  refine Qau (.agg (numA (s0))) 69 #[.agg (numA (b)),.agg (numA (a))] kj kj (fun W=>kj) (fun W hR=>c0 W) ?_
  refine Qav (.pointer (some ⟨g3,4,none⟩)) kj kj (fun W=>kj) ?_
  have r3_4:=(Qaa (Qaa r3_2 e3) e4)
  refine Qaq (.agg (numA (f))) kj kj (fun W hR=>(Qaw 49 _ g3 4 78 _ _ _ (Qaa (Qaa r3_4 (Qai _)) hR) rfl kj (QaH [numA (e)] [numA (f)] [numA (g),numA (h)] 4 kj) kj (isz (n:=4) kj kj))) ?_
  refine Qav (.pointer (some ⟨g3,0,none⟩)) kj kj (fun W=>kj) ?_
  refine Qaq (.agg (numA (e))) kj kj (fun W hR=>(Qaw 49 _ g3 0 78 _ _ _ (Qaa (Qaa r3_4 (Qai _)) hR) rfl kj (QaH [] [numA (e)] [numA (f),numA (g),numA (h)] 0 kj) kj (isz (n:=4) kj kj))) ?_
  refine Qau (.agg (numA (s1))) 69 #[.agg (numA (f)),.agg (numA (e))] kj kj (fun W=>kj) (fun W hR=>c1 W) ?_
  refine Qau (.agg (numA (s2))) 66 #[.agg (numA (s0)),.agg (numA (s1))] kj kj (fun W=>kj) (fun W hR=>c2 W) ?_
  refine QbN (numA (0)) 49 kj (qR _) kj (fun W=>kj) ?_
  refine Qa9 (hF _ kj fun W5 e5=>?_)
  simp only [fins,up,List.take_succ_cons,List.take_zero,List.drop_succ_cons,List.drop_zero,List.nil_append,List.cons_append]
  intro g7 l7 r7_5 n7
  have b7:w.heap.size≤g7:=qT x4.size l7
  clear hF
  have x5:Ext w W5:=Ext.tr x4 e5
  refine Qak g7 _ (numA (s2)) 49 r7_5 rfl kj (Qah 49 _ _ g7 49 _ _ r7_5 rfl kj kj (isz (n:=4) kj kj) (eqsz (n:=4) kj kj) kj) fun W6 p6 r7_6=>?_
  have x6:Ext w W6:=Puts.ext p6 x5 b7
  refine Qaf ?_
  refine hK6 _ _ ?_
  refine wp_seq_k fun K8 hK8=>?_
  refine Qbd 12 [⟨none,[(3,none)]⟩,⟨none,[(26,some 0)]⟩,⟨none,[(3,none)]⟩,⟨none,[(28,some 2)]⟩,⟨none,[(27,some 1),(29,some 3)]⟩,⟨none,[(4,none)]⟩,⟨none,[(31,some 5)]⟩,⟨none,[(4,none)]⟩,⟨none,[(33,some 7)]⟩,⟨none,[(32,some 6),(34,some 8)]⟩,⟨none,[(30,some 4),(35,some 9)]⟩,⟨none,[]⟩] [11] kj kj kj fun F hF=>?_
  refine Qav (.pointer (some ⟨g2,4,none⟩)) kj kj (fun W=>kj) ?_
  have r2_6:=(Puts.row p6 (Qaa r2_4 e5) (Qad r2_4 l7))
  refine Qaq (.agg (numA (b))) kj kj (fun W hR=>(Qaw 49 _ g2 4 78 _ _ _ (Qaa (Qaa r2_6 (Qai _)) hR) rfl kj (QaH [numA (a)] [numA (b)] [numA (c),numA (d)] 4 kj) kj (isz (n:=4) kj kj))) ?_
  refine Qav (.pointer (some ⟨g2,0,none⟩)) kj kj (fun W=>kj) ?_
  refine Qaq (.agg (numA (a))) kj kj (fun W hR=>(Qaw 49 _ g2 0 78 _ _ _ (Qaa (Qaa r2_6 (Qai _)) hR) rfl kj (QaH [] [numA (a)] [numA (b),numA (c),numA (d)] 0 kj) kj (isz (n:=4) kj kj))) ?_
  refine Qau (.agg (numA (s3))) 68 #[.agg (numA (b)),.agg (numA (a))] kj kj (fun W=>kj) (fun W hR=>c3 W) ?_
  refine Qav (.pointer (some ⟨g3,4,none⟩)) kj kj (fun W=>kj) ?_
  have r3_6:=(Puts.row p6 (Qaa r3_4 e5) (Qad r3_4 l7))
  refine Qaq (.agg (numA (f))) kj kj (fun W hR=>(Qaw 49 _ g3 4 78 _ _ _ (Qaa (Qaa r3_6 (Qai _)) hR) rfl kj (QaH [numA (e)] [numA (f)] [numA (g),numA (h)] 4 kj) kj (isz (n:=4) kj kj))) ?_
  refine Qav (.pointer (some ⟨g3,0,none⟩)) kj kj (fun W=>kj) ?_
  refine Qaq (.agg (numA (e))) kj kj (fun W hR=>(Qaw 49 _ g3 0 78 _ _ _ (Qaa (Qaa r3_6 (Qai _)) hR) rfl kj (QaH [] [numA (e)] [numA (f),numA (g),numA (h)] 0 kj) kj (isz (n:=4) kj kj))) ?_
  refine Qau (.agg (numA (s4))) 68 #[.agg (numA (f)),.agg (numA (e))] kj kj (fun W=>kj) (fun W hR=>c4 W) ?_
  refine Qau (.agg (numA (s5))) 66 #[.agg (numA (s3)),.agg (numA (s4))] kj kj (fun W=>kj) (fun W hR=>c5 W) ?_
  refine QbN (numA (0)) 49 kj (qR _) kj (fun W=>kj) ?_
  refine Qa9 (hF _ kj fun W7 e7=>?_)
  simp only [fins,up,List.take_succ_cons,List.take_zero,List.drop_succ_cons,List.drop_zero,List.nil_append,List.cons_append]
  intro g9 l9 r9_7 n9
  have b9:w.heap.size≤g9:=qT x6.size l9
  clear hF
  have x7:Ext w W7:=Ext.tr x6 e7
  refine Qak g9 _ (numA (s5)) 49 r9_7 rfl kj (Qah 49 _ _ g9 49 _ _ r9_7 rfl kj kj (isz (n:=4) kj kj) (eqsz (n:=4) kj kj) kj) fun W8 p8 r9_8=>?_
  have x8:Ext w W8:=Puts.ext p8 x7 b9
  refine Qaf ?_
  refine hK8 _ _ ?_
  refine wp_seq_k fun K10 hK10=>?_
  refine Qbd 8 [⟨none,[(3,none)]⟩,⟨none,[(37,some 0)]⟩,⟨none,[(4,none)]⟩,⟨none,[(39,some 2)]⟩,⟨none,[(38,some 1),(40,some 3)]⟩,⟨none,[(5,none)]⟩,⟨none,[(41,some 4),(42,some 5)]⟩,⟨none,[]⟩] [7] kj kj kj fun F hF=>?_
  refine Qav (.pointer (some ⟨g2,12,none⟩)) kj kj (fun W=>kj) ?_
  have r2_8:=(Puts.row p8 (Qaa r2_6 e7) (Qad r2_6 l9))
  refine Qaq (.agg (numA (d))) kj kj (fun W hR=>(Qaw 49 _ g2 12 78 _ _ _ (Qaa (Qaa r2_8 (Qai _)) hR) rfl kj (QaH [numA (a),numA (b),numA (c)] [numA (d)] [] 12 kj) kj (isz (n:=4) kj kj))) ?_
  refine Qav (.pointer (some ⟨g3,12,none⟩)) kj kj (fun W=>kj) ?_
  have r3_8:=(Puts.row p8 (Qaa r3_6 e7) (Qad r3_6 l9))
  refine Qaq (.agg (numA (h))) kj kj (fun W hR=>(Qaw 49 _ g3 12 78 _ _ _ (Qaa (Qaa r3_8 (Qai _)) hR) rfl kj (QaH [numA (e),numA (f),numA (g)] [numA (h)] [] 12 kj) kj (isz (n:=4) kj kj))) ?_
  refine Qau (.agg (numA (s6))) 66 #[.agg (numA (d)),.agg (numA (h))] kj kj (fun W=>kj) (fun W hR=>c6 W) ?_
  have r4_4:=(Qaa r4_3 e4)
  have r4_6:=(Puts.row p6 (Qaa r4_4 e5) (Qad r4_4 l7))
  have r4_8:=(Puts.row p8 (Qaa (Puts.row p6 (Qaa (Qaa r4_3 e4) e5) (Qad r4_4 l7)) e7) (Qad r4_6 l9))
  refine Qaq (.agg (numA (k))) kj kj (fun W hR=>(Qag 49 _ g4 49 _ _ (Qaa (Qaa r4_8 (Qai _)) hR) rfl kj kj (isz (n:=4) kj kj))) ?_
  refine Qau (.agg (numA (s7))) 66 #[.agg (numA (s6)),.agg (numA (k))] kj kj (fun W=>kj) (fun W hR=>c7 W) ?_
  refine QbN (numA (0)) 49 kj (qR _) kj (fun W=>kj) ?_
  refine Qa9 (hF _ kj fun W9 e9=>?_)
  simp only [fins,up,List.take_succ_cons,List.take_zero,List.drop_succ_cons,List.drop_zero,List.nil_append,List.cons_append]
  intro g11 l11 r11_9 n11
  have b11:w.heap.size≤g11:=qT x8.size l11
  clear hF
  have x9:Ext w W9:=Ext.tr x8 e9
  refine Qak g11 _ (numA (s7)) 49 r11_9 rfl kj (Qah 49 _ _ g11 49 _ _ r11_9 rfl kj kj (isz (n:=4) kj kj) (eqsz (n:=4) kj kj) kj) fun W10 p10 r11_10=>?_
  have x10:Ext w W10:=Puts.ext p10 x9 b11
  refine Qaf ?_
  refine hK10 _ _ ?_
  refine wp_seq_k fun K12 hK12=>?_
  refine Qac ?_
  refine Qab (.agg (numA (s7))) 44 rfl kj (Qag 49 _ g11 49 _ _ r11_10 rfl kj kj (isz (n:=4) kj kj)) ?_
  refine Qab (.agg (numA (s7))) 45 rfl kj (Qag 49 _ g11 49 _ _ r11_10 rfl kj kj (isz (n:=4) kj kj)) ?_
  refine Qar (.agg (numA (s8))) 68 #[.agg (numA (s7)),.agg (numA (s7))] 46 rfl kj kj (c8 _) fun W11 e11=>?_
  have x11:Ext w W11:=Ext.tr x10 e11
  have r11_11:=(Qaa r11_10 e11)
  refine Qak g11 _ (numA (s8)) 49 r11_11 rfl kj (Qah 49 _ _ g11 49 _ _ r11_11 rfl kj kj (isz (n:=4) kj kj) (eqsz (n:=4) kj kj) kj) fun W12 p12 r11_12=>?_
  have x12:Ext w W12:=Puts.ext p12 x11 b11
  refine Qaf ?_
  refine hK12 _ _ ?_
  refine wp_seq_k fun K13 hK13=>?_
  refine Qac ?_
  refine Qab (.pointer (some ⟨g2,8,none⟩)) 47 rfl kj kj ?_
  have r2_12:=(Puts.row p12 (Qaa (Puts.row p10 (Qaa r2_8 e9) (Qad r2_8 l11)) e11) (Qad r2_8 l11))
  refine Qab (.agg (numA (c))) 48 rfl kj (Qaw 49 _ g2 8 78 _ _ _ r2_12 rfl kj (QaH [numA (a),numA (b)] [numA (c)] [numA (d)] 8 kj) kj (isz (n:=4) kj kj)) ?_
  refine Qab (.pointer (some ⟨g3,8,none⟩)) 49 rfl kj kj ?_
  have r3_12:=(Puts.row p12 (Qaa (Puts.row p10 (Qaa r3_8 e9) (Qad r3_8 l11)) e11) (Qad r3_8 l11))
  refine Qab (.agg (numA (g))) 50 rfl kj (Qaw 49 _ g3 8 78 _ _ _ r3_12 rfl kj (QaH [numA (e),numA (f)] [numA (g)] [numA (h)] 8 kj) kj (isz (n:=4) kj kj)) ?_
  refine Qar (.agg (numA (s9))) 66 #[.agg (numA (c)),.agg (numA (g))] 51 rfl kj kj (c9 _) fun W13 e13=>?_
  have x13:Ext w W13:=Ext.tr x12 e13
  refine Qaj (numA (0)) 49 10 rfl kj kj fun g14 W14 l14 e14 r14_14=>?_
  have x14:Ext w W14:=Ext.tr x13 e14
  have b14:w.heap.size≤g14:=qT x13.size l14
  refine Qak g14 _ (numA (s9)) 49 r14_14 rfl kj (Qah 49 _ _ g14 49 _ _ r14_14 rfl kj kj (isz (n:=4) kj kj) (eqsz (n:=4) kj kj) kj) fun W15 p15 r14_15=>?_
  have x15:Ext w W15:=Puts.ext p15 x14 b14
  refine Qaf ?_
  refine hK13 _ _ ?_
  refine wp_seq_k fun K15 hK15=>?_
  refine Qac ?_
  refine Qab (.agg (numA (s9))) 52 rfl kj (Qag 49 _ g14 49 _ _ r14_15 rfl kj kj (isz (n:=4) kj kj)) ?_
  refine Qab (.agg (numA (s9))) 53 rfl kj (Qag 49 _ g14 49 _ _ r14_15 rfl kj kj (isz (n:=4) kj kj)) ?_
  refine Qar (.agg (numA (s10))) 68 #[.agg (numA (s9)),.agg (numA (s9))] 54 rfl kj kj (c10 _) fun W16 e16=>?_
  have x16:Ext w W16:=Ext.tr x15 e16
  have r14_16:=(Qaa r14_15 e16)
  refine Qak g14 _ (numA (s10)) 49 r14_16 rfl kj (Qah 49 _ _ g14 49 _ _ r14_16 rfl kj kj (isz (n:=4) kj kj) (eqsz (n:=4) kj kj) kj) fun W17 p17 r14_17=>?_
  have x17:Ext w W17:=Puts.ext p17 x16 b14
  refine Qaf ?_
  refine hK15 _ _ ?_
  refine wp_seq_k fun K16 hK16=>?_
  refine Qbd 16 [⟨none,[(8,none)]⟩,⟨none,[(7,none)]⟩,⟨none,[(55,some 0),(56,some 1)]⟩,⟨none,[(10,none)]⟩,⟨none,[(9,none)]⟩,⟨none,[(58,some 3),(59,some 4)]⟩,⟨none,[(10,none)]⟩,⟨none,[(9,none)]⟩,⟨none,[(61,some 6),(62,some 7)]⟩,⟨none,[(8,none)]⟩,⟨none,[(7,none)]⟩,⟨none,[(64,some 9),(65,some 10)]⟩,⟨none,[]⟩,⟨none,[]⟩,⟨none,[]⟩,⟨none,[]⟩] [12,13,14,15] kj kj kj fun F hF=>?_
  have r9_13:=(Qaa (Puts.row p12 (Qaa (Puts.row p10 (Qaa r9_8 e9) (Qad r9_8 l11)) e11) (Qad r9_8 l11)) e13)
  have r9_17:=(Puts.row p17 (Qaa (Puts.row p15 (Qaa (Qaa (Puts.row p12 (Qaa (Puts.row p10 (Qaa r9_8 e9) (Qad r9_8 l11)) e11) (Qad r9_8 l11)) e13) e14) (Qad r9_13 l14)) e16) (Qad r9_13 l14))
  refine Qaq (.agg (numA (s5))) kj kj (fun W hR=>(Qag 49 _ g9 49 _ _ (Qaa (Qaa r9_17 (Qai _)) hR) rfl kj kj (isz (n:=4) kj kj))) ?_
  have r7_8:=(Puts.row p8 (Qaa r7_6 e7) (Qad r7_6 l9))
  have r7_13:=(Qaa (Puts.row p12 (Qaa (Puts.row p10 (Qaa r7_8 e9) (Qad r7_8 l11)) e11) (Qad r7_8 l11)) e13)
  have r7_17:=(Puts.row p17 (Qaa (Puts.row p15 (Qaa (Qaa (Puts.row p12 (Qaa (Puts.row p10 (Qaa (Puts.row p8 (Qaa r7_6 e7) (Qad r7_6 l9)) e9) (Qad r7_8 l11)) e11) (Qad r7_8 l11)) e13) e14) (Qad r7_13 l14)) e16) (Qad r7_13 l14))
  refine Qaq (.agg (numA (s2))) kj kj (fun W hR=>(Qag 49 _ g7 49 _ _ (Qaa (Qaa r7_17 (Qai _)) hR) rfl kj kj (isz (n:=4) kj kj))) ?_
  refine Qau (.agg (numA (s11))) 69 #[.agg (numA (s5)),.agg (numA (s2))] kj kj (fun W=>kj) (fun W hR=>c11 W) ?_
  refine Qaq (.agg (numA (s10))) kj kj (fun W hR=>(Qag 49 _ g14 49 _ _ (Qaa (Qaa r14_17 (Qai _)) hR) rfl kj kj (isz (n:=4) kj kj))) ?_
  have r11_13:=(Qaa r11_12 e13)
  have r11_17:=(Puts.row p17 (Qaa (Puts.row p15 (Qaa (Qaa r11_12 e13) e14) (Qad r11_13 l14)) e16) (Qad r11_13 l14))
  refine Qaq (.agg (numA (s8))) kj kj (fun W hR=>(Qag 49 _ g11 49 _ _ (Qaa (Qaa r11_17 (Qai _)) hR) rfl kj kj (isz (n:=4) kj kj))) ?_
  refine Qau (.agg (numA (s12))) 69 #[.agg (numA (s10)),.agg (numA (s8))] kj kj (fun W=>kj) (fun W hR=>c12 W) ?_
  refine Qaq (.agg (numA (s10))) kj kj (fun W hR=>(Qag 49 _ g14 49 _ _ (Qaa (Qaa r14_17 (Qai _)) hR) rfl kj kj (isz (n:=4) kj kj))) ?_
  refine Qaq (.agg (numA (s8))) kj kj (fun W hR=>(Qag 49 _ g11 49 _ _ (Qaa (Qaa r11_17 (Qai _)) hR) rfl kj kj (isz (n:=4) kj kj))) ?_
  refine Qau (.agg (numA (s13))) 68 #[.agg (numA (s10)),.agg (numA (s8))] kj kj (fun W=>kj) (fun W hR=>c13 W) ?_
  refine Qaq (.agg (numA (s5))) kj kj (fun W hR=>(Qag 49 _ g9 49 _ _ (Qaa (Qaa r9_17 (Qai _)) hR) rfl kj kj (isz (n:=4) kj kj))) ?_
  refine Qaq (.agg (numA (s2))) kj kj (fun W hR=>(Qag 49 _ g7 49 _ _ (Qaa (Qaa r7_17 (Qai _)) hR) rfl kj kj (isz (n:=4) kj kj))) ?_
  refine Qau (.agg (numA (s14))) 68 #[.agg (numA (s5)),.agg (numA (s2))] kj kj (fun W=>kj) (fun W hR=>c14 W) ?_
  refine QbN (numA (0)) 49 kj (qR _) kj (fun W=>kj) ?_
  refine QbN (numA (0)) 49 kj (qR _) kj (fun W=>kj) ?_
  refine QbN (numA (0)) 49 kj (qR _) kj (fun W=>kj) ?_
  refine QbN (numA (0)) 49 kj (qR _) kj (fun W=>kj) ?_
  refine Qa9 (hF _ kj fun W18 e18=>?_)
  simp only [fins,up,List.take_succ_cons,List.take_zero,List.drop_succ_cons,List.drop_zero,List.nil_append,List.cons_append]
  intro g17 l17 r17_18 n17 g18 l18 r18_18 n18 g19 l19 r19_18 n19 g20 l20 r20_18 n20
  have b17:w.heap.size≤g17:=qT x17.size l17
  have b18:w.heap.size≤g18:=qT x17.size l18
  have n18_17:g18≠g17:=n18 _ (by simp)
  have b19:w.heap.size≤g19:=qT x17.size l19
  have n19_17:g19≠g17:=n19 _ (by simp)
  have n19_18:g19≠g18:=n19 _ (by simp)
  have b20:w.heap.size≤g20:=qT x17.size l20
  have n20_17:g20≠g17:=n20 _ (by simp)
  have n20_18:g20≠g18:=n20 _ (by simp)
  have n20_19:g20≠g19:=n20 _ (by simp)
  clear hF
  have x18:Ext w W18:=Ext.tr x17 e18
  refine Qak g17 _ (numA (s11)) 49 r17_18 rfl kj (Qah 49 _ _ g17 49 _ _ r17_18 rfl kj kj (isz (n:=4) kj kj) (eqsz (n:=4) kj kj) kj) fun W19 p19 r17_19=>?_
  have x19:Ext w W19:=Puts.ext p19 x18 b17
  have r18_19:=(Puts.row p19 r18_18 n18_17)
  refine Qak g18 _ (numA (s12)) 49 r18_19 rfl kj (Qah 49 _ _ g18 49 _ _ r18_19 rfl kj kj (isz (n:=4) kj kj) (eqsz (n:=4) kj kj) kj) fun W20 p20 r18_20=>?_
  have x20:Ext w W20:=Puts.ext p20 x19 b18
  have r19_20:=(Puts.row p20 (Puts.row p19 r19_18 n19_17) n19_18)
  refine Qak g19 _ (numA (s13)) 49 r19_20 rfl kj (Qah 49 _ _ g19 49 _ _ r19_20 rfl kj kj (isz (n:=4) kj kj) (eqsz (n:=4) kj kj) kj) fun W21 p21 r19_21=>?_
  have x21:Ext w W21:=Puts.ext p21 x20 b19
  have r20_21:=(Puts.row p21 (Puts.row p20 (Puts.row p19 r20_18 n20_17) n20_18) n20_19)
  refine Qak g20 _ (numA (s14)) 49 r20_21 rfl kj (Qah 49 _ _ g20 49 _ _ r20_21 rfl kj kj (isz (n:=4) kj kj) (eqsz (n:=4) kj kj) kj) fun W22 p22 r20_22=>?_
  have x22:Ext w W22:=Puts.ext p22 x21 b20
  refine Qaf ?_
  refine hK16 _ _ ?_
  refine wp_seq_k fun K21 hK21=>?_
  refine QaK 13 [⟨none,[(11,none)]⟩,⟨none,[(12,none)]⟩,⟨none,[(67,some 0),(68,some 1)]⟩,⟨none,[(13,none)]⟩,⟨none,[(14,none)]⟩,⟨none,[(70,some 3),(71,some 4)]⟩,⟨none,[(12,none)]⟩,⟨none,[(13,none)]⟩,⟨none,[(73,some 6),(74,some 7)]⟩,⟨none,[(11,none)]⟩,⟨none,[(14,none)]⟩,⟨none,[(76,some 9),(77,some 10)]⟩,⟨none,[(69,some 2),(72,some 5),(75,some 8),(78,some 11)]⟩] kj kj fun F hF=>?_
  have r17_22:=(Puts.row p22 (Puts.row p21 (Puts.row p20 r17_19 (Ne.symm n18_17)) (Ne.symm n19_17)) (Ne.symm n20_17))
  refine Qaq (.agg (numA (s11))) kj kj (fun W hR=>(Qag 49 _ g17 49 _ _ (Qaa (Qaa r17_22 (Qai _)) hR) rfl kj kj (isz (n:=4) kj kj))) ?_
  have r18_22:=(Puts.row p22 (Puts.row p21 r18_20 (Ne.symm n19_18)) (Ne.symm n20_18))
  refine Qaq (.agg (numA (s12))) kj kj (fun W hR=>(Qag 49 _ g18 49 _ _ (Qaa (Qaa r18_22 (Qai _)) hR) rfl kj kj (isz (n:=4) kj kj))) ?_
  refine Qau (.agg (numA (s15))) 66 #[.agg (numA (s11)),.agg (numA (s12))] kj kj (fun W=>kj) (fun W hR=>c15 W) ?_
  have r19_22:=(Puts.row p22 r19_21 (Ne.symm n20_19))
  refine Qaq (.agg (numA (s13))) kj kj (fun W hR=>(Qag 49 _ g19 49 _ _ (Qaa (Qaa r19_22 (Qai _)) hR) rfl kj kj (isz (n:=4) kj kj))) ?_
  refine Qaq (.agg (numA (s14))) kj kj (fun W hR=>(Qag 49 _ g20 49 _ _ (Qaa (Qaa r20_22 (Qai _)) hR) rfl kj kj (isz (n:=4) kj kj))) ?_
  refine Qau (.agg (numA (s16))) 66 #[.agg (numA (s13)),.agg (numA (s14))] kj kj (fun W=>kj) (fun W hR=>c16 W) ?_
  refine Qaq (.agg (numA (s12))) kj kj (fun W hR=>(Qag 49 _ g18 49 _ _ (Qaa (Qaa r18_22 (Qai _)) hR) rfl kj kj (isz (n:=4) kj kj))) ?_
  refine Qaq (.agg (numA (s13))) kj kj (fun W hR=>(Qag 49 _ g19 49 _ _ (Qaa (Qaa r19_22 (Qai _)) hR) rfl kj kj (isz (n:=4) kj kj))) ?_
  refine Qau (.agg (numA (s17))) 66 #[.agg (numA (s12)),.agg (numA (s13))] kj kj (fun W=>kj) (fun W hR=>c17 W) ?_
  refine Qaq (.agg (numA (s11))) kj kj (fun W hR=>(Qag 49 _ g17 49 _ _ (Qaa (Qaa r17_22 (Qai _)) hR) rfl kj kj (isz (n:=4) kj kj))) ?_
  refine Qaq (.agg (numA (s14))) kj kj (fun W hR=>(Qag 49 _ g20 49 _ _ (Qaa (Qaa r20_22 (Qai _)) hR) rfl kj kj (isz (n:=4) kj kj))) ?_
  refine Qau (.agg (numA (s18))) 66 #[.agg (numA (s11)),.agg (numA (s14))] kj kj (fun W=>kj) (fun W hR=>c18 W) ?_
  refine Qav (.agg (cat [numA (s15),numA (s16),numA (s17),numA (s18)])) kj kj (fun W=>kj) ?_
  refine Qa9 (hF _ kj fun W23 e23=>?_)
  simp only [ups,up,Kn.val,List.take_succ_cons,List.take_zero,List.drop_succ_cons,List.drop_zero,List.nil_append,List.cons_append]
  clear hF
  have x23:Ext w W23:=Ext.tr x22 e23
  have r5_6:=(Puts.row p6 (Qaa r5_4 e5) (Qad r5_4 l7))
  have r5_8:=(Puts.row p8 (Qaa r5_6 e7) (Qad r5_6 l9))
  have r5_13:=(Qaa (Puts.row p12 (Qaa (Puts.row p10 (Qaa r5_8 e9) (Qad r5_8 l11)) e11) (Qad r5_8 l11)) e13)
  have r5_17:=(Puts.row p17 (Qaa (Puts.row p15 (Qaa r5_13 e14) (Qad r5_13 l14)) e16) (Qad r5_13 l14))
  have r5_23:=(Qaa (Puts.row p22 (Puts.row p21 (Puts.row p20 (Puts.row p19 (Qaa (Puts.row p17 (Qaa (Puts.row p15 (Qaa (Qaa (Puts.row p12 (Qaa (Puts.row p10 (Qaa (Puts.row p8 (Qaa (Puts.row p6 (Qaa r5_4 e5) (Qad r5_4 l7)) e7) (Qad r5_6 l9)) e9) (Qad r5_8 l11)) e11) (Qad r5_8 l11)) e13) e14) (Qad r5_13 l14)) e16) (Qad r5_13 l14)) e18) (Qad r5_17 l17)) (Qad r5_17 l18)) (Qad r5_17 l19)) (Qad r5_17 l20)) e23)
  refine Qak g5 _ (cat [numA (s15),numA (s16),numA (s17),numA (s18)]) 78 r5_23 rfl kj (Qah 78 _ _ g5 78 _ _ r5_23 rfl kj kj (isz (n:=16) kj kj) (eqsz (n:=16) kj kj) kj) fun W24 p24 r5_24=>?_
  have x24:Ext w W24:=Puts.ext p24 x23 b5
  refine Qaf ?_
  refine hK21 _ _ ?_
  refine wp_ret ?_
  exact (show bodyPost _ _ _ .ret _ _ from ret1 (.agg (cat [numA (s15),numA (s16),numA (s17),numA (s18)])) rfl (QaC g5 78 _ r5_24 kj kj (isz (n:=16) kj kj)) ⟨rfl,x24⟩)
theorem QpF (a b c d e f g h k:Int) (h_a:isN a) (h_b:isN b) (h_c:isN c) (h_d:isN d) (h_e:isN e) (h_f:isN f) (h_g:isN g) (h_h:isN h) (h_k:isN k) (w:World):Calls Tryd.prog 47 #[.agg (cat [numA (a),numA (b),numA (c),numA (d)]),.agg (cat [numA (e),numA (f),numA (g),numA (h)]),.agg (numA (k))] w (Ret w (.agg (cat [numA ((QcI a b c d e f g h k).1),numA ((QcI a b c d e f g h k).2.1),numA ((QcI a b c d e f g h k).2.2.1),numA ((QcI a b c d e f g h k).2.2.2)]))) :=
  Qkj a b c d e f g h k h_a h_b h_c h_d h_e h_f h_g h_h h_k _ _ _ _ _ _ _ _ _ _ _ _ _ _ _ _ _ _ _ (sub _ _ h_b h_a) (sub _ _ h_f h_e) (mul _ _ (Qa0 _) (Qa0 _)) (add _ _ h_b h_a) (add _ _ h_f h_e) (mul _ _ (Qa0 _) (Qa0 _)) (mul _ _ h_d h_h) (mul _ _ (Qa0 _) h_k) (add _ _ (Qa0 _) (Qa0 _)) (mul _ _ h_c h_g) (add _ _ (Qa0 _) (Qa0 _)) (sub _ _ (Qa0 _) (Qa0 _)) (sub _ _ (Qa0 _) (Qa0 _)) (add _ _ (Qa0 _) (Qa0 _)) (add _ _ (Qa0 _) (Qa0 _)) (mul _ _ (Qa0 _) (Qa0 _)) (mul _ _ (Qa0 _) (Qa0 _)) (mul _ _ (Qa0 _) (Qa0 _)) (mul _ _ (Qa0 _) (Qa0 _)) w
theorem Qeo (a b c d e f g h k:Int) (h_a:isN a) (h_b:isN b) (h_c:isN c) (h_d:isN d) (h_e:isN e) (h_f:isN f) (h_g:isN g) (h_h:isN h) (h_k:isN k):isN (QcI a b c d e f g h k).1∧isN (QcI a b c d e f g h k).2.1∧isN (QcI a b c d e f g h k).2.2.1∧isN (QcI a b c d e f g h k).2.2.2:=⟨(Qa0 _),(Qa0 _),(Qa0 _),(Qa0 _)⟩
def Qe2 (a b c d:Int):Int×Int :=
  let s0:=invN c
  let s1:=a*s0%p
  let s2:=b*s0%p
  let s3:=(patF s1 s2).1
  let s4:=(patF s1 s2).2
  (s3,s4)
theorem QkE (a b c d:Int) (h_a:isN a) (h_b:isN b) (h_c:isN c) (h_d:isN d) (s0 s1 s2 s3 s4:Int)
    (c0:∀ W,Calls Tryd.prog 70 #[.agg (numA (c))] W (Ret W (.agg (numA (s0)))))
    (c1:∀ W,Calls Tryd.prog 66 #[.agg (numA (a)),.agg (numA (s0))] W (Ret W (.agg (numA (s1)))))
    (c2:∀ W,Calls Tryd.prog 66 #[.agg (numA (b)),.agg (numA (s0))] W (Ret W (.agg (numA (s2)))))
    (c3:∀ W,Calls Tryd.prog 43 #[.agg (numA (s1)),.agg (numA (s2))] W (Ret W (.agg (cat [numA (s3),numA (s4)])))) (w:World) :
    Calls Tryd.prog 48 #[.agg (cat [numA (a),numA (b),numA (c),numA (d)])] w (Ret w (.agg (cat [numA (s3),numA (s4)]))):=by
  refine enter 16 [(0,.agg (cat [numA (a),numA (b),numA (c),numA (d)]))] Tryd.func48 rfl rfl kj rfl ?_
  refine wp_seq_k fun K1 hK1=>?_
  refine Qac ?_
  refine Qaj (cat [numA (a),numA (b),numA (c),numA (d)]) 78 1 rfl kj kj fun g2 W1 l2 e1 r2_1=>?_
  have x1:Ext w W1:=Ext.tr (Rely.Ext.refl w) e1
  have b2:w.heap.size≤g2:=qT (Rely.Ext.refl w).size l2
  refine Qaj (cat [numA (0),numA (0)]) 51 2 rfl kj kj fun g3 W2 l3 e2 r3_2=>?_
  have x2:Ext w W2:=Ext.tr x1 e2
  have b3:w.heap.size≤g3:=qT x1.size l3
  refine Qaf ?_
  refine hK1 _ _ ?_
  refine wp_seq_k fun K4 hK4=>?_
  refine Qac ?_
  refine Qab (.pointer (some ⟨g2,8,none⟩)) 4 rfl kj kj ?_
  have r2_2:=(Qaa r2_1 e2)
  refine Qab (.agg (numA (c))) 5 rfl kj (Qaw 49 _ g2 8 78 _ _ _ r2_2 rfl kj (QaH [numA (a),numA (b)] [numA (c)] [numA (d)] 8 kj) kj (isz (n:=4) kj kj)) ?_
  refine Qar (.agg (numA (s0))) 70 #[.agg (numA (c))] 6 rfl kj kj (c0 _) fun W3 e3=>?_
  have x3:Ext w W3:=Ext.tr x2 e3
  refine Qaj (numA (0)) 49 3 rfl kj kj fun g5 W4 l5 e4 r5_4=>?_
  have x4:Ext w W4:=Ext.tr x3 e4
  have b5:w.heap.size≤g5:=qT x3.size l5
  refine Qak g5 _ (numA (s0)) 49 r5_4 rfl kj (Qah 49 _ _ g5 49 _ _ r5_4 rfl kj kj (isz (n:=4) kj kj) (eqsz (n:=4) kj kj) kj) fun W5 p5 r5_5=>?_
  have x5:Ext w W5:=Puts.ext p5 x4 b5
  refine Qaf ?_
  refine hK4 _ _ ?_
  refine wp_seq_k fun K6 hK6=>?_
  refine QaK 9 [⟨none,[(1,none)]⟩,⟨none,[(7,some 0)]⟩,⟨none,[(3,none)]⟩,⟨none,[(8,some 1),(9,some 2)]⟩,⟨none,[(1,none)]⟩,⟨none,[(11,some 4)]⟩,⟨none,[(3,none)]⟩,⟨none,[(12,some 5),(13,some 6)]⟩,⟨none,[(10,some 3),(14,some 7)]⟩] kj kj fun F hF=>?_
  refine Qav (.pointer (some ⟨g2,0,none⟩)) kj kj (fun W=>kj) ?_
  have r2_3:=(Qaa r2_2 e3)
  have r2_5:=(Puts.row p5 (Qaa (Qaa r2_2 e3) e4) (Qad r2_3 l5))
  refine Qaq (.agg (numA (a))) kj kj (fun W hR=>(Qaw 49 _ g2 0 78 _ _ _ (Qaa (Qaa r2_5 (Qai _)) hR) rfl kj (QaH [] [numA (a)] [numA (b),numA (c),numA (d)] 0 kj) kj (isz (n:=4) kj kj))) ?_
  refine Qaq (.agg (numA (s0))) kj kj (fun W hR=>(Qag 49 _ g5 49 _ _ (Qaa (Qaa r5_5 (Qai _)) hR) rfl kj kj (isz (n:=4) kj kj))) ?_
  refine Qau (.agg (numA (s1))) 66 #[.agg (numA (a)),.agg (numA (s0))] kj kj (fun W=>kj) (fun W hR=>c1 W) ?_
  refine Qav (.pointer (some ⟨g2,4,none⟩)) kj kj (fun W=>kj) ?_
  refine Qaq (.agg (numA (b))) kj kj (fun W hR=>(Qaw 49 _ g2 4 78 _ _ _ (Qaa (Qaa r2_5 (Qai _)) hR) rfl kj (QaH [numA (a)] [numA (b)] [numA (c),numA (d)] 4 kj) kj (isz (n:=4) kj kj))) ?_
  refine Qaq (.agg (numA (s0))) kj kj (fun W hR=>(Qag 49 _ g5 49 _ _ (Qaa (Qaa r5_5 (Qai _)) hR) rfl kj kj (isz (n:=4) kj kj))) ?_
  refine Qau (.agg (numA (s2))) 66 #[.agg (numA (b)),.agg (numA (s0))] kj kj (fun W=>kj) (fun W hR=>c2 W) ?_
  refine Qau (.agg (cat [numA (s3),numA (s4)])) 43 #[.agg (numA (s1)),.agg (numA (s2))] kj kj (fun W=>kj) (fun W hR=>c3 W) ?_
  refine Qa9 (hF _ kj fun W6 e6=>?_)
  simp only [ups,up,Kn.val,List.take_succ_cons,List.take_zero,List.drop_succ_cons,List.drop_zero,List.nil_append,List.cons_append]
  clear hF
  have x6:Ext w W6:=Ext.tr x5 e6
  have r3_3:=(Qaa r3_2 e3)
  have r3_6:=(Qaa (Puts.row p5 (Qaa (Qaa r3_2 e3) e4) (Qad r3_3 l5)) e6)
  refine Qak g3 _ (cat [numA (s3),numA (s4)]) 51 r3_6 rfl kj (Qah 51 _ _ g3 51 _ _ r3_6 rfl kj kj (isz (n:=8) kj kj) (eqsz (n:=8) kj kj) kj) fun W7 p7 r3_7=>?_
  have x7:Ext w W7:=Puts.ext p7 x6 b3
  refine Qaf ?_
  refine hK6 _ _ ?_
  refine wp_ret ?_
  exact (show bodyPost _ _ _ .ret _ _ from ret1 (.agg (cat [numA (s3),numA (s4)])) rfl (QaC g3 51 _ r3_7 kj kj (isz (n:=8) kj kj)) ⟨rfl,x7⟩)
theorem Qqe (a b c d:Int) (h_a:isN a) (h_b:isN b) (h_c:isN c) (h_d:isN d) (w:World):Calls Tryd.prog 48 #[.agg (cat [numA (a),numA (b),numA (c),numA (d)])] w (Ret w (.agg (cat [numA ((Qe2 a b c d).1),numA ((Qe2 a b c d).2)]))) :=
  QkE a b c d h_a h_b h_c h_d _ _ _ _ _ (inv _ h_c) (mul _ _ h_a (Qdd _)) (mul _ _ h_b (Qdd _)) (patC _ _ (Qa0 _) (Qa0 _)) w
def Qo7 (x l y m:Int):Int×Int :=
  let s0:=(QcF x l).1
  let s1:=(QcF x l).2.1
  let s2:=(QcF x l).2.2.1
  let s3:=(QcF x l).2.2.2
  let s4:=(QcF y m).1
  let s5:=(QcF y m).2.1
  let s6:=(QcF y m).2.2.1
  let s7:=(QcF y m).2.2.2
  let s8:=(QcI s0 s1 s2 s3 s4 s5 s6 s7 dN).1
  let s9:=(QcI s0 s1 s2 s3 s4 s5 s6 s7 dN).2.1
  let s10:=(QcI s0 s1 s2 s3 s4 s5 s6 s7 dN).2.2.1
  let s11:=(QcI s0 s1 s2 s3 s4 s5 s6 s7 dN).2.2.2
  let s12:=(Qe2 s8 s9 s10 s11).1
  let s13:=(Qe2 s8 s9 s10 s11).2
  (s12,s13)
theorem QkH (x l y m:Int) (h_x:isN x) (h_l:isN l) (h_y:isN y) (h_m:isN m) (s0 s1 s2 s3 s4 s5 s6 s7 s8 s9 s10 s11 s12 s13:Int)
    (c0:∀ W,Calls Tryd.prog 45 #[.agg (cat [numA (x),numA (l)])] W (Ret W (.agg (cat [numA (s0),numA (s1),numA (s2),numA (s3)]))))
    (c1:∀ W,Calls Tryd.prog 45 #[.agg (cat [numA (y),numA (m)])] W (Ret W (.agg (cat [numA (s4),numA (s5),numA (s6),numA (s7)]))))
    (c2:∀ W,Calls Tryd.prog 47 #[.agg (cat [numA (s0),numA (s1),numA (s2),numA (s3)]),.agg (cat [numA (s4),numA (s5),numA (s6),numA (s7)]),.agg (numA (dN))] W (Ret W (.agg (cat [numA (s8),numA (s9),numA (s10),numA (s11)]))))
    (c3:∀ W,Calls Tryd.prog 48 #[.agg (cat [numA (s8),numA (s9),numA (s10),numA (s11)])] W (Ret W (.agg (cat [numA (s12),numA (s13)])))) (w:World) (tB:TypeId) (hB:w.heap[2]? = some (.cells (ints .u8 Qb0) tB)) :
    Calls Tryd.prog 35 #[.agg (cat [numA (x),numA (l)]),.agg (cat [numA (y),numA (m)])] w (Ret w (.agg (cat [numA (s12),numA (s13)]))):=by
  refine enter 13 [(0,.agg (cat [numA (x),numA (l)])),(1,.agg (cat [numA (y),numA (m)]))] Tryd.func35 rfl rfl kj rfl ?_
  refine wp_seq_k fun K2 hK2=>?_
  refine Qac ?_
  refine Qaj (cat [numA (x),numA (l)]) 51 2 rfl kj kj fun g3 W1 l3 e1 r3_1=>?_
  have x1:Ext w W1:=Ext.tr (Rely.Ext.refl w) e1
  have b3:w.heap.size≤g3:=qT (Rely.Ext.refl w).size l3
  refine Qaj (cat [numA (y),numA (m)]) 51 3 rfl kj kj fun g4 W2 l4 e2 r4_2=>?_
  have x2:Ext w W2:=Ext.tr x1 e2
  have b4:w.heap.size≤g4:=qT x1.size l4
  refine Qaj (cat [numA (0),numA (0)]) 51 4 rfl kj kj fun g5 W3 l5 e3 r5_3=>?_
  have x3:Ext w W3:=Ext.tr x2 e3
  have b5:w.heap.size≤g5:=qT x2.size l5
  refine Qaf ?_
  refine hK2 _ _ ?_
  refine wp_seq_k fun K6 hK6=>?_
  refine QaK 8 [⟨none,[(2,none)]⟩,⟨none,[(5,some 0)]⟩,⟨none,[(3,none)]⟩,⟨none,[(7,some 2)]⟩,⟨none,[]⟩,⟨none,[(9,some 4)]⟩,⟨none,[(6,some 1),(8,some 3),(10,some 5)]⟩,⟨none,[(11,some 6)]⟩] kj kj fun F hF=>?_
  have r3_3:=(Qaa (Qaa r3_1 e2) e3)
  refine Qaq (.agg (cat [numA (x),numA (l)])) kj kj (fun W hR=>(Qag 51 _ g3 51 _ _ (Qaa (Qaa r3_3 (Qai _)) hR) rfl kj kj (isz (n:=8) kj kj))) ?_
  refine Qau (.agg (cat [numA (s0),numA (s1),numA (s2),numA (s3)])) 45 #[.agg (cat [numA (x),numA (l)])] kj kj (fun W=>kj) (fun W hR=>c0 W) ?_
  have r4_3:=(Qaa r4_2 e3)
  refine Qaq (.agg (cat [numA (y),numA (m)])) kj kj (fun W hR=>(Qag 51 _ g4 51 _ _ (Qaa (Qaa r4_3 (Qai _)) hR) rfl kj kj (isz (n:=8) kj kj))) ?_
  refine Qau (.agg (cat [numA (s4),numA (s5),numA (s6),numA (s7)])) 45 #[.agg (cat [numA (y),numA (m)])] kj kj (fun W=>kj) (fun W hR=>c1 W) ?_
  have r1_3:=(Qaa (Qaa (Qaa hB e1) e2) e3)
  refine Qaq (.agg (ints .u8 (Qb0))) kj kj (fun W hR=>(Qag 23 _ 2 tB _ _ (Qaa (Qaa r1_3 (Qai _)) hR) rfl kj kj (isz (n:=32) kj ((Qae _ _).trans (by decide))))) ?_
  refine Qau (.agg (numA (dN))) 44 #[.agg (ints .u8 (Qb0))] kj kj (fun W=>kj) (fun W hR=>QfG W) ?_
  refine Qau (.agg (cat [numA (s8),numA (s9),numA (s10),numA (s11)])) 47 #[.agg (cat [numA (s0),numA (s1),numA (s2),numA (s3)]),.agg (cat [numA (s4),numA (s5),numA (s6),numA (s7)]),.agg (numA (dN))] kj kj (fun W=>kj) (fun W hR=>c2 W) ?_
  refine Qau (.agg (cat [numA (s12),numA (s13)])) 48 #[.agg (cat [numA (s8),numA (s9),numA (s10),numA (s11)])] kj kj (fun W=>kj) (fun W hR=>c3 W) ?_
  refine Qa9 (hF _ kj fun W4 e4=>?_)
  simp only [ups,up,Kn.val,List.take_succ_cons,List.take_zero,List.drop_succ_cons,List.drop_zero,List.nil_append,List.cons_append]
  clear hF
  have x4:Ext w W4:=Ext.tr x3 e4
  have r5_4:=(Qaa r5_3 e4)
  refine Qak g5 _ (cat [numA (s12),numA (s13)]) 51 r5_4 rfl kj (Qah 51 _ _ g5 51 _ _ r5_4 rfl kj kj (isz (n:=8) kj kj) (eqsz (n:=8) kj kj) kj) fun W5 p5 r5_5=>?_
  have x5:Ext w W5:=Puts.ext p5 x4 b5
  refine Qaf ?_
  refine hK6 _ _ ?_
  refine wp_ret ?_
  exact (show bodyPost _ _ _ .ret _ _ from ret1 (.agg (cat [numA (s12),numA (s13)])) rfl (QaC g5 51 _ r5_5 kj kj (isz (n:=8) kj kj)) ⟨rfl,x5⟩)
theorem Qrb (x l y m:Int) (h_x:isN x) (h_l:isN l) (h_y:isN y) (h_m:isN m) (w:World) (tB:TypeId) (hB:w.heap[2]? = some (.cells (ints .u8 Qb0) tB)):Calls Tryd.prog 35 #[.agg (cat [numA (x),numA (l)]),.agg (cat [numA (y),numA (m)])] w (Ret w (.agg (cat [numA ((Qo7 x l y m).1),numA ((Qo7 x l y m).2)]))) :=
  QkH x l y m h_x h_l h_y h_m _ _ _ _ _ _ _ _ _ _ _ _ _ _ (QiQ _ _ h_x h_l) (QiQ _ _ h_y h_m) (QpF _ _ _ _ _ _ _ _ _ (QaF _ _ h_x h_l).1 (QaF _ _ h_x h_l).2.1 (QaF _ _ h_x h_l).2.2.1 (QaF _ _ h_x h_l).2.2.2 (QaF _ _ h_y h_m).1 (QaF _ _ h_y h_m).2.1 (QaF _ _ h_y h_m).2.2.1 (QaF _ _ h_y h_m).2.2.2 QeE) (Qqe _ _ _ _ (Qeo _ _ _ _ _ _ _ _ _ (QaF _ _ h_x h_l).1 (QaF _ _ h_x h_l).2.1 (QaF _ _ h_x h_l).2.2.1 (QaF _ _ h_x h_l).2.2.2 (QaF _ _ h_y h_m).1 (QaF _ _ h_y h_m).2.1 (QaF _ _ h_y h_m).2.2.1 (QaF _ _ h_y h_m).2.2.2 QeE).1 (Qeo _ _ _ _ _ _ _ _ _ (QaF _ _ h_x h_l).1 (QaF _ _ h_x h_l).2.1 (QaF _ _ h_x h_l).2.2.1 (QaF _ _ h_x h_l).2.2.2 (QaF _ _ h_y h_m).1 (QaF _ _ h_y h_m).2.1 (QaF _ _ h_y h_m).2.2.1 (QaF _ _ h_y h_m).2.2.2 QeE).2.1 (Qeo _ _ _ _ _ _ _ _ _ (QaF _ _ h_x h_l).1 (QaF _ _ h_x h_l).2.1 (QaF _ _ h_x h_l).2.2.1 (QaF _ _ h_x h_l).2.2.2 (QaF _ _ h_y h_m).1 (QaF _ _ h_y h_m).2.1 (QaF _ _ h_y h_m).2.2.1 (QaF _ _ h_y h_m).2.2.2 QeE).2.2.1 (Qeo _ _ _ _ _ _ _ _ _ (QaF _ _ h_x h_l).1 (QaF _ _ h_x h_l).2.1 (QaF _ _ h_x h_l).2.2.1 (QaF _ _ h_x h_l).2.2.2 (QaF _ _ h_y h_m).1 (QaF _ _ h_y h_m).2.1 (QaF _ _ h_y h_m).2.2.1 (QaF _ _ h_y h_m).2.2.2 QeE).2.2.2) w tB hB
def Qqc (x l:Int):Int×Int :=
  let s0:=(QgF x)
  (s0,l)
theorem QkC (x l:Int) (h_x:isN x) (h_l:isN l) (s0:Int)
    (c0:∀ W,Calls Tryd.prog 72 #[.agg (numA (x))] W (Ret W (.agg (numA (s0))))) (w:World) :
    Calls Tryd.prog 36 #[.agg (cat [numA (x),numA (l)])] w (Ret w (.agg (cat [numA (s0),numA (l)]))):=by
  refine enter 9 [(0,.agg (cat [numA (x),numA (l)]))] Tryd.func36 rfl rfl kj rfl ?_
  refine wp_seq_k fun K1 hK1=>?_
  refine Qac ?_
  refine Qaj (cat [numA (x),numA (l)]) 51 1 rfl kj kj fun g2 W1 l2 e1 r2_1=>?_
  have x1:Ext w W1:=Ext.tr (Rely.Ext.refl w) e1
  have b2:w.heap.size≤g2:=qT (Rely.Ext.refl w).size l2
  refine Qaj (cat [numA (0),numA (0)]) 51 2 rfl kj kj fun g3 W2 l3 e2 r3_2=>?_
  have x2:Ext w W2:=Ext.tr x1 e2
  have b3:w.heap.size≤g3:=qT x1.size l3
  refine Qaf ?_
  refine hK1 _ _ ?_
  refine wp_seq_k fun K4 hK4=>?_
  refine QaK 6 [⟨none,[(1,none)]⟩,⟨none,[(3,some 0)]⟩,⟨none,[(4,some 1)]⟩,⟨none,[(1,none)]⟩,⟨none,[(6,some 3)]⟩,⟨none,[(5,some 2),(7,some 4)]⟩] kj kj fun F hF=>?_
  refine Qav (.pointer (some ⟨g2,0,none⟩)) kj kj (fun W=>kj) ?_
  have r2_2:=(Qaa r2_1 e2)
  refine Qaq (.agg (numA (x))) kj kj (fun W hR=>(Qaw 49 _ g2 0 51 _ _ _ (Qaa (Qaa r2_2 (Qai _)) hR) rfl kj (QaH [] [numA (x)] [numA (l)] 0 kj) kj (isz (n:=4) kj kj))) ?_
  refine Qau (.agg (numA (s0))) 72 #[.agg (numA (x))] kj kj (fun W=>kj) (fun W hR=>c0 W) ?_
  refine Qav (.pointer (some ⟨g2,4,none⟩)) kj kj (fun W=>kj) ?_
  refine Qaq (.agg (numA (l))) kj kj (fun W hR=>(Qaw 49 _ g2 4 51 _ _ _ (Qaa (Qaa r2_2 (Qai _)) hR) rfl kj (QaH [numA (x)] [numA (l)] [] 4 kj) kj (isz (n:=4) kj kj))) ?_
  refine Qav (.agg (cat [numA (s0),numA (l)])) kj kj (fun W=>kj) ?_
  refine Qa9 (hF _ kj fun W3 e3=>?_)
  simp only [ups,up,Kn.val,List.take_succ_cons,List.take_zero,List.drop_succ_cons,List.drop_zero,List.nil_append,List.cons_append]
  clear hF
  have x3:Ext w W3:=Ext.tr x2 e3
  have r3_3:=(Qaa r3_2 e3)
  refine Qak g3 _ (cat [numA (s0),numA (l)]) 51 r3_3 rfl kj (Qah 51 _ _ g3 51 _ _ r3_3 rfl kj kj (isz (n:=8) kj kj) (eqsz (n:=8) kj kj) kj) fun W4 p4 r3_4=>?_
  have x4:Ext w W4:=Puts.ext p4 x3 b3
  refine Qaf ?_
  refine hK4 _ _ ?_
  refine wp_ret ?_
  exact (show bodyPost _ _ _ .ret _ _ from ret1 (.agg (cat [numA (s0),numA (l)])) rfl (QaC g3 51 _ r3_4 kj kj (isz (n:=8) kj kj)) ⟨rfl,x4⟩)
theorem Qra (x l:Int) (h_x:isN x) (h_l:isN l) (w:World):Calls Tryd.prog 36 #[.agg (cat [numA (x),numA (l)])] w (Ret w (.agg (cat [numA ((Qqc x l).1),numA ((Qqc x l).2)]))) :=
  QkC x l h_x h_l _ (Qqd _ h_x) w
end Go.Proofs.YtdoadngmgmdlbaaDoor.Field
end
section
namespace Go.Proofs.YtdoadngmgmdlbaaDoor.Field
open Go Go.RowKit
open Rely Auto
theorem factor  (w : World):Calls Tryd.prog 74 #[] w (Ret w (.agg (ints .i64 (lims (dN))))):=by
  refine enter 3 [] Tryd.func74 rfl rfl kj rfl ?_
  refine wp_seq_k fun K1 hK1=>?_
  refine Qac ?_
  refine Qaj (ints .i64 (lims (0))) 58 0 rfl kj kj fun g2 W1 l2 e1 r2_1=>?_
  have x1:Ext w W1:=Ext.tr (Rely.Ext.refl w) e1
  have b2:w.heap.size≤g2:=qT (Rely.Ext.refl w).size l2
  refine Qaf ?_
  refine hK1 _ _ ?_
  refine wp_seq_k fun K3 hK3=>?_
  refine Qac ?_
  refine Qab (.agg (ints .u8 (Qb0))) 1 rfl kj kj ?_
  refine Qar (.agg (ints .i64 (lims (dN)))) 60 #[.agg (ints .u8 (Qb0))] 2 rfl kj kj (Qpb _) fun W2 e2=>?_
  have x2:Ext w W2:=Ext.tr x1 e2
  have r2_2:=(Qaa r2_1 e2)
  refine Qak g2 _ (ints .i64 (lims (dN))) 58 r2_2 rfl kj (Qah 58 _ _ g2 58 _ _ r2_2 rfl kj kj (isz (n:=16) kj kj) (eqsz (n:=16) kj kj) kj) fun W3 p3 r2_3=>?_
  have x3:Ext w W3:=Puts.ext p3 x2 b2
  refine Qaf ?_
  refine hK3 _ _ ?_
  refine wp_ret ?_
  exact (show bodyPost _ _ _ .ret _ _ from ret1 (.agg (ints .i64 (lims (dN)))) rfl (QaC g2 58 _ r2_3 kj kj (isz (n:=16) kj kj)) ⟨rfl,x3⟩)
theorem nothing  (w : World):Calls Tryd.prog 59 #[] w (Ret w (.agg (cat [ints .i64 (lims (0)),ints .i64 (lims (1)),ints .i64 (lims (1))]))):=by
  refine enter 4 [] Tryd.func59 rfl rfl kj rfl ?_
  refine wp_seq_k fun K1 hK1=>?_
  refine Qac ?_
  refine Qaj (cat [ints .i64 (lims (0)),ints .i64 (lims (0)),ints .i64 (lims (0))]) 60 0 rfl kj kj fun g2 W1 l2 e1 r2_1=>?_
  have x1:Ext w W1:=Ext.tr (Rely.Ext.refl w) e1
  have b2:w.heap.size≤g2:=qT (Rely.Ext.refl w).size l2
  refine Qaf ?_
  refine hK1 _ _ ?_
  refine wp_seq_k fun K3 hK3=>?_
  refine Qac ?_
  refine Qab (.agg (ints .i64 (lims (1)))) 1 rfl kj kj ?_
  refine Qab (.agg (ints .i64 (lims (1)))) 2 rfl kj kj ?_
  refine Qab (.agg (cat [ints .i64 (lims (0)),ints .i64 (lims (1)),ints .i64 (lims (1))])) 3 rfl kj kj ?_
  refine Qak g2 _ (cat [ints .i64 (lims (0)),ints .i64 (lims (1)),ints .i64 (lims (1))]) 60 r2_1 rfl kj (Qah 60 _ _ g2 60 _ _ r2_1 rfl kj kj (isz (n:=48) kj kj) (eqsz (n:=48) kj kj) kj) fun W2 p2 r2_2=>?_
  have x2:Ext w W2:=Puts.ext p2 x1 b2
  refine Qaf ?_
  refine hK3 _ _ ?_
  refine wp_ret ?_
  exact (show bodyPost _ _ _ .ret _ _ from ret1 (.agg (cat [ints .i64 (lims (0)),ints .i64 (lims (1)),ints .i64 (lims (1))])) rfl (QaC g2 60 _ r2_2 kj kj (isz (n:=48) kj kj)) ⟨rfl,x2⟩)
def QdU (x y z u v t:Int):Int×Int×Int :=
  let s0:=z*t%p
  let s1:=s0*s0%p
  let s2:=x*u%p
  let s3:=y*v%p
  let s4:=s2*s3%p
  let s5:=dN*s4%p
  let s6:=(s1-s5)%p
  let s7:=(s1+s5)%p
  let s8:=(x+y)%p
  let s9:=(u+v)%p
  let s10:=s8*s9%p
  let s11:=(s10-s2)%p
  let s12:=(s11-s3)%p
  let s13:=s6*s12%p
  let s14:=s0*s13%p
  let s15:=(s3+s2)%p
  let s16:=s7*s15%p
  let s17:=s0*s16%p
  let s18:=s6*s7%p
  (s14,s17,s18)
theorem Qk6 (x y z u v t:Int) (h_x:isN x) (h_y:isN y) (h_z:isN z) (h_u:isN u) (h_v:isN v) (h_t:isN t) (s0 s1 s2 s3 s4 s5 s6 s7 s8 s9 s10 s11 s12 s13 s14 s15 s16 s17 s18:Int)
    (c0:∀ W,Calls Tryd.prog 58 #[.agg (ints .i64 (lims (z))),.agg (ints .i64 (lims (t)))] W (Ret W (.agg (ints .i64 (lims (s0))))))
    (c1:∀ W,Calls Tryd.prog 58 #[.agg (ints .i64 (lims (s0))),.agg (ints .i64 (lims (s0)))] W (Ret W (.agg (ints .i64 (lims (s1))))))
    (c2:∀ W,Calls Tryd.prog 58 #[.agg (ints .i64 (lims (x))),.agg (ints .i64 (lims (u)))] W (Ret W (.agg (ints .i64 (lims (s2))))))
    (c3:∀ W,Calls Tryd.prog 58 #[.agg (ints .i64 (lims (y))),.agg (ints .i64 (lims (v)))] W (Ret W (.agg (ints .i64 (lims (s3))))))
    (c4:∀ W,Calls Tryd.prog 58 #[.agg (ints .i64 (lims (s2))),.agg (ints .i64 (lims (s3)))] W (Ret W (.agg (ints .i64 (lims (s4))))))
    (c5:∀ W,Calls Tryd.prog 58 #[.agg (ints .i64 (lims (dN))),.agg (ints .i64 (lims (s4)))] W (Ret W (.agg (ints .i64 (lims (s5))))))
    (c6:∀ W,Calls Tryd.prog 76 #[.agg (ints .i64 (lims (s1))),.agg (ints .i64 (lims (s5)))] W (Ret W (.agg (ints .i64 (lims (s6))))))
    (c7:∀ W,Calls Tryd.prog 73 #[.agg (ints .i64 (lims (s1))),.agg (ints .i64 (lims (s5)))] W (Ret W (.agg (ints .i64 (lims (s7))))))
    (c8:∀ W,Calls Tryd.prog 73 #[.agg (ints .i64 (lims (x))),.agg (ints .i64 (lims (y)))] W (Ret W (.agg (ints .i64 (lims (s8))))))
    (c9:∀ W,Calls Tryd.prog 73 #[.agg (ints .i64 (lims (u))),.agg (ints .i64 (lims (v)))] W (Ret W (.agg (ints .i64 (lims (s9))))))
    (c10:∀ W,Calls Tryd.prog 58 #[.agg (ints .i64 (lims (s8))),.agg (ints .i64 (lims (s9)))] W (Ret W (.agg (ints .i64 (lims (s10))))))
    (c11:∀ W,Calls Tryd.prog 76 #[.agg (ints .i64 (lims (s10))),.agg (ints .i64 (lims (s2)))] W (Ret W (.agg (ints .i64 (lims (s11))))))
    (c12:∀ W,Calls Tryd.prog 76 #[.agg (ints .i64 (lims (s11))),.agg (ints .i64 (lims (s3)))] W (Ret W (.agg (ints .i64 (lims (s12))))))
    (c13:∀ W,Calls Tryd.prog 58 #[.agg (ints .i64 (lims (s6))),.agg (ints .i64 (lims (s12)))] W (Ret W (.agg (ints .i64 (lims (s13))))))
    (c14:∀ W,Calls Tryd.prog 58 #[.agg (ints .i64 (lims (s0))),.agg (ints .i64 (lims (s13)))] W (Ret W (.agg (ints .i64 (lims (s14))))))
    (c15:∀ W,Calls Tryd.prog 73 #[.agg (ints .i64 (lims (s3))),.agg (ints .i64 (lims (s2)))] W (Ret W (.agg (ints .i64 (lims (s15))))))
    (c16:∀ W,Calls Tryd.prog 58 #[.agg (ints .i64 (lims (s7))),.agg (ints .i64 (lims (s15)))] W (Ret W (.agg (ints .i64 (lims (s16))))))
    (c17:∀ W,Calls Tryd.prog 58 #[.agg (ints .i64 (lims (s0))),.agg (ints .i64 (lims (s16)))] W (Ret W (.agg (ints .i64 (lims (s17))))))
    (c18:∀ W,Calls Tryd.prog 58 #[.agg (ints .i64 (lims (s6))),.agg (ints .i64 (lims (s7)))] W (Ret W (.agg (ints .i64 (lims (s18)))))) (w:World) :
    Calls Tryd.prog 39 #[.agg (cat [ints .i64 (lims (x)),ints .i64 (lims (y)),ints .i64 (lims (z))]),.agg (cat [ints .i64 (lims (u)),ints .i64 (lims (v)),ints .i64 (lims (t))])] w (Ret w (.agg (cat [ints .i64 (lims (s14)),ints .i64 (lims (s17)),ints .i64 (lims (s18))]))):=by
  refine enter 73 [(0,.agg (cat [ints .i64 (lims (x)),ints .i64 (lims (y)),ints .i64 (lims (z))])),(1,.agg (cat [ints .i64 (lims (u)),ints .i64 (lims (v)),ints .i64 (lims (t))]))] Tryd.func39 rfl rfl kj rfl ?_
  refine wp_seq_k fun K1 hK1=>?_
  refine Qac ?_
  refine Qaj (cat [ints .i64 (lims (x)),ints .i64 (lims (y)),ints .i64 (lims (z))]) 60 2 rfl kj kj fun g2 W1 l2 e1 r2_1=>?_
  have x1:Ext w W1:=Ext.tr (Rely.Ext.refl w) e1
  have b2:w.heap.size≤g2:=qT (Rely.Ext.refl w).size l2
  refine Qaj (cat [ints .i64 (lims (u)),ints .i64 (lims (v)),ints .i64 (lims (t))]) 60 3 rfl kj kj fun g3 W2 l3 e2 r3_2=>?_
  have x2:Ext w W2:=Ext.tr x1 e2
  have b3:w.heap.size≤g3:=qT x1.size l3
  refine Qaj (cat [ints .i64 (lims (0)),ints .i64 (lims (0)),ints .i64 (lims (0))]) 60 4 rfl kj kj fun g4 W3 l4 e3 r4_3=>?_
  have x3:Ext w W3:=Ext.tr x2 e3
  have b4:w.heap.size≤g4:=qT x2.size l4
  refine Qaf ?_
  refine hK1 _ _ ?_
  refine wp_seq_k fun K5 hK5=>?_
  refine Qac ?_
  refine Qab (.pointer (some ⟨g2,32,none⟩)) 13 rfl kj kj ?_
  have r2_3:=(Qaa (Qaa r2_1 e2) e3)
  refine Qab (.agg (ints .i64 (lims (z)))) 14 rfl kj (Qaw 58 _ g2 32 60 _ _ _ r2_3 rfl kj (QaH [ints .i64 (lims (x)),ints .i64 (lims (y))] [ints .i64 (lims (z))] [] 32 kj) kj (isz (n:=16) kj kj)) ?_
  refine Qab (.pointer (some ⟨g3,32,none⟩)) 15 rfl kj kj ?_
  have r3_3:=(Qaa r3_2 e3)
  refine Qab (.agg (ints .i64 (lims (t)))) 16 rfl kj (Qaw 58 _ g3 32 60 _ _ _ r3_3 rfl kj (QaH [ints .i64 (lims (u)),ints .i64 (lims (v))] [ints .i64 (lims (t))] [] 32 kj) kj (isz (n:=16) kj kj)) ?_
  refine Qar (.agg (ints .i64 (lims (s0)))) 58 #[.agg (ints .i64 (lims (z))),.agg (ints .i64 (lims (t)))] 17 rfl kj kj (c0 _) fun W4 e4=>?_
  have x4:Ext w W4:=Ext.tr x3 e4
  refine Qaj (ints .i64 (lims (0))) 58 5 rfl kj kj fun g6 W5 l6 e5 r6_5=>?_
  have x5:Ext w W5:=Ext.tr x4 e5
  have b6:w.heap.size≤g6:=qT x4.size l6
  refine Qak g6 _ (ints .i64 (lims (s0))) 58 r6_5 rfl kj (Qah 58 _ _ g6 58 _ _ r6_5 rfl kj kj (isz (n:=16) kj kj) (eqsz (n:=16) kj kj) kj) fun W6 p6 r6_6=>?_
  have x6:Ext w W6:=Puts.ext p6 x5 b6
  refine Qaf ?_
  refine hK5 _ _ ?_
  refine wp_seq_k fun K7 hK7=>?_
  refine Qac ?_
  refine Qab (.agg (ints .i64 (lims (s0)))) 18 rfl kj (Qag 58 _ g6 58 _ _ r6_6 rfl kj kj (isz (n:=16) kj kj)) ?_
  refine Qab (.agg (ints .i64 (lims (s0)))) 19 rfl kj (Qag 58 _ g6 58 _ _ r6_6 rfl kj kj (isz (n:=16) kj kj)) ?_
  refine Qar (.agg (ints .i64 (lims (s1)))) 58 #[.agg (ints .i64 (lims (s0))),.agg (ints .i64 (lims (s0)))] 20 rfl kj kj (c1 _) fun W7 e7=>?_
  have x7:Ext w W7:=Ext.tr x6 e7
  refine Qaj (ints .i64 (lims (0))) 58 6 rfl kj kj fun g8 W8 l8 e8 r8_8=>?_
  have x8:Ext w W8:=Ext.tr x7 e8
  have b8:w.heap.size≤g8:=qT x7.size l8
  refine Qak g8 _ (ints .i64 (lims (s1))) 58 r8_8 rfl kj (Qah 58 _ _ g8 58 _ _ r8_8 rfl kj kj (isz (n:=16) kj kj) (eqsz (n:=16) kj kj) kj) fun W9 p9 r8_9=>?_
  have x9:Ext w W9:=Puts.ext p9 x8 b8
  refine Qaf ?_
  refine hK7 _ _ ?_
  refine wp_seq_k fun K9 hK9=>?_
  refine Qac ?_
  refine Qab (.pointer (some ⟨g2,0,none⟩)) 21 rfl kj kj ?_
  have r2_4:=(Qaa r2_3 e4)
  have r2_7:=(Qaa (Puts.row p6 (Qaa r2_4 e5) (Qad r2_4 l6)) e7)
  have r2_9:=(Puts.row p9 (Qaa (Qaa (Puts.row p6 (Qaa (Qaa r2_3 e4) e5) (Qad r2_4 l6)) e7) e8) (Qad r2_7 l8))
  refine Qab (.agg (ints .i64 (lims (x)))) 22 rfl kj (Qaw 58 _ g2 0 60 _ _ _ r2_9 rfl kj (QaH [] [ints .i64 (lims (x))] [ints .i64 (lims (y)),ints .i64 (lims (z))] 0 kj) kj (isz (n:=16) kj kj)) ?_
  refine Qab (.pointer (some ⟨g3,0,none⟩)) 23 rfl kj kj ?_
  have r3_4:=(Qaa r3_3 e4)
  have r3_7:=(Qaa (Puts.row p6 (Qaa r3_4 e5) (Qad r3_4 l6)) e7)
  have r3_9:=(Puts.row p9 (Qaa (Qaa (Puts.row p6 (Qaa (Qaa r3_3 e4) e5) (Qad r3_4 l6)) e7) e8) (Qad r3_7 l8))
  refine Qab (.agg (ints .i64 (lims (u)))) 24 rfl kj (Qaw 58 _ g3 0 60 _ _ _ r3_9 rfl kj (QaH [] [ints .i64 (lims (u))] [ints .i64 (lims (v)),ints .i64 (lims (t))] 0 kj) kj (isz (n:=16) kj kj)) ?_
  refine Qar (.agg (ints .i64 (lims (s2)))) 58 #[.agg (ints .i64 (lims (x))),.agg (ints .i64 (lims (u)))] 25 rfl kj kj (c2 _) fun W10 e10=>?_
  have x10:Ext w W10:=Ext.tr x9 e10
  refine Qaj (ints .i64 (lims (0))) 58 7 rfl kj kj fun g10 W11 l10 e11 r10_11=>?_
  have x11:Ext w W11:=Ext.tr x10 e11
  have b10:w.heap.size≤g10:=qT x10.size l10
  refine Qak g10 _ (ints .i64 (lims (s2))) 58 r10_11 rfl kj (Qah 58 _ _ g10 58 _ _ r10_11 rfl kj kj (isz (n:=16) kj kj) (eqsz (n:=16) kj kj) kj) fun W12 p12 r10_12=>?_
  have x12:Ext w W12:=Puts.ext p12 x11 b10
  refine Qaf ?_
  refine hK9 _ _ ?_
  refine wp_seq_k fun K11 hK11=>?_
  refine Qac ?_
  refine Qab (.pointer (some ⟨g2,16,none⟩)) 26 rfl kj kj ?_
  have r2_10:=(Qaa r2_9 e10)
  have r2_12:=(Puts.row p12 (Qaa (Qaa r2_9 e10) e11) (Qad r2_10 l10))
  refine Qab (.agg (ints .i64 (lims (y)))) 27 rfl kj (Qaw 58 _ g2 16 60 _ _ _ r2_12 rfl kj (QaH [ints .i64 (lims (x))] [ints .i64 (lims (y))] [ints .i64 (lims (z))] 16 kj) kj (isz (n:=16) kj kj)) ?_
  refine Qab (.pointer (some ⟨g3,16,none⟩)) 28 rfl kj kj ?_
  have r3_10:=(Qaa r3_9 e10)
  have r3_12:=(Puts.row p12 (Qaa (Qaa r3_9 e10) e11) (Qad r3_10 l10))
  refine Qab (.agg (ints .i64 (lims (v)))) 29 rfl kj (Qaw 58 _ g3 16 60 _ _ _ r3_12 rfl kj (QaH [ints .i64 (lims (u))] [ints .i64 (lims (v))] [ints .i64 (lims (t))] 16 kj) kj (isz (n:=16) kj kj)) ?_
  refine Qar (.agg (ints .i64 (lims (s3)))) 58 #[.agg (ints .i64 (lims (y))),.agg (ints .i64 (lims (v)))] 30 rfl kj kj (c3 _) fun W13 e13=>?_
  have x13:Ext w W13:=Ext.tr x12 e13
  refine Qaj (ints .i64 (lims (0))) 58 8 rfl kj kj fun g12 W14 l12 e14 r12_14=>?_
  have x14:Ext w W14:=Ext.tr x13 e14
  have b12:w.heap.size≤g12:=qT x13.size l12
  refine Qak g12 _ (ints .i64 (lims (s3))) 58 r12_14 rfl kj (Qah 58 _ _ g12 58 _ _ r12_14 rfl kj kj (isz (n:=16) kj kj) (eqsz (n:=16) kj kj) kj) fun W15 p15 r12_15=>?_
  have x15:Ext w W15:=Puts.ext p15 x14 b12
  refine Qaf ?_
  refine hK11 _ _ ?_
  refine wp_seq_k fun K13 hK13=>?_
  refine Qbd 6 [⟨none,[]⟩,⟨none,[(7,none)]⟩,⟨none,[(8,none)]⟩,⟨none,[(32,some 1),(33,some 2)]⟩,⟨none,[(31,some 0),(34,some 3)]⟩,⟨none,[]⟩] [5] kj kj kj fun F hF=>?_
  refine Qau (.agg (ints .i64 (lims (dN)))) 74 #[] kj kj (fun W=>kj) (fun W hR=>factor W) ?_
  have r10_13:=(Qaa r10_12 e13)
  have r10_15:=(Puts.row p15 (Qaa (Qaa r10_12 e13) e14) (Qad r10_13 l12))
  refine Qaq (.agg (ints .i64 (lims (s2)))) kj kj (fun W hR=>(Qag 58 _ g10 58 _ _ (Qaa (Qaa r10_15 (Qai _)) hR) rfl kj kj (isz (n:=16) kj kj))) ?_
  refine Qaq (.agg (ints .i64 (lims (s3)))) kj kj (fun W hR=>(Qag 58 _ g12 58 _ _ (Qaa (Qaa r12_15 (Qai _)) hR) rfl kj kj (isz (n:=16) kj kj))) ?_
  refine Qau (.agg (ints .i64 (lims (s4)))) 58 #[.agg (ints .i64 (lims (s2))),.agg (ints .i64 (lims (s3)))] kj kj (fun W=>kj) (fun W hR=>c4 W) ?_
  refine Qau (.agg (ints .i64 (lims (s5)))) 58 #[.agg (ints .i64 (lims (dN))),.agg (ints .i64 (lims (s4)))] kj kj (fun W=>kj) (fun W hR=>c5 W) ?_
  refine QbN (ints .i64 (lims (0))) 58 kj (qR _) kj (fun W=>kj) ?_
  refine Qa9 (hF _ kj fun W16 e16=>?_)
  simp only [fins,up,List.take_succ_cons,List.take_zero,List.drop_succ_cons,List.drop_zero,List.nil_append,List.cons_append]
  intro g14 l14 r14_16 n14
  have b14:w.heap.size≤g14:=qT x15.size l14
  clear hF
  have x16:Ext w W16:=Ext.tr x15 e16
  refine Qak g14 _ (ints .i64 (lims (s5))) 58 r14_16 rfl kj (Qah 58 _ _ g14 58 _ _ r14_16 rfl kj kj (isz (n:=16) kj kj) (eqsz (n:=16) kj kj) kj) fun W17 p17 r14_17=>?_
  have x17:Ext w W17:=Puts.ext p17 x16 b14
  refine Qaf ?_
  refine hK13 _ _ ?_
  refine wp_seq_k fun K15 hK15=>?_
  refine Qac ?_
  have r8_10:=(Qaa r8_9 e10)
  have r8_13:=(Qaa (Puts.row p12 (Qaa r8_10 e11) (Qad r8_10 l10)) e13)
  have r8_15:=(Puts.row p15 (Qaa r8_13 e14) (Qad r8_13 l12))
  have r8_17:=(Puts.row p17 (Qaa (Puts.row p15 (Qaa (Qaa (Puts.row p12 (Qaa (Qaa r8_9 e10) e11) (Qad r8_10 l10)) e13) e14) (Qad r8_13 l12)) e16) (Qad r8_15 l14))
  refine Qab (.agg (ints .i64 (lims (s1)))) 36 rfl kj (Qag 58 _ g8 58 _ _ r8_17 rfl kj kj (isz (n:=16) kj kj)) ?_
  refine Qab (.agg (ints .i64 (lims (s5)))) 37 rfl kj (Qag 58 _ g14 58 _ _ r14_17 rfl kj kj (isz (n:=16) kj kj)) ?_
  refine Qar (.agg (ints .i64 (lims (s6)))) 76 #[.agg (ints .i64 (lims (s1))),.agg (ints .i64 (lims (s5)))] 38 rfl kj kj (c6 _) fun W18 e18=>?_
  have x18:Ext w W18:=Ext.tr x17 e18
  refine Qaj (ints .i64 (lims (0))) 58 10 rfl kj kj fun g16 W19 l16 e19 r16_19=>?_
  have x19:Ext w W19:=Ext.tr x18 e19
  have b16:w.heap.size≤g16:=qT x18.size l16
  refine Qak g16 _ (ints .i64 (lims (s6))) 58 r16_19 rfl kj (Qah 58 _ _ g16 58 _ _ r16_19 rfl kj kj (isz (n:=16) kj kj) (eqsz (n:=16) kj kj) kj) fun W20 p20 r16_20=>?_
  have x20:Ext w W20:=Puts.ext p20 x19 b16
  refine Qaf ?_
  refine hK15 _ _ ?_
  refine wp_seq_k fun K17 hK17=>?_
  refine Qac ?_
  have r8_18:=(Qaa r8_17 e18)
  have r8_20:=(Puts.row p20 (Qaa (Qaa r8_17 e18) e19) (Qad r8_18 l16))
  refine Qab (.agg (ints .i64 (lims (s1)))) 39 rfl kj (Qag 58 _ g8 58 _ _ r8_20 rfl kj kj (isz (n:=16) kj kj)) ?_
  have r14_18:=(Qaa r14_17 e18)
  have r14_20:=(Puts.row p20 (Qaa (Qaa r14_17 e18) e19) (Qad r14_18 l16))
  refine Qab (.agg (ints .i64 (lims (s5)))) 40 rfl kj (Qag 58 _ g14 58 _ _ r14_20 rfl kj kj (isz (n:=16) kj kj)) ?_
  refine Qar (.agg (ints .i64 (lims (s7)))) 73 #[.agg (ints .i64 (lims (s1))),.agg (ints .i64 (lims (s5)))] 41 rfl kj kj (c7 _) fun W21 e21=>?_
  have x21:Ext w W21:=Ext.tr x20 e21
  refine Qaj (ints .i64 (lims (0))) 58 11 rfl kj kj fun g18 W22 l18 e22 r18_22=>?_
  have x22:Ext w W22:=Ext.tr x21 e22
  have b18:w.heap.size≤g18:=qT x21.size l18
  refine Qak g18 _ (ints .i64 (lims (s7))) 58 r18_22 rfl kj (Qah 58 _ _ g18 58 _ _ r18_22 rfl kj kj (isz (n:=16) kj kj) (eqsz (n:=16) kj kj) kj) fun W23 p23 r18_23=>?_
  have x23:Ext w W23:=Puts.ext p23 x22 b18
  refine Qaf ?_
  refine hK17 _ _ ?_
  refine wp_seq_k fun K19 hK19=>?_
  refine Qbd 16 [⟨none,[(2,none)]⟩,⟨none,[(42,some 0)]⟩,⟨none,[(2,none)]⟩,⟨none,[(44,some 2)]⟩,⟨none,[(43,some 1),(45,some 3)]⟩,⟨none,[(3,none)]⟩,⟨none,[(47,some 5)]⟩,⟨none,[(3,none)]⟩,⟨none,[(49,some 7)]⟩,⟨none,[(48,some 6),(50,some 8)]⟩,⟨none,[(46,some 4),(51,some 9)]⟩,⟨none,[(7,none)]⟩,⟨none,[(52,some 10),(53,some 11)]⟩,⟨none,[(8,none)]⟩,⟨none,[(54,some 12),(55,some 13)]⟩,⟨none,[]⟩] [15] kj kj kj fun F hF=>?_
  refine Qav (.pointer (some ⟨g2,0,none⟩)) kj kj (fun W=>kj) ?_
  have r2_13:=(Qaa r2_12 e13)
  have r2_15:=(Puts.row p15 (Qaa r2_13 e14) (Qad r2_13 l12))
  have r2_18:=(Qaa (Puts.row p17 (Qaa r2_15 e16) (Qad r2_15 l14)) e18)
  have r2_21:=(Qaa (Puts.row p20 (Qaa r2_18 e19) (Qad r2_18 l16)) e21)
  have r2_23:=(Puts.row p23 (Qaa (Qaa (Puts.row p20 (Qaa (Qaa (Puts.row p17 (Qaa (Puts.row p15 (Qaa (Qaa r2_12 e13) e14) (Qad r2_13 l12)) e16) (Qad r2_15 l14)) e18) e19) (Qad r2_18 l16)) e21) e22) (Qad r2_21 l18))
  refine Qaq (.agg (ints .i64 (lims (x)))) kj kj (fun W hR=>(Qaw 58 _ g2 0 60 _ _ _ (Qaa (Qaa r2_23 (Qai _)) hR) rfl kj (QaH [] [ints .i64 (lims (x))] [ints .i64 (lims (y)),ints .i64 (lims (z))] 0 kj) kj (isz (n:=16) kj kj))) ?_
  refine Qav (.pointer (some ⟨g2,16,none⟩)) kj kj (fun W=>kj) ?_
  refine Qaq (.agg (ints .i64 (lims (y)))) kj kj (fun W hR=>(Qaw 58 _ g2 16 60 _ _ _ (Qaa (Qaa r2_23 (Qai _)) hR) rfl kj (QaH [ints .i64 (lims (x))] [ints .i64 (lims (y))] [ints .i64 (lims (z))] 16 kj) kj (isz (n:=16) kj kj))) ?_
  refine Qau (.agg (ints .i64 (lims (s8)))) 73 #[.agg (ints .i64 (lims (x))),.agg (ints .i64 (lims (y)))] kj kj (fun W=>kj) (fun W hR=>c8 W) ?_
  refine Qav (.pointer (some ⟨g3,0,none⟩)) kj kj (fun W=>kj) ?_
  have r3_13:=(Qaa r3_12 e13)
  have r3_15:=(Puts.row p15 (Qaa r3_13 e14) (Qad r3_13 l12))
  have r3_18:=(Qaa (Puts.row p17 (Qaa r3_15 e16) (Qad r3_15 l14)) e18)
  have r3_21:=(Qaa (Puts.row p20 (Qaa r3_18 e19) (Qad r3_18 l16)) e21)
  have r3_23:=(Puts.row p23 (Qaa (Qaa (Puts.row p20 (Qaa (Qaa (Puts.row p17 (Qaa (Puts.row p15 (Qaa (Qaa r3_12 e13) e14) (Qad r3_13 l12)) e16) (Qad r3_15 l14)) e18) e19) (Qad r3_18 l16)) e21) e22) (Qad r3_21 l18))
  refine Qaq (.agg (ints .i64 (lims (u)))) kj kj (fun W hR=>(Qaw 58 _ g3 0 60 _ _ _ (Qaa (Qaa r3_23 (Qai _)) hR) rfl kj (QaH [] [ints .i64 (lims (u))] [ints .i64 (lims (v)),ints .i64 (lims (t))] 0 kj) kj (isz (n:=16) kj kj))) ?_
  refine Qav (.pointer (some ⟨g3,16,none⟩)) kj kj (fun W=>kj) ?_
  refine Qaq (.agg (ints .i64 (lims (v)))) kj kj (fun W hR=>(Qaw 58 _ g3 16 60 _ _ _ (Qaa (Qaa r3_23 (Qai _)) hR) rfl kj (QaH [ints .i64 (lims (u))] [ints .i64 (lims (v))] [ints .i64 (lims (t))] 16 kj) kj (isz (n:=16) kj kj))) ?_
  refine Qau (.agg (ints .i64 (lims (s9)))) 73 #[.agg (ints .i64 (lims (u))),.agg (ints .i64 (lims (v)))] kj kj (fun W=>kj) (fun W hR=>c9 W) ?_
  refine Qau (.agg (ints .i64 (lims (s10)))) 58 #[.agg (ints .i64 (lims (s8))),.agg (ints .i64 (lims (s9)))] kj kj (fun W=>kj) (fun W hR=>c10 W) ?_
  have r10_18:=(Qaa (Puts.row p17 (Qaa r10_15 e16) (Qad r10_15 l14)) e18)
  have r10_21:=(Qaa (Puts.row p20 (Qaa r10_18 e19) (Qad r10_18 l16)) e21)
  have r10_23:=(Puts.row p23 (Qaa (Qaa (Puts.row p20 (Qaa (Qaa (Puts.row p17 (Qaa r10_15 e16) (Qad r10_15 l14)) e18) e19) (Qad r10_18 l16)) e21) e22) (Qad r10_21 l18))
  refine Qaq (.agg (ints .i64 (lims (s2)))) kj kj (fun W hR=>(Qag 58 _ g10 58 _ _ (Qaa (Qaa r10_23 (Qai _)) hR) rfl kj kj (isz (n:=16) kj kj))) ?_
  refine Qau (.agg (ints .i64 (lims (s11)))) 76 #[.agg (ints .i64 (lims (s10))),.agg (ints .i64 (lims (s2)))] kj kj (fun W=>kj) (fun W hR=>c11 W) ?_
  have r12_18:=(Qaa (Puts.row p17 (Qaa r12_15 e16) (Qad r12_15 l14)) e18)
  have r12_21:=(Qaa (Puts.row p20 (Qaa r12_18 e19) (Qad r12_18 l16)) e21)
  have r12_23:=(Puts.row p23 (Qaa (Qaa (Puts.row p20 (Qaa (Qaa (Puts.row p17 (Qaa r12_15 e16) (Qad r12_15 l14)) e18) e19) (Qad r12_18 l16)) e21) e22) (Qad r12_21 l18))
  refine Qaq (.agg (ints .i64 (lims (s3)))) kj kj (fun W hR=>(Qag 58 _ g12 58 _ _ (Qaa (Qaa r12_23 (Qai _)) hR) rfl kj kj (isz (n:=16) kj kj))) ?_
  refine Qau (.agg (ints .i64 (lims (s12)))) 76 #[.agg (ints .i64 (lims (s11))),.agg (ints .i64 (lims (s3)))] kj kj (fun W=>kj) (fun W hR=>c12 W) ?_
  refine QbN (ints .i64 (lims (0))) 58 kj (qR _) kj (fun W=>kj) ?_
  refine Qa9 (hF _ kj fun W24 e24=>?_)
  simp only [fins,up,List.take_succ_cons,List.take_zero,List.drop_succ_cons,List.drop_zero,List.nil_append,List.cons_append]
  intro g20 l20 r20_24 n20
  have b20:w.heap.size≤g20:=qT x23.size l20
  clear hF
  have x24:Ext w W24:=Ext.tr x23 e24
  refine Qak g20 _ (ints .i64 (lims (s12))) 58 r20_24 rfl kj (Qah 58 _ _ g20 58 _ _ r20_24 rfl kj kj (isz (n:=16) kj kj) (eqsz (n:=16) kj kj) kj) fun W25 p25 r20_25=>?_
  have x25:Ext w W25:=Puts.ext p25 x24 b20
  refine Qaf ?_
  refine hK19 _ _ ?_
  refine wp_seq_k fun K21 hK21=>?_
  refine QaK 16 [⟨none,[(5,none)]⟩,⟨none,[(10,none)]⟩,⟨none,[(12,none)]⟩,⟨none,[(58,some 1),(59,some 2)]⟩,⟨none,[(57,some 0),(60,some 3)]⟩,⟨none,[(5,none)]⟩,⟨none,[(11,none)]⟩,⟨none,[(8,none)]⟩,⟨none,[(7,none)]⟩,⟨none,[(64,some 7),(65,some 8)]⟩,⟨none,[(63,some 6),(66,some 9)]⟩,⟨none,[(62,some 5),(67,some 10)]⟩,⟨none,[(10,none)]⟩,⟨none,[(11,none)]⟩,⟨none,[(69,some 12),(70,some 13)]⟩,⟨none,[(61,some 4),(68,some 11),(71,some 14)]⟩] kj kj fun F hF=>?_
  have r6_7:=(Qaa r6_6 e7)
  have r6_10:=(Qaa (Puts.row p9 (Qaa r6_7 e8) (Qad r6_7 l8)) e10)
  have r6_13:=(Qaa (Puts.row p12 (Qaa r6_10 e11) (Qad r6_10 l10)) e13)
  have r6_15:=(Puts.row p15 (Qaa r6_13 e14) (Qad r6_13 l12))
  have r6_18:=(Qaa (Puts.row p17 (Qaa r6_15 e16) (Qad r6_15 l14)) e18)
  have r6_21:=(Qaa (Puts.row p20 (Qaa r6_18 e19) (Qad r6_18 l16)) e21)
  have r6_23:=(Puts.row p23 (Qaa r6_21 e22) (Qad r6_21 l18))
  have r6_25:=(Puts.row p25 (Qaa (Puts.row p23 (Qaa (Qaa (Puts.row p20 (Qaa (Qaa (Puts.row p17 (Qaa (Puts.row p15 (Qaa (Qaa (Puts.row p12 (Qaa (Qaa (Puts.row p9 (Qaa (Qaa r6_6 e7) e8) (Qad r6_7 l8)) e10) e11) (Qad r6_10 l10)) e13) e14) (Qad r6_13 l12)) e16) (Qad r6_15 l14)) e18) e19) (Qad r6_18 l16)) e21) e22) (Qad r6_21 l18)) e24) (Qad r6_23 l20))
  refine Qaq (.agg (ints .i64 (lims (s0)))) kj kj (fun W hR=>(Qag 58 _ g6 58 _ _ (Qaa (Qaa r6_25 (Qai _)) hR) rfl kj kj (isz (n:=16) kj kj))) ?_
  have r16_21:=(Qaa r16_20 e21)
  have r16_23:=(Puts.row p23 (Qaa r16_21 e22) (Qad r16_21 l18))
  have r16_25:=(Puts.row p25 (Qaa (Puts.row p23 (Qaa (Qaa r16_20 e21) e22) (Qad r16_21 l18)) e24) (Qad r16_23 l20))
  refine Qaq (.agg (ints .i64 (lims (s6)))) kj kj (fun W hR=>(Qag 58 _ g16 58 _ _ (Qaa (Qaa r16_25 (Qai _)) hR) rfl kj kj (isz (n:=16) kj kj))) ?_
  refine Qaq (.agg (ints .i64 (lims (s12)))) kj kj (fun W hR=>(Qag 58 _ g20 58 _ _ (Qaa (Qaa r20_25 (Qai _)) hR) rfl kj kj (isz (n:=16) kj kj))) ?_
  refine Qau (.agg (ints .i64 (lims (s13)))) 58 #[.agg (ints .i64 (lims (s6))),.agg (ints .i64 (lims (s12)))] kj kj (fun W=>kj) (fun W hR=>c13 W) ?_
  refine Qau (.agg (ints .i64 (lims (s14)))) 58 #[.agg (ints .i64 (lims (s0))),.agg (ints .i64 (lims (s13)))] kj kj (fun W=>kj) (fun W hR=>c14 W) ?_
  refine Qaq (.agg (ints .i64 (lims (s0)))) kj kj (fun W hR=>(Qag 58 _ g6 58 _ _ (Qaa (Qaa r6_25 (Qai _)) hR) rfl kj kj (isz (n:=16) kj kj))) ?_
  have r18_25:=(Puts.row p25 (Qaa r18_23 e24) (Qad r18_23 l20))
  refine Qaq (.agg (ints .i64 (lims (s7)))) kj kj (fun W hR=>(Qag 58 _ g18 58 _ _ (Qaa (Qaa r18_25 (Qai _)) hR) rfl kj kj (isz (n:=16) kj kj))) ?_
  have r12_25:=(Puts.row p25 (Qaa r12_23 e24) (Qad r12_23 l20))
  refine Qaq (.agg (ints .i64 (lims (s3)))) kj kj (fun W hR=>(Qag 58 _ g12 58 _ _ (Qaa (Qaa r12_25 (Qai _)) hR) rfl kj kj (isz (n:=16) kj kj))) ?_
  have r10_25:=(Puts.row p25 (Qaa r10_23 e24) (Qad r10_23 l20))
  refine Qaq (.agg (ints .i64 (lims (s2)))) kj kj (fun W hR=>(Qag 58 _ g10 58 _ _ (Qaa (Qaa r10_25 (Qai _)) hR) rfl kj kj (isz (n:=16) kj kj))) ?_
  refine Qau (.agg (ints .i64 (lims (s15)))) 73 #[.agg (ints .i64 (lims (s3))),.agg (ints .i64 (lims (s2)))] kj kj (fun W=>kj) (fun W hR=>c15 W) ?_
  refine Qau (.agg (ints .i64 (lims (s16)))) 58 #[.agg (ints .i64 (lims (s7))),.agg (ints .i64 (lims (s15)))] kj kj (fun W=>kj) (fun W hR=>c16 W) ?_
  refine Qau (.agg (ints .i64 (lims (s17)))) 58 #[.agg (ints .i64 (lims (s0))),.agg (ints .i64 (lims (s16)))] kj kj (fun W=>kj) (fun W hR=>c17 W) ?_
  refine Qaq (.agg (ints .i64 (lims (s6)))) kj kj (fun W hR=>(Qag 58 _ g16 58 _ _ (Qaa (Qaa r16_25 (Qai _)) hR) rfl kj kj (isz (n:=16) kj kj))) ?_
  refine Qaq (.agg (ints .i64 (lims (s7)))) kj kj (fun W hR=>(Qag 58 _ g18 58 _ _ (Qaa (Qaa r18_25 (Qai _)) hR) rfl kj kj (isz (n:=16) kj kj))) ?_
  refine Qau (.agg (ints .i64 (lims (s18)))) 58 #[.agg (ints .i64 (lims (s6))),.agg (ints .i64 (lims (s7)))] kj kj (fun W=>kj) (fun W hR=>c18 W) ?_
  refine Qav (.agg (cat [ints .i64 (lims (s14)),ints .i64 (lims (s17)),ints .i64 (lims (s18))])) kj kj (fun W=>kj) ?_
  refine Qa9 (hF _ kj fun W26 e26=>?_)
  simp only [ups,up,Kn.val,List.take_succ_cons,List.take_zero,List.drop_succ_cons,List.drop_zero,List.nil_append,List.cons_append]
  clear hF
  have x26:Ext w W26:=Ext.tr x25 e26
  have r4_4:=(Qaa r4_3 e4)
  have r4_7:=(Qaa (Puts.row p6 (Qaa r4_4 e5) (Qad r4_4 l6)) e7)
  have r4_10:=(Qaa (Puts.row p9 (Qaa r4_7 e8) (Qad r4_7 l8)) e10)
  have r4_13:=(Qaa (Puts.row p12 (Qaa r4_10 e11) (Qad r4_10 l10)) e13)
  have r4_15:=(Puts.row p15 (Qaa r4_13 e14) (Qad r4_13 l12))
  have r4_18:=(Qaa (Puts.row p17 (Qaa r4_15 e16) (Qad r4_15 l14)) e18)
  have r4_21:=(Qaa (Puts.row p20 (Qaa r4_18 e19) (Qad r4_18 l16)) e21)
  have r4_23:=(Puts.row p23 (Qaa r4_21 e22) (Qad r4_21 l18))
  have r4_26:=(Qaa (Puts.row p25 (Qaa (Puts.row p23 (Qaa (Qaa (Puts.row p20 (Qaa (Qaa (Puts.row p17 (Qaa (Puts.row p15 (Qaa (Qaa (Puts.row p12 (Qaa (Qaa (Puts.row p9 (Qaa (Qaa (Puts.row p6 (Qaa (Qaa r4_3 e4) e5) (Qad r4_4 l6)) e7) e8) (Qad r4_7 l8)) e10) e11) (Qad r4_10 l10)) e13) e14) (Qad r4_13 l12)) e16) (Qad r4_15 l14)) e18) e19) (Qad r4_18 l16)) e21) e22) (Qad r4_21 l18)) e24) (Qad r4_23 l20)) e26)
  refine Qak g4 _ (cat [ints .i64 (lims (s14)),ints .i64 (lims (s17)),ints .i64 (lims (s18))]) 60 r4_26 rfl kj (Qah 60 _ _ g4 60 _ _ r4_26 rfl kj kj (isz (n:=48) kj kj) (eqsz (n:=48) kj kj) kj) fun W27 p27 r4_27=>?_
  have x27:Ext w W27:=Puts.ext p27 x26 b4
  refine Qaf ?_
  refine hK21 _ _ ?_
  refine wp_ret ?_
  exact (show bodyPost _ _ _ .ret _ _ from ret1 (.agg (cat [ints .i64 (lims (s14)),ints .i64 (lims (s17)),ints .i64 (lims (s18))])) rfl (QaC g4 60 _ r4_27 kj kj (isz (n:=48) kj kj)) ⟨rfl,x27⟩)
theorem QqZ (x y z u v t:Int) (h_x:isN x) (h_y:isN y) (h_z:isN z) (h_u:isN u) (h_v:isN v) (h_t:isN t) (w:World):Calls Tryd.prog 39 #[.agg (cat [ints .i64 (lims (x)),ints .i64 (lims (y)),ints .i64 (lims (z))]),.agg (cat [ints .i64 (lims (u)),ints .i64 (lims (v)),ints .i64 (lims (t))])] w (Ret w (.agg (cat [ints .i64 (lims ((QdU x y z u v t).1)),ints .i64 (lims ((QdU x y z u v t).2.1)),ints .i64 (lims ((QdU x y z u v t).2.2))]))) :=
  Qk6 x y z u v t h_x h_y h_z h_u h_v h_t _ _ _ _ _ _ _ _ _ _ _ _ _ _ _ _ _ _ _ (QdV _ _ h_z h_t) (QdV _ _ (Qa0 _) (Qa0 _)) (QdV _ _ h_x h_u) (QdV _ _ h_y h_v) (QdV _ _ (Qa0 _) (Qa0 _)) (QdV _ _ QeE (Qa0 _)) (Qpa _ _ (Qa0 _) (Qa0 _)) (QmM _ _ (Qa0 _) (Qa0 _)) (QmM _ _ h_x h_y) (QmM _ _ h_u h_v) (QdV _ _ (Qa0 _) (Qa0 _)) (Qpa _ _ (Qa0 _) (Qa0 _)) (Qpa _ _ (Qa0 _) (Qa0 _)) (QdV _ _ (Qa0 _) (Qa0 _)) (QdV _ _ (Qa0 _) (Qa0 _)) (QmM _ _ (Qa0 _) (Qa0 _)) (QdV _ _ (Qa0 _) (Qa0 _)) (QdV _ _ (Qa0 _) (Qa0 _)) (QdV _ _ (Qa0 _) (Qa0 _)) w
theorem Qmi (x y z u v t:Int) (h_x:isN x) (h_y:isN y) (h_z:isN z) (h_u:isN u) (h_v:isN v) (h_t:isN t):isN (QdU x y z u v t).1∧isN (QdU x y z u v t).2.1∧isN (QdU x y z u v t).2.2:=⟨(Qa0 _),(Qa0 _),(Qa0 _)⟩
def QkF  : Int×Int :=
  let s0:=(patF bxN byN).1
  let s1:=(patF bxN byN).2
  (s0,s1)
theorem QjL   (s0 s1:Int)
    (c0:∀ W,Calls Tryd.prog 43 #[.agg (numA (bxN)),.agg (numA (byN))] W (Ret W (.agg (cat [numA (s0),numA (s1)])))) (w:World) (tX:TypeId) (hX:w.heap[0]? = some (.cells (ints .u8 QbH) tX)) (tY:TypeId) (hY:w.heap[1]? = some (.cells (ints .u8 QbG) tY)) :
    Calls Tryd.prog 20 #[] w (Ret w (.agg (cat [numA (s0),numA (s1)]))):=by
  refine enter 6 [] Tryd.func20 rfl rfl kj rfl ?_
  refine wp_seq_k fun K3 hK3=>?_
  refine Qac ?_
  refine Qaj (cat [numA (0),numA (0)]) 51 0 rfl kj kj fun g4 W1 l4 e1 r4_1=>?_
  have x1:Ext w W1:=Ext.tr (Rely.Ext.refl w) e1
  have b4:w.heap.size≤g4:=qT (Rely.Ext.refl w).size l4
  refine Qaf ?_
  refine hK3 _ _ ?_
  refine wp_seq_k fun K5 hK5=>?_
  refine QaK 5 [⟨none,[]⟩,⟨none,[(1,some 0)]⟩,⟨none,[]⟩,⟨none,[(3,some 2)]⟩,⟨none,[(2,some 1),(4,some 3)]⟩] kj kj fun F hF=>?_
  have r1_1:=(Qaa hX e1)
  refine Qaq (.agg (ints .u8 (QbH))) kj kj (fun W hR=>(Qag 23 _ 0 tX _ _ (Qaa (Qaa r1_1 (Qai _)) hR) rfl kj kj (isz (n:=32) kj ((Qae _ _).trans (by decide))))) ?_
  refine Qau (.agg (numA (bxN))) 44 #[.agg (ints .u8 (QbH))] kj kj (fun W=>kj) (fun W hR=>from_bx W) ?_
  have r2_1:=(Qaa hY e1)
  refine Qaq (.agg (ints .u8 (QbG))) kj kj (fun W hR=>(Qag 23 _ 1 tY _ _ (Qaa (Qaa r2_1 (Qai _)) hR) rfl kj kj (isz (n:=32) kj ((Qae _ _).trans (by decide))))) ?_
  refine Qau (.agg (numA (byN))) 44 #[.agg (ints .u8 (QbG))] kj kj (fun W=>kj) (fun W hR=>from_by W) ?_
  refine Qau (.agg (cat [numA (s0),numA (s1)])) 43 #[.agg (numA (bxN)),.agg (numA (byN))] kj kj (fun W=>kj) (fun W hR=>c0 W) ?_
  refine Qa9 (hF _ kj fun W2 e2=>?_)
  simp only [ups,up,Kn.val,List.take_succ_cons,List.take_zero,List.drop_succ_cons,List.drop_zero,List.nil_append,List.cons_append]
  clear hF
  have x2:Ext w W2:=Ext.tr x1 e2
  have r4_2:=(Qaa r4_1 e2)
  refine Qak g4 _ (cat [numA (s0),numA (s1)]) 51 r4_2 rfl kj (Qah 51 _ _ g4 51 _ _ r4_2 rfl kj kj (isz (n:=8) kj kj) (eqsz (n:=8) kj kj) kj) fun W3 p3 r4_3=>?_
  have x3:Ext w W3:=Puts.ext p3 x2 b4
  refine Qaf ?_
  refine hK5 _ _ ?_
  refine wp_ret ?_
  exact (show bodyPost _ _ _ .ret _ _ from ret1 (.agg (cat [numA (s0),numA (s1)])) rfl (QaC g4 51 _ r4_3 kj kj (isz (n:=8) kj kj)) ⟨rfl,x3⟩)
theorem Qqh   (w : World) (tX:TypeId) (hX:w.heap[0]? = some (.cells (ints .u8 QbH) tX)) (tY:TypeId) (hY:w.heap[1]? = some (.cells (ints .u8 QbG) tY)):Calls Tryd.prog 20 #[] w (Ret w (.agg (cat [numA ((QkF ).1),numA ((QkF ).2)]))) :=
  QjL   _ _ (patC _ _ Ql7 Ql6) w tX hX tY hY
end Go.Proofs.YtdoadngmgmdlbaaDoor.Field
end
section
namespace Go.Proofs.YtdoadngmgmdlbaaDoor.Field
open Go Go.RowKit
open Rely Auto
def enc (x y:Int):List Int:=if (x%2==1)=true then (Qao y).set 31 (nth (Qao y) 31+128) else Qao y
theorem Qis (x l:Int) (h_x:isN x) (h_l:isN l) (ho:(x%2==1)=true) (w:World):Calls Tryd.prog 22 #[.agg (cat [numA (x),numA (l)])] w (Ret w (.agg (ints .u8 ((Qao (pyF x l)).set 31 (nth (Qao (pyF x l)) 31+128))))):=by
  refine enter 15 [(0,.agg (cat [numA (x),numA (l)]))] Tryd.func22 rfl rfl kj rfl ?_
  refine wp_seq_k fun K1 hK1=>?_
  refine Qac ?_
  refine Qaj (cat [numA (x),numA (l)]) 51 1 rfl kj kj fun g2 W1 l2 e1 r2_1=>?_
  have x1:Ext w W1:=Ext.tr (Rely.Ext.refl w) e1
  have b2:w.heap.size≤g2:=qT (Rely.Ext.refl w).size l2
  refine Qaj (ints .u8 (List.replicate 32 0)) 23 2 rfl kj kj fun g3 W2 l3 e2 r3_2=>?_
  have x2:Ext w W2:=Ext.tr x1 e2
  have b3:w.heap.size≤g3:=qT x1.size l3
  refine Qaf ?_
  refine hK1 _ _ ?_
  refine wp_seq_k fun K4 hK4=>?_
  refine Qac ?_
  have r2_2:=(Qaa r2_1 e2)
  refine Qab (.agg (cat [numA (x),numA (l)])) 4 rfl kj (Qag 51 _ g2 51 _ _ r2_2 rfl kj kj (isz (n:=8) kj kj)) ?_
  refine Qar (.agg (numA (pyF x l))) 49 #[.agg (cat [numA (x),numA (l)])] 5 rfl kj kj ((pyC x l h_x h_l) _) fun W3 e3=>?_
  have x3:Ext w W3:=Ext.tr x2 e3
  refine Qar (.agg (ints .u8 (Qao (pyF x l)))) 50 #[.agg (numA (pyF x l))] 6 rfl kj kj ((bytes _ (Qhr x l h_x h_l)) _) fun W4 e4=>?_
  have x4:Ext w W4:=Ext.tr x3 e4
  refine Qaj (ints .u8 (List.replicate 32 0)) 23 3 rfl kj kj fun g5 W5 l5 e5 r5_5=>?_
  have x5:Ext w W5:=Ext.tr x4 e5
  have b5:w.heap.size≤g5:=qT x4.size l5
  refine Qak g5 _ (ints .u8 (Qao (pyF x l))) 23 r5_5 rfl kj (Qah 23 _ _ g5 23 _ _ r5_5 rfl kj kj (isz (n:=32) kj ((Qae _ _).trans (bytes_len _))) (eqsz (n:=32) ((Qae _ _).trans zlen) ((Qae _ _).trans (bytes_len _))) (ints_one _ _)) fun W6 p6 r5_6=>?_
  have x6:Ext w W6:=Puts.ext p6 x5 b5
  refine Qaf ?_
  refine hK4 _ _ ?_
  refine wp_seq_k fun K6 hK6=>?_
  refine wp_seq_k fun K7 hK7=>?_
  refine Qac ?_
  refine Qab (.pointer (some ⟨g2,0,none⟩)) 7 rfl kj kj ?_
  have r2_4:=(Qaa (Qaa r2_2 e3) e4)
  have r2_6:=(Puts.row p6 (Qaa (Qaa (Qaa r2_2 e3) e4) e5) (Qad r2_4 l5))
  refine Qab (.agg (numA (x))) 8 rfl kj (Qaw 49 _ g2 0 51 _ _ _ r2_6 rfl kj (QaH [] [numA (x)] [numA (l)] 0 kj) kj (isz (n:=4) kj kj)) ?_
  refine Qar (.bool true) 51 #[.agg (numA (x))] 9 rfl kj kj ((QnB x true h_x ho) _) fun W7 e7=>?_
  have x7:Ext w W7:=Ext.tr x6 e7
  refine Qaf ?_
  refine hK7 _ _ ?_
  refine cond_true kj ?_
  refine Qac ?_
  refine Qab (.pointer (some ⟨g5,31,none⟩)) 10 rfl kj kj ?_
  have r5_7:=(Qaa r5_6 e7)
  refine Qab (.int .u8 (nth (Qao (pyF x l)) 31)) 11 rfl kj (Qam 5 _ g5 31 23 _ (.int .u8 (nth (Qao (pyF x l)) 31)) _ r5_7 rfl kj (Qas _ _ _ (Nat.lt_of_lt_of_eq (by decide) (bytes_len _).symm)) kj) ?_
  refine Qab (.int .u8 (nth (Qao (pyF x l)) 31+128)) 12 rfl kj (Qan (u:=.int .u8 (bits .or .u8 ((nth (Qao (pyF x l)) 31)) (128))) kj (congrArg (Value.int .u8) (Qrg _ (QdC (Qhr x l h_x h_l))))) ?_
  refine Qab (.pointer (some ⟨g5,31,none⟩)) 13 rfl kj kj ?_
  refine Qak g5 _ (ints .u8 ((Qao (pyF x l)).set 31 (nth (Qao (pyF x l)) 31+128))) 23 r5_7 rfl kj (Qa1 5 _ _ g5 31 23 _ _ r5_7 rfl kj kj kj (Nat.lt_of_lt_of_eq (show 31<32 by decide) (bytes_len _).symm)) fun W8 p8 r5_8=>?_
  have x8:Ext w W8:=Puts.ext p8 x7 b5
  refine Qaf ?_
  refine hK6 _ _ ?_
  refine wp_seq_k fun K8 hK8=>?_
  refine Qac ?_
  refine Qab (.agg (ints .u8 ((Qao (pyF x l)).set 31 (nth (Qao (pyF x l)) 31+128)))) 14 rfl kj (Qag 23 _ g5 23 _ _ r5_8 rfl kj kj (isz (n:=32) kj ((Qae _ _).trans ((List.length_set ..).trans (bytes_len _))))) ?_
  have r3_4:=(Qaa (Qaa r3_2 e3) e4)
  have r3_8:=(Puts.row p8 (Qaa (Puts.row p6 (Qaa (Qaa (Qaa r3_2 e3) e4) e5) (Qad r3_4 l5)) e7) (Qad r3_4 l5))
  refine Qak g3 _ (ints .u8 ((Qao (pyF x l)).set 31 (nth (Qao (pyF x l)) 31+128))) 23 r3_8 rfl kj (Qah 23 _ _ g3 23 _ _ r3_8 rfl kj kj (isz (n:=32) kj ((Qae _ _).trans ((List.length_set ..).trans (bytes_len _)))) (eqsz (n:=32) ((Qae _ _).trans zlen) ((Qae _ _).trans ((List.length_set ..).trans (bytes_len _)))) (ints_one _ _)) fun W9 p9 r3_9=>?_
  have x9:Ext w W9:=Puts.ext p9 x8 b3
  refine Qaf ?_
  refine hK8 _ _ ?_
  refine wp_ret ?_
  exact (show bodyPost _ _ _ .ret _ _ from ret1 (.agg (ints .u8 ((Qao (pyF x l)).set 31 (nth (Qao (pyF x l)) 31+128)))) rfl (QaC g3 23 _ r3_9 kj kj (isz (n:=32) kj ((Qae _ _).trans ((List.length_set ..).trans (bytes_len _))))) ⟨rfl,x9⟩)
theorem Qhw (x l:Int) (h_x:isN x) (h_l:isN l) (ho:(x%2==1)=false) (w:World):Calls Tryd.prog 22 #[.agg (cat [numA (x),numA (l)])] w (Ret w (.agg (ints .u8 (Qao (pyF x l))))):=by
  refine enter 15 [(0,.agg (cat [numA (x),numA (l)]))] Tryd.func22 rfl rfl kj rfl ?_
  refine wp_seq_k fun K1 hK1=>?_
  refine Qac ?_
  refine Qaj (cat [numA (x),numA (l)]) 51 1 rfl kj kj fun g2 W1 l2 e1 r2_1=>?_
  have x1:Ext w W1:=Ext.tr (Rely.Ext.refl w) e1
  have b2:w.heap.size≤g2:=qT (Rely.Ext.refl w).size l2
  refine Qaj (ints .u8 (List.replicate 32 0)) 23 2 rfl kj kj fun g3 W2 l3 e2 r3_2=>?_
  have x2:Ext w W2:=Ext.tr x1 e2
  have b3:w.heap.size≤g3:=qT x1.size l3
  refine Qaf ?_
  refine hK1 _ _ ?_
  refine wp_seq_k fun K4 hK4=>?_
  refine Qac ?_
  have r2_2:=(Qaa r2_1 e2)
  refine Qab (.agg (cat [numA (x),numA (l)])) 4 rfl kj (Qag 51 _ g2 51 _ _ r2_2 rfl kj kj (isz (n:=8) kj kj)) ?_
  refine Qar (.agg (numA (pyF x l))) 49 #[.agg (cat [numA (x),numA (l)])] 5 rfl kj kj ((pyC x l h_x h_l) _) fun W3 e3=>?_
  have x3:Ext w W3:=Ext.tr x2 e3
  refine Qar (.agg (ints .u8 (Qao (pyF x l)))) 50 #[.agg (numA (pyF x l))] 6 rfl kj kj ((bytes _ (Qhr x l h_x h_l)) _) fun W4 e4=>?_
  have x4:Ext w W4:=Ext.tr x3 e4
  refine Qaj (ints .u8 (List.replicate 32 0)) 23 3 rfl kj kj fun g5 W5 l5 e5 r5_5=>?_
  have x5:Ext w W5:=Ext.tr x4 e5
  have b5:w.heap.size≤g5:=qT x4.size l5
  refine Qak g5 _ (ints .u8 (Qao (pyF x l))) 23 r5_5 rfl kj (Qah 23 _ _ g5 23 _ _ r5_5 rfl kj kj (isz (n:=32) kj ((Qae _ _).trans (bytes_len _))) (eqsz (n:=32) ((Qae _ _).trans zlen) ((Qae _ _).trans (bytes_len _))) (ints_one _ _)) fun W6 p6 r5_6=>?_
  have x6:Ext w W6:=Puts.ext p6 x5 b5
  refine Qaf ?_
  refine hK4 _ _ ?_
  refine wp_seq_k fun K6 hK6=>?_
  refine wp_seq_k fun K7 hK7=>?_
  refine Qac ?_
  refine Qab (.pointer (some ⟨g2,0,none⟩)) 7 rfl kj kj ?_
  have r2_4:=(Qaa (Qaa r2_2 e3) e4)
  have r2_6:=(Puts.row p6 (Qaa (Qaa (Qaa r2_2 e3) e4) e5) (Qad r2_4 l5))
  refine Qab (.agg (numA (x))) 8 rfl kj (Qaw 49 _ g2 0 51 _ _ _ r2_6 rfl kj (QaH [] [numA (x)] [numA (l)] 0 kj) kj (isz (n:=4) kj kj)) ?_
  refine Qar (.bool false) 51 #[.agg (numA (x))] 9 rfl kj kj ((QnB x false h_x ho) _) fun W7 e7=>?_
  have x7:Ext w W7:=Ext.tr x6 e7
  refine Qaf ?_
  refine hK7 _ _ ?_
  refine cond_false kj ?_
  refine wp_skip ?_
  refine hK6 _ _ ?_
  refine wp_seq_k fun K8 hK8=>?_
  refine Qac ?_
  have r5_7:=(Qaa r5_6 e7)
  refine Qab (.agg (ints .u8 (Qao (pyF x l)))) 14 rfl kj (Qag 23 _ g5 23 _ _ r5_7 rfl kj kj (isz (n:=32) kj ((Qae _ _).trans (bytes_len _)))) ?_
  have r3_4:=(Qaa (Qaa r3_2 e3) e4)
  have r3_7:=(Qaa (Puts.row p6 (Qaa (Qaa (Qaa r3_2 e3) e4) e5) (Qad r3_4 l5)) e7)
  refine Qak g3 _ (ints .u8 (Qao (pyF x l))) 23 r3_7 rfl kj (Qah 23 _ _ g3 23 _ _ r3_7 rfl kj kj (isz (n:=32) kj ((Qae _ _).trans (bytes_len _))) (eqsz (n:=32) ((Qae _ _).trans zlen) ((Qae _ _).trans (bytes_len _))) (ints_one _ _)) fun W8 p8 r3_8=>?_
  have x8:Ext w W8:=Puts.ext p8 x7 b3
  refine Qaf ?_
  refine hK8 _ _ ?_
  refine wp_ret ?_
  exact (show bodyPost _ _ _ .ret _ _ from ret1 (.agg (ints .u8 (Qao (pyF x l)))) rfl (QaC g3 23 _ r3_8 kj kj (isz (n:=32) kj ((Qae _ _).trans (bytes_len _)))) ⟨rfl,x8⟩)
theorem Qo6 (x l:Int) (h_x:isN x) (h_l:isN l) (w:World):Calls Tryd.prog 22 #[.agg (cat [numA x,numA l])] w (Ret w (.agg (ints .u8 (enc x (pyF x l))))):=by
  unfold enc
  cases ho:(x%2==1)
  · simp only [Bool.false_eq_true,if_false]; exact Qhw x l h_x h_l ho w
  · simp only [if_true]; exact Qis x l h_x h_l ho w
theorem Qip (x y z:Int) (h_x:isN x) (h_y:isN y) (h_z:isN z) (ho:((x*invN z%p)%2==1)=true) (w:World):Calls Tryd.prog 25 #[.agg (cat [ints .i64 (lims (x)),ints .i64 (lims (y)),ints .i64 (lims (z))])] w (Ret w (.agg (ints .u8 ((Qao (y*invN z%p)).set 31 (nth (Qao (y*invN z%p)) 31+128))))):=by
  refine enter 25 [(0,.agg (cat [ints .i64 (lims (x)),ints .i64 (lims (y)),ints .i64 (lims (z))]))] Tryd.func25 rfl rfl kj rfl ?_
  refine wp_seq_k fun K1 hK1=>?_
  refine Qac ?_
  refine Qaj (cat [ints .i64 (lims (x)),ints .i64 (lims (y)),ints .i64 (lims (z))]) 60 1 rfl kj kj fun g2 W1 l2 e1 r2_1=>?_
  have x1:Ext w W1:=Ext.tr (Rely.Ext.refl w) e1
  have b2:w.heap.size≤g2:=qT (Rely.Ext.refl w).size l2
  refine Qaj (ints .u8 (List.replicate 32 0)) 23 2 rfl kj kj fun g3 W2 l3 e2 r3_2=>?_
  have x2:Ext w W2:=Ext.tr x1 e2
  have b3:w.heap.size≤g3:=qT x1.size l3
  refine Qaf ?_
  refine hK1 _ _ ?_
  refine wp_seq_k fun K4 hK4=>?_
  refine Qac ?_
  refine Qab (.pointer (some ⟨g2,32,none⟩)) 5 rfl kj kj ?_
  have r2_2:=(Qaa r2_1 e2)
  refine Qab (.agg (ints .i64 (lims (z)))) 6 rfl kj (Qaw 58 _ g2 32 60 _ _ _ r2_2 rfl kj (QaH [ints .i64 (lims (x)),ints .i64 (lims (y))] [ints .i64 (lims (z))] [] 32 kj) kj (isz (n:=16) kj kj)) ?_
  refine Qar (.agg (ints .i64 (lims (invN z)))) 56 #[.agg (ints .i64 (lims (z)))] 7 rfl kj kj ((lInv _ h_z) _) fun W3 e3=>?_
  have x3:Ext w W3:=Ext.tr x2 e3
  refine Qaj (ints .i64 (lims (0))) 58 3 rfl kj kj fun g5 W4 l5 e4 r5_4=>?_
  have x4:Ext w W4:=Ext.tr x3 e4
  have b5:w.heap.size≤g5:=qT x3.size l5
  refine Qak g5 _ (ints .i64 (lims (invN z))) 58 r5_4 rfl kj (Qah 58 _ _ g5 58 _ _ r5_4 rfl kj kj (isz (n:=16) kj kj) (eqsz (n:=16) kj kj) kj) fun W5 p5 r5_5=>?_
  have x5:Ext w W5:=Puts.ext p5 x4 b5
  refine Qaf ?_
  refine hK4 _ _ ?_
  refine wp_seq_k fun K6 hK6=>?_
  refine Qac ?_
  refine Qab (.pointer (some ⟨g2,16,none⟩)) 8 rfl kj kj ?_
  have r2_3:=(Qaa r2_2 e3)
  have r2_5:=(Puts.row p5 (Qaa (Qaa r2_2 e3) e4) (Qad r2_3 l5))
  refine Qab (.agg (ints .i64 (lims (y)))) 9 rfl kj (Qaw 58 _ g2 16 60 _ _ _ r2_5 rfl kj (QaH [ints .i64 (lims (x))] [ints .i64 (lims (y))] [ints .i64 (lims (z))] 16 kj) kj (isz (n:=16) kj kj)) ?_
  refine Qab (.agg (ints .i64 (lims (invN z)))) 10 rfl kj (Qag 58 _ g5 58 _ _ r5_5 rfl kj kj (isz (n:=16) kj kj)) ?_
  refine Qar (.agg (ints .i64 (lims (y*invN z%p)))) 58 #[.agg (ints .i64 (lims (y))),.agg (ints .i64 (lims (invN z)))] 11 rfl kj kj ((QdV _ _ h_y (Qdd _)) _) fun W6 e6=>?_
  have x6:Ext w W6:=Ext.tr x5 e6
  refine Qar (.agg (ints .u8 (Qao (y*invN z%p)))) 57 #[.agg (ints .i64 (lims (y*invN z%p)))] 12 rfl kj kj ((QnF _) _) fun W7 e7=>?_
  have x7:Ext w W7:=Ext.tr x6 e7
  refine Qaj (ints .u8 (List.replicate 32 0)) 23 4 rfl kj kj fun g7 W8 l7 e8 r7_8=>?_
  have x8:Ext w W8:=Ext.tr x7 e8
  have b7:w.heap.size≤g7:=qT x7.size l7
  refine Qak g7 _ (ints .u8 (Qao (y*invN z%p))) 23 r7_8 rfl kj (Qah 23 _ _ g7 23 _ _ r7_8 rfl kj kj (isz (n:=32) kj ((Qae _ _).trans (bytes_len _))) (eqsz (n:=32) ((Qae _ _).trans zlen) ((Qae _ _).trans (bytes_len _))) (ints_one _ _)) fun W9 p9 r7_9=>?_
  have x9:Ext w W9:=Puts.ext p9 x8 b7
  refine Qaf ?_
  refine hK6 _ _ ?_
  refine wp_seq_k fun K8 hK8=>?_
  refine wp_seq_k fun K9 hK9=>?_
  refine Qac ?_
  refine Qab (.pointer (some ⟨g2,0,none⟩)) 13 rfl kj kj ?_
  have r2_7:=(Qaa (Qaa r2_5 e6) e7)
  have r2_9:=(Puts.row p9 (Qaa (Qaa (Qaa r2_5 e6) e7) e8) (Qad r2_7 l7))
  refine Qab (.agg (ints .i64 (lims (x)))) 14 rfl kj (Qaw 58 _ g2 0 60 _ _ _ r2_9 rfl kj (QaH [] [ints .i64 (lims (x))] [ints .i64 (lims (y)),ints .i64 (lims (z))] 0 kj) kj (isz (n:=16) kj kj)) ?_
  have r5_7:=(Qaa (Qaa r5_5 e6) e7)
  have r5_9:=(Puts.row p9 (Qaa (Qaa (Qaa r5_5 e6) e7) e8) (Qad r5_7 l7))
  refine Qab (.agg (ints .i64 (lims (invN z)))) 15 rfl kj (Qag 58 _ g5 58 _ _ r5_9 rfl kj kj (isz (n:=16) kj kj)) ?_
  refine Qar (.agg (ints .i64 (lims (x*invN z%p)))) 58 #[.agg (ints .i64 (lims (x))),.agg (ints .i64 (lims (invN z)))] 16 rfl kj kj ((QdV _ _ h_x (Qdd _)) _) fun W10 e10=>?_
  have x10:Ext w W10:=Ext.tr x9 e10
  refine Qab (.int .i64 (nth (lims (x*invN z%p)) 0)) 17 rfl kj (run_index_il 58 _ _ .i64 .i64 (lims (x*invN z%p)) 0 16 3 (nth (lims (x*invN z%p)) 0) rfl kj kj kj kj kj (QaM _) (by decide) rfl) ?_
  refine Qab (.int .i64 ((x*invN z%p)%2)) 18 rfl kj (Qan (u:=.int .i64 (Int.tmod ((nth (lims (x*invN z%p)) 0)) (2))) kj (congrArg (Value.int .i64) (QhC _))) ?_
  refine Qab (.bool true) 19 rfl kj (Qan (u:=.bool ((((x*invN z%p)%2)==1))) kj (congrArg Value.bool ho)) ?_
  refine Qaf ?_
  refine hK9 _ _ ?_
  refine cond_true kj ?_
  refine Qac ?_
  refine Qab (.pointer (some ⟨g7,31,none⟩)) 20 rfl kj kj ?_
  have r7_10:=(Qaa r7_9 e10)
  refine Qab (.int .u8 (nth (Qao (y*invN z%p)) 31)) 21 rfl kj (Qam 5 _ g7 31 23 _ (.int .u8 (nth (Qao (y*invN z%p)) 31)) _ r7_10 rfl kj (Qas _ _ _ (Nat.lt_of_lt_of_eq (by decide) (bytes_len _).symm)) kj) ?_
  refine Qab (.int .u8 (nth (Qao (y*invN z%p)) 31+128)) 22 rfl kj (Qan (u:=.int .u8 (IntKind.u8.wrap ((nth (Qao (y*invN z%p)) 31)+128))) kj (congrArg (Value.int .u8) (QqO _ (QdC (Qa0 _))))) ?_
  refine Qab (.pointer (some ⟨g7,31,none⟩)) 23 rfl kj kj ?_
  refine Qak g7 _ (ints .u8 ((Qao (y*invN z%p)).set 31 (nth (Qao (y*invN z%p)) 31+128))) 23 r7_10 rfl kj (Qa1 5 _ _ g7 31 23 _ _ r7_10 rfl kj kj kj (Nat.lt_of_lt_of_eq (show 31<32 by decide) (bytes_len _).symm)) fun W11 p11 r7_11=>?_
  have x11:Ext w W11:=Puts.ext p11 x10 b7
  refine Qaf ?_
  refine hK8 _ _ ?_
  refine wp_seq_k fun K10 hK10=>?_
  refine Qac ?_
  refine Qab (.agg (ints .u8 ((Qao (y*invN z%p)).set 31 (nth (Qao (y*invN z%p)) 31+128)))) 24 rfl kj (Qag 23 _ g7 23 _ _ r7_11 rfl kj kj (isz (n:=32) kj ((Qae _ _).trans ((List.length_set ..).trans (bytes_len _))))) ?_
  have r3_3:=(Qaa r3_2 e3)
  have r3_7:=(Qaa (Qaa (Puts.row p5 (Qaa r3_3 e4) (Qad r3_3 l5)) e6) e7)
  have r3_11:=(Puts.row p11 (Qaa (Puts.row p9 (Qaa (Qaa (Qaa (Puts.row p5 (Qaa (Qaa r3_2 e3) e4) (Qad r3_3 l5)) e6) e7) e8) (Qad r3_7 l7)) e10) (Qad r3_7 l7))
  refine Qak g3 _ (ints .u8 ((Qao (y*invN z%p)).set 31 (nth (Qao (y*invN z%p)) 31+128))) 23 r3_11 rfl kj (Qah 23 _ _ g3 23 _ _ r3_11 rfl kj kj (isz (n:=32) kj ((Qae _ _).trans ((List.length_set ..).trans (bytes_len _)))) (eqsz (n:=32) ((Qae _ _).trans zlen) ((Qae _ _).trans ((List.length_set ..).trans (bytes_len _)))) (ints_one _ _)) fun W12 p12 r3_12=>?_
  have x12:Ext w W12:=Puts.ext p12 x11 b3
  refine Qaf ?_
  refine hK10 _ _ ?_
  refine wp_ret ?_
  exact (show bodyPost _ _ _ .ret _ _ from ret1 (.agg (ints .u8 ((Qao (y*invN z%p)).set 31 (nth (Qao (y*invN z%p)) 31+128)))) rfl (QaC g3 23 _ r3_12 kj kj (isz (n:=32) kj ((Qae _ _).trans ((List.length_set ..).trans (bytes_len _))))) ⟨rfl,x12⟩)
theorem Qhp (x y z:Int) (h_x:isN x) (h_y:isN y) (h_z:isN z) (ho:((x*invN z%p)%2==1)=false) (w:World):Calls Tryd.prog 25 #[.agg (cat [ints .i64 (lims (x)),ints .i64 (lims (y)),ints .i64 (lims (z))])] w (Ret w (.agg (ints .u8 (Qao (y*invN z%p))))):=by
  refine enter 25 [(0,.agg (cat [ints .i64 (lims (x)),ints .i64 (lims (y)),ints .i64 (lims (z))]))] Tryd.func25 rfl rfl kj rfl ?_
  refine wp_seq_k fun K1 hK1=>?_
  refine Qac ?_
  refine Qaj (cat [ints .i64 (lims (x)),ints .i64 (lims (y)),ints .i64 (lims (z))]) 60 1 rfl kj kj fun g2 W1 l2 e1 r2_1=>?_
  have x1:Ext w W1:=Ext.tr (Rely.Ext.refl w) e1
  have b2:w.heap.size≤g2:=qT (Rely.Ext.refl w).size l2
  refine Qaj (ints .u8 (List.replicate 32 0)) 23 2 rfl kj kj fun g3 W2 l3 e2 r3_2=>?_
  have x2:Ext w W2:=Ext.tr x1 e2
  have b3:w.heap.size≤g3:=qT x1.size l3
  refine Qaf ?_
  refine hK1 _ _ ?_
  refine wp_seq_k fun K4 hK4=>?_
  refine Qac ?_
  refine Qab (.pointer (some ⟨g2,32,none⟩)) 5 rfl kj kj ?_
  have r2_2:=(Qaa r2_1 e2)
  refine Qab (.agg (ints .i64 (lims (z)))) 6 rfl kj (Qaw 58 _ g2 32 60 _ _ _ r2_2 rfl kj (QaH [ints .i64 (lims (x)),ints .i64 (lims (y))] [ints .i64 (lims (z))] [] 32 kj) kj (isz (n:=16) kj kj)) ?_
  refine Qar (.agg (ints .i64 (lims (invN z)))) 56 #[.agg (ints .i64 (lims (z)))] 7 rfl kj kj ((lInv _ h_z) _) fun W3 e3=>?_
  have x3:Ext w W3:=Ext.tr x2 e3
  refine Qaj (ints .i64 (lims (0))) 58 3 rfl kj kj fun g5 W4 l5 e4 r5_4=>?_
  have x4:Ext w W4:=Ext.tr x3 e4
  have b5:w.heap.size≤g5:=qT x3.size l5
  refine Qak g5 _ (ints .i64 (lims (invN z))) 58 r5_4 rfl kj (Qah 58 _ _ g5 58 _ _ r5_4 rfl kj kj (isz (n:=16) kj kj) (eqsz (n:=16) kj kj) kj) fun W5 p5 r5_5=>?_
  have x5:Ext w W5:=Puts.ext p5 x4 b5
  refine Qaf ?_
  refine hK4 _ _ ?_
  refine wp_seq_k fun K6 hK6=>?_
  refine Qac ?_
  refine Qab (.pointer (some ⟨g2,16,none⟩)) 8 rfl kj kj ?_
  have r2_3:=(Qaa r2_2 e3)
  have r2_5:=(Puts.row p5 (Qaa (Qaa r2_2 e3) e4) (Qad r2_3 l5))
  refine Qab (.agg (ints .i64 (lims (y)))) 9 rfl kj (Qaw 58 _ g2 16 60 _ _ _ r2_5 rfl kj (QaH [ints .i64 (lims (x))] [ints .i64 (lims (y))] [ints .i64 (lims (z))] 16 kj) kj (isz (n:=16) kj kj)) ?_
  refine Qab (.agg (ints .i64 (lims (invN z)))) 10 rfl kj (Qag 58 _ g5 58 _ _ r5_5 rfl kj kj (isz (n:=16) kj kj)) ?_
  refine Qar (.agg (ints .i64 (lims (y*invN z%p)))) 58 #[.agg (ints .i64 (lims (y))),.agg (ints .i64 (lims (invN z)))] 11 rfl kj kj ((QdV _ _ h_y (Qdd _)) _) fun W6 e6=>?_
  have x6:Ext w W6:=Ext.tr x5 e6
  refine Qar (.agg (ints .u8 (Qao (y*invN z%p)))) 57 #[.agg (ints .i64 (lims (y*invN z%p)))] 12 rfl kj kj ((QnF _) _) fun W7 e7=>?_
  have x7:Ext w W7:=Ext.tr x6 e7
  refine Qaj (ints .u8 (List.replicate 32 0)) 23 4 rfl kj kj fun g7 W8 l7 e8 r7_8=>?_
  have x8:Ext w W8:=Ext.tr x7 e8
  have b7:w.heap.size≤g7:=qT x7.size l7
  refine Qak g7 _ (ints .u8 (Qao (y*invN z%p))) 23 r7_8 rfl kj (Qah 23 _ _ g7 23 _ _ r7_8 rfl kj kj (isz (n:=32) kj ((Qae _ _).trans (bytes_len _))) (eqsz (n:=32) ((Qae _ _).trans zlen) ((Qae _ _).trans (bytes_len _))) (ints_one _ _)) fun W9 p9 r7_9=>?_
  have x9:Ext w W9:=Puts.ext p9 x8 b7
  refine Qaf ?_
  refine hK6 _ _ ?_
  refine wp_seq_k fun K8 hK8=>?_
  refine wp_seq_k fun K9 hK9=>?_
  refine Qac ?_
  refine Qab (.pointer (some ⟨g2,0,none⟩)) 13 rfl kj kj ?_
  have r2_7:=(Qaa (Qaa r2_5 e6) e7)
  have r2_9:=(Puts.row p9 (Qaa (Qaa (Qaa r2_5 e6) e7) e8) (Qad r2_7 l7))
  refine Qab (.agg (ints .i64 (lims (x)))) 14 rfl kj (Qaw 58 _ g2 0 60 _ _ _ r2_9 rfl kj (QaH [] [ints .i64 (lims (x))] [ints .i64 (lims (y)),ints .i64 (lims (z))] 0 kj) kj (isz (n:=16) kj kj)) ?_
  have r5_7:=(Qaa (Qaa r5_5 e6) e7)
  have r5_9:=(Puts.row p9 (Qaa (Qaa (Qaa r5_5 e6) e7) e8) (Qad r5_7 l7))
  refine Qab (.agg (ints .i64 (lims (invN z)))) 15 rfl kj (Qag 58 _ g5 58 _ _ r5_9 rfl kj kj (isz (n:=16) kj kj)) ?_
  refine Qar (.agg (ints .i64 (lims (x*invN z%p)))) 58 #[.agg (ints .i64 (lims (x))),.agg (ints .i64 (lims (invN z)))] 16 rfl kj kj ((QdV _ _ h_x (Qdd _)) _) fun W10 e10=>?_
  have x10:Ext w W10:=Ext.tr x9 e10
  refine Qab (.int .i64 (nth (lims (x*invN z%p)) 0)) 17 rfl kj (run_index_il 58 _ _ .i64 .i64 (lims (x*invN z%p)) 0 16 3 (nth (lims (x*invN z%p)) 0) rfl kj kj kj kj kj (QaM _) (by decide) rfl) ?_
  refine Qab (.int .i64 ((x*invN z%p)%2)) 18 rfl kj (Qan (u:=.int .i64 (Int.tmod ((nth (lims (x*invN z%p)) 0)) (2))) kj (congrArg (Value.int .i64) (QhC _))) ?_
  refine Qab (.bool false) 19 rfl kj (Qan (u:=.bool ((((x*invN z%p)%2)==1))) kj (congrArg Value.bool ho)) ?_
  refine Qaf ?_
  refine hK9 _ _ ?_
  refine cond_false kj ?_
  refine wp_skip ?_
  refine hK8 _ _ ?_
  refine wp_seq_k fun K10 hK10=>?_
  refine Qac ?_
  have r7_10:=(Qaa r7_9 e10)
  refine Qab (.agg (ints .u8 (Qao (y*invN z%p)))) 24 rfl kj (Qag 23 _ g7 23 _ _ r7_10 rfl kj kj (isz (n:=32) kj ((Qae _ _).trans (bytes_len _)))) ?_
  have r3_3:=(Qaa r3_2 e3)
  have r3_7:=(Qaa (Qaa (Puts.row p5 (Qaa r3_3 e4) (Qad r3_3 l5)) e6) e7)
  have r3_10:=(Qaa (Puts.row p9 (Qaa (Qaa (Qaa (Puts.row p5 (Qaa (Qaa r3_2 e3) e4) (Qad r3_3 l5)) e6) e7) e8) (Qad r3_7 l7)) e10)
  refine Qak g3 _ (ints .u8 (Qao (y*invN z%p))) 23 r3_10 rfl kj (Qah 23 _ _ g3 23 _ _ r3_10 rfl kj kj (isz (n:=32) kj ((Qae _ _).trans (bytes_len _))) (eqsz (n:=32) ((Qae _ _).trans zlen) ((Qae _ _).trans (bytes_len _))) (ints_one _ _)) fun W11 p11 r3_11=>?_
  have x11:Ext w W11:=Puts.ext p11 x10 b3
  refine Qaf ?_
  refine hK10 _ _ ?_
  refine wp_ret ?_
  exact (show bodyPost _ _ _ .ret _ _ from ret1 (.agg (ints .u8 (Qao (y*invN z%p)))) rfl (QaC g3 23 _ r3_11 kj kj (isz (n:=32) kj ((Qae _ _).trans (bytes_len _)))) ⟨rfl,x11⟩)
theorem rbytesC (x y z:Int) (h_x:isN x) (h_y:isN y) (h_z:isN z) (w:World):Calls Tryd.prog 25 #[.agg (cat [ints .i64 (lims x),ints .i64 (lims y),ints .i64 (lims z)])] w (Ret w (.agg (ints .u8 (enc (x*invN z%p) (y*invN z%p))))):=by
  unfold enc
  cases ho:((x*invN z%p)%2==1)
  · simp only [Bool.false_eq_true,if_false]; exact Qhp x y z h_x h_y h_z ho w
  · simp only [if_true]; exact Qip x y z h_x h_y h_z ho w
end Go.Proofs.YtdoadngmgmdlbaaDoor.Field
end
