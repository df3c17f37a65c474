/- The key schedule: transcripts. -/
import Derived.Test.YtamlhbbphnamnaaDoorSchH
namespace Go.Proofs.YtamlhbbphnamnaaDoor.Sha
open Go Go.RowKit
open Go.Proofs.YtamlhbbphnamnaaDoor.Rely Go.Proofs.YtamlhbbphnamnaaDoor.Auto Go.Proofs.YtamlhbbphnamnaaDoor.Own
set_option linter.unusedVariables false
set_option linter.unusedSimpArgs false

theorem exec_of {P : Program} {ρ ρ' : Tmp → Value} {o : Oper} {W : World} {r : Result Next} (h : (execOp (Rely.look ρ) o).run P W = (execOp (Rely.look ρ') o).run P W) (h2 : (execOp (Rely.look ρ') o).run P W = r) : (execOp (Rely.look ρ) o).run P W = r := h.trans h2
/-- a new slice of one byte, and a new slice of slices that begins with it -/
def NewP1 (base : Nat) (b : List Int) (rest : List Value) (n : Nat) : Fact := fun v W => ∃ g h, v = .slice (some ⟨h, 0, none⟩) n n ∧ base ≤ g ∧ base ≤ h ∧ W.heap[g]? = some (.cells (ints .u8 b) 5) ∧ W.heap[h]? = some (.cells ((.slice (some ⟨g, 0, none⟩) 1 1 :: rest).toArray) 22)
theorem NewP1.stable (base : Nat) (b : List Int) (rest : List Value) (n : Nat) : Stable Ext (NewP1 base b rest n) := fun _ _ _ hR ⟨g, h, e, q1, q2, r1, r2⟩ => ⟨g, h, e, q1, q2, row_ext r1 hR, row_ext r2 hR⟩
set_option maxHeartbeats 4000000 in
theorem confirmedC (a text sig : List Int) (v2 : Value) (B2 : Nat) (tc tq : TypeId) (w : World) (hc : w.heap[1]? = some (.cells (ints .u64 cubesI) tc)) (hq : w.heap[0]? = some (.cells (ints .u64 squaresI) tq)) (hal : a.length = 32) (hab : AreBytes a) (htl : text.length ≤ 800000000) (htb : AreBytes text) (hgl : sig.length = 64) (hgb : AreBytes sig) (hx : RdK .u8 B2 text v2 w) : Calls Tryd.prog 36 #[.agg (ints .u8 a), v2, .agg (ints .u8 sig)] w (Ret w (.agg (ints .u8 (dig ((([1] ++ a) ++ text) ++ sig))))) := by
  obtain ⟨a_text, c_text, rfl, -⟩ := id hx
  refine enter 13 [(0, .agg (ints .u8 (a))), (1, .slice a_text text.length c_text), (2, .agg (ints .u8 (sig)))] Tryd.func36 rfl rfl kj rfl ?_
  refine wp_seq_k fun K3 hK3 => ?_
  refine region_lit ?_
  refine seq_alloc (ints .u8 (a)) 26 3 rfl kj kj fun g4 W1 l4 e1 r4_1 => ?_
  have x1 : Ext w W1 := Ext.tr (Rely.Ext.refl w) e1
  have b4 : w.heap.size ≤ g4 := Nat.le_trans (Rely.Ext.refl w).size l4
  refine seq_alloc (ints .u8 (sig)) 63 5 rfl kj kj fun g5 W2 l5 e2 r5_2 => ?_
  have x2 : Ext w W2 := Ext.tr x1 e2
  have b5 : w.heap.size ≤ g5 := Nat.le_trans x1.size l5
  refine seq_alloc (ints .u8 (List.replicate 32 0)) 26 6 rfl kj kj fun g6 W3 l6 e3 r6_3 => ?_
  have x3 : Ext w W3 := Ext.tr x2 e3
  have b6 : w.heap.size ≤ g6 := Nat.le_trans x2.size l6
  refine seq_nil ?_
  refine hK3 _ _ ?_
  try clear hK3 K3
  refine wp_seq_k fun K7 hK7 => ?_
  refine any_regionE 6 [⟨none, []⟩, ⟨none, [(3, none)]⟩, ⟨none, [(1, none)]⟩, ⟨none, [(5, none)]⟩, ⟨none, [(7, some 0), (8, some 1), (9, some 2), (10, some 3)]⟩, ⟨none, [(11, some 4)]⟩] kj kj fun F hF => ?_
  refine e_newS (rl_ext _) (ints .u8 [1]) 5 1 (NewS.stable _ _ _ _) kj kj (fun W => by kernel_rfl) ?_
  refine e_val (rl_ext _) (.slice (some ⟨g4, 0, none⟩) 32 32) kj kj (fun W => by kernel_rfl) ?_
  refine e_val (rl_ext _) (.slice a_text text.length c_text) kj kj (fun W => by kernel_rfl) ?_
  refine e_val (rl_ext _) (.slice (some ⟨g5, 0, none⟩) 64 64) kj kj (fun W => by kernel_rfl) ?_
  refine e_runX (rl_ext _) (NewP1 W3.drew.heap.size [1] [.slice (some ⟨g4, 0, none⟩) 32 32, .slice a_text text.length c_text, .slice (some ⟨g5, 0, none⟩) 64 64] 4) (NewP1.stable _ _ _ _) (fun ρ W hR hh => ?_) ?_
  · skip
    obtain ⟨gz, ed, lz, rz⟩ : NewS W3.drew.heap.size (ints .u8 [1]) 5 1 (ρ 7) W := hh.1
    have e8 : ρ 8 = .slice (some ⟨g4, 0, none⟩) 32 32 := hh.2.1
    have e9 : ρ 9 = .slice a_text text.length c_text := hh.2.2.1
    have e10 : ρ 10 = .slice (some ⟨g5, 0, none⟩) 64 64 := hh.2.2.2.1
    refine ⟨.slice (some ⟨W.heap.size, 0, none⟩) 4 4, W.alloc (.cells #[.slice (some ⟨gz, 0, none⟩) 1 1, .slice (some ⟨g4, 0, none⟩) 32 32, .slice a_text text.length c_text, .slice (some ⟨g5, 0, none⟩) 64 64] 22), exec_of (ρ' := fun t => if t = 7 then ρ 7 else if t = 8 then ρ 8 else if t = 9 then ρ 9 else if t = 10 then ρ 10 else ρ t) kj ?_, ext_alloc _ _, gz, W.heap.size, rfl, lz, hR.size, row_ext rz (ext_alloc _ _), heap_alloc_new _ _⟩
    rw [ed, e8, e9, e10]
    kernel_rfl
  have r1_1 := (row_ext hc e1)
  have r1_2 := (row_ext r1_1 e2)
  have r1_3 := (row_ext r1_2 e3)
  have r2_1 := (row_ext hq e1)
  have r2_2 := (row_ext r2_1 e2)
  have r2_3 := (row_ext r2_2 e3)
  have r4_2 := (row_ext r4_1 e2)
  have r4_3 := (row_ext r4_2 e3)
  have r5_3 := (row_ext r5_2 e3)
  refine e_callX (rl_ext _) (.agg (ints .u8 (dig ((([1] ++ a) ++ text) ++ sig)))) 26 (fun ρ W hR hh => ?_) ?_
  · skip
    obtain ⟨gz, gp, e11, lz, lp, rz, rp⟩ : NewP1 W3.drew.heap.size [1] [.slice (some ⟨g4, 0, none⟩) 32 32, .slice a_text text.length c_text, .slice (some ⟨g5, 0, none⟩) 64 64] 4 (ρ 11) W := hh.1
    refine ⟨#[.slice (some ⟨gp, 0, none⟩) 4 4], Eq.trans (b := Result.ok (Next.enter 26 #[ρ 11]) W) kj (by rw [e11]), ?_⟩
    have hps : ∀ p ∈ ([(.slice (some ⟨gz, 0, none⟩) 1 1, [1]), (.slice (some ⟨g4, 0, none⟩) 32 32, a), (.slice a_text text.length c_text, text), (.slice (some ⟨g5, 0, none⟩) 64 64, sig)] : List (Value × List Int)), RdK .u8 W.heap.size p.2 p.1 W ∧ AreBytes p.2 := by
      intro p hp
      simp only [List.mem_cons, List.not_mem_nil, or_false] at hp
      rcases hp with rfl | rfl | rfl | rfl
      · exact ⟨rdK_ints (xs := [1]) (n := 1) rfl rz (row_lt rz) (by decide), bytes_dec [1] (by decide)⟩
      · exact ⟨RdK.here (rdK_ints (xs := a) (n := 32) hal (row_ext (row_ext r4_3 (ext_drew _)) hR) (row_lt (row_ext (row_ext r4_3 (ext_drew _)) hR)) (by decide)), hab⟩
      · exact ⟨RdK.here ((RdK.ext hx x3).ext (Rely.Ext.trans (ext_drew _) hR)), htb⟩
      · exact ⟨RdK.here (rdK_ints (xs := sig) (n := 64) hgl (row_ext (row_ext r5_3 (ext_drew _)) hR) (row_lt (row_ext (row_ext r5_3 (ext_drew _)) hR)) (by decide)), hgb⟩
    have hsh := shortC gp 4 _ ([(.slice (some ⟨gz, 0, none⟩) 1 1, [1]), (.slice (some ⟨g4, 0, none⟩) 32 32, a), (.slice a_text text.length c_text, text), (.slice (some ⟨g5, 0, none⟩) 64 64, sig)] : List (Value × List Int)) rfl (by decide) tc tq W (row_ext (row_ext r1_3 (ext_drew _)) hR) (row_ext (row_ext r2_3 (ext_drew _)) hR) rp hps (by simp only [List.map_cons, List.map_nil, List.flatten_cons, List.flatten_nil, List.append_nil, List.length_append, List.length_cons, List.length_nil, hal, hgl]; omega)
    rw [show ((List.map Prod.snd ([(.slice (some ⟨gz, 0, none⟩) 1 1, [1]), (.slice (some ⟨g4, 0, none⟩) 32 32, a), (.slice a_text text.length c_text, text), (.slice (some ⟨g5, 0, none⟩) 64 64, sig)] : List (Value × List Int))).flatten) = (([1] ++ a) ++ text) ++ sig by simp only [List.map_cons, List.map_nil, List.flatten_cons, List.flatten_nil, List.append_nil, List.append_assoc, List.cons_append, List.nil_append]] at hsh
    exact hsh
  refine e_nil (hF _ fun W4 e4 => ?_)
  simp only [List.nil_append, List.cons_append, List.take_succ_cons, List.take_zero, List.drop_succ_cons, List.drop_zero, finE, up]
  intro vv7 hv7 vv11 hv11
  clear hF
  have x4 : Ext w W4 := Ext.tr x3 e4
  have r6_4 := (row_ext r6_3 e4)
  refine seq_store g6 _ (ints .u8 (dig ((([1] ++ a) ++ text) ++ sig))) 26 r6_4 rfl kj (run_store_row 26 _ _ g6 26 _ _ r6_4 rfl kj kj (isz (n := 32) kj ((ints_size _ _).trans (dig_len _))) (eqsz (n := 32) ((ints_size _ _).trans (List.length_replicate (n := 32))) ((ints_size _ _).trans (dig_len _))) (ints_one _ _)) fun W5 p5 r6_5 => ?_
  have x5 : Ext w W5 := Puts.ext p5 x4 b6
  refine seq_nil ?_
  refine hK7 _ _ ?_
  try clear hK7 K7
  refine wp_ret ?_
  repeat (first | with_reducible refine goR1 ?_ | with_reducible refine goR2 ?_)
  exact (show bodyPost _ _ _ .ret _ _ from ret1 (.agg (ints .u8 (dig ((([1] ++ a) ++ text) ++ sig)))) rfl (res_cell g6 26 _ r6_5 kj kj (isz (n := 32) kj ((ints_size _ _).trans (dig_len _)))) ⟨rfl, x5⟩)
set_option maxHeartbeats 4000000 in
theorem interimC (a b : List Int) (tc tq : TypeId) (w : World) (hc : w.heap[1]? = some (.cells (ints .u64 cubesI) tc)) (hq : w.heap[0]? = some (.cells (ints .u64 squaresI) tq)) (hal : a.length = 32) (hab : AreBytes a) (hbl : b.length = 32) (hbb : AreBytes b) : Calls Tryd.prog 38 #[.agg (ints .u8 (a)), .agg (ints .u8 (b))] w (Ret w (.agg (ints .u8 (dig (([2] ++ a) ++ b))))) := by
  refine enter 10 [(0, .agg (ints .u8 (a))), (1, .agg (ints .u8 (b)))] Tryd.func38 rfl rfl kj rfl ?_
  refine wp_seq_k fun K3 hK3 => ?_
  refine region_lit ?_
  refine seq_alloc (ints .u8 (a)) 26 2 rfl kj kj fun g4 W1 l4 e1 r4_1 => ?_
  have x1 : Ext w W1 := Ext.tr (Rely.Ext.refl w) e1
  have b4 : w.heap.size ≤ g4 := Nat.le_trans (Rely.Ext.refl w).size l4
  refine seq_alloc (ints .u8 (b)) 26 3 rfl kj kj fun g5 W2 l5 e2 r5_2 => ?_
  have x2 : Ext w W2 := Ext.tr x1 e2
  have b5 : w.heap.size ≤ g5 := Nat.le_trans x1.size l5
  refine seq_alloc (ints .u8 (List.replicate 32 0)) 26 4 rfl kj kj fun g6 W3 l6 e3 r6_3 => ?_
  have x3 : Ext w W3 := Ext.tr x2 e3
  have b6 : w.heap.size ≤ g6 := Nat.le_trans x2.size l6
  refine seq_nil ?_
  refine hK3 _ _ ?_
  try clear hK3 K3
  refine wp_seq_k fun K7 hK7 => ?_
  refine any_regionE 5 [⟨none, []⟩, ⟨none, [(2, none)]⟩, ⟨none, [(3, none)]⟩, ⟨none, [(5, some 0), (6, some 1), (7, some 2)]⟩, ⟨none, [(8, some 3)]⟩] kj kj fun F hF => ?_
  refine e_newS (rl_ext _) (ints .u8 [2]) 5 1 (NewS.stable _ _ _ _) kj kj (fun W => by kernel_rfl) ?_
  refine e_val (rl_ext _) (.slice (some ⟨g4, 0, none⟩) 32 32) kj kj (fun W => by kernel_rfl) ?_
  refine e_val (rl_ext _) (.slice (some ⟨g5, 0, none⟩) 32 32) kj kj (fun W => by kernel_rfl) ?_
  refine e_runX (rl_ext _) (NewP1 W3.drew.heap.size [2] [.slice (some ⟨g4, 0, none⟩) 32 32, .slice (some ⟨g5, 0, none⟩) 32 32] 3) (NewP1.stable _ _ _ _) (fun ρ W hR hh => ?_) ?_
  · skip
    obtain ⟨gz, ed, lz, rz⟩ : NewS W3.drew.heap.size (ints .u8 [2]) 5 1 (ρ 5) W := hh.1
    have e6 : ρ 6 = .slice (some ⟨g4, 0, none⟩) 32 32 := hh.2.1
    have e7 : ρ 7 = .slice (some ⟨g5, 0, none⟩) 32 32 := hh.2.2.1
    refine ⟨.slice (some ⟨W.heap.size, 0, none⟩) 3 3, W.alloc (.cells #[.slice (some ⟨gz, 0, none⟩) 1 1, .slice (some ⟨g4, 0, none⟩) 32 32, .slice (some ⟨g5, 0, none⟩) 32 32] 22), exec_of (ρ' := fun t => if t = 5 then ρ 5 else if t = 6 then ρ 6 else if t = 7 then ρ 7 else ρ t) kj ?_, ext_alloc _ _, gz, W.heap.size, rfl, lz, hR.size, row_ext rz (ext_alloc _ _), heap_alloc_new _ _⟩
    rw [ed, e6, e7]
    kernel_rfl
  have r1_1 := (row_ext hc e1)
  have r1_2 := (row_ext r1_1 e2)
  have r1_3 := (row_ext r1_2 e3)
  have r2_1 := (row_ext hq e1)
  have r2_2 := (row_ext r2_1 e2)
  have r2_3 := (row_ext r2_2 e3)
  have r4_2 := (row_ext r4_1 e2)
  have r4_3 := (row_ext r4_2 e3)
  have r5_3 := (row_ext r5_2 e3)
  refine e_callX (rl_ext _) (.agg (ints .u8 (dig (([2] ++ a) ++ b)))) 26 (fun ρ W hR hh => ?_) ?_
  · skip
    obtain ⟨gz, gp, e11, lz, lp, rz, rp⟩ : NewP1 W3.drew.heap.size [2] [.slice (some ⟨g4, 0, none⟩) 32 32, .slice (some ⟨g5, 0, none⟩) 32 32] 3 (ρ 8) W := hh.1
    refine ⟨#[.slice (some ⟨gp, 0, none⟩) 3 3], Eq.trans (b := Result.ok (Next.enter 26 #[ρ 8]) W) kj (by rw [e11]), ?_⟩
    have hps : ∀ p ∈ ([(.slice (some ⟨gz, 0, none⟩) 1 1, [2]), (.slice (some ⟨g4, 0, none⟩) 32 32, a), (.slice (some ⟨g5, 0, none⟩) 32 32, b)] : List (Value × List Int)), RdK .u8 W.heap.size p.2 p.1 W ∧ AreBytes p.2 := by
      intro p hp
      simp only [List.mem_cons, List.not_mem_nil, or_false] at hp
      rcases hp with rfl | rfl | rfl
      · exact ⟨rdK_ints (xs := [2]) (n := 1) rfl rz (row_lt rz) (by decide), bytes_dec [2] (by decide)⟩
      · exact ⟨RdK.here (rdK_ints (xs := a) (n := 32) hal (row_ext (row_ext r4_3 (ext_drew _)) hR) (row_lt (row_ext (row_ext r4_3 (ext_drew _)) hR)) (by decide)), hab⟩
      · exact ⟨RdK.here (rdK_ints (xs := b) (n := 32) hbl (row_ext (row_ext r5_3 (ext_drew _)) hR) (row_lt (row_ext (row_ext r5_3 (ext_drew _)) hR)) (by decide)), hbb⟩
    have hsh := shortC gp 3 _ ([(.slice (some ⟨gz, 0, none⟩) 1 1, [2]), (.slice (some ⟨g4, 0, none⟩) 32 32, a), (.slice (some ⟨g5, 0, none⟩) 32 32, b)] : List (Value × List Int)) rfl (by decide) tc tq W (row_ext (row_ext r1_3 (ext_drew _)) hR) (row_ext (row_ext r2_3 (ext_drew _)) hR) rp hps (by simp only [List.map_cons, List.map_nil, List.flatten_cons, List.flatten_nil, List.append_nil, List.length_append, List.length_cons, List.length_nil, hal, hbl]; omega)
    rw [show ((List.map Prod.snd ([(.slice (some ⟨gz, 0, none⟩) 1 1, [2]), (.slice (some ⟨g4, 0, none⟩) 32 32, a), (.slice (some ⟨g5, 0, none⟩) 32 32, b)] : List (Value × List Int))).flatten) = ([2] ++ a) ++ b by simp only [List.map_cons, List.map_nil, List.flatten_cons, List.flatten_nil, List.append_nil, List.append_assoc, List.cons_append, List.nil_append]] at hsh
    exact hsh
  refine e_nil (hF _ fun W4 e4 => ?_)
  simp only [List.nil_append, List.cons_append, List.take_succ_cons, List.take_zero, List.drop_succ_cons, List.drop_zero, finE, up]
  intro vv7 hv7 vv11 hv11
  clear hF
  have x4 : Ext w W4 := Ext.tr x3 e4
  have r6_4 := (row_ext r6_3 e4)
  refine seq_store g6 _ (ints .u8 (dig (([2] ++ a) ++ b))) 26 r6_4 rfl kj (run_store_row 26 _ _ g6 26 _ _ r6_4 rfl kj kj (isz (n := 32) kj ((ints_size _ _).trans (dig_len _))) (eqsz (n := 32) ((ints_size _ _).trans (List.length_replicate (n := 32))) ((ints_size _ _).trans (dig_len _))) (ints_one _ _)) fun W5 p5 r6_5 => ?_
  have x5 : Ext w W5 := Puts.ext p5 x4 b6
  refine seq_nil ?_
  refine hK7 _ _ ?_
  try clear hK7 K7
  refine wp_ret ?_
  repeat (first | with_reducible refine goR1 ?_ | with_reducible refine goR2 ?_)
  exact (show bodyPost _ _ _ .ret _ _ from ret1 (.agg (ints .u8 (dig (([2] ++ a) ++ b)))) rfl (res_cell g6 26 _ r6_5 kj kj (isz (n := 32) kj ((ints_size _ _).trans (dig_len _)))) ⟨rfl, x5⟩)
set_option maxHeartbeats 4000000 in
theorem rconfirmedC (a text sig : List Int) (v2 : Value) (B2 : Nat) (w : World) (hal : a.length = 32) (hab : AreBytes a) (htl : text.length ≤ 800000000) (htb : AreBytes text) (hgl : sig.length = 64) (hgb : AreBytes sig) (hx : RdK .u8 B2 text v2 w) : Calls Tryd.prog 37 #[.agg (ints .u8 a), v2, .agg (ints .u8 sig)] w (Ret w (.agg (ints .u8 (dig ((([1] ++ a) ++ text) ++ sig))))) := by
  obtain ⟨a_text, c_text, rfl, -⟩ := id hx
  refine enter 17 [(0, .agg (ints .u8 (a))), (1, .slice a_text text.length c_text), (2, .agg (ints .u8 (sig)))] Tryd.func37 rfl rfl kj rfl ?_
  refine wp_seq_k fun K1 hK1 => ?_
  refine region_lit ?_
  refine seq_alloc (ints .u8 (a)) 26 3 rfl kj kj fun g2 W1 l2 e1 r2_1 => ?_
  have x1 : Ext w W1 := Ext.tr (Rely.Ext.refl w) e1
  have b2 : w.heap.size ≤ g2 := Nat.le_trans (Rely.Ext.refl w).size l2
  refine seq_alloc (ints .u8 (sig)) 63 5 rfl kj kj fun g3 W2 l3 e2 r3_2 => ?_
  have x2 : Ext w W2 := Ext.tr x1 e2
  have b3 : w.heap.size ≤ g3 := Nat.le_trans x1.size l3
  refine seq_alloc (ints .u8 (List.replicate 32 0)) 26 6 rfl kj kj fun g4 W3 l4 e3 r4_3 => ?_
  have x3 : Ext w W3 := Ext.tr x2 e3
  have b4 : w.heap.size ≤ g4 := Nat.le_trans x2.size l4
  refine seq_nil ?_
  refine hK1 _ _ ?_
  try clear hK1 K1
  refine wp_seq_k fun K5 hK5 => ?_
  refine region_lit ?_
  refine seq_makeS (ints .u8 ([1])) 5 1 8 rfl kj kj fun g6 W4 l6 e4 r6_4 => ?_
  have x4 : Ext w W4 := Ext.tr x3 e4
  have b6 : w.heap.size ≤ g6 := Nat.le_trans x3.size l6
  refine seq_val (.slice (some ⟨g2, 0, none⟩) 32 32) 9 rfl kj kj ?_
  have r2_2 := (row_ext r2_1 e2)
  have r2_3 := (row_ext r2_2 e3)
  have r2_4 := (row_ext r2_3 e4)
  have y3_4 : Ext W3 W4 := (Rely.Ext.trans (Rely.Ext.refl W3) e4)
  refine seq_appendN (k := .u8) (T := 5) (xs := [1]) (ys := a) (V := W3) 1 (.tmp 8) (.tmp 9) 22 rfl kj kj (by decide) 10 rfl kj kj kj (ownN_row (xs := [1]) rfl l6 r6_4 (by decide)) (rdK_ints (xs := a) (n := 32) hal r2_4 (row_lt r2_4) (show 32 ≤ maxLen from by decide)) (by simp only [List.length_append, List.length_cons, List.length_nil]; omega) y3_4 fun z1 W5 f7 y5 l5 => ?_
  have x5 : Ext w W5 := Ext.low x4 l5 x3.size
  have hu9 : OwnN .u8 5 W3.heap.size ([1] ++ a) z1 W5 := f7
  refine seq_val (.slice a_text text.length c_text) 11 rfl kj kj ?_
  refine seq_appendN (k := .u8) (T := 5) (xs := [1] ++ a) (ys := text) (V := W3) 1 (.tmp 10) (.tmp 11) 22 rfl kj kj (by decide) 12 rfl kj kj kj hu9 (RdK.ext hx x5) (by simp only [List.length_append, List.length_cons, List.length_nil]; omega) y5 fun z2 W6 f10 y6 l6 => ?_
  have x6 : Ext w W6 := Ext.low x5 l6 x3.size
  have hu12 : OwnN .u8 5 W3.heap.size (([1] ++ a) ++ text) z2 W6 := f10
  refine seq_val (z2) 7 rfl kj kj ?_
  refine seq_nil ?_
  refine hK5 _ _ ?_
  try clear hK5 K5
  refine wp_seq_k fun K13 hK13 => ?_
  refine region_lit ?_
  refine seq_val (z2) 13 rfl kj kj ?_
  refine seq_val (.slice (some ⟨g3, 0, none⟩) 64 64) 14 rfl kj kj ?_
  have r3_3 := (row_ext r3_2 e3)
  have r3_4 := (row_ext r3_3 e4)
  have r3_5 := (low_row l5 r3_4 (row_lt r3_3))
  have r3_6 := (low_row l6 r3_5 (row_lt r3_3))
  refine seq_appendN (k := .u8) (T := 5) (xs := ([1] ++ a) ++ text) (ys := sig) (V := W3) 1 (.tmp 13) (.tmp 14) 22 rfl kj kj (by decide) 15 rfl kj kj kj hu12 (rdK_ints (xs := sig) (n := 64) hgl r3_6 (row_lt r3_6) (show 64 ≤ maxLen from by decide)) (by simp only [List.length_append, List.length_cons, List.length_nil]; omega) y6 fun z3 W7 f14 y7 l7 => ?_
  have x7 : Ext w W7 := Ext.low x6 l7 x3.size
  have hu16 : OwnN .u8 5 W3.heap.size ((([1] ++ a) ++ text) ++ sig) z3 W7 := f14
  refine seq_call (.agg (ints .u8 (dig ((([1] ++ a) ++ text) ++ sig)))) 44 #[z3] 16 rfl kj kj ((rshortC ((([1] ++ a) ++ text) ++ sig) _ _ _ (by simp only [List.length_append, List.length_cons, List.length_nil]; omega) (bytes_app (bytes_app (bytes_app (bytes_dec [1] (by decide)) hab) htb) hgb) (OwnN.rd hu16))) fun W8 e8 => ?_
  have x8 : Ext w W8 := Ext.tr x7 e8
  have r4_4 := (row_ext r4_3 e4)
  have r4_5 := (low_row l5 r4_4 (row_lt r4_3))
  have r4_6 := (low_row l6 r4_5 (row_lt r4_3))
  have r4_7 := (low_row l7 r4_6 (row_lt r4_3))
  have r4_8 := (row_ext r4_7 e8)
  refine seq_store g4 _ (ints .u8 (dig ((([1] ++ a) ++ text) ++ sig))) 26 r4_8 rfl kj (run_store_row 26 _ _ g4 26 _ _ r4_8 rfl kj kj (isz (n := 32) kj ((ints_size _ _).trans (dig_len _))) (eqsz (n := 32) ((ints_size _ _).trans (List.length_replicate (n := 32))) ((ints_size _ _).trans (dig_len _))) (ints_one _ _)) fun W9 p9 r4_9 => ?_
  have x9 : Ext w W9 := Puts.ext p9 x8 b4
  refine seq_nil ?_
  refine hK13 _ _ ?_
  try clear hK13 K13
  refine wp_ret ?_
  repeat (first | with_reducible refine goR1 ?_ | with_reducible refine goR2 ?_)
  exact (show bodyPost _ _ _ .ret _ _ from ret1 (.agg (ints .u8 (dig ((([1] ++ a) ++ text) ++ sig)))) rfl (res_cell g4 26 _ r4_9 kj kj (isz (n := 32) kj ((ints_size _ _).trans (dig_len _)))) ⟨rfl, x9⟩)
set_option maxHeartbeats 4000000 in
theorem rinterimC (a b : List Int) (w : World) (hal : a.length = 32) (hab : AreBytes a) (hbl : b.length = 32) (hbb : AreBytes b) : Calls Tryd.prog 39 #[.agg (ints .u8 (a)), .agg (ints .u8 (b))] w (Ret w (.agg (ints .u8 (dig (([2] ++ a) ++ b))))) := by
  refine enter 11 [(0, .agg (ints .u8 (a))), (1, .agg (ints .u8 (b)))] Tryd.func39 rfl rfl kj rfl ?_
  refine wp_seq_k fun K1 hK1 => ?_
  refine region_lit ?_
  refine seq_alloc (ints .u8 (a)) 26 2 rfl kj kj fun g2 W1 l2 e1 r2_1 => ?_
  have x1 : Ext w W1 := Ext.tr (Rely.Ext.refl w) e1
  have b2 : w.heap.size ≤ g2 := Nat.le_trans (Rely.Ext.refl w).size l2
  refine seq_alloc (ints .u8 (b)) 26 3 rfl kj kj fun g3 W2 l3 e2 r3_2 => ?_
  have x2 : Ext w W2 := Ext.tr x1 e2
  have b3 : w.heap.size ≤ g3 := Nat.le_trans x1.size l3
  refine seq_alloc (ints .u8 (List.replicate 32 0)) 26 4 rfl kj kj fun g4 W3 l4 e3 r4_3 => ?_
  have x3 : Ext w W3 := Ext.tr x2 e3
  have b4 : w.heap.size ≤ g4 := Nat.le_trans x2.size l4
  refine seq_nil ?_
  refine hK1 _ _ ?_
  try clear hK1 K1
  refine wp_seq_k fun K5 hK5 => ?_
  have r2_2 := (row_ext r2_1 e2)
  have r2_3 := (row_ext r2_2 e3)
  refine any_regionX (Once W3.heap.size 1 a) (Once.refl _ _ _) (fun h k => Once.trans h k) 4 [⟨none, []⟩, ⟨none, [(2, none)]⟩, ⟨none, [(5, some 0), (6, some 1)]⟩, ⟨none, [(3, none)]⟩] kj kj fun F hF => ?_
  refine x_runX (OwnN .u8 5 W3.heap.size [2]) (once_own (fun i hi h => absurd hi (by simp only [List.length_cons, List.length_nil]; omega))) (fun ρ W hR hh => ⟨.slice (some ⟨W.heap.size, 0, none⟩) 1 1, W.alloc (.cells (ints .u8 [2]) 5), by kernel_rfl, Once.ext (ext_alloc _ _), ownN_row (xs := [2]) (n := 1) rfl (Nat.le_trans (ext_drew W3).size hR.size) (heap_alloc_new _ _) (by decide)⟩) ?_
  refine x_val (Once.refl _ _ _) (.slice (some ⟨g2, 0, none⟩) 32 32) kj kj (fun W hR => by kernel_rfl) ?_
  refine x_runX (OwnN .u8 5 W3.heap.size ([2] ++ a)) (once_own (fun i hi h => by unfold nth; rw [List.getD_eq_getElem?_getD, List.getD_eq_getElem?_getD, List.getElem?_append_right h]; rfl)) (fun ρ W hR hh => ?_) ?_
  · have e6 : ρ 6 = .slice (some ⟨g2, 0, none⟩) 32 32 := hh.2.1
    have h5 : OwnN .u8 5 W3.heap.size [2] (ρ 5) W := hh.1
    exact append_O (base := W3.heap.size) (n := 1) (Y := a) (b := 1) (xs := [2]) (ys := a) (ρ := Rely.look ρ) (.tmp 5) (.tmp 6) 22 rfl kj kj (by decide) rfl e6 h5 (hR.rd ((rdK_ints (xs := a) (n := 32) hal r2_3 (row_lt r2_3) (by decide)).ext (ext_drew _)) (Nat.le_refl _)) (by simp only [List.length_cons, List.length_nil]; omega) (Nat.le_trans (ext_drew W3).size hR.size) (.inr ⟨rfl, rfl⟩)
  refine x_val (Once.refl _ _ _) (.slice (some ⟨g3, 0, none⟩) 32 32) kj kj (fun W hR => by kernel_rfl) ?_
  refine e_nil (hF _ fun W4 hR => ?_)
  simp only [List.nil_append, List.cons_append, List.take_succ_cons, List.take_zero, List.drop_succ_cons, List.drop_zero, finE, up]
  intro z5 hz5 z7 hz7
  clear hF
  have l4 : Below W3.heap.size W3 W4 := below_drew (Once.below hR (ext_drew _).size) (Nat.le_refl _)
  have x4 : Ext w W4 := Ext.low x3 l4 x3.size
  have r3_3 := (row_ext r3_2 e3)
  have r3_4 := (low_row l4 r3_3 (row_lt r3_3))
  have y3_4 : Ext W3 W4 := (Ext.low (Rely.Ext.refl W3) l4 (Rely.Ext.refl W3).size)
  refine seq_appendN (k := .u8) (T := 5) (xs := [2] ++ a) (ys := b) (V := W3) 1 (.tmp 7) (.tmp 8) 22 rfl kj kj (by decide) 9 rfl kj kj kj hz7 (rdK_ints (xs := b) (n := 32) hbl r3_4 (row_lt r3_4) (show 32 ≤ maxLen from by decide)) (by simp only [List.length_append, List.length_cons, List.length_nil]; omega) y3_4 fun z2 W5 f6 y5 l5 => ?_
  have x5 : Ext w W5 := Ext.low x4 l5 x3.size
  have hu8 : OwnN .u8 5 W3.heap.size (([2] ++ a) ++ b) z2 W5 := f6
  refine seq_call (.agg (ints .u8 (dig (([2] ++ a) ++ b)))) 44 #[z2] 10 rfl kj kj ((rshortC (([2] ++ a) ++ b) _ _ _ (by simp only [List.length_append, List.length_cons, List.length_nil]; omega) (bytes_app (bytes_app (bytes_dec [2] (by decide)) hab) hbb) (OwnN.rd hu8))) fun W6 e6 => ?_
  have x6 : Ext w W6 := Ext.tr x5 e6
  have r4_4 := (low_row l4 r4_3 (row_lt r4_3))
  have r4_5 := (low_row l5 r4_4 (row_lt r4_3))
  have r4_6 := (row_ext r4_5 e6)
  refine seq_store g4 _ (ints .u8 (dig (([2] ++ a) ++ b))) 26 r4_6 rfl kj (run_store_row 26 _ _ g4 26 _ _ r4_6 rfl kj kj (isz (n := 32) kj ((ints_size _ _).trans (dig_len _))) (eqsz (n := 32) ((ints_size _ _).trans (List.length_replicate (n := 32))) ((ints_size _ _).trans (dig_len _))) (ints_one _ _)) fun W7 p7 r4_7 => ?_
  have x7 : Ext w W7 := Puts.ext p7 x6 b4
  refine seq_nil ?_
  refine hK5 _ _ ?_
  try clear hK5 K5
  refine wp_ret ?_
  repeat (first | with_reducible refine goR1 ?_ | with_reducible refine goR2 ?_)
  exact (show bodyPost _ _ _ .ret _ _ from ret1 (.agg (ints .u8 (dig (([2] ++ a) ++ b)))) rfl (res_cell g4 26 _ r4_7 kj kj (isz (n := 32) kj ((ints_size _ _).trans (dig_len _)))) ⟨rfl, x7⟩)

end Go.Proofs.YtamlhbbphnamnaaDoor.Sha
