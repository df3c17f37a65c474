/- The law AeadMarks. -/
import Derived.Test.YtjldjdlhllgakaaDoorOncU
import Derived.Laws.Externs
import Derived.Shelf.Spec.BitsCarry
import Derived.Shelf.Bits.Mul64
import Derived.Laws.Bits64b
namespace Go.Proofs.YtjldjdlhllgakaaDoor.Ae
open Go Go.RowKit
open Go.Proofs.YtjldjdlhllgakaaDoor.Rely Go.Proofs.YtjldjdlhllgakaaDoor.Auto Go.Proofs.YtjldjdlhllgakaaDoor.Own Go.Proofs.YtjldjdlhllgakaaDoor.Sha
set_option linter.unusedVariables false
set_option linter.unusedSimpArgs false

open Go.Proofs.YtjldjdlhllgakaaDoor.Sha Go.Proofs.YtjldjdlhllgakaaDoor.Cha
theorem own_take {T : TypeId} {base n c : Nat} {xs : List Int} {a : Option Addr} {W : World} (h : OwnN .u8 T base xs (.slice a xs.length c) W) (hn : n ≤ xs.length) : OwnN .u8 T base (xs.take n) (.slice a n c) W := by
  have hl : (xs.take n).length = n := by rw [List.length_take]; omega
  obtain ⟨⟨h1, h2⟩, hm⟩ := h
  rcases h2 with ⟨h2, h3⟩ | ⟨g, c', cur, e, q2, q3, q4, q5, q6, q7⟩
  · simp only [Value.slice.injEq] at h2
    obtain ⟨rfl, h4, rfl⟩ := h2
    obtain rfl := List.length_eq_zero_iff.1 h4
    obtain rfl : n = 0 := by simpa using hn
    exact ownN_nil _ _ _ _
  · simp only [Value.slice.injEq] at e
    obtain ⟨rfl, -, rfl⟩ := e
    refine ownN_at hl q2 q3 (by omega) (by omega) q5 ?_
    have : cur.toList.take n = (cur.toList.take (xs.length * 1)).take n := by rw [List.take_take]; congr 1; omega
    rw [this, q7, List.map_take]
theorem CopyN.own {base : Nat} {xs : List Int} {v : Value} {W : World} (h : CopyN 5 base xs v W) : OwnN .u8 5 base xs v W := by
  obtain ⟨g, c, rfl, h2⟩ := h
  have h3 := own_take h2 (n := xs.length) (by simp)
  rwa [List.take_left] at h3
set_option maxRecDepth 100000 in
set_option maxHeartbeats 4000000 in
theorem lawMarks_A (key la lb : List Int) (v1 v2 : Value) (B B2 : Nat) (th tq : TypeId) (w : World) (hh : w.heap[0]? = some (.cells (ints .u32 [1634760805, 857760878, 2036477234, 1797285236]) th)) (hq : w.heap[1]? = some (.cells (ints .i64 [0, 4, 8, 12, 1, 5, 9, 13, 2, 6, 10, 14, 3, 7, 11, 15, 0, 5, 10, 15, 1, 6, 11, 12, 2, 7, 8, 13, 3, 4, 9, 14]) tq)) (hkl : key.length = 32) (hkb : AreBytes key) (hab : AreBytes la) (hbb : AreBytes lb) (ha : RdK .u8 B la v1 w) (hb : RdK .u8 B2 lb v2 w) (h1 : 500 < la.length) : Calls Tryd.prog 3 #[.agg (ints .u8 key), v1, v2] w (Ret w (.bool true)) := by
  obtain ⟨a_la, c_la, rfl, -⟩ := id ha
  obtain ⟨a_lb, c_lb, rfl, -⟩ := id hb
  refine enter 38 [(0, .agg (ints .u8 (key))), (1, .slice a_la la.length c_la), (2, .slice a_lb lb.length c_lb)] Tryd.func3 rfl rfl kj rfl ?_
  refine wp_seq_k fun K3 hK3 => ?_
  refine region_lit ?_
  refine seq_alloc (ints .u8 (key)) 23 3 rfl kj kj fun g4 W1 l4 e1 r4_1 => ?_
  have x1 : Ext w W1 := Ext.tr (Rely.Ext.refl w) e1
  have b4 : w.heap.size ≤ g4 := Nat.le_trans (Rely.Ext.refl w).size l4
  refine seq_val (.bool false) 6 rfl kj kj ?_
  refine seq_nil ?_
  refine hK3 _ _ ?_
  try clear hK3 K3
  refine wp_seq_k fun K5 hK5 => ?_
  refine wp_seq_k fun K6 hK6 => ?_
  refine region_lit ?_
  have r2_1 := (row_ext hh e1)
  have r1_1 := (row_ext hq e1)
  refine seq_call (.bool true) 9 #[] 8 rfl kj kj ((alive04 th tq _ r2_1 r1_1)) fun W2 e2 => ?_
  have x2 : Ext w W2 := Ext.tr x1 e2
  refine seq_val (.bool false) 9 rfl kj kj ?_
  refine seq_nil ?_
  refine hK6 _ _ ?_
  try clear hK6 K6
  refine cond_false kj ?_
  refine wp_skip ?_
  refine hK5 _ _ ?_
  try clear hK5 K5
  refine wp_seq_k fun K7 hK7 => ?_
  refine wp_seq_k fun K8 hK8 => ?_
  refine region_lit ?_
  refine seq_val (.slice a_la la.length c_la) 10 rfl kj kj ?_
  refine seq_val (.int .i64 ((la.length : Nat) : Int)) 11 rfl kj kj ?_
  refine seq_val (.bool true) 12 rfl kj (run_eq (u := .bool (decide (((la.length : Nat) : Int) > 500))) kj (congrArg Value.bool (decide_eq_true (by omega)))) ?_
  refine seq_val (.bool true) 13 rfl kj kj ?_
  refine seq_skip 14 rfl kj ?_
  refine seq_skip 15 rfl kj ?_
  refine seq_skip 16 rfl kj ?_
  refine seq_val (.bool true) 17 rfl kj kj ?_
  refine seq_nil ?_
  refine hK8 _ _ ?_
  try clear hK8 K8
  refine cond_true kj ?_
  refine wp_seq_k fun K9 hK9 => ?_
  refine region_lit ?_
  refine seq_val (.bool true) 6 rfl kj kj ?_
  refine seq_nil ?_
  refine hK9 _ _ ?_
  try clear hK9 K9
  refine wp_ret ?_
  repeat (first | with_reducible refine goR1 ?_ | with_reducible refine goR2 ?_)
  exact (show bodyPost _ _ _ .ret _ _ from ret1 (.bool true) rfl (res_tmp kj) ⟨rfl, x2⟩)
set_option maxRecDepth 100000 in
set_option maxHeartbeats 4000000 in
theorem lawMarks_B (key la lb : List Int) (v1 v2 : Value) (B B2 : Nat) (th tq : TypeId) (w : World) (hh : w.heap[0]? = some (.cells (ints .u32 [1634760805, 857760878, 2036477234, 1797285236]) th)) (hq : w.heap[1]? = some (.cells (ints .i64 [0, 4, 8, 12, 1, 5, 9, 13, 2, 6, 10, 14, 3, 7, 11, 15, 0, 5, 10, 15, 1, 6, 11, 12, 2, 7, 8, 13, 3, 4, 9, 14]) tq)) (hkl : key.length = 32) (hkb : AreBytes key) (hab : AreBytes la) (hbb : AreBytes lb) (ha : RdK .u8 B la v1 w) (hb : RdK .u8 B2 lb v2 w) (h1 : la.length ≤ 500) (h2 : 500 < lb.length) : Calls Tryd.prog 3 #[.agg (ints .u8 key), v1, v2] w (Ret w (.bool true)) := by
  obtain ⟨a_la, c_la, rfl, -⟩ := id ha
  obtain ⟨a_lb, c_lb, rfl, -⟩ := id hb
  refine enter 38 [(0, .agg (ints .u8 (key))), (1, .slice a_la la.length c_la), (2, .slice a_lb lb.length c_lb)] Tryd.func3 rfl rfl kj rfl ?_
  refine wp_seq_k fun K3 hK3 => ?_
  refine region_lit ?_
  refine seq_alloc (ints .u8 (key)) 23 3 rfl kj kj fun g4 W1 l4 e1 r4_1 => ?_
  have x1 : Ext w W1 := Ext.tr (Rely.Ext.refl w) e1
  have b4 : w.heap.size ≤ g4 := Nat.le_trans (Rely.Ext.refl w).size l4
  refine seq_val (.bool false) 6 rfl kj kj ?_
  refine seq_nil ?_
  refine hK3 _ _ ?_
  try clear hK3 K3
  refine wp_seq_k fun K5 hK5 => ?_
  refine wp_seq_k fun K6 hK6 => ?_
  refine region_lit ?_
  have r2_1 := (row_ext hh e1)
  have r1_1 := (row_ext hq e1)
  refine seq_call (.bool true) 9 #[] 8 rfl kj kj ((alive04 th tq _ r2_1 r1_1)) fun W2 e2 => ?_
  have x2 : Ext w W2 := Ext.tr x1 e2
  refine seq_val (.bool false) 9 rfl kj kj ?_
  refine seq_nil ?_
  refine hK6 _ _ ?_
  try clear hK6 K6
  refine cond_false kj ?_
  refine wp_skip ?_
  refine hK5 _ _ ?_
  try clear hK5 K5
  refine wp_seq_k fun K7 hK7 => ?_
  refine wp_seq_k fun K8 hK8 => ?_
  refine region_lit ?_
  refine seq_val (.slice a_la la.length c_la) 10 rfl kj kj ?_
  refine seq_val (.int .i64 ((la.length : Nat) : Int)) 11 rfl kj kj ?_
  refine seq_val (.bool false) 12 rfl kj (run_eq (u := .bool (decide (((la.length : Nat) : Int) > 500))) kj (congrArg Value.bool (decide_eq_false (by omega)))) ?_
  refine seq_val (.bool false) 13 rfl kj kj ?_
  refine seq_val (.slice a_lb lb.length c_lb) 14 rfl kj kj ?_
  refine seq_val (.int .i64 ((lb.length : Nat) : Int)) 15 rfl kj kj ?_
  refine seq_val (.bool true) 16 rfl kj (run_eq (u := .bool (decide (((lb.length : Nat) : Int) > 500))) kj (congrArg Value.bool (decide_eq_true (by omega)))) ?_
  refine seq_val (.bool true) 17 rfl kj kj ?_
  refine seq_nil ?_
  refine hK8 _ _ ?_
  try clear hK8 K8
  refine cond_true kj ?_
  refine wp_seq_k fun K9 hK9 => ?_
  refine region_lit ?_
  refine seq_val (.bool true) 6 rfl kj kj ?_
  refine seq_nil ?_
  refine hK9 _ _ ?_
  try clear hK9 K9
  refine wp_ret ?_
  repeat (first | with_reducible refine goR1 ?_ | with_reducible refine goR2 ?_)
  exact (show bodyPost _ _ _ .ret _ _ from ret1 (.bool true) rfl (res_tmp kj) ⟨rfl, x2⟩)
set_option maxRecDepth 100000 in
set_option maxHeartbeats 4000000 in
theorem lawMarks_D (key la lb : List Int) (v1 v2 : Value) (B B2 : Nat) (th tq : TypeId) (w : World) (hh : w.heap[0]? = some (.cells (ints .u32 [1634760805, 857760878, 2036477234, 1797285236]) th)) (hq : w.heap[1]? = some (.cells (ints .i64 [0, 4, 8, 12, 1, 5, 9, 13, 2, 6, 10, 14, 3, 7, 11, 15, 0, 5, 10, 15, 1, 6, 11, 12, 2, 7, 8, 13, 3, 4, 9, 14]) tq)) (hkl : key.length = 32) (hkb : AreBytes key) (hab : AreBytes la) (hbb : AreBytes lb) (ha : RdK .u8 B la v1 w) (hb : RdK .u8 B2 lb v2 w) (h1 : la.length ≤ 500) (h2 : lb.length ≤ 500) : Calls Tryd.prog 3 #[.agg (ints .u8 key), v1, v2] w (Ret w (.bool true)) := by
  obtain ⟨a_la, c_la, rfl, -⟩ := id ha
  obtain ⟨a_lb, c_lb, rfl, -⟩ := id hb
  refine enter 38 [(0, .agg (ints .u8 (key))), (1, .slice a_la la.length c_la), (2, .slice a_lb lb.length c_lb)] Tryd.func3 rfl rfl kj rfl ?_
  refine wp_seq_k fun K3 hK3 => ?_
  refine region_lit ?_
  refine seq_alloc (ints .u8 (key)) 23 3 rfl kj kj fun g4 W1 l4 e1 r4_1 => ?_
  have x1 : Ext w W1 := Ext.tr (Rely.Ext.refl w) e1
  have b4 : w.heap.size ≤ g4 := Nat.le_trans (Rely.Ext.refl w).size l4
  refine seq_val (.bool false) 6 rfl kj kj ?_
  refine seq_nil ?_
  refine hK3 _ _ ?_
  try clear hK3 K3
  refine wp_seq_k fun K5 hK5 => ?_
  refine wp_seq_k fun K6 hK6 => ?_
  refine region_lit ?_
  have r2_1 := (row_ext hh e1)
  have r1_1 := (row_ext hq e1)
  refine seq_call (.bool true) 9 #[] 8 rfl kj kj ((alive04 th tq _ r2_1 r1_1)) fun W2 e2 => ?_
  have x2 : Ext w W2 := Ext.tr x1 e2
  refine seq_val (.bool false) 9 rfl kj kj ?_
  refine seq_nil ?_
  refine hK6 _ _ ?_
  try clear hK6 K6
  refine cond_false kj ?_
  refine wp_skip ?_
  refine hK5 _ _ ?_
  try clear hK5 K5
  refine wp_seq_k fun K7 hK7 => ?_
  refine wp_seq_k fun K8 hK8 => ?_
  refine region_lit ?_
  refine seq_val (.slice a_la la.length c_la) 10 rfl kj kj ?_
  refine seq_val (.int .i64 ((la.length : Nat) : Int)) 11 rfl kj kj ?_
  refine seq_val (.bool false) 12 rfl kj (run_eq (u := .bool (decide (((la.length : Nat) : Int) > 500))) kj (congrArg Value.bool (decide_eq_false (by omega)))) ?_
  refine seq_val (.bool false) 13 rfl kj kj ?_
  refine seq_val (.slice a_lb lb.length c_lb) 14 rfl kj kj ?_
  refine seq_val (.int .i64 ((lb.length : Nat) : Int)) 15 rfl kj kj ?_
  refine seq_val (.bool false) 16 rfl kj (run_eq (u := .bool (decide (((lb.length : Nat) : Int) > 500))) kj (congrArg Value.bool (decide_eq_false (by omega)))) ?_
  refine seq_val (.bool false) 17 rfl kj kj ?_
  refine seq_nil ?_
  refine hK8 _ _ ?_
  try clear hK8 K8
  refine cond_false kj ?_
  refine wp_skip ?_
  refine hK7 _ _ ?_
  try clear hK7 K7
  refine wp_seq_k fun K9 hK9 => ?_
  refine region_lit ?_
  refine seq_val (.slice a_la la.length c_la) 18 rfl kj kj ?_
  refine seq_callR (fun v W' => (CopyN 5 W2.heap.size (la)) v W' ∧ Ext W2 W') 10 #[.slice a_la la.length c_la] 19 rfl kj kj ((copyC (la) _ _ _ (by omega) (RdK.ext ha x2)).mono (by rintro e w' ⟨v, rfl, e1, hv⟩; exact ⟨v, rfl, hv, e1⟩)) fun vv10 W3 hh10 => ?_
  obtain ⟨hv10, e3⟩ := hh10
  have x3 : Ext w W3 := Ext.tr x2 e3
  have hq11 := hv10
  obtain ⟨gk11, ck11, rfl, -⟩ := hq11
  refine seq_val (.slice (some ⟨gk11, 0, none⟩) (la).length ck11) 7 rfl kj kj ?_
  refine seq_nil ?_
  refine hK9 _ _ ?_
  try clear hK9 K9
  refine wp_seq_k fun K12 hK12 => ?_
  have r4_2 := (row_ext r4_1 e2)
  have r4_3 := (row_ext r4_2 e3)
  have hRl := rl_oncU W3.drew la.length lb
  refine any_regionR (OncU W3.drew.heap.size la.length lb) hRl 16 [⟨none, [(3, none)]⟩, ⟨none, [(7, none)]⟩, ⟨none, [(2, none)]⟩, ⟨none, [(21, some 1), (22, some 2)]⟩, ⟨none, [(20, some 0), (23, some 3)]⟩, ⟨none, [(3, none)]⟩, ⟨none, []⟩, ⟨none, [(1, none)]⟩, ⟨none, [(26, some 6), (27, some 7)]⟩, ⟨none, [(2, none)]⟩, ⟨none, [(28, some 8), (29, some 9)]⟩, ⟨none, [(25, some 5), (30, some 10)]⟩, ⟨none, [(24, some 4), (31, some 11)]⟩, ⟨none, [(32, some 12)]⟩, ⟨some (33, true), [(7, none), (33, some 13)]⟩, ⟨some (33, true), [(1, none), (33, some 13)]⟩] kj kj fun F hF => ?_
  refine e_read hRl (.agg (ints .u8 (key))) kj kj (fun W hR => (run_load_row 23 _ g4 23 _ _ (row_ext (row_ext r4_3 (ext_drew _)) hR) rfl kj kj (isz (n := 32) kj ((ints_size _ _).trans hkl)))) ?_
  refine e_val hRl (.slice (some ⟨gk11, 0, none⟩) (la).length ck11) kj kj (fun W => by kernel_rfl) ?_
  refine e_val hRl (.slice a_lb lb.length c_lb) kj kj (fun W => by kernel_rfl) ?_
  refine e_newS hRl #[.slice (some ⟨gk11, 0, none⟩) (la).length ck11, .slice a_lb lb.length c_lb] 24 2 (oncU_row (by decide)) kj kj (fun W => by kernel_rfl) ?_
  refine e_callX hRl (.agg (ints .u8 (tagV (rOf key) (sOf key) (la ++ lb)))) 11 (fun ρ W hR hh => ?_) ?_
  · skip
    obtain ⟨gs, es, ls, rs⟩ : NewS W3.drew.heap.size #[.slice (some ⟨gk11, 0, none⟩) (la).length ck11, .slice a_lb lb.length c_lb] 24 2 (ρ 23) W := hh.2.1
    have e20 : ρ 20 = .agg (ints .u8 (key)) := hh.1
    refine ⟨#[.agg (ints .u8 (key)), .slice (some ⟨gs, 0, none⟩) 2 2], Eq.trans (b := Result.ok (Next.enter 11 #[ρ 20, ρ 23]) W) kj (by rw [e20, es]), ?_⟩
    exact mark2C key la lb _ _ gs W.heap.size W hkl hkb (Nat.le_refl _) (RdK.here (RdK.ext (OwnN.rd (CopyN.own hv10)) (Rely.Ext.trans (ext_drew _) hR))) hab (by omega) (RdK.here (RdK.ext (RdK.ext hb x3) (Rely.Ext.trans (ext_drew _) hR))) hbb (by omega) rs
  refine e_read hRl (.agg (ints .u8 (key))) kj kj (fun W hR => (run_load_row 23 _ g4 23 _ _ (row_ext (row_ext r4_3 (ext_drew _)) hR) rfl kj kj (isz (n := 32) kj ((ints_size _ _).trans hkl)))) ?_
  refine e_newS hRl #[] 5 0 oncU_new kj kj (fun W => by kernel_rfl) ?_
  refine e_val hRl (.slice a_la la.length c_la) kj kj (fun W => by kernel_rfl) ?_
  refine e_runX hRl (OwnN .u8 5 W3.drew.heap.size la) (oncU_own (fun i hi h => absurd hi (by omega))) (fun ρ W hR hh => ?_) ?_
  · skip
    obtain ⟨gz, ez, lz, rz⟩ : NewS W3.drew.heap.size #[] 5 0 (ρ 26) W := hh.1
    have e27 : ρ 27 = .slice a_la la.length c_la := hh.2.1
    exact append_U (base := W3.drew.heap.size) (n := la.length) (Y := lb) (b := 1) (xs := []) (ys := la) (ρ := Rely.look ρ) (.tmp 26) (.tmp 27) 24 rfl kj kj (by decide) ez e27 (ownN_row (xs := []) rfl lz rz (by decide)) (RdK.ext (RdK.ext ha x3) (Rely.Ext.trans (ext_drew _) hR)) (by simp only [List.length_nil]; omega) hR.size (.inl ⟨gz, rfl⟩)
  refine e_val hRl (.slice a_lb lb.length c_lb) kj kj (fun W => by kernel_rfl) ?_
  refine e_runX hRl (OwnN .u8 5 W3.drew.heap.size (la ++ lb)) (oncU_own (fun i hi h => by unfold nth; rw [List.getD_eq_getElem?_getD, List.getD_eq_getElem?_getD, List.getElem?_append_right h])) (fun ρ W hR hh => ?_) ?_
  · skip
    have h28 : OwnN .u8 5 W3.drew.heap.size la (ρ 28) W := hh.1
    have e29 : ρ 29 = .slice a_lb lb.length c_lb := hh.2.1
    exact append_U (base := W3.drew.heap.size) (n := la.length) (Y := lb) (b := 1) (xs := la) (ys := lb) (ρ := Rely.look ρ) (.tmp 28) (.tmp 29) 24 rfl kj kj (by decide) rfl e29 h28 (RdK.ext (RdK.ext hb x3) (Rely.Ext.trans (ext_drew _) hR)) (by omega) hR.size (.inr ⟨rfl, rfl⟩)
  refine e_callX hRl (.agg (ints .u8 (tagV (rOf key) (sOf key) (la ++ lb)))) 12 (fun ρ W hR hh => ?_) ?_
  · skip
    have e25 : ρ 25 = .agg (ints .u8 (key)) := hh.1
    have h30 : OwnN .u8 5 W3.drew.heap.size (la ++ lb) (ρ 30) W := hh.2.1
    refine ⟨#[.agg (ints .u8 (key)), ρ 30], Eq.trans (b := Result.ok (Next.enter 12 #[ρ 25, ρ 30]) W) kj (by rw [e25]), ?_⟩
    exact rmarkC key (la ++ lb) _ _ W hkl hkb (bytes_app hab hbb) (OwnN.rd h30) (by rw [List.length_append]; omega)
  refine e_val hRl (.bool true) kj kj (fun W => (run_eql_agg 27 _ _ _ _ _ (.bool true) rfl kj kj kj (eql_lists 27 (e := 5) (k := .u8) (tagV (rOf key) (sOf key) (la ++ lb)) (tagV (rOf key) (sOf key) (la ++ lb)) (decide_eq_true rfl) (by16_len _) (by16_len _) kj kj kj _))) ?_
  refine e_val hRl (.bool true) kj kj (fun W => by kernel_rfl) ?_
  refine e_val hRl (.slice (some ⟨gk11, 0, none⟩) (la).length ck11) kj kj (fun W => by kernel_rfl) ?_
  refine e_val hRl (.slice a_la la.length c_la) kj kj (fun W => by kernel_rfl) ?_
  refine e_nil (hF _ fun W4 q4 => ?_)
  simp only [List.nil_append, List.cons_append, List.take_succ_cons, List.take_zero, List.drop_succ_cons, List.drop_zero, finE, up]
  intro vv23 hv23 vv26 hv26 vv28 hv28 vv30 hv30
  clear hF
  have e4 : Ext W3 W4 := Rely.Ext.trans (ext_drew _) (OncU.low q4)
  have x4 : Ext w W4 := Ext.tr x3 e4
  have f13_4 := (CopyN.ext hv10 e4)
  refine seq_call (.bool true) 13 #[.slice (some ⟨gk11, 0, none⟩) (la).length ck11, .slice a_la la.length c_la] 36 rfl kj kj ((keptC (la) _ _ _ _ _ (by omega) hab f13_4 (RdK.ext ha x4))) fun W5 e5 => ?_
  have x5 : Ext w W5 := Ext.tr x4 e5
  refine seq_val (.bool true) 37 rfl kj kj ?_
  refine seq_val (.bool true) 6 rfl kj kj ?_
  refine seq_nil ?_
  refine hK12 _ _ ?_
  try clear hK12 K12
  refine wp_ret ?_
  repeat (first | with_reducible refine goR1 ?_ | with_reducible refine goR2 ?_)
  exact (show bodyPost _ _ _ .ret _ _ from ret1 (.bool true) rfl (res_tmp kj) ⟨rfl, x5⟩)
theorem lawMarks (key la lb : List Int) (v1 v2 : Value) (B B2 : Nat) (th tq : TypeId) (w : World) (hh : w.heap[0]? = some (.cells (ints .u32 [1634760805, 857760878, 2036477234, 1797285236]) th)) (hq : w.heap[1]? = some (.cells (ints .i64 [0, 4, 8, 12, 1, 5, 9, 13, 2, 6, 10, 14, 3, 7, 11, 15, 0, 5, 10, 15, 1, 6, 11, 12, 2, 7, 8, 13, 3, 4, 9, 14]) tq)) (hkl : key.length = 32) (hkb : AreBytes key) (hab : AreBytes la) (hbb : AreBytes lb) (ha : RdK .u8 B la v1 w) (hb : RdK .u8 B2 lb v2 w) : Calls Tryd.prog 3 #[.agg (ints .u8 key), v1, v2] w (Ret w (.bool true)) := by
  by_cases h1 : 500 < la.length
  · exact lawMarks_A key la lb v1 v2 B B2 th tq w hh hq hkl hkb hab hbb ha hb h1
  by_cases h2 : 500 < lb.length
  · exact lawMarks_B key la lb v1 v2 B B2 th tq w hh hq hkl hkb hab hbb ha hb (by omega) h2
  · exact lawMarks_D key la lb v1 v2 B B2 th tq w hh hq hkl hkb hab hbb ha hb (by omega) (by omega)

end Go.Proofs.YtjldjdlhllgakaaDoor.Ae
