/- Is a node zero? -/
import Derived.Test.YtfelfmchachljaaWrV
namespace Go.Proofs.Ytfelfmchachljaa.Wr
open Go Go.RowKit
open Go.Proofs.Ytfelfmchachljaa.Rely Go.Proofs.Ytfelfmchachljaa.Auto Go.Proofs.Ytfelfmchachljaa.Own Go.Proofs.Ytfelfmchachljaa.Sha
set_option linter.unusedVariables false
set_option linter.unusedSimpArgs false

/-- is a node zero? -/
def blankV (us : Bool) (nm : Int) (key sg pa ms : List Int) : Bool := !us && (nm == 0) && decide (key = List.replicate 32 0) && decide (sg = List.replicate 32 0) && decide (pa = List.replicate 32 0) && (ms.length == 0)
set_option maxHeartbeats 4000000 in
theorem blank_0 (nm : Int) (key sg pa ms : List Int) (a_m : Option Addr) (c_m : Nat) (w : World) (hkl : key.length = 32) (hgl : sg.length = 32) (hpl : pa.length = 32)  : Calls Try.prog 107 #[.agg (cat [#[.bool true], #[.int .i64 nm], ints .u8 (key), ints .u8 (sg), ints .u8 (pa), #[.slice a_m ms.length c_m]])] w (Ret w (.bool false)) := by
  refine enter 35 [(0, .agg (cat [#[.bool true], #[.int .i64 nm], ints .u8 (key), ints .u8 (sg), ints .u8 (pa), #[.slice a_m ms.length c_m]]))] Try.func107 rfl rfl kj rfl ?_
  refine wp_seq_k fun K1 hK1 => ?_
  refine region_lit ?_
  refine seq_alloc (cat [#[.bool true], #[.int .i64 nm], ints .u8 (key), ints .u8 (sg), ints .u8 (pa), #[.slice a_m ms.length c_m]]) 43 1 rfl kj kj fun g2 W1 l2 e1 r2_1 => ?_
  have x1 : Ext w W1 := Ext.tr (Rely.Ext.refl w) e1
  have b2 : w.heap.size ≤ g2 := Nat.le_trans (Rely.Ext.refl w).size l2
  refine seq_val (.bool false) 2 rfl kj kj ?_
  refine seq_nil ?_
  refine hK1 _ _ ?_
  try clear hK1 K1
  refine wp_seq_k fun K3 hK3 => ?_
  refine region_lit ?_
  refine seq_val (.pointer (some ⟨g2, 0, none⟩)) 3 rfl kj kj ?_
  refine seq_val (.bool true) 4 rfl kj (run_loadC1 4 _ g2 0 43 _ (.bool true) _ r2_1 rfl kj (cat_part [] [#[.bool true]] [#[.int .i64 nm], ints .u8 (key), ints .u8 (sg), ints .u8 (pa), #[.slice a_m ms.length c_m]] 0 kj 0 _ rfl) kj) ?_
  refine seq_val (.bool false) 5 rfl kj kj ?_
  refine seq_val (.bool false) 6 rfl kj kj ?_
  refine seq_skip 7 rfl kj ?_
  refine seq_skip 8 rfl kj ?_
  refine seq_skip 9 rfl kj ?_
  refine seq_val (.bool false) 10 rfl kj kj ?_
  refine seq_val (.bool false) 11 rfl kj kj ?_
  refine seq_skip 12 rfl kj ?_
  refine seq_skip 13 rfl kj ?_
  refine seq_skip 14 rfl kj ?_
  refine seq_skip 15 rfl kj ?_
  refine seq_val (.bool false) 16 rfl kj kj ?_
  refine seq_val (.bool false) 17 rfl kj kj ?_
  refine seq_skip 18 rfl kj ?_
  refine seq_skip 19 rfl kj ?_
  refine seq_skip 20 rfl kj ?_
  refine seq_skip 21 rfl kj ?_
  refine seq_val (.bool false) 22 rfl kj kj ?_
  refine seq_val (.bool false) 23 rfl kj kj ?_
  refine seq_skip 24 rfl kj ?_
  refine seq_skip 25 rfl kj ?_
  refine seq_skip 26 rfl kj ?_
  refine seq_skip 27 rfl kj ?_
  refine seq_val (.bool false) 28 rfl kj kj ?_
  refine seq_val (.bool false) 29 rfl kj kj ?_
  refine seq_skip 30 rfl kj ?_
  refine seq_skip 31 rfl kj ?_
  refine seq_skip 32 rfl kj ?_
  refine seq_skip 33 rfl kj ?_
  refine seq_val (.bool false) 34 rfl kj kj ?_
  refine seq_val (.bool false) 2 rfl kj kj ?_
  refine seq_nil ?_
  refine hK3 _ _ ?_
  try clear hK3 K3
  refine wp_ret ?_
  repeat (first | with_reducible refine goR1 ?_ | with_reducible refine goR2 ?_)
  exact (show bodyPost _ _ _ .ret _ _ from ret1 (.bool false) rfl (res_tmp kj) ⟨rfl, x1⟩)
set_option maxHeartbeats 4000000 in
theorem blank_1 (nm : Int) (key sg pa ms : List Int) (a_m : Option Addr) (c_m : Nat) (w : World) (hkl : key.length = 32) (hgl : sg.length = 32) (hpl : pa.length = 32) (h1 : ¬ nm = 0) : Calls Try.prog 107 #[.agg (cat [#[.bool false], #[.int .i64 nm], ints .u8 (key), ints .u8 (sg), ints .u8 (pa), #[.slice a_m ms.length c_m]])] w (Ret w (.bool false)) := by
  refine enter 35 [(0, .agg (cat [#[.bool false], #[.int .i64 nm], ints .u8 (key), ints .u8 (sg), ints .u8 (pa), #[.slice a_m ms.length c_m]]))] Try.func107 rfl rfl kj rfl ?_
  refine wp_seq_k fun K1 hK1 => ?_
  refine region_lit ?_
  refine seq_alloc (cat [#[.bool false], #[.int .i64 nm], ints .u8 (key), ints .u8 (sg), ints .u8 (pa), #[.slice a_m ms.length c_m]]) 43 1 rfl kj kj fun g2 W1 l2 e1 r2_1 => ?_
  have x1 : Ext w W1 := Ext.tr (Rely.Ext.refl w) e1
  have b2 : w.heap.size ≤ g2 := Nat.le_trans (Rely.Ext.refl w).size l2
  refine seq_val (.bool false) 2 rfl kj kj ?_
  refine seq_nil ?_
  refine hK1 _ _ ?_
  try clear hK1 K1
  refine wp_seq_k fun K3 hK3 => ?_
  refine region_lit ?_
  refine seq_val (.pointer (some ⟨g2, 0, none⟩)) 3 rfl kj kj ?_
  refine seq_val (.bool false) 4 rfl kj (run_loadC1 4 _ g2 0 43 _ (.bool false) _ r2_1 rfl kj (cat_part [] [#[.bool false]] [#[.int .i64 nm], ints .u8 (key), ints .u8 (sg), ints .u8 (pa), #[.slice a_m ms.length c_m]] 0 kj 0 _ rfl) kj) ?_
  refine seq_val (.bool true) 5 rfl kj kj ?_
  refine seq_val (.bool true) 6 rfl kj kj ?_
  refine seq_val (.pointer (some ⟨g2, 1, none⟩)) 7 rfl kj kj ?_
  refine seq_val (.int .i64 nm) 8 rfl kj (run_loadC1 3 _ g2 1 43 _ (.int .i64 nm) _ r2_1 rfl kj (cat_part [#[.bool false]] [#[.int .i64 nm]] [ints .u8 (key), ints .u8 (sg), ints .u8 (pa), #[.slice a_m ms.length c_m]] 1 kj 0 _ rfl) kj) ?_
  refine seq_val (.bool false) 9 rfl kj (run_eq (u := .bool ((nm == 0))) kj (congrArg Value.bool (beq_eq_false_iff_ne.2 h1))) ?_
  refine seq_val (.bool false) 10 rfl kj kj ?_
  refine seq_val (.bool false) 11 rfl kj kj ?_
  refine seq_skip 12 rfl kj ?_
  refine seq_skip 13 rfl kj ?_
  refine seq_skip 14 rfl kj ?_
  refine seq_skip 15 rfl kj ?_
  refine seq_val (.bool false) 16 rfl kj kj ?_
  refine seq_val (.bool false) 17 rfl kj kj ?_
  refine seq_skip 18 rfl kj ?_
  refine seq_skip 19 rfl kj ?_
  refine seq_skip 20 rfl kj ?_
  refine seq_skip 21 rfl kj ?_
  refine seq_val (.bool false) 22 rfl kj kj ?_
  refine seq_val (.bool false) 23 rfl kj kj ?_
  refine seq_skip 24 rfl kj ?_
  refine seq_skip 25 rfl kj ?_
  refine seq_skip 26 rfl kj ?_
  refine seq_skip 27 rfl kj ?_
  refine seq_val (.bool false) 28 rfl kj kj ?_
  refine seq_val (.bool false) 29 rfl kj kj ?_
  refine seq_skip 30 rfl kj ?_
  refine seq_skip 31 rfl kj ?_
  refine seq_skip 32 rfl kj ?_
  refine seq_skip 33 rfl kj ?_
  refine seq_val (.bool false) 34 rfl kj kj ?_
  refine seq_val (.bool false) 2 rfl kj kj ?_
  refine seq_nil ?_
  refine hK3 _ _ ?_
  try clear hK3 K3
  refine wp_ret ?_
  repeat (first | with_reducible refine goR1 ?_ | with_reducible refine goR2 ?_)
  exact (show bodyPost _ _ _ .ret _ _ from ret1 (.bool false) rfl (res_tmp kj) ⟨rfl, x1⟩)
set_option maxHeartbeats 4000000 in
theorem blank_2 (nm : Int) (key sg pa ms : List Int) (a_m : Option Addr) (c_m : Nat) (w : World) (hkl : key.length = 32) (hgl : sg.length = 32) (hpl : pa.length = 32) (h1 : nm = 0) (h2 : ¬ key = List.replicate 32 0) : Calls Try.prog 107 #[.agg (cat [#[.bool false], #[.int .i64 nm], ints .u8 (key), ints .u8 (sg), ints .u8 (pa), #[.slice a_m ms.length c_m]])] w (Ret w (.bool false)) := by
  refine enter 35 [(0, .agg (cat [#[.bool false], #[.int .i64 nm], ints .u8 (key), ints .u8 (sg), ints .u8 (pa), #[.slice a_m ms.length c_m]]))] Try.func107 rfl rfl kj rfl ?_
  refine wp_seq_k fun K1 hK1 => ?_
  refine region_lit ?_
  refine seq_alloc (cat [#[.bool false], #[.int .i64 nm], ints .u8 (key), ints .u8 (sg), ints .u8 (pa), #[.slice a_m ms.length c_m]]) 43 1 rfl kj kj fun g2 W1 l2 e1 r2_1 => ?_
  have x1 : Ext w W1 := Ext.tr (Rely.Ext.refl w) e1
  have b2 : w.heap.size ≤ g2 := Nat.le_trans (Rely.Ext.refl w).size l2
  refine seq_val (.bool false) 2 rfl kj kj ?_
  refine seq_nil ?_
  refine hK1 _ _ ?_
  try clear hK1 K1
  refine wp_seq_k fun K3 hK3 => ?_
  refine region_lit ?_
  refine seq_val (.pointer (some ⟨g2, 0, none⟩)) 3 rfl kj kj ?_
  refine seq_val (.bool false) 4 rfl kj (run_loadC1 4 _ g2 0 43 _ (.bool false) _ r2_1 rfl kj (cat_part [] [#[.bool false]] [#[.int .i64 nm], ints .u8 (key), ints .u8 (sg), ints .u8 (pa), #[.slice a_m ms.length c_m]] 0 kj 0 _ rfl) kj) ?_
  refine seq_val (.bool true) 5 rfl kj kj ?_
  refine seq_val (.bool true) 6 rfl kj kj ?_
  refine seq_val (.pointer (some ⟨g2, 1, none⟩)) 7 rfl kj kj ?_
  refine seq_val (.int .i64 nm) 8 rfl kj (run_loadC1 3 _ g2 1 43 _ (.int .i64 nm) _ r2_1 rfl kj (cat_part [#[.bool false]] [#[.int .i64 nm]] [ints .u8 (key), ints .u8 (sg), ints .u8 (pa), #[.slice a_m ms.length c_m]] 1 kj 0 _ rfl) kj) ?_
  refine seq_val (.bool true) 9 rfl kj (run_eq (u := .bool ((nm == 0))) kj (congrArg Value.bool (beq_iff_eq.2 h1))) ?_
  refine seq_val (.bool true) 10 rfl kj kj ?_
  refine seq_val (.bool true) 11 rfl kj kj ?_
  refine seq_val (.pointer (some ⟨g2, 2, none⟩)) 12 rfl kj kj ?_
  refine seq_val (.agg (ints .u8 (key))) 13 rfl kj (run_load_part 40 _ g2 2 43 _ _ _ r2_1 rfl kj (cat_part [#[.bool false], #[.int .i64 nm]] [ints .u8 (key)] [ints .u8 (sg), ints .u8 (pa), #[.slice a_m ms.length c_m]] 2 kj) kj (isz (n := 32) kj ((ints_size _ _).trans hkl))) ?_
  refine seq_val (.agg (ints .u8 (List.replicate 32 0))) 14 rfl kj kj ?_
  refine seq_val (.bool false) 15 rfl kj (run_eql_agg 40 _ _ _ _ _ (.bool false) rfl kj kj kj (eql_lists 40 (e := 5) (k := .u8) (key) (List.replicate 32 0) (decide_eq_false h2) hkl (List.length_replicate (n := 32)) kj kj kj _)) ?_
  refine seq_val (.bool false) 16 rfl kj kj ?_
  refine seq_val (.bool false) 17 rfl kj kj ?_
  refine seq_skip 18 rfl kj ?_
  refine seq_skip 19 rfl kj ?_
  refine seq_skip 20 rfl kj ?_
  refine seq_skip 21 rfl kj ?_
  refine seq_val (.bool false) 22 rfl kj kj ?_
  refine seq_val (.bool false) 23 rfl kj kj ?_
  refine seq_skip 24 rfl kj ?_
  refine seq_skip 25 rfl kj ?_
  refine seq_skip 26 rfl kj ?_
  refine seq_skip 27 rfl kj ?_
  refine seq_val (.bool false) 28 rfl kj kj ?_
  refine seq_val (.bool false) 29 rfl kj kj ?_
  refine seq_skip 30 rfl kj ?_
  refine seq_skip 31 rfl kj ?_
  refine seq_skip 32 rfl kj ?_
  refine seq_skip 33 rfl kj ?_
  refine seq_val (.bool false) 34 rfl kj kj ?_
  refine seq_val (.bool false) 2 rfl kj kj ?_
  refine seq_nil ?_
  refine hK3 _ _ ?_
  try clear hK3 K3
  refine wp_ret ?_
  repeat (first | with_reducible refine goR1 ?_ | with_reducible refine goR2 ?_)
  exact (show bodyPost _ _ _ .ret _ _ from ret1 (.bool false) rfl (res_tmp kj) ⟨rfl, x1⟩)
set_option maxHeartbeats 4000000 in
theorem blank_3 (nm : Int) (key sg pa ms : List Int) (a_m : Option Addr) (c_m : Nat) (w : World) (hkl : key.length = 32) (hgl : sg.length = 32) (hpl : pa.length = 32) (h1 : nm = 0) (h2 : key = List.replicate 32 0) (h3 : ¬ sg = List.replicate 32 0) : Calls Try.prog 107 #[.agg (cat [#[.bool false], #[.int .i64 nm], ints .u8 (key), ints .u8 (sg), ints .u8 (pa), #[.slice a_m ms.length c_m]])] w (Ret w (.bool false)) := by
  refine enter 35 [(0, .agg (cat [#[.bool false], #[.int .i64 nm], ints .u8 (key), ints .u8 (sg), ints .u8 (pa), #[.slice a_m ms.length c_m]]))] Try.func107 rfl rfl kj rfl ?_
  refine wp_seq_k fun K1 hK1 => ?_
  refine region_lit ?_
  refine seq_alloc (cat [#[.bool false], #[.int .i64 nm], ints .u8 (key), ints .u8 (sg), ints .u8 (pa), #[.slice a_m ms.length c_m]]) 43 1 rfl kj kj fun g2 W1 l2 e1 r2_1 => ?_
  have x1 : Ext w W1 := Ext.tr (Rely.Ext.refl w) e1
  have b2 : w.heap.size ≤ g2 := Nat.le_trans (Rely.Ext.refl w).size l2
  refine seq_val (.bool false) 2 rfl kj kj ?_
  refine seq_nil ?_
  refine hK1 _ _ ?_
  try clear hK1 K1
  refine wp_seq_k fun K3 hK3 => ?_
  refine region_lit ?_
  refine seq_val (.pointer (some ⟨g2, 0, none⟩)) 3 rfl kj kj ?_
  refine seq_val (.bool false) 4 rfl kj (run_loadC1 4 _ g2 0 43 _ (.bool false) _ r2_1 rfl kj (cat_part [] [#[.bool false]] [#[.int .i64 nm], ints .u8 (key), ints .u8 (sg), ints .u8 (pa), #[.slice a_m ms.length c_m]] 0 kj 0 _ rfl) kj) ?_
  refine seq_val (.bool true) 5 rfl kj kj ?_
  refine seq_val (.bool true) 6 rfl kj kj ?_
  refine seq_val (.pointer (some ⟨g2, 1, none⟩)) 7 rfl kj kj ?_
  refine seq_val (.int .i64 nm) 8 rfl kj (run_loadC1 3 _ g2 1 43 _ (.int .i64 nm) _ r2_1 rfl kj (cat_part [#[.bool false]] [#[.int .i64 nm]] [ints .u8 (key), ints .u8 (sg), ints .u8 (pa), #[.slice a_m ms.length c_m]] 1 kj 0 _ rfl) kj) ?_
  refine seq_val (.bool true) 9 rfl kj (run_eq (u := .bool ((nm == 0))) kj (congrArg Value.bool (beq_iff_eq.2 h1))) ?_
  refine seq_val (.bool true) 10 rfl kj kj ?_
  refine seq_val (.bool true) 11 rfl kj kj ?_
  refine seq_val (.pointer (some ⟨g2, 2, none⟩)) 12 rfl kj kj ?_
  refine seq_val (.agg (ints .u8 (key))) 13 rfl kj (run_load_part 40 _ g2 2 43 _ _ _ r2_1 rfl kj (cat_part [#[.bool false], #[.int .i64 nm]] [ints .u8 (key)] [ints .u8 (sg), ints .u8 (pa), #[.slice a_m ms.length c_m]] 2 kj) kj (isz (n := 32) kj ((ints_size _ _).trans hkl))) ?_
  refine seq_val (.agg (ints .u8 (List.replicate 32 0))) 14 rfl kj kj ?_
  refine seq_val (.bool true) 15 rfl kj (run_eql_agg 40 _ _ _ _ _ (.bool true) rfl kj kj kj (eql_lists 40 (e := 5) (k := .u8) (key) (List.replicate 32 0) (decide_eq_true h2) hkl (List.length_replicate (n := 32)) kj kj kj _)) ?_
  refine seq_val (.bool true) 16 rfl kj kj ?_
  refine seq_val (.bool true) 17 rfl kj kj ?_
  refine seq_val (.pointer (some ⟨g2, 34, none⟩)) 18 rfl kj kj ?_
  refine seq_val (.agg (ints .u8 (sg))) 19 rfl kj (run_load_part 40 _ g2 34 43 _ _ _ r2_1 rfl kj (cat_part [#[.bool false], #[.int .i64 nm], ints .u8 (key)] [ints .u8 (sg)] [ints .u8 (pa), #[.slice a_m ms.length c_m]] 34 (by rw [cat_cons, cat_cons, cat_cons]; simp only [Array.size_append, cat, ((ints_size _ _).trans hkl)]; rfl)) kj (isz (n := 32) kj ((ints_size _ _).trans hgl))) ?_
  refine seq_val (.agg (ints .u8 (List.replicate 32 0))) 20 rfl kj kj ?_
  refine seq_val (.bool false) 21 rfl kj (run_eql_agg 40 _ _ _ _ _ (.bool false) rfl kj kj kj (eql_lists 40 (e := 5) (k := .u8) (sg) (List.replicate 32 0) (decide_eq_false h3) hgl (List.length_replicate (n := 32)) kj kj kj _)) ?_
  refine seq_val (.bool false) 22 rfl kj kj ?_
  refine seq_val (.bool false) 23 rfl kj kj ?_
  refine seq_skip 24 rfl kj ?_
  refine seq_skip 25 rfl kj ?_
  refine seq_skip 26 rfl kj ?_
  refine seq_skip 27 rfl kj ?_
  refine seq_val (.bool false) 28 rfl kj kj ?_
  refine seq_val (.bool false) 29 rfl kj kj ?_
  refine seq_skip 30 rfl kj ?_
  refine seq_skip 31 rfl kj ?_
  refine seq_skip 32 rfl kj ?_
  refine seq_skip 33 rfl kj ?_
  refine seq_val (.bool false) 34 rfl kj kj ?_
  refine seq_val (.bool false) 2 rfl kj kj ?_
  refine seq_nil ?_
  refine hK3 _ _ ?_
  try clear hK3 K3
  refine wp_ret ?_
  repeat (first | with_reducible refine goR1 ?_ | with_reducible refine goR2 ?_)
  exact (show bodyPost _ _ _ .ret _ _ from ret1 (.bool false) rfl (res_tmp kj) ⟨rfl, x1⟩)
set_option maxHeartbeats 4000000 in
theorem blank_4 (nm : Int) (key sg pa ms : List Int) (a_m : Option Addr) (c_m : Nat) (w : World) (hkl : key.length = 32) (hgl : sg.length = 32) (hpl : pa.length = 32) (h1 : nm = 0) (h2 : key = List.replicate 32 0) (h3 : sg = List.replicate 32 0) (h4 : ¬ pa = List.replicate 32 0) : Calls Try.prog 107 #[.agg (cat [#[.bool false], #[.int .i64 nm], ints .u8 (key), ints .u8 (sg), ints .u8 (pa), #[.slice a_m ms.length c_m]])] w (Ret w (.bool false)) := by
  refine enter 35 [(0, .agg (cat [#[.bool false], #[.int .i64 nm], ints .u8 (key), ints .u8 (sg), ints .u8 (pa), #[.slice a_m ms.length c_m]]))] Try.func107 rfl rfl kj rfl ?_
  refine wp_seq_k fun K1 hK1 => ?_
  refine region_lit ?_
  refine seq_alloc (cat [#[.bool false], #[.int .i64 nm], ints .u8 (key), ints .u8 (sg), ints .u8 (pa), #[.slice a_m ms.length c_m]]) 43 1 rfl kj kj fun g2 W1 l2 e1 r2_1 => ?_
  have x1 : Ext w W1 := Ext.tr (Rely.Ext.refl w) e1
  have b2 : w.heap.size ≤ g2 := Nat.le_trans (Rely.Ext.refl w).size l2
  refine seq_val (.bool false) 2 rfl kj kj ?_
  refine seq_nil ?_
  refine hK1 _ _ ?_
  try clear hK1 K1
  refine wp_seq_k fun K3 hK3 => ?_
  refine region_lit ?_
  refine seq_val (.pointer (some ⟨g2, 0, none⟩)) 3 rfl kj kj ?_
  refine seq_val (.bool false) 4 rfl kj (run_loadC1 4 _ g2 0 43 _ (.bool false) _ r2_1 rfl kj (cat_part [] [#[.bool false]] [#[.int .i64 nm], ints .u8 (key), ints .u8 (sg), ints .u8 (pa), #[.slice a_m ms.length c_m]] 0 kj 0 _ rfl) kj) ?_
  refine seq_val (.bool true) 5 rfl kj kj ?_
  refine seq_val (.bool true) 6 rfl kj kj ?_
  refine seq_val (.pointer (some ⟨g2, 1, none⟩)) 7 rfl kj kj ?_
  refine seq_val (.int .i64 nm) 8 rfl kj (run_loadC1 3 _ g2 1 43 _ (.int .i64 nm) _ r2_1 rfl kj (cat_part [#[.bool false]] [#[.int .i64 nm]] [ints .u8 (key), ints .u8 (sg), ints .u8 (pa), #[.slice a_m ms.length c_m]] 1 kj 0 _ rfl) kj) ?_
  refine seq_val (.bool true) 9 rfl kj (run_eq (u := .bool ((nm == 0))) kj (congrArg Value.bool (beq_iff_eq.2 h1))) ?_
  refine seq_val (.bool true) 10 rfl kj kj ?_
  refine seq_val (.bool true) 11 rfl kj kj ?_
  refine seq_val (.pointer (some ⟨g2, 2, none⟩)) 12 rfl kj kj ?_
  refine seq_val (.agg (ints .u8 (key))) 13 rfl kj (run_load_part 40 _ g2 2 43 _ _ _ r2_1 rfl kj (cat_part [#[.bool false], #[.int .i64 nm]] [ints .u8 (key)] [ints .u8 (sg), ints .u8 (pa), #[.slice a_m ms.length c_m]] 2 kj) kj (isz (n := 32) kj ((ints_size _ _).trans hkl))) ?_
  refine seq_val (.agg (ints .u8 (List.replicate 32 0))) 14 rfl kj kj ?_
  refine seq_val (.bool true) 15 rfl kj (run_eql_agg 40 _ _ _ _ _ (.bool true) rfl kj kj kj (eql_lists 40 (e := 5) (k := .u8) (key) (List.replicate 32 0) (decide_eq_true h2) hkl (List.length_replicate (n := 32)) kj kj kj _)) ?_
  refine seq_val (.bool true) 16 rfl kj kj ?_
  refine seq_val (.bool true) 17 rfl kj kj ?_
  refine seq_val (.pointer (some ⟨g2, 34, none⟩)) 18 rfl kj kj ?_
  refine seq_val (.agg (ints .u8 (sg))) 19 rfl kj (run_load_part 40 _ g2 34 43 _ _ _ r2_1 rfl kj (cat_part [#[.bool false], #[.int .i64 nm], ints .u8 (key)] [ints .u8 (sg)] [ints .u8 (pa), #[.slice a_m ms.length c_m]] 34 (by rw [cat_cons, cat_cons, cat_cons]; simp only [Array.size_append, cat, ((ints_size _ _).trans hkl)]; rfl)) kj (isz (n := 32) kj ((ints_size _ _).trans hgl))) ?_
  refine seq_val (.agg (ints .u8 (List.replicate 32 0))) 20 rfl kj kj ?_
  refine seq_val (.bool true) 21 rfl kj (run_eql_agg 40 _ _ _ _ _ (.bool true) rfl kj kj kj (eql_lists 40 (e := 5) (k := .u8) (sg) (List.replicate 32 0) (decide_eq_true h3) hgl (List.length_replicate (n := 32)) kj kj kj _)) ?_
  refine seq_val (.bool true) 22 rfl kj kj ?_
  refine seq_val (.bool true) 23 rfl kj kj ?_
  refine seq_val (.pointer (some ⟨g2, 66, none⟩)) 24 rfl kj kj ?_
  refine seq_val (.agg (ints .u8 (pa))) 25 rfl kj (run_load_part 39 _ g2 66 43 _ _ _ r2_1 rfl kj (cat_part [#[.bool false], #[.int .i64 nm], ints .u8 (key), ints .u8 (sg)] [ints .u8 (pa)] [#[.slice a_m ms.length c_m]] 66 (by rw [cat_cons, cat_cons, cat_cons, cat_cons]; simp only [Array.size_append, cat, ((ints_size _ _).trans hgl), ((ints_size _ _).trans hkl)]; rfl)) kj (isz (n := 32) kj ((ints_size _ _).trans hpl))) ?_
  refine seq_val (.agg (ints .u8 (List.replicate 32 0))) 26 rfl kj kj ?_
  refine seq_val (.bool false) 27 rfl kj (run_eql_agg 39 _ _ _ _ _ (.bool false) rfl kj kj kj (eql_lists 39 (e := 5) (k := .u8) (pa) (List.replicate 32 0) (decide_eq_false h4) hpl (List.length_replicate (n := 32)) kj kj kj _)) ?_
  refine seq_val (.bool false) 28 rfl kj kj ?_
  refine seq_val (.bool false) 29 rfl kj kj ?_
  refine seq_skip 30 rfl kj ?_
  refine seq_skip 31 rfl kj ?_
  refine seq_skip 32 rfl kj ?_
  refine seq_skip 33 rfl kj ?_
  refine seq_val (.bool false) 34 rfl kj kj ?_
  refine seq_val (.bool false) 2 rfl kj kj ?_
  refine seq_nil ?_
  refine hK3 _ _ ?_
  try clear hK3 K3
  refine wp_ret ?_
  repeat (first | with_reducible refine goR1 ?_ | with_reducible refine goR2 ?_)
  exact (show bodyPost _ _ _ .ret _ _ from ret1 (.bool false) rfl (res_tmp kj) ⟨rfl, x1⟩)
set_option maxHeartbeats 4000000 in
theorem blank_5 (nm : Int) (key sg pa ms : List Int) (a_m : Option Addr) (c_m : Nat) (w : World) (hkl : key.length = 32) (hgl : sg.length = 32) (hpl : pa.length = 32) (h1 : nm = 0) (h2 : key = List.replicate 32 0) (h3 : sg = List.replicate 32 0) (h4 : pa = List.replicate 32 0) (h5 : ¬ ms.length = 0) : Calls Try.prog 107 #[.agg (cat [#[.bool false], #[.int .i64 nm], ints .u8 (key), ints .u8 (sg), ints .u8 (pa), #[.slice a_m ms.length c_m]])] w (Ret w (.bool false)) := by
  refine enter 35 [(0, .agg (cat [#[.bool false], #[.int .i64 nm], ints .u8 (key), ints .u8 (sg), ints .u8 (pa), #[.slice a_m ms.length c_m]]))] Try.func107 rfl rfl kj rfl ?_
  refine wp_seq_k fun K1 hK1 => ?_
  refine region_lit ?_
  refine seq_alloc (cat [#[.bool false], #[.int .i64 nm], ints .u8 (key), ints .u8 (sg), ints .u8 (pa), #[.slice a_m ms.length c_m]]) 43 1 rfl kj kj fun g2 W1 l2 e1 r2_1 => ?_
  have x1 : Ext w W1 := Ext.tr (Rely.Ext.refl w) e1
  have b2 : w.heap.size ≤ g2 := Nat.le_trans (Rely.Ext.refl w).size l2
  refine seq_val (.bool false) 2 rfl kj kj ?_
  refine seq_nil ?_
  refine hK1 _ _ ?_
  try clear hK1 K1
  refine wp_seq_k fun K3 hK3 => ?_
  refine region_lit ?_
  refine seq_val (.pointer (some ⟨g2, 0, none⟩)) 3 rfl kj kj ?_
  refine seq_val (.bool false) 4 rfl kj (run_loadC1 4 _ g2 0 43 _ (.bool false) _ r2_1 rfl kj (cat_part [] [#[.bool false]] [#[.int .i64 nm], ints .u8 (key), ints .u8 (sg), ints .u8 (pa), #[.slice a_m ms.length c_m]] 0 kj 0 _ rfl) kj) ?_
  refine seq_val (.bool true) 5 rfl kj kj ?_
  refine seq_val (.bool true) 6 rfl kj kj ?_
  refine seq_val (.pointer (some ⟨g2, 1, none⟩)) 7 rfl kj kj ?_
  refine seq_val (.int .i64 nm) 8 rfl kj (run_loadC1 3 _ g2 1 43 _ (.int .i64 nm) _ r2_1 rfl kj (cat_part [#[.bool false]] [#[.int .i64 nm]] [ints .u8 (key), ints .u8 (sg), ints .u8 (pa), #[.slice a_m ms.length c_m]] 1 kj 0 _ rfl) kj) ?_
  refine seq_val (.bool true) 9 rfl kj (run_eq (u := .bool ((nm == 0))) kj (congrArg Value.bool (beq_iff_eq.2 h1))) ?_
  refine seq_val (.bool true) 10 rfl kj kj ?_
  refine seq_val (.bool true) 11 rfl kj kj ?_
  refine seq_val (.pointer (some ⟨g2, 2, none⟩)) 12 rfl kj kj ?_
  refine seq_val (.agg (ints .u8 (key))) 13 rfl kj (run_load_part 40 _ g2 2 43 _ _ _ r2_1 rfl kj (cat_part [#[.bool false], #[.int .i64 nm]] [ints .u8 (key)] [ints .u8 (sg), ints .u8 (pa), #[.slice a_m ms.length c_m]] 2 kj) kj (isz (n := 32) kj ((ints_size _ _).trans hkl))) ?_
  refine seq_val (.agg (ints .u8 (List.replicate 32 0))) 14 rfl kj kj ?_
  refine seq_val (.bool true) 15 rfl kj (run_eql_agg 40 _ _ _ _ _ (.bool true) rfl kj kj kj (eql_lists 40 (e := 5) (k := .u8) (key) (List.replicate 32 0) (decide_eq_true h2) hkl (List.length_replicate (n := 32)) kj kj kj _)) ?_
  refine seq_val (.bool true) 16 rfl kj kj ?_
  refine seq_val (.bool true) 17 rfl kj kj ?_
  refine seq_val (.pointer (some ⟨g2, 34, none⟩)) 18 rfl kj kj ?_
  refine seq_val (.agg (ints .u8 (sg))) 19 rfl kj (run_load_part 40 _ g2 34 43 _ _ _ r2_1 rfl kj (cat_part [#[.bool false], #[.int .i64 nm], ints .u8 (key)] [ints .u8 (sg)] [ints .u8 (pa), #[.slice a_m ms.length c_m]] 34 (by rw [cat_cons, cat_cons, cat_cons]; simp only [Array.size_append, cat, ((ints_size _ _).trans hkl)]; rfl)) kj (isz (n := 32) kj ((ints_size _ _).trans hgl))) ?_
  refine seq_val (.agg (ints .u8 (List.replicate 32 0))) 20 rfl kj kj ?_
  refine seq_val (.bool true) 21 rfl kj (run_eql_agg 40 _ _ _ _ _ (.bool true) rfl kj kj kj (eql_lists 40 (e := 5) (k := .u8) (sg) (List.replicate 32 0) (decide_eq_true h3) hgl (List.length_replicate (n := 32)) kj kj kj _)) ?_
  refine seq_val (.bool true) 22 rfl kj kj ?_
  refine seq_val (.bool true) 23 rfl kj kj ?_
  refine seq_val (.pointer (some ⟨g2, 66, none⟩)) 24 rfl kj kj ?_
  refine seq_val (.agg (ints .u8 (pa))) 25 rfl kj (run_load_part 39 _ g2 66 43 _ _ _ r2_1 rfl kj (cat_part [#[.bool false], #[.int .i64 nm], ints .u8 (key), ints .u8 (sg)] [ints .u8 (pa)] [#[.slice a_m ms.length c_m]] 66 (by rw [cat_cons, cat_cons, cat_cons, cat_cons]; simp only [Array.size_append, cat, ((ints_size _ _).trans hgl), ((ints_size _ _).trans hkl)]; rfl)) kj (isz (n := 32) kj ((ints_size _ _).trans hpl))) ?_
  refine seq_val (.agg (ints .u8 (List.replicate 32 0))) 26 rfl kj kj ?_
  refine seq_val (.bool true) 27 rfl kj (run_eql_agg 39 _ _ _ _ _ (.bool true) rfl kj kj kj (eql_lists 39 (e := 5) (k := .u8) (pa) (List.replicate 32 0) (decide_eq_true h4) hpl (List.length_replicate (n := 32)) kj kj kj _)) ?_
  refine seq_val (.bool true) 28 rfl kj kj ?_
  refine seq_val (.bool true) 29 rfl kj kj ?_
  refine seq_val (.pointer (some ⟨g2, 98, none⟩)) 30 rfl kj kj ?_
  refine seq_val (.slice a_m ms.length c_m) 31 rfl kj (run_loadC1 41 _ g2 98 43 _ (.slice a_m ms.length c_m) _ r2_1 rfl kj (cat_part [#[.bool false], #[.int .i64 nm], ints .u8 (key), ints .u8 (sg), ints .u8 (pa)] [#[.slice a_m ms.length c_m]] [] 98 (by rw [cat_cons, cat_cons, cat_cons, cat_cons, cat_cons]; simp only [Array.size_append, cat, ((ints_size _ _).trans hgl), ((ints_size _ _).trans hkl), ((ints_size _ _).trans hpl)]; rfl) 0 _ rfl) kj) ?_
  refine seq_val (.int .i64 ((ms.length : Nat) : Int)) 32 rfl kj kj ?_
  refine seq_val (.bool false) 33 rfl kj (run_eq (u := .bool ((((ms.length : Nat) : Int) == 0))) kj (congrArg Value.bool (beq_eq_false_iff_ne.2 (by omega)))) ?_
  refine seq_val (.bool false) 34 rfl kj kj ?_
  refine seq_val (.bool false) 2 rfl kj kj ?_
  refine seq_nil ?_
  refine hK3 _ _ ?_
  try clear hK3 K3
  refine wp_ret ?_
  repeat (first | with_reducible refine goR1 ?_ | with_reducible refine goR2 ?_)
  exact (show bodyPost _ _ _ .ret _ _ from ret1 (.bool false) rfl (res_tmp kj) ⟨rfl, x1⟩)
set_option maxHeartbeats 4000000 in
theorem blank_6 (nm : Int) (key sg pa ms : List Int) (a_m : Option Addr) (c_m : Nat) (w : World) (hkl : key.length = 32) (hgl : sg.length = 32) (hpl : pa.length = 32) (h1 : nm = 0) (h2 : key = List.replicate 32 0) (h3 : sg = List.replicate 32 0) (h4 : pa = List.replicate 32 0) (h5 : ms.length = 0) : Calls Try.prog 107 #[.agg (cat [#[.bool false], #[.int .i64 nm], ints .u8 (key), ints .u8 (sg), ints .u8 (pa), #[.slice a_m ms.length c_m]])] w (Ret w (.bool true)) := by
  refine enter 35 [(0, .agg (cat [#[.bool false], #[.int .i64 nm], ints .u8 (key), ints .u8 (sg), ints .u8 (pa), #[.slice a_m ms.length c_m]]))] Try.func107 rfl rfl kj rfl ?_
  refine wp_seq_k fun K1 hK1 => ?_
  refine region_lit ?_
  refine seq_alloc (cat [#[.bool false], #[.int .i64 nm], ints .u8 (key), ints .u8 (sg), ints .u8 (pa), #[.slice a_m ms.length c_m]]) 43 1 rfl kj kj fun g2 W1 l2 e1 r2_1 => ?_
  have x1 : Ext w W1 := Ext.tr (Rely.Ext.refl w) e1
  have b2 : w.heap.size ≤ g2 := Nat.le_trans (Rely.Ext.refl w).size l2
  refine seq_val (.bool false) 2 rfl kj kj ?_
  refine seq_nil ?_
  refine hK1 _ _ ?_
  try clear hK1 K1
  refine wp_seq_k fun K3 hK3 => ?_
  refine region_lit ?_
  refine seq_val (.pointer (some ⟨g2, 0, none⟩)) 3 rfl kj kj ?_
  refine seq_val (.bool false) 4 rfl kj (run_loadC1 4 _ g2 0 43 _ (.bool false) _ r2_1 rfl kj (cat_part [] [#[.bool false]] [#[.int .i64 nm], ints .u8 (key), ints .u8 (sg), ints .u8 (pa), #[.slice a_m ms.length c_m]] 0 kj 0 _ rfl) kj) ?_
  refine seq_val (.bool true) 5 rfl kj kj ?_
  refine seq_val (.bool true) 6 rfl kj kj ?_
  refine seq_val (.pointer (some ⟨g2, 1, none⟩)) 7 rfl kj kj ?_
  refine seq_val (.int .i64 nm) 8 rfl kj (run_loadC1 3 _ g2 1 43 _ (.int .i64 nm) _ r2_1 rfl kj (cat_part [#[.bool false]] [#[.int .i64 nm]] [ints .u8 (key), ints .u8 (sg), ints .u8 (pa), #[.slice a_m ms.length c_m]] 1 kj 0 _ rfl) kj) ?_
  refine seq_val (.bool true) 9 rfl kj (run_eq (u := .bool ((nm == 0))) kj (congrArg Value.bool (beq_iff_eq.2 h1))) ?_
  refine seq_val (.bool true) 10 rfl kj kj ?_
  refine seq_val (.bool true) 11 rfl kj kj ?_
  refine seq_val (.pointer (some ⟨g2, 2, none⟩)) 12 rfl kj kj ?_
  refine seq_val (.agg (ints .u8 (key))) 13 rfl kj (run_load_part 40 _ g2 2 43 _ _ _ r2_1 rfl kj (cat_part [#[.bool false], #[.int .i64 nm]] [ints .u8 (key)] [ints .u8 (sg), ints .u8 (pa), #[.slice a_m ms.length c_m]] 2 kj) kj (isz (n := 32) kj ((ints_size _ _).trans hkl))) ?_
  refine seq_val (.agg (ints .u8 (List.replicate 32 0))) 14 rfl kj kj ?_
  refine seq_val (.bool true) 15 rfl kj (run_eql_agg 40 _ _ _ _ _ (.bool true) rfl kj kj kj (eql_lists 40 (e := 5) (k := .u8) (key) (List.replicate 32 0) (decide_eq_true h2) hkl (List.length_replicate (n := 32)) kj kj kj _)) ?_
  refine seq_val (.bool true) 16 rfl kj kj ?_
  refine seq_val (.bool true) 17 rfl kj kj ?_
  refine seq_val (.pointer (some ⟨g2, 34, none⟩)) 18 rfl kj kj ?_
  refine seq_val (.agg (ints .u8 (sg))) 19 rfl kj (run_load_part 40 _ g2 34 43 _ _ _ r2_1 rfl kj (cat_part [#[.bool false], #[.int .i64 nm], ints .u8 (key)] [ints .u8 (sg)] [ints .u8 (pa), #[.slice a_m ms.length c_m]] 34 (by rw [cat_cons, cat_cons, cat_cons]; simp only [Array.size_append, cat, ((ints_size _ _).trans hkl)]; rfl)) kj (isz (n := 32) kj ((ints_size _ _).trans hgl))) ?_
  refine seq_val (.agg (ints .u8 (List.replicate 32 0))) 20 rfl kj kj ?_
  refine seq_val (.bool true) 21 rfl kj (run_eql_agg 40 _ _ _ _ _ (.bool true) rfl kj kj kj (eql_lists 40 (e := 5) (k := .u8) (sg) (List.replicate 32 0) (decide_eq_true h3) hgl (List.length_replicate (n := 32)) kj kj kj _)) ?_
  refine seq_val (.bool true) 22 rfl kj kj ?_
  refine seq_val (.bool true) 23 rfl kj kj ?_
  refine seq_val (.pointer (some ⟨g2, 66, none⟩)) 24 rfl kj kj ?_
  refine seq_val (.agg (ints .u8 (pa))) 25 rfl kj (run_load_part 39 _ g2 66 43 _ _ _ r2_1 rfl kj (cat_part [#[.bool false], #[.int .i64 nm], ints .u8 (key), ints .u8 (sg)] [ints .u8 (pa)] [#[.slice a_m ms.length c_m]] 66 (by rw [cat_cons, cat_cons, cat_cons, cat_cons]; simp only [Array.size_append, cat, ((ints_size _ _).trans hgl), ((ints_size _ _).trans hkl)]; rfl)) kj (isz (n := 32) kj ((ints_size _ _).trans hpl))) ?_
  refine seq_val (.agg (ints .u8 (List.replicate 32 0))) 26 rfl kj kj ?_
  refine seq_val (.bool true) 27 rfl kj (run_eql_agg 39 _ _ _ _ _ (.bool true) rfl kj kj kj (eql_lists 39 (e := 5) (k := .u8) (pa) (List.replicate 32 0) (decide_eq_true h4) hpl (List.length_replicate (n := 32)) kj kj kj _)) ?_
  refine seq_val (.bool true) 28 rfl kj kj ?_
  refine seq_val (.bool true) 29 rfl kj kj ?_
  refine seq_val (.pointer (some ⟨g2, 98, none⟩)) 30 rfl kj kj ?_
  refine seq_val (.slice a_m ms.length c_m) 31 rfl kj (run_loadC1 41 _ g2 98 43 _ (.slice a_m ms.length c_m) _ r2_1 rfl kj (cat_part [#[.bool false], #[.int .i64 nm], ints .u8 (key), ints .u8 (sg), ints .u8 (pa)] [#[.slice a_m ms.length c_m]] [] 98 (by rw [cat_cons, cat_cons, cat_cons, cat_cons, cat_cons]; simp only [Array.size_append, cat, ((ints_size _ _).trans hgl), ((ints_size _ _).trans hkl), ((ints_size _ _).trans hpl)]; rfl) 0 _ rfl) kj) ?_
  refine seq_val (.int .i64 ((ms.length : Nat) : Int)) 32 rfl kj kj ?_
  refine seq_val (.bool true) 33 rfl kj (run_eq (u := .bool ((((ms.length : Nat) : Int) == 0))) kj (congrArg Value.bool (by rw [h5]; rfl))) ?_
  refine seq_val (.bool true) 34 rfl kj kj ?_
  refine seq_val (.bool true) 2 rfl kj kj ?_
  refine seq_nil ?_
  refine hK3 _ _ ?_
  try clear hK3 K3
  refine wp_ret ?_
  repeat (first | with_reducible refine goR1 ?_ | with_reducible refine goR2 ?_)
  exact (show bodyPost _ _ _ .ret _ _ from ret1 (.bool true) rfl (res_tmp kj) ⟨rfl, x1⟩)
theorem blankC (us : Bool) (nm : Int) (key sg pa ms : List Int) (a_m : Option Addr) (c_m : Nat) (w : World) (hkl : key.length = 32) (hgl : sg.length = 32) (hpl : pa.length = 32) : Calls Try.prog 107 #[.agg (cat [#[.bool us], #[.int .i64 nm], ints .u8 (key), ints .u8 (sg), ints .u8 (pa), #[.slice a_m ms.length c_m]])] w (Ret w (.bool (blankV us nm key sg pa ms))) := by
  unfold blankV
  cases us with
  | true => exact blank_0 nm key sg pa ms a_m c_m w hkl hgl hpl
  | false =>
    by_cases h1 : nm = 0
    · rw [beq_iff_eq.2 h1]
      by_cases h2 : key = List.replicate 32 0
      · rw [decide_eq_true h2]
        by_cases h3 : sg = List.replicate 32 0
        · rw [decide_eq_true h3]
          by_cases h4 : pa = List.replicate 32 0
          · rw [decide_eq_true h4]
            by_cases h5 : ms.length = 0
            · rw [beq_iff_eq.2 h5]; exact blank_6 nm key sg pa ms a_m c_m w hkl hgl hpl h1 h2 h3 h4 h5
            · rw [beq_eq_false_iff_ne.2 h5]; exact blank_5 nm key sg pa ms a_m c_m w hkl hgl hpl h1 h2 h3 h4 h5
          · rw [decide_eq_false h4]; exact blank_4 nm key sg pa ms a_m c_m w hkl hgl hpl h1 h2 h3 h4
        · rw [decide_eq_false h3]; exact blank_3 nm key sg pa ms a_m c_m w hkl hgl hpl h1 h2 h3
      · rw [decide_eq_false h2]; exact blank_2 nm key sg pa ms a_m c_m w hkl hgl hpl h1 h2
    · rw [beq_eq_false_iff_ne.2 h1]; exact blank_1 nm key sg pa ms a_m c_m w hkl hgl hpl h1
set_option maxHeartbeats 4000000 in
theorem zero_0 (nm : Int) (key sg pa ms : List Int) (a_m : Option Addr) (c_m : Nat) (w : World) (hkl : key.length = 32) (hgl : sg.length = 32) (hpl : pa.length = 32)  : Calls Try.prog 108 #[.agg (cat [#[.bool true], #[.int .i64 nm], ints .u8 (key), ints .u8 (sg), ints .u8 (pa), #[.slice a_m ms.length c_m]])] w (Ret w (.bool false)) := by
  refine enter 35 [(0, .agg (cat [#[.bool true], #[.int .i64 nm], ints .u8 (key), ints .u8 (sg), ints .u8 (pa), #[.slice a_m ms.length c_m]]))] Try.func108 rfl rfl kj rfl ?_
  refine wp_seq_k fun K1 hK1 => ?_
  refine region_lit ?_
  refine seq_alloc (cat [#[.bool true], #[.int .i64 nm], ints .u8 (key), ints .u8 (sg), ints .u8 (pa), #[.slice a_m ms.length c_m]]) 43 1 rfl kj kj fun g2 W1 l2 e1 r2_1 => ?_
  have x1 : Ext w W1 := Ext.tr (Rely.Ext.refl w) e1
  have b2 : w.heap.size ≤ g2 := Nat.le_trans (Rely.Ext.refl w).size l2
  refine seq_val (.bool false) 2 rfl kj kj ?_
  refine seq_nil ?_
  refine hK1 _ _ ?_
  try clear hK1 K1
  refine wp_seq_k fun K3 hK3 => ?_
  refine region_lit ?_
  refine seq_val (.pointer (some ⟨g2, 0, none⟩)) 3 rfl kj kj ?_
  refine seq_val (.bool true) 4 rfl kj (run_loadC1 4 _ g2 0 43 _ (.bool true) _ r2_1 rfl kj (cat_part [] [#[.bool true]] [#[.int .i64 nm], ints .u8 (key), ints .u8 (sg), ints .u8 (pa), #[.slice a_m ms.length c_m]] 0 kj 0 _ rfl) kj) ?_
  refine seq_val (.bool false) 5 rfl kj kj ?_
  refine seq_val (.bool false) 6 rfl kj kj ?_
  refine seq_skip 7 rfl kj ?_
  refine seq_skip 8 rfl kj ?_
  refine seq_skip 9 rfl kj ?_
  refine seq_val (.bool false) 10 rfl kj kj ?_
  refine seq_val (.bool false) 11 rfl kj kj ?_
  refine seq_skip 12 rfl kj ?_
  refine seq_skip 13 rfl kj ?_
  refine seq_skip 14 rfl kj ?_
  refine seq_skip 15 rfl kj ?_
  refine seq_val (.bool false) 16 rfl kj kj ?_
  refine seq_val (.bool false) 17 rfl kj kj ?_
  refine seq_skip 18 rfl kj ?_
  refine seq_skip 19 rfl kj ?_
  refine seq_skip 20 rfl kj ?_
  refine seq_skip 21 rfl kj ?_
  refine seq_val (.bool false) 22 rfl kj kj ?_
  refine seq_val (.bool false) 23 rfl kj kj ?_
  refine seq_skip 24 rfl kj ?_
  refine seq_skip 25 rfl kj ?_
  refine seq_skip 26 rfl kj ?_
  refine seq_skip 27 rfl kj ?_
  refine seq_val (.bool false) 28 rfl kj kj ?_
  refine seq_val (.bool false) 29 rfl kj kj ?_
  refine seq_skip 30 rfl kj ?_
  refine seq_skip 31 rfl kj ?_
  refine seq_skip 32 rfl kj ?_
  refine seq_skip 33 rfl kj ?_
  refine seq_val (.bool false) 34 rfl kj kj ?_
  refine seq_val (.bool false) 2 rfl kj kj ?_
  refine seq_nil ?_
  refine hK3 _ _ ?_
  try clear hK3 K3
  refine wp_ret ?_
  repeat (first | with_reducible refine goR1 ?_ | with_reducible refine goR2 ?_)
  exact (show bodyPost _ _ _ .ret _ _ from ret1 (.bool false) rfl (res_tmp kj) ⟨rfl, x1⟩)
set_option maxHeartbeats 4000000 in
theorem zero_1 (nm : Int) (key sg pa ms : List Int) (a_m : Option Addr) (c_m : Nat) (w : World) (hkl : key.length = 32) (hgl : sg.length = 32) (hpl : pa.length = 32) (h1 : ¬ nm = 0) : Calls Try.prog 108 #[.agg (cat [#[.bool false], #[.int .i64 nm], ints .u8 (key), ints .u8 (sg), ints .u8 (pa), #[.slice a_m ms.length c_m]])] w (Ret w (.bool false)) := by
  refine enter 35 [(0, .agg (cat [#[.bool false], #[.int .i64 nm], ints .u8 (key), ints .u8 (sg), ints .u8 (pa), #[.slice a_m ms.length c_m]]))] Try.func108 rfl rfl kj rfl ?_
  refine wp_seq_k fun K1 hK1 => ?_
  refine region_lit ?_
  refine seq_alloc (cat [#[.bool false], #[.int .i64 nm], ints .u8 (key), ints .u8 (sg), ints .u8 (pa), #[.slice a_m ms.length c_m]]) 43 1 rfl kj kj fun g2 W1 l2 e1 r2_1 => ?_
  have x1 : Ext w W1 := Ext.tr (Rely.Ext.refl w) e1
  have b2 : w.heap.size ≤ g2 := Nat.le_trans (Rely.Ext.refl w).size l2
  refine seq_val (.bool false) 2 rfl kj kj ?_
  refine seq_nil ?_
  refine hK1 _ _ ?_
  try clear hK1 K1
  refine wp_seq_k fun K3 hK3 => ?_
  refine region_lit ?_
  refine seq_val (.pointer (some ⟨g2, 0, none⟩)) 3 rfl kj kj ?_
  refine seq_val (.bool false) 4 rfl kj (run_loadC1 4 _ g2 0 43 _ (.bool false) _ r2_1 rfl kj (cat_part [] [#[.bool false]] [#[.int .i64 nm], ints .u8 (key), ints .u8 (sg), ints .u8 (pa), #[.slice a_m ms.length c_m]] 0 kj 0 _ rfl) kj) ?_
  refine seq_val (.bool true) 5 rfl kj kj ?_
  refine seq_val (.bool true) 6 rfl kj kj ?_
  refine seq_val (.pointer (some ⟨g2, 1, none⟩)) 7 rfl kj kj ?_
  refine seq_val (.int .i64 nm) 8 rfl kj (run_loadC1 3 _ g2 1 43 _ (.int .i64 nm) _ r2_1 rfl kj (cat_part [#[.bool false]] [#[.int .i64 nm]] [ints .u8 (key), ints .u8 (sg), ints .u8 (pa), #[.slice a_m ms.length c_m]] 1 kj 0 _ rfl) kj) ?_
  refine seq_val (.bool false) 9 rfl kj (run_eq (u := .bool ((nm == 0))) kj (congrArg Value.bool (beq_eq_false_iff_ne.2 h1))) ?_
  refine seq_val (.bool false) 10 rfl kj kj ?_
  refine seq_val (.bool false) 11 rfl kj kj ?_
  refine seq_skip 12 rfl kj ?_
  refine seq_skip 13 rfl kj ?_
  refine seq_skip 14 rfl kj ?_
  refine seq_skip 15 rfl kj ?_
  refine seq_val (.bool false) 16 rfl kj kj ?_
  refine seq_val (.bool false) 17 rfl kj kj ?_
  refine seq_skip 18 rfl kj ?_
  refine seq_skip 19 rfl kj ?_
  refine seq_skip 20 rfl kj ?_
  refine seq_skip 21 rfl kj ?_
  refine seq_val (.bool false) 22 rfl kj kj ?_
  refine seq_val (.bool false) 23 rfl kj kj ?_
  refine seq_skip 24 rfl kj ?_
  refine seq_skip 25 rfl kj ?_
  refine seq_skip 26 rfl kj ?_
  refine seq_skip 27 rfl kj ?_
  refine seq_val (.bool false) 28 rfl kj kj ?_
  refine seq_val (.bool false) 29 rfl kj kj ?_
  refine seq_skip 30 rfl kj ?_
  refine seq_skip 31 rfl kj ?_
  refine seq_skip 32 rfl kj ?_
  refine seq_skip 33 rfl kj ?_
  refine seq_val (.bool false) 34 rfl kj kj ?_
  refine seq_val (.bool false) 2 rfl kj kj ?_
  refine seq_nil ?_
  refine hK3 _ _ ?_
  try clear hK3 K3
  refine wp_ret ?_
  repeat (first | with_reducible refine goR1 ?_ | with_reducible refine goR2 ?_)
  exact (show bodyPost _ _ _ .ret _ _ from ret1 (.bool false) rfl (res_tmp kj) ⟨rfl, x1⟩)
set_option maxHeartbeats 4000000 in
theorem zero_2 (nm : Int) (key sg pa ms : List Int) (a_m : Option Addr) (c_m : Nat) (w : World) (hkl : key.length = 32) (hgl : sg.length = 32) (hpl : pa.length = 32) (h1 : nm = 0) (h2 : ¬ key = List.replicate 32 0) : Calls Try.prog 108 #[.agg (cat [#[.bool false], #[.int .i64 nm], ints .u8 (key), ints .u8 (sg), ints .u8 (pa), #[.slice a_m ms.length c_m]])] w (Ret w (.bool false)) := by
  refine enter 35 [(0, .agg (cat [#[.bool false], #[.int .i64 nm], ints .u8 (key), ints .u8 (sg), ints .u8 (pa), #[.slice a_m ms.length c_m]]))] Try.func108 rfl rfl kj rfl ?_
  refine wp_seq_k fun K1 hK1 => ?_
  refine region_lit ?_
  refine seq_alloc (cat [#[.bool false], #[.int .i64 nm], ints .u8 (key), ints .u8 (sg), ints .u8 (pa), #[.slice a_m ms.length c_m]]) 43 1 rfl kj kj fun g2 W1 l2 e1 r2_1 => ?_
  have x1 : Ext w W1 := Ext.tr (Rely.Ext.refl w) e1
  have b2 : w.heap.size ≤ g2 := Nat.le_trans (Rely.Ext.refl w).size l2
  refine seq_val (.bool false) 2 rfl kj kj ?_
  refine seq_nil ?_
  refine hK1 _ _ ?_
  try clear hK1 K1
  refine wp_seq_k fun K3 hK3 => ?_
  refine region_lit ?_
  refine seq_val (.pointer (some ⟨g2, 0, none⟩)) 3 rfl kj kj ?_
  refine seq_val (.bool false) 4 rfl kj (run_loadC1 4 _ g2 0 43 _ (.bool false) _ r2_1 rfl kj (cat_part [] [#[.bool false]] [#[.int .i64 nm], ints .u8 (key), ints .u8 (sg), ints .u8 (pa), #[.slice a_m ms.length c_m]] 0 kj 0 _ rfl) kj) ?_
  refine seq_val (.bool true) 5 rfl kj kj ?_
  refine seq_val (.bool true) 6 rfl kj kj ?_
  refine seq_val (.pointer (some ⟨g2, 1, none⟩)) 7 rfl kj kj ?_
  refine seq_val (.int .i64 nm) 8 rfl kj (run_loadC1 3 _ g2 1 43 _ (.int .i64 nm) _ r2_1 rfl kj (cat_part [#[.bool false]] [#[.int .i64 nm]] [ints .u8 (key), ints .u8 (sg), ints .u8 (pa), #[.slice a_m ms.length c_m]] 1 kj 0 _ rfl) kj) ?_
  refine seq_val (.bool true) 9 rfl kj (run_eq (u := .bool ((nm == 0))) kj (congrArg Value.bool (beq_iff_eq.2 h1))) ?_
  refine seq_val (.bool true) 10 rfl kj kj ?_
  refine seq_val (.bool true) 11 rfl kj kj ?_
  refine seq_val (.pointer (some ⟨g2, 2, none⟩)) 12 rfl kj kj ?_
  refine seq_val (.agg (ints .u8 (key))) 13 rfl kj (run_load_part 40 _ g2 2 43 _ _ _ r2_1 rfl kj (cat_part [#[.bool false], #[.int .i64 nm]] [ints .u8 (key)] [ints .u8 (sg), ints .u8 (pa), #[.slice a_m ms.length c_m]] 2 kj) kj (isz (n := 32) kj ((ints_size _ _).trans hkl))) ?_
  refine seq_val (.agg (ints .u8 (List.replicate 32 0))) 14 rfl kj kj ?_
  refine seq_val (.bool false) 15 rfl kj (run_eql_agg 40 _ _ _ _ _ (.bool false) rfl kj kj kj (eql_lists 40 (e := 5) (k := .u8) (key) (List.replicate 32 0) (decide_eq_false h2) hkl (List.length_replicate (n := 32)) kj kj kj _)) ?_
  refine seq_val (.bool false) 16 rfl kj kj ?_
  refine seq_val (.bool false) 17 rfl kj kj ?_
  refine seq_skip 18 rfl kj ?_
  refine seq_skip 19 rfl kj ?_
  refine seq_skip 20 rfl kj ?_
  refine seq_skip 21 rfl kj ?_
  refine seq_val (.bool false) 22 rfl kj kj ?_
  refine seq_val (.bool false) 23 rfl kj kj ?_
  refine seq_skip 24 rfl kj ?_
  refine seq_skip 25 rfl kj ?_
  refine seq_skip 26 rfl kj ?_
  refine seq_skip 27 rfl kj ?_
  refine seq_val (.bool false) 28 rfl kj kj ?_
  refine seq_val (.bool false) 29 rfl kj kj ?_
  refine seq_skip 30 rfl kj ?_
  refine seq_skip 31 rfl kj ?_
  refine seq_skip 32 rfl kj ?_
  refine seq_skip 33 rfl kj ?_
  refine seq_val (.bool false) 34 rfl kj kj ?_
  refine seq_val (.bool false) 2 rfl kj kj ?_
  refine seq_nil ?_
  refine hK3 _ _ ?_
  try clear hK3 K3
  refine wp_ret ?_
  repeat (first | with_reducible refine goR1 ?_ | with_reducible refine goR2 ?_)
  exact (show bodyPost _ _ _ .ret _ _ from ret1 (.bool false) rfl (res_tmp kj) ⟨rfl, x1⟩)
set_option maxHeartbeats 4000000 in
theorem zero_3 (nm : Int) (key sg pa ms : List Int) (a_m : Option Addr) (c_m : Nat) (w : World) (hkl : key.length = 32) (hgl : sg.length = 32) (hpl : pa.length = 32) (h1 : nm = 0) (h2 : key = List.replicate 32 0) (h3 : ¬ sg = List.replicate 32 0) : Calls Try.prog 108 #[.agg (cat [#[.bool false], #[.int .i64 nm], ints .u8 (key), ints .u8 (sg), ints .u8 (pa), #[.slice a_m ms.length c_m]])] w (Ret w (.bool false)) := by
  refine enter 35 [(0, .agg (cat [#[.bool false], #[.int .i64 nm], ints .u8 (key), ints .u8 (sg), ints .u8 (pa), #[.slice a_m ms.length c_m]]))] Try.func108 rfl rfl kj rfl ?_
  refine wp_seq_k fun K1 hK1 => ?_
  refine region_lit ?_
  refine seq_alloc (cat [#[.bool false], #[.int .i64 nm], ints .u8 (key), ints .u8 (sg), ints .u8 (pa), #[.slice a_m ms.length c_m]]) 43 1 rfl kj kj fun g2 W1 l2 e1 r2_1 => ?_
  have x1 : Ext w W1 := Ext.tr (Rely.Ext.refl w) e1
  have b2 : w.heap.size ≤ g2 := Nat.le_trans (Rely.Ext.refl w).size l2
  refine seq_val (.bool false) 2 rfl kj kj ?_
  refine seq_nil ?_
  refine hK1 _ _ ?_
  try clear hK1 K1
  refine wp_seq_k fun K3 hK3 => ?_
  refine region_lit ?_
  refine seq_val (.pointer (some ⟨g2, 0, none⟩)) 3 rfl kj kj ?_
  refine seq_val (.bool false) 4 rfl kj (run_loadC1 4 _ g2 0 43 _ (.bool false) _ r2_1 rfl kj (cat_part [] [#[.bool false]] [#[.int .i64 nm], ints .u8 (key), ints .u8 (sg), ints .u8 (pa), #[.slice a_m ms.length c_m]] 0 kj 0 _ rfl) kj) ?_
  refine seq_val (.bool true) 5 rfl kj kj ?_
  refine seq_val (.bool true) 6 rfl kj kj ?_
  refine seq_val (.pointer (some ⟨g2, 1, none⟩)) 7 rfl kj kj ?_
  refine seq_val (.int .i64 nm) 8 rfl kj (run_loadC1 3 _ g2 1 43 _ (.int .i64 nm) _ r2_1 rfl kj (cat_part [#[.bool false]] [#[.int .i64 nm]] [ints .u8 (key), ints .u8 (sg), ints .u8 (pa), #[.slice a_m ms.length c_m]] 1 kj 0 _ rfl) kj) ?_
  refine seq_val (.bool true) 9 rfl kj (run_eq (u := .bool ((nm == 0))) kj (congrArg Value.bool (beq_iff_eq.2 h1))) ?_
  refine seq_val (.bool true) 10 rfl kj kj ?_
  refine seq_val (.bool true) 11 rfl kj kj ?_
  refine seq_val (.pointer (some ⟨g2, 2, none⟩)) 12 rfl kj kj ?_
  refine seq_val (.agg (ints .u8 (key))) 13 rfl kj (run_load_part 40 _ g2 2 43 _ _ _ r2_1 rfl kj (cat_part [#[.bool false], #[.int .i64 nm]] [ints .u8 (key)] [ints .u8 (sg), ints .u8 (pa), #[.slice a_m ms.length c_m]] 2 kj) kj (isz (n := 32) kj ((ints_size _ _).trans hkl))) ?_
  refine seq_val (.agg (ints .u8 (List.replicate 32 0))) 14 rfl kj kj ?_
  refine seq_val (.bool true) 15 rfl kj (run_eql_agg 40 _ _ _ _ _ (.bool true) rfl kj kj kj (eql_lists 40 (e := 5) (k := .u8) (key) (List.replicate 32 0) (decide_eq_true h2) hkl (List.length_replicate (n := 32)) kj kj kj _)) ?_
  refine seq_val (.bool true) 16 rfl kj kj ?_
  refine seq_val (.bool true) 17 rfl kj kj ?_
  refine seq_val (.pointer (some ⟨g2, 34, none⟩)) 18 rfl kj kj ?_
  refine seq_val (.agg (ints .u8 (sg))) 19 rfl kj (run_load_part 40 _ g2 34 43 _ _ _ r2_1 rfl kj (cat_part [#[.bool false], #[.int .i64 nm], ints .u8 (key)] [ints .u8 (sg)] [ints .u8 (pa), #[.slice a_m ms.length c_m]] 34 (by rw [cat_cons, cat_cons, cat_cons]; simp only [Array.size_append, cat, ((ints_size _ _).trans hkl)]; rfl)) kj (isz (n := 32) kj ((ints_size _ _).trans hgl))) ?_
  refine seq_val (.agg (ints .u8 (List.replicate 32 0))) 20 rfl kj kj ?_
  refine seq_val (.bool false) 21 rfl kj (run_eql_agg 40 _ _ _ _ _ (.bool false) rfl kj kj kj (eql_lists 40 (e := 5) (k := .u8) (sg) (List.replicate 32 0) (decide_eq_false h3) hgl (List.length_replicate (n := 32)) kj kj kj _)) ?_
  refine seq_val (.bool false) 22 rfl kj kj ?_
  refine seq_val (.bool false) 23 rfl kj kj ?_
  refine seq_skip 24 rfl kj ?_
  refine seq_skip 25 rfl kj ?_
  refine seq_skip 26 rfl kj ?_
  refine seq_skip 27 rfl kj ?_
  refine seq_val (.bool false) 28 rfl kj kj ?_
  refine seq_val (.bool false) 29 rfl kj kj ?_
  refine seq_skip 30 rfl kj ?_
  refine seq_skip 31 rfl kj ?_
  refine seq_skip 32 rfl kj ?_
  refine seq_skip 33 rfl kj ?_
  refine seq_val (.bool false) 34 rfl kj kj ?_
  refine seq_val (.bool false) 2 rfl kj kj ?_
  refine seq_nil ?_
  refine hK3 _ _ ?_
  try clear hK3 K3
  refine wp_ret ?_
  repeat (first | with_reducible refine goR1 ?_ | with_reducible refine goR2 ?_)
  exact (show bodyPost _ _ _ .ret _ _ from ret1 (.bool false) rfl (res_tmp kj) ⟨rfl, x1⟩)
set_option maxHeartbeats 4000000 in
theorem zero_4 (nm : Int) (key sg pa ms : List Int) (a_m : Option Addr) (c_m : Nat) (w : World) (hkl : key.length = 32) (hgl : sg.length = 32) (hpl : pa.length = 32) (h1 : nm = 0) (h2 : key = List.replicate 32 0) (h3 : sg = List.replicate 32 0) (h4 : ¬ pa = List.replicate 32 0) : Calls Try.prog 108 #[.agg (cat [#[.bool false], #[.int .i64 nm], ints .u8 (key), ints .u8 (sg), ints .u8 (pa), #[.slice a_m ms.length c_m]])] w (Ret w (.bool false)) := by
  refine enter 35 [(0, .agg (cat [#[.bool false], #[.int .i64 nm], ints .u8 (key), ints .u8 (sg), ints .u8 (pa), #[.slice a_m ms.length c_m]]))] Try.func108 rfl rfl kj rfl ?_
  refine wp_seq_k fun K1 hK1 => ?_
  refine region_lit ?_
  refine seq_alloc (cat [#[.bool false], #[.int .i64 nm], ints .u8 (key), ints .u8 (sg), ints .u8 (pa), #[.slice a_m ms.length c_m]]) 43 1 rfl kj kj fun g2 W1 l2 e1 r2_1 => ?_
  have x1 : Ext w W1 := Ext.tr (Rely.Ext.refl w) e1
  have b2 : w.heap.size ≤ g2 := Nat.le_trans (Rely.Ext.refl w).size l2
  refine seq_val (.bool false) 2 rfl kj kj ?_
  refine seq_nil ?_
  refine hK1 _ _ ?_
  try clear hK1 K1
  refine wp_seq_k fun K3 hK3 => ?_
  refine region_lit ?_
  refine seq_val (.pointer (some ⟨g2, 0, none⟩)) 3 rfl kj kj ?_
  refine seq_val (.bool false) 4 rfl kj (run_loadC1 4 _ g2 0 43 _ (.bool false) _ r2_1 rfl kj (cat_part [] [#[.bool false]] [#[.int .i64 nm], ints .u8 (key), ints .u8 (sg), ints .u8 (pa), #[.slice a_m ms.length c_m]] 0 kj 0 _ rfl) kj) ?_
  refine seq_val (.bool true) 5 rfl kj kj ?_
  refine seq_val (.bool true) 6 rfl kj kj ?_
  refine seq_val (.pointer (some ⟨g2, 1, none⟩)) 7 rfl kj kj ?_
  refine seq_val (.int .i64 nm) 8 rfl kj (run_loadC1 3 _ g2 1 43 _ (.int .i64 nm) _ r2_1 rfl kj (cat_part [#[.bool false]] [#[.int .i64 nm]] [ints .u8 (key), ints .u8 (sg), ints .u8 (pa), #[.slice a_m ms.length c_m]] 1 kj 0 _ rfl) kj) ?_
  refine seq_val (.bool true) 9 rfl kj (run_eq (u := .bool ((nm == 0))) kj (congrArg Value.bool (beq_iff_eq.2 h1))) ?_
  refine seq_val (.bool true) 10 rfl kj kj ?_
  refine seq_val (.bool true) 11 rfl kj kj ?_
  refine seq_val (.pointer (some ⟨g2, 2, none⟩)) 12 rfl kj kj ?_
  refine seq_val (.agg (ints .u8 (key))) 13 rfl kj (run_load_part 40 _ g2 2 43 _ _ _ r2_1 rfl kj (cat_part [#[.bool false], #[.int .i64 nm]] [ints .u8 (key)] [ints .u8 (sg), ints .u8 (pa), #[.slice a_m ms.length c_m]] 2 kj) kj (isz (n := 32) kj ((ints_size _ _).trans hkl))) ?_
  refine seq_val (.agg (ints .u8 (List.replicate 32 0))) 14 rfl kj kj ?_
  refine seq_val (.bool true) 15 rfl kj (run_eql_agg 40 _ _ _ _ _ (.bool true) rfl kj kj kj (eql_lists 40 (e := 5) (k := .u8) (key) (List.replicate 32 0) (decide_eq_true h2) hkl (List.length_replicate (n := 32)) kj kj kj _)) ?_
  refine seq_val (.bool true) 16 rfl kj kj ?_
  refine seq_val (.bool true) 17 rfl kj kj ?_
  refine seq_val (.pointer (some ⟨g2, 34, none⟩)) 18 rfl kj kj ?_
  refine seq_val (.agg (ints .u8 (sg))) 19 rfl kj (run_load_part 40 _ g2 34 43 _ _ _ r2_1 rfl kj (cat_part [#[.bool false], #[.int .i64 nm], ints .u8 (key)] [ints .u8 (sg)] [ints .u8 (pa), #[.slice a_m ms.length c_m]] 34 (by rw [cat_cons, cat_cons, cat_cons]; simp only [Array.size_append, cat, ((ints_size _ _).trans hkl)]; rfl)) kj (isz (n := 32) kj ((ints_size _ _).trans hgl))) ?_
  refine seq_val (.agg (ints .u8 (List.replicate 32 0))) 20 rfl kj kj ?_
  refine seq_val (.bool true) 21 rfl kj (run_eql_agg 40 _ _ _ _ _ (.bool true) rfl kj kj kj (eql_lists 40 (e := 5) (k := .u8) (sg) (List.replicate 32 0) (decide_eq_true h3) hgl (List.length_replicate (n := 32)) kj kj kj _)) ?_
  refine seq_val (.bool true) 22 rfl kj kj ?_
  refine seq_val (.bool true) 23 rfl kj kj ?_
  refine seq_val (.pointer (some ⟨g2, 66, none⟩)) 24 rfl kj kj ?_
  refine seq_val (.agg (ints .u8 (pa))) 25 rfl kj (run_load_part 39 _ g2 66 43 _ _ _ r2_1 rfl kj (cat_part [#[.bool false], #[.int .i64 nm], ints .u8 (key), ints .u8 (sg)] [ints .u8 (pa)] [#[.slice a_m ms.length c_m]] 66 (by rw [cat_cons, cat_cons, cat_cons, cat_cons]; simp only [Array.size_append, cat, ((ints_size _ _).trans hgl), ((ints_size _ _).trans hkl)]; rfl)) kj (isz (n := 32) kj ((ints_size _ _).trans hpl))) ?_
  refine seq_val (.agg (ints .u8 (List.replicate 32 0))) 26 rfl kj kj ?_
  refine seq_val (.bool false) 27 rfl kj (run_eql_agg 39 _ _ _ _ _ (.bool false) rfl kj kj kj (eql_lists 39 (e := 5) (k := .u8) (pa) (List.replicate 32 0) (decide_eq_false h4) hpl (List.length_replicate (n := 32)) kj kj kj _)) ?_
  refine seq_val (.bool false) 28 rfl kj kj ?_
  refine seq_val (.bool false) 29 rfl kj kj ?_
  refine seq_skip 30 rfl kj ?_
  refine seq_skip 31 rfl kj ?_
  refine seq_skip 32 rfl kj ?_
  refine seq_skip 33 rfl kj ?_
  refine seq_val (.bool false) 34 rfl kj kj ?_
  refine seq_val (.bool false) 2 rfl kj kj ?_
  refine seq_nil ?_
  refine hK3 _ _ ?_
  try clear hK3 K3
  refine wp_ret ?_
  repeat (first | with_reducible refine goR1 ?_ | with_reducible refine goR2 ?_)
  exact (show bodyPost _ _ _ .ret _ _ from ret1 (.bool false) rfl (res_tmp kj) ⟨rfl, x1⟩)
set_option maxHeartbeats 4000000 in
theorem zero_5 (nm : Int) (key sg pa ms : List Int) (a_m : Option Addr) (c_m : Nat) (w : World) (hkl : key.length = 32) (hgl : sg.length = 32) (hpl : pa.length = 32) (h1 : nm = 0) (h2 : key = List.replicate 32 0) (h3 : sg = List.replicate 32 0) (h4 : pa = List.replicate 32 0) (h5 : ¬ ms.length = 0) : Calls Try.prog 108 #[.agg (cat [#[.bool false], #[.int .i64 nm], ints .u8 (key), ints .u8 (sg), ints .u8 (pa), #[.slice a_m ms.length c_m]])] w (Ret w (.bool false)) := by
  refine enter 35 [(0, .agg (cat [#[.bool false], #[.int .i64 nm], ints .u8 (key), ints .u8 (sg), ints .u8 (pa), #[.slice a_m ms.length c_m]]))] Try.func108 rfl rfl kj rfl ?_
  refine wp_seq_k fun K1 hK1 => ?_
  refine region_lit ?_
  refine seq_alloc (cat [#[.bool false], #[.int .i64 nm], ints .u8 (key), ints .u8 (sg), ints .u8 (pa), #[.slice a_m ms.length c_m]]) 43 1 rfl kj kj fun g2 W1 l2 e1 r2_1 => ?_
  have x1 : Ext w W1 := Ext.tr (Rely.Ext.refl w) e1
  have b2 : w.heap.size ≤ g2 := Nat.le_trans (Rely.Ext.refl w).size l2
  refine seq_val (.bool false) 2 rfl kj kj ?_
  refine seq_nil ?_
  refine hK1 _ _ ?_
  try clear hK1 K1
  refine wp_seq_k fun K3 hK3 => ?_
  refine region_lit ?_
  refine seq_val (.pointer (some ⟨g2, 0, none⟩)) 3 rfl kj kj ?_
  refine seq_val (.bool false) 4 rfl kj (run_loadC1 4 _ g2 0 43 _ (.bool false) _ r2_1 rfl kj (cat_part [] [#[.bool false]] [#[.int .i64 nm], ints .u8 (key), ints .u8 (sg), ints .u8 (pa), #[.slice a_m ms.length c_m]] 0 kj 0 _ rfl) kj) ?_
  refine seq_val (.bool true) 5 rfl kj kj ?_
  refine seq_val (.bool true) 6 rfl kj kj ?_
  refine seq_val (.pointer (some ⟨g2, 1, none⟩)) 7 rfl kj kj ?_
  refine seq_val (.int .i64 nm) 8 rfl kj (run_loadC1 3 _ g2 1 43 _ (.int .i64 nm) _ r2_1 rfl kj (cat_part [#[.bool false]] [#[.int .i64 nm]] [ints .u8 (key), ints .u8 (sg), ints .u8 (pa), #[.slice a_m ms.length c_m]] 1 kj 0 _ rfl) kj) ?_
  refine seq_val (.bool true) 9 rfl kj (run_eq (u := .bool ((nm == 0))) kj (congrArg Value.bool (beq_iff_eq.2 h1))) ?_
  refine seq_val (.bool true) 10 rfl kj kj ?_
  refine seq_val (.bool true) 11 rfl kj kj ?_
  refine seq_val (.pointer (some ⟨g2, 2, none⟩)) 12 rfl kj kj ?_
  refine seq_val (.agg (ints .u8 (key))) 13 rfl kj (run_load_part 40 _ g2 2 43 _ _ _ r2_1 rfl kj (cat_part [#[.bool false], #[.int .i64 nm]] [ints .u8 (key)] [ints .u8 (sg), ints .u8 (pa), #[.slice a_m ms.length c_m]] 2 kj) kj (isz (n := 32) kj ((ints_size _ _).trans hkl))) ?_
  refine seq_val (.agg (ints .u8 (List.replicate 32 0))) 14 rfl kj kj ?_
  refine seq_val (.bool true) 15 rfl kj (run_eql_agg 40 _ _ _ _ _ (.bool true) rfl kj kj kj (eql_lists 40 (e := 5) (k := .u8) (key) (List.replicate 32 0) (decide_eq_true h2) hkl (List.length_replicate (n := 32)) kj kj kj _)) ?_
  refine seq_val (.bool true) 16 rfl kj kj ?_
  refine seq_val (.bool true) 17 rfl kj kj ?_
  refine seq_val (.pointer (some ⟨g2, 34, none⟩)) 18 rfl kj kj ?_
  refine seq_val (.agg (ints .u8 (sg))) 19 rfl kj (run_load_part 40 _ g2 34 43 _ _ _ r2_1 rfl kj (cat_part [#[.bool false], #[.int .i64 nm], ints .u8 (key)] [ints .u8 (sg)] [ints .u8 (pa), #[.slice a_m ms.length c_m]] 34 (by rw [cat_cons, cat_cons, cat_cons]; simp only [Array.size_append, cat, ((ints_size _ _).trans hkl)]; rfl)) kj (isz (n := 32) kj ((ints_size _ _).trans hgl))) ?_
  refine seq_val (.agg (ints .u8 (List.replicate 32 0))) 20 rfl kj kj ?_
  refine seq_val (.bool true) 21 rfl kj (run_eql_agg 40 _ _ _ _ _ (.bool true) rfl kj kj kj (eql_lists 40 (e := 5) (k := .u8) (sg) (List.replicate 32 0) (decide_eq_true h3) hgl (List.length_replicate (n := 32)) kj kj kj _)) ?_
  refine seq_val (.bool true) 22 rfl kj kj ?_
  refine seq_val (.bool true) 23 rfl kj kj ?_
  refine seq_val (.pointer (some ⟨g2, 66, none⟩)) 24 rfl kj kj ?_
  refine seq_val (.agg (ints .u8 (pa))) 25 rfl kj (run_load_part 39 _ g2 66 43 _ _ _ r2_1 rfl kj (cat_part [#[.bool false], #[.int .i64 nm], ints .u8 (key), ints .u8 (sg)] [ints .u8 (pa)] [#[.slice a_m ms.length c_m]] 66 (by rw [cat_cons, cat_cons, cat_cons, cat_cons]; simp only [Array.size_append, cat, ((ints_size _ _).trans hgl), ((ints_size _ _).trans hkl)]; rfl)) kj (isz (n := 32) kj ((ints_size _ _).trans hpl))) ?_
  refine seq_val (.agg (ints .u8 (List.replicate 32 0))) 26 rfl kj kj ?_
  refine seq_val (.bool true) 27 rfl kj (run_eql_agg 39 _ _ _ _ _ (.bool true) rfl kj kj kj (eql_lists 39 (e := 5) (k := .u8) (pa) (List.replicate 32 0) (decide_eq_true h4) hpl (List.length_replicate (n := 32)) kj kj kj _)) ?_
  refine seq_val (.bool true) 28 rfl kj kj ?_
  refine seq_val (.bool true) 29 rfl kj kj ?_
  refine seq_val (.pointer (some ⟨g2, 98, none⟩)) 30 rfl kj kj ?_
  refine seq_val (.slice a_m ms.length c_m) 31 rfl kj (run_loadC1 41 _ g2 98 43 _ (.slice a_m ms.length c_m) _ r2_1 rfl kj (cat_part [#[.bool false], #[.int .i64 nm], ints .u8 (key), ints .u8 (sg), ints .u8 (pa)] [#[.slice a_m ms.length c_m]] [] 98 (by rw [cat_cons, cat_cons, cat_cons, cat_cons, cat_cons]; simp only [Array.size_append, cat, ((ints_size _ _).trans hgl), ((ints_size _ _).trans hkl), ((ints_size _ _).trans hpl)]; rfl) 0 _ rfl) kj) ?_
  refine seq_val (.int .i64 ((ms.length : Nat) : Int)) 32 rfl kj kj ?_
  refine seq_val (.bool false) 33 rfl kj (run_eq (u := .bool ((((ms.length : Nat) : Int) == 0))) kj (congrArg Value.bool (beq_eq_false_iff_ne.2 (by omega)))) ?_
  refine seq_val (.bool false) 34 rfl kj kj ?_
  refine seq_val (.bool false) 2 rfl kj kj ?_
  refine seq_nil ?_
  refine hK3 _ _ ?_
  try clear hK3 K3
  refine wp_ret ?_
  repeat (first | with_reducible refine goR1 ?_ | with_reducible refine goR2 ?_)
  exact (show bodyPost _ _ _ .ret _ _ from ret1 (.bool false) rfl (res_tmp kj) ⟨rfl, x1⟩)
set_option maxHeartbeats 4000000 in
theorem zero_6 (nm : Int) (key sg pa ms : List Int) (a_m : Option Addr) (c_m : Nat) (w : World) (hkl : key.length = 32) (hgl : sg.length = 32) (hpl : pa.length = 32) (h1 : nm = 0) (h2 : key = List.replicate 32 0) (h3 : sg = List.replicate 32 0) (h4 : pa = List.replicate 32 0) (h5 : ms.length = 0) : Calls Try.prog 108 #[.agg (cat [#[.bool false], #[.int .i64 nm], ints .u8 (key), ints .u8 (sg), ints .u8 (pa), #[.slice a_m ms.length c_m]])] w (Ret w (.bool true)) := by
  refine enter 35 [(0, .agg (cat [#[.bool false], #[.int .i64 nm], ints .u8 (key), ints .u8 (sg), ints .u8 (pa), #[.slice a_m ms.length c_m]]))] Try.func108 rfl rfl kj rfl ?_
  refine wp_seq_k fun K1 hK1 => ?_
  refine region_lit ?_
  refine seq_alloc (cat [#[.bool false], #[.int .i64 nm], ints .u8 (key), ints .u8 (sg), ints .u8 (pa), #[.slice a_m ms.length c_m]]) 43 1 rfl kj kj fun g2 W1 l2 e1 r2_1 => ?_
  have x1 : Ext w W1 := Ext.tr (Rely.Ext.refl w) e1
  have b2 : w.heap.size ≤ g2 := Nat.le_trans (Rely.Ext.refl w).size l2
  refine seq_val (.bool false) 2 rfl kj kj ?_
  refine seq_nil ?_
  refine hK1 _ _ ?_
  try clear hK1 K1
  refine wp_seq_k fun K3 hK3 => ?_
  refine region_lit ?_
  refine seq_val (.pointer (some ⟨g2, 0, none⟩)) 3 rfl kj kj ?_
  refine seq_val (.bool false) 4 rfl kj (run_loadC1 4 _ g2 0 43 _ (.bool false) _ r2_1 rfl kj (cat_part [] [#[.bool false]] [#[.int .i64 nm], ints .u8 (key), ints .u8 (sg), ints .u8 (pa), #[.slice a_m ms.length c_m]] 0 kj 0 _ rfl) kj) ?_
  refine seq_val (.bool true) 5 rfl kj kj ?_
  refine seq_val (.bool true) 6 rfl kj kj ?_
  refine seq_val (.pointer (some ⟨g2, 1, none⟩)) 7 rfl kj kj ?_
  refine seq_val (.int .i64 nm) 8 rfl kj (run_loadC1 3 _ g2 1 43 _ (.int .i64 nm) _ r2_1 rfl kj (cat_part [#[.bool false]] [#[.int .i64 nm]] [ints .u8 (key), ints .u8 (sg), ints .u8 (pa), #[.slice a_m ms.length c_m]] 1 kj 0 _ rfl) kj) ?_
  refine seq_val (.bool true) 9 rfl kj (run_eq (u := .bool ((nm == 0))) kj (congrArg Value.bool (beq_iff_eq.2 h1))) ?_
  refine seq_val (.bool true) 10 rfl kj kj ?_
  refine seq_val (.bool true) 11 rfl kj kj ?_
  refine seq_val (.pointer (some ⟨g2, 2, none⟩)) 12 rfl kj kj ?_
  refine seq_val (.agg (ints .u8 (key))) 13 rfl kj (run_load_part 40 _ g2 2 43 _ _ _ r2_1 rfl kj (cat_part [#[.bool false], #[.int .i64 nm]] [ints .u8 (key)] [ints .u8 (sg), ints .u8 (pa), #[.slice a_m ms.length c_m]] 2 kj) kj (isz (n := 32) kj ((ints_size _ _).trans hkl))) ?_
  refine seq_val (.agg (ints .u8 (List.replicate 32 0))) 14 rfl kj kj ?_
  refine seq_val (.bool true) 15 rfl kj (run_eql_agg 40 _ _ _ _ _ (.bool true) rfl kj kj kj (eql_lists 40 (e := 5) (k := .u8) (key) (List.replicate 32 0) (decide_eq_true h2) hkl (List.length_replicate (n := 32)) kj kj kj _)) ?_
  refine seq_val (.bool true) 16 rfl kj kj ?_
  refine seq_val (.bool true) 17 rfl kj kj ?_
  refine seq_val (.pointer (some ⟨g2, 34, none⟩)) 18 rfl kj kj ?_
  refine seq_val (.agg (ints .u8 (sg))) 19 rfl kj (run_load_part 40 _ g2 34 43 _ _ _ r2_1 rfl kj (cat_part [#[.bool false], #[.int .i64 nm], ints .u8 (key)] [ints .u8 (sg)] [ints .u8 (pa), #[.slice a_m ms.length c_m]] 34 (by rw [cat_cons, cat_cons, cat_cons]; simp only [Array.size_append, cat, ((ints_size _ _).trans hkl)]; rfl)) kj (isz (n := 32) kj ((ints_size _ _).trans hgl))) ?_
  refine seq_val (.agg (ints .u8 (List.replicate 32 0))) 20 rfl kj kj ?_
  refine seq_val (.bool true) 21 rfl kj (run_eql_agg 40 _ _ _ _ _ (.bool true) rfl kj kj kj (eql_lists 40 (e := 5) (k := .u8) (sg) (List.replicate 32 0) (decide_eq_true h3) hgl (List.length_replicate (n := 32)) kj kj kj _)) ?_
  refine seq_val (.bool true) 22 rfl kj kj ?_
  refine seq_val (.bool true) 23 rfl kj kj ?_
  refine seq_val (.pointer (some ⟨g2, 66, none⟩)) 24 rfl kj kj ?_
  refine seq_val (.agg (ints .u8 (pa))) 25 rfl kj (run_load_part 39 _ g2 66 43 _ _ _ r2_1 rfl kj (cat_part [#[.bool false], #[.int .i64 nm], ints .u8 (key), ints .u8 (sg)] [ints .u8 (pa)] [#[.slice a_m ms.length c_m]] 66 (by rw [cat_cons, cat_cons, cat_cons, cat_cons]; simp only [Array.size_append, cat, ((ints_size _ _).trans hgl), ((ints_size _ _).trans hkl)]; rfl)) kj (isz (n := 32) kj ((ints_size _ _).trans hpl))) ?_
  refine seq_val (.agg (ints .u8 (List.replicate 32 0))) 26 rfl kj kj ?_
  refine seq_val (.bool true) 27 rfl kj (run_eql_agg 39 _ _ _ _ _ (.bool true) rfl kj kj kj (eql_lists 39 (e := 5) (k := .u8) (pa) (List.replicate 32 0) (decide_eq_true h4) hpl (List.length_replicate (n := 32)) kj kj kj _)) ?_
  refine seq_val (.bool true) 28 rfl kj kj ?_
  refine seq_val (.bool true) 29 rfl kj kj ?_
  refine seq_val (.pointer (some ⟨g2, 98, none⟩)) 30 rfl kj kj ?_
  refine seq_val (.slice a_m ms.length c_m) 31 rfl kj (run_loadC1 41 _ g2 98 43 _ (.slice a_m ms.length c_m) _ r2_1 rfl kj (cat_part [#[.bool false], #[.int .i64 nm], ints .u8 (key), ints .u8 (sg), ints .u8 (pa)] [#[.slice a_m ms.length c_m]] [] 98 (by rw [cat_cons, cat_cons, cat_cons, cat_cons, cat_cons]; simp only [Array.size_append, cat, ((ints_size _ _).trans hgl), ((ints_size _ _).trans hkl), ((ints_size _ _).trans hpl)]; rfl) 0 _ rfl) kj) ?_
  refine seq_val (.int .i64 ((ms.length : Nat) : Int)) 32 rfl kj kj ?_
  refine seq_val (.bool true) 33 rfl kj (run_eq (u := .bool ((((ms.length : Nat) : Int) == 0))) kj (congrArg Value.bool (by rw [h5]; rfl))) ?_
  refine seq_val (.bool true) 34 rfl kj kj ?_
  refine seq_val (.bool true) 2 rfl kj kj ?_
  refine seq_nil ?_
  refine hK3 _ _ ?_
  try clear hK3 K3
  refine wp_ret ?_
  repeat (first | with_reducible refine goR1 ?_ | with_reducible refine goR2 ?_)
  exact (show bodyPost _ _ _ .ret _ _ from ret1 (.bool true) rfl (res_tmp kj) ⟨rfl, x1⟩)
theorem zeroC (us : Bool) (nm : Int) (key sg pa ms : List Int) (a_m : Option Addr) (c_m : Nat) (w : World) (hkl : key.length = 32) (hgl : sg.length = 32) (hpl : pa.length = 32) : Calls Try.prog 108 #[.agg (cat [#[.bool us], #[.int .i64 nm], ints .u8 (key), ints .u8 (sg), ints .u8 (pa), #[.slice a_m ms.length c_m]])] w (Ret w (.bool (blankV us nm key sg pa ms))) := by
  unfold blankV
  cases us with
  | true => exact zero_0 nm key sg pa ms a_m c_m w hkl hgl hpl
  | false =>
    by_cases h1 : nm = 0
    · rw [beq_iff_eq.2 h1]
      by_cases h2 : key = List.replicate 32 0
      · rw [decide_eq_true h2]
        by_cases h3 : sg = List.replicate 32 0
        · rw [decide_eq_true h3]
          by_cases h4 : pa = List.replicate 32 0
          · rw [decide_eq_true h4]
            by_cases h5 : ms.length = 0
            · rw [beq_iff_eq.2 h5]; exact zero_6 nm key sg pa ms a_m c_m w hkl hgl hpl h1 h2 h3 h4 h5
            · rw [beq_eq_false_iff_ne.2 h5]; exact zero_5 nm key sg pa ms a_m c_m w hkl hgl hpl h1 h2 h3 h4 h5
          · rw [decide_eq_false h4]; exact zero_4 nm key sg pa ms a_m c_m w hkl hgl hpl h1 h2 h3 h4
        · rw [decide_eq_false h3]; exact zero_3 nm key sg pa ms a_m c_m w hkl hgl hpl h1 h2 h3
      · rw [decide_eq_false h2]; exact zero_2 nm key sg pa ms a_m c_m w hkl hgl hpl h1 h2
    · rw [beq_eq_false_iff_ne.2 h1]; exact zero_1 nm key sg pa ms a_m c_m w hkl hgl hpl h1

end Go.Proofs.Ytfelfmchachljaa.Wr
