/- The law WireNodes. -/
import Derived.Test.YtfelfmchachljaaWnI
import Derived.Test.YtfelfmchachljaaWrY
namespace Go.Proofs.Ytfelfmchachljaa.Wr
open Go Go.RowKit
open Go.Proofs.Ytfelfmchachljaa.Rely Go.Proofs.Ytfelfmchachljaa.Auto Go.Proofs.Ytfelfmchachljaa.Own Go.Proofs.Ytfelfmchachljaa.Sha
set_option linter.unusedVariables false
set_option linter.unusedSimpArgs false

theorem goodE (us : Bool) (nm : Int) (key sg pa ms : List Int) (a_m : Option Addr) (c_m : Nat) (b : Bool) (hb : goodV us nm key sg pa ms = b) (w : World) (hkl : key.length = 32) (hgl : sg.length = 32) (hpl : pa.length = 32) (hm : RdK .i64 w.heap.size ms (.slice a_m ms.length c_m) w) : Calls Try.prog 96 #[.agg (cat [#[.bool us], #[.int .i64 nm], ints .u8 (key), ints .u8 (sg), ints .u8 (pa), #[.slice a_m ms.length c_m]])] w (Ret w (.bool b)) := hb ▸ goodC us nm key sg pa ms a_m c_m w hkl hgl hpl hm
set_option maxHeartbeats 4000000 in
theorem rPutNode_N (us : Bool) (nm : Int) (key sg pa ms : List Int) (a_m : Option Addr) (c_m : Nat) (w : World) (hkl : key.length = 32) (hgl : sg.length = 32) (hpl : pa.length = 32) (hml : ms.length ≤ 1000000) (hm : RdK .i64 w.heap.size ms (.slice a_m ms.length c_m) w) (hG : goodV us nm key sg pa ms = false) : Calls Try.prog 47 #[.agg (cat [#[.bool us], #[.int .i64 nm], ints .u8 (key), ints .u8 (sg), ints .u8 (pa), #[.slice a_m ms.length c_m]])] w (Gives w (WantR w.heap.size (none))) := by
  refine enter 9 [(0, .agg (cat [#[.bool us], #[.int .i64 nm], ints .u8 (key), ints .u8 (sg), ints .u8 (pa), #[.slice a_m ms.length c_m]]))] Try.func47 rfl rfl kj rfl ?_
  refine wp_seq_k fun K1 hK1 => ?_
  refine region_lit ?_
  refine seq_alloc (cat [#[.bool us], #[.int .i64 nm], ints .u8 (key), ints .u8 (sg), ints .u8 (pa), #[.slice a_m ms.length c_m]]) 43 1 rfl kj kj fun g2 W1 l2 e1 r2_1 => ?_
  have x1 : Ext w W1 := Ext.tr (Rely.Ext.refl w) e1
  have b2 : w.heap.size ≤ g2 := Nat.le_trans (Rely.Ext.refl w).size l2
  refine seq_val (.slice none 0 0) 2 rfl kj kj ?_
  refine seq_val (.bool false) 3 rfl kj kj ?_
  refine seq_nil ?_
  refine hK1 _ _ ?_
  try clear hK1 K1
  refine wp_seq_k fun K3 hK3 => ?_
  refine wp_seq_k fun K4 hK4 => ?_
  refine region_lit ?_
  refine seq_val (.agg (cat [#[.bool us], #[.int .i64 nm], ints .u8 (key), ints .u8 (sg), ints .u8 (pa), #[.slice a_m ms.length c_m]])) 4 rfl kj (run_load_row 43 _ g2 43 _ _ r2_1 rfl kj kj (isz (n := 99) kj (by rw [cat_cons, cat_cons, cat_cons, cat_cons, cat_cons, cat_cons]; simp only [Array.size_append, cat, ((ints_size _ _).trans hgl), ((ints_size _ _).trans hkl), ((ints_size _ _).trans hpl)]; rfl))) ?_
  refine seq_call (.bool false) 96 #[.agg (cat [#[.bool us], #[.int .i64 nm], ints .u8 (key), ints .u8 (sg), ints .u8 (pa), #[.slice a_m ms.length c_m]])] 5 rfl kj kj (goodE us nm key sg pa ms _ _ _ hG _ hkl hgl hpl (RdK.here (RdK.ext hm x1))) fun W2 e2 => ?_
  have x2 : Ext w W2 := Ext.tr x1 e2
  refine seq_val (.bool true) 6 rfl kj kj ?_
  refine seq_nil ?_
  refine hK4 _ _ ?_
  try clear hK4 K4
  refine cond_true kj ?_
  refine wp_seq_k fun K5 hK5 => ?_
  refine region_lit ?_
  refine seq_val (.slice none 0 0) 2 rfl kj kj ?_
  refine seq_val (.bool false) 3 rfl kj kj ?_
  refine seq_nil ?_
  refine hK5 _ _ ?_
  try clear hK5 K5
  refine wp_ret ?_
  repeat (first | with_reducible refine goR1 ?_ | with_reducible refine goR2 ?_)
  exact (show bodyPost _ _ _ .ret _ _ from ret2 (.slice none 0 0) (.bool false) rfl (res_tmp kj) (res_tmp kj) ⟨_, rfl, x2, rfl⟩)
set_option maxHeartbeats 4000000 in
theorem rPutNode_S (us : Bool) (nm : Int) (key sg pa ms : List Int) (a_m : Option Addr) (c_m : Nat) (w : World) (hkl : key.length = 32) (hgl : sg.length = 32) (hpl : pa.length = 32) (hml : ms.length ≤ 1000000) (hm : RdK .i64 w.heap.size ms (.slice a_m ms.length c_m) w) (hG : goodV us nm key sg pa ms = true) : Calls Try.prog 47 #[.agg (cat [#[.bool us], #[.int .i64 nm], ints .u8 (key), ints .u8 (sg), ints .u8 (pa), #[.slice a_m ms.length c_m]])] w (Gives w (WantR w.heap.size (some (nodeV us nm key sg pa ms)))) := by
  refine enter 9 [(0, .agg (cat [#[.bool us], #[.int .i64 nm], ints .u8 (key), ints .u8 (sg), ints .u8 (pa), #[.slice a_m ms.length c_m]]))] Try.func47 rfl rfl kj rfl ?_
  refine wp_seq_k fun K1 hK1 => ?_
  refine region_lit ?_
  refine seq_alloc (cat [#[.bool us], #[.int .i64 nm], ints .u8 (key), ints .u8 (sg), ints .u8 (pa), #[.slice a_m ms.length c_m]]) 43 1 rfl kj kj fun g2 W1 l2 e1 r2_1 => ?_
  have x1 : Ext w W1 := Ext.tr (Rely.Ext.refl w) e1
  have b2 : w.heap.size ≤ g2 := Nat.le_trans (Rely.Ext.refl w).size l2
  refine seq_val (.slice none 0 0) 2 rfl kj kj ?_
  refine seq_val (.bool false) 3 rfl kj kj ?_
  refine seq_nil ?_
  refine hK1 _ _ ?_
  try clear hK1 K1
  refine wp_seq_k fun K3 hK3 => ?_
  refine wp_seq_k fun K4 hK4 => ?_
  refine region_lit ?_
  refine seq_val (.agg (cat [#[.bool us], #[.int .i64 nm], ints .u8 (key), ints .u8 (sg), ints .u8 (pa), #[.slice a_m ms.length c_m]])) 4 rfl kj (run_load_row 43 _ g2 43 _ _ r2_1 rfl kj kj (isz (n := 99) kj (by rw [cat_cons, cat_cons, cat_cons, cat_cons, cat_cons, cat_cons]; simp only [Array.size_append, cat, ((ints_size _ _).trans hgl), ((ints_size _ _).trans hkl), ((ints_size _ _).trans hpl)]; rfl))) ?_
  refine seq_call (.bool true) 96 #[.agg (cat [#[.bool us], #[.int .i64 nm], ints .u8 (key), ints .u8 (sg), ints .u8 (pa), #[.slice a_m ms.length c_m]])] 5 rfl kj kj (goodE us nm key sg pa ms _ _ _ hG _ hkl hgl hpl (RdK.here (RdK.ext hm x1))) fun W2 e2 => ?_
  have x2 : Ext w W2 := Ext.tr x1 e2
  refine seq_val (.bool false) 6 rfl kj kj ?_
  refine seq_nil ?_
  refine hK4 _ _ ?_
  try clear hK4 K4
  refine cond_false kj ?_
  refine wp_skip ?_
  refine hK3 _ _ ?_
  try clear hK3 K3
  refine wp_seq_k fun K5 hK5 => ?_
  refine region_lit ?_
  have r2_2 := (row_ext r2_1 e2)
  refine seq_val (.agg (cat [#[.bool us], #[.int .i64 nm], ints .u8 (key), ints .u8 (sg), ints .u8 (pa), #[.slice a_m ms.length c_m]])) 7 rfl kj (run_load_row 43 _ g2 43 _ _ r2_2 rfl kj kj (isz (n := 99) kj (by rw [cat_cons, cat_cons, cat_cons, cat_cons, cat_cons, cat_cons]; simp only [Array.size_append, cat, ((ints_size _ _).trans hgl), ((ints_size _ _).trans hkl), ((ints_size _ _).trans hpl)]; rfl))) ?_
  refine seq_callR (fun v W' => (OwnN .u8 5 W2.heap.size (nodeV us nm key sg pa ms)) v W' ∧ Ext W2 W') 97 #[.agg (cat [#[.bool us], #[.int .i64 nm], ints .u8 (key), ints .u8 (sg), ints .u8 (pa), #[.slice a_m ms.length c_m]])] 8 rfl kj kj ((rnodeC us nm key sg pa ms _ _ _ hkl hgl hpl hml (RdK.here (RdK.ext hm x2))).mono (by rintro e w' ⟨v, rfl, e1, hv⟩; exact ⟨v, rfl, hv, e1⟩)) fun vv6 W3 hh6 => ?_
  obtain ⟨hv6, e3⟩ := hh6
  have x3 : Ext w W3 := Ext.tr x2 e3
  obtain ⟨ab_, cb_, rfl, -⟩ := id (OwnN.rd hv6)
  refine seq_val (.slice ab_ ((nodeV us nm key sg pa ms).length) cb_) 2 rfl kj kj ?_
  refine seq_val (.bool true) 3 rfl kj kj ?_
  refine seq_nil ?_
  refine hK5 _ _ ?_
  try clear hK5 K5
  refine wp_ret ?_
  repeat (first | with_reducible refine goR1 ?_ | with_reducible refine goR2 ?_)
  exact (show bodyPost _ _ _ .ret _ _ from ret2 (.slice ab_ ((nodeV us nm key sg pa ms).length) cb_) (.bool true) rfl (res_tmp kj) (res_tmp kj) ⟨_, rfl, x3, _, rfl, OwnN.base x2.size hv6⟩)
theorem rPutNodeC (us : Bool) (nm : Int) (key sg pa ms : List Int) (a_m : Option Addr) (c_m : Nat) (w : World) (hkl : key.length = 32) (hgl : sg.length = 32) (hpl : pa.length = 32) (hml : ms.length ≤ 1000000) (hm : RdK .i64 w.heap.size ms (.slice a_m ms.length c_m) w) : Calls Try.prog 47 #[.agg (cat [#[.bool us], #[.int .i64 nm], ints .u8 (key), ints .u8 (sg), ints .u8 (pa), #[.slice a_m ms.length c_m]])] w (Gives w (WantR w.heap.size (refN us nm key sg pa ms))) := by
  unfold refN
  cases hG : goodV us nm key sg pa ms with
  | false => exact rPutNode_N us nm key sg pa ms a_m c_m w hkl hgl hpl hml hm hG
  | true => exact rPutNode_S us nm key sg pa ms a_m c_m w hkl hgl hpl hml hm hG
set_option maxHeartbeats 4000000 in
theorem lnode_T (us : Bool) (nm : Int) (key sg pa ms : List Int) (a_m : Option Addr) (c_m : Nat) (w : World) (hkl : key.length = 32) (hgl : sg.length = 32) (hpl : pa.length = 32) (h : ms.length < 100) : Calls Try.prog 20 #[.agg (cat [#[.bool us], #[.int .i64 nm], ints .u8 (key), ints .u8 (sg), ints .u8 (pa), #[.slice a_m ms.length c_m]])] w (Ret w (.bool true)) := by
  refine enter 7 [(0, .agg (cat [#[.bool us], #[.int .i64 nm], ints .u8 (key), ints .u8 (sg), ints .u8 (pa), #[.slice a_m ms.length c_m]]))] Try.func20 rfl rfl kj rfl ?_
  refine wp_seq_k fun K1 hK1 => ?_
  refine region_lit ?_
  refine seq_alloc (cat [#[.bool us], #[.int .i64 nm], ints .u8 (key), ints .u8 (sg), ints .u8 (pa), #[.slice a_m ms.length c_m]]) 43 1 rfl kj kj fun g2 W1 l2 e1 r2_1 => ?_
  have x1 : Ext w W1 := Ext.tr (Rely.Ext.refl w) e1
  have b2 : w.heap.size ≤ g2 := Nat.le_trans (Rely.Ext.refl w).size l2
  refine seq_val (.bool false) 2 rfl kj kj ?_
  refine seq_nil ?_
  refine hK1 _ _ ?_
  try clear hK1 K1
  refine wp_seq_k fun K3 hK3 => ?_
  refine region_lit ?_
  refine seq_val (.pointer (some ⟨g2, 98, none⟩)) 3 rfl kj kj ?_
  refine seq_val (.slice a_m ms.length c_m) 4 rfl kj (run_loadC1 41 _ g2 98 43 _ (.slice a_m ms.length c_m) _ r2_1 rfl kj (cat_part [#[.bool us], #[.int .i64 nm], ints .u8 (key), ints .u8 (sg), ints .u8 (pa)] [#[.slice a_m ms.length c_m]] [] 98 (by rw [cat_cons, cat_cons, cat_cons, cat_cons, cat_cons]; simp only [Array.size_append, cat, ((ints_size _ _).trans hgl), ((ints_size _ _).trans hkl), ((ints_size _ _).trans hpl)]; rfl) 0 _ rfl) kj) ?_
  refine seq_val (.int .i64 ((ms.length : Nat) : Int)) 5 rfl kj kj ?_
  refine seq_val (.bool true) 6 rfl kj (run_eq (u := .bool (decide (((ms.length : Nat) : Int) < 100))) kj (congrArg Value.bool (decide_eq_true (by omega)))) ?_
  refine seq_val (.bool true) 2 rfl kj kj ?_
  refine seq_nil ?_
  refine hK3 _ _ ?_
  try clear hK3 K3
  refine wp_ret ?_
  repeat (first | with_reducible refine goR1 ?_ | with_reducible refine goR2 ?_)
  exact (show bodyPost _ _ _ .ret _ _ from ret1 (.bool true) rfl (res_tmp kj) ⟨rfl, x1⟩)
set_option maxHeartbeats 4000000 in
theorem lnode_F (us : Bool) (nm : Int) (key sg pa ms : List Int) (a_m : Option Addr) (c_m : Nat) (w : World) (hkl : key.length = 32) (hgl : sg.length = 32) (hpl : pa.length = 32) (h : 100 ≤ ms.length) : Calls Try.prog 20 #[.agg (cat [#[.bool us], #[.int .i64 nm], ints .u8 (key), ints .u8 (sg), ints .u8 (pa), #[.slice a_m ms.length c_m]])] w (Ret w (.bool false)) := by
  refine enter 7 [(0, .agg (cat [#[.bool us], #[.int .i64 nm], ints .u8 (key), ints .u8 (sg), ints .u8 (pa), #[.slice a_m ms.length c_m]]))] Try.func20 rfl rfl kj rfl ?_
  refine wp_seq_k fun K1 hK1 => ?_
  refine region_lit ?_
  refine seq_alloc (cat [#[.bool us], #[.int .i64 nm], ints .u8 (key), ints .u8 (sg), ints .u8 (pa), #[.slice a_m ms.length c_m]]) 43 1 rfl kj kj fun g2 W1 l2 e1 r2_1 => ?_
  have x1 : Ext w W1 := Ext.tr (Rely.Ext.refl w) e1
  have b2 : w.heap.size ≤ g2 := Nat.le_trans (Rely.Ext.refl w).size l2
  refine seq_val (.bool false) 2 rfl kj kj ?_
  refine seq_nil ?_
  refine hK1 _ _ ?_
  try clear hK1 K1
  refine wp_seq_k fun K3 hK3 => ?_
  refine region_lit ?_
  refine seq_val (.pointer (some ⟨g2, 98, none⟩)) 3 rfl kj kj ?_
  refine seq_val (.slice a_m ms.length c_m) 4 rfl kj (run_loadC1 41 _ g2 98 43 _ (.slice a_m ms.length c_m) _ r2_1 rfl kj (cat_part [#[.bool us], #[.int .i64 nm], ints .u8 (key), ints .u8 (sg), ints .u8 (pa)] [#[.slice a_m ms.length c_m]] [] 98 (by rw [cat_cons, cat_cons, cat_cons, cat_cons, cat_cons]; simp only [Array.size_append, cat, ((ints_size _ _).trans hgl), ((ints_size _ _).trans hkl), ((ints_size _ _).trans hpl)]; rfl) 0 _ rfl) kj) ?_
  refine seq_val (.int .i64 ((ms.length : Nat) : Int)) 5 rfl kj kj ?_
  refine seq_val (.bool false) 6 rfl kj (run_eq (u := .bool (decide (((ms.length : Nat) : Int) < 100))) kj (congrArg Value.bool (decide_eq_false (by omega)))) ?_
  refine seq_val (.bool false) 2 rfl kj kj ?_
  refine seq_nil ?_
  refine hK3 _ _ ?_
  try clear hK3 K3
  refine wp_ret ?_
  repeat (first | with_reducible refine goR1 ?_ | with_reducible refine goR2 ?_)
  exact (show bodyPost _ _ _ .ret _ _ from ret1 (.bool false) rfl (res_tmp kj) ⟨rfl, x1⟩)
set_option maxHeartbeats 4000000 in
theorem lawNodes_A (us : Bool) (nm : Int) (key sg pa ms : List Int) (a_m : Option Addr) (c_m : Nat) (w : World) (hkl : key.length = 32) (hgl : sg.length = 32) (hpl : pa.length = 32) (hkb : AreBytes key) (hgb : AreBytes sg) (hpb : AreBytes pa) (hm : RdK .i64 w.heap.size ms (.slice a_m ms.length c_m) w) (hl : 100 ≤ ms.length) : Calls Try.prog 10 #[.agg (cat [#[.bool us], #[.int .i64 nm], ints .u8 (key), ints .u8 (sg), ints .u8 (pa), #[.slice a_m ms.length c_m]])] w (Ret w (.bool true)) := by
  refine enter 27 [(0, .agg (cat [#[.bool us], #[.int .i64 nm], ints .u8 (key), ints .u8 (sg), ints .u8 (pa), #[.slice a_m ms.length c_m]]))] Try.func10 rfl rfl kj rfl ?_
  refine wp_seq_k fun K1 hK1 => ?_
  refine region_lit ?_
  refine seq_alloc (cat [#[.bool us], #[.int .i64 nm], ints .u8 (key), ints .u8 (sg), ints .u8 (pa), #[.slice a_m ms.length c_m]]) 43 1 rfl kj kj fun g2 W1 l2 e1 r2_1 => ?_
  have x1 : Ext w W1 := Ext.tr (Rely.Ext.refl w) e1
  have b2 : w.heap.size ≤ g2 := Nat.le_trans (Rely.Ext.refl w).size l2
  refine seq_val (.bool false) 2 rfl kj kj ?_
  refine seq_nil ?_
  refine hK1 _ _ ?_
  try clear hK1 K1
  refine wp_seq_k fun K3 hK3 => ?_
  refine wp_seq_k fun K4 hK4 => ?_
  refine region_lit ?_
  refine seq_call (.bool true) 12 #[] 7 rfl kj kj ((alive9) _) fun W2 e2 => ?_
  have x2 : Ext w W2 := Ext.tr x1 e2
  refine seq_val (.bool false) 8 rfl kj kj ?_
  refine seq_nil ?_
  refine hK4 _ _ ?_
  try clear hK4 K4
  refine cond_false kj ?_
  refine wp_skip ?_
  refine hK3 _ _ ?_
  try clear hK3 K3
  refine wp_seq_k fun K5 hK5 => ?_
  refine wp_seq_k fun K6 hK6 => ?_
  refine region_lit ?_
  have r2_2 := (row_ext r2_1 e2)
  refine seq_val (.agg (cat [#[.bool us], #[.int .i64 nm], ints .u8 (key), ints .u8 (sg), ints .u8 (pa), #[.slice a_m ms.length c_m]])) 9 rfl kj (run_load_row 43 _ g2 43 _ _ r2_2 rfl kj kj (isz (n := 99) kj (by rw [cat_cons, cat_cons, cat_cons, cat_cons, cat_cons, cat_cons]; simp only [Array.size_append, cat, ((ints_size _ _).trans hgl), ((ints_size _ _).trans hkl), ((ints_size _ _).trans hpl)]; rfl))) ?_
  refine seq_call (.bool false) 20 #[.agg (cat [#[.bool us], #[.int .i64 nm], ints .u8 (key), ints .u8 (sg), ints .u8 (pa), #[.slice a_m ms.length c_m]])] 10 rfl kj kj (lnode_F us nm key sg pa ms _ _ _ hkl hgl hpl hl) fun W3 e3 => ?_
  have x3 : Ext w W3 := Ext.tr x2 e3
  refine seq_val (.bool true) 11 rfl kj kj ?_
  refine seq_nil ?_
  refine hK6 _ _ ?_
  try clear hK6 K6
  refine cond_true kj ?_
  refine wp_seq_k fun K7 hK7 => ?_
  refine region_lit ?_
  refine seq_val (.bool true) 2 rfl kj kj ?_
  refine seq_nil ?_
  refine hK7 _ _ ?_
  try clear hK7 K7
  refine wp_ret ?_
  repeat (first | with_reducible refine goR1 ?_ | with_reducible refine goR2 ?_)
  exact (show bodyPost _ _ _ .ret _ _ from ret1 (.bool true) rfl (res_tmp kj) ⟨rfl, x3⟩)
set_option maxHeartbeats 4000000 in
theorem lawNodes_N (us : Bool) (nm : Int) (key sg pa ms : List Int) (a_m : Option Addr) (c_m : Nat) (w : World) (hkl : key.length = 32) (hgl : sg.length = 32) (hpl : pa.length = 32) (hkb : AreBytes key) (hgb : AreBytes sg) (hpb : AreBytes pa) (hm : RdK .i64 w.heap.size ms (.slice a_m ms.length c_m) w) (hl : ms.length < 100) (hS : refN us nm key sg pa ms = none) : Calls Try.prog 10 #[.agg (cat [#[.bool us], #[.int .i64 nm], ints .u8 (key), ints .u8 (sg), ints .u8 (pa), #[.slice a_m ms.length c_m]])] w (Ret w (.bool true)) := by
  refine enter 27 [(0, .agg (cat [#[.bool us], #[.int .i64 nm], ints .u8 (key), ints .u8 (sg), ints .u8 (pa), #[.slice a_m ms.length c_m]]))] Try.func10 rfl rfl kj rfl ?_
  refine wp_seq_k fun K1 hK1 => ?_
  refine region_lit ?_
  refine seq_alloc (cat [#[.bool us], #[.int .i64 nm], ints .u8 (key), ints .u8 (sg), ints .u8 (pa), #[.slice a_m ms.length c_m]]) 43 1 rfl kj kj fun g2 W1 l2 e1 r2_1 => ?_
  have x1 : Ext w W1 := Ext.tr (Rely.Ext.refl w) e1
  have b2 : w.heap.size ≤ g2 := Nat.le_trans (Rely.Ext.refl w).size l2
  refine seq_val (.bool false) 2 rfl kj kj ?_
  refine seq_nil ?_
  refine hK1 _ _ ?_
  try clear hK1 K1
  refine wp_seq_k fun K3 hK3 => ?_
  refine wp_seq_k fun K4 hK4 => ?_
  refine region_lit ?_
  refine seq_call (.bool true) 12 #[] 7 rfl kj kj ((alive9) _) fun W2 e2 => ?_
  have x2 : Ext w W2 := Ext.tr x1 e2
  refine seq_val (.bool false) 8 rfl kj kj ?_
  refine seq_nil ?_
  refine hK4 _ _ ?_
  try clear hK4 K4
  refine cond_false kj ?_
  refine wp_skip ?_
  refine hK3 _ _ ?_
  try clear hK3 K3
  refine wp_seq_k fun K5 hK5 => ?_
  refine wp_seq_k fun K6 hK6 => ?_
  refine region_lit ?_
  have r2_2 := (row_ext r2_1 e2)
  refine seq_val (.agg (cat [#[.bool us], #[.int .i64 nm], ints .u8 (key), ints .u8 (sg), ints .u8 (pa), #[.slice a_m ms.length c_m]])) 9 rfl kj (run_load_row 43 _ g2 43 _ _ r2_2 rfl kj kj (isz (n := 99) kj (by rw [cat_cons, cat_cons, cat_cons, cat_cons, cat_cons, cat_cons]; simp only [Array.size_append, cat, ((ints_size _ _).trans hgl), ((ints_size _ _).trans hkl), ((ints_size _ _).trans hpl)]; rfl))) ?_
  refine seq_call (.bool true) 20 #[.agg (cat [#[.bool us], #[.int .i64 nm], ints .u8 (key), ints .u8 (sg), ints .u8 (pa), #[.slice a_m ms.length c_m]])] 10 rfl kj kj (lnode_T us nm key sg pa ms _ _ _ hkl hgl hpl hl) fun W3 e3 => ?_
  have x3 : Ext w W3 := Ext.tr x2 e3
  refine seq_val (.bool false) 11 rfl kj kj ?_
  refine seq_nil ?_
  refine hK6 _ _ ?_
  try clear hK6 K6
  refine cond_false kj ?_
  refine wp_skip ?_
  refine hK5 _ _ ?_
  try clear hK5 K5
  refine wp_seq_k fun K7 hK7 => ?_
  refine region_lit ?_
  have r2_3 := (row_ext r2_2 e3)
  refine seq_val (.agg (cat [#[.bool us], #[.int .i64 nm], ints .u8 (key), ints .u8 (sg), ints .u8 (pa), #[.slice a_m ms.length c_m]])) 13 rfl kj (run_load_row 43 _ g2 43 _ _ r2_3 rfl kj kj (isz (n := 99) kj (by rw [cat_cons, cat_cons, cat_cons, cat_cons, cat_cons, cat_cons]; simp only [Array.size_append, cat, ((ints_size _ _).trans hgl), ((ints_size _ _).trans hkl), ((ints_size _ _).trans hpl)]; rfl))) ?_
  refine seq_callR (fun v W' => (PutR W3.heap.size none) v W' ∧ Ext W3 W') 46 #[.agg (cat [#[.bool us], #[.int .i64 nm], ints .u8 (key), ints .u8 (sg), ints .u8 (pa), #[.slice a_m ms.length c_m]])] 14 rfl kj kj ((PutNode_N us nm key sg pa ms _ _ _ hkl hgl hpl hkb hgb hpb (by omega) (RdK.here (RdK.ext hm x3)) ((nodeS_eq us nm key sg pa ms hkl hgl hpl).trans hS)).mono (by rintro e w' ⟨v, rfl, e1, hv⟩; exact ⟨v, rfl, hv, e1⟩)) fun vv8 W4 hh8 => ?_
  obtain ⟨hv8, e4⟩ := hh8
  have x4 : Ext w W4 := Ext.tr x3 e4
  have hv4 : vv8 = .tuple #[.slice none 0 0, .iface 102 (.int .i64 3)] := hv8
  subst hv4
  refine seq_val (.tuple #[.slice none 0 0, .iface 102 (.int .i64 3)]) 12 rfl kj kj ?_
  refine seq_val (.slice none 0 0) 15 rfl kj kj ?_
  refine seq_val (.iface 102 (.int .i64 3)) 16 rfl kj kj ?_
  refine seq_val (.slice none 0 0) 3 rfl kj kj ?_
  refine seq_val (.iface 102 (.int .i64 3)) 4 rfl kj kj ?_
  refine seq_nil ?_
  refine hK7 _ _ ?_
  try clear hK7 K7
  refine wp_seq_k fun K9 hK9 => ?_
  refine region_lit ?_
  have r2_4 := (row_ext r2_3 e4)
  refine seq_val (.agg (cat [#[.bool us], #[.int .i64 nm], ints .u8 (key), ints .u8 (sg), ints .u8 (pa), #[.slice a_m ms.length c_m]])) 18 rfl kj (run_load_row 43 _ g2 43 _ _ r2_4 rfl kj kj (isz (n := 99) kj (by rw [cat_cons, cat_cons, cat_cons, cat_cons, cat_cons, cat_cons]; simp only [Array.size_append, cat, ((ints_size _ _).trans hgl), ((ints_size _ _).trans hkl), ((ints_size _ _).trans hpl)]; rfl))) ?_
  refine seq_callR (fun v W' => (WantR W4.heap.size (refN us nm key sg pa ms)) v W' ∧ Ext W4 W') 47 #[.agg (cat [#[.bool us], #[.int .i64 nm], ints .u8 (key), ints .u8 (sg), ints .u8 (pa), #[.slice a_m ms.length c_m]])] 19 rfl kj kj ((rPutNodeC us nm key sg pa ms _ _ _ hkl hgl hpl (by omega) (RdK.here (RdK.ext hm x4))).mono (by rintro e w' ⟨v, rfl, e1, hv⟩; exact ⟨v, rfl, hv, e1⟩)) fun vv10 W5 hh10 => ?_
  obtain ⟨hv10, e5⟩ := hh10
  have x5 : Ext w W5 := Ext.tr x4 e5
  rw [hS] at hv10
  have hv5 : vv10 = .tuple #[.slice none 0 0, .bool false] := hv10
  subst hv5
  refine seq_val (.tuple #[.slice none 0 0, .bool false]) 17 rfl kj kj ?_
  refine seq_val (.slice none 0 0) 20 rfl kj kj ?_
  refine seq_val (.bool false) 21 rfl kj kj ?_
  refine seq_val (.slice none 0 0) 5 rfl kj kj ?_
  refine seq_val (.bool false) 6 rfl kj kj ?_
  refine seq_nil ?_
  refine hK9 _ _ ?_
  try clear hK9 K9
  refine wp_seq_k fun K11 hK11 => ?_
  refine region_lit ?_
  refine seq_val (.slice none 0 0) 22 rfl kj kj ?_
  refine seq_val (.iface 102 (.int .i64 3)) 23 rfl kj kj ?_
  refine seq_val (.slice none 0 0) 24 rfl kj kj ?_
  refine seq_val (.bool false) 25 rfl kj kj ?_
  refine seq_call (.bool true) 16 #[.slice none 0 0, .iface 102 (.int .i64 3), .slice none 0 0, .bool false] 26 rfl kj kj ((answer_N _) _) fun W6 e6 => ?_
  have x6 : Ext w W6 := Ext.tr x5 e6
  refine seq_val (.bool true) 2 rfl kj kj ?_
  refine seq_nil ?_
  refine hK11 _ _ ?_
  try clear hK11 K11
  refine wp_ret ?_
  repeat (first | with_reducible refine goR1 ?_ | with_reducible refine goR2 ?_)
  exact (show bodyPost _ _ _ .ret _ _ from ret1 (.bool true) rfl (res_tmp kj) ⟨rfl, x6⟩)
set_option maxHeartbeats 4000000 in
theorem lawNodes_S (us : Bool) (nm : Int) (key sg pa ms : List Int) (a_m : Option Addr) (c_m : Nat) (w : World) (hkl : key.length = 32) (hgl : sg.length = 32) (hpl : pa.length = 32) (hkb : AreBytes key) (hgb : AreBytes sg) (hpb : AreBytes pa) (hm : RdK .i64 w.heap.size ms (.slice a_m ms.length c_m) w) (hl : ms.length < 100) (bs : List Int) (hS : refN us nm key sg pa ms = some bs) : Calls Try.prog 10 #[.agg (cat [#[.bool us], #[.int .i64 nm], ints .u8 (key), ints .u8 (sg), ints .u8 (pa), #[.slice a_m ms.length c_m]])] w (Ret w (.bool true)) := by
  have hbb : AreBytes bs := by
    unfold refN at hS
    split at hS
    · obtain rfl := Option.some.inj hS
      exact node_bytes us nm key sg pa ms hkb hgb hpb
    · cases hS
  refine enter 27 [(0, .agg (cat [#[.bool us], #[.int .i64 nm], ints .u8 (key), ints .u8 (sg), ints .u8 (pa), #[.slice a_m ms.length c_m]]))] Try.func10 rfl rfl kj rfl ?_
  refine wp_seq_k fun K1 hK1 => ?_
  refine region_lit ?_
  refine seq_alloc (cat [#[.bool us], #[.int .i64 nm], ints .u8 (key), ints .u8 (sg), ints .u8 (pa), #[.slice a_m ms.length c_m]]) 43 1 rfl kj kj fun g2 W1 l2 e1 r2_1 => ?_
  have x1 : Ext w W1 := Ext.tr (Rely.Ext.refl w) e1
  have b2 : w.heap.size ≤ g2 := Nat.le_trans (Rely.Ext.refl w).size l2
  refine seq_val (.bool false) 2 rfl kj kj ?_
  refine seq_nil ?_
  refine hK1 _ _ ?_
  try clear hK1 K1
  refine wp_seq_k fun K3 hK3 => ?_
  refine wp_seq_k fun K4 hK4 => ?_
  refine region_lit ?_
  refine seq_call (.bool true) 12 #[] 7 rfl kj kj ((alive9) _) fun W2 e2 => ?_
  have x2 : Ext w W2 := Ext.tr x1 e2
  refine seq_val (.bool false) 8 rfl kj kj ?_
  refine seq_nil ?_
  refine hK4 _ _ ?_
  try clear hK4 K4
  refine cond_false kj ?_
  refine wp_skip ?_
  refine hK3 _ _ ?_
  try clear hK3 K3
  refine wp_seq_k fun K5 hK5 => ?_
  refine wp_seq_k fun K6 hK6 => ?_
  refine region_lit ?_
  have r2_2 := (row_ext r2_1 e2)
  refine seq_val (.agg (cat [#[.bool us], #[.int .i64 nm], ints .u8 (key), ints .u8 (sg), ints .u8 (pa), #[.slice a_m ms.length c_m]])) 9 rfl kj (run_load_row 43 _ g2 43 _ _ r2_2 rfl kj kj (isz (n := 99) kj (by rw [cat_cons, cat_cons, cat_cons, cat_cons, cat_cons, cat_cons]; simp only [Array.size_append, cat, ((ints_size _ _).trans hgl), ((ints_size _ _).trans hkl), ((ints_size _ _).trans hpl)]; rfl))) ?_
  refine seq_call (.bool true) 20 #[.agg (cat [#[.bool us], #[.int .i64 nm], ints .u8 (key), ints .u8 (sg), ints .u8 (pa), #[.slice a_m ms.length c_m]])] 10 rfl kj kj (lnode_T us nm key sg pa ms _ _ _ hkl hgl hpl hl) fun W3 e3 => ?_
  have x3 : Ext w W3 := Ext.tr x2 e3
  refine seq_val (.bool false) 11 rfl kj kj ?_
  refine seq_nil ?_
  refine hK6 _ _ ?_
  try clear hK6 K6
  refine cond_false kj ?_
  refine wp_skip ?_
  refine hK5 _ _ ?_
  try clear hK5 K5
  refine wp_seq_k fun K7 hK7 => ?_
  refine region_lit ?_
  have r2_3 := (row_ext r2_2 e3)
  refine seq_val (.agg (cat [#[.bool us], #[.int .i64 nm], ints .u8 (key), ints .u8 (sg), ints .u8 (pa), #[.slice a_m ms.length c_m]])) 13 rfl kj (run_load_row 43 _ g2 43 _ _ r2_3 rfl kj kj (isz (n := 99) kj (by rw [cat_cons, cat_cons, cat_cons, cat_cons, cat_cons, cat_cons]; simp only [Array.size_append, cat, ((ints_size _ _).trans hgl), ((ints_size _ _).trans hkl), ((ints_size _ _).trans hpl)]; rfl))) ?_
  refine seq_callR (fun v W' => (PutR W3.heap.size (some bs)) v W' ∧ Ext W3 W') 46 #[.agg (cat [#[.bool us], #[.int .i64 nm], ints .u8 (key), ints .u8 (sg), ints .u8 (pa), #[.slice a_m ms.length c_m]])] 14 rfl kj kj ((PutNode_S us nm key sg pa ms _ _ _ hkl hgl hpl hkb hgb hpb (by omega) (RdK.here (RdK.ext hm x3)) bs ((nodeS_eq us nm key sg pa ms hkl hgl hpl).trans hS)).mono (by rintro e w' ⟨v, rfl, e1, hv⟩; exact ⟨v, rfl, hv, e1⟩)) fun vv8 W4 hh8 => ?_
  obtain ⟨hv8, e4⟩ := hh8
  have x4 : Ext w W4 := Ext.tr x3 e4
  obtain ⟨ub, rfl, hub⟩ := hv8
  obtain ⟨aub_, cub_, rfl, -⟩ := id (OwnN.rd hub)
  refine seq_val (.tuple #[.slice aub_ ((bs).length) cub_, .nilIface]) 12 rfl kj kj ?_
  refine seq_val (.slice aub_ ((bs).length) cub_) 15 rfl kj kj ?_
  refine seq_val (.nilIface) 16 rfl kj kj ?_
  refine seq_val (.slice aub_ ((bs).length) cub_) 3 rfl kj kj ?_
  refine seq_val (.nilIface) 4 rfl kj kj ?_
  refine seq_nil ?_
  refine hK7 _ _ ?_
  try clear hK7 K7
  refine wp_seq_k fun K9 hK9 => ?_
  refine region_lit ?_
  have r2_4 := (row_ext r2_3 e4)
  refine seq_val (.agg (cat [#[.bool us], #[.int .i64 nm], ints .u8 (key), ints .u8 (sg), ints .u8 (pa), #[.slice a_m ms.length c_m]])) 18 rfl kj (run_load_row 43 _ g2 43 _ _ r2_4 rfl kj kj (isz (n := 99) kj (by rw [cat_cons, cat_cons, cat_cons, cat_cons, cat_cons, cat_cons]; simp only [Array.size_append, cat, ((ints_size _ _).trans hgl), ((ints_size _ _).trans hkl), ((ints_size _ _).trans hpl)]; rfl))) ?_
  refine seq_callR (fun v W' => (WantR W4.heap.size (refN us nm key sg pa ms)) v W' ∧ Ext W4 W') 47 #[.agg (cat [#[.bool us], #[.int .i64 nm], ints .u8 (key), ints .u8 (sg), ints .u8 (pa), #[.slice a_m ms.length c_m]])] 19 rfl kj kj ((rPutNodeC us nm key sg pa ms _ _ _ hkl hgl hpl (by omega) (RdK.here (RdK.ext hm x4))).mono (by rintro e w' ⟨v, rfl, e1, hv⟩; exact ⟨v, rfl, hv, e1⟩)) fun vv10 W5 hh10 => ?_
  obtain ⟨hv10, e5⟩ := hh10
  have x5 : Ext w W5 := Ext.tr x4 e5
  rw [hS] at hv10
  obtain ⟨uw, rfl, huw⟩ := hv10
  obtain ⟨auw_, cuw_, rfl, -⟩ := id (OwnN.rd huw)
  refine seq_val (.tuple #[.slice auw_ ((bs).length) cuw_, .bool true]) 17 rfl kj kj ?_
  refine seq_val (.slice auw_ ((bs).length) cuw_) 20 rfl kj kj ?_
  refine seq_val (.bool true) 21 rfl kj kj ?_
  refine seq_val (.slice auw_ ((bs).length) cuw_) 5 rfl kj kj ?_
  refine seq_val (.bool true) 6 rfl kj kj ?_
  refine seq_nil ?_
  refine hK9 _ _ ?_
  try clear hK9 K9
  refine wp_seq_k fun K11 hK11 => ?_
  refine region_lit ?_
  refine seq_val (.slice aub_ ((bs).length) cub_) 22 rfl kj kj ?_
  refine seq_val (.nilIface) 23 rfl kj kj ?_
  refine seq_val (.slice auw_ ((bs).length) cuw_) 24 rfl kj kj ?_
  refine seq_val (.bool true) 25 rfl kj kj ?_
  have f12_5 := (hub.ext e5)
  refine seq_call (.bool true) 16 #[.slice aub_ ((bs).length) cub_, .nilIface, .slice auw_ ((bs).length) cuw_, .bool true] 26 rfl kj kj (answer_S _ _ bs _ (RdK.bytes (OwnN.rd f12_5) hbb) (RdK.bytes (OwnN.rd huw) hbb)) fun W6 e6 => ?_
  have x6 : Ext w W6 := Ext.tr x5 e6
  refine seq_val (.bool true) 2 rfl kj kj ?_
  refine seq_nil ?_
  refine hK11 _ _ ?_
  try clear hK11 K11
  refine wp_ret ?_
  repeat (first | with_reducible refine goR1 ?_ | with_reducible refine goR2 ?_)
  exact (show bodyPost _ _ _ .ret _ _ from ret1 (.bool true) rfl (res_tmp kj) ⟨rfl, x6⟩)
theorem lawNodes (us : Bool) (nm : Int) (key sg pa ms : List Int) (a_m : Option Addr) (c_m : Nat) (w : World) (hkl : key.length = 32) (hgl : sg.length = 32) (hpl : pa.length = 32) (hkb : AreBytes key) (hgb : AreBytes sg) (hpb : AreBytes pa) (hm : RdK .i64 w.heap.size ms (.slice a_m ms.length c_m) w) : Calls Try.prog 10 #[.agg (cat [#[.bool us], #[.int .i64 nm], ints .u8 (key), ints .u8 (sg), ints .u8 (pa), #[.slice a_m ms.length c_m]])] w (Ret w (.bool true)) := by
  by_cases hl : ms.length < 100
  · cases hS : refN us nm key sg pa ms with
    | none => exact lawNodes_N us nm key sg pa ms a_m c_m w hkl hgl hpl hkb hgb hpb hm hl hS
    | some bs => exact lawNodes_S us nm key sg pa ms a_m c_m w hkl hgl hpl hkb hgb hpb hm hl bs hS
  · exact lawNodes_A us nm key sg pa ms a_m c_m w hkl hgl hpl hkb hgb hpb hm (by omega)

end Go.Proofs.Ytfelfmchachljaa.Wr
