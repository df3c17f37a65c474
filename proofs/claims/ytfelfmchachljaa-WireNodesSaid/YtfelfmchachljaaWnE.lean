/- PutNode. -/
import Derived.Test.YtfelfmchachljaaWnD
namespace Go.Proofs.Ytfelfmchachljaa.Wr
open Go Go.RowKit
open Go.Proofs.Ytfelfmchachljaa.Rely Go.Proofs.Ytfelfmchachljaa.Auto Go.Proofs.Ytfelfmchachljaa.Own Go.Proofs.Ytfelfmchachljaa.Sha
set_option linter.unusedVariables false
set_option linter.unusedSimpArgs false

set_option maxHeartbeats 4000000 in
theorem putNode (us : Bool) (nm : Int) (key sg pa ms : List Int) (a_m : Option Addr) (c_m : Nat) (w : World) (hkl : key.length = 32) (hgl : sg.length = 32) (hpl : pa.length = 32) (hkb : AreBytes key) (hgb : AreBytes sg) (hpb : AreBytes pa) (hml : ms.length ≤ 1000000) (hm : RdK .i64 w.heap.size ms (.slice a_m ms.length c_m) w) : Calls Try.prog 94 #[.agg (cat [#[.bool us], #[.int .i64 nm], ints .u8 (key), ints .u8 (sg), ints .u8 (pa), #[.slice a_m ms.length c_m]]), .func (.func 95) #[] #[]] w (Gives w (PutR w.heap.size (nodeS (some []) us nm key sg pa ms))) := by
  refine enter 22 [(0, .agg (cat [#[.bool us], #[.int .i64 nm], ints .u8 (key), ints .u8 (sg), ints .u8 (pa), #[.slice a_m ms.length c_m]])), (1, .func (.func 95) #[] #[])] Try.func94 rfl rfl kj rfl ?_
  refine wp_seq_k fun K1 hK1 => ?_
  refine region_lit ?_
  refine seq_alloc (cat [#[.bool us], #[.int .i64 nm], ints .u8 (key), ints .u8 (sg), ints .u8 (pa), #[.slice a_m ms.length c_m]]) 43 2 rfl kj kj fun g2 W1 l2 e1 r2_1 => ?_
  have x1 : Ext w W1 := Ext.tr (Rely.Ext.refl w) e1
  have b2 : w.heap.size ≤ g2 := Nat.le_trans (Rely.Ext.refl w).size l2
  refine seq_val (.slice none 0 0) 4 rfl kj kj ?_
  refine seq_val (.nilIface) 5 rfl kj kj ?_
  refine seq_nil ?_
  refine hK1 _ _ ?_
  try clear hK1 K1
  refine wp_seq_k fun K3 hK3 => ?_
  refine region_lit ?_
  refine seq_val (.agg (cat [#[.slice none 0 0], #[.bool false]])) 7 rfl kj kj ?_
  refine seq_alloc (cat [#[.slice none 0 0], #[.bool false]]) 174 8 rfl kj kj fun g4 W2 l4 e2 r4_2 => ?_
  have x2 : Ext w W2 := Ext.tr x1 e2
  have b4 : w.heap.size ≤ g4 := Nat.le_trans x1.size l4
  refine seq_val (.pointer (some ⟨g4, 0, none⟩)) 6 rfl kj kj ?_
  refine seq_nil ?_
  refine hK3 _ _ ?_
  try clear hK3 K3
  refine wp_seq_k fun K5 hK5 => ?_
  refine region_lit ?_
  refine seq_val (.func (.func 95) #[] #[]) 9 rfl kj kj ?_
  refine seq_val (.pointer (some ⟨g4, 0, none⟩)) 10 rfl kj kj ?_
  have r2_2 := (row_ext r2_1 e2)
  refine seq_val (.agg (cat [#[.bool us], #[.int .i64 nm], ints .u8 (key), ints .u8 (sg), ints .u8 (pa), #[.slice a_m ms.length c_m]])) 11 rfl kj (run_load_row 43 _ g2 43 _ _ r2_2 rfl kj kj (isz (n := 99) kj (by rw [cat_cons, cat_cons, cat_cons, cat_cons, cat_cons, cat_cons]; simp only [Array.size_append, cat, ((ints_size _ _).trans hgl), ((ints_size _ _).trans hkl), ((ints_size _ _).trans hpl)]; rfl))) ?_
  refine seq_callR (fun v W' => v = .tuple #[] ∧ GW W1.heap.size g4 W2 W' ∧ WSt W1.heap.size g4 (nodeS (some []) us nm key sg pa ms) W') 95 #[.pointer (some ⟨g4, 0, none⟩), .agg (cat [#[.bool us], #[.int .i64 nm], ints .u8 (key), ints .u8 (sg), ints .u8 (pa), #[.slice a_m ms.length c_m]])] 12 rfl kj kj ((nodeW W1.heap.size g4 (some []) us nm key sg pa ms a_m c_m _ (Nat.le_trans (Nat.le_refl _) e2.size) l4 ⟨_, [], false, r4_2, ownN_nil .u8 5 _ _, Nat.zero_le _, (fun x hx => by cases hx), rfl⟩ hkl hgl hpl hkb hgb hpb hml (RdK.more (RdK.ext hm x2) (Nat.le_trans (Nat.le_refl _) e1.size))).mono (by rintro e w' ⟨rfl, h1, h2⟩; exact ⟨_, rfl, rfl, h1, h2⟩)) fun v6 W3 h6 => ?_
  obtain ⟨rfl, q3, u, xs, bad, rb3, ho, -, -, hS⟩ := h6
  have x3 : Ext w W3 := GW.back x2 q3 (Nat.le_trans (Nat.le_refl _) e1.size) b4
  obtain ⟨au, cu, rfl, -⟩ := id (OwnN.rd ho)
  refine seq_nil ?_
  refine hK5 _ _ ?_
  try clear hK5 K5
  refine wp_seq_k fun K7 hK7 => ?_
  refine wp_seq_k fun K8 hK8 => ?_
  refine region_lit ?_
  refine seq_val (.pointer (some ⟨g4, 0, none⟩)) 13 rfl kj kj ?_
  refine seq_val (.pointer (some ⟨g4, 0, none⟩)) 14 rfl kj kj ?_
  refine seq_val (.pointer (some ⟨g4, 1, none⟩)) 15 rfl kj kj ?_
  refine seq_val (.bool bad) 16 rfl kj (run_loadC1 4 _ g4 1 174 _ (.bool bad) _ rb3 rfl kj kj kj) ?_
  refine seq_nil ?_
  refine hK8 _ _ ?_
  try clear hK8 K8
  refine cond_split (t := bad) kj (fun c9 => ?_) (fun c9 => ?_)
  · skip
    refine wp_seq_k fun K10 hK10 => ?_
    refine region_lit ?_
    refine seq_val (.iface 102 (.int .i64 3)) 17 rfl kj kj ?_
    refine seq_val (.slice none 0 0) 4 rfl kj kj ?_
    refine seq_val (.iface 102 (.int .i64 3)) 5 rfl kj kj ?_
    refine seq_nil ?_
    refine hK10 _ _ ?_
    try clear hK10 K10
    refine wp_ret ?_
    repeat (first | with_reducible refine goR1 ?_ | with_reducible refine goR2 ?_)
    exact (show bodyPost _ _ _ .ret _ _ from ret2 (.slice none 0 0) (.iface 102 (.int .i64 3)) rfl (res_tmp kj) (res_tmp kj) ⟨_, rfl, x3, by rw [hS, c9]; exact rfl⟩)
  · skip
    refine wp_skip ?_
    refine hK7 _ _ ?_
    try clear hK7 K7
    refine wp_seq_k fun K11 hK11 => ?_
    refine region_lit ?_
    refine seq_val (.pointer (some ⟨g4, 0, none⟩)) 18 rfl kj kj ?_
    refine seq_val (.pointer (some ⟨g4, 0, none⟩)) 19 rfl kj kj ?_
    refine seq_val (.pointer (some ⟨g4, 0, none⟩)) 20 rfl kj kj ?_
    refine seq_val (.slice au xs.length cu) 21 rfl kj (run_loadC1 26 _ g4 0 174 _ (.slice au xs.length cu) _ rb3 rfl kj kj kj) ?_
    refine seq_val (.slice au xs.length cu) 4 rfl kj kj ?_
    refine seq_val (.nilIface) 5 rfl kj kj ?_
    refine seq_nil ?_
    refine hK11 _ _ ?_
    try clear hK11 K11
    refine wp_ret ?_
    repeat (first | with_reducible refine goR1 ?_ | with_reducible refine goR2 ?_)
    exact (show bodyPost _ _ _ .ret _ _ from ret2 (.slice au xs.length cu) (.nilIface) rfl (res_tmp kj) (res_tmp kj) ⟨_, rfl, x3, by rw [hS, c9]; exact ⟨_, rfl, OwnN.base (Nat.le_trans (Nat.le_refl _) e1.size) ho⟩⟩)
set_option maxHeartbeats 4000000 in
theorem PutNode_N (us : Bool) (nm : Int) (key sg pa ms : List Int) (a_m : Option Addr) (c_m : Nat) (w : World) (hkl : key.length = 32) (hgl : sg.length = 32) (hpl : pa.length = 32) (hkb : AreBytes key) (hgb : AreBytes sg) (hpb : AreBytes pa) (hml : ms.length ≤ 1000000) (hm : RdK .i64 w.heap.size ms (.slice a_m ms.length c_m) w) (hS : nodeS (some []) us nm key sg pa ms = none) : Calls Try.prog 46 #[.agg (cat [#[.bool us], #[.int .i64 nm], ints .u8 (key), ints .u8 (sg), ints .u8 (pa), #[.slice a_m ms.length c_m]])] w (Gives w (PutR w.heap.size (none))) := by
  refine enter 8 [(0, .agg (cat [#[.bool us], #[.int .i64 nm], ints .u8 (key), ints .u8 (sg), ints .u8 (pa), #[.slice a_m ms.length c_m]]))] Try.func46 rfl rfl kj rfl ?_
  refine wp_seq_k fun K1 hK1 => ?_
  refine region_lit ?_
  refine seq_alloc (cat [#[.bool us], #[.int .i64 nm], ints .u8 (key), ints .u8 (sg), ints .u8 (pa), #[.slice a_m ms.length c_m]]) 43 1 rfl kj kj fun g2 W1 l2 e1 r2_1 => ?_
  have x1 : Ext w W1 := Ext.tr (Rely.Ext.refl w) e1
  have b2 : w.heap.size ≤ g2 := Nat.le_trans (Rely.Ext.refl w).size l2
  refine seq_val (.slice none 0 0) 2 rfl kj kj ?_
  refine seq_val (.nilIface) 3 rfl kj kj ?_
  refine seq_nil ?_
  refine hK1 _ _ ?_
  try clear hK1 K1
  refine wp_seq_k fun K3 hK3 => ?_
  refine region_lit ?_
  refine seq_val (.agg (cat [#[.bool us], #[.int .i64 nm], ints .u8 (key), ints .u8 (sg), ints .u8 (pa), #[.slice a_m ms.length c_m]])) 4 rfl kj (run_load_row 43 _ g2 43 _ _ r2_1 rfl kj kj (isz (n := 99) kj (by rw [cat_cons, cat_cons, cat_cons, cat_cons, cat_cons, cat_cons]; simp only [Array.size_append, cat, ((ints_size _ _).trans hgl), ((ints_size _ _).trans hkl), ((ints_size _ _).trans hpl)]; rfl))) ?_
  refine seq_callR (fun v W' => (PutR W1.heap.size (nodeS (some []) us nm key sg pa ms)) v W' ∧ Ext W1 W') 94 #[.agg (cat [#[.bool us], #[.int .i64 nm], ints .u8 (key), ints .u8 (sg), ints .u8 (pa), #[.slice a_m ms.length c_m]]), .func (.func 95) #[] #[]] 5 rfl kj kj ((putNode us nm key sg pa ms a_m c_m _ hkl hgl hpl hkb hgb hpb hml (RdK.here (RdK.ext hm x1))).mono (by rintro e w' ⟨v, rfl, e1, hv⟩; exact ⟨v, rfl, hv, e1⟩)) fun vv4 W2 hh4 => ?_
  obtain ⟨hv4, e2⟩ := hh4
  have x2 : Ext w W2 := Ext.tr x1 e2
  rw [hS] at hv4
  have hv2 : vv4 = .tuple #[.slice none 0 0, .iface 102 (.int .i64 3)] := hv4
  subst hv2
  refine seq_val (.slice none 0 0) 6 rfl kj kj ?_
  refine seq_val (.iface 102 (.int .i64 3)) 7 rfl kj kj ?_
  refine seq_val (.slice none 0 0) 2 rfl kj kj ?_
  refine seq_val (.iface 102 (.int .i64 3)) 3 rfl kj kj ?_
  refine seq_nil ?_
  refine hK3 _ _ ?_
  try clear hK3 K3
  refine wp_ret ?_
  repeat (first | with_reducible refine goR1 ?_ | with_reducible refine goR2 ?_)
  exact (show bodyPost _ _ _ .ret _ _ from ret2 (.slice none 0 0) (.iface 102 (.int .i64 3)) rfl (res_tmp kj) (res_tmp kj) ⟨_, rfl, x2, rfl⟩)
set_option maxHeartbeats 4000000 in
theorem PutNode_S (us : Bool) (nm : Int) (key sg pa ms : List Int) (a_m : Option Addr) (c_m : Nat) (w : World) (hkl : key.length = 32) (hgl : sg.length = 32) (hpl : pa.length = 32) (hkb : AreBytes key) (hgb : AreBytes sg) (hpb : AreBytes pa) (hml : ms.length ≤ 1000000) (hm : RdK .i64 w.heap.size ms (.slice a_m ms.length c_m) w) (xs : List Int) (hS : nodeS (some []) us nm key sg pa ms = some xs) : Calls Try.prog 46 #[.agg (cat [#[.bool us], #[.int .i64 nm], ints .u8 (key), ints .u8 (sg), ints .u8 (pa), #[.slice a_m ms.length c_m]])] w (Gives w (PutR w.heap.size (some xs))) := by
  refine enter 8 [(0, .agg (cat [#[.bool us], #[.int .i64 nm], ints .u8 (key), ints .u8 (sg), ints .u8 (pa), #[.slice a_m ms.length c_m]]))] Try.func46 rfl rfl kj rfl ?_
  refine wp_seq_k fun K1 hK1 => ?_
  refine region_lit ?_
  refine seq_alloc (cat [#[.bool us], #[.int .i64 nm], ints .u8 (key), ints .u8 (sg), ints .u8 (pa), #[.slice a_m ms.length c_m]]) 43 1 rfl kj kj fun g2 W1 l2 e1 r2_1 => ?_
  have x1 : Ext w W1 := Ext.tr (Rely.Ext.refl w) e1
  have b2 : w.heap.size ≤ g2 := Nat.le_trans (Rely.Ext.refl w).size l2
  refine seq_val (.slice none 0 0) 2 rfl kj kj ?_
  refine seq_val (.nilIface) 3 rfl kj kj ?_
  refine seq_nil ?_
  refine hK1 _ _ ?_
  try clear hK1 K1
  refine wp_seq_k fun K3 hK3 => ?_
  refine region_lit ?_
  refine seq_val (.agg (cat [#[.bool us], #[.int .i64 nm], ints .u8 (key), ints .u8 (sg), ints .u8 (pa), #[.slice a_m ms.length c_m]])) 4 rfl kj (run_load_row 43 _ g2 43 _ _ r2_1 rfl kj kj (isz (n := 99) kj (by rw [cat_cons, cat_cons, cat_cons, cat_cons, cat_cons, cat_cons]; simp only [Array.size_append, cat, ((ints_size _ _).trans hgl), ((ints_size _ _).trans hkl), ((ints_size _ _).trans hpl)]; rfl))) ?_
  refine seq_callR (fun v W' => (PutR W1.heap.size (nodeS (some []) us nm key sg pa ms)) v W' ∧ Ext W1 W') 94 #[.agg (cat [#[.bool us], #[.int .i64 nm], ints .u8 (key), ints .u8 (sg), ints .u8 (pa), #[.slice a_m ms.length c_m]]), .func (.func 95) #[] #[]] 5 rfl kj kj ((putNode us nm key sg pa ms a_m c_m _ hkl hgl hpl hkb hgb hpb hml (RdK.here (RdK.ext hm x1))).mono (by rintro e w' ⟨v, rfl, e1, hv⟩; exact ⟨v, rfl, hv, e1⟩)) fun vv4 W2 hh4 => ?_
  obtain ⟨hv4, e2⟩ := hh4
  have x2 : Ext w W2 := Ext.tr x1 e2
  rw [hS] at hv4
  obtain ⟨u5_, rfl, hu5_⟩ := hv4
  obtain ⟨a5_, c5_, rfl, -⟩ := id (OwnN.rd hu5_)
  refine seq_val (.slice a5_ ((xs).length) c5_) 6 rfl kj kj ?_
  refine seq_val (.nilIface) 7 rfl kj kj ?_
  refine seq_val (.slice a5_ ((xs).length) c5_) 2 rfl kj kj ?_
  refine seq_val (.nilIface) 3 rfl kj kj ?_
  refine seq_nil ?_
  refine hK3 _ _ ?_
  try clear hK3 K3
  refine wp_ret ?_
  repeat (first | with_reducible refine goR1 ?_ | with_reducible refine goR2 ?_)
  exact (show bodyPost _ _ _ .ret _ _ from ret2 (.slice a5_ ((xs).length) c5_) (.nilIface) rfl (res_tmp kj) (res_tmp kj) ⟨_, rfl, x2, _, rfl, OwnN.base x1.size hu5_⟩)
theorem PutNodeC (us : Bool) (nm : Int) (key sg pa ms : List Int) (a_m : Option Addr) (c_m : Nat) (w : World) (hkl : key.length = 32) (hgl : sg.length = 32) (hpl : pa.length = 32) (hkb : AreBytes key) (hgb : AreBytes sg) (hpb : AreBytes pa) (hml : ms.length ≤ 1000000) (hm : RdK .i64 w.heap.size ms (.slice a_m ms.length c_m) w) : Calls Try.prog 46 #[.agg (cat [#[.bool us], #[.int .i64 nm], ints .u8 (key), ints .u8 (sg), ints .u8 (pa), #[.slice a_m ms.length c_m]])] w (Gives w (PutR w.heap.size (nodeS (some []) us nm key sg pa ms))) := by
  cases hS : nodeS (some []) us nm key sg pa ms with
  | none => exact PutNode_N us nm key sg pa ms a_m c_m w hkl hgl hpl hkb hgb hpb hml hm hS
  | some xs => exact PutNode_S us nm key sg pa ms a_m c_m w hkl hgl hpl hkb hgb hpb hml hm xs hS

end Go.Proofs.Ytfelfmchachljaa.Wr
