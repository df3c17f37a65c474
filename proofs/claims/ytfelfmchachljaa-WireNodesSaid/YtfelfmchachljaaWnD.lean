/- A node is written. -/
import Derived.Test.YtfelfmchachljaaWnC
import Derived.Test.YtfelfmchachljaaWrE
namespace Go.Proofs.Ytfelfmchachljaa.Wr
open Go Go.RowKit
open Go.Proofs.Ytfelfmchachljaa.Rely Go.Proofs.Ytfelfmchachljaa.Auto Go.Proofs.Ytfelfmchachljaa.Own Go.Proofs.Ytfelfmchachljaa.Sha
set_option linter.unusedVariables false
set_option linter.unusedSimpArgs false

/-- a node is written -/
def nodeS (s : Option (List Int)) (us : Bool) (nm : Int) (key sg pa ms : List Int) : Option (List Int) :=
  leavesS (mustS (rawS (rawS (rawS (numS (bif us then numS s 1 1 else numS (mustS s (blankV us nm key sg pa ms)) 0 1) nm 1) key) sg) pa) (risV ms)) ms
set_option maxHeartbeats 4000000 in
theorem nodeW_true (base gw : Nat) (s : Option (List Int)) (nm : Int) (key sg pa ms : List Int) (a_m : Option Addr) (c_m : Nat) (w : World) (hbw : base ≤ w.heap.size) (hbg : base ≤ gw) (h : WSt base gw s w) (hkl : key.length = 32) (hgl : sg.length = 32) (hpl : pa.length = 32) (hkb : AreBytes key) (hgb : AreBytes sg) (hpb : AreBytes pa) (hml : ms.length ≤ 1000000) (hm : RdK .i64 base ms (.slice a_m ms.length c_m) w) : Calls Try.prog 95 #[.pointer (some ⟨gw, 0, none⟩), .agg (cat [#[.bool true], #[.int .i64 nm], ints .u8 (key), ints .u8 (sg), ints .u8 (pa), #[.slice a_m ms.length c_m]])] w (fun e W => e = .returned (.tuple #[]) ∧ GW base gw w W ∧ WSt base gw (nodeS s true nm key sg pa ms) W) := by
  have hgw := h.lt
  refine enter 39 [(0, .pointer (some ⟨gw, 0, none⟩)), (1, .agg (cat [#[.bool true], #[.int .i64 nm], ints .u8 (key), ints .u8 (sg), ints .u8 (pa), #[.slice a_m ms.length c_m]]))] Try.func95 rfl rfl kj rfl ?_
  refine wp_seq_k fun K1 hK1 => ?_
  refine region_lit ?_
  refine seq_alloc (cat [#[.bool true], #[.int .i64 nm], ints .u8 (key), ints .u8 (sg), ints .u8 (pa), #[.slice a_m ms.length c_m]]) 43 3 rfl kj kj fun g2 W1 l2 e1 r2_1 => ?_
  have x1 : GW base gw w W1 := GW.ext (GW.refl base gw w) e1
  have ws3 := WSt.ext h e1
  have b2 : w.heap.size ≤ g2 := Nat.le_trans (GW.refl base gw w).size l2
  refine seq_nil ?_
  refine hK1 _ _ ?_
  try clear hK1 K1
  refine wp_seq_k fun K4 hK4 => ?_
  refine wp_seq_k fun K5 hK5 => ?_
  refine region_lit ?_
  refine seq_val (.pointer (some ⟨g2, 0, none⟩)) 4 rfl kj kj ?_
  refine seq_val (.bool true) 5 rfl kj (run_loadC1 4 _ g2 0 43 _ (.bool true) _ r2_1 rfl kj (cat_part [] [#[.bool true]] [#[.int .i64 nm], ints .u8 (key), ints .u8 (sg), ints .u8 (pa), #[.slice a_m ms.length c_m]] 0 kj 0 _ rfl) kj) ?_
  refine seq_nil ?_
  refine hK5 _ _ ?_
  try clear hK5 K5
  refine cond_true kj ?_
  refine region_lit ?_
  refine seq_val (.pointer (some ⟨gw, 0, none⟩)) 6 rfl kj kj ?_
  refine seq_callR (fun v W' => v = .tuple #[] ∧ GW base gw W1 W' ∧ WSt base gw (numS (s) 1 1) W') 105 #[.pointer (some ⟨gw, 0, none⟩), .int .i64 1, .int .i64 1] 7 rfl kj kj ((numberW base gw _ 1 1 _ (Nat.le_trans hbw x1.size) ws3 (by decide)).mono (by rintro e w' ⟨rfl, h1, h2⟩; exact ⟨_, rfl, rfl, h1, h2⟩)) fun v6 W2 h6 => ?_
  obtain ⟨rfl, q2, ws6⟩ := h6
  have x2 : GW base gw w W2 := GW.trans x1 q2
  refine seq_nil ?_
  refine hK4 _ _ ?_
  try clear hK4 K4
  refine wp_seq_k fun K7 hK7 => ?_
  refine region_lit ?_
  refine seq_val (.pointer (some ⟨gw, 0, none⟩)) 14 rfl kj kj ?_
  refine seq_val (.pointer (some ⟨g2, 1, none⟩)) 15 rfl kj kj ?_
  have r2_2 := (GW.row q2 r2_1 (by decide) (Ne.symm (Nat.ne_of_lt (Nat.lt_of_lt_of_le hgw b2))))
  refine seq_val (.int .i64 nm) 16 rfl kj (run_loadC1 3 _ g2 1 43 _ (.int .i64 nm) _ r2_2 rfl kj (cat_part [#[.bool true]] [#[.int .i64 nm]] [ints .u8 (key), ints .u8 (sg), ints .u8 (pa), #[.slice a_m ms.length c_m]] 1 kj 0 _ rfl) kj) ?_
  refine seq_callR (fun v W' => v = .tuple #[] ∧ GW base gw W2 W' ∧ WSt base gw (numS (numS (s) 1 1) nm 1) W') 105 #[.pointer (some ⟨gw, 0, none⟩), .int .i64 nm, .int .i64 1] 17 rfl kj kj ((numberW base gw _ nm 1 _ (Nat.le_trans hbw x2.size) ws6 (by decide)).mono (by rintro e w' ⟨rfl, h1, h2⟩; exact ⟨_, rfl, rfl, h1, h2⟩)) fun v8 W3 h8 => ?_
  obtain ⟨rfl, q3, ws8⟩ := h8
  have x3 : GW base gw w W3 := GW.trans x2 q3
  refine seq_nil ?_
  refine hK7 _ _ ?_
  try clear hK7 K7
  refine wp_seq_k fun K9 hK9 => ?_
  refine region_lit ?_
  refine seq_val (.pointer (some ⟨gw, 0, none⟩)) 18 rfl kj kj ?_
  refine seq_val (.pointer (some ⟨g2, 2, none⟩)) 19 rfl kj kj ?_
  refine seq_val (.slice (some ⟨g2, 2, none⟩) 32 32) 20 rfl kj kj ?_
  have r2_3 := (GW.row q3 r2_2 (by decide) (Ne.symm (Nat.ne_of_lt (Nat.lt_of_lt_of_le hgw b2))))
  refine seq_callR (fun v W' => v = .tuple #[] ∧ GW base gw W3 W' ∧ WSt base gw (rawS (numS (numS (s) 1 1) nm 1) key) W') 104 #[.pointer (some ⟨gw, 0, none⟩), .slice (some ⟨g2, 2, none⟩) 32 32] 21 rfl kj kj ((rawW base gw _ key _ _ (Nat.le_trans hbw x3.size) ws8 (by omega) hkb (fun W e => (rdK_row 2 hkl (ExtB.row e r2_3 (Ne.symm (Nat.ne_of_lt (Nat.lt_of_lt_of_le hgw b2)))) (fun i hi => get_part [#[.bool true], #[.int .i64 nm]] [ints .u8 (sg), ints .u8 (pa), #[.slice a_m ms.length c_m]] key 2 i (2 + i) kj rfl (by rw [hkl]; exact hi)) (row_lt (ExtB.row e r2_3 (Ne.symm (Nat.ne_of_lt (Nat.lt_of_lt_of_le hgw b2))))) (Nat.le_refl _) (by decide)))).mono (by rintro e w' ⟨rfl, h1, h2⟩; exact ⟨_, rfl, rfl, h1, h2⟩)) fun v10 W4 h10 => ?_
  obtain ⟨rfl, q4, ws10⟩ := h10
  have x4 : GW base gw w W4 := GW.trans x3 q4
  refine seq_nil ?_
  refine hK9 _ _ ?_
  try clear hK9 K9
  refine wp_seq_k fun K11 hK11 => ?_
  refine region_lit ?_
  refine seq_val (.pointer (some ⟨gw, 0, none⟩)) 22 rfl kj kj ?_
  refine seq_val (.pointer (some ⟨g2, 34, none⟩)) 23 rfl kj kj ?_
  refine seq_val (.slice (some ⟨g2, 34, none⟩) 32 32) 24 rfl kj kj ?_
  have r2_4 := (GW.row q4 r2_3 (by decide) (Ne.symm (Nat.ne_of_lt (Nat.lt_of_lt_of_le hgw b2))))
  refine seq_callR (fun v W' => v = .tuple #[] ∧ GW base gw W4 W' ∧ WSt base gw (rawS (rawS (numS (numS (s) 1 1) nm 1) key) sg) W') 104 #[.pointer (some ⟨gw, 0, none⟩), .slice (some ⟨g2, 34, none⟩) 32 32] 25 rfl kj kj ((rawW base gw _ sg _ _ (Nat.le_trans hbw x4.size) ws10 (by omega) hgb (fun W e => (rdK_row 34 hgl (ExtB.row e r2_4 (Ne.symm (Nat.ne_of_lt (Nat.lt_of_lt_of_le hgw b2)))) (fun i hi => get_part [#[.bool true], #[.int .i64 nm], ints .u8 (key)] [ints .u8 (pa), #[.slice a_m ms.length c_m]] sg 34 i (34 + i) (by rw [cat_cons, cat_cons, cat_cons]; simp only [Array.size_append, cat, ((ints_size _ _).trans hkl)]; rfl) rfl (by rw [hgl]; exact hi)) (row_lt (ExtB.row e r2_4 (Ne.symm (Nat.ne_of_lt (Nat.lt_of_lt_of_le hgw b2))))) (Nat.le_refl _) (by decide)))).mono (by rintro e w' ⟨rfl, h1, h2⟩; exact ⟨_, rfl, rfl, h1, h2⟩)) fun v12 W5 h12 => ?_
  obtain ⟨rfl, q5, ws12⟩ := h12
  have x5 : GW base gw w W5 := GW.trans x4 q5
  refine seq_nil ?_
  refine hK11 _ _ ?_
  try clear hK11 K11
  refine wp_seq_k fun K13 hK13 => ?_
  refine region_lit ?_
  refine seq_val (.pointer (some ⟨gw, 0, none⟩)) 26 rfl kj kj ?_
  refine seq_val (.pointer (some ⟨g2, 66, none⟩)) 27 rfl kj kj ?_
  refine seq_val (.slice (some ⟨g2, 66, none⟩) 32 32) 28 rfl kj kj ?_
  have r2_5 := (GW.row q5 r2_4 (by decide) (Ne.symm (Nat.ne_of_lt (Nat.lt_of_lt_of_le hgw b2))))
  refine seq_callR (fun v W' => v = .tuple #[] ∧ GW base gw W5 W' ∧ WSt base gw (rawS (rawS (rawS (numS (numS (s) 1 1) nm 1) key) sg) pa) W') 104 #[.pointer (some ⟨gw, 0, none⟩), .slice (some ⟨g2, 66, none⟩) 32 32] 29 rfl kj kj ((rawW base gw _ pa _ _ (Nat.le_trans hbw x5.size) ws12 (by omega) hpb (fun W e => (rdK_row 66 hpl (ExtB.row e r2_5 (Ne.symm (Nat.ne_of_lt (Nat.lt_of_lt_of_le hgw b2)))) (fun i hi => get_part [#[.bool true], #[.int .i64 nm], ints .u8 (key), ints .u8 (sg)] [#[.slice a_m ms.length c_m]] pa 66 i (66 + i) (by rw [cat_cons, cat_cons, cat_cons, cat_cons]; simp only [Array.size_append, cat, ((ints_size _ _).trans hgl), ((ints_size _ _).trans hkl)]; rfl) rfl (by rw [hpl]; exact hi)) (row_lt (ExtB.row e r2_5 (Ne.symm (Nat.ne_of_lt (Nat.lt_of_lt_of_le hgw b2))))) (Nat.le_refl _) (by decide)))).mono (by rintro e w' ⟨rfl, h1, h2⟩; exact ⟨_, rfl, rfl, h1, h2⟩)) fun v14 W6 h14 => ?_
  obtain ⟨rfl, q6, ws14⟩ := h14
  have x6 : GW base gw w W6 := GW.trans x5 q6
  refine seq_nil ?_
  refine hK13 _ _ ?_
  try clear hK13 K13
  refine wp_seq_k fun K15 hK15 => ?_
  refine region_lit ?_
  refine seq_val (.pointer (some ⟨gw, 0, none⟩)) 30 rfl kj kj ?_
  refine seq_val (.pointer (some ⟨g2, 98, none⟩)) 31 rfl kj kj ?_
  have r2_6 := (GW.row q6 r2_5 (by decide) (Ne.symm (Nat.ne_of_lt (Nat.lt_of_lt_of_le hgw b2))))
  refine seq_val (.slice a_m ms.length c_m) 32 rfl kj (run_loadC1 41 _ g2 98 43 _ (.slice a_m ms.length c_m) _ r2_6 rfl kj (cat_part [#[.bool true], #[.int .i64 nm], ints .u8 (key), ints .u8 (sg), ints .u8 (pa)] [#[.slice a_m ms.length c_m]] [] 98 (by rw [cat_cons, cat_cons, cat_cons, cat_cons, cat_cons]; simp only [Array.size_append, cat, ((ints_size _ _).trans hgl), ((ints_size _ _).trans hkl), ((ints_size _ _).trans hpl)]; rfl) 0 _ rfl) kj) ?_
  refine seq_call (.bool (risV ms)) 121 #[.slice a_m ms.length c_m] 33 rfl kj kj (risingC ms _ _ _ _ hml (rd_gwK hm x6 hbg)) fun W7 e7 => ?_
  have x7 : GW base gw w W7 := GW.ext x6 e7
  have ws16 := WSt.ext ws14 e7
  refine seq_callR (fun v W' => v = .tuple #[] ∧ GW base gw W7 W' ∧ WSt base gw (mustS (rawS (rawS (rawS (numS (numS (s) 1 1) nm 1) key) sg) pa) (risV ms)) W') 98 #[.pointer (some ⟨gw, 0, none⟩), .bool (risV ms)] 34 rfl kj kj ((mustW base gw _ (risV ms) _ ws16).mono (by rintro e w' ⟨rfl, h1, h2⟩; exact ⟨_, rfl, rfl, h1, h2⟩)) fun v17 W8 h17 => ?_
  obtain ⟨rfl, q8, ws17⟩ := h17
  have x8 : GW base gw w W8 := GW.trans x7 q8
  refine seq_nil ?_
  refine hK15 _ _ ?_
  try clear hK15 K15
  refine region_lit ?_
  refine seq_val (.pointer (some ⟨gw, 0, none⟩)) 35 rfl kj kj ?_
  refine seq_val (.pointer (some ⟨g2, 98, none⟩)) 36 rfl kj kj ?_
  have r2_7 := (row_ext r2_6 e7)
  have r2_8 := (GW.row q8 r2_7 (by decide) (Ne.symm (Nat.ne_of_lt (Nat.lt_of_lt_of_le hgw b2))))
  refine seq_val (.slice a_m ms.length c_m) 37 rfl kj (run_loadC1 41 _ g2 98 43 _ (.slice a_m ms.length c_m) _ r2_8 rfl kj (cat_part [#[.bool true], #[.int .i64 nm], ints .u8 (key), ints .u8 (sg), ints .u8 (pa)] [#[.slice a_m ms.length c_m]] [] 98 (by rw [cat_cons, cat_cons, cat_cons, cat_cons, cat_cons]; simp only [Array.size_append, cat, ((ints_size _ _).trans hgl), ((ints_size _ _).trans hkl), ((ints_size _ _).trans hpl)]; rfl) 0 _ rfl) kj) ?_
  refine seq_callR (fun v W' => v = .tuple #[] ∧ GW base gw W8 W' ∧ WSt base gw (leavesS (mustS (rawS (rawS (rawS (numS (numS (s) 1 1) nm 1) key) sg) pa) (risV ms)) ms) W') 122 #[.pointer (some ⟨gw, 0, none⟩), .slice a_m ms.length c_m, .func (.func 106) #[] #[]] 38 rfl kj kj ((putLeavesW base gw _ ms _ _ _ (Nat.le_trans hbw x8.size) hbg ws17 hml (rd_gwK hm x8 hbg)).mono (by rintro e w' ⟨rfl, h1, h2⟩; exact ⟨_, rfl, rfl, h1, h2⟩)) fun v18 W9 h18 => ?_
  obtain ⟨rfl, q9, ws18⟩ := h18
  have x9 : GW base gw w W9 := GW.trans x8 q9
  refine seq_nil ?_
  repeat (first | with_reducible refine goX1 ?_ | with_reducible refine goX2 ?_ | with_reducible refine goX3 ?_)
  exact (show bodyPost _ _ _ .normal _ _ from end0 rfl ⟨rfl, x9, ws18⟩)
set_option maxHeartbeats 4000000 in
theorem nodeW_false (base gw : Nat) (s : Option (List Int)) (nm : Int) (key sg pa ms : List Int) (a_m : Option Addr) (c_m : Nat) (w : World) (hbw : base ≤ w.heap.size) (hbg : base ≤ gw) (h : WSt base gw s w) (hkl : key.length = 32) (hgl : sg.length = 32) (hpl : pa.length = 32) (hkb : AreBytes key) (hgb : AreBytes sg) (hpb : AreBytes pa) (hml : ms.length ≤ 1000000) (hm : RdK .i64 base ms (.slice a_m ms.length c_m) w) : Calls Try.prog 95 #[.pointer (some ⟨gw, 0, none⟩), .agg (cat [#[.bool false], #[.int .i64 nm], ints .u8 (key), ints .u8 (sg), ints .u8 (pa), #[.slice a_m ms.length c_m]])] w (fun e W => e = .returned (.tuple #[]) ∧ GW base gw w W ∧ WSt base gw (nodeS s false nm key sg pa ms) W) := by
  have hgw := h.lt
  refine enter 39 [(0, .pointer (some ⟨gw, 0, none⟩)), (1, .agg (cat [#[.bool false], #[.int .i64 nm], ints .u8 (key), ints .u8 (sg), ints .u8 (pa), #[.slice a_m ms.length c_m]]))] Try.func95 rfl rfl kj rfl ?_
  refine wp_seq_k fun K1 hK1 => ?_
  refine region_lit ?_
  refine seq_alloc (cat [#[.bool false], #[.int .i64 nm], ints .u8 (key), ints .u8 (sg), ints .u8 (pa), #[.slice a_m ms.length c_m]]) 43 3 rfl kj kj fun g2 W1 l2 e1 r2_1 => ?_
  have x1 : GW base gw w W1 := GW.ext (GW.refl base gw w) e1
  have ws3 := WSt.ext h e1
  have b2 : w.heap.size ≤ g2 := Nat.le_trans (GW.refl base gw w).size l2
  refine seq_nil ?_
  refine hK1 _ _ ?_
  try clear hK1 K1
  refine wp_seq_k fun K4 hK4 => ?_
  refine wp_seq_k fun K5 hK5 => ?_
  refine region_lit ?_
  refine seq_val (.pointer (some ⟨g2, 0, none⟩)) 4 rfl kj kj ?_
  refine seq_val (.bool false) 5 rfl kj (run_loadC1 4 _ g2 0 43 _ (.bool false) _ r2_1 rfl kj (cat_part [] [#[.bool false]] [#[.int .i64 nm], ints .u8 (key), ints .u8 (sg), ints .u8 (pa), #[.slice a_m ms.length c_m]] 0 kj 0 _ rfl) kj) ?_
  refine seq_nil ?_
  refine hK5 _ _ ?_
  try clear hK5 K5
  refine cond_false kj ?_
  refine wp_seq_k fun K6 hK6 => ?_
  refine region_lit ?_
  refine seq_val (.pointer (some ⟨gw, 0, none⟩)) 8 rfl kj kj ?_
  refine seq_val (.agg (cat [#[.bool false], #[.int .i64 nm], ints .u8 (key), ints .u8 (sg), ints .u8 (pa), #[.slice a_m ms.length c_m]])) 9 rfl kj (run_load_row 43 _ g2 43 _ _ r2_1 rfl kj kj (isz (n := 99) kj (by rw [cat_cons, cat_cons, cat_cons, cat_cons, cat_cons, cat_cons]; simp only [Array.size_append, cat, ((ints_size _ _).trans hgl), ((ints_size _ _).trans hkl), ((ints_size _ _).trans hpl)]; rfl))) ?_
  refine seq_call (.bool (blankV false nm key sg pa ms)) 107 #[.agg (cat [#[.bool false], #[.int .i64 nm], ints .u8 (key), ints .u8 (sg), ints .u8 (pa), #[.slice a_m ms.length c_m]])] 10 rfl kj kj (blankC false nm key sg pa ms _ _ _ hkl hgl hpl) fun W2 e2 => ?_
  have x2 : GW base gw w W2 := GW.ext x1 e2
  have ws7 := WSt.ext ws3 e2
  refine seq_callR (fun v W' => v = .tuple #[] ∧ GW base gw W2 W' ∧ WSt base gw (mustS (s) (blankV false nm key sg pa ms)) W') 98 #[.pointer (some ⟨gw, 0, none⟩), .bool (blankV false nm key sg pa ms)] 11 rfl kj kj ((mustW base gw _ (blankV false nm key sg pa ms) _ ws7).mono (by rintro e w' ⟨rfl, h1, h2⟩; exact ⟨_, rfl, rfl, h1, h2⟩)) fun v8 W3 h8 => ?_
  obtain ⟨rfl, q3, ws8⟩ := h8
  have x3 : GW base gw w W3 := GW.trans x2 q3
  refine seq_nil ?_
  refine hK6 _ _ ?_
  try clear hK6 K6
  refine region_lit ?_
  refine seq_val (.pointer (some ⟨gw, 0, none⟩)) 12 rfl kj kj ?_
  refine seq_callR (fun v W' => v = .tuple #[] ∧ GW base gw W3 W' ∧ WSt base gw (numS (mustS (s) (blankV false nm key sg pa ms)) 0 1) W') 105 #[.pointer (some ⟨gw, 0, none⟩), .int .i64 0, .int .i64 1] 13 rfl kj kj ((numberW base gw _ 0 1 _ (Nat.le_trans hbw x3.size) ws8 (by decide)).mono (by rintro e w' ⟨rfl, h1, h2⟩; exact ⟨_, rfl, rfl, h1, h2⟩)) fun v9 W4 h9 => ?_
  obtain ⟨rfl, q4, ws9⟩ := h9
  have x4 : GW base gw w W4 := GW.trans x3 q4
  refine seq_nil ?_
  refine hK4 _ _ ?_
  try clear hK4 K4
  refine wp_seq_k fun K10 hK10 => ?_
  refine region_lit ?_
  refine seq_val (.pointer (some ⟨gw, 0, none⟩)) 14 rfl kj kj ?_
  refine seq_val (.pointer (some ⟨g2, 1, none⟩)) 15 rfl kj kj ?_
  have r2_2 := (row_ext r2_1 e2)
  have r2_3 := (GW.row q3 r2_2 (by decide) (Ne.symm (Nat.ne_of_lt (Nat.lt_of_lt_of_le hgw b2))))
  have r2_4 := (GW.row q4 r2_3 (by decide) (Ne.symm (Nat.ne_of_lt (Nat.lt_of_lt_of_le hgw b2))))
  refine seq_val (.int .i64 nm) 16 rfl kj (run_loadC1 3 _ g2 1 43 _ (.int .i64 nm) _ r2_4 rfl kj (cat_part [#[.bool false]] [#[.int .i64 nm]] [ints .u8 (key), ints .u8 (sg), ints .u8 (pa), #[.slice a_m ms.length c_m]] 1 kj 0 _ rfl) kj) ?_
  refine seq_callR (fun v W' => v = .tuple #[] ∧ GW base gw W4 W' ∧ WSt base gw (numS (numS (mustS (s) (blankV false nm key sg pa ms)) 0 1) nm 1) W') 105 #[.pointer (some ⟨gw, 0, none⟩), .int .i64 nm, .int .i64 1] 17 rfl kj kj ((numberW base gw _ nm 1 _ (Nat.le_trans hbw x4.size) ws9 (by decide)).mono (by rintro e w' ⟨rfl, h1, h2⟩; exact ⟨_, rfl, rfl, h1, h2⟩)) fun v11 W5 h11 => ?_
  obtain ⟨rfl, q5, ws11⟩ := h11
  have x5 : GW base gw w W5 := GW.trans x4 q5
  refine seq_nil ?_
  refine hK10 _ _ ?_
  try clear hK10 K10
  refine wp_seq_k fun K12 hK12 => ?_
  refine region_lit ?_
  refine seq_val (.pointer (some ⟨gw, 0, none⟩)) 18 rfl kj kj ?_
  refine seq_val (.pointer (some ⟨g2, 2, none⟩)) 19 rfl kj kj ?_
  refine seq_val (.slice (some ⟨g2, 2, none⟩) 32 32) 20 rfl kj kj ?_
  have r2_5 := (GW.row q5 r2_4 (by decide) (Ne.symm (Nat.ne_of_lt (Nat.lt_of_lt_of_le hgw b2))))
  refine seq_callR (fun v W' => v = .tuple #[] ∧ GW base gw W5 W' ∧ WSt base gw (rawS (numS (numS (mustS (s) (blankV false nm key sg pa ms)) 0 1) nm 1) key) W') 104 #[.pointer (some ⟨gw, 0, none⟩), .slice (some ⟨g2, 2, none⟩) 32 32] 21 rfl kj kj ((rawW base gw _ key _ _ (Nat.le_trans hbw x5.size) ws11 (by omega) hkb (fun W e => (rdK_row 2 hkl (ExtB.row e r2_5 (Ne.symm (Nat.ne_of_lt (Nat.lt_of_lt_of_le hgw b2)))) (fun i hi => get_part [#[.bool false], #[.int .i64 nm]] [ints .u8 (sg), ints .u8 (pa), #[.slice a_m ms.length c_m]] key 2 i (2 + i) kj rfl (by rw [hkl]; exact hi)) (row_lt (ExtB.row e r2_5 (Ne.symm (Nat.ne_of_lt (Nat.lt_of_lt_of_le hgw b2))))) (Nat.le_refl _) (by decide)))).mono (by rintro e w' ⟨rfl, h1, h2⟩; exact ⟨_, rfl, rfl, h1, h2⟩)) fun v13 W6 h13 => ?_
  obtain ⟨rfl, q6, ws13⟩ := h13
  have x6 : GW base gw w W6 := GW.trans x5 q6
  refine seq_nil ?_
  refine hK12 _ _ ?_
  try clear hK12 K12
  refine wp_seq_k fun K14 hK14 => ?_
  refine region_lit ?_
  refine seq_val (.pointer (some ⟨gw, 0, none⟩)) 22 rfl kj kj ?_
  refine seq_val (.pointer (some ⟨g2, 34, none⟩)) 23 rfl kj kj ?_
  refine seq_val (.slice (some ⟨g2, 34, none⟩) 32 32) 24 rfl kj kj ?_
  have r2_6 := (GW.row q6 r2_5 (by decide) (Ne.symm (Nat.ne_of_lt (Nat.lt_of_lt_of_le hgw b2))))
  refine seq_callR (fun v W' => v = .tuple #[] ∧ GW base gw W6 W' ∧ WSt base gw (rawS (rawS (numS (numS (mustS (s) (blankV false nm key sg pa ms)) 0 1) nm 1) key) sg) W') 104 #[.pointer (some ⟨gw, 0, none⟩), .slice (some ⟨g2, 34, none⟩) 32 32] 25 rfl kj kj ((rawW base gw _ sg _ _ (Nat.le_trans hbw x6.size) ws13 (by omega) hgb (fun W e => (rdK_row 34 hgl (ExtB.row e r2_6 (Ne.symm (Nat.ne_of_lt (Nat.lt_of_lt_of_le hgw b2)))) (fun i hi => get_part [#[.bool false], #[.int .i64 nm], ints .u8 (key)] [ints .u8 (pa), #[.slice a_m ms.length c_m]] sg 34 i (34 + i) (by rw [cat_cons, cat_cons, cat_cons]; simp only [Array.size_append, cat, ((ints_size _ _).trans hkl)]; rfl) rfl (by rw [hgl]; exact hi)) (row_lt (ExtB.row e r2_6 (Ne.symm (Nat.ne_of_lt (Nat.lt_of_lt_of_le hgw b2))))) (Nat.le_refl _) (by decide)))).mono (by rintro e w' ⟨rfl, h1, h2⟩; exact ⟨_, rfl, rfl, h1, h2⟩)) fun v15 W7 h15 => ?_
  obtain ⟨rfl, q7, ws15⟩ := h15
  have x7 : GW base gw w W7 := GW.trans x6 q7
  refine seq_nil ?_
  refine hK14 _ _ ?_
  try clear hK14 K14
  refine wp_seq_k fun K16 hK16 => ?_
  refine region_lit ?_
  refine seq_val (.pointer (some ⟨gw, 0, none⟩)) 26 rfl kj kj ?_
  refine seq_val (.pointer (some ⟨g2, 66, none⟩)) 27 rfl kj kj ?_
  refine seq_val (.slice (some ⟨g2, 66, none⟩) 32 32) 28 rfl kj kj ?_
  have r2_7 := (GW.row q7 r2_6 (by decide) (Ne.symm (Nat.ne_of_lt (Nat.lt_of_lt_of_le hgw b2))))
  refine seq_callR (fun v W' => v = .tuple #[] ∧ GW base gw W7 W' ∧ WSt base gw (rawS (rawS (rawS (numS (numS (mustS (s) (blankV false nm key sg pa ms)) 0 1) nm 1) key) sg) pa) W') 104 #[.pointer (some ⟨gw, 0, none⟩), .slice (some ⟨g2, 66, none⟩) 32 32] 29 rfl kj kj ((rawW base gw _ pa _ _ (Nat.le_trans hbw x7.size) ws15 (by omega) hpb (fun W e => (rdK_row 66 hpl (ExtB.row e r2_7 (Ne.symm (Nat.ne_of_lt (Nat.lt_of_lt_of_le hgw b2)))) (fun i hi => get_part [#[.bool false], #[.int .i64 nm], ints .u8 (key), ints .u8 (sg)] [#[.slice a_m ms.length c_m]] pa 66 i (66 + i) (by rw [cat_cons, cat_cons, cat_cons, cat_cons]; simp only [Array.size_append, cat, ((ints_size _ _).trans hgl), ((ints_size _ _).trans hkl)]; rfl) rfl (by rw [hpl]; exact hi)) (row_lt (ExtB.row e r2_7 (Ne.symm (Nat.ne_of_lt (Nat.lt_of_lt_of_le hgw b2))))) (Nat.le_refl _) (by decide)))).mono (by rintro e w' ⟨rfl, h1, h2⟩; exact ⟨_, rfl, rfl, h1, h2⟩)) fun v17 W8 h17 => ?_
  obtain ⟨rfl, q8, ws17⟩ := h17
  have x8 : GW base gw w W8 := GW.trans x7 q8
  refine seq_nil ?_
  refine hK16 _ _ ?_
  try clear hK16 K16
  refine wp_seq_k fun K18 hK18 => ?_
  refine region_lit ?_
  refine seq_val (.pointer (some ⟨gw, 0, none⟩)) 30 rfl kj kj ?_
  refine seq_val (.pointer (some ⟨g2, 98, none⟩)) 31 rfl kj kj ?_
  have r2_8 := (GW.row q8 r2_7 (by decide) (Ne.symm (Nat.ne_of_lt (Nat.lt_of_lt_of_le hgw b2))))
  refine seq_val (.slice a_m ms.length c_m) 32 rfl kj (run_loadC1 41 _ g2 98 43 _ (.slice a_m ms.length c_m) _ r2_8 rfl kj (cat_part [#[.bool false], #[.int .i64 nm], ints .u8 (key), ints .u8 (sg), ints .u8 (pa)] [#[.slice a_m ms.length c_m]] [] 98 (by rw [cat_cons, cat_cons, cat_cons, cat_cons, cat_cons]; simp only [Array.size_append, cat, ((ints_size _ _).trans hgl), ((ints_size _ _).trans hkl), ((ints_size _ _).trans hpl)]; rfl) 0 _ rfl) kj) ?_
  refine seq_call (.bool (risV ms)) 121 #[.slice a_m ms.length c_m] 33 rfl kj kj (risingC ms _ _ _ _ hml (rd_gwK hm x8 hbg)) fun W9 e9 => ?_
  have x9 : GW base gw w W9 := GW.ext x8 e9
  have ws19 := WSt.ext ws17 e9
  refine seq_callR (fun v W' => v = .tuple #[] ∧ GW base gw W9 W' ∧ WSt base gw (mustS (rawS (rawS (rawS (numS (numS (mustS (s) (blankV false nm key sg pa ms)) 0 1) nm 1) key) sg) pa) (risV ms)) W') 98 #[.pointer (some ⟨gw, 0, none⟩), .bool (risV ms)] 34 rfl kj kj ((mustW base gw _ (risV ms) _ ws19).mono (by rintro e w' ⟨rfl, h1, h2⟩; exact ⟨_, rfl, rfl, h1, h2⟩)) fun v20 W10 h20 => ?_
  obtain ⟨rfl, q10, ws20⟩ := h20
  have x10 : GW base gw w W10 := GW.trans x9 q10
  refine seq_nil ?_
  refine hK18 _ _ ?_
  try clear hK18 K18
  refine region_lit ?_
  refine seq_val (.pointer (some ⟨gw, 0, none⟩)) 35 rfl kj kj ?_
  refine seq_val (.pointer (some ⟨g2, 98, none⟩)) 36 rfl kj kj ?_
  have r2_9 := (row_ext r2_8 e9)
  have r2_10 := (GW.row q10 r2_9 (by decide) (Ne.symm (Nat.ne_of_lt (Nat.lt_of_lt_of_le hgw b2))))
  refine seq_val (.slice a_m ms.length c_m) 37 rfl kj (run_loadC1 41 _ g2 98 43 _ (.slice a_m ms.length c_m) _ r2_10 rfl kj (cat_part [#[.bool false], #[.int .i64 nm], ints .u8 (key), ints .u8 (sg), ints .u8 (pa)] [#[.slice a_m ms.length c_m]] [] 98 (by rw [cat_cons, cat_cons, cat_cons, cat_cons, cat_cons]; simp only [Array.size_append, cat, ((ints_size _ _).trans hgl), ((ints_size _ _).trans hkl), ((ints_size _ _).trans hpl)]; rfl) 0 _ rfl) kj) ?_
  refine seq_callR (fun v W' => v = .tuple #[] ∧ GW base gw W10 W' ∧ WSt base gw (leavesS (mustS (rawS (rawS (rawS (numS (numS (mustS (s) (blankV false nm key sg pa ms)) 0 1) nm 1) key) sg) pa) (risV ms)) ms) W') 122 #[.pointer (some ⟨gw, 0, none⟩), .slice a_m ms.length c_m, .func (.func 106) #[] #[]] 38 rfl kj kj ((putLeavesW base gw _ ms _ _ _ (Nat.le_trans hbw x10.size) hbg ws20 hml (rd_gwK hm x10 hbg)).mono (by rintro e w' ⟨rfl, h1, h2⟩; exact ⟨_, rfl, rfl, h1, h2⟩)) fun v21 W11 h21 => ?_
  obtain ⟨rfl, q11, ws21⟩ := h21
  have x11 : GW base gw w W11 := GW.trans x10 q11
  refine seq_nil ?_
  repeat (first | with_reducible refine goX1 ?_ | with_reducible refine goX2 ?_ | with_reducible refine goX3 ?_)
  exact (show bodyPost _ _ _ .normal _ _ from end0 rfl ⟨rfl, x11, ws21⟩)
theorem nodeW (base gw : Nat) (s : Option (List Int)) (us : Bool) (nm : Int) (key sg pa ms : List Int) (a_m : Option Addr) (c_m : Nat) (w : World) (hbw : base ≤ w.heap.size) (hbg : base ≤ gw) (h : WSt base gw s w) (hkl : key.length = 32) (hgl : sg.length = 32) (hpl : pa.length = 32) (hkb : AreBytes key) (hgb : AreBytes sg) (hpb : AreBytes pa) (hml : ms.length ≤ 1000000) (hm : RdK .i64 base ms (.slice a_m ms.length c_m) w) : Calls Try.prog 95 #[.pointer (some ⟨gw, 0, none⟩), .agg (cat [#[.bool us], #[.int .i64 nm], ints .u8 (key), ints .u8 (sg), ints .u8 (pa), #[.slice a_m ms.length c_m]])] w (fun e W => e = .returned (.tuple #[]) ∧ GW base gw w W ∧ WSt base gw (nodeS s us nm key sg pa ms) W) := by
  cases us with
  | true => exact nodeW_true base gw s nm key sg pa ms a_m c_m w hbw hbg h hkl hgl hpl hkb hgb hpb hml hm
  | false => exact nodeW_false base gw s nm key sg pa ms a_m c_m w hbw hbg h hkl hgl hpl hkb hgb hpb hml hm

end Go.Proofs.Ytfelfmchachljaa.Wr
