/- The writer: packets, welcomes. -/
import Derived.Test.YtfelfmchachljaaWrC
namespace Go.Proofs.Ytfelfmchachljaa.Wr
open Go Go.RowKit
open Go.Proofs.Ytfelfmchachljaa.Rely Go.Proofs.Ytfelfmchachljaa.Auto Go.Proofs.Ytfelfmchachljaa.Own Go.Proofs.Ytfelfmchachljaa.Sha
set_option linter.unusedVariables false
set_option linter.unusedSimpArgs false

theorem GW.back {base gw : Nat} {u w W : World} (h : Ext u w) (q : GW base gw w W) (hb : u.heap.size ≤ base) (hg : u.heap.size ≤ gw) : Ext u W :=
  ⟨q.os.trans h.os, q.tape.trans h.tape, q.output.trans h.output, Nat.le_trans h.size q.size, fun k hk => (q.block k (Nat.lt_of_lt_of_le hk h.size) (by omega) (.inl (by omega))).trans (h.block k hk)⟩
/-- what a Put answers -/
def PutR (base : Nat) : Option (List Int) → Value → World → Prop
  | none => fun v W => v = .tuple #[.slice none 0 0, .iface 102 (.int .i64 3)]
  | some xs => fun v W => ∃ u, v = .tuple #[u, .nilIface] ∧ OwnN .u8 5 base xs u W
def packS (s : Option (List Int)) (grp : List Int) (ep fr no : Int) (sealed : List Int) : Option (List Int) := bytS (numS (leafS (numS (rawS s grp) ep 4) fr) no 4) sealed
def welcS (s : Option (List Int)) (nm : Int) (sealed info : List Int) : Option (List Int) := bytS (bytS (numS s nm 1) sealed) info
set_option maxHeartbeats 4000000 in
theorem packetW (base gw : Nat) (s : Option (List Int)) (grp : List Int) (ep fr no : Int) (sealed : List Int) (a_s : Option Addr) (c_s : Nat) (w : World) (hbw : base ≤ w.heap.size) (hbg : base ≤ gw) (h : WSt base gw s w) (hgl : grp.length = 32) (hgb : AreBytes grp) (hsl : sealed.length ≤ 1000000) (hsb : AreBytes sealed) (hs : RdK .u8 base sealed (.slice a_s sealed.length c_s) w) : Calls Try.prog 82 #[.pointer (some ⟨gw, 0, none⟩), .agg (cat [ints .u8 (grp), #[.int .i64 ep], #[.int .i64 fr], #[.int .i64 no], #[.slice a_s sealed.length c_s]])] w (fun e W => e = .returned (.tuple #[]) ∧ GW base gw w W ∧ WSt base gw (packS s grp ep fr no sealed) W) := by
  have hgw := h.lt
  refine enter 24 [(0, .pointer (some ⟨gw, 0, none⟩)), (1, .agg (cat [ints .u8 (grp), #[.int .i64 ep], #[.int .i64 fr], #[.int .i64 no], #[.slice a_s sealed.length c_s]]))] Try.func82 rfl rfl kj rfl ?_
  refine wp_seq_k fun K1 hK1 => ?_
  refine region_lit ?_
  refine seq_alloc (cat [ints .u8 (grp), #[.int .i64 ep], #[.int .i64 fr], #[.int .i64 no], #[.slice a_s sealed.length c_s]]) 81 3 rfl kj kj fun g2 W1 l2 e1 r2_1 => ?_
  have x1 : GW base gw w W1 := GW.ext (GW.refl base gw w) e1
  have ws3 := WSt.ext h e1
  have b2 : w.heap.size ≤ g2 := Nat.le_trans (GW.refl base gw w).size l2
  refine seq_nil ?_
  refine hK1 _ _ ?_
  try clear hK1 K1
  refine wp_seq_k fun K4 hK4 => ?_
  refine region_lit ?_
  refine seq_val (.pointer (some ⟨gw, 0, none⟩)) 4 rfl kj kj ?_
  refine seq_val (.pointer (some ⟨g2, 0, none⟩)) 5 rfl kj kj ?_
  refine seq_val (.slice (some ⟨g2, 0, none⟩) 32 32) 6 rfl kj kj ?_
  refine seq_callR (fun v W' => v = .tuple #[] ∧ GW base gw W1 W' ∧ WSt base gw (rawS (s) grp) W') 104 #[.pointer (some ⟨gw, 0, none⟩), .slice (some ⟨g2, 0, none⟩) 32 32] 7 rfl kj kj ((rawW base gw _ grp _ _ (Nat.le_trans hbw x1.size) ws3 (by rw [hgl]; decide) hgb (fun W e => (rdK_row 0 hgl (ExtB.row e r2_1 (Ne.symm (Nat.ne_of_lt (Nat.lt_of_lt_of_le hgw b2)))) (fun i hi => get_part [] [#[.int .i64 ep], #[.int .i64 fr], #[.int .i64 no], #[.slice a_s sealed.length c_s]] grp 0 i (0 + i) kj rfl (by rw [hgl]; exact hi)) (row_lt (ExtB.row e r2_1 (Ne.symm (Nat.ne_of_lt (Nat.lt_of_lt_of_le hgw b2))))) (Nat.le_refl _) (by decide)))).mono (by rintro e w' ⟨rfl, h1, h2⟩; exact ⟨_, rfl, rfl, h1, h2⟩)) fun v5 W2 h5 => ?_
  obtain ⟨rfl, q2, ws5⟩ := h5
  have x2 : GW base gw w W2 := GW.trans x1 q2
  refine seq_nil ?_
  refine hK4 _ _ ?_
  try clear hK4 K4
  refine wp_seq_k fun K6 hK6 => ?_
  refine region_lit ?_
  refine seq_val (.pointer (some ⟨gw, 0, none⟩)) 8 rfl kj kj ?_
  refine seq_val (.pointer (some ⟨g2, 32, none⟩)) 9 rfl kj kj ?_
  have r2_2 := (GW.row q2 r2_1 (by decide) (Ne.symm (Nat.ne_of_lt (Nat.lt_of_lt_of_le hgw b2))))
  refine seq_val (.int .i64 ep) 10 rfl kj (run_loadC1 3 _ g2 32 81 _ (.int .i64 ep) _ r2_2 rfl kj (cat_part [ints .u8 (grp)] [#[.int .i64 ep]] [#[.int .i64 fr], #[.int .i64 no], #[.slice a_s sealed.length c_s]] 32 ((ints_size _ _).trans hgl) 0 _ rfl) kj) ?_
  refine seq_callR (fun v W' => v = .tuple #[] ∧ GW base gw W2 W' ∧ WSt base gw (numS (rawS (s) grp) ep 4) W') 105 #[.pointer (some ⟨gw, 0, none⟩), .int .i64 ep, .int .i64 4] 11 rfl kj kj ((numberW base gw _ ep 4 _ (Nat.le_trans hbw x2.size) ws5 (by decide)).mono (by rintro e w' ⟨rfl, h1, h2⟩; exact ⟨_, rfl, rfl, h1, h2⟩)) fun v7 W3 h7 => ?_
  obtain ⟨rfl, q3, ws7⟩ := h7
  have x3 : GW base gw w W3 := GW.trans x2 q3
  refine seq_nil ?_
  refine hK6 _ _ ?_
  try clear hK6 K6
  refine wp_seq_k fun K8 hK8 => ?_
  refine region_lit ?_
  refine seq_val (.pointer (some ⟨gw, 0, none⟩)) 12 rfl kj kj ?_
  refine seq_val (.pointer (some ⟨g2, 33, none⟩)) 13 rfl kj kj ?_
  have r2_3 := (GW.row q3 r2_2 (by decide) (Ne.symm (Nat.ne_of_lt (Nat.lt_of_lt_of_le hgw b2))))
  refine seq_val (.int .i64 fr) 14 rfl kj (run_loadC1 3 _ g2 33 81 _ (.int .i64 fr) _ r2_3 rfl kj (cat_part [ints .u8 (grp), #[.int .i64 ep]] [#[.int .i64 fr]] [#[.int .i64 no], #[.slice a_s sealed.length c_s]] 33 (by rw [cat_cons, cat_cons]; simp only [Array.size_append, cat, ((ints_size _ _).trans hgl)]; rfl) 0 _ rfl) kj) ?_
  refine seq_callR (fun v W' => v = .tuple #[] ∧ GW base gw W3 W' ∧ WSt base gw (leafS (numS (rawS (s) grp) ep 4) fr) W') 106 #[.pointer (some ⟨gw, 0, none⟩), .int .i64 fr] 15 rfl kj kj ((leafW base gw _ fr _ (Nat.le_trans hbw x3.size) ws7).mono (by rintro e w' ⟨rfl, h1, h2⟩; exact ⟨_, rfl, rfl, h1, h2⟩)) fun v9 W4 h9 => ?_
  obtain ⟨rfl, q4, ws9⟩ := h9
  have x4 : GW base gw w W4 := GW.trans x3 q4
  refine seq_nil ?_
  refine hK8 _ _ ?_
  try clear hK8 K8
  refine wp_seq_k fun K10 hK10 => ?_
  refine region_lit ?_
  refine seq_val (.pointer (some ⟨gw, 0, none⟩)) 16 rfl kj kj ?_
  refine seq_val (.pointer (some ⟨g2, 34, none⟩)) 17 rfl kj kj ?_
  have r2_4 := (GW.row q4 r2_3 (by decide) (Ne.symm (Nat.ne_of_lt (Nat.lt_of_lt_of_le hgw b2))))
  refine seq_val (.int .i64 no) 18 rfl kj (run_loadC1 3 _ g2 34 81 _ (.int .i64 no) _ r2_4 rfl kj (cat_part [ints .u8 (grp), #[.int .i64 ep], #[.int .i64 fr]] [#[.int .i64 no]] [#[.slice a_s sealed.length c_s]] 34 (by rw [cat_cons, cat_cons, cat_cons]; simp only [Array.size_append, cat, ((ints_size _ _).trans hgl)]; rfl) 0 _ rfl) kj) ?_
  refine seq_callR (fun v W' => v = .tuple #[] ∧ GW base gw W4 W' ∧ WSt base gw (numS (leafS (numS (rawS (s) grp) ep 4) fr) no 4) W') 105 #[.pointer (some ⟨gw, 0, none⟩), .int .i64 no, .int .i64 4] 19 rfl kj kj ((numberW base gw _ no 4 _ (Nat.le_trans hbw x4.size) ws9 (by decide)).mono (by rintro e w' ⟨rfl, h1, h2⟩; exact ⟨_, rfl, rfl, h1, h2⟩)) fun v11 W5 h11 => ?_
  obtain ⟨rfl, q5, ws11⟩ := h11
  have x5 : GW base gw w W5 := GW.trans x4 q5
  refine seq_nil ?_
  refine hK10 _ _ ?_
  try clear hK10 K10
  refine region_lit ?_
  refine seq_val (.pointer (some ⟨gw, 0, none⟩)) 20 rfl kj kj ?_
  refine seq_val (.pointer (some ⟨g2, 35, none⟩)) 21 rfl kj kj ?_
  have r2_5 := (GW.row q5 r2_4 (by decide) (Ne.symm (Nat.ne_of_lt (Nat.lt_of_lt_of_le hgw b2))))
  refine seq_val (.slice a_s sealed.length c_s) 22 rfl kj (run_loadC1 26 _ g2 35 81 _ (.slice a_s sealed.length c_s) _ r2_5 rfl kj (cat_part [ints .u8 (grp), #[.int .i64 ep], #[.int .i64 fr], #[.int .i64 no]] [#[.slice a_s sealed.length c_s]] [] 35 (by rw [cat_cons, cat_cons, cat_cons, cat_cons]; simp only [Array.size_append, cat, ((ints_size _ _).trans hgl)]; rfl) 0 _ rfl) kj) ?_
  refine seq_callR (fun v W' => v = .tuple #[] ∧ GW base gw W5 W' ∧ WSt base gw (bytS (numS (leafS (numS (rawS (s) grp) ep 4) fr) no 4) sealed) W') 117 #[.pointer (some ⟨gw, 0, none⟩), .slice a_s sealed.length c_s] 23 rfl kj kj ((bytesW base gw _ sealed _ _ (Nat.le_trans hbw x5.size) hbg ws11 (by omega) hsb (rd_gw hs x5 hbg)).mono (by rintro e w' ⟨rfl, h1, h2⟩; exact ⟨_, rfl, rfl, h1, h2⟩)) fun v12 W6 h12 => ?_
  obtain ⟨rfl, q6, ws12⟩ := h12
  have x6 : GW base gw w W6 := GW.trans x5 q6
  refine seq_nil ?_
  repeat (first | with_reducible refine goX1 ?_ | with_reducible refine goX2 ?_ | with_reducible refine goX3 ?_)
  exact (show bodyPost _ _ _ .normal _ _ from end0 rfl ⟨rfl, x6, ws12⟩)
set_option maxHeartbeats 4000000 in
theorem welcomeW (base gw : Nat) (s : Option (List Int)) (nm : Int) (sealed info : List Int) (a_s : Option Addr) (c_s : Nat) (a_i : Option Addr) (c_i : Nat) (w : World) (hbw : base ≤ w.heap.size) (hbg : base ≤ gw) (h : WSt base gw s w) (hsl : sealed.length ≤ 1000000) (hsb : AreBytes sealed) (hil : info.length ≤ 1000000) (hib : AreBytes info) (hs : RdK .u8 base sealed (.slice a_s sealed.length c_s) w) (hi : RdK .u8 base info (.slice a_i info.length c_i) w) : Calls Try.prog 76 #[.pointer (some ⟨gw, 0, none⟩), .agg (cat [#[.int .i64 nm], #[.slice a_s sealed.length c_s], #[.slice a_i info.length c_i]])] w (fun e W => e = .returned (.tuple #[]) ∧ GW base gw w W ∧ WSt base gw (welcS s nm sealed info) W) := by
  have hgw := h.lt
  refine enter 16 [(0, .pointer (some ⟨gw, 0, none⟩)), (1, .agg (cat [#[.int .i64 nm], #[.slice a_s sealed.length c_s], #[.slice a_i info.length c_i]]))] Try.func76 rfl rfl kj rfl ?_
  refine wp_seq_k fun K1 hK1 => ?_
  refine region_lit ?_
  refine seq_alloc (cat [#[.int .i64 nm], #[.slice a_s sealed.length c_s], #[.slice a_i info.length c_i]]) 74 3 rfl kj kj fun g2 W1 l2 e1 r2_1 => ?_
  have x1 : GW base gw w W1 := GW.ext (GW.refl base gw w) e1
  have ws3 := WSt.ext h e1
  have b2 : w.heap.size ≤ g2 := Nat.le_trans (GW.refl base gw w).size l2
  refine seq_nil ?_
  refine hK1 _ _ ?_
  try clear hK1 K1
  refine wp_seq_k fun K4 hK4 => ?_
  refine region_lit ?_
  refine seq_val (.pointer (some ⟨gw, 0, none⟩)) 4 rfl kj kj ?_
  refine seq_val (.pointer (some ⟨g2, 0, none⟩)) 5 rfl kj kj ?_
  refine seq_val (.int .i64 nm) 6 rfl kj (run_loadC1 3 _ g2 0 74 _ (.int .i64 nm) _ r2_1 rfl kj kj kj) ?_
  refine seq_callR (fun v W' => v = .tuple #[] ∧ GW base gw W1 W' ∧ WSt base gw (numS (s) nm 1) W') 105 #[.pointer (some ⟨gw, 0, none⟩), .int .i64 nm, .int .i64 1] 7 rfl kj kj ((numberW base gw _ nm 1 _ (Nat.le_trans hbw x1.size) ws3 (by decide)).mono (by rintro e w' ⟨rfl, h1, h2⟩; exact ⟨_, rfl, rfl, h1, h2⟩)) fun v5 W2 h5 => ?_
  obtain ⟨rfl, q2, ws5⟩ := h5
  have x2 : GW base gw w W2 := GW.trans x1 q2
  refine seq_nil ?_
  refine hK4 _ _ ?_
  try clear hK4 K4
  refine wp_seq_k fun K6 hK6 => ?_
  refine region_lit ?_
  refine seq_val (.pointer (some ⟨gw, 0, none⟩)) 8 rfl kj kj ?_
  refine seq_val (.pointer (some ⟨g2, 1, none⟩)) 9 rfl kj kj ?_
  have r2_2 := (GW.row q2 r2_1 (by decide) (Ne.symm (Nat.ne_of_lt (Nat.lt_of_lt_of_le hgw b2))))
  refine seq_val (.slice a_s sealed.length c_s) 10 rfl kj (run_loadC1 26 _ g2 1 74 _ (.slice a_s sealed.length c_s) _ r2_2 rfl kj kj kj) ?_
  refine seq_callR (fun v W' => v = .tuple #[] ∧ GW base gw W2 W' ∧ WSt base gw (bytS (numS (s) nm 1) sealed) W') 117 #[.pointer (some ⟨gw, 0, none⟩), .slice a_s sealed.length c_s] 11 rfl kj kj ((bytesW base gw _ sealed _ _ (Nat.le_trans hbw x2.size) hbg ws5 (by omega) hsb (rd_gw hs x2 hbg)).mono (by rintro e w' ⟨rfl, h1, h2⟩; exact ⟨_, rfl, rfl, h1, h2⟩)) fun v7 W3 h7 => ?_
  obtain ⟨rfl, q3, ws7⟩ := h7
  have x3 : GW base gw w W3 := GW.trans x2 q3
  refine seq_nil ?_
  refine hK6 _ _ ?_
  try clear hK6 K6
  refine region_lit ?_
  refine seq_val (.pointer (some ⟨gw, 0, none⟩)) 12 rfl kj kj ?_
  refine seq_val (.pointer (some ⟨g2, 2, none⟩)) 13 rfl kj kj ?_
  have r2_3 := (GW.row q3 r2_2 (by decide) (Ne.symm (Nat.ne_of_lt (Nat.lt_of_lt_of_le hgw b2))))
  refine seq_val (.slice a_i info.length c_i) 14 rfl kj (run_loadC1 26 _ g2 2 74 _ (.slice a_i info.length c_i) _ r2_3 rfl kj kj kj) ?_
  refine seq_callR (fun v W' => v = .tuple #[] ∧ GW base gw W3 W' ∧ WSt base gw (bytS (bytS (numS (s) nm 1) sealed) info) W') 117 #[.pointer (some ⟨gw, 0, none⟩), .slice a_i info.length c_i] 15 rfl kj kj ((bytesW base gw _ info _ _ (Nat.le_trans hbw x3.size) hbg ws7 (by omega) hib (rd_gw hi x3 hbg)).mono (by rintro e w' ⟨rfl, h1, h2⟩; exact ⟨_, rfl, rfl, h1, h2⟩)) fun v8 W4 h8 => ?_
  obtain ⟨rfl, q4, ws8⟩ := h8
  have x4 : GW base gw w W4 := GW.trans x3 q4
  refine seq_nil ?_
  repeat (first | with_reducible refine goX1 ?_ | with_reducible refine goX2 ?_ | with_reducible refine goX3 ?_)
  exact (show bodyPost _ _ _ .normal _ _ from end0 rfl ⟨rfl, x4, ws8⟩)

end Go.Proofs.Ytfelfmchachljaa.Wr
