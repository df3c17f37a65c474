/- PutPacket, PutWelcome. -/
import Derived.Test.YtfelfmchachljaaWrD
namespace Go.Proofs.Ytfelfmchachljaa.Wr
open Go Go.RowKit
open Go.Proofs.Ytfelfmchachljaa.Rely Go.Proofs.Ytfelfmchachljaa.Auto Go.Proofs.Ytfelfmchachljaa.Own Go.Proofs.Ytfelfmchachljaa.Sha
set_option linter.unusedVariables false
set_option linter.unusedSimpArgs false

set_option maxHeartbeats 4000000 in
theorem putPacket (grp : List Int) (ep fr no : Int) (sealed : List Int) (a_s : Option Addr) (c_s : Nat) (w : World) (hgl : grp.length = 32) (hgb : AreBytes grp) (hsl : sealed.length ≤ 1000000) (hsb : AreBytes sealed) (hs : RdK .u8 w.heap.size sealed (.slice a_s sealed.length c_s) w) : Calls Try.prog 81 #[.agg (cat [ints .u8 (grp), #[.int .i64 ep], #[.int .i64 fr], #[.int .i64 no], #[.slice a_s sealed.length c_s]]), .func (.func 82) #[] #[]] w (Gives w (PutR w.heap.size (packS (some []) grp ep fr no sealed))) := by
  refine enter 22 [(0, .agg (cat [ints .u8 (grp), #[.int .i64 ep], #[.int .i64 fr], #[.int .i64 no], #[.slice a_s sealed.length c_s]])), (1, .func (.func 82) #[] #[])] Try.func81 rfl rfl kj rfl ?_
  refine wp_seq_k fun K1 hK1 => ?_
  refine region_lit ?_
  refine seq_alloc (cat [ints .u8 (grp), #[.int .i64 ep], #[.int .i64 fr], #[.int .i64 no], #[.slice a_s sealed.length c_s]]) 81 2 rfl kj kj fun g2 W1 l2 e1 r2_1 => ?_
  have x1 : Ext w W1 := Ext.tr (Rely.Ext.refl w) e1
  have b2 : w.heap.size ≤ g2 := Nat.le_trans (Rely.Ext.refl w).size l2
  refine seq_val (.slice none 0 0) 4 rfl kj kj ?_
  refine seq_val (.nilIface) 5 rfl kj kj ?_
  refine seq_nil ?_
  refine hK1 _ _ ?_
  try clear hK1 K1
  refine wp_seq_k fun K3 hK3 => ?_
  refine region_lit ?_
  refine seq_val (.agg (cat [#[.slice none 0 0], #[.bool false]])) 7 rfl kj kj ?_
  refine seq_alloc (cat [#[.slice none 0 0], #[.bool false]]) 174 8 rfl kj kj fun g4 W2 l4 e2 r4_2 => ?_
  have x2 : Ext w W2 := Ext.tr x1 e2
  have b4 : w.heap.size ≤ g4 := Nat.le_trans x1.size l4
  refine seq_val (.pointer (some ⟨g4, 0, none⟩)) 6 rfl kj kj ?_
  refine seq_nil ?_
  refine hK3 _ _ ?_
  try clear hK3 K3
  refine wp_seq_k fun K5 hK5 => ?_
  refine region_lit ?_
  refine seq_val (.func (.func 82) #[] #[]) 9 rfl kj kj ?_
  refine seq_val (.pointer (some ⟨g4, 0, none⟩)) 10 rfl kj kj ?_
  have r2_2 := (row_ext r2_1 e2)
  refine seq_val (.agg (cat [ints .u8 (grp), #[.int .i64 ep], #[.int .i64 fr], #[.int .i64 no], #[.slice a_s sealed.length c_s]])) 11 rfl kj (run_load_row 81 _ g2 81 _ _ r2_2 rfl kj kj (isz (n := 36) kj (by rw [cat_cons, cat_cons, cat_cons, cat_cons, cat_cons]; simp only [Array.size_append, cat, ((ints_size _ _).trans hgl)]; rfl))) ?_
  refine seq_callR (fun v W' => v = .tuple #[] ∧ GW W1.heap.size g4 W2 W' ∧ WSt W1.heap.size g4 (packS (some []) grp ep fr no sealed) W') 82 #[.pointer (some ⟨g4, 0, none⟩), .agg (cat [ints .u8 (grp), #[.int .i64 ep], #[.int .i64 fr], #[.int .i64 no], #[.slice a_s sealed.length c_s]])] 12 rfl kj kj ((packetW W1.heap.size g4 (some []) grp ep fr no sealed a_s c_s _ (Nat.le_trans (Nat.le_refl _) e2.size) l4 ⟨_, [], false, r4_2, ownN_nil .u8 5 _ _, Nat.zero_le _, (fun x hx => by cases hx), rfl⟩ hgl hgb hsl hsb (RdK.more (RdK.ext hs x2) (Nat.le_trans (Nat.le_refl _) e1.size))).mono (by rintro e w' ⟨rfl, h1, h2⟩; exact ⟨_, rfl, rfl, h1, h2⟩)) fun v6 W3 h6 => ?_
  obtain ⟨rfl, q3, u, xs, bad, rb3, ho, -, -, hS⟩ := h6
  have x3 : Ext w W3 := GW.back x2 q3 (Nat.le_trans (Nat.le_refl _) e1.size) b4
  obtain ⟨au, cu, rfl, -⟩ := id (OwnN.rd ho)
  refine seq_nil ?_
  refine hK5 _ _ ?_
  try clear hK5 K5
  refine wp_seq_k fun K7 hK7 => ?_
  refine wp_seq_k fun K8 hK8 => ?_
  refine region_lit ?_
  refine seq_val (.pointer (some ⟨g4, 0, none⟩)) 13 rfl kj kj ?_
  refine seq_val (.pointer (some ⟨g4, 0, none⟩)) 14 rfl kj kj ?_
  refine seq_val (.pointer (some ⟨g4, 1, none⟩)) 15 rfl kj kj ?_
  refine seq_val (.bool bad) 16 rfl kj (run_loadC1 4 _ g4 1 174 _ (.bool bad) _ rb3 rfl kj kj kj) ?_
  refine seq_nil ?_
  refine hK8 _ _ ?_
  try clear hK8 K8
  refine cond_split (t := bad) kj (fun c9 => ?_) (fun c9 => ?_)
  · skip
    refine wp_seq_k fun K10 hK10 => ?_
    refine region_lit ?_
    refine seq_val (.iface 102 (.int .i64 3)) 17 rfl kj kj ?_
    refine seq_val (.slice none 0 0) 4 rfl kj kj ?_
    refine seq_val (.iface 102 (.int .i64 3)) 5 rfl kj kj ?_
    refine seq_nil ?_
    refine hK10 _ _ ?_
    try clear hK10 K10
    refine wp_ret ?_
    repeat (first | with_reducible refine goR1 ?_ | with_reducible refine goR2 ?_)
    exact (show bodyPost _ _ _ .ret _ _ from ret2 (.slice none 0 0) (.iface 102 (.int .i64 3)) rfl (res_tmp kj) (res_tmp kj) ⟨_, rfl, x3, by rw [hS, c9]; exact rfl⟩)
  · skip
    refine wp_skip ?_
    refine hK7 _ _ ?_
    try clear hK7 K7
    refine wp_seq_k fun K11 hK11 => ?_
    refine region_lit ?_
    refine seq_val (.pointer (some ⟨g4, 0, none⟩)) 18 rfl kj kj ?_
    refine seq_val (.pointer (some ⟨g4, 0, none⟩)) 19 rfl kj kj ?_
    refine seq_val (.pointer (some ⟨g4, 0, none⟩)) 20 rfl kj kj ?_
    refine seq_val (.slice au xs.length cu) 21 rfl kj (run_loadC1 26 _ g4 0 174 _ (.slice au xs.length cu) _ rb3 rfl kj kj kj) ?_
    refine seq_val (.slice au xs.length cu) 4 rfl kj kj ?_
    refine seq_val (.nilIface) 5 rfl kj kj ?_
    refine seq_nil ?_
    refine hK11 _ _ ?_
    try clear hK11 K11
    refine wp_ret ?_
    repeat (first | with_reducible refine goR1 ?_ | with_reducible refine goR2 ?_)
    exact (show bodyPost _ _ _ .ret _ _ from ret2 (.slice au xs.length cu) (.nilIface) rfl (res_tmp kj) (res_tmp kj) ⟨_, rfl, x3, by rw [hS, c9]; exact ⟨_, rfl, OwnN.base (Nat.le_trans (Nat.le_refl _) e1.size) ho⟩⟩)
set_option maxHeartbeats 4000000 in
theorem PutPacket_N (grp : List Int) (ep fr no : Int) (sealed : List Int) (a_s : Option Addr) (c_s : Nat) (w : World) (hgl : grp.length = 32) (hgb : AreBytes grp) (hsl : sealed.length ≤ 1000000) (hsb : AreBytes sealed) (hs : RdK .u8 w.heap.size sealed (.slice a_s sealed.length c_s) w) (hS : packS (some []) grp ep fr no sealed = none) : Calls Try.prog 34 #[.agg (cat [ints .u8 (grp), #[.int .i64 ep], #[.int .i64 fr], #[.int .i64 no], #[.slice a_s sealed.length c_s]])] w (Gives w (PutR w.heap.size (none))) := by
  refine enter 8 [(0, .agg (cat [ints .u8 (grp), #[.int .i64 ep], #[.int .i64 fr], #[.int .i64 no], #[.slice a_s sealed.length c_s]]))] Try.func34 rfl rfl kj rfl ?_
  refine wp_seq_k fun K1 hK1 => ?_
  refine region_lit ?_
  refine seq_alloc (cat [ints .u8 (grp), #[.int .i64 ep], #[.int .i64 fr], #[.int .i64 no], #[.slice a_s sealed.length c_s]]) 81 1 rfl kj kj fun g2 W1 l2 e1 r2_1 => ?_
  have x1 : Ext w W1 := Ext.tr (Rely.Ext.refl w) e1
  have b2 : w.heap.size ≤ g2 := Nat.le_trans (Rely.Ext.refl w).size l2
  refine seq_val (.slice none 0 0) 2 rfl kj kj ?_
  refine seq_val (.nilIface) 3 rfl kj kj ?_
  refine seq_nil ?_
  refine hK1 _ _ ?_
  try clear hK1 K1
  refine wp_seq_k fun K3 hK3 => ?_
  refine region_lit ?_
  refine seq_val (.agg (cat [ints .u8 (grp), #[.int .i64 ep], #[.int .i64 fr], #[.int .i64 no], #[.slice a_s sealed.length c_s]])) 4 rfl kj (run_load_row 81 _ g2 81 _ _ r2_1 rfl kj kj (isz (n := 36) kj (by rw [cat_cons, cat_cons, cat_cons, cat_cons, cat_cons]; simp only [Array.size_append, cat, ((ints_size _ _).trans hgl)]; rfl))) ?_
  refine seq_callR (fun v W' => (PutR W1.heap.size (packS (some []) grp ep fr no sealed)) v W' ∧ Ext W1 W') 81 #[.agg (cat [ints .u8 (grp), #[.int .i64 ep], #[.int .i64 fr], #[.int .i64 no], #[.slice a_s sealed.length c_s]]), .func (.func 82) #[] #[]] 5 rfl kj kj ((putPacket grp ep fr no sealed a_s c_s _ hgl hgb hsl hsb (RdK.here (RdK.ext hs x1))).mono (by rintro e w' ⟨v, rfl, e1, hv⟩; exact ⟨v, rfl, hv, e1⟩)) fun vv4 W2 hh4 => ?_
  obtain ⟨hv4, e2⟩ := hh4
  have x2 : Ext w W2 := Ext.tr x1 e2
  rw [hS] at hv4
  have hv2 : vv4 = .tuple #[.slice none 0 0, .iface 102 (.int .i64 3)] := hv4
  subst hv2
  refine seq_val (.slice none 0 0) 6 rfl kj kj ?_
  refine seq_val (.iface 102 (.int .i64 3)) 7 rfl kj kj ?_
  refine seq_val (.slice none 0 0) 2 rfl kj kj ?_
  refine seq_val (.iface 102 (.int .i64 3)) 3 rfl kj kj ?_
  refine seq_nil ?_
  refine hK3 _ _ ?_
  try clear hK3 K3
  refine wp_ret ?_
  repeat (first | with_reducible refine goR1 ?_ | with_reducible refine goR2 ?_)
  exact (show bodyPost _ _ _ .ret _ _ from ret2 (.slice none 0 0) (.iface 102 (.int .i64 3)) rfl (res_tmp kj) (res_tmp kj) ⟨_, rfl, x2, rfl⟩)
set_option maxHeartbeats 4000000 in
theorem PutPacket_S (grp : List Int) (ep fr no : Int) (sealed : List Int) (a_s : Option Addr) (c_s : Nat) (w : World) (hgl : grp.length = 32) (hgb : AreBytes grp) (hsl : sealed.length ≤ 1000000) (hsb : AreBytes sealed) (hs : RdK .u8 w.heap.size sealed (.slice a_s sealed.length c_s) w) (xs : List Int) (hS : packS (some []) grp ep fr no sealed = some xs) : Calls Try.prog 34 #[.agg (cat [ints .u8 (grp), #[.int .i64 ep], #[.int .i64 fr], #[.int .i64 no], #[.slice a_s sealed.length c_s]])] w (Gives w (PutR w.heap.size (some xs))) := by
  refine enter 8 [(0, .agg (cat [ints .u8 (grp), #[.int .i64 ep], #[.int .i64 fr], #[.int .i64 no], #[.slice a_s sealed.length c_s]]))] Try.func34 rfl rfl kj rfl ?_
  refine wp_seq_k fun K1 hK1 => ?_
  refine region_lit ?_
  refine seq_alloc (cat [ints .u8 (grp), #[.int .i64 ep], #[.int .i64 fr], #[.int .i64 no], #[.slice a_s sealed.length c_s]]) 81 1 rfl kj kj fun g2 W1 l2 e1 r2_1 => ?_
  have x1 : Ext w W1 := Ext.tr (Rely.Ext.refl w) e1
  have b2 : w.heap.size ≤ g2 := Nat.le_trans (Rely.Ext.refl w).size l2
  refine seq_val (.slice none 0 0) 2 rfl kj kj ?_
  refine seq_val (.nilIface) 3 rfl kj kj ?_
  refine seq_nil ?_
  refine hK1 _ _ ?_
  try clear hK1 K1
  refine wp_seq_k fun K3 hK3 => ?_
  refine region_lit ?_
  refine seq_val (.agg (cat [ints .u8 (grp), #[.int .i64 ep], #[.int .i64 fr], #[.int .i64 no], #[.slice a_s sealed.length c_s]])) 4 rfl kj (run_load_row 81 _ g2 81 _ _ r2_1 rfl kj kj (isz (n := 36) kj (by rw [cat_cons, cat_cons, cat_cons, cat_cons, cat_cons]; simp only [Array.size_append, cat, ((ints_size _ _).trans hgl)]; rfl))) ?_
  refine seq_callR (fun v W' => (PutR W1.heap.size (packS (some []) grp ep fr no sealed)) v W' ∧ Ext W1 W') 81 #[.agg (cat [ints .u8 (grp), #[.int .i64 ep], #[.int .i64 fr], #[.int .i64 no], #[.slice a_s sealed.length c_s]]), .func (.func 82) #[] #[]] 5 rfl kj kj ((putPacket grp ep fr no sealed a_s c_s _ hgl hgb hsl hsb (RdK.here (RdK.ext hs x1))).mono (by rintro e w' ⟨v, rfl, e1, hv⟩; exact ⟨v, rfl, hv, e1⟩)) fun vv4 W2 hh4 => ?_
  obtain ⟨hv4, e2⟩ := hh4
  have x2 : Ext w W2 := Ext.tr x1 e2
  rw [hS] at hv4
  obtain ⟨u5_, rfl, hu5_⟩ := hv4
  obtain ⟨a5_, c5_, rfl, -⟩ := id (OwnN.rd hu5_)
  refine seq_val (.slice a5_ ((xs).length) c5_) 6 rfl kj kj ?_
  refine seq_val (.nilIface) 7 rfl kj kj ?_
  refine seq_val (.slice a5_ ((xs).length) c5_) 2 rfl kj kj ?_
  refine seq_val (.nilIface) 3 rfl kj kj ?_
  refine seq_nil ?_
  refine hK3 _ _ ?_
  try clear hK3 K3
  refine wp_ret ?_
  repeat (first | with_reducible refine goR1 ?_ | with_reducible refine goR2 ?_)
  exact (show bodyPost _ _ _ .ret _ _ from ret2 (.slice a5_ ((xs).length) c5_) (.nilIface) rfl (res_tmp kj) (res_tmp kj) ⟨_, rfl, x2, _, rfl, OwnN.base x1.size hu5_⟩)
theorem PutPacketC (grp : List Int) (ep fr no : Int) (sealed : List Int) (a_s : Option Addr) (c_s : Nat) (w : World) (hgl : grp.length = 32) (hgb : AreBytes grp) (hsl : sealed.length ≤ 1000000) (hsb : AreBytes sealed) (hs : RdK .u8 w.heap.size sealed (.slice a_s sealed.length c_s) w) : Calls Try.prog 34 #[.agg (cat [ints .u8 (grp), #[.int .i64 ep], #[.int .i64 fr], #[.int .i64 no], #[.slice a_s sealed.length c_s]])] w (Gives w (PutR w.heap.size (packS (some []) grp ep fr no sealed))) := by
  cases hS : packS (some []) grp ep fr no sealed with
  | none => exact PutPacket_N grp ep fr no sealed a_s c_s w hgl hgb hsl hsb hs hS
  | some xs => exact PutPacket_S grp ep fr no sealed a_s c_s w hgl hgb hsl hsb hs xs hS
set_option maxHeartbeats 4000000 in
theorem putWelcome (nm : Int) (sealed info : List Int) (a_s : Option Addr) (c_s : Nat) (a_i : Option Addr) (c_i : Nat) (w : World) (hsl : sealed.length ≤ 1000000) (hsb : AreBytes sealed) (hil : info.length ≤ 1000000) (hib : AreBytes info) (hs : RdK .u8 w.heap.size sealed (.slice a_s sealed.length c_s) w) (hi : RdK .u8 w.heap.size info (.slice a_i info.length c_i) w) : Calls Try.prog 75 #[.agg (cat [#[.int .i64 nm], #[.slice a_s sealed.length c_s], #[.slice a_i info.length c_i]]), .func (.func 76) #[] #[]] w (Gives w (PutR w.heap.size (welcS (some []) nm sealed info))) := by
  refine enter 22 [(0, .agg (cat [#[.int .i64 nm], #[.slice a_s sealed.length c_s], #[.slice a_i info.length c_i]])), (1, .func (.func 76) #[] #[])] Try.func75 rfl rfl kj rfl ?_
  refine wp_seq_k fun K1 hK1 => ?_
  refine region_lit ?_
  refine seq_alloc (cat [#[.int .i64 nm], #[.slice a_s sealed.length c_s], #[.slice a_i info.length c_i]]) 74 2 rfl kj kj fun g2 W1 l2 e1 r2_1 => ?_
  have x1 : Ext w W1 := Ext.tr (Rely.Ext.refl w) e1
  have b2 : w.heap.size ≤ g2 := Nat.le_trans (Rely.Ext.refl w).size l2
  refine seq_val (.slice none 0 0) 4 rfl kj kj ?_
  refine seq_val (.nilIface) 5 rfl kj kj ?_
  refine seq_nil ?_
  refine hK1 _ _ ?_
  try clear hK1 K1
  refine wp_seq_k fun K3 hK3 => ?_
  refine region_lit ?_
  refine seq_val (.agg (cat [#[.slice none 0 0], #[.bool false]])) 7 rfl kj kj ?_
  refine seq_alloc (cat [#[.slice none 0 0], #[.bool false]]) 174 8 rfl kj kj fun g4 W2 l4 e2 r4_2 => ?_
  have x2 : Ext w W2 := Ext.tr x1 e2
  have b4 : w.heap.size ≤ g4 := Nat.le_trans x1.size l4
  refine seq_val (.pointer (some ⟨g4, 0, none⟩)) 6 rfl kj kj ?_
  refine seq_nil ?_
  refine hK3 _ _ ?_
  try clear hK3 K3
  refine wp_seq_k fun K5 hK5 => ?_
  refine region_lit ?_
  refine seq_val (.func (.func 76) #[] #[]) 9 rfl kj kj ?_
  refine seq_val (.pointer (some ⟨g4, 0, none⟩)) 10 rfl kj kj ?_
  have r2_2 := (row_ext r2_1 e2)
  refine seq_val (.agg (cat [#[.int .i64 nm], #[.slice a_s sealed.length c_s], #[.slice a_i info.length c_i]])) 11 rfl kj (run_load_row 74 _ g2 74 _ _ r2_2 rfl kj kj (isz (n := 3) kj kj)) ?_
  refine seq_callR (fun v W' => v = .tuple #[] ∧ GW W1.heap.size g4 W2 W' ∧ WSt W1.heap.size g4 (welcS (some []) nm sealed info) W') 76 #[.pointer (some ⟨g4, 0, none⟩), .agg (cat [#[.int .i64 nm], #[.slice a_s sealed.length c_s], #[.slice a_i info.length c_i]])] 12 rfl kj kj ((welcomeW W1.heap.size g4 (some []) nm sealed info a_s c_s a_i c_i _ (Nat.le_trans (Nat.le_refl _) e2.size) l4 ⟨_, [], false, r4_2, ownN_nil .u8 5 _ _, Nat.zero_le _, (fun x hx => by cases hx), rfl⟩ hsl hsb hil hib (RdK.more (RdK.ext hs x2) (Nat.le_trans (Nat.le_refl _) e1.size)) (RdK.more (RdK.ext hi x2) (Nat.le_trans (Nat.le_refl _) e1.size))).mono (by rintro e w' ⟨rfl, h1, h2⟩; exact ⟨_, rfl, rfl, h1, h2⟩)) fun v6 W3 h6 => ?_
  obtain ⟨rfl, q3, u, xs, bad, rb3, ho, -, -, hS⟩ := h6
  have x3 : Ext w W3 := GW.back x2 q3 (Nat.le_trans (Nat.le_refl _) e1.size) b4
  obtain ⟨au, cu, rfl, -⟩ := id (OwnN.rd ho)
  refine seq_nil ?_
  refine hK5 _ _ ?_
  try clear hK5 K5
  refine wp_seq_k fun K7 hK7 => ?_
  refine wp_seq_k fun K8 hK8 => ?_
  refine region_lit ?_
  refine seq_val (.pointer (some ⟨g4, 0, none⟩)) 13 rfl kj kj ?_
  refine seq_val (.pointer (some ⟨g4, 0, none⟩)) 14 rfl kj kj ?_
  refine seq_val (.pointer (some ⟨g4, 1, none⟩)) 15 rfl kj kj ?_
  refine seq_val (.bool bad) 16 rfl kj (run_loadC1 4 _ g4 1 174 _ (.bool bad) _ rb3 rfl kj kj kj) ?_
  refine seq_nil ?_
  refine hK8 _ _ ?_
  try clear hK8 K8
  refine cond_split (t := bad) kj (fun c9 => ?_) (fun c9 => ?_)
  · skip
    refine wp_seq_k fun K10 hK10 => ?_
    refine region_lit ?_
    refine seq_val (.iface 102 (.int .i64 3)) 17 rfl kj kj ?_
    refine seq_val (.slice none 0 0) 4 rfl kj kj ?_
    refine seq_val (.iface 102 (.int .i64 3)) 5 rfl kj kj ?_
    refine seq_nil ?_
    refine hK10 _ _ ?_
    try clear hK10 K10
    refine wp_ret ?_
    repeat (first | with_reducible refine goR1 ?_ | with_reducible refine goR2 ?_)
    exact (show bodyPost _ _ _ .ret _ _ from ret2 (.slice none 0 0) (.iface 102 (.int .i64 3)) rfl (res_tmp kj) (res_tmp kj) ⟨_, rfl, x3, by rw [hS, c9]; exact rfl⟩)
  · skip
    refine wp_skip ?_
    refine hK7 _ _ ?_
    try clear hK7 K7
    refine wp_seq_k fun K11 hK11 => ?_
    refine region_lit ?_
    refine seq_val (.pointer (some ⟨g4, 0, none⟩)) 18 rfl kj kj ?_
    refine seq_val (.pointer (some ⟨g4, 0, none⟩)) 19 rfl kj kj ?_
    refine seq_val (.pointer (some ⟨g4, 0, none⟩)) 20 rfl kj kj ?_
    refine seq_val (.slice au xs.length cu) 21 rfl kj (run_loadC1 26 _ g4 0 174 _ (.slice au xs.length cu) _ rb3 rfl kj kj kj) ?_
    refine seq_val (.slice au xs.length cu) 4 rfl kj kj ?_
    refine seq_val (.nilIface) 5 rfl kj kj ?_
    refine seq_nil ?_
    refine hK11 _ _ ?_
    try clear hK11 K11
    refine wp_ret ?_
    repeat (first | with_reducible refine goR1 ?_ | with_reducible refine goR2 ?_)
    exact (show bodyPost _ _ _ .ret _ _ from ret2 (.slice au xs.length cu) (.nilIface) rfl (res_tmp kj) (res_tmp kj) ⟨_, rfl, x3, by rw [hS, c9]; exact ⟨_, rfl, OwnN.base (Nat.le_trans (Nat.le_refl _) e1.size) ho⟩⟩)
set_option maxHeartbeats 4000000 in
theorem PutWelcome_N (nm : Int) (sealed info : List Int) (a_s : Option Addr) (c_s : Nat) (a_i : Option Addr) (c_i : Nat) (w : World) (hsl : sealed.length ≤ 1000000) (hsb : AreBytes sealed) (hil : info.length ≤ 1000000) (hib : AreBytes info) (hs : RdK .u8 w.heap.size sealed (.slice a_s sealed.length c_s) w) (hi : RdK .u8 w.heap.size info (.slice a_i info.length c_i) w) (hS : welcS (some []) nm sealed info = none) : Calls Try.prog 31 #[.agg (cat [#[.int .i64 nm], #[.slice a_s sealed.length c_s], #[.slice a_i info.length c_i]])] w (Gives w (PutR w.heap.size (none))) := by
  refine enter 8 [(0, .agg (cat [#[.int .i64 nm], #[.slice a_s sealed.length c_s], #[.slice a_i info.length c_i]]))] Try.func31 rfl rfl kj rfl ?_
  refine wp_seq_k fun K1 hK1 => ?_
  refine region_lit ?_
  refine seq_alloc (cat [#[.int .i64 nm], #[.slice a_s sealed.length c_s], #[.slice a_i info.length c_i]]) 74 1 rfl kj kj fun g2 W1 l2 e1 r2_1 => ?_
  have x1 : Ext w W1 := Ext.tr (Rely.Ext.refl w) e1
  have b2 : w.heap.size ≤ g2 := Nat.le_trans (Rely.Ext.refl w).size l2
  refine seq_val (.slice none 0 0) 2 rfl kj kj ?_
  refine seq_val (.nilIface) 3 rfl kj kj ?_
  refine seq_nil ?_
  refine hK1 _ _ ?_
  try clear hK1 K1
  refine wp_seq_k fun K3 hK3 => ?_
  refine region_lit ?_
  refine seq_val (.agg (cat [#[.int .i64 nm], #[.slice a_s sealed.length c_s], #[.slice a_i info.length c_i]])) 4 rfl kj (run_load_row 74 _ g2 74 _ _ r2_1 rfl kj kj (isz (n := 3) kj kj)) ?_
  refine seq_callR (fun v W' => (PutR W1.heap.size (welcS (some []) nm sealed info)) v W' ∧ Ext W1 W') 75 #[.agg (cat [#[.int .i64 nm], #[.slice a_s sealed.length c_s], #[.slice a_i info.length c_i]]), .func (.func 76) #[] #[]] 5 rfl kj kj ((putWelcome nm sealed info a_s c_s a_i c_i _ hsl hsb hil hib (RdK.here (RdK.ext hs x1)) (RdK.here (RdK.ext hi x1))).mono (by rintro e w' ⟨v, rfl, e1, hv⟩; exact ⟨v, rfl, hv, e1⟩)) fun vv4 W2 hh4 => ?_
  obtain ⟨hv4, e2⟩ := hh4
  have x2 : Ext w W2 := Ext.tr x1 e2
  rw [hS] at hv4
  have hv2 : vv4 = .tuple #[.slice none 0 0, .iface 102 (.int .i64 3)] := hv4
  subst hv2
  refine seq_val (.slice none 0 0) 6 rfl kj kj ?_
  refine seq_val (.iface 102 (.int .i64 3)) 7 rfl kj kj ?_
  refine seq_val (.slice none 0 0) 2 rfl kj kj ?_
  refine seq_val (.iface 102 (.int .i64 3)) 3 rfl kj kj ?_
  refine seq_nil ?_
  refine hK3 _ _ ?_
  try clear hK3 K3
  refine wp_ret ?_
  repeat (first | with_reducible refine goR1 ?_ | with_reducible refine goR2 ?_)
  exact (show bodyPost _ _ _ .ret _ _ from ret2 (.slice none 0 0) (.iface 102 (.int .i64 3)) rfl (res_tmp kj) (res_tmp kj) ⟨_, rfl, x2, rfl⟩)
set_option maxHeartbeats 4000000 in
theorem PutWelcome_S (nm : Int) (sealed info : List Int) (a_s : Option Addr) (c_s : Nat) (a_i : Option Addr) (c_i : Nat) (w : World) (hsl : sealed.length ≤ 1000000) (hsb : AreBytes sealed) (hil : info.length ≤ 1000000) (hib : AreBytes info) (hs : RdK .u8 w.heap.size sealed (.slice a_s sealed.length c_s) w) (hi : RdK .u8 w.heap.size info (.slice a_i info.length c_i) w) (xs : List Int) (hS : welcS (some []) nm sealed info = some xs) : Calls Try.prog 31 #[.agg (cat [#[.int .i64 nm], #[.slice a_s sealed.length c_s], #[.slice a_i info.length c_i]])] w (Gives w (PutR w.heap.size (some xs))) := by
  refine enter 8 [(0, .agg (cat [#[.int .i64 nm], #[.slice a_s sealed.length c_s], #[.slice a_i info.length c_i]]))] Try.func31 rfl rfl kj rfl ?_
  refine wp_seq_k fun K1 hK1 => ?_
  refine region_lit ?_
  refine seq_alloc (cat [#[.int .i64 nm], #[.slice a_s sealed.length c_s], #[.slice a_i info.length c_i]]) 74 1 rfl kj kj fun g2 W1 l2 e1 r2_1 => ?_
  have x1 : Ext w W1 := Ext.tr (Rely.Ext.refl w) e1
  have b2 : w.heap.size ≤ g2 := Nat.le_trans (Rely.Ext.refl w).size l2
  refine seq_val (.slice none 0 0) 2 rfl kj kj ?_
  refine seq_val (.nilIface) 3 rfl kj kj ?_
  refine seq_nil ?_
  refine hK1 _ _ ?_
  try clear hK1 K1
  refine wp_seq_k fun K3 hK3 => ?_
  refine region_lit ?_
  refine seq_val (.agg (cat [#[.int .i64 nm], #[.slice a_s sealed.length c_s], #[.slice a_i info.length c_i]])) 4 rfl kj (run_load_row 74 _ g2 74 _ _ r2_1 rfl kj kj (isz (n := 3) kj kj)) ?_
  refine seq_callR (fun v W' => (PutR W1.heap.size (welcS (some []) nm sealed info)) v W' ∧ Ext W1 W') 75 #[.agg (cat [#[.int .i64 nm], #[.slice a_s sealed.length c_s], #[.slice a_i info.length c_i]]), .func (.func 76) #[] #[]] 5 rfl kj kj ((putWelcome nm sealed info a_s c_s a_i c_i _ hsl hsb hil hib (RdK.here (RdK.ext hs x1)) (RdK.here (RdK.ext hi x1))).mono (by rintro e w' ⟨v, rfl, e1, hv⟩; exact ⟨v, rfl, hv, e1⟩)) fun vv4 W2 hh4 => ?_
  obtain ⟨hv4, e2⟩ := hh4
  have x2 : Ext w W2 := Ext.tr x1 e2
  rw [hS] at hv4
  obtain ⟨u5_, rfl, hu5_⟩ := hv4
  obtain ⟨a5_, c5_, rfl, -⟩ := id (OwnN.rd hu5_)
  refine seq_val (.slice a5_ ((xs).length) c5_) 6 rfl kj kj ?_
  refine seq_val (.nilIface) 7 rfl kj kj ?_
  refine seq_val (.slice a5_ ((xs).length) c5_) 2 rfl kj kj ?_
  refine seq_val (.nilIface) 3 rfl kj kj ?_
  refine seq_nil ?_
  refine hK3 _ _ ?_
  try clear hK3 K3
  refine wp_ret ?_
  repeat (first | with_reducible refine goR1 ?_ | with_reducible refine goR2 ?_)
  exact (show bodyPost _ _ _ .ret _ _ from ret2 (.slice a5_ ((xs).length) c5_) (.nilIface) rfl (res_tmp kj) (res_tmp kj) ⟨_, rfl, x2, _, rfl, OwnN.base x1.size hu5_⟩)
theorem PutWelcomeC (nm : Int) (sealed info : List Int) (a_s : Option Addr) (c_s : Nat) (a_i : Option Addr) (c_i : Nat) (w : World) (hsl : sealed.length ≤ 1000000) (hsb : AreBytes sealed) (hil : info.length ≤ 1000000) (hib : AreBytes info) (hs : RdK .u8 w.heap.size sealed (.slice a_s sealed.length c_s) w) (hi : RdK .u8 w.heap.size info (.slice a_i info.length c_i) w) : Calls Try.prog 31 #[.agg (cat [#[.int .i64 nm], #[.slice a_s sealed.length c_s], #[.slice a_i info.length c_i]])] w (Gives w (PutR w.heap.size (welcS (some []) nm sealed info))) := by
  cases hS : welcS (some []) nm sealed info with
  | none => exact PutWelcome_N nm sealed info a_s c_s a_i c_i w hsl hsb hil hib hs hi hS
  | some xs => exact PutWelcome_S nm sealed info a_s c_s a_i c_i w hsl hsb hil hib hs hi xs hS

end Go.Proofs.Ytfelfmchachljaa.Wr
