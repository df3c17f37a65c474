/- Texts of this claim, joined (Q5). -/
import Derived.Test.YtoiendjhplbjjaaDoorZQ4
import Derived.Laws.BitsAll
import Derived.Lib.SmallJoins
import Derived.Lib.LaidTab
import Derived.Deep.Strs

section
namespace Go.Proofs.YtoiendjhplbjjaaDoor.Ci
open Go Go.RowKit
open Rely Auto Own Sha Sha
set_option linter.unusedVariables false
set_option linter.unusedSimpArgs false
open Cha
open Ae hiding run_storeQ
open Ll hiding newC run_storeQ
open Wk
set_option maxHeartbeats 4000000 in
theorem Qj2 (w : World) : Calls Tryd.prog 102 #[.slice none 0 0] w (QbT w (OwnN .u8 5 w.heap.size [])) := by
  refine enter 8 [(0, .slice none 0 0)] Tryd.func102 rfl rfl kj rfl ?_
  refine wp_seq_k fun K1 hK1 => ?_
  refine Qab ?_
  refine Qaa (.slice none 0 0) 2 rfl kj kj ?_
  refine Qac ?_
  refine hK1 _ _ ?_
  refine wp_seq_k fun K2 hK2 => ?_
  refine wp_seq_k fun K3 hK3 => ?_
  refine Qab ?_
  refine Qaa (.slice none 0 0) 3 rfl kj kj ?_
  refine Qaa (.bool true) 4 rfl kj kj ?_
  refine Qac ?_
  refine hK3 _ _ ?_
  refine cond_true kj ?_
  refine wp_seq_k fun K4 hK4 => ?_
  refine Qab ?_
  refine Qaa (.slice none 0 0) 2 rfl kj kj ?_
  refine Qac ?_
  refine hK4 _ _ ?_
  refine wp_ret ?_
  repeat (first | with_reducible refine goR1 ?_ | with_reducible refine goR2 ?_)
  exact (show bodyPost _ _ _ .ret _ _ from ret1 (.slice none 0 0) rfl (Qa9 kj) ⟨_, rfl, (Rely.Ext.refl w), QeY .u8 5 _ _⟩)
set_option maxHeartbeats 4000000 in
theorem Qj1 (text : List Int) (ad : Addr) (cp B : Nat) (w : World) (htl : text.length ≤ 900000000) (ht : RdK .u8 B text (.slice (some ad) text.length cp) w) : Calls Tryd.prog 102 #[.slice (some ad) text.length cp] w (QbT w (OwnN .u8 5 w.heap.size text)) := by
  refine enter 8 [(0, .slice (some ad) text.length cp)] Tryd.func102 rfl rfl kj rfl ?_
  refine wp_seq_k fun K1 hK1 => ?_
  refine Qab ?_
  refine Qaa (.slice none 0 0) 2 rfl kj kj ?_
  refine Qac ?_
  refine hK1 _ _ ?_
  refine wp_seq_k fun K2 hK2 => ?_
  refine wp_seq_k fun K3 hK3 => ?_
  refine Qab ?_
  refine Qaa (.slice (some ad) text.length cp) 3 rfl kj kj ?_
  refine Qaa (.bool false) 4 rfl kj kj ?_
  refine Qac ?_
  refine hK3 _ _ ?_
  refine cond_false kj ?_
  refine wp_skip ?_
  refine hK2 _ _ ?_
  refine wp_seq_k fun K4 hK4 => ?_
  refine Qab ?_
  refine QaZ (ints .u8 ([])) 5 0 5 rfl kj kj fun g5 W1 l5 e1 r5_1 => ?_
  have x1 : Ext w W1 := Ext.tr (Rely.Ext.refl w) e1
  have b5 : w.heap.size ≤ g5 := Nat.le_trans (Rely.Ext.refl w).size l5
  refine Qaa (.slice (some ad) text.length cp) 6 rfl kj kj ?_
  have y0_1 : Ext w W1 := (Rely.Ext.trans (Rely.Ext.refl w) e1)
  refine QcA (k := .u8) (T := 5) (xs := []) (ys := text) (V := w) 1 (.tmp 5) (.tmp 6) 33 rfl kj kj (by decide) 7 rfl kj kj kj (Qci (xs := []) rfl l5 r5_1 (by decide)) (RdK.ext ht x1) (by simp; omega) y0_1 fun u1 W2 f6 y2 l2 => ?_
  have x2 : Ext w W2 := Ext.low x1 l2 (Rely.Ext.refl w).size
  refine Qaa (u1) 2 rfl kj kj ?_
  refine Qac ?_
  refine hK4 _ _ ?_
  refine wp_ret ?_
  repeat (first | with_reducible refine goR1 ?_ | with_reducible refine goR2 ?_)
  exact (show bodyPost _ _ _ .ret _ _ from ret1 (u1) rfl (Qa9 kj) ⟨_, rfl, x2, f6⟩)
theorem Qkf (text : List Int) (v : Value) (B : Nat) (w : World) (htl : text.length ≤ 900000000) (ht : RdK .u8 B text v w) : Calls Tryd.prog 102 #[v] w (QbT w (OwnN .u8 5 w.heap.size text)) := by
  obtain ⟨a, c, rfl, h1, h2, h3, h4⟩ := id ht
  cases a with
  | none =>
    obtain rfl := h3 rfl
    obtain rfl : text = [] := List.length_eq_zero_iff.1 (by omega)
    exact Qj2 w
  | some ad => exact Qj1 text ad c B w htl ht
set_option maxHeartbeats 4000000 in
theorem QiJ (g : Nat) (key chain hash : List Int) (num : Int) (text : List Int) (fv v2 v3 : Value) (B3 : Nat) (w : World) (hkl : key.length = 32) (hcl : chain.length = 32) (hhl : hash.length = 32) (hg : w.heap[g]? = some (.cells (cat [ints .u8 (key), #[.bool false], #[.int .i64 num], ints .u8 (chain), ints .u8 (hash)]) 123)) (htl : text.length ≤ 1048576) (ht : RdK .u8 B3 text v3 w) :
    Calls Tryd.prog 70 #[.pointer (some ⟨g, 0, none⟩), fv, v2, v3] w (fun e W => ∃ u, e = .returned (.tuple #[u, .nilIface]) ∧ OwnN .u8 5 w.heap.size (text) u W ∧ ExtB g w W ∧ W.heap[g]? = some (.cells (cat [ints .u8 (key), #[.bool false], #[.int .i64 num], ints .u8 (chain), ints .u8 (hash)]) 123)) := by
  obtain ⟨a_t, c_t, rfl, -⟩ := id ht
  refine enter 52 [(0, .pointer (some ⟨g, 0, none⟩)), (1, fv), (2, v2), (3, .slice a_t text.length c_t)] Tryd.func70 rfl rfl kj rfl ?_
  refine wp_seq_k fun K2 hK2 => ?_
  refine Qab ?_
  refine Qaa (.slice none 0 0) 8 rfl kj kj ?_
  refine Qaa (.nilIface) 9 rfl kj kj ?_
  refine Qac ?_
  refine hK2 _ _ ?_
  refine wp_seq_k fun K3 hK3 => ?_
  refine wp_seq_k fun K4 hK4 => ?_
  refine Qab ?_
  refine Qaa (.pointer (some ⟨g, 0, none⟩)) 12 rfl kj kj ?_
  refine Qaa (.pointer (some ⟨g, 0, none⟩)) 13 rfl kj kj ?_
  refine Qaa (.pointer (some ⟨g, 32, none⟩)) 14 rfl kj kj ?_
  refine Qaa (.bool false) 15 rfl kj (Qag 4 _ g 32 123 _ (.bool false) _ hg rfl kj (QaE [ints .u8 (key)] [#[.bool false]] [#[.int .i64 num], ints .u8 (chain), ints .u8 (hash)] 32 ((Qaf _ _).trans hkl) 0 _ rfl) kj) ?_
  refine Qaa (.bool true) 16 rfl kj kj ?_
  refine Qac ?_
  refine hK4 _ _ ?_
  refine cond_true kj ?_
  refine wp_seq_k fun K5 hK5 => ?_
  refine Qab ?_
  refine Qaa (.slice a_t text.length c_t) 17 rfl kj kj ?_
  refine Qa0 (fun v W' => (OwnN .u8 5 w.heap.size text) v W' ∧ Ext w W') 102 #[.slice a_t text.length c_t] 18 rfl kj kj ((Qkf text _ _ _ (Nat.le_trans htl (by decide)) (RdK.ext ht (Rely.Ext.refl w))).mono (by rintro e w' ⟨v, rfl, e1, hv⟩; exact ⟨v, rfl, hv, e1⟩)) fun vv6 W1 hh6 => ?_
  obtain ⟨hv6, e1⟩ := hh6
  have x1 : Ext w W1 := Ext.tr (Rely.Ext.refl w) e1
  refine Qaa (vv6) 8 rfl kj kj ?_
  refine Qaa (.nilIface) 9 rfl kj kj ?_
  refine Qac ?_
  refine hK5 _ _ ?_
  refine wp_ret ?_
  repeat (first | with_reducible refine goR1 ?_ | with_reducible refine goR2 ?_)
  have r1_1 := (Qad hg e1)
  exact (show bodyPost _ _ _ .ret _ _ from ret2 (vv6) (.nilIface) rfl (Qa9 kj) (Qa9 kj) ⟨_, rfl, OwnN.base (Rely.Ext.refl w).size hv6, ExtB.ext (ExtB.refl g w) x1, r1_1⟩)
set_option maxRecDepth 100000 in
set_option maxHeartbeats 4000000 in
theorem QkB (g : Nat) (key chain hash : List Int) (num : Int) (text : List Int) (v : Value) (tsc tsq : TypeId) (w : World) (hkl : key.length = 32) (hcl : chain.length = 32) (hhl : hash.length = 32) (hhb : Qaj hash) (hsc : w.heap[1]? = some (.cells (ints .u64 Qbi) tsc)) (hsq : w.heap[0]? = some (.cells (ints .u64 Qat) tsq)) (hnc : 1 ≠ g) (hns : 0 ≠ g) (hg : w.heap[g]? = some (.cells (cat [ints .u8 (key), #[.bool false], #[.int .i64 num], ints .u8 (chain), ints .u8 (hash)]) 123)) (htb : Qaj text) (htl : text.length ≤ 1048576) (hst : ∀ W, ExtB g w W → RdK .u8 W.heap.size text v W) :
    Calls Tryd.prog 33 #[.pointer (some ⟨g, 0, none⟩), v] w (fun e W => ∃ u, e = .returned (.tuple #[u, .nilIface]) ∧ OwnN .u8 5 w.heap.size (text) u W ∧ ExtB g w W ∧ W.heap[g]? = some (.cells (cat [ints .u8 (key), #[.bool false], #[.int .i64 num], ints .u8 (chain), ints .u8 (dig (hash ++ text))]) 123)) := by
  obtain ⟨a_t, c_t, rfl, -⟩ := id (hst _ (ExtB.refl g w))
  refine enter 31 [(0, .pointer (some ⟨g, 0, none⟩)), (1, .slice a_t text.length c_t)] Tryd.func33 rfl rfl kj rfl ?_
  refine wp_seq_k fun K4 hK4 => ?_
  refine Qab ?_
  refine Qaa (.slice none 0 0) 4 rfl kj kj ?_
  refine Qaa (.nilIface) 5 rfl kj kj ?_
  refine Qac ?_
  refine hK4 _ _ ?_
  refine wp_seq_k fun K5 hK5 => ?_
  refine wp_seq_k fun K6 hK6 => ?_
  refine Qab ?_
  refine Qaa (.pointer (some ⟨g, 0, none⟩)) 8 rfl kj kj ?_
  refine Qaa (.bool false) 9 rfl kj kj ?_
  refine Qac ?_
  refine hK6 _ _ ?_
  refine cond_false kj ?_
  refine wp_skip ?_
  refine hK5 _ _ ?_
  refine wp_seq_k fun K7 hK7 => ?_
  refine QcE kj fun W1 e1 => ?_
  have x1 : Ext w W1 := Ext.tr (Rely.Ext.refl w) e1
  refine QaP 0 (.pointer (some ⟨g, 0, none⟩)) 12 rfl rfl kj kj (fun _ _ _ h => h) (fun W => by kernel_rfl) ?_
  refine QaP 1 (.pointer (some ⟨g, 0, none⟩)) 13 rfl rfl kj kj (fun _ _ _ h => h) (fun W => by kernel_rfl) ?_
  refine QaP 2 (.pointer (some ⟨g, 0, none⟩)) 14 rfl rfl kj kj (fun _ _ _ h => h) (fun W => by kernel_rfl) ?_
  refine QaP 3 (.pointer (some ⟨g, 0, none⟩)) 15 rfl rfl kj kj (fun _ _ _ h => h) (fun W => by kernel_rfl) ?_
  refine QaP 4 (.pointer (some ⟨g, 0, none⟩)) 16 rfl rfl kj kj (fun _ _ _ h => h) (fun W => by kernel_rfl) ?_
  refine QaP 5 (.pointer (some ⟨g, 66, none⟩)) 17 rfl rfl kj kj (fun _ _ _ h => h) (fun W => by kernel_rfl) ?_
  refine QaP 6 (.slice (some ⟨g, 66, none⟩) 32 32) 18 rfl rfl kj kj (fun _ _ _ h => h) (fun W => by kernel_rfl) ?_
  refine QaP 7 (.slice a_t text.length c_t) 19 rfl rfl kj kj (fun _ _ _ h => h) (fun W => by kernel_rfl) ?_
  have r1_1 := (Qad hg e1)
  have xb1 : ExtB g w W1 := ExtB.ext (ExtB.refl g w) x1
  refine Qea 8 rfl kj (fun v W' => ∃ u, v = .tuple #[u, .nilIface] ∧ OwnN .u8 5 W1.heap.size (text) u W' ∧ ExtB g W1 W' ∧ W'.heap[g]? = some (.cells (cat [ints .u8 (key), #[.bool false], #[.int .i64 num], ints .u8 (chain), ints .u8 (hash)]) 123)) 70 #[.pointer (some ⟨g, 0, none⟩), .func (.func 71) #[] #[], .slice (some ⟨g, 66, none⟩) 32 32, .slice a_t text.length c_t] 20 rfl kj kj ((QiJ g key chain hash num text _ _ _ _ _ hkl hcl hhl r1_1 htl (hst _ (ExtB.ext (ExtB.refl g w) x1))).mono (by rintro e w' ⟨u, rfl, h1, h2, h3⟩; exact ⟨_, rfl, u, rfl, h1, h2, h3⟩)) fun v W2 h8 => ?_
  obtain ⟨u8_, rfl, hu8_, q2, r1_2⟩ := h8
  have x2 : ExtB g w W2 := ExtB.trans xb1 q2
  obtain ⟨a8_, c8_, rfl, -⟩ := id (OwnN.rd hu8_)
  refine QaP 9 (.tuple #[.slice a8_ ((text).length) c8_, .nilIface]) 11 rfl rfl kj kj (fun _ _ _ h => h) (fun W => by kernel_rfl) ?_
  refine QaP 10 (.slice a8_ ((text).length) c8_) 21 rfl rfl kj kj (fun _ _ _ h => h) (fun W => by kernel_rfl) ?_
  refine QaP 11 (.nilIface) 22 rfl rfl kj kj (fun _ _ _ h => h) (fun W => by kernel_rfl) ?_
  refine QaP 12 (.slice a8_ ((text).length) c8_) 6 rfl rfl kj kj (fun _ _ _ h => h) (fun W => by kernel_rfl) ?_
  refine QaP 13 (.nilIface) 7 rfl rfl kj kj (fun _ _ _ h => h) (fun W => by kernel_rfl) ?_
  refine Qgl kj ?_
  refine hK7 _ _ ?_
  refine wp_seq_k fun K9 hK9 => ?_
  refine wp_seq_k fun K10 hK10 => ?_
  refine Qab ?_
  refine Qaa (.nilIface) 23 rfl kj kj ?_
  refine Qaa (.bool false) 24 rfl kj kj ?_
  refine Qac ?_
  refine hK10 _ _ ?_
  refine cond_false kj ?_
  refine wp_skip ?_
  refine hK9 _ _ ?_
  refine wp_seq_k fun K11 hK11 => ?_
  refine Qab ?_
  refine Qaa (.pointer (some ⟨g, 0, none⟩)) 26 rfl kj kj ?_
  refine Qaa (.slice a8_ ((text).length) c8_) 27 rfl kj kj ?_
  refine QaZ (#[.slice a8_ ((text).length) c8_]) 33 1 28 rfl kj kj fun g12 W3 l12 e3 r12_3 => ?_
  have x3 : ExtB g w W3 := ExtB.ext x2 e3
  have b12 : w.heap.size ≤ g12 := Nat.le_trans x2.2.2.2.1 l12
  have f13_3 := (hu8_.ext e3)
  have hps14 : ∀ p ∈ ([(.slice a8_ ((text).length) c8_, text)] : List (Value × List Int)), RdK .u8 W3.heap.size p.2 p.1 W3 ∧ Qaj p.2 := by
    intro p hp
    simp only [List.mem_cons, List.not_mem_nil, or_false] at hp
    rcases hp with rfl
    · exact ⟨RdK.here (OwnN.rd f13_3), htb⟩
  have r2_1 := (Qad hsc e1)
  have r2_2 := (ExtB.row q2 r2_1 hnc)
  have r2_3 := (Qad r2_2 e3)
  have r3_1 := (Qad hsq e1)
  have r3_2 := (ExtB.row q2 r3_1 hns)
  have r3_3 := (Qad r3_2 e3)
  have r1_3 := (Qad r1_2 e3)
  have hmx14 := Qdd g (key) (chain) (hash) false num g12 1 _ ([(.slice a8_ ((text).length) c8_, text)] : List (Value × List Int)) rfl (by decide) tsc tsq W3 hkl hcl hhl hhb r2_3 r3_3 r1_3 r12_3 hps14 (by simp only [List.map_cons, List.map_nil, List.flatten_cons, List.flatten_nil, List.append_nil, List.length_append]; omega)
  rw [show ((List.map Prod.snd ([(.slice a8_ ((text).length) c8_, text)] : List (Value × List Int))).flatten) = text by simp only [List.map_cons, List.map_nil, List.flatten_cons, List.flatten_nil, List.append_nil]] at hmx14
  refine Qa0 (fun v W' => v = .tuple #[] ∧ ExtB g W3 W' ∧ W'.heap[g]? = some (.cells (cat [ints .u8 (key), #[.bool false], #[.int .i64 num], ints .u8 (chain), ints .u8 (dig (hash ++ text))]) 123)) 31 #[.pointer (some ⟨g, 0, none⟩), .slice (some ⟨g12, 0, none⟩) 1 1] 29 rfl kj kj (hmx14.mono fun e w' h => ⟨_, h.1, rfl, h.2⟩) fun v W4 h14 => ?_
  obtain ⟨rfl, q4, r1_4⟩ := h14
  have x4 : ExtB g w W4 := ExtB.trans x3 q4
  refine Qac ?_
  refine hK11 _ _ ?_
  refine wp_seq_k fun K15 hK15 => ?_
  refine Qab ?_
  refine Qaa (.slice a8_ ((text).length) c8_) 30 rfl kj kj ?_
  refine Qaa (.slice a8_ ((text).length) c8_) 4 rfl kj kj ?_
  refine Qaa (.nilIface) 5 rfl kj kj ?_
  refine Qac ?_
  refine hK15 _ _ ?_
  refine wp_ret ?_
  have f16_4 := (Qdc f13_3 q4 (QdP hu8_ (Qa8 r1_1)))
  exact (show bodyPost _ _ _ .ret _ _ from ret2 (.slice a8_ ((text).length) c8_) (.nilIface) rfl (Qa9 kj) (Qa9 kj) ⟨_, rfl, OwnN.base xb1.2.2.2.1 f16_4, x4, r1_4⟩)
set_option maxRecDepth 100000 in
set_option maxHeartbeats 4000000 in
theorem Qk1 (g : Nat) (key chain hash : List Int) (num : Int) (text : List Int) (v : Value) (tsc tsq : TypeId) (w : World) (hkl : key.length = 32) (hcl : chain.length = 32) (hhl : hash.length = 32) (hhb : Qaj hash) (hsc : w.heap[1]? = some (.cells (ints .u64 Qbi) tsc)) (hsq : w.heap[0]? = some (.cells (ints .u64 Qat) tsq)) (hnc : 1 ≠ g) (hns : 0 ≠ g) (hg : w.heap[g]? = some (.cells (cat [ints .u8 (key), #[.bool false], #[.int .i64 num], ints .u8 (chain), ints .u8 (hash)]) 123)) (htb : Qaj text) (htl : text.length ≤ 1048576) (hst : ∀ W, ExtB g w W → RdK .u8 W.heap.size text v W) :
    Calls Tryd.prog 34 #[.pointer (some ⟨g, 0, none⟩), v] w (fun e W => ∃ u, e = .returned (.tuple #[u, .nilIface]) ∧ OwnN .u8 5 w.heap.size (text) u W ∧ ExtB g w W ∧ W.heap[g]? = some (.cells (cat [ints .u8 (key), #[.bool false], #[.int .i64 num], ints .u8 (chain), ints .u8 (dig (hash ++ text))]) 123)) := by
  obtain ⟨a_t, c_t, rfl, -⟩ := id (hst _ (ExtB.refl g w))
  refine enter 31 [(0, .pointer (some ⟨g, 0, none⟩)), (1, .slice a_t text.length c_t)] Tryd.func34 rfl rfl kj rfl ?_
  refine wp_seq_k fun K4 hK4 => ?_
  refine Qab ?_
  refine Qaa (.slice none 0 0) 4 rfl kj kj ?_
  refine Qaa (.nilIface) 5 rfl kj kj ?_
  refine Qac ?_
  refine hK4 _ _ ?_
  refine wp_seq_k fun K5 hK5 => ?_
  refine wp_seq_k fun K6 hK6 => ?_
  refine Qab ?_
  refine Qaa (.pointer (some ⟨g, 0, none⟩)) 8 rfl kj kj ?_
  refine Qaa (.bool false) 9 rfl kj kj ?_
  refine Qac ?_
  refine hK6 _ _ ?_
  refine cond_false kj ?_
  refine wp_skip ?_
  refine hK5 _ _ ?_
  refine wp_seq_k fun K7 hK7 => ?_
  refine QcE kj fun W1 e1 => ?_
  have x1 : Ext w W1 := Ext.tr (Rely.Ext.refl w) e1
  refine QaP 0 (.pointer (some ⟨g, 0, none⟩)) 12 rfl rfl kj kj (fun _ _ _ h => h) (fun W => by kernel_rfl) ?_
  refine QaP 1 (.pointer (some ⟨g, 0, none⟩)) 13 rfl rfl kj kj (fun _ _ _ h => h) (fun W => by kernel_rfl) ?_
  refine QaP 2 (.pointer (some ⟨g, 0, none⟩)) 14 rfl rfl kj kj (fun _ _ _ h => h) (fun W => by kernel_rfl) ?_
  refine QaP 3 (.pointer (some ⟨g, 0, none⟩)) 15 rfl rfl kj kj (fun _ _ _ h => h) (fun W => by kernel_rfl) ?_
  refine QaP 4 (.pointer (some ⟨g, 0, none⟩)) 16 rfl rfl kj kj (fun _ _ _ h => h) (fun W => by kernel_rfl) ?_
  refine QaP 5 (.pointer (some ⟨g, 66, none⟩)) 17 rfl rfl kj kj (fun _ _ _ h => h) (fun W => by kernel_rfl) ?_
  refine QaP 6 (.slice (some ⟨g, 66, none⟩) 32 32) 18 rfl rfl kj kj (fun _ _ _ h => h) (fun W => by kernel_rfl) ?_
  refine QaP 7 (.slice a_t text.length c_t) 19 rfl rfl kj kj (fun _ _ _ h => h) (fun W => by kernel_rfl) ?_
  have r1_1 := (Qad hg e1)
  have xb1 : ExtB g w W1 := ExtB.ext (ExtB.refl g w) x1
  refine Qea 8 rfl kj (fun v W' => ∃ u, v = .tuple #[u, .nilIface] ∧ OwnN .u8 5 W1.heap.size (text) u W' ∧ ExtB g W1 W' ∧ W'.heap[g]? = some (.cells (cat [ints .u8 (key), #[.bool false], #[.int .i64 num], ints .u8 (chain), ints .u8 (hash)]) 123)) 70 #[.pointer (some ⟨g, 0, none⟩), .func (.func 74) #[] #[], .slice (some ⟨g, 66, none⟩) 32 32, .slice a_t text.length c_t] 20 rfl kj kj ((QiJ g key chain hash num text _ _ _ _ _ hkl hcl hhl r1_1 htl (hst _ (ExtB.ext (ExtB.refl g w) x1))).mono (by rintro e w' ⟨u, rfl, h1, h2, h3⟩; exact ⟨_, rfl, u, rfl, h1, h2, h3⟩)) fun v W2 h8 => ?_
  obtain ⟨u8_, rfl, hu8_, q2, r1_2⟩ := h8
  have x2 : ExtB g w W2 := ExtB.trans xb1 q2
  obtain ⟨a8_, c8_, rfl, -⟩ := id (OwnN.rd hu8_)
  refine QaP 9 (.tuple #[.slice a8_ ((text).length) c8_, .nilIface]) 11 rfl rfl kj kj (fun _ _ _ h => h) (fun W => by kernel_rfl) ?_
  refine QaP 10 (.slice a8_ ((text).length) c8_) 21 rfl rfl kj kj (fun _ _ _ h => h) (fun W => by kernel_rfl) ?_
  refine QaP 11 (.nilIface) 22 rfl rfl kj kj (fun _ _ _ h => h) (fun W => by kernel_rfl) ?_
  refine QaP 12 (.slice a8_ ((text).length) c8_) 6 rfl rfl kj kj (fun _ _ _ h => h) (fun W => by kernel_rfl) ?_
  refine QaP 13 (.nilIface) 7 rfl rfl kj kj (fun _ _ _ h => h) (fun W => by kernel_rfl) ?_
  refine Qgl kj ?_
  refine hK7 _ _ ?_
  refine wp_seq_k fun K9 hK9 => ?_
  refine wp_seq_k fun K10 hK10 => ?_
  refine Qab ?_
  refine Qaa (.nilIface) 23 rfl kj kj ?_
  refine Qaa (.bool false) 24 rfl kj kj ?_
  refine Qac ?_
  refine hK10 _ _ ?_
  refine cond_false kj ?_
  refine wp_skip ?_
  refine hK9 _ _ ?_
  refine wp_seq_k fun K11 hK11 => ?_
  refine Qab ?_
  refine Qaa (.pointer (some ⟨g, 0, none⟩)) 26 rfl kj kj ?_
  refine Qaa (.slice a_t text.length c_t) 27 rfl kj kj ?_
  refine QaZ (#[.slice a_t text.length c_t]) 33 1 28 rfl kj kj fun g12 W3 l12 e3 r12_3 => ?_
  have x3 : ExtB g w W3 := ExtB.ext x2 e3
  have b12 : w.heap.size ≤ g12 := Nat.le_trans x2.2.2.2.1 l12
  have hps13 : ∀ p ∈ ([(.slice a_t text.length c_t, text)] : List (Value × List Int)), RdK .u8 W3.heap.size p.2 p.1 W3 ∧ Qaj p.2 := by
    intro p hp
    simp only [List.mem_cons, List.not_mem_nil, or_false] at hp
    rcases hp with rfl
    · exact ⟨RdK.here (hst _ x3), htb⟩
  have r2_1 := (Qad hsc e1)
  have r2_2 := (ExtB.row q2 r2_1 hnc)
  have r2_3 := (Qad r2_2 e3)
  have r3_1 := (Qad hsq e1)
  have r3_2 := (ExtB.row q2 r3_1 hns)
  have r3_3 := (Qad r3_2 e3)
  have r1_3 := (Qad r1_2 e3)
  have hmx13 := Qdd g (key) (chain) (hash) false num g12 1 _ ([(.slice a_t text.length c_t, text)] : List (Value × List Int)) rfl (by decide) tsc tsq W3 hkl hcl hhl hhb r2_3 r3_3 r1_3 r12_3 hps13 (by simp only [List.map_cons, List.map_nil, List.flatten_cons, List.flatten_nil, List.append_nil, List.length_append]; omega)
  rw [show ((List.map Prod.snd ([(.slice a_t text.length c_t, text)] : List (Value × List Int))).flatten) = text by simp only [List.map_cons, List.map_nil, List.flatten_cons, List.flatten_nil, List.append_nil]] at hmx13
  refine Qa0 (fun v W' => v = .tuple #[] ∧ ExtB g W3 W' ∧ W'.heap[g]? = some (.cells (cat [ints .u8 (key), #[.bool false], #[.int .i64 num], ints .u8 (chain), ints .u8 (dig (hash ++ text))]) 123)) 31 #[.pointer (some ⟨g, 0, none⟩), .slice (some ⟨g12, 0, none⟩) 1 1] 29 rfl kj kj (hmx13.mono fun e w' h => ⟨_, h.1, rfl, h.2⟩) fun v W4 h13 => ?_
  obtain ⟨rfl, q4, r1_4⟩ := h13
  have x4 : ExtB g w W4 := ExtB.trans x3 q4
  refine Qac ?_
  refine hK11 _ _ ?_
  refine wp_seq_k fun K14 hK14 => ?_
  refine Qab ?_
  refine Qaa (.slice a8_ ((text).length) c8_) 30 rfl kj kj ?_
  refine Qaa (.slice a8_ ((text).length) c8_) 4 rfl kj kj ?_
  refine Qaa (.nilIface) 5 rfl kj kj ?_
  refine Qac ?_
  refine hK14 _ _ ?_
  refine wp_ret ?_
  have f15_3 := (hu8_.ext e3)
  have f16_4 := (Qdc f15_3 q4 (QdP hu8_ (Qa8 r1_1)))
  exact (show bodyPost _ _ _ .ret _ _ from ret2 (.slice a8_ ((text).length) c8_) (.nilIface) rfl (Qa9 kj) (Qa9 kj) ⟨_, rfl, OwnN.base xb1.2.2.2.1 f16_4, x4, r1_4⟩)
set_option maxHeartbeats 4000000 in
theorem numC (g : Nat) (key chain hash : List Int) (has : Bool) (num : Int) (w : World) (hkl : key.length = 32) (hcl : chain.length = 32) (hhl : hash.length = 32) (hg : w.heap[g]? = some (.cells (cat [ints .u8 (key), #[.bool has], #[.int .i64 num], ints .u8 (chain), ints .u8 (hash)]) 123)) : Calls Tryd.prog 36 #[.pointer (some ⟨g, 0, none⟩)] w (Ret w (.int .i64 num)) := by
  refine enter 10 [(0, .pointer (some ⟨g, 0, none⟩))] Tryd.func36 rfl rfl kj rfl ?_
  refine wp_seq_k fun K2 hK2 => ?_
  refine Qab ?_
  refine Qaa (.int .i64 0) 2 rfl kj kj ?_
  refine Qac ?_
  refine hK2 _ _ ?_
  refine wp_seq_k fun K3 hK3 => ?_
  refine wp_seq_k fun K4 hK4 => ?_
  refine Qab ?_
  refine Qaa (.pointer (some ⟨g, 0, none⟩)) 3 rfl kj kj ?_
  refine Qaa (.bool false) 4 rfl kj kj ?_
  refine Qac ?_
  refine hK4 _ _ ?_
  refine cond_false kj ?_
  refine wp_skip ?_
  refine hK3 _ _ ?_
  refine wp_seq_k fun K5 hK5 => ?_
  refine Qab ?_
  refine Qaa (.pointer (some ⟨g, 0, none⟩)) 5 rfl kj kj ?_
  refine Qaa (.pointer (some ⟨g, 0, none⟩)) 6 rfl kj kj ?_
  refine Qaa (.pointer (some ⟨g, 0, none⟩)) 7 rfl kj kj ?_
  refine Qaa (.pointer (some ⟨g, 33, none⟩)) 8 rfl kj kj ?_
  refine Qaa (.int .i64 num) 9 rfl kj (Qag 3 _ g 33 123 _ (.int .i64 num) _ hg rfl kj (QaE [ints .u8 (key), #[.bool has]] [#[.int .i64 num]] [ints .u8 (chain), ints .u8 (hash)] 33 (by rw [Qan, Qan]; simp only [Array.size_append, cat, ((Qaf _ _).trans hkl)]; rfl) 0 _ rfl) kj) ?_
  refine Qaa (.int .i64 num) 2 rfl kj kj ?_
  refine Qac ?_
  refine hK5 _ _ ?_
  refine wp_ret ?_
  repeat (first | with_reducible refine goR1 ?_ | with_reducible refine goR2 ?_)
  exact (show bodyPost _ _ _ .ret _ _ from ret1 (.int .i64 num) rfl (Qa9 kj) ⟨rfl, (Rely.Ext.refl w)⟩)
set_option maxHeartbeats 4000000 in
theorem QiM (g : Nat) (key chain hash : List Int) (has : Bool) (num : Int) (tc tq : TypeId) (w : World) (hkl : key.length = 32) (hcl : chain.length = 32) (hhl : hash.length = 32) (hcb : Qaj chain) (hc : w.heap[1]? = some (.cells (ints .u64 Qbi) tc)) (hq : w.heap[0]? = some (.cells (ints .u64 Qat) tq)) (hg : w.heap[g]? = some (.cells (cat [ints .u8 (key), #[.bool has], #[.int .i64 num], ints .u8 (chain), ints .u8 (hash)]) 123)) : Calls Tryd.prog 37 #[.pointer (some ⟨g, 0, none⟩)] w (Ret w (.tuple #[.agg (ints .u8 (twA chain)), .agg (ints .u8 (twB chain))])) := by
  refine enter 15 [(0, .pointer (some ⟨g, 0, none⟩))] Tryd.func37 rfl rfl kj rfl ?_
  refine wp_seq_k fun K4 hK4 => ?_
  refine Qab ?_
  refine Qaq (ints .u8 (List.replicate 32 0)) 23 2 rfl kj kj fun g5 W1 l5 e1 r5_1 => ?_
  have x1 : Ext w W1 := Ext.tr (Rely.Ext.refl w) e1
  have b5 : w.heap.size ≤ g5 := Nat.le_trans (Rely.Ext.refl w).size l5
  refine Qaq (ints .u8 (List.replicate 32 0)) 23 3 rfl kj kj fun g6 W2 l6 e2 r6_2 => ?_
  have x2 : Ext w W2 := Ext.tr x1 e2
  have b6 : w.heap.size ≤ g6 := Nat.le_trans x1.size l6
  refine Qac ?_
  refine hK4 _ _ ?_
  refine wp_seq_k fun K7 hK7 => ?_
  refine wp_seq_k fun K8 hK8 => ?_
  refine Qab ?_
  refine Qaa (.pointer (some ⟨g, 0, none⟩)) 4 rfl kj kj ?_
  refine Qaa (.bool false) 5 rfl kj kj ?_
  refine Qac ?_
  refine hK8 _ _ ?_
  refine cond_false kj ?_
  refine wp_skip ?_
  refine hK7 _ _ ?_
  refine wp_seq_k fun K9 hK9 => ?_
  refine Qab ?_
  refine Qaa (.pointer (some ⟨g, 0, none⟩)) 8 rfl kj kj ?_
  refine Qaa (.pointer (some ⟨g, 0, none⟩)) 9 rfl kj kj ?_
  refine Qaa (.pointer (some ⟨g, 34, none⟩)) 10 rfl kj kj ?_
  have r3_1 := (Qad hg e1)
  have r3_2 := (Qad r3_1 e2)
  refine Qaa (.agg (ints .u8 (chain))) 11 rfl kj (QaF 29 _ g 34 123 _ _ _ r3_2 rfl kj (QaE [ints .u8 (key), #[.bool has], #[.int .i64 num]] [ints .u8 (chain)] [ints .u8 (hash)] 34 (by rw [Qan, Qan, Qan]; simp only [Array.size_append, cat, ((Qaf _ _).trans hkl)]; rfl)) kj (isz (n := 32) kj ((Qaf _ _).trans hcl))) ?_
  have r1_1 := (Qad hc e1)
  have r1_2 := (Qad r1_1 e2)
  have r2_1 := (Qad hq e1)
  have r2_2 := (Qad r2_1 e2)
  refine Qax (.tuple #[.agg (ints .u8 (twA chain)), .agg (ints .u8 (twB chain))]) 81 #[.agg (ints .u8 (chain))] 12 rfl kj kj (twoC chain tc tq _ hcl hcb r1_2 r2_2) fun W3 e3 => ?_
  have x3 : Ext w W3 := Ext.tr x2 e3
  refine Qaa (.agg (ints .u8 (twA chain))) 13 rfl kj kj ?_
  refine Qaa (.agg (ints .u8 (twB chain))) 14 rfl kj kj ?_
  have r5_2 := (Qad r5_1 e2)
  have r5_3 := (Qad r5_2 e3)
  refine Qah g5 _ (ints .u8 (twA chain)) 23 r5_3 rfl kj (Qam 23 _ _ g5 23 _ _ r5_3 rfl kj kj (isz (n := 32) kj ((Qaf _ _).trans (Qb8 _))) (eqsz (n := 32) ((Qaf _ _).trans (List.length_replicate (n := 32))) ((Qaf _ _).trans (Qb8 _))) (Qay _ _)) fun W4 p4 r5_4 => ?_
  have x4 : Ext w W4 := Puts.ext p4 x3 b5
  have r6_3 := (Qad r6_2 e3)
  have r6_4 := (Puts.row p4 r6_3 (Qap r5_1 l6))
  refine Qah g6 _ (ints .u8 (twB chain)) 23 r6_4 rfl kj (Qam 23 _ _ g6 23 _ _ r6_4 rfl kj kj (isz (n := 32) kj ((Qaf _ _).trans (Qb3 _))) (eqsz (n := 32) ((Qaf _ _).trans (List.length_replicate (n := 32))) ((Qaf _ _).trans (Qb3 _))) (Qay _ _)) fun W5 p5 r6_5 => ?_
  have x5 : Ext w W5 := Puts.ext p5 x4 b6
  refine Qac ?_
  refine hK9 _ _ ?_
  refine wp_ret ?_
  repeat (first | with_reducible refine goR1 ?_ | with_reducible refine goR2 ?_)
  have r5_5 := (Puts.row p5 r5_4 (Qae r5_1 l6))
  exact (show bodyPost _ _ _ .ret _ _ from ret2 (.agg (ints .u8 (twA chain))) (.agg (ints .u8 (twB chain))) rfl (QaU g5 23 _ r5_5 kj kj (isz (n := 32) kj ((Qaf _ _).trans (Qb8 _)))) (QaU g6 23 _ r6_5 kj kj (isz (n := 32) kj ((Qaf _ _).trans (Qb3 _)))) ⟨rfl, x5⟩)
end Go.Proofs.YtoiendjhplbjjaaDoor.Ci
end
section
namespace Go.Proofs.YtoiendjhplbjjaaDoor.Ci
open Go Go.RowKit
open Rely Auto Own Sha Sha
set_option linter.unusedVariables false
set_option linter.unusedSimpArgs false
open Cha
open Ae hiding run_storeQ
open Ll hiding newC run_storeQ
def fsH (has : Bool) (key hash : List Int) (num : Nat) (text : List Int) : List Int := bif has then Qcx key (nonV num) hash text else text
def nxH (has : Bool) (num : Nat) : Nat := bif has then num + 1 else num
theorem QjT (has : Bool) (num : Nat) : nxH has num ≤ num + 1 := by cases has <;> simp [nxH]
theorem QkC (g : Nat) (key chain hash : List Int) (has : Bool) (num : Nat) (text fs : List Int) (efs : fs = fsH has key hash num text) (v : Value) (th tq tsc tsq : TypeId) (w : World) (hkl : key.length = 32) (hcl : chain.length = 32) (hhl : hash.length = 32) (hhb : Qaj hash) (hh : w.heap[2]? = some (.cells (ints .u32 [1634760805, 857760878, 2036477234, 1797285236]) th)) (hq : w.heap[3]? = some (.cells (ints .i64 [0, 4, 8, 12, 1, 5, 9, 13, 2, 6, 10, 14, 3, 7, 11, 15, 0, 5, 10, 15, 1, 6, 11, 12, 2, 7, 8, 13, 3, 4, 9, 14]) tq)) (hsc : w.heap[1]? = some (.cells (ints .u64 Qbi) tsc)) (hsq : w.heap[0]? = some (.cells (ints .u64 Qat) tsq)) (hnh : 2 ≠ g) (hnq : 3 ≠ g) (hnc : 1 ≠ g) (hns : 0 ≠ g) (hg : w.heap[g]? = some (.cells (cat [ints .u8 (key), #[.bool has], #[.int .i64 ((num : Nat) : Int)], ints .u8 (chain), ints .u8 (hash)]) 123)) (hn : num < 4294967295) (htb : Qaj text) (htl : text.length ≤ 1048576) (hst : ∀ W, ExtB g w W → RdK .u8 W.heap.size text v W) :
    Calls Tryd.prog 33 #[.pointer (some ⟨g, 0, none⟩), v] w (fun e W => ∃ u, e = .returned (.tuple #[u, .nilIface]) ∧ OwnN .u8 5 w.heap.size (fs) u W ∧ ExtB g w W ∧ W.heap[g]? = some (.cells (cat [ints .u8 (key), #[.bool has], #[.int .i64 ((nxH has num : Nat) : Int)], ints .u8 (chain), ints .u8 (dig (hash ++ fs))]) 123)) := by
  subst efs
  cases has with
  | false => exact QkB g key chain hash _ text v tsc tsq w hkl hcl hhl hhb hsc hsq hnc hns hg htb htl hst
  | true => exact Qkc g key chain hash num text _ rfl v _ th tq tsc tsq w hkl hcl hhl hhb hh hq hsc hsq hnh hnq hnc hns hg hn (QcB _ _ _ _) (Qck _ _ _ _) htl (hst _ (ExtB.refl g w))
theorem Qk2 (g : Nat) (key chain hash : List Int) (has : Bool) (num : Nat) (text fs : List Int) (efs : fs = fsH has key hash num text) (v : Value) (th tq tsc tsq : TypeId) (w : World) (hkl : key.length = 32) (hcl : chain.length = 32) (hhl : hash.length = 32) (hhb : Qaj hash) (hh : w.heap[2]? = some (.cells (ints .u32 [1634760805, 857760878, 2036477234, 1797285236]) th)) (hq : w.heap[3]? = some (.cells (ints .i64 [0, 4, 8, 12, 1, 5, 9, 13, 2, 6, 10, 14, 3, 7, 11, 15, 0, 5, 10, 15, 1, 6, 11, 12, 2, 7, 8, 13, 3, 4, 9, 14]) tq)) (hsc : w.heap[1]? = some (.cells (ints .u64 Qbi) tsc)) (hsq : w.heap[0]? = some (.cells (ints .u64 Qat) tsq)) (hnh : 2 ≠ g) (hnq : 3 ≠ g) (hnc : 1 ≠ g) (hns : 0 ≠ g) (hg : w.heap[g]? = some (.cells (cat [ints .u8 (key), #[.bool has], #[.int .i64 ((num : Nat) : Int)], ints .u8 (chain), ints .u8 (hash)]) 123)) (hn : num < 4294967295) (htb : Qaj text) (htl : text.length ≤ 1048576) (hst : ∀ W, ExtB g w W → RdK .u8 W.heap.size fs v W) :
    Calls Tryd.prog 34 #[.pointer (some ⟨g, 0, none⟩), v] w (fun e W => ∃ u, e = .returned (.tuple #[u, .nilIface]) ∧ OwnN .u8 5 w.heap.size (text) u W ∧ ExtB g w W ∧ W.heap[g]? = some (.cells (cat [ints .u8 (key), #[.bool has], #[.int .i64 ((nxH has num : Nat) : Int)], ints .u8 (chain), ints .u8 (dig (hash ++ fs))]) 123)) := by
  subst efs
  cases has with
  | false => exact Qk1 g key chain hash _ text v tsc tsq w hkl hcl hhl hhb hsc hsq hnc hns hg htb htl hst
  | true => exact QjL g key chain hash num text _ rfl v th tq tsc tsq w hkl hcl hhl hhb hh hq hsc hsq hnh hnq hnc hns hg hn (QcB _ _ _ _) (Qck _ _ _ _) htb htl hst
end Go.Proofs.YtoiendjhplbjjaaDoor.Ci
end
section
namespace Go.Proofs.YtoiendjhplbjjaaDoor.Auto
open Go Go.RowKit Go.WideShapes
open Rely
set_option linter.unusedVariables false
section
variable {H : Type} {enc : TypeId × Value → H} {P : Program} {W w : World} {r : Reach} {base b0 : Nat} {sp : Nat → Bool} {held : Bool}
end
end Go.Proofs.YtoiendjhplbjjaaDoor.Auto
end
section
namespace Go.Proofs.YtoiendjhplbjjaaDoor.Auto
open Go Go.RowKit
open Rely
set_option linter.unusedVariables false
theorem Qdp {P : Program} {w : World} : ∀ (laid : List (String × DataW Unit)) (ps : List MemPlace) (n : String) (d : DataW Unit), DataW.LaidVars P w laid ps → (n, d) ∈ laid →
    ∃ g t cs fuel p, P.globalNamed n = some g ∧ (P.globals[g]?).map (·.type) = some t ∧ w.var? P n = some cs ∧ DataW.trod (fun _ => ()) P w 0 (fun _ => true) false fuel t cs.toList = some (d, p) ∧ ∀ x ∈ MemPlace.row ⟨g, 0, none⟩ cs.size, x ∈ ps
  | [], _, _, _, _, h => by cases h
  | (n0, d0) :: r, ps, n, d, ⟨g, t, cs, fuel, p, q, h1, h2, h3, h4, h5, h6⟩, h => by
    subst h6
    rcases List.mem_cons.1 h with h | h
    · cases h
      exact ⟨g, t, cs, fuel, p, h1, h2, h3, h4, fun x hx => List.mem_append_left _ (List.mem_append_left _ hx)⟩
    · obtain ⟨g', t', cs', fuel', p', a, b, c, e, f⟩ := Qdp r q n d h5 h
      exact ⟨g', t', cs', fuel', p', a, b, c, e, fun x hx => List.mem_append_right _ (f x hx)⟩
theorem Qff {P : Program} {w : World} {laid : List (String × DataW Unit)} {n : String} {k : IntKind} {zs : List Int} {g : Nat} {t e : TypeId} {m : Nat} (h : laidMet P laid w) (hm : (n, Lib.tabData k zs) ∈ laid)
    (hg : P.globalNamed n = some g) (hty : (P.globals[g]?).map (·.type) = some t) (ht : P.underlying t = some (.array m e)) (he : P.underlying e = some (.int k)) (hce : P.cellsOf e = 1) (hct : P.cellsOf t = m) (h0 : 0 < zs.length) :
    ∃ t, w.heap[g]? = some (.cells (ints k zs) t) := by
  obtain ⟨ps, hL, -, hC⟩ := h
  obtain ⟨g', t', cs, fuel, p, hg', ht', hvar, hd, hin⟩ := Qdp _ _ _ _ hL hm
  obtain rfl := Option.some.inj (hg.symm.trans hg')
  obtain rfl := Option.some.inj (hty.symm.trans ht')
  have hcs := Lib.cells_of_tab ht he hce hct hd
  have hsz : 0 < cs.size := by rw [← Array.length_toList, hcs, List.length_map]; exact h0
  obtain ⟨⟨c, t2, hc⟩, -⟩ := hC g 0 (hin _ (List.mem_map.2 ⟨0, List.mem_range.2 hsz, rfl⟩))
  unfold World.var? at hvar
  rw [hg] at hvar
  simp only [Option.bind_some, hc, Option.some.injEq] at hvar
  subst hvar
  refine ⟨t2, hc.trans ?_⟩
  rw [show c = ints k zs from by rw [ints, ← hcs]]
theorem QiC {bs : List Int} (h : ∀ n ∈ bs, (Lit.int .u8 n).wf = true) : Qaj bs := fun n hn => by
  have := h n hn
  simpa [Lit.wf, IntKind.min, IntKind.max, IntKind.signed, IntKind.bits] using this
end Go.Proofs.YtoiendjhplbjjaaDoor.Auto
end
section
namespace Go.Proofs.YtoiendjhplbjjaaDoor.Auto
open Go Go.RowKit Go.WideShapes Go.ChangeShapes Go.ChangeAt
open Rely Go.Deep
set_option linter.unusedVariables false
section
variable {H : Type} {enc : TypeId × Value → H} {P : Program} {w : World} {b0 : Nat} {held : Bool}
structure OpV where
  kind : Int
  a : Option Addr
  c : Nat
  xs : List Int
  n : Int
def OpAt (w : World) (gT oT i : Nat) (o : OpV) : Prop :=
  w.cell? ⟨gT, oT + i * 3, none⟩ = some (.int .i64 o.kind) ∧ w.cell? ⟨gT, oT + i * 3 + 1, none⟩ = some (.slice o.a o.xs.length o.c) ∧ w.cell? ⟨gT, oT + i * 3 + 2, none⟩ = some (.int .i64 o.n) ∧
    RdK .u8 w.heap.size o.xs (.slice o.a o.xs.length o.c) w ∧ Qaj o.xs ∧ (Lit.int .i64 o.kind).wf = true ∧ (Lit.int .i64 o.n).wf = true
theorem Qj6 (x : Addr) (i j : Nat) : (x.add i).add j = x.add (i + j) := by
  by_cases hi : i = 0 <;> by_cases hj : j = 0 <;> simp [Addr.add, hi, hj, Nat.add_assoc]
theorem open_ops {t s e : TypeId} {f0 f1 f2 : Field} {ad : Option Addr} {len cap : Nat} {d : DataW H} {p : List MemPlace} (hs : P.underlying t = some (.slice s)) (hss : P.underlying s = some (.struct #[f0, f1, f2])) (ho : f0.offset = 0 ∧ f1.offset = 1 ∧ f2.offset = 2)
    (h0 : P.underlying f0.type = some (.int .i64)) (h1 : P.underlying f1.type = some (.slice e)) (h2 : P.underlying f2.type = some (.int .i64)) (hc : P.cellsOf f0.type = 1 ∧ P.cellsOf f1.type = 1 ∧ P.cellsOf f2.type = 1)
    (he : P.underlying e = some (.int .u8)) (hce : P.cellsOf e = 1) (hcs : P.cellsOf s = 3)
    (h : DataW.Trod enc P w b0 (fun _ => true) held t (.slice ad len cap) d p) :
    ∃ gT oT : Nat, (0 < len → ad = some ⟨gT, oT, none⟩ ∧ gT < w.heap.size) ∧ ∀ i, i < len → ∃ o, OpAt w gT oT i o := by
  obtain ⟨fuel, hf⟩ := h
  rcases DataW.trod_slice hs hf with ⟨hcs', -⟩ | ⟨x, l, c, elems, rest, n, -, hcs', -, hb, hl, hmx, hlen, hel, -, -⟩
  · simp [Value.cells] at hcs'
    obtain ⟨rfl, rfl, rfl⟩ := hcs'
    exact ⟨0, 0, fun h => absurd h (by omega), fun i hi => absurd hi (by omega)⟩
  · simp [Value.cells] at hcs'
    obtain ⟨rfl, rfl, rfl⟩ := hcs'
    have key : ∀ i, i < len → ∃ o : OpV, w.cell? (x.add (i * 3)) = some (.int .i64 o.kind) ∧ w.cell? (x.add (i * 3 + 1)) = some (.slice o.a o.xs.length o.c) ∧ w.cell? (x.add (i * 3 + 2)) = some (.int .i64 o.n) ∧
        RdK .u8 w.heap.size o.xs (.slice o.a o.xs.length o.c) w ∧ Qaj o.xs ∧ (Lit.int .i64 o.kind).wf = true ∧ (Lit.int .i64 o.n).wf = true := fun i hi => by
      have h4 := hel i hi
      rw [hcs, List.getElem?_eq_getElem (by omega)] at h4
      obtain ⟨cs, hc1, hc2⟩ := Option.bind_eq_some_iff.1 h4
      obtain ⟨hn, q1, q2⟩ := World.cells?_some hc1
      obtain ⟨y0, y1, y2, m, -, hl3, t0, t1, t2⟩ := trod_struct3 hss hc2
      rw [ho.1, hc.1] at t0
      rw [ho.2.1, hc.2.1] at t1
      rw [ho.2.2, hc.2.2] at t2
      rw [hcs] at hl3
      have p0 := q2 0 (by omega)
      have p1 := q2 1 (by omega)
      have p2 := q2 2 (by omega)
      rw [Qj6] at p0 p1 p2
      obtain ⟨z0, e0, -, w0⟩ := DataW.trod_int h0 t0
      obtain ⟨z2, e2, -, w2⟩ := DataW.trod_int h2 t2
      match cs, hl3 with
      | [c0, c1, c2], _ =>
        simp only [List.drop_zero, List.drop_succ_cons, List.take_succ_cons, List.take_zero, List.cons.injEq, and_true] at e0 e2
        subst e0; subst e2
        simp only [List.drop_succ_cons, List.drop_zero, List.take_succ_cons, List.take_zero] at t1
        rcases open_ints h1 he hce t1 with ⟨hcv, -⟩ | ⟨y, l, cc, zs, hcv, -, hl2, hm2, hz2, -, hcell, hwz⟩
        · simp only [List.cons.injEq, and_true] at hcv
          subst hcv
          exact ⟨⟨z0, none, 0, [], z2⟩, p0, p1, p2, ⟨none, 0, rfl, Nat.le_refl _, Nat.zero_le _, fun _ => rfl, .inl rfl⟩, (fun x hx => by cases hx), w0, w2⟩
        · simp only [List.cons.injEq, and_true] at hcv
          subst hcv
          obtain ⟨r, rl, rf⟩ := QgN (k := .u8) (w := w) (a := some y) (len := l) (cap := cc) (zs := zs) (.inr ⟨y, rfl, hl2, hm2, by simpa using hz2, hcell, hwz⟩)
          refine ⟨⟨z0, some y, cc, zs.take l, z2⟩, p0, ?_, p2, ?_, QiC rf, w0, w2⟩
          · show _ = some (Value.slice (some y) (zs.take l).length cc)
            rw [rl]; exact p1
          · show RdK .u8 w.heap.size (zs.take l) (.slice (some y) (zs.take l).length cc) w
            rw [rl]; exact r
    rcases Nat.eq_zero_or_pos len with h0' | h0'
    · exact ⟨0, 0, fun h => absurd h (by omega), fun i hi => absurd hi (by omega)⟩
    obtain ⟨b, off, spot⟩ := x
    have hspot : spot = none := by
      obtain ⟨_, hq, -⟩ := key 0 h0'
      simpa [Addr.add] using World.cell?_spot hq
    subst hspot
    obtain ⟨_, hq0, -⟩ := key 0 h0'
    rw [WideShapes.add_plain, Nat.zero_mul, Nat.add_zero] at hq0
    refine ⟨b, off, fun _ => ⟨rfl, QdF hq0⟩, fun i hi => ?_⟩
    obtain ⟨o, k1, k2, k3, k4⟩ := key i hi
    rw [WideShapes.add_plain] at k1 k2 k3
    exact ⟨o, k1, by rw [Nat.add_assoc]; exact k2, by rw [Nat.add_assoc]; exact k3, k4⟩
end
end Go.Proofs.YtoiendjhplbjjaaDoor.Auto
end
section
namespace Go.Proofs.YtoiendjhplbjjaaDoor.Ci
open Go Go.RowKit
open Rely Auto Own Sha Sha
set_option linter.unusedVariables false
set_option linter.unusedSimpArgs false
open Cha
open Ae hiding run_storeQ
open Ll hiding newC run_storeQ
theorem QfP {P : Program} {ρ : Operand → Value} {o : Oper} {w : World} (t : TypeId) (x y : Operand) (k : IntKind) (n g off len cap : Nat) (e : TypeId) (sz : Nat) (ho : o.op = .indexAddr t x y) (hx : ρ x = .slice (some ⟨g, off, none⟩) len cap) (hy : ρ y = .int k n)
    (hu : P.underlying t = some (.slice e)) (hs : (P.info? e).map (·.size) = some sz) (hn : n < len) : (execOp ρ o).run P w = .ok (.value (.pointer (some ⟨g, off + n * sz, none⟩))) w := by
  cases hq : P.info? e with
  | none => simp [hq] at hs
  | some i =>
    have hs' : i.size = sz := by simpa [hq] using hs
    have hadd : (⟨g, off, none⟩ : Addr).add (n * sz) = ⟨g, off + n * sz, none⟩ := by unfold Addr.add; split <;> simp_all
    have h0 : (0 : Int) ≤ (n : Int) := by omega
    have h1 : (n : Int) < (len : Int) := by omega
    unfold execOp
    simp only [ho, hx, hy]
    simp [Instr.indexAt, asIntOf, run_underlying hu, sizeOf, typeInfo, hq, hs', h0, hn, hadd]
theorem QfQ {w : World} {g k : Nat} {v : Value} (h : w.cell? ⟨g, k, none⟩ = some v) : ∃ cs t fr, w.heap[g]? = some (.cells cs t fr) := by
  unfold World.cell? at h
  split at h
  · next c t f e => exact ⟨c, t, f, e⟩
  · cases h
theorem QeA {P : Program} {ρ : Operand → Value} {o : Oper} {w : World} (t : TypeId) (x y : Operand) (k : IntKind) (n g off len cap : Nat) (e : TypeId) (sz : Nat) (ad : Option Addr) (ha : ad = some ⟨g, off, none⟩) (ho : o.op = .indexAddr t x y) (hx : ρ x = .slice ad len cap) (hy : ρ y = .int k n)
    (hu : P.underlying t = some (.slice e)) (hs : (P.info? e).map (·.size) = some sz) (hn : n < len) : (execOp ρ o).run P w = .ok (.value (.pointer (some ⟨g, off + n * sz, none⟩))) w := by
  subst ha
  exact QfP t x y k n g off len cap e sz ho hx hy hu hs hn
theorem OpAt.ext {w W : World} {gT oT i : Nat} {o : OpV} (h : OpAt w gT oT i o) (e : Ext w W) : OpAt W gT oT i o := by
  obtain ⟨h1, h2, h3, h4, h5⟩ := h
  have hb : ∀ {k : Nat} {v : Value}, w.cell? ⟨gT, k, none⟩ = some v → W.cell? ⟨gT, k, none⟩ = some v := fun h => by
    rw [← h]; exact World.cell?_of_block (e.block gT (QdF h))
  exact ⟨hb h1, hb h2, hb h3, RdK.here (h4.ext e), h5⟩
theorem OpAt.rd {w : World} {gT oT i : Nat} {o : OpV} (h : OpAt w gT oT i o) : RdK .u8 w.heap.size o.xs (.slice o.a o.xs.length o.c) w := h.2.2.2.1
theorem OpAt.bytes {w : World} {gT oT i : Nat} {o : OpV} (h : OpAt w gT oT i o) : Qaj o.xs := h.2.2.2.2.1
theorem Qen {P : Program} {ρ : Operand → Value} {o : Oper} {w : World} (ty : TypeId) (x : Operand) (g oT i : Nat) (v : OpV) (h : OpAt w g oT i v)
    (ho : o.op = .load ty x) (hx : ρ x = .pointer (some ⟨g, oT + i * 3, none⟩)) (hu : aggD P ty = some true) (hi : (P.info? ty).map (·.size) = some 3) : (execOp ρ o).run P w = .ok (.value (.agg (cat [#[.int .i64 v.kind], #[.slice v.a v.xs.length v.c], #[.int .i64 v.n]]))) w := by
  obtain ⟨h1, h2, h3, -⟩ := h
  obtain ⟨cs, t, fr, hg⟩ := QfQ h1
  have c : ∀ {k : Nat} {u : Value}, w.cell? ⟨g, k, none⟩ = some u → cs[k]? = some u := fun h => by
    unfold World.cell? at h
    simp only [hg] at h
    rw [← h]; rfl
  refine QaF ty x g (oT + i * 3) t cs _ fr hg ho hx (fun j u hv => ?_) hu (by rw [hi]; rfl)
  rcases j with _ | _ | _ | j
  · have e : some (Value.int .i64 v.kind) = some u := hv
    rw [← e]; exact c h1
  · have e : some (Value.slice v.a v.xs.length v.c) = some u := hv
    rw [← e]; exact c h2
  · have e : some (Value.int .i64 v.n) = some u := hv
    rw [← e]; exact c h3
  · simp [cat] at hv
set_option maxHeartbeats 4000000 in
theorem QiV (len cap gT oT : Nat) (ad : Option Addr) (ops : Nat → OpV) (w : World) (had : 0 < len → ad = some ⟨gT, oT, none⟩) (hops : ∀ i, i < len → OpAt w gT oT i (ops i)) : Calls Tryd.prog 16 #[.slice ad len cap] w (fun e W => ∃ b, e = .returned (.bool b) ∧ Ext w W ∧ (b = false → ∀ i, i < len → i ≤ 60 ∧ (ops i).xs.length ≤ 500) ∧ (b = true → ¬ ∀ i, i < len → i ≤ 60 ∧ (ops i).xs.length ≤ 500)) := by
 refine enter 21 [(0, .slice ad len cap)] Tryd.func16 rfl rfl kj rfl ?_
 refine wp_seq_k fun K1 hK1 => ?_
 refine Qab ?_
 refine Qaa (.bool false) 2 rfl kj kj ?_
 refine Qac ?_
 refine hK1 _ _ ?_
 refine wp_seq_k fun K2 hK2 => ?_
 refine wp_seq_k fun K3 hK3 => ?_
 refine Qab ?_
 refine Qaa (.slice ad len cap) 5 rfl kj kj ?_
 refine Qaa (.int .i64 ((len : Nat) : Int)) 6 rfl kj kj ?_
 refine Qaa (.int .i64 0) 7 rfl kj kj ?_
 refine Qac ?_
 refine hK3 _ _ ?_
 refine wp_block ?_
 refine QaO (fun (s1 : Nat) => [(5, .slice ad len cap), (6, .int .i64 ((len : Nat) : Int)), (7, .int .i64 ((s1 : Nat) : Int))]) (fun (s1 : Nat) W => (s1 ≤ len) ∧ (∀ j, j < s1 → j ≤ 60 ∧ (ops j).xs.length ≤ 500) ∧ (Ext w W) ∧ (Ext w W)) (fun (s1 : Nat) => len - s1) 0 ⟨rfl, rfl, rfl, trivial⟩ ⟨(Nat.zero_le _), (fun j hj => absurd hj (Nat.not_lt_zero j)), (Rely.Ext.refl w), (Rely.Ext.refl w)⟩ fun s1 X1 V1 hI1 => ?_
 obtain ⟨i, hs1⟩ : ∃ z, z = s1 := ⟨_, rfl⟩
 subst hs1
 obtain ⟨hi, hsm, kk1, xx1⟩ := hI1
 replace hi : i ≤ len := hi
 replace hsm : ∀ j, j < i → j ≤ 60 ∧ (ops j).xs.length ≤ 500 := hsm
 replace kk1 : Ext w V1 := kk1
 replace xx1 : Ext w V1 := xx1
 have e1 := kk1
 refine wp_seq_k fun K4 hK4 => ?_
 refine Qab ?_
 refine Qaa (.bool (decide (((i : Nat) : Int) < ((len : Nat) : Int)))) 8 rfl kj kj ?_
 refine Qac ?_
 refine hK4 _ _ ?_
 refine wp_seq_k fun K5 hK5 => ?_
 refine Qa7 (t := decide (((i : Nat) : Int) < ((len : Nat) : Int))) kj (fun c6 => ?_) (fun c6 => ?_)
 ·skip
  have hlt : i < len := by have := of_decide_eq_true c6; omega
  obtain ⟨op, hopE⟩ : ∃ z, z = ops i := ⟨_, rfl⟩
  have hop : OpAt w gT oT i op := hopE ▸ hops i hlt
  refine wp_skip ?_
  refine hK5 _ _ ?_
  refine wp_seq_k fun K7 hK7 => ?_
  refine wp_block ?_
  refine wp_seq_k fun K8 hK8 => ?_
  refine Qab ?_
  refine Qaa (.int .i64 ((i : Nat) : Int)) 9 rfl kj kj ?_
  refine Qaa (.pointer (some ⟨gT, oT + i * 3, none⟩)) 10 rfl kj (QeA 24 _ _ .i64 i gT oT len cap 35 3 ad (had (by omega)) rfl kj kj kj kj hlt) ?_
  refine Qaa (.agg (cat [#[.int .i64 op.kind], #[.slice op.a op.xs.length op.c], #[.int .i64 op.n]])) 11 rfl kj (Qen 35 _ gT oT i op (OpAt.ext hop xx1) rfl kj kj kj) ?_
  refine Qaq (cat [#[.int .i64 0], #[.slice none 0 0], #[.int .i64 0]]) 35 4 rfl kj kj fun g9 W2 l9 e2 r9_2 => ?_
  have x2 : Ext w W2 := Ext.tr xx1 e2
  have b9 : w.heap.size ≤ g9 := Nat.le_trans xx1.size l9
  refine Qaa (.int .i64 ((i : Nat) : Int)) 3 rfl kj kj ?_
  refine Qah g9 _ (cat [#[.int .i64 op.kind], #[.slice op.a op.xs.length op.c], #[.int .i64 op.n]]) 35 r9_2 rfl kj (Qam 35 _ _ g9 35 _ _ r9_2 rfl kj kj (isz (n := 3) kj kj) (eqsz (n := 3) kj kj) kj) fun W3 p3 r9_3 => ?_
  have x3 : Ext w W3 := Puts.ext p3 x2 b9
  refine Qac ?_
  refine hK8 _ _ ?_
  refine wp_seq_k fun K10 hK10 => ?_
  rcases Nat.lt_or_ge 60 i with h60 | h60
  ·skip
   refine Qab ?_
   refine Qaa (.int .i64 ((i : Nat) : Int)) 12 rfl kj kj ?_
   refine Qaa (.bool true) 13 rfl kj (Qal (u := .bool (decide (((i : Nat) : Int) > 60))) kj (congrArg Value.bool (decide_eq_true (by omega)))) ?_
   refine Qaa (.bool true) 14 rfl kj kj ?_
   refine Qbm 15 rfl kj ?_
   refine Qbm 16 rfl kj ?_
   refine Qbm 17 rfl kj ?_
   refine Qbm 18 rfl kj ?_
   refine Qaa (.bool true) 19 rfl kj kj ?_
   refine Qac ?_
   refine hK10 _ _ ?_
   refine cond_true kj ?_
   refine wp_seq_k fun K11 hK11 => ?_
   refine Qab ?_
   refine Qaa (.bool true) 2 rfl kj kj ?_
   refine Qac ?_
   refine hK11 _ _ ?_
   refine wp_ret ?_
   repeat (first | with_reducible refine goR1 ?_ | with_reducible refine goR2 ?_)
   exact (show bodyPost _ _ _ .ret _ _ from ret1 (.bool true) rfl (Qa9 kj) ⟨true, rfl, x3, (fun h => by cases h), fun _ h => absurd (h i hlt).1 (by omega)⟩)
  ·skip
   refine Qab ?_
   refine Qaa (.int .i64 ((i : Nat) : Int)) 12 rfl kj kj ?_
   refine Qaa (.bool false) 13 rfl kj (Qal (u := .bool (decide (((i : Nat) : Int) > 60))) kj (congrArg Value.bool (decide_eq_false (by omega)))) ?_
   refine Qaa (.bool false) 14 rfl kj kj ?_
   refine Qaa (.pointer (some ⟨g9, 1, none⟩)) 15 rfl kj kj ?_
   refine Qaa (.slice op.a op.xs.length op.c) 16 rfl kj (Qag 33 _ g9 1 35 _ (.slice op.a op.xs.length op.c) _ r9_3 rfl kj kj kj) ?_
   refine Qaa (.int .i64 ((op.xs.length : Nat) : Int)) 17 rfl kj kj ?_
   refine Qaa (.bool (decide (((op.xs.length : Nat) : Int) > 500))) 18 rfl kj kj ?_
   refine Qaa (.bool (decide (((op.xs.length : Nat) : Int) > 500))) 19 rfl kj kj ?_
   refine Qac ?_
   refine hK10 _ _ ?_
   refine Qa7 (t := decide (((op.xs.length : Nat) : Int) > 500)) kj (fun c12 => ?_) (fun c12 => ?_)
   ·skip
    have hno : ¬ op.xs.length ≤ 500 := by have := of_decide_eq_true c12; omega
    refine wp_seq_k fun K13 hK13 => ?_
    refine Qab ?_
    refine Qaa (.bool true) 2 rfl kj kj ?_
    refine Qac ?_
    refine hK13 _ _ ?_
    refine wp_ret ?_
    repeat (first | with_reducible refine goR1 ?_ | with_reducible refine goR2 ?_)
    exact (show bodyPost _ _ _ .ret _ _ from ret1 (.bool true) rfl (Qa9 kj) ⟨true, rfl, x3, (fun h => by cases h), fun _ h => hno (hopE ▸ (h i hlt).2)⟩)
   ·skip
    have hx5 : op.xs.length ≤ 500 := by have := of_decide_eq_false c12; omega
    refine wp_skip ?_
    refine hK7 _ _ ?_
    refine Qab ?_
    refine Qaa (.int .i64 ((i + 1 : Nat) : Int)) 20 rfl kj (Qal (u := .int .i64 (IntKind.i64.wrap (((i : Nat) : Int) + 1))) kj (congrArg (Value.int .i64) (i64n _ _ (by omega) (by omega)))) ?_
    refine Qaa (.int .i64 ((i + 1 : Nat) : Int)) 7 rfl kj kj ?_
    refine Qac ?_
    have y0_2 : Ext w W2 := (Rely.Ext.trans e1 e2)
    have y0_3 : Ext w W3 := (Puts.ext p3 y0_2 (Nat.le_trans e1.size l9))
    repeat (first | with_reducible refine goX1 ?_ | with_reducible refine goX2 ?_ | with_reducible refine goX3 ?_)
    exact QaI (i + 1) ⟨rfl, rfl, rfl, trivial⟩ ⟨(by omega), (fun j hj => (Nat.lt_or_ge j i).elim (hsm j) fun h => by have e : j = i := (by omega); rw [e]; exact ⟨h60, hopE ▸ hx5⟩), y0_3, x3⟩ (by omega)
 ·skip
  have heq : i = len := by have := of_decide_eq_false c6; omega
  refine wp_exit ?_
  refine hK2 _ _ ?_
  refine wp_seq_k fun K14 hK14 => ?_
  refine Qab ?_
  refine Qaa (.bool false) 2 rfl kj kj ?_
  refine Qac ?_
  refine hK14 _ _ ?_
  refine wp_ret ?_
  repeat (first | with_reducible refine goR1 ?_ | with_reducible refine goR2 ?_)
  exact (show bodyPost _ _ _ .ret _ _ from ret1 (.bool false) rfl (Qa9 kj) ⟨false, rfl, xx1, (fun _ j hj => hsm j (by omega)), fun h => by cases h⟩)
theorem Qjt (len cap gT oT : Nat) (ad : Option Addr) (ops : Nat → OpV) (w : World) (had : 0 < len → ad = some ⟨gT, oT, none⟩) (hops : ∀ i, i < len → OpAt w gT oT i (ops i)) (h : ¬ ∀ i, i < len → i ≤ 60 ∧ (ops i).xs.length ≤ 500) : Calls Tryd.prog 16 #[.slice ad len cap] w (Ret w (.bool true)) :=
  (QiV len cap gT oT ad ops w had hops).mono fun e W ⟨b, h1, h2, h3, h4⟩ => by
    cases b with
    | true => exact ⟨h1, h2⟩
    | false => exact absurd (h3 rfl) h
theorem QhE (len cap gT oT : Nat) (ad : Option Addr) (ops : Nat → OpV) (w : World) (had : 0 < len → ad = some ⟨gT, oT, none⟩) (hops : ∀ i, i < len → OpAt w gT oT i (ops i)) (h : ∀ i, i < len → i ≤ 60 ∧ (ops i).xs.length ≤ 500) : Calls Tryd.prog 16 #[.slice ad len cap] w (Ret w (.bool false)) :=
  (QiV len cap gT oT ad ops w had hops).mono fun e W ⟨b, h1, h2, h3, h4⟩ => by
    cases b with
    | false => exact ⟨h1, h2⟩
    | true => exact absurd h (h4 rfl)
end Go.Proofs.YtoiendjhplbjjaaDoor.Ci
end
section
namespace Go.Proofs.YtoiendjhplbjjaaDoor.Ci
open Go Go.RowKit
open Rely Auto Own Sha Sha
set_option linter.unusedVariables false
set_option linter.unusedSimpArgs false
open Cha
open Ae hiding run_storeQ
open Ll hiding newC run_storeQ
set_option maxRecDepth 100000 in
set_option maxHeartbeats 400000 in
theorem Qki (s : ByteArray) (nm : List Int) (hs : strB s = nm) (hnb : Qaj nm) (len cap gT oT : Nat) (ad : Option Addr) (ops : Nat → OpV)  (th tq tsc tsq : TypeId) (w : World) (had : 0 < len → ad = some ⟨gT, oT, none⟩) (hops : ∀ i, i < len → OpAt w gT oT i (ops i)) (hh : w.heap[2]? = some (.cells (ints .u32 [1634760805, 857760878, 2036477234, 1797285236]) th)) (hq : w.heap[3]? = some (.cells (ints .i64 [0, 4, 8, 12, 1, 5, 9, 13, 2, 6, 10, 14, 3, 7, 11, 15, 0, 5, 10, 15, 1, 6, 11, 12, 2, 7, 8, 13, 3, 4, 9, 14]) tq)) (hsc : w.heap[1]? = some (.cells (ints .u64 Qbi) tsc)) (hsq : w.heap[0]? = some (.cells (ints .u64 Qat) tsq)) (hall : ¬ ∀ i, i < len → i ≤ 60 ∧ (ops i).xs.length ≤ 500) : Calls Tryd.prog 4 #[.string s, .slice ad len cap] w (Ret w (.bool true)) := by
  refine enter 128 [(0, .string s), (1, .slice ad len cap)] Tryd.func4 rfl rfl kj rfl ?_
  refine wp_seq_k fun K5 hK5 => ?_
  refine Qab ?_
  refine Qaa (.bool false) 4 rfl kj kj ?_
  refine Qac ?_
  refine hK5 _ _ ?_
  refine wp_seq_k fun K6 hK6 => ?_
  refine wp_seq_k fun K7 hK7 => ?_
  refine Qab ?_
  refine Qax (.bool true) 15 #[] 17 rfl kj kj (Qgj th tq tsc tsq _ hh hq hsc hsq) fun W1 e1 => ?_
  have x1 : Ext w W1 := Ext.tr (Rely.Ext.refl w) e1
  refine Qaa (.bool false) 18 rfl kj kj ?_
  refine Qac ?_
  refine hK7 _ _ ?_
  refine cond_false kj ?_
  refine wp_skip ?_
  refine hK6 _ _ ?_
  refine wp_seq_k fun K8 hK8 => ?_
  refine wp_seq_k fun K9 hK9 => ?_
  refine Qab ?_
  refine Qaa (.slice ad len cap) 19 rfl kj kj ?_
  refine Qax (.bool true) 16 #[.slice ad len cap] 20 rfl kj kj (Qjt len cap gT oT ad ops _ had (fun i hi => OpAt.ext (hops i hi) x1) hall) fun W2 e2 => ?_
  have x2 : Ext w W2 := Ext.tr x1 e2
  refine Qaa (.bool true) 21 rfl kj kj ?_
  refine Qbm 22 rfl kj ?_
  refine Qbm 23 rfl kj ?_
  refine Qbm 24 rfl kj ?_
  refine Qaa (.bool true) 25 rfl kj kj ?_
  refine Qac ?_
  refine hK9 _ _ ?_
  refine cond_true kj ?_
  refine wp_seq_k fun K10 hK10 => ?_
  refine Qab ?_
  refine Qaa (.bool true) 4 rfl kj kj ?_
  refine Qac ?_
  refine hK10 _ _ ?_
  refine wp_ret ?_
  repeat (first | with_reducible refine goR1 ?_ | with_reducible refine goR2 ?_)
  exact (show bodyPost _ _ _ .ret _ _ from ret1 (.bool true) rfl (Qa9 kj) ⟨rfl, x2⟩)
set_option maxRecDepth 100000 in
set_option maxHeartbeats 400000 in
theorem Qkh (s : ByteArray) (nm : List Int) (hs : strB s = nm) (hnb : Qaj nm) (len cap gT oT : Nat) (ad : Option Addr) (ops : Nat → OpV)  (th tq tsc tsq : TypeId) (w : World) (had : 0 < len → ad = some ⟨gT, oT, none⟩) (hops : ∀ i, i < len → OpAt w gT oT i (ops i)) (hh : w.heap[2]? = some (.cells (ints .u32 [1634760805, 857760878, 2036477234, 1797285236]) th)) (hq : w.heap[3]? = some (.cells (ints .i64 [0, 4, 8, 12, 1, 5, 9, 13, 2, 6, 10, 14, 3, 7, 11, 15, 0, 5, 10, 15, 1, 6, 11, 12, 2, 7, 8, 13, 3, 4, 9, 14]) tq)) (hsc : w.heap[1]? = some (.cells (ints .u64 Qbi) tsc)) (hsq : w.heap[0]? = some (.cells (ints .u64 Qat) tsq)) (hall : ∀ i, i < len → i ≤ 60 ∧ (ops i).xs.length ≤ 500) (hN : 1000 < s.size) : Calls Tryd.prog 4 #[.string s, .slice ad len cap] w (Ret w (.bool true)) := by
  refine enter 128 [(0, .string s), (1, .slice ad len cap)] Tryd.func4 rfl rfl kj rfl ?_
  refine wp_seq_k fun K5 hK5 => ?_
  refine Qab ?_
  refine Qaa (.bool false) 4 rfl kj kj ?_
  refine Qac ?_
  refine hK5 _ _ ?_
  refine wp_seq_k fun K6 hK6 => ?_
  refine wp_seq_k fun K7 hK7 => ?_
  refine Qab ?_
  refine Qax (.bool true) 15 #[] 17 rfl kj kj (Qgj th tq tsc tsq _ hh hq hsc hsq) fun W1 e1 => ?_
  have x1 : Ext w W1 := Ext.tr (Rely.Ext.refl w) e1
  refine Qaa (.bool false) 18 rfl kj kj ?_
  refine Qac ?_
  refine hK7 _ _ ?_
  refine cond_false kj ?_
  refine wp_skip ?_
  refine hK6 _ _ ?_
  refine wp_seq_k fun K8 hK8 => ?_
  refine wp_seq_k fun K9 hK9 => ?_
  refine Qab ?_
  refine Qaa (.slice ad len cap) 19 rfl kj kj ?_
  refine Qax (.bool false) 16 #[.slice ad len cap] 20 rfl kj kj (QhE len cap gT oT ad ops _ had (fun i hi => OpAt.ext (hops i hi) x1) hall) fun W2 e2 => ?_
  have x2 : Ext w W2 := Ext.tr x1 e2
  refine Qaa (.bool false) 21 rfl kj kj ?_
  refine Qaa (.string s) 22 rfl kj kj ?_
  refine Qaa (.int .i64 ((s.size : Nat) : Int)) 23 rfl kj kj ?_
  refine Qaa (.bool true) 24 rfl kj (Qal (u := .bool (decide (((s.size : Nat) : Int) > 1000))) kj (congrArg Value.bool (decide_eq_true (by omega)))) ?_
  refine Qaa (.bool true) 25 rfl kj kj ?_
  refine Qac ?_
  refine hK9 _ _ ?_
  refine cond_true kj ?_
  refine wp_seq_k fun K10 hK10 => ?_
  refine Qab ?_
  refine Qaa (.bool true) 4 rfl kj kj ?_
  refine Qac ?_
  refine hK10 _ _ ?_
  refine wp_ret ?_
  repeat (first | with_reducible refine goR1 ?_ | with_reducible refine goR2 ?_)
  exact (show bodyPost _ _ _ .ret _ _ from ret1 (.bool true) rfl (Qa9 kj) ⟨rfl, x2⟩)
set_option maxRecDepth 100000 in
set_option maxHeartbeats 400000 in
theorem Qkj (s : ByteArray) (nm : List Int) (hs : strB s = nm) (hnb : Qaj nm) (len cap gT oT : Nat) (ad : Option Addr) (ops : Nat → OpV)  (th tq tsc tsq : TypeId) (w : World) (had : 0 < len → ad = some ⟨gT, oT, none⟩) (hops : ∀ i, i < len → OpAt w gT oT i (ops i)) (hh : w.heap[2]? = some (.cells (ints .u32 [1634760805, 857760878, 2036477234, 1797285236]) th)) (hq : w.heap[3]? = some (.cells (ints .i64 [0, 4, 8, 12, 1, 5, 9, 13, 2, 6, 10, 14, 3, 7, 11, 15, 0, 5, 10, 15, 1, 6, 11, 12, 2, 7, 8, 13, 3, 4, 9, 14]) tq)) (hsc : w.heap[1]? = some (.cells (ints .u64 Qbi) tsc)) (hsq : w.heap[0]? = some (.cells (ints .u64 Qat) tsq)) (hall : ∀ i, i < len → i ≤ 60 ∧ (ops i).xs.length ≤ 500) (hN : s.size ≤ 1000) : Calls Tryd.prog 4 #[.string s, .slice ad len cap] w (Ret w (.bool true)) := by
 have hnl : nm.length = s.size := by rw [← hs, QeQ]
 obtain ⟨ch, ech⟩ : ∃ z, z = dig nm := ⟨_, rfl⟩
 have hchl : ch.length = 32 := by rw [ech]; exact QaJ _
 have hchb : Qaj ch := by rw [ech]; exact Qc6 _
 refine enter 128 [(0, .string s), (1, .slice ad len cap)] Tryd.func4 rfl rfl kj rfl ?_
 refine wp_seq_k fun K5 hK5 => ?_
 refine Qab ?_
 refine Qaa (.bool false) 4 rfl kj kj ?_
 refine Qac ?_
 refine hK5 _ _ ?_
 refine wp_seq_k fun K6 hK6 => ?_
 refine wp_seq_k fun K7 hK7 => ?_
 refine Qab ?_
 refine Qax (.bool true) 15 #[] 17 rfl kj kj (Qgj th tq tsc tsq _ hh hq hsc hsq) fun W1 e1 => ?_
 have x1 : Ext w W1 := Ext.tr (Rely.Ext.refl w) e1
 refine Qaa (.bool false) 18 rfl kj kj ?_
 refine Qac ?_
 refine hK7 _ _ ?_
 refine cond_false kj ?_
 refine wp_skip ?_
 refine hK6 _ _ ?_
 refine wp_seq_k fun K8 hK8 => ?_
 refine wp_seq_k fun K9 hK9 => ?_
 refine Qab ?_
 refine Qaa (.slice ad len cap) 19 rfl kj kj ?_
 refine Qax (.bool false) 16 #[.slice ad len cap] 20 rfl kj kj (QhE len cap gT oT ad ops _ had (fun i hi => OpAt.ext (hops i hi) x1) hall) fun W2 e2 => ?_
 have x2 : Ext w W2 := Ext.tr x1 e2
 refine Qaa (.bool false) 21 rfl kj kj ?_
 refine Qaa (.string s) 22 rfl kj kj ?_
 refine Qaa (.int .i64 ((s.size : Nat) : Int)) 23 rfl kj kj ?_
 refine Qaa (.bool false) 24 rfl kj (Qal (u := .bool (decide (((s.size : Nat) : Int) > 1000))) kj (congrArg Value.bool (decide_eq_false (by omega)))) ?_
 refine Qaa (.bool false) 25 rfl kj kj ?_
 refine Qac ?_
 refine hK9 _ _ ?_
 refine cond_false kj ?_
 refine wp_skip ?_
 refine hK8 _ _ ?_
 refine wp_seq_k fun K10 hK10 => ?_
 refine Qab ?_
 refine Qaa (.string s) 26 rfl kj kj ?_
 have r3_1 := (Qad hsc e1)
 have r3_2 := (Qad r3_1 e2)
 have r4_1 := (Qad hsq e1)
 have r4_2 := (Qad r4_1 e2)
 refine Qa0 (fun v W' => (BegL W2.heap.size (nm)) v W' ∧ Ext W2 W') 30 #[.string s] 27 rfl kj kj ((QgC _ (nm) hs hnb (by rw [hnl]; omega) tsc tsq _ r3_2 r4_2).mono (by rintro e w' ⟨v, rfl, e1, hv⟩; exact ⟨v, rfl, hv, e1⟩)) fun vv11 W3 hh11 => ?_
 obtain ⟨hv11, e3⟩ := hh11
 have x3 : Ext w W3 := Ext.tr x2 e3
 obtain ⟨gs12, rfl, ls12, rs12⟩ := hv11
 have bs12 : w.heap.size ≤ gs12 := Nat.le_trans x2.size ls12
 rw [← ech] at rs12
 refine Qaa (.string s) 28 rfl kj kj ?_
 have r3_3 := (Qad r3_2 e3)
 have r4_3 := (Qad r4_2 e3)
 refine Qa0 (fun v W' => (BegL W3.heap.size (nm)) v W' ∧ Ext W3 W') 30 #[.string s] 29 rfl kj kj ((QgC _ (nm) hs hnb (by rw [hnl]; omega) tsc tsq _ r3_3 r4_3).mono (by rintro e w' ⟨v, rfl, e1, hv⟩; exact ⟨v, rfl, hv, e1⟩)) fun vv13 W4 hh13 => ?_
 obtain ⟨hv13, e4⟩ := hh13
 have x4 : Ext w W4 := Ext.tr x3 e4
 obtain ⟨gs14, rfl, ls14, rs14⟩ := hv13
 have bs14 : w.heap.size ≤ gs14 := Nat.le_trans x3.size ls14
 rw [← ech] at rs14
 refine Qaa (.agg (cat [#[.pointer (some ⟨gs12, 0, none⟩)], #[.pointer (some ⟨gs14, 0, none⟩)]])) 30 rfl kj kj ?_
 refine Qaq (cat [#[.pointer none], #[.pointer none]]) 51 5 rfl kj kj fun g15 W5 l15 e5 r15_5 => ?_
 have x5 : Ext w W5 := Ext.tr x4 e5
 have b15 : w.heap.size ≤ g15 := Nat.le_trans x4.size l15
 refine Qah g15 _ (cat [#[.pointer (some ⟨gs12, 0, none⟩)], #[.pointer (some ⟨gs14, 0, none⟩)]]) 51 r15_5 rfl kj (Qam 51 _ _ g15 51 _ _ r15_5 rfl kj kj (isz (n := 2) kj kj) (eqsz (n := 2) kj kj) kj) fun W6 p6 r15_6 => ?_
 have x6 : Ext w W6 := Puts.ext p6 x5 b15
 refine Qac ?_
 refine hK10 _ _ ?_
 refine wp_seq_k fun K16 hK16 => ?_
 refine wp_seq_k fun K17 hK17 => ?_
 refine Qab ?_
 refine Qaa (.slice ad len cap) 31 rfl kj kj ?_
 refine Qaa (.int .i64 ((len : Nat) : Int)) 32 rfl kj kj ?_
 refine Qaa (.int .i64 0) 33 rfl kj kj ?_
 refine Qac ?_
 refine hK17 _ _ ?_
 refine wp_block ?_
 have r12_4 := (Qad rs12 e4)
 have n51 : g15 ≠ gs12 := (Qap r12_4 l15)
 have n52 : g15 ≠ gs14 := (Qap rs14 l15)
 have n_12_14 : gs12 ≠ gs14 := (Qae rs12 ls14)
 have n_14_12 : gs14 ≠ gs12 := (Qap rs12 ls14)
 have r12_5 := (Qad r12_4 e5)
 have r12_6 := (Puts.row p6 r12_5 (Ne.symm n51))
 have r14_5 := (Qad rs14 e5)
 have r14_6 := (Puts.row p6 r14_5 (Ne.symm n52))
 refine QaO (fun (s1 : Nat × List Int × Bool × Nat × List Int × List Int) => [(31, .slice ad len cap), (32, .int .i64 ((len : Nat) : Int)), (33, .int .i64 ((s1.1 : Nat) : Int)), (5, .pointer (some ⟨g15, 0, none⟩))]) (fun (s1 : Nat × List Int × Bool × Nat × List Int × List Int) W => (s1.1 ≤ len) ∧ (s1.2.1.length = 32) ∧ (s1.2.2.2.2.1.length = 32) ∧ (s1.2.2.2.2.2.length = 32) ∧ (Qaj s1.2.2.2.2.1) ∧ (Qaj s1.2.2.2.2.2) ∧ (s1.2.2.2.1 ≤ s1.1) ∧ (W.heap[gs12]? = some (.cells (cat [ints .u8 (s1.2.1), #[.bool s1.2.2.1], #[.int .i64 ((s1.2.2.2.1 : Nat) : Int)], ints .u8 (s1.2.2.2.2.1), ints .u8 (s1.2.2.2.2.2)]) 123)) ∧ (W.heap[gs14]? = some (.cells (cat [ints .u8 (s1.2.1), #[.bool s1.2.2.1], #[.int .i64 ((s1.2.2.2.1 : Nat) : Int)], ints .u8 (s1.2.2.2.2.1), ints .u8 (s1.2.2.2.2.2)]) 123)) ∧ (Qar [gs12, gs14] W6 W) ∧ (Ext w W)) (fun (s1 : Nat × List Int × Bool × Nat × List Int × List Int) => len - s1.1) (0, List.replicate 32 0, false, 0, ch, ch) ⟨rfl, rfl, rfl, rfl, trivial⟩ ⟨(Nat.zero_le _), (List.length_replicate (n := 32)), hchl, hchl, hchb, hchb, (Nat.zero_le _), r12_6, r14_6, (Qar.refl [gs12, gs14] W6), x6⟩ fun s1 X1 V1 hI1 => ?_
 obtain ⟨i, key, has, num, chain, hash⟩ := s1
 obtain ⟨hi, hkl, hcl, hhl, hcb, hhb, hnum, q12_1, q14_1, kk1, xx1⟩ := hI1
 replace hi : i ≤ len := hi
 replace hkl : key.length = 32 := hkl
 replace hcl : chain.length = 32 := hcl
 replace hhl : hash.length = 32 := hhl
 replace hcb : Qaj chain := hcb
 replace hhb : Qaj hash := hhb
 replace hnum : num ≤ i := hnum
 replace q12_1 : V1.heap[gs12]? = some (.cells (cat [ints .u8 (key), #[.bool has], #[.int .i64 ((num : Nat) : Int)], ints .u8 (chain), ints .u8 (hash)]) 123) := q12_1
 replace q14_1 : V1.heap[gs14]? = some (.cells (cat [ints .u8 (key), #[.bool has], #[.int .i64 ((num : Nat) : Int)], ints .u8 (chain), ints .u8 (hash)]) 123) := q14_1
 replace kk1 : Qar [gs12, gs14] W6 V1 := kk1
 replace xx1 : Ext w V1 := xx1
 have q7 := kk1
 refine wp_seq_k fun K18 hK18 => ?_
 refine Qab ?_
 refine Qaa (.bool (decide (((i : Nat) : Int) < ((len : Nat) : Int)))) 34 rfl kj kj ?_
 refine Qac ?_
 refine hK18 _ _ ?_
 refine wp_seq_k fun K19 hK19 => ?_
 refine Qa7 (t := decide (((i : Nat) : Int) < ((len : Nat) : Int))) kj (fun c20 => ?_) (fun c20 => ?_)
 ·skip
  have hlt : i < len := by have := of_decide_eq_true c20; omega
  obtain ⟨op, hopE⟩ : ∃ z, z = ops i := ⟨_, rfl⟩
  have hop : OpAt w gT oT i op := hopE ▸ hops i hlt
  have hox : op.xs.length ≤ 500 := hopE ▸ (hall i hlt).2
  have hi60 := (hall i hlt).1
  have hobx := OpAt.bytes hop
  obtain ⟨ga, gb, hpa, hpb, hab⟩ : ∃ ga gb, (cat [#[.pointer (some ⟨gs12, 0, none⟩)], #[.pointer (some ⟨gs14, 0, none⟩)]])[i % 2]? = some (.pointer (some ⟨ga, 0, none⟩)) ∧ (cat [#[.pointer (some ⟨gs12, 0, none⟩)], #[.pointer (some ⟨gs14, 0, none⟩)]])[1 - i % 2]? = some (.pointer (some ⟨gb, 0, none⟩)) ∧ ((ga = gs12 ∧ gb = gs14) ∨ (ga = gs14 ∧ gb = gs12)) := by
   rcases Nat.mod_two_eq_zero_or_one i with h | h
   ·exact ⟨gs12, gs14, by rw [h]; rfl, by rw [h]; rfl, .inl ⟨rfl, rfl⟩⟩
   ·exact ⟨gs14, gs12, by rw [h]; rfl, by rw [h]; rfl, .inr ⟨rfl, rfl⟩⟩
  have hga0 : w.heap.size ≤ ga := by rcases hab with ⟨e, -⟩ | ⟨e, -⟩ <;> rw [e] <;> assumption
  have hgb0 : w.heap.size ≤ gb := by rcases hab with ⟨-, e⟩ | ⟨-, e⟩ <;> rw [e] <;> assumption
  have hgg : ga ≠ gb := by
   rcases hab with ⟨e, f⟩ | ⟨e, f⟩ <;> rw [e, f]
   ·exact n_12_14
   ·exact n_14_12
  have h5a : g15 ≠ ga := by
   rcases hab with ⟨e, -⟩ | ⟨e, -⟩ <;> rw [e]
   ·exact n51
   ·exact n52
  have h5b : g15 ≠ gb := by
   rcases hab with ⟨-, e⟩ | ⟨-, e⟩ <;> rw [e]
   ·exact n52
   ·exact n51
  have hma : ga ∈ [gs12, gs14] := by rcases hab with ⟨e, -⟩ | ⟨e, -⟩ <;> simp [e]
  have hmb : gb ∈ [gs12, gs14] := by rcases hab with ⟨-, e⟩ | ⟨-, e⟩ <;> simp [e]
  have rA : V1.heap[ga]? = some (.cells (cat [ints .u8 (key), #[.bool has], #[.int .i64 ((num : Nat) : Int)], ints .u8 (chain), ints .u8 (hash)]) 123) := by
   rcases hab with ⟨e, -⟩ | ⟨e, -⟩ <;> rw [e]
   ·exact q12_1
   ·exact q14_1
  have rB : V1.heap[gb]? = some (.cells (cat [ints .u8 (key), #[.bool has], #[.int .i64 ((num : Nat) : Int)], ints .u8 (chain), ints .u8 (hash)]) 123) := by
   rcases hab with ⟨-, e⟩ | ⟨-, e⟩ <;> rw [e]
   ·exact q14_1
   ·exact q12_1
  refine wp_skip ?_
  refine hK19 _ _ ?_
  refine wp_seq_k fun K23 hK23 => ?_
  refine wp_block ?_
  refine wp_seq_k fun K24 hK24 => ?_
  refine Qab ?_
  refine Qaa (.int .i64 ((i : Nat) : Int)) 35 rfl kj kj ?_
  refine Qaa (.pointer (some ⟨gT, oT + i * 3, none⟩)) 36 rfl kj (QeA 24 _ _ .i64 i gT oT len cap 35 3 ad (had (by omega)) rfl kj kj kj kj hlt) ?_
  refine Qaa (.agg (cat [#[.int .i64 op.kind], #[.slice op.a op.xs.length op.c], #[.int .i64 op.n]])) 37 rfl kj (Qen 35 _ gT oT i op (OpAt.ext hop xx1) rfl kj kj kj) ?_
  refine Qaq (cat [#[.int .i64 0], #[.slice none 0 0], #[.int .i64 0]]) 35 7 rfl kj kj fun g25 W8 l25 e8 r25_8 => ?_
  have x8 : Ext w W8 := Ext.tr xx1 e8
  have b25 : w.heap.size ≤ g25 := Nat.le_trans xx1.size l25
  refine Qaa (.int .i64 ((i : Nat) : Int)) 6 rfl kj kj ?_
  refine Qah g25 _ (cat [#[.int .i64 op.kind], #[.slice op.a op.xs.length op.c], #[.int .i64 op.n]]) 35 r25_8 rfl kj (Qam 35 _ _ g25 35 _ _ r25_8 rfl kj kj (isz (n := 3) kj kj) (eqsz (n := 3) kj kj) kj) fun W9 p9 r25_9 => ?_
  have x9 : Ext w W9 := Puts.ext p9 x8 b25
  refine Qac ?_
  refine hK24 _ _ ?_
  refine wp_seq_k fun K26 hK26 => ?_
  refine QaY 10 [⟨none, [(6, none)]⟩, ⟨none, [(38, some 0)]⟩, ⟨none, [(5, none), (39, some 1)]⟩, ⟨none, [(40, some 2)]⟩, ⟨none, [(6, none)]⟩, ⟨none, [(42, some 4)]⟩, ⟨none, [(43, some 5)]⟩, ⟨none, [(5, none), (44, some 6)]⟩, ⟨none, [(45, some 7)]⟩, ⟨none, [(41, some 3)]⟩] kj kj fun F hF => ?_
  refine QaB (Qav _) (.int .i64 ((i : Nat) : Int)) kj kj (fun W => by kernel_rfl) ?_
  refine QaB (Qav _) (.int .i64 ((i % 2 : Nat) : Int)) kj kj (fun W => (Qal (u := .int .i64 (Int.tmod (((i : Nat) : Int)) (2))) kj (congrArg (Value.int .i64) (QbY _ 2)))) ?_
  refine QaB (Qav _) (.pointer (some ⟨g15, i % 2, none⟩)) kj kj (fun W => (QaH _ _ _ .i64 (i % 2) _ 2 49 rfl kj kj kj kj (by omega))) ?_
  have r15_7 := (Qar.row q7 r15_6 (Qa5 n51 (Qa5 n52 QaT)))
  have r15_8 := (Qad r15_7 e8)
  have r15_9 := (Puts.row p9 r15_8 (Qae r15_7 l25))
  refine QbG (Qav _) (.pointer (some ⟨ga, 0, none⟩)) kj kj (fun W hR => (Qag 49 _ g15 (i % 2) 51 _ (.pointer (some ⟨ga, 0, none⟩)) _ (Qad (Qad r15_9 (Qak _)) hR) rfl kj hpa kj)) ?_
  refine QaB (Qav _) (.int .i64 ((i : Nat) : Int)) kj kj (fun W => by kernel_rfl) ?_
  refine QaB (Qav _) (.int .i64 ((i % 2 : Nat) : Int)) kj kj (fun W => (Qal (u := .int .i64 (Int.tmod (((i : Nat) : Int)) (2))) kj (congrArg (Value.int .i64) (QbY _ 2)))) ?_
  refine QaB (Qav _) (.int .i64 ((1 - (i % 2) : Nat) : Int)) kj kj (fun W => (Qal (u := .int .i64 (IntKind.i64.wrap (1 - ((i % 2 : Nat) : Int)))) kj (congrArg (Value.int .i64) (i64n _ _ (by omega) (by omega))))) ?_
  refine QaB (Qav _) (.pointer (some ⟨g15, 1 - i % 2, none⟩)) kj kj (fun W => (QaH _ _ _ .i64 (1 - i % 2) _ 2 49 rfl kj kj kj kj (by omega))) ?_
  refine QbG (Qav _) (.pointer (some ⟨gb, 0, none⟩)) kj kj (fun W hR => (Qag 49 _ g15 (1 - i % 2) 51 _ (.pointer (some ⟨gb, 0, none⟩)) _ (Qad (Qad r15_9 (Qak _)) hR) rfl kj hpb kj)) ?_
  refine QaB (Qav _) (.pointer (some ⟨ga, 0, none⟩)) kj kj (fun W => by kernel_rfl) ?_
  refine QcU (hF _ fun W10 e10 => ?_)
  simp only [List.nil_append, List.cons_append, List.take_succ_cons, List.take_zero, List.drop_succ_cons, List.drop_zero, finE, up]
  clear hF
  have x10 : Ext w W10 := Ext.tr x9 e10
  refine Qaa (.pointer (some ⟨gb, 0, none⟩)) 9 rfl kj kj ?_
  refine Qac ?_
  refine hK26 _ _ ?_
  refine wp_seq_k fun K27 hK27 => ?_
  refine wp_seq_k fun K28 hK28 => ?_
  refine Qab ?_
  refine Qaa (.pointer (some ⟨g25, 0, none⟩)) 47 rfl kj kj ?_
  have r25_10 := (Qad r25_9 e10)
  refine Qaa (.int .i64 op.kind) 48 rfl kj (Qag 3 _ g25 0 35 _ (.int .i64 op.kind) _ r25_10 rfl kj kj kj) ?_
  refine Qac ?_
  refine hK28 _ _ ?_
  refine wp_block ?_
  refine wp_seq_k fun K29 hK29 => ?_
  refine Qab ?_
  refine Qaa (.bool ((op.kind == 0))) 74 rfl kj kj ?_
  refine Qaa (.bool ((op.kind == 0))) 73 rfl kj kj ?_
  refine Qac ?_
  refine hK29 _ _ ?_
  refine Qa7 (t := (op.kind == 0)) kj (fun c30 => ?_) (fun c30 => ?_)
  ·skip
   refine wp_seq_k fun K31 hK31 => ?_
   refine Qab ?_
   refine Qaa (.pointer (some ⟨ga, 0, none⟩)) 75 rfl kj kj ?_
   refine Qaa (.pointer (some ⟨g25, 1, none⟩)) 76 rfl kj kj ?_
   refine Qaa (.slice op.a op.xs.length op.c) 77 rfl kj (Qag 33 _ g25 1 35 _ (.slice op.a op.xs.length op.c) _ r25_10 rfl kj kj kj) ?_
   refine QaZ (#[.slice op.a op.xs.length op.c]) 33 1 78 rfl kj kj fun g32 W11 l32 e11 r32_11 => ?_
   have x11 : Ext w W11 := Ext.tr x10 e11
   have b32 : w.heap.size ≤ g32 := Nat.le_trans x10.size l32
   have hps33 : ∀ p ∈ ([(.slice op.a op.xs.length op.c, op.xs)] : List (Value × List Int)), RdK .u8 W11.heap.size p.2 p.1 W11 ∧ Qaj p.2 := by
    intro p hp
    simp only [List.mem_cons, List.not_mem_nil, or_false] at hp
    rcases hp with rfl
    ·exact ⟨RdK.here (OpAt.rd (OpAt.ext hop x11)), hobx⟩
   have r3_4 := (Qad r3_3 e4)
   have r3_5 := (Qad r3_4 e5)
   have r3_6 := (Puts.row p6 r3_5 (Qae r3_4 l15))
   have r3_7 := (Qar.row q7 r3_6 (Qa5 (Qae r3_2 ls12) (Qa5 (Qae r3_3 ls14) QaT)))
   have r3_8 := (Qad r3_7 e8)
   have r3_9 := (Puts.row p9 r3_8 (Qae r3_7 l25))
   have r3_10 := (Qad r3_9 e10)
   have r3_11 := (Qad r3_10 e11)
   have r4_4 := (Qad r4_3 e4)
   have r4_5 := (Qad r4_4 e5)
   have r4_6 := (Puts.row p6 r4_5 (Qae r4_4 l15))
   have r4_7 := (Qar.row q7 r4_6 (Qa5 (Qae r4_2 ls12) (Qa5 (Qae r4_3 ls14) QaT)))
   have r4_8 := (Qad r4_7 e8)
   have r4_9 := (Puts.row p9 r4_8 (Qae r4_7 l25))
   have r4_10 := (Qad r4_9 e10)
   have r4_11 := (Qad r4_10 e11)
   have r21_8 := (Qad rA e8)
   have r21_9 := (Puts.row p9 r21_8 (Qae rA l25))
   have r21_10 := (Qad r21_9 e10)
   have r21_11 := (Qad r21_10 e11)
   have hmx33 := Qdd ga (key) (chain) (hash) has ((num : Nat) : Int) g32 1 _ ([(.slice op.a op.xs.length op.c, op.xs)] : List (Value × List Int)) rfl (by decide) tsc tsq W11 hkl hcl hhl hhb r3_11 r4_11 r21_11 r32_11 hps33 (by simp only [List.map_cons, List.map_nil, List.flatten_cons, List.flatten_nil, List.append_nil, List.length_append]; omega)
   rw [show ((List.map Prod.snd ([(.slice op.a op.xs.length op.c, op.xs)] : List (Value × List Int))).flatten) = op.xs by simp only [List.map_cons, List.map_nil, List.flatten_cons, List.flatten_nil, List.append_nil]] at hmx33
   refine Qa0 (fun v W' => v = .tuple #[] ∧ ExtB ga W11 W' ∧ W'.heap[ga]? = some (.cells (cat [ints .u8 (key), #[.bool has], #[.int .i64 ((num : Nat) : Int)], ints .u8 (chain), ints .u8 (dig (hash ++ op.xs))]) 123)) 31 #[.pointer (some ⟨ga, 0, none⟩), .slice (some ⟨g32, 0, none⟩) 1 1] 79 rfl kj kj (hmx33.mono fun e w' h => ⟨_, h.1, rfl, h.2⟩) fun v W12 h33 => ?_
   obtain ⟨rfl, q12, r21_12⟩ := h33
   have x12 : Ext w W12 := ExtB.up x11 q12 hga0
   refine Qac ?_
   refine hK31 _ _ ?_
   refine Qab ?_
   refine Qaa (.pointer (some ⟨gb, 0, none⟩)) 80 rfl kj kj ?_
   refine Qaa (.pointer (some ⟨g25, 1, none⟩)) 81 rfl kj kj ?_
   have r25_11 := (Qad r25_10 e11)
   have r25_12 := (ExtB.row q12 r25_11 (Qap rA l25))
   refine Qaa (.slice op.a op.xs.length op.c) 82 rfl kj (Qag 33 _ g25 1 35 _ (.slice op.a op.xs.length op.c) _ r25_12 rfl kj kj kj) ?_
   refine QaZ (#[.slice op.a op.xs.length op.c]) 33 1 83 rfl kj kj fun g34 W13 l34 e13 r34_13 => ?_
   have x13 : Ext w W13 := Ext.tr x12 e13
   have b34 : w.heap.size ≤ g34 := Nat.le_trans x12.size l34
   have hps35 : ∀ p ∈ ([(.slice op.a op.xs.length op.c, op.xs)] : List (Value × List Int)), RdK .u8 W13.heap.size p.2 p.1 W13 ∧ Qaj p.2 := by
    intro p hp
    simp only [List.mem_cons, List.not_mem_nil, or_false] at hp
    rcases hp with rfl
    ·exact ⟨RdK.here (OpAt.rd (OpAt.ext hop x13)), hobx⟩
   have r3_12 := (ExtB.row q12 r3_11 (Qae hsc hga0))
   have r3_13 := (Qad r3_12 e13)
   have r4_12 := (ExtB.row q12 r4_11 (Qae hsq hga0))
   have r4_13 := (Qad r4_12 e13)
   have r22_8 := (Qad rB e8)
   have r22_9 := (Puts.row p9 r22_8 (Qae rB l25))
   have r22_10 := (Qad r22_9 e10)
   have r22_11 := (Qad r22_10 e11)
   have r22_12 := (ExtB.row q12 r22_11 (Ne.symm hgg))
   have r22_13 := (Qad r22_12 e13)
   have hmx35 := Qdd gb (key) (chain) (hash) has ((num : Nat) : Int) g34 1 _ ([(.slice op.a op.xs.length op.c, op.xs)] : List (Value × List Int)) rfl (by decide) tsc tsq W13 hkl hcl hhl hhb r3_13 r4_13 r22_13 r34_13 hps35 (by simp only [List.map_cons, List.map_nil, List.flatten_cons, List.flatten_nil, List.append_nil, List.length_append]; omega)
   rw [show ((List.map Prod.snd ([(.slice op.a op.xs.length op.c, op.xs)] : List (Value × List Int))).flatten) = op.xs by simp only [List.map_cons, List.map_nil, List.flatten_cons, List.flatten_nil, List.append_nil]] at hmx35
   refine Qa0 (fun v W' => v = .tuple #[] ∧ ExtB gb W13 W' ∧ W'.heap[gb]? = some (.cells (cat [ints .u8 (key), #[.bool has], #[.int .i64 ((num : Nat) : Int)], ints .u8 (chain), ints .u8 (dig (hash ++ op.xs))]) 123)) 31 #[.pointer (some ⟨gb, 0, none⟩), .slice (some ⟨g34, 0, none⟩) 1 1] 84 rfl kj kj (hmx35.mono fun e w' h => ⟨_, h.1, rfl, h.2⟩) fun v W14 h35 => ?_
   obtain ⟨rfl, q14, r22_14⟩ := h35
   have x14 : Ext w W14 := ExtB.up x13 q14 hgb0
   refine Qac ?_
   refine hK27 _ _ ?_
   refine wp_seq_k fun K36 hK36 => ?_
   refine Qab ?_
   refine Qaa (.pointer (some ⟨ga, 0, none⟩)) 95 rfl kj kj ?_
   have r21_13 := (Qad r21_12 e13)
   have r21_14 := (ExtB.row q14 r21_13 hgg)
   refine Qax (.agg (ints .u8 (dig (hash ++ op.xs)))) 35 #[.pointer (some ⟨ga, 0, none⟩)] 96 rfl kj kj (Qfg ga key chain (dig (hash ++ op.xs)) has ((num : Nat) : Int) _ hkl hcl (QaJ _) r21_14) fun W15 e15 => ?_
   have x15 : Ext w W15 := Ext.tr x14 e15
   refine Qaa (.pointer (some ⟨gb, 0, none⟩)) 97 rfl kj kj ?_
   have r22_15 := (Qad r22_14 e15)
   refine Qax (.agg (ints .u8 (dig (hash ++ op.xs)))) 35 #[.pointer (some ⟨gb, 0, none⟩)] 98 rfl kj kj (Qfg gb key chain (dig (hash ++ op.xs)) has ((num : Nat) : Int) _ hkl hcl (QaJ _) r22_15) fun W16 e16 => ?_
   have x16 : Ext w W16 := Ext.tr x15 e16
   refine Qaa (.bool false) 99 rfl kj (QcC 29 _ _ _ _ _ (.bool false) rfl kj kj kj (Qdw 29 (e := 5) (k := .u8) (dig (hash ++ op.xs)) (dig (hash ++ op.xs)) (decide_eq_true rfl) (QaJ _) (QaJ _) kj kj kj _)) ?_
   refine Qaa (.bool false) 100 rfl kj kj ?_
   refine Qaa (.pointer (some ⟨ga, 0, none⟩)) 101 rfl kj kj ?_
   have r21_15 := (Qad r21_14 e15)
   have r21_16 := (Qad r21_15 e16)
   refine Qax (.int .i64 ((num : Nat) : Int)) 36 #[.pointer (some ⟨ga, 0, none⟩)] 102 rfl kj kj (numC ga key chain (dig (hash ++ op.xs)) has ((num : Nat) : Int) _ hkl hcl (QaJ _) r21_16) fun W17 e17 => ?_
   have x17 : Ext w W17 := Ext.tr x16 e17
   refine Qaa (.pointer (some ⟨gb, 0, none⟩)) 103 rfl kj kj ?_
   have r22_16 := (Qad r22_15 e16)
   have r22_17 := (Qad r22_16 e17)
   refine Qax (.int .i64 ((num : Nat) : Int)) 36 #[.pointer (some ⟨gb, 0, none⟩)] 104 rfl kj kj (numC gb key chain (dig (hash ++ op.xs)) has ((num : Nat) : Int) _ hkl hcl (QaJ _) r22_17) fun W18 e18 => ?_
   have x18 : Ext w W18 := Ext.tr x17 e18
   refine Qaa (.bool false) 105 rfl kj (Qal (u := .bool ((((num : Nat) : Int) != ((num : Nat) : Int)))) kj (congrArg Value.bool (bne_self_eq_false _))) ?_
   refine Qaa (.bool false) 106 rfl kj kj ?_
   refine Qac ?_
   refine hK36 _ _ ?_
   refine cond_false kj ?_
   refine wp_skip ?_
   refine hK23 _ _ ?_
   refine Qab ?_
   refine Qaa (.int .i64 ((i + 1 : Nat) : Int)) 107 rfl kj (Qal (u := .int .i64 (IntKind.i64.wrap (((i : Nat) : Int) + 1))) kj (congrArg (Value.int .i64) (i64n _ _ (by omega) (by omega)))) ?_
   refine Qaa (.int .i64 ((i + 1 : Nat) : Int)) 33 rfl kj kj ?_
   refine Qac ?_
   have r21_17 := (Qad r21_16 e17)
   have r21_18 := (Qad r21_17 e18)
   have r22_18 := (Qad r22_17 e18)
   have rz1 : W18.heap[gs12]? = some (.cells (cat [ints .u8 (key), #[.bool has], #[.int .i64 ((num : Nat) : Int)], ints .u8 (chain), ints .u8 (dig (hash ++ op.xs))]) 123) := by
    rcases hab with ⟨e, f⟩ | ⟨e, f⟩
    ·rw [← e]; exact r21_18
    ·rw [← f]; exact r22_18
   have rz2 : W18.heap[gs14]? = some (.cells (cat [ints .u8 (key), #[.bool has], #[.int .i64 ((num : Nat) : Int)], ints .u8 (chain), ints .u8 (dig (hash ++ op.xs))]) 123) := by
    rcases hab with ⟨e, f⟩ | ⟨e, f⟩
    ·rw [← f]; exact r22_18
    ·rw [← e]; exact r21_18
   repeat (first | with_reducible refine goX1 ?_ | with_reducible refine goX2 ?_ | with_reducible refine goX3 ?_)
   exact QaI ((i + 1), key, has, num, chain, (dig (hash ++ op.xs))) ⟨rfl, rfl, rfl, rfl, trivial⟩ ⟨(by omega), hkl, hcl, (QaJ _), hcb, (Qc6 _), (Nat.le_succ_of_le hnum), rz1, rz2, (Qar.step (Qar.step (Qar.step (Qar.step (Qar.but (Qar.step (Qar.but (Qar.step (Qar.step (Qar.puts (Qar.step q7 e8) p9 (.inr (Nat.le_trans (Qar.size q7) (Nat.le_trans (Nat.le_refl _) l25)))) e10) e11) q12 (.inl hma)) e13) q14 (.inl hmb)) e15) e16) e17) e18), x18⟩ (by omega)
  ·skip
   refine wp_seq_k fun K37 hK37 => ?_
   refine Qab ?_
   refine Qaa (.bool ((op.kind == 1))) 86 rfl kj kj ?_
   refine Qaa (.bool ((op.kind == 1))) 85 rfl kj kj ?_
   refine Qac ?_
   refine hK37 _ _ ?_
   refine Qa7 (t := (op.kind == 1)) kj (fun c38 => ?_) (fun c38 => ?_)
   ·skip
    refine wp_seq_k fun K39 hK39 => ?_
    refine Qab ?_
    refine Qaa (.pointer (some ⟨ga, 0, none⟩)) 87 rfl kj kj ?_
    refine Qaa (.pointer (some ⟨g25, 1, none⟩)) 88 rfl kj kj ?_
    refine Qaa (.slice op.a op.xs.length op.c) 89 rfl kj (Qag 33 _ g25 1 35 _ (.slice op.a op.xs.length op.c) _ r25_10 rfl kj kj kj) ?_
    obtain ⟨kn, ekn⟩ : ∃ z, z = twB (hmac chain op.xs) := ⟨_, rfl⟩
    obtain ⟨cn, ecn⟩ : ∃ z, z = twA (hmac chain op.xs) := ⟨_, rfl⟩
    have hknl : kn.length = 32 := ekn ▸ Qb3 _
    have hcnl : cn.length = 32 := ecn ▸ Qb8 _
    have hcnb : Qaj cn := ecn ▸ Qhi _
    have r3_4 := (Qad r3_3 e4)
    have r3_5 := (Qad r3_4 e5)
    have r3_6 := (Puts.row p6 r3_5 (Qae r3_4 l15))
    have r3_7 := (Qar.row q7 r3_6 (Qa5 (Qae r3_2 ls12) (Qa5 (Qae r3_3 ls14) QaT)))
    have r3_8 := (Qad r3_7 e8)
    have r3_9 := (Puts.row p9 r3_8 (Qae r3_7 l25))
    have r3_10 := (Qad r3_9 e10)
    have r4_4 := (Qad r4_3 e4)
    have r4_5 := (Qad r4_4 e5)
    have r4_6 := (Puts.row p6 r4_5 (Qae r4_4 l15))
    have r4_7 := (Qar.row q7 r4_6 (Qa5 (Qae r4_2 ls12) (Qa5 (Qae r4_3 ls14) QaT)))
    have r4_8 := (Qad r4_7 e8)
    have r4_9 := (Puts.row p9 r4_8 (Qae r4_7 l25))
    have r4_10 := (Qad r4_9 e10)
    have r21_8 := (Qad rA e8)
    have r21_9 := (Puts.row p9 r21_8 (Qae rA l25))
    have r21_10 := (Qad r21_9 e10)
    refine Qa0 (fun v W' => v = .tuple #[] ∧ ExtB ga W10 W' ∧ W'.heap[ga]? = some (.cells (cat [ints .u8 (kn), #[.bool true], #[.int .i64 ((0 : Nat) : Int)], ints .u8 (cn), ints .u8 (hash)]) 123)) 32 #[.pointer (some ⟨ga, 0, none⟩), .slice op.a op.xs.length op.c] 90 rfl kj kj ((Qde ga key chain hash has ((num : Nat) : Int) op.xs _ _ tsc tsq _ hkl hcl hhl hcb hobx (by omega) r3_10 r4_10 r21_10 (OpAt.rd (OpAt.ext hop x10))).mono (by intro e w' h; exact ⟨_, h.1, rfl, h.2.1, (by rw [ekn, ecn]; exact h.2.2)⟩)) fun v W11 h40 => ?_
    obtain ⟨rfl, q11, r21_11⟩ := h40
    have x11 : Ext w W11 := ExtB.up x10 q11 hga0
    refine Qac ?_
    refine hK39 _ _ ?_
    refine Qab ?_
    refine Qaa (.pointer (some ⟨gb, 0, none⟩)) 91 rfl kj kj ?_
    refine Qaa (.pointer (some ⟨g25, 1, none⟩)) 92 rfl kj kj ?_
    have r25_11 := (ExtB.row q11 r25_10 (Qap rA l25))
    refine Qaa (.slice op.a op.xs.length op.c) 93 rfl kj (Qag 33 _ g25 1 35 _ (.slice op.a op.xs.length op.c) _ r25_11 rfl kj kj kj) ?_
    have r3_11 := (ExtB.row q11 r3_10 (Qae hsc hga0))
    have r4_11 := (ExtB.row q11 r4_10 (Qae hsq hga0))
    have r22_8 := (Qad rB e8)
    have r22_9 := (Puts.row p9 r22_8 (Qae rB l25))
    have r22_10 := (Qad r22_9 e10)
    have r22_11 := (ExtB.row q11 r22_10 (Ne.symm hgg))
    refine Qa0 (fun v W' => v = .tuple #[] ∧ ExtB gb W11 W' ∧ W'.heap[gb]? = some (.cells (cat [ints .u8 (kn), #[.bool true], #[.int .i64 ((0 : Nat) : Int)], ints .u8 (cn), ints .u8 (hash)]) 123)) 32 #[.pointer (some ⟨gb, 0, none⟩), .slice op.a op.xs.length op.c] 94 rfl kj kj ((Qde gb key chain hash has ((num : Nat) : Int) op.xs _ _ tsc tsq _ hkl hcl hhl hcb hobx (by omega) r3_11 r4_11 r22_11 (OpAt.rd (OpAt.ext hop x11))).mono (by intro e w' h; exact ⟨_, h.1, rfl, h.2.1, (by rw [ekn, ecn]; exact h.2.2)⟩)) fun v W12 h41 => ?_
    obtain ⟨rfl, q12, r22_12⟩ := h41
    have x12 : Ext w W12 := ExtB.up x11 q12 hgb0
    refine Qac ?_
    refine hK27 _ _ ?_
    refine wp_seq_k fun K42 hK42 => ?_
    refine Qab ?_
    refine Qaa (.pointer (some ⟨ga, 0, none⟩)) 95 rfl kj kj ?_
    have r21_12 := (ExtB.row q12 r21_11 hgg)
    refine Qax (.agg (ints .u8 (hash))) 35 #[.pointer (some ⟨ga, 0, none⟩)] 96 rfl kj kj (Qfg ga kn cn hash true ((0 : Nat) : Int) _ hknl hcnl hhl r21_12) fun W13 e13 => ?_
    have x13 : Ext w W13 := Ext.tr x12 e13
    refine Qaa (.pointer (some ⟨gb, 0, none⟩)) 97 rfl kj kj ?_
    have r22_13 := (Qad r22_12 e13)
    refine Qax (.agg (ints .u8 (hash))) 35 #[.pointer (some ⟨gb, 0, none⟩)] 98 rfl kj kj (Qfg gb kn cn hash true ((0 : Nat) : Int) _ hknl hcnl hhl r22_13) fun W14 e14 => ?_
    have x14 : Ext w W14 := Ext.tr x13 e14
    refine Qaa (.bool false) 99 rfl kj (QcC 29 _ _ _ _ _ (.bool false) rfl kj kj kj (Qdw 29 (e := 5) (k := .u8) (hash) (hash) (decide_eq_true rfl) hhl hhl kj kj kj _)) ?_
    refine Qaa (.bool false) 100 rfl kj kj ?_
    refine Qaa (.pointer (some ⟨ga, 0, none⟩)) 101 rfl kj kj ?_
    have r21_13 := (Qad r21_12 e13)
    have r21_14 := (Qad r21_13 e14)
    refine Qax (.int .i64 ((0 : Nat) : Int)) 36 #[.pointer (some ⟨ga, 0, none⟩)] 102 rfl kj kj (numC ga kn cn hash true ((0 : Nat) : Int) _ hknl hcnl hhl r21_14) fun W15 e15 => ?_
    have x15 : Ext w W15 := Ext.tr x14 e15
    refine Qaa (.pointer (some ⟨gb, 0, none⟩)) 103 rfl kj kj ?_
    have r22_14 := (Qad r22_13 e14)
    have r22_15 := (Qad r22_14 e15)
    refine Qax (.int .i64 ((0 : Nat) : Int)) 36 #[.pointer (some ⟨gb, 0, none⟩)] 104 rfl kj kj (numC gb kn cn hash true ((0 : Nat) : Int) _ hknl hcnl hhl r22_15) fun W16 e16 => ?_
    have x16 : Ext w W16 := Ext.tr x15 e16
    refine Qaa (.bool false) 105 rfl kj (Qal (u := .bool ((((0 : Nat) : Int) != ((0 : Nat) : Int)))) kj (congrArg Value.bool (bne_self_eq_false _))) ?_
    refine Qaa (.bool false) 106 rfl kj kj ?_
    refine Qac ?_
    refine hK42 _ _ ?_
    refine cond_false kj ?_
    refine wp_skip ?_
    refine hK23 _ _ ?_
    refine Qab ?_
    refine Qaa (.int .i64 ((i + 1 : Nat) : Int)) 107 rfl kj (Qal (u := .int .i64 (IntKind.i64.wrap (((i : Nat) : Int) + 1))) kj (congrArg (Value.int .i64) (i64n _ _ (by omega) (by omega)))) ?_
    refine Qaa (.int .i64 ((i + 1 : Nat) : Int)) 33 rfl kj kj ?_
    refine Qac ?_
    have r21_15 := (Qad r21_14 e15)
    have r21_16 := (Qad r21_15 e16)
    have r22_16 := (Qad r22_15 e16)
    have rz1 : W16.heap[gs12]? = some (.cells (cat [ints .u8 (kn), #[.bool true], #[.int .i64 ((0 : Nat) : Int)], ints .u8 (cn), ints .u8 (hash)]) 123) := by
     rcases hab with ⟨e, f⟩ | ⟨e, f⟩
     ·rw [← e]; exact r21_16
     ·rw [← f]; exact r22_16
    have rz2 : W16.heap[gs14]? = some (.cells (cat [ints .u8 (kn), #[.bool true], #[.int .i64 ((0 : Nat) : Int)], ints .u8 (cn), ints .u8 (hash)]) 123) := by
     rcases hab with ⟨e, f⟩ | ⟨e, f⟩
     ·rw [← f]; exact r22_16
     ·rw [← e]; exact r21_16
    repeat (first | with_reducible refine goX1 ?_ | with_reducible refine goX2 ?_ | with_reducible refine goX3 ?_)
    exact QaI ((i + 1), kn, true, 0, cn, hash) ⟨rfl, rfl, rfl, rfl, trivial⟩ ⟨(by omega), hknl, hcnl, hhl, hcnb, hhb, (Nat.zero_le _), rz1, rz2, (Qar.step (Qar.step (Qar.step (Qar.step (Qar.but (Qar.but (Qar.step (Qar.puts (Qar.step q7 e8) p9 (.inr (Nat.le_trans (Qar.size q7) (Nat.le_trans (Nat.le_refl _) l25)))) e10) q11 (.inl hma)) q12 (.inl hmb)) e13) e14) e15) e16), x16⟩ (by omega)
   ·skip
    refine wp_seq_k fun K43 hK43 => ?_
    refine Qab ?_
    refine Qaa (.pointer (some ⟨ga, 0, none⟩)) 50 rfl kj kj ?_
    refine Qaa (.pointer (some ⟨g25, 1, none⟩)) 51 rfl kj kj ?_
    refine Qaa (.slice op.a op.xs.length op.c) 52 rfl kj (Qag 33 _ g25 1 35 _ (.slice op.a op.xs.length op.c) _ r25_10 rfl kj kj kj) ?_
    obtain ⟨fs, efs⟩ : ∃ z, z = fsH has key hash num op.xs := ⟨_, rfl⟩
    have r2_1 := (Qad hh e1)
    have r2_2 := (Qad r2_1 e2)
    have r2_3 := (Qad r2_2 e3)
    have r2_4 := (Qad r2_3 e4)
    have r2_5 := (Qad r2_4 e5)
    have r2_6 := (Puts.row p6 r2_5 (Qae r2_4 l15))
    have r2_7 := (Qar.row q7 r2_6 (Qa5 (Qae r2_2 ls12) (Qa5 (Qae r2_3 ls14) QaT)))
    have r2_8 := (Qad r2_7 e8)
    have r2_9 := (Puts.row p9 r2_8 (Qae r2_7 l25))
    have r2_10 := (Qad r2_9 e10)
    have r1_1 := (Qad hq e1)
    have r1_2 := (Qad r1_1 e2)
    have r1_3 := (Qad r1_2 e3)
    have r1_4 := (Qad r1_3 e4)
    have r1_5 := (Qad r1_4 e5)
    have r1_6 := (Puts.row p6 r1_5 (Qae r1_4 l15))
    have r1_7 := (Qar.row q7 r1_6 (Qa5 (Qae r1_2 ls12) (Qa5 (Qae r1_3 ls14) QaT)))
    have r1_8 := (Qad r1_7 e8)
    have r1_9 := (Puts.row p9 r1_8 (Qae r1_7 l25))
    have r1_10 := (Qad r1_9 e10)
    have r3_4 := (Qad r3_3 e4)
    have r3_5 := (Qad r3_4 e5)
    have r3_6 := (Puts.row p6 r3_5 (Qae r3_4 l15))
    have r3_7 := (Qar.row q7 r3_6 (Qa5 (Qae r3_2 ls12) (Qa5 (Qae r3_3 ls14) QaT)))
    have r3_8 := (Qad r3_7 e8)
    have r3_9 := (Puts.row p9 r3_8 (Qae r3_7 l25))
    have r3_10 := (Qad r3_9 e10)
    have r4_4 := (Qad r4_3 e4)
    have r4_5 := (Qad r4_4 e5)
    have r4_6 := (Puts.row p6 r4_5 (Qae r4_4 l15))
    have r4_7 := (Qar.row q7 r4_6 (Qa5 (Qae r4_2 ls12) (Qa5 (Qae r4_3 ls14) QaT)))
    have r4_8 := (Qad r4_7 e8)
    have r4_9 := (Puts.row p9 r4_8 (Qae r4_7 l25))
    have r4_10 := (Qad r4_9 e10)
    have r21_8 := (Qad rA e8)
    have r21_9 := (Puts.row p9 r21_8 (Qae rA l25))
    have r21_10 := (Qad r21_9 e10)
    refine Qa0 (fun v W' => ∃ u, v = .tuple #[u, .nilIface] ∧ OwnN .u8 5 W10.heap.size (fs) u W' ∧ ExtB ga W10 W' ∧ W'.heap[ga]? = some (.cells (cat [ints .u8 (key), #[.bool has], #[.int .i64 ((nxH has num : Nat) : Int)], ints .u8 (chain), ints .u8 (dig (hash ++ fs))]) 123)) 33 #[.pointer (some ⟨ga, 0, none⟩), .slice op.a op.xs.length op.c] 53 rfl kj kj ((QkC ga key chain hash has num op.xs fs efs _ th tq tsc tsq _ hkl hcl hhl hhb r2_10 r1_10 r3_10 r4_10 (Qae hh hga0) (Qae hq hga0) (Qae hsc hga0) (Qae hsq hga0) r21_10 (by omega) hobx (by omega) (fun W e => RdK.here (RdK.extB ((OpAt.rd hop).ext x10) e hga0))).mono (by rintro e w' ⟨u, rfl, h1, h2, h3⟩; exact ⟨_, rfl, u, rfl, h1, h2, h3⟩)) fun v W11 h44 => ?_
    obtain ⟨u44_, rfl, hu44_, q11, r21_11⟩ := h44
    have x11 : Ext w W11 := ExtB.up x10 q11 hga0
    obtain ⟨a44_, c44_, rfl, -⟩ := id (OwnN.rd hu44_)
    refine Qaa (.tuple #[.slice a44_ ((fs).length) c44_, .nilIface]) 49 rfl kj kj ?_
    refine Qaa (.slice a44_ ((fs).length) c44_) 54 rfl kj kj ?_
    refine Qaa (.nilIface) 55 rfl kj kj ?_
    refine Qaa (.slice a44_ ((fs).length) c44_) 10 rfl kj kj ?_
    refine Qaa (.nilIface) 11 rfl kj kj ?_
    refine Qac ?_
    refine hK43 _ _ ?_
    refine wp_seq_k fun K45 hK45 => ?_
    refine wp_seq_k fun K46 hK46 => ?_
    refine Qab ?_
    refine Qaa (.nilIface) 56 rfl kj kj ?_
    refine Qaa (.bool false) 57 rfl kj kj ?_
    refine Qac ?_
    refine hK46 _ _ ?_
    refine cond_false kj ?_
    refine wp_skip ?_
    refine hK45 _ _ ?_
    refine wp_seq_k fun K47 hK47 => ?_
    refine Qab ?_
    refine Qaa (.pointer (some ⟨gb, 0, none⟩)) 59 rfl kj kj ?_
    refine Qaa (.slice a44_ ((fs).length) c44_) 60 rfl kj kj ?_
    have r22_8 := (Qad rB e8)
    have r22_9 := (Puts.row p9 r22_8 (Qae rB l25))
    have r22_10 := (Qad r22_9 e10)
    have r2_11 := (ExtB.row q11 r2_10 (Qae hh hga0))
    have r1_11 := (ExtB.row q11 r1_10 (Qae hq hga0))
    have r3_11 := (ExtB.row q11 r3_10 (Qae hsc hga0))
    have r4_11 := (ExtB.row q11 r4_10 (Qae hsq hga0))
    have r22_11 := (ExtB.row q11 r22_10 (Ne.symm hgg))
    refine Qa0 (fun v W' => ∃ u, v = .tuple #[u, .nilIface] ∧ OwnN .u8 5 W11.heap.size (op.xs) u W' ∧ ExtB gb W11 W' ∧ W'.heap[gb]? = some (.cells (cat [ints .u8 (key), #[.bool has], #[.int .i64 ((nxH has num : Nat) : Int)], ints .u8 (chain), ints .u8 (dig (hash ++ fs))]) 123)) 34 #[.pointer (some ⟨gb, 0, none⟩), .slice a44_ ((fs).length) c44_] 61 rfl kj kj ((Qk2 gb key chain hash has num op.xs fs efs _ th tq tsc tsq _ hkl hcl hhl hhb r2_11 r1_11 r3_11 r4_11 (Qae hh hgb0) (Qae hq hgb0) (Qae hsc hgb0) (Qae hsq hgb0) r22_11 (by omega) hobx (by omega) (fun W e => OwnN.rd (Qdc hu44_ e (QdP hu44_ (Qa8 r22_10))))).mono (by rintro e w' ⟨u, rfl, h1, h2, h3⟩; exact ⟨_, rfl, u, rfl, h1, h2, h3⟩)) fun v W12 h48 => ?_
    obtain ⟨u48_, rfl, hu48_, q12, r22_12⟩ := h48
    have x12 : Ext w W12 := ExtB.up x11 q12 hgb0
    obtain ⟨a48_, c48_, rfl, -⟩ := id (OwnN.rd hu48_)
    refine Qaa (.tuple #[.slice a48_ ((op.xs).length) c48_, .nilIface]) 58 rfl kj kj ?_
    refine Qaa (.slice a48_ ((op.xs).length) c48_) 62 rfl kj kj ?_
    refine Qaa (.nilIface) 63 rfl kj kj ?_
    refine Qaa (.slice a48_ ((op.xs).length) c48_) 12 rfl kj kj ?_
    refine Qaa (.nilIface) 11 rfl kj kj ?_
    refine Qac ?_
    refine hK47 _ _ ?_
    refine wp_seq_k fun K49 hK49 => ?_
    refine Qab ?_
    refine Qaa (.nilIface) 64 rfl kj kj ?_
    refine Qaa (.bool false) 65 rfl kj kj ?_
    refine Qaa (.bool false) 66 rfl kj kj ?_
    refine Qaa (.slice a48_ ((op.xs).length) c48_) 67 rfl kj kj ?_
    refine Qaa (.pointer (some ⟨g25, 1, none⟩)) 68 rfl kj kj ?_
    have r25_11 := (ExtB.row q11 r25_10 (Qap rA l25))
    have r25_12 := (ExtB.row q12 r25_11 (Qap rB l25))
    refine Qaa (.slice op.a op.xs.length op.c) 69 rfl kj (Qag 33 _ g25 1 35 _ (.slice op.a op.xs.length op.c) _ r25_12 rfl kj kj kj) ?_
    refine Qax (.bool true) 26 #[.slice a48_ ((op.xs).length) c48_, .slice op.a op.xs.length op.c] 70 rfl kj kj ((Qk5 _ _ _ _ _ rfl (RdK.bytes (OwnN.rd hu48_) hobx) (RdK.bytes (OpAt.rd (OpAt.ext hop x12)) hobx))) fun W13 e13 => ?_
    have x13 : Ext w W13 := Ext.tr x12 e13
    refine Qaa (.bool false) 71 rfl kj kj ?_
    refine Qaa (.bool false) 72 rfl kj kj ?_
    refine Qac ?_
    refine hK49 _ _ ?_
    refine cond_false kj ?_
    refine wp_skip ?_
    refine hK27 _ _ ?_
    refine wp_seq_k fun K50 hK50 => ?_
    refine Qab ?_
    refine Qaa (.pointer (some ⟨ga, 0, none⟩)) 95 rfl kj kj ?_
    have r21_12 := (ExtB.row q12 r21_11 hgg)
    have r21_13 := (Qad r21_12 e13)
    refine Qax (.agg (ints .u8 (dig (hash ++ fs)))) 35 #[.pointer (some ⟨ga, 0, none⟩)] 96 rfl kj kj (Qfg ga key chain (dig (hash ++ fs)) has ((nxH has num : Nat) : Int) _ hkl hcl (QaJ _) r21_13) fun W14 e14 => ?_
    have x14 : Ext w W14 := Ext.tr x13 e14
    refine Qaa (.pointer (some ⟨gb, 0, none⟩)) 97 rfl kj kj ?_
    have r22_13 := (Qad r22_12 e13)
    have r22_14 := (Qad r22_13 e14)
    refine Qax (.agg (ints .u8 (dig (hash ++ fs)))) 35 #[.pointer (some ⟨gb, 0, none⟩)] 98 rfl kj kj (Qfg gb key chain (dig (hash ++ fs)) has ((nxH has num : Nat) : Int) _ hkl hcl (QaJ _) r22_14) fun W15 e15 => ?_
    have x15 : Ext w W15 := Ext.tr x14 e15
    refine Qaa (.bool false) 99 rfl kj (QcC 29 _ _ _ _ _ (.bool false) rfl kj kj kj (Qdw 29 (e := 5) (k := .u8) (dig (hash ++ fs)) (dig (hash ++ fs)) (decide_eq_true rfl) (QaJ _) (QaJ _) kj kj kj _)) ?_
    refine Qaa (.bool false) 100 rfl kj kj ?_
    refine Qaa (.pointer (some ⟨ga, 0, none⟩)) 101 rfl kj kj ?_
    have r21_14 := (Qad r21_13 e14)
    have r21_15 := (Qad r21_14 e15)
    refine Qax (.int .i64 ((nxH has num : Nat) : Int)) 36 #[.pointer (some ⟨ga, 0, none⟩)] 102 rfl kj kj (numC ga key chain (dig (hash ++ fs)) has ((nxH has num : Nat) : Int) _ hkl hcl (QaJ _) r21_15) fun W16 e16 => ?_
    have x16 : Ext w W16 := Ext.tr x15 e16
    refine Qaa (.pointer (some ⟨gb, 0, none⟩)) 103 rfl kj kj ?_
    have r22_15 := (Qad r22_14 e15)
    have r22_16 := (Qad r22_15 e16)
    refine Qax (.int .i64 ((nxH has num : Nat) : Int)) 36 #[.pointer (some ⟨gb, 0, none⟩)] 104 rfl kj kj (numC gb key chain (dig (hash ++ fs)) has ((nxH has num : Nat) : Int) _ hkl hcl (QaJ _) r22_16) fun W17 e17 => ?_
    have x17 : Ext w W17 := Ext.tr x16 e17
    refine Qaa (.bool false) 105 rfl kj (Qal (u := .bool ((((nxH has num : Nat) : Int) != ((nxH has num : Nat) : Int)))) kj (congrArg Value.bool (bne_self_eq_false _))) ?_
    refine Qaa (.bool false) 106 rfl kj kj ?_
    refine Qac ?_
    refine hK50 _ _ ?_
    refine cond_false kj ?_
    refine wp_skip ?_
    refine hK23 _ _ ?_
    refine Qab ?_
    refine Qaa (.int .i64 ((i + 1 : Nat) : Int)) 107 rfl kj (Qal (u := .int .i64 (IntKind.i64.wrap (((i : Nat) : Int) + 1))) kj (congrArg (Value.int .i64) (i64n _ _ (by omega) (by omega)))) ?_
    refine Qaa (.int .i64 ((i + 1 : Nat) : Int)) 33 rfl kj kj ?_
    refine Qac ?_
    have r21_16 := (Qad r21_15 e16)
    have r21_17 := (Qad r21_16 e17)
    have r22_17 := (Qad r22_16 e17)
    have rz1 : W17.heap[gs12]? = some (.cells (cat [ints .u8 (key), #[.bool has], #[.int .i64 ((nxH has num : Nat) : Int)], ints .u8 (chain), ints .u8 (dig (hash ++ fs))]) 123) := by
     rcases hab with ⟨e, f⟩ | ⟨e, f⟩
     ·rw [← e]; exact r21_17
     ·rw [← f]; exact r22_17
    have rz2 : W17.heap[gs14]? = some (.cells (cat [ints .u8 (key), #[.bool has], #[.int .i64 ((nxH has num : Nat) : Int)], ints .u8 (chain), ints .u8 (dig (hash ++ fs))]) 123) := by
     rcases hab with ⟨e, f⟩ | ⟨e, f⟩
     ·rw [← f]; exact r22_17
     ·rw [← e]; exact r21_17
    repeat (first | with_reducible refine goX1 ?_ | with_reducible refine goX2 ?_ | with_reducible refine goX3 ?_)
    exact QaI ((i + 1), key, has, (nxH has num), chain, (dig (hash ++ fs))) ⟨rfl, rfl, rfl, rfl, trivial⟩ ⟨(by omega), hkl, hcl, (QaJ _), hcb, (Qc6 _), (Nat.le_trans (QjT has num) (Nat.succ_le_succ hnum)), rz1, rz2, (Qar.step (Qar.step (Qar.step (Qar.step (Qar.step (Qar.but (Qar.but (Qar.step (Qar.puts (Qar.step q7 e8) p9 (.inr (Nat.le_trans (Qar.size q7) (Nat.le_trans (Nat.le_refl _) l25)))) e10) q11 (.inl hma)) q12 (.inl hmb)) e13) e14) e15) e16) e17), x17⟩ (by omega)
 ·skip
  have heq : i = len := by have := of_decide_eq_false c20; omega
  refine wp_exit ?_
  refine hK16 _ _ ?_
  refine wp_seq_k fun K51 hK51 => ?_
  refine Qab ?_
  refine Qaa (.pointer (some ⟨g15, 0, none⟩)) 109 rfl kj kj ?_
  have r15_7 := (Qar.row q7 r15_6 (Qa5 n51 (Qa5 n52 QaT)))
  refine Qaa (.pointer (some ⟨gs12, 0, none⟩)) 110 rfl kj (Qag 49 _ g15 0 51 _ (.pointer (some ⟨gs12, 0, none⟩)) _ r15_7 rfl kj kj kj) ?_
  have r3_4 := (Qad r3_3 e4)
  have r3_5 := (Qad r3_4 e5)
  have r3_6 := (Puts.row p6 r3_5 (Qae r3_4 l15))
  have r3_7 := (Qar.row q7 r3_6 (Qa5 (Qae r3_2 ls12) (Qa5 (Qae r3_3 ls14) QaT)))
  have r4_4 := (Qad r4_3 e4)
  have r4_5 := (Qad r4_4 e5)
  have r4_6 := (Puts.row p6 r4_5 (Qae r4_4 l15))
  have r4_7 := (Qar.row q7 r4_6 (Qa5 (Qae r4_2 ls12) (Qa5 (Qae r4_3 ls14) QaT)))
  refine Qax (.tuple #[.agg (ints .u8 (twA chain)), .agg (ints .u8 (twB chain))]) 37 #[.pointer (some ⟨gs12, 0, none⟩)] 111 rfl kj kj (QiM gs12 key chain hash has ((num : Nat) : Int) tsc tsq _ hkl hcl hhl hcb r3_7 r4_7 q12_1) fun W8 e8 => ?_
  have x8 : Ext w W8 := Ext.tr xx1 e8
  refine Qaa (.tuple #[.agg (ints .u8 (twA chain)), .agg (ints .u8 (twB chain))]) 108 rfl kj kj ?_
  refine Qaa (.agg (ints .u8 (twA chain))) 112 rfl kj kj ?_
  refine Qaa (.agg (ints .u8 (twB chain))) 113 rfl kj kj ?_
  refine Qaq (ints .u8 (List.replicate 32 0)) 23 13 rfl kj kj fun g52 W9 l52 e9 r52_9 => ?_
  have x9 : Ext w W9 := Ext.tr x8 e9
  have b52 : w.heap.size ≤ g52 := Nat.le_trans x8.size l52
  refine Qaq (ints .u8 (List.replicate 32 0)) 23 14 rfl kj kj fun g53 W10 l53 e10 r53_10 => ?_
  have x10 : Ext w W10 := Ext.tr x9 e10
  have b53 : w.heap.size ≤ g53 := Nat.le_trans x9.size l53
  have r52_10 := (Qad r52_9 e10)
  refine Qah g52 _ (ints .u8 (twA chain)) 23 r52_10 rfl kj (Qam 23 _ _ g52 23 _ _ r52_10 rfl kj kj (isz (n := 32) kj ((Qaf _ _).trans (Qb8 _))) (eqsz (n := 32) ((Qaf _ _).trans (List.length_replicate (n := 32))) ((Qaf _ _).trans (Qb8 _))) (Qay _ _)) fun W11 p11 r52_11 => ?_
  have x11 : Ext w W11 := Puts.ext p11 x10 b52
  have r53_11 := (Puts.row p11 r53_10 (Qap r52_9 l53))
  refine Qah g53 _ (ints .u8 (twB chain)) 23 r53_11 rfl kj (Qam 23 _ _ g53 23 _ _ r53_11 rfl kj kj (isz (n := 32) kj ((Qaf _ _).trans (Qb3 _))) (eqsz (n := 32) ((Qaf _ _).trans (List.length_replicate (n := 32))) ((Qaf _ _).trans (Qb3 _))) (Qay _ _)) fun W12 p12 r53_12 => ?_
  have x12 : Ext w W12 := Puts.ext p12 x11 b53
  refine Qac ?_
  refine hK51 _ _ ?_
  refine wp_seq_k fun K54 hK54 => ?_
  refine Qab ?_
  refine Qaa (.pointer (some ⟨g15, 1, none⟩)) 115 rfl kj kj ?_
  have r15_8 := (Qad r15_7 e8)
  have r15_9 := (Qad r15_8 e9)
  have r15_10 := (Qad r15_9 e10)
  have r15_11 := (Puts.row p11 r15_10 (Qae r15_8 l52))
  have r15_12 := (Puts.row p12 r15_11 (Qae r15_9 l53))
  refine Qaa (.pointer (some ⟨gs14, 0, none⟩)) 116 rfl kj (Qag 49 _ g15 1 51 _ (.pointer (some ⟨gs14, 0, none⟩)) _ r15_12 rfl kj kj kj) ?_
  have r3_8 := (Qad r3_7 e8)
  have r3_9 := (Qad r3_8 e9)
  have r3_10 := (Qad r3_9 e10)
  have r3_11 := (Puts.row p11 r3_10 (Qae r3_8 l52))
  have r3_12 := (Puts.row p12 r3_11 (Qae r3_9 l53))
  have r4_8 := (Qad r4_7 e8)
  have r4_9 := (Qad r4_8 e9)
  have r4_10 := (Qad r4_9 e10)
  have r4_11 := (Puts.row p11 r4_10 (Qae r4_8 l52))
  have r4_12 := (Puts.row p12 r4_11 (Qae r4_9 l53))
  have r14_8 := (Qad q14_1 e8)
  have r14_9 := (Qad r14_8 e9)
  have r14_10 := (Qad r14_9 e10)
  have r14_11 := (Puts.row p11 r14_10 (Qae r14_8 l52))
  have r14_12 := (Puts.row p12 r14_11 (Qae r14_9 l53))
  refine Qax (.tuple #[.agg (ints .u8 (twA chain)), .agg (ints .u8 (twB chain))]) 37 #[.pointer (some ⟨gs14, 0, none⟩)] 117 rfl kj kj (QiM gs14 key chain hash has ((num : Nat) : Int) tsc tsq _ hkl hcl hhl hcb r3_12 r4_12 r14_12) fun W13 e13 => ?_
  have x13 : Ext w W13 := Ext.tr x12 e13
  refine Qaa (.tuple #[.agg (ints .u8 (twA chain)), .agg (ints .u8 (twB chain))]) 114 rfl kj kj ?_
  refine Qaa (.agg (ints .u8 (twA chain))) 118 rfl kj kj ?_
  refine Qaa (.agg (ints .u8 (twB chain))) 119 rfl kj kj ?_
  refine Qaq (ints .u8 (List.replicate 32 0)) 23 15 rfl kj kj fun g55 W14 l55 e14 r55_14 => ?_
  have x14 : Ext w W14 := Ext.tr x13 e14
  have b55 : w.heap.size ≤ g55 := Nat.le_trans x13.size l55
  refine Qaq (ints .u8 (List.replicate 32 0)) 23 16 rfl kj kj fun g56 W15 l56 e15 r56_15 => ?_
  have x15 : Ext w W15 := Ext.tr x14 e15
  have b56 : w.heap.size ≤ g56 := Nat.le_trans x14.size l56
  have r55_15 := (Qad r55_14 e15)
  refine Qah g55 _ (ints .u8 (twA chain)) 23 r55_15 rfl kj (Qam 23 _ _ g55 23 _ _ r55_15 rfl kj kj (isz (n := 32) kj ((Qaf _ _).trans (Qb8 _))) (eqsz (n := 32) ((Qaf _ _).trans (List.length_replicate (n := 32))) ((Qaf _ _).trans (Qb8 _))) (Qay _ _)) fun W16 p16 r55_16 => ?_
  have x16 : Ext w W16 := Puts.ext p16 x15 b55
  have r56_16 := (Puts.row p16 r56_15 (Qap r55_14 l56))
  refine Qah g56 _ (ints .u8 (twB chain)) 23 r56_16 rfl kj (Qam 23 _ _ g56 23 _ _ r56_16 rfl kj kj (isz (n := 32) kj ((Qaf _ _).trans (Qb3 _))) (eqsz (n := 32) ((Qaf _ _).trans (List.length_replicate (n := 32))) ((Qaf _ _).trans (Qb3 _))) (Qay _ _)) fun W17 p17 r56_17 => ?_
  have x17 : Ext w W17 := Puts.ext p17 x16 b56
  refine Qac ?_
  refine hK54 _ _ ?_
  refine wp_seq_k fun K57 hK57 => ?_
  refine Qab ?_
  have r52_12 := (Puts.row p12 r52_11 (Qae r52_9 l53))
  have r52_13 := (Qad r52_12 e13)
  have r52_14 := (Qad r52_13 e14)
  have r52_15 := (Qad r52_14 e15)
  have r52_16 := (Puts.row p16 r52_15 (Qae r52_13 l55))
  have r52_17 := (Puts.row p17 r52_16 (Qae r52_14 l56))
  refine Qaa (.agg (ints .u8 (twA chain))) 120 rfl kj (Qas 23 _ g52 23 _ _ r52_17 rfl kj kj (isz (n := 32) kj ((Qaf _ _).trans (Qb8 _)))) ?_
  have r55_17 := (Puts.row p17 r55_16 (Qae r55_14 l56))
  refine Qaa (.agg (ints .u8 (twA chain))) 121 rfl kj (Qas 23 _ g55 23 _ _ r55_17 rfl kj kj (isz (n := 32) kj ((Qaf _ _).trans (Qb8 _)))) ?_
  refine Qaa (.bool true) 122 rfl kj (Qdk 23 _ _ _ _ _ (.bool true) rfl kj kj kj (Qev 23 (e := 5) (k := .u8) (twA chain) (twA chain) (decide_eq_true rfl) (Qb8 _) (Qb8 _) kj kj kj _)) ?_
  refine Qaa (.bool true) 123 rfl kj kj ?_
  have r53_13 := (Qad r53_12 e13)
  have r53_14 := (Qad r53_13 e14)
  have r53_15 := (Qad r53_14 e15)
  have r53_16 := (Puts.row p16 r53_15 (Qae r53_13 l55))
  have r53_17 := (Puts.row p17 r53_16 (Qae r53_14 l56))
  refine Qaa (.agg (ints .u8 (twB chain))) 124 rfl kj (Qas 23 _ g53 23 _ _ r53_17 rfl kj kj (isz (n := 32) kj ((Qaf _ _).trans (Qb3 _)))) ?_
  refine Qaa (.agg (ints .u8 (twB chain))) 125 rfl kj (Qas 23 _ g56 23 _ _ r56_17 rfl kj kj (isz (n := 32) kj ((Qaf _ _).trans (Qb3 _)))) ?_
  refine Qaa (.bool true) 126 rfl kj (Qdk 23 _ _ _ _ _ (.bool true) rfl kj kj kj (Qev 23 (e := 5) (k := .u8) (twB chain) (twB chain) (decide_eq_true rfl) (Qb3 _) (Qb3 _) kj kj kj _)) ?_
  refine Qaa (.bool true) 127 rfl kj kj ?_
  refine Qaa (.bool true) 4 rfl kj kj ?_
  refine Qac ?_
  refine hK57 _ _ ?_
  refine wp_ret ?_
  repeat (first | with_reducible refine goR1 ?_ | with_reducible refine goR2 ?_)
  exact (show bodyPost _ _ _ .ret _ _ from ret1 (.bool true) rfl (Qa9 kj) ⟨rfl, x17⟩)
theorem lawBoth (s : ByteArray) (nm : List Int) (hs : strB s = nm) (hnb : Qaj nm) (len cap gT oT : Nat) (ad : Option Addr) (ops : Nat → OpV)  (th tq tsc tsq : TypeId) (w : World) (had : 0 < len → ad = some ⟨gT, oT, none⟩) (hops : ∀ i, i < len → OpAt w gT oT i (ops i)) (hh : w.heap[2]? = some (.cells (ints .u32 [1634760805, 857760878, 2036477234, 1797285236]) th)) (hq : w.heap[3]? = some (.cells (ints .i64 [0, 4, 8, 12, 1, 5, 9, 13, 2, 6, 10, 14, 3, 7, 11, 15, 0, 5, 10, 15, 1, 6, 11, 12, 2, 7, 8, 13, 3, 4, 9, 14]) tq)) (hsc : w.heap[1]? = some (.cells (ints .u64 Qbi) tsc)) (hsq : w.heap[0]? = some (.cells (ints .u64 Qat) tsq)) : Calls Tryd.prog 4 #[.string s, .slice ad len cap] w (Ret w (.bool true)) := by
  by_cases hall : ∀ i, i < len → i ≤ 60 ∧ (ops i).xs.length ≤ 500
  · rcases Nat.lt_or_ge 1000 s.size with h | h
    · exact Qkh s nm hs hnb len cap gT oT ad ops th tq tsc tsq w had hops hh hq hsc hsq hall h
    · exact Qkj s nm hs hnb len cap gT oT ad ops th tq tsc tsq w had hops hh hq hsc hsq hall h
  · exact Qki s nm hs hnb len cap gT oT ad ops th tq tsc tsq w had hops hh hq hsc hsq hall
end Go.Proofs.YtoiendjhplbjjaaDoor.Ci
end
section
namespace Go.Proofs.YtoiendjhplbjjaaDoor.Auto
open Go Go.RowKit
open Rely
set_option linter.unusedVariables false
theorem chunks {α : Type} (m : Nat) : ∀ (n : Nat) (cs : List α), cs.length = n * m → ((List.range n).map fun i => (cs.drop (i * m)).take m).flatten = cs
  | 0, cs, h => by
    have : cs = [] := List.length_eq_zero_iff.1 (by simpa using h)
    subst this; rfl
  | n + 1, cs, h => by
    have hm : (n + 1) * m = n * m + m := Nat.succ_mul n m
    rw [List.range_succ, List.map_append, List.flatten_append]
    have ih := chunks m n (cs.take (n * m)) (by rw [List.length_take]; omega)
    have e1 : ((List.range n).map fun i => (cs.drop (i * m)).take m) = ((List.range n).map fun i => ((cs.take (n * m)).drop (i * m)).take m) := by
      refine List.map_congr_left fun i hi => ?_
      rw [List.mem_range] at hi
      have h1 : (i + 1) * m ≤ n * m := Nat.mul_le_mul_right m hi
      rw [Nat.succ_mul] at h1
      rw [List.drop_take, List.take_take, Nat.min_eq_left (by omega)]
    rw [e1, ih]
    simp only [List.map_cons, List.map_nil, List.flatten_cons, List.flatten_nil, List.append_nil]
    have e2 : (cs.drop (n * m)).take m = cs.drop (n * m) := List.take_of_length_le (by rw [List.length_drop]; omega)
    rw [e2, List.take_append_drop]
theorem Qfh {H : Type} {enc : TypeId × Value → H} {P : Program} {w : World} {base : Nat} {sp : Nat → Bool} {held : Bool} {fuel : Nat} {t e i : TypeId} {n m : Nat} {k : IntKind} {cs : List Value} {zss : List (List Int)} {p : List MemPlace}
    (ht : P.underlying t = some (.array n e)) (he : P.underlying e = some (.array m i)) (hi : P.underlying i = some (.int k)) (hci : P.cellsOf i = 1) (hce : P.cellsOf e = m) (hct : P.cellsOf t = n * m)
    (h : DataW.trod enc P w base sp held fuel t cs = some (.agg (zss.map (Lib.tabData k)), p)) : cs = zss.flatten.map fun z => Value.int k z := by
  cases fuel with
  | zero => simp [DataW.trod] at h
  | succ fuel =>
    simp only [DataW.trod, ht, hce, hct] at h
    split at h
    · rename_i hl
      obtain ⟨xs, hm, hx⟩ := Option.map_eq_some_iff.1 h
      have hxs : xs.map (·.1) = zss.map fun z => (Lib.tabData k z : DataW H) := by
        have := congrArg Prod.fst hx
        simpa using this
      have hxl : xs.length = n := by simpa using Lib.mapM_length hm
      have hzl : zss.length = n := by
        have := congrArg List.length hxs
        simp at this
        omega
      rw [← chunks m n cs (by simpa using hl), List.map_flatten]
      congr 1
      apply List.ext_getElem?
      intro j
      by_cases hj : j < n
      · obtain ⟨b, hb, hf⟩ := Lib.mapM_at hm j j (by simp [hj])
        have h2 : (xs.map (·.1))[j]? = some b.1 := by simp [hb]
        rw [hxs, List.getElem?_map, List.getElem?_eq_getElem (by omega), Option.map_some, Option.some.injEq] at h2
        have h3 := Lib.cells_of_tab he hi hci hce (zs := zss[j]'(by omega)) (p := b.2) (by rw [h2]; exact hf)
        rw [List.getElem?_map, List.getElem?_map, List.getElem?_range hj, List.getElem?_eq_getElem (by omega), Option.map_some, Option.map_some, h3]
      · rw [List.getElem?_eq_none (by simp; omega), List.getElem?_eq_none (by simp; omega)]
    · cases h
theorem QhF {P : Program} {w : World} {laid : List (String × DataW Unit)} {n : String} {k : IntKind} {zss : List (List Int)} {g : Nat} {t e i : TypeId} {m1 m : Nat} (h : laidMet P laid w) (hm : (n, DataW.agg (zss.map (Lib.tabData k))) ∈ laid)
    (hg : P.globalNamed n = some g) (hty : (P.globals[g]?).map (·.type) = some t) (ht : P.underlying t = some (.array m1 e)) (he : P.underlying e = some (.array m i)) (hi : P.underlying i = some (.int k)) (hci : P.cellsOf i = 1) (hce : P.cellsOf e = m) (hct : P.cellsOf t = m1 * m) (h0 : 0 < zss.flatten.length) :
    ∃ t, w.heap[g]? = some (.cells (ints k zss.flatten) t) := by
  obtain ⟨ps, hL, -, hC⟩ := h
  obtain ⟨g', t', cs, fuel, p, hg', ht', hvar, hd, hin⟩ := Qdp _ _ _ _ hL hm
  obtain rfl := Option.some.inj (hg.symm.trans hg')
  obtain rfl := Option.some.inj (hty.symm.trans ht')
  have hcs := Qfh ht he hi hci hce hct hd
  have hsz : 0 < cs.size := by rw [← Array.length_toList, hcs, List.length_map]; exact h0
  obtain ⟨⟨c, t2, hc⟩, -⟩ := hC g 0 (hin _ (List.mem_map.2 ⟨0, List.mem_range.2 hsz, rfl⟩))
  unfold World.var? at hvar
  rw [hg] at hvar
  simp only [Option.bind_some, hc, Option.some.injEq] at hvar
  subst hvar
  refine ⟨t2, hc.trans ?_⟩
  rw [show c = ints k zss.flatten from by rw [ints, ← hcs]]
end Go.Proofs.YtoiendjhplbjjaaDoor.Auto
end
