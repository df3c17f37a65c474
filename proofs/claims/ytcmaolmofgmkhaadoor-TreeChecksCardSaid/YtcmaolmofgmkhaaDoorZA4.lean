/- Texts of this claim, joined (A4). -/
import Derived.Test.YtcmaolmofgmkhaaDoorZA3
import Derived.Lib.SmallJoins
import Derived.Lib.LaidTab
import Derived.Deep.Strs

section
namespace Go.Proofs.YtcmaolmofgmkhaaDoor.Te
open Go Go.RowKit
open Rely Auto Own Seat Sha
set_option linter.unusedVariables false
set_option linter.unusedSimpArgs false
set_option maxRecDepth 100000 in
set_option maxHeartbeats 4000000 in
theorem Qjm (ts us : List NdV) (a_t a_u : Option Addr) (c_t c_u B1 B2 : Nat) (w : World) (ht : TrAt B1 w a_t ts) (hu : TrAt B2 w a_u us) (hT : TabAt w) (name : Int) (hs : ¬ ∀ i, i < ts.length → i ≤ 70 ∧ (ndi ts i).n.ms.length ≤ 50) : Calls Tryd.prog 3 #[.slice a_t ts.length c_t, .slice a_u us.length c_u, .int .i64 name] w (Ret w (.bool true)) := by
  refine enter 60 [(0, .slice a_t ts.length c_t), (1, .slice a_u us.length c_u), (2, .int .i64 name)] Tryd.func3 rfl rfl kj rfl ?_
  refine wp_seq_k fun K1 hK1 => ?_
  refine Qab ?_
  refine Qaa (.bool false) 6 rfl kj kj ?_
  refine Qae ?_
  refine hK1 _ _ ?_
  refine wp_seq_k fun K2 hK2 => ?_
  refine wp_seq_k fun K3 hK3 => ?_
  refine Qab ?_
  refine Qam (.bool true) 9 #[] 10 rfl kj kj (Qfy _ (TabAt.ext hT (Rely.Ext.refl w))) fun W1 e1 => ?_
  have x1 : Ext w W1 := Ext.tr (Rely.Ext.refl w) e1
  refine Qaa (.bool false) 11 rfl kj kj ?_
  refine Qae ?_
  refine hK3 _ _ ?_
  refine cond_false kj ?_
  refine wp_skip ?_
  refine hK2 _ _ ?_
  refine wp_seq_k fun K4 hK4 => ?_
  refine wp_seq_k fun K5 hK5 => ?_
  refine Qab ?_
  refine Qaa (.slice a_t ts.length c_t) 12 rfl kj kj ?_
  refine Qam (.bool true) 10 #[.slice a_t ts.length c_t] 13 rfl kj kj (Qex ts a_t c_t _ _ (TrAt.ext ht x1) hs) fun W2 e2 => ?_
  have x2 : Ext w W2 := Ext.tr x1 e2
  refine Qaa (.bool true) 14 rfl kj kj ?_
  refine Qad 15 rfl kj ?_
  refine Qad 16 rfl kj ?_
  refine Qaa (.bool true) 17 rfl kj kj ?_
  refine Qae ?_
  refine hK5 _ _ ?_
  refine cond_true kj ?_
  refine wp_seq_k fun K6 hK6 => ?_
  refine Qab ?_
  refine Qaa (.bool true) 6 rfl kj kj ?_
  refine Qae ?_
  refine hK6 _ _ ?_
  refine wp_ret ?_
  repeat (first | with_reducible refine goR1 ?_ | with_reducible refine goR2 ?_)
  exact (show bodyPost _ _ _ .ret _ _ from ret1 (.bool true) rfl (Qap kj) ⟨rfl, x2⟩)
set_option maxRecDepth 100000 in
set_option maxHeartbeats 4000000 in
theorem Qjl (ts us : List NdV) (a_t a_u : Option Addr) (c_t c_u B1 B2 : Nat) (w : World) (ht : TrAt B1 w a_t ts) (hu : TrAt B2 w a_u us) (hT : TabAt w) (name : Int) (hs : ∀ i, i < ts.length → i ≤ 70 ∧ (ndi ts i).n.ms.length ≤ 50) (hsu : ¬ ∀ i, i < us.length → i ≤ 70 ∧ (ndi us i).n.ms.length ≤ 50) : Calls Tryd.prog 3 #[.slice a_t ts.length c_t, .slice a_u us.length c_u, .int .i64 name] w (Ret w (.bool true)) := by
  refine enter 60 [(0, .slice a_t ts.length c_t), (1, .slice a_u us.length c_u), (2, .int .i64 name)] Tryd.func3 rfl rfl kj rfl ?_
  refine wp_seq_k fun K1 hK1 => ?_
  refine Qab ?_
  refine Qaa (.bool false) 6 rfl kj kj ?_
  refine Qae ?_
  refine hK1 _ _ ?_
  refine wp_seq_k fun K2 hK2 => ?_
  refine wp_seq_k fun K3 hK3 => ?_
  refine Qab ?_
  refine Qam (.bool true) 9 #[] 10 rfl kj kj (Qfy _ (TabAt.ext hT (Rely.Ext.refl w))) fun W1 e1 => ?_
  have x1 : Ext w W1 := Ext.tr (Rely.Ext.refl w) e1
  refine Qaa (.bool false) 11 rfl kj kj ?_
  refine Qae ?_
  refine hK3 _ _ ?_
  refine cond_false kj ?_
  refine wp_skip ?_
  refine hK2 _ _ ?_
  refine wp_seq_k fun K4 hK4 => ?_
  refine wp_seq_k fun K5 hK5 => ?_
  refine Qab ?_
  refine Qaa (.slice a_t ts.length c_t) 12 rfl kj kj ?_
  refine Qam (.bool false) 10 #[.slice a_t ts.length c_t] 13 rfl kj kj (QbZ ts a_t c_t _ _ (TrAt.ext ht x1) hs) fun W2 e2 => ?_
  have x2 : Ext w W2 := Ext.tr x1 e2
  refine Qaa (.bool false) 14 rfl kj kj ?_
  refine Qaa (.slice a_u us.length c_u) 15 rfl kj kj ?_
  refine Qam (.bool true) 10 #[.slice a_u us.length c_u] 16 rfl kj kj (Qex us a_u c_u _ _ (TrAt.ext hu x2) hsu) fun W3 e3 => ?_
  have x3 : Ext w W3 := Ext.tr x2 e3
  refine Qaa (.bool true) 17 rfl kj kj ?_
  refine Qae ?_
  refine hK5 _ _ ?_
  refine cond_true kj ?_
  refine wp_seq_k fun K6 hK6 => ?_
  refine Qab ?_
  refine Qaa (.bool true) 6 rfl kj kj ?_
  refine Qae ?_
  refine hK6 _ _ ?_
  refine wp_ret ?_
  repeat (first | with_reducible refine goR1 ?_ | with_reducible refine goR2 ?_)
  exact (show bodyPost _ _ _ .ret _ _ from ret1 (.bool true) rfl (Qap kj) ⟨rfl, x3⟩)
set_option maxRecDepth 100000 in
set_option maxHeartbeats 4000000 in
theorem Qjn (ts us : List NdV) (a_t a_u : Option Addr) (c_t c_u B1 B2 : Nat) (w : World) (ht : TrAt B1 w a_t ts) (hu : TrAt B2 w a_u us) (hT : TabAt w) (name : Int) (hs : ∀ i, i < ts.length → i ≤ 70 ∧ (ndi ts i).n.ms.length ≤ 50) (hsu : ∀ i, i < us.length → i ≤ 70 ∧ (ndi us i).n.ms.length ≤ 50) (hc : chkT ts = false) : Calls Tryd.prog 3 #[.slice a_t ts.length c_t, .slice a_u us.length c_u, .int .i64 name] w (Ret w (.bool true)) := by
  have hl := QeY hs
  have hlu := QeY hsu
  have htl : ts.length ≤ 100000 := by omega
  have hl6 : ts.length ≤ 1000000 := by omega
  have hlu6 : us.length ≤ 1000000 := by omega
  have hm1 : ∀ i, i < ts.length → (ndi ts i).n.ms.length ≤ 1000 := fun i hi => Nat.le_trans (hs i hi).2 (by decide)
  have hm6 : ∀ i, i < ts.length → (ndi ts i).n.ms.length ≤ 1000000 := fun i hi => Nat.le_trans (hs i hi).2 (by decide)
  have hmu6 : ∀ i, i < us.length → (ndi us i).n.ms.length ≤ 1000000 := fun i hi => Nat.le_trans (hsu i hi).2 (by decide)
  refine enter 60 [(0, .slice a_t ts.length c_t), (1, .slice a_u us.length c_u), (2, .int .i64 name)] Tryd.func3 rfl rfl kj rfl ?_
  refine wp_seq_k fun K1 hK1 => ?_
  refine Qab ?_
  refine Qaa (.bool false) 6 rfl kj kj ?_
  refine Qae ?_
  refine hK1 _ _ ?_
  refine wp_seq_k fun K2 hK2 => ?_
  refine wp_seq_k fun K3 hK3 => ?_
  refine Qab ?_
  refine Qam (.bool true) 9 #[] 10 rfl kj kj (Qfy _ (TabAt.ext hT (Rely.Ext.refl w))) fun W1 e1 => ?_
  have x1 : Ext w W1 := Ext.tr (Rely.Ext.refl w) e1
  refine Qaa (.bool false) 11 rfl kj kj ?_
  refine Qae ?_
  refine hK3 _ _ ?_
  refine cond_false kj ?_
  refine wp_skip ?_
  refine hK2 _ _ ?_
  refine wp_seq_k fun K4 hK4 => ?_
  refine wp_seq_k fun K5 hK5 => ?_
  refine Qab ?_
  refine Qaa (.slice a_t ts.length c_t) 12 rfl kj kj ?_
  refine Qam (.bool false) 10 #[.slice a_t ts.length c_t] 13 rfl kj kj (QbZ ts a_t c_t _ _ (TrAt.ext ht x1) hs) fun W2 e2 => ?_
  have x2 : Ext w W2 := Ext.tr x1 e2
  refine Qaa (.bool false) 14 rfl kj kj ?_
  refine Qaa (.slice a_u us.length c_u) 15 rfl kj kj ?_
  refine Qam (.bool false) 10 #[.slice a_u us.length c_u] 16 rfl kj kj (QbZ us a_u c_u _ _ (TrAt.ext hu x2) hsu) fun W3 e3 => ?_
  have x3 : Ext w W3 := Ext.tr x2 e3
  refine Qaa (.bool false) 17 rfl kj kj ?_
  refine Qae ?_
  refine hK5 _ _ ?_
  refine cond_false kj ?_
  refine wp_skip ?_
  refine hK4 _ _ ?_
  refine wp_seq_k fun K6 hK6 => ?_
  refine Qab ?_
  refine Qaa (.slice a_t ts.length c_t) 18 rfl kj kj ?_
  refine Qam (.iface 30 (.int .i64 3)) 11 #[.slice a_t ts.length c_t] 19 rfl kj kj (Qh7 ts a_t c_t _ _ (TrAt.ext ht x3) htl hm6 (TabAt.ext hT x3) hc) fun W4 e4 => ?_
  have x4 : Ext w W4 := Ext.tr x3 e4
  refine Qaa (.iface 30 (.int .i64 3)) 7 rfl kj kj ?_
  refine Qae ?_
  refine hK6 _ _ ?_
  refine wp_seq_k fun K7 hK7 => ?_
  refine Qab ?_
  refine Qaa (.slice a_t ts.length c_t) 20 rfl kj kj ?_
  refine Qam (.bool false) 12 #[.slice a_t ts.length c_t] 21 rfl kj kj (Qjv ts a_t c_t _ _ (TrAt.ext ht x4) htl hm6 false hc) fun W5 e5 => ?_
  have x5 : Ext w W5 := Ext.tr x4 e5
  refine Qaa (.bool false) 8 rfl kj kj ?_
  refine Qae ?_
  refine hK7 _ _ ?_
  refine wp_seq_k fun K8 hK8 => ?_
  refine wp_seq_k fun K9 hK9 => ?_
  refine Qab ?_
  refine Qaa (.bool false) 22 rfl kj kj ?_
  refine Qaa (.iface 30 (.int .i64 3)) 23 rfl kj kj ?_
  refine Qaa (.bool false) 24 rfl kj kj ?_
  refine Qaa (.bool false) 25 rfl kj kj ?_
  refine Qaa (.bool false) 26 rfl kj kj ?_
  refine Qaa (.bool false) 27 rfl kj kj ?_
  refine Qaa (.bool true) 28 rfl kj kj ?_
  refine Qaa (.bool true) 29 rfl kj kj ?_
  refine Qaa (.iface 30 (.int .i64 3)) 30 rfl kj kj ?_
  refine Qam (.bool true) 13 #[.iface 30 (.int .i64 3), .int .i64 3] 31 rfl kj kj (is_3 _) fun W6 e6 => ?_
  have x6 : Ext w W6 := Ext.tr x5 e6
  refine Qaa (.bool false) 32 rfl kj kj ?_
  refine Qaa (.bool false) 33 rfl kj kj ?_
  refine Qaa (.bool false) 34 rfl kj kj ?_
  refine Qaa (.bool false) 35 rfl kj kj ?_
  refine Qaa (.slice a_t ts.length c_t) 36 rfl kj kj ?_
  refine Qaa (.slice a_u us.length c_u) 37 rfl kj kj ?_
  refine Qam (.bool (Qbt ts us)) 14 #[.slice a_t ts.length c_t, .slice a_u us.length c_u] 38 rfl kj kj (QiS ts us a_t a_u c_t c_u _ _ _ hl6 hlu6 hm6 hmu6 (TrAt.ext ht x6) (TrAt.ext hu x6)) fun W7 e7 => ?_
  have x7 : Ext w W7 := Ext.tr x6 e7
  refine Qaa (.slice a_t ts.length c_t) 39 rfl kj kj ?_
  refine Qaa (.slice a_u us.length c_u) 40 rfl kj kj ?_
  refine Qam (.bool (Qbt ts us)) 15 #[.slice a_t ts.length c_t, .slice a_u us.length c_u] 41 rfl kj kj (QhE ts us a_t a_u c_t c_u _ _ _ hl6 hlu6 hm6 hmu6 (TrAt.ext ht x7) (TrAt.ext hu x7)) fun W8 e8 => ?_
  have x8 : Ext w W8 := Ext.tr x7 e8
  refine Qaa (.bool false) 42 rfl kj (Qaj (u := .bool ((Qbt ts us) != (Qbt ts us))) kj (congrArg Value.bool (bne_self_eq_false _))) ?_
  refine Qaa (.bool false) 43 rfl kj kj ?_
  refine Qaa (.bool false) 44 rfl kj kj ?_
  refine Qaa (.slice a_t ts.length c_t) 45 rfl kj kj ?_
  refine Qaa (.slice a_t ts.length c_t) 46 rfl kj kj ?_
  refine Qa9 (fun v W' => (fun v W => ∃ us, AsC us ts ∧ OwT W8.heap.size us v W ∧ ∃ g, v = .slice (some ⟨g, 0, none⟩) ts.length ts.length) v W' ∧ Ext W8 W') 16 #[.slice a_t ts.length c_t] 47 rfl kj kj ((Qg4 ts a_t _ _ _ (TrAt.ext ht x8) htl hm1).mono (by rintro e w' ⟨v, rfl, e1, hv⟩; exact ⟨v, rfl, hv, e1⟩)) fun vv10 W9 hh10 => ?_
  obtain ⟨hv10, e9⟩ := hh10
  have x9 : Ext w W9 := Ext.tr x8 e9
  obtain ⟨cs, hasC, hOC, gC, rfl⟩ := hv10
  obtain ⟨lgC, cuC, rOC⟩ := hOC.rowBlock (g := gC) rfl
  obtain ⟨aC, haC⟩ : ∃ z, z = some (⟨gC, 0, none⟩ : Addr) := ⟨_, rfl⟩
  obtain ⟨cC, hcC⟩ : ∃ z, z = ts.length := ⟨_, rfl⟩
  have hvC : (Value.slice (some ⟨gC, 0, none⟩) ts.length ts.length) = .slice aC cs.length cC := by rw [hasC.1, haC, hcC]
  rw [hvC] at hOC ⊢
  have htC := hOC.tr
  refine Qam (.bool true) 14 #[.slice a_t ts.length c_t, .slice aC cs.length cC] 48 rfl kj kj (QhF true ts cs a_t aC c_t cC _ _ _ hl6 (by rw [hasC.1]; exact hl6) hm6 (fun i hi => by rw [hasC.all]; exact hm6 i (by rw [← hasC.1]; exact hi)) (TrAt.ext ht x9) (TrAt.ext htC (Rely.Ext.refl W9)) (Qfa hasC.symm)) fun W10 e10 => ?_
  have x10 : Ext w W10 := Ext.tr x9 e10
  refine Qaa (.bool false) 49 rfl kj kj ?_
  refine Qaa (.bool false) 50 rfl kj kj ?_
  refine Qae ?_
  refine hK9 _ _ ?_
  refine cond_false kj ?_
  refine wp_skip ?_
  refine hK8 _ _ ?_
  refine wp_seq_k fun K11 hK11 => ?_
  refine Qab ?_
  refine Qaa (.int .i64 (-1)) 9 rfl kj kj ?_
  refine Qae ?_
  refine hK11 _ _ ?_
  refine wp_seq_k fun K12 hK12 => ?_
  refine wp_seq_k fun K13 hK13 => ?_
  refine Qab ?_
  refine Qaa (.bool false) 51 rfl kj kj ?_
  refine Qae ?_
  refine hK13 _ _ ?_
  refine cond_false kj ?_
  refine wp_skip ?_
  refine hK12 _ _ ?_
  refine wp_seq_k fun K14 hK14 => ?_
  refine Qab ?_
  refine Qaa (.slice a_t ts.length c_t) 55 rfl kj kj ?_
  refine Qaa (.int .i64 name) 56 rfl kj kj ?_
  refine Qam (.int .i64 (-1)) 18 #[.slice a_t ts.length c_t, .int .i64 name] 57 rfl kj kj (Qj6 ts a_t c_t _ _ (TrAt.ext ht x10) htl hm6 (TabAt.ext hT x10) name hc) fun W11 e11 => ?_
  have x11 : Ext w W11 := Ext.tr x10 e11
  refine Qaa (.int .i64 (-1)) 58 rfl kj kj ?_
  refine Qaa (.bool true) 59 rfl kj kj ?_
  refine Qaa (.bool true) 6 rfl kj kj ?_
  refine Qae ?_
  refine hK14 _ _ ?_
  refine wp_ret ?_
  repeat (first | with_reducible refine goR1 ?_ | with_reducible refine goR2 ?_)
  exact (show bodyPost _ _ _ .ret _ _ from ret1 (.bool true) rfl (Qap kj) ⟨rfl, x11⟩)
set_option maxRecDepth 100000 in
set_option maxHeartbeats 4000000 in
theorem Qjo (ts us : List NdV) (a_t a_u : Option Addr) (c_t c_u B1 B2 : Nat) (w : World) (ht : TrAt B1 w a_t ts) (hu : TrAt B2 w a_u us) (hT : TabAt w) (name : Int) (hs : ∀ i, i < ts.length → i ≤ 70 ∧ (ndi ts i).n.ms.length ≤ 50) (hsu : ∀ i, i < us.length → i ≤ 70 ∧ (ndi us i).n.ms.length ≤ 50) (hc : chkT ts = true) : Calls Tryd.prog 3 #[.slice a_t ts.length c_t, .slice a_u us.length c_u, .int .i64 name] w (Ret w (.bool true)) := by
  have hl := QeY hs
  have hlu := QeY hsu
  have htl : ts.length ≤ 100000 := by omega
  have hl6 : ts.length ≤ 1000000 := by omega
  have hlu6 : us.length ≤ 1000000 := by omega
  have hm1 : ∀ i, i < ts.length → (ndi ts i).n.ms.length ≤ 1000 := fun i hi => Nat.le_trans (hs i hi).2 (by decide)
  have hm6 : ∀ i, i < ts.length → (ndi ts i).n.ms.length ≤ 1000000 := fun i hi => Nat.le_trans (hs i hi).2 (by decide)
  have hmu6 : ∀ i, i < us.length → (ndi us i).n.ms.length ≤ 1000000 := fun i hi => Nat.le_trans (hsu i hi).2 (by decide)
  refine enter 60 [(0, .slice a_t ts.length c_t), (1, .slice a_u us.length c_u), (2, .int .i64 name)] Tryd.func3 rfl rfl kj rfl ?_
  refine wp_seq_k fun K1 hK1 => ?_
  refine Qab ?_
  refine Qaa (.bool false) 6 rfl kj kj ?_
  refine Qae ?_
  refine hK1 _ _ ?_
  refine wp_seq_k fun K2 hK2 => ?_
  refine wp_seq_k fun K3 hK3 => ?_
  refine Qab ?_
  refine Qam (.bool true) 9 #[] 10 rfl kj kj (Qfy _ (TabAt.ext hT (Rely.Ext.refl w))) fun W1 e1 => ?_
  have x1 : Ext w W1 := Ext.tr (Rely.Ext.refl w) e1
  refine Qaa (.bool false) 11 rfl kj kj ?_
  refine Qae ?_
  refine hK3 _ _ ?_
  refine cond_false kj ?_
  refine wp_skip ?_
  refine hK2 _ _ ?_
  refine wp_seq_k fun K4 hK4 => ?_
  refine wp_seq_k fun K5 hK5 => ?_
  refine Qab ?_
  refine Qaa (.slice a_t ts.length c_t) 12 rfl kj kj ?_
  refine Qam (.bool false) 10 #[.slice a_t ts.length c_t] 13 rfl kj kj (QbZ ts a_t c_t _ _ (TrAt.ext ht x1) hs) fun W2 e2 => ?_
  have x2 : Ext w W2 := Ext.tr x1 e2
  refine Qaa (.bool false) 14 rfl kj kj ?_
  refine Qaa (.slice a_u us.length c_u) 15 rfl kj kj ?_
  refine Qam (.bool false) 10 #[.slice a_u us.length c_u] 16 rfl kj kj (QbZ us a_u c_u _ _ (TrAt.ext hu x2) hsu) fun W3 e3 => ?_
  have x3 : Ext w W3 := Ext.tr x2 e3
  refine Qaa (.bool false) 17 rfl kj kj ?_
  refine Qae ?_
  refine hK5 _ _ ?_
  refine cond_false kj ?_
  refine wp_skip ?_
  refine hK4 _ _ ?_
  refine wp_seq_k fun K6 hK6 => ?_
  refine Qab ?_
  refine Qaa (.slice a_t ts.length c_t) 18 rfl kj kj ?_
  refine Qam (.nilIface) 11 #[.slice a_t ts.length c_t] 19 rfl kj kj (QdD ts a_t c_t _ _ (TrAt.ext ht x3) htl hm6 (TabAt.ext hT x3) hc) fun W4 e4 => ?_
  have x4 : Ext w W4 := Ext.tr x3 e4
  refine Qaa (.nilIface) 7 rfl kj kj ?_
  refine Qae ?_
  refine hK6 _ _ ?_
  refine wp_seq_k fun K7 hK7 => ?_
  refine Qab ?_
  refine Qaa (.slice a_t ts.length c_t) 20 rfl kj kj ?_
  refine Qam (.bool true) 12 #[.slice a_t ts.length c_t] 21 rfl kj kj (Qjv ts a_t c_t _ _ (TrAt.ext ht x4) htl hm6 true hc) fun W5 e5 => ?_
  have x5 : Ext w W5 := Ext.tr x4 e5
  refine Qaa (.bool true) 8 rfl kj kj ?_
  refine Qae ?_
  refine hK7 _ _ ?_
  refine wp_seq_k fun K8 hK8 => ?_
  refine wp_seq_k fun K9 hK9 => ?_
  refine Qab ?_
  refine Qaa (.bool true) 22 rfl kj kj ?_
  refine Qaa (.nilIface) 23 rfl kj kj ?_
  refine Qaa (.bool true) 24 rfl kj kj ?_
  refine Qaa (.bool false) 25 rfl kj kj ?_
  refine Qaa (.bool false) 26 rfl kj kj ?_
  refine Qaa (.bool true) 27 rfl kj kj ?_
  refine Qaa (.bool false) 28 rfl kj kj ?_
  refine Qaa (.bool false) 29 rfl kj kj ?_
  refine Qad 30 rfl kj ?_
  refine Qad 31 rfl kj ?_
  refine Qad 32 rfl kj ?_
  refine Qaa (.bool false) 33 rfl kj kj ?_
  refine Qaa (.bool false) 34 rfl kj kj ?_
  refine Qaa (.bool false) 35 rfl kj kj ?_
  refine Qaa (.slice a_t ts.length c_t) 36 rfl kj kj ?_
  refine Qaa (.slice a_u us.length c_u) 37 rfl kj kj ?_
  refine Qam (.bool (Qbt ts us)) 14 #[.slice a_t ts.length c_t, .slice a_u us.length c_u] 38 rfl kj kj (QiS ts us a_t a_u c_t c_u _ _ _ hl6 hlu6 hm6 hmu6 (TrAt.ext ht x5) (TrAt.ext hu x5)) fun W6 e6 => ?_
  have x6 : Ext w W6 := Ext.tr x5 e6
  refine Qaa (.slice a_t ts.length c_t) 39 rfl kj kj ?_
  refine Qaa (.slice a_u us.length c_u) 40 rfl kj kj ?_
  refine Qam (.bool (Qbt ts us)) 15 #[.slice a_t ts.length c_t, .slice a_u us.length c_u] 41 rfl kj kj (QhE ts us a_t a_u c_t c_u _ _ _ hl6 hlu6 hm6 hmu6 (TrAt.ext ht x6) (TrAt.ext hu x6)) fun W7 e7 => ?_
  have x7 : Ext w W7 := Ext.tr x6 e7
  refine Qaa (.bool false) 42 rfl kj (Qaj (u := .bool ((Qbt ts us) != (Qbt ts us))) kj (congrArg Value.bool (bne_self_eq_false _))) ?_
  refine Qaa (.bool false) 43 rfl kj kj ?_
  refine Qaa (.bool false) 44 rfl kj kj ?_
  refine Qaa (.slice a_t ts.length c_t) 45 rfl kj kj ?_
  refine Qaa (.slice a_t ts.length c_t) 46 rfl kj kj ?_
  refine Qa9 (fun v W' => (fun v W => ∃ us, AsC us ts ∧ OwT W7.heap.size us v W ∧ ∃ g, v = .slice (some ⟨g, 0, none⟩) ts.length ts.length) v W' ∧ Ext W7 W') 16 #[.slice a_t ts.length c_t] 47 rfl kj kj ((Qg4 ts a_t _ _ _ (TrAt.ext ht x7) htl hm1).mono (by rintro e w' ⟨v, rfl, e1, hv⟩; exact ⟨v, rfl, hv, e1⟩)) fun vv10 W8 hh10 => ?_
  obtain ⟨hv10, e8⟩ := hh10
  have x8 : Ext w W8 := Ext.tr x7 e8
  obtain ⟨cs, hasC, hOC, gC, rfl⟩ := hv10
  obtain ⟨lgC, cuC, rOC⟩ := hOC.rowBlock (g := gC) rfl
  obtain ⟨aC, haC⟩ : ∃ z, z = some (⟨gC, 0, none⟩ : Addr) := ⟨_, rfl⟩
  obtain ⟨cC, hcC⟩ : ∃ z, z = ts.length := ⟨_, rfl⟩
  have hvC : (Value.slice (some ⟨gC, 0, none⟩) ts.length ts.length) = .slice aC cs.length cC := by rw [hasC.1, haC, hcC]
  rw [hvC] at hOC ⊢
  have htC := hOC.tr
  refine Qam (.bool true) 14 #[.slice a_t ts.length c_t, .slice aC cs.length cC] 48 rfl kj kj (QhF true ts cs a_t aC c_t cC _ _ _ hl6 (by rw [hasC.1]; exact hl6) hm6 (fun i hi => by rw [hasC.all]; exact hm6 i (by rw [← hasC.1]; exact hi)) (TrAt.ext ht x8) (TrAt.ext htC (Rely.Ext.refl W8)) (Qfa hasC.symm)) fun W9 e9 => ?_
  have x9 : Ext w W9 := Ext.tr x8 e9
  refine Qaa (.bool false) 49 rfl kj kj ?_
  refine Qaa (.bool false) 50 rfl kj kj ?_
  refine Qae ?_
  refine hK9 _ _ ?_
  refine cond_false kj ?_
  refine wp_skip ?_
  refine hK8 _ _ ?_
  refine wp_seq_k fun K11 hK11 => ?_
  refine Qab ?_
  refine Qaa (.int .i64 (-1)) 9 rfl kj kj ?_
  refine Qae ?_
  refine hK11 _ _ ?_
  refine wp_seq_k fun K12 hK12 => ?_
  refine wp_seq_k fun K13 hK13 => ?_
  refine Qab ?_
  refine Qaa (.bool true) 51 rfl kj kj ?_
  refine Qae ?_
  refine hK13 _ _ ?_
  refine cond_true kj ?_
  refine Qab ?_
  refine Qaa (.slice a_t ts.length c_t) 52 rfl kj kj ?_
  refine Qaa (.int .i64 name) 53 rfl kj kj ?_
  refine Qam (.int .i64 (Qbb ts name)) 17 #[.slice a_t ts.length c_t, .int .i64 name] 54 rfl kj kj (QjI ts a_t c_t _ _ (TrAt.ext ht x9) htl name) fun W10 e10 => ?_
  have x10 : Ext w W10 := Ext.tr x9 e10
  refine Qaa (.int .i64 (Qbb ts name)) 9 rfl kj kj ?_
  refine Qae ?_
  refine hK12 _ _ ?_
  refine wp_seq_k fun K14 hK14 => ?_
  refine Qab ?_
  refine Qaa (.slice a_t ts.length c_t) 55 rfl kj kj ?_
  refine Qaa (.int .i64 name) 56 rfl kj kj ?_
  refine Qam (.int .i64 (Qbb ts name)) 18 #[.slice a_t ts.length c_t, .int .i64 name] 57 rfl kj kj (Qj5 ts a_t c_t _ _ (TrAt.ext ht x10) htl hm6 (TabAt.ext hT x10) name hc) fun W11 e11 => ?_
  have x11 : Ext w W11 := Ext.tr x10 e11
  refine Qaa (.int .i64 (Qbb ts name)) 58 rfl kj kj ?_
  refine Qaa (.bool true) 59 rfl kj (Qaj (u := .bool (((Qbb ts name) == (Qbb ts name)))) kj (congrArg Value.bool (beq_self_eq_true _))) ?_
  refine Qaa (.bool true) 6 rfl kj kj ?_
  refine Qae ?_
  refine hK14 _ _ ?_
  refine wp_ret ?_
  repeat (first | with_reducible refine goR1 ?_ | with_reducible refine goR2 ?_)
  exact (show bodyPost _ _ _ .ret _ _ from ret1 (.bool true) rfl (Qap kj) ⟨rfl, x11⟩)
theorem lawChecks (ts us : List NdV) (a_t a_u : Option Addr) (c_t c_u B1 B2 : Nat) (w : World) (ht : TrAt B1 w a_t ts) (hu : TrAt B2 w a_u us) (hT : TabAt w) (name : Int) : Calls Tryd.prog 3 #[.slice a_t ts.length c_t, .slice a_u us.length c_u, .int .i64 name] w (Ret w (.bool true)) := by
  by_cases hs : ∀ i, i < ts.length → i ≤ 70 ∧ (ndi ts i).n.ms.length ≤ 50
  case neg => exact Qjm ts us a_t a_u c_t c_u B1 B2 w ht hu hT name hs
  by_cases hsu : ∀ i, i < us.length → i ≤ 70 ∧ (ndi us i).n.ms.length ≤ 50
  case neg => exact Qjl ts us a_t a_u c_t c_u B1 B2 w ht hu hT name hs hsu
  cases hc : chkT ts with
  | false => exact Qjn ts us a_t a_u c_t c_u B1 B2 w ht hu hT name hs hsu hc
  | true => exact Qjo ts us a_t a_u c_t c_u B1 B2 w ht hu hT name hs hsu hc
end Go.Proofs.YtcmaolmofgmkhaaDoor.Te
end
section
namespace Go.Proofs.YtcmaolmofgmkhaaDoor.Auto
open Go Go.RowKit Go.WideShapes
open Rely
set_option linter.unusedVariables false
section
variable {H : Type} {enc : TypeId × Value → H} {P : Program} {W w : World} {r : Reach} {base b0 : Nat} {sp : Nat → Bool} {held : Bool}
theorem open_raw {n : Nat} {t e : TypeId} {cs : List Value} {fuel : Nat} {x : DataW H × List MemPlace} (ht : P.underlying t = some (.array n e)) (he : P.underlying e = some (.int .u8)) (hce : P.cellsOf e = 1) (hct : P.cellsOf t = n)
    (hf : DataW.trod enc P w b0 sp held fuel t cs = some x) : ∃ xs : List Int, cs = xs.map (Value.int .u8) ∧ xs.length = n ∧ Qbs xs := by
  obtain ⟨xs, m, -, -, hl, hn, hx⟩ := DataW.trod_array ht hf
  have hcs : cs.length = n := by simpa [hct] using hl
  have each : ∀ i, i < n → ∃ z : Int, cs[i]? = some (.int .u8 z) ∧ (0 ≤ z ∧ z ≤ 255) := by
    intro i hi
    have h1 := hx i hi
    rw [hce, Nat.mul_one] at h1
    have hlt : i < cs.length := by omega
    have h2 : cs.drop i = cs[i] :: cs.drop (i + 1) := List.drop_eq_getElem_cons hlt
    have h1 : DataW.trod enc P w b0 sp held m e ((cs.drop i).take 1) = xs[i]? := h1
    rw [h2] at h1
    simp only [List.take_succ_cons, List.take_zero] at h1
    obtain ⟨y, hy⟩ : ∃ y, xs[i]? = some y := ⟨xs[i], by simp [hn, hi]⟩
    rw [hy] at h1
    obtain ⟨z, hc, -, hw⟩ := DataW.trod_int he h1
    refine ⟨z, ?_, ?_⟩
    · rw [List.getElem?_eq_getElem hlt]
      simp only [List.cons.injEq] at hc
      rw [hc.1]
    · simpa [Lit.wf, IntKind.min, IntKind.max, IntKind.signed, IntKind.bits] using hw
  have all : ∀ (l : List Value), (∀ i, i < l.length → ∃ z : Int, l[i]? = some (.int .u8 z) ∧ (0 ≤ z ∧ z ≤ 255)) → ∃ zs : List Int, l = zs.map (Value.int .u8) ∧ Qbs zs := by
    intro l
    induction l with
    | nil => exact fun _ => ⟨[], rfl, fun x hx => by simp at hx⟩
    | cons a l ih =>
      intro h
      obtain ⟨zs, h1, h2⟩ := ih fun i hi => by simpa using h (i + 1) (by simp; omega)
      obtain ⟨z, h3, h4⟩ := h 0 (by simp)
      simp only [List.getElem?_cons_zero, Option.some.injEq] at h3
      refine ⟨z :: zs, by rw [h3, h1]; rfl, fun x hx => ?_⟩
      rcases List.mem_cons.1 hx with e | e
      · rw [e]; exact h4
      · exact h2 x e
  obtain ⟨zs, h1, h2⟩ := all cs fun i hi => each i (by omega)
  exact ⟨zs, h1, by rw [← hcs, h1, List.length_map], h2⟩
end
end Go.Proofs.YtcmaolmofgmkhaaDoor.Auto
end
section
namespace Go.Proofs.YtcmaolmofgmkhaaDoor.Auto
open Go Go.RowKit Go.WideShapes
open Rely
set_option linter.unusedVariables false
section
variable {H : Type} {enc : TypeId × Value → H} {P : Program} {W w : World} {r : Reach} {base b0 : Nat} {sp : Nat → Bool} {held : Bool}
theorem QgK {t : TypeId} {f0 f1 f2 f3 f4 f5 : Field} {fuel : Nat} {cs : List Value} {x : DataW H × List MemPlace} (ht : P.underlying t = some (.struct #[f0, f1, f2, f3, f4, f5])) (h : DataW.trod enc P w b0 sp held fuel t cs = some x) :
    ∃ y0 y1 y2 y3 y4 y5 n, cs.length = P.cellsOf t ∧ DataW.trod enc P w b0 sp held n f0.type ((cs.drop f0.offset).take (P.cellsOf f0.type)) = some y0 ∧ DataW.trod enc P w b0 sp held n f1.type ((cs.drop f1.offset).take (P.cellsOf f1.type)) = some y1 ∧ DataW.trod enc P w b0 sp held n f2.type ((cs.drop f2.offset).take (P.cellsOf f2.type)) = some y2 ∧ DataW.trod enc P w b0 sp held n f3.type ((cs.drop f3.offset).take (P.cellsOf f3.type)) = some y3 ∧ DataW.trod enc P w b0 sp held n f4.type ((cs.drop f4.offset).take (P.cellsOf f4.type)) = some y4 ∧ DataW.trod enc P w b0 sp held n f5.type ((cs.drop f5.offset).take (P.cellsOf f5.type)) = some y5 := by
  obtain ⟨xs, n, _, rfl, hl, hlen, hf⟩ := DataW.trod_struct ht h
  match xs, hlen with
  | [y0, y1, y2, y3, y4, y5], _ => exact ⟨y0, y1, y2, y3, y4, y5, n, hl, by simpa using hf 0 f0 rfl, by simpa using hf 1 f1 rfl, by simpa using hf 2 f2 rfl, by simpa using hf 3 f3 rfl, by simpa using hf 4 f4 rfl, by simpa using hf 5 f5 rfl⟩
theorem sub_st6 {t : TypeId} {f0 f1 f2 f3 f4 f5 : Field} {fuel : Nat} {cs : List Value} {x : DataW H × List MemPlace} {n0 n1 n2 n3 n4 n5 : Nat} (ht : P.underlying t = some (.struct #[f0, f1, f2, f3, f4, f5]))
    (ho : f0.offset = 0 ∧ f1.offset = n0 ∧ f2.offset = n0 + n1 ∧ f3.offset = n0 + n1 + n2 ∧ f4.offset = n0 + n1 + n2 + n3 ∧ f5.offset = n0 + n1 + n2 + n3 + n4) (hc : P.cellsOf f0.type = n0 ∧ P.cellsOf f1.type = n1 ∧ P.cellsOf f2.type = n2 ∧ P.cellsOf f3.type = n3 ∧ P.cellsOf f4.type = n4 ∧ P.cellsOf f5.type = n5) (hC : P.cellsOf t = n0 + n1 + n2 + n3 + n4 + n5) (h : DataW.trod enc P w b0 sp held fuel t cs = some x) :
    ∃ (X0 X1 X2 X3 X4 X5 : List Value) (y0 y1 y2 y3 y4 y5 : DataW H × List MemPlace) (n : Nat), cs = X0 ++ X1 ++ X2 ++ X3 ++ X4 ++ X5 ∧ DataW.trod enc P w b0 sp held n f0.type X0 = some y0 ∧ DataW.trod enc P w b0 sp held n f1.type X1 = some y1 ∧ DataW.trod enc P w b0 sp held n f2.type X2 = some y2 ∧ DataW.trod enc P w b0 sp held n f3.type X3 = some y3 ∧ DataW.trod enc P w b0 sp held n f4.type X4 = some y4 ∧ DataW.trod enc P w b0 sp held n f5.type X5 = some y5 := by
  obtain ⟨y0, y1, y2, y3, y4, y5, n, hl, h0, h1, h2, h3, h4, h5⟩ := QgK ht h
  obtain ⟨o0, o1, o2, o3, o4, o5⟩ := ho
  obtain ⟨c0, c1, c2, c3, c4, c5⟩ := hc
  rw [o0, c0] at h0
  rw [o1, c1] at h1
  rw [o2, c2] at h2
  rw [o3, c3] at h3
  rw [o4, c4] at h4
  rw [o5, c5] at h5
  refine ⟨_, _, _, _, _, _, y0, y1, y2, y3, y4, y5, n, ?_, h0, h1, h2, h3, h4, h5⟩
  rw [hC] at hl
  simp only [List.drop_zero]
  have e1 : cs.take (n0) ++ (cs.drop (n0)).take n1 = cs.take (n0 + n1) := by rw [List.take_add (i := n0)]
  have e2 : cs.take (n0 + n1) ++ (cs.drop (n0 + n1)).take n2 = cs.take (n0 + n1 + n2) := by rw [List.take_add (i := n0 + n1)]
  have e3 : cs.take (n0 + n1 + n2) ++ (cs.drop (n0 + n1 + n2)).take n3 = cs.take (n0 + n1 + n2 + n3) := by rw [List.take_add (i := n0 + n1 + n2)]
  have e4 : cs.take (n0 + n1 + n2 + n3) ++ (cs.drop (n0 + n1 + n2 + n3)).take n4 = cs.take (n0 + n1 + n2 + n3 + n4) := by rw [List.take_add (i := n0 + n1 + n2 + n3)]
  have e5 : cs.take (n0 + n1 + n2 + n3 + n4) ++ (cs.drop (n0 + n1 + n2 + n3 + n4)).take n5 = cs.take (n0 + n1 + n2 + n3 + n4 + n5) := by rw [List.take_add (i := n0 + n1 + n2 + n3 + n4)]
  rw [e1, e2, e3, e4, e5, List.take_of_length_le (by omega)]
end
end Go.Proofs.YtcmaolmofgmkhaaDoor.Auto
end
section
namespace Go.Proofs.YtcmaolmofgmkhaaDoor.Auto
open Go Go.RowKit
open Rely
set_option linter.unusedVariables false
end Go.Proofs.YtcmaolmofgmkhaaDoor.Auto
end
section
namespace Go.Proofs.YtcmaolmofgmkhaaDoor.Te
open Go Go.RowKit
open Rely Auto Own Sha
set_option linter.unusedVariables false
set_option linter.unusedSimpArgs false
open Go.WideShapes Go.ChangeShapes Go.ChangeAt Go.Deep
open Go.Proofs.YtcmaolmofgmkhaaDoor
section
variable {H : Type} {enc : TypeId × Value → H} {P : Program} {w : World} {b0 : Nat} {held : Bool}
theorem Qht (x : Addr) (i j : Nat) : (x.add i).add j = x.add (i + j) := by
  by_cases hi : i = 0 <;> by_cases hj : j = 0 <;> simp [Addr.add, hi, hj, Nat.add_assoc]
theorem open_tree {t s e5 e3 : TypeId} {f0 f1 f2 f3 f4 f5 : Field} {ad : Option Addr} {len cap : Nat} {d : DataW H} {p : List MemPlace} (hs : P.underlying t = some (.slice s)) (hss : P.underlying s = some (.struct #[f0, f1, f2, f3, f4, f5]))
    (ho : f0.offset = 0 ∧ f1.offset = 1 ∧ f2.offset = 1 + 1 ∧ f3.offset = 1 + 1 + 32 ∧ f4.offset = 1 + 1 + 32 + 32 ∧ f5.offset = 1 + 1 + 32 + 32 + 32) (hc : P.cellsOf f0.type = 1 ∧ P.cellsOf f1.type = 1 ∧ P.cellsOf f2.type = 32 ∧ P.cellsOf f3.type = 32 ∧ P.cellsOf f4.type = 32 ∧ P.cellsOf f5.type = 1) (hC : P.cellsOf s = 1 + 1 + 32 + 32 + 32 + 1)
    (h0 : P.underlying f0.type = some .bool) (h1 : P.underlying f1.type = some (.int .i64)) (h2 : P.underlying f2.type = some (.array 32 e5)) (h3 : P.underlying f3.type = some (.array 32 e5)) (h4 : P.underlying f4.type = some (.array 32 e5)) (h5 : P.underlying f5.type = some (.slice e3))
    (he5 : P.underlying e5 = some (.int .u8)) (hc5 : P.cellsOf e5 = 1) (he3 : P.underlying e3 = some (.int .i64)) (hc3 : P.cellsOf e3 = 1)
    (h : DataW.Trod enc P w b0 (fun _ => true) held t (.slice ad len cap) d p) :
    ∃ ts : List NdV, ts.length = len ∧ TrAt w.heap.size w ad ts ∧ ∀ n ∈ ts, NdOk n.n := by
  obtain ⟨fuel, hf⟩ := h
  rcases DataW.trod_slice hs hf with ⟨hcs', -⟩ | ⟨x, l, c, elems, rest, n, -, hcs', -, hb, hl, hmx, hlen, hel, -, -⟩
  · simp [Value.cells] at hcs'
    obtain ⟨rfl, rfl, rfl⟩ := hcs'
    exact ⟨[], rfl, ⟨0, 0, fun h => absurd h (by decide), fun i hi => absurd hi (Nat.not_lt_zero _)⟩, fun n hn => by cases hn⟩
  · simp [Value.cells] at hcs'
    obtain ⟨rfl, rfl, rfl⟩ := hcs'
    have key : ∀ i, i < len → ∃ n : NdV, (∀ j u, (cat (ndP n))[j]? = some u → w.cell? (x.add (i * 99 + j)) = some u) ∧ RdK .i64 w.heap.size n.n.ms (.slice n.a n.n.ms.length n.c) w ∧ NdOk n.n := fun i hi => by
      have h9 := hel i hi
      rw [hC, List.getElem?_eq_getElem (by omega)] at h9
      obtain ⟨cs, hc1, hc2⟩ := Option.bind_eq_some_iff.1 h9
      obtain ⟨hn, q1, q2⟩ := World.cells?_some hc1
      obtain ⟨X0, X1, X2, X3, X4, X5, y0, y1, y2, y3, y4, y5, m, hcs, t0, t1, t2, t3, t4, t5⟩ := Auto.sub_st6 hss ho hc hC hc2
      obtain ⟨us, rfl, -⟩ := DataW.trod_bool h0 t0
      obtain ⟨nm, rfl, -, -⟩ := DataW.trod_int h1 t1
      obtain ⟨key, rfl, hkl, hkb⟩ := Auto.open_raw h2 he5 hc5 hc.2.2.1 t2
      obtain ⟨sg, rfl, hgl, hgb⟩ := Auto.open_raw h3 he5 hc5 hc.2.2.2.1 t3
      obtain ⟨pa, rfl, hpl, hpb⟩ := Auto.open_raw h4 he5 hc5 hc.2.2.2.2.1 t4
      have fin : ∀ (a : Option Addr) (ms : List Int) (c : Nat), X5 = [.slice a ms.length c] → RdK .i64 w.heap.size ms (.slice a ms.length c) w → ∃ n : NdV, (∀ j u, (cat (ndP n))[j]? = some u → w.cell? (x.add (i * 99 + j)) = some u) ∧ RdK .i64 w.heap.size n.n.ms (.slice n.a n.n.ms.length n.c) w ∧ NdOk n.n := fun a ms c e r => by
        refine ⟨⟨⟨us, nm, key, sg, pa, ms⟩, a, c⟩, fun j u hu => ?_, r, ⟨hkl, hgl, hpl, hkb, hgb, hpb⟩⟩
        have e9 : (cat (ndP ⟨⟨us, nm, key, sg, pa, ms⟩, a, c⟩)).toList = cs := by
          rw [hcs, e]
          unfold ndP
          simp [cat, Rely.ints]
        rw [← Array.getElem?_toList, e9] at hu
        have hj : j < 99 := by have := (List.getElem?_eq_some_iff.1 hu).1; omega
        have := q2 j hj
        rw [Qht] at this
        rw [this]; exact hu
      rcases open_ints h5 he3 hc3 t5 with ⟨hcv, -⟩ | ⟨y, l, cc, zs, hcv, -, hl2, hm2, hz2, -, hcell, hwz⟩
      · exact fin none [] 0 hcv ⟨none, 0, rfl, Nat.le_refl _, Nat.zero_le _, fun _ => rfl, .inl rfl⟩
      · obtain ⟨r, rl, rf⟩ := Auto.rdK_of_row (k := .i64) (w := w) (a := some y) (len := l) (cap := cc) (zs := zs) (.inr ⟨y, rfl, hl2, hm2, by simpa using hz2, hcell, hwz⟩)
        refine fin (some y) (zs.take l) cc (by rw [rl]; exact hcv) ?_
        rw [rl]; exact r
    rcases Nat.eq_zero_or_pos len with h0' | h0'
    · subst h0'
      exact ⟨[], rfl, ⟨0, 0, fun h => absurd h (by decide), fun i hi => absurd hi (Nat.not_lt_zero _)⟩, fun n hn => by cases hn⟩
    obtain ⟨b, off, spot⟩ := x
    have first : ∀ n : NdV, (cat (ndP n))[0]? = some (.bool n.n.us) := fun n => by
      unfold ndP
      show (#[Value.bool n.n.us] ++ cat _)[0]? = _
      rw [Array.getElem?_append_left (show 0 < 1 by decide)]
      rfl
    obtain ⟨n0, hq, -⟩ := key 0 h0'
    have hq0 := hq 0 _ (first n0)
    have hspot : spot = none := by simpa [Addr.add] using World.cell?_spot hq0
    subst hspot
    rw [WideShapes.add_plain] at hq0
    have hlt : b < w.heap.size := QcC hq0
    have all : ∀ m, m ≤ len → ∃ ts : List NdV, ts.length = m ∧ ∀ i, i < m → NdAt w.heap.size w b (off + i * 99) (ndi ts i) := by
      intro m
      induction m with
      | zero => exact fun _ => ⟨[], rfl, fun i hi => absurd hi (Nat.not_lt_zero _)⟩
      | succ m ih =>
        intro hm
        obtain ⟨ts, htl, hts⟩ := ih (by omega)
        obtain ⟨n, k1, k2, k3⟩ := key m (by omega)
        refine ⟨ts ++ [n], by rw [List.length_append, htl]; rfl, fun i hi => ?_⟩
        have e : ndi (ts ++ [n]) i = if i < m then ndi ts i else n := by
          unfold ndi
          rw [List.getD_eq_getElem?_getD, List.getD_eq_getElem?_getD]
          split
          · rename_i h; rw [List.getElem?_append_left (by omega)]
          · rename_i h
            rw [List.getElem?_append_right (by omega), show i - ts.length = 0 by omega]; rfl
        rw [e]
        split
        · rename_i h; exact hts i h
        · rename_i h
          obtain rfl : i = m := by omega
          exact ⟨hlt, hlt, fun j u hu => by have := k1 j u hu; rw [WideShapes.add_plain] at this; rw [Nat.add_assoc]; exact this, k2, k3⟩
    obtain ⟨ts, htl, hts⟩ := all len (Nat.le_refl _)
    refine ⟨ts, htl, ⟨b, off, fun _ => rfl, fun i hi => hts i (by omega)⟩, fun n hn => ?_⟩
    obtain ⟨i, hi, e⟩ := List.mem_iff_getElem.1 hn
    have := (hts i (by omega)).ok
    unfold ndi at this
    rw [List.getD_eq_getElem?_getD, List.getElem?_eq_getElem hi] at this
    rw [← e]; exact this
end
end Go.Proofs.YtcmaolmofgmkhaaDoor.Te
end
