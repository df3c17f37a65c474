/- Texts of this claim, joined (P4). -/
import Derived.Test.YtfelfmchachljaaZP3
import Derived.Lib.LaidTab
import Derived.Lib.SmallJoins

section
namespace Go.Proofs.Ytfelfmchachljaa.Wr
open Go Go.RowKit
open Rely Auto Own Sha
set_option linter.unusedVariables false
set_option linter.unusedSimpArgs false
set_option maxHeartbeats 4000000 in
theorem QdW (us : Bool) (nm : Int) (key sg pa ms : List Int) (a_m : Option Addr) (c_m : Nat) (w : World) (hkl : key.length = 32) (hgl : sg.length = 32) (hpl : pa.length = 32) (h : ms.length < 100) : Calls Try.prog 20 #[.agg (cat [#[.bool us], #[.int .i64 nm], ints .u8 (key), ints .u8 (sg), ints .u8 (pa), #[.slice a_m ms.length c_m]])] w (Ret w (.bool true)) := by
  refine enter 7 [(0, .agg (cat [#[.bool us], #[.int .i64 nm], ints .u8 (key), ints .u8 (sg), ints .u8 (pa), #[.slice a_m ms.length c_m]]))] Try.func20 rfl rfl kj rfl ?_
  refine wp_seq_k fun K1 hK1 => ?_
  refine Qae ?_
  refine Qav (cat [#[.bool us], #[.int .i64 nm], ints .u8 (key), ints .u8 (sg), ints .u8 (pa), #[.slice a_m ms.length c_m]]) 43 1 rfl kj kj fun g2 W1 l2 e1 r2_1 => ?_
  have x1 : Ext w W1 := Ext.tr (Rely.Ext.refl w) e1
  have b2 : w.heap.size ≤ g2 := Nat.le_trans (Rely.Ext.refl w).size l2
  refine Qab (.bool false) 2 rfl kj kj ?_
  refine Qaf ?_
  refine hK1 _ _ ?_
  refine wp_seq_k fun K3 hK3 => ?_
  refine Qae ?_
  refine Qab (.pointer (some ⟨g2, 98, none⟩)) 3 rfl kj kj ?_
  refine Qab (.slice a_m ms.length c_m) 4 rfl kj (Qah 41 _ g2 98 43 _ (.slice a_m ms.length c_m) _ r2_1 rfl kj (Qak [#[.bool us], #[.int .i64 nm], ints .u8 (key), ints .u8 (sg), ints .u8 (pa)] [#[.slice a_m ms.length c_m]] [] 98 (by rw [Qaa, Qaa, Qaa, Qaa, Qaa]; simp only [Array.size_append, cat, ((Qac _ _).trans hgl), ((Qac _ _).trans hkl), ((Qac _ _).trans hpl)]; rfl) 0 _ rfl) kj) ?_
  refine Qab (.int .i64 ((ms.length : Nat) : Int)) 5 rfl kj kj ?_
  refine Qab (.bool true) 6 rfl kj (Qax (u := .bool (decide (((ms.length : Nat) : Int) < 100))) kj (congrArg Value.bool (decide_eq_true (by omega)))) ?_
  refine Qab (.bool true) 2 rfl kj kj ?_
  refine Qaf ?_
  refine hK3 _ _ ?_
  refine wp_ret ?_
  repeat (first | with_reducible refine goR1 ?_ | with_reducible refine goR2 ?_)
  exact (show bodyPost _ _ _ .ret _ _ from ret1 (.bool true) rfl (Qaw kj) ⟨rfl, x1⟩)
set_option maxHeartbeats 4000000 in
theorem Qfu (us : Bool) (nm : Int) (key sg pa ms : List Int) (a_m : Option Addr) (c_m : Nat) (w : World) (hkl : key.length = 32) (hgl : sg.length = 32) (hpl : pa.length = 32) (h : 100 ≤ ms.length) : Calls Try.prog 20 #[.agg (cat [#[.bool us], #[.int .i64 nm], ints .u8 (key), ints .u8 (sg), ints .u8 (pa), #[.slice a_m ms.length c_m]])] w (Ret w (.bool false)) := by
  refine enter 7 [(0, .agg (cat [#[.bool us], #[.int .i64 nm], ints .u8 (key), ints .u8 (sg), ints .u8 (pa), #[.slice a_m ms.length c_m]]))] Try.func20 rfl rfl kj rfl ?_
  refine wp_seq_k fun K1 hK1 => ?_
  refine Qae ?_
  refine Qav (cat [#[.bool us], #[.int .i64 nm], ints .u8 (key), ints .u8 (sg), ints .u8 (pa), #[.slice a_m ms.length c_m]]) 43 1 rfl kj kj fun g2 W1 l2 e1 r2_1 => ?_
  have x1 : Ext w W1 := Ext.tr (Rely.Ext.refl w) e1
  have b2 : w.heap.size ≤ g2 := Nat.le_trans (Rely.Ext.refl w).size l2
  refine Qab (.bool false) 2 rfl kj kj ?_
  refine Qaf ?_
  refine hK1 _ _ ?_
  refine wp_seq_k fun K3 hK3 => ?_
  refine Qae ?_
  refine Qab (.pointer (some ⟨g2, 98, none⟩)) 3 rfl kj kj ?_
  refine Qab (.slice a_m ms.length c_m) 4 rfl kj (Qah 41 _ g2 98 43 _ (.slice a_m ms.length c_m) _ r2_1 rfl kj (Qak [#[.bool us], #[.int .i64 nm], ints .u8 (key), ints .u8 (sg), ints .u8 (pa)] [#[.slice a_m ms.length c_m]] [] 98 (by rw [Qaa, Qaa, Qaa, Qaa, Qaa]; simp only [Array.size_append, cat, ((Qac _ _).trans hgl), ((Qac _ _).trans hkl), ((Qac _ _).trans hpl)]; rfl) 0 _ rfl) kj) ?_
  refine Qab (.int .i64 ((ms.length : Nat) : Int)) 5 rfl kj kj ?_
  refine Qab (.bool false) 6 rfl kj (Qax (u := .bool (decide (((ms.length : Nat) : Int) < 100))) kj (congrArg Value.bool (decide_eq_false (by omega)))) ?_
  refine Qab (.bool false) 2 rfl kj kj ?_
  refine Qaf ?_
  refine hK3 _ _ ?_
  refine wp_ret ?_
  repeat (first | with_reducible refine goR1 ?_ | with_reducible refine goR2 ?_)
  exact (show bodyPost _ _ _ .ret _ _ from ret1 (.bool false) rfl (Qaw kj) ⟨rfl, x1⟩)
set_option maxHeartbeats 4000000 in
set_option maxRecDepth 100000 in
theorem QfV (grp : List Int) (ep fr : Int) (bas : List Int) (kd : Int) (us : Bool) (nm : Int) (key sg pa ms start : List Int) (at_ : Int) (sig : List Int) (a_m : Option Addr) (c_m : Nat) (w : World) (hrl : grp.length = 32) (hrb : Qag grp) (hal : bas.length = 32) (hab : Qag bas) (hkl : key.length = 32) (hgl : sg.length = 32) (hpl : pa.length = 32) (hkb : Qag key) (hgb : Qag sg) (hpb : Qag pa) (htl : start.length = 32) (htb : Qag start) (hil : sig.length = 64) (hib : Qag sig) (hm : RdK .i64 w.heap.size ms (.slice a_m ms.length c_m) w) (hl : 100 ≤ ms.length) : Calls Try.prog 4 #[.agg (cat [ints .u8 (grp), #[.int .i64 ep], #[.int .i64 fr], ints .u8 (bas), #[.int .i64 kd], #[.bool us], #[.int .i64 nm], ints .u8 (key), ints .u8 (sg), ints .u8 (pa), #[.slice a_m ms.length c_m], ints .u8 (start), #[.int .i64 at_], ints .u8 (sig)])] w (Ret w (.bool true)) := by
  refine enter 71 [(0, .agg (cat [ints .u8 (grp), #[.int .i64 ep], #[.int .i64 fr], ints .u8 (bas), #[.int .i64 kd], #[.bool us], #[.int .i64 nm], ints .u8 (key), ints .u8 (sg), ints .u8 (pa), #[.slice a_m ms.length c_m], ints .u8 (start), #[.int .i64 at_], ints .u8 (sig)]))] Try.func4 rfl rfl kj rfl ?_
  refine wp_seq_k fun K1 hK1 => ?_
  refine Qae ?_
  refine Qav (cat [ints .u8 (grp), #[.int .i64 ep], #[.int .i64 fr], ints .u8 (bas), #[.int .i64 kd], #[.bool us], #[.int .i64 nm], ints .u8 (key), ints .u8 (sg), ints .u8 (pa), #[.slice a_m ms.length c_m], ints .u8 (start), #[.int .i64 at_], ints .u8 (sig)]) 47 1 rfl kj kj fun g2 W1 l2 e1 r2_1 => ?_
  have x1 : Ext w W1 := Ext.tr (Rely.Ext.refl w) e1
  have b2 : w.heap.size ≤ g2 := Nat.le_trans (Rely.Ext.refl w).size l2
  refine Qab (.bool false) 2 rfl kj kj ?_
  refine Qaf ?_
  refine hK1 _ _ ?_
  refine wp_seq_k fun K3 hK3 => ?_
  refine wp_seq_k fun K4 hK4 => ?_
  refine Qae ?_
  refine Qa3 (.bool true) 12 #[] 12 rfl kj kj ((QeV) _) fun W2 e2 => ?_
  have x2 : Ext w W2 := Ext.tr x1 e2
  refine Qab (.bool false) 13 rfl kj kj ?_
  refine Qaf ?_
  refine hK4 _ _ ?_
  refine cond_false kj ?_
  refine wp_skip ?_
  refine hK3 _ _ ?_
  refine wp_seq_k fun K5 hK5 => ?_
  refine wp_seq_k fun K6 hK6 => ?_
  refine Qae ?_
  refine Qab (.pointer (some ⟨g2, 67, none⟩)) 14 rfl kj kj ?_
  have r2_2 := (Qas r2_1 e2)
  refine Qab (.agg (cat [#[.bool us], #[.int .i64 nm], ints .u8 (key), ints .u8 (sg), ints .u8 (pa), #[.slice a_m ms.length c_m]])) 15 rfl kj (Qau 43 _ g2 67 47 _ _ _ r2_2 rfl kj (Qak [ints .u8 (grp), #[.int .i64 ep], #[.int .i64 fr], ints .u8 (bas), #[.int .i64 kd]] [#[.bool us], #[.int .i64 nm], ints .u8 (key), ints .u8 (sg), ints .u8 (pa), #[.slice a_m ms.length c_m]] [ints .u8 (start), #[.int .i64 at_], ints .u8 (sig)] 67 (by rw [Qaa, Qaa, Qaa, Qaa, Qaa]; simp only [Array.size_append, cat, ((Qac _ _).trans hal), ((Qac _ _).trans hrl)]; rfl)) kj (isz (n := 99) kj (by rw [Qaa, Qaa, Qaa, Qaa, Qaa, Qaa]; simp only [Array.size_append, cat, ((Qac _ _).trans hgl), ((Qac _ _).trans hkl), ((Qac _ _).trans hpl)]; rfl))) ?_
  refine Qa3 (.bool false) 20 #[.agg (cat [#[.bool us], #[.int .i64 nm], ints .u8 (key), ints .u8 (sg), ints .u8 (pa), #[.slice a_m ms.length c_m]])] 16 rfl kj kj (Qfu us nm key sg pa ms _ _ _ hkl hgl hpl hl) fun W3 e3 => ?_
  have x3 : Ext w W3 := Ext.tr x2 e3
  refine Qab (.bool true) 17 rfl kj kj ?_
  refine Qaf ?_
  refine hK6 _ _ ?_
  refine cond_true kj ?_
  refine wp_seq_k fun K7 hK7 => ?_
  refine Qae ?_
  refine Qab (.bool true) 2 rfl kj kj ?_
  refine Qaf ?_
  refine hK7 _ _ ?_
  refine wp_ret ?_
  repeat (first | with_reducible refine goR1 ?_ | with_reducible refine goR2 ?_)
  exact (show bodyPost _ _ _ .ret _ _ from ret1 (.bool true) rfl (Qaw kj) ⟨rfl, x3⟩)
set_option maxHeartbeats 4000000 in
set_option maxRecDepth 100000 in
theorem QfU (grp : List Int) (ep fr : Int) (bas : List Int) (kd : Int) (us : Bool) (nm : Int) (key sg pa ms start : List Int) (at_ : Int) (sig : List Int) (a_m : Option Addr) (c_m : Nat) (w : World) (hrl : grp.length = 32) (hrb : Qag grp) (hal : bas.length = 32) (hab : Qag bas) (hkl : key.length = 32) (hgl : sg.length = 32) (hpl : pa.length = 32) (hkb : Qag key) (hgb : Qag sg) (hpb : Qag pa) (htl : start.length = 32) (htb : Qag start) (hil : sig.length = 64) (hib : Qag sig) (hm : RdK .i64 w.heap.size ms (.slice a_m ms.length c_m) w) (hl : ms.length < 100) (hS : Qcm grp ep fr bas kd us nm key sg pa ms start at_ sig = none) : Calls Try.prog 4 #[.agg (cat [ints .u8 (grp), #[.int .i64 ep], #[.int .i64 fr], ints .u8 (bas), #[.int .i64 kd], #[.bool us], #[.int .i64 nm], ints .u8 (key), ints .u8 (sg), ints .u8 (pa), #[.slice a_m ms.length c_m], ints .u8 (start), #[.int .i64 at_], ints .u8 (sig)])] w (Ret w (.bool true)) := by
  refine enter 71 [(0, .agg (cat [ints .u8 (grp), #[.int .i64 ep], #[.int .i64 fr], ints .u8 (bas), #[.int .i64 kd], #[.bool us], #[.int .i64 nm], ints .u8 (key), ints .u8 (sg), ints .u8 (pa), #[.slice a_m ms.length c_m], ints .u8 (start), #[.int .i64 at_], ints .u8 (sig)]))] Try.func4 rfl rfl kj rfl ?_
  refine wp_seq_k fun K1 hK1 => ?_
  refine Qae ?_
  refine Qav (cat [ints .u8 (grp), #[.int .i64 ep], #[.int .i64 fr], ints .u8 (bas), #[.int .i64 kd], #[.bool us], #[.int .i64 nm], ints .u8 (key), ints .u8 (sg), ints .u8 (pa), #[.slice a_m ms.length c_m], ints .u8 (start), #[.int .i64 at_], ints .u8 (sig)]) 47 1 rfl kj kj fun g2 W1 l2 e1 r2_1 => ?_
  have x1 : Ext w W1 := Ext.tr (Rely.Ext.refl w) e1
  have b2 : w.heap.size ≤ g2 := Nat.le_trans (Rely.Ext.refl w).size l2
  refine Qab (.bool false) 2 rfl kj kj ?_
  refine Qaf ?_
  refine hK1 _ _ ?_
  refine wp_seq_k fun K3 hK3 => ?_
  refine wp_seq_k fun K4 hK4 => ?_
  refine Qae ?_
  refine Qa3 (.bool true) 12 #[] 12 rfl kj kj ((QeV) _) fun W2 e2 => ?_
  have x2 : Ext w W2 := Ext.tr x1 e2
  refine Qab (.bool false) 13 rfl kj kj ?_
  refine Qaf ?_
  refine hK4 _ _ ?_
  refine cond_false kj ?_
  refine wp_skip ?_
  refine hK3 _ _ ?_
  refine wp_seq_k fun K5 hK5 => ?_
  refine wp_seq_k fun K6 hK6 => ?_
  refine Qae ?_
  refine Qab (.pointer (some ⟨g2, 67, none⟩)) 14 rfl kj kj ?_
  have r2_2 := (Qas r2_1 e2)
  refine Qab (.agg (cat [#[.bool us], #[.int .i64 nm], ints .u8 (key), ints .u8 (sg), ints .u8 (pa), #[.slice a_m ms.length c_m]])) 15 rfl kj (Qau 43 _ g2 67 47 _ _ _ r2_2 rfl kj (Qak [ints .u8 (grp), #[.int .i64 ep], #[.int .i64 fr], ints .u8 (bas), #[.int .i64 kd]] [#[.bool us], #[.int .i64 nm], ints .u8 (key), ints .u8 (sg), ints .u8 (pa), #[.slice a_m ms.length c_m]] [ints .u8 (start), #[.int .i64 at_], ints .u8 (sig)] 67 (by rw [Qaa, Qaa, Qaa, Qaa, Qaa]; simp only [Array.size_append, cat, ((Qac _ _).trans hal), ((Qac _ _).trans hrl)]; rfl)) kj (isz (n := 99) kj (by rw [Qaa, Qaa, Qaa, Qaa, Qaa, Qaa]; simp only [Array.size_append, cat, ((Qac _ _).trans hgl), ((Qac _ _).trans hkl), ((Qac _ _).trans hpl)]; rfl))) ?_
  refine Qa3 (.bool true) 20 #[.agg (cat [#[.bool us], #[.int .i64 nm], ints .u8 (key), ints .u8 (sg), ints .u8 (pa), #[.slice a_m ms.length c_m]])] 16 rfl kj kj (QdW us nm key sg pa ms _ _ _ hkl hgl hpl hl) fun W3 e3 => ?_
  have x3 : Ext w W3 := Ext.tr x2 e3
  refine Qab (.bool false) 17 rfl kj kj ?_
  refine Qaf ?_
  refine hK6 _ _ ?_
  refine cond_false kj ?_
  refine wp_skip ?_
  refine hK5 _ _ ?_
  refine wp_seq_k fun K7 hK7 => ?_
  refine Qae ?_
  have r2_3 := (Qas r2_2 e3)
  refine Qab (.agg (cat [ints .u8 (grp), #[.int .i64 ep], #[.int .i64 fr], ints .u8 (bas), #[.int .i64 kd], #[.bool us], #[.int .i64 nm], ints .u8 (key), ints .u8 (sg), ints .u8 (pa), #[.slice a_m ms.length c_m], ints .u8 (start), #[.int .i64 at_], ints .u8 (sig)])) 19 rfl kj (Qa4 47 _ g2 47 _ _ r2_3 rfl kj kj (isz (n := 263) kj (by rw [Qaa, Qaa, Qaa, Qaa, Qaa, Qaa, Qaa, Qaa, Qaa, Qaa, Qaa, Qaa, Qaa, Qaa]; simp only [Array.size_append, cat, ((Qac _ _).trans hal), ((Qac _ _).trans hgl), ((Qac _ _).trans hil), ((Qac _ _).trans hkl), ((Qac _ _).trans hpl), ((Qac _ _).trans hrl), ((Qac _ _).trans htl)]; rfl))) ?_
  refine Qal (fun v W' => (PutR W3.heap.size none) v W' ∧ Ext W3 W') 21 #[.agg (cat [ints .u8 (grp), #[.int .i64 ep], #[.int .i64 fr], ints .u8 (bas), #[.int .i64 kd], #[.bool us], #[.int .i64 nm], ints .u8 (key), ints .u8 (sg), ints .u8 (pa), #[.slice a_m ms.length c_m], ints .u8 (start), #[.int .i64 at_], ints .u8 (sig)])] 20 rfl kj kj ((Qds grp ep fr bas kd us nm key sg pa ms start at_ sig _ _ _ hrl hrb hal hab hkl hgl hpl hkb hgb hpb (by omega) htl htb hil hib (RdK.here (RdK.here (RdK.ext hm x3))) ((QdV grp ep fr bas kd us nm key sg pa ms start at_ sig hrl hal hkl hgl hpl htl hil).trans hS)).mono (by rintro e w' ⟨v, rfl, e1, hv⟩; exact ⟨v, rfl, hv, e1⟩)) fun vv8 W4 hh8 => ?_
  obtain ⟨hv8, e4⟩ := hh8
  have x4 : Ext w W4 := Ext.tr x3 e4
  have hv4 : vv8 = .tuple #[.slice none 0 0, .iface 102 (.int .i64 3)] := hv8
  subst hv4
  refine Qab (.tuple #[.slice none 0 0, .iface 102 (.int .i64 3)]) 18 rfl kj kj ?_
  refine Qab (.slice none 0 0) 21 rfl kj kj ?_
  refine Qab (.iface 102 (.int .i64 3)) 22 rfl kj kj ?_
  refine Qab (.slice none 0 0) 3 rfl kj kj ?_
  refine Qab (.iface 102 (.int .i64 3)) 4 rfl kj kj ?_
  refine Qaf ?_
  refine hK7 _ _ ?_
  refine wp_seq_k fun K9 hK9 => ?_
  refine Qae ?_
  have r2_4 := (Qas r2_3 e4)
  refine Qab (.agg (cat [ints .u8 (grp), #[.int .i64 ep], #[.int .i64 fr], ints .u8 (bas), #[.int .i64 kd], #[.bool us], #[.int .i64 nm], ints .u8 (key), ints .u8 (sg), ints .u8 (pa), #[.slice a_m ms.length c_m], ints .u8 (start), #[.int .i64 at_], ints .u8 (sig)])) 24 rfl kj (Qa4 47 _ g2 47 _ _ r2_4 rfl kj kj (isz (n := 263) kj (by rw [Qaa, Qaa, Qaa, Qaa, Qaa, Qaa, Qaa, Qaa, Qaa, Qaa, Qaa, Qaa, Qaa, Qaa]; simp only [Array.size_append, cat, ((Qac _ _).trans hal), ((Qac _ _).trans hgl), ((Qac _ _).trans hil), ((Qac _ _).trans hkl), ((Qac _ _).trans hpl), ((Qac _ _).trans hrl), ((Qac _ _).trans htl)]; rfl))) ?_
  refine Qal (fun v W' => (QdM W4.heap.size (Qcm grp ep fr bas kd us nm key sg pa ms start at_ sig)) v W' ∧ Ext W4 W') 22 #[.agg (cat [ints .u8 (grp), #[.int .i64 ep], #[.int .i64 fr], ints .u8 (bas), #[.int .i64 kd], #[.bool us], #[.int .i64 nm], ints .u8 (key), ints .u8 (sg), ints .u8 (pa), #[.slice a_m ms.length c_m], ints .u8 (start), #[.int .i64 at_], ints .u8 (sig)])] 25 rfl kj kj ((Qb5 grp ep fr bas kd us nm key sg pa ms start at_ sig _ _ _ hrl hrb hal hab hkl hgl hpl hkb hgb hpb (by omega) htl htb hil hib (RdK.here (RdK.here (RdK.ext hm x4)))).mono (by rintro e w' ⟨v, rfl, e1, hv⟩; exact ⟨v, rfl, hv, e1⟩)) fun vv10 W5 hh10 => ?_
  obtain ⟨hv10, e5⟩ := hh10
  have x5 : Ext w W5 := Ext.tr x4 e5
  rw [hS] at hv10
  have hv5 : vv10 = .tuple #[.slice none 0 0, .bool false] := hv10
  subst hv5
  refine Qab (.tuple #[.slice none 0 0, .bool false]) 23 rfl kj kj ?_
  refine Qab (.slice none 0 0) 26 rfl kj kj ?_
  refine Qab (.bool false) 27 rfl kj kj ?_
  refine Qab (.slice none 0 0) 5 rfl kj kj ?_
  refine Qab (.bool false) 6 rfl kj kj ?_
  refine Qaf ?_
  refine hK9 _ _ ?_
  refine wp_seq_k fun K12 hK12 => ?_
  refine wp_seq_k fun K13 hK13 => ?_
  refine Qae ?_
  refine Qab (.slice none 0 0) 28 rfl kj kj ?_
  refine Qab (.iface 102 (.int .i64 3)) 29 rfl kj kj ?_
  refine Qab (.slice none 0 0) 30 rfl kj kj ?_
  refine Qab (.bool false) 31 rfl kj kj ?_
  refine Qa3 (.bool true) 16 #[.slice none 0 0, .iface 102 (.int .i64 3), .slice none 0 0, .bool false] 32 rfl kj kj ((Qf1 _) _) fun W6 e6 => ?_
  have x6 : Ext w W6 := Ext.tr x5 e6
  refine Qab (.bool false) 33 rfl kj kj ?_
  refine Qaf ?_
  refine hK13 _ _ ?_
  refine cond_false kj ?_
  refine wp_skip ?_
  refine hK12 _ _ ?_
  refine wp_seq_k fun K14 hK14 => ?_
  refine wp_seq_k fun K15 hK15 => ?_
  refine Qae ?_
  refine Qab (.bool false) 34 rfl kj kj ?_
  refine Qab (.bool true) 35 rfl kj kj ?_
  refine Qaf ?_
  refine hK15 _ _ ?_
  refine cond_true kj ?_
  refine wp_seq_k fun K16 hK16 => ?_
  refine Qae ?_
  refine Qab (.bool true) 2 rfl kj kj ?_
  refine Qaf ?_
  refine hK16 _ _ ?_
  refine wp_ret ?_
  repeat (first | with_reducible refine goR1 ?_ | with_reducible refine goR2 ?_)
  exact (show bodyPost _ _ _ .ret _ _ from ret1 (.bool true) rfl (Qaw kj) ⟨rfl, x6⟩)
set_option maxHeartbeats 4000000 in
set_option maxRecDepth 100000 in
theorem QfT (grp : List Int) (ep fr : Int) (bas : List Int) (kd : Int) (us : Bool) (nm : Int) (key sg pa ms start : List Int) (at_ : Int) (sig : List Int) (a_m : Option Addr) (c_m : Nat) (w : World) (hrl : grp.length = 32) (hrb : Qag grp) (hal : bas.length = 32) (hab : Qag bas) (hkl : key.length = 32) (hgl : sg.length = 32) (hpl : pa.length = 32) (hkb : Qag key) (hgb : Qag sg) (hpb : Qag pa) (htl : start.length = 32) (htb : Qag start) (hil : sig.length = 64) (hib : Qag sig) (hm : RdK .i64 w.heap.size ms (.slice a_m ms.length c_m) w) (hl : ms.length < 100) (bs : List Int) (hS : Qcm grp ep fr bas kd us nm key sg pa ms start at_ sig = some bs) : Calls Try.prog 4 #[.agg (cat [ints .u8 (grp), #[.int .i64 ep], #[.int .i64 fr], ints .u8 (bas), #[.int .i64 kd], #[.bool us], #[.int .i64 nm], ints .u8 (key), ints .u8 (sg), ints .u8 (pa), #[.slice a_m ms.length c_m], ints .u8 (start), #[.int .i64 at_], ints .u8 (sig)])] w (Ret w (.bool true)) := by
  obtain ⟨hR0, hf0, hf1, hf2, hf3, hf4, hf5, hf6, hf7, hf8, hf9, hf10, hf11, hf12, hf13, hbl, hpos⟩ := QeE grp ep fr bas kd us nm key sg pa ms start at_ sig bs hrl hal hkl hgl hpl htl hil hS
  have hbb : Qag bs := by
    have h9 := hS
    unfold Qcm at h9
    split at h9
    · obtain rfl := Option.some.inj h9
      exact Qel grp ep fr bas kd us nm key sg pa ms start at_ sig hrb hab hkb hgb hpb htb hib
    · cases h9
  refine enter 71 [(0, .agg (cat [ints .u8 (grp), #[.int .i64 ep], #[.int .i64 fr], ints .u8 (bas), #[.int .i64 kd], #[.bool us], #[.int .i64 nm], ints .u8 (key), ints .u8 (sg), ints .u8 (pa), #[.slice a_m ms.length c_m], ints .u8 (start), #[.int .i64 at_], ints .u8 (sig)]))] Try.func4 rfl rfl kj rfl ?_
  refine wp_seq_k fun K1 hK1 => ?_
  refine Qae ?_
  refine Qav (cat [ints .u8 (grp), #[.int .i64 ep], #[.int .i64 fr], ints .u8 (bas), #[.int .i64 kd], #[.bool us], #[.int .i64 nm], ints .u8 (key), ints .u8 (sg), ints .u8 (pa), #[.slice a_m ms.length c_m], ints .u8 (start), #[.int .i64 at_], ints .u8 (sig)]) 47 1 rfl kj kj fun g2 W1 l2 e1 r2_1 => ?_
  have x1 : Ext w W1 := Ext.tr (Rely.Ext.refl w) e1
  have b2 : w.heap.size ≤ g2 := Nat.le_trans (Rely.Ext.refl w).size l2
  refine Qab (.bool false) 2 rfl kj kj ?_
  refine Qaf ?_
  refine hK1 _ _ ?_
  refine wp_seq_k fun K3 hK3 => ?_
  refine wp_seq_k fun K4 hK4 => ?_
  refine Qae ?_
  refine Qa3 (.bool true) 12 #[] 12 rfl kj kj ((QeV) _) fun W2 e2 => ?_
  have x2 : Ext w W2 := Ext.tr x1 e2
  refine Qab (.bool false) 13 rfl kj kj ?_
  refine Qaf ?_
  refine hK4 _ _ ?_
  refine cond_false kj ?_
  refine wp_skip ?_
  refine hK3 _ _ ?_
  refine wp_seq_k fun K5 hK5 => ?_
  refine wp_seq_k fun K6 hK6 => ?_
  refine Qae ?_
  refine Qab (.pointer (some ⟨g2, 67, none⟩)) 14 rfl kj kj ?_
  have r2_2 := (Qas r2_1 e2)
  refine Qab (.agg (cat [#[.bool us], #[.int .i64 nm], ints .u8 (key), ints .u8 (sg), ints .u8 (pa), #[.slice a_m ms.length c_m]])) 15 rfl kj (Qau 43 _ g2 67 47 _ _ _ r2_2 rfl kj (Qak [ints .u8 (grp), #[.int .i64 ep], #[.int .i64 fr], ints .u8 (bas), #[.int .i64 kd]] [#[.bool us], #[.int .i64 nm], ints .u8 (key), ints .u8 (sg), ints .u8 (pa), #[.slice a_m ms.length c_m]] [ints .u8 (start), #[.int .i64 at_], ints .u8 (sig)] 67 (by rw [Qaa, Qaa, Qaa, Qaa, Qaa]; simp only [Array.size_append, cat, ((Qac _ _).trans hal), ((Qac _ _).trans hrl)]; rfl)) kj (isz (n := 99) kj (by rw [Qaa, Qaa, Qaa, Qaa, Qaa, Qaa]; simp only [Array.size_append, cat, ((Qac _ _).trans hgl), ((Qac _ _).trans hkl), ((Qac _ _).trans hpl)]; rfl))) ?_
  refine Qa3 (.bool true) 20 #[.agg (cat [#[.bool us], #[.int .i64 nm], ints .u8 (key), ints .u8 (sg), ints .u8 (pa), #[.slice a_m ms.length c_m]])] 16 rfl kj kj (QdW us nm key sg pa ms _ _ _ hkl hgl hpl hl) fun W3 e3 => ?_
  have x3 : Ext w W3 := Ext.tr x2 e3
  refine Qab (.bool false) 17 rfl kj kj ?_
  refine Qaf ?_
  refine hK6 _ _ ?_
  refine cond_false kj ?_
  refine wp_skip ?_
  refine hK5 _ _ ?_
  refine wp_seq_k fun K7 hK7 => ?_
  refine Qae ?_
  have r2_3 := (Qas r2_2 e3)
  refine Qab (.agg (cat [ints .u8 (grp), #[.int .i64 ep], #[.int .i64 fr], ints .u8 (bas), #[.int .i64 kd], #[.bool us], #[.int .i64 nm], ints .u8 (key), ints .u8 (sg), ints .u8 (pa), #[.slice a_m ms.length c_m], ints .u8 (start), #[.int .i64 at_], ints .u8 (sig)])) 19 rfl kj (Qa4 47 _ g2 47 _ _ r2_3 rfl kj kj (isz (n := 263) kj (by rw [Qaa, Qaa, Qaa, Qaa, Qaa, Qaa, Qaa, Qaa, Qaa, Qaa, Qaa, Qaa, Qaa, Qaa]; simp only [Array.size_append, cat, ((Qac _ _).trans hal), ((Qac _ _).trans hgl), ((Qac _ _).trans hil), ((Qac _ _).trans hkl), ((Qac _ _).trans hpl), ((Qac _ _).trans hrl), ((Qac _ _).trans htl)]; rfl))) ?_
  refine Qal (fun v W' => (PutR W3.heap.size (some bs)) v W' ∧ Ext W3 W') 21 #[.agg (cat [ints .u8 (grp), #[.int .i64 ep], #[.int .i64 fr], ints .u8 (bas), #[.int .i64 kd], #[.bool us], #[.int .i64 nm], ints .u8 (key), ints .u8 (sg), ints .u8 (pa), #[.slice a_m ms.length c_m], ints .u8 (start), #[.int .i64 at_], ints .u8 (sig)])] 20 rfl kj kj ((Qdr grp ep fr bas kd us nm key sg pa ms start at_ sig _ _ _ hrl hrb hal hab hkl hgl hpl hkb hgb hpb (by omega) htl htb hil hib (RdK.here (RdK.here (RdK.ext hm x3))) bs ((QdV grp ep fr bas kd us nm key sg pa ms start at_ sig hrl hal hkl hgl hpl htl hil).trans hS)).mono (by rintro e w' ⟨v, rfl, e1, hv⟩; exact ⟨v, rfl, hv, e1⟩)) fun vv8 W4 hh8 => ?_
  obtain ⟨hv8, e4⟩ := hh8
  have x4 : Ext w W4 := Ext.tr x3 e4
  obtain ⟨ub, rfl, hub⟩ := hv8
  obtain ⟨gb, cb, rb_, rfl, lb, rowb, hcb⟩ := QeI hub rfl hpos
  have lo0b : w.heap.size ≤ gb := Nat.le_trans x3.size lb
  refine Qab (.tuple #[.slice (some ⟨gb, 0, none⟩) bs.length cb, .nilIface]) 18 rfl kj kj ?_
  refine Qab (.slice (some ⟨gb, 0, none⟩) bs.length cb) 21 rfl kj kj ?_
  refine Qab (.nilIface) 22 rfl kj kj ?_
  refine Qab (.slice (some ⟨gb, 0, none⟩) bs.length cb) 3 rfl kj kj ?_
  refine Qab (.nilIface) 4 rfl kj kj ?_
  refine Qaf ?_
  refine hK7 _ _ ?_
  refine wp_seq_k fun K10 hK10 => ?_
  refine Qae ?_
  have r2_4 := (Qas r2_3 e4)
  refine Qab (.agg (cat [ints .u8 (grp), #[.int .i64 ep], #[.int .i64 fr], ints .u8 (bas), #[.int .i64 kd], #[.bool us], #[.int .i64 nm], ints .u8 (key), ints .u8 (sg), ints .u8 (pa), #[.slice a_m ms.length c_m], ints .u8 (start), #[.int .i64 at_], ints .u8 (sig)])) 24 rfl kj (Qa4 47 _ g2 47 _ _ r2_4 rfl kj kj (isz (n := 263) kj (by rw [Qaa, Qaa, Qaa, Qaa, Qaa, Qaa, Qaa, Qaa, Qaa, Qaa, Qaa, Qaa, Qaa, Qaa]; simp only [Array.size_append, cat, ((Qac _ _).trans hal), ((Qac _ _).trans hgl), ((Qac _ _).trans hil), ((Qac _ _).trans hkl), ((Qac _ _).trans hpl), ((Qac _ _).trans hrl), ((Qac _ _).trans htl)]; rfl))) ?_
  refine Qal (fun v W' => (QdM W4.heap.size (Qcm grp ep fr bas kd us nm key sg pa ms start at_ sig)) v W' ∧ Ext W4 W') 22 #[.agg (cat [ints .u8 (grp), #[.int .i64 ep], #[.int .i64 fr], ints .u8 (bas), #[.int .i64 kd], #[.bool us], #[.int .i64 nm], ints .u8 (key), ints .u8 (sg), ints .u8 (pa), #[.slice a_m ms.length c_m], ints .u8 (start), #[.int .i64 at_], ints .u8 (sig)])] 25 rfl kj kj ((Qb5 grp ep fr bas kd us nm key sg pa ms start at_ sig _ _ _ hrl hrb hal hab hkl hgl hpl hkb hgb hpb (by omega) htl htb hil hib (RdK.here (RdK.here (RdK.ext hm x4)))).mono (by rintro e w' ⟨v, rfl, e1, hv⟩; exact ⟨v, rfl, hv, e1⟩)) fun vv11 W5 hh11 => ?_
  obtain ⟨hv11, e5⟩ := hh11
  have x5 : Ext w W5 := Ext.tr x4 e5
  rw [hS] at hv11
  obtain ⟨u12_, rfl, hu12_⟩ := hv11
  obtain ⟨ar12_, cr12_, rfl, -⟩ := id (OwnN.rd hu12_)
  refine Qab (.tuple #[.slice ar12_ ((bs).length) cr12_, .bool true]) 23 rfl kj kj ?_
  refine Qab (.slice ar12_ ((bs).length) cr12_) 26 rfl kj kj ?_
  refine Qab (.bool true) 27 rfl kj kj ?_
  refine Qab (.slice ar12_ ((bs).length) cr12_) 5 rfl kj kj ?_
  refine Qab (.bool true) 6 rfl kj kj ?_
  refine Qaf ?_
  refine hK10 _ _ ?_
  refine wp_seq_k fun K13 hK13 => ?_
  refine wp_seq_k fun K14 hK14 => ?_
  refine Qae ?_
  refine Qab (.slice (some ⟨gb, 0, none⟩) bs.length cb) 28 rfl kj kj ?_
  refine Qab (.nilIface) 29 rfl kj kj ?_
  refine Qab (.slice ar12_ ((bs).length) cr12_) 30 rfl kj kj ?_
  refine Qab (.bool true) 31 rfl kj kj ?_
  have r9_5 := (Qas rowb e5)
  refine Qa3 (.bool true) 16 #[.slice (some ⟨gb, 0, none⟩) bs.length cb, .nilIface, .slice ar12_ ((bs).length) cr12_, .bool true] 32 rfl kj kj (Qf0 _ _ bs _ (RdK.bytes (QdT (rfl) r9_5 hcb) hbb) (RdK.bytes (OwnN.rd hu12_) hbb)) fun W6 e6 => ?_
  have x6 : Ext w W6 := Ext.tr x5 e6
  refine Qab (.bool false) 33 rfl kj kj ?_
  refine Qaf ?_
  refine hK14 _ _ ?_
  refine cond_false kj ?_
  refine wp_skip ?_
  refine hK13 _ _ ?_
  refine wp_seq_k fun K15 hK15 => ?_
  refine wp_seq_k fun K16 hK16 => ?_
  refine Qae ?_
  refine Qab (.bool true) 34 rfl kj kj ?_
  refine Qab (.bool false) 35 rfl kj kj ?_
  refine Qaf ?_
  refine hK16 _ _ ?_
  refine cond_false kj ?_
  refine wp_skip ?_
  refine hK15 _ _ ?_
  refine wp_seq_k fun K17 hK17 => ?_
  refine Qae ?_
  refine Qab (.slice (some ⟨gb, 0, none⟩) bs.length cb) 37 rfl kj kj ?_
  have r9_6 := (Qas r9_5 e6)
  refine Qal (fun v W' => (fun v W => ∃ (a : Option Addr) (c : Nat), v = .tuple #[.agg (cat [ints .u8 (qGrp (Qai bs)), #[.int .i64 (qEp (Qai bs))], #[.int .i64 (qFr (Qai bs))], ints .u8 (qBa (Qai bs)), #[.int .i64 ((qKd (Qai bs) : Nat) : Int)], #[.bool (qUs (Qai bs))], #[.int .i64 (qNm (Qai bs))], ints .u8 (qKy (Qai bs)), ints .u8 (qSg (Qai bs)), ints .u8 (qPa (Qai bs)), #[.slice a (qL (Qai bs)).length c], ints .u8 (qSt (Qai bs)), #[.int .i64 (qAt (Qai bs))], ints .u8 (qSig (Qai bs))]), .nilIface] ∧ OwnN .i64 3 W6.heap.size (qL (Qai bs)) (.slice a (qL (Qai bs)).length c) W) v W' ∧ Ext W6 W') 23 #[.slice (some ⟨gb, 0, none⟩) bs.length cb] 38 rfl kj kj ((QcA bs _ _ _ hbb (RdK.here (QdT (rfl) r9_6 hcb)) hR0).mono (by rintro e w' ⟨v, rfl, e1, hv⟩; exact ⟨v, rfl, hv, e1⟩)) fun vv18 W7 hh18 => ?_
  obtain ⟨hv18, e7⟩ := hh18
  have x7 : Ext w W7 := Ext.tr x6 e7
  replace hv18 : ∃ (a : Option Addr) (c : Nat), vv18 = .tuple #[.agg (cat [ints .u8 (qGrp (Qai bs)), #[.int .i64 (qEp (Qai bs))], #[.int .i64 (qFr (Qai bs))], ints .u8 (qBa (Qai bs)), #[.int .i64 ((qKd (Qai bs) : Nat) : Int)], #[.bool (qUs (Qai bs))], #[.int .i64 (qNm (Qai bs))], ints .u8 (qKy (Qai bs)), ints .u8 (qSg (Qai bs)), ints .u8 (qPa (Qai bs)), #[.slice a (qL (Qai bs)).length c], ints .u8 (qSt (Qai bs)), #[.int .i64 (qAt (Qai bs))], ints .u8 (qSig (Qai bs))]), .nilIface] ∧ OwnN .i64 3 W6.heap.size (qL (Qai bs)) (.slice a (qL (Qai bs)).length c) W7 := hv18
  rw [hf0, hf1, hf2, hf3, hf4, hf5, hf6, hf7, hf8, hf9, hf10, hf11, hf12, hf13] at hv18
  obtain ⟨ay, cy, rfl, hoy⟩ := hv18
  refine Qab (.tuple #[.agg (cat [ints .u8 (grp), #[.int .i64 ep], #[.int .i64 fr], ints .u8 (bas), #[.int .i64 kd], #[.bool us], #[.int .i64 nm], ints .u8 (key), ints .u8 (sg), ints .u8 (pa), #[.slice ay ms.length cy], ints .u8 (start), #[.int .i64 at_], ints .u8 (sig)]), .nilIface]) 36 rfl kj kj ?_
  refine Qab (.agg (cat [ints .u8 (grp), #[.int .i64 ep], #[.int .i64 fr], ints .u8 (bas), #[.int .i64 kd], #[.bool us], #[.int .i64 nm], ints .u8 (key), ints .u8 (sg), ints .u8 (pa), #[.slice ay ms.length cy], ints .u8 (start), #[.int .i64 at_], ints .u8 (sig)])) 39 rfl kj kj ?_
  refine Qab (.nilIface) 40 rfl kj kj ?_
  refine Qav (cat [ints .u8 (List.replicate 32 0), #[.int .i64 0], #[.int .i64 0], ints .u8 (List.replicate 32 0), #[.int .i64 0], #[.bool false], #[.int .i64 0], ints .u8 (List.replicate 32 0), ints .u8 (List.replicate 32 0), ints .u8 (List.replicate 32 0), #[.slice none 0 0], ints .u8 (List.replicate 32 0), #[.int .i64 0], ints .u8 (List.replicate 64 0)]) 47 7 rfl kj (QaZ 47 _ rfl (Qb3 _)) fun g20 W8 l20 e8 r20_8 => ?_
  have x8 : Ext w W8 := Ext.tr x7 e8
  have b20 : w.heap.size ≤ g20 := Nat.le_trans x7.size l20
  refine Qa2 g20 _ (cat [ints .u8 (grp), #[.int .i64 ep], #[.int .i64 fr], ints .u8 (bas), #[.int .i64 kd], #[.bool us], #[.int .i64 nm], ints .u8 (key), ints .u8 (sg), ints .u8 (pa), #[.slice ay ms.length cy], ints .u8 (start), #[.int .i64 at_], ints .u8 (sig)]) 47 r20_8 rfl kj (Qaz 47 _ _ g20 47 _ _ r20_8 rfl kj kj (isz (n := 263) kj (by rw [Qaa, Qaa, Qaa, Qaa, Qaa, Qaa, Qaa, Qaa, Qaa, Qaa, Qaa, Qaa, Qaa, Qaa]; simp only [Array.size_append, cat, ((Qac _ _).trans hal), ((Qac _ _).trans hgl), ((Qac _ _).trans hil), ((Qac _ _).trans hkl), ((Qac _ _).trans hpl), ((Qac _ _).trans hrl), ((Qac _ _).trans htl)]; rfl)) (eqsz (n := 263) (by rw [Qaa, Qaa, Qaa, Qaa, Qaa, Qaa, Qaa, Qaa, Qaa, Qaa, Qaa, Qaa, Qaa, Qaa]; simp only [Array.size_append, cat, ((Qac _ _).trans (List.length_replicate (n := 32))), ((Qac _ _).trans (List.length_replicate (n := 64)))]; rfl) (by rw [Qaa, Qaa, Qaa, Qaa, Qaa, Qaa, Qaa, Qaa, Qaa, Qaa, Qaa, Qaa, Qaa, Qaa]; simp only [Array.size_append, cat, ((Qac _ _).trans hal), ((Qac _ _).trans hgl), ((Qac _ _).trans hil), ((Qac _ _).trans hkl), ((Qac _ _).trans hpl), ((Qac _ _).trans hrl), ((Qac _ _).trans htl)]; rfl)) (QaP _ (by intro a ha; simp only [List.mem_cons, List.not_mem_nil, or_false] at ha; rcases ha with rfl | rfl | rfl | rfl | rfl | rfl | rfl | rfl | rfl | rfl | rfl | rfl | rfl | rfl; exact (Qat _ _); exact (Qaq _ rfl); exact (Qaq _ rfl); exact (Qat _ _); exact (Qaq _ rfl); exact (Qaq _ rfl); exact (Qaq _ rfl); exact (Qat _ _); exact (Qat _ _); exact (Qat _ _); exact (Qaq _ rfl); exact (Qat _ _); exact (Qaq _ rfl); exact (Qat _ _)))) fun W9 p9 r20_9 => ?_
  have x9 : Ext w W9 := Puts.ext p9 x8 b20
  refine Qab (.nilIface) 4 rfl kj kj ?_
  refine Qaf ?_
  refine hK17 _ _ ?_
  refine wp_seq_k fun K21 hK21 => ?_
  refine Qae ?_
  refine Qab (.agg (cat [ints .u8 (grp), #[.int .i64 ep], #[.int .i64 fr], ints .u8 (bas), #[.int .i64 kd], #[.bool us], #[.int .i64 nm], ints .u8 (key), ints .u8 (sg), ints .u8 (pa), #[.slice ay ms.length cy], ints .u8 (start), #[.int .i64 at_], ints .u8 (sig)])) 42 rfl kj (Qa4 47 _ g20 47 _ _ r20_9 rfl kj kj (isz (n := 263) kj (by rw [Qaa, Qaa, Qaa, Qaa, Qaa, Qaa, Qaa, Qaa, Qaa, Qaa, Qaa, Qaa, Qaa, Qaa]; simp only [Array.size_append, cat, ((Qac _ _).trans hal), ((Qac _ _).trans hgl), ((Qac _ _).trans hil), ((Qac _ _).trans hkl), ((Qac _ _).trans hpl), ((Qac _ _).trans hrl), ((Qac _ _).trans htl)]; rfl))) ?_
  have f22_8 := (hoy.ext e8)
  have f23_9 := (f22_8.puts p9 (Qcy hoy l20))
  refine Qal (fun v W' => (QdM W9.heap.size (Qcm grp ep fr bas kd us nm key sg pa ms start at_ sig)) v W' ∧ Ext W9 W') 22 #[.agg (cat [ints .u8 (grp), #[.int .i64 ep], #[.int .i64 fr], ints .u8 (bas), #[.int .i64 kd], #[.bool us], #[.int .i64 nm], ints .u8 (key), ints .u8 (sg), ints .u8 (pa), #[.slice ay ms.length cy], ints .u8 (start), #[.int .i64 at_], ints .u8 (sig)])] 43 rfl kj kj ((Qb5 grp ep fr bas kd us nm key sg pa ms start at_ sig _ _ _ hrl hrb hal hab hkl hgl hpl hkb hgb hpb (by omega) htl htb hil hib (RdK.here (OwnN.rd f23_9))).mono (by rintro e w' ⟨v, rfl, e1, hv⟩; exact ⟨v, rfl, hv, e1⟩)) fun vv24 W10 hh24 => ?_
  obtain ⟨hv24, e10⟩ := hh24
  have x10 : Ext w W10 := Ext.tr x9 e10
  rw [hS] at hv24
  obtain ⟨u25_, rfl, hu25_⟩ := hv24
  obtain ⟨ar25_, cr25_, rfl, -⟩ := id (OwnN.rd hu25_)
  refine Qab (.tuple #[.slice ar25_ ((bs).length) cr25_, .bool true]) 41 rfl kj kj ?_
  refine Qab (.slice ar25_ ((bs).length) cr25_) 44 rfl kj kj ?_
  refine Qab (.bool true) 45 rfl kj kj ?_
  refine Qab (.slice ar25_ ((bs).length) cr25_) 8 rfl kj kj ?_
  refine Qab (.bool true) 9 rfl kj kj ?_
  refine Qaf ?_
  refine hK21 _ _ ?_
  refine wp_seq_k fun K26 hK26 => ?_
  refine Qae ?_
  refine Qab (.slice (some ⟨gb, 0, none⟩) bs.length cb) 46 rfl kj kj ?_
  have r9_7 := (Qas r9_6 e7)
  have r9_8 := (Qas r9_7 e8)
  have r9_9 := (Puts.row p9 r9_8 (QaA r9_7 l20))
  have r9_10 := (Qas r9_9 e10)
  refine Qal (fun v W' => v = .tuple #[] ∧ ExtB gb W10 W') 18 #[.slice (some ⟨gb, 0, none⟩) bs.length cb] 47 rfl kj kj ((QgL gb bs.length cb bs rb_ _ (by omega) rfl r9_10).mono fun e w' h => ⟨_, h.1, rfl, h.2⟩) fun v27 W11 h27 => ?_
  obtain ⟨rfl, q11⟩ := h27
  have x11 : Ext w W11 := ExtB.toExt x10 q11 lo0b
  refine Qaf ?_
  refine hK26 _ _ ?_
  refine wp_seq_k fun K28 hK28 => ?_
  refine Qae ?_
  have r20_10 := (Qas r20_9 e10)
  have r20_11 := (ExtB.row q11 r20_10 (QeM r9_7 l20))
  refine Qab (.agg (cat [ints .u8 (grp), #[.int .i64 ep], #[.int .i64 fr], ints .u8 (bas), #[.int .i64 kd], #[.bool us], #[.int .i64 nm], ints .u8 (key), ints .u8 (sg), ints .u8 (pa), #[.slice ay ms.length cy], ints .u8 (start), #[.int .i64 at_], ints .u8 (sig)])) 49 rfl kj (Qa4 47 _ g20 47 _ _ r20_11 rfl kj kj (isz (n := 263) kj (by rw [Qaa, Qaa, Qaa, Qaa, Qaa, Qaa, Qaa, Qaa, Qaa, Qaa, Qaa, Qaa, Qaa, Qaa]; simp only [Array.size_append, cat, ((Qac _ _).trans hal), ((Qac _ _).trans hgl), ((Qac _ _).trans hil), ((Qac _ _).trans hkl), ((Qac _ _).trans hpl), ((Qac _ _).trans hrl), ((Qac _ _).trans htl)]; rfl))) ?_
  have f29_10 := (f23_9.ext e10)
  have f30_11 := (Qbg f29_10 q11 (QaV hoy (Qay r9_6)))
  refine Qal (fun v W' => (QdM W11.heap.size (Qcm grp ep fr bas kd us nm key sg pa ms start at_ sig)) v W' ∧ Ext W11 W') 22 #[.agg (cat [ints .u8 (grp), #[.int .i64 ep], #[.int .i64 fr], ints .u8 (bas), #[.int .i64 kd], #[.bool us], #[.int .i64 nm], ints .u8 (key), ints .u8 (sg), ints .u8 (pa), #[.slice ay ms.length cy], ints .u8 (start), #[.int .i64 at_], ints .u8 (sig)])] 50 rfl kj kj ((Qb5 grp ep fr bas kd us nm key sg pa ms start at_ sig _ _ _ hrl hrb hal hab hkl hgl hpl hkb hgb hpb (by omega) htl htb hil hib (RdK.here (OwnN.rd f30_11))).mono (by rintro e w' ⟨v, rfl, e1, hv⟩; exact ⟨v, rfl, hv, e1⟩)) fun vv31 W12 hh31 => ?_
  obtain ⟨hv31, e12⟩ := hh31
  have x12 : Ext w W12 := Ext.tr x11 e12
  rw [hS] at hv31
  obtain ⟨u32_, rfl, hu32_⟩ := hv31
  obtain ⟨ar32_, cr32_, rfl, -⟩ := id (OwnN.rd hu32_)
  refine Qab (.tuple #[.slice ar32_ ((bs).length) cr32_, .bool true]) 48 rfl kj kj ?_
  refine Qab (.slice ar32_ ((bs).length) cr32_) 51 rfl kj kj ?_
  refine Qab (.bool true) 52 rfl kj kj ?_
  refine Qab (.slice ar32_ ((bs).length) cr32_) 10 rfl kj kj ?_
  refine Qab (.bool true) 11 rfl kj kj ?_
  refine Qaf ?_
  refine hK28 _ _ ?_
  refine wp_seq_k fun K33 hK33 => ?_
  refine Qae ?_
  refine Qab (.nilIface) 53 rfl kj kj ?_
  refine Qab (.bool true) 54 rfl kj kj ?_
  refine Qab (.bool true) 55 rfl kj kj ?_
  refine Qab (.bool true) 56 rfl kj kj ?_
  refine Qab (.bool true) 57 rfl kj kj ?_
  refine Qab (.bool true) 58 rfl kj kj ?_
  refine Qab (.bool true) 59 rfl kj kj ?_
  refine Qab (.bool true) 60 rfl kj kj ?_
  refine Qab (.bool true) 61 rfl kj kj ?_
  refine Qab (.slice ar25_ ((bs).length) cr25_) 62 rfl kj kj ?_
  refine Qab (.slice ar12_ ((bs).length) cr12_) 63 rfl kj kj ?_
  have f34_11 := (Qbg hu25_ q11 (QaV hu25_ (Qay r9_9)))
  have f35_12 := (f34_11.ext e12)
  have f36_6 := (hu12_.ext e6)
  have f37_7 := (f36_6.ext e7)
  have f38_8 := (f37_7.ext e8)
  have f39_9 := (f38_8.puts p9 (Qcy f37_7 l20))
  have f40_10 := (f39_9.ext e10)
  have f41_11 := (Qbg f40_10 q11 (QaV hu12_ (Qay rowb)))
  have f42_12 := (f41_11.ext e12)
  refine Qa3 (.bool true) 19 #[.slice ar25_ ((bs).length) cr25_, .slice ar12_ ((bs).length) cr12_] 64 rfl kj kj (Qf9 _ _ _ _ _ rfl (RdK.bytes (OwnN.rd f35_12) hbb) (RdK.bytes (OwnN.rd f42_12) hbb)) fun W13 e13 => ?_
  have x13 : Ext w W13 := Ext.tr x12 e13
  refine Qab (.bool true) 65 rfl kj kj ?_
  refine Qab (.bool true) 66 rfl kj kj ?_
  refine Qab (.slice ar32_ ((bs).length) cr32_) 67 rfl kj kj ?_
  refine Qab (.slice ar12_ ((bs).length) cr12_) 68 rfl kj kj ?_
  have f43_13 := (hu32_.ext e13)
  have f44_13 := (f42_12.ext e13)
  refine Qa3 (.bool true) 19 #[.slice ar32_ ((bs).length) cr32_, .slice ar12_ ((bs).length) cr12_] 69 rfl kj kj (Qf9 _ _ _ _ _ rfl (RdK.bytes (OwnN.rd f43_13) hbb) (RdK.bytes (OwnN.rd f44_13) hbb)) fun W14 e14 => ?_
  have x14 : Ext w W14 := Ext.tr x13 e14
  refine Qab (.bool true) 70 rfl kj kj ?_
  refine Qab (.bool true) 2 rfl kj kj ?_
  refine Qaf ?_
  refine hK33 _ _ ?_
  refine wp_ret ?_
  repeat (first | with_reducible refine goR1 ?_ | with_reducible refine goR2 ?_)
  exact (show bodyPost _ _ _ .ret _ _ from ret1 (.bool true) rfl (Qaw kj) ⟨rfl, x14⟩)
theorem lawPr (grp : List Int) (ep fr : Int) (bas : List Int) (kd : Int) (us : Bool) (nm : Int) (key sg pa ms start : List Int) (at_ : Int) (sig : List Int) (a_m : Option Addr) (c_m : Nat) (w : World) (hrl : grp.length = 32) (hrb : Qag grp) (hal : bas.length = 32) (hab : Qag bas) (hkl : key.length = 32) (hgl : sg.length = 32) (hpl : pa.length = 32) (hkb : Qag key) (hgb : Qag sg) (hpb : Qag pa) (htl : start.length = 32) (htb : Qag start) (hil : sig.length = 64) (hib : Qag sig) (hm : RdK .i64 w.heap.size ms (.slice a_m ms.length c_m) w) : Calls Try.prog 4 #[.agg (cat [ints .u8 (grp), #[.int .i64 ep], #[.int .i64 fr], ints .u8 (bas), #[.int .i64 kd], #[.bool us], #[.int .i64 nm], ints .u8 (key), ints .u8 (sg), ints .u8 (pa), #[.slice a_m ms.length c_m], ints .u8 (start), #[.int .i64 at_], ints .u8 (sig)])] w (Ret w (.bool true)) := by
  by_cases hl : ms.length < 100
  · cases hS : Qcm grp ep fr bas kd us nm key sg pa ms start at_ sig with
    | none => exact QfU grp ep fr bas kd us nm key sg pa ms start at_ sig a_m c_m w hrl hrb hal hab hkl hgl hpl hkb hgb hpb htl htb hil hib hm hl hS
    | some bs => exact QfT grp ep fr bas kd us nm key sg pa ms start at_ sig a_m c_m w hrl hrb hal hab hkl hgl hpl hkb hgb hpb htl htb hil hib hm hl bs hS
  · exact QfV grp ep fr bas kd us nm key sg pa ms start at_ sig a_m c_m w hrl hrb hal hab hkl hgl hpl hkb hgb hpb htl htb hil hib hm (by omega)
end Go.Proofs.Ytfelfmchachljaa.Wr
end
section
namespace Go.Proofs.Ytfelfmchachljaa.Auto
open Go Go.RowKit
open Rely
set_option linter.unusedVariables false
end Go.Proofs.Ytfelfmchachljaa.Auto
end
section
namespace Go.Proofs.Ytfelfmchachljaa.Auto
open Go Go.RowKit Go.WideShapes
open Rely
set_option linter.unusedVariables false
section
variable {H : Type} {enc : TypeId × Value → H} {P : Program} {W w : World} {r : Reach} {base b0 : Nat} {sp : Nat → Bool} {held : Bool}
theorem open_raw {n : Nat} {t e : TypeId} {cs : List Value} {fuel : Nat} {x : DataW H × List MemPlace} (ht : P.underlying t = some (.array n e)) (he : P.underlying e = some (.int .u8)) (hce : P.cellsOf e = 1) (hct : P.cellsOf t = n)
    (hf : DataW.trod enc P w b0 sp held fuel t cs = some x) : ∃ xs : List Int, cs = xs.map (Value.int .u8) ∧ xs.length = n ∧ Qag xs := by
  obtain ⟨xs, m, -, -, hl, hn, hx⟩ := DataW.trod_array ht hf
  have hcs : cs.length = n := by simpa [hct] using hl
  have each : ∀ i, i < n → ∃ z : Int, cs[i]? = some (.int .u8 z) ∧ (0 ≤ z ∧ z ≤ 255) := by
    intro i hi
    have h1 := hx i hi
    rw [hce, Nat.mul_one] at h1
    have hlt : i < cs.length := by omega
    have h2 : cs.drop i = cs[i] :: cs.drop (i + 1) := List.drop_eq_getElem_cons hlt
    have h1 : DataW.trod enc P w b0 sp held m e ((cs.drop i).take 1) = xs[i]? := h1
    rw [h2] at h1
    simp only [List.take_succ_cons, List.take_zero] at h1
    obtain ⟨y, hy⟩ : ∃ y, xs[i]? = some y := ⟨xs[i], by simp [hn, hi]⟩
    rw [hy] at h1
    obtain ⟨z, hc, -, hw⟩ := DataW.trod_int he h1
    refine ⟨z, ?_, ?_⟩
    · rw [List.getElem?_eq_getElem hlt]
      simp only [List.cons.injEq] at hc
      rw [hc.1]
    · simpa [Lit.wf, IntKind.min, IntKind.max, IntKind.signed, IntKind.bits] using hw
  have all : ∀ (l : List Value), (∀ i, i < l.length → ∃ z : Int, l[i]? = some (.int .u8 z) ∧ (0 ≤ z ∧ z ≤ 255)) → ∃ zs : List Int, l = zs.map (Value.int .u8) ∧ Qag zs := by
    intro l
    induction l with
    | nil => exact fun _ => ⟨[], rfl, fun x hx => by simp at hx⟩
    | cons a l ih =>
      intro h
      obtain ⟨zs, h1, h2⟩ := ih fun i hi => by simpa using h (i + 1) (by simp; omega)
      obtain ⟨z, h3, h4⟩ := h 0 (by simp)
      simp only [List.getElem?_cons_zero, Option.some.injEq] at h3
      refine ⟨z :: zs, by rw [h3, h1]; rfl, fun x hx => ?_⟩
      rcases List.mem_cons.1 hx with e | e
      · rw [e]; exact h4
      · exact h2 x e
  obtain ⟨zs, h1, h2⟩ := all cs fun i hi => each i (by omega)
  exact ⟨zs, h1, by rw [← hcs, h1, List.length_map], h2⟩
end
end Go.Proofs.Ytfelfmchachljaa.Auto
end
section
namespace Go.Proofs.Ytfelfmchachljaa.Auto
open Go Go.RowKit Go.WideShapes
open Rely
set_option linter.unusedVariables false
section
variable {H : Type} {enc : TypeId × Value → H} {P : Program} {W w : World} {r : Reach} {base b0 : Nat} {sp : Nat → Bool} {held : Bool}
theorem QeZ {t : TypeId} {f0 f1 f2 f3 f4 f5 f6 f7 f8 : Field} {fuel : Nat} {cs : List Value} {x : DataW H × List MemPlace} (ht : P.underlying t = some (.struct #[f0, f1, f2, f3, f4, f5, f6, f7, f8])) (h : DataW.trod enc P w b0 sp held fuel t cs = some x) :
    ∃ y0 y1 y2 y3 y4 y5 y6 y7 y8 n, cs.length = P.cellsOf t ∧ DataW.trod enc P w b0 sp held n f0.type ((cs.drop f0.offset).take (P.cellsOf f0.type)) = some y0 ∧ DataW.trod enc P w b0 sp held n f1.type ((cs.drop f1.offset).take (P.cellsOf f1.type)) = some y1 ∧ DataW.trod enc P w b0 sp held n f2.type ((cs.drop f2.offset).take (P.cellsOf f2.type)) = some y2 ∧ DataW.trod enc P w b0 sp held n f3.type ((cs.drop f3.offset).take (P.cellsOf f3.type)) = some y3 ∧ DataW.trod enc P w b0 sp held n f4.type ((cs.drop f4.offset).take (P.cellsOf f4.type)) = some y4 ∧ DataW.trod enc P w b0 sp held n f5.type ((cs.drop f5.offset).take (P.cellsOf f5.type)) = some y5 ∧ DataW.trod enc P w b0 sp held n f6.type ((cs.drop f6.offset).take (P.cellsOf f6.type)) = some y6 ∧ DataW.trod enc P w b0 sp held n f7.type ((cs.drop f7.offset).take (P.cellsOf f7.type)) = some y7 ∧ DataW.trod enc P w b0 sp held n f8.type ((cs.drop f8.offset).take (P.cellsOf f8.type)) = some y8 := by
  obtain ⟨xs, n, _, rfl, hl, hlen, hf⟩ := DataW.trod_struct ht h
  match xs, hlen with
  | [y0, y1, y2, y3, y4, y5, y6, y7, y8], _ => exact ⟨y0, y1, y2, y3, y4, y5, y6, y7, y8, n, hl, by simpa using hf 0 f0 rfl, by simpa using hf 1 f1 rfl, by simpa using hf 2 f2 rfl, by simpa using hf 3 f3 rfl, by simpa using hf 4 f4 rfl, by simpa using hf 5 f5 rfl, by simpa using hf 6 f6 rfl, by simpa using hf 7 f7 rfl, by simpa using hf 8 f8 rfl⟩
theorem open_st9 {t : TypeId} {f0 f1 f2 f3 f4 f5 f6 f7 f8 : Field} {v : Value} {d : DataW H} {p : List MemPlace} {n0 n1 n2 n3 n4 n5 n6 n7 n8 : Nat} (hs : P.underlying t = some (.struct #[f0, f1, f2, f3, f4, f5, f6, f7, f8]))
    (ho : f0.offset = 0 ∧ f1.offset = n0 ∧ f2.offset = n0 + n1 ∧ f3.offset = n0 + n1 + n2 ∧ f4.offset = n0 + n1 + n2 + n3 ∧ f5.offset = n0 + n1 + n2 + n3 + n4 ∧ f6.offset = n0 + n1 + n2 + n3 + n4 + n5 ∧ f7.offset = n0 + n1 + n2 + n3 + n4 + n5 + n6 ∧ f8.offset = n0 + n1 + n2 + n3 + n4 + n5 + n6 + n7) (hc : P.cellsOf f0.type = n0 ∧ P.cellsOf f1.type = n1 ∧ P.cellsOf f2.type = n2 ∧ P.cellsOf f3.type = n3 ∧ P.cellsOf f4.type = n4 ∧ P.cellsOf f5.type = n5 ∧ P.cellsOf f6.type = n6 ∧ P.cellsOf f7.type = n7 ∧ P.cellsOf f8.type = n8) (hC : P.cellsOf t = n0 + n1 + n2 + n3 + n4 + n5 + n6 + n7 + n8)
    (hv : Value.okWide P W r base t v) (h : DataW.Trod enc P w b0 sp held t v d p) :
    ∃ (X0 X1 X2 X3 X4 X5 X6 X7 X8 : List Value) (y0 y1 y2 y3 y4 y5 y6 y7 y8 : DataW H × List MemPlace) (n : Nat), v = .agg (X0 ++ X1 ++ X2 ++ X3 ++ X4 ++ X5 ++ X6 ++ X7 ++ X8).toArray ∧ DataW.trod enc P w b0 sp held n f0.type X0 = some y0 ∧ DataW.trod enc P w b0 sp held n f1.type X1 = some y1 ∧ DataW.trod enc P w b0 sp held n f2.type X2 = some y2 ∧ DataW.trod enc P w b0 sp held n f3.type X3 = some y3 ∧ DataW.trod enc P w b0 sp held n f4.type X4 = some y4 ∧ DataW.trod enc P w b0 sp held n f5.type X5 = some y5 ∧ DataW.trod enc P w b0 sp held n f6.type X6 = some y6 ∧ DataW.trod enc P w b0 sp held n f7.type X7 = some y7 ∧ DataW.trod enc P w b0 sp held n f8.type X8 = some y8 := by
  obtain ⟨cs, rfl, hsz⟩ := okWide_struct hs hv
  obtain ⟨fuel, hf⟩ := h
  obtain ⟨y0, y1, y2, y3, y4, y5, y6, y7, y8, n, hlen, h0, h1, h2, h3, h4, h5, h6, h7, h8⟩ := QeZ hs hf
  obtain ⟨o0, o1, o2, o3, o4, o5, o6, o7, o8⟩ := ho
  obtain ⟨c0, c1, c2, c3, c4, c5, c6, c7, c8⟩ := hc
  rw [o0, c0] at h0
  rw [o1, c1] at h1
  rw [o2, c2] at h2
  rw [o3, c3] at h3
  rw [o4, c4] at h4
  rw [o5, c5] at h5
  rw [o6, c6] at h6
  rw [o7, c7] at h7
  rw [o8, c8] at h8
  refine ⟨_, _, _, _, _, _, _, _, _, y0, y1, y2, y3, y4, y5, y6, y7, y8, n, ?_, h0, h1, h2, h3, h4, h5, h6, h7, h8⟩
  congr 1
  have hl : cs.toList.length = n0 + n1 + n2 + n3 + n4 + n5 + n6 + n7 + n8 := by rw [Array.length_toList, hsz, hC]
  apply Array.ext'
  show cs.toList = _
  simp only [Value.cells, List.drop_zero]
  generalize cs.toList = l at hl
  have e1 : l.take (n0) ++ (l.drop (n0)).take n1 = l.take (n0 + n1) := by rw [List.take_add (i := n0)]
  have e2 : l.take (n0 + n1) ++ (l.drop (n0 + n1)).take n2 = l.take (n0 + n1 + n2) := by rw [List.take_add (i := n0 + n1)]
  have e3 : l.take (n0 + n1 + n2) ++ (l.drop (n0 + n1 + n2)).take n3 = l.take (n0 + n1 + n2 + n3) := by rw [List.take_add (i := n0 + n1 + n2)]
  have e4 : l.take (n0 + n1 + n2 + n3) ++ (l.drop (n0 + n1 + n2 + n3)).take n4 = l.take (n0 + n1 + n2 + n3 + n4) := by rw [List.take_add (i := n0 + n1 + n2 + n3)]
  have e5 : l.take (n0 + n1 + n2 + n3 + n4) ++ (l.drop (n0 + n1 + n2 + n3 + n4)).take n5 = l.take (n0 + n1 + n2 + n3 + n4 + n5) := by rw [List.take_add (i := n0 + n1 + n2 + n3 + n4)]
  have e6 : l.take (n0 + n1 + n2 + n3 + n4 + n5) ++ (l.drop (n0 + n1 + n2 + n3 + n4 + n5)).take n6 = l.take (n0 + n1 + n2 + n3 + n4 + n5 + n6) := by rw [List.take_add (i := n0 + n1 + n2 + n3 + n4 + n5)]
  have e7 : l.take (n0 + n1 + n2 + n3 + n4 + n5 + n6) ++ (l.drop (n0 + n1 + n2 + n3 + n4 + n5 + n6)).take n7 = l.take (n0 + n1 + n2 + n3 + n4 + n5 + n6 + n7) := by rw [List.take_add (i := n0 + n1 + n2 + n3 + n4 + n5 + n6)]
  have e8 : l.take (n0 + n1 + n2 + n3 + n4 + n5 + n6 + n7) ++ (l.drop (n0 + n1 + n2 + n3 + n4 + n5 + n6 + n7)).take n8 = l.take (n0 + n1 + n2 + n3 + n4 + n5 + n6 + n7 + n8) := by rw [List.take_add (i := n0 + n1 + n2 + n3 + n4 + n5 + n6 + n7)]
  rw [e1, e2, e3, e4, e5, e6, e7, e8, List.take_of_length_le (by omega)]
end
end Go.Proofs.Ytfelfmchachljaa.Auto
end
section
namespace Go.Proofs.Ytfelfmchachljaa.Auto
open Go Go.RowKit Go.WideShapes
open Rely
set_option linter.unusedVariables false
section
variable {H : Type} {enc : TypeId × Value → H} {P : Program} {W w : World} {r : Reach} {base b0 : Nat} {sp : Nat → Bool} {held : Bool}
theorem Qfa {t : TypeId} {f0 f1 f2 f3 f4 f5 : Field} {fuel : Nat} {cs : List Value} {x : DataW H × List MemPlace} (ht : P.underlying t = some (.struct #[f0, f1, f2, f3, f4, f5])) (h : DataW.trod enc P w b0 sp held fuel t cs = some x) :
    ∃ y0 y1 y2 y3 y4 y5 n, cs.length = P.cellsOf t ∧ DataW.trod enc P w b0 sp held n f0.type ((cs.drop f0.offset).take (P.cellsOf f0.type)) = some y0 ∧ DataW.trod enc P w b0 sp held n f1.type ((cs.drop f1.offset).take (P.cellsOf f1.type)) = some y1 ∧ DataW.trod enc P w b0 sp held n f2.type ((cs.drop f2.offset).take (P.cellsOf f2.type)) = some y2 ∧ DataW.trod enc P w b0 sp held n f3.type ((cs.drop f3.offset).take (P.cellsOf f3.type)) = some y3 ∧ DataW.trod enc P w b0 sp held n f4.type ((cs.drop f4.offset).take (P.cellsOf f4.type)) = some y4 ∧ DataW.trod enc P w b0 sp held n f5.type ((cs.drop f5.offset).take (P.cellsOf f5.type)) = some y5 := by
  obtain ⟨xs, n, _, rfl, hl, hlen, hf⟩ := DataW.trod_struct ht h
  match xs, hlen with
  | [y0, y1, y2, y3, y4, y5], _ => exact ⟨y0, y1, y2, y3, y4, y5, n, hl, by simpa using hf 0 f0 rfl, by simpa using hf 1 f1 rfl, by simpa using hf 2 f2 rfl, by simpa using hf 3 f3 rfl, by simpa using hf 4 f4 rfl, by simpa using hf 5 f5 rfl⟩
theorem sub_st6 {t : TypeId} {f0 f1 f2 f3 f4 f5 : Field} {fuel : Nat} {cs : List Value} {x : DataW H × List MemPlace} {n0 n1 n2 n3 n4 n5 : Nat} (ht : P.underlying t = some (.struct #[f0, f1, f2, f3, f4, f5]))
    (ho : f0.offset = 0 ∧ f1.offset = n0 ∧ f2.offset = n0 + n1 ∧ f3.offset = n0 + n1 + n2 ∧ f4.offset = n0 + n1 + n2 + n3 ∧ f5.offset = n0 + n1 + n2 + n3 + n4) (hc : P.cellsOf f0.type = n0 ∧ P.cellsOf f1.type = n1 ∧ P.cellsOf f2.type = n2 ∧ P.cellsOf f3.type = n3 ∧ P.cellsOf f4.type = n4 ∧ P.cellsOf f5.type = n5) (hC : P.cellsOf t = n0 + n1 + n2 + n3 + n4 + n5) (h : DataW.trod enc P w b0 sp held fuel t cs = some x) :
    ∃ (X0 X1 X2 X3 X4 X5 : List Value) (y0 y1 y2 y3 y4 y5 : DataW H × List MemPlace) (n : Nat), cs = X0 ++ X1 ++ X2 ++ X3 ++ X4 ++ X5 ∧ DataW.trod enc P w b0 sp held n f0.type X0 = some y0 ∧ DataW.trod enc P w b0 sp held n f1.type X1 = some y1 ∧ DataW.trod enc P w b0 sp held n f2.type X2 = some y2 ∧ DataW.trod enc P w b0 sp held n f3.type X3 = some y3 ∧ DataW.trod enc P w b0 sp held n f4.type X4 = some y4 ∧ DataW.trod enc P w b0 sp held n f5.type X5 = some y5 := by
  obtain ⟨y0, y1, y2, y3, y4, y5, n, hl, h0, h1, h2, h3, h4, h5⟩ := Qfa ht h
  obtain ⟨o0, o1, o2, o3, o4, o5⟩ := ho
  obtain ⟨c0, c1, c2, c3, c4, c5⟩ := hc
  rw [o0, c0] at h0
  rw [o1, c1] at h1
  rw [o2, c2] at h2
  rw [o3, c3] at h3
  rw [o4, c4] at h4
  rw [o5, c5] at h5
  refine ⟨_, _, _, _, _, _, y0, y1, y2, y3, y4, y5, n, ?_, h0, h1, h2, h3, h4, h5⟩
  rw [hC] at hl
  simp only [List.drop_zero]
  have e1 : cs.take (n0) ++ (cs.drop (n0)).take n1 = cs.take (n0 + n1) := by rw [List.take_add (i := n0)]
  have e2 : cs.take (n0 + n1) ++ (cs.drop (n0 + n1)).take n2 = cs.take (n0 + n1 + n2) := by rw [List.take_add (i := n0 + n1)]
  have e3 : cs.take (n0 + n1 + n2) ++ (cs.drop (n0 + n1 + n2)).take n3 = cs.take (n0 + n1 + n2 + n3) := by rw [List.take_add (i := n0 + n1 + n2)]
  have e4 : cs.take (n0 + n1 + n2 + n3) ++ (cs.drop (n0 + n1 + n2 + n3)).take n4 = cs.take (n0 + n1 + n2 + n3 + n4) := by rw [List.take_add (i := n0 + n1 + n2 + n3)]
  have e5 : cs.take (n0 + n1 + n2 + n3 + n4) ++ (cs.drop (n0 + n1 + n2 + n3 + n4)).take n5 = cs.take (n0 + n1 + n2 + n3 + n4 + n5) := by rw [List.take_add (i := n0 + n1 + n2 + n3 + n4)]
  rw [e1, e2, e3, e4, e5, List.take_of_length_le (by omega)]
end
end Go.Proofs.Ytfelfmchachljaa.Auto
end
