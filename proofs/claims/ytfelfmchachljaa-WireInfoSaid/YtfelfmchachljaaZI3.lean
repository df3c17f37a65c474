/- Texts of this claim, joined (I3). -/
import Derived.Test.YtfelfmchachljaaZI2
import Derived.Lib.SmallJoins
import Derived.Lib.LaidTab
import Derived.Deep.Strs

section
namespace Go.Proofs.Ytfelfmchachljaa.Wr
open Go Go.RowKit
open Rely Auto Own Sha
set_option linter.unusedVariables false
set_option linter.unusedSimpArgs false
set_option maxHeartbeats 4000000 in
theorem Qfs (us : Bool) (nm : Int) (key sg pa ms : List Int) (a_m : Option Addr) (c_m : Nat) (w : World) (hkl : key.length = 32) (hgl : sg.length = 32) (hpl : pa.length = 32) (h : ms.length < 100) : Calls Try.prog 20 #[.agg (cat [#[.bool us], #[.int .i64 nm], ints .u8 (key), ints .u8 (sg), ints .u8 (pa), #[.slice a_m ms.length c_m]])] w (Ret w (.bool true)) := by
  refine enter 7 [(0, .agg (cat [#[.bool us], #[.int .i64 nm], ints .u8 (key), ints .u8 (sg), ints .u8 (pa), #[.slice a_m ms.length c_m]]))] Try.func20 rfl rfl kj rfl ?_
  refine wp_seq_k fun K1 hK1 => ?_
  refine Qac ?_
  refine Qaq (cat [#[.bool us], #[.int .i64 nm], ints .u8 (key), ints .u8 (sg), ints .u8 (pa), #[.slice a_m ms.length c_m]]) 43 1 rfl kj kj fun g2 W1 l2 e1 r2_1 => ?_
  have x1 : Ext w W1 := Ext.tr (Rely.Ext.refl w) e1
  have b2 : w.heap.size ≤ g2 := Nat.le_trans (Rely.Ext.refl w).size l2
  refine Qaa (.bool false) 2 rfl kj kj ?_
  refine Qaf ?_
  refine hK1 _ _ ?_
  refine wp_seq_k fun K3 hK3 => ?_
  refine Qac ?_
  refine Qaa (.pointer (some ⟨g2, 98, none⟩)) 3 rfl kj kj ?_
  refine Qaa (.slice a_m ms.length c_m) 4 rfl kj (Qag 41 _ g2 98 43 _ (.slice a_m ms.length c_m) _ r2_1 rfl kj (Qam [#[.bool us], #[.int .i64 nm], ints .u8 (key), ints .u8 (sg), ints .u8 (pa)] [#[.slice a_m ms.length c_m]] [] 98 (by rw [Qab, Qab, Qab, Qab, Qab]; simp only [Array.size_append, cat, ((Qad _ _).trans hgl), ((Qad _ _).trans hkl), ((Qad _ _).trans hpl)]; rfl) 0 _ rfl) kj) ?_
  refine Qaa (.int .i64 ((ms.length : Nat) : Int)) 5 rfl kj kj ?_
  refine Qaa (.bool true) 6 rfl kj (Qat (u := .bool (decide (((ms.length : Nat) : Int) < 100))) kj (congrArg Value.bool (decide_eq_true (by omega)))) ?_
  refine Qaa (.bool true) 2 rfl kj kj ?_
  refine Qaf ?_
  refine hK3 _ _ ?_
  refine wp_ret ?_
  repeat (first | with_reducible refine goR1 ?_ | with_reducible refine goR2 ?_)
  exact (show bodyPost _ _ _ .ret _ _ from ret1 (.bool true) rfl (Qar kj) ⟨rfl, x1⟩)
set_option maxHeartbeats 4000000 in
theorem Qft (us : Bool) (nm : Int) (key sg pa ms : List Int) (a_m : Option Addr) (c_m : Nat) (w : World) (hkl : key.length = 32) (hgl : sg.length = 32) (hpl : pa.length = 32) (h : 100 ≤ ms.length) : Calls Try.prog 20 #[.agg (cat [#[.bool us], #[.int .i64 nm], ints .u8 (key), ints .u8 (sg), ints .u8 (pa), #[.slice a_m ms.length c_m]])] w (Ret w (.bool false)) := by
  refine enter 7 [(0, .agg (cat [#[.bool us], #[.int .i64 nm], ints .u8 (key), ints .u8 (sg), ints .u8 (pa), #[.slice a_m ms.length c_m]]))] Try.func20 rfl rfl kj rfl ?_
  refine wp_seq_k fun K1 hK1 => ?_
  refine Qac ?_
  refine Qaq (cat [#[.bool us], #[.int .i64 nm], ints .u8 (key), ints .u8 (sg), ints .u8 (pa), #[.slice a_m ms.length c_m]]) 43 1 rfl kj kj fun g2 W1 l2 e1 r2_1 => ?_
  have x1 : Ext w W1 := Ext.tr (Rely.Ext.refl w) e1
  have b2 : w.heap.size ≤ g2 := Nat.le_trans (Rely.Ext.refl w).size l2
  refine Qaa (.bool false) 2 rfl kj kj ?_
  refine Qaf ?_
  refine hK1 _ _ ?_
  refine wp_seq_k fun K3 hK3 => ?_
  refine Qac ?_
  refine Qaa (.pointer (some ⟨g2, 98, none⟩)) 3 rfl kj kj ?_
  refine Qaa (.slice a_m ms.length c_m) 4 rfl kj (Qag 41 _ g2 98 43 _ (.slice a_m ms.length c_m) _ r2_1 rfl kj (Qam [#[.bool us], #[.int .i64 nm], ints .u8 (key), ints .u8 (sg), ints .u8 (pa)] [#[.slice a_m ms.length c_m]] [] 98 (by rw [Qab, Qab, Qab, Qab, Qab]; simp only [Array.size_append, cat, ((Qad _ _).trans hgl), ((Qad _ _).trans hkl), ((Qad _ _).trans hpl)]; rfl) 0 _ rfl) kj) ?_
  refine Qaa (.int .i64 ((ms.length : Nat) : Int)) 5 rfl kj kj ?_
  refine Qaa (.bool false) 6 rfl kj (Qat (u := .bool (decide (((ms.length : Nat) : Int) < 100))) kj (congrArg Value.bool (decide_eq_false (by omega)))) ?_
  refine Qaa (.bool false) 2 rfl kj kj ?_
  refine Qaf ?_
  refine hK3 _ _ ?_
  refine wp_ret ?_
  repeat (first | with_reducible refine goR1 ?_ | with_reducible refine goR2 ?_)
  exact (show bodyPost _ _ _ .ret _ _ from ret1 (.bool false) rfl (Qar kj) ⟨rfl, x1⟩)
set_option maxHeartbeats 4000000 in
theorem chkT (ts : List NdV) (a_t : Option Addr) (c_t : Nat) (w : World) (htr : TrAt w.heap.size w a_t ts) : Calls Try.prog 13 #[.slice a_t ts.length c_t] w (fun e W => ∃ v, e = .returned v ∧ Ext w W ∧ ∃ b, v = .bool b ∧ (b = true → ts.length ≤ 101 ∧ ∀ i, i < ts.length → (ndi ts i).n.ms.length < 100)) := by
 refine enter 20 [(0, .slice a_t ts.length c_t)] Try.func13 rfl rfl kj rfl ?_
 refine wp_seq_k fun K1 hK1 => ?_
 refine Qac ?_
 refine Qaa (.bool false) 2 rfl kj kj ?_
 refine Qaf ?_
 refine hK1 _ _ ?_
 refine wp_seq_k fun K2 hK2 => ?_
 refine wp_seq_k fun K3 hK3 => ?_
 refine Qac ?_
 refine Qaa (.slice a_t ts.length c_t) 5 rfl kj kj ?_
 refine Qaa (.int .i64 ((ts.length : Nat) : Int)) 6 rfl kj kj ?_
 refine Qaa (.int .i64 0) 7 rfl kj kj ?_
 refine Qaf ?_
 refine hK3 _ _ ?_
 refine wp_block ?_
 refine QaB (fun (s1 : Nat) => [(0, .slice a_t ts.length c_t), (5, .slice a_t ts.length c_t), (6, .int .i64 ((ts.length : Nat) : Int)), (7, .int .i64 ((s1 : Nat) : Int))]) (fun (s1 : Nat) W => (s1 ≤ ts.length ∧ s1 ≤ 101) ∧ (∀ j, j < s1 → (ndi ts j).n.ms.length < 100) ∧ (Ext w W) ∧ (Ext w W)) (fun (s1 : Nat) => ts.length - s1) 0 ⟨rfl, rfl, rfl, rfl, trivial⟩ ⟨⟨Nat.zero_le _, Nat.zero_le _⟩, (fun j hj => absurd hj (Nat.not_lt_zero _)), (Rely.Ext.refl w), (Rely.Ext.refl w)⟩ fun s1 X1 V1 hI1 => ?_
 obtain ⟨i, hs1⟩ : ∃ z, z = s1 := ⟨_, rfl⟩
 subst hs1
 obtain ⟨hi, hr, kk1, xx1⟩ := hI1
 replace hi : i ≤ ts.length ∧ i ≤ 101 := hi
 replace hr : ∀ j, j < i → (ndi ts j).n.ms.length < 100 := hr
 replace kk1 : Ext w V1 := kk1
 replace xx1 : Ext w V1 := xx1
 have e1 := kk1
 refine wp_seq_k fun K4 hK4 => ?_
 refine Qac ?_
 refine Qaa (.bool (decide (((i : Nat) : Int) < ((ts.length : Nat) : Int)))) 8 rfl kj kj ?_
 refine Qaf ?_
 refine hK4 _ _ ?_
 refine wp_seq_k fun K5 hK5 => ?_
 refine Qa2 (t := decide (((i : Nat) : Int) < ((ts.length : Nat) : Int))) kj (fun c6 => ?_) (fun c6 => ?_)
 ·skip
  have hlt8 : i < ts.length := by have := of_decide_eq_true c6; omega
  refine wp_skip ?_
  refine hK5 _ _ ?_
  refine wp_seq_k fun K7 hK7 => ?_
  refine wp_block ?_
  refine wp_seq_k fun K8 hK8 => ?_
  refine Qac ?_
  refine Qaa (.int .i64 ((i : Nat) : Int)) 9 rfl kj kj ?_
  obtain ⟨gT, oT, hat, hnds⟩ := (TrAt.ext htr xx1)
  have hnd := hnds i (by omega)
  obtain ⟨_, _, -, hnds0⟩ := id htr
  have hrd0 := (hnds0 i (by omega)).rd
  obtain ⟨nd, hndi⟩ : ∃ z, z = ndi ts i := ⟨_, rfl⟩
  rw [← hndi] at hnd hrd0
  have hok := hnd.ok
  refine Qaa (.pointer (some ⟨gT, oT + i * 99, none⟩)) 10 rfl kj (QaF 23 _ _ .i64 i gT oT ts.length c_t 43 99 a_t (hat (by omega)) rfl kj kj kj kj (by omega)) ?_
  refine Qaa (.agg (cat [#[.bool nd.n.us], #[.int .i64 nd.n.nm], ints .u8 (nd.n.key), ints .u8 (nd.n.sg), ints .u8 (nd.n.pa), #[.slice nd.a nd.n.ms.length nd.c]])) 11 rfl kj (QaC 43 _ gT (oT + i * 99) nd hnd rfl kj kj kj) ?_
  refine Qaq (cat [#[.bool false], #[.int .i64 0], ints .u8 (List.replicate 32 0), ints .u8 (List.replicate 32 0), ints .u8 (List.replicate 32 0), #[.slice none 0 0]]) 43 4 rfl kj (Qbo 43 _ rfl (Qf2 _)) fun g9 W2 l9 e2 r9_2 => ?_
  have x2 : Ext w W2 := Ext.tr xx1 e2
  have b9 : w.heap.size ≤ g9 := Nat.le_trans xx1.size l9
  refine Qaa (.int .i64 ((i : Nat) : Int)) 3 rfl kj kj ?_
  refine Qa3 g9 _ (cat [#[.bool nd.n.us], #[.int .i64 nd.n.nm], ints .u8 (nd.n.key), ints .u8 (nd.n.sg), ints .u8 (nd.n.pa), #[.slice nd.a nd.n.ms.length nd.c]]) 43 r9_2 rfl kj (Qav 43 _ _ g9 43 _ _ r9_2 rfl kj kj (isz (n := 99) kj (by rw [Qab, Qab, Qab, Qab, Qab, Qab]; simp only [Array.size_append, cat, ((Qad _ _).trans hok.gl), ((Qad _ _).trans hok.kl), ((Qad _ _).trans hok.pl)]; rfl)) (eqsz (n := 99) (by rw [Qab, Qab, Qab, Qab, Qab, Qab]; simp only [Array.size_append, cat, ((Qad _ _).trans (List.length_replicate (n := 32)))]; rfl) (by rw [Qab, Qab, Qab, Qab, Qab, Qab]; simp only [Array.size_append, cat, ((Qad _ _).trans hok.gl), ((Qad _ _).trans hok.kl), ((Qad _ _).trans hok.pl)]; rfl)) (QaQ _ (by intro a ha; simp only [List.mem_cons, List.not_mem_nil, or_false] at ha; rcases ha with rfl | rfl | rfl | rfl | rfl | rfl; exact (Qau _ rfl); exact (Qau _ rfl); exact (Qax _ _); exact (Qax _ _); exact (Qax _ _); exact (Qau _ rfl)))) fun W3 p3 r9_3 => ?_
  have x3 : Ext w W3 := Puts.ext p3 x2 b9
  refine Qaf ?_
  refine hK8 _ _ ?_
  refine wp_seq_k fun K10 hK10 => ?_
  rcases (show 100 < i ∨ (i ≤ 100 ∧ nd.n.ms.length < 100) ∨ (i ≤ 100 ∧ 100 ≤ nd.n.ms.length) by omega) with hc1 | ⟨hc1, hc2⟩ | ⟨hc1, hc2⟩
  ·skip
   refine Qac ?_
   refine Qaa (.int .i64 ((i : Nat) : Int)) 12 rfl kj kj ?_
   refine Qaa (.bool true) 13 rfl kj (Qat (u := .bool (decide (((i : Nat) : Int) > 100))) kj (congrArg Value.bool (decide_eq_true (by omega)))) ?_
   refine Qaa (.bool true) 14 rfl kj kj ?_
   refine Qah 15 rfl kj ?_
   refine Qah 16 rfl kj ?_
   refine Qah 17 rfl kj ?_
   refine Qaa (.bool true) 18 rfl kj kj ?_
   refine Qaf ?_
   refine hK10 _ _ ?_
   refine cond_true kj ?_
   refine wp_seq_k fun K11 hK11 => ?_
   refine Qac ?_
   refine Qaa (.bool false) 2 rfl kj kj ?_
   refine Qaf ?_
   refine hK11 _ _ ?_
   refine wp_ret ?_
   repeat (first | with_reducible refine goR1 ?_ | with_reducible refine goR2 ?_)
   exact (show bodyPost _ _ _ .ret _ _ from ret1 (.bool false) rfl (Qar kj) ⟨_, rfl, x3, _, rfl, fun h => by cases h⟩)
  ·skip
   refine Qac ?_
   refine Qaa (.int .i64 ((i : Nat) : Int)) 12 rfl kj kj ?_
   refine Qaa (.bool false) 13 rfl kj (Qat (u := .bool (decide (((i : Nat) : Int) > 100))) kj (congrArg Value.bool (decide_eq_false (by omega)))) ?_
   refine Qaa (.bool false) 14 rfl kj kj ?_
   refine Qaa (.agg (cat [#[.bool nd.n.us], #[.int .i64 nd.n.nm], ints .u8 (nd.n.key), ints .u8 (nd.n.sg), ints .u8 (nd.n.pa), #[.slice nd.a nd.n.ms.length nd.c]])) 15 rfl kj (Qaz 43 _ g9 43 _ _ r9_3 rfl kj kj (isz (n := 99) kj (by rw [Qab, Qab, Qab, Qab, Qab, Qab]; simp only [Array.size_append, cat, ((Qad _ _).trans hok.gl), ((Qad _ _).trans hok.kl), ((Qad _ _).trans hok.pl)]; rfl))) ?_
   refine Qay (.bool true) 20 #[.agg (cat [#[.bool nd.n.us], #[.int .i64 nd.n.nm], ints .u8 (nd.n.key), ints .u8 (nd.n.sg), ints .u8 (nd.n.pa), #[.slice nd.a nd.n.ms.length nd.c]])] 16 rfl kj kj (Qfs nd.n.us nd.n.nm nd.n.key nd.n.sg nd.n.pa nd.n.ms _ _ _ hok.kl hok.gl hok.pl hc2) fun W4 e4 => ?_
   have x4 : Ext w W4 := Ext.tr x3 e4
   refine Qaa (.bool false) 17 rfl kj kj ?_
   refine Qaa (.bool false) 18 rfl kj kj ?_
   refine Qaf ?_
   refine hK10 _ _ ?_
   refine cond_false kj ?_
   refine wp_skip ?_
   refine hK7 _ _ ?_
   refine Qac ?_
   refine Qaa (.int .i64 ((i + 1 : Nat) : Int)) 19 rfl kj (Qat (u := .int .i64 (IntKind.i64.wrap (((i : Nat) : Int) + 1))) kj (congrArg (Value.int .i64) (i64n _ _ (by omega) (by omega)))) ?_
   refine Qaa (.int .i64 ((i + 1 : Nat) : Int)) 7 rfl kj kj ?_
   refine Qaf ?_
   have y0_2 : Ext w W2 := (Rely.Ext.trans e1 e2)
   have y0_3 : Ext w W3 := (Puts.ext p3 y0_2 (Nat.le_trans e1.size l9))
   have y0_4 : Ext w W4 := (Rely.Ext.trans y0_3 e4)
   repeat (first | with_reducible refine goX1 ?_ | with_reducible refine goX2 ?_ | with_reducible refine goX3 ?_)
   exact Qa8 (i + 1) ⟨rfl, rfl, rfl, rfl, trivial⟩ ⟨(by omega), (fun j hj => (Nat.lt_or_ge j i).elim (hr j) fun h => by have e : j = i := (by omega); rw [e, ← hndi]; exact hc2), y0_4, x4⟩ (by omega)
  ·skip
   refine Qac ?_
   refine Qaa (.int .i64 ((i : Nat) : Int)) 12 rfl kj kj ?_
   refine Qaa (.bool false) 13 rfl kj (Qat (u := .bool (decide (((i : Nat) : Int) > 100))) kj (congrArg Value.bool (decide_eq_false (by omega)))) ?_
   refine Qaa (.bool false) 14 rfl kj kj ?_
   refine Qaa (.agg (cat [#[.bool nd.n.us], #[.int .i64 nd.n.nm], ints .u8 (nd.n.key), ints .u8 (nd.n.sg), ints .u8 (nd.n.pa), #[.slice nd.a nd.n.ms.length nd.c]])) 15 rfl kj (Qaz 43 _ g9 43 _ _ r9_3 rfl kj kj (isz (n := 99) kj (by rw [Qab, Qab, Qab, Qab, Qab, Qab]; simp only [Array.size_append, cat, ((Qad _ _).trans hok.gl), ((Qad _ _).trans hok.kl), ((Qad _ _).trans hok.pl)]; rfl))) ?_
   refine Qay (.bool false) 20 #[.agg (cat [#[.bool nd.n.us], #[.int .i64 nd.n.nm], ints .u8 (nd.n.key), ints .u8 (nd.n.sg), ints .u8 (nd.n.pa), #[.slice nd.a nd.n.ms.length nd.c]])] 16 rfl kj kj (Qft nd.n.us nd.n.nm nd.n.key nd.n.sg nd.n.pa nd.n.ms _ _ _ hok.kl hok.gl hok.pl hc2) fun W4 e4 => ?_
   have x4 : Ext w W4 := Ext.tr x3 e4
   refine Qaa (.bool true) 17 rfl kj kj ?_
   refine Qaa (.bool true) 18 rfl kj kj ?_
   refine Qaf ?_
   refine hK10 _ _ ?_
   refine cond_true kj ?_
   refine wp_seq_k fun K12 hK12 => ?_
   refine Qac ?_
   refine Qaa (.bool false) 2 rfl kj kj ?_
   refine Qaf ?_
   refine hK12 _ _ ?_
   refine wp_ret ?_
   repeat (first | with_reducible refine goR1 ?_ | with_reducible refine goR2 ?_)
   exact (show bodyPost _ _ _ .ret _ _ from ret1 (.bool false) rfl (Qar kj) ⟨_, rfl, x4, _, rfl, fun h => by cases h⟩)
 ·skip
  have heq8 : i = ts.length := by have := of_decide_eq_false c6; omega
  refine wp_exit ?_
  refine hK2 _ _ ?_
  refine wp_seq_k fun K13 hK13 => ?_
  refine Qac ?_
  refine Qaa (.bool true) 2 rfl kj kj ?_
  refine Qaf ?_
  refine hK13 _ _ ?_
  refine wp_ret ?_
  repeat (first | with_reducible refine goR1 ?_ | with_reducible refine goR2 ?_)
  exact (show bodyPost _ _ _ .ret _ _ from ret1 (.bool true) rfl (Qar kj) ⟨_, rfl, xx1, _, rfl, fun _ => ⟨by omega, fun j hj => hr j (by omega)⟩⟩)
end Go.Proofs.Ytfelfmchachljaa.Wr
end
section
namespace Go.Proofs.Ytfelfmchachljaa.Wr
open Go Go.RowKit
open Rely Auto Own Sha
set_option linter.unusedVariables false
set_option linter.unusedSimpArgs false
theorem Qe9 (grp : List Int) (ep : Int) (ts : List NdV) (con tag : List Int) (fr : Int) (sig : List Int) (us : List NdV) (hl : us.length = ts.length) (S : Nat → Option (List Int)) (h : ∀ j, j < ts.length → NdIs (S j) (ndi ts j).n) (k : ∀ j, j < us.length → NdIs (S j) (ndi us j).n) : refI grp ep us con tag fr sig = refI grp ep ts con tag fr sig := by
  have e := Qe8 ts us hl S h k
  unfold refT at e
  unfold refI QbG QbS
  cases h1 : Qbe us with
  | false =>
    cases h2 : Qbe ts with
    | false => rw [Bool.and_false, if_neg (by decide), if_neg (by decide)]
    | true => rw [h1, h2, if_neg (by decide), if_pos rfl] at e; cases e
  | true =>
    cases h2 : Qbe ts with
    | false => rw [h1, h2, if_pos rfl, if_neg (show ¬ (false = true) by decide)] at e; cases e
    | true =>
      rw [h1, h2, if_pos rfl, if_pos rfl] at e
      rw [Option.some.inj e]
set_option maxHeartbeats 4000000 in
set_option maxRecDepth 100000 in
theorem Qg8 (grp : List Int) (ep : Int) (ts : List NdV) (con tag : List Int) (fr : Int) (sig : List Int) (a_t : Option Addr) (c_t : Nat) (w : World) (hrl : grp.length = 32) (hrb : Qal grp) (hcl : con.length = 32) (hcb : Qal con) (hgl : tag.length = 32) (hgb : Qal tag) (hil : sig.length = 64) (hib : Qal sig) (hok : ∀ n ∈ ts, NdOk n.n) (htr : TrAt w.heap.size w a_t ts) (hS : refI grp ep ts con tag fr sig = none) : Calls Try.prog 6 #[.agg (cat [ints .u8 (grp), #[.int .i64 ep], #[.slice a_t ts.length c_t], ints .u8 (con), ints .u8 (tag), #[.int .i64 fr], ints .u8 (sig)])] w (Ret w (.bool true)) := by
 refine enter 71 [(0, .agg (cat [ints .u8 (grp), #[.int .i64 ep], #[.slice a_t ts.length c_t], ints .u8 (con), ints .u8 (tag), #[.int .i64 fr], ints .u8 (sig)]))] Try.func6 rfl rfl kj rfl ?_
 refine wp_seq_k fun K1 hK1 => ?_
 refine Qac ?_
 refine Qaq (cat [ints .u8 (grp), #[.int .i64 ep], #[.slice a_t ts.length c_t], ints .u8 (con), ints .u8 (tag), #[.int .i64 fr], ints .u8 (sig)]) 67 1 rfl kj kj fun g2 W1 l2 e1 r2_1 => ?_
 have x1 : Ext w W1 := Ext.tr (Rely.Ext.refl w) e1
 have b2 : w.heap.size ≤ g2 := Nat.le_trans (Rely.Ext.refl w).size l2
 refine Qaa (.bool false) 2 rfl kj kj ?_
 refine Qaf ?_
 refine hK1 _ _ ?_
 refine wp_seq_k fun K3 hK3 => ?_
 refine wp_seq_k fun K4 hK4 => ?_
 refine Qac ?_
 refine Qay (.bool true) 12 #[] 12 rfl kj kj ((Qf8) _) fun W2 e2 => ?_
 have x2 : Ext w W2 := Ext.tr x1 e2
 refine Qaa (.bool false) 13 rfl kj kj ?_
 refine Qaf ?_
 refine hK4 _ _ ?_
 refine cond_false kj ?_
 refine wp_skip ?_
 refine hK3 _ _ ?_
 refine wp_seq_k fun K5 hK5 => ?_
 refine wp_seq_k fun K6 hK6 => ?_
 refine Qac ?_
 refine Qaa (.pointer (some ⟨g2, 33, none⟩)) 14 rfl kj kj ?_
 have r2_2 := (Qas r2_1 e2)
 refine Qaa (.slice a_t ts.length c_t) 15 rfl kj (Qag 23 _ g2 33 67 _ (.slice a_t ts.length c_t) _ r2_2 rfl kj (Qam [ints .u8 (grp), #[.int .i64 ep]] [#[.slice a_t ts.length c_t]] [ints .u8 (con), ints .u8 (tag), #[.int .i64 fr], ints .u8 (sig)] 33 (by rw [Qab, Qab]; simp only [Array.size_append, cat, ((Qad _ _).trans hrl)]; rfl) 0 _ rfl) kj) ?_
 refine Qaj (fun v W' => (fun (v : Value) (_ : World) => ∃ b, v = .bool b ∧ (b = true → ts.length ≤ 101 ∧ ∀ i, i < ts.length → (ndi ts i).n.ms.length < 100)) v W' ∧ Ext W2 W') 13 #[.slice a_t ts.length c_t] 16 rfl kj kj ((chkT ts _ _ _ (TrAt.here (TrAt.ext htr x2))).mono (by rintro e w' ⟨v, rfl, e1, hv⟩; exact ⟨v, rfl, hv, e1⟩)) fun vv7 W3 hh7 => ?_
 obtain ⟨hv7, e3⟩ := hh7
 have x3 : Ext w W3 := Ext.tr x2 e3
 obtain ⟨bk, rfl, hbk⟩ := hv7
 refine Qaa (.bool (!bk)) 17 rfl kj kj ?_
 refine Qaf ?_
 refine hK6 _ _ ?_
 refine Qa2 (t := !bk) kj (fun c8 => ?_) (fun c8 => ?_)
 ·skip
  refine wp_seq_k fun K9 hK9 => ?_
  refine Qac ?_
  refine Qaa (.bool true) 2 rfl kj kj ?_
  refine Qaf ?_
  refine hK9 _ _ ?_
  refine wp_ret ?_
  repeat (first | with_reducible refine goR1 ?_ | with_reducible refine goR2 ?_)
  exact (show bodyPost _ _ _ .ret _ _ from ret1 (.bool true) rfl (Qar kj) ⟨rfl, x3⟩)
 ·skip
  obtain ⟨hb1, hb2⟩ := hbk (by have h9 := c8; cases bk with | true => rfl | false => cases h9)
  refine wp_skip ?_
  refine hK5 _ _ ?_
  refine wp_seq_k fun K10 hK10 => ?_
  refine Qac ?_
  have r2_3 := (Qas r2_2 e3)
  refine Qaa (.agg (cat [ints .u8 (grp), #[.int .i64 ep], #[.slice a_t ts.length c_t], ints .u8 (con), ints .u8 (tag), #[.int .i64 fr], ints .u8 (sig)])) 19 rfl kj (Qaz 67 _ g2 67 _ _ r2_3 rfl kj kj (isz (n := 163) kj (by rw [Qab, Qab, Qab, Qab, Qab, Qab, Qab]; simp only [Array.size_append, cat, ((Qad _ _).trans hcl), ((Qad _ _).trans hgl), ((Qad _ _).trans hil), ((Qad _ _).trans hrl)]; rfl))) ?_
  refine Qaj (fun v W' => (PutR W3.heap.size none) v W' ∧ Ext W3 W') 28 #[.agg (cat [ints .u8 (grp), #[.int .i64 ep], #[.slice a_t ts.length c_t], ints .u8 (con), ints .u8 (tag), #[.int .i64 fr], ints .u8 (sig)])] 20 rfl kj kj ((QeV grp ep ts con tag fr sig _ _ _ hrl hrb hcl hcb hgl hgb hil hib (by omega) (fun i hi => by have := hb2 i hi; omega) (TrAt.here (TrAt.ext htr x3)) ((QdR grp ep ts con tag fr sig hrl hcl hgl hil hok).trans hS)).mono (by rintro e w' ⟨v, rfl, e1, hv⟩; exact ⟨v, rfl, hv, e1⟩)) fun vv11 W4 hh11 => ?_
  obtain ⟨hv11, e4⟩ := hh11
  have x4 : Ext w W4 := Ext.tr x3 e4
  have hv4 : vv11 = .tuple #[.slice none 0 0, .iface 102 (.int .i64 3)] := hv11
  subst hv4
  refine Qaa (.tuple #[.slice none 0 0, .iface 102 (.int .i64 3)]) 18 rfl kj kj ?_
  refine Qaa (.slice none 0 0) 21 rfl kj kj ?_
  refine Qaa (.iface 102 (.int .i64 3)) 22 rfl kj kj ?_
  refine Qaa (.slice none 0 0) 3 rfl kj kj ?_
  refine Qaa (.iface 102 (.int .i64 3)) 4 rfl kj kj ?_
  refine Qaf ?_
  refine hK10 _ _ ?_
  refine wp_seq_k fun K12 hK12 => ?_
  refine Qac ?_
  have r2_4 := (Qas r2_3 e4)
  refine Qaa (.agg (cat [ints .u8 (grp), #[.int .i64 ep], #[.slice a_t ts.length c_t], ints .u8 (con), ints .u8 (tag), #[.int .i64 fr], ints .u8 (sig)])) 24 rfl kj (Qaz 67 _ g2 67 _ _ r2_4 rfl kj kj (isz (n := 163) kj (by rw [Qab, Qab, Qab, Qab, Qab, Qab, Qab]; simp only [Array.size_append, cat, ((Qad _ _).trans hcl), ((Qad _ _).trans hgl), ((Qad _ _).trans hil), ((Qad _ _).trans hrl)]; rfl))) ?_
  refine Qaj (fun v W' => (Qdw W4.heap.size (refI grp ep ts con tag fr sig)) v W' ∧ Ext W4 W') 29 #[.agg (cat [ints .u8 (grp), #[.int .i64 ep], #[.slice a_t ts.length c_t], ints .u8 (con), ints .u8 (tag), #[.int .i64 fr], ints .u8 (sig)])] 25 rfl kj kj ((QbZ grp ep ts con tag fr sig _ _ _ hrl hrb hcl hcb hgl hgb hil hib (by omega) (fun i hi => by have := hb2 i hi; omega) hok (TrAt.here (TrAt.ext htr x4))).mono (by rintro e w' ⟨v, rfl, e1, hv⟩; exact ⟨v, rfl, hv, e1⟩)) fun vv13 W5 hh13 => ?_
  obtain ⟨hv13, e5⟩ := hh13
  have x5 : Ext w W5 := Ext.tr x4 e5
  rw [hS] at hv13
  have hv5 : vv13 = .tuple #[.slice none 0 0, .bool false] := hv13
  subst hv5
  refine Qaa (.tuple #[.slice none 0 0, .bool false]) 23 rfl kj kj ?_
  refine Qaa (.slice none 0 0) 26 rfl kj kj ?_
  refine Qaa (.bool false) 27 rfl kj kj ?_
  refine Qaa (.slice none 0 0) 5 rfl kj kj ?_
  refine Qaa (.bool false) 6 rfl kj kj ?_
  refine Qaf ?_
  refine hK12 _ _ ?_
  refine wp_seq_k fun K15 hK15 => ?_
  refine wp_seq_k fun K16 hK16 => ?_
  refine Qac ?_
  refine Qaa (.slice none 0 0) 28 rfl kj kj ?_
  refine Qaa (.iface 102 (.int .i64 3)) 29 rfl kj kj ?_
  refine Qaa (.slice none 0 0) 30 rfl kj kj ?_
  refine Qaa (.bool false) 31 rfl kj kj ?_
  refine Qay (.bool true) 16 #[.slice none 0 0, .iface 102 (.int .i64 3), .slice none 0 0, .bool false] 32 rfl kj kj ((Qf0 _) _) fun W6 e6 => ?_
  have x6 : Ext w W6 := Ext.tr x5 e6
  refine Qaa (.bool false) 33 rfl kj kj ?_
  refine Qaf ?_
  refine hK16 _ _ ?_
  refine cond_false kj ?_
  refine wp_skip ?_
  refine hK15 _ _ ?_
  refine wp_seq_k fun K17 hK17 => ?_
  refine wp_seq_k fun K18 hK18 => ?_
  refine Qac ?_
  refine Qaa (.bool false) 34 rfl kj kj ?_
  refine Qaa (.bool true) 35 rfl kj kj ?_
  refine Qaf ?_
  refine hK18 _ _ ?_
  refine cond_true kj ?_
  refine wp_seq_k fun K19 hK19 => ?_
  refine Qac ?_
  refine Qaa (.bool true) 2 rfl kj kj ?_
  refine Qaf ?_
  refine hK19 _ _ ?_
  refine wp_ret ?_
  repeat (first | with_reducible refine goR1 ?_ | with_reducible refine goR2 ?_)
  exact (show bodyPost _ _ _ .ret _ _ from ret1 (.bool true) rfl (Qar kj) ⟨rfl, x6⟩)
set_option maxHeartbeats 4000000 in
set_option maxRecDepth 100000 in
theorem Qg7 (grp : List Int) (ep : Int) (ts : List NdV) (con tag : List Int) (fr : Int) (sig : List Int) (a_t : Option Addr) (c_t : Nat) (w : World) (hrl : grp.length = 32) (hrb : Qal grp) (hcl : con.length = 32) (hcb : Qal con) (hgl : tag.length = 32) (hgb : Qal tag) (hil : sig.length = 64) (hib : Qal sig) (hok : ∀ n ∈ ts, NdOk n.n) (htr : TrAt w.heap.size w a_t ts) (bs : List Int) (hS : refI grp ep ts con tag fr sig = some bs) : Calls Try.prog 6 #[.agg (cat [ints .u8 (grp), #[.int .i64 ep], #[.slice a_t ts.length c_t], ints .u8 (con), ints .u8 (tag), #[.int .i64 fr], ints .u8 (sig)])] w (Ret w (.bool true)) := by
 obtain ⟨hR0, f1, f2, f3, f4, f5, f6, hN, hnd, hbl, hpos⟩ := QeM grp ep ts con tag fr sig bs hrl hcl hgl hil hok hS
 have hbb : Qal bs := by
  have h9 := hS
  unfold refI at h9
  split at h9
  ·obtain rfl := Option.some.inj h9
   exact Qeo grp ep ts con tag fr sig hrb hcb hgb hib hok
  ·cases h9
 refine enter 71 [(0, .agg (cat [ints .u8 (grp), #[.int .i64 ep], #[.slice a_t ts.length c_t], ints .u8 (con), ints .u8 (tag), #[.int .i64 fr], ints .u8 (sig)]))] Try.func6 rfl rfl kj rfl ?_
 refine wp_seq_k fun K1 hK1 => ?_
 refine Qac ?_
 refine Qaq (cat [ints .u8 (grp), #[.int .i64 ep], #[.slice a_t ts.length c_t], ints .u8 (con), ints .u8 (tag), #[.int .i64 fr], ints .u8 (sig)]) 67 1 rfl kj kj fun g2 W1 l2 e1 r2_1 => ?_
 have x1 : Ext w W1 := Ext.tr (Rely.Ext.refl w) e1
 have b2 : w.heap.size ≤ g2 := Nat.le_trans (Rely.Ext.refl w).size l2
 refine Qaa (.bool false) 2 rfl kj kj ?_
 refine Qaf ?_
 refine hK1 _ _ ?_
 refine wp_seq_k fun K3 hK3 => ?_
 refine wp_seq_k fun K4 hK4 => ?_
 refine Qac ?_
 refine Qay (.bool true) 12 #[] 12 rfl kj kj ((Qf8) _) fun W2 e2 => ?_
 have x2 : Ext w W2 := Ext.tr x1 e2
 refine Qaa (.bool false) 13 rfl kj kj ?_
 refine Qaf ?_
 refine hK4 _ _ ?_
 refine cond_false kj ?_
 refine wp_skip ?_
 refine hK3 _ _ ?_
 refine wp_seq_k fun K5 hK5 => ?_
 refine wp_seq_k fun K6 hK6 => ?_
 refine Qac ?_
 refine Qaa (.pointer (some ⟨g2, 33, none⟩)) 14 rfl kj kj ?_
 have r2_2 := (Qas r2_1 e2)
 refine Qaa (.slice a_t ts.length c_t) 15 rfl kj (Qag 23 _ g2 33 67 _ (.slice a_t ts.length c_t) _ r2_2 rfl kj (Qam [ints .u8 (grp), #[.int .i64 ep]] [#[.slice a_t ts.length c_t]] [ints .u8 (con), ints .u8 (tag), #[.int .i64 fr], ints .u8 (sig)] 33 (by rw [Qab, Qab]; simp only [Array.size_append, cat, ((Qad _ _).trans hrl)]; rfl) 0 _ rfl) kj) ?_
 refine Qaj (fun v W' => (fun (v : Value) (_ : World) => ∃ b, v = .bool b ∧ (b = true → ts.length ≤ 101 ∧ ∀ i, i < ts.length → (ndi ts i).n.ms.length < 100)) v W' ∧ Ext W2 W') 13 #[.slice a_t ts.length c_t] 16 rfl kj kj ((chkT ts _ _ _ (TrAt.here (TrAt.ext htr x2))).mono (by rintro e w' ⟨v, rfl, e1, hv⟩; exact ⟨v, rfl, hv, e1⟩)) fun vv7 W3 hh7 => ?_
 obtain ⟨hv7, e3⟩ := hh7
 have x3 : Ext w W3 := Ext.tr x2 e3
 obtain ⟨bk, rfl, hbk⟩ := hv7
 refine Qaa (.bool (!bk)) 17 rfl kj kj ?_
 refine Qaf ?_
 refine hK6 _ _ ?_
 refine Qa2 (t := !bk) kj (fun c8 => ?_) (fun c8 => ?_)
 ·skip
  refine wp_seq_k fun K9 hK9 => ?_
  refine Qac ?_
  refine Qaa (.bool true) 2 rfl kj kj ?_
  refine Qaf ?_
  refine hK9 _ _ ?_
  refine wp_ret ?_
  repeat (first | with_reducible refine goR1 ?_ | with_reducible refine goR2 ?_)
  exact (show bodyPost _ _ _ .ret _ _ from ret1 (.bool true) rfl (Qar kj) ⟨rfl, x3⟩)
 ·skip
  obtain ⟨hb1, hb2⟩ := hbk (by have h9 := c8; cases bk with | true => rfl | false => cases h9)
  refine wp_skip ?_
  refine hK5 _ _ ?_
  refine wp_seq_k fun K10 hK10 => ?_
  refine Qac ?_
  have r2_3 := (Qas r2_2 e3)
  refine Qaa (.agg (cat [ints .u8 (grp), #[.int .i64 ep], #[.slice a_t ts.length c_t], ints .u8 (con), ints .u8 (tag), #[.int .i64 fr], ints .u8 (sig)])) 19 rfl kj (Qaz 67 _ g2 67 _ _ r2_3 rfl kj kj (isz (n := 163) kj (by rw [Qab, Qab, Qab, Qab, Qab, Qab, Qab]; simp only [Array.size_append, cat, ((Qad _ _).trans hcl), ((Qad _ _).trans hgl), ((Qad _ _).trans hil), ((Qad _ _).trans hrl)]; rfl))) ?_
  refine Qaj (fun v W' => (PutR W3.heap.size (some bs)) v W' ∧ Ext W3 W') 28 #[.agg (cat [ints .u8 (grp), #[.int .i64 ep], #[.slice a_t ts.length c_t], ints .u8 (con), ints .u8 (tag), #[.int .i64 fr], ints .u8 (sig)])] 20 rfl kj kj ((QeU grp ep ts con tag fr sig _ _ _ hrl hrb hcl hcb hgl hgb hil hib (by omega) (fun i hi => by have := hb2 i hi; omega) (TrAt.here (TrAt.ext htr x3)) bs ((QdR grp ep ts con tag fr sig hrl hcl hgl hil hok).trans hS)).mono (by rintro e w' ⟨v, rfl, e1, hv⟩; exact ⟨v, rfl, hv, e1⟩)) fun vv11 W4 hh11 => ?_
  obtain ⟨hv11, e4⟩ := hh11
  have x4 : Ext w W4 := Ext.tr x3 e4
  obtain ⟨ub, rfl, hub⟩ := hv11
  obtain ⟨gb, cb, rb_, rfl, lb, rowb, hcb_⟩ := QeD hub rfl hpos
  have lo0b : w.heap.size ≤ gb := Nat.le_trans x3.size lb
  refine Qaa (.tuple #[.slice (some ⟨gb, 0, none⟩) bs.length cb, .nilIface]) 18 rfl kj kj ?_
  refine Qaa (.slice (some ⟨gb, 0, none⟩) bs.length cb) 21 rfl kj kj ?_
  refine Qaa (.nilIface) 22 rfl kj kj ?_
  refine Qaa (.slice (some ⟨gb, 0, none⟩) bs.length cb) 3 rfl kj kj ?_
  refine Qaa (.nilIface) 4 rfl kj kj ?_
  refine Qaf ?_
  refine hK10 _ _ ?_
  refine wp_seq_k fun K13 hK13 => ?_
  refine Qac ?_
  have r2_4 := (Qas r2_3 e4)
  refine Qaa (.agg (cat [ints .u8 (grp), #[.int .i64 ep], #[.slice a_t ts.length c_t], ints .u8 (con), ints .u8 (tag), #[.int .i64 fr], ints .u8 (sig)])) 24 rfl kj (Qaz 67 _ g2 67 _ _ r2_4 rfl kj kj (isz (n := 163) kj (by rw [Qab, Qab, Qab, Qab, Qab, Qab, Qab]; simp only [Array.size_append, cat, ((Qad _ _).trans hcl), ((Qad _ _).trans hgl), ((Qad _ _).trans hil), ((Qad _ _).trans hrl)]; rfl))) ?_
  refine Qaj (fun v W' => (Qdw W4.heap.size (refI grp ep ts con tag fr sig)) v W' ∧ Ext W4 W') 29 #[.agg (cat [ints .u8 (grp), #[.int .i64 ep], #[.slice a_t ts.length c_t], ints .u8 (con), ints .u8 (tag), #[.int .i64 fr], ints .u8 (sig)])] 25 rfl kj kj ((QbZ grp ep ts con tag fr sig _ _ _ hrl hrb hcl hcb hgl hgb hil hib (by omega) (fun i hi => by have := hb2 i hi; omega) hok (TrAt.here (TrAt.ext htr x4))).mono (by rintro e w' ⟨v, rfl, e1, hv⟩; exact ⟨v, rfl, hv, e1⟩)) fun vv14 W5 hh14 => ?_
  obtain ⟨hv14, e5⟩ := hh14
  have x5 : Ext w W5 := Ext.tr x4 e5
  rw [hS] at hv14
  obtain ⟨u15_, rfl, hu15_⟩ := hv14
  obtain ⟨ar15_, cr15_, rfl, -⟩ := id (OwnN.rd hu15_)
  refine Qaa (.tuple #[.slice ar15_ ((bs).length) cr15_, .bool true]) 23 rfl kj kj ?_
  refine Qaa (.slice ar15_ ((bs).length) cr15_) 26 rfl kj kj ?_
  refine Qaa (.bool true) 27 rfl kj kj ?_
  refine Qaa (.slice ar15_ ((bs).length) cr15_) 5 rfl kj kj ?_
  refine Qaa (.bool true) 6 rfl kj kj ?_
  refine Qaf ?_
  refine hK13 _ _ ?_
  refine wp_seq_k fun K16 hK16 => ?_
  refine wp_seq_k fun K17 hK17 => ?_
  refine Qac ?_
  refine Qaa (.slice (some ⟨gb, 0, none⟩) bs.length cb) 28 rfl kj kj ?_
  refine Qaa (.nilIface) 29 rfl kj kj ?_
  refine Qaa (.slice ar15_ ((bs).length) cr15_) 30 rfl kj kj ?_
  refine Qaa (.bool true) 31 rfl kj kj ?_
  have r12_5 := (Qas rowb e5)
  refine Qay (.bool true) 16 #[.slice (some ⟨gb, 0, none⟩) bs.length cb, .nilIface, .slice ar15_ ((bs).length) cr15_, .bool true] 32 rfl kj kj (Qfz _ _ bs _ (RdK.bytes (QdO (rfl) r12_5 hcb_) hbb) (RdK.bytes (OwnN.rd hu15_) hbb)) fun W6 e6 => ?_
  have x6 : Ext w W6 := Ext.tr x5 e6
  refine Qaa (.bool false) 33 rfl kj kj ?_
  refine Qaf ?_
  refine hK17 _ _ ?_
  refine cond_false kj ?_
  refine wp_skip ?_
  refine hK16 _ _ ?_
  refine wp_seq_k fun K18 hK18 => ?_
  refine wp_seq_k fun K19 hK19 => ?_
  refine Qac ?_
  refine Qaa (.bool true) 34 rfl kj kj ?_
  refine Qaa (.bool false) 35 rfl kj kj ?_
  refine Qaf ?_
  refine hK19 _ _ ?_
  refine cond_false kj ?_
  refine wp_skip ?_
  refine hK18 _ _ ?_
  refine wp_seq_k fun K20 hK20 => ?_
  refine Qac ?_
  refine Qaa (.slice (some ⟨gb, 0, none⟩) bs.length cb) 37 rfl kj kj ?_
  have r12_6 := (Qas r12_5 e6)
  refine Qaj (fun v W' => (fun v W => ∃ (ts : List NdV) (a : Option Addr) (c : Nat), v = .tuple #[.agg (cat [ints .u8 (iGrp (Qai bs)), #[.int .i64 (iEp (Qai bs))], #[.slice a ts.length c], ints .u8 (iCon (Qai bs)), ints .u8 (iTag (Qai bs)), #[.int .i64 (iFr (Qai bs))], ints .u8 (iSig (Qai bs))]), .nilIface] ∧ OwT W6.heap.size ts (.slice a ts.length c) W ∧ ts.length ≤ 255 ∧ ts.length = Qb5 (iS2 (Qai bs)) ∧ ∀ j, j < ts.length → NdIs (itT (Qae (iS2 (Qai bs)) 1) j) (ndi ts j).n) v W' ∧ Ext W6 W') 30 #[.slice (some ⟨gb, 0, none⟩) bs.length cb] 38 rfl kj kj ((Qd8 bs _ _ _ hbb (RdK.here (QdO (rfl) r12_6 hcb_)) hR0).mono (by rintro e w' ⟨v, rfl, e1, hv⟩; exact ⟨v, rfl, hv, e1⟩)) fun vv21 W7 hh21 => ?_
  obtain ⟨hv21, e7⟩ := hh21
  have x7 : Ext w W7 := Ext.tr x6 e7
  replace hv21 : ∃ (ts : List NdV) (a : Option Addr) (c : Nat), vv21 = .tuple #[.agg (cat [ints .u8 (iGrp (Qai bs)), #[.int .i64 (iEp (Qai bs))], #[.slice a ts.length c], ints .u8 (iCon (Qai bs)), ints .u8 (iTag (Qai bs)), #[.int .i64 (iFr (Qai bs))], ints .u8 (iSig (Qai bs))]), .nilIface] ∧ OwT W6.heap.size ts (.slice a ts.length c) W7 ∧ ts.length ≤ 255 ∧ ts.length = Qb5 (iS2 (Qai bs)) ∧ ∀ j, j < ts.length → NdIs (itT (Qae (iS2 (Qai bs)) 1) j) (ndi ts j).n := hv21
  rw [f1, f2, f3, f4, f5, f6] at hv21
  obtain ⟨us, at_, ct_, rfl, hot, hul, hun, huis⟩ := hv21
  have hus : refI grp ep us con tag fr sig = refI grp ep ts con tag fr sig := Qe9 grp ep ts con tag fr sig us (hun.trans hN) _ hnd huis
  refine Qaa (.tuple #[.agg (cat [ints .u8 (grp), #[.int .i64 ep], #[.slice at_ us.length ct_], ints .u8 (con), ints .u8 (tag), #[.int .i64 fr], ints .u8 (sig)]), .nilIface]) 36 rfl kj kj ?_
  refine Qaa (.agg (cat [ints .u8 (grp), #[.int .i64 ep], #[.slice at_ us.length ct_], ints .u8 (con), ints .u8 (tag), #[.int .i64 fr], ints .u8 (sig)])) 39 rfl kj kj ?_
  refine Qaa (.nilIface) 40 rfl kj kj ?_
  refine Qaq (cat [ints .u8 (List.replicate 32 0), #[.int .i64 0], #[.slice none 0 0], ints .u8 (List.replicate 32 0), ints .u8 (List.replicate 32 0), #[.int .i64 0], ints .u8 (List.replicate 64 0)]) 67 7 rfl kj (Qbo 67 _ rfl (Qc7 _)) fun g22 W8 l22 e8 r22_8 => ?_
  have x8 : Ext w W8 := Ext.tr x7 e8
  have b22 : w.heap.size ≤ g22 := Nat.le_trans x7.size l22
  refine Qa3 g22 _ (cat [ints .u8 (grp), #[.int .i64 ep], #[.slice at_ us.length ct_], ints .u8 (con), ints .u8 (tag), #[.int .i64 fr], ints .u8 (sig)]) 67 r22_8 rfl kj (Qav 67 _ _ g22 67 _ _ r22_8 rfl kj kj (isz (n := 163) kj (by rw [Qab, Qab, Qab, Qab, Qab, Qab, Qab]; simp only [Array.size_append, cat, ((Qad _ _).trans hcl), ((Qad _ _).trans hgl), ((Qad _ _).trans hil), ((Qad _ _).trans hrl)]; rfl)) (eqsz (n := 163) (by rw [Qab, Qab, Qab, Qab, Qab, Qab, Qab]; simp only [Array.size_append, cat, ((Qad _ _).trans (List.length_replicate (n := 32))), ((Qad _ _).trans (List.length_replicate (n := 64)))]; rfl) (by rw [Qab, Qab, Qab, Qab, Qab, Qab, Qab]; simp only [Array.size_append, cat, ((Qad _ _).trans hcl), ((Qad _ _).trans hgl), ((Qad _ _).trans hil), ((Qad _ _).trans hrl)]; rfl)) (QaQ _ (by intro a ha; simp only [List.mem_cons, List.not_mem_nil, or_false] at ha; rcases ha with rfl | rfl | rfl | rfl | rfl | rfl | rfl; exact (Qax _ _); exact (Qau _ rfl); exact (Qau _ rfl); exact (Qax _ _); exact (Qax _ _); exact (Qau _ rfl); exact (Qax _ _)))) fun W9 p9 r22_9 => ?_
  have x9 : Ext w W9 := Puts.ext p9 x8 b22
  refine Qaa (.nilIface) 4 rfl kj kj ?_
  refine Qaf ?_
  refine hK20 _ _ ?_
  refine wp_seq_k fun K23 hK23 => ?_
  refine Qac ?_
  refine Qaa (.agg (cat [ints .u8 (grp), #[.int .i64 ep], #[.slice at_ us.length ct_], ints .u8 (con), ints .u8 (tag), #[.int .i64 fr], ints .u8 (sig)])) 42 rfl kj (Qaz 67 _ g22 67 _ _ r22_9 rfl kj kj (isz (n := 163) kj (by rw [Qab, Qab, Qab, Qab, Qab, Qab, Qab]; simp only [Array.size_append, cat, ((Qad _ _).trans hcl), ((Qad _ _).trans hgl), ((Qad _ _).trans hil), ((Qad _ _).trans hrl)]; rfl))) ?_
  refine Qaj (fun v W' => (Qdw W9.heap.size (refI grp ep us con tag fr sig)) v W' ∧ Ext W9 W') 29 #[.agg (cat [ints .u8 (grp), #[.int .i64 ep], #[.slice at_ us.length ct_], ints .u8 (con), ints .u8 (tag), #[.int .i64 fr], ints .u8 (sig)])] 43 rfl kj kj ((QbZ grp ep us con tag fr sig _ _ _ hrl hrb hcl hcb hgl hgb hil hib (by omega) (fun i hi => by have := (hot.nd _ (Qcf us i hi)).2.1; omega) (fun n hn => (hot.nd n hn).1) (OwT.tr (OwT.puts (OwT.ext hot e8) p9 r22_8 (by decide) (by decide)))).mono (by rintro e w' ⟨v, rfl, e1, hv⟩; exact ⟨v, rfl, hv, e1⟩)) fun vv24 W10 hh24 => ?_
  obtain ⟨hv24, e10⟩ := hh24
  have x10 : Ext w W10 := Ext.tr x9 e10
  rw [hus, hS] at hv24
  obtain ⟨u25_, rfl, hu25_⟩ := hv24
  obtain ⟨ar25_, cr25_, rfl, -⟩ := id (OwnN.rd hu25_)
  refine Qaa (.tuple #[.slice ar25_ ((bs).length) cr25_, .bool true]) 41 rfl kj kj ?_
  refine Qaa (.slice ar25_ ((bs).length) cr25_) 44 rfl kj kj ?_
  refine Qaa (.bool true) 45 rfl kj kj ?_
  refine Qaa (.slice ar25_ ((bs).length) cr25_) 8 rfl kj kj ?_
  refine Qaa (.bool true) 9 rfl kj kj ?_
  refine Qaf ?_
  refine hK23 _ _ ?_
  refine wp_seq_k fun K26 hK26 => ?_
  refine Qac ?_
  refine Qaa (.slice (some ⟨gb, 0, none⟩) bs.length cb) 46 rfl kj kj ?_
  have r12_7 := (Qas r12_6 e7)
  have r12_8 := (Qas r12_7 e8)
  have r12_9 := (Puts.row p9 r12_8 (QaD r12_7 l22))
  have r12_10 := (Qas r12_9 e10)
  refine Qaj (fun v W' => v = .tuple #[] ∧ ExtB gb W10 W') 18 #[.slice (some ⟨gb, 0, none⟩) bs.length cb] 47 rfl kj kj ((QgU gb bs.length cb bs rb_ _ (by omega) rfl r12_10).mono fun e w' h => ⟨_, h.1, rfl, h.2⟩) fun v27 W11 h27 => ?_
  obtain ⟨rfl, q11⟩ := h27
  have x11 : Ext w W11 := ExtB.toExt x10 q11 lo0b
  refine Qaf ?_
  refine hK26 _ _ ?_
  refine wp_seq_k fun K28 hK28 => ?_
  refine Qac ?_
  have r22_10 := (Qas r22_9 e10)
  have r22_11 := (ExtB.row q11 r22_10 (QeK r12_7 l22))
  refine Qaa (.agg (cat [ints .u8 (grp), #[.int .i64 ep], #[.slice at_ us.length ct_], ints .u8 (con), ints .u8 (tag), #[.int .i64 fr], ints .u8 (sig)])) 49 rfl kj (Qaz 67 _ g22 67 _ _ r22_11 rfl kj kj (isz (n := 163) kj (by rw [Qab, Qab, Qab, Qab, Qab, Qab, Qab]; simp only [Array.size_append, cat, ((Qad _ _).trans hcl), ((Qad _ _).trans hgl), ((Qad _ _).trans hil), ((Qad _ _).trans hrl)]; rfl))) ?_
  refine Qaj (fun v W' => (Qdw W11.heap.size (refI grp ep us con tag fr sig)) v W' ∧ Ext W11 W') 29 #[.agg (cat [ints .u8 (grp), #[.int .i64 ep], #[.slice at_ us.length ct_], ints .u8 (con), ints .u8 (tag), #[.int .i64 fr], ints .u8 (sig)])] 50 rfl kj kj ((QbZ grp ep us con tag fr sig _ _ _ hrl hrb hcl hcb hgl hgb hil hib (by omega) (fun i hi => by have := (hot.nd _ (Qcf us i hi)).2.1; omega) (fun n hn => (hot.nd n hn).1) (OwT.tr (OwT.extB (OwT.ext (OwT.puts (OwT.ext hot e8) p9 r22_8 (by decide) (by decide)) e10) q11 (Nat.lt_of_lt_of_le (Qa1 rowb) (Nat.le_trans (Nat.le_trans (Nat.le_refl _) e5.size) e6.size))))).mono (by rintro e w' ⟨v, rfl, e1, hv⟩; exact ⟨v, rfl, hv, e1⟩)) fun vv29 W12 hh29 => ?_
  obtain ⟨hv29, e12⟩ := hh29
  have x12 : Ext w W12 := Ext.tr x11 e12
  rw [hus, hS] at hv29
  obtain ⟨u30_, rfl, hu30_⟩ := hv29
  obtain ⟨ar30_, cr30_, rfl, -⟩ := id (OwnN.rd hu30_)
  refine Qaa (.tuple #[.slice ar30_ ((bs).length) cr30_, .bool true]) 48 rfl kj kj ?_
  refine Qaa (.slice ar30_ ((bs).length) cr30_) 51 rfl kj kj ?_
  refine Qaa (.bool true) 52 rfl kj kj ?_
  refine Qaa (.slice ar30_ ((bs).length) cr30_) 10 rfl kj kj ?_
  refine Qaa (.bool true) 11 rfl kj kj ?_
  refine Qaf ?_
  refine hK28 _ _ ?_
  refine wp_seq_k fun K31 hK31 => ?_
  refine Qac ?_
  refine Qaa (.nilIface) 53 rfl kj kj ?_
  refine Qaa (.bool true) 54 rfl kj kj ?_
  refine Qaa (.bool true) 55 rfl kj kj ?_
  refine Qaa (.bool true) 56 rfl kj kj ?_
  refine Qaa (.bool true) 57 rfl kj kj ?_
  refine Qaa (.bool true) 58 rfl kj kj ?_
  refine Qaa (.bool true) 59 rfl kj kj ?_
  refine Qaa (.bool true) 60 rfl kj kj ?_
  refine Qaa (.bool true) 61 rfl kj kj ?_
  refine Qaa (.slice ar25_ ((bs).length) cr25_) 62 rfl kj kj ?_
  refine Qaa (.slice ar15_ ((bs).length) cr15_) 63 rfl kj kj ?_
  have f32_11 := (Qbf hu25_ q11 (Qb1 hu25_ (Qa1 r12_9)))
  have f33_12 := (f32_11.ext e12)
  have f34_6 := (hu15_.ext e6)
  have f35_7 := (f34_6.ext e7)
  have f36_8 := (f35_7.ext e8)
  have f37_9 := (f36_8.puts p9 (QcF f35_7 l22))
  have f38_10 := (f37_9.ext e10)
  have f39_11 := (Qbf f38_10 q11 (Qb1 hu15_ (Qa1 rowb)))
  have f40_12 := (f39_11.ext e12)
  refine Qay (.bool true) 19 #[.slice ar25_ ((bs).length) cr25_, .slice ar15_ ((bs).length) cr15_] 64 rfl kj kj (Qf9 _ _ _ _ _ rfl (RdK.bytes (OwnN.rd f33_12) hbb) (RdK.bytes (OwnN.rd f40_12) hbb)) fun W13 e13 => ?_
  have x13 : Ext w W13 := Ext.tr x12 e13
  refine Qaa (.bool true) 65 rfl kj kj ?_
  refine Qaa (.bool true) 66 rfl kj kj ?_
  refine Qaa (.slice ar30_ ((bs).length) cr30_) 67 rfl kj kj ?_
  refine Qaa (.slice ar15_ ((bs).length) cr15_) 68 rfl kj kj ?_
  have f41_13 := (hu30_.ext e13)
  have f42_13 := (f40_12.ext e13)
  refine Qay (.bool true) 19 #[.slice ar30_ ((bs).length) cr30_, .slice ar15_ ((bs).length) cr15_] 69 rfl kj kj (Qf9 _ _ _ _ _ rfl (RdK.bytes (OwnN.rd f41_13) hbb) (RdK.bytes (OwnN.rd f42_13) hbb)) fun W14 e14 => ?_
  have x14 : Ext w W14 := Ext.tr x13 e14
  refine Qaa (.bool true) 70 rfl kj kj ?_
  refine Qaa (.bool true) 2 rfl kj kj ?_
  refine Qaf ?_
  refine hK31 _ _ ?_
  refine wp_ret ?_
  repeat (first | with_reducible refine goR1 ?_ | with_reducible refine goR2 ?_)
  exact (show bodyPost _ _ _ .ret _ _ from ret1 (.bool true) rfl (Qar kj) ⟨rfl, x14⟩)
theorem lawI (grp : List Int) (ep : Int) (ts : List NdV) (con tag : List Int) (fr : Int) (sig : List Int) (a_t : Option Addr) (c_t : Nat) (w : World) (hrl : grp.length = 32) (hrb : Qal grp) (hcl : con.length = 32) (hcb : Qal con) (hgl : tag.length = 32) (hgb : Qal tag) (hil : sig.length = 64) (hib : Qal sig) (hok : ∀ n ∈ ts, NdOk n.n) (htr : TrAt w.heap.size w a_t ts) : Calls Try.prog 6 #[.agg (cat [ints .u8 (grp), #[.int .i64 ep], #[.slice a_t ts.length c_t], ints .u8 (con), ints .u8 (tag), #[.int .i64 fr], ints .u8 (sig)])] w (Ret w (.bool true)) := by
  cases hS : refI grp ep ts con tag fr sig with
  | none => exact Qg8 grp ep ts con tag fr sig a_t c_t w hrl hrb hcl hcb hgl hgb hil hib hok htr hS
  | some bs => exact Qg7 grp ep ts con tag fr sig a_t c_t w hrl hrb hcl hcb hgl hgb hil hib hok htr bs hS
end Go.Proofs.Ytfelfmchachljaa.Wr
end
section
namespace Go.Proofs.Ytfelfmchachljaa.Auto
open Go Go.RowKit Go.WideShapes
open Rely
set_option linter.unusedVariables false
section
variable {H : Type} {enc : TypeId × Value → H} {P : Program} {W w : World} {r : Reach} {base b0 : Nat} {sp : Nat → Bool} {held : Bool}
theorem open_raw {n : Nat} {t e : TypeId} {cs : List Value} {fuel : Nat} {x : DataW H × List MemPlace} (ht : P.underlying t = some (.array n e)) (he : P.underlying e = some (.int .u8)) (hce : P.cellsOf e = 1) (hct : P.cellsOf t = n)
    (hf : DataW.trod enc P w b0 sp held fuel t cs = some x) : ∃ xs : List Int, cs = xs.map (Value.int .u8) ∧ xs.length = n ∧ Qal xs := by
  obtain ⟨xs, m, -, -, hl, hn, hx⟩ := DataW.trod_array ht hf
  have hcs : cs.length = n := by simpa [hct] using hl
  have each : ∀ i, i < n → ∃ z : Int, cs[i]? = some (.int .u8 z) ∧ (0 ≤ z ∧ z ≤ 255) := by
    intro i hi
    have h1 := hx i hi
    rw [hce, Nat.mul_one] at h1
    have hlt : i < cs.length := by omega
    have h2 : cs.drop i = cs[i] :: cs.drop (i + 1) := List.drop_eq_getElem_cons hlt
    have h1 : DataW.trod enc P w b0 sp held m e ((cs.drop i).take 1) = xs[i]? := h1
    rw [h2] at h1
    simp only [List.take_succ_cons, List.take_zero] at h1
    obtain ⟨y, hy⟩ : ∃ y, xs[i]? = some y := ⟨xs[i], by simp [hn, hi]⟩
    rw [hy] at h1
    obtain ⟨z, hc, -, hw⟩ := DataW.trod_int he h1
    refine ⟨z, ?_, ?_⟩
    · rw [List.getElem?_eq_getElem hlt]
      simp only [List.cons.injEq] at hc
      rw [hc.1]
    · simpa [Lit.wf, IntKind.min, IntKind.max, IntKind.signed, IntKind.bits] using hw
  have all : ∀ (l : List Value), (∀ i, i < l.length → ∃ z : Int, l[i]? = some (.int .u8 z) ∧ (0 ≤ z ∧ z ≤ 255)) → ∃ zs : List Int, l = zs.map (Value.int .u8) ∧ Qal zs := by
    intro l
    induction l with
    | nil => exact fun _ => ⟨[], rfl, fun x hx => by simp at hx⟩
    | cons a l ih =>
      intro h
      obtain ⟨zs, h1, h2⟩ := ih fun i hi => by simpa using h (i + 1) (by simp; omega)
      obtain ⟨z, h3, h4⟩ := h 0 (by simp)
      simp only [List.getElem?_cons_zero, Option.some.injEq] at h3
      refine ⟨z :: zs, by rw [h3, h1]; rfl, fun x hx => ?_⟩
      rcases List.mem_cons.1 hx with e | e
      · rw [e]; exact h4
      · exact h2 x e
  obtain ⟨zs, h1, h2⟩ := all cs fun i hi => each i (by omega)
  exact ⟨zs, h1, by rw [← hcs, h1, List.length_map], h2⟩
end
end Go.Proofs.Ytfelfmchachljaa.Auto
end
section
namespace Go.Proofs.Ytfelfmchachljaa.Auto
open Go Go.RowKit Go.WideShapes
open Rely
set_option linter.unusedVariables false
section
variable {H : Type} {enc : TypeId × Value → H} {P : Program} {W w : World} {r : Reach} {base b0 : Nat} {sp : Nat → Bool} {held : Bool}
theorem QeZ {t : TypeId} {f0 f1 f2 f3 f4 f5 : Field} {fuel : Nat} {cs : List Value} {x : DataW H × List MemPlace} (ht : P.underlying t = some (.struct #[f0, f1, f2, f3, f4, f5])) (h : DataW.trod enc P w b0 sp held fuel t cs = some x) :
    ∃ y0 y1 y2 y3 y4 y5 n, cs.length = P.cellsOf t ∧ DataW.trod enc P w b0 sp held n f0.type ((cs.drop f0.offset).take (P.cellsOf f0.type)) = some y0 ∧ DataW.trod enc P w b0 sp held n f1.type ((cs.drop f1.offset).take (P.cellsOf f1.type)) = some y1 ∧ DataW.trod enc P w b0 sp held n f2.type ((cs.drop f2.offset).take (P.cellsOf f2.type)) = some y2 ∧ DataW.trod enc P w b0 sp held n f3.type ((cs.drop f3.offset).take (P.cellsOf f3.type)) = some y3 ∧ DataW.trod enc P w b0 sp held n f4.type ((cs.drop f4.offset).take (P.cellsOf f4.type)) = some y4 ∧ DataW.trod enc P w b0 sp held n f5.type ((cs.drop f5.offset).take (P.cellsOf f5.type)) = some y5 := by
  obtain ⟨xs, n, _, rfl, hl, hlen, hf⟩ := DataW.trod_struct ht h
  match xs, hlen with
  | [y0, y1, y2, y3, y4, y5], _ => exact ⟨y0, y1, y2, y3, y4, y5, n, hl, by simpa using hf 0 f0 rfl, by simpa using hf 1 f1 rfl, by simpa using hf 2 f2 rfl, by simpa using hf 3 f3 rfl, by simpa using hf 4 f4 rfl, by simpa using hf 5 f5 rfl⟩
theorem sub_st6 {t : TypeId} {f0 f1 f2 f3 f4 f5 : Field} {fuel : Nat} {cs : List Value} {x : DataW H × List MemPlace} {n0 n1 n2 n3 n4 n5 : Nat} (ht : P.underlying t = some (.struct #[f0, f1, f2, f3, f4, f5]))
    (ho : f0.offset = 0 ∧ f1.offset = n0 ∧ f2.offset = n0 + n1 ∧ f3.offset = n0 + n1 + n2 ∧ f4.offset = n0 + n1 + n2 + n3 ∧ f5.offset = n0 + n1 + n2 + n3 + n4) (hc : P.cellsOf f0.type = n0 ∧ P.cellsOf f1.type = n1 ∧ P.cellsOf f2.type = n2 ∧ P.cellsOf f3.type = n3 ∧ P.cellsOf f4.type = n4 ∧ P.cellsOf f5.type = n5) (hC : P.cellsOf t = n0 + n1 + n2 + n3 + n4 + n5) (h : DataW.trod enc P w b0 sp held fuel t cs = some x) :
    ∃ (X0 X1 X2 X3 X4 X5 : List Value) (y0 y1 y2 y3 y4 y5 : DataW H × List MemPlace) (n : Nat), cs = X0 ++ X1 ++ X2 ++ X3 ++ X4 ++ X5 ∧ DataW.trod enc P w b0 sp held n f0.type X0 = some y0 ∧ DataW.trod enc P w b0 sp held n f1.type X1 = some y1 ∧ DataW.trod enc P w b0 sp held n f2.type X2 = some y2 ∧ DataW.trod enc P w b0 sp held n f3.type X3 = some y3 ∧ DataW.trod enc P w b0 sp held n f4.type X4 = some y4 ∧ DataW.trod enc P w b0 sp held n f5.type X5 = some y5 := by
  obtain ⟨y0, y1, y2, y3, y4, y5, n, hl, h0, h1, h2, h3, h4, h5⟩ := QeZ ht h
  obtain ⟨o0, o1, o2, o3, o4, o5⟩ := ho
  obtain ⟨c0, c1, c2, c3, c4, c5⟩ := hc
  rw [o0, c0] at h0
  rw [o1, c1] at h1
  rw [o2, c2] at h2
  rw [o3, c3] at h3
  rw [o4, c4] at h4
  rw [o5, c5] at h5
  refine ⟨_, _, _, _, _, _, y0, y1, y2, y3, y4, y5, n, ?_, h0, h1, h2, h3, h4, h5⟩
  rw [hC] at hl
  simp only [List.drop_zero]
  have e1 : cs.take (n0) ++ (cs.drop (n0)).take n1 = cs.take (n0 + n1) := by rw [List.take_add (i := n0)]
  have e2 : cs.take (n0 + n1) ++ (cs.drop (n0 + n1)).take n2 = cs.take (n0 + n1 + n2) := by rw [List.take_add (i := n0 + n1)]
  have e3 : cs.take (n0 + n1 + n2) ++ (cs.drop (n0 + n1 + n2)).take n3 = cs.take (n0 + n1 + n2 + n3) := by rw [List.take_add (i := n0 + n1 + n2)]
  have e4 : cs.take (n0 + n1 + n2 + n3) ++ (cs.drop (n0 + n1 + n2 + n3)).take n4 = cs.take (n0 + n1 + n2 + n3 + n4) := by rw [List.take_add (i := n0 + n1 + n2 + n3)]
  have e5 : cs.take (n0 + n1 + n2 + n3 + n4) ++ (cs.drop (n0 + n1 + n2 + n3 + n4)).take n5 = cs.take (n0 + n1 + n2 + n3 + n4 + n5) := by rw [List.take_add (i := n0 + n1 + n2 + n3 + n4)]
  rw [e1, e2, e3, e4, e5, List.take_of_length_le (by omega)]
end
end Go.Proofs.Ytfelfmchachljaa.Auto
end
section
namespace Go.Proofs.Ytfelfmchachljaa.Auto
open Go Go.RowKit
open Rely
set_option linter.unusedVariables false
end Go.Proofs.Ytfelfmchachljaa.Auto
end
section
namespace Go.Proofs.Ytfelfmchachljaa.Wr
open Go Go.RowKit
open Rely Auto Own Sha
set_option linter.unusedVariables false
set_option linter.unusedSimpArgs false
open Go.WideShapes Go.ChangeShapes Go.ChangeAt Go.Deep
open Go.Proofs.Ytfelfmchachljaa
section
variable {H : Type} {enc : TypeId × Value → H} {P : Program} {w : World} {b0 : Nat} {held : Bool}
theorem Qf1 (x : Addr) (i j : Nat) : (x.add i).add j = x.add (i + j) := by
  by_cases hi : i = 0 <;> by_cases hj : j = 0 <;> simp [Addr.add, hi, hj, Nat.add_assoc]
theorem QeF {t s e5 e3 : TypeId} {f0 f1 f2 f3 f4 f5 : Field} {ad : Option Addr} {len cap : Nat} {d : DataW H} {p : List MemPlace} (hs : P.underlying t = some (.slice s)) (hss : P.underlying s = some (.struct #[f0, f1, f2, f3, f4, f5]))
    (ho : f0.offset = 0 ∧ f1.offset = 1 ∧ f2.offset = 1 + 1 ∧ f3.offset = 1 + 1 + 32 ∧ f4.offset = 1 + 1 + 32 + 32 ∧ f5.offset = 1 + 1 + 32 + 32 + 32) (hc : P.cellsOf f0.type = 1 ∧ P.cellsOf f1.type = 1 ∧ P.cellsOf f2.type = 32 ∧ P.cellsOf f3.type = 32 ∧ P.cellsOf f4.type = 32 ∧ P.cellsOf f5.type = 1) (hC : P.cellsOf s = 1 + 1 + 32 + 32 + 32 + 1)
    (h0 : P.underlying f0.type = some .bool) (h1 : P.underlying f1.type = some (.int .i64)) (h2 : P.underlying f2.type = some (.array 32 e5)) (h3 : P.underlying f3.type = some (.array 32 e5)) (h4 : P.underlying f4.type = some (.array 32 e5)) (h5 : P.underlying f5.type = some (.slice e3))
    (he5 : P.underlying e5 = some (.int .u8)) (hc5 : P.cellsOf e5 = 1) (he3 : P.underlying e3 = some (.int .i64)) (hc3 : P.cellsOf e3 = 1)
    (h : DataW.Trod enc P w b0 (fun _ => true) held t (.slice ad len cap) d p) :
    ∃ ts : List NdV, ts.length = len ∧ TrAt w.heap.size w ad ts ∧ ∀ n ∈ ts, NdOk n.n := by
  obtain ⟨fuel, hf⟩ := h
  rcases DataW.trod_slice hs hf with ⟨hcs', -⟩ | ⟨x, l, c, elems, rest, n, -, hcs', -, hb, hl, hmx, hlen, hel, -, -⟩
  · simp [Value.cells] at hcs'
    obtain ⟨rfl, rfl, rfl⟩ := hcs'
    exact ⟨[], rfl, ⟨0, 0, fun h => absurd h (by decide), fun i hi => absurd hi (Nat.not_lt_zero _)⟩, fun n hn => by cases hn⟩
  · simp [Value.cells] at hcs'
    obtain ⟨rfl, rfl, rfl⟩ := hcs'
    have key : ∀ i, i < len → ∃ n : NdV, (∀ j u, (cat (ndP n))[j]? = some u → w.cell? (x.add (i * 99 + j)) = some u) ∧ RdK .i64 w.heap.size n.n.ms (.slice n.a n.n.ms.length n.c) w ∧ NdOk n.n := fun i hi => by
      have h9 := hel i hi
      rw [hC, List.getElem?_eq_getElem (by omega)] at h9
      obtain ⟨cs, hc1, hc2⟩ := Option.bind_eq_some_iff.1 h9
      obtain ⟨hn, q1, q2⟩ := World.cells?_some hc1
      obtain ⟨X0, X1, X2, X3, X4, X5, y0, y1, y2, y3, y4, y5, m, hcs, t0, t1, t2, t3, t4, t5⟩ := Auto.sub_st6 hss ho hc hC hc2
      obtain ⟨us, rfl, -⟩ := DataW.trod_bool h0 t0
      obtain ⟨nm, rfl, -, -⟩ := DataW.trod_int h1 t1
      obtain ⟨key, rfl, hkl, hkb⟩ := Auto.open_raw h2 he5 hc5 hc.2.2.1 t2
      obtain ⟨sg, rfl, hgl, hgb⟩ := Auto.open_raw h3 he5 hc5 hc.2.2.2.1 t3
      obtain ⟨pa, rfl, hpl, hpb⟩ := Auto.open_raw h4 he5 hc5 hc.2.2.2.2.1 t4
      have fin : ∀ (a : Option Addr) (ms : List Int) (c : Nat), X5 = [.slice a ms.length c] → RdK .i64 w.heap.size ms (.slice a ms.length c) w → ∃ n : NdV, (∀ j u, (cat (ndP n))[j]? = some u → w.cell? (x.add (i * 99 + j)) = some u) ∧ RdK .i64 w.heap.size n.n.ms (.slice n.a n.n.ms.length n.c) w ∧ NdOk n.n := fun a ms c e r => by
        refine ⟨⟨⟨us, nm, key, sg, pa, ms⟩, a, c⟩, fun j u hu => ?_, r, ⟨hkl, hgl, hpl, hkb, hgb, hpb⟩⟩
        have e9 : (cat (ndP ⟨⟨us, nm, key, sg, pa, ms⟩, a, c⟩)).toList = cs := by
          rw [hcs, e]
          unfold ndP
          simp [cat, Rely.ints]
        rw [← Array.getElem?_toList, e9] at hu
        have hj : j < 99 := by have := (List.getElem?_eq_some_iff.1 hu).1; omega
        have := q2 j hj
        rw [Qf1] at this
        rw [this]; exact hu
      rcases open_ints h5 he3 hc3 t5 with ⟨hcv, -⟩ | ⟨y, l, cc, zs, hcv, -, hl2, hm2, hz2, -, hcell, hwz⟩
      · exact fin none [] 0 hcv ⟨none, 0, rfl, Nat.le_refl _, Nat.zero_le _, fun _ => rfl, .inl rfl⟩
      · obtain ⟨r, rl, rf⟩ := Auto.rdK_of_row (k := .i64) (w := w) (a := some y) (len := l) (cap := cc) (zs := zs) (.inr ⟨y, rfl, hl2, hm2, by simpa using hz2, hcell, hwz⟩)
        refine fin (some y) (zs.take l) cc (by rw [rl]; exact hcv) ?_
        rw [rl]; exact r
    rcases Nat.eq_zero_or_pos len with h0' | h0'
    · subst h0'
      exact ⟨[], rfl, ⟨0, 0, fun h => absurd h (by decide), fun i hi => absurd hi (Nat.not_lt_zero _)⟩, fun n hn => by cases hn⟩
    obtain ⟨b, off, spot⟩ := x
    have first : ∀ n : NdV, (cat (ndP n))[0]? = some (.bool n.n.us) := fun n => by
      unfold ndP
      show (#[Value.bool n.n.us] ++ cat _)[0]? = _
      rw [Array.getElem?_append_left (show 0 < 1 by decide)]
      rfl
    obtain ⟨n0, hq, -⟩ := key 0 h0'
    have hq0 := hq 0 _ (first n0)
    have hspot : spot = none := by simpa [Addr.add] using World.cell?_spot hq0
    subst hspot
    rw [WideShapes.add_plain] at hq0
    have hlt : b < w.heap.size := QcG hq0
    have all : ∀ m, m ≤ len → ∃ ts : List NdV, ts.length = m ∧ ∀ i, i < m → NdAt w.heap.size w b (off + i * 99) (ndi ts i) := by
      intro m
      induction m with
      | zero => exact fun _ => ⟨[], rfl, fun i hi => absurd hi (Nat.not_lt_zero _)⟩
      | succ m ih =>
        intro hm
        obtain ⟨ts, htl, hts⟩ := ih (by omega)
        obtain ⟨n, k1, k2, k3⟩ := key m (by omega)
        refine ⟨ts ++ [n], by rw [List.length_append, htl]; rfl, fun i hi => ?_⟩
        have e : ndi (ts ++ [n]) i = if i < m then ndi ts i else n := by
          unfold ndi
          rw [List.getD_eq_getElem?_getD, List.getD_eq_getElem?_getD]
          split
          · rename_i h; rw [List.getElem?_append_left (by omega)]
          · rename_i h
            rw [List.getElem?_append_right (by omega), show i - ts.length = 0 by omega]; rfl
        rw [e]
        split
        · rename_i h; exact hts i h
        · rename_i h
          obtain rfl : i = m := by omega
          exact ⟨hlt, hlt, fun j u hu => by have := k1 j u hu; rw [WideShapes.add_plain] at this; rw [Nat.add_assoc]; exact this, k2, k3⟩
    obtain ⟨ts, htl, hts⟩ := all len (Nat.le_refl _)
    refine ⟨ts, htl, ⟨b, off, fun _ => rfl, fun i hi => hts i (by omega)⟩, fun n hn => ?_⟩
    obtain ⟨i, hi, e⟩ := List.mem_iff_getElem.1 hn
    have := (hts i (by omega)).ok
    unfold ndi at this
    rw [List.getD_eq_getElem?_getD, List.getElem?_eq_getElem hi] at this
    rw [← e]; exact this
theorem open_tree_sub {t s e5 e3 : TypeId} {f0 f1 f2 f3 f4 f5 : Field} {cs : List Value} {fuel : Nat} {y : DataW H × List MemPlace} (hs : P.underlying t = some (.slice s)) (hss : P.underlying s = some (.struct #[f0, f1, f2, f3, f4, f5]))
    (ho : f0.offset = 0 ∧ f1.offset = 1 ∧ f2.offset = 1 + 1 ∧ f3.offset = 1 + 1 + 32 ∧ f4.offset = 1 + 1 + 32 + 32 ∧ f5.offset = 1 + 1 + 32 + 32 + 32) (hc : P.cellsOf f0.type = 1 ∧ P.cellsOf f1.type = 1 ∧ P.cellsOf f2.type = 32 ∧ P.cellsOf f3.type = 32 ∧ P.cellsOf f4.type = 32 ∧ P.cellsOf f5.type = 1) (hC : P.cellsOf s = 1 + 1 + 32 + 32 + 32 + 1)
    (h0 : P.underlying f0.type = some .bool) (h1 : P.underlying f1.type = some (.int .i64)) (h2 : P.underlying f2.type = some (.array 32 e5)) (h3 : P.underlying f3.type = some (.array 32 e5)) (h4 : P.underlying f4.type = some (.array 32 e5)) (h5 : P.underlying f5.type = some (.slice e3))
    (he5 : P.underlying e5 = some (.int .u8)) (hc5 : P.cellsOf e5 = 1) (he3 : P.underlying e3 = some (.int .i64)) (hc3 : P.cellsOf e3 = 1)
    (h : DataW.trod enc P w b0 (fun _ => true) held fuel t cs = some y) :
    ∃ (ad : Option Addr) (len cap : Nat) (ts : List NdV), cs = [.slice ad len cap] ∧ ts.length = len ∧ TrAt w.heap.size w ad ts ∧ ∀ n ∈ ts, NdOk n.n := by
  have hcs : ∃ (ad : Option Addr) (len cap : Nat), cs = [.slice ad len cap] := by
    rcases DataW.trod_slice hs h with ⟨hcs', -⟩ | ⟨x, l, c, elems, rest, n, -, hcs', -⟩
    · exact ⟨none, 0, 0, hcs'⟩
    · exact ⟨_, _, _, hcs'⟩
  obtain ⟨ad, len, cap, rfl⟩ := hcs
  obtain ⟨ts, k1, k2, k3⟩ := QeF (d := y.1) (p := y.2) (cap := cap) hs hss ho hc hC h0 h1 h2 h3 h4 h5 he5 hc5 he3 hc3 ⟨fuel, h⟩
  exact ⟨ad, len, cap, ts, rfl, k1, k2, k3⟩
end
end Go.Proofs.Ytfelfmchachljaa.Wr
end
section
namespace Go.Proofs.Ytfelfmchachljaa.Auto
open Go Go.RowKit Go.WideShapes
open Rely
set_option linter.unusedVariables false
section
variable {H : Type} {enc : TypeId × Value → H} {P : Program} {W w : World} {r : Reach} {base b0 : Nat} {sp : Nat → Bool} {held : Bool}
theorem QeY {t : TypeId} {f0 f1 f2 f3 f4 f5 f6 : Field} {fuel : Nat} {cs : List Value} {x : DataW H × List MemPlace} (ht : P.underlying t = some (.struct #[f0, f1, f2, f3, f4, f5, f6])) (h : DataW.trod enc P w b0 sp held fuel t cs = some x) :
    ∃ y0 y1 y2 y3 y4 y5 y6 n, cs.length = P.cellsOf t ∧ DataW.trod enc P w b0 sp held n f0.type ((cs.drop f0.offset).take (P.cellsOf f0.type)) = some y0 ∧ DataW.trod enc P w b0 sp held n f1.type ((cs.drop f1.offset).take (P.cellsOf f1.type)) = some y1 ∧ DataW.trod enc P w b0 sp held n f2.type ((cs.drop f2.offset).take (P.cellsOf f2.type)) = some y2 ∧ DataW.trod enc P w b0 sp held n f3.type ((cs.drop f3.offset).take (P.cellsOf f3.type)) = some y3 ∧ DataW.trod enc P w b0 sp held n f4.type ((cs.drop f4.offset).take (P.cellsOf f4.type)) = some y4 ∧ DataW.trod enc P w b0 sp held n f5.type ((cs.drop f5.offset).take (P.cellsOf f5.type)) = some y5 ∧ DataW.trod enc P w b0 sp held n f6.type ((cs.drop f6.offset).take (P.cellsOf f6.type)) = some y6 := by
  obtain ⟨xs, n, _, rfl, hl, hlen, hf⟩ := DataW.trod_struct ht h
  match xs, hlen with
  | [y0, y1, y2, y3, y4, y5, y6], _ => exact ⟨y0, y1, y2, y3, y4, y5, y6, n, hl, by simpa using hf 0 f0 rfl, by simpa using hf 1 f1 rfl, by simpa using hf 2 f2 rfl, by simpa using hf 3 f3 rfl, by simpa using hf 4 f4 rfl, by simpa using hf 5 f5 rfl, by simpa using hf 6 f6 rfl⟩
theorem open_st7 {t : TypeId} {f0 f1 f2 f3 f4 f5 f6 : Field} {v : Value} {d : DataW H} {p : List MemPlace} {n0 n1 n2 n3 n4 n5 n6 : Nat} (hs : P.underlying t = some (.struct #[f0, f1, f2, f3, f4, f5, f6]))
    (ho : f0.offset = 0 ∧ f1.offset = n0 ∧ f2.offset = n0 + n1 ∧ f3.offset = n0 + n1 + n2 ∧ f4.offset = n0 + n1 + n2 + n3 ∧ f5.offset = n0 + n1 + n2 + n3 + n4 ∧ f6.offset = n0 + n1 + n2 + n3 + n4 + n5) (hc : P.cellsOf f0.type = n0 ∧ P.cellsOf f1.type = n1 ∧ P.cellsOf f2.type = n2 ∧ P.cellsOf f3.type = n3 ∧ P.cellsOf f4.type = n4 ∧ P.cellsOf f5.type = n5 ∧ P.cellsOf f6.type = n6) (hC : P.cellsOf t = n0 + n1 + n2 + n3 + n4 + n5 + n6)
    (hv : Value.okWide P W r base t v) (h : DataW.Trod enc P w b0 sp held t v d p) :
    ∃ (X0 X1 X2 X3 X4 X5 X6 : List Value) (y0 y1 y2 y3 y4 y5 y6 : DataW H × List MemPlace) (n : Nat), v = .agg (X0 ++ X1 ++ X2 ++ X3 ++ X4 ++ X5 ++ X6).toArray ∧ DataW.trod enc P w b0 sp held n f0.type X0 = some y0 ∧ DataW.trod enc P w b0 sp held n f1.type X1 = some y1 ∧ DataW.trod enc P w b0 sp held n f2.type X2 = some y2 ∧ DataW.trod enc P w b0 sp held n f3.type X3 = some y3 ∧ DataW.trod enc P w b0 sp held n f4.type X4 = some y4 ∧ DataW.trod enc P w b0 sp held n f5.type X5 = some y5 ∧ DataW.trod enc P w b0 sp held n f6.type X6 = some y6 := by
  obtain ⟨cs, rfl, hsz⟩ := okWide_struct hs hv
  obtain ⟨fuel, hf⟩ := h
  obtain ⟨y0, y1, y2, y3, y4, y5, y6, n, hlen, h0, h1, h2, h3, h4, h5, h6⟩ := QeY hs hf
  obtain ⟨o0, o1, o2, o3, o4, o5, o6⟩ := ho
  obtain ⟨c0, c1, c2, c3, c4, c5, c6⟩ := hc
  rw [o0, c0] at h0
  rw [o1, c1] at h1
  rw [o2, c2] at h2
  rw [o3, c3] at h3
  rw [o4, c4] at h4
  rw [o5, c5] at h5
  rw [o6, c6] at h6
  refine ⟨_, _, _, _, _, _, _, y0, y1, y2, y3, y4, y5, y6, n, ?_, h0, h1, h2, h3, h4, h5, h6⟩
  congr 1
  have hl : cs.toList.length = n0 + n1 + n2 + n3 + n4 + n5 + n6 := by rw [Array.length_toList, hsz, hC]
  apply Array.ext'
  show cs.toList = _
  simp only [Value.cells, List.drop_zero]
  generalize cs.toList = l at hl
  have e1 : l.take (n0) ++ (l.drop (n0)).take n1 = l.take (n0 + n1) := by rw [List.take_add (i := n0)]
  have e2 : l.take (n0 + n1) ++ (l.drop (n0 + n1)).take n2 = l.take (n0 + n1 + n2) := by rw [List.take_add (i := n0 + n1)]
  have e3 : l.take (n0 + n1 + n2) ++ (l.drop (n0 + n1 + n2)).take n3 = l.take (n0 + n1 + n2 + n3) := by rw [List.take_add (i := n0 + n1 + n2)]
  have e4 : l.take (n0 + n1 + n2 + n3) ++ (l.drop (n0 + n1 + n2 + n3)).take n4 = l.take (n0 + n1 + n2 + n3 + n4) := by rw [List.take_add (i := n0 + n1 + n2 + n3)]
  have e5 : l.take (n0 + n1 + n2 + n3 + n4) ++ (l.drop (n0 + n1 + n2 + n3 + n4)).take n5 = l.take (n0 + n1 + n2 + n3 + n4 + n5) := by rw [List.take_add (i := n0 + n1 + n2 + n3 + n4)]
  have e6 : l.take (n0 + n1 + n2 + n3 + n4 + n5) ++ (l.drop (n0 + n1 + n2 + n3 + n4 + n5)).take n6 = l.take (n0 + n1 + n2 + n3 + n4 + n5 + n6) := by rw [List.take_add (i := n0 + n1 + n2 + n3 + n4 + n5)]
  rw [e1, e2, e3, e4, e5, e6, List.take_of_length_le (by omega)]
end
end Go.Proofs.Ytfelfmchachljaa.Auto
end
