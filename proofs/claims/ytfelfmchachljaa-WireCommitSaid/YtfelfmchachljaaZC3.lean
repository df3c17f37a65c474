/- Texts of this claim, joined (C3). -/
import Derived.Test.YtfelfmchachljaaZC2

section
namespace Go.Proofs.Ytfelfmchachljaa.Wr
open Go Go.RowKit
open Rely Auto Own Sha
set_option linter.unusedVariables false
set_option linter.unusedSimpArgs false
theorem QfQ (s : StV) (h : s.key.length = 32) : (cat (stP s))[32]? = some (.slice s.a s.rows.length s.c) := by
  unfold stP
  show (ints .u8 s.key ++ #[Value.slice s.a s.rows.length s.c])[32]? = _
  rw [Array.getElem?_append_right (by rw [Qac, h]; exact Nat.le_refl _), Qac, h]
  rfl
def QdA (r : RwV) : Bool := decide (r.xs.length ≤ 65535)
def stOk (t : StV) : Bool := decide (t.rows.length ≤ 255) && t.rows.all QdA
def QbT (n : NdC) (ts : List StV) : Bool := okN_ n && (decide (ts.length ≤ 5) && ts.all stOk)
theorem QcV {α : Type} (f : α → Bool) (ts : List α) (x : α) (h : x ∈ ts) (hf : f x = false) : ts.all f = false := by
  rw [List.all_eq_false]
  exact ⟨x, h, by rw [hf]; decide⟩
set_option maxHeartbeats 4000000 in
set_option maxRecDepth 100000 in
theorem QgT (n : NdC) (ts : List StV) (a_m : Option Addr) (c_m : Nat) (a_t : Option Addr) (c_t : Nat) (w : World) (hn : NdOk n) (hm : RdK .i64 w.heap.size n.ms (.slice a_m n.ms.length c_m) w) (hls : LsAt StAt 33 st0 w.heap.size w a_t ts) (h1 : okN_ n = false) : Calls Try.prog 65 #[.agg (cat [#[.bool n.us], #[.int .i64 n.nm], ints .u8 (n.key), ints .u8 (n.sg), ints .u8 (n.pa), #[.slice a_m n.ms.length c_m], #[.slice a_t ts.length c_t]])] w (Ret w (.bool false)) := by
  refine enter 52 [(0, .agg (cat [#[.bool n.us], #[.int .i64 n.nm], ints .u8 (n.key), ints .u8 (n.sg), ints .u8 (n.pa), #[.slice a_m n.ms.length c_m], #[.slice a_t ts.length c_t]]))] Try.func65 rfl rfl kj rfl ?_
  refine wp_seq_k fun K1 hK1 => ?_
  refine Qae ?_
  refine Qav (cat [#[.bool n.us], #[.int .i64 n.nm], ints .u8 (n.key), ints .u8 (n.sg), ints .u8 (n.pa), #[.slice a_m n.ms.length c_m], #[.slice a_t ts.length c_t]]) 57 1 rfl kj kj fun g2 W1 l2 e1 r2_1 => ?_
  have x1 : Ext w W1 := Ext.tr (Rely.Ext.refl w) e1
  have b2 : w.heap.size ≤ g2 := Nat.le_trans (Rely.Ext.refl w).size l2
  refine Qab (.bool false) 2 rfl kj kj ?_
  refine Qaf ?_
  refine hK1 _ _ ?_
  refine wp_seq_k fun K3 hK3 => ?_
  refine wp_seq_k fun K4 hK4 => ?_
  refine Qae ?_
  refine Qab (.pointer (some ⟨g2, 0, none⟩)) 5 rfl kj kj ?_
  refine Qab (.agg (cat [#[.bool n.us], #[.int .i64 n.nm], ints .u8 (n.key), ints .u8 (n.sg), ints .u8 (n.pa), #[.slice a_m n.ms.length c_m]])) 6 rfl kj (Qau 43 _ g2 0 57 _ _ _ r2_1 rfl kj (Qah [] [#[.bool n.us], #[.int .i64 n.nm], ints .u8 (n.key), ints .u8 (n.sg), ints .u8 (n.pa), #[.slice a_m n.ms.length c_m]] [#[.slice a_t ts.length c_t]] 0 kj) kj (isz (n := 99) kj (by rw [Qaa, Qaa, Qaa, Qaa, Qaa, Qaa]; simp only [Array.size_append, cat, ((Qac _ _).trans hn.gl), ((Qac _ _).trans hn.kl), ((Qac _ _).trans hn.pl)]; rfl))) ?_
  refine Qa1 (.bool false) 96 #[.agg (cat [#[.bool n.us], #[.int .i64 n.nm], ints .u8 (n.key), ints .u8 (n.sg), ints .u8 (n.pa), #[.slice a_m n.ms.length c_m]])] 7 rfl kj kj (Qg1 n.us n.nm n.key n.sg n.pa n.ms _ _ _ h1 _ hn.kl hn.gl hn.pl (RdK.here (RdK.ext hm x1))) fun W2 e2 => ?_
  have x2 : Ext w W2 := Ext.tr x1 e2
  refine Qab (.bool true) 8 rfl kj kj ?_
  refine Qab (.bool true) 9 rfl kj kj ?_
  refine Qao 10 rfl kj ?_
  refine Qao 11 rfl kj ?_
  refine Qao 12 rfl kj ?_
  refine Qao 13 rfl kj ?_
  refine Qab (.bool true) 14 rfl kj kj ?_
  refine Qaf ?_
  refine hK4 _ _ ?_
  refine cond_true kj ?_
  refine wp_seq_k fun K5 hK5 => ?_
  refine Qae ?_
  refine Qab (.bool false) 2 rfl kj kj ?_
  refine Qaf ?_
  refine hK5 _ _ ?_
  refine wp_ret ?_
  repeat (first | with_reducible refine goR1 ?_ | with_reducible refine goR2 ?_)
  exact (show bodyPost _ _ _ .ret _ _ from ret1 (.bool false) rfl (Qaw kj) ⟨rfl, x2⟩)
set_option maxHeartbeats 4000000 in
set_option maxRecDepth 100000 in
theorem QgS (n : NdC) (ts : List StV) (a_m : Option Addr) (c_m : Nat) (a_t : Option Addr) (c_t : Nat) (w : World) (hn : NdOk n) (hm : RdK .i64 w.heap.size n.ms (.slice a_m n.ms.length c_m) w) (hls : LsAt StAt 33 st0 w.heap.size w a_t ts) (h1 : okN_ n = true) (h2 : 5 < ts.length) : Calls Try.prog 65 #[.agg (cat [#[.bool n.us], #[.int .i64 n.nm], ints .u8 (n.key), ints .u8 (n.sg), ints .u8 (n.pa), #[.slice a_m n.ms.length c_m], #[.slice a_t ts.length c_t]])] w (Ret w (.bool false)) := by
  refine enter 52 [(0, .agg (cat [#[.bool n.us], #[.int .i64 n.nm], ints .u8 (n.key), ints .u8 (n.sg), ints .u8 (n.pa), #[.slice a_m n.ms.length c_m], #[.slice a_t ts.length c_t]]))] Try.func65 rfl rfl kj rfl ?_
  refine wp_seq_k fun K1 hK1 => ?_
  refine Qae ?_
  refine Qav (cat [#[.bool n.us], #[.int .i64 n.nm], ints .u8 (n.key), ints .u8 (n.sg), ints .u8 (n.pa), #[.slice a_m n.ms.length c_m], #[.slice a_t ts.length c_t]]) 57 1 rfl kj kj fun g2 W1 l2 e1 r2_1 => ?_
  have x1 : Ext w W1 := Ext.tr (Rely.Ext.refl w) e1
  have b2 : w.heap.size ≤ g2 := Nat.le_trans (Rely.Ext.refl w).size l2
  refine Qab (.bool false) 2 rfl kj kj ?_
  refine Qaf ?_
  refine hK1 _ _ ?_
  refine wp_seq_k fun K3 hK3 => ?_
  refine wp_seq_k fun K4 hK4 => ?_
  refine Qae ?_
  refine Qab (.pointer (some ⟨g2, 0, none⟩)) 5 rfl kj kj ?_
  refine Qab (.agg (cat [#[.bool n.us], #[.int .i64 n.nm], ints .u8 (n.key), ints .u8 (n.sg), ints .u8 (n.pa), #[.slice a_m n.ms.length c_m]])) 6 rfl kj (Qau 43 _ g2 0 57 _ _ _ r2_1 rfl kj (Qah [] [#[.bool n.us], #[.int .i64 n.nm], ints .u8 (n.key), ints .u8 (n.sg), ints .u8 (n.pa), #[.slice a_m n.ms.length c_m]] [#[.slice a_t ts.length c_t]] 0 kj) kj (isz (n := 99) kj (by rw [Qaa, Qaa, Qaa, Qaa, Qaa, Qaa]; simp only [Array.size_append, cat, ((Qac _ _).trans hn.gl), ((Qac _ _).trans hn.kl), ((Qac _ _).trans hn.pl)]; rfl))) ?_
  refine Qa1 (.bool true) 96 #[.agg (cat [#[.bool n.us], #[.int .i64 n.nm], ints .u8 (n.key), ints .u8 (n.sg), ints .u8 (n.pa), #[.slice a_m n.ms.length c_m]])] 7 rfl kj kj (Qg1 n.us n.nm n.key n.sg n.pa n.ms _ _ _ h1 _ hn.kl hn.gl hn.pl (RdK.here (RdK.ext hm x1))) fun W2 e2 => ?_
  have x2 : Ext w W2 := Ext.tr x1 e2
  refine Qab (.bool false) 8 rfl kj kj ?_
  refine Qab (.bool false) 9 rfl kj kj ?_
  refine Qab (.pointer (some ⟨g2, 99, none⟩)) 10 rfl kj kj ?_
  have r2_2 := (Qar r2_1 e2)
  refine Qab (.slice a_t ts.length c_t) 11 rfl kj (Qag 55 _ g2 99 57 _ (.slice a_t ts.length c_t) _ r2_2 rfl kj (Qah [#[.bool n.us], #[.int .i64 n.nm], ints .u8 (n.key), ints .u8 (n.sg), ints .u8 (n.pa), #[.slice a_m n.ms.length c_m]] [#[.slice a_t ts.length c_t]] [] 99 (by rw [Qaa, Qaa, Qaa, Qaa, Qaa, Qaa]; simp only [Array.size_append, cat, ((Qac _ _).trans hn.gl), ((Qac _ _).trans hn.kl), ((Qac _ _).trans hn.pl)]; rfl) 0 _ rfl) kj) ?_
  refine Qab (.int .i64 ((ts.length : Nat) : Int)) 12 rfl kj kj ?_
  refine Qab (.bool true) 13 rfl kj (Qax (u := .bool (decide (((ts.length : Nat) : Int) > 5))) kj (congrArg Value.bool (decide_eq_true (by omega)))) ?_
  refine Qab (.bool true) 14 rfl kj kj ?_
  refine Qaf ?_
  refine hK4 _ _ ?_
  refine cond_true kj ?_
  refine wp_seq_k fun K5 hK5 => ?_
  refine Qae ?_
  refine Qab (.bool false) 2 rfl kj kj ?_
  refine Qaf ?_
  refine hK5 _ _ ?_
  refine wp_ret ?_
  repeat (first | with_reducible refine goR1 ?_ | with_reducible refine goR2 ?_)
  exact (show bodyPost _ _ _ .ret _ _ from ret1 (.bool false) rfl (Qaw kj) ⟨rfl, x2⟩)
set_option maxHeartbeats 4000000 in
set_option maxRecDepth 100000 in
theorem QgR (n : NdC) (ts : List StV) (a_m : Option Addr) (c_m : Nat) (a_t : Option Addr) (c_t : Nat) (w : World) (hn : NdOk n) (hm : RdK .i64 w.heap.size n.ms (.slice a_m n.ms.length c_m) w) (hls : LsAt StAt 33 st0 w.heap.size w a_t ts) (h1 : okN_ n = true) (h2 : ts.length ≤ 5) : Calls Try.prog 65 #[.agg (cat [#[.bool n.us], #[.int .i64 n.nm], ints .u8 (n.key), ints .u8 (n.sg), ints .u8 (n.pa), #[.slice a_m n.ms.length c_m], #[.slice a_t ts.length c_t]])] w (Ret w (.bool (ts.all stOk))) := by
 refine enter 52 [(0, .agg (cat [#[.bool n.us], #[.int .i64 n.nm], ints .u8 (n.key), ints .u8 (n.sg), ints .u8 (n.pa), #[.slice a_m n.ms.length c_m], #[.slice a_t ts.length c_t]]))] Try.func65 rfl rfl kj rfl ?_
 refine wp_seq_k fun K1 hK1 => ?_
 refine Qae ?_
 refine Qav (cat [#[.bool n.us], #[.int .i64 n.nm], ints .u8 (n.key), ints .u8 (n.sg), ints .u8 (n.pa), #[.slice a_m n.ms.length c_m], #[.slice a_t ts.length c_t]]) 57 1 rfl kj kj fun g2 W1 l2 e1 r2_1 => ?_
 have x1 : Ext w W1 := Ext.tr (Rely.Ext.refl w) e1
 have b2 : w.heap.size ≤ g2 := Nat.le_trans (Rely.Ext.refl w).size l2
 refine Qab (.bool false) 2 rfl kj kj ?_
 refine Qaf ?_
 refine hK1 _ _ ?_
 refine wp_seq_k fun K3 hK3 => ?_
 refine wp_seq_k fun K4 hK4 => ?_
 refine Qae ?_
 refine Qab (.pointer (some ⟨g2, 0, none⟩)) 5 rfl kj kj ?_
 refine Qab (.agg (cat [#[.bool n.us], #[.int .i64 n.nm], ints .u8 (n.key), ints .u8 (n.sg), ints .u8 (n.pa), #[.slice a_m n.ms.length c_m]])) 6 rfl kj (Qau 43 _ g2 0 57 _ _ _ r2_1 rfl kj (Qah [] [#[.bool n.us], #[.int .i64 n.nm], ints .u8 (n.key), ints .u8 (n.sg), ints .u8 (n.pa), #[.slice a_m n.ms.length c_m]] [#[.slice a_t ts.length c_t]] 0 kj) kj (isz (n := 99) kj (by rw [Qaa, Qaa, Qaa, Qaa, Qaa, Qaa]; simp only [Array.size_append, cat, ((Qac _ _).trans hn.gl), ((Qac _ _).trans hn.kl), ((Qac _ _).trans hn.pl)]; rfl))) ?_
 refine Qa1 (.bool true) 96 #[.agg (cat [#[.bool n.us], #[.int .i64 n.nm], ints .u8 (n.key), ints .u8 (n.sg), ints .u8 (n.pa), #[.slice a_m n.ms.length c_m]])] 7 rfl kj kj (Qg1 n.us n.nm n.key n.sg n.pa n.ms _ _ _ h1 _ hn.kl hn.gl hn.pl (RdK.here (RdK.ext hm x1))) fun W2 e2 => ?_
 have x2 : Ext w W2 := Ext.tr x1 e2
 refine Qab (.bool false) 8 rfl kj kj ?_
 refine Qab (.bool false) 9 rfl kj kj ?_
 refine Qab (.pointer (some ⟨g2, 99, none⟩)) 10 rfl kj kj ?_
 have r2_2 := (Qar r2_1 e2)
 refine Qab (.slice a_t ts.length c_t) 11 rfl kj (Qag 55 _ g2 99 57 _ (.slice a_t ts.length c_t) _ r2_2 rfl kj (Qah [#[.bool n.us], #[.int .i64 n.nm], ints .u8 (n.key), ints .u8 (n.sg), ints .u8 (n.pa), #[.slice a_m n.ms.length c_m]] [#[.slice a_t ts.length c_t]] [] 99 (by rw [Qaa, Qaa, Qaa, Qaa, Qaa, Qaa]; simp only [Array.size_append, cat, ((Qac _ _).trans hn.gl), ((Qac _ _).trans hn.kl), ((Qac _ _).trans hn.pl)]; rfl) 0 _ rfl) kj) ?_
 refine Qab (.int .i64 ((ts.length : Nat) : Int)) 12 rfl kj kj ?_
 refine Qab (.bool false) 13 rfl kj (Qax (u := .bool (decide (((ts.length : Nat) : Int) > 5))) kj (congrArg Value.bool (decide_eq_false (by omega)))) ?_
 refine Qab (.bool false) 14 rfl kj kj ?_
 refine Qaf ?_
 refine hK4 _ _ ?_
 refine cond_false kj ?_
 refine wp_skip ?_
 refine hK3 _ _ ?_
 refine wp_seq_k fun K5 hK5 => ?_
 refine wp_seq_k fun K6 hK6 => ?_
 refine Qae ?_
 refine Qab (.int .i64 0) 3 rfl kj kj ?_
 refine Qaf ?_
 refine hK6 _ _ ?_
 refine wp_block ?_
 refine QaP (fun (s1 : Nat) => [(1, .pointer (some ⟨g2, 0, none⟩)), (3, .int .i64 ((s1 : Nat) : Int))]) (fun (s1 : Nat) W => (s1 ≤ ts.length) ∧ (((ts.take s1).all stOk) = true) ∧ (Ext W2 W) ∧ (Ext w W)) (fun (s1 : Nat) => ts.length - s1) 0 ⟨rfl, rfl, trivial⟩ ⟨(Nat.zero_le _), rfl, (Rely.Ext.refl W2), x2⟩ fun s1 X1 V1 hI1 => ?_
 obtain ⟨i, hs1⟩ : ∃ z, z = s1 := ⟨_, rfl⟩
 subst hs1
 obtain ⟨hi, hr, kk1, xx1⟩ := hI1
 replace hi : i ≤ ts.length := hi
 replace hr : ((ts.take i).all stOk) = true := hr
 replace kk1 : Ext W2 V1 := kk1
 replace xx1 : Ext w V1 := xx1
 have e3 := kk1
 refine wp_seq_k fun K7 hK7 => ?_
 refine wp_seq_k fun K8 hK8 => ?_
 refine Qae ?_
 refine Qab (.int .i64 ((i : Nat) : Int)) 15 rfl kj kj ?_
 refine Qab (.pointer (some ⟨g2, 99, none⟩)) 16 rfl kj kj ?_
 have r2_3 := (Qar r2_2 e3)
 refine Qab (.slice a_t ts.length c_t) 17 rfl kj (Qag 55 _ g2 99 57 _ (.slice a_t ts.length c_t) _ r2_3 rfl kj (Qah [#[.bool n.us], #[.int .i64 n.nm], ints .u8 (n.key), ints .u8 (n.sg), ints .u8 (n.pa), #[.slice a_m n.ms.length c_m]] [#[.slice a_t ts.length c_t]] [] 99 (by rw [Qaa, Qaa, Qaa, Qaa, Qaa, Qaa]; simp only [Array.size_append, cat, ((Qac _ _).trans hn.gl), ((Qac _ _).trans hn.kl), ((Qac _ _).trans hn.pl)]; rfl) 0 _ rfl) kj) ?_
 refine Qab (.int .i64 ((ts.length : Nat) : Int)) 18 rfl kj kj ?_
 refine Qab (.bool (decide (((i : Nat) : Int) < ((ts.length : Nat) : Int)))) 19 rfl kj kj ?_
 refine Qaf ?_
 refine hK8 _ _ ?_
 refine Qa5 (t := decide (((i : Nat) : Int) < ((ts.length : Nat) : Int))) kj (fun c9 => ?_) (fun c9 => ?_)
 ·skip
  have hlt19 : i < ts.length := by have := of_decide_eq_true c9; omega
  obtain ⟨gT, oT, hat, hels0⟩ := id hls
  have hel0nd := hels0 i (by omega)
  have hmemnd := Qb3 ts st0 i (by omega)
  obtain ⟨nd, hndnd⟩ : ∃ z, z = ts.getD i st0 := ⟨_, rfl⟩
  rw [← hndnd] at hel0nd hmemnd
  obtain ⟨gR, oR, haR, helsR0⟩ := hel0nd.rows
  refine wp_skip ?_
  refine hK7 _ _ ?_
  refine wp_seq_k fun K10 hK10 => ?_
  refine wp_block ?_
  refine wp_seq_k fun K11 hK11 => ?_
  refine wp_seq_k fun K12 hK12 => ?_
  refine Qae ?_
  refine Qab (.pointer (some ⟨g2, 99, none⟩)) 22 rfl kj kj ?_
  refine Qab (.slice a_t ts.length c_t) 23 rfl kj (Qag 55 _ g2 99 57 _ (.slice a_t ts.length c_t) _ r2_3 rfl kj (Qah [#[.bool n.us], #[.int .i64 n.nm], ints .u8 (n.key), ints .u8 (n.sg), ints .u8 (n.pa), #[.slice a_m n.ms.length c_m]] [#[.slice a_t ts.length c_t]] [] 99 (by rw [Qaa, Qaa, Qaa, Qaa, Qaa, Qaa]; simp only [Array.size_append, cat, ((Qac _ _).trans hn.gl), ((Qac _ _).trans hn.kl), ((Qac _ _).trans hn.pl)]; rfl) 0 _ rfl) kj) ?_
  refine Qab (.int .i64 ((i : Nat) : Int)) 24 rfl kj kj ?_
  refine Qab (.pointer (some ⟨gT, oT + i * 33, none⟩)) 25 rfl kj (Qbc 55 _ _ .i64 i gT oT ts.length c_t 129 33 a_t (hat (by omega)) rfl kj kj kj kj (by omega)) ?_
  refine Qab (.pointer (some ⟨gT, oT + i * 33 + 32, none⟩)) 26 rfl kj kj ?_
  refine Qab (.slice nd.a nd.rows.length nd.c) 27 rfl kj (QbG 127 _ gT (oT + i * 33 + 32) _ ((stK.keep hel0nd xx1.size (fun k _ hl => xx1.block k hl)).cell 32 _ (QfQ nd hel0nd.kl)) rfl kj kj) ?_
  refine Qab (.int .i64 ((nd.rows.length : Nat) : Int)) 28 rfl kj kj ?_
  refine Qab (.bool (decide (((nd.rows.length : Nat) : Int) > 255))) 29 rfl kj kj ?_
  refine Qaf ?_
  refine hK12 _ _ ?_
  refine Qa5 (t := decide (((nd.rows.length : Nat) : Int) > 255)) kj (fun c13 => ?_) (fun c13 => ?_)
  ·skip
   have hV : ts.all stOk = false := QcV stOk ts nd hmemnd (by have h9 := of_decide_eq_true c13; unfold stOk; rw [decide_eq_false (by omega), Bool.false_and])
   refine wp_seq_k fun K14 hK14 => ?_
   refine Qae ?_
   refine Qab (.bool false) 2 rfl kj kj ?_
   refine Qaf ?_
   refine hK14 _ _ ?_
   refine wp_ret ?_
   repeat (first | with_reducible refine goR1 ?_ | with_reducible refine goR2 ?_)
   exact (show bodyPost _ _ _ .ret _ _ from ret1 (.bool false) rfl (Qaw kj) ⟨by rw [hV], xx1⟩)
  ·skip
   have hrl : nd.rows.length ≤ 255 := by have h9 := of_decide_eq_false c13; omega
   refine wp_skip ?_
   refine hK11 _ _ ?_
   refine wp_seq_k fun K15 hK15 => ?_
   refine Qae ?_
   refine Qab (.int .i64 0) 4 rfl kj kj ?_
   refine Qaf ?_
   refine hK15 _ _ ?_
   refine wp_block ?_
   refine QaP (fun (s2 : Nat) => [(1, .pointer (some ⟨g2, 0, none⟩)), (3, .int .i64 ((i : Nat) : Int)), (4, .int .i64 ((s2 : Nat) : Int))]) (fun (s2 : Nat) W => (s2 ≤ nd.rows.length) ∧ (((nd.rows.take s2).all QdA) = true) ∧ (Ext V1 W) ∧ (Ext w W)) (fun (s2 : Nat) => nd.rows.length - s2) 0 ⟨rfl, rfl, rfl, trivial⟩ ⟨(Nat.zero_le _), rfl, (Rely.Ext.refl V1), xx1⟩ fun s2 X2 V2 hI2 => ?_
   obtain ⟨j, hs2⟩ : ∃ z, z = s2 := ⟨_, rfl⟩
   subst hs2
   obtain ⟨hj, hr2, kk2, xx2⟩ := hI2
   replace hj : j ≤ nd.rows.length := hj
   replace hr2 : ((nd.rows.take j).all QdA) = true := hr2
   replace kk2 : Ext V1 V2 := kk2
   replace xx2 : Ext w V2 := xx2
   have e4 := kk2
   refine wp_seq_k fun K16 hK16 => ?_
   refine wp_seq_k fun K17 hK17 => ?_
   refine Qae ?_
   refine Qab (.int .i64 ((j : Nat) : Int)) 30 rfl kj kj ?_
   refine Qab (.pointer (some ⟨g2, 99, none⟩)) 31 rfl kj kj ?_
   have r2_4 := (Qar r2_3 e4)
   refine Qab (.slice a_t ts.length c_t) 32 rfl kj (Qag 55 _ g2 99 57 _ (.slice a_t ts.length c_t) _ r2_4 rfl kj (Qah [#[.bool n.us], #[.int .i64 n.nm], ints .u8 (n.key), ints .u8 (n.sg), ints .u8 (n.pa), #[.slice a_m n.ms.length c_m]] [#[.slice a_t ts.length c_t]] [] 99 (by rw [Qaa, Qaa, Qaa, Qaa, Qaa, Qaa]; simp only [Array.size_append, cat, ((Qac _ _).trans hn.gl), ((Qac _ _).trans hn.kl), ((Qac _ _).trans hn.pl)]; rfl) 0 _ rfl) kj) ?_
   refine Qab (.int .i64 ((i : Nat) : Int)) 33 rfl kj kj ?_
   refine Qab (.pointer (some ⟨gT, oT + i * 33, none⟩)) 34 rfl kj (Qbc 55 _ _ .i64 i gT oT ts.length c_t 129 33 a_t (hat (by omega)) rfl kj kj kj kj (by omega)) ?_
   refine Qab (.pointer (some ⟨gT, oT + i * 33 + 32, none⟩)) 35 rfl kj kj ?_
   refine Qab (.slice nd.a nd.rows.length nd.c) 36 rfl kj (QbG 127 _ gT (oT + i * 33 + 32) _ ((stK.keep hel0nd xx2.size (fun k _ hl => xx2.block k hl)).cell 32 _ (QfQ nd hel0nd.kl)) rfl kj kj) ?_
   refine Qab (.int .i64 ((nd.rows.length : Nat) : Int)) 37 rfl kj kj ?_
   refine Qab (.bool (decide (((j : Nat) : Int) < ((nd.rows.length : Nat) : Int)))) 38 rfl kj kj ?_
   refine Qaf ?_
   refine hK17 _ _ ?_
   refine Qa5 (t := decide (((j : Nat) : Int) < ((nd.rows.length : Nat) : Int))) kj (fun c18 => ?_) (fun c18 => ?_)
   ·skip
    have hlt38 : j < nd.rows.length := by have := of_decide_eq_true c18; omega
    have hel0nr := helsR0 j (by omega)
    have hmemnr := Qb3 nd.rows rw0 j (by omega)
    obtain ⟨nr, hndnr⟩ : ∃ z, z = nd.rows.getD j rw0 := ⟨_, rfl⟩
    rw [← hndnr] at hel0nr hmemnr
    refine wp_skip ?_
    refine hK16 _ _ ?_
    refine wp_seq_k fun K19 hK19 => ?_
    refine wp_block ?_
    refine wp_seq_k fun K20 hK20 => ?_
    refine Qae ?_
    refine Qab (.pointer (some ⟨g2, 99, none⟩)) 41 rfl kj kj ?_
    refine Qab (.slice a_t ts.length c_t) 42 rfl kj (Qag 55 _ g2 99 57 _ (.slice a_t ts.length c_t) _ r2_4 rfl kj (Qah [#[.bool n.us], #[.int .i64 n.nm], ints .u8 (n.key), ints .u8 (n.sg), ints .u8 (n.pa), #[.slice a_m n.ms.length c_m]] [#[.slice a_t ts.length c_t]] [] 99 (by rw [Qaa, Qaa, Qaa, Qaa, Qaa, Qaa]; simp only [Array.size_append, cat, ((Qac _ _).trans hn.gl), ((Qac _ _).trans hn.kl), ((Qac _ _).trans hn.pl)]; rfl) 0 _ rfl) kj) ?_
    refine Qab (.int .i64 ((i : Nat) : Int)) 43 rfl kj kj ?_
    refine Qab (.pointer (some ⟨gT, oT + i * 33, none⟩)) 44 rfl kj (Qbc 55 _ _ .i64 i gT oT ts.length c_t 129 33 a_t (hat (by omega)) rfl kj kj kj kj (by omega)) ?_
    refine Qab (.pointer (some ⟨gT, oT + i * 33 + 32, none⟩)) 45 rfl kj kj ?_
    refine Qab (.slice nd.a nd.rows.length nd.c) 46 rfl kj (QbG 127 _ gT (oT + i * 33 + 32) _ ((stK.keep hel0nd xx2.size (fun k _ hl => xx2.block k hl)).cell 32 _ (QfQ nd hel0nd.kl)) rfl kj kj) ?_
    refine Qab (.int .i64 ((j : Nat) : Int)) 47 rfl kj kj ?_
    refine Qab (.pointer (some ⟨gR, oR + j * 1, none⟩)) 48 rfl kj (Qbc 127 _ _ .i64 j gR oR nd.rows.length nd.c 26 1 nd.a (haR (by omega)) rfl kj kj kj kj (by omega)) ?_
    refine Qab (.slice nr.a nr.xs.length nr.c) 49 rfl kj (QbG 26 _ gR (oR + j * 1) _ (rwK.keep hel0nr xx2.size (fun k _ hl => xx2.block k hl)).cell rfl kj kj) ?_
    refine Qab (.int .i64 ((nr.xs.length : Nat) : Int)) 50 rfl kj kj ?_
    refine Qab (.bool (decide (((nr.xs.length : Nat) : Int) > 65535))) 51 rfl kj kj ?_
    refine Qaf ?_
    refine hK20 _ _ ?_
    refine Qa5 (t := decide (((nr.xs.length : Nat) : Int) > 65535)) kj (fun c21 => ?_) (fun c21 => ?_)
    ·skip
     have hV : ts.all stOk = false := QcV stOk ts nd hmemnd (by have h9 := of_decide_eq_true c21; unfold stOk; rw [QcV QdA nd.rows nr hmemnr (decide_eq_false (by omega)), Bool.and_false])
     refine wp_seq_k fun K22 hK22 => ?_
     refine Qae ?_
     refine Qab (.bool false) 2 rfl kj kj ?_
     refine Qaf ?_
     refine hK22 _ _ ?_
     refine wp_ret ?_
     repeat (first | with_reducible refine goR1 ?_ | with_reducible refine goR2 ?_)
     exact (show bodyPost _ _ _ .ret _ _ from ret1 (.bool false) rfl (Qaw kj) ⟨by rw [hV], xx2⟩)
    ·skip
     have hro : QdA nr = true := by have h9 := of_decide_eq_false c21; exact decide_eq_true (by omega)
     refine wp_skip ?_
     refine hK19 _ _ ?_
     refine Qae ?_
     refine Qab (.int .i64 ((j : Nat) : Int)) 39 rfl kj kj ?_
     refine Qab (.int .i64 ((j + 1 : Nat) : Int)) 40 rfl kj (Qax (u := .int .i64 (IntKind.i64.wrap (((j : Nat) : Int) + 1))) kj (congrArg (Value.int .i64) (i64n _ _ (by omega) (by omega)))) ?_
     refine Qab (.int .i64 ((j + 1 : Nat) : Int)) 4 rfl kj kj ?_
     refine Qaf ?_
     repeat (first | with_reducible refine goX1 ?_ | with_reducible refine goX2 ?_ | with_reducible refine goX3 ?_)
     exact QaK (j + 1) ⟨rfl, rfl, rfl, trivial⟩ ⟨(by omega), (by rw [Qc3 nd.rows rw0 j hlt38, List.all_append, hr2, ← hndnr]; simp only [List.all_cons, List.all_nil, hro]; rfl), e4, xx2⟩ (by omega)
   ·skip
    have heq38 : j = nd.rows.length := by have := of_decide_eq_false c18; omega
    have hso : stOk nd = true := by unfold stOk; rw [heq38, List.take_length] at hr2; rw [decide_eq_true hrl, hr2]; rfl
    refine wp_exit ?_
    refine hK10 _ _ ?_
    refine Qae ?_
    refine Qab (.int .i64 ((i : Nat) : Int)) 20 rfl kj kj ?_
    refine Qab (.int .i64 ((i + 1 : Nat) : Int)) 21 rfl kj (Qax (u := .int .i64 (IntKind.i64.wrap (((i : Nat) : Int) + 1))) kj (congrArg (Value.int .i64) (i64n _ _ (by omega) (by omega)))) ?_
    refine Qab (.int .i64 ((i + 1 : Nat) : Int)) 3 rfl kj kj ?_
    refine Qaf ?_
    have y2_4 : Ext W2 V2 := (Rely.Ext.trans e3 e4)
    repeat (first | with_reducible refine goX1 ?_ | with_reducible refine goX2 ?_ | with_reducible refine goX3 ?_)
    exact QaK (i + 1) ⟨rfl, rfl, trivial⟩ ⟨(by omega), (by rw [Qc3 ts st0 i hlt19, List.all_append, hr, ← hndnd]; simp only [List.all_cons, List.all_nil, hso]; rfl), y2_4, xx2⟩ (by omega)
 ·skip
  have heq19 : i = ts.length := by have := of_decide_eq_false c9; omega
  have hV : ts.all stOk = true := by rw [heq19, List.take_length] at hr; exact hr
  refine wp_exit ?_
  refine hK5 _ _ ?_
  refine wp_seq_k fun K23 hK23 => ?_
  refine Qae ?_
  refine Qab (.bool true) 2 rfl kj kj ?_
  refine Qaf ?_
  refine hK23 _ _ ?_
  refine wp_ret ?_
  repeat (first | with_reducible refine goR1 ?_ | with_reducible refine goR2 ?_)
  exact (show bodyPost _ _ _ .ret _ _ from ret1 (.bool true) rfl (Qaw kj) ⟨by rw [hV], xx1⟩)
theorem QeQ (n : NdC) (ts : List StV) (a_m : Option Addr) (c_m : Nat) (a_t : Option Addr) (c_t : Nat) (b : Bool) (hb : QbT n ts = b) (w : World) (hn : NdOk n) (hm : RdK .i64 w.heap.size n.ms (.slice a_m n.ms.length c_m) w) (hls : LsAt StAt 33 st0 w.heap.size w a_t ts) : Calls Try.prog 65 #[.agg (cat [#[.bool n.us], #[.int .i64 n.nm], ints .u8 (n.key), ints .u8 (n.sg), ints .u8 (n.pa), #[.slice a_m n.ms.length c_m], #[.slice a_t ts.length c_t]])] w (Ret w (.bool b)) := by
  subst hb
  unfold QbT
  cases h1 : okN_ n with
  | false => rw [Bool.false_and]; exact QgT n ts a_m c_m a_t c_t w hn hm hls h1
  | true =>
    rw [Bool.true_and]
    by_cases h2 : ts.length ≤ 5
    · rw [decide_eq_true h2, Bool.true_and]; exact QgR n ts a_m c_m a_t c_t w hn hm hls h1 h2
    · rw [decide_eq_false h2, Bool.false_and]; exact QgS n ts a_m c_m a_t c_t w hn hm hls h1 (by omega)
end Go.Proofs.Ytfelfmchachljaa.Wr
end
section
namespace Go.Proofs.Ytfelfmchachljaa.Wr
open Go Go.RowKit
open Rely Auto Own Sha
set_option linter.unusedVariables false
set_option linter.unusedSimpArgs false
theorem Qe7 (us : Bool) (nm : Int) (key sg pa ms : List Int) (a_m : Option Addr) (c_m : Nat) (b : Bool) (hb : QbN us nm key sg pa ms = b) (w : World) (hkl : key.length = 32) (hgl : sg.length = 32) (hpl : pa.length = 32) (hm : RdK .i64 w.heap.size ms (.slice a_m ms.length c_m) w) : Calls Try.prog 96 #[.agg (cat [#[.bool us], #[.int .i64 nm], ints .u8 (key), ints .u8 (sg), ints .u8 (pa), #[.slice a_m ms.length c_m]])] w (Ret w (.bool b)) := hb ▸ QiV us nm key sg pa ms a_m c_m w hkl hgl hpl hm
theorem Qh8 (us : Bool) (nm : Int) (key sg pa ms : List Int) (a_m : Option Addr) (c_m : Nat) (b : Bool) (hb : QaE us nm key sg pa ms = b) (w : World) (hkl : key.length = 32) (hgl : sg.length = 32) (hpl : pa.length = 32) : Calls Try.prog 108 #[.agg (cat [#[.bool us], #[.int .i64 nm], ints .u8 (key), ints .u8 (sg), ints .u8 (pa), #[.slice a_m ms.length c_m]])] w (Ret w (.bool b)) := hb ▸ Qi5 us nm key sg pa ms a_m c_m w hkl hgl hpl
def QbA (ep fr kd : Int) (us : Bool) (nm : Int) (key sg pa ms start : List Int) (at_ : Int) : Bool := hgB ep fr && (if kd = 1 then QbN us nm key sg pa ms && (at_ == 0) else if kd = 2 then QbN us nm key sg pa ms && (decide (start = List.replicate 32 0) && (at_ == 0)) else if kd = 3 then QaE us nm key sg pa ms && (decide (start = List.replicate 32 0) && inB at_ 31) else false)
def QbV (grp : List Int) (ep fr : Int) (bas : List Int) (kd : Int) (us : Bool) (nm : Int) (key sg pa ms start : List Int) (at_ : Int) (sig : List Int) : List Int := Qa6 grp ep fr ++ bas ++ [byV kd 0] ++ (if kd = 3 then [] else Qbo us nm key sg pa ms) ++ (if kd = 1 then start else []) ++ (if kd = 3 then [byV at_ 0] else []) ++ sig
set_option maxHeartbeats 4000000 in
theorem QgV (grp : List Int) (ep fr : Int) (bas : List Int) (kd : Int) (us : Bool) (nm : Int) (key sg pa ms start : List Int) (at_ : Int) (sig : List Int) (a_m : Option Addr) (c_m : Nat) (w : World) (hrl : grp.length = 32) (hrb : Qaj grp) (hal : bas.length = 32) (hab : Qaj bas) (hkl : key.length = 32) (hgl : sg.length = 32) (hpl : pa.length = 32) (hkb : Qaj key) (hgb : Qaj sg) (hpb : Qaj pa) (hml : ms.length ≤ 1000000) (htl : start.length = 32) (htb : Qaj start) (hil : sig.length = 64) (hib : Qaj sig) (hm : RdK .i64 w.heap.size ms (.slice a_m ms.length c_m) w) (h0 : hgB ep fr = false) : Calls Try.prog 58 #[.agg (cat [ints .u8 (grp), #[.int .i64 ep], #[.int .i64 fr], ints .u8 (bas), #[.int .i64 kd], #[.bool us], #[.int .i64 nm], ints .u8 (key), ints .u8 (sg), ints .u8 (pa), #[.slice a_m ms.length c_m], ints .u8 (start), #[.int .i64 at_], ints .u8 (sig)])] w (Ret w (.bool false)) := by
  refine enter 52 [(0, .agg (cat [ints .u8 (grp), #[.int .i64 ep], #[.int .i64 fr], ints .u8 (bas), #[.int .i64 kd], #[.bool us], #[.int .i64 nm], ints .u8 (key), ints .u8 (sg), ints .u8 (pa), #[.slice a_m ms.length c_m], ints .u8 (start), #[.int .i64 at_], ints .u8 (sig)]))] Try.func58 rfl rfl kj rfl ?_
  refine wp_seq_k fun K1 hK1 => ?_
  refine Qae ?_
  refine Qav (cat [ints .u8 (grp), #[.int .i64 ep], #[.int .i64 fr], ints .u8 (bas), #[.int .i64 kd], #[.bool us], #[.int .i64 nm], ints .u8 (key), ints .u8 (sg), ints .u8 (pa), #[.slice a_m ms.length c_m], ints .u8 (start), #[.int .i64 at_], ints .u8 (sig)]) 47 1 rfl kj kj fun g2 W1 l2 e1 r2_1 => ?_
  have x1 : Ext w W1 := Ext.tr (Rely.Ext.refl w) e1
  have b2 : w.heap.size ≤ g2 := Nat.le_trans (Rely.Ext.refl w).size l2
  refine Qab (.bool false) 2 rfl kj kj ?_
  refine Qaf ?_
  refine hK1 _ _ ?_
  refine wp_seq_k fun K3 hK3 => ?_
  refine wp_seq_k fun K4 hK4 => ?_
  refine Qae ?_
  refine Qab (.pointer (some ⟨g2, 32, none⟩)) 4 rfl kj kj ?_
  refine Qab (.int .i64 ep) 5 rfl kj (Qag 3 _ g2 32 47 _ (.int .i64 ep) _ r2_1 rfl kj (Qah [ints .u8 (grp)] [#[.int .i64 ep]] [#[.int .i64 fr], ints .u8 (bas), #[.int .i64 kd], #[.bool us], #[.int .i64 nm], ints .u8 (key), ints .u8 (sg), ints .u8 (pa), #[.slice a_m ms.length c_m], ints .u8 (start), #[.int .i64 at_], ints .u8 (sig)] 32 ((Qac _ _).trans hrl) 0 _ rfl) kj) ?_
  refine Qab (.pointer (some ⟨g2, 33, none⟩)) 6 rfl kj kj ?_
  refine Qab (.int .i64 fr) 7 rfl kj (Qag 3 _ g2 33 47 _ (.int .i64 fr) _ r2_1 rfl kj (Qah [ints .u8 (grp), #[.int .i64 ep]] [#[.int .i64 fr]] [ints .u8 (bas), #[.int .i64 kd], #[.bool us], #[.int .i64 nm], ints .u8 (key), ints .u8 (sg), ints .u8 (pa), #[.slice a_m ms.length c_m], ints .u8 (start), #[.int .i64 at_], ints .u8 (sig)] 33 (by rw [Qaa, Qaa]; simp only [Array.size_append, cat, ((Qac _ _).trans hrl)]; rfl) 0 _ rfl) kj) ?_
  refine Qa1 (.bool false) 64 #[.int .i64 ep, .int .i64 fr] 8 rfl kj kj ((hgE ep fr _ h0) _) fun W2 e2 => ?_
  have x2 : Ext w W2 := Ext.tr x1 e2
  refine Qab (.bool true) 9 rfl kj kj ?_
  refine Qaf ?_
  refine hK4 _ _ ?_
  refine cond_true kj ?_
  refine wp_seq_k fun K5 hK5 => ?_
  refine Qae ?_
  refine Qab (.bool false) 2 rfl kj kj ?_
  refine Qaf ?_
  refine hK5 _ _ ?_
  refine wp_ret ?_
  repeat (first | with_reducible refine goR1 ?_ | with_reducible refine goR2 ?_)
  exact (show bodyPost _ _ _ .ret _ _ from ret1 (.bool false) rfl (Qaw kj) ⟨rfl, x2⟩)
set_option maxHeartbeats 4000000 in
theorem Qgh (grp : List Int) (ep fr : Int) (bas : List Int) (us : Bool) (nm : Int) (key sg pa ms start : List Int) (at_ : Int) (sig : List Int) (a_m : Option Addr) (c_m : Nat) (w : World) (hrl : grp.length = 32) (hrb : Qaj grp) (hal : bas.length = 32) (hab : Qaj bas) (hkl : key.length = 32) (hgl : sg.length = 32) (hpl : pa.length = 32) (hkb : Qaj key) (hgb : Qaj sg) (hpb : Qaj pa) (hml : ms.length ≤ 1000000) (htl : start.length = 32) (htb : Qaj start) (hil : sig.length = 64) (hib : Qaj sig) (hm : RdK .i64 w.heap.size ms (.slice a_m ms.length c_m) w) (h0 : hgB ep fr = true) (h1 : QbN us nm key sg pa ms = false) : Calls Try.prog 58 #[.agg (cat [ints .u8 (grp), #[.int .i64 ep], #[.int .i64 fr], ints .u8 (bas), #[.int .i64 1], #[.bool us], #[.int .i64 nm], ints .u8 (key), ints .u8 (sg), ints .u8 (pa), #[.slice a_m ms.length c_m], ints .u8 (start), #[.int .i64 at_], ints .u8 (sig)])] w (Ret w (.bool false)) := by
  refine enter 52 [(0, .agg (cat [ints .u8 (grp), #[.int .i64 ep], #[.int .i64 fr], ints .u8 (bas), #[.int .i64 1], #[.bool us], #[.int .i64 nm], ints .u8 (key), ints .u8 (sg), ints .u8 (pa), #[.slice a_m ms.length c_m], ints .u8 (start), #[.int .i64 at_], ints .u8 (sig)]))] Try.func58 rfl rfl kj rfl ?_
  refine wp_seq_k fun K1 hK1 => ?_
  refine Qae ?_
  refine Qav (cat [ints .u8 (grp), #[.int .i64 ep], #[.int .i64 fr], ints .u8 (bas), #[.int .i64 1], #[.bool us], #[.int .i64 nm], ints .u8 (key), ints .u8 (sg), ints .u8 (pa), #[.slice a_m ms.length c_m], ints .u8 (start), #[.int .i64 at_], ints .u8 (sig)]) 47 1 rfl kj kj fun g2 W1 l2 e1 r2_1 => ?_
  have x1 : Ext w W1 := Ext.tr (Rely.Ext.refl w) e1
  have b2 : w.heap.size ≤ g2 := Nat.le_trans (Rely.Ext.refl w).size l2
  refine Qab (.bool false) 2 rfl kj kj ?_
  refine Qaf ?_
  refine hK1 _ _ ?_
  refine wp_seq_k fun K3 hK3 => ?_
  refine wp_seq_k fun K4 hK4 => ?_
  refine Qae ?_
  refine Qab (.pointer (some ⟨g2, 32, none⟩)) 4 rfl kj kj ?_
  refine Qab (.int .i64 ep) 5 rfl kj (Qag 3 _ g2 32 47 _ (.int .i64 ep) _ r2_1 rfl kj (Qah [ints .u8 (grp)] [#[.int .i64 ep]] [#[.int .i64 fr], ints .u8 (bas), #[.int .i64 1], #[.bool us], #[.int .i64 nm], ints .u8 (key), ints .u8 (sg), ints .u8 (pa), #[.slice a_m ms.length c_m], ints .u8 (start), #[.int .i64 at_], ints .u8 (sig)] 32 ((Qac _ _).trans hrl) 0 _ rfl) kj) ?_
  refine Qab (.pointer (some ⟨g2, 33, none⟩)) 6 rfl kj kj ?_
  refine Qab (.int .i64 fr) 7 rfl kj (Qag 3 _ g2 33 47 _ (.int .i64 fr) _ r2_1 rfl kj (Qah [ints .u8 (grp), #[.int .i64 ep]] [#[.int .i64 fr]] [ints .u8 (bas), #[.int .i64 1], #[.bool us], #[.int .i64 nm], ints .u8 (key), ints .u8 (sg), ints .u8 (pa), #[.slice a_m ms.length c_m], ints .u8 (start), #[.int .i64 at_], ints .u8 (sig)] 33 (by rw [Qaa, Qaa]; simp only [Array.size_append, cat, ((Qac _ _).trans hrl)]; rfl) 0 _ rfl) kj) ?_
  refine Qa1 (.bool true) 64 #[.int .i64 ep, .int .i64 fr] 8 rfl kj kj ((hgE ep fr _ h0) _) fun W2 e2 => ?_
  have x2 : Ext w W2 := Ext.tr x1 e2
  refine Qab (.bool false) 9 rfl kj kj ?_
  refine Qaf ?_
  refine hK4 _ _ ?_
  refine cond_false kj ?_
  refine wp_skip ?_
  refine hK3 _ _ ?_
  refine wp_seq_k fun K5 hK5 => ?_
  refine Qae ?_
  refine Qab (.pointer (some ⟨g2, 166, none⟩)) 10 rfl kj kj ?_
  have r2_2 := (Qar r2_1 e2)
  refine Qab (.agg (ints .u8 (start))) 11 rfl kj (Qau 40 _ g2 166 47 _ _ _ r2_2 rfl kj (Qah [ints .u8 (grp), #[.int .i64 ep], #[.int .i64 fr], ints .u8 (bas), #[.int .i64 1], #[.bool us], #[.int .i64 nm], ints .u8 (key), ints .u8 (sg), ints .u8 (pa), #[.slice a_m ms.length c_m]] [ints .u8 (start)] [#[.int .i64 at_], ints .u8 (sig)] 166 (by rw [Qaa, Qaa, Qaa, Qaa, Qaa, Qaa, Qaa, Qaa, Qaa, Qaa, Qaa]; simp only [Array.size_append, cat, ((Qac _ _).trans hal), ((Qac _ _).trans hgl), ((Qac _ _).trans hkl), ((Qac _ _).trans hpl), ((Qac _ _).trans hrl)]; rfl)) kj (isz (n := 32) kj ((Qac _ _).trans htl))) ?_
  refine Qab (.agg (ints .u8 (List.replicate 32 0))) 12 rfl kj kj ?_
  refine Qab (.bool (decide (start = List.replicate 32 0))) 13 rfl kj (Qa7 40 _ _ _ _ _ (.bool (decide (start = List.replicate 32 0))) rfl kj kj kj (QaD 40 (e := 5) (k := .u8) (start) (List.replicate 32 0) rfl htl (List.length_replicate (n := 32)) kj kj kj _)) ?_
  refine Qab (.bool (decide (start = List.replicate 32 0))) 3 rfl kj kj ?_
  refine Qaf ?_
  refine hK5 _ _ ?_
  refine wp_seq_k fun K6 hK6 => ?_
  refine wp_seq_k fun K7 hK7 => ?_
  refine Qae ?_
  refine Qab (.pointer (some ⟨g2, 66, none⟩)) 14 rfl kj kj ?_
  refine Qab (.int .i64 1) 15 rfl kj (Qag 3 _ g2 66 47 _ (.int .i64 1) _ r2_2 rfl kj (Qah [ints .u8 (grp), #[.int .i64 ep], #[.int .i64 fr], ints .u8 (bas)] [#[.int .i64 1]] [#[.bool us], #[.int .i64 nm], ints .u8 (key), ints .u8 (sg), ints .u8 (pa), #[.slice a_m ms.length c_m], ints .u8 (start), #[.int .i64 at_], ints .u8 (sig)] 66 (by rw [Qaa, Qaa, Qaa, Qaa]; simp only [Array.size_append, cat, ((Qac _ _).trans hal), ((Qac _ _).trans hrl)]; rfl) 0 _ rfl) kj) ?_
  refine Qaf ?_
  refine hK7 _ _ ?_
  refine wp_block ?_
  refine wp_seq_k fun K8 hK8 => ?_
  refine Qae ?_
  refine Qab (.bool true) 17 rfl kj kj ?_
  refine Qab (.bool true) 16 rfl kj kj ?_
  refine Qaf ?_
  refine hK8 _ _ ?_
  refine cond_true kj ?_
  refine wp_seq_k fun K9 hK9 => ?_
  refine Qae ?_
  refine Qab (.pointer (some ⟨g2, 67, none⟩)) 18 rfl kj kj ?_
  refine Qab (.agg (cat [#[.bool us], #[.int .i64 nm], ints .u8 (key), ints .u8 (sg), ints .u8 (pa), #[.slice a_m ms.length c_m]])) 19 rfl kj (Qau 43 _ g2 67 47 _ _ _ r2_2 rfl kj (Qah [ints .u8 (grp), #[.int .i64 ep], #[.int .i64 fr], ints .u8 (bas), #[.int .i64 1]] [#[.bool us], #[.int .i64 nm], ints .u8 (key), ints .u8 (sg), ints .u8 (pa), #[.slice a_m ms.length c_m]] [ints .u8 (start), #[.int .i64 at_], ints .u8 (sig)] 67 (by rw [Qaa, Qaa, Qaa, Qaa, Qaa]; simp only [Array.size_append, cat, ((Qac _ _).trans hal), ((Qac _ _).trans hrl)]; rfl)) kj (isz (n := 99) kj (by rw [Qaa, Qaa, Qaa, Qaa, Qaa, Qaa]; simp only [Array.size_append, cat, ((Qac _ _).trans hgl), ((Qac _ _).trans hkl), ((Qac _ _).trans hpl)]; rfl))) ?_
  refine Qa1 (.bool false) 96 #[.agg (cat [#[.bool us], #[.int .i64 nm], ints .u8 (key), ints .u8 (sg), ints .u8 (pa), #[.slice a_m ms.length c_m]])] 20 rfl kj kj (Qe7 us nm key sg pa ms _ _ _ h1 _ hkl hgl hpl (RdK.here (RdK.ext hm x2))) fun W3 e3 => ?_
  have x3 : Ext w W3 := Ext.tr x2 e3
  refine Qab (.bool false) 21 rfl kj kj ?_
  refine Qao 22 rfl kj ?_
  refine Qao 23 rfl kj ?_
  refine Qao 24 rfl kj ?_
  refine Qab (.bool false) 25 rfl kj kj ?_
  refine Qab (.bool false) 2 rfl kj kj ?_
  refine Qaf ?_
  refine hK9 _ _ ?_
  refine wp_ret ?_
  repeat (first | with_reducible refine goR1 ?_ | with_reducible refine goR2 ?_)
  exact (show bodyPost _ _ _ .ret _ _ from ret1 (.bool false) rfl (Qaw kj) ⟨rfl, x3⟩)
set_option maxHeartbeats 4000000 in
theorem Qgg (grp : List Int) (ep fr : Int) (bas : List Int) (us : Bool) (nm : Int) (key sg pa ms start : List Int) (at_ : Int) (sig : List Int) (a_m : Option Addr) (c_m : Nat) (w : World) (hrl : grp.length = 32) (hrb : Qaj grp) (hal : bas.length = 32) (hab : Qaj bas) (hkl : key.length = 32) (hgl : sg.length = 32) (hpl : pa.length = 32) (hkb : Qaj key) (hgb : Qaj sg) (hpb : Qaj pa) (hml : ms.length ≤ 1000000) (htl : start.length = 32) (htb : Qaj start) (hil : sig.length = 64) (hib : Qaj sig) (hm : RdK .i64 w.heap.size ms (.slice a_m ms.length c_m) w) (h0 : hgB ep fr = true) (h1 : QbN us nm key sg pa ms = true) : Calls Try.prog 58 #[.agg (cat [ints .u8 (grp), #[.int .i64 ep], #[.int .i64 fr], ints .u8 (bas), #[.int .i64 1], #[.bool us], #[.int .i64 nm], ints .u8 (key), ints .u8 (sg), ints .u8 (pa), #[.slice a_m ms.length c_m], ints .u8 (start), #[.int .i64 at_], ints .u8 (sig)])] w (Ret w (.bool (at_ == 0))) := by
  refine enter 52 [(0, .agg (cat [ints .u8 (grp), #[.int .i64 ep], #[.int .i64 fr], ints .u8 (bas), #[.int .i64 1], #[.bool us], #[.int .i64 nm], ints .u8 (key), ints .u8 (sg), ints .u8 (pa), #[.slice a_m ms.length c_m], ints .u8 (start), #[.int .i64 at_], ints .u8 (sig)]))] Try.func58 rfl rfl kj rfl ?_
  refine wp_seq_k fun K1 hK1 => ?_
  refine Qae ?_
  refine Qav (cat [ints .u8 (grp), #[.int .i64 ep], #[.int .i64 fr], ints .u8 (bas), #[.int .i64 1], #[.bool us], #[.int .i64 nm], ints .u8 (key), ints .u8 (sg), ints .u8 (pa), #[.slice a_m ms.length c_m], ints .u8 (start), #[.int .i64 at_], ints .u8 (sig)]) 47 1 rfl kj kj fun g2 W1 l2 e1 r2_1 => ?_
  have x1 : Ext w W1 := Ext.tr (Rely.Ext.refl w) e1
  have b2 : w.heap.size ≤ g2 := Nat.le_trans (Rely.Ext.refl w).size l2
  refine Qab (.bool false) 2 rfl kj kj ?_
  refine Qaf ?_
  refine hK1 _ _ ?_
  refine wp_seq_k fun K3 hK3 => ?_
  refine wp_seq_k fun K4 hK4 => ?_
  refine Qae ?_
  refine Qab (.pointer (some ⟨g2, 32, none⟩)) 4 rfl kj kj ?_
  refine Qab (.int .i64 ep) 5 rfl kj (Qag 3 _ g2 32 47 _ (.int .i64 ep) _ r2_1 rfl kj (Qah [ints .u8 (grp)] [#[.int .i64 ep]] [#[.int .i64 fr], ints .u8 (bas), #[.int .i64 1], #[.bool us], #[.int .i64 nm], ints .u8 (key), ints .u8 (sg), ints .u8 (pa), #[.slice a_m ms.length c_m], ints .u8 (start), #[.int .i64 at_], ints .u8 (sig)] 32 ((Qac _ _).trans hrl) 0 _ rfl) kj) ?_
  refine Qab (.pointer (some ⟨g2, 33, none⟩)) 6 rfl kj kj ?_
  refine Qab (.int .i64 fr) 7 rfl kj (Qag 3 _ g2 33 47 _ (.int .i64 fr) _ r2_1 rfl kj (Qah [ints .u8 (grp), #[.int .i64 ep]] [#[.int .i64 fr]] [ints .u8 (bas), #[.int .i64 1], #[.bool us], #[.int .i64 nm], ints .u8 (key), ints .u8 (sg), ints .u8 (pa), #[.slice a_m ms.length c_m], ints .u8 (start), #[.int .i64 at_], ints .u8 (sig)] 33 (by rw [Qaa, Qaa]; simp only [Array.size_append, cat, ((Qac _ _).trans hrl)]; rfl) 0 _ rfl) kj) ?_
  refine Qa1 (.bool true) 64 #[.int .i64 ep, .int .i64 fr] 8 rfl kj kj ((hgE ep fr _ h0) _) fun W2 e2 => ?_
  have x2 : Ext w W2 := Ext.tr x1 e2
  refine Qab (.bool false) 9 rfl kj kj ?_
  refine Qaf ?_
  refine hK4 _ _ ?_
  refine cond_false kj ?_
  refine wp_skip ?_
  refine hK3 _ _ ?_
  refine wp_seq_k fun K5 hK5 => ?_
  refine Qae ?_
  refine Qab (.pointer (some ⟨g2, 166, none⟩)) 10 rfl kj kj ?_
  have r2_2 := (Qar r2_1 e2)
  refine Qab (.agg (ints .u8 (start))) 11 rfl kj (Qau 40 _ g2 166 47 _ _ _ r2_2 rfl kj (Qah [ints .u8 (grp), #[.int .i64 ep], #[.int .i64 fr], ints .u8 (bas), #[.int .i64 1], #[.bool us], #[.int .i64 nm], ints .u8 (key), ints .u8 (sg), ints .u8 (pa), #[.slice a_m ms.length c_m]] [ints .u8 (start)] [#[.int .i64 at_], ints .u8 (sig)] 166 (by rw [Qaa, Qaa, Qaa, Qaa, Qaa, Qaa, Qaa, Qaa, Qaa, Qaa, Qaa]; simp only [Array.size_append, cat, ((Qac _ _).trans hal), ((Qac _ _).trans hgl), ((Qac _ _).trans hkl), ((Qac _ _).trans hpl), ((Qac _ _).trans hrl)]; rfl)) kj (isz (n := 32) kj ((Qac _ _).trans htl))) ?_
  refine Qab (.agg (ints .u8 (List.replicate 32 0))) 12 rfl kj kj ?_
  refine Qab (.bool (decide (start = List.replicate 32 0))) 13 rfl kj (Qa7 40 _ _ _ _ _ (.bool (decide (start = List.replicate 32 0))) rfl kj kj kj (QaD 40 (e := 5) (k := .u8) (start) (List.replicate 32 0) rfl htl (List.length_replicate (n := 32)) kj kj kj _)) ?_
  refine Qab (.bool (decide (start = List.replicate 32 0))) 3 rfl kj kj ?_
  refine Qaf ?_
  refine hK5 _ _ ?_
  refine wp_seq_k fun K6 hK6 => ?_
  refine wp_seq_k fun K7 hK7 => ?_
  refine Qae ?_
  refine Qab (.pointer (some ⟨g2, 66, none⟩)) 14 rfl kj kj ?_
  refine Qab (.int .i64 1) 15 rfl kj (Qag 3 _ g2 66 47 _ (.int .i64 1) _ r2_2 rfl kj (Qah [ints .u8 (grp), #[.int .i64 ep], #[.int .i64 fr], ints .u8 (bas)] [#[.int .i64 1]] [#[.bool us], #[.int .i64 nm], ints .u8 (key), ints .u8 (sg), ints .u8 (pa), #[.slice a_m ms.length c_m], ints .u8 (start), #[.int .i64 at_], ints .u8 (sig)] 66 (by rw [Qaa, Qaa, Qaa, Qaa]; simp only [Array.size_append, cat, ((Qac _ _).trans hal), ((Qac _ _).trans hrl)]; rfl) 0 _ rfl) kj) ?_
  refine Qaf ?_
  refine hK7 _ _ ?_
  refine wp_block ?_
  refine wp_seq_k fun K8 hK8 => ?_
  refine Qae ?_
  refine Qab (.bool true) 17 rfl kj kj ?_
  refine Qab (.bool true) 16 rfl kj kj ?_
  refine Qaf ?_
  refine hK8 _ _ ?_
  refine cond_true kj ?_
  refine wp_seq_k fun K9 hK9 => ?_
  refine Qae ?_
  refine Qab (.pointer (some ⟨g2, 67, none⟩)) 18 rfl kj kj ?_
  refine Qab (.agg (cat [#[.bool us], #[.int .i64 nm], ints .u8 (key), ints .u8 (sg), ints .u8 (pa), #[.slice a_m ms.length c_m]])) 19 rfl kj (Qau 43 _ g2 67 47 _ _ _ r2_2 rfl kj (Qah [ints .u8 (grp), #[.int .i64 ep], #[.int .i64 fr], ints .u8 (bas), #[.int .i64 1]] [#[.bool us], #[.int .i64 nm], ints .u8 (key), ints .u8 (sg), ints .u8 (pa), #[.slice a_m ms.length c_m]] [ints .u8 (start), #[.int .i64 at_], ints .u8 (sig)] 67 (by rw [Qaa, Qaa, Qaa, Qaa, Qaa]; simp only [Array.size_append, cat, ((Qac _ _).trans hal), ((Qac _ _).trans hrl)]; rfl)) kj (isz (n := 99) kj (by rw [Qaa, Qaa, Qaa, Qaa, Qaa, Qaa]; simp only [Array.size_append, cat, ((Qac _ _).trans hgl), ((Qac _ _).trans hkl), ((Qac _ _).trans hpl)]; rfl))) ?_
  refine Qa1 (.bool true) 96 #[.agg (cat [#[.bool us], #[.int .i64 nm], ints .u8 (key), ints .u8 (sg), ints .u8 (pa), #[.slice a_m ms.length c_m]])] 20 rfl kj kj (Qe7 us nm key sg pa ms _ _ _ h1 _ hkl hgl hpl (RdK.here (RdK.ext hm x2))) fun W3 e3 => ?_
  have x3 : Ext w W3 := Ext.tr x2 e3
  refine Qab (.bool true) 21 rfl kj kj ?_
  refine Qab (.pointer (some ⟨g2, 198, none⟩)) 22 rfl kj kj ?_
  have r2_3 := (Qar r2_2 e3)
  refine Qab (.int .i64 at_) 23 rfl kj (Qag 3 _ g2 198 47 _ (.int .i64 at_) _ r2_3 rfl kj (Qah [ints .u8 (grp), #[.int .i64 ep], #[.int .i64 fr], ints .u8 (bas), #[.int .i64 1], #[.bool us], #[.int .i64 nm], ints .u8 (key), ints .u8 (sg), ints .u8 (pa), #[.slice a_m ms.length c_m], ints .u8 (start)] [#[.int .i64 at_]] [ints .u8 (sig)] 198 (by rw [Qaa, Qaa, Qaa, Qaa, Qaa, Qaa, Qaa, Qaa, Qaa, Qaa, Qaa, Qaa]; simp only [Array.size_append, cat, ((Qac _ _).trans hal), ((Qac _ _).trans hgl), ((Qac _ _).trans hkl), ((Qac _ _).trans hpl), ((Qac _ _).trans hrl), ((Qac _ _).trans htl)]; rfl) 0 _ rfl) kj) ?_
  refine Qab (.bool ((at_ == 0))) 24 rfl kj kj ?_
  refine Qab (.bool ((at_ == 0))) 25 rfl kj kj ?_
  refine Qab (.bool ((at_ == 0))) 2 rfl kj kj ?_
  refine Qaf ?_
  refine hK9 _ _ ?_
  refine wp_ret ?_
  repeat (first | with_reducible refine goR1 ?_ | with_reducible refine goR2 ?_)
  exact (show bodyPost _ _ _ .ret _ _ from ret1 (.bool ((at_ == 0))) rfl (Qaw kj) ⟨rfl, x3⟩)
set_option maxHeartbeats 4000000 in
theorem Qgf (grp : List Int) (ep fr : Int) (bas : List Int) (us : Bool) (nm : Int) (key sg pa ms start : List Int) (at_ : Int) (sig : List Int) (a_m : Option Addr) (c_m : Nat) (w : World) (hrl : grp.length = 32) (hrb : Qaj grp) (hal : bas.length = 32) (hab : Qaj bas) (hkl : key.length = 32) (hgl : sg.length = 32) (hpl : pa.length = 32) (hkb : Qaj key) (hgb : Qaj sg) (hpb : Qaj pa) (hml : ms.length ≤ 1000000) (htl : start.length = 32) (htb : Qaj start) (hil : sig.length = 64) (hib : Qaj sig) (hm : RdK .i64 w.heap.size ms (.slice a_m ms.length c_m) w) (h0 : hgB ep fr = true) (h1 : QbN us nm key sg pa ms = false) : Calls Try.prog 58 #[.agg (cat [ints .u8 (grp), #[.int .i64 ep], #[.int .i64 fr], ints .u8 (bas), #[.int .i64 2], #[.bool us], #[.int .i64 nm], ints .u8 (key), ints .u8 (sg), ints .u8 (pa), #[.slice a_m ms.length c_m], ints .u8 (start), #[.int .i64 at_], ints .u8 (sig)])] w (Ret w (.bool false)) := by
  refine enter 52 [(0, .agg (cat [ints .u8 (grp), #[.int .i64 ep], #[.int .i64 fr], ints .u8 (bas), #[.int .i64 2], #[.bool us], #[.int .i64 nm], ints .u8 (key), ints .u8 (sg), ints .u8 (pa), #[.slice a_m ms.length c_m], ints .u8 (start), #[.int .i64 at_], ints .u8 (sig)]))] Try.func58 rfl rfl kj rfl ?_
  refine wp_seq_k fun K1 hK1 => ?_
  refine Qae ?_
  refine Qav (cat [ints .u8 (grp), #[.int .i64 ep], #[.int .i64 fr], ints .u8 (bas), #[.int .i64 2], #[.bool us], #[.int .i64 nm], ints .u8 (key), ints .u8 (sg), ints .u8 (pa), #[.slice a_m ms.length c_m], ints .u8 (start), #[.int .i64 at_], ints .u8 (sig)]) 47 1 rfl kj kj fun g2 W1 l2 e1 r2_1 => ?_
  have x1 : Ext w W1 := Ext.tr (Rely.Ext.refl w) e1
  have b2 : w.heap.size ≤ g2 := Nat.le_trans (Rely.Ext.refl w).size l2
  refine Qab (.bool false) 2 rfl kj kj ?_
  refine Qaf ?_
  refine hK1 _ _ ?_
  refine wp_seq_k fun K3 hK3 => ?_
  refine wp_seq_k fun K4 hK4 => ?_
  refine Qae ?_
  refine Qab (.pointer (some ⟨g2, 32, none⟩)) 4 rfl kj kj ?_
  refine Qab (.int .i64 ep) 5 rfl kj (Qag 3 _ g2 32 47 _ (.int .i64 ep) _ r2_1 rfl kj (Qah [ints .u8 (grp)] [#[.int .i64 ep]] [#[.int .i64 fr], ints .u8 (bas), #[.int .i64 2], #[.bool us], #[.int .i64 nm], ints .u8 (key), ints .u8 (sg), ints .u8 (pa), #[.slice a_m ms.length c_m], ints .u8 (start), #[.int .i64 at_], ints .u8 (sig)] 32 ((Qac _ _).trans hrl) 0 _ rfl) kj) ?_
  refine Qab (.pointer (some ⟨g2, 33, none⟩)) 6 rfl kj kj ?_
  refine Qab (.int .i64 fr) 7 rfl kj (Qag 3 _ g2 33 47 _ (.int .i64 fr) _ r2_1 rfl kj (Qah [ints .u8 (grp), #[.int .i64 ep]] [#[.int .i64 fr]] [ints .u8 (bas), #[.int .i64 2], #[.bool us], #[.int .i64 nm], ints .u8 (key), ints .u8 (sg), ints .u8 (pa), #[.slice a_m ms.length c_m], ints .u8 (start), #[.int .i64 at_], ints .u8 (sig)] 33 (by rw [Qaa, Qaa]; simp only [Array.size_append, cat, ((Qac _ _).trans hrl)]; rfl) 0 _ rfl) kj) ?_
  refine Qa1 (.bool true) 64 #[.int .i64 ep, .int .i64 fr] 8 rfl kj kj ((hgE ep fr _ h0) _) fun W2 e2 => ?_
  have x2 : Ext w W2 := Ext.tr x1 e2
  refine Qab (.bool false) 9 rfl kj kj ?_
  refine Qaf ?_
  refine hK4 _ _ ?_
  refine cond_false kj ?_
  refine wp_skip ?_
  refine hK3 _ _ ?_
  refine wp_seq_k fun K5 hK5 => ?_
  refine Qae ?_
  refine Qab (.pointer (some ⟨g2, 166, none⟩)) 10 rfl kj kj ?_
  have r2_2 := (Qar r2_1 e2)
  refine Qab (.agg (ints .u8 (start))) 11 rfl kj (Qau 40 _ g2 166 47 _ _ _ r2_2 rfl kj (Qah [ints .u8 (grp), #[.int .i64 ep], #[.int .i64 fr], ints .u8 (bas), #[.int .i64 2], #[.bool us], #[.int .i64 nm], ints .u8 (key), ints .u8 (sg), ints .u8 (pa), #[.slice a_m ms.length c_m]] [ints .u8 (start)] [#[.int .i64 at_], ints .u8 (sig)] 166 (by rw [Qaa, Qaa, Qaa, Qaa, Qaa, Qaa, Qaa, Qaa, Qaa, Qaa, Qaa]; simp only [Array.size_append, cat, ((Qac _ _).trans hal), ((Qac _ _).trans hgl), ((Qac _ _).trans hkl), ((Qac _ _).trans hpl), ((Qac _ _).trans hrl)]; rfl)) kj (isz (n := 32) kj ((Qac _ _).trans htl))) ?_
  refine Qab (.agg (ints .u8 (List.replicate 32 0))) 12 rfl kj kj ?_
  refine Qab (.bool (decide (start = List.replicate 32 0))) 13 rfl kj (Qa7 40 _ _ _ _ _ (.bool (decide (start = List.replicate 32 0))) rfl kj kj kj (QaD 40 (e := 5) (k := .u8) (start) (List.replicate 32 0) rfl htl (List.length_replicate (n := 32)) kj kj kj _)) ?_
  refine Qab (.bool (decide (start = List.replicate 32 0))) 3 rfl kj kj ?_
  refine Qaf ?_
  refine hK5 _ _ ?_
  refine wp_seq_k fun K6 hK6 => ?_
  refine wp_seq_k fun K7 hK7 => ?_
  refine Qae ?_
  refine Qab (.pointer (some ⟨g2, 66, none⟩)) 14 rfl kj kj ?_
  refine Qab (.int .i64 2) 15 rfl kj (Qag 3 _ g2 66 47 _ (.int .i64 2) _ r2_2 rfl kj (Qah [ints .u8 (grp), #[.int .i64 ep], #[.int .i64 fr], ints .u8 (bas)] [#[.int .i64 2]] [#[.bool us], #[.int .i64 nm], ints .u8 (key), ints .u8 (sg), ints .u8 (pa), #[.slice a_m ms.length c_m], ints .u8 (start), #[.int .i64 at_], ints .u8 (sig)] 66 (by rw [Qaa, Qaa, Qaa, Qaa]; simp only [Array.size_append, cat, ((Qac _ _).trans hal), ((Qac _ _).trans hrl)]; rfl) 0 _ rfl) kj) ?_
  refine Qaf ?_
  refine hK7 _ _ ?_
  refine wp_block ?_
  refine wp_seq_k fun K8 hK8 => ?_
  refine Qae ?_
  refine Qab (.bool false) 17 rfl kj kj ?_
  refine Qab (.bool false) 16 rfl kj kj ?_
  refine Qaf ?_
  refine hK8 _ _ ?_
  refine cond_false kj ?_
  refine wp_seq_k fun K9 hK9 => ?_
  refine Qae ?_
  refine Qab (.bool true) 27 rfl kj kj ?_
  refine Qab (.bool true) 26 rfl kj kj ?_
  refine Qaf ?_
  refine hK9 _ _ ?_
  refine cond_true kj ?_
  refine wp_seq_k fun K10 hK10 => ?_
  refine Qae ?_
  refine Qab (.pointer (some ⟨g2, 67, none⟩)) 28 rfl kj kj ?_
  refine Qab (.agg (cat [#[.bool us], #[.int .i64 nm], ints .u8 (key), ints .u8 (sg), ints .u8 (pa), #[.slice a_m ms.length c_m]])) 29 rfl kj (Qau 43 _ g2 67 47 _ _ _ r2_2 rfl kj (Qah [ints .u8 (grp), #[.int .i64 ep], #[.int .i64 fr], ints .u8 (bas), #[.int .i64 2]] [#[.bool us], #[.int .i64 nm], ints .u8 (key), ints .u8 (sg), ints .u8 (pa), #[.slice a_m ms.length c_m]] [ints .u8 (start), #[.int .i64 at_], ints .u8 (sig)] 67 (by rw [Qaa, Qaa, Qaa, Qaa, Qaa]; simp only [Array.size_append, cat, ((Qac _ _).trans hal), ((Qac _ _).trans hrl)]; rfl)) kj (isz (n := 99) kj (by rw [Qaa, Qaa, Qaa, Qaa, Qaa, Qaa]; simp only [Array.size_append, cat, ((Qac _ _).trans hgl), ((Qac _ _).trans hkl), ((Qac _ _).trans hpl)]; rfl))) ?_
  refine Qa1 (.bool false) 96 #[.agg (cat [#[.bool us], #[.int .i64 nm], ints .u8 (key), ints .u8 (sg), ints .u8 (pa), #[.slice a_m ms.length c_m]])] 30 rfl kj kj (Qe7 us nm key sg pa ms _ _ _ h1 _ hkl hgl hpl (RdK.here (RdK.ext hm x2))) fun W3 e3 => ?_
  have x3 : Ext w W3 := Ext.tr x2 e3
  refine Qab (.bool false) 31 rfl kj kj ?_
  refine Qao 32 rfl kj ?_
  refine Qab (.bool false) 33 rfl kj kj ?_
  refine Qab (.bool false) 34 rfl kj kj ?_
  refine Qao 35 rfl kj ?_
  refine Qao 36 rfl kj ?_
  refine Qao 37 rfl kj ?_
  refine Qab (.bool false) 38 rfl kj kj ?_
  refine Qab (.bool false) 2 rfl kj kj ?_
  refine Qaf ?_
  refine hK10 _ _ ?_
  refine wp_ret ?_
  repeat (first | with_reducible refine goR1 ?_ | with_reducible refine goR2 ?_)
  exact (show bodyPost _ _ _ .ret _ _ from ret1 (.bool false) rfl (Qaw kj) ⟨rfl, x3⟩)
set_option maxHeartbeats 4000000 in
theorem Qge (grp : List Int) (ep fr : Int) (bas : List Int) (us : Bool) (nm : Int) (key sg pa ms start : List Int) (at_ : Int) (sig : List Int) (a_m : Option Addr) (c_m : Nat) (w : World) (hrl : grp.length = 32) (hrb : Qaj grp) (hal : bas.length = 32) (hab : Qaj bas) (hkl : key.length = 32) (hgl : sg.length = 32) (hpl : pa.length = 32) (hkb : Qaj key) (hgb : Qaj sg) (hpb : Qaj pa) (hml : ms.length ≤ 1000000) (htl : start.length = 32) (htb : Qaj start) (hil : sig.length = 64) (hib : Qaj sig) (hm : RdK .i64 w.heap.size ms (.slice a_m ms.length c_m) w) (h0 : hgB ep fr = true) (h1 : QbN us nm key sg pa ms = true) (h2 : ¬ start = List.replicate 32 0) : Calls Try.prog 58 #[.agg (cat [ints .u8 (grp), #[.int .i64 ep], #[.int .i64 fr], ints .u8 (bas), #[.int .i64 2], #[.bool us], #[.int .i64 nm], ints .u8 (key), ints .u8 (sg), ints .u8 (pa), #[.slice a_m ms.length c_m], ints .u8 (start), #[.int .i64 at_], ints .u8 (sig)])] w (Ret w (.bool false)) := by
  refine enter 52 [(0, .agg (cat [ints .u8 (grp), #[.int .i64 ep], #[.int .i64 fr], ints .u8 (bas), #[.int .i64 2], #[.bool us], #[.int .i64 nm], ints .u8 (key), ints .u8 (sg), ints .u8 (pa), #[.slice a_m ms.length c_m], ints .u8 (start), #[.int .i64 at_], ints .u8 (sig)]))] Try.func58 rfl rfl kj rfl ?_
  refine wp_seq_k fun K1 hK1 => ?_
  refine Qae ?_
  refine Qav (cat [ints .u8 (grp), #[.int .i64 ep], #[.int .i64 fr], ints .u8 (bas), #[.int .i64 2], #[.bool us], #[.int .i64 nm], ints .u8 (key), ints .u8 (sg), ints .u8 (pa), #[.slice a_m ms.length c_m], ints .u8 (start), #[.int .i64 at_], ints .u8 (sig)]) 47 1 rfl kj kj fun g2 W1 l2 e1 r2_1 => ?_
  have x1 : Ext w W1 := Ext.tr (Rely.Ext.refl w) e1
  have b2 : w.heap.size ≤ g2 := Nat.le_trans (Rely.Ext.refl w).size l2
  refine Qab (.bool false) 2 rfl kj kj ?_
  refine Qaf ?_
  refine hK1 _ _ ?_
  refine wp_seq_k fun K3 hK3 => ?_
  refine wp_seq_k fun K4 hK4 => ?_
  refine Qae ?_
  refine Qab (.pointer (some ⟨g2, 32, none⟩)) 4 rfl kj kj ?_
  refine Qab (.int .i64 ep) 5 rfl kj (Qag 3 _ g2 32 47 _ (.int .i64 ep) _ r2_1 rfl kj (Qah [ints .u8 (grp)] [#[.int .i64 ep]] [#[.int .i64 fr], ints .u8 (bas), #[.int .i64 2], #[.bool us], #[.int .i64 nm], ints .u8 (key), ints .u8 (sg), ints .u8 (pa), #[.slice a_m ms.length c_m], ints .u8 (start), #[.int .i64 at_], ints .u8 (sig)] 32 ((Qac _ _).trans hrl) 0 _ rfl) kj) ?_
  refine Qab (.pointer (some ⟨g2, 33, none⟩)) 6 rfl kj kj ?_
  refine Qab (.int .i64 fr) 7 rfl kj (Qag 3 _ g2 33 47 _ (.int .i64 fr) _ r2_1 rfl kj (Qah [ints .u8 (grp), #[.int .i64 ep]] [#[.int .i64 fr]] [ints .u8 (bas), #[.int .i64 2], #[.bool us], #[.int .i64 nm], ints .u8 (key), ints .u8 (sg), ints .u8 (pa), #[.slice a_m ms.length c_m], ints .u8 (start), #[.int .i64 at_], ints .u8 (sig)] 33 (by rw [Qaa, Qaa]; simp only [Array.size_append, cat, ((Qac _ _).trans hrl)]; rfl) 0 _ rfl) kj) ?_
  refine Qa1 (.bool true) 64 #[.int .i64 ep, .int .i64 fr] 8 rfl kj kj ((hgE ep fr _ h0) _) fun W2 e2 => ?_
  have x2 : Ext w W2 := Ext.tr x1 e2
  refine Qab (.bool false) 9 rfl kj kj ?_
  refine Qaf ?_
  refine hK4 _ _ ?_
  refine cond_false kj ?_
  refine wp_skip ?_
  refine hK3 _ _ ?_
  refine wp_seq_k fun K5 hK5 => ?_
  refine Qae ?_
  refine Qab (.pointer (some ⟨g2, 166, none⟩)) 10 rfl kj kj ?_
  have r2_2 := (Qar r2_1 e2)
  refine Qab (.agg (ints .u8 (start))) 11 rfl kj (Qau 40 _ g2 166 47 _ _ _ r2_2 rfl kj (Qah [ints .u8 (grp), #[.int .i64 ep], #[.int .i64 fr], ints .u8 (bas), #[.int .i64 2], #[.bool us], #[.int .i64 nm], ints .u8 (key), ints .u8 (sg), ints .u8 (pa), #[.slice a_m ms.length c_m]] [ints .u8 (start)] [#[.int .i64 at_], ints .u8 (sig)] 166 (by rw [Qaa, Qaa, Qaa, Qaa, Qaa, Qaa, Qaa, Qaa, Qaa, Qaa, Qaa]; simp only [Array.size_append, cat, ((Qac _ _).trans hal), ((Qac _ _).trans hgl), ((Qac _ _).trans hkl), ((Qac _ _).trans hpl), ((Qac _ _).trans hrl)]; rfl)) kj (isz (n := 32) kj ((Qac _ _).trans htl))) ?_
  refine Qab (.agg (ints .u8 (List.replicate 32 0))) 12 rfl kj kj ?_
  refine Qab (.bool false) 13 rfl kj (Qa7 40 _ _ _ _ _ (.bool false) rfl kj kj kj (QaD 40 (e := 5) (k := .u8) (start) (List.replicate 32 0) (decide_eq_false h2) htl (List.length_replicate (n := 32)) kj kj kj _)) ?_
  refine Qab (.bool false) 3 rfl kj kj ?_
  refine Qaf ?_
  refine hK5 _ _ ?_
  refine wp_seq_k fun K6 hK6 => ?_
  refine wp_seq_k fun K7 hK7 => ?_
  refine Qae ?_
  refine Qab (.pointer (some ⟨g2, 66, none⟩)) 14 rfl kj kj ?_
  refine Qab (.int .i64 2) 15 rfl kj (Qag 3 _ g2 66 47 _ (.int .i64 2) _ r2_2 rfl kj (Qah [ints .u8 (grp), #[.int .i64 ep], #[.int .i64 fr], ints .u8 (bas)] [#[.int .i64 2]] [#[.bool us], #[.int .i64 nm], ints .u8 (key), ints .u8 (sg), ints .u8 (pa), #[.slice a_m ms.length c_m], ints .u8 (start), #[.int .i64 at_], ints .u8 (sig)] 66 (by rw [Qaa, Qaa, Qaa, Qaa]; simp only [Array.size_append, cat, ((Qac _ _).trans hal), ((Qac _ _).trans hrl)]; rfl) 0 _ rfl) kj) ?_
  refine Qaf ?_
  refine hK7 _ _ ?_
  refine wp_block ?_
  refine wp_seq_k fun K8 hK8 => ?_
  refine Qae ?_
  refine Qab (.bool false) 17 rfl kj kj ?_
  refine Qab (.bool false) 16 rfl kj kj ?_
  refine Qaf ?_
  refine hK8 _ _ ?_
  refine cond_false kj ?_
  refine wp_seq_k fun K9 hK9 => ?_
  refine Qae ?_
  refine Qab (.bool true) 27 rfl kj kj ?_
  refine Qab (.bool true) 26 rfl kj kj ?_
  refine Qaf ?_
  refine hK9 _ _ ?_
  refine cond_true kj ?_
  refine wp_seq_k fun K10 hK10 => ?_
  refine Qae ?_
  refine Qab (.pointer (some ⟨g2, 67, none⟩)) 28 rfl kj kj ?_
  refine Qab (.agg (cat [#[.bool us], #[.int .i64 nm], ints .u8 (key), ints .u8 (sg), ints .u8 (pa), #[.slice a_m ms.length c_m]])) 29 rfl kj (Qau 43 _ g2 67 47 _ _ _ r2_2 rfl kj (Qah [ints .u8 (grp), #[.int .i64 ep], #[.int .i64 fr], ints .u8 (bas), #[.int .i64 2]] [#[.bool us], #[.int .i64 nm], ints .u8 (key), ints .u8 (sg), ints .u8 (pa), #[.slice a_m ms.length c_m]] [ints .u8 (start), #[.int .i64 at_], ints .u8 (sig)] 67 (by rw [Qaa, Qaa, Qaa, Qaa, Qaa]; simp only [Array.size_append, cat, ((Qac _ _).trans hal), ((Qac _ _).trans hrl)]; rfl)) kj (isz (n := 99) kj (by rw [Qaa, Qaa, Qaa, Qaa, Qaa, Qaa]; simp only [Array.size_append, cat, ((Qac _ _).trans hgl), ((Qac _ _).trans hkl), ((Qac _ _).trans hpl)]; rfl))) ?_
  refine Qa1 (.bool true) 96 #[.agg (cat [#[.bool us], #[.int .i64 nm], ints .u8 (key), ints .u8 (sg), ints .u8 (pa), #[.slice a_m ms.length c_m]])] 30 rfl kj kj (Qe7 us nm key sg pa ms _ _ _ h1 _ hkl hgl hpl (RdK.here (RdK.ext hm x2))) fun W3 e3 => ?_
  have x3 : Ext w W3 := Ext.tr x2 e3
  refine Qab (.bool true) 31 rfl kj kj ?_
  refine Qab (.bool false) 32 rfl kj kj ?_
  refine Qab (.bool false) 33 rfl kj kj ?_
  refine Qab (.bool false) 34 rfl kj kj ?_
  refine Qao 35 rfl kj ?_
  refine Qao 36 rfl kj ?_
  refine Qao 37 rfl kj ?_
  refine Qab (.bool false) 38 rfl kj kj ?_
  refine Qab (.bool false) 2 rfl kj kj ?_
  refine Qaf ?_
  refine hK10 _ _ ?_
  refine wp_ret ?_
  repeat (first | with_reducible refine goR1 ?_ | with_reducible refine goR2 ?_)
  exact (show bodyPost _ _ _ .ret _ _ from ret1 (.bool false) rfl (Qaw kj) ⟨rfl, x3⟩)
set_option maxHeartbeats 4000000 in
theorem Qgd (grp : List Int) (ep fr : Int) (bas : List Int) (us : Bool) (nm : Int) (key sg pa ms start : List Int) (at_ : Int) (sig : List Int) (a_m : Option Addr) (c_m : Nat) (w : World) (hrl : grp.length = 32) (hrb : Qaj grp) (hal : bas.length = 32) (hab : Qaj bas) (hkl : key.length = 32) (hgl : sg.length = 32) (hpl : pa.length = 32) (hkb : Qaj key) (hgb : Qaj sg) (hpb : Qaj pa) (hml : ms.length ≤ 1000000) (htl : start.length = 32) (htb : Qaj start) (hil : sig.length = 64) (hib : Qaj sig) (hm : RdK .i64 w.heap.size ms (.slice a_m ms.length c_m) w) (h0 : hgB ep fr = true) (h1 : QbN us nm key sg pa ms = true) (h2 : start = List.replicate 32 0) : Calls Try.prog 58 #[.agg (cat [ints .u8 (grp), #[.int .i64 ep], #[.int .i64 fr], ints .u8 (bas), #[.int .i64 2], #[.bool us], #[.int .i64 nm], ints .u8 (key), ints .u8 (sg), ints .u8 (pa), #[.slice a_m ms.length c_m], ints .u8 (start), #[.int .i64 at_], ints .u8 (sig)])] w (Ret w (.bool (at_ == 0))) := by
  refine enter 52 [(0, .agg (cat [ints .u8 (grp), #[.int .i64 ep], #[.int .i64 fr], ints .u8 (bas), #[.int .i64 2], #[.bool us], #[.int .i64 nm], ints .u8 (key), ints .u8 (sg), ints .u8 (pa), #[.slice a_m ms.length c_m], ints .u8 (start), #[.int .i64 at_], ints .u8 (sig)]))] Try.func58 rfl rfl kj rfl ?_
  refine wp_seq_k fun K1 hK1 => ?_
  refine Qae ?_
  refine Qav (cat [ints .u8 (grp), #[.int .i64 ep], #[.int .i64 fr], ints .u8 (bas), #[.int .i64 2], #[.bool us], #[.int .i64 nm], ints .u8 (key), ints .u8 (sg), ints .u8 (pa), #[.slice a_m ms.length c_m], ints .u8 (start), #[.int .i64 at_], ints .u8 (sig)]) 47 1 rfl kj kj fun g2 W1 l2 e1 r2_1 => ?_
  have x1 : Ext w W1 := Ext.tr (Rely.Ext.refl w) e1
  have b2 : w.heap.size ≤ g2 := Nat.le_trans (Rely.Ext.refl w).size l2
  refine Qab (.bool false) 2 rfl kj kj ?_
  refine Qaf ?_
  refine hK1 _ _ ?_
  refine wp_seq_k fun K3 hK3 => ?_
  refine wp_seq_k fun K4 hK4 => ?_
  refine Qae ?_
  refine Qab (.pointer (some ⟨g2, 32, none⟩)) 4 rfl kj kj ?_
  refine Qab (.int .i64 ep) 5 rfl kj (Qag 3 _ g2 32 47 _ (.int .i64 ep) _ r2_1 rfl kj (Qah [ints .u8 (grp)] [#[.int .i64 ep]] [#[.int .i64 fr], ints .u8 (bas), #[.int .i64 2], #[.bool us], #[.int .i64 nm], ints .u8 (key), ints .u8 (sg), ints .u8 (pa), #[.slice a_m ms.length c_m], ints .u8 (start), #[.int .i64 at_], ints .u8 (sig)] 32 ((Qac _ _).trans hrl) 0 _ rfl) kj) ?_
  refine Qab (.pointer (some ⟨g2, 33, none⟩)) 6 rfl kj kj ?_
  refine Qab (.int .i64 fr) 7 rfl kj (Qag 3 _ g2 33 47 _ (.int .i64 fr) _ r2_1 rfl kj (Qah [ints .u8 (grp), #[.int .i64 ep]] [#[.int .i64 fr]] [ints .u8 (bas), #[.int .i64 2], #[.bool us], #[.int .i64 nm], ints .u8 (key), ints .u8 (sg), ints .u8 (pa), #[.slice a_m ms.length c_m], ints .u8 (start), #[.int .i64 at_], ints .u8 (sig)] 33 (by rw [Qaa, Qaa]; simp only [Array.size_append, cat, ((Qac _ _).trans hrl)]; rfl) 0 _ rfl) kj) ?_
  refine Qa1 (.bool true) 64 #[.int .i64 ep, .int .i64 fr] 8 rfl kj kj ((hgE ep fr _ h0) _) fun W2 e2 => ?_
  have x2 : Ext w W2 := Ext.tr x1 e2
  refine Qab (.bool false) 9 rfl kj kj ?_
  refine Qaf ?_
  refine hK4 _ _ ?_
  refine cond_false kj ?_
  refine wp_skip ?_
  refine hK3 _ _ ?_
  refine wp_seq_k fun K5 hK5 => ?_
  refine Qae ?_
  refine Qab (.pointer (some ⟨g2, 166, none⟩)) 10 rfl kj kj ?_
  have r2_2 := (Qar r2_1 e2)
  refine Qab (.agg (ints .u8 (start))) 11 rfl kj (Qau 40 _ g2 166 47 _ _ _ r2_2 rfl kj (Qah [ints .u8 (grp), #[.int .i64 ep], #[.int .i64 fr], ints .u8 (bas), #[.int .i64 2], #[.bool us], #[.int .i64 nm], ints .u8 (key), ints .u8 (sg), ints .u8 (pa), #[.slice a_m ms.length c_m]] [ints .u8 (start)] [#[.int .i64 at_], ints .u8 (sig)] 166 (by rw [Qaa, Qaa, Qaa, Qaa, Qaa, Qaa, Qaa, Qaa, Qaa, Qaa, Qaa]; simp only [Array.size_append, cat, ((Qac _ _).trans hal), ((Qac _ _).trans hgl), ((Qac _ _).trans hkl), ((Qac _ _).trans hpl), ((Qac _ _).trans hrl)]; rfl)) kj (isz (n := 32) kj ((Qac _ _).trans htl))) ?_
  refine Qab (.agg (ints .u8 (List.replicate 32 0))) 12 rfl kj kj ?_
  refine Qab (.bool true) 13 rfl kj (Qa7 40 _ _ _ _ _ (.bool true) rfl kj kj kj (QaD 40 (e := 5) (k := .u8) (start) (List.replicate 32 0) (decide_eq_true h2) htl (List.length_replicate (n := 32)) kj kj kj _)) ?_
  refine Qab (.bool true) 3 rfl kj kj ?_
  refine Qaf ?_
  refine hK5 _ _ ?_
  refine wp_seq_k fun K6 hK6 => ?_
  refine wp_seq_k fun K7 hK7 => ?_
  refine Qae ?_
  refine Qab (.pointer (some ⟨g2, 66, none⟩)) 14 rfl kj kj ?_
  refine Qab (.int .i64 2) 15 rfl kj (Qag 3 _ g2 66 47 _ (.int .i64 2) _ r2_2 rfl kj (Qah [ints .u8 (grp), #[.int .i64 ep], #[.int .i64 fr], ints .u8 (bas)] [#[.int .i64 2]] [#[.bool us], #[.int .i64 nm], ints .u8 (key), ints .u8 (sg), ints .u8 (pa), #[.slice a_m ms.length c_m], ints .u8 (start), #[.int .i64 at_], ints .u8 (sig)] 66 (by rw [Qaa, Qaa, Qaa, Qaa]; simp only [Array.size_append, cat, ((Qac _ _).trans hal), ((Qac _ _).trans hrl)]; rfl) 0 _ rfl) kj) ?_
  refine Qaf ?_
  refine hK7 _ _ ?_
  refine wp_block ?_
  refine wp_seq_k fun K8 hK8 => ?_
  refine Qae ?_
  refine Qab (.bool false) 17 rfl kj kj ?_
  refine Qab (.bool false) 16 rfl kj kj ?_
  refine Qaf ?_
  refine hK8 _ _ ?_
  refine cond_false kj ?_
  refine wp_seq_k fun K9 hK9 => ?_
  refine Qae ?_
  refine Qab (.bool true) 27 rfl kj kj ?_
  refine Qab (.bool true) 26 rfl kj kj ?_
  refine Qaf ?_
  refine hK9 _ _ ?_
  refine cond_true kj ?_
  refine wp_seq_k fun K10 hK10 => ?_
  refine Qae ?_
  refine Qab (.pointer (some ⟨g2, 67, none⟩)) 28 rfl kj kj ?_
  refine Qab (.agg (cat [#[.bool us], #[.int .i64 nm], ints .u8 (key), ints .u8 (sg), ints .u8 (pa), #[.slice a_m ms.length c_m]])) 29 rfl kj (Qau 43 _ g2 67 47 _ _ _ r2_2 rfl kj (Qah [ints .u8 (grp), #[.int .i64 ep], #[.int .i64 fr], ints .u8 (bas), #[.int .i64 2]] [#[.bool us], #[.int .i64 nm], ints .u8 (key), ints .u8 (sg), ints .u8 (pa), #[.slice a_m ms.length c_m]] [ints .u8 (start), #[.int .i64 at_], ints .u8 (sig)] 67 (by rw [Qaa, Qaa, Qaa, Qaa, Qaa]; simp only [Array.size_append, cat, ((Qac _ _).trans hal), ((Qac _ _).trans hrl)]; rfl)) kj (isz (n := 99) kj (by rw [Qaa, Qaa, Qaa, Qaa, Qaa, Qaa]; simp only [Array.size_append, cat, ((Qac _ _).trans hgl), ((Qac _ _).trans hkl), ((Qac _ _).trans hpl)]; rfl))) ?_
  refine Qa1 (.bool true) 96 #[.agg (cat [#[.bool us], #[.int .i64 nm], ints .u8 (key), ints .u8 (sg), ints .u8 (pa), #[.slice a_m ms.length c_m]])] 30 rfl kj kj (Qe7 us nm key sg pa ms _ _ _ h1 _ hkl hgl hpl (RdK.here (RdK.ext hm x2))) fun W3 e3 => ?_
  have x3 : Ext w W3 := Ext.tr x2 e3
  refine Qab (.bool true) 31 rfl kj kj ?_
  refine Qab (.bool true) 32 rfl kj kj ?_
  refine Qab (.bool true) 33 rfl kj kj ?_
  refine Qab (.bool true) 34 rfl kj kj ?_
  refine Qab (.pointer (some ⟨g2, 198, none⟩)) 35 rfl kj kj ?_
  have r2_3 := (Qar r2_2 e3)
  refine Qab (.int .i64 at_) 36 rfl kj (Qag 3 _ g2 198 47 _ (.int .i64 at_) _ r2_3 rfl kj (Qah [ints .u8 (grp), #[.int .i64 ep], #[.int .i64 fr], ints .u8 (bas), #[.int .i64 2], #[.bool us], #[.int .i64 nm], ints .u8 (key), ints .u8 (sg), ints .u8 (pa), #[.slice a_m ms.length c_m], ints .u8 (start)] [#[.int .i64 at_]] [ints .u8 (sig)] 198 (by rw [Qaa, Qaa, Qaa, Qaa, Qaa, Qaa, Qaa, Qaa, Qaa, Qaa, Qaa, Qaa]; simp only [Array.size_append, cat, ((Qac _ _).trans hal), ((Qac _ _).trans hgl), ((Qac _ _).trans hkl), ((Qac _ _).trans hpl), ((Qac _ _).trans hrl), ((Qac _ _).trans htl)]; rfl) 0 _ rfl) kj) ?_
  refine Qab (.bool ((at_ == 0))) 37 rfl kj kj ?_
  refine Qab (.bool ((at_ == 0))) 38 rfl kj kj ?_
  refine Qab (.bool ((at_ == 0))) 2 rfl kj kj ?_
  refine Qaf ?_
  refine hK10 _ _ ?_
  refine wp_ret ?_
  repeat (first | with_reducible refine goR1 ?_ | with_reducible refine goR2 ?_)
  exact (show bodyPost _ _ _ .ret _ _ from ret1 (.bool ((at_ == 0))) rfl (Qaw kj) ⟨rfl, x3⟩)
set_option maxHeartbeats 4000000 in
theorem Qgc (grp : List Int) (ep fr : Int) (bas : List Int) (us : Bool) (nm : Int) (key sg pa ms start : List Int) (at_ : Int) (sig : List Int) (a_m : Option Addr) (c_m : Nat) (w : World) (hrl : grp.length = 32) (hrb : Qaj grp) (hal : bas.length = 32) (hab : Qaj bas) (hkl : key.length = 32) (hgl : sg.length = 32) (hpl : pa.length = 32) (hkb : Qaj key) (hgb : Qaj sg) (hpb : Qaj pa) (hml : ms.length ≤ 1000000) (htl : start.length = 32) (htb : Qaj start) (hil : sig.length = 64) (hib : Qaj sig) (hm : RdK .i64 w.heap.size ms (.slice a_m ms.length c_m) w) (h0 : hgB ep fr = true) (h1 : QaE us nm key sg pa ms = false) : Calls Try.prog 58 #[.agg (cat [ints .u8 (grp), #[.int .i64 ep], #[.int .i64 fr], ints .u8 (bas), #[.int .i64 3], #[.bool us], #[.int .i64 nm], ints .u8 (key), ints .u8 (sg), ints .u8 (pa), #[.slice a_m ms.length c_m], ints .u8 (start), #[.int .i64 at_], ints .u8 (sig)])] w (Ret w (.bool false)) := by
  refine enter 52 [(0, .agg (cat [ints .u8 (grp), #[.int .i64 ep], #[.int .i64 fr], ints .u8 (bas), #[.int .i64 3], #[.bool us], #[.int .i64 nm], ints .u8 (key), ints .u8 (sg), ints .u8 (pa), #[.slice a_m ms.length c_m], ints .u8 (start), #[.int .i64 at_], ints .u8 (sig)]))] Try.func58 rfl rfl kj rfl ?_
  refine wp_seq_k fun K1 hK1 => ?_
  refine Qae ?_
  refine Qav (cat [ints .u8 (grp), #[.int .i64 ep], #[.int .i64 fr], ints .u8 (bas), #[.int .i64 3], #[.bool us], #[.int .i64 nm], ints .u8 (key), ints .u8 (sg), ints .u8 (pa), #[.slice a_m ms.length c_m], ints .u8 (start), #[.int .i64 at_], ints .u8 (sig)]) 47 1 rfl kj kj fun g2 W1 l2 e1 r2_1 => ?_
  have x1 : Ext w W1 := Ext.tr (Rely.Ext.refl w) e1
  have b2 : w.heap.size ≤ g2 := Nat.le_trans (Rely.Ext.refl w).size l2
  refine Qab (.bool false) 2 rfl kj kj ?_
  refine Qaf ?_
  refine hK1 _ _ ?_
  refine wp_seq_k fun K3 hK3 => ?_
  refine wp_seq_k fun K4 hK4 => ?_
  refine Qae ?_
  refine Qab (.pointer (some ⟨g2, 32, none⟩)) 4 rfl kj kj ?_
  refine Qab (.int .i64 ep) 5 rfl kj (Qag 3 _ g2 32 47 _ (.int .i64 ep) _ r2_1 rfl kj (Qah [ints .u8 (grp)] [#[.int .i64 ep]] [#[.int .i64 fr], ints .u8 (bas), #[.int .i64 3], #[.bool us], #[.int .i64 nm], ints .u8 (key), ints .u8 (sg), ints .u8 (pa), #[.slice a_m ms.length c_m], ints .u8 (start), #[.int .i64 at_], ints .u8 (sig)] 32 ((Qac _ _).trans hrl) 0 _ rfl) kj) ?_
  refine Qab (.pointer (some ⟨g2, 33, none⟩)) 6 rfl kj kj ?_
  refine Qab (.int .i64 fr) 7 rfl kj (Qag 3 _ g2 33 47 _ (.int .i64 fr) _ r2_1 rfl kj (Qah [ints .u8 (grp), #[.int .i64 ep]] [#[.int .i64 fr]] [ints .u8 (bas), #[.int .i64 3], #[.bool us], #[.int .i64 nm], ints .u8 (key), ints .u8 (sg), ints .u8 (pa), #[.slice a_m ms.length c_m], ints .u8 (start), #[.int .i64 at_], ints .u8 (sig)] 33 (by rw [Qaa, Qaa]; simp only [Array.size_append, cat, ((Qac _ _).trans hrl)]; rfl) 0 _ rfl) kj) ?_
  refine Qa1 (.bool true) 64 #[.int .i64 ep, .int .i64 fr] 8 rfl kj kj ((hgE ep fr _ h0) _) fun W2 e2 => ?_
  have x2 : Ext w W2 := Ext.tr x1 e2
  refine Qab (.bool false) 9 rfl kj kj ?_
  refine Qaf ?_
  refine hK4 _ _ ?_
  refine cond_false kj ?_
  refine wp_skip ?_
  refine hK3 _ _ ?_
  refine wp_seq_k fun K5 hK5 => ?_
  refine Qae ?_
  refine Qab (.pointer (some ⟨g2, 166, none⟩)) 10 rfl kj kj ?_
  have r2_2 := (Qar r2_1 e2)
  refine Qab (.agg (ints .u8 (start))) 11 rfl kj (Qau 40 _ g2 166 47 _ _ _ r2_2 rfl kj (Qah [ints .u8 (grp), #[.int .i64 ep], #[.int .i64 fr], ints .u8 (bas), #[.int .i64 3], #[.bool us], #[.int .i64 nm], ints .u8 (key), ints .u8 (sg), ints .u8 (pa), #[.slice a_m ms.length c_m]] [ints .u8 (start)] [#[.int .i64 at_], ints .u8 (sig)] 166 (by rw [Qaa, Qaa, Qaa, Qaa, Qaa, Qaa, Qaa, Qaa, Qaa, Qaa, Qaa]; simp only [Array.size_append, cat, ((Qac _ _).trans hal), ((Qac _ _).trans hgl), ((Qac _ _).trans hkl), ((Qac _ _).trans hpl), ((Qac _ _).trans hrl)]; rfl)) kj (isz (n := 32) kj ((Qac _ _).trans htl))) ?_
  refine Qab (.agg (ints .u8 (List.replicate 32 0))) 12 rfl kj kj ?_
  refine Qab (.bool (decide (start = List.replicate 32 0))) 13 rfl kj (Qa7 40 _ _ _ _ _ (.bool (decide (start = List.replicate 32 0))) rfl kj kj kj (QaD 40 (e := 5) (k := .u8) (start) (List.replicate 32 0) rfl htl (List.length_replicate (n := 32)) kj kj kj _)) ?_
  refine Qab (.bool (decide (start = List.replicate 32 0))) 3 rfl kj kj ?_
  refine Qaf ?_
  refine hK5 _ _ ?_
  refine wp_seq_k fun K6 hK6 => ?_
  refine wp_seq_k fun K7 hK7 => ?_
  refine Qae ?_
  refine Qab (.pointer (some ⟨g2, 66, none⟩)) 14 rfl kj kj ?_
  refine Qab (.int .i64 3) 15 rfl kj (Qag 3 _ g2 66 47 _ (.int .i64 3) _ r2_2 rfl kj (Qah [ints .u8 (grp), #[.int .i64 ep], #[.int .i64 fr], ints .u8 (bas)] [#[.int .i64 3]] [#[.bool us], #[.int .i64 nm], ints .u8 (key), ints .u8 (sg), ints .u8 (pa), #[.slice a_m ms.length c_m], ints .u8 (start), #[.int .i64 at_], ints .u8 (sig)] 66 (by rw [Qaa, Qaa, Qaa, Qaa]; simp only [Array.size_append, cat, ((Qac _ _).trans hal), ((Qac _ _).trans hrl)]; rfl) 0 _ rfl) kj) ?_
  refine Qaf ?_
  refine hK7 _ _ ?_
  refine wp_block ?_
  refine wp_seq_k fun K8 hK8 => ?_
  refine Qae ?_
  refine Qab (.bool false) 17 rfl kj kj ?_
  refine Qab (.bool false) 16 rfl kj kj ?_
  refine Qaf ?_
  refine hK8 _ _ ?_
  refine cond_false kj ?_
  refine wp_seq_k fun K9 hK9 => ?_
  refine Qae ?_
  refine Qab (.bool false) 27 rfl kj kj ?_
  refine Qab (.bool false) 26 rfl kj kj ?_
  refine Qaf ?_
  refine hK9 _ _ ?_
  refine cond_false kj ?_
  refine wp_seq_k fun K10 hK10 => ?_
  refine Qae ?_
  refine Qab (.bool true) 40 rfl kj kj ?_
  refine Qab (.bool true) 39 rfl kj kj ?_
  refine Qaf ?_
  refine hK10 _ _ ?_
  refine cond_true kj ?_
  refine wp_seq_k fun K11 hK11 => ?_
  refine Qae ?_
  refine Qab (.pointer (some ⟨g2, 67, none⟩)) 41 rfl kj kj ?_
  refine Qab (.agg (cat [#[.bool us], #[.int .i64 nm], ints .u8 (key), ints .u8 (sg), ints .u8 (pa), #[.slice a_m ms.length c_m]])) 42 rfl kj (Qau 43 _ g2 67 47 _ _ _ r2_2 rfl kj (Qah [ints .u8 (grp), #[.int .i64 ep], #[.int .i64 fr], ints .u8 (bas), #[.int .i64 3]] [#[.bool us], #[.int .i64 nm], ints .u8 (key), ints .u8 (sg), ints .u8 (pa), #[.slice a_m ms.length c_m]] [ints .u8 (start), #[.int .i64 at_], ints .u8 (sig)] 67 (by rw [Qaa, Qaa, Qaa, Qaa, Qaa]; simp only [Array.size_append, cat, ((Qac _ _).trans hal), ((Qac _ _).trans hrl)]; rfl)) kj (isz (n := 99) kj (by rw [Qaa, Qaa, Qaa, Qaa, Qaa, Qaa]; simp only [Array.size_append, cat, ((Qac _ _).trans hgl), ((Qac _ _).trans hkl), ((Qac _ _).trans hpl)]; rfl))) ?_
  refine Qa1 (.bool false) 108 #[.agg (cat [#[.bool us], #[.int .i64 nm], ints .u8 (key), ints .u8 (sg), ints .u8 (pa), #[.slice a_m ms.length c_m]])] 43 rfl kj kj (Qh8 us nm key sg pa ms _ _ _ h1 _ hkl hgl hpl) fun W3 e3 => ?_
  have x3 : Ext w W3 := Ext.tr x2 e3
  refine Qab (.bool false) 44 rfl kj kj ?_
  refine Qao 45 rfl kj ?_
  refine Qab (.bool false) 46 rfl kj kj ?_
  refine Qab (.bool false) 47 rfl kj kj ?_
  refine Qao 48 rfl kj ?_
  refine Qao 49 rfl kj ?_
  refine Qao 50 rfl kj ?_
  refine Qab (.bool false) 51 rfl kj kj ?_
  refine Qab (.bool false) 2 rfl kj kj ?_
  refine Qaf ?_
  refine hK11 _ _ ?_
  refine wp_ret ?_
  repeat (first | with_reducible refine goR1 ?_ | with_reducible refine goR2 ?_)
  exact (show bodyPost _ _ _ .ret _ _ from ret1 (.bool false) rfl (Qaw kj) ⟨rfl, x3⟩)
set_option maxHeartbeats 4000000 in
theorem Qgb (grp : List Int) (ep fr : Int) (bas : List Int) (us : Bool) (nm : Int) (key sg pa ms start : List Int) (at_ : Int) (sig : List Int) (a_m : Option Addr) (c_m : Nat) (w : World) (hrl : grp.length = 32) (hrb : Qaj grp) (hal : bas.length = 32) (hab : Qaj bas) (hkl : key.length = 32) (hgl : sg.length = 32) (hpl : pa.length = 32) (hkb : Qaj key) (hgb : Qaj sg) (hpb : Qaj pa) (hml : ms.length ≤ 1000000) (htl : start.length = 32) (htb : Qaj start) (hil : sig.length = 64) (hib : Qaj sig) (hm : RdK .i64 w.heap.size ms (.slice a_m ms.length c_m) w) (h0 : hgB ep fr = true) (h1 : QaE us nm key sg pa ms = true) (h2 : ¬ start = List.replicate 32 0) : Calls Try.prog 58 #[.agg (cat [ints .u8 (grp), #[.int .i64 ep], #[.int .i64 fr], ints .u8 (bas), #[.int .i64 3], #[.bool us], #[.int .i64 nm], ints .u8 (key), ints .u8 (sg), ints .u8 (pa), #[.slice a_m ms.length c_m], ints .u8 (start), #[.int .i64 at_], ints .u8 (sig)])] w (Ret w (.bool false)) := by
  refine enter 52 [(0, .agg (cat [ints .u8 (grp), #[.int .i64 ep], #[.int .i64 fr], ints .u8 (bas), #[.int .i64 3], #[.bool us], #[.int .i64 nm], ints .u8 (key), ints .u8 (sg), ints .u8 (pa), #[.slice a_m ms.length c_m], ints .u8 (start), #[.int .i64 at_], ints .u8 (sig)]))] Try.func58 rfl rfl kj rfl ?_
  refine wp_seq_k fun K1 hK1 => ?_
  refine Qae ?_
  refine Qav (cat [ints .u8 (grp), #[.int .i64 ep], #[.int .i64 fr], ints .u8 (bas), #[.int .i64 3], #[.bool us], #[.int .i64 nm], ints .u8 (key), ints .u8 (sg), ints .u8 (pa), #[.slice a_m ms.length c_m], ints .u8 (start), #[.int .i64 at_], ints .u8 (sig)]) 47 1 rfl kj kj fun g2 W1 l2 e1 r2_1 => ?_
  have x1 : Ext w W1 := Ext.tr (Rely.Ext.refl w) e1
  have b2 : w.heap.size ≤ g2 := Nat.le_trans (Rely.Ext.refl w).size l2
  refine Qab (.bool false) 2 rfl kj kj ?_
  refine Qaf ?_
  refine hK1 _ _ ?_
  refine wp_seq_k fun K3 hK3 => ?_
  refine wp_seq_k fun K4 hK4 => ?_
  refine Qae ?_
  refine Qab (.pointer (some ⟨g2, 32, none⟩)) 4 rfl kj kj ?_
  refine Qab (.int .i64 ep) 5 rfl kj (Qag 3 _ g2 32 47 _ (.int .i64 ep) _ r2_1 rfl kj (Qah [ints .u8 (grp)] [#[.int .i64 ep]] [#[.int .i64 fr], ints .u8 (bas), #[.int .i64 3], #[.bool us], #[.int .i64 nm], ints .u8 (key), ints .u8 (sg), ints .u8 (pa), #[.slice a_m ms.length c_m], ints .u8 (start), #[.int .i64 at_], ints .u8 (sig)] 32 ((Qac _ _).trans hrl) 0 _ rfl) kj) ?_
  refine Qab (.pointer (some ⟨g2, 33, none⟩)) 6 rfl kj kj ?_
  refine Qab (.int .i64 fr) 7 rfl kj (Qag 3 _ g2 33 47 _ (.int .i64 fr) _ r2_1 rfl kj (Qah [ints .u8 (grp), #[.int .i64 ep]] [#[.int .i64 fr]] [ints .u8 (bas), #[.int .i64 3], #[.bool us], #[.int .i64 nm], ints .u8 (key), ints .u8 (sg), ints .u8 (pa), #[.slice a_m ms.length c_m], ints .u8 (start), #[.int .i64 at_], ints .u8 (sig)] 33 (by rw [Qaa, Qaa]; simp only [Array.size_append, cat, ((Qac _ _).trans hrl)]; rfl) 0 _ rfl) kj) ?_
  refine Qa1 (.bool true) 64 #[.int .i64 ep, .int .i64 fr] 8 rfl kj kj ((hgE ep fr _ h0) _) fun W2 e2 => ?_
  have x2 : Ext w W2 := Ext.tr x1 e2
  refine Qab (.bool false) 9 rfl kj kj ?_
  refine Qaf ?_
  refine hK4 _ _ ?_
  refine cond_false kj ?_
  refine wp_skip ?_
  refine hK3 _ _ ?_
  refine wp_seq_k fun K5 hK5 => ?_
  refine Qae ?_
  refine Qab (.pointer (some ⟨g2, 166, none⟩)) 10 rfl kj kj ?_
  have r2_2 := (Qar r2_1 e2)
  refine Qab (.agg (ints .u8 (start))) 11 rfl kj (Qau 40 _ g2 166 47 _ _ _ r2_2 rfl kj (Qah [ints .u8 (grp), #[.int .i64 ep], #[.int .i64 fr], ints .u8 (bas), #[.int .i64 3], #[.bool us], #[.int .i64 nm], ints .u8 (key), ints .u8 (sg), ints .u8 (pa), #[.slice a_m ms.length c_m]] [ints .u8 (start)] [#[.int .i64 at_], ints .u8 (sig)] 166 (by rw [Qaa, Qaa, Qaa, Qaa, Qaa, Qaa, Qaa, Qaa, Qaa, Qaa, Qaa]; simp only [Array.size_append, cat, ((Qac _ _).trans hal), ((Qac _ _).trans hgl), ((Qac _ _).trans hkl), ((Qac _ _).trans hpl), ((Qac _ _).trans hrl)]; rfl)) kj (isz (n := 32) kj ((Qac _ _).trans htl))) ?_
  refine Qab (.agg (ints .u8 (List.replicate 32 0))) 12 rfl kj kj ?_
  refine Qab (.bool false) 13 rfl kj (Qa7 40 _ _ _ _ _ (.bool false) rfl kj kj kj (QaD 40 (e := 5) (k := .u8) (start) (List.replicate 32 0) (decide_eq_false h2) htl (List.length_replicate (n := 32)) kj kj kj _)) ?_
  refine Qab (.bool false) 3 rfl kj kj ?_
  refine Qaf ?_
  refine hK5 _ _ ?_
  refine wp_seq_k fun K6 hK6 => ?_
  refine wp_seq_k fun K7 hK7 => ?_
  refine Qae ?_
  refine Qab (.pointer (some ⟨g2, 66, none⟩)) 14 rfl kj kj ?_
  refine Qab (.int .i64 3) 15 rfl kj (Qag 3 _ g2 66 47 _ (.int .i64 3) _ r2_2 rfl kj (Qah [ints .u8 (grp), #[.int .i64 ep], #[.int .i64 fr], ints .u8 (bas)] [#[.int .i64 3]] [#[.bool us], #[.int .i64 nm], ints .u8 (key), ints .u8 (sg), ints .u8 (pa), #[.slice a_m ms.length c_m], ints .u8 (start), #[.int .i64 at_], ints .u8 (sig)] 66 (by rw [Qaa, Qaa, Qaa, Qaa]; simp only [Array.size_append, cat, ((Qac _ _).trans hal), ((Qac _ _).trans hrl)]; rfl) 0 _ rfl) kj) ?_
  refine Qaf ?_
  refine hK7 _ _ ?_
  refine wp_block ?_
  refine wp_seq_k fun K8 hK8 => ?_
  refine Qae ?_
  refine Qab (.bool false) 17 rfl kj kj ?_
  refine Qab (.bool false) 16 rfl kj kj ?_
  refine Qaf ?_
  refine hK8 _ _ ?_
  refine cond_false kj ?_
  refine wp_seq_k fun K9 hK9 => ?_
  refine Qae ?_
  refine Qab (.bool false) 27 rfl kj kj ?_
  refine Qab (.bool false) 26 rfl kj kj ?_
  refine Qaf ?_
  refine hK9 _ _ ?_
  refine cond_false kj ?_
  refine wp_seq_k fun K10 hK10 => ?_
  refine Qae ?_
  refine Qab (.bool true) 40 rfl kj kj ?_
  refine Qab (.bool true) 39 rfl kj kj ?_
  refine Qaf ?_
  refine hK10 _ _ ?_
  refine cond_true kj ?_
  refine wp_seq_k fun K11 hK11 => ?_
  refine Qae ?_
  refine Qab (.pointer (some ⟨g2, 67, none⟩)) 41 rfl kj kj ?_
  refine Qab (.agg (cat [#[.bool us], #[.int .i64 nm], ints .u8 (key), ints .u8 (sg), ints .u8 (pa), #[.slice a_m ms.length c_m]])) 42 rfl kj (Qau 43 _ g2 67 47 _ _ _ r2_2 rfl kj (Qah [ints .u8 (grp), #[.int .i64 ep], #[.int .i64 fr], ints .u8 (bas), #[.int .i64 3]] [#[.bool us], #[.int .i64 nm], ints .u8 (key), ints .u8 (sg), ints .u8 (pa), #[.slice a_m ms.length c_m]] [ints .u8 (start), #[.int .i64 at_], ints .u8 (sig)] 67 (by rw [Qaa, Qaa, Qaa, Qaa, Qaa]; simp only [Array.size_append, cat, ((Qac _ _).trans hal), ((Qac _ _).trans hrl)]; rfl)) kj (isz (n := 99) kj (by rw [Qaa, Qaa, Qaa, Qaa, Qaa, Qaa]; simp only [Array.size_append, cat, ((Qac _ _).trans hgl), ((Qac _ _).trans hkl), ((Qac _ _).trans hpl)]; rfl))) ?_
  refine Qa1 (.bool true) 108 #[.agg (cat [#[.bool us], #[.int .i64 nm], ints .u8 (key), ints .u8 (sg), ints .u8 (pa), #[.slice a_m ms.length c_m]])] 43 rfl kj kj (Qh8 us nm key sg pa ms _ _ _ h1 _ hkl hgl hpl) fun W3 e3 => ?_
  have x3 : Ext w W3 := Ext.tr x2 e3
  refine Qab (.bool true) 44 rfl kj kj ?_
  refine Qab (.bool false) 45 rfl kj kj ?_
  refine Qab (.bool false) 46 rfl kj kj ?_
  refine Qab (.bool false) 47 rfl kj kj ?_
  refine Qao 48 rfl kj ?_
  refine Qao 49 rfl kj ?_
  refine Qao 50 rfl kj ?_
  refine Qab (.bool false) 51 rfl kj kj ?_
  refine Qab (.bool false) 2 rfl kj kj ?_
  refine Qaf ?_
  refine hK11 _ _ ?_
  refine wp_ret ?_
  repeat (first | with_reducible refine goR1 ?_ | with_reducible refine goR2 ?_)
  exact (show bodyPost _ _ _ .ret _ _ from ret1 (.bool false) rfl (Qaw kj) ⟨rfl, x3⟩)
set_option maxHeartbeats 4000000 in
theorem Qga (grp : List Int) (ep fr : Int) (bas : List Int) (us : Bool) (nm : Int) (key sg pa ms start : List Int) (at_ : Int) (sig : List Int) (a_m : Option Addr) (c_m : Nat) (w : World) (hrl : grp.length = 32) (hrb : Qaj grp) (hal : bas.length = 32) (hab : Qaj bas) (hkl : key.length = 32) (hgl : sg.length = 32) (hpl : pa.length = 32) (hkb : Qaj key) (hgb : Qaj sg) (hpb : Qaj pa) (hml : ms.length ≤ 1000000) (htl : start.length = 32) (htb : Qaj start) (hil : sig.length = 64) (hib : Qaj sig) (hm : RdK .i64 w.heap.size ms (.slice a_m ms.length c_m) w) (h0 : hgB ep fr = true) (h1 : QaE us nm key sg pa ms = true) (h2 : start = List.replicate 32 0) : Calls Try.prog 58 #[.agg (cat [ints .u8 (grp), #[.int .i64 ep], #[.int .i64 fr], ints .u8 (bas), #[.int .i64 3], #[.bool us], #[.int .i64 nm], ints .u8 (key), ints .u8 (sg), ints .u8 (pa), #[.slice a_m ms.length c_m], ints .u8 (start), #[.int .i64 at_], ints .u8 (sig)])] w (Ret w (.bool (inB at_ 31))) := by
  refine enter 52 [(0, .agg (cat [ints .u8 (grp), #[.int .i64 ep], #[.int .i64 fr], ints .u8 (bas), #[.int .i64 3], #[.bool us], #[.int .i64 nm], ints .u8 (key), ints .u8 (sg), ints .u8 (pa), #[.slice a_m ms.length c_m], ints .u8 (start), #[.int .i64 at_], ints .u8 (sig)]))] Try.func58 rfl rfl kj rfl ?_
  refine wp_seq_k fun K1 hK1 => ?_
  refine Qae ?_
  refine Qav (cat [ints .u8 (grp), #[.int .i64 ep], #[.int .i64 fr], ints .u8 (bas), #[.int .i64 3], #[.bool us], #[.int .i64 nm], ints .u8 (key), ints .u8 (sg), ints .u8 (pa), #[.slice a_m ms.length c_m], ints .u8 (start), #[.int .i64 at_], ints .u8 (sig)]) 47 1 rfl kj kj fun g2 W1 l2 e1 r2_1 => ?_
  have x1 : Ext w W1 := Ext.tr (Rely.Ext.refl w) e1
  have b2 : w.heap.size ≤ g2 := Nat.le_trans (Rely.Ext.refl w).size l2
  refine Qab (.bool false) 2 rfl kj kj ?_
  refine Qaf ?_
  refine hK1 _ _ ?_
  refine wp_seq_k fun K3 hK3 => ?_
  refine wp_seq_k fun K4 hK4 => ?_
  refine Qae ?_
  refine Qab (.pointer (some ⟨g2, 32, none⟩)) 4 rfl kj kj ?_
  refine Qab (.int .i64 ep) 5 rfl kj (Qag 3 _ g2 32 47 _ (.int .i64 ep) _ r2_1 rfl kj (Qah [ints .u8 (grp)] [#[.int .i64 ep]] [#[.int .i64 fr], ints .u8 (bas), #[.int .i64 3], #[.bool us], #[.int .i64 nm], ints .u8 (key), ints .u8 (sg), ints .u8 (pa), #[.slice a_m ms.length c_m], ints .u8 (start), #[.int .i64 at_], ints .u8 (sig)] 32 ((Qac _ _).trans hrl) 0 _ rfl) kj) ?_
  refine Qab (.pointer (some ⟨g2, 33, none⟩)) 6 rfl kj kj ?_
  refine Qab (.int .i64 fr) 7 rfl kj (Qag 3 _ g2 33 47 _ (.int .i64 fr) _ r2_1 rfl kj (Qah [ints .u8 (grp), #[.int .i64 ep]] [#[.int .i64 fr]] [ints .u8 (bas), #[.int .i64 3], #[.bool us], #[.int .i64 nm], ints .u8 (key), ints .u8 (sg), ints .u8 (pa), #[.slice a_m ms.length c_m], ints .u8 (start), #[.int .i64 at_], ints .u8 (sig)] 33 (by rw [Qaa, Qaa]; simp only [Array.size_append, cat, ((Qac _ _).trans hrl)]; rfl) 0 _ rfl) kj) ?_
  refine Qa1 (.bool true) 64 #[.int .i64 ep, .int .i64 fr] 8 rfl kj kj ((hgE ep fr _ h0) _) fun W2 e2 => ?_
  have x2 : Ext w W2 := Ext.tr x1 e2
  refine Qab (.bool false) 9 rfl kj kj ?_
  refine Qaf ?_
  refine hK4 _ _ ?_
  refine cond_false kj ?_
  refine wp_skip ?_
  refine hK3 _ _ ?_
  refine wp_seq_k fun K5 hK5 => ?_
  refine Qae ?_
  refine Qab (.pointer (some ⟨g2, 166, none⟩)) 10 rfl kj kj ?_
  have r2_2 := (Qar r2_1 e2)
  refine Qab (.agg (ints .u8 (start))) 11 rfl kj (Qau 40 _ g2 166 47 _ _ _ r2_2 rfl kj (Qah [ints .u8 (grp), #[.int .i64 ep], #[.int .i64 fr], ints .u8 (bas), #[.int .i64 3], #[.bool us], #[.int .i64 nm], ints .u8 (key), ints .u8 (sg), ints .u8 (pa), #[.slice a_m ms.length c_m]] [ints .u8 (start)] [#[.int .i64 at_], ints .u8 (sig)] 166 (by rw [Qaa, Qaa, Qaa, Qaa, Qaa, Qaa, Qaa, Qaa, Qaa, Qaa, Qaa]; simp only [Array.size_append, cat, ((Qac _ _).trans hal), ((Qac _ _).trans hgl), ((Qac _ _).trans hkl), ((Qac _ _).trans hpl), ((Qac _ _).trans hrl)]; rfl)) kj (isz (n := 32) kj ((Qac _ _).trans htl))) ?_
  refine Qab (.agg (ints .u8 (List.replicate 32 0))) 12 rfl kj kj ?_
  refine Qab (.bool true) 13 rfl kj (Qa7 40 _ _ _ _ _ (.bool true) rfl kj kj kj (QaD 40 (e := 5) (k := .u8) (start) (List.replicate 32 0) (decide_eq_true h2) htl (List.length_replicate (n := 32)) kj kj kj _)) ?_
  refine Qab (.bool true) 3 rfl kj kj ?_
  refine Qaf ?_
  refine hK5 _ _ ?_
  refine wp_seq_k fun K6 hK6 => ?_
  refine wp_seq_k fun K7 hK7 => ?_
  refine Qae ?_
  refine Qab (.pointer (some ⟨g2, 66, none⟩)) 14 rfl kj kj ?_
  refine Qab (.int .i64 3) 15 rfl kj (Qag 3 _ g2 66 47 _ (.int .i64 3) _ r2_2 rfl kj (Qah [ints .u8 (grp), #[.int .i64 ep], #[.int .i64 fr], ints .u8 (bas)] [#[.int .i64 3]] [#[.bool us], #[.int .i64 nm], ints .u8 (key), ints .u8 (sg), ints .u8 (pa), #[.slice a_m ms.length c_m], ints .u8 (start), #[.int .i64 at_], ints .u8 (sig)] 66 (by rw [Qaa, Qaa, Qaa, Qaa]; simp only [Array.size_append, cat, ((Qac _ _).trans hal), ((Qac _ _).trans hrl)]; rfl) 0 _ rfl) kj) ?_
  refine Qaf ?_
  refine hK7 _ _ ?_
  refine wp_block ?_
  refine wp_seq_k fun K8 hK8 => ?_
  refine Qae ?_
  refine Qab (.bool false) 17 rfl kj kj ?_
  refine Qab (.bool false) 16 rfl kj kj ?_
  refine Qaf ?_
  refine hK8 _ _ ?_
  refine cond_false kj ?_
  refine wp_seq_k fun K9 hK9 => ?_
  refine Qae ?_
  refine Qab (.bool false) 27 rfl kj kj ?_
  refine Qab (.bool false) 26 rfl kj kj ?_
  refine Qaf ?_
  refine hK9 _ _ ?_
  refine cond_false kj ?_
  refine wp_seq_k fun K10 hK10 => ?_
  refine Qae ?_
  refine Qab (.bool true) 40 rfl kj kj ?_
  refine Qab (.bool true) 39 rfl kj kj ?_
  refine Qaf ?_
  refine hK10 _ _ ?_
  refine cond_true kj ?_
  refine wp_seq_k fun K11 hK11 => ?_
  refine Qae ?_
  refine Qab (.pointer (some ⟨g2, 67, none⟩)) 41 rfl kj kj ?_
  refine Qab (.agg (cat [#[.bool us], #[.int .i64 nm], ints .u8 (key), ints .u8 (sg), ints .u8 (pa), #[.slice a_m ms.length c_m]])) 42 rfl kj (Qau 43 _ g2 67 47 _ _ _ r2_2 rfl kj (Qah [ints .u8 (grp), #[.int .i64 ep], #[.int .i64 fr], ints .u8 (bas), #[.int .i64 3]] [#[.bool us], #[.int .i64 nm], ints .u8 (key), ints .u8 (sg), ints .u8 (pa), #[.slice a_m ms.length c_m]] [ints .u8 (start), #[.int .i64 at_], ints .u8 (sig)] 67 (by rw [Qaa, Qaa, Qaa, Qaa, Qaa]; simp only [Array.size_append, cat, ((Qac _ _).trans hal), ((Qac _ _).trans hrl)]; rfl)) kj (isz (n := 99) kj (by rw [Qaa, Qaa, Qaa, Qaa, Qaa, Qaa]; simp only [Array.size_append, cat, ((Qac _ _).trans hgl), ((Qac _ _).trans hkl), ((Qac _ _).trans hpl)]; rfl))) ?_
  refine Qa1 (.bool true) 108 #[.agg (cat [#[.bool us], #[.int .i64 nm], ints .u8 (key), ints .u8 (sg), ints .u8 (pa), #[.slice a_m ms.length c_m]])] 43 rfl kj kj (Qh8 us nm key sg pa ms _ _ _ h1 _ hkl hgl hpl) fun W3 e3 => ?_
  have x3 : Ext w W3 := Ext.tr x2 e3
  refine Qab (.bool true) 44 rfl kj kj ?_
  refine Qab (.bool true) 45 rfl kj kj ?_
  refine Qab (.bool true) 46 rfl kj kj ?_
  refine Qab (.bool true) 47 rfl kj kj ?_
  refine Qab (.pointer (some ⟨g2, 198, none⟩)) 48 rfl kj kj ?_
  have r2_3 := (Qar r2_2 e3)
  refine Qab (.int .i64 at_) 49 rfl kj (Qag 3 _ g2 198 47 _ (.int .i64 at_) _ r2_3 rfl kj (Qah [ints .u8 (grp), #[.int .i64 ep], #[.int .i64 fr], ints .u8 (bas), #[.int .i64 3], #[.bool us], #[.int .i64 nm], ints .u8 (key), ints .u8 (sg), ints .u8 (pa), #[.slice a_m ms.length c_m], ints .u8 (start)] [#[.int .i64 at_]] [ints .u8 (sig)] 198 (by rw [Qaa, Qaa, Qaa, Qaa, Qaa, Qaa, Qaa, Qaa, Qaa, Qaa, Qaa, Qaa]; simp only [Array.size_append, cat, ((Qac _ _).trans hal), ((Qac _ _).trans hgl), ((Qac _ _).trans hkl), ((Qac _ _).trans hpl), ((Qac _ _).trans hrl), ((Qac _ _).trans htl)]; rfl) 0 _ rfl) kj) ?_
  refine Qa1 (.bool (inB at_ 31)) 77 #[.int .i64 at_, .int .i64 31] 50 rfl kj kj ((inC at_ 31) _) fun W4 e4 => ?_
  have x4 : Ext w W4 := Ext.tr x3 e4
  refine Qab (.bool (inB at_ 31)) 51 rfl kj kj ?_
  refine Qab (.bool (inB at_ 31)) 2 rfl kj kj ?_
  refine Qaf ?_
  refine hK11 _ _ ?_
  refine wp_ret ?_
  repeat (first | with_reducible refine goR1 ?_ | with_reducible refine goR2 ?_)
  exact (show bodyPost _ _ _ .ret _ _ from ret1 (.bool (inB at_ 31)) rfl (Qaw kj) ⟨rfl, x4⟩)
set_option maxHeartbeats 4000000 in
theorem QgW (grp : List Int) (ep fr : Int) (bas : List Int) (kd : Int) (us : Bool) (nm : Int) (key sg pa ms start : List Int) (at_ : Int) (sig : List Int) (a_m : Option Addr) (c_m : Nat) (w : World) (hrl : grp.length = 32) (hrb : Qaj grp) (hal : bas.length = 32) (hab : Qaj bas) (hkl : key.length = 32) (hgl : sg.length = 32) (hpl : pa.length = 32) (hkb : Qaj key) (hgb : Qaj sg) (hpb : Qaj pa) (hml : ms.length ≤ 1000000) (htl : start.length = 32) (htb : Qaj start) (hil : sig.length = 64) (hib : Qaj sig) (hm : RdK .i64 w.heap.size ms (.slice a_m ms.length c_m) w) (h0 : hgB ep fr = true) (hk : kd < 1 ∨ 3 < kd) : Calls Try.prog 58 #[.agg (cat [ints .u8 (grp), #[.int .i64 ep], #[.int .i64 fr], ints .u8 (bas), #[.int .i64 kd], #[.bool us], #[.int .i64 nm], ints .u8 (key), ints .u8 (sg), ints .u8 (pa), #[.slice a_m ms.length c_m], ints .u8 (start), #[.int .i64 at_], ints .u8 (sig)])] w (Ret w (.bool false)) := by
  refine enter 52 [(0, .agg (cat [ints .u8 (grp), #[.int .i64 ep], #[.int .i64 fr], ints .u8 (bas), #[.int .i64 kd], #[.bool us], #[.int .i64 nm], ints .u8 (key), ints .u8 (sg), ints .u8 (pa), #[.slice a_m ms.length c_m], ints .u8 (start), #[.int .i64 at_], ints .u8 (sig)]))] Try.func58 rfl rfl kj rfl ?_
  refine wp_seq_k fun K1 hK1 => ?_
  refine Qae ?_
  refine Qav (cat [ints .u8 (grp), #[.int .i64 ep], #[.int .i64 fr], ints .u8 (bas), #[.int .i64 kd], #[.bool us], #[.int .i64 nm], ints .u8 (key), ints .u8 (sg), ints .u8 (pa), #[.slice a_m ms.length c_m], ints .u8 (start), #[.int .i64 at_], ints .u8 (sig)]) 47 1 rfl kj kj fun g2 W1 l2 e1 r2_1 => ?_
  have x1 : Ext w W1 := Ext.tr (Rely.Ext.refl w) e1
  have b2 : w.heap.size ≤ g2 := Nat.le_trans (Rely.Ext.refl w).size l2
  refine Qab (.bool false) 2 rfl kj kj ?_
  refine Qaf ?_
  refine hK1 _ _ ?_
  refine wp_seq_k fun K3 hK3 => ?_
  refine wp_seq_k fun K4 hK4 => ?_
  refine Qae ?_
  refine Qab (.pointer (some ⟨g2, 32, none⟩)) 4 rfl kj kj ?_
  refine Qab (.int .i64 ep) 5 rfl kj (Qag 3 _ g2 32 47 _ (.int .i64 ep) _ r2_1 rfl kj (Qah [ints .u8 (grp)] [#[.int .i64 ep]] [#[.int .i64 fr], ints .u8 (bas), #[.int .i64 kd], #[.bool us], #[.int .i64 nm], ints .u8 (key), ints .u8 (sg), ints .u8 (pa), #[.slice a_m ms.length c_m], ints .u8 (start), #[.int .i64 at_], ints .u8 (sig)] 32 ((Qac _ _).trans hrl) 0 _ rfl) kj) ?_
  refine Qab (.pointer (some ⟨g2, 33, none⟩)) 6 rfl kj kj ?_
  refine Qab (.int .i64 fr) 7 rfl kj (Qag 3 _ g2 33 47 _ (.int .i64 fr) _ r2_1 rfl kj (Qah [ints .u8 (grp), #[.int .i64 ep]] [#[.int .i64 fr]] [ints .u8 (bas), #[.int .i64 kd], #[.bool us], #[.int .i64 nm], ints .u8 (key), ints .u8 (sg), ints .u8 (pa), #[.slice a_m ms.length c_m], ints .u8 (start), #[.int .i64 at_], ints .u8 (sig)] 33 (by rw [Qaa, Qaa]; simp only [Array.size_append, cat, ((Qac _ _).trans hrl)]; rfl) 0 _ rfl) kj) ?_
  refine Qa1 (.bool true) 64 #[.int .i64 ep, .int .i64 fr] 8 rfl kj kj ((hgE ep fr _ h0) _) fun W2 e2 => ?_
  have x2 : Ext w W2 := Ext.tr x1 e2
  refine Qab (.bool false) 9 rfl kj kj ?_
  refine Qaf ?_
  refine hK4 _ _ ?_
  refine cond_false kj ?_
  refine wp_skip ?_
  refine hK3 _ _ ?_
  refine wp_seq_k fun K5 hK5 => ?_
  refine Qae ?_
  refine Qab (.pointer (some ⟨g2, 166, none⟩)) 10 rfl kj kj ?_
  have r2_2 := (Qar r2_1 e2)
  refine Qab (.agg (ints .u8 (start))) 11 rfl kj (Qau 40 _ g2 166 47 _ _ _ r2_2 rfl kj (Qah [ints .u8 (grp), #[.int .i64 ep], #[.int .i64 fr], ints .u8 (bas), #[.int .i64 kd], #[.bool us], #[.int .i64 nm], ints .u8 (key), ints .u8 (sg), ints .u8 (pa), #[.slice a_m ms.length c_m]] [ints .u8 (start)] [#[.int .i64 at_], ints .u8 (sig)] 166 (by rw [Qaa, Qaa, Qaa, Qaa, Qaa, Qaa, Qaa, Qaa, Qaa, Qaa, Qaa]; simp only [Array.size_append, cat, ((Qac _ _).trans hal), ((Qac _ _).trans hgl), ((Qac _ _).trans hkl), ((Qac _ _).trans hpl), ((Qac _ _).trans hrl)]; rfl)) kj (isz (n := 32) kj ((Qac _ _).trans htl))) ?_
  refine Qab (.agg (ints .u8 (List.replicate 32 0))) 12 rfl kj kj ?_
  refine Qab (.bool (decide (start = List.replicate 32 0))) 13 rfl kj (Qa7 40 _ _ _ _ _ (.bool (decide (start = List.replicate 32 0))) rfl kj kj kj (QaD 40 (e := 5) (k := .u8) (start) (List.replicate 32 0) rfl htl (List.length_replicate (n := 32)) kj kj kj _)) ?_
  refine Qab (.bool (decide (start = List.replicate 32 0))) 3 rfl kj kj ?_
  refine Qaf ?_
  refine hK5 _ _ ?_
  refine wp_seq_k fun K6 hK6 => ?_
  refine wp_seq_k fun K7 hK7 => ?_
  refine Qae ?_
  refine Qab (.pointer (some ⟨g2, 66, none⟩)) 14 rfl kj kj ?_
  refine Qab (.int .i64 kd) 15 rfl kj (Qag 3 _ g2 66 47 _ (.int .i64 kd) _ r2_2 rfl kj (Qah [ints .u8 (grp), #[.int .i64 ep], #[.int .i64 fr], ints .u8 (bas)] [#[.int .i64 kd]] [#[.bool us], #[.int .i64 nm], ints .u8 (key), ints .u8 (sg), ints .u8 (pa), #[.slice a_m ms.length c_m], ints .u8 (start), #[.int .i64 at_], ints .u8 (sig)] 66 (by rw [Qaa, Qaa, Qaa, Qaa]; simp only [Array.size_append, cat, ((Qac _ _).trans hal), ((Qac _ _).trans hrl)]; rfl) 0 _ rfl) kj) ?_
  refine Qaf ?_
  refine hK7 _ _ ?_
  refine wp_block ?_
  refine wp_seq_k fun K8 hK8 => ?_
  refine Qae ?_
  refine Qab (.bool false) 17 rfl kj (Qax (u := .bool ((kd == 1))) kj (congrArg Value.bool (beq_eq_false_iff_ne.2 (by omega)))) ?_
  refine Qab (.bool false) 16 rfl kj kj ?_
  refine Qaf ?_
  refine hK8 _ _ ?_
  refine cond_false kj ?_
  refine wp_seq_k fun K9 hK9 => ?_
  refine Qae ?_
  refine Qab (.bool false) 27 rfl kj (Qax (u := .bool ((kd == 2))) kj (congrArg Value.bool (beq_eq_false_iff_ne.2 (by omega)))) ?_
  refine Qab (.bool false) 26 rfl kj kj ?_
  refine Qaf ?_
  refine hK9 _ _ ?_
  refine cond_false kj ?_
  refine wp_seq_k fun K10 hK10 => ?_
  refine Qae ?_
  refine Qab (.bool false) 40 rfl kj (Qax (u := .bool ((kd == 3))) kj (congrArg Value.bool (beq_eq_false_iff_ne.2 (by omega)))) ?_
  refine Qab (.bool false) 39 rfl kj kj ?_
  refine Qaf ?_
  refine hK10 _ _ ?_
  refine cond_false kj ?_
  refine wp_skip ?_
  refine hK6 _ _ ?_
  refine wp_seq_k fun K11 hK11 => ?_
  refine Qae ?_
  refine Qab (.bool false) 2 rfl kj kj ?_
  refine Qaf ?_
  refine hK11 _ _ ?_
  refine wp_ret ?_
  repeat (first | with_reducible refine goR1 ?_ | with_reducible refine goR2 ?_)
  exact (show bodyPost _ _ _ .ret _ _ from ret1 (.bool false) rfl (Qaw kj) ⟨rfl, x2⟩)
theorem QhK (grp : List Int) (ep fr : Int) (bas : List Int) (kd : Int) (us : Bool) (nm : Int) (key sg pa ms start : List Int) (at_ : Int) (sig : List Int) (a_m : Option Addr) (c_m : Nat) (w : World) (hrl : grp.length = 32) (hrb : Qaj grp) (hal : bas.length = 32) (hab : Qaj bas) (hkl : key.length = 32) (hgl : sg.length = 32) (hpl : pa.length = 32) (hkb : Qaj key) (hgb : Qaj sg) (hpb : Qaj pa) (hml : ms.length ≤ 1000000) (htl : start.length = 32) (htb : Qaj start) (hil : sig.length = 64) (hib : Qaj sig) (hm : RdK .i64 w.heap.size ms (.slice a_m ms.length c_m) w) : Calls Try.prog 58 #[.agg (cat [ints .u8 (grp), #[.int .i64 ep], #[.int .i64 fr], ints .u8 (bas), #[.int .i64 kd], #[.bool us], #[.int .i64 nm], ints .u8 (key), ints .u8 (sg), ints .u8 (pa), #[.slice a_m ms.length c_m], ints .u8 (start), #[.int .i64 at_], ints .u8 (sig)])] w (Ret w (.bool (QbA ep fr kd us nm key sg pa ms start at_))) := by
  unfold QbA
  cases h0 : hgB ep fr with
  | false => rw [Bool.false_and]; exact QgV grp ep fr bas kd us nm key sg pa ms start at_ sig a_m c_m w hrl hrb hal hab hkl hgl hpl hkb hgb hpb hml htl htb hil hib hm h0
  | true =>
    rw [Bool.true_and]
    rcases (show kd = 1 ∨ kd = 2 ∨ kd = 3 ∨ (kd < 1 ∨ 3 < kd) by omega) with rfl | rfl | rfl | hk
    · rw [if_pos rfl]
      cases h1 : QbN us nm key sg pa ms with
      | false => rw [Bool.false_and]; exact Qgh grp ep fr bas us nm key sg pa ms start at_ sig a_m c_m w hrl hrb hal hab hkl hgl hpl hkb hgb hpb hml htl htb hil hib hm h0 h1
      | true => rw [Bool.true_and]; exact Qgg grp ep fr bas us nm key sg pa ms start at_ sig a_m c_m w hrl hrb hal hab hkl hgl hpl hkb hgb hpb hml htl htb hil hib hm h0 h1
    · rw [if_neg (by decide), if_pos rfl]
      cases h1 : QbN us nm key sg pa ms with
      | false => rw [Bool.false_and]; exact Qgf grp ep fr bas us nm key sg pa ms start at_ sig a_m c_m w hrl hrb hal hab hkl hgl hpl hkb hgb hpb hml htl htb hil hib hm h0 h1
      | true =>
        rw [Bool.true_and]
        by_cases h2 : start = List.replicate 32 0
        · rw [decide_eq_true h2, Bool.true_and]; exact Qgd grp ep fr bas us nm key sg pa ms start at_ sig a_m c_m w hrl hrb hal hab hkl hgl hpl hkb hgb hpb hml htl htb hil hib hm h0 h1 h2
        · rw [decide_eq_false h2, Bool.false_and]; exact Qge grp ep fr bas us nm key sg pa ms start at_ sig a_m c_m w hrl hrb hal hab hkl hgl hpl hkb hgb hpb hml htl htb hil hib hm h0 h1 h2
    · rw [if_neg (by decide), if_neg (by decide), if_pos rfl]
      cases h1 : QaE us nm key sg pa ms with
      | false => rw [Bool.false_and]; exact Qgc grp ep fr bas us nm key sg pa ms start at_ sig a_m c_m w hrl hrb hal hab hkl hgl hpl hkb hgb hpb hml htl htb hil hib hm h0 h1
      | true =>
        rw [Bool.true_and]
        by_cases h2 : start = List.replicate 32 0
        · rw [decide_eq_true h2, Bool.true_and]; exact Qga grp ep fr bas us nm key sg pa ms start at_ sig a_m c_m w hrl hrb hal hab hkl hgl hpl hkb hgb hpb hml htl htb hil hib hm h0 h1 h2
        · rw [decide_eq_false h2, Bool.false_and]; exact Qgb grp ep fr bas us nm key sg pa ms start at_ sig a_m c_m w hrl hrb hal hab hkl hgl hpl hkb hgb hpb hml htl htb hil hib hm h0 h1 h2
    · rw [if_neg (by omega), if_neg (by omega), if_neg (by omega)]; exact QgW grp ep fr bas kd us nm key sg pa ms start at_ sig a_m c_m w hrl hrb hal hab hkl hgl hpl hkb hgb hpb hml htl htb hil hib hm h0 hk
theorem Qef (grp : List Int) (ep fr : Int) (bas : List Int) (kd : Int) (us : Bool) (nm : Int) (key sg pa ms start : List Int) (at_ : Int) (sig : List Int) (a_m : Option Addr) (c_m : Nat) (b : Bool) (hb : QbA ep fr kd us nm key sg pa ms start at_ = b) (w : World) (hrl : grp.length = 32) (hrb : Qaj grp) (hal : bas.length = 32) (hab : Qaj bas) (hkl : key.length = 32) (hgl : sg.length = 32) (hpl : pa.length = 32) (hkb : Qaj key) (hgb : Qaj sg) (hpb : Qaj pa) (hml : ms.length ≤ 1000000) (htl : start.length = 32) (htb : Qaj start) (hil : sig.length = 64) (hib : Qaj sig) (hm : RdK .i64 w.heap.size ms (.slice a_m ms.length c_m) w) : Calls Try.prog 58 #[.agg (cat [ints .u8 (grp), #[.int .i64 ep], #[.int .i64 fr], ints .u8 (bas), #[.int .i64 kd], #[.bool us], #[.int .i64 nm], ints .u8 (key), ints .u8 (sg), ints .u8 (pa), #[.slice a_m ms.length c_m], ints .u8 (start), #[.int .i64 at_], ints .u8 (sig)])] w (Ret w (.bool b)) := hb ▸ QhK grp ep fr bas kd us nm key sg pa ms start at_ sig a_m c_m w hrl hrb hal hab hkl hgl hpl hkb hgb hpb hml htl htb hil hib hm
end Go.Proofs.Ytfelfmchachljaa.Wr
end
section
namespace Go.Proofs.Ytfelfmchachljaa.Wr
open Go Go.RowKit
open Rely Auto Own Sha
set_option linter.unusedVariables false
set_option linter.unusedSimpArgs false
open Wk
section
variable {P : Program} {ops : Array Oper} {Q : Exit → Act → World → Prop} {o : Oper} {N : Nat} {L : Env} {w V : World} {ds : List Deferred} {fuel : Nat} {listed : Array Bool}
def Qhx (N : Nat) (ds : List Deferred) {α : Type} (live : α → Env) (I : α → World → Prop) (e : Exit) (a : Act) (W : World) : Prop := match e with
  | .normal => ∃ (s : α) (X : Env), a = QaG ds N (live s ++ X) ∧ I s W
  | _ => False
theorem QcJ {α : Type} {id : Nat} {l : List Oper} (live : α → Env) (I : α → World → Prop) (hm : P.follows .mixedOrders = true) (h : ∀ W, Ext w W → WB P l.toArray (Qhx N ds live I) (Ext W) l.length (Array.replicate l.length false) (QaG ds N L) W)
    (kk : ∀ (s : α) (X : Env) (W : World), I s W → Q .normal (QaG ds N (live s ++ X)) W) : (Code.region id l.toArray true).wp P Q (QaG ds N L) w := by
  refine wp_mono (Qbl hm h) fun e a' w' h => ?_
  cases e with
  | normal =>
    obtain ⟨s, X, rfl, hI⟩ := h
    exact kk s X w' hI
  | _ => exact h.elim
theorem Qcx {α : Type} {live : α → Env} {I : α → World → Prop} (hr : Region.ready .any ops listed = []) (s : α) (hL : QeG L (live s)) (hI : I s w) : WB P ops (Qhx N ds live I) (Ext V) fuel listed (QaG ds N L) w :=
  wb_nil hr ⟨s, L, (QcW hL).symm, hI⟩
theorem Qcb {k : IntKind} {T : TypeId} (b : Nat) (s x : Operand) (t : TypeId) (ho2 : o.op = .call { callee := .builtin .append, args := #[s, x], argTypes := #[t, t] })
    (ht : P.underlying t = some (.slice T)) (hi : (P.info? T).map (fun i => (i.zero, i.size, i.bytes)) = some (some (.int k 0), 1, b)) (hb8 : b ≤ 8) (d : Nat) (hd : o.dst = some d) (j : Nat) (ho : ops[j]? = some o) (hg : QbL ops o N L = some true) {B : Nat} {v y : Value} {xs ys : List Int}
    (hs : Rely.look (envN N L) s = v) (hx : Rely.look (envN N L) x = y)
    (h : OwnN k T V.heap.size xs v w) (hy : RdK k B ys y w) (hn : xs.length + ys.length ≤ 1000000000) (hV : Ext V w) {g : Nat} {c : Array Value} {T' : TypeId} (hrow : w.heap[g]? = some (.cells c T')) (hnb : v.ownBlock ≠ some g)
    (kk : ∀ (u : Value) (W' : World), OwnN k T V.heap.size (xs ++ ys) u W' → Ext V W' → Below V.heap.size w W' → W'.heap[g]? = some (.cells c T') → WB P ops Q (Ext V) fuel (listed.setIfInBounds j true) (QaG ds N ((d, u) :: L)) W') : WO P ops Q (Ext V) j fuel listed (QaG ds N L) w := by
  obtain ⟨v', W', h1, h2, h3, h4⟩ := Qc1 (ρ := Rely.look (envN N L)) (o := o) (W := w) s x t ho2 ht hi hb8 hs hx h hy hn hV.size
  exact wo_run ho (fun u W' => OwnN k T V.heap.size (xs ++ ys) u W' ∧ Ext V W' ∧ Below V.heap.size w W' ∧ W'.heap[g]? = some (.cells c T')) d hd hg ⟨v', W', h1, h2, Qd6 hV h h3, ⟨h3.os, h3.tape, h3.output, h3.size, fun i hi => h3.block i (Nat.lt_of_lt_of_le hi hV.size) (fun q => by have := h.ge q.symm; omega)⟩, (h3.block g (Qay hrow) (fun q => hnb q.symm)).trans hrow⟩ (fun _ _ h => h.2.1) fun u W' h => kk u W' h.1 h.2.1 h.2.2.1 h.2.2.2
end
theorem QaS (us : Bool) (nm : Int) (key sg pa ms : List Int) : (Qbo us nm key sg pa ms).length = 2 + key.length + sg.length + pa.length + 1 + ms.length := by unfold Qbo Qch; simp only [List.length_append, List.length_cons, List.length_nil, List.length_map]
set_option maxHeartbeats 4000000 in
theorem QgQ (grp : List Int) (ep fr : Int) (bas : List Int) (us : Bool) (nm : Int) (key sg pa ms start : List Int) (at_ : Int) (sig : List Int) (a_m : Option Addr) (c_m : Nat) (w : World) (hrl : grp.length = 32) (hrb : Qaj grp) (hal : bas.length = 32) (hab : Qaj bas) (hkl : key.length = 32) (hgl : sg.length = 32) (hpl : pa.length = 32) (hkb : Qaj key) (hgb : Qaj sg) (hpb : Qaj pa) (hml : ms.length ≤ 1000000) (htl : start.length = 32) (htb : Qaj start) (hil : sig.length = 64) (hib : Qaj sig) (hm : RdK .i64 w.heap.size ms (.slice a_m ms.length c_m) w) (hep : 0 ≤ ep ∧ ep ≤ 4294967295) : Calls Try.prog 59 #[.agg (cat [ints .u8 (grp), #[.int .i64 ep], #[.int .i64 fr], ints .u8 (bas), #[.int .i64 1], #[.bool us], #[.int .i64 nm], ints .u8 (key), ints .u8 (sg), ints .u8 (pa), #[.slice a_m ms.length c_m], ints .u8 (start), #[.int .i64 at_], ints .u8 (sig)])] w (QbE w (OwnN .u8 5 w.heap.size (QbV grp ep fr bas 1 us nm key sg pa ms start at_ sig))) := by
 refine enter 47 [(0, .agg (cat [ints .u8 (grp), #[.int .i64 ep], #[.int .i64 fr], ints .u8 (bas), #[.int .i64 1], #[.bool us], #[.int .i64 nm], ints .u8 (key), ints .u8 (sg), ints .u8 (pa), #[.slice a_m ms.length c_m], ints .u8 (start), #[.int .i64 at_], ints .u8 (sig)]))] Try.func59 rfl rfl kj rfl ?_
 refine wp_seq_k fun K1 hK1 => ?_
 refine Qae ?_
 refine Qav (cat [ints .u8 (grp), #[.int .i64 ep], #[.int .i64 fr], ints .u8 (bas), #[.int .i64 1], #[.bool us], #[.int .i64 nm], ints .u8 (key), ints .u8 (sg), ints .u8 (pa), #[.slice a_m ms.length c_m], ints .u8 (start), #[.int .i64 at_], ints .u8 (sig)]) 47 1 rfl kj kj fun g2 W1 l2 e1 r2_1 => ?_
 have x1 : Ext w W1 := Ext.tr (Rely.Ext.refl w) e1
 have b2 : w.heap.size ≤ g2 := Nat.le_trans (Rely.Ext.refl w).size l2
 refine Qab (.slice none 0 0) 2 rfl kj kj ?_
 refine Qaf ?_
 refine hK1 _ _ ?_
 refine wp_seq_k fun K3 hK3 => ?_
 refine QcJ (fun (s0 : Value) => [(1, .pointer (some ⟨g2, 0, none⟩)), (3, s0)]) (fun s0 W => OwnN .u8 5 W1.heap.size (Qa6 grp ep fr ++ bas ++ [byV 1 0]) s0 W ∧ Ext W1 W) kj (fun WS eS => ?_) (fun u XX WJ hI => ?_)
 ·skip
  obtain ⟨W2, hWS⟩ : ∃ z, z = WS := ⟨_, rfl⟩
  rw [← hWS] at eS ⊢
  have e2 := eS
  have x2 : Ext w W2 := Ext.tr x1 e2
  refine Qat 0 (.pointer (some ⟨g2, 0, none⟩)) 4 rfl rfl kj kj (fun _ _ _ h => h) (fun W hR => by kernel_rfl) ?_
  have r2_2 := (Qar r2_1 e2)
  refine Qat 1 (.agg (ints .u8 (grp))) 5 rfl rfl kj kj (fun _ _ _ h => h) (fun W hR => (Qau 39 _ g2 0 47 _ _ _ (Qar r2_2 hR) rfl kj (Qah [] [ints .u8 (grp)] [#[.int .i64 ep], #[.int .i64 fr], ints .u8 (bas), #[.int .i64 1], #[.bool us], #[.int .i64 nm], ints .u8 (key), ints .u8 (sg), ints .u8 (pa), #[.slice a_m ms.length c_m], ints .u8 (start), #[.int .i64 at_], ints .u8 (sig)] 0 kj) kj (isz (n := 32) kj ((Qac _ _).trans hrl)))) ?_
  refine Qat 2 (.pointer (some ⟨g2, 32, none⟩)) 6 rfl rfl kj kj (fun _ _ _ h => h) (fun W hR => by kernel_rfl) ?_
  refine Qat 3 (.int .i64 ep) 7 rfl rfl kj kj (fun _ _ _ h => h) (fun W hR => (Qag 3 _ g2 32 47 _ (.int .i64 ep) _ (Qar r2_2 hR) rfl kj (Qah [ints .u8 (grp)] [#[.int .i64 ep]] [#[.int .i64 fr], ints .u8 (bas), #[.int .i64 1], #[.bool us], #[.int .i64 nm], ints .u8 (key), ints .u8 (sg), ints .u8 (pa), #[.slice a_m ms.length c_m], ints .u8 (start), #[.int .i64 at_], ints .u8 (sig)] 32 ((Qac _ _).trans hrl) 0 _ rfl) kj)) ?_
  refine Qat 4 (.pointer (some ⟨g2, 33, none⟩)) 8 rfl rfl kj kj (fun _ _ _ h => h) (fun W hR => by kernel_rfl) ?_
  refine Qat 5 (.int .i64 fr) 9 rfl rfl kj kj (fun _ _ _ h => h) (fun W hR => (Qag 3 _ g2 33 47 _ (.int .i64 fr) _ (Qar r2_2 hR) rfl kj (Qah [ints .u8 (grp), #[.int .i64 ep]] [#[.int .i64 fr]] [ints .u8 (bas), #[.int .i64 1], #[.bool us], #[.int .i64 nm], ints .u8 (key), ints .u8 (sg), ints .u8 (pa), #[.slice a_m ms.length c_m], ints .u8 (start), #[.int .i64 at_], ints .u8 (sig)] 33 (by rw [Qaa, Qaa]; simp only [Array.size_append, cat, ((Qac _ _).trans hrl)]; rfl) 0 _ rfl) kj)) ?_
  refine Qat 7 (.pointer (some ⟨g2, 34, none⟩)) 11 rfl rfl kj kj (fun _ _ _ h => h) (fun W hR => by kernel_rfl) ?_
  refine Qat 8 (.slice (some ⟨g2, 34, none⟩) 32 32) 12 rfl rfl kj kj (fun _ _ _ h => h) (fun W hR => by kernel_rfl) ?_
  refine Qat 10 (.pointer (some ⟨g2, 66, none⟩)) 14 rfl rfl kj kj (fun _ _ _ h => h) (fun W hR => by kernel_rfl) ?_
  refine Qat 11 (.int .i64 1) 15 rfl rfl kj kj (fun _ _ _ h => h) (fun W hR => (Qag 3 _ g2 66 47 _ (.int .i64 1) _ (Qar r2_2 hR) rfl kj (Qah [ints .u8 (grp), #[.int .i64 ep], #[.int .i64 fr], ints .u8 (bas)] [#[.int .i64 1]] [#[.bool us], #[.int .i64 nm], ints .u8 (key), ints .u8 (sg), ints .u8 (pa), #[.slice a_m ms.length c_m], ints .u8 (start), #[.int .i64 at_], ints .u8 (sig)] 66 (by rw [Qaa, Qaa, Qaa, Qaa]; simp only [Array.size_append, cat, ((Qac _ _).trans hal), ((Qac _ _).trans hrl)]; rfl) 0 _ rfl) kj)) ?_
  refine Qat 12 (.int .u8 (byV 1 0)) 16 rfl rfl kj kj (fun _ _ _ h => h) (fun W hR => (Qax (u := .int .u8 (IntKind.u8.wrap (1))) kj (congrArg (Value.int .u8) (byV0 1)))) ?_
  refine Qc2 6 13 kj ?_ ?_
  ·skip
   refine Qbi rfl (fun v W' => (OwnN .u8 5 W2.heap.size (Qa6 grp ep fr)) v W' ∧ Ext W2 W') 66 #[.agg (ints .u8 (grp)), .int .i64 ep, .int .i64 fr] 10 rfl kj kj ((QcD grp ep fr _ hrl hep).mono (by rintro e w' ⟨v, rfl, e1, hv⟩; exact ⟨v, rfl, hv, e1⟩)) (fun _ _ h => Rely.Ext.trans (Rely.Ext.refl W2) h.2) fun vv4 W3 hh4 => ?_
   obtain ⟨hv4, e3⟩ := hh4
   have x3 : Ext w W3 := Ext.tr x2 e3
   obtain ⟨ahd_, chd_, rfl, -⟩ := id (OwnN.rd hv4)
   have hva3 := OwnN.base (Rely.Ext.refl W2).size hv4
   refine Qc2 9 13 kj ?_ ?_
   ·skip
    have r2_3 := (Qar r2_2 e3)
    have y2_3 : Ext W2 W3 := (Rely.Ext.trans (Rely.Ext.refl W2) e3)
    refine Qbr (k := .u8) (T := 5) (xs := Qa6 grp ep fr) (ys := bas) (V := W2) 1 (.tmp 10) (.tmp 12) 26 rfl kj kj (by decide) 13 rfl 9 rfl kj kj kj hva3 (QaB 34 hal r2_3 (fun i hi => Qa8 [ints .u8 (grp), #[.int .i64 ep], #[.int .i64 fr]] [#[.int .i64 1], #[.bool us], #[.int .i64 nm], ints .u8 (key), ints .u8 (sg), ints .u8 (pa), #[.slice a_m ms.length c_m], ints .u8 (start), #[.int .i64 at_], ints .u8 (sig)] bas 34 i (34 + i) (by rw [Qaa, Qaa, Qaa]; simp only [Array.size_append, cat, ((Qac _ _).trans hrl)]; rfl) rfl (by rw [hal]; exact hi)) (Qay r2_3) (Nat.le_refl _) (by decide)) (by simp only [List.length_append, List.length_cons, List.length_nil, QaS, Qa9 ep fr hrl, hrl, hal, hkl, hgl, hpl, htl, hil]; omega) y2_3 fun zz1 W4 f5 y4 l4 => ?_
    have x4 : Ext w W4 := Ext.low x3 l4 x2.size
    obtain ⟨ap1_, cp1_, rfl, -⟩ := id (OwnN.rd f5)
    refine QaJ 13 kj ?_
    refine wo_run rfl (fun v W' => Ext W4 W' ∧ NewS W4.heap.size #[.int .u8 (byV 1 0)] 5 1 v W') 17 rfl kj ⟨_, _, (by kernel_rfl : _ = Result.ok (Next.value (.slice (some ⟨W4.heap.size, 0, none⟩) 1 1)) (W4.alloc (.cells #[.int .u8 (byV 1 0)] 5))), Qbf _ _, ⟨_, rfl, Nat.le_refl _, heap_alloc_new _ _⟩⟩ (fun _ _ h => Rely.Ext.trans y4 h.1) fun vv7 W5 hh7 => ?_
    obtain ⟨e5, gz, rfl, lz5, rz5⟩ := hh7
    have x5 : Ext w W5 := Ext.tr x4 e5
    have bz5 : w.heap.size ≤ gz := Nat.le_trans x4.size lz5
    refine QaJ 14 kj ?_
    have f9_5 := (f5.ext e5)
    have y2_5 : Ext W2 W5 := (Rely.Ext.trans y4 e5)
    refine Qbr (k := .u8) (T := 5) (xs := Qa6 grp ep fr ++ bas) (ys := [(byV 1 0)]) (V := W2) 1 (.tmp 13) (.tmp 17) 26 rfl kj kj (by decide) 18 rfl 14 rfl kj kj kj f9_5 (Qbd (xs := [(byV 1 0)]) (n := 1) rfl rz5 (Qay rz5) (show 1 ≤ maxLen from by decide)) (by simp only [List.length_append, List.length_cons, List.length_nil, QaS, Qa9 ep fr hrl, hrl, hal, hkl, hgl, hpl, htl, hil]; omega) y2_5 fun zz2 W6 f10 y6 l6 => ?_
    have x6 : Ext w W6 := Ext.low x5 l6 x2.size
    obtain ⟨ap2_, cp2_, rfl, -⟩ := id (OwnN.rd f10)
    refine Qat 15 (.slice ap2_ ((Qa6 grp ep fr ++ bas ++ [(byV 1 0)]).length) cp2_) 3 rfl rfl kj kj (fun _ _ _ h => h) (fun W hR => by kernel_rfl) ?_
    exact Qcx kj (.slice ap2_ ((Qa6 grp ep fr ++ bas ++ [(byV 1 0)]).length) cp2_) ⟨rfl, rfl, trivial⟩ ⟨OwnN.base e2.size f10, Rely.Ext.trans e2 y6⟩
   ·skip
    have y2_3 : Ext W2 W3 := (Rely.Ext.trans (Rely.Ext.refl W2) e3)
    refine wo_run rfl (fun v W' => Ext W3 W' ∧ NewS W3.heap.size #[.int .u8 (byV 1 0)] 5 1 v W') 17 rfl kj ⟨_, _, (by kernel_rfl : _ = Result.ok (Next.value (.slice (some ⟨W3.heap.size, 0, none⟩) 1 1)) (W3.alloc (.cells #[.int .u8 (byV 1 0)] 5))), Qbf _ _, ⟨_, rfl, Nat.le_refl _, heap_alloc_new _ _⟩⟩ (fun _ _ h => Rely.Ext.trans y2_3 h.1) fun vv12 W4 hh12 => ?_
    obtain ⟨e4, gz, rfl, lz4, rz4⟩ := hh12
    have x4 : Ext w W4 := Ext.tr x3 e4
    have bz4 : w.heap.size ≤ gz := Nat.le_trans x3.size lz4
    have hnb4 : (Value.slice ahd_ (Qa6 grp ep fr).length chd_).ownBlock ≠ some gz := fun q => by have := hva3.lt q; omega
    refine QaJ 9 kj ?_
    have f14_4 := (hva3.ext e4)
    have r2_3 := (Qar r2_2 e3)
    have r2_4 := (Qar r2_3 e4)
    have y2_4 : Ext W2 W4 := (Rely.Ext.trans y2_3 e4)
    refine Qcb (k := .u8) (T := 5) (xs := Qa6 grp ep fr) (ys := bas) (V := W2) 1 (.tmp 10) (.tmp 12) 26 rfl kj kj (by decide) 13 rfl 9 rfl kj kj kj f14_4 (QaB 34 hal r2_4 (fun i hi => Qa8 [ints .u8 (grp), #[.int .i64 ep], #[.int .i64 fr]] [#[.int .i64 1], #[.bool us], #[.int .i64 nm], ints .u8 (key), ints .u8 (sg), ints .u8 (pa), #[.slice a_m ms.length c_m], ints .u8 (start), #[.int .i64 at_], ints .u8 (sig)] bas 34 i (34 + i) (by rw [Qaa, Qaa, Qaa]; simp only [Array.size_append, cat, ((Qac _ _).trans hrl)]; rfl) rfl (by rw [hal]; exact hi)) (Qay r2_4) (Nat.le_refl _) (by decide)) (by simp only [List.length_append, List.length_cons, List.length_nil, QaS, Qa9 ep fr hrl, hrl, hal, hkl, hgl, hpl, htl, hil]; omega) y2_4 rz4 hnb4 fun zz1 W5 f15 y5 l5 rz5 => ?_
    have x5 : Ext w W5 := Ext.low x4 l5 x2.size
    obtain ⟨ap1_, cp1_, rfl, -⟩ := id (OwnN.rd f15)
    refine QaJ 14 kj ?_
    refine Qbr (k := .u8) (T := 5) (xs := Qa6 grp ep fr ++ bas) (ys := [(byV 1 0)]) (V := W2) 1 (.tmp 13) (.tmp 17) 26 rfl kj kj (by decide) 18 rfl 14 rfl kj kj kj f15 (Qbd (xs := [(byV 1 0)]) (n := 1) rfl rz5 (Qay rz5) (show 1 ≤ maxLen from by decide)) (by simp only [List.length_append, List.length_cons, List.length_nil, QaS, Qa9 ep fr hrl, hrl, hal, hkl, hgl, hpl, htl, hil]; omega) y5 fun zz2 W6 f16 y6 l6 => ?_
    have x6 : Ext w W6 := Ext.low x5 l6 x2.size
    obtain ⟨ap2_, cp2_, rfl, -⟩ := id (OwnN.rd f16)
    refine Qat 15 (.slice ap2_ ((Qa6 grp ep fr ++ bas ++ [(byV 1 0)]).length) cp2_) 3 rfl rfl kj kj (fun _ _ _ h => h) (fun W hR => by kernel_rfl) ?_
    exact Qcx kj (.slice ap2_ ((Qa6 grp ep fr ++ bas ++ [(byV 1 0)]).length) cp2_) ⟨rfl, rfl, trivial⟩ ⟨OwnN.base e2.size f16, Rely.Ext.trans e2 y6⟩
  ·skip
   refine wo_run rfl (fun v W' => Ext W2 W' ∧ NewS W2.heap.size #[.int .u8 (byV 1 0)] 5 1 v W') 17 rfl kj ⟨_, _, (by kernel_rfl : _ = Result.ok (Next.value (.slice (some ⟨W2.heap.size, 0, none⟩) 1 1)) (W2.alloc (.cells #[.int .u8 (byV 1 0)] 5))), Qbf _ _, ⟨_, rfl, Nat.le_refl _, heap_alloc_new _ _⟩⟩ (fun _ _ h => Rely.Ext.trans (Rely.Ext.refl W2) h.1) fun vv18 W3 hh18 => ?_
   obtain ⟨e3, gz, rfl, lz3, rz3⟩ := hh18
   have x3 : Ext w W3 := Ext.tr x2 e3
   have bz3 : w.heap.size ≤ gz := Nat.le_trans x2.size lz3
   refine QaJ 6 kj ?_
   have y2_3 : Ext W2 W3 := (Rely.Ext.trans (Rely.Ext.refl W2) e3)
   refine Qbi rfl (fun v W' => (OwnN .u8 5 W3.heap.size (Qa6 grp ep fr)) v W' ∧ Ext W3 W') 66 #[.agg (ints .u8 (grp)), .int .i64 ep, .int .i64 fr] 10 rfl kj kj ((QcD grp ep fr _ hrl hep).mono (by rintro e w' ⟨v, rfl, e1, hv⟩; exact ⟨v, rfl, hv, e1⟩)) (fun _ _ h => Rely.Ext.trans y2_3 h.2) fun vv20 W4 hh20 => ?_
   obtain ⟨hv20, e4⟩ := hh20
   have x4 : Ext w W4 := Ext.tr x3 e4
   obtain ⟨ahd_, chd_, rfl, -⟩ := id (OwnN.rd hv20)
   have hva4 := OwnN.base y2_3.size hv20
   have hnb4 := Qbp hv20 (Qay rz3)
   refine QaJ 9 kj ?_
   have r2_3 := (Qar r2_2 e3)
   have r2_4 := (Qar r2_3 e4)
   have y2_4 : Ext W2 W4 := (Rely.Ext.trans y2_3 e4)
   have r19_4 := (Qar rz3 e4)
   refine Qcb (k := .u8) (T := 5) (xs := Qa6 grp ep fr) (ys := bas) (V := W2) 1 (.tmp 10) (.tmp 12) 26 rfl kj kj (by decide) 13 rfl 9 rfl kj kj kj hva4 (QaB 34 hal r2_4 (fun i hi => Qa8 [ints .u8 (grp), #[.int .i64 ep], #[.int .i64 fr]] [#[.int .i64 1], #[.bool us], #[.int .i64 nm], ints .u8 (key), ints .u8 (sg), ints .u8 (pa), #[.slice a_m ms.length c_m], ints .u8 (start), #[.int .i64 at_], ints .u8 (sig)] bas 34 i (34 + i) (by rw [Qaa, Qaa, Qaa]; simp only [Array.size_append, cat, ((Qac _ _).trans hrl)]; rfl) rfl (by rw [hal]; exact hi)) (Qay r2_4) (Nat.le_refl _) (by decide)) (by simp only [List.length_append, List.length_cons, List.length_nil, QaS, Qa9 ep fr hrl, hrl, hal, hkl, hgl, hpl, htl, hil]; omega) y2_4 r19_4 hnb4 fun zz1 W5 f21 y5 l5 rz5 => ?_
   have x5 : Ext w W5 := Ext.low x4 l5 x2.size
   obtain ⟨ap1_, cp1_, rfl, -⟩ := id (OwnN.rd f21)
   refine QaJ 14 kj ?_
   refine Qbr (k := .u8) (T := 5) (xs := Qa6 grp ep fr ++ bas) (ys := [(byV 1 0)]) (V := W2) 1 (.tmp 13) (.tmp 17) 26 rfl kj kj (by decide) 18 rfl 14 rfl kj kj kj f21 (Qbd (xs := [(byV 1 0)]) (n := 1) rfl rz5 (Qay rz5) (show 1 ≤ maxLen from by decide)) (by simp only [List.length_append, List.length_cons, List.length_nil, QaS, Qa9 ep fr hrl, hrl, hal, hkl, hgl, hpl, htl, hil]; omega) y5 fun zz2 W6 f22 y6 l6 => ?_
   have x6 : Ext w W6 := Ext.low x5 l6 x2.size
   obtain ⟨ap2_, cp2_, rfl, -⟩ := id (OwnN.rd f22)
   refine Qat 15 (.slice ap2_ ((Qa6 grp ep fr ++ bas ++ [(byV 1 0)]).length) cp2_) 3 rfl rfl kj kj (fun _ _ _ h => h) (fun W hR => by kernel_rfl) ?_
   exact Qcx kj (.slice ap2_ ((Qa6 grp ep fr ++ bas ++ [(byV 1 0)]).length) cp2_) ⟨rfl, rfl, trivial⟩ ⟨OwnN.base e2.size f22, Rely.Ext.trans e2 y6⟩
 obtain ⟨W2, hWJ⟩ : ∃ z, z = WJ := ⟨_, rfl⟩
 rw [← hWJ] at hI ⊢
 obtain ⟨hJ, e2⟩ := hI
 have x2 : Ext w W2 := Ext.tr x1 e2
 obtain ⟨aJ_, cJ_, rfl, -⟩ := id (OwnN.rd hJ)
 refine hK3 _ _ ?_
 refine wp_seq_k fun K24 hK24 => ?_
 refine wp_seq_k fun K25 hK25 => ?_
 refine Qae ?_
 refine Qab (.pointer (some ⟨g2, 66, none⟩)) 19 rfl kj kj ?_
 have r2_2 := (Qar r2_1 e2)
 refine Qab (.int .i64 1) 20 rfl kj (Qag 3 _ g2 66 47 _ (.int .i64 1) _ r2_2 rfl kj (Qah [ints .u8 (grp), #[.int .i64 ep], #[.int .i64 fr], ints .u8 (bas)] [#[.int .i64 1]] [#[.bool us], #[.int .i64 nm], ints .u8 (key), ints .u8 (sg), ints .u8 (pa), #[.slice a_m ms.length c_m], ints .u8 (start), #[.int .i64 at_], ints .u8 (sig)] 66 (by rw [Qaa, Qaa, Qaa, Qaa]; simp only [Array.size_append, cat, ((Qac _ _).trans hal), ((Qac _ _).trans hrl)]; rfl) 0 _ rfl) kj) ?_
 refine Qab (.bool true) 21 rfl kj kj ?_
 refine Qaf ?_
 refine hK25 _ _ ?_
 refine cond_true kj ?_
 refine Qae ?_
 refine Qab (.slice aJ_ ((Qa6 grp ep fr ++ bas ++ [byV 1 0]).length) cJ_) 22 rfl kj kj ?_
 refine Qab (.pointer (some ⟨g2, 67, none⟩)) 23 rfl kj kj ?_
 refine Qab (.agg (cat [#[.bool us], #[.int .i64 nm], ints .u8 (key), ints .u8 (sg), ints .u8 (pa), #[.slice a_m ms.length c_m]])) 24 rfl kj (Qau 43 _ g2 67 47 _ _ _ r2_2 rfl kj (Qah [ints .u8 (grp), #[.int .i64 ep], #[.int .i64 fr], ints .u8 (bas), #[.int .i64 1]] [#[.bool us], #[.int .i64 nm], ints .u8 (key), ints .u8 (sg), ints .u8 (pa), #[.slice a_m ms.length c_m]] [ints .u8 (start), #[.int .i64 at_], ints .u8 (sig)] 67 (by rw [Qaa, Qaa, Qaa, Qaa, Qaa]; simp only [Array.size_append, cat, ((Qac _ _).trans hal), ((Qac _ _).trans hrl)]; rfl)) kj (isz (n := 99) kj (by rw [Qaa, Qaa, Qaa, Qaa, Qaa, Qaa]; simp only [Array.size_append, cat, ((Qac _ _).trans hgl), ((Qac _ _).trans hkl), ((Qac _ _).trans hpl)]; rfl))) ?_
 refine Qak (fun v W' => (OwnN .u8 5 W2.heap.size (Qbo us nm key sg pa ms)) v W' ∧ Ext W2 W') 97 #[.agg (cat [#[.bool us], #[.int .i64 nm], ints .u8 (key), ints .u8 (sg), ints .u8 (pa), #[.slice a_m ms.length c_m]])] 25 rfl kj kj ((QfY us nm key sg pa ms _ _ _ hkl hgl hpl hml (RdK.here (RdK.ext hm x2))).mono (by rintro e w' ⟨v, rfl, e1, hv⟩; exact ⟨v, rfl, hv, e1⟩)) fun vv26 W3 hh26 => ?_
 obtain ⟨hv26, e3⟩ := hh26
 have x3 : Ext w W3 := Ext.tr x2 e3
 obtain ⟨and_, cnd_, rfl, -⟩ := id (OwnN.rd hv26)
 have f27_3 := (hJ.ext e3)
 have y1_2 : Ext W1 W2 := (Rely.Ext.trans (Rely.Ext.refl W1) e2)
 have y1_3 : Ext W1 W3 := (Rely.Ext.trans y1_2 e3)
 refine Qbb (k := .u8) (T := 5) (xs := Qa6 grp ep fr ++ bas ++ [byV 1 0]) (ys := Qbo us nm key sg pa ms) (V := W1) 1 (.tmp 22) (.tmp 25) 26 rfl kj kj (by decide) 26 rfl kj kj kj f27_3 (OwnN.rd hv26) (by simp only [List.length_append, List.length_cons, List.length_nil, QaS, Qa9 ep fr hrl, hrl, hal, hkl, hgl, hpl, htl, hil]; omega) y1_3 fun zz3 W4 f28 y4 l4 => ?_
 have x4 : Ext w W4 := Ext.low x3 l4 x1.size
 obtain ⟨ap3_, cp3_, rfl, -⟩ := id (OwnN.rd f28)
 refine Qab (.slice ap3_ ((Qa6 grp ep fr ++ bas ++ [byV 1 0] ++ Qbo us nm key sg pa ms).length) cp3_) 3 rfl kj kj ?_
 refine Qaf ?_
 refine hK24 _ _ ?_
 refine wp_seq_k fun K30 hK30 => ?_
 refine wp_seq_k fun K31 hK31 => ?_
 refine Qae ?_
 refine Qab (.pointer (some ⟨g2, 66, none⟩)) 27 rfl kj kj ?_
 have r2_3 := (Qar r2_2 e3)
 have r2_4 := (QbJ l4 r2_3 (Qay r2_1))
 refine Qab (.int .i64 1) 28 rfl kj (Qag 3 _ g2 66 47 _ (.int .i64 1) _ r2_4 rfl kj (Qah [ints .u8 (grp), #[.int .i64 ep], #[.int .i64 fr], ints .u8 (bas)] [#[.int .i64 1]] [#[.bool us], #[.int .i64 nm], ints .u8 (key), ints .u8 (sg), ints .u8 (pa), #[.slice a_m ms.length c_m], ints .u8 (start), #[.int .i64 at_], ints .u8 (sig)] 66 (by rw [Qaa, Qaa, Qaa, Qaa]; simp only [Array.size_append, cat, ((Qac _ _).trans hal), ((Qac _ _).trans hrl)]; rfl) 0 _ rfl) kj) ?_
 refine Qab (.bool true) 29 rfl kj kj ?_
 refine Qaf ?_
 refine hK31 _ _ ?_
 refine cond_true kj ?_
 refine Qae ?_
 refine Qab (.slice ap3_ ((Qa6 grp ep fr ++ bas ++ [byV 1 0] ++ Qbo us nm key sg pa ms).length) cp3_) 30 rfl kj kj ?_
 refine Qab (.pointer (some ⟨g2, 166, none⟩)) 31 rfl kj kj ?_
 refine Qab (.slice (some ⟨g2, 166, none⟩) 32 32) 32 rfl kj kj ?_
 refine Qbb (k := .u8) (T := 5) (xs := Qa6 grp ep fr ++ bas ++ [byV 1 0] ++ Qbo us nm key sg pa ms) (ys := start) (V := W1) 1 (.tmp 30) (.tmp 32) 26 rfl kj kj (by decide) 33 rfl kj kj kj f28 (QaB 166 htl r2_4 (fun i hi => Qa8 [ints .u8 (grp), #[.int .i64 ep], #[.int .i64 fr], ints .u8 (bas), #[.int .i64 1], #[.bool us], #[.int .i64 nm], ints .u8 (key), ints .u8 (sg), ints .u8 (pa), #[.slice a_m ms.length c_m]] [#[.int .i64 at_], ints .u8 (sig)] start 166 i (166 + i) (by rw [Qaa, Qaa, Qaa, Qaa, Qaa, Qaa, Qaa, Qaa, Qaa, Qaa, Qaa]; simp only [Array.size_append, cat, ((Qac _ _).trans hal), ((Qac _ _).trans hgl), ((Qac _ _).trans hkl), ((Qac _ _).trans hpl), ((Qac _ _).trans hrl)]; rfl) rfl (by rw [htl]; exact hi)) (Qay r2_4) (Nat.le_refl _) (by decide)) (by simp only [List.length_append, List.length_cons, List.length_nil, QaS, Qa9 ep fr hrl, hrl, hal, hkl, hgl, hpl, htl, hil]; omega) y4 fun zz4 W5 f32 y5 l5 => ?_
 have x5 : Ext w W5 := Ext.low x4 l5 x1.size
 obtain ⟨ap4_, cp4_, rfl, -⟩ := id (OwnN.rd f32)
 refine Qab (.slice ap4_ ((Qa6 grp ep fr ++ bas ++ [byV 1 0] ++ Qbo us nm key sg pa ms ++ start).length) cp4_) 3 rfl kj kj ?_
 refine Qaf ?_
 refine hK30 _ _ ?_
 refine wp_seq_k fun K34 hK34 => ?_
 refine wp_seq_k fun K35 hK35 => ?_
 refine Qae ?_
 refine Qab (.pointer (some ⟨g2, 66, none⟩)) 34 rfl kj kj ?_
 have r2_5 := (QbJ l5 r2_4 (Qay r2_1))
 refine Qab (.int .i64 1) 35 rfl kj (Qag 3 _ g2 66 47 _ (.int .i64 1) _ r2_5 rfl kj (Qah [ints .u8 (grp), #[.int .i64 ep], #[.int .i64 fr], ints .u8 (bas)] [#[.int .i64 1]] [#[.bool us], #[.int .i64 nm], ints .u8 (key), ints .u8 (sg), ints .u8 (pa), #[.slice a_m ms.length c_m], ints .u8 (start), #[.int .i64 at_], ints .u8 (sig)] 66 (by rw [Qaa, Qaa, Qaa, Qaa]; simp only [Array.size_append, cat, ((Qac _ _).trans hal), ((Qac _ _).trans hrl)]; rfl) 0 _ rfl) kj) ?_
 refine Qab (.bool false) 36 rfl kj kj ?_
 refine Qaf ?_
 refine hK35 _ _ ?_
 refine cond_false kj ?_
 refine wp_skip ?_
 refine hK34 _ _ ?_
 refine wp_seq_k fun K36 hK36 => ?_
 refine Qae ?_
 refine Qab (.slice ap4_ ((Qa6 grp ep fr ++ bas ++ [byV 1 0] ++ Qbo us nm key sg pa ms ++ start).length) cp4_) 43 rfl kj kj ?_
 refine Qab (.pointer (some ⟨g2, 199, none⟩)) 44 rfl kj kj ?_
 refine Qab (.slice (some ⟨g2, 199, none⟩) 64 64) 45 rfl kj kj ?_
 refine Qbb (k := .u8) (T := 5) (xs := Qa6 grp ep fr ++ bas ++ [byV 1 0] ++ Qbo us nm key sg pa ms ++ start) (ys := sig) (V := W1) 1 (.tmp 43) (.tmp 45) 26 rfl kj kj (by decide) 46 rfl kj kj kj f32 (QaB 199 hil r2_5 (fun i hi => Qa8 [ints .u8 (grp), #[.int .i64 ep], #[.int .i64 fr], ints .u8 (bas), #[.int .i64 1], #[.bool us], #[.int .i64 nm], ints .u8 (key), ints .u8 (sg), ints .u8 (pa), #[.slice a_m ms.length c_m], ints .u8 (start), #[.int .i64 at_]] [] sig 199 i (199 + i) (by rw [Qaa, Qaa, Qaa, Qaa, Qaa, Qaa, Qaa, Qaa, Qaa, Qaa, Qaa, Qaa, Qaa]; simp only [Array.size_append, cat, ((Qac _ _).trans hal), ((Qac _ _).trans hgl), ((Qac _ _).trans hkl), ((Qac _ _).trans hpl), ((Qac _ _).trans hrl), ((Qac _ _).trans htl)]; rfl) rfl (by rw [hil]; exact hi)) (Qay r2_5) (Nat.le_refl _) (by decide)) (by simp only [List.length_append, List.length_cons, List.length_nil, QaS, Qa9 ep fr hrl, hrl, hal, hkl, hgl, hpl, htl, hil]; omega) y5 fun zz5 W6 f37 y6 l6 => ?_
 have x6 : Ext w W6 := Ext.low x5 l6 x1.size
 obtain ⟨ap5_, cp5_, rfl, -⟩ := id (OwnN.rd f37)
 refine Qab (.slice ap5_ ((Qa6 grp ep fr ++ bas ++ [byV 1 0] ++ Qbo us nm key sg pa ms ++ start ++ sig).length) cp5_) 2 rfl kj kj ?_
 refine Qaf ?_
 refine hK36 _ _ ?_
 refine wp_ret ?_
 repeat (first | with_reducible refine goR1 ?_ | with_reducible refine goR2 ?_)
 exact (show bodyPost _ _ _ .ret _ _ from ret1 (.slice ap5_ ((Qa6 grp ep fr ++ bas ++ [byV 1 0] ++ Qbo us nm key sg pa ms ++ start ++ sig).length) cp5_) rfl (Qaw kj) ⟨_, rfl, x6, OwnN.base x1.size (show OwnN .u8 5 _ (QbV grp ep fr bas 1 us nm key sg pa ms start at_ sig) _ _ from (show Qa6 grp ep fr ++ bas ++ [byV 1 0] ++ Qbo us nm key sg pa ms ++ start ++ sig = QbV grp ep fr bas 1 us nm key sg pa ms start at_ sig by unfold QbV; simp only [show ((1 : Int) = 3) = False by decide, if_true, if_false, List.append_nil]) ▸ f37)⟩)
set_option maxHeartbeats 4000000 in
theorem QgP (grp : List Int) (ep fr : Int) (bas : List Int) (us : Bool) (nm : Int) (key sg pa ms start : List Int) (at_ : Int) (sig : List Int) (a_m : Option Addr) (c_m : Nat) (w : World) (hrl : grp.length = 32) (hrb : Qaj grp) (hal : bas.length = 32) (hab : Qaj bas) (hkl : key.length = 32) (hgl : sg.length = 32) (hpl : pa.length = 32) (hkb : Qaj key) (hgb : Qaj sg) (hpb : Qaj pa) (hml : ms.length ≤ 1000000) (htl : start.length = 32) (htb : Qaj start) (hil : sig.length = 64) (hib : Qaj sig) (hm : RdK .i64 w.heap.size ms (.slice a_m ms.length c_m) w) (hep : 0 ≤ ep ∧ ep ≤ 4294967295) : Calls Try.prog 59 #[.agg (cat [ints .u8 (grp), #[.int .i64 ep], #[.int .i64 fr], ints .u8 (bas), #[.int .i64 2], #[.bool us], #[.int .i64 nm], ints .u8 (key), ints .u8 (sg), ints .u8 (pa), #[.slice a_m ms.length c_m], ints .u8 (start), #[.int .i64 at_], ints .u8 (sig)])] w (QbE w (OwnN .u8 5 w.heap.size (QbV grp ep fr bas 2 us nm key sg pa ms start at_ sig))) := by
 refine enter 47 [(0, .agg (cat [ints .u8 (grp), #[.int .i64 ep], #[.int .i64 fr], ints .u8 (bas), #[.int .i64 2], #[.bool us], #[.int .i64 nm], ints .u8 (key), ints .u8 (sg), ints .u8 (pa), #[.slice a_m ms.length c_m], ints .u8 (start), #[.int .i64 at_], ints .u8 (sig)]))] Try.func59 rfl rfl kj rfl ?_
 refine wp_seq_k fun K1 hK1 => ?_
 refine Qae ?_
 refine Qav (cat [ints .u8 (grp), #[.int .i64 ep], #[.int .i64 fr], ints .u8 (bas), #[.int .i64 2], #[.bool us], #[.int .i64 nm], ints .u8 (key), ints .u8 (sg), ints .u8 (pa), #[.slice a_m ms.length c_m], ints .u8 (start), #[.int .i64 at_], ints .u8 (sig)]) 47 1 rfl kj kj fun g2 W1 l2 e1 r2_1 => ?_
 have x1 : Ext w W1 := Ext.tr (Rely.Ext.refl w) e1
 have b2 : w.heap.size ≤ g2 := Nat.le_trans (Rely.Ext.refl w).size l2
 refine Qab (.slice none 0 0) 2 rfl kj kj ?_
 refine Qaf ?_
 refine hK1 _ _ ?_
 refine wp_seq_k fun K3 hK3 => ?_
 refine QcJ (fun (s0 : Value) => [(1, .pointer (some ⟨g2, 0, none⟩)), (3, s0)]) (fun s0 W => OwnN .u8 5 W1.heap.size (Qa6 grp ep fr ++ bas ++ [byV 2 0]) s0 W ∧ Ext W1 W) kj (fun WS eS => ?_) (fun u XX WJ hI => ?_)
 ·skip
  obtain ⟨W2, hWS⟩ : ∃ z, z = WS := ⟨_, rfl⟩
  rw [← hWS] at eS ⊢
  have e2 := eS
  have x2 : Ext w W2 := Ext.tr x1 e2
  refine Qat 0 (.pointer (some ⟨g2, 0, none⟩)) 4 rfl rfl kj kj (fun _ _ _ h => h) (fun W hR => by kernel_rfl) ?_
  have r2_2 := (Qar r2_1 e2)
  refine Qat 1 (.agg (ints .u8 (grp))) 5 rfl rfl kj kj (fun _ _ _ h => h) (fun W hR => (Qau 39 _ g2 0 47 _ _ _ (Qar r2_2 hR) rfl kj (Qah [] [ints .u8 (grp)] [#[.int .i64 ep], #[.int .i64 fr], ints .u8 (bas), #[.int .i64 2], #[.bool us], #[.int .i64 nm], ints .u8 (key), ints .u8 (sg), ints .u8 (pa), #[.slice a_m ms.length c_m], ints .u8 (start), #[.int .i64 at_], ints .u8 (sig)] 0 kj) kj (isz (n := 32) kj ((Qac _ _).trans hrl)))) ?_
  refine Qat 2 (.pointer (some ⟨g2, 32, none⟩)) 6 rfl rfl kj kj (fun _ _ _ h => h) (fun W hR => by kernel_rfl) ?_
  refine Qat 3 (.int .i64 ep) 7 rfl rfl kj kj (fun _ _ _ h => h) (fun W hR => (Qag 3 _ g2 32 47 _ (.int .i64 ep) _ (Qar r2_2 hR) rfl kj (Qah [ints .u8 (grp)] [#[.int .i64 ep]] [#[.int .i64 fr], ints .u8 (bas), #[.int .i64 2], #[.bool us], #[.int .i64 nm], ints .u8 (key), ints .u8 (sg), ints .u8 (pa), #[.slice a_m ms.length c_m], ints .u8 (start), #[.int .i64 at_], ints .u8 (sig)] 32 ((Qac _ _).trans hrl) 0 _ rfl) kj)) ?_
  refine Qat 4 (.pointer (some ⟨g2, 33, none⟩)) 8 rfl rfl kj kj (fun _ _ _ h => h) (fun W hR => by kernel_rfl) ?_
  refine Qat 5 (.int .i64 fr) 9 rfl rfl kj kj (fun _ _ _ h => h) (fun W hR => (Qag 3 _ g2 33 47 _ (.int .i64 fr) _ (Qar r2_2 hR) rfl kj (Qah [ints .u8 (grp), #[.int .i64 ep]] [#[.int .i64 fr]] [ints .u8 (bas), #[.int .i64 2], #[.bool us], #[.int .i64 nm], ints .u8 (key), ints .u8 (sg), ints .u8 (pa), #[.slice a_m ms.length c_m], ints .u8 (start), #[.int .i64 at_], ints .u8 (sig)] 33 (by rw [Qaa, Qaa]; simp only [Array.size_append, cat, ((Qac _ _).trans hrl)]; rfl) 0 _ rfl) kj)) ?_
  refine Qat 7 (.pointer (some ⟨g2, 34, none⟩)) 11 rfl rfl kj kj (fun _ _ _ h => h) (fun W hR => by kernel_rfl) ?_
  refine Qat 8 (.slice (some ⟨g2, 34, none⟩) 32 32) 12 rfl rfl kj kj (fun _ _ _ h => h) (fun W hR => by kernel_rfl) ?_
  refine Qat 10 (.pointer (some ⟨g2, 66, none⟩)) 14 rfl rfl kj kj (fun _ _ _ h => h) (fun W hR => by kernel_rfl) ?_
  refine Qat 11 (.int .i64 2) 15 rfl rfl kj kj (fun _ _ _ h => h) (fun W hR => (Qag 3 _ g2 66 47 _ (.int .i64 2) _ (Qar r2_2 hR) rfl kj (Qah [ints .u8 (grp), #[.int .i64 ep], #[.int .i64 fr], ints .u8 (bas)] [#[.int .i64 2]] [#[.bool us], #[.int .i64 nm], ints .u8 (key), ints .u8 (sg), ints .u8 (pa), #[.slice a_m ms.length c_m], ints .u8 (start), #[.int .i64 at_], ints .u8 (sig)] 66 (by rw [Qaa, Qaa, Qaa, Qaa]; simp only [Array.size_append, cat, ((Qac _ _).trans hal), ((Qac _ _).trans hrl)]; rfl) 0 _ rfl) kj)) ?_
  refine Qat 12 (.int .u8 (byV 2 0)) 16 rfl rfl kj kj (fun _ _ _ h => h) (fun W hR => (Qax (u := .int .u8 (IntKind.u8.wrap (2))) kj (congrArg (Value.int .u8) (byV0 2)))) ?_
  refine Qc2 6 13 kj ?_ ?_
  ·skip
   refine Qbi rfl (fun v W' => (OwnN .u8 5 W2.heap.size (Qa6 grp ep fr)) v W' ∧ Ext W2 W') 66 #[.agg (ints .u8 (grp)), .int .i64 ep, .int .i64 fr] 10 rfl kj kj ((QcD grp ep fr _ hrl hep).mono (by rintro e w' ⟨v, rfl, e1, hv⟩; exact ⟨v, rfl, hv, e1⟩)) (fun _ _ h => Rely.Ext.trans (Rely.Ext.refl W2) h.2) fun vv4 W3 hh4 => ?_
   obtain ⟨hv4, e3⟩ := hh4
   have x3 : Ext w W3 := Ext.tr x2 e3
   obtain ⟨ahd_, chd_, rfl, -⟩ := id (OwnN.rd hv4)
   have hva3 := OwnN.base (Rely.Ext.refl W2).size hv4
   refine Qc2 9 13 kj ?_ ?_
   ·skip
    have r2_3 := (Qar r2_2 e3)
    have y2_3 : Ext W2 W3 := (Rely.Ext.trans (Rely.Ext.refl W2) e3)
    refine Qbr (k := .u8) (T := 5) (xs := Qa6 grp ep fr) (ys := bas) (V := W2) 1 (.tmp 10) (.tmp 12) 26 rfl kj kj (by decide) 13 rfl 9 rfl kj kj kj hva3 (QaB 34 hal r2_3 (fun i hi => Qa8 [ints .u8 (grp), #[.int .i64 ep], #[.int .i64 fr]] [#[.int .i64 2], #[.bool us], #[.int .i64 nm], ints .u8 (key), ints .u8 (sg), ints .u8 (pa), #[.slice a_m ms.length c_m], ints .u8 (start), #[.int .i64 at_], ints .u8 (sig)] bas 34 i (34 + i) (by rw [Qaa, Qaa, Qaa]; simp only [Array.size_append, cat, ((Qac _ _).trans hrl)]; rfl) rfl (by rw [hal]; exact hi)) (Qay r2_3) (Nat.le_refl _) (by decide)) (by simp only [List.length_append, List.length_cons, List.length_nil, QaS, Qa9 ep fr hrl, hrl, hal, hkl, hgl, hpl, htl, hil]; omega) y2_3 fun zz1 W4 f5 y4 l4 => ?_
    have x4 : Ext w W4 := Ext.low x3 l4 x2.size
    obtain ⟨ap1_, cp1_, rfl, -⟩ := id (OwnN.rd f5)
    refine QaJ 13 kj ?_
    refine wo_run rfl (fun v W' => Ext W4 W' ∧ NewS W4.heap.size #[.int .u8 (byV 2 0)] 5 1 v W') 17 rfl kj ⟨_, _, (by kernel_rfl : _ = Result.ok (Next.value (.slice (some ⟨W4.heap.size, 0, none⟩) 1 1)) (W4.alloc (.cells #[.int .u8 (byV 2 0)] 5))), Qbf _ _, ⟨_, rfl, Nat.le_refl _, heap_alloc_new _ _⟩⟩ (fun _ _ h => Rely.Ext.trans y4 h.1) fun vv7 W5 hh7 => ?_
    obtain ⟨e5, gz, rfl, lz5, rz5⟩ := hh7
    have x5 : Ext w W5 := Ext.tr x4 e5
    have bz5 : w.heap.size ≤ gz := Nat.le_trans x4.size lz5
    refine QaJ 14 kj ?_
    have f9_5 := (f5.ext e5)
    have y2_5 : Ext W2 W5 := (Rely.Ext.trans y4 e5)
    refine Qbr (k := .u8) (T := 5) (xs := Qa6 grp ep fr ++ bas) (ys := [(byV 2 0)]) (V := W2) 1 (.tmp 13) (.tmp 17) 26 rfl kj kj (by decide) 18 rfl 14 rfl kj kj kj f9_5 (Qbd (xs := [(byV 2 0)]) (n := 1) rfl rz5 (Qay rz5) (show 1 ≤ maxLen from by decide)) (by simp only [List.length_append, List.length_cons, List.length_nil, QaS, Qa9 ep fr hrl, hrl, hal, hkl, hgl, hpl, htl, hil]; omega) y2_5 fun zz2 W6 f10 y6 l6 => ?_
    have x6 : Ext w W6 := Ext.low x5 l6 x2.size
    obtain ⟨ap2_, cp2_, rfl, -⟩ := id (OwnN.rd f10)
    refine Qat 15 (.slice ap2_ ((Qa6 grp ep fr ++ bas ++ [(byV 2 0)]).length) cp2_) 3 rfl rfl kj kj (fun _ _ _ h => h) (fun W hR => by kernel_rfl) ?_
    exact Qcx kj (.slice ap2_ ((Qa6 grp ep fr ++ bas ++ [(byV 2 0)]).length) cp2_) ⟨rfl, rfl, trivial⟩ ⟨OwnN.base e2.size f10, Rely.Ext.trans e2 y6⟩
   ·skip
    have y2_3 : Ext W2 W3 := (Rely.Ext.trans (Rely.Ext.refl W2) e3)
    refine wo_run rfl (fun v W' => Ext W3 W' ∧ NewS W3.heap.size #[.int .u8 (byV 2 0)] 5 1 v W') 17 rfl kj ⟨_, _, (by kernel_rfl : _ = Result.ok (Next.value (.slice (some ⟨W3.heap.size, 0, none⟩) 1 1)) (W3.alloc (.cells #[.int .u8 (byV 2 0)] 5))), Qbf _ _, ⟨_, rfl, Nat.le_refl _, heap_alloc_new _ _⟩⟩ (fun _ _ h => Rely.Ext.trans y2_3 h.1) fun vv12 W4 hh12 => ?_
    obtain ⟨e4, gz, rfl, lz4, rz4⟩ := hh12
    have x4 : Ext w W4 := Ext.tr x3 e4
    have bz4 : w.heap.size ≤ gz := Nat.le_trans x3.size lz4
    have hnb4 : (Value.slice ahd_ (Qa6 grp ep fr).length chd_).ownBlock ≠ some gz := fun q => by have := hva3.lt q; omega
    refine QaJ 9 kj ?_
    have f14_4 := (hva3.ext e4)
    have r2_3 := (Qar r2_2 e3)
    have r2_4 := (Qar r2_3 e4)
    have y2_4 : Ext W2 W4 := (Rely.Ext.trans y2_3 e4)
    refine Qcb (k := .u8) (T := 5) (xs := Qa6 grp ep fr) (ys := bas) (V := W2) 1 (.tmp 10) (.tmp 12) 26 rfl kj kj (by decide) 13 rfl 9 rfl kj kj kj f14_4 (QaB 34 hal r2_4 (fun i hi => Qa8 [ints .u8 (grp), #[.int .i64 ep], #[.int .i64 fr]] [#[.int .i64 2], #[.bool us], #[.int .i64 nm], ints .u8 (key), ints .u8 (sg), ints .u8 (pa), #[.slice a_m ms.length c_m], ints .u8 (start), #[.int .i64 at_], ints .u8 (sig)] bas 34 i (34 + i) (by rw [Qaa, Qaa, Qaa]; simp only [Array.size_append, cat, ((Qac _ _).trans hrl)]; rfl) rfl (by rw [hal]; exact hi)) (Qay r2_4) (Nat.le_refl _) (by decide)) (by simp only [List.length_append, List.length_cons, List.length_nil, QaS, Qa9 ep fr hrl, hrl, hal, hkl, hgl, hpl, htl, hil]; omega) y2_4 rz4 hnb4 fun zz1 W5 f15 y5 l5 rz5 => ?_
    have x5 : Ext w W5 := Ext.low x4 l5 x2.size
    obtain ⟨ap1_, cp1_, rfl, -⟩ := id (OwnN.rd f15)
    refine QaJ 14 kj ?_
    refine Qbr (k := .u8) (T := 5) (xs := Qa6 grp ep fr ++ bas) (ys := [(byV 2 0)]) (V := W2) 1 (.tmp 13) (.tmp 17) 26 rfl kj kj (by decide) 18 rfl 14 rfl kj kj kj f15 (Qbd (xs := [(byV 2 0)]) (n := 1) rfl rz5 (Qay rz5) (show 1 ≤ maxLen from by decide)) (by simp only [List.length_append, List.length_cons, List.length_nil, QaS, Qa9 ep fr hrl, hrl, hal, hkl, hgl, hpl, htl, hil]; omega) y5 fun zz2 W6 f16 y6 l6 => ?_
    have x6 : Ext w W6 := Ext.low x5 l6 x2.size
    obtain ⟨ap2_, cp2_, rfl, -⟩ := id (OwnN.rd f16)
    refine Qat 15 (.slice ap2_ ((Qa6 grp ep fr ++ bas ++ [(byV 2 0)]).length) cp2_) 3 rfl rfl kj kj (fun _ _ _ h => h) (fun W hR => by kernel_rfl) ?_
    exact Qcx kj (.slice ap2_ ((Qa6 grp ep fr ++ bas ++ [(byV 2 0)]).length) cp2_) ⟨rfl, rfl, trivial⟩ ⟨OwnN.base e2.size f16, Rely.Ext.trans e2 y6⟩
  ·skip
   refine wo_run rfl (fun v W' => Ext W2 W' ∧ NewS W2.heap.size #[.int .u8 (byV 2 0)] 5 1 v W') 17 rfl kj ⟨_, _, (by kernel_rfl : _ = Result.ok (Next.value (.slice (some ⟨W2.heap.size, 0, none⟩) 1 1)) (W2.alloc (.cells #[.int .u8 (byV 2 0)] 5))), Qbf _ _, ⟨_, rfl, Nat.le_refl _, heap_alloc_new _ _⟩⟩ (fun _ _ h => Rely.Ext.trans (Rely.Ext.refl W2) h.1) fun vv18 W3 hh18 => ?_
   obtain ⟨e3, gz, rfl, lz3, rz3⟩ := hh18
   have x3 : Ext w W3 := Ext.tr x2 e3
   have bz3 : w.heap.size ≤ gz := Nat.le_trans x2.size lz3
   refine QaJ 6 kj ?_
   have y2_3 : Ext W2 W3 := (Rely.Ext.trans (Rely.Ext.refl W2) e3)
   refine Qbi rfl (fun v W' => (OwnN .u8 5 W3.heap.size (Qa6 grp ep fr)) v W' ∧ Ext W3 W') 66 #[.agg (ints .u8 (grp)), .int .i64 ep, .int .i64 fr] 10 rfl kj kj ((QcD grp ep fr _ hrl hep).mono (by rintro e w' ⟨v, rfl, e1, hv⟩; exact ⟨v, rfl, hv, e1⟩)) (fun _ _ h => Rely.Ext.trans y2_3 h.2) fun vv20 W4 hh20 => ?_
   obtain ⟨hv20, e4⟩ := hh20
   have x4 : Ext w W4 := Ext.tr x3 e4
   obtain ⟨ahd_, chd_, rfl, -⟩ := id (OwnN.rd hv20)
   have hva4 := OwnN.base y2_3.size hv20
   have hnb4 := Qbp hv20 (Qay rz3)
   refine QaJ 9 kj ?_
   have r2_3 := (Qar r2_2 e3)
   have r2_4 := (Qar r2_3 e4)
   have y2_4 : Ext W2 W4 := (Rely.Ext.trans y2_3 e4)
   have r19_4 := (Qar rz3 e4)
   refine Qcb (k := .u8) (T := 5) (xs := Qa6 grp ep fr) (ys := bas) (V := W2) 1 (.tmp 10) (.tmp 12) 26 rfl kj kj (by decide) 13 rfl 9 rfl kj kj kj hva4 (QaB 34 hal r2_4 (fun i hi => Qa8 [ints .u8 (grp), #[.int .i64 ep], #[.int .i64 fr]] [#[.int .i64 2], #[.bool us], #[.int .i64 nm], ints .u8 (key), ints .u8 (sg), ints .u8 (pa), #[.slice a_m ms.length c_m], ints .u8 (start), #[.int .i64 at_], ints .u8 (sig)] bas 34 i (34 + i) (by rw [Qaa, Qaa, Qaa]; simp only [Array.size_append, cat, ((Qac _ _).trans hrl)]; rfl) rfl (by rw [hal]; exact hi)) (Qay r2_4) (Nat.le_refl _) (by decide)) (by simp only [List.length_append, List.length_cons, List.length_nil, QaS, Qa9 ep fr hrl, hrl, hal, hkl, hgl, hpl, htl, hil]; omega) y2_4 r19_4 hnb4 fun zz1 W5 f21 y5 l5 rz5 => ?_
   have x5 : Ext w W5 := Ext.low x4 l5 x2.size
   obtain ⟨ap1_, cp1_, rfl, -⟩ := id (OwnN.rd f21)
   refine QaJ 14 kj ?_
   refine Qbr (k := .u8) (T := 5) (xs := Qa6 grp ep fr ++ bas) (ys := [(byV 2 0)]) (V := W2) 1 (.tmp 13) (.tmp 17) 26 rfl kj kj (by decide) 18 rfl 14 rfl kj kj kj f21 (Qbd (xs := [(byV 2 0)]) (n := 1) rfl rz5 (Qay rz5) (show 1 ≤ maxLen from by decide)) (by simp only [List.length_append, List.length_cons, List.length_nil, QaS, Qa9 ep fr hrl, hrl, hal, hkl, hgl, hpl, htl, hil]; omega) y5 fun zz2 W6 f22 y6 l6 => ?_
   have x6 : Ext w W6 := Ext.low x5 l6 x2.size
   obtain ⟨ap2_, cp2_, rfl, -⟩ := id (OwnN.rd f22)
   refine Qat 15 (.slice ap2_ ((Qa6 grp ep fr ++ bas ++ [(byV 2 0)]).length) cp2_) 3 rfl rfl kj kj (fun _ _ _ h => h) (fun W hR => by kernel_rfl) ?_
   exact Qcx kj (.slice ap2_ ((Qa6 grp ep fr ++ bas ++ [(byV 2 0)]).length) cp2_) ⟨rfl, rfl, trivial⟩ ⟨OwnN.base e2.size f22, Rely.Ext.trans e2 y6⟩
 obtain ⟨W2, hWJ⟩ : ∃ z, z = WJ := ⟨_, rfl⟩
 rw [← hWJ] at hI ⊢
 obtain ⟨hJ, e2⟩ := hI
 have x2 : Ext w W2 := Ext.tr x1 e2
 obtain ⟨aJ_, cJ_, rfl, -⟩ := id (OwnN.rd hJ)
 refine hK3 _ _ ?_
 refine wp_seq_k fun K24 hK24 => ?_
 refine wp_seq_k fun K25 hK25 => ?_
 refine Qae ?_
 refine Qab (.pointer (some ⟨g2, 66, none⟩)) 19 rfl kj kj ?_
 have r2_2 := (Qar r2_1 e2)
 refine Qab (.int .i64 2) 20 rfl kj (Qag 3 _ g2 66 47 _ (.int .i64 2) _ r2_2 rfl kj (Qah [ints .u8 (grp), #[.int .i64 ep], #[.int .i64 fr], ints .u8 (bas)] [#[.int .i64 2]] [#[.bool us], #[.int .i64 nm], ints .u8 (key), ints .u8 (sg), ints .u8 (pa), #[.slice a_m ms.length c_m], ints .u8 (start), #[.int .i64 at_], ints .u8 (sig)] 66 (by rw [Qaa, Qaa, Qaa, Qaa]; simp only [Array.size_append, cat, ((Qac _ _).trans hal), ((Qac _ _).trans hrl)]; rfl) 0 _ rfl) kj) ?_
 refine Qab (.bool true) 21 rfl kj kj ?_
 refine Qaf ?_
 refine hK25 _ _ ?_
 refine cond_true kj ?_
 refine Qae ?_
 refine Qab (.slice aJ_ ((Qa6 grp ep fr ++ bas ++ [byV 2 0]).length) cJ_) 22 rfl kj kj ?_
 refine Qab (.pointer (some ⟨g2, 67, none⟩)) 23 rfl kj kj ?_
 refine Qab (.agg (cat [#[.bool us], #[.int .i64 nm], ints .u8 (key), ints .u8 (sg), ints .u8 (pa), #[.slice a_m ms.length c_m]])) 24 rfl kj (Qau 43 _ g2 67 47 _ _ _ r2_2 rfl kj (Qah [ints .u8 (grp), #[.int .i64 ep], #[.int .i64 fr], ints .u8 (bas), #[.int .i64 2]] [#[.bool us], #[.int .i64 nm], ints .u8 (key), ints .u8 (sg), ints .u8 (pa), #[.slice a_m ms.length c_m]] [ints .u8 (start), #[.int .i64 at_], ints .u8 (sig)] 67 (by rw [Qaa, Qaa, Qaa, Qaa, Qaa]; simp only [Array.size_append, cat, ((Qac _ _).trans hal), ((Qac _ _).trans hrl)]; rfl)) kj (isz (n := 99) kj (by rw [Qaa, Qaa, Qaa, Qaa, Qaa, Qaa]; simp only [Array.size_append, cat, ((Qac _ _).trans hgl), ((Qac _ _).trans hkl), ((Qac _ _).trans hpl)]; rfl))) ?_
 refine Qak (fun v W' => (OwnN .u8 5 W2.heap.size (Qbo us nm key sg pa ms)) v W' ∧ Ext W2 W') 97 #[.agg (cat [#[.bool us], #[.int .i64 nm], ints .u8 (key), ints .u8 (sg), ints .u8 (pa), #[.slice a_m ms.length c_m]])] 25 rfl kj kj ((QfY us nm key sg pa ms _ _ _ hkl hgl hpl hml (RdK.here (RdK.ext hm x2))).mono (by rintro e w' ⟨v, rfl, e1, hv⟩; exact ⟨v, rfl, hv, e1⟩)) fun vv26 W3 hh26 => ?_
 obtain ⟨hv26, e3⟩ := hh26
 have x3 : Ext w W3 := Ext.tr x2 e3
 obtain ⟨and_, cnd_, rfl, -⟩ := id (OwnN.rd hv26)
 have f27_3 := (hJ.ext e3)
 have y1_2 : Ext W1 W2 := (Rely.Ext.trans (Rely.Ext.refl W1) e2)
 have y1_3 : Ext W1 W3 := (Rely.Ext.trans y1_2 e3)
 refine Qbb (k := .u8) (T := 5) (xs := Qa6 grp ep fr ++ bas ++ [byV 2 0]) (ys := Qbo us nm key sg pa ms) (V := W1) 1 (.tmp 22) (.tmp 25) 26 rfl kj kj (by decide) 26 rfl kj kj kj f27_3 (OwnN.rd hv26) (by simp only [List.length_append, List.length_cons, List.length_nil, QaS, Qa9 ep fr hrl, hrl, hal, hkl, hgl, hpl, htl, hil]; omega) y1_3 fun zz3 W4 f28 y4 l4 => ?_
 have x4 : Ext w W4 := Ext.low x3 l4 x1.size
 obtain ⟨ap3_, cp3_, rfl, -⟩ := id (OwnN.rd f28)
 refine Qab (.slice ap3_ ((Qa6 grp ep fr ++ bas ++ [byV 2 0] ++ Qbo us nm key sg pa ms).length) cp3_) 3 rfl kj kj ?_
 refine Qaf ?_
 refine hK24 _ _ ?_
 refine wp_seq_k fun K30 hK30 => ?_
 refine wp_seq_k fun K31 hK31 => ?_
 refine Qae ?_
 refine Qab (.pointer (some ⟨g2, 66, none⟩)) 27 rfl kj kj ?_
 have r2_3 := (Qar r2_2 e3)
 have r2_4 := (QbJ l4 r2_3 (Qay r2_1))
 refine Qab (.int .i64 2) 28 rfl kj (Qag 3 _ g2 66 47 _ (.int .i64 2) _ r2_4 rfl kj (Qah [ints .u8 (grp), #[.int .i64 ep], #[.int .i64 fr], ints .u8 (bas)] [#[.int .i64 2]] [#[.bool us], #[.int .i64 nm], ints .u8 (key), ints .u8 (sg), ints .u8 (pa), #[.slice a_m ms.length c_m], ints .u8 (start), #[.int .i64 at_], ints .u8 (sig)] 66 (by rw [Qaa, Qaa, Qaa, Qaa]; simp only [Array.size_append, cat, ((Qac _ _).trans hal), ((Qac _ _).trans hrl)]; rfl) 0 _ rfl) kj) ?_
 refine Qab (.bool false) 29 rfl kj kj ?_
 refine Qaf ?_
 refine hK31 _ _ ?_
 refine cond_false kj ?_
 refine wp_skip ?_
 refine hK30 _ _ ?_
 refine wp_seq_k fun K32 hK32 => ?_
 refine wp_seq_k fun K33 hK33 => ?_
 refine Qae ?_
 refine Qab (.pointer (some ⟨g2, 66, none⟩)) 34 rfl kj kj ?_
 refine Qab (.int .i64 2) 35 rfl kj (Qag 3 _ g2 66 47 _ (.int .i64 2) _ r2_4 rfl kj (Qah [ints .u8 (grp), #[.int .i64 ep], #[.int .i64 fr], ints .u8 (bas)] [#[.int .i64 2]] [#[.bool us], #[.int .i64 nm], ints .u8 (key), ints .u8 (sg), ints .u8 (pa), #[.slice a_m ms.length c_m], ints .u8 (start), #[.int .i64 at_], ints .u8 (sig)] 66 (by rw [Qaa, Qaa, Qaa, Qaa]; simp only [Array.size_append, cat, ((Qac _ _).trans hal), ((Qac _ _).trans hrl)]; rfl) 0 _ rfl) kj) ?_
 refine Qab (.bool false) 36 rfl kj kj ?_
 refine Qaf ?_
 refine hK33 _ _ ?_
 refine cond_false kj ?_
 refine wp_skip ?_
 refine hK32 _ _ ?_
 refine wp_seq_k fun K34 hK34 => ?_
 refine Qae ?_
 refine Qab (.slice ap3_ ((Qa6 grp ep fr ++ bas ++ [byV 2 0] ++ Qbo us nm key sg pa ms).length) cp3_) 43 rfl kj kj ?_
 refine Qab (.pointer (some ⟨g2, 199, none⟩)) 44 rfl kj kj ?_
 refine Qab (.slice (some ⟨g2, 199, none⟩) 64 64) 45 rfl kj kj ?_
 refine Qbb (k := .u8) (T := 5) (xs := Qa6 grp ep fr ++ bas ++ [byV 2 0] ++ Qbo us nm key sg pa ms) (ys := sig) (V := W1) 1 (.tmp 43) (.tmp 45) 26 rfl kj kj (by decide) 46 rfl kj kj kj f28 (QaB 199 hil r2_4 (fun i hi => Qa8 [ints .u8 (grp), #[.int .i64 ep], #[.int .i64 fr], ints .u8 (bas), #[.int .i64 2], #[.bool us], #[.int .i64 nm], ints .u8 (key), ints .u8 (sg), ints .u8 (pa), #[.slice a_m ms.length c_m], ints .u8 (start), #[.int .i64 at_]] [] sig 199 i (199 + i) (by rw [Qaa, Qaa, Qaa, Qaa, Qaa, Qaa, Qaa, Qaa, Qaa, Qaa, Qaa, Qaa, Qaa]; simp only [Array.size_append, cat, ((Qac _ _).trans hal), ((Qac _ _).trans hgl), ((Qac _ _).trans hkl), ((Qac _ _).trans hpl), ((Qac _ _).trans hrl), ((Qac _ _).trans htl)]; rfl) rfl (by rw [hil]; exact hi)) (Qay r2_4) (Nat.le_refl _) (by decide)) (by simp only [List.length_append, List.length_cons, List.length_nil, QaS, Qa9 ep fr hrl, hrl, hal, hkl, hgl, hpl, htl, hil]; omega) y4 fun zz4 W5 f35 y5 l5 => ?_
 have x5 : Ext w W5 := Ext.low x4 l5 x1.size
 obtain ⟨ap4_, cp4_, rfl, -⟩ := id (OwnN.rd f35)
 refine Qab (.slice ap4_ ((Qa6 grp ep fr ++ bas ++ [byV 2 0] ++ Qbo us nm key sg pa ms ++ sig).length) cp4_) 2 rfl kj kj ?_
 refine Qaf ?_
 refine hK34 _ _ ?_
 refine wp_ret ?_
 repeat (first | with_reducible refine goR1 ?_ | with_reducible refine goR2 ?_)
 exact (show bodyPost _ _ _ .ret _ _ from ret1 (.slice ap4_ ((Qa6 grp ep fr ++ bas ++ [byV 2 0] ++ Qbo us nm key sg pa ms ++ sig).length) cp4_) rfl (Qaw kj) ⟨_, rfl, x5, OwnN.base x1.size (show OwnN .u8 5 _ (QbV grp ep fr bas 2 us nm key sg pa ms start at_ sig) _ _ from (show Qa6 grp ep fr ++ bas ++ [byV 2 0] ++ Qbo us nm key sg pa ms ++ sig = QbV grp ep fr bas 2 us nm key sg pa ms start at_ sig by unfold QbV; simp only [show ((2 : Int) = 3) = False by decide, show ((2 : Int) = 1) = False by decide, if_true, if_false, List.append_nil]) ▸ f35)⟩)
set_option maxHeartbeats 4000000 in
theorem QgO (grp : List Int) (ep fr : Int) (bas : List Int) (us : Bool) (nm : Int) (key sg pa ms start : List Int) (at_ : Int) (sig : List Int) (a_m : Option Addr) (c_m : Nat) (w : World) (hrl : grp.length = 32) (hrb : Qaj grp) (hal : bas.length = 32) (hab : Qaj bas) (hkl : key.length = 32) (hgl : sg.length = 32) (hpl : pa.length = 32) (hkb : Qaj key) (hgb : Qaj sg) (hpb : Qaj pa) (hml : ms.length ≤ 1000000) (htl : start.length = 32) (htb : Qaj start) (hil : sig.length = 64) (hib : Qaj sig) (hm : RdK .i64 w.heap.size ms (.slice a_m ms.length c_m) w) (hep : 0 ≤ ep ∧ ep ≤ 4294967295) : Calls Try.prog 59 #[.agg (cat [ints .u8 (grp), #[.int .i64 ep], #[.int .i64 fr], ints .u8 (bas), #[.int .i64 3], #[.bool us], #[.int .i64 nm], ints .u8 (key), ints .u8 (sg), ints .u8 (pa), #[.slice a_m ms.length c_m], ints .u8 (start), #[.int .i64 at_], ints .u8 (sig)])] w (QbE w (OwnN .u8 5 w.heap.size (QbV grp ep fr bas 3 us nm key sg pa ms start at_ sig))) := by
 refine enter 47 [(0, .agg (cat [ints .u8 (grp), #[.int .i64 ep], #[.int .i64 fr], ints .u8 (bas), #[.int .i64 3], #[.bool us], #[.int .i64 nm], ints .u8 (key), ints .u8 (sg), ints .u8 (pa), #[.slice a_m ms.length c_m], ints .u8 (start), #[.int .i64 at_], ints .u8 (sig)]))] Try.func59 rfl rfl kj rfl ?_
 refine wp_seq_k fun K1 hK1 => ?_
 refine Qae ?_
 refine Qav (cat [ints .u8 (grp), #[.int .i64 ep], #[.int .i64 fr], ints .u8 (bas), #[.int .i64 3], #[.bool us], #[.int .i64 nm], ints .u8 (key), ints .u8 (sg), ints .u8 (pa), #[.slice a_m ms.length c_m], ints .u8 (start), #[.int .i64 at_], ints .u8 (sig)]) 47 1 rfl kj kj fun g2 W1 l2 e1 r2_1 => ?_
 have x1 : Ext w W1 := Ext.tr (Rely.Ext.refl w) e1
 have b2 : w.heap.size ≤ g2 := Nat.le_trans (Rely.Ext.refl w).size l2
 refine Qab (.slice none 0 0) 2 rfl kj kj ?_
 refine Qaf ?_
 refine hK1 _ _ ?_
 refine wp_seq_k fun K3 hK3 => ?_
 refine QcJ (fun (s0 : Value) => [(1, .pointer (some ⟨g2, 0, none⟩)), (3, s0)]) (fun s0 W => OwnN .u8 5 W1.heap.size (Qa6 grp ep fr ++ bas ++ [byV 3 0]) s0 W ∧ Ext W1 W) kj (fun WS eS => ?_) (fun u XX WJ hI => ?_)
 ·skip
  obtain ⟨W2, hWS⟩ : ∃ z, z = WS := ⟨_, rfl⟩
  rw [← hWS] at eS ⊢
  have e2 := eS
  have x2 : Ext w W2 := Ext.tr x1 e2
  refine Qat 0 (.pointer (some ⟨g2, 0, none⟩)) 4 rfl rfl kj kj (fun _ _ _ h => h) (fun W hR => by kernel_rfl) ?_
  have r2_2 := (Qar r2_1 e2)
  refine Qat 1 (.agg (ints .u8 (grp))) 5 rfl rfl kj kj (fun _ _ _ h => h) (fun W hR => (Qau 39 _ g2 0 47 _ _ _ (Qar r2_2 hR) rfl kj (Qah [] [ints .u8 (grp)] [#[.int .i64 ep], #[.int .i64 fr], ints .u8 (bas), #[.int .i64 3], #[.bool us], #[.int .i64 nm], ints .u8 (key), ints .u8 (sg), ints .u8 (pa), #[.slice a_m ms.length c_m], ints .u8 (start), #[.int .i64 at_], ints .u8 (sig)] 0 kj) kj (isz (n := 32) kj ((Qac _ _).trans hrl)))) ?_
  refine Qat 2 (.pointer (some ⟨g2, 32, none⟩)) 6 rfl rfl kj kj (fun _ _ _ h => h) (fun W hR => by kernel_rfl) ?_
  refine Qat 3 (.int .i64 ep) 7 rfl rfl kj kj (fun _ _ _ h => h) (fun W hR => (Qag 3 _ g2 32 47 _ (.int .i64 ep) _ (Qar r2_2 hR) rfl kj (Qah [ints .u8 (grp)] [#[.int .i64 ep]] [#[.int .i64 fr], ints .u8 (bas), #[.int .i64 3], #[.bool us], #[.int .i64 nm], ints .u8 (key), ints .u8 (sg), ints .u8 (pa), #[.slice a_m ms.length c_m], ints .u8 (start), #[.int .i64 at_], ints .u8 (sig)] 32 ((Qac _ _).trans hrl) 0 _ rfl) kj)) ?_
  refine Qat 4 (.pointer (some ⟨g2, 33, none⟩)) 8 rfl rfl kj kj (fun _ _ _ h => h) (fun W hR => by kernel_rfl) ?_
  refine Qat 5 (.int .i64 fr) 9 rfl rfl kj kj (fun _ _ _ h => h) (fun W hR => (Qag 3 _ g2 33 47 _ (.int .i64 fr) _ (Qar r2_2 hR) rfl kj (Qah [ints .u8 (grp), #[.int .i64 ep]] [#[.int .i64 fr]] [ints .u8 (bas), #[.int .i64 3], #[.bool us], #[.int .i64 nm], ints .u8 (key), ints .u8 (sg), ints .u8 (pa), #[.slice a_m ms.length c_m], ints .u8 (start), #[.int .i64 at_], ints .u8 (sig)] 33 (by rw [Qaa, Qaa]; simp only [Array.size_append, cat, ((Qac _ _).trans hrl)]; rfl) 0 _ rfl) kj)) ?_
  refine Qat 7 (.pointer (some ⟨g2, 34, none⟩)) 11 rfl rfl kj kj (fun _ _ _ h => h) (fun W hR => by kernel_rfl) ?_
  refine Qat 8 (.slice (some ⟨g2, 34, none⟩) 32 32) 12 rfl rfl kj kj (fun _ _ _ h => h) (fun W hR => by kernel_rfl) ?_
  refine Qat 10 (.pointer (some ⟨g2, 66, none⟩)) 14 rfl rfl kj kj (fun _ _ _ h => h) (fun W hR => by kernel_rfl) ?_
  refine Qat 11 (.int .i64 3) 15 rfl rfl kj kj (fun _ _ _ h => h) (fun W hR => (Qag 3 _ g2 66 47 _ (.int .i64 3) _ (Qar r2_2 hR) rfl kj (Qah [ints .u8 (grp), #[.int .i64 ep], #[.int .i64 fr], ints .u8 (bas)] [#[.int .i64 3]] [#[.bool us], #[.int .i64 nm], ints .u8 (key), ints .u8 (sg), ints .u8 (pa), #[.slice a_m ms.length c_m], ints .u8 (start), #[.int .i64 at_], ints .u8 (sig)] 66 (by rw [Qaa, Qaa, Qaa, Qaa]; simp only [Array.size_append, cat, ((Qac _ _).trans hal), ((Qac _ _).trans hrl)]; rfl) 0 _ rfl) kj)) ?_
  refine Qat 12 (.int .u8 (byV 3 0)) 16 rfl rfl kj kj (fun _ _ _ h => h) (fun W hR => (Qax (u := .int .u8 (IntKind.u8.wrap (3))) kj (congrArg (Value.int .u8) (byV0 3)))) ?_
  refine Qc2 6 13 kj ?_ ?_
  ·skip
   refine Qbi rfl (fun v W' => (OwnN .u8 5 W2.heap.size (Qa6 grp ep fr)) v W' ∧ Ext W2 W') 66 #[.agg (ints .u8 (grp)), .int .i64 ep, .int .i64 fr] 10 rfl kj kj ((QcD grp ep fr _ hrl hep).mono (by rintro e w' ⟨v, rfl, e1, hv⟩; exact ⟨v, rfl, hv, e1⟩)) (fun _ _ h => Rely.Ext.trans (Rely.Ext.refl W2) h.2) fun vv4 W3 hh4 => ?_
   obtain ⟨hv4, e3⟩ := hh4
   have x3 : Ext w W3 := Ext.tr x2 e3
   obtain ⟨ahd_, chd_, rfl, -⟩ := id (OwnN.rd hv4)
   have hva3 := OwnN.base (Rely.Ext.refl W2).size hv4
   refine Qc2 9 13 kj ?_ ?_
   ·skip
    have r2_3 := (Qar r2_2 e3)
    have y2_3 : Ext W2 W3 := (Rely.Ext.trans (Rely.Ext.refl W2) e3)
    refine Qbr (k := .u8) (T := 5) (xs := Qa6 grp ep fr) (ys := bas) (V := W2) 1 (.tmp 10) (.tmp 12) 26 rfl kj kj (by decide) 13 rfl 9 rfl kj kj kj hva3 (QaB 34 hal r2_3 (fun i hi => Qa8 [ints .u8 (grp), #[.int .i64 ep], #[.int .i64 fr]] [#[.int .i64 3], #[.bool us], #[.int .i64 nm], ints .u8 (key), ints .u8 (sg), ints .u8 (pa), #[.slice a_m ms.length c_m], ints .u8 (start), #[.int .i64 at_], ints .u8 (sig)] bas 34 i (34 + i) (by rw [Qaa, Qaa, Qaa]; simp only [Array.size_append, cat, ((Qac _ _).trans hrl)]; rfl) rfl (by rw [hal]; exact hi)) (Qay r2_3) (Nat.le_refl _) (by decide)) (by simp only [List.length_append, List.length_cons, List.length_nil, QaS, Qa9 ep fr hrl, hrl, hal, hkl, hgl, hpl, htl, hil]; omega) y2_3 fun zz1 W4 f5 y4 l4 => ?_
    have x4 : Ext w W4 := Ext.low x3 l4 x2.size
    obtain ⟨ap1_, cp1_, rfl, -⟩ := id (OwnN.rd f5)
    refine QaJ 13 kj ?_
    refine wo_run rfl (fun v W' => Ext W4 W' ∧ NewS W4.heap.size #[.int .u8 (byV 3 0)] 5 1 v W') 17 rfl kj ⟨_, _, (by kernel_rfl : _ = Result.ok (Next.value (.slice (some ⟨W4.heap.size, 0, none⟩) 1 1)) (W4.alloc (.cells #[.int .u8 (byV 3 0)] 5))), Qbf _ _, ⟨_, rfl, Nat.le_refl _, heap_alloc_new _ _⟩⟩ (fun _ _ h => Rely.Ext.trans y4 h.1) fun vv7 W5 hh7 => ?_
    obtain ⟨e5, gz, rfl, lz5, rz5⟩ := hh7
    have x5 : Ext w W5 := Ext.tr x4 e5
    have bz5 : w.heap.size ≤ gz := Nat.le_trans x4.size lz5
    refine QaJ 14 kj ?_
    have f9_5 := (f5.ext e5)
    have y2_5 : Ext W2 W5 := (Rely.Ext.trans y4 e5)
    refine Qbr (k := .u8) (T := 5) (xs := Qa6 grp ep fr ++ bas) (ys := [(byV 3 0)]) (V := W2) 1 (.tmp 13) (.tmp 17) 26 rfl kj kj (by decide) 18 rfl 14 rfl kj kj kj f9_5 (Qbd (xs := [(byV 3 0)]) (n := 1) rfl rz5 (Qay rz5) (show 1 ≤ maxLen from by decide)) (by simp only [List.length_append, List.length_cons, List.length_nil, QaS, Qa9 ep fr hrl, hrl, hal, hkl, hgl, hpl, htl, hil]; omega) y2_5 fun zz2 W6 f10 y6 l6 => ?_
    have x6 : Ext w W6 := Ext.low x5 l6 x2.size
    obtain ⟨ap2_, cp2_, rfl, -⟩ := id (OwnN.rd f10)
    refine Qat 15 (.slice ap2_ ((Qa6 grp ep fr ++ bas ++ [(byV 3 0)]).length) cp2_) 3 rfl rfl kj kj (fun _ _ _ h => h) (fun W hR => by kernel_rfl) ?_
    exact Qcx kj (.slice ap2_ ((Qa6 grp ep fr ++ bas ++ [(byV 3 0)]).length) cp2_) ⟨rfl, rfl, trivial⟩ ⟨OwnN.base e2.size f10, Rely.Ext.trans e2 y6⟩
   ·skip
    have y2_3 : Ext W2 W3 := (Rely.Ext.trans (Rely.Ext.refl W2) e3)
    refine wo_run rfl (fun v W' => Ext W3 W' ∧ NewS W3.heap.size #[.int .u8 (byV 3 0)] 5 1 v W') 17 rfl kj ⟨_, _, (by kernel_rfl : _ = Result.ok (Next.value (.slice (some ⟨W3.heap.size, 0, none⟩) 1 1)) (W3.alloc (.cells #[.int .u8 (byV 3 0)] 5))), Qbf _ _, ⟨_, rfl, Nat.le_refl _, heap_alloc_new _ _⟩⟩ (fun _ _ h => Rely.Ext.trans y2_3 h.1) fun vv12 W4 hh12 => ?_
    obtain ⟨e4, gz, rfl, lz4, rz4⟩ := hh12
    have x4 : Ext w W4 := Ext.tr x3 e4
    have bz4 : w.heap.size ≤ gz := Nat.le_trans x3.size lz4
    have hnb4 : (Value.slice ahd_ (Qa6 grp ep fr).length chd_).ownBlock ≠ some gz := fun q => by have := hva3.lt q; omega
    refine QaJ 9 kj ?_
    have f14_4 := (hva3.ext e4)
    have r2_3 := (Qar r2_2 e3)
    have r2_4 := (Qar r2_3 e4)
    have y2_4 : Ext W2 W4 := (Rely.Ext.trans y2_3 e4)
    refine Qcb (k := .u8) (T := 5) (xs := Qa6 grp ep fr) (ys := bas) (V := W2) 1 (.tmp 10) (.tmp 12) 26 rfl kj kj (by decide) 13 rfl 9 rfl kj kj kj f14_4 (QaB 34 hal r2_4 (fun i hi => Qa8 [ints .u8 (grp), #[.int .i64 ep], #[.int .i64 fr]] [#[.int .i64 3], #[.bool us], #[.int .i64 nm], ints .u8 (key), ints .u8 (sg), ints .u8 (pa), #[.slice a_m ms.length c_m], ints .u8 (start), #[.int .i64 at_], ints .u8 (sig)] bas 34 i (34 + i) (by rw [Qaa, Qaa, Qaa]; simp only [Array.size_append, cat, ((Qac _ _).trans hrl)]; rfl) rfl (by rw [hal]; exact hi)) (Qay r2_4) (Nat.le_refl _) (by decide)) (by simp only [List.length_append, List.length_cons, List.length_nil, QaS, Qa9 ep fr hrl, hrl, hal, hkl, hgl, hpl, htl, hil]; omega) y2_4 rz4 hnb4 fun zz1 W5 f15 y5 l5 rz5 => ?_
    have x5 : Ext w W5 := Ext.low x4 l5 x2.size
    obtain ⟨ap1_, cp1_, rfl, -⟩ := id (OwnN.rd f15)
    refine QaJ 14 kj ?_
    refine Qbr (k := .u8) (T := 5) (xs := Qa6 grp ep fr ++ bas) (ys := [(byV 3 0)]) (V := W2) 1 (.tmp 13) (.tmp 17) 26 rfl kj kj (by decide) 18 rfl 14 rfl kj kj kj f15 (Qbd (xs := [(byV 3 0)]) (n := 1) rfl rz5 (Qay rz5) (show 1 ≤ maxLen from by decide)) (by simp only [List.length_append, List.length_cons, List.length_nil, QaS, Qa9 ep fr hrl, hrl, hal, hkl, hgl, hpl, htl, hil]; omega) y5 fun zz2 W6 f16 y6 l6 => ?_
    have x6 : Ext w W6 := Ext.low x5 l6 x2.size
    obtain ⟨ap2_, cp2_, rfl, -⟩ := id (OwnN.rd f16)
    refine Qat 15 (.slice ap2_ ((Qa6 grp ep fr ++ bas ++ [(byV 3 0)]).length) cp2_) 3 rfl rfl kj kj (fun _ _ _ h => h) (fun W hR => by kernel_rfl) ?_
    exact Qcx kj (.slice ap2_ ((Qa6 grp ep fr ++ bas ++ [(byV 3 0)]).length) cp2_) ⟨rfl, rfl, trivial⟩ ⟨OwnN.base e2.size f16, Rely.Ext.trans e2 y6⟩
  ·skip
   refine wo_run rfl (fun v W' => Ext W2 W' ∧ NewS W2.heap.size #[.int .u8 (byV 3 0)] 5 1 v W') 17 rfl kj ⟨_, _, (by kernel_rfl : _ = Result.ok (Next.value (.slice (some ⟨W2.heap.size, 0, none⟩) 1 1)) (W2.alloc (.cells #[.int .u8 (byV 3 0)] 5))), Qbf _ _, ⟨_, rfl, Nat.le_refl _, heap_alloc_new _ _⟩⟩ (fun _ _ h => Rely.Ext.trans (Rely.Ext.refl W2) h.1) fun vv18 W3 hh18 => ?_
   obtain ⟨e3, gz, rfl, lz3, rz3⟩ := hh18
   have x3 : Ext w W3 := Ext.tr x2 e3
   have bz3 : w.heap.size ≤ gz := Nat.le_trans x2.size lz3
   refine QaJ 6 kj ?_
   have y2_3 : Ext W2 W3 := (Rely.Ext.trans (Rely.Ext.refl W2) e3)
   refine Qbi rfl (fun v W' => (OwnN .u8 5 W3.heap.size (Qa6 grp ep fr)) v W' ∧ Ext W3 W') 66 #[.agg (ints .u8 (grp)), .int .i64 ep, .int .i64 fr] 10 rfl kj kj ((QcD grp ep fr _ hrl hep).mono (by rintro e w' ⟨v, rfl, e1, hv⟩; exact ⟨v, rfl, hv, e1⟩)) (fun _ _ h => Rely.Ext.trans y2_3 h.2) fun vv20 W4 hh20 => ?_
   obtain ⟨hv20, e4⟩ := hh20
   have x4 : Ext w W4 := Ext.tr x3 e4
   obtain ⟨ahd_, chd_, rfl, -⟩ := id (OwnN.rd hv20)
   have hva4 := OwnN.base y2_3.size hv20
   have hnb4 := Qbp hv20 (Qay rz3)
   refine QaJ 9 kj ?_
   have r2_3 := (Qar r2_2 e3)
   have r2_4 := (Qar r2_3 e4)
   have y2_4 : Ext W2 W4 := (Rely.Ext.trans y2_3 e4)
   have r19_4 := (Qar rz3 e4)
   refine Qcb (k := .u8) (T := 5) (xs := Qa6 grp ep fr) (ys := bas) (V := W2) 1 (.tmp 10) (.tmp 12) 26 rfl kj kj (by decide) 13 rfl 9 rfl kj kj kj hva4 (QaB 34 hal r2_4 (fun i hi => Qa8 [ints .u8 (grp), #[.int .i64 ep], #[.int .i64 fr]] [#[.int .i64 3], #[.bool us], #[.int .i64 nm], ints .u8 (key), ints .u8 (sg), ints .u8 (pa), #[.slice a_m ms.length c_m], ints .u8 (start), #[.int .i64 at_], ints .u8 (sig)] bas 34 i (34 + i) (by rw [Qaa, Qaa, Qaa]; simp only [Array.size_append, cat, ((Qac _ _).trans hrl)]; rfl) rfl (by rw [hal]; exact hi)) (Qay r2_4) (Nat.le_refl _) (by decide)) (by simp only [List.length_append, List.length_cons, List.length_nil, QaS, Qa9 ep fr hrl, hrl, hal, hkl, hgl, hpl, htl, hil]; omega) y2_4 r19_4 hnb4 fun zz1 W5 f21 y5 l5 rz5 => ?_
   have x5 : Ext w W5 := Ext.low x4 l5 x2.size
   obtain ⟨ap1_, cp1_, rfl, -⟩ := id (OwnN.rd f21)
   refine QaJ 14 kj ?_
   refine Qbr (k := .u8) (T := 5) (xs := Qa6 grp ep fr ++ bas) (ys := [(byV 3 0)]) (V := W2) 1 (.tmp 13) (.tmp 17) 26 rfl kj kj (by decide) 18 rfl 14 rfl kj kj kj f21 (Qbd (xs := [(byV 3 0)]) (n := 1) rfl rz5 (Qay rz5) (show 1 ≤ maxLen from by decide)) (by simp only [List.length_append, List.length_cons, List.length_nil, QaS, Qa9 ep fr hrl, hrl, hal, hkl, hgl, hpl, htl, hil]; omega) y5 fun zz2 W6 f22 y6 l6 => ?_
   have x6 : Ext w W6 := Ext.low x5 l6 x2.size
   obtain ⟨ap2_, cp2_, rfl, -⟩ := id (OwnN.rd f22)
   refine Qat 15 (.slice ap2_ ((Qa6 grp ep fr ++ bas ++ [(byV 3 0)]).length) cp2_) 3 rfl rfl kj kj (fun _ _ _ h => h) (fun W hR => by kernel_rfl) ?_
   exact Qcx kj (.slice ap2_ ((Qa6 grp ep fr ++ bas ++ [(byV 3 0)]).length) cp2_) ⟨rfl, rfl, trivial⟩ ⟨OwnN.base e2.size f22, Rely.Ext.trans e2 y6⟩
 obtain ⟨W2, hWJ⟩ : ∃ z, z = WJ := ⟨_, rfl⟩
 rw [← hWJ] at hI ⊢
 obtain ⟨hJ, e2⟩ := hI
 have x2 : Ext w W2 := Ext.tr x1 e2
 obtain ⟨aJ_, cJ_, rfl, -⟩ := id (OwnN.rd hJ)
 refine hK3 _ _ ?_
 refine wp_seq_k fun K24 hK24 => ?_
 refine wp_seq_k fun K25 hK25 => ?_
 refine Qae ?_
 refine Qab (.pointer (some ⟨g2, 66, none⟩)) 19 rfl kj kj ?_
 have r2_2 := (Qar r2_1 e2)
 refine Qab (.int .i64 3) 20 rfl kj (Qag 3 _ g2 66 47 _ (.int .i64 3) _ r2_2 rfl kj (Qah [ints .u8 (grp), #[.int .i64 ep], #[.int .i64 fr], ints .u8 (bas)] [#[.int .i64 3]] [#[.bool us], #[.int .i64 nm], ints .u8 (key), ints .u8 (sg), ints .u8 (pa), #[.slice a_m ms.length c_m], ints .u8 (start), #[.int .i64 at_], ints .u8 (sig)] 66 (by rw [Qaa, Qaa, Qaa, Qaa]; simp only [Array.size_append, cat, ((Qac _ _).trans hal), ((Qac _ _).trans hrl)]; rfl) 0 _ rfl) kj) ?_
 refine Qab (.bool false) 21 rfl kj kj ?_
 refine Qaf ?_
 refine hK25 _ _ ?_
 refine cond_false kj ?_
 refine wp_skip ?_
 refine hK24 _ _ ?_
 refine wp_seq_k fun K26 hK26 => ?_
 refine wp_seq_k fun K27 hK27 => ?_
 refine Qae ?_
 refine Qab (.pointer (some ⟨g2, 66, none⟩)) 27 rfl kj kj ?_
 refine Qab (.int .i64 3) 28 rfl kj (Qag 3 _ g2 66 47 _ (.int .i64 3) _ r2_2 rfl kj (Qah [ints .u8 (grp), #[.int .i64 ep], #[.int .i64 fr], ints .u8 (bas)] [#[.int .i64 3]] [#[.bool us], #[.int .i64 nm], ints .u8 (key), ints .u8 (sg), ints .u8 (pa), #[.slice a_m ms.length c_m], ints .u8 (start), #[.int .i64 at_], ints .u8 (sig)] 66 (by rw [Qaa, Qaa, Qaa, Qaa]; simp only [Array.size_append, cat, ((Qac _ _).trans hal), ((Qac _ _).trans hrl)]; rfl) 0 _ rfl) kj) ?_
 refine Qab (.bool false) 29 rfl kj kj ?_
 refine Qaf ?_
 refine hK27 _ _ ?_
 refine cond_false kj ?_
 refine wp_skip ?_
 refine hK26 _ _ ?_
 refine wp_seq_k fun K28 hK28 => ?_
 refine wp_seq_k fun K29 hK29 => ?_
 refine Qae ?_
 refine Qab (.pointer (some ⟨g2, 66, none⟩)) 34 rfl kj kj ?_
 refine Qab (.int .i64 3) 35 rfl kj (Qag 3 _ g2 66 47 _ (.int .i64 3) _ r2_2 rfl kj (Qah [ints .u8 (grp), #[.int .i64 ep], #[.int .i64 fr], ints .u8 (bas)] [#[.int .i64 3]] [#[.bool us], #[.int .i64 nm], ints .u8 (key), ints .u8 (sg), ints .u8 (pa), #[.slice a_m ms.length c_m], ints .u8 (start), #[.int .i64 at_], ints .u8 (sig)] 66 (by rw [Qaa, Qaa, Qaa, Qaa]; simp only [Array.size_append, cat, ((Qac _ _).trans hal), ((Qac _ _).trans hrl)]; rfl) 0 _ rfl) kj) ?_
 refine Qab (.bool true) 36 rfl kj kj ?_
 refine Qaf ?_
 refine hK29 _ _ ?_
 refine cond_true kj ?_
 refine Qae ?_
 refine Qab (.slice aJ_ ((Qa6 grp ep fr ++ bas ++ [byV 3 0]).length) cJ_) 37 rfl kj kj ?_
 refine Qab (.pointer (some ⟨g2, 198, none⟩)) 38 rfl kj kj ?_
 refine Qab (.int .i64 at_) 39 rfl kj (Qag 3 _ g2 198 47 _ (.int .i64 at_) _ r2_2 rfl kj (Qah [ints .u8 (grp), #[.int .i64 ep], #[.int .i64 fr], ints .u8 (bas), #[.int .i64 3], #[.bool us], #[.int .i64 nm], ints .u8 (key), ints .u8 (sg), ints .u8 (pa), #[.slice a_m ms.length c_m], ints .u8 (start)] [#[.int .i64 at_]] [ints .u8 (sig)] 198 (by rw [Qaa, Qaa, Qaa, Qaa, Qaa, Qaa, Qaa, Qaa, Qaa, Qaa, Qaa, Qaa]; simp only [Array.size_append, cat, ((Qac _ _).trans hal), ((Qac _ _).trans hgl), ((Qac _ _).trans hkl), ((Qac _ _).trans hpl), ((Qac _ _).trans hrl), ((Qac _ _).trans htl)]; rfl) 0 _ rfl) kj) ?_
 refine Qab (.int .u8 (byV at_ 0)) 40 rfl kj (Qax (u := .int .u8 (IntKind.u8.wrap (at_))) kj (congrArg (Value.int .u8) (byV0 at_))) ?_
 refine Qbs (ints .u8 ([(byV at_ 0)])) 5 1 41 rfl kj kj fun g30 W3 l30 e3 r30_3 => ?_
 have x3 : Ext w W3 := Ext.tr x2 e3
 have b30 : w.heap.size ≤ g30 := Nat.le_trans x2.size l30
 have f31_3 := (hJ.ext e3)
 have y1_2 : Ext W1 W2 := (Rely.Ext.trans (Rely.Ext.refl W1) e2)
 have y1_3 : Ext W1 W3 := (Rely.Ext.trans y1_2 e3)
 refine Qbb (k := .u8) (T := 5) (xs := Qa6 grp ep fr ++ bas ++ [byV 3 0]) (ys := [(byV at_ 0)]) (V := W1) 1 (.tmp 37) (.tmp 41) 26 rfl kj kj (by decide) 42 rfl kj kj kj f31_3 (Qbd (xs := [(byV at_ 0)]) (n := 1) rfl r30_3 (Qay r30_3) (show 1 ≤ maxLen from by decide)) (by simp only [List.length_append, List.length_cons, List.length_nil, QaS, Qa9 ep fr hrl, hrl, hal, hkl, hgl, hpl, htl, hil]; omega) y1_3 fun zz3 W4 f32 y4 l4 => ?_
 have x4 : Ext w W4 := Ext.low x3 l4 x1.size
 obtain ⟨ap3_, cp3_, rfl, -⟩ := id (OwnN.rd f32)
 refine Qab (.slice ap3_ ((Qa6 grp ep fr ++ bas ++ [byV 3 0] ++ [(byV at_ 0)]).length) cp3_) 3 rfl kj kj ?_
 refine Qaf ?_
 refine hK28 _ _ ?_
 refine wp_seq_k fun K34 hK34 => ?_
 refine Qae ?_
 refine Qab (.slice ap3_ ((Qa6 grp ep fr ++ bas ++ [byV 3 0] ++ [(byV at_ 0)]).length) cp3_) 43 rfl kj kj ?_
 refine Qab (.pointer (some ⟨g2, 199, none⟩)) 44 rfl kj kj ?_
 refine Qab (.slice (some ⟨g2, 199, none⟩) 64 64) 45 rfl kj kj ?_
 have r2_3 := (Qar r2_2 e3)
 have r2_4 := (QbJ l4 r2_3 (Qay r2_1))
 refine Qbb (k := .u8) (T := 5) (xs := Qa6 grp ep fr ++ bas ++ [byV 3 0] ++ [(byV at_ 0)]) (ys := sig) (V := W1) 1 (.tmp 43) (.tmp 45) 26 rfl kj kj (by decide) 46 rfl kj kj kj f32 (QaB 199 hil r2_4 (fun i hi => Qa8 [ints .u8 (grp), #[.int .i64 ep], #[.int .i64 fr], ints .u8 (bas), #[.int .i64 3], #[.bool us], #[.int .i64 nm], ints .u8 (key), ints .u8 (sg), ints .u8 (pa), #[.slice a_m ms.length c_m], ints .u8 (start), #[.int .i64 at_]] [] sig 199 i (199 + i) (by rw [Qaa, Qaa, Qaa, Qaa, Qaa, Qaa, Qaa, Qaa, Qaa, Qaa, Qaa, Qaa, Qaa]; simp only [Array.size_append, cat, ((Qac _ _).trans hal), ((Qac _ _).trans hgl), ((Qac _ _).trans hkl), ((Qac _ _).trans hpl), ((Qac _ _).trans hrl), ((Qac _ _).trans htl)]; rfl) rfl (by rw [hil]; exact hi)) (Qay r2_4) (Nat.le_refl _) (by decide)) (by simp only [List.length_append, List.length_cons, List.length_nil, QaS, Qa9 ep fr hrl, hrl, hal, hkl, hgl, hpl, htl, hil]; omega) y4 fun zz4 W5 f35 y5 l5 => ?_
 have x5 : Ext w W5 := Ext.low x4 l5 x1.size
 obtain ⟨ap4_, cp4_, rfl, -⟩ := id (OwnN.rd f35)
 refine Qab (.slice ap4_ ((Qa6 grp ep fr ++ bas ++ [byV 3 0] ++ [(byV at_ 0)] ++ sig).length) cp4_) 2 rfl kj kj ?_
 refine Qaf ?_
 refine hK34 _ _ ?_
 refine wp_ret ?_
 repeat (first | with_reducible refine goR1 ?_ | with_reducible refine goR2 ?_)
 exact (show bodyPost _ _ _ .ret _ _ from ret1 (.slice ap4_ ((Qa6 grp ep fr ++ bas ++ [byV 3 0] ++ [(byV at_ 0)] ++ sig).length) cp4_) rfl (Qaw kj) ⟨_, rfl, x5, OwnN.base x1.size (show OwnN .u8 5 _ (QbV grp ep fr bas 3 us nm key sg pa ms start at_ sig) _ _ from (show Qa6 grp ep fr ++ bas ++ [byV 3 0] ++ [(byV at_ 0)] ++ sig = QbV grp ep fr bas 3 us nm key sg pa ms start at_ sig by unfold QbV; simp only [show ((3 : Int) = 1) = False by decide, if_true, if_false, List.append_nil]) ▸ f35)⟩)
theorem QfU (grp : List Int) (ep fr : Int) (bas : List Int) (kd : Int) (us : Bool) (nm : Int) (key sg pa ms start : List Int) (at_ : Int) (sig : List Int) (a_m : Option Addr) (c_m : Nat) (w : World) (hrl : grp.length = 32) (hrb : Qaj grp) (hal : bas.length = 32) (hab : Qaj bas) (hkl : key.length = 32) (hgl : sg.length = 32) (hpl : pa.length = 32) (hkb : Qaj key) (hgb : Qaj sg) (hpb : Qaj pa) (hml : ms.length ≤ 1000000) (htl : start.length = 32) (htb : Qaj start) (hil : sig.length = 64) (hib : Qaj sig) (hm : RdK .i64 w.heap.size ms (.slice a_m ms.length c_m) w) (hep : 0 ≤ ep ∧ ep ≤ 4294967295) (hk : kd = 1 ∨ kd = 2 ∨ kd = 3) : Calls Try.prog 59 #[.agg (cat [ints .u8 (grp), #[.int .i64 ep], #[.int .i64 fr], ints .u8 (bas), #[.int .i64 kd], #[.bool us], #[.int .i64 nm], ints .u8 (key), ints .u8 (sg), ints .u8 (pa), #[.slice a_m ms.length c_m], ints .u8 (start), #[.int .i64 at_], ints .u8 (sig)])] w (QbE w (OwnN .u8 5 w.heap.size (QbV grp ep fr bas kd us nm key sg pa ms start at_ sig))) := by
  rcases hk with rfl | rfl | rfl
  · exact QgQ grp ep fr bas us nm key sg pa ms start at_ sig a_m c_m w hrl hrb hal hab hkl hgl hpl hkb hgb hpb hml htl htb hil hib hm hep
  · exact QgP grp ep fr bas us nm key sg pa ms start at_ sig a_m c_m w hrl hrb hal hab hkl hgl hpl hkb hgb hpb hml htl htb hil hib hm hep
  · exact QgO grp ep fr bas us nm key sg pa ms start at_ sig a_m c_m w hrl hrb hal hab hkl hgl hpl hkb hgb hpb hml htl htb hil hib hm hep
theorem Qc9 {ep fr kd : Int} {us : Bool} {nm : Int} {key sg pa ms start : List Int} {at_ : Int} (h : QbA ep fr kd us nm key sg pa ms start at_ = true) : hgB ep fr = true ∧ (kd = 1 ∨ kd = 2 ∨ kd = 3) ∧ (kd = 3 ∨ QbN us nm key sg pa ms = true) := by
  unfold QbA at h
  rw [Bool.and_eq_true] at h
  refine ⟨h.1, ?_⟩
  have h2 := h.2
  by_cases k1 : kd = 1
  · rw [if_pos k1, Bool.and_eq_true] at h2; exact ⟨.inl k1, .inr h2.1⟩
  · rw [if_neg k1] at h2
    by_cases k2 : kd = 2
    · rw [if_pos k2, Bool.and_eq_true] at h2; exact ⟨.inr (.inl k2), .inr h2.1⟩
    · rw [if_neg k2] at h2
      by_cases k3 : kd = 3
      · exact ⟨.inr (.inr k3), .inl k3⟩
      · rw [if_neg k3] at h2; cases h2
end Go.Proofs.Ytfelfmchachljaa.Wr
end
section
namespace Go.Proofs.Ytfelfmchachljaa.Wr
open Go Go.RowKit
open Rely Auto Own Sha
set_option linter.unusedVariables false
set_option linter.unusedSimpArgs false
structure Qaz (T : TypeId) (n : Nat) (w W : World) : Prop where
  os : W.os = w.os
  tape : W.tape = w.tape
  output : W.output = w.output
  size : w.heap.size ≤ W.heap.size
  block : ∀ k, k < w.heap.size → (k < n ∨ ∀ cs fr, w.heap[k]? ≠ some (.cells cs T fr)) → W.heap[k]? = w.heap[k]?
theorem Qaz.refl (T : TypeId) (n : Nat) (w : World) : Qaz T n w w := ⟨rfl, rfl, rfl, Nat.le_refl _, fun _ _ _ => rfl⟩
theorem Qaz.trans {T : TypeId} {n : Nat} {u w W : World} (h : Qaz T n u w) (k : Qaz T n w W) : Qaz T n u W :=
  ⟨k.os.trans h.os, k.tape.trans h.tape, k.output.trans h.output, Nat.le_trans h.size k.size, fun i hi hc => by
    have e := h.block i hi hc
    refine (k.block i (Nat.lt_of_lt_of_le hi h.size) ?_).trans e
    rcases hc with hc | hc
    · exact .inl hc
    · exact .inr fun cs fr => by rw [e]; exact hc cs fr⟩
theorem Qaz.ext {T : TypeId} {n : Nat} {u w W : World} (h : Qaz T n u w) (e : Ext w W) : Qaz T n u W := h.trans ⟨e.os, e.tape, e.output, e.size, fun k hk _ => e.block k hk⟩
theorem Qaz.put {T : TypeId} {n g : Nat} {u w W : World} (h : Qaz T n u w) (p : Puts w g W) (hg : u.heap.size ≤ g) : Qaz T n u W :=
  ⟨p.1.trans h.os, p.2.1.trans h.tape, p.2.2.1.trans h.output, by have := h.size; have := p.2.2.2.1; omega, fun k hk hc => (p.2.2.2.2 k (by omega)).trans (h.block k hk hc)⟩
theorem Qaz.row {T T' : TypeId} {n g : Nat} {w W : World} {c : Array Value} (h : Qaz T n w W) (r : w.heap[g]? = some (.cells c T')) (hT : T' ≠ T) : W.heap[g]? = some (.cells c T') :=
  (h.block g (Qay r) (.inr fun cs fr e => by rw [r] at e; simp only [Option.some.injEq, Obj.cells.injEq] at e; exact hT e.2.1)).trans r
theorem Qaz.toExt {T : TypeId} {n : Nat} {u w W : World} (h : Ext u w) (l : Qaz T n w W) (hn : u.heap.size ≤ n) : Ext u W :=
  ⟨l.os.trans h.os, l.tape.trans h.tape, l.output.trans h.output, Nat.le_trans h.size l.size, fun k hk => (l.block k (Nat.lt_of_lt_of_le hk h.size) (.inl (by omega))).trans (h.block k hk)⟩
section
variable {P : Program} {ops : Array Oper} {Q : Exit → Act → World → Prop} {rest : List Oper} {o : Oper} {N : Nat} {L : Env} {w V : World} {ds : List Deferred} {fuel : Nat} {listed : Array Bool}
theorem Qf0 {k : IntKind} {T : TypeId} {b : Nat} {ρ : Operand → Value} (s x : Operand) (t : TypeId) (ho : o.op = .call { callee := .builtin .append, args := #[s, x], argTypes := #[t, t] })
    (ht : P.underlying t = some (.slice T)) (hi : (P.info? T).map (fun i => (i.zero, i.size, i.bytes)) = some (some (.int k 0), 1, b)) (hb8 : b ≤ 8) {B : Nat} {v y : Value} {xs ys : List Int} (hs : ρ s = v) (hx : ρ x = y)
    (h : OwnN k T V.heap.size xs v w) (hy : RdK k B ys y w) (hn : xs.length + ys.length ≤ 1000000000) (hV : Ext V w) :
    ∃ v' W', (execOp ρ o).run P w = .ok (.value v') W' ∧ OwnN k T V.heap.size (xs ++ ys) v' W' ∧ Ext V W' ∧ Qaz T V.heap.size w W' ∧ ∀ g c T', w.heap[g]? = some (.cells c T') → v.ownBlock ≠ some g → W'.heap[g]? = some (.cells c T') := by
  obtain ⟨v', W', h1, h2, h3, h4⟩ := Qc1 (ρ := ρ) (o := o) (W := w) s x t ho ht hi hb8 hs hx h hy hn hV.size
  refine ⟨v', W', h1, h2, Qd6 hV h h3, ⟨h3.os, h3.tape, h3.output, h3.size, fun i hi hc => h3.block i hi fun q => ?_⟩, fun g c T' r hn => (h3.block g (Qay r) fun q => hn q.symm).trans r⟩
  rcases hc with hc | hc
  · have := h.ge q.symm; omega
  · obtain ⟨cur, e⟩ := Qd3 h q.symm
    exact hc cur _ e
theorem Qce {k : IntKind} {T : TypeId} (b : Nat) (s x : Operand) (t : TypeId) (ho : o.op = .call { callee := .builtin .append, args := #[s, x], argTypes := #[t, t] })
    (ht : P.underlying t = some (.slice T)) (hi : (P.info? T).map (fun i => (i.zero, i.size, i.bytes)) = some (some (.int k 0), 1, b)) (hb8 : b ≤ 8) (d : Nat) (hd : o.dst = some d) (hg : QbL ops o N L = some true) {B : Nat} {v y : Value} {xs ys : List Int}
    (hs : Rely.look (envN N L) s = v) (hx : Rely.look (envN N L) x = y) (h : OwnN k T V.heap.size xs v w) (hy : RdK k B ys y w) (hn : xs.length + ys.length ≤ 1000000000) (hV : Ext V w)
    (kk : ∀ (u : Value) (W' : World), OwnN k T V.heap.size (xs ++ ys) u W' → Ext V W' → Qaz T V.heap.size w W' → WL P ops Q rest (QaG ds N ((d, u) :: L)) W') : WL P ops Q (o :: rest) (QaG ds N L) w := by
  obtain ⟨v', W', h1, h2, h3, h4, -⟩ := Qf0 (ρ := Rely.look (envN N L)) s x t ho ht hi hb8 hs hx h hy hn hV
  exact Qcn _ _ d hd hg h1 (kk v' W' h2 h3 h4)
theorem QaY {k : IntKind} {T : TypeId} (b : Nat) (s x : Operand) (t : TypeId) (ho2 : o.op = .call { callee := .builtin .append, args := #[s, x], argTypes := #[t, t] })
    (ht : P.underlying t = some (.slice T)) (hi : (P.info? T).map (fun i => (i.zero, i.size, i.bytes)) = some (some (.int k 0), 1, b)) (hb8 : b ≤ 8) (d : Nat) (hd : o.dst = some d) (j : Nat) (ho : ops[j]? = some o) (hg : QbL ops o N L = some true) {B : Nat} {v y : Value} {xs ys : List Int}
    (hs : Rely.look (envN N L) s = v) (hx : Rely.look (envN N L) x = y) (h : OwnN k T V.heap.size xs v w) (hy : RdK k B ys y w) (hn : xs.length + ys.length ≤ 1000000000) (hV : Ext V w) {Rd : World → Prop} (hRd : ∀ W', Ext V W' → Qaz T V.heap.size w W' → Rd W')
    (kk : ∀ (u : Value) (W' : World), OwnN k T V.heap.size (xs ++ ys) u W' → Ext V W' → Qaz T V.heap.size w W' → (∀ g c T', w.heap[g]? = some (.cells c T') → v.ownBlock ≠ some g → W'.heap[g]? = some (.cells c T')) → Go.Proofs.Ytfelfmchachljaa.Wk.WB P ops Q Rd fuel (listed.setIfInBounds j true) (QaG ds N ((d, u) :: L)) W') : Go.Proofs.Ytfelfmchachljaa.Wk.WO P ops Q Rd j fuel listed (QaG ds N L) w := by
  obtain ⟨v', W', h1, h2, h3, h4, h5⟩ := Qf0 (ρ := Rely.look (envN N L)) s x t ho2 ht hi hb8 hs hx h hy hn hV
  exact Go.Proofs.Ytfelfmchachljaa.Wk.wo_run ho (fun u W' => OwnN k T V.heap.size (xs ++ ys) u W' ∧ Ext V W' ∧ Qaz T V.heap.size w W' ∧ ∀ g c T', w.heap[g]? = some (.cells c T') → v.ownBlock ≠ some g → W'.heap[g]? = some (.cells c T')) d hd hg ⟨v', W', h1, h2, h3, h4, h5⟩ (fun _ _ h => hRd _ h.2.1 h.2.2.1) fun u W' h => kk u W' h.1 h.2.1 h.2.2.1 h.2.2.2
end
section
variable {P : Program} {Q : Exit → Act → World → Prop} {N : Nat} {L : Env} {w V : World} {ds : List Deferred}
theorem Qc4 {α : Type} {id : Nat} {l : List Oper} (live : α → Env) (I : α → World → Prop) (hm : P.follows .mixedOrders = true) (Rd : World → Prop) (hV : ∀ W, Ext w W → Rd W) (h : ∀ W, Ext w W → Go.Proofs.Ytfelfmchachljaa.Wk.WB P l.toArray (Qhx N ds live I) Rd l.length (Array.replicate l.length false) (QaG ds N L) W)
    (kk : ∀ (s : α) (X : Env) (W : World), I s W → Q .normal (QaG ds N (live s ++ X)) W) : (Code.region id l.toArray true).wp P Q (QaG ds N L) w := by
  refine wp_mono (Go.Proofs.Ytfelfmchachljaa.Wk.region_walkG Rd hm fun W e => ⟨hV W e, h W e⟩) fun e a' w' h => ?_
  cases e with
  | normal =>
    obtain ⟨s, X, rfl, hI⟩ := h
    exact kk s X w' hI
  | _ => exact h.elim
theorem Qcl {α : Type} {live : α → Env} {I : α → World → Prop} {ops : Array Oper} {fuel : Nat} {listed : Array Bool} {Rd : World → Prop} (hr : Region.ready .any ops listed = []) (s : α) (hL : QeG L (live s)) (hI : I s w) : Go.Proofs.Ytfelfmchachljaa.Wk.WB P ops (Qhx N ds live I) Rd fuel listed (QaG ds N L) w :=
  Go.Proofs.Ytfelfmchachljaa.Wk.wb_nil hr ⟨s, L, (QcW hL).symm, hI⟩
end
def stB (t : StV) : List Int := t.key ++ [byV ((t.rows.length : Nat) : Int) 0] ++ (t.rows.map fun r => rowV r.xs).flatten
def Qb9 (n : NdC) (ts : List StV) : List Int := QbM n ++ [byV ((ts.length : Nat) : Int) 0] ++ (ts.map stB).flatten
theorem QiF (n0 : Nat) (us : Bool) (nm : Int) (key sg pa ms : List Int) (a_m : Option Addr) (c_m : Nat) (w : World) (hkl : key.length = 32) (hgl : sg.length = 32) (hpl : pa.length = 32) (hml : ms.length ≤ 1000000) (hm : RdK .i64 w.heap.size ms (.slice a_m ms.length c_m) w) (h0 : n0 ≤ w.heap.size) : Calls Try.prog 97 #[.agg (cat [#[.bool us], #[.int .i64 nm], ints .u8 (key), ints .u8 (sg), ints .u8 (pa), #[.slice a_m ms.length c_m]])] w (QbE w (OwnN .u8 5 n0 (Qbo us nm key sg pa ms))) :=
  (QfY us nm key sg pa ms a_m c_m w hkl hgl hpl hml hm).mono fun e W' hg => by
    obtain ⟨v', e1, e2, e3⟩ := hg
    exact ⟨v', e1, e2, e3.base h0⟩
theorem QcT {α : Type} (f : α → List Int) (ts : List α) (d : α) (i : Nat) (h : i < ts.length) (H : List Int) : H ++ ((ts.take (i + 1)).map f).flatten = H ++ ((ts.take i).map f).flatten ++ f (ts.getD i d) := by
  rw [Qc3 ts d i h, List.map_append, List.flatten_append, ← List.append_assoc]
  simp
theorem Qcp {α : Type} (f : α → List Int) (m : Nat) (ts : List α) (h : ∀ x ∈ ts, (f x).length ≤ m) (i n : Nat) (hn : ts.length ≤ n) : ((ts.take i).map f).flatten.length ≤ n * m :=
  Nat.le_trans (Qep f m (ts.take i) fun x hx => h x (List.mem_of_mem_take hx)) (Nat.mul_le_mul_right _ (by rw [List.length_take]; omega))
end Go.Proofs.Ytfelfmchachljaa.Wr
end
section
namespace Go.Proofs.Ytfelfmchachljaa.Wr
open Go Go.RowKit
open Rely Auto Own Sha
set_option linter.unusedVariables false
set_option linter.unusedSimpArgs false
open Wk
set_option maxHeartbeats 4000000 in
set_option maxRecDepth 100000 in
theorem QfV (n : NdC) (ts : List StV) (a_m : Option Addr) (c_m : Nat) (a_t : Option Addr) (c_t : Nat) (w : World) (hn : NdOk n) (hnm : n.ms.length ≤ 1000000) (htn : ts.length ≤ 5) (hrs : ∀ t ∈ ts, t.rows.length ≤ 255 ∧ ∀ r ∈ t.rows, r.xs.length ≤ 65535) (hm : RdK .i64 w.heap.size n.ms (.slice a_m n.ms.length c_m) w) (hls : LsAt StAt 33 st0 w.heap.size w a_t ts) : Calls Try.prog 67 #[.agg (cat [#[.bool n.us], #[.int .i64 n.nm], ints .u8 (n.key), ints .u8 (n.sg), ints .u8 (n.pa), #[.slice a_m n.ms.length c_m], #[.slice a_t ts.length c_t]])] w (QbE w (OwnN .u8 5 w.heap.size (Qb9 n ts))) := by
 have hnb : (QbM n).length ≤ 2000000 := by
  unfold QbM Qbo Qch
  simp only [List.length_append, List.length_cons, List.length_nil, List.length_map, hn.kl, hn.gl, hn.pl]
  omega
 have hsb : ∀ t ∈ ts, t.key.length = 32 := fun t ht => by
  obtain ⟨g, o, -, h2⟩ := hls
  obtain ⟨i, hi, e⟩ := List.mem_iff_getElem.1 ht
  have := (h2 i hi).kl
  rw [List.getD_eq_getElem?_getD, List.getElem?_eq_getElem hi] at this
  rw [← e]; exact this
 have hb2 : ∀ t ∈ ts, ∀ j, ((t.rows.take j).map fun r => rowV r.xs).flatten.length ≤ 255 * 65537 := fun t ht j => Qcp (fun r : RwV => rowV r.xs) 65537 t.rows (fun r hr => by rw [Qee]; have := (hrs t ht).2 r hr; omega) j 255 (hrs t ht).1
 have hb1 : ∀ i, i ≤ ts.length → ((ts.take i).map stB).flatten.length ≤ 5 * 17000000 := fun i _ => Qcp stB 17000000 ts (fun t ht => by
  have h1 := hb2 t ht t.rows.length
  rw [List.take_length] at h1
  unfold stB
  simp only [List.length_append, List.length_cons, List.length_nil, hsb t ht]
  omega) i 5 htn
 refine enter 54 [(0, .agg (cat [#[.bool n.us], #[.int .i64 n.nm], ints .u8 (n.key), ints .u8 (n.sg), ints .u8 (n.pa), #[.slice a_m n.ms.length c_m], #[.slice a_t ts.length c_t]]))] Try.func67 rfl rfl kj rfl ?_
 refine wp_seq_k fun K1 hK1 => ?_
 refine Qae ?_
 refine Qav (cat [#[.bool n.us], #[.int .i64 n.nm], ints .u8 (n.key), ints .u8 (n.sg), ints .u8 (n.pa), #[.slice a_m n.ms.length c_m], #[.slice a_t ts.length c_t]]) 57 1 rfl kj kj fun g2 W1 l2 e1 r2_1 => ?_
 have x1 : Ext w W1 := Ext.tr (Rely.Ext.refl w) e1
 have b2 : w.heap.size ≤ g2 := Nat.le_trans (Rely.Ext.refl w).size l2
 refine Qab (.slice none 0 0) 2 rfl kj kj ?_
 refine Qaf ?_
 refine hK1 _ _ ?_
 refine wp_seq_k fun K3 hK3 => ?_
 refine Qbl kj fun W2 e2 => ?_
 have x2 : Ext w W2 := Ext.tr x1 e2
 refine Qat 0 (.pointer (some ⟨g2, 0, none⟩)) 7 rfl rfl kj kj (fun _ _ _ h => h) (fun W hR => by kernel_rfl) ?_
 have r2_2 := (Qar r2_1 e2)
 refine Qat 1 (.agg (cat [#[.bool n.us], #[.int .i64 n.nm], ints .u8 (n.key), ints .u8 (n.sg), ints .u8 (n.pa), #[.slice a_m n.ms.length c_m]])) 8 rfl rfl kj kj (fun _ _ _ h => h) (fun W hR => (Qau 43 _ g2 0 57 _ _ _ (Qar r2_2 hR) rfl kj (Qah [] [#[.bool n.us], #[.int .i64 n.nm], ints .u8 (n.key), ints .u8 (n.sg), ints .u8 (n.pa), #[.slice a_m n.ms.length c_m]] [#[.slice a_t ts.length c_t]] 0 kj) kj (isz (n := 99) kj (by rw [Qaa, Qaa, Qaa, Qaa, Qaa, Qaa]; simp only [Array.size_append, cat, ((Qac _ _).trans hn.gl), ((Qac _ _).trans hn.kl), ((Qac _ _).trans hn.pl)]; rfl)))) ?_
 refine Qat 3 (.pointer (some ⟨g2, 99, none⟩)) 10 rfl rfl kj kj (fun _ _ _ h => h) (fun W hR => by kernel_rfl) ?_
 refine Qat 4 (.slice a_t ts.length c_t) 11 rfl rfl kj kj (fun _ _ _ h => h) (fun W hR => (Qag 55 _ g2 99 57 _ (.slice a_t ts.length c_t) _ (Qar r2_2 hR) rfl kj (Qah [#[.bool n.us], #[.int .i64 n.nm], ints .u8 (n.key), ints .u8 (n.sg), ints .u8 (n.pa), #[.slice a_m n.ms.length c_m]] [#[.slice a_t ts.length c_t]] [] 99 (by rw [Qaa, Qaa, Qaa, Qaa, Qaa, Qaa]; simp only [Array.size_append, cat, ((Qac _ _).trans hn.gl), ((Qac _ _).trans hn.kl), ((Qac _ _).trans hn.pl)]; rfl) 0 _ rfl) kj)) ?_
 refine Qat 5 (.int .i64 ((ts.length : Nat) : Int)) 12 rfl rfl kj kj (fun _ _ _ h => h) (fun W hR => by kernel_rfl) ?_
 refine Qat 6 (.int .u8 (byV ((ts.length : Nat) : Int) 0)) 13 rfl rfl kj kj (fun _ _ _ h => h) (fun W hR => (Qax (u := .int .u8 (IntKind.u8.wrap ((ts.length : Nat) : Int))) kj (congrArg (Value.int .u8) (byV0 _)))) ?_
 refine Qh9 2 7 rfl rfl (by decide) kj kj kj kj 9 14 rfl rfl kj kj (OwnN .u8 5 W2.heap.size (QbM n)) (NewS W2.heap.size #[.int .u8 (byV ((ts.length : Nat) : Int) 0)] 5 1) (OwnN.stable _ _ _ _) (NewS.stable _ _ _ _) (fun W hR => .inr ⟨97, #[.agg (cat [#[.bool n.us], #[.int .i64 n.nm], ints .u8 (n.key), ints .u8 (n.sg), ints .u8 (n.pa), #[.slice a_m n.ms.length c_m]])], by kernel_rfl, QiF W2.heap.size n.us n.nm n.key n.sg n.pa n.ms _ _ W hn.kl hn.gl hn.pl hnm (RdK.here (RdK.ext (RdK.ext hm x2) hR)) hR.size⟩) (fun W hR => .inl ⟨_, _, (by kernel_rfl : _ = Result.ok (Next.value (.slice (some ⟨W.heap.size, 0, none⟩) 1 1)) (W.alloc (.cells #[.int .u8 (byV ((ts.length : Nat) : Int) 0)] 5))), Qbf _ _, ⟨_, rfl, hR.size, heap_alloc_new _ _⟩⟩) fun va4 vb4 W3 qa4 qb4 e3 => ?_
 have x3 : Ext w W3 := Ext.tr x2 e3
 obtain ⟨anb_, cnb_, rfl, -⟩ := id (OwnN.rd qa4)
 obtain ⟨gz, rfl, lz, rz⟩ := qb4
 have hz := QcA (xs := [byV ((ts.length : Nat) : Int) 0]) rfl lz rz (by show 1 ≤ maxLen; decide)
 refine QaJ 8 kj ?_
 have y2_3 : Ext W2 W3 := (Rely.Ext.trans (Rely.Ext.refl W2) e3)
 refine QaY (k := .u8) (T := 5) (xs := QbM n) (ys := [byV ((ts.length : Nat) : Int) 0]) (V := W2) 1 (.tmp 9) (.tmp 14) 26 rfl kj kj (by decide) 15 rfl 8 rfl kj kj kj qa4 (OwnN.rd hz) (by simp only [List.length_append, List.length_cons, List.length_nil]; have h2 := hnb; omega) y2_3 (fun _ e _ => e) fun z1 W4 f5 y4 l4 st4 => ?_
 have x4 : Ext w W4 := Qaz.toExt x3 l4 x2.size
 obtain ⟨ap1_, cp1_, rfl, -⟩ := id (OwnN.rd f5)
 refine Qat 9 (.slice ap1_ ((QbM n ++ [byV ((ts.length : Nat) : Int) 0]).length) cp1_) 3 rfl rfl kj kj (fun _ _ _ h => h) (fun W hR => by kernel_rfl) ?_
 refine wb_nil kj ?_
 refine hK3 _ _ ?_
 refine wp_seq_k fun K7 hK7 => ?_
 refine wp_seq_k fun K8 hK8 => ?_
 refine Qae ?_
 refine Qab (.int .i64 0) 4 rfl kj kj ?_
 refine Qaf ?_
 refine hK8 _ _ ?_
 refine wp_block ?_
 refine QaP (fun (s1 : Nat × Value) => [(1, .pointer (some ⟨g2, 0, none⟩)), (3, s1.2), (4, .int .i64 ((s1.1 : Nat) : Int))]) (fun (s1 : Nat × Value) W => (s1.1 ≤ ts.length) ∧ (OwnN .u8 5 W2.heap.size (QbM n ++ [byV ((ts.length : Nat) : Int) 0] ++ ((ts.take s1.1).map stB).flatten) s1.2 W) ∧ (Qaz 5 W2.heap.size W4 W) ∧ (Ext w W)) (fun (s1 : Nat × Value) => ts.length - s1.1) (0, .slice ap1_ ((QbM n ++ [byV ((ts.length : Nat) : Int) 0]).length) cp1_) ⟨rfl, rfl, rfl, trivial⟩ ⟨(Nat.zero_le _), (by rw [List.take_zero, List.map_nil, List.flatten_nil, List.append_nil]; exact f5), (Qaz.refl _ _ W4), x4⟩ fun s1 X1 V1 hI1 => ?_
 obtain ⟨i, u⟩ := s1
 obtain ⟨hi, hu, kk1, xx1⟩ := hI1
 replace hi : i ≤ ts.length := hi
 replace hu : OwnN .u8 5 W2.heap.size (QbM n ++ [byV ((ts.length : Nat) : Int) 0] ++ ((ts.take i).map stB).flatten) u V1 := hu
 replace kk1 : Qaz 5 W2.heap.size W4 V1 := kk1
 replace xx1 : Ext w V1 := xx1
 have l5 := kk1
 refine wp_seq_k fun K9 hK9 => ?_
 refine wp_seq_k fun K10 hK10 => ?_
 refine Qae ?_
 refine Qab (.int .i64 ((i : Nat) : Int)) 16 rfl kj kj ?_
 refine Qab (.pointer (some ⟨g2, 99, none⟩)) 17 rfl kj kj ?_
 have r2_3 := (Qar r2_2 e3)
 have r2_4 := (Qaz.row l4 r2_3 (by decide))
 have r2_5 := (Qaz.row l5 r2_4 (by decide))
 refine Qab (.slice a_t ts.length c_t) 18 rfl kj (Qag 55 _ g2 99 57 _ (.slice a_t ts.length c_t) _ r2_5 rfl kj (Qah [#[.bool n.us], #[.int .i64 n.nm], ints .u8 (n.key), ints .u8 (n.sg), ints .u8 (n.pa), #[.slice a_m n.ms.length c_m]] [#[.slice a_t ts.length c_t]] [] 99 (by rw [Qaa, Qaa, Qaa, Qaa, Qaa, Qaa]; simp only [Array.size_append, cat, ((Qac _ _).trans hn.gl), ((Qac _ _).trans hn.kl), ((Qac _ _).trans hn.pl)]; rfl) 0 _ rfl) kj) ?_
 refine Qab (.int .i64 ((ts.length : Nat) : Int)) 19 rfl kj kj ?_
 refine Qab (.bool (decide (((i : Nat) : Int) < ((ts.length : Nat) : Int)))) 20 rfl kj kj ?_
 refine Qaf ?_
 refine hK10 _ _ ?_
 refine Qa5 (t := decide (((i : Nat) : Int) < ((ts.length : Nat) : Int))) kj (fun c11 => ?_) (fun c11 => ?_)
 ·skip
  have hlt20 : i < ts.length := by have := of_decide_eq_true c11; omega
  obtain ⟨gT, oT, hat, hels0⟩ := id hls
  have hel0nd := hels0 i (by omega)
  have hmemnd := Qb3 ts st0 i (by omega)
  obtain ⟨nd, hndnd⟩ : ∃ z, z = ts.getD i st0 := ⟨_, rfl⟩
  rw [← hndnd] at hel0nd hmemnd
  obtain ⟨gR, oR, haR, helsR0⟩ := hel0nd.rows
  have hrn := (hrs nd hmemnd).1
  refine wp_skip ?_
  refine hK9 _ _ ?_
  refine wp_seq_k fun K12 hK12 => ?_
  refine wp_block ?_
  refine wp_seq_k fun K13 hK13 => ?_
  refine Qae ?_
  refine Qab (.pointer (some ⟨g2, 99, none⟩)) 23 rfl kj kj ?_
  refine Qab (.slice a_t ts.length c_t) 24 rfl kj (Qag 55 _ g2 99 57 _ (.slice a_t ts.length c_t) _ r2_5 rfl kj (Qah [#[.bool n.us], #[.int .i64 n.nm], ints .u8 (n.key), ints .u8 (n.sg), ints .u8 (n.pa), #[.slice a_m n.ms.length c_m]] [#[.slice a_t ts.length c_t]] [] 99 (by rw [Qaa, Qaa, Qaa, Qaa, Qaa, Qaa]; simp only [Array.size_append, cat, ((Qac _ _).trans hn.gl), ((Qac _ _).trans hn.kl), ((Qac _ _).trans hn.pl)]; rfl) 0 _ rfl) kj) ?_
  refine Qab (.int .i64 ((i : Nat) : Int)) 25 rfl kj kj ?_
  refine Qab (.pointer (some ⟨gT, oT + i * 33, none⟩)) 26 rfl kj (Qbc 55 _ _ .i64 i gT oT ts.length c_t 129 33 a_t (hat (by omega)) rfl kj kj kj kj (by omega)) ?_
  obtain ⟨u0nd, hu0nd⟩ := QhB nd hel0nd.kl
  refine Qab (.agg (cat [ints .u8 (nd.key), #[.slice nd.a nd.rows.length nd.c]])) 27 rfl kj (Qbm 129 _ gT (oT + i * 33) 33 (cat (stP nd)) u0nd hu0nd (Qcm nd hel0nd.kl) (stK.keep hel0nd xx1.size (fun k _ hl => xx1.block k hl)).cell rfl kj kj kj) ?_
  refine Qav (cat [ints .u8 (List.replicate 32 0), #[.slice none 0 0]]) 129 5 rfl kj kj fun g14 W6 l14 e6 r14_6 => ?_
  have x6 : Ext w W6 := Ext.tr xx1 e6
  have b14 : w.heap.size ≤ g14 := Nat.le_trans xx1.size l14
  refine Qa3 g14 _ (cat [ints .u8 (nd.key), #[.slice nd.a nd.rows.length nd.c]]) 129 r14_6 rfl kj (Qa0 129 _ _ g14 129 _ _ r14_6 rfl kj kj (isz (n := 33) kj (by rw [Qaa, Qaa]; simp only [Array.size_append, cat, ((Qac _ _).trans hel0nd.kl)]; rfl)) (eqsz (n := 33) (by rw [Qaa, Qaa]; simp only [Array.size_append, cat, ((Qac _ _).trans (List.length_replicate (n := 32)))]; rfl) (by rw [Qaa, Qaa]; simp only [Array.size_append, cat, ((Qac _ _).trans hel0nd.kl)]; rfl)) (QaX _ (by intro a ha; simp only [List.mem_cons, List.not_mem_nil, or_false] at ha; rcases ha with rfl | rfl; exact (Qas _ _); exact (Qaq _ rfl)))) fun W7 p7 r14_7 => ?_
  have x7 : Ext w W7 := Puts.ext p7 x6 b14
  refine Qaf ?_
  refine hK13 _ _ ?_
  refine wp_seq_k fun K15 hK15 => ?_
  have y2_5 : Ext W2 V1 := (Qaz.toExt y4 l5 (Rely.Ext.refl W2).size)
  have y2_6 : Ext W2 W6 := (Rely.Ext.trans y2_5 e6)
  have y2_7 : Ext W2 W7 := (Puts.ext p7 y2_6 (Nat.le_trans y2_5.size l14))
  refine Qc4 (fun (s0 : Value) => [(1, .pointer (some ⟨g2, 0, none⟩)), (4, .int .i64 ((i : Nat) : Int)), (5, .pointer (some ⟨g14, 0, none⟩)), (3, s0)]) (fun s0 W => OwnN .u8 5 W2.heap.size (QbM n ++ [byV ((ts.length : Nat) : Int) 0] ++ ((ts.take i).map stB).flatten ++ nd.key ++ [byV ((nd.rows.length : Nat) : Int) 0]) s0 W ∧ Qaz 5 W2.heap.size W7 W ∧ Ext W2 W) kj (fun W => Ext W2 W ∧ W.heap[g14]? = some (.cells (cat [ints .u8 (nd.key), #[.slice nd.a nd.rows.length nd.c]]) 129)) (fun W e => ⟨Rely.Ext.trans y2_7 e, Qar r14_7 e⟩) (fun WS eS => ?_) (fun u XX WJ hI => ?_)
  ·skip
   obtain ⟨W8, hWS⟩ : ∃ z, z = WS := ⟨_, rfl⟩
   rw [← hWS] at eS ⊢
   have e8 := eS
   have x8 : Ext w W8 := Ext.tr x7 e8
   refine Qat 0 (u) 28 rfl rfl kj kj (fun _ _ _ h => h) (fun W hR => by kernel_rfl) ?_
   refine Qat 1 (.pointer (some ⟨g14, 0, none⟩)) 29 rfl rfl kj kj (fun _ _ _ h => h) (fun W hR => by kernel_rfl) ?_
   refine Qat 2 (.slice (some ⟨g14, 0, none⟩) 32 32) 30 rfl rfl kj kj (fun _ _ _ h => h) (fun W hR => by kernel_rfl) ?_
   refine Qat 4 (.pointer (some ⟨g14, 32, none⟩)) 32 rfl rfl kj kj (fun _ _ _ h => h) (fun W hR => by kernel_rfl) ?_
   refine Qat 5 (.slice nd.a nd.rows.length nd.c) 33 rfl rfl kj kj (fun _ _ _ h => h) (fun W hR => (Qag 127 _ g14 32 129 _ (.slice nd.a nd.rows.length nd.c) _ hR.2 rfl kj (Qah [ints .u8 (nd.key)] [#[.slice nd.a nd.rows.length nd.c]] [] 32 ((Qac _ _).trans hel0nd.kl) 0 _ rfl) kj)) ?_
   refine Qat 6 (.int .i64 ((nd.rows.length : Nat) : Int)) 34 rfl rfl kj kj (fun _ _ _ h => h) (fun W hR => by kernel_rfl) ?_
   refine Qat 7 (.int .u8 (byV ((nd.rows.length : Nat) : Int) 0)) 35 rfl rfl kj kj (fun _ _ _ h => h) (fun W hR => (Qax (u := .int .u8 (IntKind.u8.wrap ((nd.rows.length : Nat) : Int))) kj (congrArg (Value.int .u8) (byV0 _)))) ?_
   refine Qc2 3 8 kj ?_ ?_
   ·skip
    have f16_6 := (hu.ext e6)
    have f17_7 := (f16_6.puts p7 (Qdl hu l14))
    have f18_8 := (f17_7.ext e8)
    have r14_8 := (Qar r14_7 e8)
    have y2_8 : Ext W2 W8 := (Rely.Ext.trans y2_7 e8)
    refine QaY (k := .u8) (T := 5) (xs := QbM n ++ [byV ((ts.length : Nat) : Int) 0] ++ ((ts.take i).map stB).flatten) (ys := nd.key) (V := W2) 1 (.tmp 28) (.tmp 30) 26 rfl kj kj (by decide) 31 rfl 3 rfl kj kj kj f18_8 (QaB 0 hel0nd.kl r14_8 (fun i hi => Qa8 [] [#[.slice nd.a nd.rows.length nd.c]] nd.key 0 i (0 + i) kj rfl (by rw [hel0nd.kl]; exact hi)) (Qay r14_8) (Nat.le_refl _) (by decide)) (by simp only [List.length_append, List.length_cons, List.length_nil]; have h1 := hb1 i (by omega); have h2 := hnb; have h3 : nd.key.length = 32 := hel0nd.kl; omega) y2_8 (fun _ e l => ⟨e, Qaz.row l r14_8 (by decide)⟩) fun z2 W9 f19 y9 l9 st9 => ?_
    have x9 : Ext w W9 := Qaz.toExt x8 l9 x2.size
    obtain ⟨ap2_, cp2_, rfl, -⟩ := id (OwnN.rd f19)
    refine QaJ 8 kj ?_
    have r14_9 := (Qaz.row l9 r14_8 (by decide))
    refine wo_run rfl (fun v W' => NewS W9.heap.size (ints .u8 ([(byV ((nd.rows.length : Nat) : Int) 0)])) 5 1 v W' ∧ Ext W9 W') 36 rfl kj ⟨_, _, (by kernel_rfl : _ = Result.ok (Next.value (.slice (some ⟨W9.heap.size, 0, none⟩) 1 1)) (W9.alloc (.cells (ints .u8 ([(byV ((nd.rows.length : Nat) : Int) 0)])) 5))), ⟨_, rfl, Nat.le_refl _, heap_alloc_new _ _⟩, Qbf _ _⟩ (fun _ _ h => ⟨Rely.Ext.trans y9 h.2, Qar r14_9 h.2⟩) fun vv21 W10 hh21 => ?_
    obtain ⟨⟨g22, rfl, l22, r22_10⟩, e10⟩ := hh21
    have x10 : Ext w W10 := Ext.tr x9 e10
    have b22 : w.heap.size ≤ g22 := Nat.le_trans x9.size l22
    have nb22 : (.slice ap2_ ((QbM n ++ [byV ((ts.length : Nat) : Int) 0] ++ ((ts.take i).map stB).flatten ++ nd.key).length) cp2_ : Value).ownBlock ≠ some g22 := fun q => by have := f19.lt q; omega
    refine QaJ 9 kj ?_
    have f23_10 := (f19.ext e10)
    have y2_10 : Ext W2 W10 := (Rely.Ext.trans y9 e10)
    have r14_10 := (Qar r14_9 e10)
    refine QaY (k := .u8) (T := 5) (xs := QbM n ++ [byV ((ts.length : Nat) : Int) 0] ++ ((ts.take i).map stB).flatten ++ nd.key) (ys := [(byV ((nd.rows.length : Nat) : Int) 0)]) (V := W2) 1 (.tmp 31) (.tmp 36) 26 rfl kj kj (by decide) 37 rfl 9 rfl kj kj kj f23_10 (Qbd (xs := [(byV ((nd.rows.length : Nat) : Int) 0)]) (n := 1) rfl r22_10 (Qay r22_10) (show 1 ≤ maxLen from by decide)) (by simp only [List.length_append, List.length_cons, List.length_nil]; have h1 := hb1 i (by omega); have h2 := hnb; have h3 : nd.key.length = 32 := hel0nd.kl; omega) y2_10 (fun _ e l => ⟨e, Qaz.row l r14_10 (by decide)⟩) fun z3 W11 f24 y11 l11 st11 => ?_
    have x11 : Ext w W11 := Qaz.toExt x10 l11 x2.size
    obtain ⟨ap3_, cp3_, rfl, -⟩ := id (OwnN.rd f24)
    refine Qat 10 (.slice ap3_ ((QbM n ++ [byV ((ts.length : Nat) : Int) 0] ++ ((ts.take i).map stB).flatten ++ nd.key ++ [(byV ((nd.rows.length : Nat) : Int) 0)]).length) cp3_) 3 rfl rfl kj kj (fun _ _ _ h => h) (fun W hR => by kernel_rfl) ?_
    exact Qcl kj (.slice ap3_ ((QbM n ++ [byV ((ts.length : Nat) : Int) 0] ++ ((ts.take i).map stB).flatten ++ nd.key ++ [(byV ((nd.rows.length : Nat) : Int) 0)]).length) cp3_) ⟨rfl, rfl, rfl, rfl, trivial⟩ ⟨f24, (Qaz.trans (Qaz.ext (Qaz.trans (Qaz.ext (Qaz.refl _ _ W7) e8) l9) e10) l11), y11⟩
   ·skip
    have y2_8 : Ext W2 W8 := (Rely.Ext.trans y2_7 e8)
    have r14_8 := (Qar r14_7 e8)
    have f26_6 := (hu.ext e6)
    have f27_7 := (f26_6.puts p7 (Qdl hu l14))
    have f28_8 := (f27_7.ext e8)
    refine wo_run rfl (fun v W' => NewS W8.heap.size (ints .u8 ([(byV ((nd.rows.length : Nat) : Int) 0)])) 5 1 v W' ∧ Ext W8 W') 36 rfl kj ⟨_, _, (by kernel_rfl : _ = Result.ok (Next.value (.slice (some ⟨W8.heap.size, 0, none⟩) 1 1)) (W8.alloc (.cells (ints .u8 ([(byV ((nd.rows.length : Nat) : Int) 0)])) 5))), ⟨_, rfl, Nat.le_refl _, heap_alloc_new _ _⟩, Qbf _ _⟩ (fun _ _ h => ⟨Rely.Ext.trans y2_8 h.2, Qar r14_8 h.2⟩) fun vv29 W9 hh29 => ?_
    obtain ⟨⟨g30, rfl, l30, r30_9⟩, e9⟩ := hh29
    have x9 : Ext w W9 := Ext.tr x8 e9
    have b30 : w.heap.size ≤ g30 := Nat.le_trans x8.size l30
    have nb30 : (u : Value).ownBlock ≠ some g30 := fun q => by have := f28_8.lt q; omega
    refine QaJ 3 kj ?_
    have f31_9 := (f28_8.ext e9)
    have r14_9 := (Qar r14_8 e9)
    have y2_9 : Ext W2 W9 := (Rely.Ext.trans y2_8 e9)
    refine QaY (k := .u8) (T := 5) (xs := QbM n ++ [byV ((ts.length : Nat) : Int) 0] ++ ((ts.take i).map stB).flatten) (ys := nd.key) (V := W2) 1 (.tmp 28) (.tmp 30) 26 rfl kj kj (by decide) 31 rfl 3 rfl kj kj kj f31_9 (QaB 0 hel0nd.kl r14_9 (fun i hi => Qa8 [] [#[.slice nd.a nd.rows.length nd.c]] nd.key 0 i (0 + i) kj rfl (by rw [hel0nd.kl]; exact hi)) (Qay r14_9) (Nat.le_refl _) (by decide)) (by simp only [List.length_append, List.length_cons, List.length_nil]; have h1 := hb1 i (by omega); have h2 := hnb; have h3 : nd.key.length = 32 := hel0nd.kl; omega) y2_9 (fun _ e l => ⟨e, Qaz.row l r14_9 (by decide)⟩) fun z4 W10 f32 y10 l10 st10 => ?_
    have x10 : Ext w W10 := Qaz.toExt x9 l10 x2.size
    have r30_10 := st10 _ _ _ r30_9 nb30
    obtain ⟨ap4_, cp4_, rfl, -⟩ := id (OwnN.rd f32)
    refine QaJ 9 kj ?_
    have r14_10 := (Qaz.row l10 r14_9 (by decide))
    refine QaY (k := .u8) (T := 5) (xs := QbM n ++ [byV ((ts.length : Nat) : Int) 0] ++ ((ts.take i).map stB).flatten ++ nd.key) (ys := [(byV ((nd.rows.length : Nat) : Int) 0)]) (V := W2) 1 (.tmp 31) (.tmp 36) 26 rfl kj kj (by decide) 37 rfl 9 rfl kj kj kj f32 (Qbd (xs := [(byV ((nd.rows.length : Nat) : Int) 0)]) (n := 1) rfl r30_10 (Qay r30_10) (show 1 ≤ maxLen from by decide)) (by simp only [List.length_append, List.length_cons, List.length_nil]; have h1 := hb1 i (by omega); have h2 := hnb; have h3 : nd.key.length = 32 := hel0nd.kl; omega) y10 (fun _ e l => ⟨e, Qaz.row l r14_10 (by decide)⟩) fun z5 W11 f34 y11 l11 st11 => ?_
    have x11 : Ext w W11 := Qaz.toExt x10 l11 x2.size
    obtain ⟨ap5_, cp5_, rfl, -⟩ := id (OwnN.rd f34)
    refine Qat 10 (.slice ap5_ ((QbM n ++ [byV ((ts.length : Nat) : Int) 0] ++ ((ts.take i).map stB).flatten ++ nd.key ++ [(byV ((nd.rows.length : Nat) : Int) 0)]).length) cp5_) 3 rfl rfl kj kj (fun _ _ _ h => h) (fun W hR => by kernel_rfl) ?_
    exact Qcl kj (.slice ap5_ ((QbM n ++ [byV ((ts.length : Nat) : Int) 0] ++ ((ts.take i).map stB).flatten ++ nd.key ++ [(byV ((nd.rows.length : Nat) : Int) 0)]).length) cp5_) ⟨rfl, rfl, rfl, rfl, trivial⟩ ⟨f34, (Qaz.trans (Qaz.trans (Qaz.ext (Qaz.ext (Qaz.refl _ _ W7) e8) e9) l10) l11), y11⟩
  obtain ⟨W8, hWJ⟩ : ∃ z, z = WJ := ⟨_, rfl⟩
  rw [← hWJ] at hI ⊢
  obtain ⟨hJ8, l8, y8⟩ := hI
  have x8 : Ext w W8 := Qaz.toExt x7 l8 x2.size
  obtain ⟨aJ8_, cJ8_, rfl, -⟩ := id (OwnN.rd hJ8)
  refine hK15 _ _ ?_
  refine wp_seq_k fun K36 hK36 => ?_
  refine Qae ?_
  refine Qab (.int .i64 0) 6 rfl kj kj ?_
  refine Qaf ?_
  refine hK36 _ _ ?_
  refine wp_block ?_
  refine QaP (fun (s2 : Nat × Value) => [(1, .pointer (some ⟨g2, 0, none⟩)), (3, s2.2), (4, .int .i64 ((i : Nat) : Int)), (5, .pointer (some ⟨g14, 0, none⟩)), (6, .int .i64 ((s2.1 : Nat) : Int))]) (fun (s2 : Nat × Value) W => (s2.1 ≤ nd.rows.length) ∧ (OwnN .u8 5 W2.heap.size (QbM n ++ [byV ((ts.length : Nat) : Int) 0] ++ ((ts.take i).map stB).flatten ++ nd.key ++ [byV ((nd.rows.length : Nat) : Int) 0] ++ ((nd.rows.take s2.1).map fun r => rowV r.xs).flatten) s2.2 W) ∧ (Qaz 5 W2.heap.size W8 W) ∧ (Ext w W)) (fun (s2 : Nat × Value) => nd.rows.length - s2.1) (0, .slice aJ8_ ((QbM n ++ [byV ((ts.length : Nat) : Int) 0] ++ ((ts.take i).map stB).flatten ++ nd.key ++ [byV ((nd.rows.length : Nat) : Int) 0]).length) cJ8_) ⟨rfl, rfl, rfl, rfl, rfl, trivial⟩ ⟨(Nat.zero_le _), (by rw [List.take_zero, List.map_nil, List.flatten_nil, List.append_nil]; exact hJ8), (Qaz.refl _ _ W8), x8⟩ fun s2 X2 V2 hI2 => ?_
  obtain ⟨j, u2⟩ := s2
  obtain ⟨hj, hu2, kk2, xx2⟩ := hI2
  replace hj : j ≤ nd.rows.length := hj
  replace hu2 : OwnN .u8 5 W2.heap.size (QbM n ++ [byV ((ts.length : Nat) : Int) 0] ++ ((ts.take i).map stB).flatten ++ nd.key ++ [byV ((nd.rows.length : Nat) : Int) 0] ++ ((nd.rows.take j).map fun r => rowV r.xs).flatten) u2 V2 := hu2
  replace kk2 : Qaz 5 W2.heap.size W8 V2 := kk2
  replace xx2 : Ext w V2 := xx2
  have l9 := kk2
  refine wp_seq_k fun K37 hK37 => ?_
  refine wp_seq_k fun K38 hK38 => ?_
  refine Qae ?_
  refine Qab (.int .i64 ((j : Nat) : Int)) 38 rfl kj kj ?_
  refine Qab (.pointer (some ⟨g14, 32, none⟩)) 39 rfl kj kj ?_
  have r14_8 := (Qaz.row l8 r14_7 (by decide))
  have r14_9 := (Qaz.row l9 r14_8 (by decide))
  refine Qab (.slice nd.a nd.rows.length nd.c) 40 rfl kj (Qag 127 _ g14 32 129 _ (.slice nd.a nd.rows.length nd.c) _ r14_9 rfl kj (Qah [ints .u8 (nd.key)] [#[.slice nd.a nd.rows.length nd.c]] [] 32 ((Qac _ _).trans hel0nd.kl) 0 _ rfl) kj) ?_
  refine Qab (.int .i64 ((nd.rows.length : Nat) : Int)) 41 rfl kj kj ?_
  refine Qab (.bool (decide (((j : Nat) : Int) < ((nd.rows.length : Nat) : Int)))) 42 rfl kj kj ?_
  refine Qaf ?_
  refine hK38 _ _ ?_
  refine Qa5 (t := decide (((j : Nat) : Int) < ((nd.rows.length : Nat) : Int))) kj (fun c39 => ?_) (fun c39 => ?_)
  ·skip
   have hlt42 : j < nd.rows.length := by have := of_decide_eq_true c39; omega
   have hel0nr := helsR0 j (by omega)
   have hmemnr := Qb3 nd.rows rw0 j (by omega)
   obtain ⟨nr, hndnr⟩ : ∃ z, z = nd.rows.getD j rw0 := ⟨_, rfl⟩
   rw [← hndnr] at hel0nr hmemnr
   refine wp_skip ?_
   refine hK37 _ _ ?_
   refine wp_seq_k fun K40 hK40 => ?_
   refine wp_block ?_
   refine Qae ?_
   refine Qab (u2) 45 rfl kj kj ?_
   refine Qab (.pointer (some ⟨g14, 32, none⟩)) 46 rfl kj kj ?_
   refine Qab (.slice nd.a nd.rows.length nd.c) 47 rfl kj (Qag 127 _ g14 32 129 _ (.slice nd.a nd.rows.length nd.c) _ r14_9 rfl kj (Qah [ints .u8 (nd.key)] [#[.slice nd.a nd.rows.length nd.c]] [] 32 ((Qac _ _).trans hel0nd.kl) 0 _ rfl) kj) ?_
   refine Qab (.int .i64 ((j : Nat) : Int)) 48 rfl kj kj ?_
   refine Qab (.pointer (some ⟨gR, oR + j * 1, none⟩)) 49 rfl kj (Qbc 127 _ _ .i64 j gR oR nd.rows.length nd.c 26 1 nd.a (haR (by omega)) rfl kj kj kj kj (by omega)) ?_
   refine Qab (.slice nr.a nr.xs.length nr.c) 50 rfl kj (QbG 26 _ gR (oR + j * 1) _ (rwK.keep hel0nr xx2.size (fun k _ hl => xx2.block k hl)).cell rfl kj kj) ?_
   refine Qak (fun v W' => (OwnN .u8 5 V2.heap.size (rowV nr.xs)) v W' ∧ Ext V2 W') 78 #[.slice nr.a nr.xs.length nr.c] 51 rfl kj kj ((Qjn nr.xs _ _ _ (Nat.le_trans ((hrs nd hmemnd).2 nr hmemnr) (by decide)) (RdK.ext hel0nr.rd xx2)).mono (by rintro e w' ⟨v, rfl, e1, hv⟩; exact ⟨v, rfl, hv, e1⟩)) fun vv41 W10 hh41 => ?_
   obtain ⟨hv41, e10⟩ := hh41
   have x10 : Ext w W10 := Ext.tr xx2 e10
   obtain ⟨arw_, crw_, rfl, -⟩ := id (OwnN.rd hv41)
   have f42_10 := (hu2.ext e10)
   have y2_9 : Ext W2 V2 := (Qaz.toExt y8 l9 (Rely.Ext.refl W2).size)
   have y2_10 : Ext W2 W10 := (Rely.Ext.trans y2_9 e10)
   refine Qce (k := .u8) (T := 5) (xs := QbM n ++ [byV ((ts.length : Nat) : Int) 0] ++ ((ts.take i).map stB).flatten ++ nd.key ++ [byV ((nd.rows.length : Nat) : Int) 0] ++ ((nd.rows.take j).map fun r => rowV r.xs).flatten) (ys := rowV nr.xs) (V := W2) 1 (.tmp 45) (.tmp 51) 26 rfl kj kj (by decide) 52 rfl kj kj kj f42_10 (OwnN.rd hv41) (by simp only [List.length_append, List.length_cons, List.length_nil]; have h1 := hb1 i (by omega); have h2 := hnb; have h3 : nd.key.length = 32 := hel0nd.kl; have h4 := hb2 nd hmemnd j; have h5 : (rowV nr.xs).length ≤ 65537 := by { have h6 := (hrs nd hmemnd).2 nr hmemnr; rw [Qee]; omega }; omega) y2_10 fun z6 W11 f43 y11 l11 => ?_
   have x11 : Ext w W11 := Qaz.toExt x10 l11 x2.size
   obtain ⟨ap6_, cp6_, rfl, -⟩ := id (OwnN.rd f43)
   refine Qab (.slice ap6_ ((QbM n ++ [byV ((ts.length : Nat) : Int) 0] ++ ((ts.take i).map stB).flatten ++ nd.key ++ [byV ((nd.rows.length : Nat) : Int) 0] ++ ((nd.rows.take j).map fun r => rowV r.xs).flatten ++ rowV nr.xs).length) cp6_) 3 rfl kj kj ?_
   refine Qaf ?_
   refine hK40 _ _ ?_
   refine Qae ?_
   refine Qab (.int .i64 ((j : Nat) : Int)) 43 rfl kj kj ?_
   refine Qab (.int .i64 ((j + 1 : Nat) : Int)) 44 rfl kj (Qax (u := .int .i64 (IntKind.i64.wrap (((j : Nat) : Int) + 1))) kj (congrArg (Value.int .i64) (i64n _ _ (by omega) (by omega)))) ?_
   refine Qab (.int .i64 ((j + 1 : Nat) : Int)) 6 rfl kj kj ?_
   refine Qaf ?_
   repeat (first | with_reducible refine goX1 ?_ | with_reducible refine goX2 ?_ | with_reducible refine goX3 ?_)
   exact QaK ((j + 1), .slice ap6_ ((QbM n ++ [byV ((ts.length : Nat) : Int) 0] ++ ((ts.take i).map stB).flatten ++ nd.key ++ [byV ((nd.rows.length : Nat) : Int) 0] ++ ((nd.rows.take j).map fun r => rowV r.xs).flatten ++ rowV nr.xs).length) cp6_) ⟨rfl, rfl, rfl, rfl, rfl, trivial⟩ ⟨(by omega), (by rw [QcT (fun r : RwV => rowV r.xs) nd.rows rw0 j hlt42, ← hndnr]; exact f43), (Qaz.trans (Qaz.ext l9 e10) l11), x11⟩ (by omega)
  ·skip
   have heq42 : j = nd.rows.length := by have := of_decide_eq_false c39; omega
   refine wp_exit ?_
   refine hK12 _ _ ?_
   refine Qae ?_
   refine Qab (.int .i64 ((i : Nat) : Int)) 21 rfl kj kj ?_
   refine Qab (.int .i64 ((i + 1 : Nat) : Int)) 22 rfl kj (Qax (u := .int .i64 (IntKind.i64.wrap (((i : Nat) : Int) + 1))) kj (congrArg (Value.int .i64) (i64n _ _ (by omega) (by omega)))) ?_
   refine Qab (.int .i64 ((i + 1 : Nat) : Int)) 4 rfl kj kj ?_
   refine Qaf ?_
   repeat (first | with_reducible refine goX1 ?_ | with_reducible refine goX2 ?_ | with_reducible refine goX3 ?_)
   exact QaK ((i + 1), u2) ⟨rfl, rfl, rfl, trivial⟩ ⟨(by omega), (by have h7 := hu2; rw [heq42, List.take_length] at h7; rw [QcT stB ts st0 i hlt20, ← hndnd]; unfold stB; rw [← List.append_assoc, ← List.append_assoc]; exact h7), (Qaz.trans (Qaz.trans (Qaz.put (Qaz.ext l5 e6) p7 (Nat.le_trans l5.size (Nat.le_trans (Nat.le_refl _) l14))) l8) l9), xx2⟩ (by omega)
 ·skip
  have heq20 : i = ts.length := by have := of_decide_eq_false c11; omega
  refine wp_exit ?_
  refine hK7 _ _ ?_
  refine wp_seq_k fun K45 hK45 => ?_
  refine Qae ?_
  refine Qab (u) 53 rfl kj kj ?_
  refine Qab (u) 2 rfl kj kj ?_
  refine Qaf ?_
  refine hK45 _ _ ?_
  refine wp_ret ?_
  repeat (first | with_reducible refine goR1 ?_ | with_reducible refine goR2 ?_)
  exact (show bodyPost _ _ _ .ret _ _ from ret1 (u) rfl (Qaw kj) ⟨_, rfl, xx1, OwnN.base x2.size (show OwnN .u8 5 _ (Qb9 n ts) _ _ by have h7 := hu; rw [heq20, List.take_length] at h7; exact h7)⟩)
end Go.Proofs.Ytfelfmchachljaa.Wr
end
