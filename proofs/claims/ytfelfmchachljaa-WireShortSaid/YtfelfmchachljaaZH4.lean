/- Texts of this claim, joined (H4). -/
import Derived.Test.YtfelfmchachljaaZH3
import Derived.Lib.SmallJoins
import Derived.Lib.LaidTab
import Derived.Deep.Strs

section
namespace Go.Proofs.Ytfelfmchachljaa.Wr
open Go Go.RowKit
open Rely Auto Own Sha
set_option linter.unusedVariables false
set_option linter.unusedSimpArgs false
theorem Qe3 (grp : List Int) (ep fr : Int) (bas : List Int) (kd : Int) (us : Bool) (nm : Int) (key sg pa ms start : List Int) (at_ : Int) (sig : List Int) (hrb : Qao grp) (hab : Qao bas) (hkb : Qao key) (hgb : Qao sg) (hpb : Qao pa) (htb : Qao start) (hib : Qao sig) : Qao (Qdl grp ep fr bas kd us nm key sg pa ms start at_ sig) := by
  have nil : Qao ([] : List Int) := fun x hx => by cases hx
  unfold Qdl Qci
  refine Qa3 (Qa3 (Qa3 (Qa3 (Qa3 (Qa3 (Qa3 (Qa3 hrb (QaT ep 4)) (QaT fr 1)) hab) (QaT kd 1)) ?_) ?_) ?_) hib
  · split
    · exact nil
    · exact Qdt us nm key sg pa ms hkb hgb hpb
  · split
    · exact htb
    · exact nil
  · split
    · exact QaT at_ 1
    · exact nil
theorem Qc8 {α : Type} (f : α → List Int) (ts : List α) (h : ∀ t ∈ ts, Qao (f t)) : Qao (ts.map f).flatten := fun x hx => by
  obtain ⟨l, hl, hxl⟩ := List.mem_flatten.1 hx
  obtain ⟨n, hn, rfl⟩ := List.mem_map.1 hl
  exact h n hn x hxl
theorem QgB {α : Type} {El : Nat → World → Nat → Nat → α → Prop} {sz : Nat} {d : α} {B : Nat} {w : World} {a : Option Addr} {ts : List α} (h : LsAt El sz d B w a ts) : ∀ t ∈ ts, ∃ g o, El B w g o t := fun t ht => by
  obtain ⟨g, o, -, h2⟩ := h
  obtain ⟨i, hi, e⟩ := List.mem_iff_getElem.1 ht
  have h3 := h2 i hi
  rw [List.getD_eq_getElem?_getD, List.getElem?_eq_getElem hi] at h3
  rw [← e]; exact ⟨_, _, h3⟩
theorem Qfq (grp : List Int) (ep fr : Int) (bas : List Int) (ps : List PrV) (n : NdC) (ts : List StV) (tag sig : List Int) (a_p : Option Addr) (c_p : Nat) (a_m : Option Addr) (c_m : Nat) (a_t : Option Addr) (c_t : Nat) (w : World) (ho : CmOk grp bas n tag sig) (hcm : CmAt w.heap.size w ps a_p n a_m c_m ts a_t) : Qao (QdO grp ep fr bas ps n ts tag sig) := by
  unfold QdO Qci Qcq
  refine Qa3 (Qa3 (Qa3 (Qa3 (Qa3 (Qa3 (Qa3 (Qa3 ho.rb (QaT ep 4)) (QaT fr 1)) ho.ab) (QaT _ 1)) ?_) (Qa3 (Qa3 ?_ (QaT _ 1)) ?_)) ho.gb) ho.ib
  · refine Qc8 Qc3 ps fun p hp => ?_
    have hok := QeQ hcm.ps p hp
    exact Qe3 _ _ _ _ _ _ _ _ _ _ _ _ _ _ hok.rb hok.ab hok.n.kb hok.n.gb hok.n.pb hok.tb hok.ib
  · exact Qdt _ _ _ _ _ _ ho.n.kb ho.n.gb ho.n.pb
  · refine Qc8 stB ts fun t ht => ?_
    obtain ⟨g, o, hst⟩ := QgB hcm.ts t ht
    unfold stB
    refine Qa3 (Qa3 hst.kb (QaT _ 1)) (Qc8 _ t.rows fun r hr => ?_)
    obtain ⟨g2, o2, hrw⟩ := QgB hst.rows r hr
    exact Qa3 (QaT _ 2) hrw.by_
def stQ (t : StV) : List Int × List (List Int) := (t.key, t.rows.map RwV.xs)
theorem QgC {α β : Type} (q : α → β) (ts us : List α) (h : us.map q = ts.map q) : us.length = ts.length := by
  have := congrArg List.length h
  rwa [List.length_map, List.length_map] at this
theorem QgA {α β : Type} (q : α → β) (ts us : List α) (h : us.map q = ts.map q) (x : α) (hx : x ∈ us) : ∃ y ∈ ts, q y = q x := by
  have : q x ∈ ts.map q := by rw [← h]; exact List.mem_map.2 ⟨x, hx, rfl⟩
  exact List.mem_map.1 this
theorem CmSz.same {ps qs : List PrV} {n : NdC} {ts us : List StV} (hz : CmSz ps n ts) (hp : qs.map PrV.p = ps.map PrV.p) (ht : us.map stQ = ts.map stQ) : CmSz qs n us :=
  ⟨by rw [QgC _ _ _ hp]; exact hz.pn, fun p hm => by
    obtain ⟨y, hy, e⟩ := QgA _ _ _ hp p hm
    rw [← e]; exact hz.pm y hy, hz.nm, by rw [QgC _ _ _ ht]; exact hz.tn, fun t hm => by
    obtain ⟨y, hy, e⟩ := QgA _ _ _ ht t hm
    have e2 := congrArg (fun q : List Int × List (List Int) => q.2.length) e
    simp only [stQ, List.length_map] at e2
    exact ⟨by rw [← e2]; exact (hz.tr y hy).1, fun _ _ => trivial⟩⟩
set_option maxHeartbeats 4000000 in
set_option maxRecDepth 100000 in
theorem Qie (n : NdC) (ts : List StV) (a_m : Option Addr) (c_m : Nat) (a_t : Option Addr) (c_t : Nat) (w : World) (hn : NdOk n) (hm : RdK .i64 w.heap.size n.ms (.slice a_m n.ms.length c_m) w) (hls : LsAt StAt 33 st0 w.heap.size w a_t ts) (h1 : 100 ≤ n.ms.length) : Calls Try.prog 24 #[.agg (cat [#[.bool n.us], #[.int .i64 n.nm], ints .u8 (n.key), ints .u8 (n.sg), ints .u8 (n.pa), #[.slice a_m n.ms.length c_m], #[.slice a_t ts.length c_t]])] w (fun e W => ∃ v, e = .returned v ∧ Ext w W ∧ ∃ b, v = .bool b ∧ (b = true → n.ms.length < 100 ∧ ts.length ≤ 10 ∧ ∀ j, j < ts.length → (ts.getD j st0).rows.length ≤ 300)) := by
  refine enter 45 [(0, .agg (cat [#[.bool n.us], #[.int .i64 n.nm], ints .u8 (n.key), ints .u8 (n.sg), ints .u8 (n.pa), #[.slice a_m n.ms.length c_m], #[.slice a_t ts.length c_t]]))] Try.func24 rfl rfl kj rfl ?_
  refine wp_seq_k fun K1 hK1 => ?_
  refine Qae ?_
  refine Qar (cat [#[.bool n.us], #[.int .i64 n.nm], ints .u8 (n.key), ints .u8 (n.sg), ints .u8 (n.pa), #[.slice a_m n.ms.length c_m], #[.slice a_t ts.length c_t]]) 57 1 rfl kj kj fun g2 W1 l2 e1 r2_1 => ?_
  have x1 : Ext w W1 := Ext.tr (Rely.Ext.refl w) e1
  have b2 : w.heap.size ≤ g2 := Nat.le_trans (Rely.Ext.refl w).size l2
  refine Qab (.bool false) 2 rfl kj kj ?_
  refine Qaf ?_
  refine hK1 _ _ ?_
  refine wp_seq_k fun K3 hK3 => ?_
  refine wp_seq_k fun K4 hK4 => ?_
  refine Qae ?_
  refine Qab (.pointer (some ⟨g2, 0, none⟩)) 7 rfl kj kj ?_
  refine Qab (.agg (cat [#[.bool n.us], #[.int .i64 n.nm], ints .u8 (n.key), ints .u8 (n.sg), ints .u8 (n.pa), #[.slice a_m n.ms.length c_m]])) 8 rfl kj (Qay 43 _ g2 0 57 _ _ _ r2_1 rfl kj (Qaq [] [#[.bool n.us], #[.int .i64 n.nm], ints .u8 (n.key), ints .u8 (n.sg), ints .u8 (n.pa), #[.slice a_m n.ms.length c_m]] [#[.slice a_t ts.length c_t]] 0 kj) kj (isz (n := 99) kj (by rw [Qaa, Qaa, Qaa, Qaa, Qaa, Qaa]; simp only [Array.size_append, cat, ((Qad _ _).trans hn.gl), ((Qad _ _).trans hn.kl), ((Qad _ _).trans hn.pl)]; rfl))) ?_
  refine Qa8 (.bool false) 20 #[.agg (cat [#[.bool n.us], #[.int .i64 n.nm], ints .u8 (n.key), ints .u8 (n.sg), ints .u8 (n.pa), #[.slice a_m n.ms.length c_m]])] 9 rfl kj kj (QeT n.us n.nm n.key n.sg n.pa n.ms _ _ _ hn.kl hn.gl hn.pl h1) fun W2 e2 => ?_
  have x2 : Ext w W2 := Ext.tr x1 e2
  refine Qab (.bool true) 10 rfl kj kj ?_
  refine Qab (.bool true) 11 rfl kj kj ?_
  refine Qas 12 rfl kj ?_
  refine Qas 13 rfl kj ?_
  refine Qas 14 rfl kj ?_
  refine Qas 15 rfl kj ?_
  refine Qab (.bool true) 16 rfl kj kj ?_
  refine Qaf ?_
  refine hK4 _ _ ?_
  refine cond_true kj ?_
  refine wp_seq_k fun K5 hK5 => ?_
  refine Qae ?_
  refine Qab (.bool false) 2 rfl kj kj ?_
  refine Qaf ?_
  refine hK5 _ _ ?_
  refine wp_ret ?_
  repeat (first | with_reducible refine goR1 ?_ | with_reducible refine goR2 ?_)
  exact (show bodyPost _ _ _ .ret _ _ from ret1 (.bool false) rfl (Qa1 kj) ⟨_, rfl, x2, _, rfl, fun h => by cases h⟩)
set_option maxHeartbeats 4000000 in
set_option maxRecDepth 100000 in
theorem Qid (n : NdC) (ts : List StV) (a_m : Option Addr) (c_m : Nat) (a_t : Option Addr) (c_t : Nat) (w : World) (hn : NdOk n) (hm : RdK .i64 w.heap.size n.ms (.slice a_m n.ms.length c_m) w) (hls : LsAt StAt 33 st0 w.heap.size w a_t ts) (h1 : n.ms.length < 100) (h2 : 10 < ts.length) : Calls Try.prog 24 #[.agg (cat [#[.bool n.us], #[.int .i64 n.nm], ints .u8 (n.key), ints .u8 (n.sg), ints .u8 (n.pa), #[.slice a_m n.ms.length c_m], #[.slice a_t ts.length c_t]])] w (fun e W => ∃ v, e = .returned v ∧ Ext w W ∧ ∃ b, v = .bool b ∧ (b = true → n.ms.length < 100 ∧ ts.length ≤ 10 ∧ ∀ j, j < ts.length → (ts.getD j st0).rows.length ≤ 300)) := by
  refine enter 45 [(0, .agg (cat [#[.bool n.us], #[.int .i64 n.nm], ints .u8 (n.key), ints .u8 (n.sg), ints .u8 (n.pa), #[.slice a_m n.ms.length c_m], #[.slice a_t ts.length c_t]]))] Try.func24 rfl rfl kj rfl ?_
  refine wp_seq_k fun K1 hK1 => ?_
  refine Qae ?_
  refine Qar (cat [#[.bool n.us], #[.int .i64 n.nm], ints .u8 (n.key), ints .u8 (n.sg), ints .u8 (n.pa), #[.slice a_m n.ms.length c_m], #[.slice a_t ts.length c_t]]) 57 1 rfl kj kj fun g2 W1 l2 e1 r2_1 => ?_
  have x1 : Ext w W1 := Ext.tr (Rely.Ext.refl w) e1
  have b2 : w.heap.size ≤ g2 := Nat.le_trans (Rely.Ext.refl w).size l2
  refine Qab (.bool false) 2 rfl kj kj ?_
  refine Qaf ?_
  refine hK1 _ _ ?_
  refine wp_seq_k fun K3 hK3 => ?_
  refine wp_seq_k fun K4 hK4 => ?_
  refine Qae ?_
  refine Qab (.pointer (some ⟨g2, 0, none⟩)) 7 rfl kj kj ?_
  refine Qab (.agg (cat [#[.bool n.us], #[.int .i64 n.nm], ints .u8 (n.key), ints .u8 (n.sg), ints .u8 (n.pa), #[.slice a_m n.ms.length c_m]])) 8 rfl kj (Qay 43 _ g2 0 57 _ _ _ r2_1 rfl kj (Qaq [] [#[.bool n.us], #[.int .i64 n.nm], ints .u8 (n.key), ints .u8 (n.sg), ints .u8 (n.pa), #[.slice a_m n.ms.length c_m]] [#[.slice a_t ts.length c_t]] 0 kj) kj (isz (n := 99) kj (by rw [Qaa, Qaa, Qaa, Qaa, Qaa, Qaa]; simp only [Array.size_append, cat, ((Qad _ _).trans hn.gl), ((Qad _ _).trans hn.kl), ((Qad _ _).trans hn.pl)]; rfl))) ?_
  refine Qa8 (.bool true) 20 #[.agg (cat [#[.bool n.us], #[.int .i64 n.nm], ints .u8 (n.key), ints .u8 (n.sg), ints .u8 (n.pa), #[.slice a_m n.ms.length c_m]])] 9 rfl kj kj (QdF n.us n.nm n.key n.sg n.pa n.ms _ _ _ hn.kl hn.gl hn.pl h1) fun W2 e2 => ?_
  have x2 : Ext w W2 := Ext.tr x1 e2
  refine Qab (.bool false) 10 rfl kj kj ?_
  refine Qab (.bool false) 11 rfl kj kj ?_
  refine Qab (.pointer (some ⟨g2, 99, none⟩)) 12 rfl kj kj ?_
  have r2_2 := (Qau r2_1 e2)
  refine Qab (.slice a_t ts.length c_t) 13 rfl kj (Qal 55 _ g2 99 57 _ (.slice a_t ts.length c_t) _ r2_2 rfl kj (Qaq [#[.bool n.us], #[.int .i64 n.nm], ints .u8 (n.key), ints .u8 (n.sg), ints .u8 (n.pa), #[.slice a_m n.ms.length c_m]] [#[.slice a_t ts.length c_t]] [] 99 (by rw [Qaa, Qaa, Qaa, Qaa, Qaa, Qaa]; simp only [Array.size_append, cat, ((Qad _ _).trans hn.gl), ((Qad _ _).trans hn.kl), ((Qad _ _).trans hn.pl)]; rfl) 0 _ rfl) kj) ?_
  refine Qab (.int .i64 ((ts.length : Nat) : Int)) 14 rfl kj kj ?_
  refine Qab (.bool true) 15 rfl kj (Qa0 (u := .bool (decide (((ts.length : Nat) : Int) > 10))) kj (congrArg Value.bool (decide_eq_true (by omega)))) ?_
  refine Qab (.bool true) 16 rfl kj kj ?_
  refine Qaf ?_
  refine hK4 _ _ ?_
  refine cond_true kj ?_
  refine wp_seq_k fun K5 hK5 => ?_
  refine Qae ?_
  refine Qab (.bool false) 2 rfl kj kj ?_
  refine Qaf ?_
  refine hK5 _ _ ?_
  refine wp_ret ?_
  repeat (first | with_reducible refine goR1 ?_ | with_reducible refine goR2 ?_)
  exact (show bodyPost _ _ _ .ret _ _ from ret1 (.bool false) rfl (Qa1 kj) ⟨_, rfl, x2, _, rfl, fun h => by cases h⟩)
set_option maxHeartbeats 4000000 in
set_option maxRecDepth 100000 in
theorem Qic (n : NdC) (ts : List StV) (a_m : Option Addr) (c_m : Nat) (a_t : Option Addr) (c_t : Nat) (w : World) (hn : NdOk n) (hm : RdK .i64 w.heap.size n.ms (.slice a_m n.ms.length c_m) w) (hls : LsAt StAt 33 st0 w.heap.size w a_t ts) (h1 : n.ms.length < 100) (h2 : ts.length ≤ 10) : Calls Try.prog 24 #[.agg (cat [#[.bool n.us], #[.int .i64 n.nm], ints .u8 (n.key), ints .u8 (n.sg), ints .u8 (n.pa), #[.slice a_m n.ms.length c_m], #[.slice a_t ts.length c_t]])] w (fun e W => ∃ v, e = .returned v ∧ Ext w W ∧ ∃ b, v = .bool b ∧ (b = true → n.ms.length < 100 ∧ ts.length ≤ 10 ∧ ∀ j, j < ts.length → (ts.getD j st0).rows.length ≤ 300)) := by
 refine enter 45 [(0, .agg (cat [#[.bool n.us], #[.int .i64 n.nm], ints .u8 (n.key), ints .u8 (n.sg), ints .u8 (n.pa), #[.slice a_m n.ms.length c_m], #[.slice a_t ts.length c_t]]))] Try.func24 rfl rfl kj rfl ?_
 refine wp_seq_k fun K1 hK1 => ?_
 refine Qae ?_
 refine Qar (cat [#[.bool n.us], #[.int .i64 n.nm], ints .u8 (n.key), ints .u8 (n.sg), ints .u8 (n.pa), #[.slice a_m n.ms.length c_m], #[.slice a_t ts.length c_t]]) 57 1 rfl kj kj fun g2 W1 l2 e1 r2_1 => ?_
 have x1 : Ext w W1 := Ext.tr (Rely.Ext.refl w) e1
 have b2 : w.heap.size ≤ g2 := Nat.le_trans (Rely.Ext.refl w).size l2
 refine Qab (.bool false) 2 rfl kj kj ?_
 refine Qaf ?_
 refine hK1 _ _ ?_
 refine wp_seq_k fun K3 hK3 => ?_
 refine wp_seq_k fun K4 hK4 => ?_
 refine Qae ?_
 refine Qab (.pointer (some ⟨g2, 0, none⟩)) 7 rfl kj kj ?_
 refine Qab (.agg (cat [#[.bool n.us], #[.int .i64 n.nm], ints .u8 (n.key), ints .u8 (n.sg), ints .u8 (n.pa), #[.slice a_m n.ms.length c_m]])) 8 rfl kj (Qay 43 _ g2 0 57 _ _ _ r2_1 rfl kj (Qaq [] [#[.bool n.us], #[.int .i64 n.nm], ints .u8 (n.key), ints .u8 (n.sg), ints .u8 (n.pa), #[.slice a_m n.ms.length c_m]] [#[.slice a_t ts.length c_t]] 0 kj) kj (isz (n := 99) kj (by rw [Qaa, Qaa, Qaa, Qaa, Qaa, Qaa]; simp only [Array.size_append, cat, ((Qad _ _).trans hn.gl), ((Qad _ _).trans hn.kl), ((Qad _ _).trans hn.pl)]; rfl))) ?_
 refine Qa8 (.bool true) 20 #[.agg (cat [#[.bool n.us], #[.int .i64 n.nm], ints .u8 (n.key), ints .u8 (n.sg), ints .u8 (n.pa), #[.slice a_m n.ms.length c_m]])] 9 rfl kj kj (QdF n.us n.nm n.key n.sg n.pa n.ms _ _ _ hn.kl hn.gl hn.pl h1) fun W2 e2 => ?_
 have x2 : Ext w W2 := Ext.tr x1 e2
 refine Qab (.bool false) 10 rfl kj kj ?_
 refine Qab (.bool false) 11 rfl kj kj ?_
 refine Qab (.pointer (some ⟨g2, 99, none⟩)) 12 rfl kj kj ?_
 have r2_2 := (Qau r2_1 e2)
 refine Qab (.slice a_t ts.length c_t) 13 rfl kj (Qal 55 _ g2 99 57 _ (.slice a_t ts.length c_t) _ r2_2 rfl kj (Qaq [#[.bool n.us], #[.int .i64 n.nm], ints .u8 (n.key), ints .u8 (n.sg), ints .u8 (n.pa), #[.slice a_m n.ms.length c_m]] [#[.slice a_t ts.length c_t]] [] 99 (by rw [Qaa, Qaa, Qaa, Qaa, Qaa, Qaa]; simp only [Array.size_append, cat, ((Qad _ _).trans hn.gl), ((Qad _ _).trans hn.kl), ((Qad _ _).trans hn.pl)]; rfl) 0 _ rfl) kj) ?_
 refine Qab (.int .i64 ((ts.length : Nat) : Int)) 14 rfl kj kj ?_
 refine Qab (.bool false) 15 rfl kj (Qa0 (u := .bool (decide (((ts.length : Nat) : Int) > 10))) kj (congrArg Value.bool (decide_eq_false (by omega)))) ?_
 refine Qab (.bool false) 16 rfl kj kj ?_
 refine Qaf ?_
 refine hK4 _ _ ?_
 refine cond_false kj ?_
 refine wp_skip ?_
 refine hK3 _ _ ?_
 refine wp_seq_k fun K5 hK5 => ?_
 refine wp_seq_k fun K6 hK6 => ?_
 refine Qae ?_
 refine Qab (.pointer (some ⟨g2, 99, none⟩)) 17 rfl kj kj ?_
 refine Qab (.slice a_t ts.length c_t) 18 rfl kj (Qal 55 _ g2 99 57 _ (.slice a_t ts.length c_t) _ r2_2 rfl kj (Qaq [#[.bool n.us], #[.int .i64 n.nm], ints .u8 (n.key), ints .u8 (n.sg), ints .u8 (n.pa), #[.slice a_m n.ms.length c_m]] [#[.slice a_t ts.length c_t]] [] 99 (by rw [Qaa, Qaa, Qaa, Qaa, Qaa, Qaa]; simp only [Array.size_append, cat, ((Qad _ _).trans hn.gl), ((Qad _ _).trans hn.kl), ((Qad _ _).trans hn.pl)]; rfl) 0 _ rfl) kj) ?_
 refine Qab (.int .i64 ((ts.length : Nat) : Int)) 19 rfl kj kj ?_
 refine Qab (.int .i64 0) 20 rfl kj kj ?_
 refine Qaf ?_
 refine hK6 _ _ ?_
 refine wp_block ?_
 refine QaX (fun (s1 : Nat) => [(1, .pointer (some ⟨g2, 0, none⟩)), (18, .slice a_t ts.length c_t), (19, .int .i64 ((ts.length : Nat) : Int)), (20, .int .i64 ((s1 : Nat) : Int))]) (fun (s1 : Nat) W => (s1 ≤ ts.length) ∧ (∀ j, j < s1 → (ts.getD j st0).rows.length ≤ 300) ∧ (Ext W2 W) ∧ (Ext w W)) (fun (s1 : Nat) => ts.length - s1) 0 ⟨rfl, rfl, rfl, rfl, trivial⟩ ⟨(Nat.zero_le _), (fun j hj => absurd hj (Nat.not_lt_zero _)), (Rely.Ext.refl W2), x2⟩ fun s1 X1 V1 hI1 => ?_
 obtain ⟨i, hs1⟩ : ∃ z, z = s1 := ⟨_, rfl⟩
 subst hs1
 obtain ⟨hi, hr, kk1, xx1⟩ := hI1
 replace hi : i ≤ ts.length := hi
 replace hr : ∀ j, j < i → (ts.getD j st0).rows.length ≤ 300 := hr
 replace kk1 : Ext W2 V1 := kk1
 replace xx1 : Ext w V1 := xx1
 have e3 := kk1
 refine wp_seq_k fun K7 hK7 => ?_
 refine Qae ?_
 refine Qab (.bool (decide (((i : Nat) : Int) < ((ts.length : Nat) : Int)))) 21 rfl kj kj ?_
 refine Qaf ?_
 refine hK7 _ _ ?_
 refine wp_seq_k fun K8 hK8 => ?_
 refine Qa7 (t := decide (((i : Nat) : Int) < ((ts.length : Nat) : Int))) kj (fun c9 => ?_) (fun c9 => ?_)
 ·skip
  have hlt21 : i < ts.length := by have := of_decide_eq_true c9; omega
  refine wp_skip ?_
  refine hK8 _ _ ?_
  refine wp_seq_k fun K10 hK10 => ?_
  refine wp_block ?_
  refine wp_seq_k fun K11 hK11 => ?_
  refine Qae ?_
  obtain ⟨gTnd, oTnd, hatnd, helsnd⟩ := (LsAt.ext stK hls xx1)
  have helnd := helsnd i (by omega)
  obtain ⟨_, _, -, hels0nd⟩ := id hls
  have hel0nd := hels0nd i (by omega)
  have hmemnd := QbI ts st0 i (by omega)
  obtain ⟨nd, hndnd⟩ : ∃ z, z = ts.getD i st0 := ⟨_, rfl⟩
  rw [← hndnd] at helnd hel0nd hmemnd
  refine Qab (.pointer (some ⟨gTnd, oTnd + i * 33, none⟩)) 22 rfl kj (Qb2 55 _ _ .i64 i gTnd oTnd ts.length c_t 129 33 a_t (hatnd (by omega)) rfl kj kj kj kj (by omega)) ?_
  obtain ⟨u0nd, hu0nd⟩ := QhE nd helnd.kl
  refine Qab (.agg (cat [ints .u8 (nd.key), #[.slice nd.a nd.rows.length nd.c]])) 23 rfl kj (QbT 129 _ gTnd (oTnd + i * 33) 33 (cat (stP nd)) u0nd hu0nd (QbR nd helnd.kl) helnd.cell rfl kj kj kj) ?_
  refine Qar (cat [ints .u8 (List.replicate 32 0), #[.slice none 0 0]]) 129 4 rfl kj kj fun g12 W4 l12 e4 r12_4 => ?_
  have x4 : Ext w W4 := Ext.tr xx1 e4
  have b12 : w.heap.size ≤ g12 := Nat.le_trans xx1.size l12
  refine Qav g12 _ (cat [ints .u8 (nd.key), #[.slice nd.a nd.rows.length nd.c]]) 129 r12_4 rfl kj (Qat 129 _ _ g12 129 _ _ r12_4 rfl kj kj (isz (n := 33) kj (by rw [Qaa, Qaa]; simp only [Array.size_append, cat, ((Qad _ _).trans hel0nd.kl)]; rfl)) (eqsz (n := 33) (by rw [Qaa, Qaa]; simp only [Array.size_append, cat, ((Qad _ _).trans (List.length_replicate (n := 32)))]; rfl) (by rw [Qaa, Qaa]; simp only [Array.size_append, cat, ((Qad _ _).trans hel0nd.kl)]; rfl)) (QaC _ (by intro a ha; simp only [List.mem_cons, List.not_mem_nil, or_false] at ha; rcases ha with rfl | rfl; exact (Qan _ _); exact (Qak _ rfl)))) fun W5 p5 r12_5 => ?_
  have x5 : Ext w W5 := Puts.ext p5 x4 b12
  refine Qaf ?_
  refine hK11 _ _ ?_
  refine wp_seq_k fun K13 hK13 => ?_
  refine wp_seq_k fun K14 hK14 => ?_
  refine Qae ?_
  refine Qab (.pointer (some ⟨g12, 32, none⟩)) 24 rfl kj kj ?_
  refine Qab (.slice nd.a nd.rows.length nd.c) 25 rfl kj (Qal 127 _ g12 32 129 _ (.slice nd.a nd.rows.length nd.c) _ r12_5 rfl kj (Qaq [ints .u8 (nd.key)] [#[.slice nd.a nd.rows.length nd.c]] [] 32 ((Qad _ _).trans hel0nd.kl) 0 _ rfl) kj) ?_
  refine Qab (.int .i64 ((nd.rows.length : Nat) : Int)) 26 rfl kj kj ?_
  refine Qab (.bool (decide (((nd.rows.length : Nat) : Int) > 300))) 27 rfl kj kj ?_
  refine Qaf ?_
  refine hK14 _ _ ?_
  refine Qa7 (t := decide (((nd.rows.length : Nat) : Int) > 300)) kj (fun c15 => ?_) (fun c15 => ?_)
  ·skip
   refine wp_seq_k fun K16 hK16 => ?_
   refine Qae ?_
   refine Qab (.bool false) 2 rfl kj kj ?_
   refine Qaf ?_
   refine hK16 _ _ ?_
   refine wp_ret ?_
   repeat (first | with_reducible refine goR1 ?_ | with_reducible refine goR2 ?_)
   exact (show bodyPost _ _ _ .ret _ _ from ret1 (.bool false) rfl (Qa1 kj) ⟨_, rfl, x5, _, rfl, fun h => by cases h⟩)
  ·skip
   have hrl : nd.rows.length ≤ 300 := by have h9 := of_decide_eq_false c15; omega
   refine wp_skip ?_
   refine hK13 _ _ ?_
   refine wp_seq_k fun K17 hK17 => ?_
   refine Qae ?_
   refine Qab (.pointer (some ⟨g12, 32, none⟩)) 28 rfl kj kj ?_
   refine Qab (.slice nd.a nd.rows.length nd.c) 29 rfl kj (Qal 127 _ g12 32 129 _ (.slice nd.a nd.rows.length nd.c) _ r12_5 rfl kj (Qaq [ints .u8 (nd.key)] [#[.slice nd.a nd.rows.length nd.c]] [] 32 ((Qad _ _).trans hel0nd.kl) 0 _ rfl) kj) ?_
   refine Qab (.int .i64 ((nd.rows.length : Nat) : Int)) 30 rfl kj kj ?_
   refine Qab (.int .i64 0) 31 rfl kj kj ?_
   refine Qaf ?_
   refine hK17 _ _ ?_
   refine wp_block ?_
   refine QaX (fun (s2 : Nat) => [(1, .pointer (some ⟨g2, 0, none⟩)), (18, .slice a_t ts.length c_t), (19, .int .i64 ((ts.length : Nat) : Int)), (20, .int .i64 ((i : Nat) : Int)), (29, .slice nd.a nd.rows.length nd.c), (30, .int .i64 ((nd.rows.length : Nat) : Int)), (31, .int .i64 ((s2 : Nat) : Int))]) (fun (s2 : Nat) W => (s2 ≤ nd.rows.length) ∧ (Ext W5 W) ∧ (Ext w W)) (fun (s2 : Nat) => nd.rows.length - s2) 0 ⟨rfl, rfl, rfl, rfl, rfl, rfl, rfl, trivial⟩ ⟨(Nat.zero_le _), (Rely.Ext.refl W5), x5⟩ fun s2 X2 V2 hI2 => ?_
   obtain ⟨j, hs2⟩ : ∃ z, z = s2 := ⟨_, rfl⟩
   subst hs2
   obtain ⟨hj, kk2, xx2⟩ := hI2
   replace hj : j ≤ nd.rows.length := hj
   replace kk2 : Ext W5 V2 := kk2
   replace xx2 : Ext w V2 := xx2
   have e6 := kk2
   refine wp_seq_k fun K18 hK18 => ?_
   refine Qae ?_
   refine Qab (.bool (decide (((j : Nat) : Int) < ((nd.rows.length : Nat) : Int)))) 32 rfl kj kj ?_
   refine Qaf ?_
   refine hK18 _ _ ?_
   refine wp_seq_k fun K19 hK19 => ?_
   refine Qa7 (t := decide (((j : Nat) : Int) < ((nd.rows.length : Nat) : Int))) kj (fun c20 => ?_) (fun c20 => ?_)
   ·skip
    have hlt32 : j < nd.rows.length := by have := of_decide_eq_true c20; omega
    refine wp_skip ?_
    refine hK19 _ _ ?_
    refine wp_seq_k fun K21 hK21 => ?_
    refine wp_block ?_
    refine wp_seq_k fun K22 hK22 => ?_
    refine Qae ?_
    obtain ⟨gTnr, oTnr, hatnr, helsnr⟩ := (LsAt.ext rwK hel0nd.rows xx2)
    have helnr := helsnr j (by omega)
    obtain ⟨_, _, -, hels0nr⟩ := id hel0nd.rows
    have hel0nr := hels0nr j (by omega)
    have hmemnr := QbI nd.rows rw0 j (by omega)
    obtain ⟨nr, hndnr⟩ : ∃ z, z = nd.rows.getD j rw0 := ⟨_, rfl⟩
    rw [← hndnr] at helnr hel0nr hmemnr
    refine Qab (.pointer (some ⟨gTnr, oTnr + j * 1, none⟩)) 33 rfl kj (Qb2 127 _ _ .i64 j gTnr oTnr nd.rows.length nd.c 26 1 nd.a (hatnr (by omega)) rfl kj kj kj kj (by omega)) ?_
    refine Qab (.slice nr.a nr.xs.length nr.c) 34 rfl kj (QcV 26 _ gTnr (oTnr + j * 1) _ helnr.cell rfl kj kj) ?_
    refine Qab (.slice nr.a nr.xs.length nr.c) 6 rfl kj kj ?_
    refine Qaf ?_
    refine hK22 _ _ ?_
    refine wp_seq_k fun K23 hK23 => ?_
    rcases (show nr.xs.length ≤ 300 ∨ (300 < nr.xs.length ∧ nr.xs.length < 65536) ∨ (300 < nr.xs.length ∧ 65536 ≤ nr.xs.length) by omega) with hc1 | ⟨hc1, hc2⟩ | ⟨hc1, hc2⟩
    ·skip
     refine Qae ?_
     refine Qab (.slice nr.a nr.xs.length nr.c) 35 rfl kj kj ?_
     refine Qab (.int .i64 ((nr.xs.length : Nat) : Int)) 36 rfl kj kj ?_
     refine Qab (.bool false) 37 rfl kj (Qa0 (u := .bool (decide (((nr.xs.length : Nat) : Int) > 300))) kj (congrArg Value.bool (decide_eq_false (by omega)))) ?_
     refine Qab (.bool false) 38 rfl kj kj ?_
     refine Qas 39 rfl kj ?_
     refine Qas 40 rfl kj ?_
     refine Qas 41 rfl kj ?_
     refine Qab (.bool false) 42 rfl kj kj ?_
     refine Qaf ?_
     refine hK23 _ _ ?_
     refine cond_false kj ?_
     refine wp_skip ?_
     refine hK21 _ _ ?_
     refine Qae ?_
     refine Qab (.int .i64 ((j + 1 : Nat) : Int)) 43 rfl kj (Qa0 (u := .int .i64 (IntKind.i64.wrap (((j : Nat) : Int) + 1))) kj (congrArg (Value.int .i64) (i64n _ _ (by omega) (by omega)))) ?_
     refine Qab (.int .i64 ((j + 1 : Nat) : Int)) 31 rfl kj kj ?_
     refine Qaf ?_
     repeat (first | with_reducible refine goX1 ?_ | with_reducible refine goX2 ?_ | with_reducible refine goX3 ?_)
     exact QaU (j + 1) ⟨rfl, rfl, rfl, rfl, rfl, rfl, rfl, trivial⟩ ⟨(by omega), e6, xx2⟩ (by omega)
    ·skip
     refine Qae ?_
     refine Qab (.slice nr.a nr.xs.length nr.c) 35 rfl kj kj ?_
     refine Qab (.int .i64 ((nr.xs.length : Nat) : Int)) 36 rfl kj kj ?_
     refine Qab (.bool true) 37 rfl kj (Qa0 (u := .bool (decide (((nr.xs.length : Nat) : Int) > 300))) kj (congrArg Value.bool (decide_eq_true (by omega)))) ?_
     refine Qab (.bool true) 38 rfl kj kj ?_
     refine Qab (.slice nr.a nr.xs.length nr.c) 39 rfl kj kj ?_
     refine Qab (.int .i64 ((nr.xs.length : Nat) : Int)) 40 rfl kj kj ?_
     refine Qab (.bool true) 41 rfl kj (Qa0 (u := .bool (decide (((nr.xs.length : Nat) : Int) < 65536))) kj (congrArg Value.bool (decide_eq_true (by omega)))) ?_
     refine Qab (.bool true) 42 rfl kj kj ?_
     refine Qaf ?_
     refine hK23 _ _ ?_
     refine cond_true kj ?_
     refine wp_seq_k fun K24 hK24 => ?_
     refine Qae ?_
     refine Qab (.bool false) 2 rfl kj kj ?_
     refine Qaf ?_
     refine hK24 _ _ ?_
     refine wp_ret ?_
     repeat (first | with_reducible refine goR1 ?_ | with_reducible refine goR2 ?_)
     exact (show bodyPost _ _ _ .ret _ _ from ret1 (.bool false) rfl (Qa1 kj) ⟨_, rfl, xx2, _, rfl, fun h => by cases h⟩)
    ·skip
     refine Qae ?_
     refine Qab (.slice nr.a nr.xs.length nr.c) 35 rfl kj kj ?_
     refine Qab (.int .i64 ((nr.xs.length : Nat) : Int)) 36 rfl kj kj ?_
     refine Qab (.bool true) 37 rfl kj (Qa0 (u := .bool (decide (((nr.xs.length : Nat) : Int) > 300))) kj (congrArg Value.bool (decide_eq_true (by omega)))) ?_
     refine Qab (.bool true) 38 rfl kj kj ?_
     refine Qab (.slice nr.a nr.xs.length nr.c) 39 rfl kj kj ?_
     refine Qab (.int .i64 ((nr.xs.length : Nat) : Int)) 40 rfl kj kj ?_
     refine Qab (.bool false) 41 rfl kj (Qa0 (u := .bool (decide (((nr.xs.length : Nat) : Int) < 65536))) kj (congrArg Value.bool (decide_eq_false (by omega)))) ?_
     refine Qab (.bool false) 42 rfl kj kj ?_
     refine Qaf ?_
     refine hK23 _ _ ?_
     refine cond_false kj ?_
     refine wp_skip ?_
     refine hK21 _ _ ?_
     refine Qae ?_
     refine Qab (.int .i64 ((j + 1 : Nat) : Int)) 43 rfl kj (Qa0 (u := .int .i64 (IntKind.i64.wrap (((j : Nat) : Int) + 1))) kj (congrArg (Value.int .i64) (i64n _ _ (by omega) (by omega)))) ?_
     refine Qab (.int .i64 ((j + 1 : Nat) : Int)) 31 rfl kj kj ?_
     refine Qaf ?_
     repeat (first | with_reducible refine goX1 ?_ | with_reducible refine goX2 ?_ | with_reducible refine goX3 ?_)
     exact QaU (j + 1) ⟨rfl, rfl, rfl, rfl, rfl, rfl, rfl, trivial⟩ ⟨(by omega), e6, xx2⟩ (by omega)
   ·skip
    have heq32 : j = nd.rows.length := by have := of_decide_eq_false c20; omega
    refine wp_exit ?_
    refine hK10 _ _ ?_
    refine Qae ?_
    refine Qab (.int .i64 ((i + 1 : Nat) : Int)) 44 rfl kj (Qa0 (u := .int .i64 (IntKind.i64.wrap (((i : Nat) : Int) + 1))) kj (congrArg (Value.int .i64) (i64n _ _ (by omega) (by omega)))) ?_
    refine Qab (.int .i64 ((i + 1 : Nat) : Int)) 20 rfl kj kj ?_
    refine Qaf ?_
    have y2_4 : Ext W2 W4 := (Rely.Ext.trans e3 e4)
    have y2_5 : Ext W2 W5 := (Puts.ext p5 y2_4 (Nat.le_trans e3.size l12))
    have y2_6 : Ext W2 V2 := (Rely.Ext.trans y2_5 e6)
    repeat (first | with_reducible refine goX1 ?_ | with_reducible refine goX2 ?_ | with_reducible refine goX3 ?_)
    exact QaU (i + 1) ⟨rfl, rfl, rfl, rfl, trivial⟩ ⟨(by omega), (fun j hj => (Nat.lt_or_ge j i).elim (hr j) fun h => by have e : j = i := (by omega); rw [e, ← hndnd]; exact hrl), y2_6, xx2⟩ (by omega)
 ·skip
  have heq21 : i = ts.length := by have := of_decide_eq_false c9; omega
  refine wp_exit ?_
  refine hK5 _ _ ?_
  refine wp_seq_k fun K25 hK25 => ?_
  refine Qae ?_
  refine Qab (.bool true) 2 rfl kj kj ?_
  refine Qaf ?_
  refine hK25 _ _ ?_
  refine wp_ret ?_
  repeat (first | with_reducible refine goR1 ?_ | with_reducible refine goR2 ?_)
  exact (show bodyPost _ _ _ .ret _ _ from ret1 (.bool true) rfl (Qa1 kj) ⟨_, rfl, xx1, _, rfl, fun _ => ⟨h1, h2, fun j hj => hr j (by omega)⟩⟩)
theorem chkP (n : NdC) (ts : List StV) (a_m : Option Addr) (c_m : Nat) (a_t : Option Addr) (c_t : Nat) (w : World) (hn : NdOk n) (hm : RdK .i64 w.heap.size n.ms (.slice a_m n.ms.length c_m) w) (hls : LsAt StAt 33 st0 w.heap.size w a_t ts) : Calls Try.prog 24 #[.agg (cat [#[.bool n.us], #[.int .i64 n.nm], ints .u8 (n.key), ints .u8 (n.sg), ints .u8 (n.pa), #[.slice a_m n.ms.length c_m], #[.slice a_t ts.length c_t]])] w (fun e W => ∃ v, e = .returned v ∧ Ext w W ∧ ∃ b, v = .bool b ∧ (b = true → n.ms.length < 100 ∧ ts.length ≤ 10 ∧ ∀ j, j < ts.length → (ts.getD j st0).rows.length ≤ 300)) := by
  by_cases h1 : n.ms.length < 100
  · by_cases h2 : ts.length ≤ 10
    · exact Qic n ts a_m c_m a_t c_t w hn hm hls h1 h2
    · exact Qid n ts a_m c_m a_t c_t w hn hm hls h1 (by omega)
  · exact Qie n ts a_m c_m a_t c_t w hn hm hls (by omega)
end Go.Proofs.Ytfelfmchachljaa.Wr
end
section
namespace Go.Proofs.Ytfelfmchachljaa.Wr
open Go Go.RowKit
open Rely Auto Own Sha
set_option linter.unusedVariables false
set_option linter.unusedSimpArgs false
open Wk
end Go.Proofs.Ytfelfmchachljaa.Wr
end
section
namespace Go.Proofs.Ytfelfmchachljaa.Wr
open Go Go.RowKit
open Rely Auto Own Sha
set_option linter.unusedVariables false
set_option linter.unusedSimpArgs false
open Wk
end Go.Proofs.Ytfelfmchachljaa.Wr
end
section
namespace Go.Proofs.Ytfelfmchachljaa.Wr
open Go Go.RowKit
open Rely Auto Own Sha
set_option linter.unusedVariables false
set_option linter.unusedSimpArgs false
theorem Qdq (grp : List Int) (ep fr no : Int) (sealed bs : List Int) (hgb : Qao grp) (hsb : Qao sealed) (h : refP grp ep fr no sealed = some bs) : Qao bs := by
  unfold refP fitV at h
  split at h
  · split at h
    · obtain rfl := Option.some.inj h
      exact Qa3 (Qa3 (Qa3 (Qa3 hgb (QaT _ 4)) (QaT fr 1)) (QaT _ 4)) (Qa3 (QaT _ 2) hsb)
    · cases h
  · cases h
end Go.Proofs.Ytfelfmchachljaa.Wr
end
section
namespace Go.Proofs.Ytfelfmchachljaa.Wr
open Go Go.RowKit
open Rely Auto Own Sha
set_option linter.unusedVariables false
set_option linter.unusedSimpArgs false
end Go.Proofs.Ytfelfmchachljaa.Wr
end
section
namespace Go.Proofs.Ytfelfmchachljaa.Wr
open Go Go.RowKit
open Rely Auto Own Sha
set_option linter.unusedVariables false
set_option linter.unusedSimpArgs false
theorem Qco {P : Program} {ops : Array Oper} {ds : List Deferred} {Q : Exit → Act → World → Prop} {rest : List Oper} {o : Oper} {N : Nat} {L : Env} {W : World} {k : IntKind} {B : Nat} {ys : List Int} {v : Value} (t : TypeId) (x z : Operand) (h : Nat) (e : TypeId) (ho : o.op = .slice t x none (some z) none) (hx : Rely.look (envN N L) x = v) (hv : RdK k B ys v W)
    (hu : P.underlying t = some (.slice e)) (hs : (P.info? e).map (·.size) = some 1) (kz : IntKind) (hz : Rely.look (envN N L) z = .int kz (h : Int)) (h1 : h ≤ ys.length) (d : Nat) (hd : o.dst = some d) (hg : QbJ ops o N L = some true)
    (kk : ∀ u, RdK k B (ys.take h) u W → WL P ops Q rest (QaH ds N ((d, u) :: L)) W) : WL P ops Q (o :: rest) (QaH ds N L) W := by
  obtain ⟨u, h2, h3⟩ := Qeu (ρ := Rely.look (envN N L)) (o := o) t x z h e ho hx hv hu hs kz hz h1
  exact QbF _ _ d hd hg h2 (kk u h3)
theorem QhW {ps : List PrV} {n : NdC} {ts : List StV} (h1 : ps.length ≤ 1000000) (hr : ∀ j, j < ps.length → (ps.getD j pr0).p.n.ms.length < 100) (hb1 : n.ms.length < 100) (hb2 : ts.length ≤ 10) (hb3 : ∀ j, j < ts.length → (ts.getD j st0).rows.length ≤ 300) : CmSz ps n ts :=
  ⟨h1, fun p hp => by
    obtain ⟨j, hj, e⟩ := List.mem_iff_getElem.1 hp
    have h9 := hr j hj
    rw [List.getD_eq_getElem?_getD, List.getElem?_eq_getElem hj] at h9
    rw [← e]; exact Nat.le_of_lt (Nat.lt_trans h9 (by decide)), by omega, by omega, fun t ht => by
    obtain ⟨j, hj, e⟩ := List.mem_iff_getElem.1 ht
    have h9 := hb3 j hj
    rw [List.getD_eq_getElem?_getD, List.getElem?_eq_getElem hj] at h9
    rw [← e]; exact ⟨Nat.le_trans h9 (by decide), fun _ _ => trivial⟩⟩
set_option maxHeartbeats 4000000 in
set_option maxRecDepth 100000 in
theorem QgO (grp : List Int) (ep fr : Int) (bas : List Int) (ps : List PrV) (n : NdC) (ts : List StV) (tag sig : List Int) (a_p : Option Addr) (c_p : Nat) (a_m : Option Addr) (c_m : Nat) (a_t : Option Addr) (c_t : Nat) (gq : List Int) (eq_ fq nq : Int) (sealed : List Int) (a_s : Option Addr) (c_s : Nat) (at_ more : Int) (w : World) (ho : CmOk grp bas n tag sig) (hcm : CmAt w.heap.size w ps a_p n a_m c_m ts a_t) (hql : gq.length = 32) (hqb : Qao gq) (hsb : Qao sealed) (hse : RdK .u8 w.heap.size sealed (.slice a_s sealed.length c_s) w) (hmo : Qao [more]) (h1 : 50 < ps.length) : Calls Try.prog 48 #[.agg (cat [ints .u8 (grp), #[.int .i64 ep], #[.int .i64 fr], ints .u8 (bas), #[.slice a_p ps.length c_p], #[.bool n.us], #[.int .i64 n.nm], ints .u8 (n.key), ints .u8 (n.sg), ints .u8 (n.pa), #[.slice a_m n.ms.length c_m], #[.slice a_t ts.length c_t], ints .u8 (tag), ints .u8 (sig)]), .agg (cat [ints .u8 (gq), #[.int .i64 eq_], #[.int .i64 fq], #[.int .i64 nq], #[.slice a_s sealed.length c_s]]), .int .i64 at_, .int .u8 more] w (Ret w (.bool true)) := by
  refine enter 126 [(0, .agg (cat [ints .u8 (grp), #[.int .i64 ep], #[.int .i64 fr], ints .u8 (bas), #[.slice a_p ps.length c_p], #[.bool n.us], #[.int .i64 n.nm], ints .u8 (n.key), ints .u8 (n.sg), ints .u8 (n.pa), #[.slice a_m n.ms.length c_m], #[.slice a_t ts.length c_t], ints .u8 (tag), ints .u8 (sig)])), (1, .agg (cat [ints .u8 (gq), #[.int .i64 eq_], #[.int .i64 fq], #[.int .i64 nq], #[.slice a_s sealed.length c_s]])), (2, .int .i64 at_), (3, .int .u8 more)] Try.func48 rfl rfl kj rfl ?_
  refine wp_seq_k fun K1 hK1 => ?_
  refine Qae ?_
  refine Qar (cat [ints .u8 (grp), #[.int .i64 ep], #[.int .i64 fr], ints .u8 (bas), #[.slice a_p ps.length c_p], #[.bool n.us], #[.int .i64 n.nm], ints .u8 (n.key), ints .u8 (n.sg), ints .u8 (n.pa), #[.slice a_m n.ms.length c_m], #[.slice a_t ts.length c_t], ints .u8 (tag), ints .u8 (sig)]) 59 4 rfl kj kj fun g2 W1 l2 e1 r2_1 => ?_
  have x1 : Ext w W1 := Ext.tr (Rely.Ext.refl w) e1
  have b2 : w.heap.size ≤ g2 := Nat.le_trans (Rely.Ext.refl w).size l2
  refine Qar (cat [ints .u8 (gq), #[.int .i64 eq_], #[.int .i64 fq], #[.int .i64 nq], #[.slice a_s sealed.length c_s]]) 81 5 rfl kj kj fun g3 W2 l3 e2 r3_2 => ?_
  have x2 : Ext w W2 := Ext.tr x1 e2
  have b3 : w.heap.size ≤ g3 := Nat.le_trans x1.size l3
  refine Qab (.bool false) 8 rfl kj kj ?_
  refine Qaf ?_
  refine hK1 _ _ ?_
  refine wp_seq_k fun K4 hK4 => ?_
  refine wp_seq_k fun K5 hK5 => ?_
  refine Qae ?_
  refine Qa8 (.bool true) 12 #[] 23 rfl kj kj ((QgI) _) fun W3 e3 => ?_
  have x3 : Ext w W3 := Ext.tr x2 e3
  refine Qab (.bool false) 24 rfl kj kj ?_
  refine Qaf ?_
  refine hK5 _ _ ?_
  refine cond_false kj ?_
  refine wp_skip ?_
  refine hK4 _ _ ?_
  refine wp_seq_k fun K6 hK6 => ?_
  refine wp_seq_k fun K7 hK7 => ?_
  refine Qae ?_
  refine Qab (.pointer (some ⟨g2, 66, none⟩)) 25 rfl kj kj ?_
  have r2_2 := (Qau r2_1 e2)
  have r2_3 := (Qau r2_2 e3)
  refine Qab (.slice a_p ps.length c_p) 26 rfl kj (Qal 54 _ g2 66 59 _ (.slice a_p ps.length c_p) _ r2_3 rfl kj (Qaq [ints .u8 (grp), #[.int .i64 ep], #[.int .i64 fr], ints .u8 (bas)] [#[.slice a_p ps.length c_p]] [#[.bool n.us], #[.int .i64 n.nm], ints .u8 (n.key), ints .u8 (n.sg), ints .u8 (n.pa), #[.slice a_m n.ms.length c_m], #[.slice a_t ts.length c_t], ints .u8 (tag), ints .u8 (sig)] 66 (by rw [Qaa, Qaa, Qaa, Qaa]; simp only [Array.size_append, cat, ((Qad _ _).trans ho.al), ((Qad _ _).trans ho.rl)]; rfl) 0 _ rfl) kj) ?_
  refine Qab (.int .i64 ((ps.length : Nat) : Int)) 27 rfl kj kj ?_
  refine Qab (.bool true) 28 rfl kj (Qa0 (u := .bool (decide (((ps.length : Nat) : Int) > 50))) kj (congrArg Value.bool (decide_eq_true (by omega)))) ?_
  refine Qab (.bool true) 29 rfl kj kj ?_
  refine Qas 30 rfl kj ?_
  refine Qas 31 rfl kj ?_
  refine Qas 32 rfl kj ?_
  refine Qas 33 rfl kj ?_
  refine Qab (.bool true) 34 rfl kj kj ?_
  refine Qab (.bool true) 35 rfl kj kj ?_
  refine Qas 36 rfl kj ?_
  refine Qas 37 rfl kj ?_
  refine Qas 38 rfl kj ?_
  refine Qas 39 rfl kj ?_
  refine Qab (.bool true) 40 rfl kj kj ?_
  refine Qaf ?_
  refine hK7 _ _ ?_
  refine cond_true kj ?_
  refine wp_seq_k fun K8 hK8 => ?_
  refine Qae ?_
  refine Qab (.bool true) 8 rfl kj kj ?_
  refine Qaf ?_
  refine hK8 _ _ ?_
  refine wp_ret ?_
  repeat (first | with_reducible refine goR1 ?_ | with_reducible refine goR2 ?_)
  exact (show bodyPost _ _ _ .ret _ _ from ret1 (.bool true) rfl (Qa1 kj) ⟨rfl, x3⟩)
set_option maxHeartbeats 4000000 in
set_option maxRecDepth 100000 in
theorem QgN (grp : List Int) (ep fr : Int) (bas : List Int) (ps : List PrV) (n : NdC) (ts : List StV) (tag sig : List Int) (a_p : Option Addr) (c_p : Nat) (a_m : Option Addr) (c_m : Nat) (a_t : Option Addr) (c_t : Nat) (gq : List Int) (eq_ fq nq : Int) (sealed : List Int) (a_s : Option Addr) (c_s : Nat) (at_ more : Int) (w : World) (ho : CmOk grp bas n tag sig) (hcm : CmAt w.heap.size w ps a_p n a_m c_m ts a_t) (hql : gq.length = 32) (hqb : Qao gq) (hsb : Qao sealed) (hse : RdK .u8 w.heap.size sealed (.slice a_s sealed.length c_s) w) (hmo : Qao [more]) (h1 : ps.length ≤ 50) : Calls Try.prog 48 #[.agg (cat [ints .u8 (grp), #[.int .i64 ep], #[.int .i64 fr], ints .u8 (bas), #[.slice a_p ps.length c_p], #[.bool n.us], #[.int .i64 n.nm], ints .u8 (n.key), ints .u8 (n.sg), ints .u8 (n.pa), #[.slice a_m n.ms.length c_m], #[.slice a_t ts.length c_t], ints .u8 (tag), ints .u8 (sig)]), .agg (cat [ints .u8 (gq), #[.int .i64 eq_], #[.int .i64 fq], #[.int .i64 nq], #[.slice a_s sealed.length c_s]]), .int .i64 at_, .int .u8 more] w (Ret w (.bool true)) := by
 refine enter 126 [(0, .agg (cat [ints .u8 (grp), #[.int .i64 ep], #[.int .i64 fr], ints .u8 (bas), #[.slice a_p ps.length c_p], #[.bool n.us], #[.int .i64 n.nm], ints .u8 (n.key), ints .u8 (n.sg), ints .u8 (n.pa), #[.slice a_m n.ms.length c_m], #[.slice a_t ts.length c_t], ints .u8 (tag), ints .u8 (sig)])), (1, .agg (cat [ints .u8 (gq), #[.int .i64 eq_], #[.int .i64 fq], #[.int .i64 nq], #[.slice a_s sealed.length c_s]])), (2, .int .i64 at_), (3, .int .u8 more)] Try.func48 rfl rfl kj rfl ?_
 refine wp_seq_k fun K1 hK1 => ?_
 refine Qae ?_
 refine Qar (cat [ints .u8 (grp), #[.int .i64 ep], #[.int .i64 fr], ints .u8 (bas), #[.slice a_p ps.length c_p], #[.bool n.us], #[.int .i64 n.nm], ints .u8 (n.key), ints .u8 (n.sg), ints .u8 (n.pa), #[.slice a_m n.ms.length c_m], #[.slice a_t ts.length c_t], ints .u8 (tag), ints .u8 (sig)]) 59 4 rfl kj kj fun g2 W1 l2 e1 r2_1 => ?_
 have x1 : Ext w W1 := Ext.tr (Rely.Ext.refl w) e1
 have b2 : w.heap.size ≤ g2 := Nat.le_trans (Rely.Ext.refl w).size l2
 refine Qar (cat [ints .u8 (gq), #[.int .i64 eq_], #[.int .i64 fq], #[.int .i64 nq], #[.slice a_s sealed.length c_s]]) 81 5 rfl kj kj fun g3 W2 l3 e2 r3_2 => ?_
 have x2 : Ext w W2 := Ext.tr x1 e2
 have b3 : w.heap.size ≤ g3 := Nat.le_trans x1.size l3
 refine Qab (.bool false) 8 rfl kj kj ?_
 refine Qaf ?_
 refine hK1 _ _ ?_
 refine wp_seq_k fun K4 hK4 => ?_
 refine wp_seq_k fun K5 hK5 => ?_
 refine Qae ?_
 refine Qa8 (.bool true) 12 #[] 23 rfl kj kj ((QgI) _) fun W3 e3 => ?_
 have x3 : Ext w W3 := Ext.tr x2 e3
 refine Qab (.bool false) 24 rfl kj kj ?_
 refine Qaf ?_
 refine hK5 _ _ ?_
 refine cond_false kj ?_
 refine wp_skip ?_
 refine hK4 _ _ ?_
 refine wp_seq_k fun K6 hK6 => ?_
 refine wp_seq_k fun K7 hK7 => ?_
 refine Qae ?_
 refine Qab (.pointer (some ⟨g2, 66, none⟩)) 25 rfl kj kj ?_
 have r2_2 := (Qau r2_1 e2)
 have r2_3 := (Qau r2_2 e3)
 refine Qab (.slice a_p ps.length c_p) 26 rfl kj (Qal 54 _ g2 66 59 _ (.slice a_p ps.length c_p) _ r2_3 rfl kj (Qaq [ints .u8 (grp), #[.int .i64 ep], #[.int .i64 fr], ints .u8 (bas)] [#[.slice a_p ps.length c_p]] [#[.bool n.us], #[.int .i64 n.nm], ints .u8 (n.key), ints .u8 (n.sg), ints .u8 (n.pa), #[.slice a_m n.ms.length c_m], #[.slice a_t ts.length c_t], ints .u8 (tag), ints .u8 (sig)] 66 (by rw [Qaa, Qaa, Qaa, Qaa]; simp only [Array.size_append, cat, ((Qad _ _).trans ho.al), ((Qad _ _).trans ho.rl)]; rfl) 0 _ rfl) kj) ?_
 refine Qab (.int .i64 ((ps.length : Nat) : Int)) 27 rfl kj kj ?_
 refine Qab (.bool false) 28 rfl kj (Qa0 (u := .bool (decide (((ps.length : Nat) : Int) > 50))) kj (congrArg Value.bool (decide_eq_false (by omega)))) ?_
 refine Qab (.bool false) 29 rfl kj kj ?_
 refine Qab (.pointer (some ⟨g2, 67, none⟩)) 30 rfl kj kj ?_
 refine Qab (.agg (cat [#[.bool n.us], #[.int .i64 n.nm], ints .u8 (n.key), ints .u8 (n.sg), ints .u8 (n.pa), #[.slice a_m n.ms.length c_m], #[.slice a_t ts.length c_t]])) 31 rfl kj (Qay 57 _ g2 67 59 _ _ _ r2_3 rfl kj (Qaq [ints .u8 (grp), #[.int .i64 ep], #[.int .i64 fr], ints .u8 (bas), #[.slice a_p ps.length c_p]] [#[.bool n.us], #[.int .i64 n.nm], ints .u8 (n.key), ints .u8 (n.sg), ints .u8 (n.pa), #[.slice a_m n.ms.length c_m], #[.slice a_t ts.length c_t]] [ints .u8 (tag), ints .u8 (sig)] 67 (by rw [Qaa, Qaa, Qaa, Qaa, Qaa]; simp only [Array.size_append, cat, ((Qad _ _).trans ho.al), ((Qad _ _).trans ho.rl)]; rfl)) kj (isz (n := 100) kj (by rw [Qaa, Qaa, Qaa, Qaa, Qaa, Qaa, Qaa]; simp only [Array.size_append, cat, ((Qad _ _).trans ho.n.gl), ((Qad _ _).trans ho.n.kl), ((Qad _ _).trans ho.n.pl)]; rfl))) ?_
 refine Qah (fun v W' => (fun (v : Value) (_ : World) => ∃ b, v = .bool b ∧ (b = true → n.ms.length < 100 ∧ ts.length ≤ 10 ∧ ∀ j, j < ts.length → (ts.getD j st0).rows.length ≤ 300)) v W' ∧ Ext W3 W') 24 #[.agg (cat [#[.bool n.us], #[.int .i64 n.nm], ints .u8 (n.key), ints .u8 (n.sg), ints .u8 (n.pa), #[.slice a_m n.ms.length c_m], #[.slice a_t ts.length c_t]])] 32 rfl kj kj ((chkP n ts _ _ _ _ _ ho.n (RdK.here (RdK.ext hcm.m x3)) ((hcm.ts.ext stK x3).here stK)).mono (by rintro e w' ⟨v, rfl, e1, hv⟩; exact ⟨v, rfl, hv, e1⟩)) fun vv8 W4 hh8 => ?_
 obtain ⟨hv8, e4⟩ := hh8
 have x4 : Ext w W4 := Ext.tr x3 e4
 obtain ⟨bk, rfl, hbk⟩ := hv8
 rcases (show bk = false ∨ (bk = true ∧ 1000 < sealed.length) ∨ (bk = true ∧ sealed.length ≤ 1000) by cases bk with | false => exact .inl rfl | true => exact .inr (by rcases Nat.lt_or_ge 1000 sealed.length with h | h; exact .inl ⟨rfl, h⟩; exact .inr ⟨rfl, h⟩)) with rfl | ⟨rfl, hsl⟩ | ⟨rfl, hsl⟩
 ·skip
  refine Qab (.bool true) 33 rfl kj kj ?_
  refine Qab (.bool true) 34 rfl kj kj ?_
  refine Qab (.bool true) 35 rfl kj kj ?_
  refine Qas 36 rfl kj ?_
  refine Qas 37 rfl kj ?_
  refine Qas 38 rfl kj ?_
  refine Qas 39 rfl kj ?_
  refine Qab (.bool true) 40 rfl kj kj ?_
  refine Qaf ?_
  refine hK7 _ _ ?_
  refine cond_true kj ?_
  refine wp_seq_k fun K9 hK9 => ?_
  refine Qae ?_
  refine Qab (.bool true) 8 rfl kj kj ?_
  refine Qaf ?_
  refine hK9 _ _ ?_
  refine wp_ret ?_
  repeat (first | with_reducible refine goR1 ?_ | with_reducible refine goR2 ?_)
  exact (show bodyPost _ _ _ .ret _ _ from ret1 (.bool true) rfl (Qa1 kj) ⟨rfl, x4⟩)
 ·skip
  obtain ⟨hb1, hb2, hb3⟩ := hbk rfl
  refine Qab (.bool false) 33 rfl kj kj ?_
  refine Qab (.bool false) 34 rfl kj kj ?_
  refine Qab (.bool false) 35 rfl kj kj ?_
  refine Qab (.pointer (some ⟨g3, 35, none⟩)) 36 rfl kj kj ?_
  have r3_3 := (Qau r3_2 e3)
  have r3_4 := (Qau r3_3 e4)
  refine Qab (.slice a_s sealed.length c_s) 37 rfl kj (Qal 26 _ g3 35 81 _ (.slice a_s sealed.length c_s) _ r3_4 rfl kj (Qaq [ints .u8 (gq), #[.int .i64 eq_], #[.int .i64 fq], #[.int .i64 nq]] [#[.slice a_s sealed.length c_s]] [] 35 (by rw [Qaa, Qaa, Qaa, Qaa]; simp only [Array.size_append, cat, ((Qad _ _).trans hql)]; rfl) 0 _ rfl) kj) ?_
  refine Qab (.int .i64 ((sealed.length : Nat) : Int)) 38 rfl kj kj ?_
  refine Qab (.bool true) 39 rfl kj (Qa0 (u := .bool (decide (((sealed.length : Nat) : Int) > 1000))) kj (congrArg Value.bool (decide_eq_true (by omega)))) ?_
  refine Qab (.bool true) 40 rfl kj kj ?_
  refine Qaf ?_
  refine hK7 _ _ ?_
  refine cond_true kj ?_
  refine wp_seq_k fun K10 hK10 => ?_
  refine Qae ?_
  refine Qab (.bool true) 8 rfl kj kj ?_
  refine Qaf ?_
  refine hK10 _ _ ?_
  refine wp_ret ?_
  repeat (first | with_reducible refine goR1 ?_ | with_reducible refine goR2 ?_)
  exact (show bodyPost _ _ _ .ret _ _ from ret1 (.bool true) rfl (Qa1 kj) ⟨rfl, x4⟩)
 ·skip
  obtain ⟨hb1, hb2, hb3⟩ := hbk rfl
  refine Qab (.bool false) 33 rfl kj kj ?_
  refine Qab (.bool false) 34 rfl kj kj ?_
  refine Qab (.bool false) 35 rfl kj kj ?_
  refine Qab (.pointer (some ⟨g3, 35, none⟩)) 36 rfl kj kj ?_
  have r3_3 := (Qau r3_2 e3)
  have r3_4 := (Qau r3_3 e4)
  refine Qab (.slice a_s sealed.length c_s) 37 rfl kj (Qal 26 _ g3 35 81 _ (.slice a_s sealed.length c_s) _ r3_4 rfl kj (Qaq [ints .u8 (gq), #[.int .i64 eq_], #[.int .i64 fq], #[.int .i64 nq]] [#[.slice a_s sealed.length c_s]] [] 35 (by rw [Qaa, Qaa, Qaa, Qaa]; simp only [Array.size_append, cat, ((Qad _ _).trans hql)]; rfl) 0 _ rfl) kj) ?_
  refine Qab (.int .i64 ((sealed.length : Nat) : Int)) 38 rfl kj kj ?_
  refine Qab (.bool false) 39 rfl kj (Qa0 (u := .bool (decide (((sealed.length : Nat) : Int) > 1000))) kj (congrArg Value.bool (decide_eq_false (by omega)))) ?_
  refine Qab (.bool false) 40 rfl kj kj ?_
  refine Qaf ?_
  refine hK7 _ _ ?_
  refine cond_false kj ?_
  refine wp_skip ?_
  refine hK6 _ _ ?_
  refine wp_seq_k fun K11 hK11 => ?_
  refine wp_seq_k fun K12 hK12 => ?_
  refine Qae ?_
  refine Qab (.pointer (some ⟨g2, 66, none⟩)) 41 rfl kj kj ?_
  have r2_4 := (Qau r2_3 e4)
  refine Qab (.slice a_p ps.length c_p) 42 rfl kj (Qal 54 _ g2 66 59 _ (.slice a_p ps.length c_p) _ r2_4 rfl kj (Qaq [ints .u8 (grp), #[.int .i64 ep], #[.int .i64 fr], ints .u8 (bas)] [#[.slice a_p ps.length c_p]] [#[.bool n.us], #[.int .i64 n.nm], ints .u8 (n.key), ints .u8 (n.sg), ints .u8 (n.pa), #[.slice a_m n.ms.length c_m], #[.slice a_t ts.length c_t], ints .u8 (tag), ints .u8 (sig)] 66 (by rw [Qaa, Qaa, Qaa, Qaa]; simp only [Array.size_append, cat, ((Qad _ _).trans ho.al), ((Qad _ _).trans ho.rl)]; rfl) 0 _ rfl) kj) ?_
  refine Qab (.int .i64 ((ps.length : Nat) : Int)) 43 rfl kj kj ?_
  refine Qab (.int .i64 0) 44 rfl kj kj ?_
  refine Qaf ?_
  refine hK12 _ _ ?_
  refine wp_block ?_
  refine QaX (fun (s1 : Nat) => [(2, .int .i64 at_), (3, .int .u8 more), (4, .pointer (some ⟨g2, 0, none⟩)), (5, .pointer (some ⟨g3, 0, none⟩)), (42, .slice a_p ps.length c_p), (43, .int .i64 ((ps.length : Nat) : Int)), (44, .int .i64 ((s1 : Nat) : Int))]) (fun (s1 : Nat) W => (s1 ≤ ps.length) ∧ (∀ j, j < s1 → (ps.getD j pr0).p.n.ms.length < 100) ∧ (Ext W4 W) ∧ (Ext w W)) (fun (s1 : Nat) => ps.length - s1) 0 ⟨rfl, rfl, rfl, rfl, rfl, rfl, rfl, trivial⟩ ⟨(Nat.zero_le _), (fun j hj => absurd hj (Nat.not_lt_zero _)), (Rely.Ext.refl W4), x4⟩ fun s1 X1 V1 hI1 => ?_
  obtain ⟨i, hs1⟩ : ∃ z, z = s1 := ⟨_, rfl⟩
  subst hs1
  obtain ⟨hi, hr, kk1, xx1⟩ := hI1
  replace hi : i ≤ ps.length := hi
  replace hr : ∀ j, j < i → (ps.getD j pr0).p.n.ms.length < 100 := hr
  replace kk1 : Ext W4 V1 := kk1
  replace xx1 : Ext w V1 := xx1
  have e5 := kk1
  refine wp_seq_k fun K13 hK13 => ?_
  refine Qae ?_
  refine Qab (.bool (decide (((i : Nat) : Int) < ((ps.length : Nat) : Int)))) 45 rfl kj kj ?_
  refine Qaf ?_
  refine hK13 _ _ ?_
  refine wp_seq_k fun K14 hK14 => ?_
  refine Qa7 (t := decide (((i : Nat) : Int) < ((ps.length : Nat) : Int))) kj (fun c15 => ?_) (fun c15 => ?_)
  ·skip
   have hlt45 : i < ps.length := by have := of_decide_eq_true c15; omega
   refine wp_skip ?_
   refine hK14 _ _ ?_
   refine wp_seq_k fun K16 hK16 => ?_
   refine wp_block ?_
   refine wp_seq_k fun K17 hK17 => ?_
   refine Qae ?_
   obtain ⟨gTnd, oTnd, hatnd, helsnd⟩ := (LsAt.ext prK hcm.ps xx1)
   have helnd := helsnd i (by omega)
   obtain ⟨_, _, -, hels0nd⟩ := id hcm.ps
   have hel0nd := hels0nd i (by omega)
   have hmemnd := QbI ps pr0 i (by omega)
   obtain ⟨nd, hndnd⟩ : ∃ z, z = ps.getD i pr0 := ⟨_, rfl⟩
   rw [← hndnd] at helnd hel0nd hmemnd
   have hok := hel0nd.ok
   refine Qab (.pointer (some ⟨gTnd, oTnd + i * 263, none⟩)) 46 rfl kj (Qb2 54 _ _ .i64 i gTnd oTnd ps.length c_p 47 263 a_p (hatnd (by omega)) rfl kj kj kj kj (by omega)) ?_
   obtain ⟨u0nd, hu0nd⟩ := QhO nd helnd.ok
   refine Qab (.agg (cat [ints .u8 (nd.p.grp), #[.int .i64 nd.p.ep], #[.int .i64 nd.p.fr], ints .u8 (nd.p.bas), #[.int .i64 nd.p.kd], #[.bool nd.p.n.us], #[.int .i64 nd.p.n.nm], ints .u8 (nd.p.n.key), ints .u8 (nd.p.n.sg), ints .u8 (nd.p.n.pa), #[.slice nd.a nd.p.n.ms.length nd.c], ints .u8 (nd.p.start), #[.int .i64 nd.p.at_], ints .u8 (nd.p.sig)])) 47 rfl kj (QbT 47 _ gTnd (oTnd + i * 263) 263 (cat (prP nd)) u0nd hu0nd (QbU nd helnd.ok) helnd.cell rfl kj kj kj) ?_
   refine Qar (cat [ints .u8 (List.replicate 32 0), #[.int .i64 0], #[.int .i64 0], ints .u8 (List.replicate 32 0), #[.int .i64 0], #[.bool false], #[.int .i64 0], ints .u8 (List.replicate 32 0), ints .u8 (List.replicate 32 0), ints .u8 (List.replicate 32 0), #[.slice none 0 0], ints .u8 (List.replicate 32 0), #[.int .i64 0], ints .u8 (List.replicate 64 0)]) 47 10 rfl kj (QaG 47 _ rfl (QbD _)) fun g18 W6 l18 e6 r18_6 => ?_
   have x6 : Ext w W6 := Ext.tr xx1 e6
   have b18 : w.heap.size ≤ g18 := Nat.le_trans xx1.size l18
   refine Qav g18 _ (cat [ints .u8 (nd.p.grp), #[.int .i64 nd.p.ep], #[.int .i64 nd.p.fr], ints .u8 (nd.p.bas), #[.int .i64 nd.p.kd], #[.bool nd.p.n.us], #[.int .i64 nd.p.n.nm], ints .u8 (nd.p.n.key), ints .u8 (nd.p.n.sg), ints .u8 (nd.p.n.pa), #[.slice nd.a nd.p.n.ms.length nd.c], ints .u8 (nd.p.start), #[.int .i64 nd.p.at_], ints .u8 (nd.p.sig)]) 47 r18_6 rfl kj (Qat 47 _ _ g18 47 _ _ r18_6 rfl kj kj (isz (n := 263) kj (by rw [Qaa, Qaa, Qaa, Qaa, Qaa, Qaa, Qaa, Qaa, Qaa, Qaa, Qaa, Qaa, Qaa, Qaa]; simp only [Array.size_append, cat, ((Qad _ _).trans hok.al), ((Qad _ _).trans hok.il), ((Qad _ _).trans hok.n.gl), ((Qad _ _).trans hok.n.kl), ((Qad _ _).trans hok.n.pl), ((Qad _ _).trans hok.rl), ((Qad _ _).trans hok.tl)]; rfl)) (eqsz (n := 263) (by rw [Qaa, Qaa, Qaa, Qaa, Qaa, Qaa, Qaa, Qaa, Qaa, Qaa, Qaa, Qaa, Qaa, Qaa]; simp only [Array.size_append, cat, ((Qad _ _).trans (List.length_replicate (n := 32))), ((Qad _ _).trans (List.length_replicate (n := 64)))]; rfl) (by rw [Qaa, Qaa, Qaa, Qaa, Qaa, Qaa, Qaa, Qaa, Qaa, Qaa, Qaa, Qaa, Qaa, Qaa]; simp only [Array.size_append, cat, ((Qad _ _).trans hok.al), ((Qad _ _).trans hok.il), ((Qad _ _).trans hok.n.gl), ((Qad _ _).trans hok.n.kl), ((Qad _ _).trans hok.n.pl), ((Qad _ _).trans hok.rl), ((Qad _ _).trans hok.tl)]; rfl)) (QaC _ (by intro a ha; simp only [List.mem_cons, List.not_mem_nil, or_false] at ha; rcases ha with rfl | rfl | rfl | rfl | rfl | rfl | rfl | rfl | rfl | rfl | rfl | rfl | rfl | rfl; exact (Qan _ _); exact (Qak _ rfl); exact (Qak _ rfl); exact (Qan _ _); exact (Qak _ rfl); exact (Qak _ rfl); exact (Qak _ rfl); exact (Qan _ _); exact (Qan _ _); exact (Qan _ _); exact (Qak _ rfl); exact (Qan _ _); exact (Qak _ rfl); exact (Qan _ _)))) fun W7 p7 r18_7 => ?_
   have x7 : Ext w W7 := Puts.ext p7 x6 b18
   refine Qaf ?_
   refine hK17 _ _ ?_
   refine wp_seq_k fun K19 hK19 => ?_
   rcases (show nd.p.n.ms.length < 100 ∨ 100 ≤ nd.p.n.ms.length by omega) with hc2 | hc2
   ·skip
    refine Qae ?_
    refine Qab (.pointer (some ⟨g18, 67, none⟩)) 48 rfl kj kj ?_
    refine Qab (.agg (cat [#[.bool nd.p.n.us], #[.int .i64 nd.p.n.nm], ints .u8 (nd.p.n.key), ints .u8 (nd.p.n.sg), ints .u8 (nd.p.n.pa), #[.slice nd.a nd.p.n.ms.length nd.c]])) 49 rfl kj (Qay 43 _ g18 67 47 _ _ _ r18_7 rfl kj (Qaq [ints .u8 (nd.p.grp), #[.int .i64 nd.p.ep], #[.int .i64 nd.p.fr], ints .u8 (nd.p.bas), #[.int .i64 nd.p.kd]] [#[.bool nd.p.n.us], #[.int .i64 nd.p.n.nm], ints .u8 (nd.p.n.key), ints .u8 (nd.p.n.sg), ints .u8 (nd.p.n.pa), #[.slice nd.a nd.p.n.ms.length nd.c]] [ints .u8 (nd.p.start), #[.int .i64 nd.p.at_], ints .u8 (nd.p.sig)] 67 (by rw [Qaa, Qaa, Qaa, Qaa, Qaa]; simp only [Array.size_append, cat, ((Qad _ _).trans hok.al), ((Qad _ _).trans hok.rl)]; rfl)) kj (isz (n := 99) kj (by rw [Qaa, Qaa, Qaa, Qaa, Qaa, Qaa]; simp only [Array.size_append, cat, ((Qad _ _).trans hok.n.gl), ((Qad _ _).trans hok.n.kl), ((Qad _ _).trans hok.n.pl)]; rfl))) ?_
    refine Qa8 (.bool true) 20 #[.agg (cat [#[.bool nd.p.n.us], #[.int .i64 nd.p.n.nm], ints .u8 (nd.p.n.key), ints .u8 (nd.p.n.sg), ints .u8 (nd.p.n.pa), #[.slice nd.a nd.p.n.ms.length nd.c]])] 50 rfl kj kj (QdF nd.p.n.us nd.p.n.nm nd.p.n.key nd.p.n.sg nd.p.n.pa nd.p.n.ms _ _ _ hok.n.kl hok.n.gl hok.n.pl hc2) fun W8 e8 => ?_
    have x8 : Ext w W8 := Ext.tr x7 e8
    refine Qab (.bool false) 51 rfl kj kj ?_
    refine Qaf ?_
    refine hK19 _ _ ?_
    refine cond_false kj ?_
    refine wp_skip ?_
    refine hK16 _ _ ?_
    refine Qae ?_
    refine Qab (.int .i64 ((i + 1 : Nat) : Int)) 52 rfl kj (Qa0 (u := .int .i64 (IntKind.i64.wrap (((i : Nat) : Int) + 1))) kj (congrArg (Value.int .i64) (i64n _ _ (by omega) (by omega)))) ?_
    refine Qab (.int .i64 ((i + 1 : Nat) : Int)) 44 rfl kj kj ?_
    refine Qaf ?_
    have y4_6 : Ext W4 W6 := (Rely.Ext.trans e5 e6)
    have y4_7 : Ext W4 W7 := (Puts.ext p7 y4_6 (Nat.le_trans e5.size l18))
    have y4_8 : Ext W4 W8 := (Rely.Ext.trans y4_7 e8)
    repeat (first | with_reducible refine goX1 ?_ | with_reducible refine goX2 ?_ | with_reducible refine goX3 ?_)
    exact QaU (i + 1) ⟨rfl, rfl, rfl, rfl, rfl, rfl, rfl, trivial⟩ ⟨(by omega), (fun j hj => (Nat.lt_or_ge j i).elim (hr j) fun h => by have e : j = i := (by omega); rw [e, ← hndnd]; exact hc2), y4_8, x8⟩ (by omega)
   ·skip
    refine Qae ?_
    refine Qab (.pointer (some ⟨g18, 67, none⟩)) 48 rfl kj kj ?_
    refine Qab (.agg (cat [#[.bool nd.p.n.us], #[.int .i64 nd.p.n.nm], ints .u8 (nd.p.n.key), ints .u8 (nd.p.n.sg), ints .u8 (nd.p.n.pa), #[.slice nd.a nd.p.n.ms.length nd.c]])) 49 rfl kj (Qay 43 _ g18 67 47 _ _ _ r18_7 rfl kj (Qaq [ints .u8 (nd.p.grp), #[.int .i64 nd.p.ep], #[.int .i64 nd.p.fr], ints .u8 (nd.p.bas), #[.int .i64 nd.p.kd]] [#[.bool nd.p.n.us], #[.int .i64 nd.p.n.nm], ints .u8 (nd.p.n.key), ints .u8 (nd.p.n.sg), ints .u8 (nd.p.n.pa), #[.slice nd.a nd.p.n.ms.length nd.c]] [ints .u8 (nd.p.start), #[.int .i64 nd.p.at_], ints .u8 (nd.p.sig)] 67 (by rw [Qaa, Qaa, Qaa, Qaa, Qaa]; simp only [Array.size_append, cat, ((Qad _ _).trans hok.al), ((Qad _ _).trans hok.rl)]; rfl)) kj (isz (n := 99) kj (by rw [Qaa, Qaa, Qaa, Qaa, Qaa, Qaa]; simp only [Array.size_append, cat, ((Qad _ _).trans hok.n.gl), ((Qad _ _).trans hok.n.kl), ((Qad _ _).trans hok.n.pl)]; rfl))) ?_
    refine Qa8 (.bool false) 20 #[.agg (cat [#[.bool nd.p.n.us], #[.int .i64 nd.p.n.nm], ints .u8 (nd.p.n.key), ints .u8 (nd.p.n.sg), ints .u8 (nd.p.n.pa), #[.slice nd.a nd.p.n.ms.length nd.c]])] 50 rfl kj kj (QeT nd.p.n.us nd.p.n.nm nd.p.n.key nd.p.n.sg nd.p.n.pa nd.p.n.ms _ _ _ hok.n.kl hok.n.gl hok.n.pl hc2) fun W8 e8 => ?_
    have x8 : Ext w W8 := Ext.tr x7 e8
    refine Qab (.bool true) 51 rfl kj kj ?_
    refine Qaf ?_
    refine hK19 _ _ ?_
    refine cond_true kj ?_
    refine wp_seq_k fun K20 hK20 => ?_
    refine Qae ?_
    refine Qab (.bool true) 8 rfl kj kj ?_
    refine Qaf ?_
    refine hK20 _ _ ?_
    refine wp_ret ?_
    repeat (first | with_reducible refine goR1 ?_ | with_reducible refine goR2 ?_)
    exact (show bodyPost _ _ _ .ret _ _ from ret1 (.bool true) rfl (Qa1 kj) ⟨rfl, x8⟩)
  ·skip
   have heq45 : i = ps.length := by have := of_decide_eq_false c15; omega
   have hz : CmSz ps n ts := QhW (by omega) (fun j hj => hr j (by omega)) hb1 hb2 hb3
   refine wp_exit ?_
   refine hK11 _ _ ?_
   refine wp_seq_k fun K21 hK21 => ?_
   refine wp_seq_k fun K22 hK22 => ?_
   rcases hS : refC grp ep fr bas ps n ts tag sig with _ | bs
   ·skip
    refine Qae ?_
    have r2_5 := (Qau r2_4 e5)
    refine Qab (.agg (cat [ints .u8 (grp), #[.int .i64 ep], #[.int .i64 fr], ints .u8 (bas), #[.slice a_p ps.length c_p], #[.bool n.us], #[.int .i64 n.nm], ints .u8 (n.key), ints .u8 (n.sg), ints .u8 (n.pa), #[.slice a_m n.ms.length c_m], #[.slice a_t ts.length c_t], ints .u8 (tag), ints .u8 (sig)])) 54 rfl kj (Qaz 59 _ g2 59 _ _ r2_5 rfl kj kj (isz (n := 263) kj (by rw [Qaa, Qaa, Qaa, Qaa, Qaa, Qaa, Qaa, Qaa, Qaa, Qaa, Qaa, Qaa, Qaa, Qaa]; simp only [Array.size_append, cat, ((Qad _ _).trans ho.al), ((Qad _ _).trans ho.gl), ((Qad _ _).trans ho.il), ((Qad _ _).trans ho.n.gl), ((Qad _ _).trans ho.n.kl), ((Qad _ _).trans ho.n.pl), ((Qad _ _).trans ho.rl)]; rfl))) ?_
    refine Qah (fun v W' => (PutR V1.heap.size none) v W' ∧ Ext V1 W') 25 #[.agg (cat [ints .u8 (grp), #[.int .i64 ep], #[.int .i64 fr], ints .u8 (bas), #[.slice a_p ps.length c_p], #[.bool n.us], #[.int .i64 n.nm], ints .u8 (n.key), ints .u8 (n.sg), ints .u8 (n.pa), #[.slice a_m n.ms.length c_m], #[.slice a_t ts.length c_t], ints .u8 (tag), ints .u8 (sig)])] 55 rfl kj kj ((QfX grp ep fr bas ps n ts tag sig _ _ _ _ _ _ _ ho hz (CmAt.here (CmAt.ext hcm xx1)) ((QeZ grp ep fr bas ps n ts tag sig ho (QeQ hcm.ps)).trans hS)).mono (by rintro e w' ⟨v, rfl, e1, hv⟩; exact ⟨v, rfl, hv, e1⟩)) fun vv23 W6 hh23 => ?_
    obtain ⟨hv23, e6⟩ := hh23
    have x6 : Ext w W6 := Ext.tr xx1 e6
    have hv6 : vv23 = .tuple #[.slice none 0 0, .iface 102 (.int .i64 3)] := hv23
    subst hv6
    refine Qab (.tuple #[.slice none 0 0, .iface 102 (.int .i64 3)]) 53 rfl kj kj ?_
    refine Qab (.slice none 0 0) 56 rfl kj kj ?_
    refine Qab (.iface 102 (.int .i64 3)) 57 rfl kj kj ?_
    refine Qab (.slice none 0 0) 11 rfl kj kj ?_
    refine Qab (.iface 102 (.int .i64 3)) 12 rfl kj kj ?_
    refine Qaf ?_
    refine hK22 _ _ ?_
    refine wp_seq_k fun K24 hK24 => ?_
    refine Qae ?_
    refine Qab (.iface 102 (.int .i64 3)) 58 rfl kj kj ?_
    refine Qab (.bool false) 59 rfl kj kj ?_
    refine Qaf ?_
    refine hK24 _ _ ?_
    refine cond_false kj ?_
    refine wp_skip ?_
    refine hK21 _ _ ?_
    refine wp_seq_k fun K25 hK25 => ?_
    rcases hT : refP gq eq_ fq nq sealed with _ | cs
    ·skip
     refine Qae ?_
     have r3_5 := (Qau r3_4 e5)
     have r3_6 := (Qau r3_5 e6)
     refine Qab (.agg (cat [ints .u8 (gq), #[.int .i64 eq_], #[.int .i64 fq], #[.int .i64 nq], #[.slice a_s sealed.length c_s]])) 90 rfl kj (Qaz 81 _ g3 81 _ _ r3_6 rfl kj kj (isz (n := 36) kj (by rw [Qaa, Qaa, Qaa, Qaa, Qaa]; simp only [Array.size_append, cat, ((Qad _ _).trans hql)]; rfl))) ?_
     refine Qah (fun v W' => (PutR W6.heap.size none) v W' ∧ Ext W6 W') 34 #[.agg (cat [ints .u8 (gq), #[.int .i64 eq_], #[.int .i64 fq], #[.int .i64 nq], #[.slice a_s sealed.length c_s]])] 91 rfl kj kj ((Qdi gq eq_ fq nq sealed _ _ _ hql hqb (by omega) hsb (RdK.here (RdK.ext hse x6)) ((QcL gq eq_ fq nq sealed).trans hT)).mono (by rintro e w' ⟨v, rfl, e1, hv⟩; exact ⟨v, rfl, hv, e1⟩)) fun vv26 W7 hh26 => ?_
     obtain ⟨hv26, e7⟩ := hh26
     have x7 : Ext w W7 := Ext.tr x6 e7
     have hv7 : vv26 = .tuple #[.slice none 0 0, .iface 102 (.int .i64 3)] := hv26
     subst hv7
     refine Qab (.tuple #[.slice none 0 0, .iface 102 (.int .i64 3)]) 89 rfl kj kj ?_
     refine Qab (.slice none 0 0) 92 rfl kj kj ?_
     refine Qab (.iface 102 (.int .i64 3)) 93 rfl kj kj ?_
     refine Qab (.slice none 0 0) 17 rfl kj kj ?_
     refine Qab (.iface 102 (.int .i64 3)) 18 rfl kj kj ?_
     refine Qaf ?_
     refine hK25 _ _ ?_
     refine wp_seq_k fun K27 hK27 => ?_
     refine wp_seq_k fun K28 hK28 => ?_
     refine Qae ?_
     refine Qab (.iface 102 (.int .i64 3)) 94 rfl kj kj ?_
     refine Qab (.bool true) 95 rfl kj kj ?_
     refine Qaf ?_
     refine hK28 _ _ ?_
     refine cond_true kj ?_
     refine wp_seq_k fun K29 hK29 => ?_
     refine Qae ?_
     refine Qab (.slice none 0 0) 96 rfl kj kj ?_
     refine Qab (.int .i64 0) 97 rfl kj kj ?_
     refine Qab (.bool true) 98 rfl kj kj ?_
     refine Qab (.bool true) 8 rfl kj kj ?_
     refine Qaf ?_
     refine hK29 _ _ ?_
     refine wp_ret ?_
     repeat (first | with_reducible refine goR1 ?_ | with_reducible refine goR2 ?_)
     exact (show bodyPost _ _ _ .ret _ _ from ret1 (.bool true) rfl (Qa1 kj) ⟨rfl, x7⟩)
    ·skip
     obtain ⟨hR1, -, -, -, -, -, hcl, hpo2⟩ := Qef gq eq_ fq nq sealed cs hql hT
     have hcsb : Qao cs := Qdq gq eq_ fq nq sealed cs hqb hsb hT
     obtain ⟨kkcs, hkcs, hkkcs⟩ := Qe0 at_ cs.length hpo2
     refine Qae ?_
     have r3_5 := (Qau r3_4 e5)
     have r3_6 := (Qau r3_5 e6)
     refine Qab (.agg (cat [ints .u8 (gq), #[.int .i64 eq_], #[.int .i64 fq], #[.int .i64 nq], #[.slice a_s sealed.length c_s]])) 90 rfl kj (Qaz 81 _ g3 81 _ _ r3_6 rfl kj kj (isz (n := 36) kj (by rw [Qaa, Qaa, Qaa, Qaa, Qaa]; simp only [Array.size_append, cat, ((Qad _ _).trans hql)]; rfl))) ?_
     refine Qah (fun v W' => (PutR W6.heap.size (some cs)) v W' ∧ Ext W6 W') 34 #[.agg (cat [ints .u8 (gq), #[.int .i64 eq_], #[.int .i64 fq], #[.int .i64 nq], #[.slice a_s sealed.length c_s]])] 91 rfl kj kj ((Qct gq eq_ fq nq sealed _ _ _ hql hqb (by omega) hsb (RdK.here (RdK.ext hse x6)) cs ((QcL gq eq_ fq nq sealed).trans hT)).mono (by rintro e w' ⟨v, rfl, e1, hv⟩; exact ⟨v, rfl, hv, e1⟩)) fun vv30 W7 hh30 => ?_
     obtain ⟨hv30, e7⟩ := hh30
     have x7 : Ext w W7 := Ext.tr x6 e7
     obtain ⟨u31_, rfl, hu31_⟩ := hv30
     obtain ⟨a31_, c31_, rfl, -⟩ := id (OwnN.rd hu31_)
     refine Qab (.tuple #[.slice a31_ ((cs).length) c31_, .nilIface]) 89 rfl kj kj ?_
     refine Qab (.slice a31_ ((cs).length) c31_) 92 rfl kj kj ?_
     refine Qab (.nilIface) 93 rfl kj kj ?_
     refine Qab (.slice a31_ ((cs).length) c31_) 17 rfl kj kj ?_
     refine Qab (.nilIface) 18 rfl kj kj ?_
     refine Qaf ?_
     refine hK25 _ _ ?_
     refine wp_seq_k fun K32 hK32 => ?_
     refine wp_seq_k fun K33 hK33 => ?_
     refine Qae ?_
     refine Qab (.nilIface) 94 rfl kj kj ?_
     refine Qab (.bool false) 95 rfl kj kj ?_
     refine Qaf ?_
     refine hK33 _ _ ?_
     refine cond_false kj ?_
     refine wp_skip ?_
     refine hK32 _ _ ?_
     refine wp_seq_k fun K34 hK34 => ?_
     refine Qae ?_
     refine Qab (.slice a31_ ((cs).length) c31_) 100 rfl kj kj ?_
     refine Qab (.int .i64 at_) 101 rfl kj kj ?_
     refine Qab (.int .u64 (IntKind.u64.wrap (at_))) 102 rfl kj kj ?_
     refine Qab (.slice a31_ ((cs).length) c31_) 103 rfl kj kj ?_
     refine Qab (.int .i64 (((cs).length : Nat) : Int)) 104 rfl kj kj ?_
     refine Qab (.int .u64 (((cs.length : Nat) : Int))) 105 rfl kj (Qa0 (u := .int .u64 (IntKind.u64.wrap (((cs).length : Nat) : Int))) kj (congrArg (Value.int .u64) (Qeq cs.length hcl))) ?_
     refine Qab (.int .u64 ((kkcs : Nat) : Int)) 106 rfl kj (Qcp .rem _ _ _ _ .u64 .u64 _ _ _ rfl kj kj ((Qh9 _ .u64 _ ((cs.length : Nat) : Int) (by omega)).trans (by rw [hkkcs]))) ?_
     refine Qab (.int .i64 (((kkcs : Nat) : Int))) 107 rfl kj (Qa0 (u := .int .i64 (IntKind.i64.wrap ((kkcs : Nat) : Int))) kj (congrArg (Value.int .i64) (QeF kkcs (by omega)))) ?_
     refine Qco (k := .u8) 26 (.tmp 100) (.tmp 107) kkcs 5 rfl kj (OwnN.rd hu31_) kj kj .i64 kj (Nat.le_of_lt hkcs) 108 rfl kj fun u35_ ru35_ => ?_
     obtain ⟨a35_, c35_, rfl, -⟩ := id ru35_
     refine Qa8 (.tuple #[.agg (cat [ints .u8 (List.replicate 32 0), #[.int .i64 0], #[.int .i64 0], #[.int .i64 0], #[.slice none 0 0]]), .iface 102 (.int .i64 3)]) 36 #[.slice a35_ ((cs.take kkcs).length) c35_] 109 rfl kj kj (Qbu (cs.take kkcs) _ _ _ (fun x hx => hcsb x (List.mem_of_mem_take hx)) (RdK.here ru35_) (QfO (R := QbB) (fun _ _ _ => QdK) cs kkcs hcl hR1 hkcs)) fun W8 e8 => ?_
     have x8 : Ext w W8 := Ext.tr x7 e8
     refine Qab (.tuple #[.agg (cat [ints .u8 (List.replicate 32 0), #[.int .i64 0], #[.int .i64 0], #[.int .i64 0], #[.slice none 0 0]]), .iface 102 (.int .i64 3)]) 99 rfl kj kj ?_
     refine Qab (.agg (cat [ints .u8 (List.replicate 32 0), #[.int .i64 0], #[.int .i64 0], #[.int .i64 0], #[.slice none 0 0]])) 110 rfl kj kj ?_
     refine Qab (.iface 102 (.int .i64 3)) 111 rfl kj kj ?_
     refine Qar (cat [ints .u8 (List.replicate 32 0), #[.int .i64 0], #[.int .i64 0], #[.int .i64 0], #[.slice none 0 0]]) 81 19 rfl kj kj fun g36 W9 l36 e9 r36_9 => ?_
     have x9 : Ext w W9 := Ext.tr x8 e9
     have b36 : w.heap.size ≤ g36 := Nat.le_trans x8.size l36
     refine Qav g36 _ (cat [ints .u8 (List.replicate 32 0), #[.int .i64 0], #[.int .i64 0], #[.int .i64 0], #[.slice none 0 0]]) 81 r36_9 rfl kj (Qat 81 _ _ g36 81 _ _ r36_9 rfl kj kj (isz (n := 36) kj (by rw [Qaa, Qaa, Qaa, Qaa, Qaa]; simp only [Array.size_append, cat, ((Qad _ _).trans (List.length_replicate (n := 32)))]; rfl)) (eqsz (n := 36) (by rw [Qaa, Qaa, Qaa, Qaa, Qaa]; simp only [Array.size_append, cat, ((Qad _ _).trans (List.length_replicate (n := 32)))]; rfl) (by rw [Qaa, Qaa, Qaa, Qaa, Qaa]; simp only [Array.size_append, cat, ((Qad _ _).trans (List.length_replicate (n := 32)))]; rfl)) (QaC _ (by intro a ha; simp only [List.mem_cons, List.not_mem_nil, or_false] at ha; rcases ha with rfl | rfl | rfl | rfl | rfl; exact (Qan _ _); exact (Qak _ rfl); exact (Qak _ rfl); exact (Qak _ rfl); exact (Qak _ rfl)))) fun W10 p10 r36_10 => ?_
     have x10 : Ext w W10 := Puts.ext p10 x9 b36
     refine Qab (.iface 102 (.int .i64 3)) 20 rfl kj kj ?_
     refine Qaf ?_
     refine hK34 _ _ ?_
     refine wp_seq_k fun K37 hK37 => ?_
     refine Qae ?_
     refine Qab (.slice a31_ ((cs).length) c31_) 113 rfl kj kj ?_
     refine Qab (.int .u8 more) 114 rfl kj kj ?_
     refine Qb5 (ints .u8 ([more])) 5 1 115 rfl kj kj fun g38 W11 l38 e11 r38_11 => ?_
     have x11 : Ext w W11 := Ext.tr x10 e11
     have b38 : w.heap.size ≤ g38 := Nat.le_trans x10.size l38
     have f40_8 := (hu31_.ext e8)
     have f41_9 := (f40_8.ext e9)
     have f42_10 := (f41_9.puts p10 (QcI f40_8 l36))
     have f43_11 := (f42_10.ext e11)
     have y6_7 : Ext W6 W7 := (Rely.Ext.trans (Rely.Ext.refl W6) e7)
     have y6_8 : Ext W6 W8 := (Rely.Ext.trans y6_7 e8)
     have y6_9 : Ext W6 W9 := (Rely.Ext.trans y6_8 e9)
     have y6_10 : Ext W6 W10 := (Puts.ext p10 y6_9 (Nat.le_trans y6_8.size l36))
     have y6_11 : Ext W6 W11 := (Rely.Ext.trans y6_10 e11)
     refine QbS (k := .u8) (T := 5) (xs := cs) (ys := [more]) (V := W6) 1 (.tmp 113) (.tmp 115) 26 rfl kj kj (by decide) 116 rfl kj kj kj f43_11 (Qcf (xs := [more]) (n := 1) rfl r38_11 (Qa5 r38_11) (show 1 ≤ maxLen from by decide)) (by simp only [List.length_cons, List.length_nil]; omega) y6_11 fun nb39 W12 f44 y12 l12 => ?_
     have x12 : Ext w W12 := Ext.low x11 l12 x6.size
     obtain ⟨a39_, c39_, rfl, -⟩ := id (OwnN.rd f44)
     refine Qa8 (.tuple #[.agg (cat [ints .u8 (List.replicate 32 0), #[.int .i64 0], #[.int .i64 0], #[.int .i64 0], #[.slice none 0 0]]), .iface 102 (.int .i64 3)]) 36 #[.slice a39_ ((cs ++ [more]).length) c39_] 117 rfl kj kj (Qbu (cs ++ [more]) _ _ _ (Qa3 hcsb hmo) (RdK.here (OwnN.rd f44)) (QeC (R := QbB) (fun _ _ _ => QdK) Qdr cs more hcl hR1)) fun W13 e13 => ?_
     have x13 : Ext w W13 := Ext.tr x12 e13
     refine Qab (.tuple #[.agg (cat [ints .u8 (List.replicate 32 0), #[.int .i64 0], #[.int .i64 0], #[.int .i64 0], #[.slice none 0 0]]), .iface 102 (.int .i64 3)]) 112 rfl kj kj ?_
     refine Qab (.agg (cat [ints .u8 (List.replicate 32 0), #[.int .i64 0], #[.int .i64 0], #[.int .i64 0], #[.slice none 0 0]])) 118 rfl kj kj ?_
     refine Qab (.iface 102 (.int .i64 3)) 119 rfl kj kj ?_
     refine Qar (cat [ints .u8 (List.replicate 32 0), #[.int .i64 0], #[.int .i64 0], #[.int .i64 0], #[.slice none 0 0]]) 81 21 rfl kj kj fun g45 W14 l45 e14 r45_14 => ?_
     have x14 : Ext w W14 := Ext.tr x13 e14
     have b45 : w.heap.size ≤ g45 := Nat.le_trans x13.size l45
     refine Qav g45 _ (cat [ints .u8 (List.replicate 32 0), #[.int .i64 0], #[.int .i64 0], #[.int .i64 0], #[.slice none 0 0]]) 81 r45_14 rfl kj (Qat 81 _ _ g45 81 _ _ r45_14 rfl kj kj (isz (n := 36) kj (by rw [Qaa, Qaa, Qaa, Qaa, Qaa]; simp only [Array.size_append, cat, ((Qad _ _).trans (List.length_replicate (n := 32)))]; rfl)) (eqsz (n := 36) (by rw [Qaa, Qaa, Qaa, Qaa, Qaa]; simp only [Array.size_append, cat, ((Qad _ _).trans (List.length_replicate (n := 32)))]; rfl) (by rw [Qaa, Qaa, Qaa, Qaa, Qaa]; simp only [Array.size_append, cat, ((Qad _ _).trans (List.length_replicate (n := 32)))]; rfl)) (QaC _ (by intro a ha; simp only [List.mem_cons, List.not_mem_nil, or_false] at ha; rcases ha with rfl | rfl | rfl | rfl | rfl; exact (Qan _ _); exact (Qak _ rfl); exact (Qak _ rfl); exact (Qak _ rfl); exact (Qak _ rfl)))) fun W15 p15 r45_15 => ?_
     have x15 : Ext w W15 := Puts.ext p15 x14 b45
     refine Qab (.iface 102 (.int .i64 3)) 22 rfl kj kj ?_
     refine Qaf ?_
     refine hK37 _ _ ?_
     refine wp_seq_k fun K46 hK46 => ?_
     refine Qae ?_
     refine Qab (.iface 102 (.int .i64 3)) 120 rfl kj kj ?_
     refine Qa8 (.bool true) 45 #[.iface 102 (.int .i64 3), .int .i64 3] 121 rfl kj kj ((is3) _) fun W16 e16 => ?_
     have x16 : Ext w W16 := Ext.tr x15 e16
     refine Qab (.bool true) 122 rfl kj kj ?_
     refine Qab (.iface 102 (.int .i64 3)) 123 rfl kj kj ?_
     refine Qa8 (.bool true) 45 #[.iface 102 (.int .i64 3), .int .i64 3] 124 rfl kj kj ((is3) _) fun W17 e17 => ?_
     have x17 : Ext w W17 := Ext.tr x16 e17
     refine Qab (.bool true) 125 rfl kj kj ?_
     refine Qab (.bool true) 8 rfl kj kj ?_
     refine Qaf ?_
     refine hK46 _ _ ?_
     refine wp_ret ?_
     repeat (first | with_reducible refine goR1 ?_ | with_reducible refine goR2 ?_)
     exact (show bodyPost _ _ _ .ret _ _ from ret1 (.bool true) rfl (Qa1 kj) ⟨rfl, x17⟩)
   ·skip
    obtain ⟨hR0, -, -, -, -, -, -, -, -, -, hbs, hbl, hpos⟩ := QfP grp ep fr bas ps n ts tag sig bs ho (QeQ hcm.ps) (fun t ht => (QgL hcm.ts t ht).1) hS
    have hbsb : Qao bs := by rw [hbs]; exact Qfq grp ep fr bas ps n ts tag sig a_p c_p a_m c_m a_t c_t w ho hcm
    obtain ⟨kkbs, hkbs, hkkbs⟩ := Qe0 at_ bs.length hpos
    refine Qae ?_
    have r2_5 := (Qau r2_4 e5)
    refine Qab (.agg (cat [ints .u8 (grp), #[.int .i64 ep], #[.int .i64 fr], ints .u8 (bas), #[.slice a_p ps.length c_p], #[.bool n.us], #[.int .i64 n.nm], ints .u8 (n.key), ints .u8 (n.sg), ints .u8 (n.pa), #[.slice a_m n.ms.length c_m], #[.slice a_t ts.length c_t], ints .u8 (tag), ints .u8 (sig)])) 54 rfl kj (Qaz 59 _ g2 59 _ _ r2_5 rfl kj kj (isz (n := 263) kj (by rw [Qaa, Qaa, Qaa, Qaa, Qaa, Qaa, Qaa, Qaa, Qaa, Qaa, Qaa, Qaa, Qaa, Qaa]; simp only [Array.size_append, cat, ((Qad _ _).trans ho.al), ((Qad _ _).trans ho.gl), ((Qad _ _).trans ho.il), ((Qad _ _).trans ho.n.gl), ((Qad _ _).trans ho.n.kl), ((Qad _ _).trans ho.n.pl), ((Qad _ _).trans ho.rl)]; rfl))) ?_
    refine Qah (fun v W' => (PutR V1.heap.size (some bs)) v W' ∧ Ext V1 W') 25 #[.agg (cat [ints .u8 (grp), #[.int .i64 ep], #[.int .i64 fr], ints .u8 (bas), #[.slice a_p ps.length c_p], #[.bool n.us], #[.int .i64 n.nm], ints .u8 (n.key), ints .u8 (n.sg), ints .u8 (n.pa), #[.slice a_m n.ms.length c_m], #[.slice a_t ts.length c_t], ints .u8 (tag), ints .u8 (sig)])] 55 rfl kj kj ((QfW grp ep fr bas ps n ts tag sig _ _ _ _ _ _ _ ho hz (CmAt.here (CmAt.ext hcm xx1)) bs ((QeZ grp ep fr bas ps n ts tag sig ho (QeQ hcm.ps)).trans hS)).mono (by rintro e w' ⟨v, rfl, e1, hv⟩; exact ⟨v, rfl, hv, e1⟩)) fun vv47 W6 hh47 => ?_
    obtain ⟨hv47, e6⟩ := hh47
    have x6 : Ext w W6 := Ext.tr xx1 e6
    obtain ⟨u48_, rfl, hu48_⟩ := hv47
    obtain ⟨a48_, c48_, rfl, -⟩ := id (OwnN.rd hu48_)
    refine Qab (.tuple #[.slice a48_ ((bs).length) c48_, .nilIface]) 53 rfl kj kj ?_
    refine Qab (.slice a48_ ((bs).length) c48_) 56 rfl kj kj ?_
    refine Qab (.nilIface) 57 rfl kj kj ?_
    refine Qab (.slice a48_ ((bs).length) c48_) 11 rfl kj kj ?_
    refine Qab (.nilIface) 12 rfl kj kj ?_
    refine Qaf ?_
    refine hK22 _ _ ?_
    refine wp_seq_k fun K49 hK49 => ?_
    refine Qae ?_
    refine Qab (.nilIface) 58 rfl kj kj ?_
    refine Qab (.bool true) 59 rfl kj kj ?_
    refine Qaf ?_
    refine hK49 _ _ ?_
    refine cond_true kj ?_
    refine wp_seq_k fun K50 hK50 => ?_
    refine Qae ?_
    refine Qab (.slice a48_ ((bs).length) c48_) 61 rfl kj kj ?_
    refine Qab (.int .i64 at_) 62 rfl kj kj ?_
    refine Qab (.int .u64 (IntKind.u64.wrap (at_))) 63 rfl kj kj ?_
    refine Qab (.slice a48_ ((bs).length) c48_) 64 rfl kj kj ?_
    refine Qab (.int .i64 (((bs).length : Nat) : Int)) 65 rfl kj kj ?_
    refine Qab (.int .u64 (((bs.length : Nat) : Int))) 66 rfl kj (Qa0 (u := .int .u64 (IntKind.u64.wrap (((bs).length : Nat) : Int))) kj (congrArg (Value.int .u64) (Qeq bs.length hbl))) ?_
    refine Qab (.int .u64 ((kkbs : Nat) : Int)) 67 rfl kj (Qcp .rem _ _ _ _ .u64 .u64 _ _ _ rfl kj kj ((Qh9 _ .u64 _ ((bs.length : Nat) : Int) (by omega)).trans (by rw [hkkbs]))) ?_
    refine Qab (.int .i64 (((kkbs : Nat) : Int))) 68 rfl kj (Qa0 (u := .int .i64 (IntKind.i64.wrap ((kkbs : Nat) : Int))) kj (congrArg (Value.int .i64) (QeF kkbs (by omega)))) ?_
    refine Qco (k := .u8) 26 (.tmp 61) (.tmp 68) kkbs 5 rfl kj (OwnN.rd hu48_) kj kj .i64 kj (Nat.le_of_lt hkbs) 69 rfl kj fun u51_ ru51_ => ?_
    obtain ⟨a51_, c51_, rfl, -⟩ := id ru51_
    refine Qa8 (.tuple #[.agg (cat [ints .u8 (List.replicate 32 0), #[.int .i64 0], #[.int .i64 0], ints .u8 (List.replicate 32 0), #[.slice none 0 0], #[.bool false], #[.int .i64 0], ints .u8 (List.replicate 32 0), ints .u8 (List.replicate 32 0), ints .u8 (List.replicate 32 0), #[.slice none 0 0], #[.slice none 0 0], ints .u8 (List.replicate 32 0), ints .u8 (List.replicate 64 0)]), .iface 102 (.int .i64 3)]) 27 #[.slice a51_ ((bs.take kkbs).length) c51_] 70 rfl kj kj (Qdo (bs.take kkbs) _ _ _ (fun x hx => hbsb x (List.mem_of_mem_take hx)) (RdK.here ru51_) (QfO (R := QbC) (fun _ _ _ => QfL) bs kkbs hbl hR0 hkbs)) fun W7 e7 => ?_
    have x7 : Ext w W7 := Ext.tr x6 e7
    refine Qab (.tuple #[.agg (cat [ints .u8 (List.replicate 32 0), #[.int .i64 0], #[.int .i64 0], ints .u8 (List.replicate 32 0), #[.slice none 0 0], #[.bool false], #[.int .i64 0], ints .u8 (List.replicate 32 0), ints .u8 (List.replicate 32 0), ints .u8 (List.replicate 32 0), #[.slice none 0 0], #[.slice none 0 0], ints .u8 (List.replicate 32 0), ints .u8 (List.replicate 64 0)]), .iface 102 (.int .i64 3)]) 60 rfl kj kj ?_
    refine Qab (.agg (cat [ints .u8 (List.replicate 32 0), #[.int .i64 0], #[.int .i64 0], ints .u8 (List.replicate 32 0), #[.slice none 0 0], #[.bool false], #[.int .i64 0], ints .u8 (List.replicate 32 0), ints .u8 (List.replicate 32 0), ints .u8 (List.replicate 32 0), #[.slice none 0 0], #[.slice none 0 0], ints .u8 (List.replicate 32 0), ints .u8 (List.replicate 64 0)])) 71 rfl kj kj ?_
    refine Qab (.iface 102 (.int .i64 3)) 72 rfl kj kj ?_
    refine Qar (cat [ints .u8 (List.replicate 32 0), #[.int .i64 0], #[.int .i64 0], ints .u8 (List.replicate 32 0), #[.slice none 0 0], #[.bool false], #[.int .i64 0], ints .u8 (List.replicate 32 0), ints .u8 (List.replicate 32 0), ints .u8 (List.replicate 32 0), #[.slice none 0 0], #[.slice none 0 0], ints .u8 (List.replicate 32 0), ints .u8 (List.replicate 64 0)]) 59 13 rfl kj (QaG 59 _ rfl (QbX _)) fun g52 W8 l52 e8 r52_8 => ?_
    have x8 : Ext w W8 := Ext.tr x7 e8
    have b52 : w.heap.size ≤ g52 := Nat.le_trans x7.size l52
    refine Qav g52 _ (cat [ints .u8 (List.replicate 32 0), #[.int .i64 0], #[.int .i64 0], ints .u8 (List.replicate 32 0), #[.slice none 0 0], #[.bool false], #[.int .i64 0], ints .u8 (List.replicate 32 0), ints .u8 (List.replicate 32 0), ints .u8 (List.replicate 32 0), #[.slice none 0 0], #[.slice none 0 0], ints .u8 (List.replicate 32 0), ints .u8 (List.replicate 64 0)]) 59 r52_8 rfl kj (Qat 59 _ _ g52 59 _ _ r52_8 rfl kj kj (isz (n := 263) kj (by rw [Qaa, Qaa, Qaa, Qaa, Qaa, Qaa, Qaa, Qaa, Qaa, Qaa, Qaa, Qaa, Qaa, Qaa]; simp only [Array.size_append, cat, ((Qad _ _).trans (List.length_replicate (n := 32))), ((Qad _ _).trans (List.length_replicate (n := 64)))]; rfl)) (eqsz (n := 263) (by rw [Qaa, Qaa, Qaa, Qaa, Qaa, Qaa, Qaa, Qaa, Qaa, Qaa, Qaa, Qaa, Qaa, Qaa]; simp only [Array.size_append, cat, ((Qad _ _).trans (List.length_replicate (n := 32))), ((Qad _ _).trans (List.length_replicate (n := 64)))]; rfl) (by rw [Qaa, Qaa, Qaa, Qaa, Qaa, Qaa, Qaa, Qaa, Qaa, Qaa, Qaa, Qaa, Qaa, Qaa]; simp only [Array.size_append, cat, ((Qad _ _).trans (List.length_replicate (n := 32))), ((Qad _ _).trans (List.length_replicate (n := 64)))]; rfl)) (QaC _ (by intro a ha; simp only [List.mem_cons, List.not_mem_nil, or_false] at ha; rcases ha with rfl | rfl | rfl | rfl | rfl | rfl | rfl | rfl | rfl | rfl | rfl | rfl | rfl | rfl; exact (Qan _ _); exact (Qak _ rfl); exact (Qak _ rfl); exact (Qan _ _); exact (Qak _ rfl); exact (Qak _ rfl); exact (Qak _ rfl); exact (Qan _ _); exact (Qan _ _); exact (Qan _ _); exact (Qak _ rfl); exact (Qak _ rfl); exact (Qan _ _); exact (Qan _ _)))) fun W9 p9 r52_9 => ?_
    have x9 : Ext w W9 := Puts.ext p9 x8 b52
    refine Qab (.iface 102 (.int .i64 3)) 14 rfl kj kj ?_
    refine Qaf ?_
    refine hK50 _ _ ?_
    refine wp_seq_k fun K53 hK53 => ?_
    refine Qae ?_
    refine Qab (.slice a48_ ((bs).length) c48_) 74 rfl kj kj ?_
    refine Qab (.int .u8 more) 75 rfl kj kj ?_
    refine Qb5 (ints .u8 ([more])) 5 1 76 rfl kj kj fun g54 W10 l54 e10 r54_10 => ?_
    have x10 : Ext w W10 := Ext.tr x9 e10
    have b54 : w.heap.size ≤ g54 := Nat.le_trans x9.size l54
    have f56_7 := (hu48_.ext e7)
    have f57_8 := (f56_7.ext e8)
    have f58_9 := (f57_8.puts p9 (QcI f56_7 l52))
    have f59_10 := (f58_9.ext e10)
    have y5_6 : Ext V1 W6 := (Rely.Ext.trans (Rely.Ext.refl V1) e6)
    have y5_7 : Ext V1 W7 := (Rely.Ext.trans y5_6 e7)
    have y5_8 : Ext V1 W8 := (Rely.Ext.trans y5_7 e8)
    have y5_9 : Ext V1 W9 := (Puts.ext p9 y5_8 (Nat.le_trans y5_7.size l52))
    have y5_10 : Ext V1 W10 := (Rely.Ext.trans y5_9 e10)
    refine QbS (k := .u8) (T := 5) (xs := bs) (ys := [more]) (V := V1) 1 (.tmp 74) (.tmp 76) 26 rfl kj kj (by decide) 77 rfl kj kj kj f59_10 (Qcf (xs := [more]) (n := 1) rfl r54_10 (Qa5 r54_10) (show 1 ≤ maxLen from by decide)) (by simp only [List.length_cons, List.length_nil]; omega) y5_10 fun nb55 W11 f60 y11 l11 => ?_
    have x11 : Ext w W11 := Ext.low x10 l11 xx1.size
    obtain ⟨a55_, c55_, rfl, -⟩ := id (OwnN.rd f60)
    refine Qa8 (.tuple #[.agg (cat [ints .u8 (List.replicate 32 0), #[.int .i64 0], #[.int .i64 0], ints .u8 (List.replicate 32 0), #[.slice none 0 0], #[.bool false], #[.int .i64 0], ints .u8 (List.replicate 32 0), ints .u8 (List.replicate 32 0), ints .u8 (List.replicate 32 0), #[.slice none 0 0], #[.slice none 0 0], ints .u8 (List.replicate 32 0), ints .u8 (List.replicate 64 0)]), .iface 102 (.int .i64 3)]) 27 #[.slice a55_ ((bs ++ [more]).length) c55_] 78 rfl kj kj (Qdo (bs ++ [more]) _ _ _ (Qa3 hbsb hmo) (RdK.here (OwnN.rd f60)) (QeC (R := QbC) (fun _ _ _ => QfL) Qfr bs more hbl hR0)) fun W12 e12 => ?_
    have x12 : Ext w W12 := Ext.tr x11 e12
    refine Qab (.tuple #[.agg (cat [ints .u8 (List.replicate 32 0), #[.int .i64 0], #[.int .i64 0], ints .u8 (List.replicate 32 0), #[.slice none 0 0], #[.bool false], #[.int .i64 0], ints .u8 (List.replicate 32 0), ints .u8 (List.replicate 32 0), ints .u8 (List.replicate 32 0), #[.slice none 0 0], #[.slice none 0 0], ints .u8 (List.replicate 32 0), ints .u8 (List.replicate 64 0)]), .iface 102 (.int .i64 3)]) 73 rfl kj kj ?_
    refine Qab (.agg (cat [ints .u8 (List.replicate 32 0), #[.int .i64 0], #[.int .i64 0], ints .u8 (List.replicate 32 0), #[.slice none 0 0], #[.bool false], #[.int .i64 0], ints .u8 (List.replicate 32 0), ints .u8 (List.replicate 32 0), ints .u8 (List.replicate 32 0), #[.slice none 0 0], #[.slice none 0 0], ints .u8 (List.replicate 32 0), ints .u8 (List.replicate 64 0)])) 79 rfl kj kj ?_
    refine Qab (.iface 102 (.int .i64 3)) 80 rfl kj kj ?_
    refine Qar (cat [ints .u8 (List.replicate 32 0), #[.int .i64 0], #[.int .i64 0], ints .u8 (List.replicate 32 0), #[.slice none 0 0], #[.bool false], #[.int .i64 0], ints .u8 (List.replicate 32 0), ints .u8 (List.replicate 32 0), ints .u8 (List.replicate 32 0), #[.slice none 0 0], #[.slice none 0 0], ints .u8 (List.replicate 32 0), ints .u8 (List.replicate 64 0)]) 59 15 rfl kj (QaG 59 _ rfl (QbX _)) fun g61 W13 l61 e13 r61_13 => ?_
    have x13 : Ext w W13 := Ext.tr x12 e13
    have b61 : w.heap.size ≤ g61 := Nat.le_trans x12.size l61
    refine Qav g61 _ (cat [ints .u8 (List.replicate 32 0), #[.int .i64 0], #[.int .i64 0], ints .u8 (List.replicate 32 0), #[.slice none 0 0], #[.bool false], #[.int .i64 0], ints .u8 (List.replicate 32 0), ints .u8 (List.replicate 32 0), ints .u8 (List.replicate 32 0), #[.slice none 0 0], #[.slice none 0 0], ints .u8 (List.replicate 32 0), ints .u8 (List.replicate 64 0)]) 59 r61_13 rfl kj (Qat 59 _ _ g61 59 _ _ r61_13 rfl kj kj (isz (n := 263) kj (by rw [Qaa, Qaa, Qaa, Qaa, Qaa, Qaa, Qaa, Qaa, Qaa, Qaa, Qaa, Qaa, Qaa, Qaa]; simp only [Array.size_append, cat, ((Qad _ _).trans (List.length_replicate (n := 32))), ((Qad _ _).trans (List.length_replicate (n := 64)))]; rfl)) (eqsz (n := 263) (by rw [Qaa, Qaa, Qaa, Qaa, Qaa, Qaa, Qaa, Qaa, Qaa, Qaa, Qaa, Qaa, Qaa, Qaa]; simp only [Array.size_append, cat, ((Qad _ _).trans (List.length_replicate (n := 32))), ((Qad _ _).trans (List.length_replicate (n := 64)))]; rfl) (by rw [Qaa, Qaa, Qaa, Qaa, Qaa, Qaa, Qaa, Qaa, Qaa, Qaa, Qaa, Qaa, Qaa, Qaa]; simp only [Array.size_append, cat, ((Qad _ _).trans (List.length_replicate (n := 32))), ((Qad _ _).trans (List.length_replicate (n := 64)))]; rfl)) (QaC _ (by intro a ha; simp only [List.mem_cons, List.not_mem_nil, or_false] at ha; rcases ha with rfl | rfl | rfl | rfl | rfl | rfl | rfl | rfl | rfl | rfl | rfl | rfl | rfl | rfl; exact (Qan _ _); exact (Qak _ rfl); exact (Qak _ rfl); exact (Qan _ _); exact (Qak _ rfl); exact (Qak _ rfl); exact (Qak _ rfl); exact (Qan _ _); exact (Qan _ _); exact (Qan _ _); exact (Qak _ rfl); exact (Qak _ rfl); exact (Qan _ _); exact (Qan _ _)))) fun W14 p14 r61_14 => ?_
    have x14 : Ext w W14 := Puts.ext p14 x13 b61
    refine Qab (.iface 102 (.int .i64 3)) 16 rfl kj kj ?_
    refine Qaf ?_
    refine hK53 _ _ ?_
    refine wp_seq_k fun K62 hK62 => ?_
    refine Qae ?_
    refine Qab (.iface 102 (.int .i64 3)) 81 rfl kj kj ?_
    refine Qa8 (.bool true) 45 #[.iface 102 (.int .i64 3), .int .i64 3] 82 rfl kj kj ((is3) _) fun W15 e15 => ?_
    have x15 : Ext w W15 := Ext.tr x14 e15
    refine Qab (.bool false) 83 rfl kj kj ?_
    refine Qab (.bool false) 84 rfl kj kj ?_
    refine Qab (.iface 102 (.int .i64 3)) 85 rfl kj kj ?_
    refine Qa8 (.bool true) 45 #[.iface 102 (.int .i64 3), .int .i64 3] 86 rfl kj kj ((is3) _) fun W16 e16 => ?_
    have x16 : Ext w W16 := Ext.tr x15 e16
    refine Qab (.bool false) 87 rfl kj kj ?_
    refine Qab (.bool false) 88 rfl kj kj ?_
    refine Qaf ?_
    refine hK62 _ _ ?_
    refine cond_false kj ?_
    refine wp_skip ?_
    refine hK21 _ _ ?_
    refine wp_seq_k fun K63 hK63 => ?_
    rcases hT : refP gq eq_ fq nq sealed with _ | cs
    ·skip
     refine Qae ?_
     have r3_5 := (Qau r3_4 e5)
     have r3_6 := (Qau r3_5 e6)
     have r3_7 := (Qau r3_6 e7)
     have r3_8 := (Qau r3_7 e8)
     have r3_9 := (Puts.row p9 r3_8 (Qa2 r3_7 l52))
     have r3_10 := (Qau r3_9 e10)
     have r3_11 := (QfH l11 r3_10 (Qa5 r3_5))
     have r3_12 := (Qau r3_11 e12)
     have r3_13 := (Qau r3_12 e13)
     have r3_14 := (Puts.row p14 r3_13 (Qa2 r3_12 l61))
     have r3_15 := (Qau r3_14 e15)
     have r3_16 := (Qau r3_15 e16)
     refine Qab (.agg (cat [ints .u8 (gq), #[.int .i64 eq_], #[.int .i64 fq], #[.int .i64 nq], #[.slice a_s sealed.length c_s]])) 90 rfl kj (Qaz 81 _ g3 81 _ _ r3_16 rfl kj kj (isz (n := 36) kj (by rw [Qaa, Qaa, Qaa, Qaa, Qaa]; simp only [Array.size_append, cat, ((Qad _ _).trans hql)]; rfl))) ?_
     refine Qah (fun v W' => (PutR W16.heap.size none) v W' ∧ Ext W16 W') 34 #[.agg (cat [ints .u8 (gq), #[.int .i64 eq_], #[.int .i64 fq], #[.int .i64 nq], #[.slice a_s sealed.length c_s]])] 91 rfl kj kj ((Qdi gq eq_ fq nq sealed _ _ _ hql hqb (by omega) hsb (RdK.here (RdK.ext hse x16)) ((QcL gq eq_ fq nq sealed).trans hT)).mono (by rintro e w' ⟨v, rfl, e1, hv⟩; exact ⟨v, rfl, hv, e1⟩)) fun vv64 W17 hh64 => ?_
     obtain ⟨hv64, e17⟩ := hh64
     have x17 : Ext w W17 := Ext.tr x16 e17
     have hv17 : vv64 = .tuple #[.slice none 0 0, .iface 102 (.int .i64 3)] := hv64
     subst hv17
     refine Qab (.tuple #[.slice none 0 0, .iface 102 (.int .i64 3)]) 89 rfl kj kj ?_
     refine Qab (.slice none 0 0) 92 rfl kj kj ?_
     refine Qab (.iface 102 (.int .i64 3)) 93 rfl kj kj ?_
     refine Qab (.slice none 0 0) 17 rfl kj kj ?_
     refine Qab (.iface 102 (.int .i64 3)) 18 rfl kj kj ?_
     refine Qaf ?_
     refine hK63 _ _ ?_
     refine wp_seq_k fun K65 hK65 => ?_
     refine wp_seq_k fun K66 hK66 => ?_
     refine Qae ?_
     refine Qab (.iface 102 (.int .i64 3)) 94 rfl kj kj ?_
     refine Qab (.bool true) 95 rfl kj kj ?_
     refine Qaf ?_
     refine hK66 _ _ ?_
     refine cond_true kj ?_
     refine wp_seq_k fun K67 hK67 => ?_
     refine Qae ?_
     refine Qab (.slice none 0 0) 96 rfl kj kj ?_
     refine Qab (.int .i64 0) 97 rfl kj kj ?_
     refine Qab (.bool true) 98 rfl kj kj ?_
     refine Qab (.bool true) 8 rfl kj kj ?_
     refine Qaf ?_
     refine hK67 _ _ ?_
     refine wp_ret ?_
     repeat (first | with_reducible refine goR1 ?_ | with_reducible refine goR2 ?_)
     exact (show bodyPost _ _ _ .ret _ _ from ret1 (.bool true) rfl (Qa1 kj) ⟨rfl, x17⟩)
    ·skip
     obtain ⟨hR1, -, -, -, -, -, hcl, hpo2⟩ := Qef gq eq_ fq nq sealed cs hql hT
     have hcsb : Qao cs := Qdq gq eq_ fq nq sealed cs hqb hsb hT
     obtain ⟨kkcs, hkcs, hkkcs⟩ := Qe0 at_ cs.length hpo2
     refine Qae ?_
     have r3_5 := (Qau r3_4 e5)
     have r3_6 := (Qau r3_5 e6)
     have r3_7 := (Qau r3_6 e7)
     have r3_8 := (Qau r3_7 e8)
     have r3_9 := (Puts.row p9 r3_8 (Qa2 r3_7 l52))
     have r3_10 := (Qau r3_9 e10)
     have r3_11 := (QfH l11 r3_10 (Qa5 r3_5))
     have r3_12 := (Qau r3_11 e12)
     have r3_13 := (Qau r3_12 e13)
     have r3_14 := (Puts.row p14 r3_13 (Qa2 r3_12 l61))
     have r3_15 := (Qau r3_14 e15)
     have r3_16 := (Qau r3_15 e16)
     refine Qab (.agg (cat [ints .u8 (gq), #[.int .i64 eq_], #[.int .i64 fq], #[.int .i64 nq], #[.slice a_s sealed.length c_s]])) 90 rfl kj (Qaz 81 _ g3 81 _ _ r3_16 rfl kj kj (isz (n := 36) kj (by rw [Qaa, Qaa, Qaa, Qaa, Qaa]; simp only [Array.size_append, cat, ((Qad _ _).trans hql)]; rfl))) ?_
     refine Qah (fun v W' => (PutR W16.heap.size (some cs)) v W' ∧ Ext W16 W') 34 #[.agg (cat [ints .u8 (gq), #[.int .i64 eq_], #[.int .i64 fq], #[.int .i64 nq], #[.slice a_s sealed.length c_s]])] 91 rfl kj kj ((Qct gq eq_ fq nq sealed _ _ _ hql hqb (by omega) hsb (RdK.here (RdK.ext hse x16)) cs ((QcL gq eq_ fq nq sealed).trans hT)).mono (by rintro e w' ⟨v, rfl, e1, hv⟩; exact ⟨v, rfl, hv, e1⟩)) fun vv68 W17 hh68 => ?_
     obtain ⟨hv68, e17⟩ := hh68
     have x17 : Ext w W17 := Ext.tr x16 e17
     obtain ⟨u69_, rfl, hu69_⟩ := hv68
     obtain ⟨a69_, c69_, rfl, -⟩ := id (OwnN.rd hu69_)
     refine Qab (.tuple #[.slice a69_ ((cs).length) c69_, .nilIface]) 89 rfl kj kj ?_
     refine Qab (.slice a69_ ((cs).length) c69_) 92 rfl kj kj ?_
     refine Qab (.nilIface) 93 rfl kj kj ?_
     refine Qab (.slice a69_ ((cs).length) c69_) 17 rfl kj kj ?_
     refine Qab (.nilIface) 18 rfl kj kj ?_
     refine Qaf ?_
     refine hK63 _ _ ?_
     refine wp_seq_k fun K70 hK70 => ?_
     refine wp_seq_k fun K71 hK71 => ?_
     refine Qae ?_
     refine Qab (.nilIface) 94 rfl kj kj ?_
     refine Qab (.bool false) 95 rfl kj kj ?_
     refine Qaf ?_
     refine hK71 _ _ ?_
     refine cond_false kj ?_
     refine wp_skip ?_
     refine hK70 _ _ ?_
     refine wp_seq_k fun K72 hK72 => ?_
     refine Qae ?_
     refine Qab (.slice a69_ ((cs).length) c69_) 100 rfl kj kj ?_
     refine Qab (.int .i64 at_) 101 rfl kj kj ?_
     refine Qab (.int .u64 (IntKind.u64.wrap (at_))) 102 rfl kj kj ?_
     refine Qab (.slice a69_ ((cs).length) c69_) 103 rfl kj kj ?_
     refine Qab (.int .i64 (((cs).length : Nat) : Int)) 104 rfl kj kj ?_
     refine Qab (.int .u64 (((cs.length : Nat) : Int))) 105 rfl kj (Qa0 (u := .int .u64 (IntKind.u64.wrap (((cs).length : Nat) : Int))) kj (congrArg (Value.int .u64) (Qeq cs.length hcl))) ?_
     refine Qab (.int .u64 ((kkcs : Nat) : Int)) 106 rfl kj (Qcp .rem _ _ _ _ .u64 .u64 _ _ _ rfl kj kj ((Qh9 _ .u64 _ ((cs.length : Nat) : Int) (by omega)).trans (by rw [hkkcs]))) ?_
     refine Qab (.int .i64 (((kkcs : Nat) : Int))) 107 rfl kj (Qa0 (u := .int .i64 (IntKind.i64.wrap ((kkcs : Nat) : Int))) kj (congrArg (Value.int .i64) (QeF kkcs (by omega)))) ?_
     refine Qco (k := .u8) 26 (.tmp 100) (.tmp 107) kkcs 5 rfl kj (OwnN.rd hu69_) kj kj .i64 kj (Nat.le_of_lt hkcs) 108 rfl kj fun u73_ ru73_ => ?_
     obtain ⟨a73_, c73_, rfl, -⟩ := id ru73_
     refine Qa8 (.tuple #[.agg (cat [ints .u8 (List.replicate 32 0), #[.int .i64 0], #[.int .i64 0], #[.int .i64 0], #[.slice none 0 0]]), .iface 102 (.int .i64 3)]) 36 #[.slice a73_ ((cs.take kkcs).length) c73_] 109 rfl kj kj (Qbu (cs.take kkcs) _ _ _ (fun x hx => hcsb x (List.mem_of_mem_take hx)) (RdK.here ru73_) (QfO (R := QbB) (fun _ _ _ => QdK) cs kkcs hcl hR1 hkcs)) fun W18 e18 => ?_
     have x18 : Ext w W18 := Ext.tr x17 e18
     refine Qab (.tuple #[.agg (cat [ints .u8 (List.replicate 32 0), #[.int .i64 0], #[.int .i64 0], #[.int .i64 0], #[.slice none 0 0]]), .iface 102 (.int .i64 3)]) 99 rfl kj kj ?_
     refine Qab (.agg (cat [ints .u8 (List.replicate 32 0), #[.int .i64 0], #[.int .i64 0], #[.int .i64 0], #[.slice none 0 0]])) 110 rfl kj kj ?_
     refine Qab (.iface 102 (.int .i64 3)) 111 rfl kj kj ?_
     refine Qar (cat [ints .u8 (List.replicate 32 0), #[.int .i64 0], #[.int .i64 0], #[.int .i64 0], #[.slice none 0 0]]) 81 19 rfl kj kj fun g74 W19 l74 e19 r74_19 => ?_
     have x19 : Ext w W19 := Ext.tr x18 e19
     have b74 : w.heap.size ≤ g74 := Nat.le_trans x18.size l74
     refine Qav g74 _ (cat [ints .u8 (List.replicate 32 0), #[.int .i64 0], #[.int .i64 0], #[.int .i64 0], #[.slice none 0 0]]) 81 r74_19 rfl kj (Qat 81 _ _ g74 81 _ _ r74_19 rfl kj kj (isz (n := 36) kj (by rw [Qaa, Qaa, Qaa, Qaa, Qaa]; simp only [Array.size_append, cat, ((Qad _ _).trans (List.length_replicate (n := 32)))]; rfl)) (eqsz (n := 36) (by rw [Qaa, Qaa, Qaa, Qaa, Qaa]; simp only [Array.size_append, cat, ((Qad _ _).trans (List.length_replicate (n := 32)))]; rfl) (by rw [Qaa, Qaa, Qaa, Qaa, Qaa]; simp only [Array.size_append, cat, ((Qad _ _).trans (List.length_replicate (n := 32)))]; rfl)) (QaC _ (by intro a ha; simp only [List.mem_cons, List.not_mem_nil, or_false] at ha; rcases ha with rfl | rfl | rfl | rfl | rfl; exact (Qan _ _); exact (Qak _ rfl); exact (Qak _ rfl); exact (Qak _ rfl); exact (Qak _ rfl)))) fun W20 p20 r74_20 => ?_
     have x20 : Ext w W20 := Puts.ext p20 x19 b74
     refine Qab (.iface 102 (.int .i64 3)) 20 rfl kj kj ?_
     refine Qaf ?_
     refine hK72 _ _ ?_
     refine wp_seq_k fun K75 hK75 => ?_
     refine Qae ?_
     refine Qab (.slice a69_ ((cs).length) c69_) 113 rfl kj kj ?_
     refine Qab (.int .u8 more) 114 rfl kj kj ?_
     refine Qb5 (ints .u8 ([more])) 5 1 115 rfl kj kj fun g76 W21 l76 e21 r76_21 => ?_
     have x21 : Ext w W21 := Ext.tr x20 e21
     have b76 : w.heap.size ≤ g76 := Nat.le_trans x20.size l76
     have f78_18 := (hu69_.ext e18)
     have f79_19 := (f78_18.ext e19)
     have f80_20 := (f79_19.puts p20 (QcI f78_18 l74))
     have f81_21 := (f80_20.ext e21)
     have y16_17 : Ext W16 W17 := (Rely.Ext.trans (Rely.Ext.refl W16) e17)
     have y16_18 : Ext W16 W18 := (Rely.Ext.trans y16_17 e18)
     have y16_19 : Ext W16 W19 := (Rely.Ext.trans y16_18 e19)
     have y16_20 : Ext W16 W20 := (Puts.ext p20 y16_19 (Nat.le_trans y16_18.size l74))
     have y16_21 : Ext W16 W21 := (Rely.Ext.trans y16_20 e21)
     refine QbS (k := .u8) (T := 5) (xs := cs) (ys := [more]) (V := W16) 1 (.tmp 113) (.tmp 115) 26 rfl kj kj (by decide) 116 rfl kj kj kj f81_21 (Qcf (xs := [more]) (n := 1) rfl r76_21 (Qa5 r76_21) (show 1 ≤ maxLen from by decide)) (by simp only [List.length_cons, List.length_nil]; omega) y16_21 fun nb77 W22 f82 y22 l22 => ?_
     have x22 : Ext w W22 := Ext.low x21 l22 x16.size
     obtain ⟨a77_, c77_, rfl, -⟩ := id (OwnN.rd f82)
     refine Qa8 (.tuple #[.agg (cat [ints .u8 (List.replicate 32 0), #[.int .i64 0], #[.int .i64 0], #[.int .i64 0], #[.slice none 0 0]]), .iface 102 (.int .i64 3)]) 36 #[.slice a77_ ((cs ++ [more]).length) c77_] 117 rfl kj kj (Qbu (cs ++ [more]) _ _ _ (Qa3 hcsb hmo) (RdK.here (OwnN.rd f82)) (QeC (R := QbB) (fun _ _ _ => QdK) Qdr cs more hcl hR1)) fun W23 e23 => ?_
     have x23 : Ext w W23 := Ext.tr x22 e23
     refine Qab (.tuple #[.agg (cat [ints .u8 (List.replicate 32 0), #[.int .i64 0], #[.int .i64 0], #[.int .i64 0], #[.slice none 0 0]]), .iface 102 (.int .i64 3)]) 112 rfl kj kj ?_
     refine Qab (.agg (cat [ints .u8 (List.replicate 32 0), #[.int .i64 0], #[.int .i64 0], #[.int .i64 0], #[.slice none 0 0]])) 118 rfl kj kj ?_
     refine Qab (.iface 102 (.int .i64 3)) 119 rfl kj kj ?_
     refine Qar (cat [ints .u8 (List.replicate 32 0), #[.int .i64 0], #[.int .i64 0], #[.int .i64 0], #[.slice none 0 0]]) 81 21 rfl kj kj fun g83 W24 l83 e24 r83_24 => ?_
     have x24 : Ext w W24 := Ext.tr x23 e24
     have b83 : w.heap.size ≤ g83 := Nat.le_trans x23.size l83
     refine Qav g83 _ (cat [ints .u8 (List.replicate 32 0), #[.int .i64 0], #[.int .i64 0], #[.int .i64 0], #[.slice none 0 0]]) 81 r83_24 rfl kj (Qat 81 _ _ g83 81 _ _ r83_24 rfl kj kj (isz (n := 36) kj (by rw [Qaa, Qaa, Qaa, Qaa, Qaa]; simp only [Array.size_append, cat, ((Qad _ _).trans (List.length_replicate (n := 32)))]; rfl)) (eqsz (n := 36) (by rw [Qaa, Qaa, Qaa, Qaa, Qaa]; simp only [Array.size_append, cat, ((Qad _ _).trans (List.length_replicate (n := 32)))]; rfl) (by rw [Qaa, Qaa, Qaa, Qaa, Qaa]; simp only [Array.size_append, cat, ((Qad _ _).trans (List.length_replicate (n := 32)))]; rfl)) (QaC _ (by intro a ha; simp only [List.mem_cons, List.not_mem_nil, or_false] at ha; rcases ha with rfl | rfl | rfl | rfl | rfl; exact (Qan _ _); exact (Qak _ rfl); exact (Qak _ rfl); exact (Qak _ rfl); exact (Qak _ rfl)))) fun W25 p25 r83_25 => ?_
     have x25 : Ext w W25 := Puts.ext p25 x24 b83
     refine Qab (.iface 102 (.int .i64 3)) 22 rfl kj kj ?_
     refine Qaf ?_
     refine hK75 _ _ ?_
     refine wp_seq_k fun K84 hK84 => ?_
     refine Qae ?_
     refine Qab (.iface 102 (.int .i64 3)) 120 rfl kj kj ?_
     refine Qa8 (.bool true) 45 #[.iface 102 (.int .i64 3), .int .i64 3] 121 rfl kj kj ((is3) _) fun W26 e26 => ?_
     have x26 : Ext w W26 := Ext.tr x25 e26
     refine Qab (.bool true) 122 rfl kj kj ?_
     refine Qab (.iface 102 (.int .i64 3)) 123 rfl kj kj ?_
     refine Qa8 (.bool true) 45 #[.iface 102 (.int .i64 3), .int .i64 3] 124 rfl kj kj ((is3) _) fun W27 e27 => ?_
     have x27 : Ext w W27 := Ext.tr x26 e27
     refine Qab (.bool true) 125 rfl kj kj ?_
     refine Qab (.bool true) 8 rfl kj kj ?_
     refine Qaf ?_
     refine hK84 _ _ ?_
     refine wp_ret ?_
     repeat (first | with_reducible refine goR1 ?_ | with_reducible refine goR2 ?_)
     exact (show bodyPost _ _ _ .ret _ _ from ret1 (.bool true) rfl (Qa1 kj) ⟨rfl, x27⟩)
theorem QhF (grp : List Int) (ep fr : Int) (bas : List Int) (ps : List PrV) (n : NdC) (ts : List StV) (tag sig : List Int) (a_p : Option Addr) (c_p : Nat) (a_m : Option Addr) (c_m : Nat) (a_t : Option Addr) (c_t : Nat) (gq : List Int) (eq_ fq nq : Int) (sealed : List Int) (a_s : Option Addr) (c_s : Nat) (at_ more : Int) (w : World) (ho : CmOk grp bas n tag sig) (hcm : CmAt w.heap.size w ps a_p n a_m c_m ts a_t) (hql : gq.length = 32) (hqb : Qao gq) (hsb : Qao sealed) (hse : RdK .u8 w.heap.size sealed (.slice a_s sealed.length c_s) w) (hmo : Qao [more]) : Calls Try.prog 48 #[.agg (cat [ints .u8 (grp), #[.int .i64 ep], #[.int .i64 fr], ints .u8 (bas), #[.slice a_p ps.length c_p], #[.bool n.us], #[.int .i64 n.nm], ints .u8 (n.key), ints .u8 (n.sg), ints .u8 (n.pa), #[.slice a_m n.ms.length c_m], #[.slice a_t ts.length c_t], ints .u8 (tag), ints .u8 (sig)]), .agg (cat [ints .u8 (gq), #[.int .i64 eq_], #[.int .i64 fq], #[.int .i64 nq], #[.slice a_s sealed.length c_s]]), .int .i64 at_, .int .u8 more] w (Ret w (.bool true)) := by
  by_cases h1 : 50 < ps.length
  · exact QgO grp ep fr bas ps n ts tag sig a_p c_p a_m c_m a_t c_t gq eq_ fq nq sealed a_s c_s at_ more w ho hcm hql hqb hsb hse hmo h1
  · exact QgN grp ep fr bas ps n ts tag sig a_p c_p a_m c_m a_t c_t gq eq_ fq nq sealed a_s c_s at_ more w ho hcm hql hqb hsb hse hmo (by omega)
set_option maxHeartbeats 4000000 in
set_option maxRecDepth 100000 in
theorem lawSh (grp : List Int) (ep fr : Int) (bas : List Int) (ps : List PrV) (n : NdC) (ts : List StV) (tag sig : List Int) (a_p : Option Addr) (c_p : Nat) (a_m : Option Addr) (c_m : Nat) (a_t : Option Addr) (c_t : Nat) (gq : List Int) (eq_ fq nq : Int) (sealed : List Int) (a_s : Option Addr) (c_s : Nat) (at_ more : Int) (w : World) (ho : CmOk grp bas n tag sig) (hcm : CmAt w.heap.size w ps a_p n a_m c_m ts a_t) (hql : gq.length = 32) (hqb : Qao gq) (hsb : Qao sealed) (hse : RdK .u8 w.heap.size sealed (.slice a_s sealed.length c_s) w) (hmo : Qao [more]) : Calls Try.prog 11 #[.agg (cat [ints .u8 (grp), #[.int .i64 ep], #[.int .i64 fr], ints .u8 (bas), #[.slice a_p ps.length c_p], #[.bool n.us], #[.int .i64 n.nm], ints .u8 (n.key), ints .u8 (n.sg), ints .u8 (n.pa), #[.slice a_m n.ms.length c_m], #[.slice a_t ts.length c_t], ints .u8 (tag), ints .u8 (sig), ints .u8 (gq), #[.int .i64 eq_], #[.int .i64 fq], #[.int .i64 nq], #[.slice a_s sealed.length c_s], #[.int .i64 at_], #[.int .u8 more]])] w (Ret w (.bool true)) := by
  refine enter 12 [(0, .agg (cat [ints .u8 (grp), #[.int .i64 ep], #[.int .i64 fr], ints .u8 (bas), #[.slice a_p ps.length c_p], #[.bool n.us], #[.int .i64 n.nm], ints .u8 (n.key), ints .u8 (n.sg), ints .u8 (n.pa), #[.slice a_m n.ms.length c_m], #[.slice a_t ts.length c_t], ints .u8 (tag), ints .u8 (sig), ints .u8 (gq), #[.int .i64 eq_], #[.int .i64 fq], #[.int .i64 nq], #[.slice a_s sealed.length c_s], #[.int .i64 at_], #[.int .u8 more]]))] Try.func11 rfl rfl kj rfl ?_
  refine wp_seq_k fun K1 hK1 => ?_
  refine Qae ?_
  refine Qar (cat [ints .u8 (grp), #[.int .i64 ep], #[.int .i64 fr], ints .u8 (bas), #[.slice a_p ps.length c_p], #[.bool n.us], #[.int .i64 n.nm], ints .u8 (n.key), ints .u8 (n.sg), ints .u8 (n.pa), #[.slice a_m n.ms.length c_m], #[.slice a_t ts.length c_t], ints .u8 (tag), ints .u8 (sig), ints .u8 (gq), #[.int .i64 eq_], #[.int .i64 fq], #[.int .i64 nq], #[.slice a_s sealed.length c_s], #[.int .i64 at_], #[.int .u8 more]]) 107 1 rfl kj kj fun g2 W1 l2 e1 r2_1 => ?_
  have x1 : Ext w W1 := Ext.tr (Rely.Ext.refl w) e1
  have b2 : w.heap.size ≤ g2 := Nat.le_trans (Rely.Ext.refl w).size l2
  refine Qab (.bool false) 2 rfl kj kj ?_
  refine Qaf ?_
  refine hK1 _ _ ?_
  refine wp_seq_k fun K3 hK3 => ?_
  refine Qae ?_
  refine Qab (.pointer (some ⟨g2, 0, none⟩)) 3 rfl kj kj ?_
  refine Qab (.agg (cat [ints .u8 (grp), #[.int .i64 ep], #[.int .i64 fr], ints .u8 (bas), #[.slice a_p ps.length c_p], #[.bool n.us], #[.int .i64 n.nm], ints .u8 (n.key), ints .u8 (n.sg), ints .u8 (n.pa), #[.slice a_m n.ms.length c_m], #[.slice a_t ts.length c_t], ints .u8 (tag), ints .u8 (sig)])) 4 rfl kj (Qay 59 _ g2 0 107 _ _ _ r2_1 rfl kj (Qaq [] [ints .u8 (grp), #[.int .i64 ep], #[.int .i64 fr], ints .u8 (bas), #[.slice a_p ps.length c_p], #[.bool n.us], #[.int .i64 n.nm], ints .u8 (n.key), ints .u8 (n.sg), ints .u8 (n.pa), #[.slice a_m n.ms.length c_m], #[.slice a_t ts.length c_t], ints .u8 (tag), ints .u8 (sig)] [ints .u8 (gq), #[.int .i64 eq_], #[.int .i64 fq], #[.int .i64 nq], #[.slice a_s sealed.length c_s], #[.int .i64 at_], #[.int .u8 more]] 0 kj) kj (isz (n := 263) kj (by rw [Qaa, Qaa, Qaa, Qaa, Qaa, Qaa, Qaa, Qaa, Qaa, Qaa, Qaa, Qaa, Qaa, Qaa]; simp only [Array.size_append, cat, ((Qad _ _).trans ho.al), ((Qad _ _).trans ho.gl), ((Qad _ _).trans ho.il), ((Qad _ _).trans ho.n.gl), ((Qad _ _).trans ho.n.kl), ((Qad _ _).trans ho.n.pl), ((Qad _ _).trans ho.rl)]; rfl))) ?_
  refine Qab (.pointer (some ⟨g2, 263, none⟩)) 5 rfl kj kj ?_
  refine Qab (.agg (cat [ints .u8 (gq), #[.int .i64 eq_], #[.int .i64 fq], #[.int .i64 nq], #[.slice a_s sealed.length c_s]])) 6 rfl kj (Qay 81 _ g2 263 107 _ _ _ r2_1 rfl kj (Qaq [ints .u8 (grp), #[.int .i64 ep], #[.int .i64 fr], ints .u8 (bas), #[.slice a_p ps.length c_p], #[.bool n.us], #[.int .i64 n.nm], ints .u8 (n.key), ints .u8 (n.sg), ints .u8 (n.pa), #[.slice a_m n.ms.length c_m], #[.slice a_t ts.length c_t], ints .u8 (tag), ints .u8 (sig)] [ints .u8 (gq), #[.int .i64 eq_], #[.int .i64 fq], #[.int .i64 nq], #[.slice a_s sealed.length c_s]] [#[.int .i64 at_], #[.int .u8 more]] 263 (by rw [Qaa, Qaa, Qaa, Qaa, Qaa, Qaa, Qaa, Qaa, Qaa, Qaa, Qaa, Qaa, Qaa, Qaa]; simp only [Array.size_append, cat, ((Qad _ _).trans ho.al), ((Qad _ _).trans ho.gl), ((Qad _ _).trans ho.il), ((Qad _ _).trans ho.n.gl), ((Qad _ _).trans ho.n.kl), ((Qad _ _).trans ho.n.pl), ((Qad _ _).trans ho.rl)]; rfl)) kj (isz (n := 36) kj (by rw [Qaa, Qaa, Qaa, Qaa, Qaa]; simp only [Array.size_append, cat, ((Qad _ _).trans hql)]; rfl))) ?_
  refine Qab (.pointer (some ⟨g2, 299, none⟩)) 7 rfl kj kj ?_
  refine Qab (.int .i64 at_) 8 rfl kj (Qal 3 _ g2 299 107 _ (.int .i64 at_) _ r2_1 rfl kj (Qaq [ints .u8 (grp), #[.int .i64 ep], #[.int .i64 fr], ints .u8 (bas), #[.slice a_p ps.length c_p], #[.bool n.us], #[.int .i64 n.nm], ints .u8 (n.key), ints .u8 (n.sg), ints .u8 (n.pa), #[.slice a_m n.ms.length c_m], #[.slice a_t ts.length c_t], ints .u8 (tag), ints .u8 (sig), ints .u8 (gq), #[.int .i64 eq_], #[.int .i64 fq], #[.int .i64 nq], #[.slice a_s sealed.length c_s]] [#[.int .i64 at_]] [#[.int .u8 more]] 299 (by rw [Qaa, Qaa, Qaa, Qaa, Qaa, Qaa, Qaa, Qaa, Qaa, Qaa, Qaa, Qaa, Qaa, Qaa, Qaa, Qaa, Qaa, Qaa, Qaa]; simp only [Array.size_append, cat, ((Qad _ _).trans ho.al), ((Qad _ _).trans ho.gl), ((Qad _ _).trans ho.il), ((Qad _ _).trans ho.n.gl), ((Qad _ _).trans ho.n.kl), ((Qad _ _).trans ho.n.pl), ((Qad _ _).trans ho.rl), ((Qad _ _).trans hql)]; rfl) 0 _ rfl) kj) ?_
  refine Qab (.pointer (some ⟨g2, 300, none⟩)) 9 rfl kj kj ?_
  refine Qab (.int .u8 more) 10 rfl kj (Qal 5 _ g2 300 107 _ (.int .u8 more) _ r2_1 rfl kj (Qaq [ints .u8 (grp), #[.int .i64 ep], #[.int .i64 fr], ints .u8 (bas), #[.slice a_p ps.length c_p], #[.bool n.us], #[.int .i64 n.nm], ints .u8 (n.key), ints .u8 (n.sg), ints .u8 (n.pa), #[.slice a_m n.ms.length c_m], #[.slice a_t ts.length c_t], ints .u8 (tag), ints .u8 (sig), ints .u8 (gq), #[.int .i64 eq_], #[.int .i64 fq], #[.int .i64 nq], #[.slice a_s sealed.length c_s], #[.int .i64 at_]] [#[.int .u8 more]] [] 300 (by rw [Qaa, Qaa, Qaa, Qaa, Qaa, Qaa, Qaa, Qaa, Qaa, Qaa, Qaa, Qaa, Qaa, Qaa, Qaa, Qaa, Qaa, Qaa, Qaa, Qaa]; simp only [Array.size_append, cat, ((Qad _ _).trans ho.al), ((Qad _ _).trans ho.gl), ((Qad _ _).trans ho.il), ((Qad _ _).trans ho.n.gl), ((Qad _ _).trans ho.n.kl), ((Qad _ _).trans ho.n.pl), ((Qad _ _).trans ho.rl), ((Qad _ _).trans hql)]; rfl) 0 _ rfl) kj) ?_
  refine Qa8 (.bool true) 48 #[.agg (cat [ints .u8 (grp), #[.int .i64 ep], #[.int .i64 fr], ints .u8 (bas), #[.slice a_p ps.length c_p], #[.bool n.us], #[.int .i64 n.nm], ints .u8 (n.key), ints .u8 (n.sg), ints .u8 (n.pa), #[.slice a_m n.ms.length c_m], #[.slice a_t ts.length c_t], ints .u8 (tag), ints .u8 (sig)]), .agg (cat [ints .u8 (gq), #[.int .i64 eq_], #[.int .i64 fq], #[.int .i64 nq], #[.slice a_s sealed.length c_s]]), .int .i64 at_, .int .u8 more] 11 rfl kj kj (QhF grp ep fr bas ps n ts tag sig _ _ _ _ _ _ gq eq_ fq nq sealed _ _ at_ more _ ho (CmAt.here (CmAt.ext hcm x1)) hql hqb hsb (RdK.here (RdK.ext hse x1)) hmo) fun W2 e2 => ?_
  have x2 : Ext w W2 := Ext.tr x1 e2
  refine Qab (.bool true) 2 rfl kj kj ?_
  refine Qaf ?_
  refine hK3 _ _ ?_
  refine wp_ret ?_
  repeat (first | with_reducible refine goR1 ?_ | with_reducible refine goR2 ?_)
  exact (show bodyPost _ _ _ .ret _ _ from ret1 (.bool true) rfl (Qa1 kj) ⟨rfl, x2⟩)
end Go.Proofs.Ytfelfmchachljaa.Wr
end
section
namespace Go.Proofs.Ytfelfmchachljaa.Auto
open Go Go.RowKit Go.WideShapes
open Rely
set_option linter.unusedVariables false
section
variable {H : Type} {enc : TypeId × Value → H} {P : Program} {W w : World} {r : Reach} {base b0 : Nat} {sp : Nat → Bool} {held : Bool}
theorem open_raw {n : Nat} {t e : TypeId} {cs : List Value} {fuel : Nat} {x : DataW H × List MemPlace} (ht : P.underlying t = some (.array n e)) (he : P.underlying e = some (.int .u8)) (hce : P.cellsOf e = 1) (hct : P.cellsOf t = n)
    (hf : DataW.trod enc P w b0 sp held fuel t cs = some x) : ∃ xs : List Int, cs = xs.map (Value.int .u8) ∧ xs.length = n ∧ Qao xs := by
  obtain ⟨xs, m, -, -, hl, hn, hx⟩ := DataW.trod_array ht hf
  have hcs : cs.length = n := by simpa [hct] using hl
  have each : ∀ i, i < n → ∃ z : Int, cs[i]? = some (.int .u8 z) ∧ (0 ≤ z ∧ z ≤ 255) := by
    intro i hi
    have h1 := hx i hi
    rw [hce, Nat.mul_one] at h1
    have hlt : i < cs.length := by omega
    have h2 : cs.drop i = cs[i] :: cs.drop (i + 1) := List.drop_eq_getElem_cons hlt
    have h1 : DataW.trod enc P w b0 sp held m e ((cs.drop i).take 1) = xs[i]? := h1
    rw [h2] at h1
    simp only [List.take_succ_cons, List.take_zero] at h1
    obtain ⟨y, hy⟩ : ∃ y, xs[i]? = some y := ⟨xs[i], by simp [hn, hi]⟩
    rw [hy] at h1
    obtain ⟨z, hc, -, hw⟩ := DataW.trod_int he h1
    refine ⟨z, ?_, ?_⟩
    · rw [List.getElem?_eq_getElem hlt]
      simp only [List.cons.injEq] at hc
      rw [hc.1]
    · simpa [Lit.wf, IntKind.min, IntKind.max, IntKind.signed, IntKind.bits] using hw
  have all : ∀ (l : List Value), (∀ i, i < l.length → ∃ z : Int, l[i]? = some (.int .u8 z) ∧ (0 ≤ z ∧ z ≤ 255)) → ∃ zs : List Int, l = zs.map (Value.int .u8) ∧ Qao zs := by
    intro l
    induction l with
    | nil => exact fun _ => ⟨[], rfl, fun x hx => by simp at hx⟩
    | cons a l ih =>
      intro h
      obtain ⟨zs, h1, h2⟩ := ih fun i hi => by simpa using h (i + 1) (by simp; omega)
      obtain ⟨z, h3, h4⟩ := h 0 (by simp)
      simp only [List.getElem?_cons_zero, Option.some.injEq] at h3
      refine ⟨z :: zs, by rw [h3, h1]; rfl, fun x hx => ?_⟩
      rcases List.mem_cons.1 hx with e | e
      · rw [e]; exact h4
      · exact h2 x e
  obtain ⟨zs, h1, h2⟩ := all cs fun i hi => each i (by omega)
  exact ⟨zs, h1, by rw [← hcs, h1, List.length_map], h2⟩
theorem open_st4 {t : TypeId} {f0 f1 f2 f3 : Field} {v : Value} {d : DataW H} {p : List MemPlace} {n0 n1 n2 n3 : Nat} (hs : P.underlying t = some (.struct #[f0, f1, f2, f3]))
    (ho : f0.offset = 0 ∧ f1.offset = n0 ∧ f2.offset = n0 + n1 ∧ f3.offset = n0 + n1 + n2) (hc : P.cellsOf f0.type = n0 ∧ P.cellsOf f1.type = n1 ∧ P.cellsOf f2.type = n2 ∧ P.cellsOf f3.type = n3) (hC : P.cellsOf t = n0 + n1 + n2 + n3)
    (hv : Value.okWide P W r base t v) (h : DataW.Trod enc P w b0 sp held t v d p) :
    ∃ (A B C D : List Value) (y0 y1 y2 y3 : DataW H × List MemPlace) (n : Nat), v = .agg (A ++ B ++ C ++ D).toArray ∧
      DataW.trod enc P w b0 sp held n f0.type A = some y0 ∧ DataW.trod enc P w b0 sp held n f1.type B = some y1 ∧ DataW.trod enc P w b0 sp held n f2.type C = some y2 ∧ DataW.trod enc P w b0 sp held n f3.type D = some y3 := by
  obtain ⟨cs, rfl, hsz⟩ := okWide_struct hs hv
  obtain ⟨fuel, hf⟩ := h
  obtain ⟨y0, y1, y2, y3, n, -, hlen, h0, h1, h2, h3⟩ := Joins.trod_struct4 hs hf
  obtain ⟨o0, o1, o2, o3⟩ := ho
  obtain ⟨c0, c1, c2, c3⟩ := hc
  rw [o0, c0] at h0
  rw [o1, c1] at h1
  rw [o2, c2] at h2
  rw [o3, c3] at h3
  refine ⟨_, _, _, _, y0, y1, y2, y3, n, ?_, h0, h1, h2, h3⟩
  congr 1
  have hl : cs.toList.length = n0 + n1 + n2 + n3 := by rw [Array.length_toList, hsz, hC]
  apply Array.ext'
  show cs.toList = _
  simp only [Value.cells, List.drop_zero]
  generalize cs.toList = l at hl
  have e1 : l.take n0 ++ (l.drop n0).take n1 = l.take (n0 + n1) := by rw [List.take_add]
  have e2 : l.take (n0 + n1) ++ (l.drop (n0 + n1)).take n2 = l.take (n0 + n1 + n2) := by rw [List.take_add (i := n0 + n1)]
  have e3 : l.take (n0 + n1 + n2) ++ (l.drop (n0 + n1 + n2)).take n3 = l.take (n0 + n1 + n2 + n3) := by rw [List.take_add (i := n0 + n1 + n2)]
  rw [e1, e2, e3, List.take_of_length_le (by omega)]
end
end Go.Proofs.Ytfelfmchachljaa.Auto
end
section
namespace Go.Proofs.Ytfelfmchachljaa.Auto
open Go Go.RowKit Go.WideShapes
open Rely
set_option linter.unusedVariables false
section
variable {H : Type} {enc : TypeId × Value → H} {P : Program} {W w : World} {r : Reach} {base b0 : Nat} {sp : Nat → Bool} {held : Bool}
theorem Qge {t : TypeId} {f0 f1 : Field} {fuel : Nat} {cs : List Value} {x : DataW H × List MemPlace} (ht : P.underlying t = some (.struct #[f0, f1])) (h : DataW.trod enc P w b0 sp held fuel t cs = some x) :
    ∃ y0 y1 n, cs.length = P.cellsOf t ∧ DataW.trod enc P w b0 sp held n f0.type ((cs.drop f0.offset).take (P.cellsOf f0.type)) = some y0 ∧ DataW.trod enc P w b0 sp held n f1.type ((cs.drop f1.offset).take (P.cellsOf f1.type)) = some y1 := by
  obtain ⟨xs, n, _, rfl, hl, hlen, hf⟩ := DataW.trod_struct ht h
  match xs, hlen with
  | [y0, y1], _ => exact ⟨y0, y1, n, hl, by simpa using hf 0 f0 rfl, by simpa using hf 1 f1 rfl⟩
theorem sub_st2 {t : TypeId} {f0 f1 : Field} {fuel : Nat} {cs : List Value} {x : DataW H × List MemPlace} {n0 n1 : Nat} (ht : P.underlying t = some (.struct #[f0, f1]))
    (ho : f0.offset = 0 ∧ f1.offset = n0) (hc : P.cellsOf f0.type = n0 ∧ P.cellsOf f1.type = n1) (hC : P.cellsOf t = n0 + n1) (h : DataW.trod enc P w b0 sp held fuel t cs = some x) :
    ∃ (X0 X1 : List Value) (y0 y1 : DataW H × List MemPlace) (n : Nat), cs = X0 ++ X1 ∧ DataW.trod enc P w b0 sp held n f0.type X0 = some y0 ∧ DataW.trod enc P w b0 sp held n f1.type X1 = some y1 := by
  obtain ⟨y0, y1, n, hl, h0, h1⟩ := Qge ht h
  obtain ⟨o0, o1⟩ := ho
  obtain ⟨c0, c1⟩ := hc
  rw [o0, c0] at h0
  rw [o1, c1] at h1
  refine ⟨_, _, y0, y1, n, ?_, h0, h1⟩
  rw [hC] at hl
  simp only [List.drop_zero]
  have e1 : cs.take (n0) ++ (cs.drop (n0)).take n1 = cs.take (n0 + n1) := by rw [List.take_add (i := n0)]
  rw [e1, List.take_of_length_le (by omega)]
end
end Go.Proofs.Ytfelfmchachljaa.Auto
end
section
namespace Go.Proofs.Ytfelfmchachljaa.Auto
open Go Go.RowKit Go.WideShapes
open Rely
set_option linter.unusedVariables false
section
variable {H : Type} {enc : TypeId × Value → H} {P : Program} {W w : World} {r : Reach} {base b0 : Nat} {sp : Nat → Bool} {held : Bool}
theorem Qgc {t : TypeId} {f0 f1 f2 f3 f4 f5 : Field} {fuel : Nat} {cs : List Value} {x : DataW H × List MemPlace} (ht : P.underlying t = some (.struct #[f0, f1, f2, f3, f4, f5])) (h : DataW.trod enc P w b0 sp held fuel t cs = some x) :
    ∃ y0 y1 y2 y3 y4 y5 n, cs.length = P.cellsOf t ∧ DataW.trod enc P w b0 sp held n f0.type ((cs.drop f0.offset).take (P.cellsOf f0.type)) = some y0 ∧ DataW.trod enc P w b0 sp held n f1.type ((cs.drop f1.offset).take (P.cellsOf f1.type)) = some y1 ∧ DataW.trod enc P w b0 sp held n f2.type ((cs.drop f2.offset).take (P.cellsOf f2.type)) = some y2 ∧ DataW.trod enc P w b0 sp held n f3.type ((cs.drop f3.offset).take (P.cellsOf f3.type)) = some y3 ∧ DataW.trod enc P w b0 sp held n f4.type ((cs.drop f4.offset).take (P.cellsOf f4.type)) = some y4 ∧ DataW.trod enc P w b0 sp held n f5.type ((cs.drop f5.offset).take (P.cellsOf f5.type)) = some y5 := by
  obtain ⟨xs, n, _, rfl, hl, hlen, hf⟩ := DataW.trod_struct ht h
  match xs, hlen with
  | [y0, y1, y2, y3, y4, y5], _ => exact ⟨y0, y1, y2, y3, y4, y5, n, hl, by simpa using hf 0 f0 rfl, by simpa using hf 1 f1 rfl, by simpa using hf 2 f2 rfl, by simpa using hf 3 f3 rfl, by simpa using hf 4 f4 rfl, by simpa using hf 5 f5 rfl⟩
theorem sub_st6 {t : TypeId} {f0 f1 f2 f3 f4 f5 : Field} {fuel : Nat} {cs : List Value} {x : DataW H × List MemPlace} {n0 n1 n2 n3 n4 n5 : Nat} (ht : P.underlying t = some (.struct #[f0, f1, f2, f3, f4, f5]))
    (ho : f0.offset = 0 ∧ f1.offset = n0 ∧ f2.offset = n0 + n1 ∧ f3.offset = n0 + n1 + n2 ∧ f4.offset = n0 + n1 + n2 + n3 ∧ f5.offset = n0 + n1 + n2 + n3 + n4) (hc : P.cellsOf f0.type = n0 ∧ P.cellsOf f1.type = n1 ∧ P.cellsOf f2.type = n2 ∧ P.cellsOf f3.type = n3 ∧ P.cellsOf f4.type = n4 ∧ P.cellsOf f5.type = n5) (hC : P.cellsOf t = n0 + n1 + n2 + n3 + n4 + n5) (h : DataW.trod enc P w b0 sp held fuel t cs = some x) :
    ∃ (X0 X1 X2 X3 X4 X5 : List Value) (y0 y1 y2 y3 y4 y5 : DataW H × List MemPlace) (n : Nat), cs = X0 ++ X1 ++ X2 ++ X3 ++ X4 ++ X5 ∧ DataW.trod enc P w b0 sp held n f0.type X0 = some y0 ∧ DataW.trod enc P w b0 sp held n f1.type X1 = some y1 ∧ DataW.trod enc P w b0 sp held n f2.type X2 = some y2 ∧ DataW.trod enc P w b0 sp held n f3.type X3 = some y3 ∧ DataW.trod enc P w b0 sp held n f4.type X4 = some y4 ∧ DataW.trod enc P w b0 sp held n f5.type X5 = some y5 := by
  obtain ⟨y0, y1, y2, y3, y4, y5, n, hl, h0, h1, h2, h3, h4, h5⟩ := Qgc ht h
  obtain ⟨o0, o1, o2, o3, o4, o5⟩ := ho
  obtain ⟨c0, c1, c2, c3, c4, c5⟩ := hc
  rw [o0, c0] at h0
  rw [o1, c1] at h1
  rw [o2, c2] at h2
  rw [o3, c3] at h3
  rw [o4, c4] at h4
  rw [o5, c5] at h5
  refine ⟨_, _, _, _, _, _, y0, y1, y2, y3, y4, y5, n, ?_, h0, h1, h2, h3, h4, h5⟩
  rw [hC] at hl
  simp only [List.drop_zero]
  have e1 : cs.take (n0) ++ (cs.drop (n0)).take n1 = cs.take (n0 + n1) := by rw [List.take_add (i := n0)]
  have e2 : cs.take (n0 + n1) ++ (cs.drop (n0 + n1)).take n2 = cs.take (n0 + n1 + n2) := by rw [List.take_add (i := n0 + n1)]
  have e3 : cs.take (n0 + n1 + n2) ++ (cs.drop (n0 + n1 + n2)).take n3 = cs.take (n0 + n1 + n2 + n3) := by rw [List.take_add (i := n0 + n1 + n2)]
  have e4 : cs.take (n0 + n1 + n2 + n3) ++ (cs.drop (n0 + n1 + n2 + n3)).take n4 = cs.take (n0 + n1 + n2 + n3 + n4) := by rw [List.take_add (i := n0 + n1 + n2 + n3)]
  have e5 : cs.take (n0 + n1 + n2 + n3 + n4) ++ (cs.drop (n0 + n1 + n2 + n3 + n4)).take n5 = cs.take (n0 + n1 + n2 + n3 + n4 + n5) := by rw [List.take_add (i := n0 + n1 + n2 + n3 + n4)]
  rw [e1, e2, e3, e4, e5, List.take_of_length_le (by omega)]
end
end Go.Proofs.Ytfelfmchachljaa.Auto
end
section
namespace Go.Proofs.Ytfelfmchachljaa.Auto
open Go Go.RowKit Go.WideShapes
open Rely
set_option linter.unusedVariables false
section
variable {H : Type} {enc : TypeId × Value → H} {P : Program} {W w : World} {r : Reach} {base b0 : Nat} {sp : Nat → Bool} {held : Bool}
theorem Qga {t : TypeId} {f0 f1 f2 f3 f4 f5 f6 f7 f8 : Field} {fuel : Nat} {cs : List Value} {x : DataW H × List MemPlace} (ht : P.underlying t = some (.struct #[f0, f1, f2, f3, f4, f5, f6, f7, f8])) (h : DataW.trod enc P w b0 sp held fuel t cs = some x) :
    ∃ y0 y1 y2 y3 y4 y5 y6 y7 y8 n, cs.length = P.cellsOf t ∧ DataW.trod enc P w b0 sp held n f0.type ((cs.drop f0.offset).take (P.cellsOf f0.type)) = some y0 ∧ DataW.trod enc P w b0 sp held n f1.type ((cs.drop f1.offset).take (P.cellsOf f1.type)) = some y1 ∧ DataW.trod enc P w b0 sp held n f2.type ((cs.drop f2.offset).take (P.cellsOf f2.type)) = some y2 ∧ DataW.trod enc P w b0 sp held n f3.type ((cs.drop f3.offset).take (P.cellsOf f3.type)) = some y3 ∧ DataW.trod enc P w b0 sp held n f4.type ((cs.drop f4.offset).take (P.cellsOf f4.type)) = some y4 ∧ DataW.trod enc P w b0 sp held n f5.type ((cs.drop f5.offset).take (P.cellsOf f5.type)) = some y5 ∧ DataW.trod enc P w b0 sp held n f6.type ((cs.drop f6.offset).take (P.cellsOf f6.type)) = some y6 ∧ DataW.trod enc P w b0 sp held n f7.type ((cs.drop f7.offset).take (P.cellsOf f7.type)) = some y7 ∧ DataW.trod enc P w b0 sp held n f8.type ((cs.drop f8.offset).take (P.cellsOf f8.type)) = some y8 := by
  obtain ⟨xs, n, _, rfl, hl, hlen, hf⟩ := DataW.trod_struct ht h
  match xs, hlen with
  | [y0, y1, y2, y3, y4, y5, y6, y7, y8], _ => exact ⟨y0, y1, y2, y3, y4, y5, y6, y7, y8, n, hl, by simpa using hf 0 f0 rfl, by simpa using hf 1 f1 rfl, by simpa using hf 2 f2 rfl, by simpa using hf 3 f3 rfl, by simpa using hf 4 f4 rfl, by simpa using hf 5 f5 rfl, by simpa using hf 6 f6 rfl, by simpa using hf 7 f7 rfl, by simpa using hf 8 f8 rfl⟩
theorem sub_st9 {t : TypeId} {f0 f1 f2 f3 f4 f5 f6 f7 f8 : Field} {fuel : Nat} {cs : List Value} {x : DataW H × List MemPlace} {n0 n1 n2 n3 n4 n5 n6 n7 n8 : Nat} (ht : P.underlying t = some (.struct #[f0, f1, f2, f3, f4, f5, f6, f7, f8]))
    (ho : f0.offset = 0 ∧ f1.offset = n0 ∧ f2.offset = n0 + n1 ∧ f3.offset = n0 + n1 + n2 ∧ f4.offset = n0 + n1 + n2 + n3 ∧ f5.offset = n0 + n1 + n2 + n3 + n4 ∧ f6.offset = n0 + n1 + n2 + n3 + n4 + n5 ∧ f7.offset = n0 + n1 + n2 + n3 + n4 + n5 + n6 ∧ f8.offset = n0 + n1 + n2 + n3 + n4 + n5 + n6 + n7) (hc : P.cellsOf f0.type = n0 ∧ P.cellsOf f1.type = n1 ∧ P.cellsOf f2.type = n2 ∧ P.cellsOf f3.type = n3 ∧ P.cellsOf f4.type = n4 ∧ P.cellsOf f5.type = n5 ∧ P.cellsOf f6.type = n6 ∧ P.cellsOf f7.type = n7 ∧ P.cellsOf f8.type = n8) (hC : P.cellsOf t = n0 + n1 + n2 + n3 + n4 + n5 + n6 + n7 + n8) (h : DataW.trod enc P w b0 sp held fuel t cs = some x) :
    ∃ (X0 X1 X2 X3 X4 X5 X6 X7 X8 : List Value) (y0 y1 y2 y3 y4 y5 y6 y7 y8 : DataW H × List MemPlace) (n : Nat), cs = X0 ++ X1 ++ X2 ++ X3 ++ X4 ++ X5 ++ X6 ++ X7 ++ X8 ∧ DataW.trod enc P w b0 sp held n f0.type X0 = some y0 ∧ DataW.trod enc P w b0 sp held n f1.type X1 = some y1 ∧ DataW.trod enc P w b0 sp held n f2.type X2 = some y2 ∧ DataW.trod enc P w b0 sp held n f3.type X3 = some y3 ∧ DataW.trod enc P w b0 sp held n f4.type X4 = some y4 ∧ DataW.trod enc P w b0 sp held n f5.type X5 = some y5 ∧ DataW.trod enc P w b0 sp held n f6.type X6 = some y6 ∧ DataW.trod enc P w b0 sp held n f7.type X7 = some y7 ∧ DataW.trod enc P w b0 sp held n f8.type X8 = some y8 := by
  obtain ⟨y0, y1, y2, y3, y4, y5, y6, y7, y8, n, hl, h0, h1, h2, h3, h4, h5, h6, h7, h8⟩ := Qga ht h
  obtain ⟨o0, o1, o2, o3, o4, o5, o6, o7, o8⟩ := ho
  obtain ⟨c0, c1, c2, c3, c4, c5, c6, c7, c8⟩ := hc
  rw [o0, c0] at h0
  rw [o1, c1] at h1
  rw [o2, c2] at h2
  rw [o3, c3] at h3
  rw [o4, c4] at h4
  rw [o5, c5] at h5
  rw [o6, c6] at h6
  rw [o7, c7] at h7
  rw [o8, c8] at h8
  refine ⟨_, _, _, _, _, _, _, _, _, y0, y1, y2, y3, y4, y5, y6, y7, y8, n, ?_, h0, h1, h2, h3, h4, h5, h6, h7, h8⟩
  rw [hC] at hl
  simp only [List.drop_zero]
  have e1 : cs.take (n0) ++ (cs.drop (n0)).take n1 = cs.take (n0 + n1) := by rw [List.take_add (i := n0)]
  have e2 : cs.take (n0 + n1) ++ (cs.drop (n0 + n1)).take n2 = cs.take (n0 + n1 + n2) := by rw [List.take_add (i := n0 + n1)]
  have e3 : cs.take (n0 + n1 + n2) ++ (cs.drop (n0 + n1 + n2)).take n3 = cs.take (n0 + n1 + n2 + n3) := by rw [List.take_add (i := n0 + n1 + n2)]
  have e4 : cs.take (n0 + n1 + n2 + n3) ++ (cs.drop (n0 + n1 + n2 + n3)).take n4 = cs.take (n0 + n1 + n2 + n3 + n4) := by rw [List.take_add (i := n0 + n1 + n2 + n3)]
  have e5 : cs.take (n0 + n1 + n2 + n3 + n4) ++ (cs.drop (n0 + n1 + n2 + n3 + n4)).take n5 = cs.take (n0 + n1 + n2 + n3 + n4 + n5) := by rw [List.take_add (i := n0 + n1 + n2 + n3 + n4)]
  have e6 : cs.take (n0 + n1 + n2 + n3 + n4 + n5) ++ (cs.drop (n0 + n1 + n2 + n3 + n4 + n5)).take n6 = cs.take (n0 + n1 + n2 + n3 + n4 + n5 + n6) := by rw [List.take_add (i := n0 + n1 + n2 + n3 + n4 + n5)]
  have e7 : cs.take (n0 + n1 + n2 + n3 + n4 + n5 + n6) ++ (cs.drop (n0 + n1 + n2 + n3 + n4 + n5 + n6)).take n7 = cs.take (n0 + n1 + n2 + n3 + n4 + n5 + n6 + n7) := by rw [List.take_add (i := n0 + n1 + n2 + n3 + n4 + n5 + n6)]
  have e8 : cs.take (n0 + n1 + n2 + n3 + n4 + n5 + n6 + n7) ++ (cs.drop (n0 + n1 + n2 + n3 + n4 + n5 + n6 + n7)).take n8 = cs.take (n0 + n1 + n2 + n3 + n4 + n5 + n6 + n7 + n8) := by rw [List.take_add (i := n0 + n1 + n2 + n3 + n4 + n5 + n6 + n7)]
  rw [e1, e2, e3, e4, e5, e6, e7, e8, List.take_of_length_le (by omega)]
end
end Go.Proofs.Ytfelfmchachljaa.Auto
end
section
namespace Go.Proofs.Ytfelfmchachljaa.Auto
open Go Go.RowKit
open Rely
set_option linter.unusedVariables false
theorem bytes_wf {bs : List Int} (h : ∀ n ∈ bs, (Lit.int .u8 n).wf = true) : Qao bs := fun n hn => by
  have := h n hn
  simpa [Lit.wf, IntKind.min, IntKind.max, IntKind.signed, IntKind.bits] using this
end Go.Proofs.Ytfelfmchachljaa.Auto
end
section
namespace Go.Proofs.Ytfelfmchachljaa.Wr
open Go Go.RowKit
open Rely Auto Own Sha
set_option linter.unusedVariables false
set_option linter.unusedSimpArgs false
open Go.WideShapes Go.ChangeShapes Go.ChangeAt Go.Deep
section
variable {H : Type} {enc : TypeId × Value → H} {w : World} {b0 : Nat} {held : Bool}
theorem Qg2 (x : Addr) (i j : Nat) : (x.add i).add j = x.add (i + j) := by
  by_cases hi : i = 0 <;> by_cases hj : j = 0 <;> simp [Addr.add, hi, hj, Nat.add_assoc]
theorem Qe6 {α : Type} {El : Nat → World → Nat → Nat → α → Prop} {sz : Nat} {d : α} {P : Program} {t s : TypeId} (h0 : 0 < sz) (hs : P.underlying t = some (.slice s)) (hC : P.cellsOf s = sz)
    (hel : ∀ (fuel : Nat) (cs : List Value) (y : DataW H × List MemPlace), DataW.trod enc P w b0 (fun _ => true) held fuel s cs = some y → ∃ x : α, ∀ g off, g < w.heap.size → (∀ (j : Nat) (u : Value), cs[j]? = some u → w.cell? ⟨g, off + j, none⟩ = some u) → El w.heap.size w g off x)
    {fuel : Nat} {cs : List Value} {y : DataW H × List MemPlace} (h : DataW.trod enc P w b0 (fun _ => true) held fuel t cs = some y) :
    ∃ (ad : Option Addr) (len cap : Nat) (ts : List α), cs = [.slice ad len cap] ∧ ts.length = len ∧ LsAt El sz d w.heap.size w ad ts := by
  rcases DataW.trod_slice hs h with ⟨hcs', -⟩ | ⟨x, l, c, elems, rest, n, -, hcs', -, hb, hl, hmx, hlen, hel', -, -⟩
  · exact ⟨none, 0, 0, [], hcs', rfl, 0, 0, fun h => absurd h (Nat.lt_irrefl 0), fun i hi => absurd hi (Nat.not_lt_zero _)⟩
  · have key : ∀ i, i < l → ∃ (cs1 : List Value) (xx : α), cs1.length = sz ∧ (∀ (j : Nat) (u : Value), cs1[j]? = some u → w.cell? (x.add (i * sz + j)) = some u) ∧ (∀ g off, g < w.heap.size → (∀ (j : Nat) (u : Value), cs1[j]? = some u → w.cell? ⟨g, off + j, none⟩ = some u) → El w.heap.size w g off xx) := fun i hi => by
      have h9 := hel' i hi
      rw [hC, List.getElem?_eq_getElem (by omega)] at h9
      obtain ⟨cs1, hc1, hc2⟩ := Option.bind_eq_some_iff.1 h9
      obtain ⟨hn, q1, q2⟩ := World.cells?_some hc1
      obtain ⟨xx, hx⟩ := hel _ _ _ hc2
      refine ⟨cs1, xx, q1, fun j u hu => ?_, hx⟩
      have hj : j < sz := by have := (List.getElem?_eq_some_iff.1 hu).1; omega
      have := q2 j hj
      rw [Qg2] at this
      rw [this]; exact hu
    rcases Nat.eq_zero_or_pos l with h0' | h0'
    · subst h0'
      exact ⟨some x, 0, c, [], hcs', rfl, 0, 0, fun h => absurd h (Nat.lt_irrefl 0), fun i hi => absurd hi (Nat.not_lt_zero _)⟩
    obtain ⟨b, off, spot⟩ := x
    obtain ⟨cs0, x0, hl0, hq, -⟩ := key 0 h0'
    have hq0 := hq 0 _ (List.getElem?_eq_getElem (by omega))
    have hspot : spot = none := by simpa [Addr.add] using World.cell?_spot hq0
    subst hspot
    rw [WideShapes.add_plain] at hq0
    have hlt : b < w.heap.size := Qdu hq0
    have all : ∀ m, m ≤ l → ∃ ts : List α, ts.length = m ∧ ∀ i, i < m → El w.heap.size w b (off + i * sz) (ts.getD i d) := by
      intro m
      induction m with
      | zero => exact fun _ => ⟨[], rfl, fun i hi => absurd hi (Nat.not_lt_zero _)⟩
      | succ m ih =>
        intro hm
        obtain ⟨ts, htl, hts⟩ := ih (by omega)
        obtain ⟨cs1, n, -, k1, k2⟩ := key m (by omega)
        refine ⟨ts ++ [n], by rw [List.length_append, htl]; rfl, fun i hi => ?_⟩
        rw [QcT]
        split
        · rename_i h; exact hts i (by omega)
        · rename_i h
          obtain rfl : i = m := by omega
          rw [if_pos htl.symm]
          exact k2 _ _ hlt fun j u hu => by have := k1 j u hu; rw [WideShapes.add_plain] at this; rw [Nat.add_assoc]; exact this
    obtain ⟨ts, htl, hts⟩ := all l (Nat.le_refl _)
    exact ⟨_, l, c, ts, hcs', htl, b, off, fun _ => rfl, fun i hi => hts i (by omega)⟩
theorem Qia (fuel : Nat) (cs : List Value) (y : DataW H × List MemPlace) (h : DataW.trod enc Try.prog w b0 (fun _ => true) held fuel 26 cs = some y) : ∃ x : RwV, ∀ g off, g < w.heap.size → (∀ (j : Nat) (u : Value), cs[j]? = some u → w.cell? ⟨g, off + j, none⟩ = some u) → RwAt w.heap.size w g off x := by
  rcases open_ints Try.underlying26 Try.underlying5 kj h with ⟨hcs, -⟩ | ⟨a, l, c, zs, hcs, -, hl, hm, hz, -, hcell, hwz⟩
  · exact ⟨⟨[], none, 0⟩, fun g off hg hc => ⟨hg, hg, hc 0 _ (by rw [hcs]; rfl), ⟨none, 0, rfl, Nat.le_refl _, Nat.zero_le _, fun _ => rfl, .inl rfl⟩, fun x hx => by cases hx⟩⟩
  · obtain ⟨r, rl, rf⟩ := Auto.rdK_of_row (k := .u8) (w := w) (a := some a) (len := l) (cap := c) (zs := zs) (.inr ⟨a, rfl, hl, hm, by simpa using hz, hcell, hwz⟩)
    exact ⟨⟨zs.take l, some a, c⟩, fun g off hg hc => ⟨hg, hg, by show _ = some (Value.slice (some a) (zs.take l).length c); rw [rl]; exact hc 0 _ (by rw [hcs]; rfl), by show RdK .u8 _ _ (.slice (some a) (zs.take l).length c) w; rw [rl]; exact r, Auto.bytes_wf rf⟩⟩
theorem Qhx (fuel : Nat) (cs : List Value) (y : DataW H × List MemPlace) (h : DataW.trod enc Try.prog w b0 (fun _ => true) held fuel 129 cs = some y) : ∃ x : StV, ∀ g off, g < w.heap.size → (∀ (j : Nat) (u : Value), cs[j]? = some u → w.cell? ⟨g, off + j, none⟩ = some u) → StAt w.heap.size w g off x := by
  obtain ⟨X0, X1, y0, y1, m, hcs, t0, t1⟩ := Auto.sub_st2 (n0 := 32) (n1 := 1) Try.underlying129 ⟨by kernel_rfl, by kernel_rfl⟩ ⟨by kernel_rfl, by kernel_rfl⟩ kj h
  obtain ⟨z0, rfl, hz0, b0_⟩ := open_raw Try.underlying40 Try.underlying5 kj kj t0
  obtain ⟨ad, len, cap, rows, rfl, hrl, hrows⟩ := Qe6 (d := rw0) (El := RwAt) (sz := 1) (by decide) Try.underlying127 kj (fun f c y h => Qia f c y h) t1
  subst hrl
  refine ⟨⟨z0, rows, ad, cap⟩, fun g off hg hc => ⟨hg, hg, fun j u hu => hc j u ?_, hrows, hz0, b0_⟩⟩
  have e9 : (cat (stP ⟨z0, rows, ad, cap⟩)).toList = cs := by
    rw [hcs]
    unfold stP
    simp [cat, Rely.ints]
  rw [← Array.getElem?_toList, e9] at hu
  exact hu
theorem Qhy (fuel : Nat) (cs : List Value) (y : DataW H × List MemPlace) (h : DataW.trod enc Try.prog w b0 (fun _ => true) held fuel 47 cs = some y) : ∃ x : PrV, ∀ g off, g < w.heap.size → (∀ (j : Nat) (u : Value), cs[j]? = some u → w.cell? ⟨g, off + j, none⟩ = some u) → PrAt w.heap.size w g off x := by
  obtain ⟨X0, X1, X2, X3, X4, X5, X6, X7, X8, y0, y1, y2, y3, y4, y5, y6, y7, y8, m, hcs, t0, t1, t2, t3, t4, t5, t6, t7, t8⟩ := Auto.sub_st9 (n0 := 32) (n1 := 1) (n2 := 1) (n3 := 32) (n4 := 1) (n5 := 99) (n6 := 32) (n7 := 1) (n8 := 64) Try.underlying47 ⟨by kernel_rfl, by kernel_rfl, by kernel_rfl, by kernel_rfl, by kernel_rfl, by kernel_rfl, by kernel_rfl, by kernel_rfl, by kernel_rfl⟩ ⟨by kernel_rfl, by kernel_rfl, by kernel_rfl, by kernel_rfl, by kernel_rfl, by kernel_rfl, by kernel_rfl, by kernel_rfl, by kernel_rfl⟩ kj h
  obtain ⟨N0, N1, N2, N3, N4, N5, v0, v1, v2, v3, v4, v5, m5, hcs5, s0, s1, s2, s3, s4, s5⟩ := Auto.sub_st6 (n0 := 1) (n1 := 1) (n2 := 32) (n3 := 32) (n4 := 32) (n5 := 1) Try.underlying43 ⟨by kernel_rfl, by kernel_rfl, by kernel_rfl, by kernel_rfl, by kernel_rfl, by kernel_rfl⟩ ⟨by kernel_rfl, by kernel_rfl, by kernel_rfl, by kernel_rfl, by kernel_rfl, by kernel_rfl⟩ kj t5
  obtain ⟨z0, rfl, hz0, b0_⟩ := open_raw Try.underlying39 Try.underlying5 kj kj t0
  obtain ⟨ep, rfl, -, -⟩ := DataW.trod_int Try.underlying3 t1
  obtain ⟨fr, rfl, -, -⟩ := DataW.trod_int Try.underlying3 t2
  obtain ⟨z3, rfl, hz3, b3_⟩ := open_raw Try.underlying39 Try.underlying5 kj kj t3
  obtain ⟨kd, rfl, -, -⟩ := DataW.trod_int Try.underlying3 t4
  obtain ⟨z6, rfl, hz6, b6_⟩ := open_raw Try.underlying40 Try.underlying5 kj kj t6
  obtain ⟨at_, rfl, -, -⟩ := DataW.trod_int Try.underlying3 t7
  obtain ⟨z8, rfl, hz8, b8_⟩ := open_raw Try.underlying45 Try.underlying5 kj kj t8
  obtain ⟨us, rfl, -⟩ := DataW.trod_bool Try.underlying4 s0
  obtain ⟨nm, rfl, -, -⟩ := DataW.trod_int Try.underlying3 s1
  obtain ⟨z12, rfl, hz12, b12_⟩ := open_raw Try.underlying40 Try.underlying5 kj kj s2
  obtain ⟨z13, rfl, hz13, b13_⟩ := open_raw Try.underlying40 Try.underlying5 kj kj s3
  obtain ⟨z14, rfl, hz14, b14_⟩ := open_raw Try.underlying39 Try.underlying5 kj kj s4
  have fin : ∀ (a : Option Addr) (ms : List Int) (c : Nat), N5 = [.slice a ms.length c] → RdK .i64 w.heap.size ms (.slice a ms.length c) w → ∃ x : PrV, ∀ g off, g < w.heap.size → (∀ (j : Nat) (u : Value), cs[j]? = some u → w.cell? ⟨g, off + j, none⟩ = some u) → PrAt w.heap.size w g off x := fun a ms c e r => by
    refine ⟨⟨⟨z0, ep, fr, z3, kd, ⟨us, nm, z12, z13, z14, ms⟩, z6, at_, z8⟩, a, c⟩, fun g off hg hc => ⟨hg, hg, fun j u hu => hc j u ?_, r, ⟨hz0, b0_, hz3, b3_, ⟨hz12, hz13, hz14, b12_, b13_, b14_⟩, hz6, b6_, hz8, b8_⟩⟩⟩
    have e9 : (cat (prP ⟨⟨z0, ep, fr, z3, kd, ⟨us, nm, z12, z13, z14, ms⟩, z6, at_, z8⟩, a, c⟩)).toList = cs := by
      rw [hcs, hcs5, e]
      unfold prP
      simp [cat, Rely.ints]
    rw [← Array.getElem?_toList, e9] at hu
    exact hu
  rcases open_ints Try.underlying41 Try.underlying3 kj s5 with ⟨hcv, -⟩ | ⟨x, l, cc, zs, hcv, -, hl2, hm2, hz2, -, hcell, hwz⟩
  · exact fin none [] 0 hcv ⟨none, 0, rfl, Nat.le_refl _, Nat.zero_le _, fun _ => rfl, .inl rfl⟩
  · obtain ⟨r, rl, rf⟩ := Auto.rdK_of_row (k := .i64) (w := w) (a := some x) (len := l) (cap := cc) (zs := zs) (.inr ⟨x, rfl, hl2, hm2, by simpa using hz2, hcell, hwz⟩)
    refine fin (some x) (zs.take l) cc (by rw [rl]; exact hcv) ?_
    rw [rl]; exact r
theorem open_props {fuel : Nat} {cs : List Value} {y : DataW H × List MemPlace} (h : DataW.trod enc Try.prog w b0 (fun _ => true) held fuel 54 cs = some y) : ∃ (ad : Option Addr) (len cap : Nat) (ts : List PrV), cs = [.slice ad len cap] ∧ ts.length = len ∧ LsAt PrAt 263 pr0 w.heap.size w ad ts :=
  Qe6 (by decide) Try.underlying54 kj (fun f c y h => Qhy f c y h) h
theorem open_steps {fuel : Nat} {cs : List Value} {y : DataW H × List MemPlace} (h : DataW.trod enc Try.prog w b0 (fun _ => true) held fuel 55 cs = some y) : ∃ (ad : Option Addr) (len cap : Nat) (ts : List StV), cs = [.slice ad len cap] ∧ ts.length = len ∧ LsAt StAt 33 st0 w.heap.size w ad ts :=
  Qe6 (by decide) Try.underlying55 kj (fun f c y h => Qhx f c y h) h
end
end Go.Proofs.Ytfelfmchachljaa.Wr
end
section
namespace Go.Proofs.Ytfelfmchachljaa.Auto
open Go Go.RowKit Go.WideShapes
open Rely
set_option linter.unusedVariables false
section
variable {H : Type} {enc : TypeId × Value → H} {P : Program} {W w : World} {r : Reach} {base b0 : Nat} {sp : Nat → Bool} {held : Bool}
theorem Qgd {t : TypeId} {f0 f1 f2 f3 f4 : Field} {fuel : Nat} {cs : List Value} {x : DataW H × List MemPlace} (ht : P.underlying t = some (.struct #[f0, f1, f2, f3, f4])) (h : DataW.trod enc P w b0 sp held fuel t cs = some x) :
    ∃ y0 y1 y2 y3 y4 n, cs.length = P.cellsOf t ∧ DataW.trod enc P w b0 sp held n f0.type ((cs.drop f0.offset).take (P.cellsOf f0.type)) = some y0 ∧ DataW.trod enc P w b0 sp held n f1.type ((cs.drop f1.offset).take (P.cellsOf f1.type)) = some y1 ∧ DataW.trod enc P w b0 sp held n f2.type ((cs.drop f2.offset).take (P.cellsOf f2.type)) = some y2 ∧ DataW.trod enc P w b0 sp held n f3.type ((cs.drop f3.offset).take (P.cellsOf f3.type)) = some y3 ∧ DataW.trod enc P w b0 sp held n f4.type ((cs.drop f4.offset).take (P.cellsOf f4.type)) = some y4 := by
  obtain ⟨xs, n, _, rfl, hl, hlen, hf⟩ := DataW.trod_struct ht h
  match xs, hlen with
  | [y0, y1, y2, y3, y4], _ => exact ⟨y0, y1, y2, y3, y4, n, hl, by simpa using hf 0 f0 rfl, by simpa using hf 1 f1 rfl, by simpa using hf 2 f2 rfl, by simpa using hf 3 f3 rfl, by simpa using hf 4 f4 rfl⟩
theorem sub_st5 {t : TypeId} {f0 f1 f2 f3 f4 : Field} {fuel : Nat} {cs : List Value} {x : DataW H × List MemPlace} {n0 n1 n2 n3 n4 : Nat} (ht : P.underlying t = some (.struct #[f0, f1, f2, f3, f4]))
    (ho : f0.offset = 0 ∧ f1.offset = n0 ∧ f2.offset = n0 + n1 ∧ f3.offset = n0 + n1 + n2 ∧ f4.offset = n0 + n1 + n2 + n3) (hc : P.cellsOf f0.type = n0 ∧ P.cellsOf f1.type = n1 ∧ P.cellsOf f2.type = n2 ∧ P.cellsOf f3.type = n3 ∧ P.cellsOf f4.type = n4) (hC : P.cellsOf t = n0 + n1 + n2 + n3 + n4) (h : DataW.trod enc P w b0 sp held fuel t cs = some x) :
    ∃ (X0 X1 X2 X3 X4 : List Value) (y0 y1 y2 y3 y4 : DataW H × List MemPlace) (n : Nat), cs = X0 ++ X1 ++ X2 ++ X3 ++ X4 ∧ DataW.trod enc P w b0 sp held n f0.type X0 = some y0 ∧ DataW.trod enc P w b0 sp held n f1.type X1 = some y1 ∧ DataW.trod enc P w b0 sp held n f2.type X2 = some y2 ∧ DataW.trod enc P w b0 sp held n f3.type X3 = some y3 ∧ DataW.trod enc P w b0 sp held n f4.type X4 = some y4 := by
  obtain ⟨y0, y1, y2, y3, y4, n, hl, h0, h1, h2, h3, h4⟩ := Qgd ht h
  obtain ⟨o0, o1, o2, o3, o4⟩ := ho
  obtain ⟨c0, c1, c2, c3, c4⟩ := hc
  rw [o0, c0] at h0
  rw [o1, c1] at h1
  rw [o2, c2] at h2
  rw [o3, c3] at h3
  rw [o4, c4] at h4
  refine ⟨_, _, _, _, _, y0, y1, y2, y3, y4, n, ?_, h0, h1, h2, h3, h4⟩
  rw [hC] at hl
  simp only [List.drop_zero]
  have e1 : cs.take (n0) ++ (cs.drop (n0)).take n1 = cs.take (n0 + n1) := by rw [List.take_add (i := n0)]
  have e2 : cs.take (n0 + n1) ++ (cs.drop (n0 + n1)).take n2 = cs.take (n0 + n1 + n2) := by rw [List.take_add (i := n0 + n1)]
  have e3 : cs.take (n0 + n1 + n2) ++ (cs.drop (n0 + n1 + n2)).take n3 = cs.take (n0 + n1 + n2 + n3) := by rw [List.take_add (i := n0 + n1 + n2)]
  have e4 : cs.take (n0 + n1 + n2 + n3) ++ (cs.drop (n0 + n1 + n2 + n3)).take n4 = cs.take (n0 + n1 + n2 + n3 + n4) := by rw [List.take_add (i := n0 + n1 + n2 + n3)]
  rw [e1, e2, e3, e4, List.take_of_length_le (by omega)]
end
end Go.Proofs.Ytfelfmchachljaa.Auto
end
section
namespace Go.Proofs.Ytfelfmchachljaa.Auto
open Go Go.RowKit Go.WideShapes
open Rely
set_option linter.unusedVariables false
section
variable {H : Type} {enc : TypeId × Value → H} {P : Program} {W w : World} {r : Reach} {base b0 : Nat} {sp : Nat → Bool} {held : Bool}
theorem Qgb {t : TypeId} {f0 f1 f2 f3 f4 f5 f6 f7 : Field} {fuel : Nat} {cs : List Value} {x : DataW H × List MemPlace} (ht : P.underlying t = some (.struct #[f0, f1, f2, f3, f4, f5, f6, f7])) (h : DataW.trod enc P w b0 sp held fuel t cs = some x) :
    ∃ y0 y1 y2 y3 y4 y5 y6 y7 n, cs.length = P.cellsOf t ∧ DataW.trod enc P w b0 sp held n f0.type ((cs.drop f0.offset).take (P.cellsOf f0.type)) = some y0 ∧ DataW.trod enc P w b0 sp held n f1.type ((cs.drop f1.offset).take (P.cellsOf f1.type)) = some y1 ∧ DataW.trod enc P w b0 sp held n f2.type ((cs.drop f2.offset).take (P.cellsOf f2.type)) = some y2 ∧ DataW.trod enc P w b0 sp held n f3.type ((cs.drop f3.offset).take (P.cellsOf f3.type)) = some y3 ∧ DataW.trod enc P w b0 sp held n f4.type ((cs.drop f4.offset).take (P.cellsOf f4.type)) = some y4 ∧ DataW.trod enc P w b0 sp held n f5.type ((cs.drop f5.offset).take (P.cellsOf f5.type)) = some y5 ∧ DataW.trod enc P w b0 sp held n f6.type ((cs.drop f6.offset).take (P.cellsOf f6.type)) = some y6 ∧ DataW.trod enc P w b0 sp held n f7.type ((cs.drop f7.offset).take (P.cellsOf f7.type)) = some y7 := by
  obtain ⟨xs, n, _, rfl, hl, hlen, hf⟩ := DataW.trod_struct ht h
  match xs, hlen with
  | [y0, y1, y2, y3, y4, y5, y6, y7], _ => exact ⟨y0, y1, y2, y3, y4, y5, y6, y7, n, hl, by simpa using hf 0 f0 rfl, by simpa using hf 1 f1 rfl, by simpa using hf 2 f2 rfl, by simpa using hf 3 f3 rfl, by simpa using hf 4 f4 rfl, by simpa using hf 5 f5 rfl, by simpa using hf 6 f6 rfl, by simpa using hf 7 f7 rfl⟩
theorem sub_st8 {t : TypeId} {f0 f1 f2 f3 f4 f5 f6 f7 : Field} {fuel : Nat} {cs : List Value} {x : DataW H × List MemPlace} {n0 n1 n2 n3 n4 n5 n6 n7 : Nat} (ht : P.underlying t = some (.struct #[f0, f1, f2, f3, f4, f5, f6, f7]))
    (ho : f0.offset = 0 ∧ f1.offset = n0 ∧ f2.offset = n0 + n1 ∧ f3.offset = n0 + n1 + n2 ∧ f4.offset = n0 + n1 + n2 + n3 ∧ f5.offset = n0 + n1 + n2 + n3 + n4 ∧ f6.offset = n0 + n1 + n2 + n3 + n4 + n5 ∧ f7.offset = n0 + n1 + n2 + n3 + n4 + n5 + n6) (hc : P.cellsOf f0.type = n0 ∧ P.cellsOf f1.type = n1 ∧ P.cellsOf f2.type = n2 ∧ P.cellsOf f3.type = n3 ∧ P.cellsOf f4.type = n4 ∧ P.cellsOf f5.type = n5 ∧ P.cellsOf f6.type = n6 ∧ P.cellsOf f7.type = n7) (hC : P.cellsOf t = n0 + n1 + n2 + n3 + n4 + n5 + n6 + n7) (h : DataW.trod enc P w b0 sp held fuel t cs = some x) :
    ∃ (X0 X1 X2 X3 X4 X5 X6 X7 : List Value) (y0 y1 y2 y3 y4 y5 y6 y7 : DataW H × List MemPlace) (n : Nat), cs = X0 ++ X1 ++ X2 ++ X3 ++ X4 ++ X5 ++ X6 ++ X7 ∧ DataW.trod enc P w b0 sp held n f0.type X0 = some y0 ∧ DataW.trod enc P w b0 sp held n f1.type X1 = some y1 ∧ DataW.trod enc P w b0 sp held n f2.type X2 = some y2 ∧ DataW.trod enc P w b0 sp held n f3.type X3 = some y3 ∧ DataW.trod enc P w b0 sp held n f4.type X4 = some y4 ∧ DataW.trod enc P w b0 sp held n f5.type X5 = some y5 ∧ DataW.trod enc P w b0 sp held n f6.type X6 = some y6 ∧ DataW.trod enc P w b0 sp held n f7.type X7 = some y7 := by
  obtain ⟨y0, y1, y2, y3, y4, y5, y6, y7, n, hl, h0, h1, h2, h3, h4, h5, h6, h7⟩ := Qgb ht h
  obtain ⟨o0, o1, o2, o3, o4, o5, o6, o7⟩ := ho
  obtain ⟨c0, c1, c2, c3, c4, c5, c6, c7⟩ := hc
  rw [o0, c0] at h0
  rw [o1, c1] at h1
  rw [o2, c2] at h2
  rw [o3, c3] at h3
  rw [o4, c4] at h4
  rw [o5, c5] at h5
  rw [o6, c6] at h6
  rw [o7, c7] at h7
  refine ⟨_, _, _, _, _, _, _, _, y0, y1, y2, y3, y4, y5, y6, y7, n, ?_, h0, h1, h2, h3, h4, h5, h6, h7⟩
  rw [hC] at hl
  simp only [List.drop_zero]
  have e1 : cs.take (n0) ++ (cs.drop (n0)).take n1 = cs.take (n0 + n1) := by rw [List.take_add (i := n0)]
  have e2 : cs.take (n0 + n1) ++ (cs.drop (n0 + n1)).take n2 = cs.take (n0 + n1 + n2) := by rw [List.take_add (i := n0 + n1)]
  have e3 : cs.take (n0 + n1 + n2) ++ (cs.drop (n0 + n1 + n2)).take n3 = cs.take (n0 + n1 + n2 + n3) := by rw [List.take_add (i := n0 + n1 + n2)]
  have e4 : cs.take (n0 + n1 + n2 + n3) ++ (cs.drop (n0 + n1 + n2 + n3)).take n4 = cs.take (n0 + n1 + n2 + n3 + n4) := by rw [List.take_add (i := n0 + n1 + n2 + n3)]
  have e5 : cs.take (n0 + n1 + n2 + n3 + n4) ++ (cs.drop (n0 + n1 + n2 + n3 + n4)).take n5 = cs.take (n0 + n1 + n2 + n3 + n4 + n5) := by rw [List.take_add (i := n0 + n1 + n2 + n3 + n4)]
  have e6 : cs.take (n0 + n1 + n2 + n3 + n4 + n5) ++ (cs.drop (n0 + n1 + n2 + n3 + n4 + n5)).take n6 = cs.take (n0 + n1 + n2 + n3 + n4 + n5 + n6) := by rw [List.take_add (i := n0 + n1 + n2 + n3 + n4 + n5)]
  have e7 : cs.take (n0 + n1 + n2 + n3 + n4 + n5 + n6) ++ (cs.drop (n0 + n1 + n2 + n3 + n4 + n5 + n6)).take n7 = cs.take (n0 + n1 + n2 + n3 + n4 + n5 + n6 + n7) := by rw [List.take_add (i := n0 + n1 + n2 + n3 + n4 + n5 + n6)]
  rw [e1, e2, e3, e4, e5, e6, e7, List.take_of_length_le (by omega)]
end
end Go.Proofs.Ytfelfmchachljaa.Auto
end
