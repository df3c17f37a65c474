/- Texts of this claim, joined (C4). -/
import Derived.Test.YtfelfmchachljaaZC3

section
namespace Go.Proofs.Ytfelfmchachljaa.Wr
open Go Go.RowKit
open Rely Auto Own Sha
set_option linter.unusedVariables false
set_option linter.unusedSimpArgs false
open Wk
def okP (p : PrV) : Bool := QbA p.p.ep p.p.fr p.p.kd p.p.n.us p.p.n.nm p.p.n.key p.p.n.sg p.p.n.pa p.p.n.ms p.p.start p.p.at_
def Qbh (p : PrV) : List Int := QbV p.p.grp p.p.ep p.p.fr p.p.bas p.p.kd p.p.n.us p.p.n.nm p.p.n.key p.p.n.sg p.p.n.pa p.p.n.ms p.p.start p.p.at_ p.p.sig
def Qc0 (grp : List Int) (ep fr : Int) (bas : List Int) (ps : List PrV) (n : NdC) (ts : List StV) (tag sig : List Int) : List Int := Qa6 grp ep fr ++ bas ++ [byV ((ps.length : Nat) : Int) 0] ++ (ps.map Qbh).flatten ++ Qb9 n ts ++ tag ++ sig
def QeB (ep fr : Int) (ps : List PrV) (n : NdC) (ts : List StV) : Bool := hgB ep fr && (decide (ps.length ≤ 255) && (QbT n ts && ps.all okP))
def refC (grp : List Int) (ep fr : Int) (bas : List Int) (ps : List PrV) (n : NdC) (ts : List StV) (tag sig : List Int) : Option (List Int) := if QeB ep fr ps n ts = true then fitV (Qc0 grp ep fr bas ps n ts tag sig) else none
theorem Qdq (p : PrV) (h : PrOk p.p) (hm : p.p.n.ms.length ≤ 1000000) : (Qbh p).length ≤ 1000400 := by
  have h4 : (if p.p.kd = 3 then ([] : List Int) else Qbo p.p.n.us p.p.n.nm p.p.n.key p.p.n.sg p.p.n.pa p.p.n.ms).length ≤ 1000100 := by
    split
    · exact Nat.zero_le _
    · rw [QaS, h.n.kl, h.n.gl, h.n.pl]; omega
  have h5 : (if p.p.kd = 1 then p.p.start else ([] : List Int)).length ≤ 32 := by
    split
    · rw [h.tl]; exact Nat.le_refl _
    · exact Nat.zero_le _
  have h6 : (if p.p.kd = 3 then [byV p.p.at_ 0] else ([] : List Int)).length ≤ 1 := by split; exact Nat.le_refl _; exact Nat.zero_le _
  unfold Qbh QbV
  simp only [List.length_append, Qa9 p.p.ep p.p.fr h.rl, h.al, h.il, List.length_cons, List.length_nil]
  omega
theorem Qfq (n : NdC) (ts : List StV) (hn : NdOk n) (hnm : n.ms.length ≤ 1000000) (htn : ts.length ≤ 5) (hk : ∀ t ∈ ts, t.key.length = 32) (hrs : ∀ t ∈ ts, t.rows.length ≤ 255 ∧ ∀ r ∈ t.rows, r.xs.length ≤ 65535) : (Qb9 n ts).length ≤ 90000000 := by
  have h1 := Qep stB 17000000 ts fun t ht => by
    have h2 := Qep (fun r : RwV => rowV r.xs) 65537 t.rows fun r hr => by rw [Qee]; have := (hrs t ht).2 r hr; omega
    have h3 := (hrs t ht).1
    unfold stB
    simp only [List.length_append, List.length_cons, List.length_nil, hk t ht]
    omega
  unfold Qb9 QbM Qbo Qch
  simp only [List.length_append, List.length_cons, List.length_nil, List.length_map, hn.kl, hn.gl, hn.pl]
  omega
theorem QeJ {B : Nat} {w : World} {a : Option Addr} {ts : List StV} (h : LsAt StAt 33 st0 B w a ts) : ∀ t ∈ ts, t.key.length = 32 ∧ Qaj t.key := fun t ht => by
  obtain ⟨g, o, -, h2⟩ := h
  obtain ⟨i, hi, e⟩ := List.mem_iff_getElem.1 ht
  have h3 := h2 i hi
  rw [List.getD_eq_getElem?_getD, List.getElem?_eq_getElem hi] at h3
  rw [← e]; exact ⟨h3.kl, h3.kb⟩
theorem QdK {B : Nat} {w : World} {a : Option Addr} {ps : List PrV} (h : LsAt PrAt 263 pr0 B w a ps) : ∀ p ∈ ps, PrOk p.p := fun p hp => by
  obtain ⟨g, o, -, h2⟩ := h
  obtain ⟨i, hi, e⟩ := List.mem_iff_getElem.1 hp
  have h3 := h2 i hi
  rw [List.getD_eq_getElem?_getD, List.getElem?_eq_getElem hi] at h3
  rw [← e]; exact h3.ok
theorem Qgp {n : NdC} {ts : List StV} (h : QbT n ts = true) : ts.length ≤ 5 ∧ ∀ t ∈ ts, t.rows.length ≤ 255 ∧ ∀ r ∈ t.rows, r.xs.length ≤ 65535 := by
  unfold QbT at h
  simp only [Bool.and_eq_true, decide_eq_true_eq, List.all_eq_true] at h
  refine ⟨h.2.1, fun t ht => ?_⟩
  have h1 := h.2.2 t ht
  unfold stOk at h1
  simp only [Bool.and_eq_true, decide_eq_true_eq, List.all_eq_true] at h1
  exact ⟨h1.1, fun r hr => of_decide_eq_true (h1.2 r hr)⟩
set_option maxHeartbeats 4000000 in
set_option maxRecDepth 100000 in
theorem QhQ (grp : List Int) (ep fr : Int) (bas : List Int) (ps : List PrV) (n : NdC) (ts : List StV) (tag sig : List Int) (a_p : Option Addr) (c_p : Nat) (a_m : Option Addr) (c_m : Nat) (a_t : Option Addr) (c_t : Nat) (w : World) (ho : CmOk grp bas n tag sig) (hz : CmSz ps n ts) (hcm : CmAt w.heap.size w ps a_p n a_m c_m ts a_t) (h0 : hgB ep fr = false) : Calls Try.prog 26 #[.agg (cat [ints .u8 (grp), #[.int .i64 ep], #[.int .i64 fr], ints .u8 (bas), #[.slice a_p ps.length c_p], #[.bool n.us], #[.int .i64 n.nm], ints .u8 (n.key), ints .u8 (n.sg), ints .u8 (n.pa), #[.slice a_m n.ms.length c_m], #[.slice a_t ts.length c_t], ints .u8 (tag), ints .u8 (sig)])] w (QbE w (QdB w.heap.size (none))) := by
  refine enter 77 [(0, .agg (cat [ints .u8 (grp), #[.int .i64 ep], #[.int .i64 fr], ints .u8 (bas), #[.slice a_p ps.length c_p], #[.bool n.us], #[.int .i64 n.nm], ints .u8 (n.key), ints .u8 (n.sg), ints .u8 (n.pa), #[.slice a_m n.ms.length c_m], #[.slice a_t ts.length c_t], ints .u8 (tag), ints .u8 (sig)]))] Try.func26 rfl rfl kj rfl ?_
  refine wp_seq_k fun K1 hK1 => ?_
  refine Qae ?_
  refine Qav (cat [ints .u8 (grp), #[.int .i64 ep], #[.int .i64 fr], ints .u8 (bas), #[.slice a_p ps.length c_p], #[.bool n.us], #[.int .i64 n.nm], ints .u8 (n.key), ints .u8 (n.sg), ints .u8 (n.pa), #[.slice a_m n.ms.length c_m], #[.slice a_t ts.length c_t], ints .u8 (tag), ints .u8 (sig)]) 59 1 rfl kj kj fun g2 W1 l2 e1 r2_1 => ?_
  have x1 : Ext w W1 := Ext.tr (Rely.Ext.refl w) e1
  have b2 : w.heap.size ≤ g2 := Nat.le_trans (Rely.Ext.refl w).size l2
  refine Qab (.slice none 0 0) 2 rfl kj kj ?_
  refine Qab (.bool false) 3 rfl kj kj ?_
  refine Qaf ?_
  refine hK1 _ _ ?_
  refine wp_seq_k fun K3 hK3 => ?_
  refine wp_seq_k fun K4 hK4 => ?_
  refine Qae ?_
  refine Qab (.pointer (some ⟨g2, 32, none⟩)) 6 rfl kj kj ?_
  refine Qab (.int .i64 ep) 7 rfl kj (Qag 3 _ g2 32 59 _ (.int .i64 ep) _ r2_1 rfl kj (Qah [ints .u8 (grp)] [#[.int .i64 ep]] [#[.int .i64 fr], ints .u8 (bas), #[.slice a_p ps.length c_p], #[.bool n.us], #[.int .i64 n.nm], ints .u8 (n.key), ints .u8 (n.sg), ints .u8 (n.pa), #[.slice a_m n.ms.length c_m], #[.slice a_t ts.length c_t], ints .u8 (tag), ints .u8 (sig)] 32 ((Qac _ _).trans ho.rl) 0 _ rfl) kj) ?_
  refine Qab (.pointer (some ⟨g2, 33, none⟩)) 8 rfl kj kj ?_
  refine Qab (.int .i64 fr) 9 rfl kj (Qag 3 _ g2 33 59 _ (.int .i64 fr) _ r2_1 rfl kj (Qah [ints .u8 (grp), #[.int .i64 ep]] [#[.int .i64 fr]] [ints .u8 (bas), #[.slice a_p ps.length c_p], #[.bool n.us], #[.int .i64 n.nm], ints .u8 (n.key), ints .u8 (n.sg), ints .u8 (n.pa), #[.slice a_m n.ms.length c_m], #[.slice a_t ts.length c_t], ints .u8 (tag), ints .u8 (sig)] 33 (by rw [Qaa, Qaa]; simp only [Array.size_append, cat, ((Qac _ _).trans ho.rl)]; rfl) 0 _ rfl) kj) ?_
  refine Qa1 (.bool false) 64 #[.int .i64 ep, .int .i64 fr] 10 rfl kj kj ((hgE ep fr _ h0) _) fun W2 e2 => ?_
  have x2 : Ext w W2 := Ext.tr x1 e2
  refine Qab (.bool true) 11 rfl kj kj ?_
  refine Qab (.bool true) 12 rfl kj kj ?_
  refine Qao 13 rfl kj ?_
  refine Qao 14 rfl kj ?_
  refine Qao 15 rfl kj ?_
  refine Qao 16 rfl kj ?_
  refine Qab (.bool true) 17 rfl kj kj ?_
  refine Qab (.bool true) 18 rfl kj kj ?_
  refine Qao 19 rfl kj ?_
  refine Qao 20 rfl kj ?_
  refine Qao 21 rfl kj ?_
  refine Qao 22 rfl kj ?_
  refine Qab (.bool true) 23 rfl kj kj ?_
  refine Qaf ?_
  refine hK4 _ _ ?_
  refine cond_true kj ?_
  refine wp_seq_k fun K5 hK5 => ?_
  refine Qae ?_
  refine Qab (.slice none 0 0) 2 rfl kj kj ?_
  refine Qab (.bool false) 3 rfl kj kj ?_
  refine Qaf ?_
  refine hK5 _ _ ?_
  refine wp_ret ?_
  repeat (first | with_reducible refine goR1 ?_ | with_reducible refine goR2 ?_)
  exact (show bodyPost _ _ _ .ret _ _ from ret2 (.slice none 0 0) (.bool false) rfl (Qaw kj) (Qaw kj) ⟨_, rfl, x2, rfl⟩)
set_option maxHeartbeats 4000000 in
set_option maxRecDepth 100000 in
theorem QhP (grp : List Int) (ep fr : Int) (bas : List Int) (ps : List PrV) (n : NdC) (ts : List StV) (tag sig : List Int) (a_p : Option Addr) (c_p : Nat) (a_m : Option Addr) (c_m : Nat) (a_t : Option Addr) (c_t : Nat) (w : World) (ho : CmOk grp bas n tag sig) (hz : CmSz ps n ts) (hcm : CmAt w.heap.size w ps a_p n a_m c_m ts a_t) (h0 : hgB ep fr = true) (h1 : 255 < ps.length) : Calls Try.prog 26 #[.agg (cat [ints .u8 (grp), #[.int .i64 ep], #[.int .i64 fr], ints .u8 (bas), #[.slice a_p ps.length c_p], #[.bool n.us], #[.int .i64 n.nm], ints .u8 (n.key), ints .u8 (n.sg), ints .u8 (n.pa), #[.slice a_m n.ms.length c_m], #[.slice a_t ts.length c_t], ints .u8 (tag), ints .u8 (sig)])] w (QbE w (QdB w.heap.size (none))) := by
  refine enter 77 [(0, .agg (cat [ints .u8 (grp), #[.int .i64 ep], #[.int .i64 fr], ints .u8 (bas), #[.slice a_p ps.length c_p], #[.bool n.us], #[.int .i64 n.nm], ints .u8 (n.key), ints .u8 (n.sg), ints .u8 (n.pa), #[.slice a_m n.ms.length c_m], #[.slice a_t ts.length c_t], ints .u8 (tag), ints .u8 (sig)]))] Try.func26 rfl rfl kj rfl ?_
  refine wp_seq_k fun K1 hK1 => ?_
  refine Qae ?_
  refine Qav (cat [ints .u8 (grp), #[.int .i64 ep], #[.int .i64 fr], ints .u8 (bas), #[.slice a_p ps.length c_p], #[.bool n.us], #[.int .i64 n.nm], ints .u8 (n.key), ints .u8 (n.sg), ints .u8 (n.pa), #[.slice a_m n.ms.length c_m], #[.slice a_t ts.length c_t], ints .u8 (tag), ints .u8 (sig)]) 59 1 rfl kj kj fun g2 W1 l2 e1 r2_1 => ?_
  have x1 : Ext w W1 := Ext.tr (Rely.Ext.refl w) e1
  have b2 : w.heap.size ≤ g2 := Nat.le_trans (Rely.Ext.refl w).size l2
  refine Qab (.slice none 0 0) 2 rfl kj kj ?_
  refine Qab (.bool false) 3 rfl kj kj ?_
  refine Qaf ?_
  refine hK1 _ _ ?_
  refine wp_seq_k fun K3 hK3 => ?_
  refine wp_seq_k fun K4 hK4 => ?_
  refine Qae ?_
  refine Qab (.pointer (some ⟨g2, 32, none⟩)) 6 rfl kj kj ?_
  refine Qab (.int .i64 ep) 7 rfl kj (Qag 3 _ g2 32 59 _ (.int .i64 ep) _ r2_1 rfl kj (Qah [ints .u8 (grp)] [#[.int .i64 ep]] [#[.int .i64 fr], ints .u8 (bas), #[.slice a_p ps.length c_p], #[.bool n.us], #[.int .i64 n.nm], ints .u8 (n.key), ints .u8 (n.sg), ints .u8 (n.pa), #[.slice a_m n.ms.length c_m], #[.slice a_t ts.length c_t], ints .u8 (tag), ints .u8 (sig)] 32 ((Qac _ _).trans ho.rl) 0 _ rfl) kj) ?_
  refine Qab (.pointer (some ⟨g2, 33, none⟩)) 8 rfl kj kj ?_
  refine Qab (.int .i64 fr) 9 rfl kj (Qag 3 _ g2 33 59 _ (.int .i64 fr) _ r2_1 rfl kj (Qah [ints .u8 (grp), #[.int .i64 ep]] [#[.int .i64 fr]] [ints .u8 (bas), #[.slice a_p ps.length c_p], #[.bool n.us], #[.int .i64 n.nm], ints .u8 (n.key), ints .u8 (n.sg), ints .u8 (n.pa), #[.slice a_m n.ms.length c_m], #[.slice a_t ts.length c_t], ints .u8 (tag), ints .u8 (sig)] 33 (by rw [Qaa, Qaa]; simp only [Array.size_append, cat, ((Qac _ _).trans ho.rl)]; rfl) 0 _ rfl) kj) ?_
  refine Qa1 (.bool true) 64 #[.int .i64 ep, .int .i64 fr] 10 rfl kj kj ((hgE ep fr _ h0) _) fun W2 e2 => ?_
  have x2 : Ext w W2 := Ext.tr x1 e2
  refine Qab (.bool false) 11 rfl kj kj ?_
  refine Qab (.bool false) 12 rfl kj kj ?_
  refine Qab (.pointer (some ⟨g2, 66, none⟩)) 13 rfl kj kj ?_
  have r2_2 := (Qar r2_1 e2)
  refine Qab (.slice a_p ps.length c_p) 14 rfl kj (Qag 54 _ g2 66 59 _ (.slice a_p ps.length c_p) _ r2_2 rfl kj (Qah [ints .u8 (grp), #[.int .i64 ep], #[.int .i64 fr], ints .u8 (bas)] [#[.slice a_p ps.length c_p]] [#[.bool n.us], #[.int .i64 n.nm], ints .u8 (n.key), ints .u8 (n.sg), ints .u8 (n.pa), #[.slice a_m n.ms.length c_m], #[.slice a_t ts.length c_t], ints .u8 (tag), ints .u8 (sig)] 66 (by rw [Qaa, Qaa, Qaa, Qaa]; simp only [Array.size_append, cat, ((Qac _ _).trans ho.al), ((Qac _ _).trans ho.rl)]; rfl) 0 _ rfl) kj) ?_
  refine Qab (.int .i64 ((ps.length : Nat) : Int)) 15 rfl kj kj ?_
  refine Qab (.bool true) 16 rfl kj (Qax (u := .bool (decide (((ps.length : Nat) : Int) > 255))) kj (congrArg Value.bool (decide_eq_true (by omega)))) ?_
  refine Qab (.bool true) 17 rfl kj kj ?_
  refine Qab (.bool true) 18 rfl kj kj ?_
  refine Qao 19 rfl kj ?_
  refine Qao 20 rfl kj ?_
  refine Qao 21 rfl kj ?_
  refine Qao 22 rfl kj ?_
  refine Qab (.bool true) 23 rfl kj kj ?_
  refine Qaf ?_
  refine hK4 _ _ ?_
  refine cond_true kj ?_
  refine wp_seq_k fun K5 hK5 => ?_
  refine Qae ?_
  refine Qab (.slice none 0 0) 2 rfl kj kj ?_
  refine Qab (.bool false) 3 rfl kj kj ?_
  refine Qaf ?_
  refine hK5 _ _ ?_
  refine wp_ret ?_
  repeat (first | with_reducible refine goR1 ?_ | with_reducible refine goR2 ?_)
  exact (show bodyPost _ _ _ .ret _ _ from ret2 (.slice none 0 0) (.bool false) rfl (Qaw kj) (Qaw kj) ⟨_, rfl, x2, rfl⟩)
set_option maxHeartbeats 4000000 in
set_option maxRecDepth 100000 in
theorem QhO (grp : List Int) (ep fr : Int) (bas : List Int) (ps : List PrV) (n : NdC) (ts : List StV) (tag sig : List Int) (a_p : Option Addr) (c_p : Nat) (a_m : Option Addr) (c_m : Nat) (a_t : Option Addr) (c_t : Nat) (w : World) (ho : CmOk grp bas n tag sig) (hz : CmSz ps n ts) (hcm : CmAt w.heap.size w ps a_p n a_m c_m ts a_t) (h0 : hgB ep fr = true) (h1 : ps.length ≤ 255) (h2 : QbT n ts = false) : Calls Try.prog 26 #[.agg (cat [ints .u8 (grp), #[.int .i64 ep], #[.int .i64 fr], ints .u8 (bas), #[.slice a_p ps.length c_p], #[.bool n.us], #[.int .i64 n.nm], ints .u8 (n.key), ints .u8 (n.sg), ints .u8 (n.pa), #[.slice a_m n.ms.length c_m], #[.slice a_t ts.length c_t], ints .u8 (tag), ints .u8 (sig)])] w (QbE w (QdB w.heap.size (none))) := by
  refine enter 77 [(0, .agg (cat [ints .u8 (grp), #[.int .i64 ep], #[.int .i64 fr], ints .u8 (bas), #[.slice a_p ps.length c_p], #[.bool n.us], #[.int .i64 n.nm], ints .u8 (n.key), ints .u8 (n.sg), ints .u8 (n.pa), #[.slice a_m n.ms.length c_m], #[.slice a_t ts.length c_t], ints .u8 (tag), ints .u8 (sig)]))] Try.func26 rfl rfl kj rfl ?_
  refine wp_seq_k fun K1 hK1 => ?_
  refine Qae ?_
  refine Qav (cat [ints .u8 (grp), #[.int .i64 ep], #[.int .i64 fr], ints .u8 (bas), #[.slice a_p ps.length c_p], #[.bool n.us], #[.int .i64 n.nm], ints .u8 (n.key), ints .u8 (n.sg), ints .u8 (n.pa), #[.slice a_m n.ms.length c_m], #[.slice a_t ts.length c_t], ints .u8 (tag), ints .u8 (sig)]) 59 1 rfl kj kj fun g2 W1 l2 e1 r2_1 => ?_
  have x1 : Ext w W1 := Ext.tr (Rely.Ext.refl w) e1
  have b2 : w.heap.size ≤ g2 := Nat.le_trans (Rely.Ext.refl w).size l2
  refine Qab (.slice none 0 0) 2 rfl kj kj ?_
  refine Qab (.bool false) 3 rfl kj kj ?_
  refine Qaf ?_
  refine hK1 _ _ ?_
  refine wp_seq_k fun K3 hK3 => ?_
  refine wp_seq_k fun K4 hK4 => ?_
  refine Qae ?_
  refine Qab (.pointer (some ⟨g2, 32, none⟩)) 6 rfl kj kj ?_
  refine Qab (.int .i64 ep) 7 rfl kj (Qag 3 _ g2 32 59 _ (.int .i64 ep) _ r2_1 rfl kj (Qah [ints .u8 (grp)] [#[.int .i64 ep]] [#[.int .i64 fr], ints .u8 (bas), #[.slice a_p ps.length c_p], #[.bool n.us], #[.int .i64 n.nm], ints .u8 (n.key), ints .u8 (n.sg), ints .u8 (n.pa), #[.slice a_m n.ms.length c_m], #[.slice a_t ts.length c_t], ints .u8 (tag), ints .u8 (sig)] 32 ((Qac _ _).trans ho.rl) 0 _ rfl) kj) ?_
  refine Qab (.pointer (some ⟨g2, 33, none⟩)) 8 rfl kj kj ?_
  refine Qab (.int .i64 fr) 9 rfl kj (Qag 3 _ g2 33 59 _ (.int .i64 fr) _ r2_1 rfl kj (Qah [ints .u8 (grp), #[.int .i64 ep]] [#[.int .i64 fr]] [ints .u8 (bas), #[.slice a_p ps.length c_p], #[.bool n.us], #[.int .i64 n.nm], ints .u8 (n.key), ints .u8 (n.sg), ints .u8 (n.pa), #[.slice a_m n.ms.length c_m], #[.slice a_t ts.length c_t], ints .u8 (tag), ints .u8 (sig)] 33 (by rw [Qaa, Qaa]; simp only [Array.size_append, cat, ((Qac _ _).trans ho.rl)]; rfl) 0 _ rfl) kj) ?_
  refine Qa1 (.bool true) 64 #[.int .i64 ep, .int .i64 fr] 10 rfl kj kj ((hgE ep fr _ h0) _) fun W2 e2 => ?_
  have x2 : Ext w W2 := Ext.tr x1 e2
  refine Qab (.bool false) 11 rfl kj kj ?_
  refine Qab (.bool false) 12 rfl kj kj ?_
  refine Qab (.pointer (some ⟨g2, 66, none⟩)) 13 rfl kj kj ?_
  have r2_2 := (Qar r2_1 e2)
  refine Qab (.slice a_p ps.length c_p) 14 rfl kj (Qag 54 _ g2 66 59 _ (.slice a_p ps.length c_p) _ r2_2 rfl kj (Qah [ints .u8 (grp), #[.int .i64 ep], #[.int .i64 fr], ints .u8 (bas)] [#[.slice a_p ps.length c_p]] [#[.bool n.us], #[.int .i64 n.nm], ints .u8 (n.key), ints .u8 (n.sg), ints .u8 (n.pa), #[.slice a_m n.ms.length c_m], #[.slice a_t ts.length c_t], ints .u8 (tag), ints .u8 (sig)] 66 (by rw [Qaa, Qaa, Qaa, Qaa]; simp only [Array.size_append, cat, ((Qac _ _).trans ho.al), ((Qac _ _).trans ho.rl)]; rfl) 0 _ rfl) kj) ?_
  refine Qab (.int .i64 ((ps.length : Nat) : Int)) 15 rfl kj kj ?_
  refine Qab (.bool false) 16 rfl kj (Qax (u := .bool (decide (((ps.length : Nat) : Int) > 255))) kj (congrArg Value.bool (decide_eq_false (by omega)))) ?_
  refine Qab (.bool false) 17 rfl kj kj ?_
  refine Qab (.bool false) 18 rfl kj kj ?_
  refine Qab (.pointer (some ⟨g2, 67, none⟩)) 19 rfl kj kj ?_
  refine Qab (.agg (cat [#[.bool n.us], #[.int .i64 n.nm], ints .u8 (n.key), ints .u8 (n.sg), ints .u8 (n.pa), #[.slice a_m n.ms.length c_m], #[.slice a_t ts.length c_t]])) 20 rfl kj (Qau 57 _ g2 67 59 _ _ _ r2_2 rfl kj (Qah [ints .u8 (grp), #[.int .i64 ep], #[.int .i64 fr], ints .u8 (bas), #[.slice a_p ps.length c_p]] [#[.bool n.us], #[.int .i64 n.nm], ints .u8 (n.key), ints .u8 (n.sg), ints .u8 (n.pa), #[.slice a_m n.ms.length c_m], #[.slice a_t ts.length c_t]] [ints .u8 (tag), ints .u8 (sig)] 67 (by rw [Qaa, Qaa, Qaa, Qaa, Qaa]; simp only [Array.size_append, cat, ((Qac _ _).trans ho.al), ((Qac _ _).trans ho.rl)]; rfl)) kj (isz (n := 100) kj (by rw [Qaa, Qaa, Qaa, Qaa, Qaa, Qaa, Qaa]; simp only [Array.size_append, cat, ((Qac _ _).trans ho.n.gl), ((Qac _ _).trans ho.n.kl), ((Qac _ _).trans ho.n.pl)]; rfl))) ?_
  refine Qa1 (.bool false) 65 #[.agg (cat [#[.bool n.us], #[.int .i64 n.nm], ints .u8 (n.key), ints .u8 (n.sg), ints .u8 (n.pa), #[.slice a_m n.ms.length c_m], #[.slice a_t ts.length c_t]])] 21 rfl kj kj (QeQ n ts a_m c_m a_t c_t _ h2 _ ho.n (RdK.here (RdK.ext hcm.m x2)) ((hcm.ts.ext stK x2).here stK)) fun W3 e3 => ?_
  have x3 : Ext w W3 := Ext.tr x2 e3
  refine Qab (.bool true) 22 rfl kj kj ?_
  refine Qab (.bool true) 23 rfl kj kj ?_
  refine Qaf ?_
  refine hK4 _ _ ?_
  refine cond_true kj ?_
  refine wp_seq_k fun K5 hK5 => ?_
  refine Qae ?_
  refine Qab (.slice none 0 0) 2 rfl kj kj ?_
  refine Qab (.bool false) 3 rfl kj kj ?_
  refine Qaf ?_
  refine hK5 _ _ ?_
  refine wp_ret ?_
  repeat (first | with_reducible refine goR1 ?_ | with_reducible refine goR2 ?_)
  exact (show bodyPost _ _ _ .ret _ _ from ret2 (.slice none 0 0) (.bool false) rfl (Qaw kj) (Qaw kj) ⟨_, rfl, x3, rfl⟩)
set_option maxHeartbeats 4000000 in
set_option maxRecDepth 100000 in
theorem QhM (grp : List Int) (ep fr : Int) (bas : List Int) (ps : List PrV) (n : NdC) (ts : List StV) (tag sig : List Int) (a_p : Option Addr) (c_p : Nat) (a_m : Option Addr) (c_m : Nat) (a_t : Option Addr) (c_t : Nat) (w : World) (ho : CmOk grp bas n tag sig) (hz : CmSz ps n ts) (hcm : CmAt w.heap.size w ps a_p n a_m c_m ts a_t) (h0 : hgB ep fr = true) (h1 : ps.length ≤ 255) (h2 : QbT n ts = true) (hf : (Qc0 grp ep fr bas ps n ts tag sig).length ≤ 65536) : Calls Try.prog 26 #[.agg (cat [ints .u8 (grp), #[.int .i64 ep], #[.int .i64 fr], ints .u8 (bas), #[.slice a_p ps.length c_p], #[.bool n.us], #[.int .i64 n.nm], ints .u8 (n.key), ints .u8 (n.sg), ints .u8 (n.pa), #[.slice a_m n.ms.length c_m], #[.slice a_t ts.length c_t], ints .u8 (tag), ints .u8 (sig)])] w (QbE w (QdB w.heap.size ((if ps.all okP = true then some (Qc0 grp ep fr bas ps n ts tag sig) else none)))) := by
 have hep := QbR (show inB ep 4294967295 = true by unfold hgB at h0; simp only [Bool.and_eq_true] at h0; exact h0.1)
 have hps := Qgp h2
 have hpa := Qfq n ts ho.n hz.nm hps.1 (fun t ht => (QeJ hcm.ts t ht).1) hps.2
 have hb1 : ∀ i, ((ps.take i).map Qbh).flatten.length ≤ 255 * 1000400 := fun i => Qcp Qbh 1000400 ps (fun p hp => Qdq p (QdK hcm.ps p hp) (hz.pm p hp)) i 255 h1
 refine enter 77 [(0, .agg (cat [ints .u8 (grp), #[.int .i64 ep], #[.int .i64 fr], ints .u8 (bas), #[.slice a_p ps.length c_p], #[.bool n.us], #[.int .i64 n.nm], ints .u8 (n.key), ints .u8 (n.sg), ints .u8 (n.pa), #[.slice a_m n.ms.length c_m], #[.slice a_t ts.length c_t], ints .u8 (tag), ints .u8 (sig)]))] Try.func26 rfl rfl kj rfl ?_
 refine wp_seq_k fun K1 hK1 => ?_
 refine Qae ?_
 refine Qav (cat [ints .u8 (grp), #[.int .i64 ep], #[.int .i64 fr], ints .u8 (bas), #[.slice a_p ps.length c_p], #[.bool n.us], #[.int .i64 n.nm], ints .u8 (n.key), ints .u8 (n.sg), ints .u8 (n.pa), #[.slice a_m n.ms.length c_m], #[.slice a_t ts.length c_t], ints .u8 (tag), ints .u8 (sig)]) 59 1 rfl kj kj fun g2 W1 l2 e1 r2_1 => ?_
 have x1 : Ext w W1 := Ext.tr (Rely.Ext.refl w) e1
 have b2 : w.heap.size ≤ g2 := Nat.le_trans (Rely.Ext.refl w).size l2
 refine Qab (.slice none 0 0) 2 rfl kj kj ?_
 refine Qab (.bool false) 3 rfl kj kj ?_
 refine Qaf ?_
 refine hK1 _ _ ?_
 refine wp_seq_k fun K3 hK3 => ?_
 refine wp_seq_k fun K4 hK4 => ?_
 refine Qae ?_
 refine Qab (.pointer (some ⟨g2, 32, none⟩)) 6 rfl kj kj ?_
 refine Qab (.int .i64 ep) 7 rfl kj (Qag 3 _ g2 32 59 _ (.int .i64 ep) _ r2_1 rfl kj (Qah [ints .u8 (grp)] [#[.int .i64 ep]] [#[.int .i64 fr], ints .u8 (bas), #[.slice a_p ps.length c_p], #[.bool n.us], #[.int .i64 n.nm], ints .u8 (n.key), ints .u8 (n.sg), ints .u8 (n.pa), #[.slice a_m n.ms.length c_m], #[.slice a_t ts.length c_t], ints .u8 (tag), ints .u8 (sig)] 32 ((Qac _ _).trans ho.rl) 0 _ rfl) kj) ?_
 refine Qab (.pointer (some ⟨g2, 33, none⟩)) 8 rfl kj kj ?_
 refine Qab (.int .i64 fr) 9 rfl kj (Qag 3 _ g2 33 59 _ (.int .i64 fr) _ r2_1 rfl kj (Qah [ints .u8 (grp), #[.int .i64 ep]] [#[.int .i64 fr]] [ints .u8 (bas), #[.slice a_p ps.length c_p], #[.bool n.us], #[.int .i64 n.nm], ints .u8 (n.key), ints .u8 (n.sg), ints .u8 (n.pa), #[.slice a_m n.ms.length c_m], #[.slice a_t ts.length c_t], ints .u8 (tag), ints .u8 (sig)] 33 (by rw [Qaa, Qaa]; simp only [Array.size_append, cat, ((Qac _ _).trans ho.rl)]; rfl) 0 _ rfl) kj) ?_
 refine Qa1 (.bool true) 64 #[.int .i64 ep, .int .i64 fr] 10 rfl kj kj ((hgE ep fr _ h0) _) fun W2 e2 => ?_
 have x2 : Ext w W2 := Ext.tr x1 e2
 refine Qab (.bool false) 11 rfl kj kj ?_
 refine Qab (.bool false) 12 rfl kj kj ?_
 refine Qab (.pointer (some ⟨g2, 66, none⟩)) 13 rfl kj kj ?_
 have r2_2 := (Qar r2_1 e2)
 refine Qab (.slice a_p ps.length c_p) 14 rfl kj (Qag 54 _ g2 66 59 _ (.slice a_p ps.length c_p) _ r2_2 rfl kj (Qah [ints .u8 (grp), #[.int .i64 ep], #[.int .i64 fr], ints .u8 (bas)] [#[.slice a_p ps.length c_p]] [#[.bool n.us], #[.int .i64 n.nm], ints .u8 (n.key), ints .u8 (n.sg), ints .u8 (n.pa), #[.slice a_m n.ms.length c_m], #[.slice a_t ts.length c_t], ints .u8 (tag), ints .u8 (sig)] 66 (by rw [Qaa, Qaa, Qaa, Qaa]; simp only [Array.size_append, cat, ((Qac _ _).trans ho.al), ((Qac _ _).trans ho.rl)]; rfl) 0 _ rfl) kj) ?_
 refine Qab (.int .i64 ((ps.length : Nat) : Int)) 15 rfl kj kj ?_
 refine Qab (.bool false) 16 rfl kj (Qax (u := .bool (decide (((ps.length : Nat) : Int) > 255))) kj (congrArg Value.bool (decide_eq_false (by omega)))) ?_
 refine Qab (.bool false) 17 rfl kj kj ?_
 refine Qab (.bool false) 18 rfl kj kj ?_
 refine Qab (.pointer (some ⟨g2, 67, none⟩)) 19 rfl kj kj ?_
 refine Qab (.agg (cat [#[.bool n.us], #[.int .i64 n.nm], ints .u8 (n.key), ints .u8 (n.sg), ints .u8 (n.pa), #[.slice a_m n.ms.length c_m], #[.slice a_t ts.length c_t]])) 20 rfl kj (Qau 57 _ g2 67 59 _ _ _ r2_2 rfl kj (Qah [ints .u8 (grp), #[.int .i64 ep], #[.int .i64 fr], ints .u8 (bas), #[.slice a_p ps.length c_p]] [#[.bool n.us], #[.int .i64 n.nm], ints .u8 (n.key), ints .u8 (n.sg), ints .u8 (n.pa), #[.slice a_m n.ms.length c_m], #[.slice a_t ts.length c_t]] [ints .u8 (tag), ints .u8 (sig)] 67 (by rw [Qaa, Qaa, Qaa, Qaa, Qaa]; simp only [Array.size_append, cat, ((Qac _ _).trans ho.al), ((Qac _ _).trans ho.rl)]; rfl)) kj (isz (n := 100) kj (by rw [Qaa, Qaa, Qaa, Qaa, Qaa, Qaa, Qaa]; simp only [Array.size_append, cat, ((Qac _ _).trans ho.n.gl), ((Qac _ _).trans ho.n.kl), ((Qac _ _).trans ho.n.pl)]; rfl))) ?_
 refine Qa1 (.bool true) 65 #[.agg (cat [#[.bool n.us], #[.int .i64 n.nm], ints .u8 (n.key), ints .u8 (n.sg), ints .u8 (n.pa), #[.slice a_m n.ms.length c_m], #[.slice a_t ts.length c_t]])] 21 rfl kj kj (QeQ n ts a_m c_m a_t c_t _ h2 _ ho.n (RdK.here (RdK.ext hcm.m x2)) ((hcm.ts.ext stK x2).here stK)) fun W3 e3 => ?_
 have x3 : Ext w W3 := Ext.tr x2 e3
 refine Qab (.bool false) 22 rfl kj kj ?_
 refine Qab (.bool false) 23 rfl kj kj ?_
 refine Qaf ?_
 refine hK4 _ _ ?_
 refine cond_false kj ?_
 refine wp_skip ?_
 refine hK3 _ _ ?_
 refine wp_seq_k fun K5 hK5 => ?_
 refine Qc4 (fun (s0 : Value) => [(1, .pointer (some ⟨g2, 0, none⟩)), (4, s0)]) (fun s0 W => OwnN .u8 5 W3.heap.size (Qa6 grp ep fr ++ bas ++ [byV ((ps.length : Nat) : Int) 0]) s0 W ∧ Qaz 5 W3.heap.size W3 W ∧ Ext W3 W) kj (Ext W3) (fun W e => Rely.Ext.trans (Rely.Ext.refl W3) e) (fun WS eS => ?_) (fun u XX WJ hI => ?_)
 ·skip
  obtain ⟨W4, hWS⟩ : ∃ z, z = WS := ⟨_, rfl⟩
  rw [← hWS] at eS ⊢
  have e4 := eS
  have x4 : Ext w W4 := Ext.tr x3 e4
  refine Qat 0 (.pointer (some ⟨g2, 0, none⟩)) 24 rfl rfl kj kj (fun _ _ _ h => h) (fun W hR => by kernel_rfl) ?_
  have r2_3 := (Qar r2_2 e3)
  refine Qat 1 (.agg (ints .u8 (grp))) 25 rfl rfl kj kj (fun _ _ _ h => h) (fun W hR => (Qau 39 _ g2 0 59 _ _ _ (Qar r2_3 hR) rfl kj (Qah [] [ints .u8 (grp)] [#[.int .i64 ep], #[.int .i64 fr], ints .u8 (bas), #[.slice a_p ps.length c_p], #[.bool n.us], #[.int .i64 n.nm], ints .u8 (n.key), ints .u8 (n.sg), ints .u8 (n.pa), #[.slice a_m n.ms.length c_m], #[.slice a_t ts.length c_t], ints .u8 (tag), ints .u8 (sig)] 0 kj) kj (isz (n := 32) kj ((Qac _ _).trans ho.rl)))) ?_
  refine Qat 2 (.pointer (some ⟨g2, 32, none⟩)) 26 rfl rfl kj kj (fun _ _ _ h => h) (fun W hR => by kernel_rfl) ?_
  refine Qat 3 (.int .i64 ep) 27 rfl rfl kj kj (fun _ _ _ h => h) (fun W hR => (Qag 3 _ g2 32 59 _ (.int .i64 ep) _ (Qar r2_3 hR) rfl kj (Qah [ints .u8 (grp)] [#[.int .i64 ep]] [#[.int .i64 fr], ints .u8 (bas), #[.slice a_p ps.length c_p], #[.bool n.us], #[.int .i64 n.nm], ints .u8 (n.key), ints .u8 (n.sg), ints .u8 (n.pa), #[.slice a_m n.ms.length c_m], #[.slice a_t ts.length c_t], ints .u8 (tag), ints .u8 (sig)] 32 ((Qac _ _).trans ho.rl) 0 _ rfl) kj)) ?_
  refine Qat 4 (.pointer (some ⟨g2, 33, none⟩)) 28 rfl rfl kj kj (fun _ _ _ h => h) (fun W hR => by kernel_rfl) ?_
  refine Qat 5 (.int .i64 fr) 29 rfl rfl kj kj (fun _ _ _ h => h) (fun W hR => (Qag 3 _ g2 33 59 _ (.int .i64 fr) _ (Qar r2_3 hR) rfl kj (Qah [ints .u8 (grp), #[.int .i64 ep]] [#[.int .i64 fr]] [ints .u8 (bas), #[.slice a_p ps.length c_p], #[.bool n.us], #[.int .i64 n.nm], ints .u8 (n.key), ints .u8 (n.sg), ints .u8 (n.pa), #[.slice a_m n.ms.length c_m], #[.slice a_t ts.length c_t], ints .u8 (tag), ints .u8 (sig)] 33 (by rw [Qaa, Qaa]; simp only [Array.size_append, cat, ((Qac _ _).trans ho.rl)]; rfl) 0 _ rfl) kj)) ?_
  refine Qat 7 (.pointer (some ⟨g2, 34, none⟩)) 31 rfl rfl kj kj (fun _ _ _ h => h) (fun W hR => by kernel_rfl) ?_
  refine Qat 8 (.slice (some ⟨g2, 34, none⟩) 32 32) 32 rfl rfl kj kj (fun _ _ _ h => h) (fun W hR => by kernel_rfl) ?_
  refine Qat 10 (.pointer (some ⟨g2, 66, none⟩)) 34 rfl rfl kj kj (fun _ _ _ h => h) (fun W hR => by kernel_rfl) ?_
  refine Qat 11 (.slice a_p ps.length c_p) 35 rfl rfl kj kj (fun _ _ _ h => h) (fun W hR => (Qag 54 _ g2 66 59 _ (.slice a_p ps.length c_p) _ (Qar r2_3 hR) rfl kj (Qah [ints .u8 (grp), #[.int .i64 ep], #[.int .i64 fr], ints .u8 (bas)] [#[.slice a_p ps.length c_p]] [#[.bool n.us], #[.int .i64 n.nm], ints .u8 (n.key), ints .u8 (n.sg), ints .u8 (n.pa), #[.slice a_m n.ms.length c_m], #[.slice a_t ts.length c_t], ints .u8 (tag), ints .u8 (sig)] 66 (by rw [Qaa, Qaa, Qaa, Qaa]; simp only [Array.size_append, cat, ((Qac _ _).trans ho.al), ((Qac _ _).trans ho.rl)]; rfl) 0 _ rfl) kj)) ?_
  refine Qat 12 (.int .i64 ((ps.length : Nat) : Int)) 36 rfl rfl kj kj (fun _ _ _ h => h) (fun W hR => by kernel_rfl) ?_
  refine Qat 13 (.int .u8 (byV ((ps.length : Nat) : Int) 0)) 37 rfl rfl kj kj (fun _ _ _ h => h) (fun W hR => (Qax (u := .int .u8 (IntKind.u8.wrap ((ps.length : Nat) : Int))) kj (congrArg (Value.int .u8) (byV0 _)))) ?_
  refine Qc2 6 14 kj ?_ ?_
  ·skip
   have y3_4 : Ext W3 W4 := (Rely.Ext.trans (Rely.Ext.refl W3) e4)
   refine Qbi rfl (fun v W' => (OwnN .u8 5 W4.heap.size (Qa6 grp ep fr)) v W' ∧ Ext W4 W') 66 #[.agg (ints .u8 (grp)), .int .i64 ep, .int .i64 fr] 30 rfl kj kj ((QcD grp ep fr _ ho.rl hep).mono (by rintro e w' ⟨v, rfl, e1, hv⟩; exact ⟨v, rfl, hv, e1⟩)) (fun _ _ h => Rely.Ext.trans y3_4 h.2) fun vv6 W5 hh6 => ?_
   obtain ⟨hv6, e5⟩ := hh6
   have x5 : Ext w W5 := Ext.tr x4 e5
   obtain ⟨ahd_, chd_, rfl, -⟩ := id (OwnN.rd hv6)
   have hva5 := OwnN.base y3_4.size hv6
   refine Qc2 9 14 kj ?_ ?_
   ·skip
    have r2_4 := (Qar r2_3 e4)
    have r2_5 := (Qar r2_4 e5)
    have y3_5 : Ext W3 W5 := (Rely.Ext.trans y3_4 e5)
    refine QaY (k := .u8) (T := 5) (xs := Qa6 grp ep fr) (ys := bas) (V := W3) 1 (.tmp 30) (.tmp 32) 26 rfl kj kj (by decide) 33 rfl 9 rfl kj kj kj hva5 (QaB 34 ho.al r2_5 (fun i hi => Qa8 [ints .u8 (grp), #[.int .i64 ep], #[.int .i64 fr]] [#[.slice a_p ps.length c_p], #[.bool n.us], #[.int .i64 n.nm], ints .u8 (n.key), ints .u8 (n.sg), ints .u8 (n.pa), #[.slice a_m n.ms.length c_m], #[.slice a_t ts.length c_t], ints .u8 (tag), ints .u8 (sig)] bas 34 i (34 + i) (by rw [Qaa, Qaa, Qaa]; simp only [Array.size_append, cat, ((Qac _ _).trans ho.rl)]; rfl) rfl (by rw [ho.al]; exact hi)) (Qay r2_5) (Nat.le_refl _) (by decide)) (by simp only [List.length_append, List.length_cons, List.length_nil, Qa9 ep fr ho.rl, ho.al, ho.gl, ho.il]; omega) y3_5 (fun _ e _ => e) fun zz1 W6 f7 y6 l6 st6 => ?_
    have x6 : Ext w W6 := Qaz.toExt x5 l6 x3.size
    obtain ⟨ap1_, cp1_, rfl, -⟩ := id (OwnN.rd f7)
    refine QaJ 14 kj ?_
    refine wo_run rfl (fun v W' => NewS W6.heap.size (ints .u8 ([(byV ((ps.length : Nat) : Int) 0)])) 5 1 v W' ∧ Ext W6 W') 38 rfl kj ⟨_, _, (by kernel_rfl : _ = Result.ok (Next.value (.slice (some ⟨W6.heap.size, 0, none⟩) 1 1)) (W6.alloc (.cells (ints .u8 ([(byV ((ps.length : Nat) : Int) 0)])) 5))), ⟨_, rfl, Nat.le_refl _, heap_alloc_new _ _⟩, Qbf _ _⟩ (fun _ _ h => Rely.Ext.trans y6 h.2) fun vv9 W7 hh9 => ?_
    obtain ⟨⟨g10, rfl, l10, r10_7⟩, e7⟩ := hh9
    have x7 : Ext w W7 := Ext.tr x6 e7
    have b10 : w.heap.size ≤ g10 := Nat.le_trans x6.size l10
    have nb10 : (.slice ap1_ ((Qa6 grp ep fr ++ bas).length) cp1_ : Value).ownBlock ≠ some g10 := fun q => by have := f7.lt q; omega
    refine QaJ 15 kj ?_
    have f11_7 := (f7.ext e7)
    have y3_7 : Ext W3 W7 := (Rely.Ext.trans y6 e7)
    refine QaY (k := .u8) (T := 5) (xs := Qa6 grp ep fr ++ bas) (ys := [(byV ((ps.length : Nat) : Int) 0)]) (V := W3) 1 (.tmp 33) (.tmp 38) 26 rfl kj kj (by decide) 39 rfl 15 rfl kj kj kj f11_7 (Qbd (xs := [(byV ((ps.length : Nat) : Int) 0)]) (n := 1) rfl r10_7 (Qay r10_7) (show 1 ≤ maxLen from by decide)) (by simp only [List.length_append, List.length_cons, List.length_nil, Qa9 ep fr ho.rl, ho.al, ho.gl, ho.il]; omega) y3_7 (fun _ e _ => e) fun zz2 W8 f12 y8 l8 st8 => ?_
    have x8 : Ext w W8 := Qaz.toExt x7 l8 x3.size
    obtain ⟨ap2_, cp2_, rfl, -⟩ := id (OwnN.rd f12)
    refine Qat 16 (.slice ap2_ ((Qa6 grp ep fr ++ bas ++ [(byV ((ps.length : Nat) : Int) 0)]).length) cp2_) 4 rfl rfl kj kj (fun _ _ _ h => h) (fun W hR => by kernel_rfl) ?_
    exact Qcl kj (.slice ap2_ ((Qa6 grp ep fr ++ bas ++ [(byV ((ps.length : Nat) : Int) 0)]).length) cp2_) ⟨rfl, rfl, trivial⟩ ⟨f12, (Qaz.trans (Qaz.ext (Qaz.trans (Qaz.ext (Qaz.ext (Qaz.refl _ _ W3) e4) e5) l6) e7) l8), y8⟩
   ·skip
    have y3_5 : Ext W3 W5 := (Rely.Ext.trans y3_4 e5)
    refine wo_run rfl (fun v W' => NewS W5.heap.size (ints .u8 ([(byV ((ps.length : Nat) : Int) 0)])) 5 1 v W' ∧ Ext W5 W') 38 rfl kj ⟨_, _, (by kernel_rfl : _ = Result.ok (Next.value (.slice (some ⟨W5.heap.size, 0, none⟩) 1 1)) (W5.alloc (.cells (ints .u8 ([(byV ((ps.length : Nat) : Int) 0)])) 5))), ⟨_, rfl, Nat.le_refl _, heap_alloc_new _ _⟩, Qbf _ _⟩ (fun _ _ h => Rely.Ext.trans y3_5 h.2) fun vv14 W6 hh14 => ?_
    obtain ⟨⟨g15, rfl, l15, r15_6⟩, e6⟩ := hh14
    have x6 : Ext w W6 := Ext.tr x5 e6
    have b15 : w.heap.size ≤ g15 := Nat.le_trans x5.size l15
    have nb15 : (.slice ahd_ ((Qa6 grp ep fr).length) chd_ : Value).ownBlock ≠ some g15 := fun q => by have := hva5.lt q; omega
    refine QaJ 9 kj ?_
    have f16_6 := (hva5.ext e6)
    have r2_4 := (Qar r2_3 e4)
    have r2_5 := (Qar r2_4 e5)
    have r2_6 := (Qar r2_5 e6)
    have y3_6 : Ext W3 W6 := (Rely.Ext.trans y3_5 e6)
    refine QaY (k := .u8) (T := 5) (xs := Qa6 grp ep fr) (ys := bas) (V := W3) 1 (.tmp 30) (.tmp 32) 26 rfl kj kj (by decide) 33 rfl 9 rfl kj kj kj f16_6 (QaB 34 ho.al r2_6 (fun i hi => Qa8 [ints .u8 (grp), #[.int .i64 ep], #[.int .i64 fr]] [#[.slice a_p ps.length c_p], #[.bool n.us], #[.int .i64 n.nm], ints .u8 (n.key), ints .u8 (n.sg), ints .u8 (n.pa), #[.slice a_m n.ms.length c_m], #[.slice a_t ts.length c_t], ints .u8 (tag), ints .u8 (sig)] bas 34 i (34 + i) (by rw [Qaa, Qaa, Qaa]; simp only [Array.size_append, cat, ((Qac _ _).trans ho.rl)]; rfl) rfl (by rw [ho.al]; exact hi)) (Qay r2_6) (Nat.le_refl _) (by decide)) (by simp only [List.length_append, List.length_cons, List.length_nil, Qa9 ep fr ho.rl, ho.al, ho.gl, ho.il]; omega) y3_6 (fun _ e _ => e) fun zz3 W7 f17 y7 l7 st7 => ?_
    have x7 : Ext w W7 := Qaz.toExt x6 l7 x3.size
    have r15_7 := st7 _ _ _ r15_6 nb15
    obtain ⟨ap3_, cp3_, rfl, -⟩ := id (OwnN.rd f17)
    refine QaJ 15 kj ?_
    refine QaY (k := .u8) (T := 5) (xs := Qa6 grp ep fr ++ bas) (ys := [(byV ((ps.length : Nat) : Int) 0)]) (V := W3) 1 (.tmp 33) (.tmp 38) 26 rfl kj kj (by decide) 39 rfl 15 rfl kj kj kj f17 (Qbd (xs := [(byV ((ps.length : Nat) : Int) 0)]) (n := 1) rfl r15_7 (Qay r15_7) (show 1 ≤ maxLen from by decide)) (by simp only [List.length_append, List.length_cons, List.length_nil, Qa9 ep fr ho.rl, ho.al, ho.gl, ho.il]; omega) y7 (fun _ e _ => e) fun zz4 W8 f19 y8 l8 st8 => ?_
    have x8 : Ext w W8 := Qaz.toExt x7 l8 x3.size
    obtain ⟨ap4_, cp4_, rfl, -⟩ := id (OwnN.rd f19)
    refine Qat 16 (.slice ap4_ ((Qa6 grp ep fr ++ bas ++ [(byV ((ps.length : Nat) : Int) 0)]).length) cp4_) 4 rfl rfl kj kj (fun _ _ _ h => h) (fun W hR => by kernel_rfl) ?_
    exact Qcl kj (.slice ap4_ ((Qa6 grp ep fr ++ bas ++ [(byV ((ps.length : Nat) : Int) 0)]).length) cp4_) ⟨rfl, rfl, trivial⟩ ⟨f19, (Qaz.trans (Qaz.trans (Qaz.ext (Qaz.ext (Qaz.ext (Qaz.refl _ _ W3) e4) e5) e6) l7) l8), y8⟩
  ·skip
   have y3_4 : Ext W3 W4 := (Rely.Ext.trans (Rely.Ext.refl W3) e4)
   refine wo_run rfl (fun v W' => NewS W4.heap.size (ints .u8 ([(byV ((ps.length : Nat) : Int) 0)])) 5 1 v W' ∧ Ext W4 W') 38 rfl kj ⟨_, _, (by kernel_rfl : _ = Result.ok (Next.value (.slice (some ⟨W4.heap.size, 0, none⟩) 1 1)) (W4.alloc (.cells (ints .u8 ([(byV ((ps.length : Nat) : Int) 0)])) 5))), ⟨_, rfl, Nat.le_refl _, heap_alloc_new _ _⟩, Qbf _ _⟩ (fun _ _ h => Rely.Ext.trans y3_4 h.2) fun vv21 W5 hh21 => ?_
   obtain ⟨⟨g22, rfl, l22, r22_5⟩, e5⟩ := hh21
   have x5 : Ext w W5 := Ext.tr x4 e5
   have b22 : w.heap.size ≤ g22 := Nat.le_trans x4.size l22
   refine QaJ 6 kj ?_
   have y3_5 : Ext W3 W5 := (Rely.Ext.trans y3_4 e5)
   refine Qbi rfl (fun v W' => (OwnN .u8 5 W5.heap.size (Qa6 grp ep fr)) v W' ∧ Ext W5 W') 66 #[.agg (ints .u8 (grp)), .int .i64 ep, .int .i64 fr] 30 rfl kj kj ((QcD grp ep fr _ ho.rl hep).mono (by rintro e w' ⟨v, rfl, e1, hv⟩; exact ⟨v, rfl, hv, e1⟩)) (fun _ _ h => Rely.Ext.trans y3_5 h.2) fun vv23 W6 hh23 => ?_
   obtain ⟨hv23, e6⟩ := hh23
   have x6 : Ext w W6 := Ext.tr x5 e6
   obtain ⟨ahd_, chd_, rfl, -⟩ := id (OwnN.rd hv23)
   have hva6 := OwnN.base y3_5.size hv23
   have hnb6 := Qbp hv23 (Qay r22_5)
   refine QaJ 9 kj ?_
   have r2_4 := (Qar r2_3 e4)
   have r2_5 := (Qar r2_4 e5)
   have r2_6 := (Qar r2_5 e6)
   have y3_6 : Ext W3 W6 := (Rely.Ext.trans y3_5 e6)
   have r22_6 := (Qar r22_5 e6)
   refine QaY (k := .u8) (T := 5) (xs := Qa6 grp ep fr) (ys := bas) (V := W3) 1 (.tmp 30) (.tmp 32) 26 rfl kj kj (by decide) 33 rfl 9 rfl kj kj kj hva6 (QaB 34 ho.al r2_6 (fun i hi => Qa8 [ints .u8 (grp), #[.int .i64 ep], #[.int .i64 fr]] [#[.slice a_p ps.length c_p], #[.bool n.us], #[.int .i64 n.nm], ints .u8 (n.key), ints .u8 (n.sg), ints .u8 (n.pa), #[.slice a_m n.ms.length c_m], #[.slice a_t ts.length c_t], ints .u8 (tag), ints .u8 (sig)] bas 34 i (34 + i) (by rw [Qaa, Qaa, Qaa]; simp only [Array.size_append, cat, ((Qac _ _).trans ho.rl)]; rfl) rfl (by rw [ho.al]; exact hi)) (Qay r2_6) (Nat.le_refl _) (by decide)) (by simp only [List.length_append, List.length_cons, List.length_nil, Qa9 ep fr ho.rl, ho.al, ho.gl, ho.il]; omega) y3_6 (fun _ e _ => e) fun zz5 W7 f24 y7 l7 st7 => ?_
   have x7 : Ext w W7 := Qaz.toExt x6 l7 x3.size
   have r22_7 := st7 _ _ _ r22_6 hnb6
   obtain ⟨ap5_, cp5_, rfl, -⟩ := id (OwnN.rd f24)
   refine QaJ 15 kj ?_
   refine QaY (k := .u8) (T := 5) (xs := Qa6 grp ep fr ++ bas) (ys := [(byV ((ps.length : Nat) : Int) 0)]) (V := W3) 1 (.tmp 33) (.tmp 38) 26 rfl kj kj (by decide) 39 rfl 15 rfl kj kj kj f24 (Qbd (xs := [(byV ((ps.length : Nat) : Int) 0)]) (n := 1) rfl r22_7 (Qay r22_7) (show 1 ≤ maxLen from by decide)) (by simp only [List.length_append, List.length_cons, List.length_nil, Qa9 ep fr ho.rl, ho.al, ho.gl, ho.il]; omega) y7 (fun _ e _ => e) fun zz6 W8 f26 y8 l8 st8 => ?_
   have x8 : Ext w W8 := Qaz.toExt x7 l8 x3.size
   obtain ⟨ap6_, cp6_, rfl, -⟩ := id (OwnN.rd f26)
   refine Qat 16 (.slice ap6_ ((Qa6 grp ep fr ++ bas ++ [(byV ((ps.length : Nat) : Int) 0)]).length) cp6_) 4 rfl rfl kj kj (fun _ _ _ h => h) (fun W hR => by kernel_rfl) ?_
   exact Qcl kj (.slice ap6_ ((Qa6 grp ep fr ++ bas ++ [(byV ((ps.length : Nat) : Int) 0)]).length) cp6_) ⟨rfl, rfl, trivial⟩ ⟨f26, (Qaz.trans (Qaz.trans (Qaz.ext (Qaz.ext (Qaz.ext (Qaz.refl _ _ W3) e4) e5) e6) l7) l8), y8⟩
 obtain ⟨W4, hWJ⟩ : ∃ z, z = WJ := ⟨_, rfl⟩
 rw [← hWJ] at hI ⊢
 obtain ⟨hJ4, l4, y4⟩ := hI
 have x4 : Ext w W4 := Qaz.toExt x3 l4 x3.size
 obtain ⟨aJ4_, cJ4_, rfl, -⟩ := id (OwnN.rd hJ4)
 refine hK5 _ _ ?_
 refine wp_seq_k fun K28 hK28 => ?_
 refine wp_seq_k fun K29 hK29 => ?_
 refine Qae ?_
 refine Qab (.int .i64 0) 5 rfl kj kj ?_
 refine Qaf ?_
 refine hK29 _ _ ?_
 refine wp_block ?_
 refine QaP (fun (s1 : Nat × Value) => [(1, .pointer (some ⟨g2, 0, none⟩)), (4, s1.2), (5, .int .i64 ((s1.1 : Nat) : Int))]) (fun (s1 : Nat × Value) W => (s1.1 ≤ ps.length) ∧ (OwnN .u8 5 W3.heap.size (Qa6 grp ep fr ++ bas ++ [byV ((ps.length : Nat) : Int) 0] ++ ((ps.take s1.1).map Qbh).flatten) s1.2 W) ∧ (((ps.take s1.1).all okP) = true) ∧ (Qaz 5 W3.heap.size W4 W) ∧ (Ext w W)) (fun (s1 : Nat × Value) => ps.length - s1.1) (0, .slice aJ4_ ((Qa6 grp ep fr ++ bas ++ [byV ((ps.length : Nat) : Int) 0]).length) cJ4_) ⟨rfl, rfl, rfl, trivial⟩ ⟨(Nat.zero_le _), (by rw [List.take_zero, List.map_nil, List.flatten_nil, List.append_nil]; exact hJ4), rfl, (Qaz.refl _ _ W4), x4⟩ fun s1 X1 V1 hI1 => ?_
 obtain ⟨i, u⟩ := s1
 obtain ⟨hi, hu, hr, kk1, xx1⟩ := hI1
 replace hi : i ≤ ps.length := hi
 replace hu : OwnN .u8 5 W3.heap.size (Qa6 grp ep fr ++ bas ++ [byV ((ps.length : Nat) : Int) 0] ++ ((ps.take i).map Qbh).flatten) u V1 := hu
 replace hr : ((ps.take i).all okP) = true := hr
 replace kk1 : Qaz 5 W3.heap.size W4 V1 := kk1
 replace xx1 : Ext w V1 := xx1
 have l5 := kk1
 refine wp_seq_k fun K30 hK30 => ?_
 refine wp_seq_k fun K31 hK31 => ?_
 refine Qae ?_
 refine Qab (.int .i64 ((i : Nat) : Int)) 40 rfl kj kj ?_
 refine Qab (.pointer (some ⟨g2, 66, none⟩)) 41 rfl kj kj ?_
 have r2_3 := (Qar r2_2 e3)
 have r2_4 := (Qaz.row l4 r2_3 (by decide))
 have r2_5 := (Qaz.row l5 r2_4 (by decide))
 refine Qab (.slice a_p ps.length c_p) 42 rfl kj (Qag 54 _ g2 66 59 _ (.slice a_p ps.length c_p) _ r2_5 rfl kj (Qah [ints .u8 (grp), #[.int .i64 ep], #[.int .i64 fr], ints .u8 (bas)] [#[.slice a_p ps.length c_p]] [#[.bool n.us], #[.int .i64 n.nm], ints .u8 (n.key), ints .u8 (n.sg), ints .u8 (n.pa), #[.slice a_m n.ms.length c_m], #[.slice a_t ts.length c_t], ints .u8 (tag), ints .u8 (sig)] 66 (by rw [Qaa, Qaa, Qaa, Qaa]; simp only [Array.size_append, cat, ((Qac _ _).trans ho.al), ((Qac _ _).trans ho.rl)]; rfl) 0 _ rfl) kj) ?_
 refine Qab (.int .i64 ((ps.length : Nat) : Int)) 43 rfl kj kj ?_
 refine Qab (.bool (decide (((i : Nat) : Int) < ((ps.length : Nat) : Int)))) 44 rfl kj kj ?_
 refine Qaf ?_
 refine hK31 _ _ ?_
 refine Qa5 (t := decide (((i : Nat) : Int) < ((ps.length : Nat) : Int))) kj (fun c32 => ?_) (fun c32 => ?_)
 ·skip
  have hlt44 : i < ps.length := by have := of_decide_eq_true c32; omega
  refine wp_skip ?_
  refine hK30 _ _ ?_
  refine wp_seq_k fun K33 hK33 => ?_
  refine wp_block ?_
  refine wp_seq_k fun K34 hK34 => ?_
  refine wp_seq_k fun K35 hK35 => ?_
  obtain ⟨gT, oT, hat, hels0⟩ := id hcm.ps
  have hel0nd := hels0 i (by omega)
  have hmemnd := Qb3 ps pr0 i (by omega)
  obtain ⟨nd, hndnd⟩ : ∃ z, z = ps.getD i pr0 := ⟨_, rfl⟩
  rw [← hndnd] at hel0nd hmemnd
  have hok := hel0nd.ok
  rcases (show okP nd = false ∨ okP nd = true by cases okP nd <;> simp) with hgd | hgd
  ·skip
   have hV : ps.all okP = false := QcV okP ps nd hmemnd hgd
   refine Qae ?_
   refine Qab (.pointer (some ⟨g2, 66, none⟩)) 47 rfl kj kj ?_
   refine Qab (.slice a_p ps.length c_p) 48 rfl kj (Qag 54 _ g2 66 59 _ (.slice a_p ps.length c_p) _ r2_5 rfl kj (Qah [ints .u8 (grp), #[.int .i64 ep], #[.int .i64 fr], ints .u8 (bas)] [#[.slice a_p ps.length c_p]] [#[.bool n.us], #[.int .i64 n.nm], ints .u8 (n.key), ints .u8 (n.sg), ints .u8 (n.pa), #[.slice a_m n.ms.length c_m], #[.slice a_t ts.length c_t], ints .u8 (tag), ints .u8 (sig)] 66 (by rw [Qaa, Qaa, Qaa, Qaa]; simp only [Array.size_append, cat, ((Qac _ _).trans ho.al), ((Qac _ _).trans ho.rl)]; rfl) 0 _ rfl) kj) ?_
   refine Qab (.int .i64 ((i : Nat) : Int)) 49 rfl kj kj ?_
   refine Qab (.pointer (some ⟨gT, oT + i * 263, none⟩)) 50 rfl kj (Qbc 54 _ _ .i64 i gT oT ps.length c_p 47 263 a_p (hat (by omega)) rfl kj kj kj kj (by omega)) ?_
   obtain ⟨u36, hu36⟩ := Qek nd hok
   refine Qab (.agg (cat [ints .u8 (nd.p.grp), #[.int .i64 nd.p.ep], #[.int .i64 nd.p.fr], ints .u8 (nd.p.bas), #[.int .i64 nd.p.kd], #[.bool nd.p.n.us], #[.int .i64 nd.p.n.nm], ints .u8 (nd.p.n.key), ints .u8 (nd.p.n.sg), ints .u8 (nd.p.n.pa), #[.slice nd.a nd.p.n.ms.length nd.c], ints .u8 (nd.p.start), #[.int .i64 nd.p.at_], ints .u8 (nd.p.sig)])) 51 rfl kj (Qbm 47 _ gT (oT + i * 263) 263 (cat (prP nd)) u36 hu36 (Qb5 nd hok) (prK.keep hel0nd xx1.size (fun k _ hl => xx1.block k hl)).cell rfl kj kj kj) ?_
   refine Qa1 (.bool false) 58 #[.agg (cat [ints .u8 (nd.p.grp), #[.int .i64 nd.p.ep], #[.int .i64 nd.p.fr], ints .u8 (nd.p.bas), #[.int .i64 nd.p.kd], #[.bool nd.p.n.us], #[.int .i64 nd.p.n.nm], ints .u8 (nd.p.n.key), ints .u8 (nd.p.n.sg), ints .u8 (nd.p.n.pa), #[.slice nd.a nd.p.n.ms.length nd.c], ints .u8 (nd.p.start), #[.int .i64 nd.p.at_], ints .u8 (nd.p.sig)])] 52 rfl kj kj (Qef nd.p.grp nd.p.ep nd.p.fr nd.p.bas nd.p.kd nd.p.n.us nd.p.n.nm nd.p.n.key nd.p.n.sg nd.p.n.pa nd.p.n.ms nd.p.start nd.p.at_ nd.p.sig _ _ _ hgd _ hok.rl hok.rb hok.al hok.ab hok.n.kl hok.n.gl hok.n.pl hok.n.kb hok.n.gb hok.n.pb (hz.pm nd hmemnd) hok.tl hok.tb hok.il hok.ib (RdK.here (RdK.ext hel0nd.rd xx1))) fun W6 e6 => ?_
   have x6 : Ext w W6 := Ext.tr xx1 e6
   refine Qab (.bool true) 53 rfl kj kj ?_
   refine Qaf ?_
   refine hK35 _ _ ?_
   refine cond_true kj ?_
   refine wp_seq_k fun K37 hK37 => ?_
   refine Qae ?_
   refine Qab (.slice none 0 0) 2 rfl kj kj ?_
   refine Qab (.bool false) 3 rfl kj kj ?_
   refine Qaf ?_
   refine hK37 _ _ ?_
   refine wp_ret ?_
   repeat (first | with_reducible refine goR1 ?_ | with_reducible refine goR2 ?_)
   exact (show bodyPost _ _ _ .ret _ _ from ret2 (.slice none 0 0) (.bool false) rfl (Qaw kj) (Qaw kj) ⟨_, rfl, x6, by rw [hV]; exact rfl⟩)
  ·skip
   refine Qae ?_
   refine Qab (.pointer (some ⟨g2, 66, none⟩)) 47 rfl kj kj ?_
   refine Qab (.slice a_p ps.length c_p) 48 rfl kj (Qag 54 _ g2 66 59 _ (.slice a_p ps.length c_p) _ r2_5 rfl kj (Qah [ints .u8 (grp), #[.int .i64 ep], #[.int .i64 fr], ints .u8 (bas)] [#[.slice a_p ps.length c_p]] [#[.bool n.us], #[.int .i64 n.nm], ints .u8 (n.key), ints .u8 (n.sg), ints .u8 (n.pa), #[.slice a_m n.ms.length c_m], #[.slice a_t ts.length c_t], ints .u8 (tag), ints .u8 (sig)] 66 (by rw [Qaa, Qaa, Qaa, Qaa]; simp only [Array.size_append, cat, ((Qac _ _).trans ho.al), ((Qac _ _).trans ho.rl)]; rfl) 0 _ rfl) kj) ?_
   refine Qab (.int .i64 ((i : Nat) : Int)) 49 rfl kj kj ?_
   refine Qab (.pointer (some ⟨gT, oT + i * 263, none⟩)) 50 rfl kj (Qbc 54 _ _ .i64 i gT oT ps.length c_p 47 263 a_p (hat (by omega)) rfl kj kj kj kj (by omega)) ?_
   obtain ⟨u38, hu38⟩ := Qek nd hok
   refine Qab (.agg (cat [ints .u8 (nd.p.grp), #[.int .i64 nd.p.ep], #[.int .i64 nd.p.fr], ints .u8 (nd.p.bas), #[.int .i64 nd.p.kd], #[.bool nd.p.n.us], #[.int .i64 nd.p.n.nm], ints .u8 (nd.p.n.key), ints .u8 (nd.p.n.sg), ints .u8 (nd.p.n.pa), #[.slice nd.a nd.p.n.ms.length nd.c], ints .u8 (nd.p.start), #[.int .i64 nd.p.at_], ints .u8 (nd.p.sig)])) 51 rfl kj (Qbm 47 _ gT (oT + i * 263) 263 (cat (prP nd)) u38 hu38 (Qb5 nd hok) (prK.keep hel0nd xx1.size (fun k _ hl => xx1.block k hl)).cell rfl kj kj kj) ?_
   refine Qa1 (.bool true) 58 #[.agg (cat [ints .u8 (nd.p.grp), #[.int .i64 nd.p.ep], #[.int .i64 nd.p.fr], ints .u8 (nd.p.bas), #[.int .i64 nd.p.kd], #[.bool nd.p.n.us], #[.int .i64 nd.p.n.nm], ints .u8 (nd.p.n.key), ints .u8 (nd.p.n.sg), ints .u8 (nd.p.n.pa), #[.slice nd.a nd.p.n.ms.length nd.c], ints .u8 (nd.p.start), #[.int .i64 nd.p.at_], ints .u8 (nd.p.sig)])] 52 rfl kj kj (Qef nd.p.grp nd.p.ep nd.p.fr nd.p.bas nd.p.kd nd.p.n.us nd.p.n.nm nd.p.n.key nd.p.n.sg nd.p.n.pa nd.p.n.ms nd.p.start nd.p.at_ nd.p.sig _ _ _ hgd _ hok.rl hok.rb hok.al hok.ab hok.n.kl hok.n.gl hok.n.pl hok.n.kb hok.n.gb hok.n.pb (hz.pm nd hmemnd) hok.tl hok.tb hok.il hok.ib (RdK.here (RdK.ext hel0nd.rd xx1))) fun W6 e6 => ?_
   have x6 : Ext w W6 := Ext.tr xx1 e6
   refine Qab (.bool false) 53 rfl kj kj ?_
   refine Qaf ?_
   refine hK35 _ _ ?_
   refine cond_false kj ?_
   refine wp_skip ?_
   refine hK34 _ _ ?_
   refine Qae ?_
   refine Qab (u) 54 rfl kj kj ?_
   refine Qab (.pointer (some ⟨g2, 66, none⟩)) 55 rfl kj kj ?_
   have r2_6 := (Qar r2_5 e6)
   refine Qab (.slice a_p ps.length c_p) 56 rfl kj (Qag 54 _ g2 66 59 _ (.slice a_p ps.length c_p) _ r2_6 rfl kj (Qah [ints .u8 (grp), #[.int .i64 ep], #[.int .i64 fr], ints .u8 (bas)] [#[.slice a_p ps.length c_p]] [#[.bool n.us], #[.int .i64 n.nm], ints .u8 (n.key), ints .u8 (n.sg), ints .u8 (n.pa), #[.slice a_m n.ms.length c_m], #[.slice a_t ts.length c_t], ints .u8 (tag), ints .u8 (sig)] 66 (by rw [Qaa, Qaa, Qaa, Qaa]; simp only [Array.size_append, cat, ((Qac _ _).trans ho.al), ((Qac _ _).trans ho.rl)]; rfl) 0 _ rfl) kj) ?_
   refine Qab (.int .i64 ((i : Nat) : Int)) 57 rfl kj kj ?_
   refine Qab (.pointer (some ⟨gT, oT + i * 263, none⟩)) 58 rfl kj (Qbc 54 _ _ .i64 i gT oT ps.length c_p 47 263 a_p (hat (by omega)) rfl kj kj kj kj (by omega)) ?_
   obtain ⟨u39, hu39⟩ := Qek nd hok
   refine Qab (.agg (cat [ints .u8 (nd.p.grp), #[.int .i64 nd.p.ep], #[.int .i64 nd.p.fr], ints .u8 (nd.p.bas), #[.int .i64 nd.p.kd], #[.bool nd.p.n.us], #[.int .i64 nd.p.n.nm], ints .u8 (nd.p.n.key), ints .u8 (nd.p.n.sg), ints .u8 (nd.p.n.pa), #[.slice nd.a nd.p.n.ms.length nd.c], ints .u8 (nd.p.start), #[.int .i64 nd.p.at_], ints .u8 (nd.p.sig)])) 59 rfl kj (Qbm 47 _ gT (oT + i * 263) 263 (cat (prP nd)) u39 hu39 (Qb5 nd hok) (prK.keep hel0nd x6.size (fun k _ hl => x6.block k hl)).cell rfl kj kj kj) ?_
   refine Qak (fun v W' => (OwnN .u8 5 W6.heap.size (Qbh nd)) v W' ∧ Ext W6 W') 59 #[.agg (cat [ints .u8 (nd.p.grp), #[.int .i64 nd.p.ep], #[.int .i64 nd.p.fr], ints .u8 (nd.p.bas), #[.int .i64 nd.p.kd], #[.bool nd.p.n.us], #[.int .i64 nd.p.n.nm], ints .u8 (nd.p.n.key), ints .u8 (nd.p.n.sg), ints .u8 (nd.p.n.pa), #[.slice nd.a nd.p.n.ms.length nd.c], ints .u8 (nd.p.start), #[.int .i64 nd.p.at_], ints .u8 (nd.p.sig)])] 60 rfl kj kj ((QfU nd.p.grp nd.p.ep nd.p.fr nd.p.bas nd.p.kd nd.p.n.us nd.p.n.nm nd.p.n.key nd.p.n.sg nd.p.n.pa nd.p.n.ms nd.p.start nd.p.at_ nd.p.sig _ _ _ hok.rl hok.rb hok.al hok.ab hok.n.kl hok.n.gl hok.n.pl hok.n.kb hok.n.gb hok.n.pb (hz.pm nd hmemnd) hok.tl hok.tb hok.il hok.ib (RdK.here (RdK.ext hel0nd.rd x6)) (QbR (by have h9 := (Qc9 hgd).1; unfold hgB at h9; simp only [Bool.and_eq_true] at h9; exact h9.1)) (Qc9 hgd).2.1).mono (by rintro e w' ⟨v, rfl, e1, hv⟩; exact ⟨v, rfl, hv, e1⟩)) fun vv40 W7 hh40 => ?_
   obtain ⟨hv40, e7⟩ := hh40
   have x7 : Ext w W7 := Ext.tr x6 e7
   obtain ⟨apb_, cpb_, rfl, -⟩ := id (OwnN.rd hv40)
   have f41_6 := (hu.ext e6)
   have f42_7 := (f41_6.ext e7)
   have y3_5 : Ext W3 V1 := (Qaz.toExt y4 l5 (Rely.Ext.refl W3).size)
   have y3_6 : Ext W3 W6 := (Rely.Ext.trans y3_5 e6)
   have y3_7 : Ext W3 W7 := (Rely.Ext.trans y3_6 e7)
   refine Qce (k := .u8) (T := 5) (xs := Qa6 grp ep fr ++ bas ++ [byV ((ps.length : Nat) : Int) 0] ++ ((ps.take i).map Qbh).flatten) (ys := Qbh nd) (V := W3) 1 (.tmp 54) (.tmp 60) 26 rfl kj kj (by decide) 61 rfl kj kj kj f42_7 (OwnN.rd hv40) (by simp only [List.length_append, List.length_cons, List.length_nil, Qa9 ep fr ho.rl, ho.al, ho.gl, ho.il]; have h1 := hb1 i; have h2 := Qdq nd hok (hz.pm nd hmemnd); omega) y3_7 fun zz7 W8 f43 y8 l8 => ?_
   have x8 : Ext w W8 := Qaz.toExt x7 l8 x3.size
   obtain ⟨ap7_, cp7_, rfl, -⟩ := id (OwnN.rd f43)
   refine Qab (.slice ap7_ ((Qa6 grp ep fr ++ bas ++ [byV ((ps.length : Nat) : Int) 0] ++ ((ps.take i).map Qbh).flatten ++ Qbh nd).length) cp7_) 4 rfl kj kj ?_
   refine Qaf ?_
   refine hK33 _ _ ?_
   refine Qae ?_
   refine Qab (.int .i64 ((i : Nat) : Int)) 45 rfl kj kj ?_
   refine Qab (.int .i64 ((i + 1 : Nat) : Int)) 46 rfl kj (Qax (u := .int .i64 (IntKind.i64.wrap (((i : Nat) : Int) + 1))) kj (congrArg (Value.int .i64) (i64n _ _ (by omega) (by omega)))) ?_
   refine Qab (.int .i64 ((i + 1 : Nat) : Int)) 5 rfl kj kj ?_
   refine Qaf ?_
   repeat (first | with_reducible refine goX1 ?_ | with_reducible refine goX2 ?_ | with_reducible refine goX3 ?_)
   exact QaK ((i + 1), .slice ap7_ ((Qa6 grp ep fr ++ bas ++ [byV ((ps.length : Nat) : Int) 0] ++ ((ps.take i).map Qbh).flatten ++ Qbh nd).length) cp7_) ⟨rfl, rfl, rfl, trivial⟩ ⟨(by omega), (by rw [QcT Qbh ps pr0 i hlt44, ← hndnd]; exact f43), (by rw [Qc3 ps pr0 i hlt44, List.all_append, hr, ← hndnd]; simp only [List.all_cons, List.all_nil, hgd]; rfl), (Qaz.trans (Qaz.ext (Qaz.ext l5 e6) e7) l8), x8⟩ (by omega)
 ·skip
  have heq44 : i = ps.length := by have := of_decide_eq_false c32; omega
  have hV : ps.all okP = true := by rw [heq44, List.take_length] at hr; exact hr
  have hu9 : OwnN .u8 5 W3.heap.size (Qa6 grp ep fr ++ bas ++ [byV ((ps.length : Nat) : Int) 0] ++ (ps.map Qbh).flatten) u V1 := by have h7 := hu; rw [heq44, List.take_length] at h7; exact h7
  obtain ⟨auu_, cuu_, rfl, -⟩ := id (OwnN.rd hu9)
  refine wp_exit ?_
  refine hK28 _ _ ?_
  refine wp_seq_k fun K45 hK45 => ?_
  have y3_5 : Ext W3 V1 := (Qaz.toExt y4 l5 (Rely.Ext.refl W3).size)
  refine region_walkG (Ext W3) kj fun W6 e6 => ⟨Rely.Ext.trans y3_5 e6, ?_⟩
  have x6 : Ext w W6 := Ext.tr xx1 e6
  refine Qat 0 (.slice auu_ ((Qa6 grp ep fr ++ bas ++ [byV ((ps.length : Nat) : Int) 0] ++ (ps.map Qbh).flatten).length) cuu_) 62 rfl rfl kj kj (fun _ _ _ h => h) (fun W hR => by kernel_rfl) ?_
  refine Qat 1 (.pointer (some ⟨g2, 67, none⟩)) 63 rfl rfl kj kj (fun _ _ _ h => h) (fun W hR => by kernel_rfl) ?_
  refine Qat 2 (.agg (cat [#[.bool n.us], #[.int .i64 n.nm], ints .u8 (n.key), ints .u8 (n.sg), ints .u8 (n.pa), #[.slice a_m n.ms.length c_m], #[.slice a_t ts.length c_t]])) 64 rfl rfl kj kj (fun _ _ _ h => h) (fun W hR => (Qau 57 _ g2 67 59 _ _ _ (Qar r2_3 hR) rfl kj (Qah [ints .u8 (grp), #[.int .i64 ep], #[.int .i64 fr], ints .u8 (bas), #[.slice a_p ps.length c_p]] [#[.bool n.us], #[.int .i64 n.nm], ints .u8 (n.key), ints .u8 (n.sg), ints .u8 (n.pa), #[.slice a_m n.ms.length c_m], #[.slice a_t ts.length c_t]] [ints .u8 (tag), ints .u8 (sig)] 67 (by rw [Qaa, Qaa, Qaa, Qaa, Qaa]; simp only [Array.size_append, cat, ((Qac _ _).trans ho.al), ((Qac _ _).trans ho.rl)]; rfl)) kj (isz (n := 100) kj (by rw [Qaa, Qaa, Qaa, Qaa, Qaa, Qaa, Qaa]; simp only [Array.size_append, cat, ((Qac _ _).trans ho.n.gl), ((Qac _ _).trans ho.n.kl), ((Qac _ _).trans ho.n.pl)]; rfl)))) ?_
  refine Qat 5 (.pointer (some ⟨g2, 167, none⟩)) 67 rfl rfl kj kj (fun _ _ _ h => h) (fun W hR => by kernel_rfl) ?_
  refine Qat 6 (.slice (some ⟨g2, 167, none⟩) 32 32) 68 rfl rfl kj kj (fun _ _ _ h => h) (fun W hR => by kernel_rfl) ?_
  refine QaJ 3 kj ?_
  have y3_6 : Ext W3 W6 := (Rely.Ext.trans y3_5 e6)
  refine Qbi rfl (fun v W' => (OwnN .u8 5 W6.heap.size (Qb9 n ts)) v W' ∧ Ext W6 W') 67 #[.agg (cat [#[.bool n.us], #[.int .i64 n.nm], ints .u8 (n.key), ints .u8 (n.sg), ints .u8 (n.pa), #[.slice a_m n.ms.length c_m], #[.slice a_t ts.length c_t]])] 65 rfl kj kj ((QfV n ts a_m c_m a_t c_t _ ho.n hz.nm hps.1 hps.2 (RdK.here (RdK.ext hcm.m x6)) ((hcm.ts.ext stK x6).here stK)).mono (by rintro e w' ⟨v, rfl, e1, hv⟩; exact ⟨v, rfl, hv, e1⟩)) (fun _ _ h => Rely.Ext.trans y3_6 h.2) fun vv46 W7 hh46 => ?_
  obtain ⟨hv46, e7⟩ := hh46
  have x7 : Ext w W7 := Ext.tr x6 e7
  obtain ⟨apth_, cpth_, rfl, -⟩ := id (OwnN.rd hv46)
  refine QaJ 4 kj ?_
  have f47_6 := (hu9.ext e6)
  have f48_7 := (f47_6.ext e7)
  have y3_7 : Ext W3 W7 := (Rely.Ext.trans y3_6 e7)
  refine QaY (k := .u8) (T := 5) (xs := Qa6 grp ep fr ++ bas ++ [byV ((ps.length : Nat) : Int) 0] ++ (ps.map Qbh).flatten) (ys := Qb9 n ts) (V := W3) 1 (.tmp 62) (.tmp 65) 26 rfl kj kj (by decide) 66 rfl 4 rfl kj kj kj f48_7 (OwnN.rd hv46) (by simp only [List.length_append, List.length_cons, List.length_nil, Qa9 ep fr ho.rl, ho.al, ho.gl, ho.il]; have h1 := hb1 ps.length; rw [List.take_length] at h1; omega) y3_7 (fun _ e _ => e) fun zz8 W8 f49 y8 l8 st8 => ?_
  have x8 : Ext w W8 := Qaz.toExt x7 l8 x3.size
  obtain ⟨ap8_, cp8_, rfl, -⟩ := id (OwnN.rd f49)
  refine QaJ 7 kj ?_
  have r2_6 := (Qar r2_5 e6)
  have r2_7 := (Qar r2_6 e7)
  have r2_8 := (Qaz.row l8 r2_7 (by decide))
  refine QaY (k := .u8) (T := 5) (xs := Qa6 grp ep fr ++ bas ++ [byV ((ps.length : Nat) : Int) 0] ++ (ps.map Qbh).flatten ++ Qb9 n ts) (ys := tag) (V := W3) 1 (.tmp 66) (.tmp 68) 26 rfl kj kj (by decide) 69 rfl 7 rfl kj kj kj f49 (QaB 167 ho.gl r2_8 (fun i hi => Qa8 [ints .u8 (grp), #[.int .i64 ep], #[.int .i64 fr], ints .u8 (bas), #[.slice a_p ps.length c_p], #[.bool n.us], #[.int .i64 n.nm], ints .u8 (n.key), ints .u8 (n.sg), ints .u8 (n.pa), #[.slice a_m n.ms.length c_m], #[.slice a_t ts.length c_t]] [ints .u8 (sig)] tag 167 i (167 + i) (by rw [Qaa, Qaa, Qaa, Qaa, Qaa, Qaa, Qaa, Qaa, Qaa, Qaa, Qaa, Qaa]; simp only [Array.size_append, cat, ((Qac _ _).trans ho.al), ((Qac _ _).trans ho.n.gl), ((Qac _ _).trans ho.n.kl), ((Qac _ _).trans ho.n.pl), ((Qac _ _).trans ho.rl)]; rfl) rfl (by rw [ho.gl]; exact hi)) (Qay r2_8) (Nat.le_refl _) (by decide)) (by simp only [List.length_append, List.length_cons, List.length_nil, Qa9 ep fr ho.rl, ho.al, ho.gl, ho.il]; have h1 := hb1 ps.length; rw [List.take_length] at h1; omega) y8 (fun _ e _ => e) fun zz9 W9 f51 y9 l9 st9 => ?_
  have x9 : Ext w W9 := Qaz.toExt x8 l9 x3.size
  obtain ⟨ap9_, cp9_, rfl, -⟩ := id (OwnN.rd f51)
  refine Qat 8 (.slice ap9_ ((Qa6 grp ep fr ++ bas ++ [byV ((ps.length : Nat) : Int) 0] ++ (ps.map Qbh).flatten ++ Qb9 n ts ++ tag).length) cp9_) 4 rfl rfl kj kj (fun _ _ _ h => h) (fun W hR => by kernel_rfl) ?_
  refine wb_nil kj ?_
  refine hK45 _ _ ?_
  refine wp_seq_k fun K53 hK53 => ?_
  refine Qae ?_
  refine Qab (.slice ap9_ ((Qa6 grp ep fr ++ bas ++ [byV ((ps.length : Nat) : Int) 0] ++ (ps.map Qbh).flatten ++ Qb9 n ts ++ tag).length) cp9_) 70 rfl kj kj ?_
  refine Qab (.pointer (some ⟨g2, 199, none⟩)) 71 rfl kj kj ?_
  refine Qab (.slice (some ⟨g2, 199, none⟩) 64 64) 72 rfl kj kj ?_
  have r2_9 := (Qaz.row l9 r2_8 (by decide))
  refine Qce (k := .u8) (T := 5) (xs := Qa6 grp ep fr ++ bas ++ [byV ((ps.length : Nat) : Int) 0] ++ (ps.map Qbh).flatten ++ Qb9 n ts ++ tag) (ys := sig) (V := W3) 1 (.tmp 70) (.tmp 72) 26 rfl kj kj (by decide) 73 rfl kj kj kj f51 (QaB 199 ho.il r2_9 (fun i hi => Qa8 [ints .u8 (grp), #[.int .i64 ep], #[.int .i64 fr], ints .u8 (bas), #[.slice a_p ps.length c_p], #[.bool n.us], #[.int .i64 n.nm], ints .u8 (n.key), ints .u8 (n.sg), ints .u8 (n.pa), #[.slice a_m n.ms.length c_m], #[.slice a_t ts.length c_t], ints .u8 (tag)] [] sig 199 i (199 + i) (by rw [Qaa, Qaa, Qaa, Qaa, Qaa, Qaa, Qaa, Qaa, Qaa, Qaa, Qaa, Qaa, Qaa]; simp only [Array.size_append, cat, ((Qac _ _).trans ho.al), ((Qac _ _).trans ho.gl), ((Qac _ _).trans ho.n.gl), ((Qac _ _).trans ho.n.kl), ((Qac _ _).trans ho.n.pl), ((Qac _ _).trans ho.rl)]; rfl) rfl (by rw [ho.il]; exact hi)) (Qay r2_9) (Nat.le_refl _) (by decide)) (by simp only [List.length_append, List.length_cons, List.length_nil, Qa9 ep fr ho.rl, ho.al, ho.gl, ho.il]; have h1 := hb1 ps.length; rw [List.take_length] at h1; omega) y9 fun zz10 W10 f54 y10 l10 => ?_
  have x10 : Ext w W10 := Qaz.toExt x9 l10 x3.size
  obtain ⟨xz, hxz⟩ : ∃ z, z = Qa6 grp ep fr ++ bas ++ [byV ((ps.length : Nat) : Int) 0] ++ (ps.map Qbh).flatten ++ Qb9 n ts ++ tag ++ sig := ⟨_, rfl⟩
  rw [← hxz] at f54
  obtain ⟨ap10_, cp10_, rfl, -⟩ := id (OwnN.rd f54)
  refine Qa1 (.tuple #[.slice ap10_ ((xz).length) cp10_, .bool true]) 52 #[.slice ap10_ ((xz).length) cp10_] 74 rfl kj kj ((QiW (xz) ap10_ cp10_ _ (by rw [hxz]; exact hf))) fun W11 e11 => ?_
  have x11 : Ext w W11 := Ext.tr x10 e11
  refine Qab (.slice ap10_ ((xz).length) cp10_) 75 rfl kj kj ?_
  refine Qab (.bool true) 76 rfl kj kj ?_
  refine Qab (.slice ap10_ ((xz).length) cp10_) 2 rfl kj kj ?_
  refine Qab (.bool true) 3 rfl kj kj ?_
  refine Qaf ?_
  refine hK53 _ _ ?_
  refine wp_ret ?_
  repeat (first | with_reducible refine goR1 ?_ | with_reducible refine goR2 ?_)
  have f56_11 := (f54.ext e11)
  exact (show bodyPost _ _ _ .ret _ _ from ret2 (.slice ap10_ ((xz).length) cp10_) (.bool true) rfl (Qaw kj) (Qaw kj) ⟨_, rfl, x11, by rw [hV]; exact ⟨_, rfl, OwnN.base x3.size (by show OwnN .u8 5 _ (Qc0 grp ep fr bas ps n ts tag sig) _ _; rw [show Qc0 grp ep fr bas ps n ts tag sig = xz from hxz.symm]; exact f56_11)⟩⟩)
set_option maxHeartbeats 4000000 in
set_option maxRecDepth 100000 in
theorem QhN (grp : List Int) (ep fr : Int) (bas : List Int) (ps : List PrV) (n : NdC) (ts : List StV) (tag sig : List Int) (a_p : Option Addr) (c_p : Nat) (a_m : Option Addr) (c_m : Nat) (a_t : Option Addr) (c_t : Nat) (w : World) (ho : CmOk grp bas n tag sig) (hz : CmSz ps n ts) (hcm : CmAt w.heap.size w ps a_p n a_m c_m ts a_t) (h0 : hgB ep fr = true) (h1 : ps.length ≤ 255) (h2 : QbT n ts = true) (hf : 65536 < (Qc0 grp ep fr bas ps n ts tag sig).length) : Calls Try.prog 26 #[.agg (cat [ints .u8 (grp), #[.int .i64 ep], #[.int .i64 fr], ints .u8 (bas), #[.slice a_p ps.length c_p], #[.bool n.us], #[.int .i64 n.nm], ints .u8 (n.key), ints .u8 (n.sg), ints .u8 (n.pa), #[.slice a_m n.ms.length c_m], #[.slice a_t ts.length c_t], ints .u8 (tag), ints .u8 (sig)])] w (QbE w (QdB w.heap.size ((if ps.all okP = true then none else none)))) := by
 have hep := QbR (show inB ep 4294967295 = true by unfold hgB at h0; simp only [Bool.and_eq_true] at h0; exact h0.1)
 have hps := Qgp h2
 have hpa := Qfq n ts ho.n hz.nm hps.1 (fun t ht => (QeJ hcm.ts t ht).1) hps.2
 have hb1 : ∀ i, ((ps.take i).map Qbh).flatten.length ≤ 255 * 1000400 := fun i => Qcp Qbh 1000400 ps (fun p hp => Qdq p (QdK hcm.ps p hp) (hz.pm p hp)) i 255 h1
 refine enter 77 [(0, .agg (cat [ints .u8 (grp), #[.int .i64 ep], #[.int .i64 fr], ints .u8 (bas), #[.slice a_p ps.length c_p], #[.bool n.us], #[.int .i64 n.nm], ints .u8 (n.key), ints .u8 (n.sg), ints .u8 (n.pa), #[.slice a_m n.ms.length c_m], #[.slice a_t ts.length c_t], ints .u8 (tag), ints .u8 (sig)]))] Try.func26 rfl rfl kj rfl ?_
 refine wp_seq_k fun K1 hK1 => ?_
 refine Qae ?_
 refine Qav (cat [ints .u8 (grp), #[.int .i64 ep], #[.int .i64 fr], ints .u8 (bas), #[.slice a_p ps.length c_p], #[.bool n.us], #[.int .i64 n.nm], ints .u8 (n.key), ints .u8 (n.sg), ints .u8 (n.pa), #[.slice a_m n.ms.length c_m], #[.slice a_t ts.length c_t], ints .u8 (tag), ints .u8 (sig)]) 59 1 rfl kj kj fun g2 W1 l2 e1 r2_1 => ?_
 have x1 : Ext w W1 := Ext.tr (Rely.Ext.refl w) e1
 have b2 : w.heap.size ≤ g2 := Nat.le_trans (Rely.Ext.refl w).size l2
 refine Qab (.slice none 0 0) 2 rfl kj kj ?_
 refine Qab (.bool false) 3 rfl kj kj ?_
 refine Qaf ?_
 refine hK1 _ _ ?_
 refine wp_seq_k fun K3 hK3 => ?_
 refine wp_seq_k fun K4 hK4 => ?_
 refine Qae ?_
 refine Qab (.pointer (some ⟨g2, 32, none⟩)) 6 rfl kj kj ?_
 refine Qab (.int .i64 ep) 7 rfl kj (Qag 3 _ g2 32 59 _ (.int .i64 ep) _ r2_1 rfl kj (Qah [ints .u8 (grp)] [#[.int .i64 ep]] [#[.int .i64 fr], ints .u8 (bas), #[.slice a_p ps.length c_p], #[.bool n.us], #[.int .i64 n.nm], ints .u8 (n.key), ints .u8 (n.sg), ints .u8 (n.pa), #[.slice a_m n.ms.length c_m], #[.slice a_t ts.length c_t], ints .u8 (tag), ints .u8 (sig)] 32 ((Qac _ _).trans ho.rl) 0 _ rfl) kj) ?_
 refine Qab (.pointer (some ⟨g2, 33, none⟩)) 8 rfl kj kj ?_
 refine Qab (.int .i64 fr) 9 rfl kj (Qag 3 _ g2 33 59 _ (.int .i64 fr) _ r2_1 rfl kj (Qah [ints .u8 (grp), #[.int .i64 ep]] [#[.int .i64 fr]] [ints .u8 (bas), #[.slice a_p ps.length c_p], #[.bool n.us], #[.int .i64 n.nm], ints .u8 (n.key), ints .u8 (n.sg), ints .u8 (n.pa), #[.slice a_m n.ms.length c_m], #[.slice a_t ts.length c_t], ints .u8 (tag), ints .u8 (sig)] 33 (by rw [Qaa, Qaa]; simp only [Array.size_append, cat, ((Qac _ _).trans ho.rl)]; rfl) 0 _ rfl) kj) ?_
 refine Qa1 (.bool true) 64 #[.int .i64 ep, .int .i64 fr] 10 rfl kj kj ((hgE ep fr _ h0) _) fun W2 e2 => ?_
 have x2 : Ext w W2 := Ext.tr x1 e2
 refine Qab (.bool false) 11 rfl kj kj ?_
 refine Qab (.bool false) 12 rfl kj kj ?_
 refine Qab (.pointer (some ⟨g2, 66, none⟩)) 13 rfl kj kj ?_
 have r2_2 := (Qar r2_1 e2)
 refine Qab (.slice a_p ps.length c_p) 14 rfl kj (Qag 54 _ g2 66 59 _ (.slice a_p ps.length c_p) _ r2_2 rfl kj (Qah [ints .u8 (grp), #[.int .i64 ep], #[.int .i64 fr], ints .u8 (bas)] [#[.slice a_p ps.length c_p]] [#[.bool n.us], #[.int .i64 n.nm], ints .u8 (n.key), ints .u8 (n.sg), ints .u8 (n.pa), #[.slice a_m n.ms.length c_m], #[.slice a_t ts.length c_t], ints .u8 (tag), ints .u8 (sig)] 66 (by rw [Qaa, Qaa, Qaa, Qaa]; simp only [Array.size_append, cat, ((Qac _ _).trans ho.al), ((Qac _ _).trans ho.rl)]; rfl) 0 _ rfl) kj) ?_
 refine Qab (.int .i64 ((ps.length : Nat) : Int)) 15 rfl kj kj ?_
 refine Qab (.bool false) 16 rfl kj (Qax (u := .bool (decide (((ps.length : Nat) : Int) > 255))) kj (congrArg Value.bool (decide_eq_false (by omega)))) ?_
 refine Qab (.bool false) 17 rfl kj kj ?_
 refine Qab (.bool false) 18 rfl kj kj ?_
 refine Qab (.pointer (some ⟨g2, 67, none⟩)) 19 rfl kj kj ?_
 refine Qab (.agg (cat [#[.bool n.us], #[.int .i64 n.nm], ints .u8 (n.key), ints .u8 (n.sg), ints .u8 (n.pa), #[.slice a_m n.ms.length c_m], #[.slice a_t ts.length c_t]])) 20 rfl kj (Qau 57 _ g2 67 59 _ _ _ r2_2 rfl kj (Qah [ints .u8 (grp), #[.int .i64 ep], #[.int .i64 fr], ints .u8 (bas), #[.slice a_p ps.length c_p]] [#[.bool n.us], #[.int .i64 n.nm], ints .u8 (n.key), ints .u8 (n.sg), ints .u8 (n.pa), #[.slice a_m n.ms.length c_m], #[.slice a_t ts.length c_t]] [ints .u8 (tag), ints .u8 (sig)] 67 (by rw [Qaa, Qaa, Qaa, Qaa, Qaa]; simp only [Array.size_append, cat, ((Qac _ _).trans ho.al), ((Qac _ _).trans ho.rl)]; rfl)) kj (isz (n := 100) kj (by rw [Qaa, Qaa, Qaa, Qaa, Qaa, Qaa, Qaa]; simp only [Array.size_append, cat, ((Qac _ _).trans ho.n.gl), ((Qac _ _).trans ho.n.kl), ((Qac _ _).trans ho.n.pl)]; rfl))) ?_
 refine Qa1 (.bool true) 65 #[.agg (cat [#[.bool n.us], #[.int .i64 n.nm], ints .u8 (n.key), ints .u8 (n.sg), ints .u8 (n.pa), #[.slice a_m n.ms.length c_m], #[.slice a_t ts.length c_t]])] 21 rfl kj kj (QeQ n ts a_m c_m a_t c_t _ h2 _ ho.n (RdK.here (RdK.ext hcm.m x2)) ((hcm.ts.ext stK x2).here stK)) fun W3 e3 => ?_
 have x3 : Ext w W3 := Ext.tr x2 e3
 refine Qab (.bool false) 22 rfl kj kj ?_
 refine Qab (.bool false) 23 rfl kj kj ?_
 refine Qaf ?_
 refine hK4 _ _ ?_
 refine cond_false kj ?_
 refine wp_skip ?_
 refine hK3 _ _ ?_
 refine wp_seq_k fun K5 hK5 => ?_
 refine Qc4 (fun (s0 : Value) => [(1, .pointer (some ⟨g2, 0, none⟩)), (4, s0)]) (fun s0 W => OwnN .u8 5 W3.heap.size (Qa6 grp ep fr ++ bas ++ [byV ((ps.length : Nat) : Int) 0]) s0 W ∧ Qaz 5 W3.heap.size W3 W ∧ Ext W3 W) kj (Ext W3) (fun W e => Rely.Ext.trans (Rely.Ext.refl W3) e) (fun WS eS => ?_) (fun u XX WJ hI => ?_)
 ·skip
  obtain ⟨W4, hWS⟩ : ∃ z, z = WS := ⟨_, rfl⟩
  rw [← hWS] at eS ⊢
  have e4 := eS
  have x4 : Ext w W4 := Ext.tr x3 e4
  refine Qat 0 (.pointer (some ⟨g2, 0, none⟩)) 24 rfl rfl kj kj (fun _ _ _ h => h) (fun W hR => by kernel_rfl) ?_
  have r2_3 := (Qar r2_2 e3)
  refine Qat 1 (.agg (ints .u8 (grp))) 25 rfl rfl kj kj (fun _ _ _ h => h) (fun W hR => (Qau 39 _ g2 0 59 _ _ _ (Qar r2_3 hR) rfl kj (Qah [] [ints .u8 (grp)] [#[.int .i64 ep], #[.int .i64 fr], ints .u8 (bas), #[.slice a_p ps.length c_p], #[.bool n.us], #[.int .i64 n.nm], ints .u8 (n.key), ints .u8 (n.sg), ints .u8 (n.pa), #[.slice a_m n.ms.length c_m], #[.slice a_t ts.length c_t], ints .u8 (tag), ints .u8 (sig)] 0 kj) kj (isz (n := 32) kj ((Qac _ _).trans ho.rl)))) ?_
  refine Qat 2 (.pointer (some ⟨g2, 32, none⟩)) 26 rfl rfl kj kj (fun _ _ _ h => h) (fun W hR => by kernel_rfl) ?_
  refine Qat 3 (.int .i64 ep) 27 rfl rfl kj kj (fun _ _ _ h => h) (fun W hR => (Qag 3 _ g2 32 59 _ (.int .i64 ep) _ (Qar r2_3 hR) rfl kj (Qah [ints .u8 (grp)] [#[.int .i64 ep]] [#[.int .i64 fr], ints .u8 (bas), #[.slice a_p ps.length c_p], #[.bool n.us], #[.int .i64 n.nm], ints .u8 (n.key), ints .u8 (n.sg), ints .u8 (n.pa), #[.slice a_m n.ms.length c_m], #[.slice a_t ts.length c_t], ints .u8 (tag), ints .u8 (sig)] 32 ((Qac _ _).trans ho.rl) 0 _ rfl) kj)) ?_
  refine Qat 4 (.pointer (some ⟨g2, 33, none⟩)) 28 rfl rfl kj kj (fun _ _ _ h => h) (fun W hR => by kernel_rfl) ?_
  refine Qat 5 (.int .i64 fr) 29 rfl rfl kj kj (fun _ _ _ h => h) (fun W hR => (Qag 3 _ g2 33 59 _ (.int .i64 fr) _ (Qar r2_3 hR) rfl kj (Qah [ints .u8 (grp), #[.int .i64 ep]] [#[.int .i64 fr]] [ints .u8 (bas), #[.slice a_p ps.length c_p], #[.bool n.us], #[.int .i64 n.nm], ints .u8 (n.key), ints .u8 (n.sg), ints .u8 (n.pa), #[.slice a_m n.ms.length c_m], #[.slice a_t ts.length c_t], ints .u8 (tag), ints .u8 (sig)] 33 (by rw [Qaa, Qaa]; simp only [Array.size_append, cat, ((Qac _ _).trans ho.rl)]; rfl) 0 _ rfl) kj)) ?_
  refine Qat 7 (.pointer (some ⟨g2, 34, none⟩)) 31 rfl rfl kj kj (fun _ _ _ h => h) (fun W hR => by kernel_rfl) ?_
  refine Qat 8 (.slice (some ⟨g2, 34, none⟩) 32 32) 32 rfl rfl kj kj (fun _ _ _ h => h) (fun W hR => by kernel_rfl) ?_
  refine Qat 10 (.pointer (some ⟨g2, 66, none⟩)) 34 rfl rfl kj kj (fun _ _ _ h => h) (fun W hR => by kernel_rfl) ?_
  refine Qat 11 (.slice a_p ps.length c_p) 35 rfl rfl kj kj (fun _ _ _ h => h) (fun W hR => (Qag 54 _ g2 66 59 _ (.slice a_p ps.length c_p) _ (Qar r2_3 hR) rfl kj (Qah [ints .u8 (grp), #[.int .i64 ep], #[.int .i64 fr], ints .u8 (bas)] [#[.slice a_p ps.length c_p]] [#[.bool n.us], #[.int .i64 n.nm], ints .u8 (n.key), ints .u8 (n.sg), ints .u8 (n.pa), #[.slice a_m n.ms.length c_m], #[.slice a_t ts.length c_t], ints .u8 (tag), ints .u8 (sig)] 66 (by rw [Qaa, Qaa, Qaa, Qaa]; simp only [Array.size_append, cat, ((Qac _ _).trans ho.al), ((Qac _ _).trans ho.rl)]; rfl) 0 _ rfl) kj)) ?_
  refine Qat 12 (.int .i64 ((ps.length : Nat) : Int)) 36 rfl rfl kj kj (fun _ _ _ h => h) (fun W hR => by kernel_rfl) ?_
  refine Qat 13 (.int .u8 (byV ((ps.length : Nat) : Int) 0)) 37 rfl rfl kj kj (fun _ _ _ h => h) (fun W hR => (Qax (u := .int .u8 (IntKind.u8.wrap ((ps.length : Nat) : Int))) kj (congrArg (Value.int .u8) (byV0 _)))) ?_
  refine Qc2 6 14 kj ?_ ?_
  ·skip
   have y3_4 : Ext W3 W4 := (Rely.Ext.trans (Rely.Ext.refl W3) e4)
   refine Qbi rfl (fun v W' => (OwnN .u8 5 W4.heap.size (Qa6 grp ep fr)) v W' ∧ Ext W4 W') 66 #[.agg (ints .u8 (grp)), .int .i64 ep, .int .i64 fr] 30 rfl kj kj ((QcD grp ep fr _ ho.rl hep).mono (by rintro e w' ⟨v, rfl, e1, hv⟩; exact ⟨v, rfl, hv, e1⟩)) (fun _ _ h => Rely.Ext.trans y3_4 h.2) fun vv6 W5 hh6 => ?_
   obtain ⟨hv6, e5⟩ := hh6
   have x5 : Ext w W5 := Ext.tr x4 e5
   obtain ⟨ahd_, chd_, rfl, -⟩ := id (OwnN.rd hv6)
   have hva5 := OwnN.base y3_4.size hv6
   refine Qc2 9 14 kj ?_ ?_
   ·skip
    have r2_4 := (Qar r2_3 e4)
    have r2_5 := (Qar r2_4 e5)
    have y3_5 : Ext W3 W5 := (Rely.Ext.trans y3_4 e5)
    refine QaY (k := .u8) (T := 5) (xs := Qa6 grp ep fr) (ys := bas) (V := W3) 1 (.tmp 30) (.tmp 32) 26 rfl kj kj (by decide) 33 rfl 9 rfl kj kj kj hva5 (QaB 34 ho.al r2_5 (fun i hi => Qa8 [ints .u8 (grp), #[.int .i64 ep], #[.int .i64 fr]] [#[.slice a_p ps.length c_p], #[.bool n.us], #[.int .i64 n.nm], ints .u8 (n.key), ints .u8 (n.sg), ints .u8 (n.pa), #[.slice a_m n.ms.length c_m], #[.slice a_t ts.length c_t], ints .u8 (tag), ints .u8 (sig)] bas 34 i (34 + i) (by rw [Qaa, Qaa, Qaa]; simp only [Array.size_append, cat, ((Qac _ _).trans ho.rl)]; rfl) rfl (by rw [ho.al]; exact hi)) (Qay r2_5) (Nat.le_refl _) (by decide)) (by simp only [List.length_append, List.length_cons, List.length_nil, Qa9 ep fr ho.rl, ho.al, ho.gl, ho.il]; omega) y3_5 (fun _ e _ => e) fun zz1 W6 f7 y6 l6 st6 => ?_
    have x6 : Ext w W6 := Qaz.toExt x5 l6 x3.size
    obtain ⟨ap1_, cp1_, rfl, -⟩ := id (OwnN.rd f7)
    refine QaJ 14 kj ?_
    refine wo_run rfl (fun v W' => NewS W6.heap.size (ints .u8 ([(byV ((ps.length : Nat) : Int) 0)])) 5 1 v W' ∧ Ext W6 W') 38 rfl kj ⟨_, _, (by kernel_rfl : _ = Result.ok (Next.value (.slice (some ⟨W6.heap.size, 0, none⟩) 1 1)) (W6.alloc (.cells (ints .u8 ([(byV ((ps.length : Nat) : Int) 0)])) 5))), ⟨_, rfl, Nat.le_refl _, heap_alloc_new _ _⟩, Qbf _ _⟩ (fun _ _ h => Rely.Ext.trans y6 h.2) fun vv9 W7 hh9 => ?_
    obtain ⟨⟨g10, rfl, l10, r10_7⟩, e7⟩ := hh9
    have x7 : Ext w W7 := Ext.tr x6 e7
    have b10 : w.heap.size ≤ g10 := Nat.le_trans x6.size l10
    have nb10 : (.slice ap1_ ((Qa6 grp ep fr ++ bas).length) cp1_ : Value).ownBlock ≠ some g10 := fun q => by have := f7.lt q; omega
    refine QaJ 15 kj ?_
    have f11_7 := (f7.ext e7)
    have y3_7 : Ext W3 W7 := (Rely.Ext.trans y6 e7)
    refine QaY (k := .u8) (T := 5) (xs := Qa6 grp ep fr ++ bas) (ys := [(byV ((ps.length : Nat) : Int) 0)]) (V := W3) 1 (.tmp 33) (.tmp 38) 26 rfl kj kj (by decide) 39 rfl 15 rfl kj kj kj f11_7 (Qbd (xs := [(byV ((ps.length : Nat) : Int) 0)]) (n := 1) rfl r10_7 (Qay r10_7) (show 1 ≤ maxLen from by decide)) (by simp only [List.length_append, List.length_cons, List.length_nil, Qa9 ep fr ho.rl, ho.al, ho.gl, ho.il]; omega) y3_7 (fun _ e _ => e) fun zz2 W8 f12 y8 l8 st8 => ?_
    have x8 : Ext w W8 := Qaz.toExt x7 l8 x3.size
    obtain ⟨ap2_, cp2_, rfl, -⟩ := id (OwnN.rd f12)
    refine Qat 16 (.slice ap2_ ((Qa6 grp ep fr ++ bas ++ [(byV ((ps.length : Nat) : Int) 0)]).length) cp2_) 4 rfl rfl kj kj (fun _ _ _ h => h) (fun W hR => by kernel_rfl) ?_
    exact Qcl kj (.slice ap2_ ((Qa6 grp ep fr ++ bas ++ [(byV ((ps.length : Nat) : Int) 0)]).length) cp2_) ⟨rfl, rfl, trivial⟩ ⟨f12, (Qaz.trans (Qaz.ext (Qaz.trans (Qaz.ext (Qaz.ext (Qaz.refl _ _ W3) e4) e5) l6) e7) l8), y8⟩
   ·skip
    have y3_5 : Ext W3 W5 := (Rely.Ext.trans y3_4 e5)
    refine wo_run rfl (fun v W' => NewS W5.heap.size (ints .u8 ([(byV ((ps.length : Nat) : Int) 0)])) 5 1 v W' ∧ Ext W5 W') 38 rfl kj ⟨_, _, (by kernel_rfl : _ = Result.ok (Next.value (.slice (some ⟨W5.heap.size, 0, none⟩) 1 1)) (W5.alloc (.cells (ints .u8 ([(byV ((ps.length : Nat) : Int) 0)])) 5))), ⟨_, rfl, Nat.le_refl _, heap_alloc_new _ _⟩, Qbf _ _⟩ (fun _ _ h => Rely.Ext.trans y3_5 h.2) fun vv14 W6 hh14 => ?_
    obtain ⟨⟨g15, rfl, l15, r15_6⟩, e6⟩ := hh14
    have x6 : Ext w W6 := Ext.tr x5 e6
    have b15 : w.heap.size ≤ g15 := Nat.le_trans x5.size l15
    have nb15 : (.slice ahd_ ((Qa6 grp ep fr).length) chd_ : Value).ownBlock ≠ some g15 := fun q => by have := hva5.lt q; omega
    refine QaJ 9 kj ?_
    have f16_6 := (hva5.ext e6)
    have r2_4 := (Qar r2_3 e4)
    have r2_5 := (Qar r2_4 e5)
    have r2_6 := (Qar r2_5 e6)
    have y3_6 : Ext W3 W6 := (Rely.Ext.trans y3_5 e6)
    refine QaY (k := .u8) (T := 5) (xs := Qa6 grp ep fr) (ys := bas) (V := W3) 1 (.tmp 30) (.tmp 32) 26 rfl kj kj (by decide) 33 rfl 9 rfl kj kj kj f16_6 (QaB 34 ho.al r2_6 (fun i hi => Qa8 [ints .u8 (grp), #[.int .i64 ep], #[.int .i64 fr]] [#[.slice a_p ps.length c_p], #[.bool n.us], #[.int .i64 n.nm], ints .u8 (n.key), ints .u8 (n.sg), ints .u8 (n.pa), #[.slice a_m n.ms.length c_m], #[.slice a_t ts.length c_t], ints .u8 (tag), ints .u8 (sig)] bas 34 i (34 + i) (by rw [Qaa, Qaa, Qaa]; simp only [Array.size_append, cat, ((Qac _ _).trans ho.rl)]; rfl) rfl (by rw [ho.al]; exact hi)) (Qay r2_6) (Nat.le_refl _) (by decide)) (by simp only [List.length_append, List.length_cons, List.length_nil, Qa9 ep fr ho.rl, ho.al, ho.gl, ho.il]; omega) y3_6 (fun _ e _ => e) fun zz3 W7 f17 y7 l7 st7 => ?_
    have x7 : Ext w W7 := Qaz.toExt x6 l7 x3.size
    have r15_7 := st7 _ _ _ r15_6 nb15
    obtain ⟨ap3_, cp3_, rfl, -⟩ := id (OwnN.rd f17)
    refine QaJ 15 kj ?_
    refine QaY (k := .u8) (T := 5) (xs := Qa6 grp ep fr ++ bas) (ys := [(byV ((ps.length : Nat) : Int) 0)]) (V := W3) 1 (.tmp 33) (.tmp 38) 26 rfl kj kj (by decide) 39 rfl 15 rfl kj kj kj f17 (Qbd (xs := [(byV ((ps.length : Nat) : Int) 0)]) (n := 1) rfl r15_7 (Qay r15_7) (show 1 ≤ maxLen from by decide)) (by simp only [List.length_append, List.length_cons, List.length_nil, Qa9 ep fr ho.rl, ho.al, ho.gl, ho.il]; omega) y7 (fun _ e _ => e) fun zz4 W8 f19 y8 l8 st8 => ?_
    have x8 : Ext w W8 := Qaz.toExt x7 l8 x3.size
    obtain ⟨ap4_, cp4_, rfl, -⟩ := id (OwnN.rd f19)
    refine Qat 16 (.slice ap4_ ((Qa6 grp ep fr ++ bas ++ [(byV ((ps.length : Nat) : Int) 0)]).length) cp4_) 4 rfl rfl kj kj (fun _ _ _ h => h) (fun W hR => by kernel_rfl) ?_
    exact Qcl kj (.slice ap4_ ((Qa6 grp ep fr ++ bas ++ [(byV ((ps.length : Nat) : Int) 0)]).length) cp4_) ⟨rfl, rfl, trivial⟩ ⟨f19, (Qaz.trans (Qaz.trans (Qaz.ext (Qaz.ext (Qaz.ext (Qaz.refl _ _ W3) e4) e5) e6) l7) l8), y8⟩
  ·skip
   have y3_4 : Ext W3 W4 := (Rely.Ext.trans (Rely.Ext.refl W3) e4)
   refine wo_run rfl (fun v W' => NewS W4.heap.size (ints .u8 ([(byV ((ps.length : Nat) : Int) 0)])) 5 1 v W' ∧ Ext W4 W') 38 rfl kj ⟨_, _, (by kernel_rfl : _ = Result.ok (Next.value (.slice (some ⟨W4.heap.size, 0, none⟩) 1 1)) (W4.alloc (.cells (ints .u8 ([(byV ((ps.length : Nat) : Int) 0)])) 5))), ⟨_, rfl, Nat.le_refl _, heap_alloc_new _ _⟩, Qbf _ _⟩ (fun _ _ h => Rely.Ext.trans y3_4 h.2) fun vv21 W5 hh21 => ?_
   obtain ⟨⟨g22, rfl, l22, r22_5⟩, e5⟩ := hh21
   have x5 : Ext w W5 := Ext.tr x4 e5
   have b22 : w.heap.size ≤ g22 := Nat.le_trans x4.size l22
   refine QaJ 6 kj ?_
   have y3_5 : Ext W3 W5 := (Rely.Ext.trans y3_4 e5)
   refine Qbi rfl (fun v W' => (OwnN .u8 5 W5.heap.size (Qa6 grp ep fr)) v W' ∧ Ext W5 W') 66 #[.agg (ints .u8 (grp)), .int .i64 ep, .int .i64 fr] 30 rfl kj kj ((QcD grp ep fr _ ho.rl hep).mono (by rintro e w' ⟨v, rfl, e1, hv⟩; exact ⟨v, rfl, hv, e1⟩)) (fun _ _ h => Rely.Ext.trans y3_5 h.2) fun vv23 W6 hh23 => ?_
   obtain ⟨hv23, e6⟩ := hh23
   have x6 : Ext w W6 := Ext.tr x5 e6
   obtain ⟨ahd_, chd_, rfl, -⟩ := id (OwnN.rd hv23)
   have hva6 := OwnN.base y3_5.size hv23
   have hnb6 := Qbp hv23 (Qay r22_5)
   refine QaJ 9 kj ?_
   have r2_4 := (Qar r2_3 e4)
   have r2_5 := (Qar r2_4 e5)
   have r2_6 := (Qar r2_5 e6)
   have y3_6 : Ext W3 W6 := (Rely.Ext.trans y3_5 e6)
   have r22_6 := (Qar r22_5 e6)
   refine QaY (k := .u8) (T := 5) (xs := Qa6 grp ep fr) (ys := bas) (V := W3) 1 (.tmp 30) (.tmp 32) 26 rfl kj kj (by decide) 33 rfl 9 rfl kj kj kj hva6 (QaB 34 ho.al r2_6 (fun i hi => Qa8 [ints .u8 (grp), #[.int .i64 ep], #[.int .i64 fr]] [#[.slice a_p ps.length c_p], #[.bool n.us], #[.int .i64 n.nm], ints .u8 (n.key), ints .u8 (n.sg), ints .u8 (n.pa), #[.slice a_m n.ms.length c_m], #[.slice a_t ts.length c_t], ints .u8 (tag), ints .u8 (sig)] bas 34 i (34 + i) (by rw [Qaa, Qaa, Qaa]; simp only [Array.size_append, cat, ((Qac _ _).trans ho.rl)]; rfl) rfl (by rw [ho.al]; exact hi)) (Qay r2_6) (Nat.le_refl _) (by decide)) (by simp only [List.length_append, List.length_cons, List.length_nil, Qa9 ep fr ho.rl, ho.al, ho.gl, ho.il]; omega) y3_6 (fun _ e _ => e) fun zz5 W7 f24 y7 l7 st7 => ?_
   have x7 : Ext w W7 := Qaz.toExt x6 l7 x3.size
   have r22_7 := st7 _ _ _ r22_6 hnb6
   obtain ⟨ap5_, cp5_, rfl, -⟩ := id (OwnN.rd f24)
   refine QaJ 15 kj ?_
   refine QaY (k := .u8) (T := 5) (xs := Qa6 grp ep fr ++ bas) (ys := [(byV ((ps.length : Nat) : Int) 0)]) (V := W3) 1 (.tmp 33) (.tmp 38) 26 rfl kj kj (by decide) 39 rfl 15 rfl kj kj kj f24 (Qbd (xs := [(byV ((ps.length : Nat) : Int) 0)]) (n := 1) rfl r22_7 (Qay r22_7) (show 1 ≤ maxLen from by decide)) (by simp only [List.length_append, List.length_cons, List.length_nil, Qa9 ep fr ho.rl, ho.al, ho.gl, ho.il]; omega) y7 (fun _ e _ => e) fun zz6 W8 f26 y8 l8 st8 => ?_
   have x8 : Ext w W8 := Qaz.toExt x7 l8 x3.size
   obtain ⟨ap6_, cp6_, rfl, -⟩ := id (OwnN.rd f26)
   refine Qat 16 (.slice ap6_ ((Qa6 grp ep fr ++ bas ++ [(byV ((ps.length : Nat) : Int) 0)]).length) cp6_) 4 rfl rfl kj kj (fun _ _ _ h => h) (fun W hR => by kernel_rfl) ?_
   exact Qcl kj (.slice ap6_ ((Qa6 grp ep fr ++ bas ++ [(byV ((ps.length : Nat) : Int) 0)]).length) cp6_) ⟨rfl, rfl, trivial⟩ ⟨f26, (Qaz.trans (Qaz.trans (Qaz.ext (Qaz.ext (Qaz.ext (Qaz.refl _ _ W3) e4) e5) e6) l7) l8), y8⟩
 obtain ⟨W4, hWJ⟩ : ∃ z, z = WJ := ⟨_, rfl⟩
 rw [← hWJ] at hI ⊢
 obtain ⟨hJ4, l4, y4⟩ := hI
 have x4 : Ext w W4 := Qaz.toExt x3 l4 x3.size
 obtain ⟨aJ4_, cJ4_, rfl, -⟩ := id (OwnN.rd hJ4)
 refine hK5 _ _ ?_
 refine wp_seq_k fun K28 hK28 => ?_
 refine wp_seq_k fun K29 hK29 => ?_
 refine Qae ?_
 refine Qab (.int .i64 0) 5 rfl kj kj ?_
 refine Qaf ?_
 refine hK29 _ _ ?_
 refine wp_block ?_
 refine QaP (fun (s1 : Nat × Value) => [(1, .pointer (some ⟨g2, 0, none⟩)), (4, s1.2), (5, .int .i64 ((s1.1 : Nat) : Int))]) (fun (s1 : Nat × Value) W => (s1.1 ≤ ps.length) ∧ (OwnN .u8 5 W3.heap.size (Qa6 grp ep fr ++ bas ++ [byV ((ps.length : Nat) : Int) 0] ++ ((ps.take s1.1).map Qbh).flatten) s1.2 W) ∧ (((ps.take s1.1).all okP) = true) ∧ (Qaz 5 W3.heap.size W4 W) ∧ (Ext w W)) (fun (s1 : Nat × Value) => ps.length - s1.1) (0, .slice aJ4_ ((Qa6 grp ep fr ++ bas ++ [byV ((ps.length : Nat) : Int) 0]).length) cJ4_) ⟨rfl, rfl, rfl, trivial⟩ ⟨(Nat.zero_le _), (by rw [List.take_zero, List.map_nil, List.flatten_nil, List.append_nil]; exact hJ4), rfl, (Qaz.refl _ _ W4), x4⟩ fun s1 X1 V1 hI1 => ?_
 obtain ⟨i, u⟩ := s1
 obtain ⟨hi, hu, hr, kk1, xx1⟩ := hI1
 replace hi : i ≤ ps.length := hi
 replace hu : OwnN .u8 5 W3.heap.size (Qa6 grp ep fr ++ bas ++ [byV ((ps.length : Nat) : Int) 0] ++ ((ps.take i).map Qbh).flatten) u V1 := hu
 replace hr : ((ps.take i).all okP) = true := hr
 replace kk1 : Qaz 5 W3.heap.size W4 V1 := kk1
 replace xx1 : Ext w V1 := xx1
 have l5 := kk1
 refine wp_seq_k fun K30 hK30 => ?_
 refine wp_seq_k fun K31 hK31 => ?_
 refine Qae ?_
 refine Qab (.int .i64 ((i : Nat) : Int)) 40 rfl kj kj ?_
 refine Qab (.pointer (some ⟨g2, 66, none⟩)) 41 rfl kj kj ?_
 have r2_3 := (Qar r2_2 e3)
 have r2_4 := (Qaz.row l4 r2_3 (by decide))
 have r2_5 := (Qaz.row l5 r2_4 (by decide))
 refine Qab (.slice a_p ps.length c_p) 42 rfl kj (Qag 54 _ g2 66 59 _ (.slice a_p ps.length c_p) _ r2_5 rfl kj (Qah [ints .u8 (grp), #[.int .i64 ep], #[.int .i64 fr], ints .u8 (bas)] [#[.slice a_p ps.length c_p]] [#[.bool n.us], #[.int .i64 n.nm], ints .u8 (n.key), ints .u8 (n.sg), ints .u8 (n.pa), #[.slice a_m n.ms.length c_m], #[.slice a_t ts.length c_t], ints .u8 (tag), ints .u8 (sig)] 66 (by rw [Qaa, Qaa, Qaa, Qaa]; simp only [Array.size_append, cat, ((Qac _ _).trans ho.al), ((Qac _ _).trans ho.rl)]; rfl) 0 _ rfl) kj) ?_
 refine Qab (.int .i64 ((ps.length : Nat) : Int)) 43 rfl kj kj ?_
 refine Qab (.bool (decide (((i : Nat) : Int) < ((ps.length : Nat) : Int)))) 44 rfl kj kj ?_
 refine Qaf ?_
 refine hK31 _ _ ?_
 refine Qa5 (t := decide (((i : Nat) : Int) < ((ps.length : Nat) : Int))) kj (fun c32 => ?_) (fun c32 => ?_)
 ·skip
  have hlt44 : i < ps.length := by have := of_decide_eq_true c32; omega
  refine wp_skip ?_
  refine hK30 _ _ ?_
  refine wp_seq_k fun K33 hK33 => ?_
  refine wp_block ?_
  refine wp_seq_k fun K34 hK34 => ?_
  refine wp_seq_k fun K35 hK35 => ?_
  obtain ⟨gT, oT, hat, hels0⟩ := id hcm.ps
  have hel0nd := hels0 i (by omega)
  have hmemnd := Qb3 ps pr0 i (by omega)
  obtain ⟨nd, hndnd⟩ : ∃ z, z = ps.getD i pr0 := ⟨_, rfl⟩
  rw [← hndnd] at hel0nd hmemnd
  have hok := hel0nd.ok
  rcases (show okP nd = false ∨ okP nd = true by cases okP nd <;> simp) with hgd | hgd
  ·skip
   have hV : ps.all okP = false := QcV okP ps nd hmemnd hgd
   refine Qae ?_
   refine Qab (.pointer (some ⟨g2, 66, none⟩)) 47 rfl kj kj ?_
   refine Qab (.slice a_p ps.length c_p) 48 rfl kj (Qag 54 _ g2 66 59 _ (.slice a_p ps.length c_p) _ r2_5 rfl kj (Qah [ints .u8 (grp), #[.int .i64 ep], #[.int .i64 fr], ints .u8 (bas)] [#[.slice a_p ps.length c_p]] [#[.bool n.us], #[.int .i64 n.nm], ints .u8 (n.key), ints .u8 (n.sg), ints .u8 (n.pa), #[.slice a_m n.ms.length c_m], #[.slice a_t ts.length c_t], ints .u8 (tag), ints .u8 (sig)] 66 (by rw [Qaa, Qaa, Qaa, Qaa]; simp only [Array.size_append, cat, ((Qac _ _).trans ho.al), ((Qac _ _).trans ho.rl)]; rfl) 0 _ rfl) kj) ?_
   refine Qab (.int .i64 ((i : Nat) : Int)) 49 rfl kj kj ?_
   refine Qab (.pointer (some ⟨gT, oT + i * 263, none⟩)) 50 rfl kj (Qbc 54 _ _ .i64 i gT oT ps.length c_p 47 263 a_p (hat (by omega)) rfl kj kj kj kj (by omega)) ?_
   obtain ⟨u36, hu36⟩ := Qek nd hok
   refine Qab (.agg (cat [ints .u8 (nd.p.grp), #[.int .i64 nd.p.ep], #[.int .i64 nd.p.fr], ints .u8 (nd.p.bas), #[.int .i64 nd.p.kd], #[.bool nd.p.n.us], #[.int .i64 nd.p.n.nm], ints .u8 (nd.p.n.key), ints .u8 (nd.p.n.sg), ints .u8 (nd.p.n.pa), #[.slice nd.a nd.p.n.ms.length nd.c], ints .u8 (nd.p.start), #[.int .i64 nd.p.at_], ints .u8 (nd.p.sig)])) 51 rfl kj (Qbm 47 _ gT (oT + i * 263) 263 (cat (prP nd)) u36 hu36 (Qb5 nd hok) (prK.keep hel0nd xx1.size (fun k _ hl => xx1.block k hl)).cell rfl kj kj kj) ?_
   refine Qa1 (.bool false) 58 #[.agg (cat [ints .u8 (nd.p.grp), #[.int .i64 nd.p.ep], #[.int .i64 nd.p.fr], ints .u8 (nd.p.bas), #[.int .i64 nd.p.kd], #[.bool nd.p.n.us], #[.int .i64 nd.p.n.nm], ints .u8 (nd.p.n.key), ints .u8 (nd.p.n.sg), ints .u8 (nd.p.n.pa), #[.slice nd.a nd.p.n.ms.length nd.c], ints .u8 (nd.p.start), #[.int .i64 nd.p.at_], ints .u8 (nd.p.sig)])] 52 rfl kj kj (Qef nd.p.grp nd.p.ep nd.p.fr nd.p.bas nd.p.kd nd.p.n.us nd.p.n.nm nd.p.n.key nd.p.n.sg nd.p.n.pa nd.p.n.ms nd.p.start nd.p.at_ nd.p.sig _ _ _ hgd _ hok.rl hok.rb hok.al hok.ab hok.n.kl hok.n.gl hok.n.pl hok.n.kb hok.n.gb hok.n.pb (hz.pm nd hmemnd) hok.tl hok.tb hok.il hok.ib (RdK.here (RdK.ext hel0nd.rd xx1))) fun W6 e6 => ?_
   have x6 : Ext w W6 := Ext.tr xx1 e6
   refine Qab (.bool true) 53 rfl kj kj ?_
   refine Qaf ?_
   refine hK35 _ _ ?_
   refine cond_true kj ?_
   refine wp_seq_k fun K37 hK37 => ?_
   refine Qae ?_
   refine Qab (.slice none 0 0) 2 rfl kj kj ?_
   refine Qab (.bool false) 3 rfl kj kj ?_
   refine Qaf ?_
   refine hK37 _ _ ?_
   refine wp_ret ?_
   repeat (first | with_reducible refine goR1 ?_ | with_reducible refine goR2 ?_)
   exact (show bodyPost _ _ _ .ret _ _ from ret2 (.slice none 0 0) (.bool false) rfl (Qaw kj) (Qaw kj) ⟨_, rfl, x6, by rw [hV]; exact rfl⟩)
  ·skip
   refine Qae ?_
   refine Qab (.pointer (some ⟨g2, 66, none⟩)) 47 rfl kj kj ?_
   refine Qab (.slice a_p ps.length c_p) 48 rfl kj (Qag 54 _ g2 66 59 _ (.slice a_p ps.length c_p) _ r2_5 rfl kj (Qah [ints .u8 (grp), #[.int .i64 ep], #[.int .i64 fr], ints .u8 (bas)] [#[.slice a_p ps.length c_p]] [#[.bool n.us], #[.int .i64 n.nm], ints .u8 (n.key), ints .u8 (n.sg), ints .u8 (n.pa), #[.slice a_m n.ms.length c_m], #[.slice a_t ts.length c_t], ints .u8 (tag), ints .u8 (sig)] 66 (by rw [Qaa, Qaa, Qaa, Qaa]; simp only [Array.size_append, cat, ((Qac _ _).trans ho.al), ((Qac _ _).trans ho.rl)]; rfl) 0 _ rfl) kj) ?_
   refine Qab (.int .i64 ((i : Nat) : Int)) 49 rfl kj kj ?_
   refine Qab (.pointer (some ⟨gT, oT + i * 263, none⟩)) 50 rfl kj (Qbc 54 _ _ .i64 i gT oT ps.length c_p 47 263 a_p (hat (by omega)) rfl kj kj kj kj (by omega)) ?_
   obtain ⟨u38, hu38⟩ := Qek nd hok
   refine Qab (.agg (cat [ints .u8 (nd.p.grp), #[.int .i64 nd.p.ep], #[.int .i64 nd.p.fr], ints .u8 (nd.p.bas), #[.int .i64 nd.p.kd], #[.bool nd.p.n.us], #[.int .i64 nd.p.n.nm], ints .u8 (nd.p.n.key), ints .u8 (nd.p.n.sg), ints .u8 (nd.p.n.pa), #[.slice nd.a nd.p.n.ms.length nd.c], ints .u8 (nd.p.start), #[.int .i64 nd.p.at_], ints .u8 (nd.p.sig)])) 51 rfl kj (Qbm 47 _ gT (oT + i * 263) 263 (cat (prP nd)) u38 hu38 (Qb5 nd hok) (prK.keep hel0nd xx1.size (fun k _ hl => xx1.block k hl)).cell rfl kj kj kj) ?_
   refine Qa1 (.bool true) 58 #[.agg (cat [ints .u8 (nd.p.grp), #[.int .i64 nd.p.ep], #[.int .i64 nd.p.fr], ints .u8 (nd.p.bas), #[.int .i64 nd.p.kd], #[.bool nd.p.n.us], #[.int .i64 nd.p.n.nm], ints .u8 (nd.p.n.key), ints .u8 (nd.p.n.sg), ints .u8 (nd.p.n.pa), #[.slice nd.a nd.p.n.ms.length nd.c], ints .u8 (nd.p.start), #[.int .i64 nd.p.at_], ints .u8 (nd.p.sig)])] 52 rfl kj kj (Qef nd.p.grp nd.p.ep nd.p.fr nd.p.bas nd.p.kd nd.p.n.us nd.p.n.nm nd.p.n.key nd.p.n.sg nd.p.n.pa nd.p.n.ms nd.p.start nd.p.at_ nd.p.sig _ _ _ hgd _ hok.rl hok.rb hok.al hok.ab hok.n.kl hok.n.gl hok.n.pl hok.n.kb hok.n.gb hok.n.pb (hz.pm nd hmemnd) hok.tl hok.tb hok.il hok.ib (RdK.here (RdK.ext hel0nd.rd xx1))) fun W6 e6 => ?_
   have x6 : Ext w W6 := Ext.tr xx1 e6
   refine Qab (.bool false) 53 rfl kj kj ?_
   refine Qaf ?_
   refine hK35 _ _ ?_
   refine cond_false kj ?_
   refine wp_skip ?_
   refine hK34 _ _ ?_
   refine Qae ?_
   refine Qab (u) 54 rfl kj kj ?_
   refine Qab (.pointer (some ⟨g2, 66, none⟩)) 55 rfl kj kj ?_
   have r2_6 := (Qar r2_5 e6)
   refine Qab (.slice a_p ps.length c_p) 56 rfl kj (Qag 54 _ g2 66 59 _ (.slice a_p ps.length c_p) _ r2_6 rfl kj (Qah [ints .u8 (grp), #[.int .i64 ep], #[.int .i64 fr], ints .u8 (bas)] [#[.slice a_p ps.length c_p]] [#[.bool n.us], #[.int .i64 n.nm], ints .u8 (n.key), ints .u8 (n.sg), ints .u8 (n.pa), #[.slice a_m n.ms.length c_m], #[.slice a_t ts.length c_t], ints .u8 (tag), ints .u8 (sig)] 66 (by rw [Qaa, Qaa, Qaa, Qaa]; simp only [Array.size_append, cat, ((Qac _ _).trans ho.al), ((Qac _ _).trans ho.rl)]; rfl) 0 _ rfl) kj) ?_
   refine Qab (.int .i64 ((i : Nat) : Int)) 57 rfl kj kj ?_
   refine Qab (.pointer (some ⟨gT, oT + i * 263, none⟩)) 58 rfl kj (Qbc 54 _ _ .i64 i gT oT ps.length c_p 47 263 a_p (hat (by omega)) rfl kj kj kj kj (by omega)) ?_
   obtain ⟨u39, hu39⟩ := Qek nd hok
   refine Qab (.agg (cat [ints .u8 (nd.p.grp), #[.int .i64 nd.p.ep], #[.int .i64 nd.p.fr], ints .u8 (nd.p.bas), #[.int .i64 nd.p.kd], #[.bool nd.p.n.us], #[.int .i64 nd.p.n.nm], ints .u8 (nd.p.n.key), ints .u8 (nd.p.n.sg), ints .u8 (nd.p.n.pa), #[.slice nd.a nd.p.n.ms.length nd.c], ints .u8 (nd.p.start), #[.int .i64 nd.p.at_], ints .u8 (nd.p.sig)])) 59 rfl kj (Qbm 47 _ gT (oT + i * 263) 263 (cat (prP nd)) u39 hu39 (Qb5 nd hok) (prK.keep hel0nd x6.size (fun k _ hl => x6.block k hl)).cell rfl kj kj kj) ?_
   refine Qak (fun v W' => (OwnN .u8 5 W6.heap.size (Qbh nd)) v W' ∧ Ext W6 W') 59 #[.agg (cat [ints .u8 (nd.p.grp), #[.int .i64 nd.p.ep], #[.int .i64 nd.p.fr], ints .u8 (nd.p.bas), #[.int .i64 nd.p.kd], #[.bool nd.p.n.us], #[.int .i64 nd.p.n.nm], ints .u8 (nd.p.n.key), ints .u8 (nd.p.n.sg), ints .u8 (nd.p.n.pa), #[.slice nd.a nd.p.n.ms.length nd.c], ints .u8 (nd.p.start), #[.int .i64 nd.p.at_], ints .u8 (nd.p.sig)])] 60 rfl kj kj ((QfU nd.p.grp nd.p.ep nd.p.fr nd.p.bas nd.p.kd nd.p.n.us nd.p.n.nm nd.p.n.key nd.p.n.sg nd.p.n.pa nd.p.n.ms nd.p.start nd.p.at_ nd.p.sig _ _ _ hok.rl hok.rb hok.al hok.ab hok.n.kl hok.n.gl hok.n.pl hok.n.kb hok.n.gb hok.n.pb (hz.pm nd hmemnd) hok.tl hok.tb hok.il hok.ib (RdK.here (RdK.ext hel0nd.rd x6)) (QbR (by have h9 := (Qc9 hgd).1; unfold hgB at h9; simp only [Bool.and_eq_true] at h9; exact h9.1)) (Qc9 hgd).2.1).mono (by rintro e w' ⟨v, rfl, e1, hv⟩; exact ⟨v, rfl, hv, e1⟩)) fun vv40 W7 hh40 => ?_
   obtain ⟨hv40, e7⟩ := hh40
   have x7 : Ext w W7 := Ext.tr x6 e7
   obtain ⟨apb_, cpb_, rfl, -⟩ := id (OwnN.rd hv40)
   have f41_6 := (hu.ext e6)
   have f42_7 := (f41_6.ext e7)
   have y3_5 : Ext W3 V1 := (Qaz.toExt y4 l5 (Rely.Ext.refl W3).size)
   have y3_6 : Ext W3 W6 := (Rely.Ext.trans y3_5 e6)
   have y3_7 : Ext W3 W7 := (Rely.Ext.trans y3_6 e7)
   refine Qce (k := .u8) (T := 5) (xs := Qa6 grp ep fr ++ bas ++ [byV ((ps.length : Nat) : Int) 0] ++ ((ps.take i).map Qbh).flatten) (ys := Qbh nd) (V := W3) 1 (.tmp 54) (.tmp 60) 26 rfl kj kj (by decide) 61 rfl kj kj kj f42_7 (OwnN.rd hv40) (by simp only [List.length_append, List.length_cons, List.length_nil, Qa9 ep fr ho.rl, ho.al, ho.gl, ho.il]; have h1 := hb1 i; have h2 := Qdq nd hok (hz.pm nd hmemnd); omega) y3_7 fun zz7 W8 f43 y8 l8 => ?_
   have x8 : Ext w W8 := Qaz.toExt x7 l8 x3.size
   obtain ⟨ap7_, cp7_, rfl, -⟩ := id (OwnN.rd f43)
   refine Qab (.slice ap7_ ((Qa6 grp ep fr ++ bas ++ [byV ((ps.length : Nat) : Int) 0] ++ ((ps.take i).map Qbh).flatten ++ Qbh nd).length) cp7_) 4 rfl kj kj ?_
   refine Qaf ?_
   refine hK33 _ _ ?_
   refine Qae ?_
   refine Qab (.int .i64 ((i : Nat) : Int)) 45 rfl kj kj ?_
   refine Qab (.int .i64 ((i + 1 : Nat) : Int)) 46 rfl kj (Qax (u := .int .i64 (IntKind.i64.wrap (((i : Nat) : Int) + 1))) kj (congrArg (Value.int .i64) (i64n _ _ (by omega) (by omega)))) ?_
   refine Qab (.int .i64 ((i + 1 : Nat) : Int)) 5 rfl kj kj ?_
   refine Qaf ?_
   repeat (first | with_reducible refine goX1 ?_ | with_reducible refine goX2 ?_ | with_reducible refine goX3 ?_)
   exact QaK ((i + 1), .slice ap7_ ((Qa6 grp ep fr ++ bas ++ [byV ((ps.length : Nat) : Int) 0] ++ ((ps.take i).map Qbh).flatten ++ Qbh nd).length) cp7_) ⟨rfl, rfl, rfl, trivial⟩ ⟨(by omega), (by rw [QcT Qbh ps pr0 i hlt44, ← hndnd]; exact f43), (by rw [Qc3 ps pr0 i hlt44, List.all_append, hr, ← hndnd]; simp only [List.all_cons, List.all_nil, hgd]; rfl), (Qaz.trans (Qaz.ext (Qaz.ext l5 e6) e7) l8), x8⟩ (by omega)
 ·skip
  have heq44 : i = ps.length := by have := of_decide_eq_false c32; omega
  have hV : ps.all okP = true := by rw [heq44, List.take_length] at hr; exact hr
  have hu9 : OwnN .u8 5 W3.heap.size (Qa6 grp ep fr ++ bas ++ [byV ((ps.length : Nat) : Int) 0] ++ (ps.map Qbh).flatten) u V1 := by have h7 := hu; rw [heq44, List.take_length] at h7; exact h7
  obtain ⟨auu_, cuu_, rfl, -⟩ := id (OwnN.rd hu9)
  refine wp_exit ?_
  refine hK28 _ _ ?_
  refine wp_seq_k fun K45 hK45 => ?_
  have y3_5 : Ext W3 V1 := (Qaz.toExt y4 l5 (Rely.Ext.refl W3).size)
  refine region_walkG (Ext W3) kj fun W6 e6 => ⟨Rely.Ext.trans y3_5 e6, ?_⟩
  have x6 : Ext w W6 := Ext.tr xx1 e6
  refine Qat 0 (.slice auu_ ((Qa6 grp ep fr ++ bas ++ [byV ((ps.length : Nat) : Int) 0] ++ (ps.map Qbh).flatten).length) cuu_) 62 rfl rfl kj kj (fun _ _ _ h => h) (fun W hR => by kernel_rfl) ?_
  refine Qat 1 (.pointer (some ⟨g2, 67, none⟩)) 63 rfl rfl kj kj (fun _ _ _ h => h) (fun W hR => by kernel_rfl) ?_
  refine Qat 2 (.agg (cat [#[.bool n.us], #[.int .i64 n.nm], ints .u8 (n.key), ints .u8 (n.sg), ints .u8 (n.pa), #[.slice a_m n.ms.length c_m], #[.slice a_t ts.length c_t]])) 64 rfl rfl kj kj (fun _ _ _ h => h) (fun W hR => (Qau 57 _ g2 67 59 _ _ _ (Qar r2_3 hR) rfl kj (Qah [ints .u8 (grp), #[.int .i64 ep], #[.int .i64 fr], ints .u8 (bas), #[.slice a_p ps.length c_p]] [#[.bool n.us], #[.int .i64 n.nm], ints .u8 (n.key), ints .u8 (n.sg), ints .u8 (n.pa), #[.slice a_m n.ms.length c_m], #[.slice a_t ts.length c_t]] [ints .u8 (tag), ints .u8 (sig)] 67 (by rw [Qaa, Qaa, Qaa, Qaa, Qaa]; simp only [Array.size_append, cat, ((Qac _ _).trans ho.al), ((Qac _ _).trans ho.rl)]; rfl)) kj (isz (n := 100) kj (by rw [Qaa, Qaa, Qaa, Qaa, Qaa, Qaa, Qaa]; simp only [Array.size_append, cat, ((Qac _ _).trans ho.n.gl), ((Qac _ _).trans ho.n.kl), ((Qac _ _).trans ho.n.pl)]; rfl)))) ?_
  refine Qat 5 (.pointer (some ⟨g2, 167, none⟩)) 67 rfl rfl kj kj (fun _ _ _ h => h) (fun W hR => by kernel_rfl) ?_
  refine Qat 6 (.slice (some ⟨g2, 167, none⟩) 32 32) 68 rfl rfl kj kj (fun _ _ _ h => h) (fun W hR => by kernel_rfl) ?_
  refine QaJ 3 kj ?_
  have y3_6 : Ext W3 W6 := (Rely.Ext.trans y3_5 e6)
  refine Qbi rfl (fun v W' => (OwnN .u8 5 W6.heap.size (Qb9 n ts)) v W' ∧ Ext W6 W') 67 #[.agg (cat [#[.bool n.us], #[.int .i64 n.nm], ints .u8 (n.key), ints .u8 (n.sg), ints .u8 (n.pa), #[.slice a_m n.ms.length c_m], #[.slice a_t ts.length c_t]])] 65 rfl kj kj ((QfV n ts a_m c_m a_t c_t _ ho.n hz.nm hps.1 hps.2 (RdK.here (RdK.ext hcm.m x6)) ((hcm.ts.ext stK x6).here stK)).mono (by rintro e w' ⟨v, rfl, e1, hv⟩; exact ⟨v, rfl, hv, e1⟩)) (fun _ _ h => Rely.Ext.trans y3_6 h.2) fun vv46 W7 hh46 => ?_
  obtain ⟨hv46, e7⟩ := hh46
  have x7 : Ext w W7 := Ext.tr x6 e7
  obtain ⟨apth_, cpth_, rfl, -⟩ := id (OwnN.rd hv46)
  refine QaJ 4 kj ?_
  have f47_6 := (hu9.ext e6)
  have f48_7 := (f47_6.ext e7)
  have y3_7 : Ext W3 W7 := (Rely.Ext.trans y3_6 e7)
  refine QaY (k := .u8) (T := 5) (xs := Qa6 grp ep fr ++ bas ++ [byV ((ps.length : Nat) : Int) 0] ++ (ps.map Qbh).flatten) (ys := Qb9 n ts) (V := W3) 1 (.tmp 62) (.tmp 65) 26 rfl kj kj (by decide) 66 rfl 4 rfl kj kj kj f48_7 (OwnN.rd hv46) (by simp only [List.length_append, List.length_cons, List.length_nil, Qa9 ep fr ho.rl, ho.al, ho.gl, ho.il]; have h1 := hb1 ps.length; rw [List.take_length] at h1; omega) y3_7 (fun _ e _ => e) fun zz8 W8 f49 y8 l8 st8 => ?_
  have x8 : Ext w W8 := Qaz.toExt x7 l8 x3.size
  obtain ⟨ap8_, cp8_, rfl, -⟩ := id (OwnN.rd f49)
  refine QaJ 7 kj ?_
  have r2_6 := (Qar r2_5 e6)
  have r2_7 := (Qar r2_6 e7)
  have r2_8 := (Qaz.row l8 r2_7 (by decide))
  refine QaY (k := .u8) (T := 5) (xs := Qa6 grp ep fr ++ bas ++ [byV ((ps.length : Nat) : Int) 0] ++ (ps.map Qbh).flatten ++ Qb9 n ts) (ys := tag) (V := W3) 1 (.tmp 66) (.tmp 68) 26 rfl kj kj (by decide) 69 rfl 7 rfl kj kj kj f49 (QaB 167 ho.gl r2_8 (fun i hi => Qa8 [ints .u8 (grp), #[.int .i64 ep], #[.int .i64 fr], ints .u8 (bas), #[.slice a_p ps.length c_p], #[.bool n.us], #[.int .i64 n.nm], ints .u8 (n.key), ints .u8 (n.sg), ints .u8 (n.pa), #[.slice a_m n.ms.length c_m], #[.slice a_t ts.length c_t]] [ints .u8 (sig)] tag 167 i (167 + i) (by rw [Qaa, Qaa, Qaa, Qaa, Qaa, Qaa, Qaa, Qaa, Qaa, Qaa, Qaa, Qaa]; simp only [Array.size_append, cat, ((Qac _ _).trans ho.al), ((Qac _ _).trans ho.n.gl), ((Qac _ _).trans ho.n.kl), ((Qac _ _).trans ho.n.pl), ((Qac _ _).trans ho.rl)]; rfl) rfl (by rw [ho.gl]; exact hi)) (Qay r2_8) (Nat.le_refl _) (by decide)) (by simp only [List.length_append, List.length_cons, List.length_nil, Qa9 ep fr ho.rl, ho.al, ho.gl, ho.il]; have h1 := hb1 ps.length; rw [List.take_length] at h1; omega) y8 (fun _ e _ => e) fun zz9 W9 f51 y9 l9 st9 => ?_
  have x9 : Ext w W9 := Qaz.toExt x8 l9 x3.size
  obtain ⟨ap9_, cp9_, rfl, -⟩ := id (OwnN.rd f51)
  refine Qat 8 (.slice ap9_ ((Qa6 grp ep fr ++ bas ++ [byV ((ps.length : Nat) : Int) 0] ++ (ps.map Qbh).flatten ++ Qb9 n ts ++ tag).length) cp9_) 4 rfl rfl kj kj (fun _ _ _ h => h) (fun W hR => by kernel_rfl) ?_
  refine wb_nil kj ?_
  refine hK45 _ _ ?_
  refine wp_seq_k fun K53 hK53 => ?_
  refine Qae ?_
  refine Qab (.slice ap9_ ((Qa6 grp ep fr ++ bas ++ [byV ((ps.length : Nat) : Int) 0] ++ (ps.map Qbh).flatten ++ Qb9 n ts ++ tag).length) cp9_) 70 rfl kj kj ?_
  refine Qab (.pointer (some ⟨g2, 199, none⟩)) 71 rfl kj kj ?_
  refine Qab (.slice (some ⟨g2, 199, none⟩) 64 64) 72 rfl kj kj ?_
  have r2_9 := (Qaz.row l9 r2_8 (by decide))
  refine Qce (k := .u8) (T := 5) (xs := Qa6 grp ep fr ++ bas ++ [byV ((ps.length : Nat) : Int) 0] ++ (ps.map Qbh).flatten ++ Qb9 n ts ++ tag) (ys := sig) (V := W3) 1 (.tmp 70) (.tmp 72) 26 rfl kj kj (by decide) 73 rfl kj kj kj f51 (QaB 199 ho.il r2_9 (fun i hi => Qa8 [ints .u8 (grp), #[.int .i64 ep], #[.int .i64 fr], ints .u8 (bas), #[.slice a_p ps.length c_p], #[.bool n.us], #[.int .i64 n.nm], ints .u8 (n.key), ints .u8 (n.sg), ints .u8 (n.pa), #[.slice a_m n.ms.length c_m], #[.slice a_t ts.length c_t], ints .u8 (tag)] [] sig 199 i (199 + i) (by rw [Qaa, Qaa, Qaa, Qaa, Qaa, Qaa, Qaa, Qaa, Qaa, Qaa, Qaa, Qaa, Qaa]; simp only [Array.size_append, cat, ((Qac _ _).trans ho.al), ((Qac _ _).trans ho.gl), ((Qac _ _).trans ho.n.gl), ((Qac _ _).trans ho.n.kl), ((Qac _ _).trans ho.n.pl), ((Qac _ _).trans ho.rl)]; rfl) rfl (by rw [ho.il]; exact hi)) (Qay r2_9) (Nat.le_refl _) (by decide)) (by simp only [List.length_append, List.length_cons, List.length_nil, Qa9 ep fr ho.rl, ho.al, ho.gl, ho.il]; have h1 := hb1 ps.length; rw [List.take_length] at h1; omega) y9 fun zz10 W10 f54 y10 l10 => ?_
  have x10 : Ext w W10 := Qaz.toExt x9 l10 x3.size
  obtain ⟨xz, hxz⟩ : ∃ z, z = Qa6 grp ep fr ++ bas ++ [byV ((ps.length : Nat) : Int) 0] ++ (ps.map Qbh).flatten ++ Qb9 n ts ++ tag ++ sig := ⟨_, rfl⟩
  rw [← hxz] at f54
  obtain ⟨ap10_, cp10_, rfl, -⟩ := id (OwnN.rd f54)
  refine Qa1 (.tuple #[.slice none 0 0, .bool false]) 52 #[.slice ap10_ ((xz).length) cp10_] 74 rfl kj kj ((QiX (xz) ap10_ cp10_ _ (by rw [hxz]; exact hf))) fun W11 e11 => ?_
  have x11 : Ext w W11 := Ext.tr x10 e11
  refine Qab (.slice none 0 0) 75 rfl kj kj ?_
  refine Qab (.bool false) 76 rfl kj kj ?_
  refine Qab (.slice none 0 0) 2 rfl kj kj ?_
  refine Qab (.bool false) 3 rfl kj kj ?_
  refine Qaf ?_
  refine hK53 _ _ ?_
  refine wp_ret ?_
  repeat (first | with_reducible refine goR1 ?_ | with_reducible refine goR2 ?_)
  exact (show bodyPost _ _ _ .ret _ _ from ret2 (.slice none 0 0) (.bool false) rfl (Qaw kj) (Qaw kj) ⟨_, rfl, x11, by rw [hV]; exact rfl⟩)
theorem QcO (grp : List Int) (ep fr : Int) (bas : List Int) (ps : List PrV) (n : NdC) (ts : List StV) (tag sig : List Int) (a_p : Option Addr) (c_p : Nat) (a_m : Option Addr) (c_m : Nat) (a_t : Option Addr) (c_t : Nat) (w : World) (ho : CmOk grp bas n tag sig) (hz : CmSz ps n ts) (hcm : CmAt w.heap.size w ps a_p n a_m c_m ts a_t) : Calls Try.prog 26 #[.agg (cat [ints .u8 (grp), #[.int .i64 ep], #[.int .i64 fr], ints .u8 (bas), #[.slice a_p ps.length c_p], #[.bool n.us], #[.int .i64 n.nm], ints .u8 (n.key), ints .u8 (n.sg), ints .u8 (n.pa), #[.slice a_m n.ms.length c_m], #[.slice a_t ts.length c_t], ints .u8 (tag), ints .u8 (sig)])] w (QbE w (QdB w.heap.size (refC grp ep fr bas ps n ts tag sig))) := by
  unfold refC QeB
  cases h0 : hgB ep fr with
  | false => rw [Bool.false_and, if_neg (by decide)]; exact QhQ grp ep fr bas ps n ts tag sig a_p c_p a_m c_m a_t c_t w ho hz hcm h0
  | true =>
    rw [Bool.true_and]
    by_cases h1 : ps.length ≤ 255
    · rw [decide_eq_true h1, Bool.true_and]
      cases h2 : QbT n ts with
      | false => rw [Bool.false_and, if_neg (by decide)]; exact QhO grp ep fr bas ps n ts tag sig a_p c_p a_m c_m a_t c_t w ho hz hcm h0 h1 h2
      | true =>
        rw [Bool.true_and]
        by_cases hf : (Qc0 grp ep fr bas ps n ts tag sig).length ≤ 65536
        · have e : fitV (Qc0 grp ep fr bas ps n ts tag sig) = some (Qc0 grp ep fr bas ps n ts tag sig) := by unfold fitV; rw [if_pos hf]
          rw [e]; exact QhM grp ep fr bas ps n ts tag sig a_p c_p a_m c_m a_t c_t w ho hz hcm h0 h1 h2 hf
        · have e : fitV (Qc0 grp ep fr bas ps n ts tag sig) = none := by unfold fitV; rw [if_neg hf]
          rw [e]; exact QhN grp ep fr bas ps n ts tag sig a_p c_p a_m c_m a_t c_t w ho hz hcm h0 h1 h2 (by omega)
    · rw [decide_eq_false h1, Bool.false_and, if_neg (by decide)]; exact QhP grp ep fr bas ps n ts tag sig a_p c_p a_m c_m a_t c_t w ho hz hcm h0 (by omega)
end Go.Proofs.Ytfelfmchachljaa.Wr
end
section
namespace Go.Proofs.Ytfelfmchachljaa.Wr
open Go Go.RowKit
open Rely Auto Own Sha
set_option linter.unusedVariables false
set_option linter.unusedSimpArgs false
def Qet (base : Nat) (T : TypeId) (W W' : World) : Prop := ∀ k cur T', T' ≠ T → base ≤ k → W.heap[k]? = some (.cells cur T') → W'.heap[k]? = some (.cells cur T')
theorem QbF {W W' : World} (base : Nat) (T : TypeId) (e : Ext W W') : Qet base T W W' := fun k cur T' _ _ r => Qar r e
theorem Qbt {W W' : World} {g : Nat} {base : Nat} (T : TypeId) (q : ExtB g W W') (hg : g < base) : Qet base T W W' := fun k cur T' _ hb r => (q.2.2.2.2 k (Qay r) (by omega)).trans r
theorem Qbx {W W' : World} {g : Nat} {c : Array Value} {T : TypeId} (base : Nat) (p : Puts W g W') (r0 : W.heap[g]? = some (.cells c T)) : Qet base T W W' := fun k cur T' hT _ r => (p.2.2.2.2 k (fun e => by subst e; rw [r] at r0; simp only [Option.some.injEq, Obj.cells.injEq] at r0; exact hT r0.2.1)).trans r
def InK {α : Type} (tys : List TypeId) (In : Nat → α → World → Prop) : Prop := ∀ (T : TypeId), T ∉ tys → ∀ (base : Nat) (x : α) (W W' : World), Qet base T W W' → In base x W → In base x W'
theorem QbI {k : IntKind} {T T0 : TypeId} {base : Nat} {xs : List Int} {v : Value} {W W' : World} (h : OwnN k T base xs v W) (q : Qet base T0 W W') (hT : T0 ≠ T) : OwnN k T base xs v W' :=
  h.keep fun g hg => by
    obtain ⟨cur, r⟩ := Qd3 h hg
    rw [q g cur T (Ne.symm hT) (h.ge hg) r, r]
theorem Qgs {T T0 : TypeId} {base sz n : Nat} {xs : List Value} {v : Value} {W W' : World} (h : W.ownsRow base T sz v n xs) (q : Qet base T0 W W') (hT : T0 ≠ T) : W'.ownsRow base T sz v n xs :=
  ⟨h.1, h.2.imp id fun ⟨g, c, cur, q1, q2, q3, q4⟩ => ⟨g, c, cur, q1, q2, q g cur T (Ne.symm hT) q2 q3, q4⟩⟩
structure OwL {α : Type} (T : TypeId) (sz : Nat) (cs : α → List Value) (In : Nat → α → World → Prop) (base : Nat) (ts : List α) (v : Value) (W : World) : Prop where
  row : W.ownsRow base T sz v ts.length (ts.flatMap cs)
  el : ∀ x ∈ ts, In base x W
section
variable {α : Type} {T : TypeId} {sz : Nat} {cs : α → List Value} {In : Nat → α → World → Prop} {base : Nat} {ts : List α} {v : Value} {W W' : World} {tys : List TypeId}
theorem OwL.nil (W : World) : OwL T sz cs In base [] (.slice none 0 0) W := ⟨World.ownsRow_nil W base T sz, fun x hx => by cases hx⟩
theorem OwL.rows (K : InK tys In) (h : OwL T sz cs In base ts v W) {T0 : TypeId} (q : Qet base T0 W W') (hT : T0 ∉ T :: tys) : OwL T sz cs In base ts v W' := by
  rw [List.mem_cons, not_or] at hT
  exact ⟨Qgs h.row q hT.1, fun x hx => K T0 hT.2 base x W W' q (h.el x hx)⟩
theorem OwL.sl (h : OwL T sz cs In base ts v W) : ∃ a c, v = .slice a ts.length c := by
  rcases h.row.2 with ⟨e, e2⟩ | ⟨g, cap, cur, e, -⟩
  · exact ⟨none, 0, by rw [e, e2]⟩
  · exact ⟨_, _, e⟩
theorem OwL.app {P : Program} {ρ : Operand → Value} {o : Oper} (K : InK tys In) (hTt : T ∉ tys) (b : Nat) (s x : Operand) (t : TypeId) (ho : o.op = .call { callee := .builtin .append, args := #[s, x], argTypes := #[t, t] }) (ht : P.underlying t = some (.slice T))
    (hi : (P.info? T).map (fun i => (i.zero.map (·.cells.size), i.size, i.bytes)) = some (some sz, sz, b)) (hb8 : b ≤ 1000) (h0 : 0 < sz) {g : Nat} {n : α} {cells : Array Value} (hs : ρ s = v) (hx : ρ x = .slice (some ⟨g, 0, none⟩) 1 1)
    (h : OwL T sz cs In base ts v W) (hn : In base n W) (hc : cells.toList = cs n) (hsz : cells.size = sz) (h1 : ∀ u ∈ cells.toList, u.oneCell' = true) (hrow : W.heap[g]? = some (.cells cells T)) (htl : ts.length ≤ 1000000) (hbase : base ≤ W.heap.size) :
    ∃ v' W', (execOp ρ o).run P W = .ok (.value v') W' ∧ OwL T sz cs In base (ts ++ [n]) v' W' ∧ RowKit.Below base W W' := by
  obtain ⟨i, hq, z, hz, hzs, hi2, hi3⟩ : ∃ i, P.info? T = some i ∧ ∃ z, i.zero = some z ∧ z.cells.size = sz ∧ i.size = sz ∧ i.bytes = b := by
    cases hq : P.info? T with
    | none => rw [hq] at hi; cases hi
    | some i =>
      rw [hq] at hi
      simp only [Option.map_some, Option.some.injEq, Prod.mk.injEq] at hi
      obtain ⟨z, hz, hzs⟩ := Option.map_eq_some_iff.1 hi.1
      exact ⟨i, rfl, z, hz, hzs, hi.2.1, hi.2.2⟩
  obtain ⟨v', W', hr, h2, h3, -, -⟩ := run_append_own_at (P := P) W base t o.type T i z sz b ht hq hz hi2 hi3 hzs h0 v ts.length _ h.row ⟨g, 0, none⟩ 1 1 cells.toList (by rw [Array.length_toList, hsz, Nat.one_mul])
    (fun j u hu => by
      rw [WideShapes.add_plain, Nat.zero_add]
      unfold World.cell?
      simp only [hrow]
      rw [Array.getElem?_toList] at hu
      rw [← hu]; rfl) h1 (by simp only [maxLen]; omega) (by
        have : (ts.length + 1) * b ≤ 1000001 * 1000 := Nat.mul_le_mul (by omega) hb8
        omega) hbase
  have hrows : Qet base T W W' := fun k cur T' hT hb r => (h3.block k (Qay r) fun q => by
    obtain ⟨-, cur2, r2⟩ := Qda h.row q.symm
    rw [r] at r2
    simp only [Option.some.injEq, Obj.cells.injEq] at r2
    exact hT r2.2.1).trans r
  refine ⟨v', W', ?_, ⟨?_, ?_⟩, ⟨h3.os, h3.tape, h3.output, h3.size, fun k hk => h3.block k (Nat.lt_of_lt_of_le hk hbase) fun q => by have := (Qda h.row q.symm).1; omega⟩⟩
  · unfold execOp
    simp only [ho, resolve, invoke, builtin, Sem.run_bind, Sem.run_pure, Result.andThen_ok, List.map_toArray, List.map_cons, List.map_nil, hs, hx, hr]
  · rw [List.length_append, List.flatMap_append]
    rw [hc] at h2
    simpa using h2
  · intro m hm
    rcases List.mem_append.1 hm with h5 | h5
    · exact K T hTt base m W W' hrows (h.el m h5)
    · obtain rfl : m = n := by simpa using h5
      exact K T hTt base m W W' hrows hn
theorem OwL.mono {b : Nat} (h : OwL T sz cs In b ts v W) (hab : base ≤ b) (hIn : ∀ x, In b x W → In base x W) : OwL T sz cs In base ts v W :=
  ⟨⟨h.row.1, h.row.2.imp id fun ⟨g, c, cur, q1, q2, q3⟩ => ⟨g, c, cur, q1, Nat.le_trans hab q2, q3⟩⟩, fun x hx => hIn x (h.el x hx)⟩
theorem Qe9 (cs : α → List Value) (sz : Nat) (d : α) : ∀ (ts : List α), (∀ x ∈ ts, (cs x).length = sz) → ∀ i, i < ts.length → ∀ j, j < sz → (ts.flatMap cs)[i * sz + j]? = (cs (ts.getD i d))[j]?
  | [], _, i, hi, _, _ => absurd hi (Nat.not_lt_zero _)
  | x :: r, ho, i, hi, j, hj => by
    have hsz := ho x List.mem_cons_self
    rw [List.flatMap_cons]
    cases i with
    | zero => rw [List.getElem?_append_left (by omega), Nat.zero_mul, Nat.zero_add]; rfl
    | succ i =>
      have e1 : (i + 1) * sz = i * sz + sz := by rw [Nat.add_mul, Nat.one_mul]
      rw [List.getElem?_append_right (by omega), hsz, show (i + 1) * sz + j - sz = i * sz + j by omega]
      exact Qe9 cs sz d r (fun y hy => ho y (List.mem_cons_of_mem _ hy)) i (by simpa using hi) j hj
theorem OwL.ls {El : Nat → World → Nat → Nat → α → Prop} {a : Option Addr} {c : Nat} (d : α) (h : OwL T sz cs In base ts (.slice a ts.length c) W) (ho : ∀ x ∈ ts, (cs x).length = sz)
    (hEl : ∀ x ∈ ts, ∀ g off, g < W.heap.size → (∀ j, j < sz → ∀ u, (cs x)[j]? = some u → W.cell? ⟨g, off + j, none⟩ = some u) → In base x W → El W.heap.size W g off x) : LsAt El sz d W.heap.size W a ts := by
  rcases h.row.2 with ⟨e, -⟩ | ⟨g, cap, cur, e, q2, q3, -⟩
  · have h0 : ts.length = 0 := by simp only [Value.slice.injEq] at e; exact e.2.1
    exact ⟨0, 0, fun h1 => absurd h1 (by omega), fun i hi => absurd hi (by omega)⟩
  · simp only [Value.slice.injEq] at e
    obtain ⟨rfl, -, rfl⟩ := e
    refine ⟨g, 0, fun _ => rfl, fun i hi => ?_⟩
    have hm := Qb3 ts d i hi
    refine hEl _ hm g _ (Qay q3) (fun j hj u hu => ?_) (h.el _ hm)
    rw [← Qe9 cs sz d ts ho i hi j hj] at hu
    have := h.row.cells (g := g) rfl (i * sz + j) u hu
    rw [WideShapes.add_plain] at this
    rw [Nat.zero_add]
    rw [Nat.zero_add] at this
    exact this
end
section
variable {ds : List Deferred} {P : Program} {ops : Array Oper} {Q : Exit → Act → World → Prop} {rest : List Oper} {o : Oper} {N : Nat} {L : Env} {W : World}
theorem QdW {α : Type} {T : TypeId} {sz : Nat} {cs : α → List Value} {In : Nat → α → World → Prop} {base : Nat} {ts : List α} {v : Value} {tys : List TypeId} (K : InK tys In) (hTt : T ∉ tys) (b : Nat) (s x : Operand) (t : TypeId) (ho : o.op = .call { callee := .builtin .append, args := #[s, x], argTypes := #[t, t] }) (ht : P.underlying t = some (.slice T))
    (hi : (P.info? T).map (fun i => (i.zero.map (·.cells.size), i.size, i.bytes)) = some (some sz, sz, b)) (hb8 : b ≤ 1000) (h0 : 0 < sz) (d : Nat) (hd : o.dst = some d) (hg : QbL ops o N L = some true) {g : Nat} {n : α} {cells : Array Value} (hs : Rely.look (envN N L) s = v) (hx : Rely.look (envN N L) x = .slice (some ⟨g, 0, none⟩) 1 1)
    (h : OwL T sz cs In base ts v W) (hn : In base n W) (hc : cells.toList = cs n) (hsz : cells.size = sz) (h1 : ∀ u ∈ cells.toList, u.oneCell' = true) (hrow : W.heap[g]? = some (.cells cells T)) (htl : ts.length ≤ 1000000) (hbase : base ≤ W.heap.size)
    (kk : ∀ (u : Value) (W' : World), OwL T sz cs In base (ts ++ [n]) u W' → RowKit.Below base W W' → WL P ops Q rest (QaG ds N ((d, u) :: L)) W') : WL P ops Q (o :: rest) (QaG ds N L) W := by
  obtain ⟨v', W', h1', h2, h3⟩ := OwL.app (ρ := Rely.look (envN N L)) K hTt b s x t ho ht hi hb8 h0 hs hx h hn hc hsz h1 hrow htl hbase
  exact Qcn _ _ d hd hg h1' (kk v' W' h2 h3)
end
def InRw (base : Nat) (r : RwV) (W : World) : Prop := Qaj r.xs ∧ r.xs.length ≤ 65535 ∧ OwnN .u8 5 base r.xs (.slice r.a r.xs.length r.c) W
def rwC (r : RwV) : List Value := [.slice r.a r.xs.length r.c]
theorem inRw : InK [5] InRw := fun T hT base x W W' q h => ⟨h.1, h.2.1, QbI h.2.2 q (by simpa using hT)⟩
abbrev Qcu := OwL 26 1 rwC InRw
def stC (t : StV) : List Value := (cat (stP t)).toList
def InSt (base : Nat) (t : StV) (W : World) : Prop := t.key.length = 32 ∧ Qaj t.key ∧ t.rows.length ≤ 255 ∧ Qcu base t.rows (.slice t.a t.rows.length t.c) W
theorem inSt : InK [26, 5] InSt := fun T hT base x W W' q h => ⟨h.1, h.2.1, h.2.2.1, h.2.2.2.rows inRw q hT⟩
abbrev Qb8 := OwL 129 33 stC InSt
def prC (p : PrV) : List Value := (cat (prP p)).toList
def InPr (base : Nat) (p : PrV) (W : World) : Prop := PrOk p.p ∧ p.p.n.ms.length ≤ 255 ∧ OwnN .i64 3 base p.p.n.ms (.slice p.a p.p.n.ms.length p.c) W
theorem inPr : InK [3] InPr := fun T hT base x W W' q h => ⟨h.1, h.2.1, QbI h.2.2 q (by simpa using hT)⟩
abbrev QbK := OwL 47 263 prC InPr
theorem InRw.base {a b : Nat} (hab : a ≤ b) (r : RwV) {W : World} (h : InRw b r W) : InRw a r W := ⟨h.1, h.2.1, OwnN.base hab h.2.2⟩
theorem Qcu.base_ {a b : Nat} (hab : a ≤ b) {rs : List RwV} {v : Value} {W : World} (h : Qcu b rs v W) : Qcu a rs v W := OwL.mono h hab fun x hx => InRw.base hab x hx
theorem InSt.base {a b : Nat} (hab : a ≤ b) (t : StV) {W : World} (h : InSt b t W) : InSt a t W := ⟨h.1, h.2.1, h.2.2.1, Qcu.base_ hab h.2.2.2⟩
theorem Qb8.base_ {a b : Nat} (hab : a ≤ b) {ts : List StV} {v : Value} {W : World} (h : Qb8 b ts v W) : Qb8 a ts v W := OwL.mono h hab fun x hx => InSt.base hab x hx
theorem InPr.base {a b : Nat} (hab : a ≤ b) (p : PrV) {W : World} (h : InPr b p W) : InPr a p W := ⟨h.1, h.2.1, OwnN.base hab h.2.2⟩
theorem QbK.base_ {a b : Nat} (hab : a ≤ b) {ps : List PrV} {v : Value} {W : World} (h : QbK b ps v W) : QbK a ps v W := OwL.mono h hab fun x hx => InPr.base hab x hx
theorem Qcu.ls {base : Nat} {rs : List RwV} {a : Option Addr} {c : Nat} {W : World} (h : Qcu base rs (.slice a rs.length c) W) : LsAt RwAt 1 rw0 W.heap.size W a rs :=
  OwL.ls rw0 h (fun x _ => rfl) fun x _ g off hg hc hi => ⟨hg, hg, hc 0 (by decide) _ rfl, RdK.here (OwnN.rd hi.2.2), hi.1⟩
theorem Qb8.ls {base : Nat} {ts : List StV} {a : Option Addr} {c : Nat} {W : World} (h : Qb8 base ts (.slice a ts.length c) W) : LsAt StAt 33 st0 W.heap.size W a ts :=
  OwL.ls st0 h (fun x hx => by unfold stC; rw [Array.length_toList]; exact Qcm x (h.el x hx).1) fun x _ g off hg hc hi => ⟨hg, hg, fun j u hu => by
    have hj : j < 33 := by have := (Array.getElem?_eq_some_iff.1 hu).1; rw [Qcm x hi.1] at this; exact this
    exact hc j hj u (by unfold stC; rw [Array.getElem?_toList]; exact hu), Qcu.ls hi.2.2.2, hi.1, hi.2.1⟩
theorem QbK.ls {base : Nat} {ps : List PrV} {a : Option Addr} {c : Nat} {W : World} (h : QbK base ps (.slice a ps.length c) W) : LsAt PrAt 263 pr0 W.heap.size W a ps :=
  OwL.ls pr0 h (fun x hx => by unfold prC; rw [Array.length_toList]; exact Qb5 x (h.el x hx).1) fun x _ g off hg hc hi => ⟨hg, hg, fun j u hu => by
    have hj : j < 263 := by have := (Array.getElem?_eq_some_iff.1 hu).1; rw [Qb5 x hi.1] at this; exact this
    exact hc j hj u (by unfold prC; rw [Array.getElem?_toList]; exact hu), RdK.here (OwnN.rd hi.2.2), hi.1⟩
end Go.Proofs.Ytfelfmchachljaa.Wr
end
section
namespace Go.Proofs.Ytfelfmchachljaa.Wr
open Go Go.RowKit
open Rely Auto Own Sha
set_option linter.unusedVariables false
set_option linter.unusedSimpArgs false
def qS1 (s : Option (List Int)) : Option (List Int) := Qad s 32
def qS2 (s : Option (List Int)) : Option (List Int) := Qad (qS1 s) 4
def qS3 (s : Option (List Int)) : Option (List Int) := Qan (qS2 s)
def qS4 (s : Option (List Int)) : Option (List Int) := Qad (qS3 s) 32
def qS5 (s : Option (List Int)) : Option (List Int) := Qad (qS4 s) 1
def qKd (s : Option (List Int)) : Nat := bigN (Qai (qS4 s) 1)
def qGrp (s : Option (List Int)) : List Int := keyV (Qai s 32)
def qEp (s : Option (List Int)) : Int := ((bigN (Qai (qS1 s) 4) : Nat) : Int)
def qFr (s : Option (List Int)) : Int := ((bigN (Qai (qS2 s) 1) : Nat) : Int)
def qBa (s : Option (List Int)) : List Int := keyV (Qai (qS3 s) 32)
def qNd (s : Option (List Int)) : Bool := qKd s == 1 || qKd s == 2
def qUs (s : Option (List Int)) : Bool := bif qNd s then nUs (qS5 s) else false
def qNm (s : Option (List Int)) : Int := bif qNd s then nNm (qS5 s) else 0
def qKy (s : Option (List Int)) : List Int := bif qNd s then nKy (qS5 s) else List.replicate 32 0
def qSg (s : Option (List Int)) : List Int := bif qNd s then nSg (qS5 s) else List.replicate 32 0
def qPa (s : Option (List Int)) : List Int := bif qNd s then nPa (qS5 s) else List.replicate 32 0
def qL (s : Option (List Int)) : List Int := bif qNd s then nL (qS5 s) else []
def qSt (s : Option (List Int)) : List Int := bif qKd s == 1 then keyV (Qai (QaN (qS5 s)) 32) else List.replicate 32 0
def qAt (s : Option (List Int)) : Int := bif qKd s == 3 then ((bigN (Qai (qS5 s) 1) : Nat) : Int) else 0
def Qcz (s : Option (List Int)) : Option (List Int) := bif qKd s == 1 then Qad (QaN (qS5 s)) 32 else bif qKd s == 2 then QaN (qS5 s) else bif qKd s == 3 then Qan (qS5 s) else Qa4 (qS5 s) false
def qSig (s : Option (List Int)) : List Int := Qbq (Qai (Qcz s) 64)
def Qa2 (s : Option (List Int)) : Option (List Int) := Qad (Qcz s) 64
theorem Qhf (s : Option (List Int)) : (qGrp s).length = 32 := Qap _ (Qal _ 32)
theorem QhV (s : Option (List Int)) : (qBa s).length = 32 := Qap _ (Qal _ 32)
theorem Qhe (s : Option (List Int)) : (qSig s).length = 64 := QaF _ (Qal _ 64)
theorem QhU (s : Option (List Int)) : (qKy s).length = 32 := by unfold qKy; cases qNd s; exact List.length_replicate ..; exact QaW _
theorem QhS (s : Option (List Int)) : (qSg s).length = 32 := by unfold qSg; cases qNd s; exact List.length_replicate ..; exact QaU _
theorem QhT (s : Option (List Int)) : (qPa s).length = 32 := by unfold qPa; cases qNd s; exact List.length_replicate ..; exact QaV _
theorem QhR (s : Option (List Int)) : (qSt s).length = 32 := by unfold qSt; cases qKd s == 1; exact List.length_replicate ..; exact Qap _ (Qal _ 32)
set_option maxHeartbeats 4000000 in
set_option maxRecDepth 100000 in
theorem QhG (B gr : Nat) (s : Option (List Int)) (w : World) (hB : B ≤ gr) (h : RSt B gr s w) (hk : bigN (Qai (qS4 s) 1) = 1) : Calls Try.prog 61 #[.pointer (some ⟨gr, 0, none⟩)] w (QbB B gr w (Qa2 s) fun v W => ∃ (xz : List Int) (a : Option Addr) (c : Nat), v = .agg (cat [ints .u8 (qGrp s), #[.int .i64 (qEp s)], #[.int .i64 (qFr s)], ints .u8 (qBa s), #[.int .i64 ((qKd s : Nat) : Int)], #[.bool (qUs s)], #[.int .i64 (qNm s)], ints .u8 (qKy s), ints .u8 (qSg s), ints .u8 (qPa s), #[.slice a xz.length c], ints .u8 (qSt s), #[.int .i64 (qAt s)], ints .u8 (qSig s)]) ∧ OwnN .i64 3 w.heap.size xz (.slice a xz.length c) W ∧ xz.length ≤ 255 ∧ (Qa2 s ≠ none → xz = qL s)) := by
  have hgr := h.lt
  have hk2 : bigN (Qai (Qad (Qan (Qad (Qad s 32) 4)) 32) 1) = qKd s := rfl
  unfold qKd at hk2
  have hk0 : qKd s = bigN (Qai (qS4 s) 1) := rfl
  have k1 : (qKd s == 1) = true := beq_iff_eq.2 (show qKd s = 1 by omega)
  have k2 : (qKd s == 2) = false := beq_eq_false_iff_ne.2 (show qKd s ≠ 2 by omega)
  have k3 : (qKd s == 3) = false := beq_eq_false_iff_ne.2 (show qKd s ≠ 3 by omega)
  have kn : qNd s = true := by unfold qNd; rw [k1, k2]; rfl
  have eUs : qUs s = nUs (qS5 s) := by unfold qUs; rw [kn]; rfl
  have eNm : qNm s = nNm (qS5 s) := by unfold qNm; rw [kn]; rfl
  have eKy : qKy s = nKy (qS5 s) := by unfold qKy; rw [kn]; rfl
  have eSg : qSg s = nSg (qS5 s) := by unfold qSg; rw [kn]; rfl
  have ePa : qPa s = nPa (qS5 s) := by unfold qPa; rw [kn]; rfl
  have eL : qL s = nL (qS5 s) := by unfold qL; rw [kn]; rfl
  have eSt : qSt s = keyV (Qai (QaN (qS5 s)) 32) := by unfold qSt; rw [k1]; rfl
  have eAt : qAt s = 0 := by unfold qAt; rw [k3]; rfl
  have eM : Qcz s = Qad (QaN (qS5 s)) 32 := by unfold Qcz; rw [k1, k2, k3]; rfl
  refine enter 41 [(0, .pointer (some ⟨gr, 0, none⟩))] Try.func61 rfl rfl kj rfl ?_
  refine wp_seq_k fun K1 hK1 => ?_
  refine Qae ?_
  refine Qav (cat [ints .u8 (List.replicate 32 0), #[.int .i64 0], #[.int .i64 0], ints .u8 (List.replicate 32 0), #[.int .i64 0], #[.bool false], #[.int .i64 0], ints .u8 (List.replicate 32 0), ints .u8 (List.replicate 32 0), ints .u8 (List.replicate 32 0), #[.slice none 0 0], ints .u8 (List.replicate 32 0), #[.int .i64 0], ints .u8 (List.replicate 64 0)]) 47 2 rfl kj (Qbe 47 _ rfl (Qcd _)) fun g2 W1 l2 e1 r2_1 => ?_
  have x1 : ExtB gr w W1 := ExtB.ext (ExtB.refl gr w) e1
  have b2 : w.heap.size ≤ g2 := Nat.le_trans (ExtB.refl gr w).size l2
  refine Qaf ?_
  refine hK1 _ _ ?_
  refine wp_seq_k fun K3 hK3 => ?_
  refine Qae ?_
  refine Qab (.pointer (some ⟨gr, 0, none⟩)) 4 rfl kj kj ?_
  have rs4 := (RSt.ext h hB e1)
  refine Qak (fun v W' => ExtB gr W1 W' ∧ RSt B gr (Qad (s) 32) W' ∧ (fun (v : Value) (_ : World) => v = .agg (ints .u8 (keyV (Qai (s) 32)))) v W') 109 #[.pointer (some ⟨gr, 0, none⟩)] 5 rfl kj kj (Qcg B gr _ _ hB rs4) fun vv5 W2 hh5 => ?_
  obtain ⟨q2, rs5, hv5⟩ := hh5
  have x2 : ExtB gr w W2 := ExtB.tr x1 q2
  subst hv5
  refine Qab (.pointer (some ⟨gr, 0, none⟩)) 6 rfl kj kj ?_
  refine Qak (fun v W' => ExtB gr W2 W' ∧ RSt B gr (Qad (Qad (s) 32) 4) W' ∧ (fun (v : Value) (_ : World) => v = .int .i64 ((bigN (Qai (Qad (s) 32) 4) : Nat) : Int)) v W') 110 #[.pointer (some ⟨gr, 0, none⟩), .int .i64 4] 7 rfl kj kj (Qbg B gr _ 4 _ hB rs5 (by decide)) fun vv6 W3 hh6 => ?_
  obtain ⟨q3, rs6, hv6⟩ := hh6
  have x3 : ExtB gr w W3 := ExtB.tr x2 q3
  subst hv6
  refine Qab (.pointer (some ⟨gr, 0, none⟩)) 8 rfl kj kj ?_
  refine Qak (fun v W' => ExtB gr W3 W' ∧ RSt B gr (Qan (Qad (Qad (s) 32) 4)) W' ∧ (fun (v : Value) (_ : World) => v = .int .i64 ((bigN (Qai (Qad (Qad (s) 32) 4) 1) : Nat) : Int)) v W') 111 #[.pointer (some ⟨gr, 0, none⟩)] 9 rfl kj kj (Qdk B gr _ _ hB rs6) fun vv7 W4 hh7 => ?_
  obtain ⟨q4, rs7, hv7⟩ := hh7
  have x4 : ExtB gr w W4 := ExtB.tr x3 q4
  subst hv7
  refine Qab (.pointer (some ⟨gr, 0, none⟩)) 10 rfl kj kj ?_
  refine Qak (fun v W' => ExtB gr W4 W' ∧ RSt B gr (Qad (Qan (Qad (Qad (s) 32) 4)) 32) W' ∧ (fun (v : Value) (_ : World) => v = .agg (ints .u8 (keyV (Qai (Qan (Qad (Qad (s) 32) 4)) 32)))) v W') 109 #[.pointer (some ⟨gr, 0, none⟩)] 11 rfl kj kj (Qcg B gr _ _ hB rs7) fun vv8 W5 hh8 => ?_
  obtain ⟨q5, rs8, hv8⟩ := hh8
  have x5 : ExtB gr w W5 := ExtB.tr x4 q5
  subst hv8
  refine Qab (.pointer (some ⟨gr, 0, none⟩)) 12 rfl kj kj ?_
  refine Qak (fun v W' => ExtB gr W5 W' ∧ RSt B gr (Qad (Qad (Qan (Qad (Qad (s) 32) 4)) 32) 1) W' ∧ (fun (v : Value) (_ : World) => v = .int .i64 ((bigN (Qai (Qad (Qan (Qad (Qad (s) 32) 4)) 32) 1) : Nat) : Int)) v W') 110 #[.pointer (some ⟨gr, 0, none⟩), .int .i64 1] 13 rfl kj kj (Qbg B gr _ 1 _ hB rs8 (by decide)) fun vv9 W6 hh9 => ?_
  obtain ⟨q6, rs9, hv9⟩ := hh9
  have x6 : ExtB gr w W6 := ExtB.tr x5 q6
  subst hv9
  refine Qab (.agg (cat [ints .u8 (keyV (Qai (s) 32)), #[.int .i64 ((bigN (Qai (Qad (s) 32) 4) : Nat) : Int)], #[.int .i64 ((bigN (Qai (Qad (Qad (s) 32) 4) 1) : Nat) : Int)], ints .u8 (keyV (Qai (Qan (Qad (Qad (s) 32) 4)) 32)), #[.int .i64 ((bigN (Qai (Qad (Qan (Qad (Qad (s) 32) 4)) 32) 1) : Nat) : Int)], #[.bool false], #[.int .i64 0], ints .u8 (List.replicate 32 0), ints .u8 (List.replicate 32 0), ints .u8 (List.replicate 32 0), #[.slice none 0 0], ints .u8 (List.replicate 32 0), #[.int .i64 0], ints .u8 (List.replicate 64 0)])) 14 rfl kj (Qcc 47 _ [ints .u8 (List.replicate 32 0), #[.int .i64 0], #[.int .i64 0], ints .u8 (List.replicate 32 0), #[.int .i64 0]] [#[.bool false], #[.int .i64 0], ints .u8 (List.replicate 32 0), ints .u8 (List.replicate 32 0), ints .u8 (List.replicate 32 0), #[.slice none 0 0], ints .u8 (List.replicate 32 0), #[.int .i64 0], ints .u8 (List.replicate 64 0)] #[(0, 32), (32, 1), (33, 1), (34, 32), (66, 1), (67, 99), (166, 32), (198, 1), (199, 64)] [(0, 32, .agg (ints .u8 (keyV (Qai (s) 32))), ints .u8 (keyV (Qai (s) 32))), (1, 1, .int .i64 ((bigN (Qai (Qad (s) 32) 4) : Nat) : Int), #[.int .i64 ((bigN (Qai (Qad (s) 32) 4) : Nat) : Int)]), (2, 1, .int .i64 ((bigN (Qai (Qad (Qad (s) 32) 4) 1) : Nat) : Int), #[.int .i64 ((bigN (Qai (Qad (Qad (s) 32) 4) 1) : Nat) : Int)]), (3, 32, .agg (ints .u8 (keyV (Qai (Qan (Qad (Qad (s) 32) 4)) 32))), ints .u8 (keyV (Qai (Qan (Qad (Qad (s) 32) 4)) 32))), (4, 1, .int .i64 ((bigN (Qai (Qad (Qan (Qad (Qad (s) 32) 4)) 32) 1) : Nat) : Int), #[.int .i64 ((bigN (Qai (Qad (Qan (Qad (Qad (s) 32) 4)) 32) 1) : Nat) : Int)])] rfl kj ⟨kj, rfl, ((Qac _ _).trans (Qap _ (Qal (s) 32))), kj, rfl, kj, kj, rfl, kj, kj, rfl, ((Qac _ _).trans (Qap _ (Qal (Qan (Qad (Qad (s) 32) 4)) 32))), kj, rfl, kj, trivial⟩ kj (Qcd _) kj kj) ?_
  refine Qav (cat [ints .u8 (List.replicate 32 0), #[.int .i64 0], #[.int .i64 0], ints .u8 (List.replicate 32 0), #[.int .i64 0], #[.bool false], #[.int .i64 0], ints .u8 (List.replicate 32 0), ints .u8 (List.replicate 32 0), ints .u8 (List.replicate 32 0), #[.slice none 0 0], ints .u8 (List.replicate 32 0), #[.int .i64 0], ints .u8 (List.replicate 64 0)]) 47 3 rfl kj (Qbe 47 _ rfl (Qcd _)) fun g10 W7 l10 e7 r10_7 => ?_
  have x7 : ExtB gr w W7 := ExtB.ext x6 e7
  have b10 : w.heap.size ≤ g10 := Nat.le_trans x6.size l10
  refine Qa3 g10 _ (cat [ints .u8 (keyV (Qai (s) 32)), #[.int .i64 ((bigN (Qai (Qad (s) 32) 4) : Nat) : Int)], #[.int .i64 ((bigN (Qai (Qad (Qad (s) 32) 4) 1) : Nat) : Int)], ints .u8 (keyV (Qai (Qan (Qad (Qad (s) 32) 4)) 32)), #[.int .i64 ((bigN (Qai (Qad (Qan (Qad (Qad (s) 32) 4)) 32) 1) : Nat) : Int)], #[.bool false], #[.int .i64 0], ints .u8 (List.replicate 32 0), ints .u8 (List.replicate 32 0), ints .u8 (List.replicate 32 0), #[.slice none 0 0], ints .u8 (List.replicate 32 0), #[.int .i64 0], ints .u8 (List.replicate 64 0)]) 47 r10_7 rfl kj (Qa0 47 _ _ g10 47 _ _ r10_7 rfl kj kj (isz (n := 263) kj (by rw [Qaa, Qaa, Qaa, Qaa, Qaa, Qaa, Qaa, Qaa, Qaa, Qaa, Qaa, Qaa, Qaa, Qaa]; simp only [Array.size_append, cat, ((Qac _ _).trans (List.length_replicate (n := 32))), ((Qac _ _).trans (List.length_replicate (n := 64))), ((Qac _ _).trans (Qap _ (Qal (Qan (Qad (Qad (s) 32) 4)) 32))), ((Qac _ _).trans (Qap _ (Qal (s) 32)))]; rfl)) (eqsz (n := 263) (by rw [Qaa, Qaa, Qaa, Qaa, Qaa, Qaa, Qaa, Qaa, Qaa, Qaa, Qaa, Qaa, Qaa, Qaa]; simp only [Array.size_append, cat, ((Qac _ _).trans (List.length_replicate (n := 32))), ((Qac _ _).trans (List.length_replicate (n := 64)))]; rfl) (by rw [Qaa, Qaa, Qaa, Qaa, Qaa, Qaa, Qaa, Qaa, Qaa, Qaa, Qaa, Qaa, Qaa, Qaa]; simp only [Array.size_append, cat, ((Qac _ _).trans (List.length_replicate (n := 32))), ((Qac _ _).trans (List.length_replicate (n := 64))), ((Qac _ _).trans (Qap _ (Qal (Qan (Qad (Qad (s) 32) 4)) 32))), ((Qac _ _).trans (Qap _ (Qal (s) 32)))]; rfl)) (QaX _ (by intro a ha; simp only [List.mem_cons, List.not_mem_nil, or_false] at ha; rcases ha with rfl | rfl | rfl | rfl | rfl | rfl | rfl | rfl | rfl | rfl | rfl | rfl | rfl | rfl; exact (Qas _ _); exact (Qaq _ rfl); exact (Qaq _ rfl); exact (Qas _ _); exact (Qaq _ rfl); exact (Qaq _ rfl); exact (Qaq _ rfl); exact (Qas _ _); exact (Qas _ _); exact (Qas _ _); exact (Qaq _ rfl); exact (Qas _ _); exact (Qaq _ rfl); exact (Qas _ _)))) fun W8 p8 r10_8 => ?_
  have x8 : ExtB gr w W8 := ExtB.putsN x7 p8 b10
  refine Qaf ?_
  refine hK3 _ _ ?_
  refine wp_seq_k fun K11 hK11 => ?_
  refine wp_seq_k fun K12 hK12 => ?_
  refine Qae ?_
  refine Qab (.pointer (some ⟨g10, 66, none⟩)) 15 rfl kj kj ?_
  refine Qab (.int .i64 ((bigN (Qai (Qad (Qan (Qad (Qad (s) 32) 4)) 32) 1) : Nat) : Int)) 16 rfl kj (Qag 3 _ g10 66 47 _ (.int .i64 ((bigN (Qai (Qad (Qan (Qad (Qad (s) 32) 4)) 32) 1) : Nat) : Int)) _ r10_8 rfl kj (Qah [ints .u8 (keyV (Qai (s) 32)), #[.int .i64 ((bigN (Qai (Qad (s) 32) 4) : Nat) : Int)], #[.int .i64 ((bigN (Qai (Qad (Qad (s) 32) 4) 1) : Nat) : Int)], ints .u8 (keyV (Qai (Qan (Qad (Qad (s) 32) 4)) 32))] [#[.int .i64 ((bigN (Qai (Qad (Qan (Qad (Qad (s) 32) 4)) 32) 1) : Nat) : Int)]] [#[.bool false], #[.int .i64 0], ints .u8 (List.replicate 32 0), ints .u8 (List.replicate 32 0), ints .u8 (List.replicate 32 0), #[.slice none 0 0], ints .u8 (List.replicate 32 0), #[.int .i64 0], ints .u8 (List.replicate 64 0)] 66 (by rw [Qaa, Qaa, Qaa, Qaa]; simp only [Array.size_append, cat, ((Qac _ _).trans (Qap _ (Qal (Qan (Qad (Qad (s) 32) 4)) 32))), ((Qac _ _).trans (Qap _ (Qal (s) 32)))]; rfl) 0 _ rfl) kj) ?_
  refine Qaf ?_
  refine hK12 _ _ ?_
  refine wp_block ?_
  refine wp_seq_k fun K13 hK13 => ?_
  refine Qae ?_
  refine Qab (.bool true) 20 rfl kj (Qax (u := .bool ((((bigN (Qai (Qad (Qan (Qad (Qad (s) 32) 4)) 32) 1) : Nat) : Int) == 1))) kj (congrArg Value.bool (beq_iff_eq.2 (by omega)))) ?_
  refine Qab (.bool true) 19 rfl kj kj ?_
  refine Qaf ?_
  refine hK13 _ _ ?_
  refine cond_true kj ?_
  refine wp_seq_k fun K14 hK14 => ?_
  refine Qae ?_
  refine Qab (.pointer (some ⟨gr, 0, none⟩)) 21 rfl kj kj ?_
  have rs15 := (RSt.put (RSt.ext rs9 hB e7) hB p8 (Nat.lt_of_lt_of_le hgr b10))
  refine Qak (fun v W' => ExtB gr W8 W' ∧ RSt B gr (QaN (Qad (Qad (Qan (Qad (Qad (s) 32) 4)) 32) 1)) W' ∧ (fun (v : Value) (W : World) => ∃ (xz : List Int) (a : Option Addr) (c : Nat), v = .agg (cat [#[.bool (nUs (Qad (Qad (Qan (Qad (Qad (s) 32) 4)) 32) 1))], #[.int .i64 (nNm (Qad (Qad (Qan (Qad (Qad (s) 32) 4)) 32) 1))], ints .u8 (nKy (Qad (Qad (Qan (Qad (Qad (s) 32) 4)) 32) 1)), ints .u8 (nSg (Qad (Qad (Qan (Qad (Qad (s) 32) 4)) 32) 1)), ints .u8 (nPa (Qad (Qad (Qan (Qad (Qad (s) 32) 4)) 32) 1)), #[.slice a xz.length c]]) ∧ OwnN .i64 3 W8.heap.size xz (.slice a xz.length c) W ∧ xz.length ≤ 255 ∧ (QaN (Qad (Qad (Qan (Qad (Qad (s) 32) 4)) 32) 1) ≠ none → xz = nL (Qad (Qad (Qan (Qad (Qad (s) 32) 4)) 32) 1))) v W') 102 #[.pointer (some ⟨gr, 0, none⟩)] 22 rfl kj kj (QfX B gr _ _ hB rs15) fun vv16 W9 hh16 => ?_
  obtain ⟨q9, rs16, hv16⟩ := hh16
  have x9 : ExtB gr w W9 := ExtB.tr x8 q9
  obtain ⟨xs17, ax17, cx17, rfl, hox17, hlx17, hxx17⟩ := hv16
  refine Qab (.pointer (some ⟨g10, 67, none⟩)) 23 rfl kj kj ?_
  have r10_9 := (ExtB.row q9 r10_8 (Ne.symm (Nat.ne_of_lt (Nat.lt_of_lt_of_le hgr b10))))
  refine Qa3 g10 _ (cat [ints .u8 (keyV (Qai (s) 32)), #[.int .i64 ((bigN (Qai (Qad (s) 32) 4) : Nat) : Int)], #[.int .i64 ((bigN (Qai (Qad (Qad (s) 32) 4) 1) : Nat) : Int)], ints .u8 (keyV (Qai (Qan (Qad (Qad (s) 32) 4)) 32)), #[.int .i64 ((bigN (Qai (Qad (Qan (Qad (Qad (s) 32) 4)) 32) 1) : Nat) : Int)], #[.bool (nUs (Qad (Qad (Qan (Qad (Qad (s) 32) 4)) 32) 1))], #[.int .i64 (nNm (Qad (Qad (Qan (Qad (Qad (s) 32) 4)) 32) 1))], ints .u8 (nKy (Qad (Qad (Qan (Qad (Qad (s) 32) 4)) 32) 1)), ints .u8 (nSg (Qad (Qad (Qan (Qad (Qad (s) 32) 4)) 32) 1)), ints .u8 (nPa (Qad (Qad (Qan (Qad (Qad (s) 32) 4)) 32) 1)), #[.slice ax17 xs17.length cx17], ints .u8 (List.replicate 32 0), #[.int .i64 0], ints .u8 (List.replicate 64 0)]) 47 r10_9 rfl kj (Qb1 43 _ _ g10 67 47 [ints .u8 (keyV (Qai (s) 32)), #[.int .i64 ((bigN (Qai (Qad (s) 32) 4) : Nat) : Int)], #[.int .i64 ((bigN (Qai (Qad (Qad (s) 32) 4) 1) : Nat) : Int)], ints .u8 (keyV (Qai (Qan (Qad (Qad (s) 32) 4)) 32)), #[.int .i64 ((bigN (Qai (Qad (Qan (Qad (Qad (s) 32) 4)) 32) 1) : Nat) : Int)]] [#[.bool false], #[.int .i64 0], ints .u8 (List.replicate 32 0), ints .u8 (List.replicate 32 0), ints .u8 (List.replicate 32 0), #[.slice none 0 0]] [#[.bool (nUs (Qad (Qad (Qan (Qad (Qad (s) 32) 4)) 32) 1))], #[.int .i64 (nNm (Qad (Qad (Qan (Qad (Qad (s) 32) 4)) 32) 1))], ints .u8 (nKy (Qad (Qad (Qan (Qad (Qad (s) 32) 4)) 32) 1)), ints .u8 (nSg (Qad (Qad (Qan (Qad (Qad (s) 32) 4)) 32) 1)), ints .u8 (nPa (Qad (Qad (Qan (Qad (Qad (s) 32) 4)) 32) 1)), #[.slice ax17 xs17.length cx17]] [ints .u8 (List.replicate 32 0), #[.int .i64 0], ints .u8 (List.replicate 64 0)] r10_9 rfl kj kj (isz (n := 99) kj (by rw [Qaa, Qaa, Qaa, Qaa, Qaa, Qaa]; simp only [Array.size_append, cat, ((Qac _ _).trans (QaW (Qad (Qad (Qan (Qad (Qad (s) 32) 4)) 32) 1))), ((Qac _ _).trans (QaV (Qad (Qad (Qan (Qad (Qad (s) 32) 4)) 32) 1))), ((Qac _ _).trans (QaU (Qad (Qad (Qan (Qad (Qad (s) 32) 4)) 32) 1)))]; rfl)) (by rw [Qaa, Qaa, Qaa, Qaa, Qaa]; simp only [Array.size_append, cat, ((Qac _ _).trans (Qap _ (Qal (Qan (Qad (Qad (s) 32) 4)) 32))), ((Qac _ _).trans (Qap _ (Qal (s) 32)))]; rfl) (eqsz (n := 99) (by rw [Qaa, Qaa, Qaa, Qaa, Qaa, Qaa]; simp only [Array.size_append, cat, ((Qac _ _).trans (QaW (Qad (Qad (Qan (Qad (Qad (s) 32) 4)) 32) 1))), ((Qac _ _).trans (QaV (Qad (Qad (Qan (Qad (Qad (s) 32) 4)) 32) 1))), ((Qac _ _).trans (QaU (Qad (Qad (Qan (Qad (Qad (s) 32) 4)) 32) 1)))]; rfl) (by rw [Qaa, Qaa, Qaa, Qaa, Qaa, Qaa]; simp only [Array.size_append, cat, ((Qac _ _).trans (List.length_replicate (n := 32)))]; rfl)) (QaX _ (by intro a ha; simp only [List.mem_cons, List.not_mem_nil, or_false] at ha; rcases ha with rfl | rfl | rfl | rfl | rfl | rfl; exact (Qaq _ rfl); exact (Qaq _ rfl); exact (Qas _ _); exact (Qas _ _); exact (Qas _ _); exact (Qaq _ rfl)))) fun W10 p10 r10_10 => ?_
  have x10 : ExtB gr w W10 := ExtB.putsN x9 p10 b10
  refine Qaf ?_
  refine hK14 _ _ ?_
  refine Qae ?_
  refine Qab (.pointer (some ⟨gr, 0, none⟩)) 24 rfl kj kj ?_
  have rs18 := (RSt.put rs16 hB p10 (Nat.lt_of_lt_of_le hgr b10))
  refine Qak (fun v W' => ExtB gr W10 W' ∧ RSt B gr (Qad (QaN (Qad (Qad (Qan (Qad (Qad (s) 32) 4)) 32) 1)) 32) W' ∧ (fun (v : Value) (_ : World) => v = .agg (ints .u8 (keyV (Qai (QaN (Qad (Qad (Qan (Qad (Qad (s) 32) 4)) 32) 1)) 32)))) v W') 109 #[.pointer (some ⟨gr, 0, none⟩)] 25 rfl kj kj (Qcg B gr _ _ hB rs18) fun vv19 W11 hh19 => ?_
  obtain ⟨q11, rs19, hv19⟩ := hh19
  have x11 : ExtB gr w W11 := ExtB.tr x10 q11
  subst hv19
  refine Qab (.pointer (some ⟨g10, 166, none⟩)) 26 rfl kj kj ?_
  have r10_11 := (ExtB.row q11 r10_10 (Ne.symm (Nat.ne_of_lt (Nat.lt_of_lt_of_le hgr b10))))
  refine Qa3 g10 _ (cat [ints .u8 (keyV (Qai (s) 32)), #[.int .i64 ((bigN (Qai (Qad (s) 32) 4) : Nat) : Int)], #[.int .i64 ((bigN (Qai (Qad (Qad (s) 32) 4) 1) : Nat) : Int)], ints .u8 (keyV (Qai (Qan (Qad (Qad (s) 32) 4)) 32)), #[.int .i64 ((bigN (Qai (Qad (Qan (Qad (Qad (s) 32) 4)) 32) 1) : Nat) : Int)], #[.bool (nUs (Qad (Qad (Qan (Qad (Qad (s) 32) 4)) 32) 1))], #[.int .i64 (nNm (Qad (Qad (Qan (Qad (Qad (s) 32) 4)) 32) 1))], ints .u8 (nKy (Qad (Qad (Qan (Qad (Qad (s) 32) 4)) 32) 1)), ints .u8 (nSg (Qad (Qad (Qan (Qad (Qad (s) 32) 4)) 32) 1)), ints .u8 (nPa (Qad (Qad (Qan (Qad (Qad (s) 32) 4)) 32) 1)), #[.slice ax17 xs17.length cx17], ints .u8 (keyV (Qai (QaN (Qad (Qad (Qan (Qad (Qad (s) 32) 4)) 32) 1)) 32)), #[.int .i64 0], ints .u8 (List.replicate 64 0)]) 47 r10_11 rfl kj (Qb1 40 _ _ g10 166 47 [ints .u8 (keyV (Qai (s) 32)), #[.int .i64 ((bigN (Qai (Qad (s) 32) 4) : Nat) : Int)], #[.int .i64 ((bigN (Qai (Qad (Qad (s) 32) 4) 1) : Nat) : Int)], ints .u8 (keyV (Qai (Qan (Qad (Qad (s) 32) 4)) 32)), #[.int .i64 ((bigN (Qai (Qad (Qan (Qad (Qad (s) 32) 4)) 32) 1) : Nat) : Int)], #[.bool (nUs (Qad (Qad (Qan (Qad (Qad (s) 32) 4)) 32) 1))], #[.int .i64 (nNm (Qad (Qad (Qan (Qad (Qad (s) 32) 4)) 32) 1))], ints .u8 (nKy (Qad (Qad (Qan (Qad (Qad (s) 32) 4)) 32) 1)), ints .u8 (nSg (Qad (Qad (Qan (Qad (Qad (s) 32) 4)) 32) 1)), ints .u8 (nPa (Qad (Qad (Qan (Qad (Qad (s) 32) 4)) 32) 1)), #[.slice ax17 xs17.length cx17]] [ints .u8 (List.replicate 32 0)] [ints .u8 (keyV (Qai (QaN (Qad (Qad (Qan (Qad (Qad (s) 32) 4)) 32) 1)) 32))] [#[.int .i64 0], ints .u8 (List.replicate 64 0)] r10_11 rfl kj kj (isz (n := 32) kj ((Qac _ _).trans (Qap _ (Qal (QaN (Qad (Qad (Qan (Qad (Qad (s) 32) 4)) 32) 1)) 32)))) (by rw [Qaa, Qaa, Qaa, Qaa, Qaa, Qaa, Qaa, Qaa, Qaa, Qaa, Qaa]; simp only [Array.size_append, cat, ((Qac _ _).trans (Qap _ (Qal (Qan (Qad (Qad (s) 32) 4)) 32))), ((Qac _ _).trans (Qap _ (Qal (s) 32))), ((Qac _ _).trans (QaW (Qad (Qad (Qan (Qad (Qad (s) 32) 4)) 32) 1))), ((Qac _ _).trans (QaV (Qad (Qad (Qan (Qad (Qad (s) 32) 4)) 32) 1))), ((Qac _ _).trans (QaU (Qad (Qad (Qan (Qad (Qad (s) 32) 4)) 32) 1)))]; rfl) (eqsz (n := 32) ((Qac _ _).trans (Qap _ (Qal (QaN (Qad (Qad (Qan (Qad (Qad (s) 32) 4)) 32) 1)) 32))) ((Qac _ _).trans (List.length_replicate (n := 32)))) (Qas _ _)) fun W12 p12 r10_12 => ?_
  have x12 : ExtB gr w W12 := ExtB.putsN x11 p12 b10
  refine Qaf ?_
  refine hK11 _ _ ?_
  refine wp_seq_k fun K20 hK20 => ?_
  refine Qae ?_
  refine Qab (.pointer (some ⟨gr, 0, none⟩)) 37 rfl kj kj ?_
  have rs21 := (RSt.put rs19 hB p12 (Nat.lt_of_lt_of_le hgr b10))
  refine Qak (fun v W' => ExtB gr W12 W' ∧ RSt B gr (Qad (Qad (QaN (Qad (Qad (Qan (Qad (Qad (s) 32) 4)) 32) 1)) 32) 64) W' ∧ (fun (v : Value) (_ : World) => v = .agg (ints .u8 (Qbq (Qai (Qad (QaN (Qad (Qad (Qan (Qad (Qad (s) 32) 4)) 32) 1)) 32) 64)))) v W') 112 #[.pointer (some ⟨gr, 0, none⟩)] 38 rfl kj kj (Qey B gr _ _ hB rs21) fun vv22 W13 hh22 => ?_
  obtain ⟨q13, rs22, hv22⟩ := hh22
  have x13 : ExtB gr w W13 := ExtB.tr x12 q13
  subst hv22
  refine Qab (.pointer (some ⟨g10, 199, none⟩)) 39 rfl kj kj ?_
  have r10_13 := (ExtB.row q13 r10_12 (Ne.symm (Nat.ne_of_lt (Nat.lt_of_lt_of_le hgr b10))))
  refine Qa3 g10 _ (cat [ints .u8 (keyV (Qai (s) 32)), #[.int .i64 ((bigN (Qai (Qad (s) 32) 4) : Nat) : Int)], #[.int .i64 ((bigN (Qai (Qad (Qad (s) 32) 4) 1) : Nat) : Int)], ints .u8 (keyV (Qai (Qan (Qad (Qad (s) 32) 4)) 32)), #[.int .i64 ((bigN (Qai (Qad (Qan (Qad (Qad (s) 32) 4)) 32) 1) : Nat) : Int)], #[.bool (nUs (Qad (Qad (Qan (Qad (Qad (s) 32) 4)) 32) 1))], #[.int .i64 (nNm (Qad (Qad (Qan (Qad (Qad (s) 32) 4)) 32) 1))], ints .u8 (nKy (Qad (Qad (Qan (Qad (Qad (s) 32) 4)) 32) 1)), ints .u8 (nSg (Qad (Qad (Qan (Qad (Qad (s) 32) 4)) 32) 1)), ints .u8 (nPa (Qad (Qad (Qan (Qad (Qad (s) 32) 4)) 32) 1)), #[.slice ax17 xs17.length cx17], ints .u8 (keyV (Qai (QaN (Qad (Qad (Qan (Qad (Qad (s) 32) 4)) 32) 1)) 32)), #[.int .i64 0], ints .u8 (Qbq (Qai (Qad (QaN (Qad (Qad (Qan (Qad (Qad (s) 32) 4)) 32) 1)) 32) 64))]) 47 r10_13 rfl kj (Qb1 45 _ _ g10 199 47 [ints .u8 (keyV (Qai (s) 32)), #[.int .i64 ((bigN (Qai (Qad (s) 32) 4) : Nat) : Int)], #[.int .i64 ((bigN (Qai (Qad (Qad (s) 32) 4) 1) : Nat) : Int)], ints .u8 (keyV (Qai (Qan (Qad (Qad (s) 32) 4)) 32)), #[.int .i64 ((bigN (Qai (Qad (Qan (Qad (Qad (s) 32) 4)) 32) 1) : Nat) : Int)], #[.bool (nUs (Qad (Qad (Qan (Qad (Qad (s) 32) 4)) 32) 1))], #[.int .i64 (nNm (Qad (Qad (Qan (Qad (Qad (s) 32) 4)) 32) 1))], ints .u8 (nKy (Qad (Qad (Qan (Qad (Qad (s) 32) 4)) 32) 1)), ints .u8 (nSg (Qad (Qad (Qan (Qad (Qad (s) 32) 4)) 32) 1)), ints .u8 (nPa (Qad (Qad (Qan (Qad (Qad (s) 32) 4)) 32) 1)), #[.slice ax17 xs17.length cx17], ints .u8 (keyV (Qai (QaN (Qad (Qad (Qan (Qad (Qad (s) 32) 4)) 32) 1)) 32)), #[.int .i64 0]] [ints .u8 (List.replicate 64 0)] [ints .u8 (Qbq (Qai (Qad (QaN (Qad (Qad (Qan (Qad (Qad (s) 32) 4)) 32) 1)) 32) 64))] [] r10_13 rfl kj kj (isz (n := 64) kj ((Qac _ _).trans (QaF _ (Qal (Qad (QaN (Qad (Qad (Qan (Qad (Qad (s) 32) 4)) 32) 1)) 32) 64)))) (by rw [Qaa, Qaa, Qaa, Qaa, Qaa, Qaa, Qaa, Qaa, Qaa, Qaa, Qaa, Qaa, Qaa]; simp only [Array.size_append, cat, ((Qac _ _).trans (Qap _ (Qal (Qan (Qad (Qad (s) 32) 4)) 32))), ((Qac _ _).trans (Qap _ (Qal (QaN (Qad (Qad (Qan (Qad (Qad (s) 32) 4)) 32) 1)) 32))), ((Qac _ _).trans (Qap _ (Qal (s) 32))), ((Qac _ _).trans (QaW (Qad (Qad (Qan (Qad (Qad (s) 32) 4)) 32) 1))), ((Qac _ _).trans (QaV (Qad (Qad (Qan (Qad (Qad (s) 32) 4)) 32) 1))), ((Qac _ _).trans (QaU (Qad (Qad (Qan (Qad (Qad (s) 32) 4)) 32) 1)))]; rfl) (eqsz (n := 64) ((Qac _ _).trans (QaF _ (Qal (Qad (QaN (Qad (Qad (Qan (Qad (Qad (s) 32) 4)) 32) 1)) 32) 64))) ((Qac _ _).trans (List.length_replicate (n := 64)))) (Qas _ _)) fun W14 p14 r10_14 => ?_
  have x14 : ExtB gr w W14 := ExtB.putsN x13 p14 b10
  refine Qaf ?_
  refine hK20 _ _ ?_
  refine wp_seq_k fun K23 hK23 => ?_
  refine Qae ?_
  refine Qab (.agg (cat [ints .u8 (keyV (Qai (s) 32)), #[.int .i64 ((bigN (Qai (Qad (s) 32) 4) : Nat) : Int)], #[.int .i64 ((bigN (Qai (Qad (Qad (s) 32) 4) 1) : Nat) : Int)], ints .u8 (keyV (Qai (Qan (Qad (Qad (s) 32) 4)) 32)), #[.int .i64 ((bigN (Qai (Qad (Qan (Qad (Qad (s) 32) 4)) 32) 1) : Nat) : Int)], #[.bool (nUs (Qad (Qad (Qan (Qad (Qad (s) 32) 4)) 32) 1))], #[.int .i64 (nNm (Qad (Qad (Qan (Qad (Qad (s) 32) 4)) 32) 1))], ints .u8 (nKy (Qad (Qad (Qan (Qad (Qad (s) 32) 4)) 32) 1)), ints .u8 (nSg (Qad (Qad (Qan (Qad (Qad (s) 32) 4)) 32) 1)), ints .u8 (nPa (Qad (Qad (Qan (Qad (Qad (s) 32) 4)) 32) 1)), #[.slice ax17 xs17.length cx17], ints .u8 (keyV (Qai (QaN (Qad (Qad (Qan (Qad (Qad (s) 32) 4)) 32) 1)) 32)), #[.int .i64 0], ints .u8 (Qbq (Qai (Qad (QaN (Qad (Qad (Qan (Qad (Qad (s) 32) 4)) 32) 1)) 32) 64))])) 40 rfl kj (QaA 47 _ g10 47 _ _ r10_14 rfl kj kj (isz (n := 263) kj (by rw [Qaa, Qaa, Qaa, Qaa, Qaa, Qaa, Qaa, Qaa, Qaa, Qaa, Qaa, Qaa, Qaa, Qaa]; simp only [Array.size_append, cat, ((Qac _ _).trans (Qap _ (Qal (Qan (Qad (Qad (s) 32) 4)) 32))), ((Qac _ _).trans (Qap _ (Qal (QaN (Qad (Qad (Qan (Qad (Qad (s) 32) 4)) 32) 1)) 32))), ((Qac _ _).trans (Qap _ (Qal (s) 32))), ((Qac _ _).trans (QaW (Qad (Qad (Qan (Qad (Qad (s) 32) 4)) 32) 1))), ((Qac _ _).trans (QaV (Qad (Qad (Qan (Qad (Qad (s) 32) 4)) 32) 1))), ((Qac _ _).trans (QaU (Qad (Qad (Qan (Qad (Qad (s) 32) 4)) 32) 1))), ((Qac _ _).trans (QaF _ (Qal (Qad (QaN (Qad (Qad (Qan (Qad (Qad (s) 32) 4)) 32) 1)) 32) 64)))]; rfl))) ?_
  have r2_2 := (ExtB.row q2 r2_1 (Ne.symm (Nat.ne_of_lt (Nat.lt_of_lt_of_le hgr b2))))
  have r2_3 := (ExtB.row q3 r2_2 (Ne.symm (Nat.ne_of_lt (Nat.lt_of_lt_of_le hgr b2))))
  have r2_4 := (ExtB.row q4 r2_3 (Ne.symm (Nat.ne_of_lt (Nat.lt_of_lt_of_le hgr b2))))
  have r2_5 := (ExtB.row q5 r2_4 (Ne.symm (Nat.ne_of_lt (Nat.lt_of_lt_of_le hgr b2))))
  have r2_6 := (ExtB.row q6 r2_5 (Ne.symm (Nat.ne_of_lt (Nat.lt_of_lt_of_le hgr b2))))
  have r2_7 := (Qar r2_6 e7)
  have r2_8 := (Puts.row p8 r2_7 (QaI r2_6 l10))
  have r2_9 := (ExtB.row q9 r2_8 (Ne.symm (Nat.ne_of_lt (Nat.lt_of_lt_of_le hgr b2))))
  have r2_10 := (Puts.row p10 r2_9 (QaI r2_6 l10))
  have r2_11 := (ExtB.row q11 r2_10 (Ne.symm (Nat.ne_of_lt (Nat.lt_of_lt_of_le hgr b2))))
  have r2_12 := (Puts.row p12 r2_11 (QaI r2_6 l10))
  have r2_13 := (ExtB.row q13 r2_12 (Ne.symm (Nat.ne_of_lt (Nat.lt_of_lt_of_le hgr b2))))
  have r2_14 := (Puts.row p14 r2_13 (QaI r2_6 l10))
  refine Qa3 g2 _ (cat [ints .u8 (keyV (Qai (s) 32)), #[.int .i64 ((bigN (Qai (Qad (s) 32) 4) : Nat) : Int)], #[.int .i64 ((bigN (Qai (Qad (Qad (s) 32) 4) 1) : Nat) : Int)], ints .u8 (keyV (Qai (Qan (Qad (Qad (s) 32) 4)) 32)), #[.int .i64 ((bigN (Qai (Qad (Qan (Qad (Qad (s) 32) 4)) 32) 1) : Nat) : Int)], #[.bool (nUs (Qad (Qad (Qan (Qad (Qad (s) 32) 4)) 32) 1))], #[.int .i64 (nNm (Qad (Qad (Qan (Qad (Qad (s) 32) 4)) 32) 1))], ints .u8 (nKy (Qad (Qad (Qan (Qad (Qad (s) 32) 4)) 32) 1)), ints .u8 (nSg (Qad (Qad (Qan (Qad (Qad (s) 32) 4)) 32) 1)), ints .u8 (nPa (Qad (Qad (Qan (Qad (Qad (s) 32) 4)) 32) 1)), #[.slice ax17 xs17.length cx17], ints .u8 (keyV (Qai (QaN (Qad (Qad (Qan (Qad (Qad (s) 32) 4)) 32) 1)) 32)), #[.int .i64 0], ints .u8 (Qbq (Qai (Qad (QaN (Qad (Qad (Qan (Qad (Qad (s) 32) 4)) 32) 1)) 32) 64))]) 47 r2_14 rfl kj (Qa0 47 _ _ g2 47 _ _ r2_14 rfl kj kj (isz (n := 263) kj (by rw [Qaa, Qaa, Qaa, Qaa, Qaa, Qaa, Qaa, Qaa, Qaa, Qaa, Qaa, Qaa, Qaa, Qaa]; simp only [Array.size_append, cat, ((Qac _ _).trans (Qap _ (Qal (Qan (Qad (Qad (s) 32) 4)) 32))), ((Qac _ _).trans (Qap _ (Qal (QaN (Qad (Qad (Qan (Qad (Qad (s) 32) 4)) 32) 1)) 32))), ((Qac _ _).trans (Qap _ (Qal (s) 32))), ((Qac _ _).trans (QaW (Qad (Qad (Qan (Qad (Qad (s) 32) 4)) 32) 1))), ((Qac _ _).trans (QaV (Qad (Qad (Qan (Qad (Qad (s) 32) 4)) 32) 1))), ((Qac _ _).trans (QaU (Qad (Qad (Qan (Qad (Qad (s) 32) 4)) 32) 1))), ((Qac _ _).trans (QaF _ (Qal (Qad (QaN (Qad (Qad (Qan (Qad (Qad (s) 32) 4)) 32) 1)) 32) 64)))]; rfl)) (eqsz (n := 263) (by rw [Qaa, Qaa, Qaa, Qaa, Qaa, Qaa, Qaa, Qaa, Qaa, Qaa, Qaa, Qaa, Qaa, Qaa]; simp only [Array.size_append, cat, ((Qac _ _).trans (List.length_replicate (n := 32))), ((Qac _ _).trans (List.length_replicate (n := 64)))]; rfl) (by rw [Qaa, Qaa, Qaa, Qaa, Qaa, Qaa, Qaa, Qaa, Qaa, Qaa, Qaa, Qaa, Qaa, Qaa]; simp only [Array.size_append, cat, ((Qac _ _).trans (Qap _ (Qal (Qan (Qad (Qad (s) 32) 4)) 32))), ((Qac _ _).trans (Qap _ (Qal (QaN (Qad (Qad (Qan (Qad (Qad (s) 32) 4)) 32) 1)) 32))), ((Qac _ _).trans (Qap _ (Qal (s) 32))), ((Qac _ _).trans (QaW (Qad (Qad (Qan (Qad (Qad (s) 32) 4)) 32) 1))), ((Qac _ _).trans (QaV (Qad (Qad (Qan (Qad (Qad (s) 32) 4)) 32) 1))), ((Qac _ _).trans (QaU (Qad (Qad (Qan (Qad (Qad (s) 32) 4)) 32) 1))), ((Qac _ _).trans (QaF _ (Qal (Qad (QaN (Qad (Qad (Qan (Qad (Qad (s) 32) 4)) 32) 1)) 32) 64)))]; rfl)) (QaX _ (by intro a ha; simp only [List.mem_cons, List.not_mem_nil, or_false] at ha; rcases ha with rfl | rfl | rfl | rfl | rfl | rfl | rfl | rfl | rfl | rfl | rfl | rfl | rfl | rfl; exact (Qas _ _); exact (Qaq _ rfl); exact (Qaq _ rfl); exact (Qas _ _); exact (Qaq _ rfl); exact (Qaq _ rfl); exact (Qaq _ rfl); exact (Qas _ _); exact (Qas _ _); exact (Qas _ _); exact (Qaq _ rfl); exact (Qas _ _); exact (Qaq _ rfl); exact (Qas _ _)))) fun W15 p15 r2_15 => ?_
  have x15 : ExtB gr w W15 := ExtB.putsN x14 p15 b2
  refine Qaf ?_
  refine hK23 _ _ ?_
  refine wp_ret ?_
  repeat (first | with_reducible refine goR1 ?_ | with_reducible refine goR2 ?_)
  have f24_10 := (hox17.puts p10 (Qbp hox17 (Qay r10_8)))
  have f25_11 := (Qbw f24_10 q11 (Qbp f24_10 (Nat.lt_of_lt_of_le hgr x8.2.2.2.1)))
  have f26_12 := (f25_11.puts p12 (Qbp hox17 (Qay r10_8)))
  have f27_13 := (Qbw f26_12 q13 (Qbp f26_12 (Nat.lt_of_lt_of_le hgr x8.2.2.2.1)))
  have f28_14 := (f27_13.puts p14 (Qbp hox17 (Qay r10_8)))
  have f29_15 := (f28_14.puts p15 (Qbp hox17 (Qay r2_8)))
  have rs30 := (RSt.put (RSt.put rs22 hB p14 (Nat.lt_of_lt_of_le hgr b10)) hB p15 (Nat.lt_of_lt_of_le hgr b2))
  exact (show bodyPost _ _ _ .ret _ _ from ret1 (.agg (cat [ints .u8 (keyV (Qai (s) 32)), #[.int .i64 ((bigN (Qai (Qad (s) 32) 4) : Nat) : Int)], #[.int .i64 ((bigN (Qai (Qad (Qad (s) 32) 4) 1) : Nat) : Int)], ints .u8 (keyV (Qai (Qan (Qad (Qad (s) 32) 4)) 32)), #[.int .i64 ((bigN (Qai (Qad (Qan (Qad (Qad (s) 32) 4)) 32) 1) : Nat) : Int)], #[.bool (nUs (Qad (Qad (Qan (Qad (Qad (s) 32) 4)) 32) 1))], #[.int .i64 (nNm (Qad (Qad (Qan (Qad (Qad (s) 32) 4)) 32) 1))], ints .u8 (nKy (Qad (Qad (Qan (Qad (Qad (s) 32) 4)) 32) 1)), ints .u8 (nSg (Qad (Qad (Qan (Qad (Qad (s) 32) 4)) 32) 1)), ints .u8 (nPa (Qad (Qad (Qan (Qad (Qad (s) 32) 4)) 32) 1)), #[.slice ax17 xs17.length cx17], ints .u8 (keyV (Qai (QaN (Qad (Qad (Qan (Qad (Qad (s) 32) 4)) 32) 1)) 32)), #[.int .i64 0], ints .u8 (Qbq (Qai (Qad (QaN (Qad (Qad (Qan (Qad (Qad (s) 32) 4)) 32) 1)) 32) 64))])) rfl (Qbk g2 47 _ r2_15 kj kj (isz (n := 263) kj (by rw [Qaa, Qaa, Qaa, Qaa, Qaa, Qaa, Qaa, Qaa, Qaa, Qaa, Qaa, Qaa, Qaa, Qaa]; simp only [Array.size_append, cat, ((Qac _ _).trans (Qap _ (Qal (Qan (Qad (Qad (s) 32) 4)) 32))), ((Qac _ _).trans (Qap _ (Qal (QaN (Qad (Qad (Qan (Qad (Qad (s) 32) 4)) 32) 1)) 32))), ((Qac _ _).trans (Qap _ (Qal (s) 32))), ((Qac _ _).trans (QaW (Qad (Qad (Qan (Qad (Qad (s) 32) 4)) 32) 1))), ((Qac _ _).trans (QaV (Qad (Qad (Qan (Qad (Qad (s) 32) 4)) 32) 1))), ((Qac _ _).trans (QaU (Qad (Qad (Qan (Qad (Qad (s) 32) 4)) 32) 1))), ((Qac _ _).trans (QaF _ (Qal (Qad (QaN (Qad (Qad (Qan (Qad (Qad (s) 32) 4)) 32) 1)) 32) 64)))]; rfl))) ⟨_, rfl, x15, (show RSt B gr (Qa2 s) _ by have h9 := rs30; unfold Qa2; rw [eM]; exact h9), xs17, _, _, by rw [eUs, eNm, eKy, eSg, ePa, eSt, eAt]; unfold qSig; rw [eM]; rfl, OwnN.base x8.2.2.2.1 f29_15, hlx17, fun hne => by rw [eL]; exact hxx17 (fun h0 => hne (by have h1 : QaN (qS5 s) = none := h0; unfold Qa2; rw [eM, h1]; rfl))⟩)
set_option maxHeartbeats 4000000 in
set_option maxRecDepth 100000 in
theorem QhF (B gr : Nat) (s : Option (List Int)) (w : World) (hB : B ≤ gr) (h : RSt B gr s w) (hk : bigN (Qai (qS4 s) 1) = 2) : Calls Try.prog 61 #[.pointer (some ⟨gr, 0, none⟩)] w (QbB B gr w (Qa2 s) fun v W => ∃ (xz : List Int) (a : Option Addr) (c : Nat), v = .agg (cat [ints .u8 (qGrp s), #[.int .i64 (qEp s)], #[.int .i64 (qFr s)], ints .u8 (qBa s), #[.int .i64 ((qKd s : Nat) : Int)], #[.bool (qUs s)], #[.int .i64 (qNm s)], ints .u8 (qKy s), ints .u8 (qSg s), ints .u8 (qPa s), #[.slice a xz.length c], ints .u8 (qSt s), #[.int .i64 (qAt s)], ints .u8 (qSig s)]) ∧ OwnN .i64 3 w.heap.size xz (.slice a xz.length c) W ∧ xz.length ≤ 255 ∧ (Qa2 s ≠ none → xz = qL s)) := by
  have hgr := h.lt
  have hk2 : bigN (Qai (Qad (Qan (Qad (Qad s 32) 4)) 32) 1) = qKd s := rfl
  unfold qKd at hk2
  have hk0 : qKd s = bigN (Qai (qS4 s) 1) := rfl
  have k1 : (qKd s == 1) = false := beq_eq_false_iff_ne.2 (show qKd s ≠ 1 by omega)
  have k2 : (qKd s == 2) = true := beq_iff_eq.2 (show qKd s = 2 by omega)
  have k3 : (qKd s == 3) = false := beq_eq_false_iff_ne.2 (show qKd s ≠ 3 by omega)
  have kn : qNd s = true := by unfold qNd; rw [k1, k2]; rfl
  have eUs : qUs s = nUs (qS5 s) := by unfold qUs; rw [kn]; rfl
  have eNm : qNm s = nNm (qS5 s) := by unfold qNm; rw [kn]; rfl
  have eKy : qKy s = nKy (qS5 s) := by unfold qKy; rw [kn]; rfl
  have eSg : qSg s = nSg (qS5 s) := by unfold qSg; rw [kn]; rfl
  have ePa : qPa s = nPa (qS5 s) := by unfold qPa; rw [kn]; rfl
  have eL : qL s = nL (qS5 s) := by unfold qL; rw [kn]; rfl
  have eSt : qSt s = List.replicate 32 0 := by unfold qSt; rw [k1]; rfl
  have eAt : qAt s = 0 := by unfold qAt; rw [k3]; rfl
  have eM : Qcz s = QaN (qS5 s) := by unfold Qcz; rw [k1, k2, k3]; rfl
  refine enter 41 [(0, .pointer (some ⟨gr, 0, none⟩))] Try.func61 rfl rfl kj rfl ?_
  refine wp_seq_k fun K1 hK1 => ?_
  refine Qae ?_
  refine Qav (cat [ints .u8 (List.replicate 32 0), #[.int .i64 0], #[.int .i64 0], ints .u8 (List.replicate 32 0), #[.int .i64 0], #[.bool false], #[.int .i64 0], ints .u8 (List.replicate 32 0), ints .u8 (List.replicate 32 0), ints .u8 (List.replicate 32 0), #[.slice none 0 0], ints .u8 (List.replicate 32 0), #[.int .i64 0], ints .u8 (List.replicate 64 0)]) 47 2 rfl kj (Qbe 47 _ rfl (Qcd _)) fun g2 W1 l2 e1 r2_1 => ?_
  have x1 : ExtB gr w W1 := ExtB.ext (ExtB.refl gr w) e1
  have b2 : w.heap.size ≤ g2 := Nat.le_trans (ExtB.refl gr w).size l2
  refine Qaf ?_
  refine hK1 _ _ ?_
  refine wp_seq_k fun K3 hK3 => ?_
  refine Qae ?_
  refine Qab (.pointer (some ⟨gr, 0, none⟩)) 4 rfl kj kj ?_
  have rs4 := (RSt.ext h hB e1)
  refine Qak (fun v W' => ExtB gr W1 W' ∧ RSt B gr (Qad (s) 32) W' ∧ (fun (v : Value) (_ : World) => v = .agg (ints .u8 (keyV (Qai (s) 32)))) v W') 109 #[.pointer (some ⟨gr, 0, none⟩)] 5 rfl kj kj (Qcg B gr _ _ hB rs4) fun vv5 W2 hh5 => ?_
  obtain ⟨q2, rs5, hv5⟩ := hh5
  have x2 : ExtB gr w W2 := ExtB.tr x1 q2
  subst hv5
  refine Qab (.pointer (some ⟨gr, 0, none⟩)) 6 rfl kj kj ?_
  refine Qak (fun v W' => ExtB gr W2 W' ∧ RSt B gr (Qad (Qad (s) 32) 4) W' ∧ (fun (v : Value) (_ : World) => v = .int .i64 ((bigN (Qai (Qad (s) 32) 4) : Nat) : Int)) v W') 110 #[.pointer (some ⟨gr, 0, none⟩), .int .i64 4] 7 rfl kj kj (Qbg B gr _ 4 _ hB rs5 (by decide)) fun vv6 W3 hh6 => ?_
  obtain ⟨q3, rs6, hv6⟩ := hh6
  have x3 : ExtB gr w W3 := ExtB.tr x2 q3
  subst hv6
  refine Qab (.pointer (some ⟨gr, 0, none⟩)) 8 rfl kj kj ?_
  refine Qak (fun v W' => ExtB gr W3 W' ∧ RSt B gr (Qan (Qad (Qad (s) 32) 4)) W' ∧ (fun (v : Value) (_ : World) => v = .int .i64 ((bigN (Qai (Qad (Qad (s) 32) 4) 1) : Nat) : Int)) v W') 111 #[.pointer (some ⟨gr, 0, none⟩)] 9 rfl kj kj (Qdk B gr _ _ hB rs6) fun vv7 W4 hh7 => ?_
  obtain ⟨q4, rs7, hv7⟩ := hh7
  have x4 : ExtB gr w W4 := ExtB.tr x3 q4
  subst hv7
  refine Qab (.pointer (some ⟨gr, 0, none⟩)) 10 rfl kj kj ?_
  refine Qak (fun v W' => ExtB gr W4 W' ∧ RSt B gr (Qad (Qan (Qad (Qad (s) 32) 4)) 32) W' ∧ (fun (v : Value) (_ : World) => v = .agg (ints .u8 (keyV (Qai (Qan (Qad (Qad (s) 32) 4)) 32)))) v W') 109 #[.pointer (some ⟨gr, 0, none⟩)] 11 rfl kj kj (Qcg B gr _ _ hB rs7) fun vv8 W5 hh8 => ?_
  obtain ⟨q5, rs8, hv8⟩ := hh8
  have x5 : ExtB gr w W5 := ExtB.tr x4 q5
  subst hv8
  refine Qab (.pointer (some ⟨gr, 0, none⟩)) 12 rfl kj kj ?_
  refine Qak (fun v W' => ExtB gr W5 W' ∧ RSt B gr (Qad (Qad (Qan (Qad (Qad (s) 32) 4)) 32) 1) W' ∧ (fun (v : Value) (_ : World) => v = .int .i64 ((bigN (Qai (Qad (Qan (Qad (Qad (s) 32) 4)) 32) 1) : Nat) : Int)) v W') 110 #[.pointer (some ⟨gr, 0, none⟩), .int .i64 1] 13 rfl kj kj (Qbg B gr _ 1 _ hB rs8 (by decide)) fun vv9 W6 hh9 => ?_
  obtain ⟨q6, rs9, hv9⟩ := hh9
  have x6 : ExtB gr w W6 := ExtB.tr x5 q6
  subst hv9
  refine Qab (.agg (cat [ints .u8 (keyV (Qai (s) 32)), #[.int .i64 ((bigN (Qai (Qad (s) 32) 4) : Nat) : Int)], #[.int .i64 ((bigN (Qai (Qad (Qad (s) 32) 4) 1) : Nat) : Int)], ints .u8 (keyV (Qai (Qan (Qad (Qad (s) 32) 4)) 32)), #[.int .i64 ((bigN (Qai (Qad (Qan (Qad (Qad (s) 32) 4)) 32) 1) : Nat) : Int)], #[.bool false], #[.int .i64 0], ints .u8 (List.replicate 32 0), ints .u8 (List.replicate 32 0), ints .u8 (List.replicate 32 0), #[.slice none 0 0], ints .u8 (List.replicate 32 0), #[.int .i64 0], ints .u8 (List.replicate 64 0)])) 14 rfl kj (Qcc 47 _ [ints .u8 (List.replicate 32 0), #[.int .i64 0], #[.int .i64 0], ints .u8 (List.replicate 32 0), #[.int .i64 0]] [#[.bool false], #[.int .i64 0], ints .u8 (List.replicate 32 0), ints .u8 (List.replicate 32 0), ints .u8 (List.replicate 32 0), #[.slice none 0 0], ints .u8 (List.replicate 32 0), #[.int .i64 0], ints .u8 (List.replicate 64 0)] #[(0, 32), (32, 1), (33, 1), (34, 32), (66, 1), (67, 99), (166, 32), (198, 1), (199, 64)] [(0, 32, .agg (ints .u8 (keyV (Qai (s) 32))), ints .u8 (keyV (Qai (s) 32))), (1, 1, .int .i64 ((bigN (Qai (Qad (s) 32) 4) : Nat) : Int), #[.int .i64 ((bigN (Qai (Qad (s) 32) 4) : Nat) : Int)]), (2, 1, .int .i64 ((bigN (Qai (Qad (Qad (s) 32) 4) 1) : Nat) : Int), #[.int .i64 ((bigN (Qai (Qad (Qad (s) 32) 4) 1) : Nat) : Int)]), (3, 32, .agg (ints .u8 (keyV (Qai (Qan (Qad (Qad (s) 32) 4)) 32))), ints .u8 (keyV (Qai (Qan (Qad (Qad (s) 32) 4)) 32))), (4, 1, .int .i64 ((bigN (Qai (Qad (Qan (Qad (Qad (s) 32) 4)) 32) 1) : Nat) : Int), #[.int .i64 ((bigN (Qai (Qad (Qan (Qad (Qad (s) 32) 4)) 32) 1) : Nat) : Int)])] rfl kj ⟨kj, rfl, ((Qac _ _).trans (Qap _ (Qal (s) 32))), kj, rfl, kj, kj, rfl, kj, kj, rfl, ((Qac _ _).trans (Qap _ (Qal (Qan (Qad (Qad (s) 32) 4)) 32))), kj, rfl, kj, trivial⟩ kj (Qcd _) kj kj) ?_
  refine Qav (cat [ints .u8 (List.replicate 32 0), #[.int .i64 0], #[.int .i64 0], ints .u8 (List.replicate 32 0), #[.int .i64 0], #[.bool false], #[.int .i64 0], ints .u8 (List.replicate 32 0), ints .u8 (List.replicate 32 0), ints .u8 (List.replicate 32 0), #[.slice none 0 0], ints .u8 (List.replicate 32 0), #[.int .i64 0], ints .u8 (List.replicate 64 0)]) 47 3 rfl kj (Qbe 47 _ rfl (Qcd _)) fun g10 W7 l10 e7 r10_7 => ?_
  have x7 : ExtB gr w W7 := ExtB.ext x6 e7
  have b10 : w.heap.size ≤ g10 := Nat.le_trans x6.size l10
  refine Qa3 g10 _ (cat [ints .u8 (keyV (Qai (s) 32)), #[.int .i64 ((bigN (Qai (Qad (s) 32) 4) : Nat) : Int)], #[.int .i64 ((bigN (Qai (Qad (Qad (s) 32) 4) 1) : Nat) : Int)], ints .u8 (keyV (Qai (Qan (Qad (Qad (s) 32) 4)) 32)), #[.int .i64 ((bigN (Qai (Qad (Qan (Qad (Qad (s) 32) 4)) 32) 1) : Nat) : Int)], #[.bool false], #[.int .i64 0], ints .u8 (List.replicate 32 0), ints .u8 (List.replicate 32 0), ints .u8 (List.replicate 32 0), #[.slice none 0 0], ints .u8 (List.replicate 32 0), #[.int .i64 0], ints .u8 (List.replicate 64 0)]) 47 r10_7 rfl kj (Qa0 47 _ _ g10 47 _ _ r10_7 rfl kj kj (isz (n := 263) kj (by rw [Qaa, Qaa, Qaa, Qaa, Qaa, Qaa, Qaa, Qaa, Qaa, Qaa, Qaa, Qaa, Qaa, Qaa]; simp only [Array.size_append, cat, ((Qac _ _).trans (List.length_replicate (n := 32))), ((Qac _ _).trans (List.length_replicate (n := 64))), ((Qac _ _).trans (Qap _ (Qal (Qan (Qad (Qad (s) 32) 4)) 32))), ((Qac _ _).trans (Qap _ (Qal (s) 32)))]; rfl)) (eqsz (n := 263) (by rw [Qaa, Qaa, Qaa, Qaa, Qaa, Qaa, Qaa, Qaa, Qaa, Qaa, Qaa, Qaa, Qaa, Qaa]; simp only [Array.size_append, cat, ((Qac _ _).trans (List.length_replicate (n := 32))), ((Qac _ _).trans (List.length_replicate (n := 64)))]; rfl) (by rw [Qaa, Qaa, Qaa, Qaa, Qaa, Qaa, Qaa, Qaa, Qaa, Qaa, Qaa, Qaa, Qaa, Qaa]; simp only [Array.size_append, cat, ((Qac _ _).trans (List.length_replicate (n := 32))), ((Qac _ _).trans (List.length_replicate (n := 64))), ((Qac _ _).trans (Qap _ (Qal (Qan (Qad (Qad (s) 32) 4)) 32))), ((Qac _ _).trans (Qap _ (Qal (s) 32)))]; rfl)) (QaX _ (by intro a ha; simp only [List.mem_cons, List.not_mem_nil, or_false] at ha; rcases ha with rfl | rfl | rfl | rfl | rfl | rfl | rfl | rfl | rfl | rfl | rfl | rfl | rfl | rfl; exact (Qas _ _); exact (Qaq _ rfl); exact (Qaq _ rfl); exact (Qas _ _); exact (Qaq _ rfl); exact (Qaq _ rfl); exact (Qaq _ rfl); exact (Qas _ _); exact (Qas _ _); exact (Qas _ _); exact (Qaq _ rfl); exact (Qas _ _); exact (Qaq _ rfl); exact (Qas _ _)))) fun W8 p8 r10_8 => ?_
  have x8 : ExtB gr w W8 := ExtB.putsN x7 p8 b10
  refine Qaf ?_
  refine hK3 _ _ ?_
  refine wp_seq_k fun K11 hK11 => ?_
  refine wp_seq_k fun K12 hK12 => ?_
  refine Qae ?_
  refine Qab (.pointer (some ⟨g10, 66, none⟩)) 15 rfl kj kj ?_
  refine Qab (.int .i64 ((bigN (Qai (Qad (Qan (Qad (Qad (s) 32) 4)) 32) 1) : Nat) : Int)) 16 rfl kj (Qag 3 _ g10 66 47 _ (.int .i64 ((bigN (Qai (Qad (Qan (Qad (Qad (s) 32) 4)) 32) 1) : Nat) : Int)) _ r10_8 rfl kj (Qah [ints .u8 (keyV (Qai (s) 32)), #[.int .i64 ((bigN (Qai (Qad (s) 32) 4) : Nat) : Int)], #[.int .i64 ((bigN (Qai (Qad (Qad (s) 32) 4) 1) : Nat) : Int)], ints .u8 (keyV (Qai (Qan (Qad (Qad (s) 32) 4)) 32))] [#[.int .i64 ((bigN (Qai (Qad (Qan (Qad (Qad (s) 32) 4)) 32) 1) : Nat) : Int)]] [#[.bool false], #[.int .i64 0], ints .u8 (List.replicate 32 0), ints .u8 (List.replicate 32 0), ints .u8 (List.replicate 32 0), #[.slice none 0 0], ints .u8 (List.replicate 32 0), #[.int .i64 0], ints .u8 (List.replicate 64 0)] 66 (by rw [Qaa, Qaa, Qaa, Qaa]; simp only [Array.size_append, cat, ((Qac _ _).trans (Qap _ (Qal (Qan (Qad (Qad (s) 32) 4)) 32))), ((Qac _ _).trans (Qap _ (Qal (s) 32)))]; rfl) 0 _ rfl) kj) ?_
  refine Qaf ?_
  refine hK12 _ _ ?_
  refine wp_block ?_
  refine wp_seq_k fun K13 hK13 => ?_
  refine Qae ?_
  refine Qab (.bool false) 20 rfl kj (Qax (u := .bool ((((bigN (Qai (Qad (Qan (Qad (Qad (s) 32) 4)) 32) 1) : Nat) : Int) == 1))) kj (congrArg Value.bool (beq_eq_false_iff_ne.2 (by omega)))) ?_
  refine Qab (.bool false) 19 rfl kj kj ?_
  refine Qaf ?_
  refine hK13 _ _ ?_
  refine cond_false kj ?_
  refine wp_seq_k fun K14 hK14 => ?_
  refine Qae ?_
  refine Qab (.bool true) 28 rfl kj (Qax (u := .bool ((((bigN (Qai (Qad (Qan (Qad (Qad (s) 32) 4)) 32) 1) : Nat) : Int) == 2))) kj (congrArg Value.bool (beq_iff_eq.2 (by omega)))) ?_
  refine Qab (.bool true) 27 rfl kj kj ?_
  refine Qaf ?_
  refine hK14 _ _ ?_
  refine cond_true kj ?_
  refine Qae ?_
  refine Qab (.pointer (some ⟨gr, 0, none⟩)) 29 rfl kj kj ?_
  have rs15 := (RSt.put (RSt.ext rs9 hB e7) hB p8 (Nat.lt_of_lt_of_le hgr b10))
  refine Qak (fun v W' => ExtB gr W8 W' ∧ RSt B gr (QaN (Qad (Qad (Qan (Qad (Qad (s) 32) 4)) 32) 1)) W' ∧ (fun (v : Value) (W : World) => ∃ (xz : List Int) (a : Option Addr) (c : Nat), v = .agg (cat [#[.bool (nUs (Qad (Qad (Qan (Qad (Qad (s) 32) 4)) 32) 1))], #[.int .i64 (nNm (Qad (Qad (Qan (Qad (Qad (s) 32) 4)) 32) 1))], ints .u8 (nKy (Qad (Qad (Qan (Qad (Qad (s) 32) 4)) 32) 1)), ints .u8 (nSg (Qad (Qad (Qan (Qad (Qad (s) 32) 4)) 32) 1)), ints .u8 (nPa (Qad (Qad (Qan (Qad (Qad (s) 32) 4)) 32) 1)), #[.slice a xz.length c]]) ∧ OwnN .i64 3 W8.heap.size xz (.slice a xz.length c) W ∧ xz.length ≤ 255 ∧ (QaN (Qad (Qad (Qan (Qad (Qad (s) 32) 4)) 32) 1) ≠ none → xz = nL (Qad (Qad (Qan (Qad (Qad (s) 32) 4)) 32) 1))) v W') 102 #[.pointer (some ⟨gr, 0, none⟩)] 30 rfl kj kj (QfX B gr _ _ hB rs15) fun vv16 W9 hh16 => ?_
  obtain ⟨q9, rs16, hv16⟩ := hh16
  have x9 : ExtB gr w W9 := ExtB.tr x8 q9
  obtain ⟨xs17, ax17, cx17, rfl, hox17, hlx17, hxx17⟩ := hv16
  refine Qab (.pointer (some ⟨g10, 67, none⟩)) 31 rfl kj kj ?_
  have r10_9 := (ExtB.row q9 r10_8 (Ne.symm (Nat.ne_of_lt (Nat.lt_of_lt_of_le hgr b10))))
  refine Qa3 g10 _ (cat [ints .u8 (keyV (Qai (s) 32)), #[.int .i64 ((bigN (Qai (Qad (s) 32) 4) : Nat) : Int)], #[.int .i64 ((bigN (Qai (Qad (Qad (s) 32) 4) 1) : Nat) : Int)], ints .u8 (keyV (Qai (Qan (Qad (Qad (s) 32) 4)) 32)), #[.int .i64 ((bigN (Qai (Qad (Qan (Qad (Qad (s) 32) 4)) 32) 1) : Nat) : Int)], #[.bool (nUs (Qad (Qad (Qan (Qad (Qad (s) 32) 4)) 32) 1))], #[.int .i64 (nNm (Qad (Qad (Qan (Qad (Qad (s) 32) 4)) 32) 1))], ints .u8 (nKy (Qad (Qad (Qan (Qad (Qad (s) 32) 4)) 32) 1)), ints .u8 (nSg (Qad (Qad (Qan (Qad (Qad (s) 32) 4)) 32) 1)), ints .u8 (nPa (Qad (Qad (Qan (Qad (Qad (s) 32) 4)) 32) 1)), #[.slice ax17 xs17.length cx17], ints .u8 (List.replicate 32 0), #[.int .i64 0], ints .u8 (List.replicate 64 0)]) 47 r10_9 rfl kj (Qb1 43 _ _ g10 67 47 [ints .u8 (keyV (Qai (s) 32)), #[.int .i64 ((bigN (Qai (Qad (s) 32) 4) : Nat) : Int)], #[.int .i64 ((bigN (Qai (Qad (Qad (s) 32) 4) 1) : Nat) : Int)], ints .u8 (keyV (Qai (Qan (Qad (Qad (s) 32) 4)) 32)), #[.int .i64 ((bigN (Qai (Qad (Qan (Qad (Qad (s) 32) 4)) 32) 1) : Nat) : Int)]] [#[.bool false], #[.int .i64 0], ints .u8 (List.replicate 32 0), ints .u8 (List.replicate 32 0), ints .u8 (List.replicate 32 0), #[.slice none 0 0]] [#[.bool (nUs (Qad (Qad (Qan (Qad (Qad (s) 32) 4)) 32) 1))], #[.int .i64 (nNm (Qad (Qad (Qan (Qad (Qad (s) 32) 4)) 32) 1))], ints .u8 (nKy (Qad (Qad (Qan (Qad (Qad (s) 32) 4)) 32) 1)), ints .u8 (nSg (Qad (Qad (Qan (Qad (Qad (s) 32) 4)) 32) 1)), ints .u8 (nPa (Qad (Qad (Qan (Qad (Qad (s) 32) 4)) 32) 1)), #[.slice ax17 xs17.length cx17]] [ints .u8 (List.replicate 32 0), #[.int .i64 0], ints .u8 (List.replicate 64 0)] r10_9 rfl kj kj (isz (n := 99) kj (by rw [Qaa, Qaa, Qaa, Qaa, Qaa, Qaa]; simp only [Array.size_append, cat, ((Qac _ _).trans (QaW (Qad (Qad (Qan (Qad (Qad (s) 32) 4)) 32) 1))), ((Qac _ _).trans (QaV (Qad (Qad (Qan (Qad (Qad (s) 32) 4)) 32) 1))), ((Qac _ _).trans (QaU (Qad (Qad (Qan (Qad (Qad (s) 32) 4)) 32) 1)))]; rfl)) (by rw [Qaa, Qaa, Qaa, Qaa, Qaa]; simp only [Array.size_append, cat, ((Qac _ _).trans (Qap _ (Qal (Qan (Qad (Qad (s) 32) 4)) 32))), ((Qac _ _).trans (Qap _ (Qal (s) 32)))]; rfl) (eqsz (n := 99) (by rw [Qaa, Qaa, Qaa, Qaa, Qaa, Qaa]; simp only [Array.size_append, cat, ((Qac _ _).trans (QaW (Qad (Qad (Qan (Qad (Qad (s) 32) 4)) 32) 1))), ((Qac _ _).trans (QaV (Qad (Qad (Qan (Qad (Qad (s) 32) 4)) 32) 1))), ((Qac _ _).trans (QaU (Qad (Qad (Qan (Qad (Qad (s) 32) 4)) 32) 1)))]; rfl) (by rw [Qaa, Qaa, Qaa, Qaa, Qaa, Qaa]; simp only [Array.size_append, cat, ((Qac _ _).trans (List.length_replicate (n := 32)))]; rfl)) (QaX _ (by intro a ha; simp only [List.mem_cons, List.not_mem_nil, or_false] at ha; rcases ha with rfl | rfl | rfl | rfl | rfl | rfl; exact (Qaq _ rfl); exact (Qaq _ rfl); exact (Qas _ _); exact (Qas _ _); exact (Qas _ _); exact (Qaq _ rfl)))) fun W10 p10 r10_10 => ?_
  have x10 : ExtB gr w W10 := ExtB.putsN x9 p10 b10
  refine Qaf ?_
  refine hK11 _ _ ?_
  refine wp_seq_k fun K18 hK18 => ?_
  refine Qae ?_
  refine Qab (.pointer (some ⟨gr, 0, none⟩)) 37 rfl kj kj ?_
  have rs19 := (RSt.put rs16 hB p10 (Nat.lt_of_lt_of_le hgr b10))
  refine Qak (fun v W' => ExtB gr W10 W' ∧ RSt B gr (Qad (QaN (Qad (Qad (Qan (Qad (Qad (s) 32) 4)) 32) 1)) 64) W' ∧ (fun (v : Value) (_ : World) => v = .agg (ints .u8 (Qbq (Qai (QaN (Qad (Qad (Qan (Qad (Qad (s) 32) 4)) 32) 1)) 64)))) v W') 112 #[.pointer (some ⟨gr, 0, none⟩)] 38 rfl kj kj (Qey B gr _ _ hB rs19) fun vv20 W11 hh20 => ?_
  obtain ⟨q11, rs20, hv20⟩ := hh20
  have x11 : ExtB gr w W11 := ExtB.tr x10 q11
  subst hv20
  refine Qab (.pointer (some ⟨g10, 199, none⟩)) 39 rfl kj kj ?_
  have r10_11 := (ExtB.row q11 r10_10 (Ne.symm (Nat.ne_of_lt (Nat.lt_of_lt_of_le hgr b10))))
  refine Qa3 g10 _ (cat [ints .u8 (keyV (Qai (s) 32)), #[.int .i64 ((bigN (Qai (Qad (s) 32) 4) : Nat) : Int)], #[.int .i64 ((bigN (Qai (Qad (Qad (s) 32) 4) 1) : Nat) : Int)], ints .u8 (keyV (Qai (Qan (Qad (Qad (s) 32) 4)) 32)), #[.int .i64 ((bigN (Qai (Qad (Qan (Qad (Qad (s) 32) 4)) 32) 1) : Nat) : Int)], #[.bool (nUs (Qad (Qad (Qan (Qad (Qad (s) 32) 4)) 32) 1))], #[.int .i64 (nNm (Qad (Qad (Qan (Qad (Qad (s) 32) 4)) 32) 1))], ints .u8 (nKy (Qad (Qad (Qan (Qad (Qad (s) 32) 4)) 32) 1)), ints .u8 (nSg (Qad (Qad (Qan (Qad (Qad (s) 32) 4)) 32) 1)), ints .u8 (nPa (Qad (Qad (Qan (Qad (Qad (s) 32) 4)) 32) 1)), #[.slice ax17 xs17.length cx17], ints .u8 (List.replicate 32 0), #[.int .i64 0], ints .u8 (Qbq (Qai (QaN (Qad (Qad (Qan (Qad (Qad (s) 32) 4)) 32) 1)) 64))]) 47 r10_11 rfl kj (Qb1 45 _ _ g10 199 47 [ints .u8 (keyV (Qai (s) 32)), #[.int .i64 ((bigN (Qai (Qad (s) 32) 4) : Nat) : Int)], #[.int .i64 ((bigN (Qai (Qad (Qad (s) 32) 4) 1) : Nat) : Int)], ints .u8 (keyV (Qai (Qan (Qad (Qad (s) 32) 4)) 32)), #[.int .i64 ((bigN (Qai (Qad (Qan (Qad (Qad (s) 32) 4)) 32) 1) : Nat) : Int)], #[.bool (nUs (Qad (Qad (Qan (Qad (Qad (s) 32) 4)) 32) 1))], #[.int .i64 (nNm (Qad (Qad (Qan (Qad (Qad (s) 32) 4)) 32) 1))], ints .u8 (nKy (Qad (Qad (Qan (Qad (Qad (s) 32) 4)) 32) 1)), ints .u8 (nSg (Qad (Qad (Qan (Qad (Qad (s) 32) 4)) 32) 1)), ints .u8 (nPa (Qad (Qad (Qan (Qad (Qad (s) 32) 4)) 32) 1)), #[.slice ax17 xs17.length cx17], ints .u8 (List.replicate 32 0), #[.int .i64 0]] [ints .u8 (List.replicate 64 0)] [ints .u8 (Qbq (Qai (QaN (Qad (Qad (Qan (Qad (Qad (s) 32) 4)) 32) 1)) 64))] [] r10_11 rfl kj kj (isz (n := 64) kj ((Qac _ _).trans (QaF _ (Qal (QaN (Qad (Qad (Qan (Qad (Qad (s) 32) 4)) 32) 1)) 64)))) (by rw [Qaa, Qaa, Qaa, Qaa, Qaa, Qaa, Qaa, Qaa, Qaa, Qaa, Qaa, Qaa, Qaa]; simp only [Array.size_append, cat, ((Qac _ _).trans (List.length_replicate (n := 32))), ((Qac _ _).trans (Qap _ (Qal (Qan (Qad (Qad (s) 32) 4)) 32))), ((Qac _ _).trans (Qap _ (Qal (s) 32))), ((Qac _ _).trans (QaW (Qad (Qad (Qan (Qad (Qad (s) 32) 4)) 32) 1))), ((Qac _ _).trans (QaV (Qad (Qad (Qan (Qad (Qad (s) 32) 4)) 32) 1))), ((Qac _ _).trans (QaU (Qad (Qad (Qan (Qad (Qad (s) 32) 4)) 32) 1)))]; rfl) (eqsz (n := 64) ((Qac _ _).trans (QaF _ (Qal (QaN (Qad (Qad (Qan (Qad (Qad (s) 32) 4)) 32) 1)) 64))) ((Qac _ _).trans (List.length_replicate (n := 64)))) (Qas _ _)) fun W12 p12 r10_12 => ?_
  have x12 : ExtB gr w W12 := ExtB.putsN x11 p12 b10
  refine Qaf ?_
  refine hK18 _ _ ?_
  refine wp_seq_k fun K21 hK21 => ?_
  refine Qae ?_
  refine Qab (.agg (cat [ints .u8 (keyV (Qai (s) 32)), #[.int .i64 ((bigN (Qai (Qad (s) 32) 4) : Nat) : Int)], #[.int .i64 ((bigN (Qai (Qad (Qad (s) 32) 4) 1) : Nat) : Int)], ints .u8 (keyV (Qai (Qan (Qad (Qad (s) 32) 4)) 32)), #[.int .i64 ((bigN (Qai (Qad (Qan (Qad (Qad (s) 32) 4)) 32) 1) : Nat) : Int)], #[.bool (nUs (Qad (Qad (Qan (Qad (Qad (s) 32) 4)) 32) 1))], #[.int .i64 (nNm (Qad (Qad (Qan (Qad (Qad (s) 32) 4)) 32) 1))], ints .u8 (nKy (Qad (Qad (Qan (Qad (Qad (s) 32) 4)) 32) 1)), ints .u8 (nSg (Qad (Qad (Qan (Qad (Qad (s) 32) 4)) 32) 1)), ints .u8 (nPa (Qad (Qad (Qan (Qad (Qad (s) 32) 4)) 32) 1)), #[.slice ax17 xs17.length cx17], ints .u8 (List.replicate 32 0), #[.int .i64 0], ints .u8 (Qbq (Qai (QaN (Qad (Qad (Qan (Qad (Qad (s) 32) 4)) 32) 1)) 64))])) 40 rfl kj (QaA 47 _ g10 47 _ _ r10_12 rfl kj kj (isz (n := 263) kj (by rw [Qaa, Qaa, Qaa, Qaa, Qaa, Qaa, Qaa, Qaa, Qaa, Qaa, Qaa, Qaa, Qaa, Qaa]; simp only [Array.size_append, cat, ((Qac _ _).trans (List.length_replicate (n := 32))), ((Qac _ _).trans (Qap _ (Qal (Qan (Qad (Qad (s) 32) 4)) 32))), ((Qac _ _).trans (Qap _ (Qal (s) 32))), ((Qac _ _).trans (QaW (Qad (Qad (Qan (Qad (Qad (s) 32) 4)) 32) 1))), ((Qac _ _).trans (QaV (Qad (Qad (Qan (Qad (Qad (s) 32) 4)) 32) 1))), ((Qac _ _).trans (QaU (Qad (Qad (Qan (Qad (Qad (s) 32) 4)) 32) 1))), ((Qac _ _).trans (QaF _ (Qal (QaN (Qad (Qad (Qan (Qad (Qad (s) 32) 4)) 32) 1)) 64)))]; rfl))) ?_
  have r2_2 := (ExtB.row q2 r2_1 (Ne.symm (Nat.ne_of_lt (Nat.lt_of_lt_of_le hgr b2))))
  have r2_3 := (ExtB.row q3 r2_2 (Ne.symm (Nat.ne_of_lt (Nat.lt_of_lt_of_le hgr b2))))
  have r2_4 := (ExtB.row q4 r2_3 (Ne.symm (Nat.ne_of_lt (Nat.lt_of_lt_of_le hgr b2))))
  have r2_5 := (ExtB.row q5 r2_4 (Ne.symm (Nat.ne_of_lt (Nat.lt_of_lt_of_le hgr b2))))
  have r2_6 := (ExtB.row q6 r2_5 (Ne.symm (Nat.ne_of_lt (Nat.lt_of_lt_of_le hgr b2))))
  have r2_7 := (Qar r2_6 e7)
  have r2_8 := (Puts.row p8 r2_7 (QaI r2_6 l10))
  have r2_9 := (ExtB.row q9 r2_8 (Ne.symm (Nat.ne_of_lt (Nat.lt_of_lt_of_le hgr b2))))
  have r2_10 := (Puts.row p10 r2_9 (QaI r2_6 l10))
  have r2_11 := (ExtB.row q11 r2_10 (Ne.symm (Nat.ne_of_lt (Nat.lt_of_lt_of_le hgr b2))))
  have r2_12 := (Puts.row p12 r2_11 (QaI r2_6 l10))
  refine Qa3 g2 _ (cat [ints .u8 (keyV (Qai (s) 32)), #[.int .i64 ((bigN (Qai (Qad (s) 32) 4) : Nat) : Int)], #[.int .i64 ((bigN (Qai (Qad (Qad (s) 32) 4) 1) : Nat) : Int)], ints .u8 (keyV (Qai (Qan (Qad (Qad (s) 32) 4)) 32)), #[.int .i64 ((bigN (Qai (Qad (Qan (Qad (Qad (s) 32) 4)) 32) 1) : Nat) : Int)], #[.bool (nUs (Qad (Qad (Qan (Qad (Qad (s) 32) 4)) 32) 1))], #[.int .i64 (nNm (Qad (Qad (Qan (Qad (Qad (s) 32) 4)) 32) 1))], ints .u8 (nKy (Qad (Qad (Qan (Qad (Qad (s) 32) 4)) 32) 1)), ints .u8 (nSg (Qad (Qad (Qan (Qad (Qad (s) 32) 4)) 32) 1)), ints .u8 (nPa (Qad (Qad (Qan (Qad (Qad (s) 32) 4)) 32) 1)), #[.slice ax17 xs17.length cx17], ints .u8 (List.replicate 32 0), #[.int .i64 0], ints .u8 (Qbq (Qai (QaN (Qad (Qad (Qan (Qad (Qad (s) 32) 4)) 32) 1)) 64))]) 47 r2_12 rfl kj (Qa0 47 _ _ g2 47 _ _ r2_12 rfl kj kj (isz (n := 263) kj (by rw [Qaa, Qaa, Qaa, Qaa, Qaa, Qaa, Qaa, Qaa, Qaa, Qaa, Qaa, Qaa, Qaa, Qaa]; simp only [Array.size_append, cat, ((Qac _ _).trans (List.length_replicate (n := 32))), ((Qac _ _).trans (Qap _ (Qal (Qan (Qad (Qad (s) 32) 4)) 32))), ((Qac _ _).trans (Qap _ (Qal (s) 32))), ((Qac _ _).trans (QaW (Qad (Qad (Qan (Qad (Qad (s) 32) 4)) 32) 1))), ((Qac _ _).trans (QaV (Qad (Qad (Qan (Qad (Qad (s) 32) 4)) 32) 1))), ((Qac _ _).trans (QaU (Qad (Qad (Qan (Qad (Qad (s) 32) 4)) 32) 1))), ((Qac _ _).trans (QaF _ (Qal (QaN (Qad (Qad (Qan (Qad (Qad (s) 32) 4)) 32) 1)) 64)))]; rfl)) (eqsz (n := 263) (by rw [Qaa, Qaa, Qaa, Qaa, Qaa, Qaa, Qaa, Qaa, Qaa, Qaa, Qaa, Qaa, Qaa, Qaa]; simp only [Array.size_append, cat, ((Qac _ _).trans (List.length_replicate (n := 32))), ((Qac _ _).trans (List.length_replicate (n := 64)))]; rfl) (by rw [Qaa, Qaa, Qaa, Qaa, Qaa, Qaa, Qaa, Qaa, Qaa, Qaa, Qaa, Qaa, Qaa, Qaa]; simp only [Array.size_append, cat, ((Qac _ _).trans (List.length_replicate (n := 32))), ((Qac _ _).trans (Qap _ (Qal (Qan (Qad (Qad (s) 32) 4)) 32))), ((Qac _ _).trans (Qap _ (Qal (s) 32))), ((Qac _ _).trans (QaW (Qad (Qad (Qan (Qad (Qad (s) 32) 4)) 32) 1))), ((Qac _ _).trans (QaV (Qad (Qad (Qan (Qad (Qad (s) 32) 4)) 32) 1))), ((Qac _ _).trans (QaU (Qad (Qad (Qan (Qad (Qad (s) 32) 4)) 32) 1))), ((Qac _ _).trans (QaF _ (Qal (QaN (Qad (Qad (Qan (Qad (Qad (s) 32) 4)) 32) 1)) 64)))]; rfl)) (QaX _ (by intro a ha; simp only [List.mem_cons, List.not_mem_nil, or_false] at ha; rcases ha with rfl | rfl | rfl | rfl | rfl | rfl | rfl | rfl | rfl | rfl | rfl | rfl | rfl | rfl; exact (Qas _ _); exact (Qaq _ rfl); exact (Qaq _ rfl); exact (Qas _ _); exact (Qaq _ rfl); exact (Qaq _ rfl); exact (Qaq _ rfl); exact (Qas _ _); exact (Qas _ _); exact (Qas _ _); exact (Qaq _ rfl); exact (Qas _ _); exact (Qaq _ rfl); exact (Qas _ _)))) fun W13 p13 r2_13 => ?_
  have x13 : ExtB gr w W13 := ExtB.putsN x12 p13 b2
  refine Qaf ?_
  refine hK21 _ _ ?_
  refine wp_ret ?_
  repeat (first | with_reducible refine goR1 ?_ | with_reducible refine goR2 ?_)
  have f22_10 := (hox17.puts p10 (Qbp hox17 (Qay r10_8)))
  have f23_11 := (Qbw f22_10 q11 (Qbp f22_10 (Nat.lt_of_lt_of_le hgr x8.2.2.2.1)))
  have f24_12 := (f23_11.puts p12 (Qbp hox17 (Qay r10_8)))
  have f25_13 := (f24_12.puts p13 (Qbp hox17 (Qay r2_8)))
  have rs26 := (RSt.put (RSt.put rs20 hB p12 (Nat.lt_of_lt_of_le hgr b10)) hB p13 (Nat.lt_of_lt_of_le hgr b2))
  exact (show bodyPost _ _ _ .ret _ _ from ret1 (.agg (cat [ints .u8 (keyV (Qai (s) 32)), #[.int .i64 ((bigN (Qai (Qad (s) 32) 4) : Nat) : Int)], #[.int .i64 ((bigN (Qai (Qad (Qad (s) 32) 4) 1) : Nat) : Int)], ints .u8 (keyV (Qai (Qan (Qad (Qad (s) 32) 4)) 32)), #[.int .i64 ((bigN (Qai (Qad (Qan (Qad (Qad (s) 32) 4)) 32) 1) : Nat) : Int)], #[.bool (nUs (Qad (Qad (Qan (Qad (Qad (s) 32) 4)) 32) 1))], #[.int .i64 (nNm (Qad (Qad (Qan (Qad (Qad (s) 32) 4)) 32) 1))], ints .u8 (nKy (Qad (Qad (Qan (Qad (Qad (s) 32) 4)) 32) 1)), ints .u8 (nSg (Qad (Qad (Qan (Qad (Qad (s) 32) 4)) 32) 1)), ints .u8 (nPa (Qad (Qad (Qan (Qad (Qad (s) 32) 4)) 32) 1)), #[.slice ax17 xs17.length cx17], ints .u8 (List.replicate 32 0), #[.int .i64 0], ints .u8 (Qbq (Qai (QaN (Qad (Qad (Qan (Qad (Qad (s) 32) 4)) 32) 1)) 64))])) rfl (Qbk g2 47 _ r2_13 kj kj (isz (n := 263) kj (by rw [Qaa, Qaa, Qaa, Qaa, Qaa, Qaa, Qaa, Qaa, Qaa, Qaa, Qaa, Qaa, Qaa, Qaa]; simp only [Array.size_append, cat, ((Qac _ _).trans (List.length_replicate (n := 32))), ((Qac _ _).trans (Qap _ (Qal (Qan (Qad (Qad (s) 32) 4)) 32))), ((Qac _ _).trans (Qap _ (Qal (s) 32))), ((Qac _ _).trans (QaW (Qad (Qad (Qan (Qad (Qad (s) 32) 4)) 32) 1))), ((Qac _ _).trans (QaV (Qad (Qad (Qan (Qad (Qad (s) 32) 4)) 32) 1))), ((Qac _ _).trans (QaU (Qad (Qad (Qan (Qad (Qad (s) 32) 4)) 32) 1))), ((Qac _ _).trans (QaF _ (Qal (QaN (Qad (Qad (Qan (Qad (Qad (s) 32) 4)) 32) 1)) 64)))]; rfl))) ⟨_, rfl, x13, (show RSt B gr (Qa2 s) _ by have h9 := rs26; unfold Qa2; rw [eM]; exact h9), xs17, _, _, by rw [eUs, eNm, eKy, eSg, ePa, eSt, eAt]; unfold qSig; rw [eM]; rfl, OwnN.base x8.2.2.2.1 f25_13, hlx17, fun hne => by rw [eL]; exact hxx17 (fun h0 => hne (by have h1 : QaN (qS5 s) = none := h0; unfold Qa2; rw [eM, h1]; rfl))⟩)
set_option maxHeartbeats 4000000 in
set_option maxRecDepth 100000 in
theorem QhE (B gr : Nat) (s : Option (List Int)) (w : World) (hB : B ≤ gr) (h : RSt B gr s w) (hk : bigN (Qai (qS4 s) 1) = 3) : Calls Try.prog 61 #[.pointer (some ⟨gr, 0, none⟩)] w (QbB B gr w (Qa2 s) fun v W => ∃ (xz : List Int) (a : Option Addr) (c : Nat), v = .agg (cat [ints .u8 (qGrp s), #[.int .i64 (qEp s)], #[.int .i64 (qFr s)], ints .u8 (qBa s), #[.int .i64 ((qKd s : Nat) : Int)], #[.bool (qUs s)], #[.int .i64 (qNm s)], ints .u8 (qKy s), ints .u8 (qSg s), ints .u8 (qPa s), #[.slice a xz.length c], ints .u8 (qSt s), #[.int .i64 (qAt s)], ints .u8 (qSig s)]) ∧ OwnN .i64 3 w.heap.size xz (.slice a xz.length c) W ∧ xz.length ≤ 255 ∧ (Qa2 s ≠ none → xz = qL s)) := by
  have hgr := h.lt
  have hk2 : bigN (Qai (Qad (Qan (Qad (Qad s 32) 4)) 32) 1) = qKd s := rfl
  unfold qKd at hk2
  have hk0 : qKd s = bigN (Qai (qS4 s) 1) := rfl
  have k1 : (qKd s == 1) = false := beq_eq_false_iff_ne.2 (show qKd s ≠ 1 by omega)
  have k2 : (qKd s == 2) = false := beq_eq_false_iff_ne.2 (show qKd s ≠ 2 by omega)
  have k3 : (qKd s == 3) = true := beq_iff_eq.2 (show qKd s = 3 by omega)
  have kn : qNd s = false := by unfold qNd; rw [k1, k2]; rfl
  have eUs : qUs s = false := by unfold qUs; rw [kn]; rfl
  have eNm : qNm s = 0 := by unfold qNm; rw [kn]; rfl
  have eKy : qKy s = List.replicate 32 0 := by unfold qKy; rw [kn]; rfl
  have eSg : qSg s = List.replicate 32 0 := by unfold qSg; rw [kn]; rfl
  have ePa : qPa s = List.replicate 32 0 := by unfold qPa; rw [kn]; rfl
  have eL : qL s = [] := by unfold qL; rw [kn]; rfl
  have eSt : qSt s = List.replicate 32 0 := by unfold qSt; rw [k1]; rfl
  have eAt : qAt s = ((bigN (Qai (qS5 s) 1) : Nat) : Int) := by unfold qAt; rw [k3]; rfl
  have eM : Qcz s = Qan (qS5 s) := by unfold Qcz; rw [k1, k2, k3]; rfl
  refine enter 41 [(0, .pointer (some ⟨gr, 0, none⟩))] Try.func61 rfl rfl kj rfl ?_
  refine wp_seq_k fun K1 hK1 => ?_
  refine Qae ?_
  refine Qav (cat [ints .u8 (List.replicate 32 0), #[.int .i64 0], #[.int .i64 0], ints .u8 (List.replicate 32 0), #[.int .i64 0], #[.bool false], #[.int .i64 0], ints .u8 (List.replicate 32 0), ints .u8 (List.replicate 32 0), ints .u8 (List.replicate 32 0), #[.slice none 0 0], ints .u8 (List.replicate 32 0), #[.int .i64 0], ints .u8 (List.replicate 64 0)]) 47 2 rfl kj (Qbe 47 _ rfl (Qcd _)) fun g2 W1 l2 e1 r2_1 => ?_
  have x1 : ExtB gr w W1 := ExtB.ext (ExtB.refl gr w) e1
  have b2 : w.heap.size ≤ g2 := Nat.le_trans (ExtB.refl gr w).size l2
  refine Qaf ?_
  refine hK1 _ _ ?_
  refine wp_seq_k fun K3 hK3 => ?_
  refine Qae ?_
  refine Qab (.pointer (some ⟨gr, 0, none⟩)) 4 rfl kj kj ?_
  have rs4 := (RSt.ext h hB e1)
  refine Qak (fun v W' => ExtB gr W1 W' ∧ RSt B gr (Qad (s) 32) W' ∧ (fun (v : Value) (_ : World) => v = .agg (ints .u8 (keyV (Qai (s) 32)))) v W') 109 #[.pointer (some ⟨gr, 0, none⟩)] 5 rfl kj kj (Qcg B gr _ _ hB rs4) fun vv5 W2 hh5 => ?_
  obtain ⟨q2, rs5, hv5⟩ := hh5
  have x2 : ExtB gr w W2 := ExtB.tr x1 q2
  subst hv5
  refine Qab (.pointer (some ⟨gr, 0, none⟩)) 6 rfl kj kj ?_
  refine Qak (fun v W' => ExtB gr W2 W' ∧ RSt B gr (Qad (Qad (s) 32) 4) W' ∧ (fun (v : Value) (_ : World) => v = .int .i64 ((bigN (Qai (Qad (s) 32) 4) : Nat) : Int)) v W') 110 #[.pointer (some ⟨gr, 0, none⟩), .int .i64 4] 7 rfl kj kj (Qbg B gr _ 4 _ hB rs5 (by decide)) fun vv6 W3 hh6 => ?_
  obtain ⟨q3, rs6, hv6⟩ := hh6
  have x3 : ExtB gr w W3 := ExtB.tr x2 q3
  subst hv6
  refine Qab (.pointer (some ⟨gr, 0, none⟩)) 8 rfl kj kj ?_
  refine Qak (fun v W' => ExtB gr W3 W' ∧ RSt B gr (Qan (Qad (Qad (s) 32) 4)) W' ∧ (fun (v : Value) (_ : World) => v = .int .i64 ((bigN (Qai (Qad (Qad (s) 32) 4) 1) : Nat) : Int)) v W') 111 #[.pointer (some ⟨gr, 0, none⟩)] 9 rfl kj kj (Qdk B gr _ _ hB rs6) fun vv7 W4 hh7 => ?_
  obtain ⟨q4, rs7, hv7⟩ := hh7
  have x4 : ExtB gr w W4 := ExtB.tr x3 q4
  subst hv7
  refine Qab (.pointer (some ⟨gr, 0, none⟩)) 10 rfl kj kj ?_
  refine Qak (fun v W' => ExtB gr W4 W' ∧ RSt B gr (Qad (Qan (Qad (Qad (s) 32) 4)) 32) W' ∧ (fun (v : Value) (_ : World) => v = .agg (ints .u8 (keyV (Qai (Qan (Qad (Qad (s) 32) 4)) 32)))) v W') 109 #[.pointer (some ⟨gr, 0, none⟩)] 11 rfl kj kj (Qcg B gr _ _ hB rs7) fun vv8 W5 hh8 => ?_
  obtain ⟨q5, rs8, hv8⟩ := hh8
  have x5 : ExtB gr w W5 := ExtB.tr x4 q5
  subst hv8
  refine Qab (.pointer (some ⟨gr, 0, none⟩)) 12 rfl kj kj ?_
  refine Qak (fun v W' => ExtB gr W5 W' ∧ RSt B gr (Qad (Qad (Qan (Qad (Qad (s) 32) 4)) 32) 1) W' ∧ (fun (v : Value) (_ : World) => v = .int .i64 ((bigN (Qai (Qad (Qan (Qad (Qad (s) 32) 4)) 32) 1) : Nat) : Int)) v W') 110 #[.pointer (some ⟨gr, 0, none⟩), .int .i64 1] 13 rfl kj kj (Qbg B gr _ 1 _ hB rs8 (by decide)) fun vv9 W6 hh9 => ?_
  obtain ⟨q6, rs9, hv9⟩ := hh9
  have x6 : ExtB gr w W6 := ExtB.tr x5 q6
  subst hv9
  refine Qab (.agg (cat [ints .u8 (keyV (Qai (s) 32)), #[.int .i64 ((bigN (Qai (Qad (s) 32) 4) : Nat) : Int)], #[.int .i64 ((bigN (Qai (Qad (Qad (s) 32) 4) 1) : Nat) : Int)], ints .u8 (keyV (Qai (Qan (Qad (Qad (s) 32) 4)) 32)), #[.int .i64 ((bigN (Qai (Qad (Qan (Qad (Qad (s) 32) 4)) 32) 1) : Nat) : Int)], #[.bool false], #[.int .i64 0], ints .u8 (List.replicate 32 0), ints .u8 (List.replicate 32 0), ints .u8 (List.replicate 32 0), #[.slice none 0 0], ints .u8 (List.replicate 32 0), #[.int .i64 0], ints .u8 (List.replicate 64 0)])) 14 rfl kj (Qcc 47 _ [ints .u8 (List.replicate 32 0), #[.int .i64 0], #[.int .i64 0], ints .u8 (List.replicate 32 0), #[.int .i64 0]] [#[.bool false], #[.int .i64 0], ints .u8 (List.replicate 32 0), ints .u8 (List.replicate 32 0), ints .u8 (List.replicate 32 0), #[.slice none 0 0], ints .u8 (List.replicate 32 0), #[.int .i64 0], ints .u8 (List.replicate 64 0)] #[(0, 32), (32, 1), (33, 1), (34, 32), (66, 1), (67, 99), (166, 32), (198, 1), (199, 64)] [(0, 32, .agg (ints .u8 (keyV (Qai (s) 32))), ints .u8 (keyV (Qai (s) 32))), (1, 1, .int .i64 ((bigN (Qai (Qad (s) 32) 4) : Nat) : Int), #[.int .i64 ((bigN (Qai (Qad (s) 32) 4) : Nat) : Int)]), (2, 1, .int .i64 ((bigN (Qai (Qad (Qad (s) 32) 4) 1) : Nat) : Int), #[.int .i64 ((bigN (Qai (Qad (Qad (s) 32) 4) 1) : Nat) : Int)]), (3, 32, .agg (ints .u8 (keyV (Qai (Qan (Qad (Qad (s) 32) 4)) 32))), ints .u8 (keyV (Qai (Qan (Qad (Qad (s) 32) 4)) 32))), (4, 1, .int .i64 ((bigN (Qai (Qad (Qan (Qad (Qad (s) 32) 4)) 32) 1) : Nat) : Int), #[.int .i64 ((bigN (Qai (Qad (Qan (Qad (Qad (s) 32) 4)) 32) 1) : Nat) : Int)])] rfl kj ⟨kj, rfl, ((Qac _ _).trans (Qap _ (Qal (s) 32))), kj, rfl, kj, kj, rfl, kj, kj, rfl, ((Qac _ _).trans (Qap _ (Qal (Qan (Qad (Qad (s) 32) 4)) 32))), kj, rfl, kj, trivial⟩ kj (Qcd _) kj kj) ?_
  refine Qav (cat [ints .u8 (List.replicate 32 0), #[.int .i64 0], #[.int .i64 0], ints .u8 (List.replicate 32 0), #[.int .i64 0], #[.bool false], #[.int .i64 0], ints .u8 (List.replicate 32 0), ints .u8 (List.replicate 32 0), ints .u8 (List.replicate 32 0), #[.slice none 0 0], ints .u8 (List.replicate 32 0), #[.int .i64 0], ints .u8 (List.replicate 64 0)]) 47 3 rfl kj (Qbe 47 _ rfl (Qcd _)) fun g10 W7 l10 e7 r10_7 => ?_
  have x7 : ExtB gr w W7 := ExtB.ext x6 e7
  have b10 : w.heap.size ≤ g10 := Nat.le_trans x6.size l10
  refine Qa3 g10 _ (cat [ints .u8 (keyV (Qai (s) 32)), #[.int .i64 ((bigN (Qai (Qad (s) 32) 4) : Nat) : Int)], #[.int .i64 ((bigN (Qai (Qad (Qad (s) 32) 4) 1) : Nat) : Int)], ints .u8 (keyV (Qai (Qan (Qad (Qad (s) 32) 4)) 32)), #[.int .i64 ((bigN (Qai (Qad (Qan (Qad (Qad (s) 32) 4)) 32) 1) : Nat) : Int)], #[.bool false], #[.int .i64 0], ints .u8 (List.replicate 32 0), ints .u8 (List.replicate 32 0), ints .u8 (List.replicate 32 0), #[.slice none 0 0], ints .u8 (List.replicate 32 0), #[.int .i64 0], ints .u8 (List.replicate 64 0)]) 47 r10_7 rfl kj (Qa0 47 _ _ g10 47 _ _ r10_7 rfl kj kj (isz (n := 263) kj (by rw [Qaa, Qaa, Qaa, Qaa, Qaa, Qaa, Qaa, Qaa, Qaa, Qaa, Qaa, Qaa, Qaa, Qaa]; simp only [Array.size_append, cat, ((Qac _ _).trans (List.length_replicate (n := 32))), ((Qac _ _).trans (List.length_replicate (n := 64))), ((Qac _ _).trans (Qap _ (Qal (Qan (Qad (Qad (s) 32) 4)) 32))), ((Qac _ _).trans (Qap _ (Qal (s) 32)))]; rfl)) (eqsz (n := 263) (by rw [Qaa, Qaa, Qaa, Qaa, Qaa, Qaa, Qaa, Qaa, Qaa, Qaa, Qaa, Qaa, Qaa, Qaa]; simp only [Array.size_append, cat, ((Qac _ _).trans (List.length_replicate (n := 32))), ((Qac _ _).trans (List.length_replicate (n := 64)))]; rfl) (by rw [Qaa, Qaa, Qaa, Qaa, Qaa, Qaa, Qaa, Qaa, Qaa, Qaa, Qaa, Qaa, Qaa, Qaa]; simp only [Array.size_append, cat, ((Qac _ _).trans (List.length_replicate (n := 32))), ((Qac _ _).trans (List.length_replicate (n := 64))), ((Qac _ _).trans (Qap _ (Qal (Qan (Qad (Qad (s) 32) 4)) 32))), ((Qac _ _).trans (Qap _ (Qal (s) 32)))]; rfl)) (QaX _ (by intro a ha; simp only [List.mem_cons, List.not_mem_nil, or_false] at ha; rcases ha with rfl | rfl | rfl | rfl | rfl | rfl | rfl | rfl | rfl | rfl | rfl | rfl | rfl | rfl; exact (Qas _ _); exact (Qaq _ rfl); exact (Qaq _ rfl); exact (Qas _ _); exact (Qaq _ rfl); exact (Qaq _ rfl); exact (Qaq _ rfl); exact (Qas _ _); exact (Qas _ _); exact (Qas _ _); exact (Qaq _ rfl); exact (Qas _ _); exact (Qaq _ rfl); exact (Qas _ _)))) fun W8 p8 r10_8 => ?_
  have x8 : ExtB gr w W8 := ExtB.putsN x7 p8 b10
  refine Qaf ?_
  refine hK3 _ _ ?_
  refine wp_seq_k fun K11 hK11 => ?_
  refine wp_seq_k fun K12 hK12 => ?_
  refine Qae ?_
  refine Qab (.pointer (some ⟨g10, 66, none⟩)) 15 rfl kj kj ?_
  refine Qab (.int .i64 ((bigN (Qai (Qad (Qan (Qad (Qad (s) 32) 4)) 32) 1) : Nat) : Int)) 16 rfl kj (Qag 3 _ g10 66 47 _ (.int .i64 ((bigN (Qai (Qad (Qan (Qad (Qad (s) 32) 4)) 32) 1) : Nat) : Int)) _ r10_8 rfl kj (Qah [ints .u8 (keyV (Qai (s) 32)), #[.int .i64 ((bigN (Qai (Qad (s) 32) 4) : Nat) : Int)], #[.int .i64 ((bigN (Qai (Qad (Qad (s) 32) 4) 1) : Nat) : Int)], ints .u8 (keyV (Qai (Qan (Qad (Qad (s) 32) 4)) 32))] [#[.int .i64 ((bigN (Qai (Qad (Qan (Qad (Qad (s) 32) 4)) 32) 1) : Nat) : Int)]] [#[.bool false], #[.int .i64 0], ints .u8 (List.replicate 32 0), ints .u8 (List.replicate 32 0), ints .u8 (List.replicate 32 0), #[.slice none 0 0], ints .u8 (List.replicate 32 0), #[.int .i64 0], ints .u8 (List.replicate 64 0)] 66 (by rw [Qaa, Qaa, Qaa, Qaa]; simp only [Array.size_append, cat, ((Qac _ _).trans (Qap _ (Qal (Qan (Qad (Qad (s) 32) 4)) 32))), ((Qac _ _).trans (Qap _ (Qal (s) 32)))]; rfl) 0 _ rfl) kj) ?_
  refine Qaf ?_
  refine hK12 _ _ ?_
  refine wp_block ?_
  refine wp_seq_k fun K13 hK13 => ?_
  refine Qae ?_
  refine Qab (.bool false) 20 rfl kj (Qax (u := .bool ((((bigN (Qai (Qad (Qan (Qad (Qad (s) 32) 4)) 32) 1) : Nat) : Int) == 1))) kj (congrArg Value.bool (beq_eq_false_iff_ne.2 (by omega)))) ?_
  refine Qab (.bool false) 19 rfl kj kj ?_
  refine Qaf ?_
  refine hK13 _ _ ?_
  refine cond_false kj ?_
  refine wp_seq_k fun K14 hK14 => ?_
  refine Qae ?_
  refine Qab (.bool false) 28 rfl kj (Qax (u := .bool ((((bigN (Qai (Qad (Qan (Qad (Qad (s) 32) 4)) 32) 1) : Nat) : Int) == 2))) kj (congrArg Value.bool (beq_eq_false_iff_ne.2 (by omega)))) ?_
  refine Qab (.bool false) 27 rfl kj kj ?_
  refine Qaf ?_
  refine hK14 _ _ ?_
  refine cond_false kj ?_
  refine wp_seq_k fun K15 hK15 => ?_
  refine Qae ?_
  refine Qab (.bool true) 33 rfl kj (Qax (u := .bool ((((bigN (Qai (Qad (Qan (Qad (Qad (s) 32) 4)) 32) 1) : Nat) : Int) == 3))) kj (congrArg Value.bool (beq_iff_eq.2 (by omega)))) ?_
  refine Qab (.bool true) 32 rfl kj kj ?_
  refine Qaf ?_
  refine hK15 _ _ ?_
  refine cond_true kj ?_
  refine Qae ?_
  refine Qab (.pointer (some ⟨gr, 0, none⟩)) 34 rfl kj kj ?_
  have rs16 := (RSt.put (RSt.ext rs9 hB e7) hB p8 (Nat.lt_of_lt_of_le hgr b10))
  refine Qak (fun v W' => ExtB gr W8 W' ∧ RSt B gr (Qan (Qad (Qad (Qan (Qad (Qad (s) 32) 4)) 32) 1)) W' ∧ (fun (v : Value) (_ : World) => v = .int .i64 ((bigN (Qai (Qad (Qad (Qan (Qad (Qad (s) 32) 4)) 32) 1) 1) : Nat) : Int)) v W') 111 #[.pointer (some ⟨gr, 0, none⟩)] 35 rfl kj kj (Qdk B gr _ _ hB rs16) fun vv17 W9 hh17 => ?_
  obtain ⟨q9, rs17, hv17⟩ := hh17
  have x9 : ExtB gr w W9 := ExtB.tr x8 q9
  subst hv17
  refine Qab (.pointer (some ⟨g10, 198, none⟩)) 36 rfl kj kj ?_
  have r10_9 := (ExtB.row q9 r10_8 (Ne.symm (Nat.ne_of_lt (Nat.lt_of_lt_of_le hgr b10))))
  refine Qa3 g10 _ (cat [ints .u8 (keyV (Qai (s) 32)), #[.int .i64 ((bigN (Qai (Qad (s) 32) 4) : Nat) : Int)], #[.int .i64 ((bigN (Qai (Qad (Qad (s) 32) 4) 1) : Nat) : Int)], ints .u8 (keyV (Qai (Qan (Qad (Qad (s) 32) 4)) 32)), #[.int .i64 ((bigN (Qai (Qad (Qan (Qad (Qad (s) 32) 4)) 32) 1) : Nat) : Int)], #[.bool false], #[.int .i64 0], ints .u8 (List.replicate 32 0), ints .u8 (List.replicate 32 0), ints .u8 (List.replicate 32 0), #[.slice none 0 0], ints .u8 (List.replicate 32 0), #[.int .i64 ((bigN (Qai (Qad (Qad (Qan (Qad (Qad (s) 32) 4)) 32) 1) 1) : Nat) : Int)], ints .u8 (List.replicate 64 0)]) 47 r10_9 rfl kj (Qf3 3 _ _ g10 198 47 [ints .u8 (keyV (Qai (s) 32)), #[.int .i64 ((bigN (Qai (Qad (s) 32) 4) : Nat) : Int)], #[.int .i64 ((bigN (Qai (Qad (Qad (s) 32) 4) 1) : Nat) : Int)], ints .u8 (keyV (Qai (Qan (Qad (Qad (s) 32) 4)) 32)), #[.int .i64 ((bigN (Qai (Qad (Qan (Qad (Qad (s) 32) 4)) 32) 1) : Nat) : Int)], #[.bool false], #[.int .i64 0], ints .u8 (List.replicate 32 0), ints .u8 (List.replicate 32 0), ints .u8 (List.replicate 32 0), #[.slice none 0 0], ints .u8 (List.replicate 32 0)] [ints .u8 (List.replicate 64 0)] _ (.int .i64 ((bigN (Qai (Qad (Qad (Qan (Qad (Qad (s) 32) 4)) 32) 1) 1) : Nat) : Int)) r10_9 rfl kj kj kj (by rw [Qaa, Qaa, Qaa, Qaa, Qaa, Qaa, Qaa, Qaa, Qaa, Qaa, Qaa, Qaa]; simp only [Array.size_append, cat, ((Qac _ _).trans (List.length_replicate (n := 32))), ((Qac _ _).trans (Qap _ (Qal (Qan (Qad (Qad (s) 32) 4)) 32))), ((Qac _ _).trans (Qap _ (Qal (s) 32)))]; rfl) rfl rfl) fun W10 p10 r10_10 => ?_
  have x10 : ExtB gr w W10 := ExtB.putsN x9 p10 b10
  refine Qaf ?_
  refine hK11 _ _ ?_
  refine wp_seq_k fun K18 hK18 => ?_
  refine Qae ?_
  refine Qab (.pointer (some ⟨gr, 0, none⟩)) 37 rfl kj kj ?_
  have rs19 := (RSt.put rs17 hB p10 (Nat.lt_of_lt_of_le hgr b10))
  refine Qak (fun v W' => ExtB gr W10 W' ∧ RSt B gr (Qad (Qan (Qad (Qad (Qan (Qad (Qad (s) 32) 4)) 32) 1)) 64) W' ∧ (fun (v : Value) (_ : World) => v = .agg (ints .u8 (Qbq (Qai (Qan (Qad (Qad (Qan (Qad (Qad (s) 32) 4)) 32) 1)) 64)))) v W') 112 #[.pointer (some ⟨gr, 0, none⟩)] 38 rfl kj kj (Qey B gr _ _ hB rs19) fun vv20 W11 hh20 => ?_
  obtain ⟨q11, rs20, hv20⟩ := hh20
  have x11 : ExtB gr w W11 := ExtB.tr x10 q11
  subst hv20
  refine Qab (.pointer (some ⟨g10, 199, none⟩)) 39 rfl kj kj ?_
  have r10_11 := (ExtB.row q11 r10_10 (Ne.symm (Nat.ne_of_lt (Nat.lt_of_lt_of_le hgr b10))))
  refine Qa3 g10 _ (cat [ints .u8 (keyV (Qai (s) 32)), #[.int .i64 ((bigN (Qai (Qad (s) 32) 4) : Nat) : Int)], #[.int .i64 ((bigN (Qai (Qad (Qad (s) 32) 4) 1) : Nat) : Int)], ints .u8 (keyV (Qai (Qan (Qad (Qad (s) 32) 4)) 32)), #[.int .i64 ((bigN (Qai (Qad (Qan (Qad (Qad (s) 32) 4)) 32) 1) : Nat) : Int)], #[.bool false], #[.int .i64 0], ints .u8 (List.replicate 32 0), ints .u8 (List.replicate 32 0), ints .u8 (List.replicate 32 0), #[.slice none 0 0], ints .u8 (List.replicate 32 0), #[.int .i64 ((bigN (Qai (Qad (Qad (Qan (Qad (Qad (s) 32) 4)) 32) 1) 1) : Nat) : Int)], ints .u8 (Qbq (Qai (Qan (Qad (Qad (Qan (Qad (Qad (s) 32) 4)) 32) 1)) 64))]) 47 r10_11 rfl kj (Qb1 45 _ _ g10 199 47 [ints .u8 (keyV (Qai (s) 32)), #[.int .i64 ((bigN (Qai (Qad (s) 32) 4) : Nat) : Int)], #[.int .i64 ((bigN (Qai (Qad (Qad (s) 32) 4) 1) : Nat) : Int)], ints .u8 (keyV (Qai (Qan (Qad (Qad (s) 32) 4)) 32)), #[.int .i64 ((bigN (Qai (Qad (Qan (Qad (Qad (s) 32) 4)) 32) 1) : Nat) : Int)], #[.bool false], #[.int .i64 0], ints .u8 (List.replicate 32 0), ints .u8 (List.replicate 32 0), ints .u8 (List.replicate 32 0), #[.slice none 0 0], ints .u8 (List.replicate 32 0), #[.int .i64 ((bigN (Qai (Qad (Qad (Qan (Qad (Qad (s) 32) 4)) 32) 1) 1) : Nat) : Int)]] [ints .u8 (List.replicate 64 0)] [ints .u8 (Qbq (Qai (Qan (Qad (Qad (Qan (Qad (Qad (s) 32) 4)) 32) 1)) 64))] [] r10_11 rfl kj kj (isz (n := 64) kj ((Qac _ _).trans (QaF _ (Qal (Qan (Qad (Qad (Qan (Qad (Qad (s) 32) 4)) 32) 1)) 64)))) (by rw [Qaa, Qaa, Qaa, Qaa, Qaa, Qaa, Qaa, Qaa, Qaa, Qaa, Qaa, Qaa, Qaa]; simp only [Array.size_append, cat, ((Qac _ _).trans (List.length_replicate (n := 32))), ((Qac _ _).trans (Qap _ (Qal (Qan (Qad (Qad (s) 32) 4)) 32))), ((Qac _ _).trans (Qap _ (Qal (s) 32)))]; rfl) (eqsz (n := 64) ((Qac _ _).trans (QaF _ (Qal (Qan (Qad (Qad (Qan (Qad (Qad (s) 32) 4)) 32) 1)) 64))) ((Qac _ _).trans (List.length_replicate (n := 64)))) (Qas _ _)) fun W12 p12 r10_12 => ?_
  have x12 : ExtB gr w W12 := ExtB.putsN x11 p12 b10
  refine Qaf ?_
  refine hK18 _ _ ?_
  refine wp_seq_k fun K21 hK21 => ?_
  refine Qae ?_
  refine Qab (.agg (cat [ints .u8 (keyV (Qai (s) 32)), #[.int .i64 ((bigN (Qai (Qad (s) 32) 4) : Nat) : Int)], #[.int .i64 ((bigN (Qai (Qad (Qad (s) 32) 4) 1) : Nat) : Int)], ints .u8 (keyV (Qai (Qan (Qad (Qad (s) 32) 4)) 32)), #[.int .i64 ((bigN (Qai (Qad (Qan (Qad (Qad (s) 32) 4)) 32) 1) : Nat) : Int)], #[.bool false], #[.int .i64 0], ints .u8 (List.replicate 32 0), ints .u8 (List.replicate 32 0), ints .u8 (List.replicate 32 0), #[.slice none 0 0], ints .u8 (List.replicate 32 0), #[.int .i64 ((bigN (Qai (Qad (Qad (Qan (Qad (Qad (s) 32) 4)) 32) 1) 1) : Nat) : Int)], ints .u8 (Qbq (Qai (Qan (Qad (Qad (Qan (Qad (Qad (s) 32) 4)) 32) 1)) 64))])) 40 rfl kj (QaA 47 _ g10 47 _ _ r10_12 rfl kj kj (isz (n := 263) kj (by rw [Qaa, Qaa, Qaa, Qaa, Qaa, Qaa, Qaa, Qaa, Qaa, Qaa, Qaa, Qaa, Qaa, Qaa]; simp only [Array.size_append, cat, ((Qac _ _).trans (List.length_replicate (n := 32))), ((Qac _ _).trans (Qap _ (Qal (Qan (Qad (Qad (s) 32) 4)) 32))), ((Qac _ _).trans (Qap _ (Qal (s) 32))), ((Qac _ _).trans (QaF _ (Qal (Qan (Qad (Qad (Qan (Qad (Qad (s) 32) 4)) 32) 1)) 64)))]; rfl))) ?_
  have r2_2 := (ExtB.row q2 r2_1 (Ne.symm (Nat.ne_of_lt (Nat.lt_of_lt_of_le hgr b2))))
  have r2_3 := (ExtB.row q3 r2_2 (Ne.symm (Nat.ne_of_lt (Nat.lt_of_lt_of_le hgr b2))))
  have r2_4 := (ExtB.row q4 r2_3 (Ne.symm (Nat.ne_of_lt (Nat.lt_of_lt_of_le hgr b2))))
  have r2_5 := (ExtB.row q5 r2_4 (Ne.symm (Nat.ne_of_lt (Nat.lt_of_lt_of_le hgr b2))))
  have r2_6 := (ExtB.row q6 r2_5 (Ne.symm (Nat.ne_of_lt (Nat.lt_of_lt_of_le hgr b2))))
  have r2_7 := (Qar r2_6 e7)
  have r2_8 := (Puts.row p8 r2_7 (QaI r2_6 l10))
  have r2_9 := (ExtB.row q9 r2_8 (Ne.symm (Nat.ne_of_lt (Nat.lt_of_lt_of_le hgr b2))))
  have r2_10 := (Puts.row p10 r2_9 (QaI r2_6 l10))
  have r2_11 := (ExtB.row q11 r2_10 (Ne.symm (Nat.ne_of_lt (Nat.lt_of_lt_of_le hgr b2))))
  have r2_12 := (Puts.row p12 r2_11 (QaI r2_6 l10))
  refine Qa3 g2 _ (cat [ints .u8 (keyV (Qai (s) 32)), #[.int .i64 ((bigN (Qai (Qad (s) 32) 4) : Nat) : Int)], #[.int .i64 ((bigN (Qai (Qad (Qad (s) 32) 4) 1) : Nat) : Int)], ints .u8 (keyV (Qai (Qan (Qad (Qad (s) 32) 4)) 32)), #[.int .i64 ((bigN (Qai (Qad (Qan (Qad (Qad (s) 32) 4)) 32) 1) : Nat) : Int)], #[.bool false], #[.int .i64 0], ints .u8 (List.replicate 32 0), ints .u8 (List.replicate 32 0), ints .u8 (List.replicate 32 0), #[.slice none 0 0], ints .u8 (List.replicate 32 0), #[.int .i64 ((bigN (Qai (Qad (Qad (Qan (Qad (Qad (s) 32) 4)) 32) 1) 1) : Nat) : Int)], ints .u8 (Qbq (Qai (Qan (Qad (Qad (Qan (Qad (Qad (s) 32) 4)) 32) 1)) 64))]) 47 r2_12 rfl kj (Qa0 47 _ _ g2 47 _ _ r2_12 rfl kj kj (isz (n := 263) kj (by rw [Qaa, Qaa, Qaa, Qaa, Qaa, Qaa, Qaa, Qaa, Qaa, Qaa, Qaa, Qaa, Qaa, Qaa]; simp only [Array.size_append, cat, ((Qac _ _).trans (List.length_replicate (n := 32))), ((Qac _ _).trans (Qap _ (Qal (Qan (Qad (Qad (s) 32) 4)) 32))), ((Qac _ _).trans (Qap _ (Qal (s) 32))), ((Qac _ _).trans (QaF _ (Qal (Qan (Qad (Qad (Qan (Qad (Qad (s) 32) 4)) 32) 1)) 64)))]; rfl)) (eqsz (n := 263) (by rw [Qaa, Qaa, Qaa, Qaa, Qaa, Qaa, Qaa, Qaa, Qaa, Qaa, Qaa, Qaa, Qaa, Qaa]; simp only [Array.size_append, cat, ((Qac _ _).trans (List.length_replicate (n := 32))), ((Qac _ _).trans (List.length_replicate (n := 64)))]; rfl) (by rw [Qaa, Qaa, Qaa, Qaa, Qaa, Qaa, Qaa, Qaa, Qaa, Qaa, Qaa, Qaa, Qaa, Qaa]; simp only [Array.size_append, cat, ((Qac _ _).trans (List.length_replicate (n := 32))), ((Qac _ _).trans (Qap _ (Qal (Qan (Qad (Qad (s) 32) 4)) 32))), ((Qac _ _).trans (Qap _ (Qal (s) 32))), ((Qac _ _).trans (QaF _ (Qal (Qan (Qad (Qad (Qan (Qad (Qad (s) 32) 4)) 32) 1)) 64)))]; rfl)) (QaX _ (by intro a ha; simp only [List.mem_cons, List.not_mem_nil, or_false] at ha; rcases ha with rfl | rfl | rfl | rfl | rfl | rfl | rfl | rfl | rfl | rfl | rfl | rfl | rfl | rfl; exact (Qas _ _); exact (Qaq _ rfl); exact (Qaq _ rfl); exact (Qas _ _); exact (Qaq _ rfl); exact (Qaq _ rfl); exact (Qaq _ rfl); exact (Qas _ _); exact (Qas _ _); exact (Qas _ _); exact (Qaq _ rfl); exact (Qas _ _); exact (Qaq _ rfl); exact (Qas _ _)))) fun W13 p13 r2_13 => ?_
  have x13 : ExtB gr w W13 := ExtB.putsN x12 p13 b2
  refine Qaf ?_
  refine hK21 _ _ ?_
  refine wp_ret ?_
  repeat (first | with_reducible refine goR1 ?_ | with_reducible refine goR2 ?_)
  have rs22 := (RSt.put (RSt.put rs20 hB p12 (Nat.lt_of_lt_of_le hgr b10)) hB p13 (Nat.lt_of_lt_of_le hgr b2))
  exact (show bodyPost _ _ _ .ret _ _ from ret1 (.agg (cat [ints .u8 (keyV (Qai (s) 32)), #[.int .i64 ((bigN (Qai (Qad (s) 32) 4) : Nat) : Int)], #[.int .i64 ((bigN (Qai (Qad (Qad (s) 32) 4) 1) : Nat) : Int)], ints .u8 (keyV (Qai (Qan (Qad (Qad (s) 32) 4)) 32)), #[.int .i64 ((bigN (Qai (Qad (Qan (Qad (Qad (s) 32) 4)) 32) 1) : Nat) : Int)], #[.bool false], #[.int .i64 0], ints .u8 (List.replicate 32 0), ints .u8 (List.replicate 32 0), ints .u8 (List.replicate 32 0), #[.slice none 0 0], ints .u8 (List.replicate 32 0), #[.int .i64 ((bigN (Qai (Qad (Qad (Qan (Qad (Qad (s) 32) 4)) 32) 1) 1) : Nat) : Int)], ints .u8 (Qbq (Qai (Qan (Qad (Qad (Qan (Qad (Qad (s) 32) 4)) 32) 1)) 64))])) rfl (Qbk g2 47 _ r2_13 kj kj (isz (n := 263) kj (by rw [Qaa, Qaa, Qaa, Qaa, Qaa, Qaa, Qaa, Qaa, Qaa, Qaa, Qaa, Qaa, Qaa, Qaa]; simp only [Array.size_append, cat, ((Qac _ _).trans (List.length_replicate (n := 32))), ((Qac _ _).trans (Qap _ (Qal (Qan (Qad (Qad (s) 32) 4)) 32))), ((Qac _ _).trans (Qap _ (Qal (s) 32))), ((Qac _ _).trans (QaF _ (Qal (Qan (Qad (Qad (Qan (Qad (Qad (s) 32) 4)) 32) 1)) 64)))]; rfl))) ⟨_, rfl, x13, (show RSt B gr (Qa2 s) _ by have h9 := rs22; unfold Qa2; rw [eM]; exact h9), [], _, _, by rw [eUs, eNm, eKy, eSg, ePa, eSt, eAt]; unfold qSig; rw [eM]; rfl, Qco _ _ _ _, by decide, fun _ => by rw [eL]⟩)
set_option maxHeartbeats 4000000 in
set_option maxRecDepth 100000 in
theorem QhD (B gr : Nat) (s : Option (List Int)) (w : World) (hB : B ≤ gr) (h : RSt B gr s w) (hk : bigN (Qai (qS4 s) 1) < 1 ∨ 3 < bigN (Qai (qS4 s) 1)) : Calls Try.prog 61 #[.pointer (some ⟨gr, 0, none⟩)] w (QbB B gr w (Qa2 s) fun v W => ∃ (xz : List Int) (a : Option Addr) (c : Nat), v = .agg (cat [ints .u8 (qGrp s), #[.int .i64 (qEp s)], #[.int .i64 (qFr s)], ints .u8 (qBa s), #[.int .i64 ((qKd s : Nat) : Int)], #[.bool (qUs s)], #[.int .i64 (qNm s)], ints .u8 (qKy s), ints .u8 (qSg s), ints .u8 (qPa s), #[.slice a xz.length c], ints .u8 (qSt s), #[.int .i64 (qAt s)], ints .u8 (qSig s)]) ∧ OwnN .i64 3 w.heap.size xz (.slice a xz.length c) W ∧ xz.length ≤ 255 ∧ (Qa2 s ≠ none → xz = qL s)) := by
  have hgr := h.lt
  have hk2 : bigN (Qai (Qad (Qan (Qad (Qad s 32) 4)) 32) 1) = qKd s := rfl
  unfold qKd at hk2
  have hk0 : qKd s = bigN (Qai (qS4 s) 1) := rfl
  have k1 : (qKd s == 1) = false := beq_eq_false_iff_ne.2 (show qKd s ≠ 1 by omega)
  have k2 : (qKd s == 2) = false := beq_eq_false_iff_ne.2 (show qKd s ≠ 2 by omega)
  have k3 : (qKd s == 3) = false := beq_eq_false_iff_ne.2 (show qKd s ≠ 3 by omega)
  have kn : qNd s = false := by unfold qNd; rw [k1, k2]; rfl
  have eUs : qUs s = false := by unfold qUs; rw [kn]; rfl
  have eNm : qNm s = 0 := by unfold qNm; rw [kn]; rfl
  have eKy : qKy s = List.replicate 32 0 := by unfold qKy; rw [kn]; rfl
  have eSg : qSg s = List.replicate 32 0 := by unfold qSg; rw [kn]; rfl
  have ePa : qPa s = List.replicate 32 0 := by unfold qPa; rw [kn]; rfl
  have eL : qL s = [] := by unfold qL; rw [kn]; rfl
  have eSt : qSt s = List.replicate 32 0 := by unfold qSt; rw [k1]; rfl
  have eAt : qAt s = 0 := by unfold qAt; rw [k3]; rfl
  have eM : Qcz s = Qa4 (qS5 s) false := by unfold Qcz; rw [k1, k2, k3]; rfl
  refine enter 41 [(0, .pointer (some ⟨gr, 0, none⟩))] Try.func61 rfl rfl kj rfl ?_
  refine wp_seq_k fun K1 hK1 => ?_
  refine Qae ?_
  refine Qav (cat [ints .u8 (List.replicate 32 0), #[.int .i64 0], #[.int .i64 0], ints .u8 (List.replicate 32 0), #[.int .i64 0], #[.bool false], #[.int .i64 0], ints .u8 (List.replicate 32 0), ints .u8 (List.replicate 32 0), ints .u8 (List.replicate 32 0), #[.slice none 0 0], ints .u8 (List.replicate 32 0), #[.int .i64 0], ints .u8 (List.replicate 64 0)]) 47 2 rfl kj (Qbe 47 _ rfl (Qcd _)) fun g2 W1 l2 e1 r2_1 => ?_
  have x1 : ExtB gr w W1 := ExtB.ext (ExtB.refl gr w) e1
  have b2 : w.heap.size ≤ g2 := Nat.le_trans (ExtB.refl gr w).size l2
  refine Qaf ?_
  refine hK1 _ _ ?_
  refine wp_seq_k fun K3 hK3 => ?_
  refine Qae ?_
  refine Qab (.pointer (some ⟨gr, 0, none⟩)) 4 rfl kj kj ?_
  have rs4 := (RSt.ext h hB e1)
  refine Qak (fun v W' => ExtB gr W1 W' ∧ RSt B gr (Qad (s) 32) W' ∧ (fun (v : Value) (_ : World) => v = .agg (ints .u8 (keyV (Qai (s) 32)))) v W') 109 #[.pointer (some ⟨gr, 0, none⟩)] 5 rfl kj kj (Qcg B gr _ _ hB rs4) fun vv5 W2 hh5 => ?_
  obtain ⟨q2, rs5, hv5⟩ := hh5
  have x2 : ExtB gr w W2 := ExtB.tr x1 q2
  subst hv5
  refine Qab (.pointer (some ⟨gr, 0, none⟩)) 6 rfl kj kj ?_
  refine Qak (fun v W' => ExtB gr W2 W' ∧ RSt B gr (Qad (Qad (s) 32) 4) W' ∧ (fun (v : Value) (_ : World) => v = .int .i64 ((bigN (Qai (Qad (s) 32) 4) : Nat) : Int)) v W') 110 #[.pointer (some ⟨gr, 0, none⟩), .int .i64 4] 7 rfl kj kj (Qbg B gr _ 4 _ hB rs5 (by decide)) fun vv6 W3 hh6 => ?_
  obtain ⟨q3, rs6, hv6⟩ := hh6
  have x3 : ExtB gr w W3 := ExtB.tr x2 q3
  subst hv6
  refine Qab (.pointer (some ⟨gr, 0, none⟩)) 8 rfl kj kj ?_
  refine Qak (fun v W' => ExtB gr W3 W' ∧ RSt B gr (Qan (Qad (Qad (s) 32) 4)) W' ∧ (fun (v : Value) (_ : World) => v = .int .i64 ((bigN (Qai (Qad (Qad (s) 32) 4) 1) : Nat) : Int)) v W') 111 #[.pointer (some ⟨gr, 0, none⟩)] 9 rfl kj kj (Qdk B gr _ _ hB rs6) fun vv7 W4 hh7 => ?_
  obtain ⟨q4, rs7, hv7⟩ := hh7
  have x4 : ExtB gr w W4 := ExtB.tr x3 q4
  subst hv7
  refine Qab (.pointer (some ⟨gr, 0, none⟩)) 10 rfl kj kj ?_
  refine Qak (fun v W' => ExtB gr W4 W' ∧ RSt B gr (Qad (Qan (Qad (Qad (s) 32) 4)) 32) W' ∧ (fun (v : Value) (_ : World) => v = .agg (ints .u8 (keyV (Qai (Qan (Qad (Qad (s) 32) 4)) 32)))) v W') 109 #[.pointer (some ⟨gr, 0, none⟩)] 11 rfl kj kj (Qcg B gr _ _ hB rs7) fun vv8 W5 hh8 => ?_
  obtain ⟨q5, rs8, hv8⟩ := hh8
  have x5 : ExtB gr w W5 := ExtB.tr x4 q5
  subst hv8
  refine Qab (.pointer (some ⟨gr, 0, none⟩)) 12 rfl kj kj ?_
  refine Qak (fun v W' => ExtB gr W5 W' ∧ RSt B gr (Qad (Qad (Qan (Qad (Qad (s) 32) 4)) 32) 1) W' ∧ (fun (v : Value) (_ : World) => v = .int .i64 ((bigN (Qai (Qad (Qan (Qad (Qad (s) 32) 4)) 32) 1) : Nat) : Int)) v W') 110 #[.pointer (some ⟨gr, 0, none⟩), .int .i64 1] 13 rfl kj kj (Qbg B gr _ 1 _ hB rs8 (by decide)) fun vv9 W6 hh9 => ?_
  obtain ⟨q6, rs9, hv9⟩ := hh9
  have x6 : ExtB gr w W6 := ExtB.tr x5 q6
  subst hv9
  refine Qab (.agg (cat [ints .u8 (keyV (Qai (s) 32)), #[.int .i64 ((bigN (Qai (Qad (s) 32) 4) : Nat) : Int)], #[.int .i64 ((bigN (Qai (Qad (Qad (s) 32) 4) 1) : Nat) : Int)], ints .u8 (keyV (Qai (Qan (Qad (Qad (s) 32) 4)) 32)), #[.int .i64 ((bigN (Qai (Qad (Qan (Qad (Qad (s) 32) 4)) 32) 1) : Nat) : Int)], #[.bool false], #[.int .i64 0], ints .u8 (List.replicate 32 0), ints .u8 (List.replicate 32 0), ints .u8 (List.replicate 32 0), #[.slice none 0 0], ints .u8 (List.replicate 32 0), #[.int .i64 0], ints .u8 (List.replicate 64 0)])) 14 rfl kj (Qcc 47 _ [ints .u8 (List.replicate 32 0), #[.int .i64 0], #[.int .i64 0], ints .u8 (List.replicate 32 0), #[.int .i64 0]] [#[.bool false], #[.int .i64 0], ints .u8 (List.replicate 32 0), ints .u8 (List.replicate 32 0), ints .u8 (List.replicate 32 0), #[.slice none 0 0], ints .u8 (List.replicate 32 0), #[.int .i64 0], ints .u8 (List.replicate 64 0)] #[(0, 32), (32, 1), (33, 1), (34, 32), (66, 1), (67, 99), (166, 32), (198, 1), (199, 64)] [(0, 32, .agg (ints .u8 (keyV (Qai (s) 32))), ints .u8 (keyV (Qai (s) 32))), (1, 1, .int .i64 ((bigN (Qai (Qad (s) 32) 4) : Nat) : Int), #[.int .i64 ((bigN (Qai (Qad (s) 32) 4) : Nat) : Int)]), (2, 1, .int .i64 ((bigN (Qai (Qad (Qad (s) 32) 4) 1) : Nat) : Int), #[.int .i64 ((bigN (Qai (Qad (Qad (s) 32) 4) 1) : Nat) : Int)]), (3, 32, .agg (ints .u8 (keyV (Qai (Qan (Qad (Qad (s) 32) 4)) 32))), ints .u8 (keyV (Qai (Qan (Qad (Qad (s) 32) 4)) 32))), (4, 1, .int .i64 ((bigN (Qai (Qad (Qan (Qad (Qad (s) 32) 4)) 32) 1) : Nat) : Int), #[.int .i64 ((bigN (Qai (Qad (Qan (Qad (Qad (s) 32) 4)) 32) 1) : Nat) : Int)])] rfl kj ⟨kj, rfl, ((Qac _ _).trans (Qap _ (Qal (s) 32))), kj, rfl, kj, kj, rfl, kj, kj, rfl, ((Qac _ _).trans (Qap _ (Qal (Qan (Qad (Qad (s) 32) 4)) 32))), kj, rfl, kj, trivial⟩ kj (Qcd _) kj kj) ?_
  refine Qav (cat [ints .u8 (List.replicate 32 0), #[.int .i64 0], #[.int .i64 0], ints .u8 (List.replicate 32 0), #[.int .i64 0], #[.bool false], #[.int .i64 0], ints .u8 (List.replicate 32 0), ints .u8 (List.replicate 32 0), ints .u8 (List.replicate 32 0), #[.slice none 0 0], ints .u8 (List.replicate 32 0), #[.int .i64 0], ints .u8 (List.replicate 64 0)]) 47 3 rfl kj (Qbe 47 _ rfl (Qcd _)) fun g10 W7 l10 e7 r10_7 => ?_
  have x7 : ExtB gr w W7 := ExtB.ext x6 e7
  have b10 : w.heap.size ≤ g10 := Nat.le_trans x6.size l10
  refine Qa3 g10 _ (cat [ints .u8 (keyV (Qai (s) 32)), #[.int .i64 ((bigN (Qai (Qad (s) 32) 4) : Nat) : Int)], #[.int .i64 ((bigN (Qai (Qad (Qad (s) 32) 4) 1) : Nat) : Int)], ints .u8 (keyV (Qai (Qan (Qad (Qad (s) 32) 4)) 32)), #[.int .i64 ((bigN (Qai (Qad (Qan (Qad (Qad (s) 32) 4)) 32) 1) : Nat) : Int)], #[.bool false], #[.int .i64 0], ints .u8 (List.replicate 32 0), ints .u8 (List.replicate 32 0), ints .u8 (List.replicate 32 0), #[.slice none 0 0], ints .u8 (List.replicate 32 0), #[.int .i64 0], ints .u8 (List.replicate 64 0)]) 47 r10_7 rfl kj (Qa0 47 _ _ g10 47 _ _ r10_7 rfl kj kj (isz (n := 263) kj (by rw [Qaa, Qaa, Qaa, Qaa, Qaa, Qaa, Qaa, Qaa, Qaa, Qaa, Qaa, Qaa, Qaa, Qaa]; simp only [Array.size_append, cat, ((Qac _ _).trans (List.length_replicate (n := 32))), ((Qac _ _).trans (List.length_replicate (n := 64))), ((Qac _ _).trans (Qap _ (Qal (Qan (Qad (Qad (s) 32) 4)) 32))), ((Qac _ _).trans (Qap _ (Qal (s) 32)))]; rfl)) (eqsz (n := 263) (by rw [Qaa, Qaa, Qaa, Qaa, Qaa, Qaa, Qaa, Qaa, Qaa, Qaa, Qaa, Qaa, Qaa, Qaa]; simp only [Array.size_append, cat, ((Qac _ _).trans (List.length_replicate (n := 32))), ((Qac _ _).trans (List.length_replicate (n := 64)))]; rfl) (by rw [Qaa, Qaa, Qaa, Qaa, Qaa, Qaa, Qaa, Qaa, Qaa, Qaa, Qaa, Qaa, Qaa, Qaa]; simp only [Array.size_append, cat, ((Qac _ _).trans (List.length_replicate (n := 32))), ((Qac _ _).trans (List.length_replicate (n := 64))), ((Qac _ _).trans (Qap _ (Qal (Qan (Qad (Qad (s) 32) 4)) 32))), ((Qac _ _).trans (Qap _ (Qal (s) 32)))]; rfl)) (QaX _ (by intro a ha; simp only [List.mem_cons, List.not_mem_nil, or_false] at ha; rcases ha with rfl | rfl | rfl | rfl | rfl | rfl | rfl | rfl | rfl | rfl | rfl | rfl | rfl | rfl; exact (Qas _ _); exact (Qaq _ rfl); exact (Qaq _ rfl); exact (Qas _ _); exact (Qaq _ rfl); exact (Qaq _ rfl); exact (Qaq _ rfl); exact (Qas _ _); exact (Qas _ _); exact (Qas _ _); exact (Qaq _ rfl); exact (Qas _ _); exact (Qaq _ rfl); exact (Qas _ _)))) fun W8 p8 r10_8 => ?_
  have x8 : ExtB gr w W8 := ExtB.putsN x7 p8 b10
  refine Qaf ?_
  refine hK3 _ _ ?_
  refine wp_seq_k fun K11 hK11 => ?_
  refine wp_seq_k fun K12 hK12 => ?_
  refine Qae ?_
  refine Qab (.pointer (some ⟨g10, 66, none⟩)) 15 rfl kj kj ?_
  refine Qab (.int .i64 ((bigN (Qai (Qad (Qan (Qad (Qad (s) 32) 4)) 32) 1) : Nat) : Int)) 16 rfl kj (Qag 3 _ g10 66 47 _ (.int .i64 ((bigN (Qai (Qad (Qan (Qad (Qad (s) 32) 4)) 32) 1) : Nat) : Int)) _ r10_8 rfl kj (Qah [ints .u8 (keyV (Qai (s) 32)), #[.int .i64 ((bigN (Qai (Qad (s) 32) 4) : Nat) : Int)], #[.int .i64 ((bigN (Qai (Qad (Qad (s) 32) 4) 1) : Nat) : Int)], ints .u8 (keyV (Qai (Qan (Qad (Qad (s) 32) 4)) 32))] [#[.int .i64 ((bigN (Qai (Qad (Qan (Qad (Qad (s) 32) 4)) 32) 1) : Nat) : Int)]] [#[.bool false], #[.int .i64 0], ints .u8 (List.replicate 32 0), ints .u8 (List.replicate 32 0), ints .u8 (List.replicate 32 0), #[.slice none 0 0], ints .u8 (List.replicate 32 0), #[.int .i64 0], ints .u8 (List.replicate 64 0)] 66 (by rw [Qaa, Qaa, Qaa, Qaa]; simp only [Array.size_append, cat, ((Qac _ _).trans (Qap _ (Qal (Qan (Qad (Qad (s) 32) 4)) 32))), ((Qac _ _).trans (Qap _ (Qal (s) 32)))]; rfl) 0 _ rfl) kj) ?_
  refine Qaf ?_
  refine hK12 _ _ ?_
  refine wp_block ?_
  refine wp_seq_k fun K13 hK13 => ?_
  refine Qae ?_
  refine Qab (.bool false) 20 rfl kj (Qax (u := .bool ((((bigN (Qai (Qad (Qan (Qad (Qad (s) 32) 4)) 32) 1) : Nat) : Int) == 1))) kj (congrArg Value.bool (beq_eq_false_iff_ne.2 (by omega)))) ?_
  refine Qab (.bool false) 19 rfl kj kj ?_
  refine Qaf ?_
  refine hK13 _ _ ?_
  refine cond_false kj ?_
  refine wp_seq_k fun K14 hK14 => ?_
  refine Qae ?_
  refine Qab (.bool false) 28 rfl kj (Qax (u := .bool ((((bigN (Qai (Qad (Qan (Qad (Qad (s) 32) 4)) 32) 1) : Nat) : Int) == 2))) kj (congrArg Value.bool (beq_eq_false_iff_ne.2 (by omega)))) ?_
  refine Qab (.bool false) 27 rfl kj kj ?_
  refine Qaf ?_
  refine hK14 _ _ ?_
  refine cond_false kj ?_
  refine wp_seq_k fun K15 hK15 => ?_
  refine Qae ?_
  refine Qab (.bool false) 33 rfl kj (Qax (u := .bool ((((bigN (Qai (Qad (Qan (Qad (Qad (s) 32) 4)) 32) 1) : Nat) : Int) == 3))) kj (congrArg Value.bool (beq_eq_false_iff_ne.2 (by omega)))) ?_
  refine Qab (.bool false) 32 rfl kj kj ?_
  refine Qaf ?_
  refine hK15 _ _ ?_
  refine cond_false kj ?_
  refine Qae ?_
  refine Qab (.pointer (some ⟨gr, 0, none⟩)) 17 rfl kj kj ?_
  have rs16 := (RSt.put (RSt.ext rs9 hB e7) hB p8 (Nat.lt_of_lt_of_le hgr b10))
  refine Qak (fun v W' => ExtB gr W8 W' ∧ RSt B gr (Qa4 (Qad (Qad (Qan (Qad (Qad (s) 32) 4)) 32) 1) false) W' ∧ (fun (v : Value) (_ : World) => v = .tuple #[]) v W') 103 #[.pointer (some ⟨gr, 0, none⟩), .bool false] 18 rfl kj kj (QcN B gr _ false _ hB rs16) fun vv17 W9 hh17 => ?_
  obtain ⟨q9, rs17, hv17⟩ := hh17
  have x9 : ExtB gr w W9 := ExtB.tr x8 q9
  subst hv17
  refine Qaf ?_
  refine hK11 _ _ ?_
  refine wp_seq_k fun K18 hK18 => ?_
  refine Qae ?_
  refine Qab (.pointer (some ⟨gr, 0, none⟩)) 37 rfl kj kj ?_
  refine Qak (fun v W' => ExtB gr W9 W' ∧ RSt B gr (Qad (Qa4 (Qad (Qad (Qan (Qad (Qad (s) 32) 4)) 32) 1) false) 64) W' ∧ (fun (v : Value) (_ : World) => v = .agg (ints .u8 (Qbq (Qai (Qa4 (Qad (Qad (Qan (Qad (Qad (s) 32) 4)) 32) 1) false) 64)))) v W') 112 #[.pointer (some ⟨gr, 0, none⟩)] 38 rfl kj kj (Qey B gr _ _ hB rs17) fun vv19 W10 hh19 => ?_
  obtain ⟨q10, rs19, hv19⟩ := hh19
  have x10 : ExtB gr w W10 := ExtB.tr x9 q10
  subst hv19
  refine Qab (.pointer (some ⟨g10, 199, none⟩)) 39 rfl kj kj ?_
  have r10_9 := (ExtB.row q9 r10_8 (Ne.symm (Nat.ne_of_lt (Nat.lt_of_lt_of_le hgr b10))))
  have r10_10 := (ExtB.row q10 r10_9 (Ne.symm (Nat.ne_of_lt (Nat.lt_of_lt_of_le hgr b10))))
  refine Qa3 g10 _ (cat [ints .u8 (keyV (Qai (s) 32)), #[.int .i64 ((bigN (Qai (Qad (s) 32) 4) : Nat) : Int)], #[.int .i64 ((bigN (Qai (Qad (Qad (s) 32) 4) 1) : Nat) : Int)], ints .u8 (keyV (Qai (Qan (Qad (Qad (s) 32) 4)) 32)), #[.int .i64 ((bigN (Qai (Qad (Qan (Qad (Qad (s) 32) 4)) 32) 1) : Nat) : Int)], #[.bool false], #[.int .i64 0], ints .u8 (List.replicate 32 0), ints .u8 (List.replicate 32 0), ints .u8 (List.replicate 32 0), #[.slice none 0 0], ints .u8 (List.replicate 32 0), #[.int .i64 0], ints .u8 (Qbq (Qai (Qa4 (Qad (Qad (Qan (Qad (Qad (s) 32) 4)) 32) 1) false) 64))]) 47 r10_10 rfl kj (Qb1 45 _ _ g10 199 47 [ints .u8 (keyV (Qai (s) 32)), #[.int .i64 ((bigN (Qai (Qad (s) 32) 4) : Nat) : Int)], #[.int .i64 ((bigN (Qai (Qad (Qad (s) 32) 4) 1) : Nat) : Int)], ints .u8 (keyV (Qai (Qan (Qad (Qad (s) 32) 4)) 32)), #[.int .i64 ((bigN (Qai (Qad (Qan (Qad (Qad (s) 32) 4)) 32) 1) : Nat) : Int)], #[.bool false], #[.int .i64 0], ints .u8 (List.replicate 32 0), ints .u8 (List.replicate 32 0), ints .u8 (List.replicate 32 0), #[.slice none 0 0], ints .u8 (List.replicate 32 0), #[.int .i64 0]] [ints .u8 (List.replicate 64 0)] [ints .u8 (Qbq (Qai (Qa4 (Qad (Qad (Qan (Qad (Qad (s) 32) 4)) 32) 1) false) 64))] [] r10_10 rfl kj kj (isz (n := 64) kj ((Qac _ _).trans (QaF _ (Qal (Qa4 (Qad (Qad (Qan (Qad (Qad (s) 32) 4)) 32) 1) false) 64)))) (by rw [Qaa, Qaa, Qaa, Qaa, Qaa, Qaa, Qaa, Qaa, Qaa, Qaa, Qaa, Qaa, Qaa]; simp only [Array.size_append, cat, ((Qac _ _).trans (List.length_replicate (n := 32))), ((Qac _ _).trans (Qap _ (Qal (Qan (Qad (Qad (s) 32) 4)) 32))), ((Qac _ _).trans (Qap _ (Qal (s) 32)))]; rfl) (eqsz (n := 64) ((Qac _ _).trans (QaF _ (Qal (Qa4 (Qad (Qad (Qan (Qad (Qad (s) 32) 4)) 32) 1) false) 64))) ((Qac _ _).trans (List.length_replicate (n := 64)))) (Qas _ _)) fun W11 p11 r10_11 => ?_
  have x11 : ExtB gr w W11 := ExtB.putsN x10 p11 b10
  refine Qaf ?_
  refine hK18 _ _ ?_
  refine wp_seq_k fun K20 hK20 => ?_
  refine Qae ?_
  refine Qab (.agg (cat [ints .u8 (keyV (Qai (s) 32)), #[.int .i64 ((bigN (Qai (Qad (s) 32) 4) : Nat) : Int)], #[.int .i64 ((bigN (Qai (Qad (Qad (s) 32) 4) 1) : Nat) : Int)], ints .u8 (keyV (Qai (Qan (Qad (Qad (s) 32) 4)) 32)), #[.int .i64 ((bigN (Qai (Qad (Qan (Qad (Qad (s) 32) 4)) 32) 1) : Nat) : Int)], #[.bool false], #[.int .i64 0], ints .u8 (List.replicate 32 0), ints .u8 (List.replicate 32 0), ints .u8 (List.replicate 32 0), #[.slice none 0 0], ints .u8 (List.replicate 32 0), #[.int .i64 0], ints .u8 (Qbq (Qai (Qa4 (Qad (Qad (Qan (Qad (Qad (s) 32) 4)) 32) 1) false) 64))])) 40 rfl kj (QaA 47 _ g10 47 _ _ r10_11 rfl kj kj (isz (n := 263) kj (by rw [Qaa, Qaa, Qaa, Qaa, Qaa, Qaa, Qaa, Qaa, Qaa, Qaa, Qaa, Qaa, Qaa, Qaa]; simp only [Array.size_append, cat, ((Qac _ _).trans (List.length_replicate (n := 32))), ((Qac _ _).trans (Qap _ (Qal (Qan (Qad (Qad (s) 32) 4)) 32))), ((Qac _ _).trans (Qap _ (Qal (s) 32))), ((Qac _ _).trans (QaF _ (Qal (Qa4 (Qad (Qad (Qan (Qad (Qad (s) 32) 4)) 32) 1) false) 64)))]; rfl))) ?_
  have r2_2 := (ExtB.row q2 r2_1 (Ne.symm (Nat.ne_of_lt (Nat.lt_of_lt_of_le hgr b2))))
  have r2_3 := (ExtB.row q3 r2_2 (Ne.symm (Nat.ne_of_lt (Nat.lt_of_lt_of_le hgr b2))))
  have r2_4 := (ExtB.row q4 r2_3 (Ne.symm (Nat.ne_of_lt (Nat.lt_of_lt_of_le hgr b2))))
  have r2_5 := (ExtB.row q5 r2_4 (Ne.symm (Nat.ne_of_lt (Nat.lt_of_lt_of_le hgr b2))))
  have r2_6 := (ExtB.row q6 r2_5 (Ne.symm (Nat.ne_of_lt (Nat.lt_of_lt_of_le hgr b2))))
  have r2_7 := (Qar r2_6 e7)
  have r2_8 := (Puts.row p8 r2_7 (QaI r2_6 l10))
  have r2_9 := (ExtB.row q9 r2_8 (Ne.symm (Nat.ne_of_lt (Nat.lt_of_lt_of_le hgr b2))))
  have r2_10 := (ExtB.row q10 r2_9 (Ne.symm (Nat.ne_of_lt (Nat.lt_of_lt_of_le hgr b2))))
  have r2_11 := (Puts.row p11 r2_10 (QaI r2_6 l10))
  refine Qa3 g2 _ (cat [ints .u8 (keyV (Qai (s) 32)), #[.int .i64 ((bigN (Qai (Qad (s) 32) 4) : Nat) : Int)], #[.int .i64 ((bigN (Qai (Qad (Qad (s) 32) 4) 1) : Nat) : Int)], ints .u8 (keyV (Qai (Qan (Qad (Qad (s) 32) 4)) 32)), #[.int .i64 ((bigN (Qai (Qad (Qan (Qad (Qad (s) 32) 4)) 32) 1) : Nat) : Int)], #[.bool false], #[.int .i64 0], ints .u8 (List.replicate 32 0), ints .u8 (List.replicate 32 0), ints .u8 (List.replicate 32 0), #[.slice none 0 0], ints .u8 (List.replicate 32 0), #[.int .i64 0], ints .u8 (Qbq (Qai (Qa4 (Qad (Qad (Qan (Qad (Qad (s) 32) 4)) 32) 1) false) 64))]) 47 r2_11 rfl kj (Qa0 47 _ _ g2 47 _ _ r2_11 rfl kj kj (isz (n := 263) kj (by rw [Qaa, Qaa, Qaa, Qaa, Qaa, Qaa, Qaa, Qaa, Qaa, Qaa, Qaa, Qaa, Qaa, Qaa]; simp only [Array.size_append, cat, ((Qac _ _).trans (List.length_replicate (n := 32))), ((Qac _ _).trans (Qap _ (Qal (Qan (Qad (Qad (s) 32) 4)) 32))), ((Qac _ _).trans (Qap _ (Qal (s) 32))), ((Qac _ _).trans (QaF _ (Qal (Qa4 (Qad (Qad (Qan (Qad (Qad (s) 32) 4)) 32) 1) false) 64)))]; rfl)) (eqsz (n := 263) (by rw [Qaa, Qaa, Qaa, Qaa, Qaa, Qaa, Qaa, Qaa, Qaa, Qaa, Qaa, Qaa, Qaa, Qaa]; simp only [Array.size_append, cat, ((Qac _ _).trans (List.length_replicate (n := 32))), ((Qac _ _).trans (List.length_replicate (n := 64)))]; rfl) (by rw [Qaa, Qaa, Qaa, Qaa, Qaa, Qaa, Qaa, Qaa, Qaa, Qaa, Qaa, Qaa, Qaa, Qaa]; simp only [Array.size_append, cat, ((Qac _ _).trans (List.length_replicate (n := 32))), ((Qac _ _).trans (Qap _ (Qal (Qan (Qad (Qad (s) 32) 4)) 32))), ((Qac _ _).trans (Qap _ (Qal (s) 32))), ((Qac _ _).trans (QaF _ (Qal (Qa4 (Qad (Qad (Qan (Qad (Qad (s) 32) 4)) 32) 1) false) 64)))]; rfl)) (QaX _ (by intro a ha; simp only [List.mem_cons, List.not_mem_nil, or_false] at ha; rcases ha with rfl | rfl | rfl | rfl | rfl | rfl | rfl | rfl | rfl | rfl | rfl | rfl | rfl | rfl; exact (Qas _ _); exact (Qaq _ rfl); exact (Qaq _ rfl); exact (Qas _ _); exact (Qaq _ rfl); exact (Qaq _ rfl); exact (Qaq _ rfl); exact (Qas _ _); exact (Qas _ _); exact (Qas _ _); exact (Qaq _ rfl); exact (Qas _ _); exact (Qaq _ rfl); exact (Qas _ _)))) fun W12 p12 r2_12 => ?_
  have x12 : ExtB gr w W12 := ExtB.putsN x11 p12 b2
  refine Qaf ?_
  refine hK20 _ _ ?_
  refine wp_ret ?_
  repeat (first | with_reducible refine goR1 ?_ | with_reducible refine goR2 ?_)
  have rs21 := (RSt.put (RSt.put rs19 hB p11 (Nat.lt_of_lt_of_le hgr b10)) hB p12 (Nat.lt_of_lt_of_le hgr b2))
  exact (show bodyPost _ _ _ .ret _ _ from ret1 (.agg (cat [ints .u8 (keyV (Qai (s) 32)), #[.int .i64 ((bigN (Qai (Qad (s) 32) 4) : Nat) : Int)], #[.int .i64 ((bigN (Qai (Qad (Qad (s) 32) 4) 1) : Nat) : Int)], ints .u8 (keyV (Qai (Qan (Qad (Qad (s) 32) 4)) 32)), #[.int .i64 ((bigN (Qai (Qad (Qan (Qad (Qad (s) 32) 4)) 32) 1) : Nat) : Int)], #[.bool false], #[.int .i64 0], ints .u8 (List.replicate 32 0), ints .u8 (List.replicate 32 0), ints .u8 (List.replicate 32 0), #[.slice none 0 0], ints .u8 (List.replicate 32 0), #[.int .i64 0], ints .u8 (Qbq (Qai (Qa4 (Qad (Qad (Qan (Qad (Qad (s) 32) 4)) 32) 1) false) 64))])) rfl (Qbk g2 47 _ r2_12 kj kj (isz (n := 263) kj (by rw [Qaa, Qaa, Qaa, Qaa, Qaa, Qaa, Qaa, Qaa, Qaa, Qaa, Qaa, Qaa, Qaa, Qaa]; simp only [Array.size_append, cat, ((Qac _ _).trans (List.length_replicate (n := 32))), ((Qac _ _).trans (Qap _ (Qal (Qan (Qad (Qad (s) 32) 4)) 32))), ((Qac _ _).trans (Qap _ (Qal (s) 32))), ((Qac _ _).trans (QaF _ (Qal (Qa4 (Qad (Qad (Qan (Qad (Qad (s) 32) 4)) 32) 1) false) 64)))]; rfl))) ⟨_, rfl, x12, (show RSt B gr (Qa2 s) _ by have h9 := rs21; unfold Qa2; rw [eM]; exact h9), [], _, _, by rw [eUs, eNm, eKy, eSg, ePa, eSt, eAt]; unfold qSig; rw [eM]; rfl, Qco _ _ _ _, by decide, fun _ => by rw [eL]⟩)
theorem QiC (B gr : Nat) (s : Option (List Int)) (w : World) (hB : B ≤ gr) (h : RSt B gr s w) : Calls Try.prog 61 #[.pointer (some ⟨gr, 0, none⟩)] w (QbB B gr w (Qa2 s) fun v W => ∃ (xz : List Int) (a : Option Addr) (c : Nat), v = .agg (cat [ints .u8 (qGrp s), #[.int .i64 (qEp s)], #[.int .i64 (qFr s)], ints .u8 (qBa s), #[.int .i64 ((qKd s : Nat) : Int)], #[.bool (qUs s)], #[.int .i64 (qNm s)], ints .u8 (qKy s), ints .u8 (qSg s), ints .u8 (qPa s), #[.slice a xz.length c], ints .u8 (qSt s), #[.int .i64 (qAt s)], ints .u8 (qSig s)]) ∧ OwnN .i64 3 w.heap.size xz (.slice a xz.length c) W ∧ xz.length ≤ 255 ∧ (Qa2 s ≠ none → xz = qL s)) := by
  rcases (show bigN (Qai (qS4 s) 1) = 1 ∨ bigN (Qai (qS4 s) 1) = 2 ∨ bigN (Qai (qS4 s) 1) = 3 ∨ (bigN (Qai (qS4 s) 1) < 1 ∨ 3 < bigN (Qai (qS4 s) 1)) by omega) with hk | hk | hk | hk
  · exact QhG B gr s w hB h hk
  · exact QhF B gr s w hB h hk
  · exact QhE B gr s w hB h hk
  · exact QhD B gr s w hB h hk
end Go.Proofs.Ytfelfmchachljaa.Wr
end
section
namespace Go.Proofs.Ytfelfmchachljaa.Wr
open Go Go.RowKit
open Rely Auto Own Sha
set_option linter.unusedVariables false
set_option linter.unusedSimpArgs false
def itG (F : Option (List Int) → Option (List Int)) (s : Option (List Int)) : Nat → Option (List Int)
  | 0 => s
  | i + 1 => F (itG F s i)
def lsN (s : Option (List Int)) : Nat := bigN (Qai s 1)
def lsR (F : Option (List Int) → Option (List Int)) (s : Option (List Int)) : Option (List Int) := itG F (Qad s 1) (lsN s)
theorem QbS {F : Option (List Int) → Option (List Int)} (hF : F none = none) (s : Option (List Int)) (i : Nat) (h : itG F s i = none) : ∀ n, i ≤ n → itG F s n = none
  | 0, hn => by obtain rfl : i = 0 := by omega
                exact h
  | n + 1, hn => by
    by_cases e : i = n + 1
    · rw [← e]; exact h
    · show F (itG F s n) = none
      rw [QbS hF s i h n (by omega)]; exact hF
def Qb0 (s : Option (List Int)) : Option (List Int) := lsR rowR (Qad s 32)
def Qb4 (s : Option (List Int)) : Option (List Int) := Qa4 (lsR Qb0 (QaN s)) (decide (((lsN (QaN s) : Nat) : Int) ≤ 5))
theorem Qdy : rowR none = none := rfl
theorem Qc8 : Qb0 none = none := QbS Qdy _ 0 rfl _ (Nat.zero_le _)
theorem QdO : QaN none = none := by
  have e6 : nR6 none = none := Qfe (Qad (nR5 none) 1) 0 rfl _ (Nat.zero_le _)
  unfold QaN
  rw [e6, Qbj, Qbj]
theorem QdJ : Qa2 none = none := by
  have h5 : qS5 none = none := by unfold qS5 qS4 qS3 qS2 qS1; rw [show Qad (Qad none 32) 4 = none from rfl, Qdd]; rfl
  unfold Qa2 Qcz
  rw [h5, QdO, Qdd, Qbj]
  cases qKd none == 1 <;> cases qKd none == 2 <;> cases qKd none == 3 <;> rfl
def RwIs (s : Option (List Int)) (r : RwV) : Prop := r.xs = rowL s
def StIs (s : Option (List Int)) (t : StV) : Prop := t.key = keyV (Qai s 32) ∧ t.rows.length = lsN (Qad s 32) ∧ ∀ j, j < t.rows.length → RwIs (itG rowR (Qad (Qad s 32) 1) j) (t.rows.getD j rw0)
structure PrIs (s : Option (List Int)) (p : PrV) : Prop where
  grp : p.p.grp = qGrp s
  ep : p.p.ep = qEp s
  fr : p.p.fr = qFr s
  bas : p.p.bas = qBa s
  kd : p.p.kd = ((qKd s : Nat) : Int)
  us : p.p.n.us = qUs s
  nm : p.p.n.nm = qNm s
  key : p.p.n.key = qKy s
  sg : p.p.n.sg = qSg s
  pa : p.p.n.pa = qPa s
  ms : p.p.n.ms = qL s
  start : p.p.start = qSt s
  at_ : p.p.at_ = qAt s
  sig : p.p.sig = qSig s
theorem Qdu {α : Type} (ts : List α) (n d : α) (j : Nat) : (ts ++ [n]).getD j d = if j < ts.length then ts.getD j d else if j = ts.length then n else d := by
  rw [List.getD_eq_getElem?_getD, List.getD_eq_getElem?_getD]
  split
  · rename_i h; rw [List.getElem?_append_left h]
  · rename_i h
    rw [List.getElem?_append_right (by omega)]
    split
    · rename_i h2; rw [h2, Nat.sub_self]; rfl
    · rw [List.getElem?_eq_none (by simp; omega)]; rfl
theorem QhA (n : StV) : ∀ u ∈ (cat (stP n)).toList, u.oneCell' = true := by
  intro u hu
  unfold stP at hu
  simp only [cat, Array.toList_append, ints, List.mem_append, List.mem_map, List.mem_cons, List.not_mem_nil, or_false] at hu
  rcases hu with ⟨x, -, rfl⟩ | rfl <;> rfl
theorem Qib (n : PrV) : ∀ u ∈ (cat (prP n)).toList, u.oneCell' = true := by
  intro u hu
  unfold prP at hu
  simp only [cat, Array.toList_append, ints, List.mem_append, List.mem_map, List.mem_cons, List.not_mem_nil, or_false] at hu
  rcases hu with ⟨x, -, rfl⟩ | rfl | rfl | ⟨x, -, rfl⟩ | rfl | rfl | rfl | ⟨x, -, rfl⟩ | ⟨x, -, rfl⟩ | ⟨x, -, rfl⟩ | rfl | ⟨x, -, rfl⟩ | rfl | ⟨x, -, rfl⟩ <;> rfl
theorem ByS.leaf {s : Option (List Int)} (h : ByS s) : ByS (Qan s) := by
  intro ys hy
  unfold Qan Qa4 at hy
  cases hd : decide (((bigN (Qai s 1) : Nat) : Int) < 32) with
  | true => rw [hd] at hy; exact h.take 1 ys hy
  | false => rw [hd] at hy; cases hy
theorem ByS.must {s : Option (List Int)} (h : ByS s) (b : Bool) : ByS (Qa4 s b) := by
  cases b with
  | true => exact h
  | false => intro ys hy; cases hy
theorem ByS.leaves {s : Option (List Int)} (h : ByS s) : ∀ n, ByS (itR s n)
  | 0 => h
  | n + 1 => (ByS.leaves h n).leaf
theorem ByS.node {s : Option (List Int)} (h : ByS s) : ByS (QaN s) := by
  unfold QaN nR6 nR5 nR4 nR3 nR2 nR1
  exact (((((((h.take 1).take 1).take 32).take 32).take 32).take 1).leaves _ |>.must _).must _
theorem Qcv (n : Nat) : Qaj (List.replicate n (0 : Int)) := fun x hx => by rw [(List.mem_replicate.1 hx).2]; decide
theorem Qjs {s : Option (List Int)} (h : ByS s) (ms : List Int) : PrOk ⟨qGrp s, qEp s, qFr s, qBa s, ((qKd s : Nat) : Int), ⟨qUs s, qNm s, qKy s, qSg s, qPa s, ms⟩, qSt s, qAt s, qSig s⟩ := by
  have h3 : ByS (qS3 s) := ((h.take 32).take 4).leaf
  have h5 : ByS (qS5 s) := (h3.take 32).take 1
  have hn := Qjv h5 true 0 []
  have hM : ByS (Qcz s) := by
    unfold Qcz
    cases qKd s == 1 with
    | true => exact h5.node.take 32
    | false =>
      cases qKd s == 2 with
      | true => exact h5.node
      | false =>
        cases qKd s == 3 with
        | true => exact h5.leaf
        | false => exact (h5.must false : ByS (Qa4 (qS5 s) false))
  refine ⟨Qhf s, QbQ _ (h.bytes 32), QhV s, QbQ _ (h3.bytes 32), ⟨QhU s, QhS s, QhT s, ?_, ?_, ?_⟩, QhR s, ?_, Qhe s, QeH _ (hM.bytes 64)⟩
  · unfold qKy; cases qNd s; exact Qcv 32; exact hn.kb
  · unfold qSg; cases qNd s; exact Qcv 32; exact hn.gb
  · unfold qPa; cases qNd s; exact Qcv 32; exact hn.pb
  · unfold qSt; cases qKd s == 1; exact Qcv 32; exact QbQ _ (h5.node.bytes 32)
set_option maxHeartbeats 4000000 in
set_option maxRecDepth 100000 in
theorem QfL (B gr : Nat) (s : Option (List Int)) (w : World) (hB : B ≤ gr) (h : RSt B gr s w) : Calls Try.prog 131 #[.pointer (some ⟨gr, 0, none⟩), .func (.func 118) #[] #[]] w (QbB B gr w (lsR rowR s) fun v W => ∃ ts : List RwV, Qcu w.heap.size ts v W ∧ ts.length ≤ 255 ∧ (lsR rowR s ≠ none → ts.length = lsN s ∧ ∀ j, j < ts.length → RwIs (itG rowR (Qad s 1) j) (ts.getD j rw0))) := by
 have hgr := h.lt
 have hN : bigN (Qai s 1) < 256 := Qdh _ (h.bytes 1) 1 (Qal s 1)
 refine enter 22 [(0, .pointer (some ⟨gr, 0, none⟩)), (1, .func (.func 118) #[] #[])] Try.func131 rfl rfl kj rfl ?_
 refine wp_seq_k fun K1 hK1 => ?_
 refine Qae ?_
 refine Qab (.slice none 0 0) 4 rfl kj kj ?_
 refine Qaf ?_
 refine hK1 _ _ ?_
 refine wp_seq_k fun K2 hK2 => ?_
 refine Qae ?_
 refine Qab (.slice none 0 0) 5 rfl kj kj ?_
 refine Qaf ?_
 refine hK2 _ _ ?_
 refine wp_seq_k fun K3 hK3 => ?_
 refine wp_seq_k fun K4 hK4 => ?_
 refine Qae ?_
 refine Qab (.pointer (some ⟨gr, 0, none⟩)) 6 rfl kj kj ?_
 refine Qak (fun v W' => ExtB gr w W' ∧ RSt B gr (Qad (s) 1) W' ∧ (fun (v : Value) (_ : World) => v = .int .i64 ((bigN (Qai (s) 1) : Nat) : Int)) v W') 110 #[.pointer (some ⟨gr, 0, none⟩), .int .i64 1] 7 rfl kj kj (Qbg B gr _ 1 _ hB h (by decide)) fun vv5 W1 hh5 => ?_
 obtain ⟨q1, rs5, hv5⟩ := hh5
 have x1 : ExtB gr w W1 := ExtB.tr (ExtB.refl gr w) q1
 subst hv5
 refine Qab (.int .i64 0) 8 rfl kj kj ?_
 refine Qaf ?_
 refine hK4 _ _ ?_
 refine wp_block ?_
 refine QaP (fun (s1 : Nat × Value × List RwV) => [(0, .pointer (some ⟨gr, 0, none⟩)), (1, .func (.func 118) #[] #[]), (5, s1.2.1), (7, .int .i64 ((bigN (Qai (s) 1) : Nat) : Int)), (8, .int .i64 ((s1.1 : Nat) : Int))]) (fun (s1 : Nat × Value × List RwV) W => (s1.1 ≤ bigN (Qai s 1)) ∧ (RSt B gr (itG rowR (Qad s 1) s1.1) W) ∧ (Qcu w.heap.size s1.2.2 s1.2.1 W) ∧ (s1.2.2.length = s1.1) ∧ (itG rowR (Qad s 1) s1.1 ≠ none → ∀ j, j < s1.2.2.length → RwIs (itG rowR (Qad s 1) j) (s1.2.2.getD j rw0)) ∧ (ExtB gr w W)) (fun (s1 : Nat × Value × List RwV) => bigN (Qai s 1) - s1.1) (0, (.slice none 0 0), []) ⟨rfl, rfl, rfl, rfl, rfl, trivial⟩ ⟨(Nat.zero_le _), rs5, (OwL.nil _), rfl, (fun _ j hj => absurd hj (Nat.not_lt_zero _)), x1⟩ fun s1 X1 V1 hI1 => ?_
 obtain ⟨i, u, ts⟩ := s1
 obtain ⟨hi, hrs, hu, htl, hnd, xx1⟩ := hI1
 replace hi : i ≤ bigN (Qai s 1) := hi
 replace hrs : RSt B gr (itG rowR (Qad s 1) i) V1 := hrs
 replace hu : Qcu w.heap.size ts u V1 := hu
 replace htl : ts.length = i := htl
 replace hnd : itG rowR (Qad s 1) i ≠ none → ∀ j, j < ts.length → RwIs (itG rowR (Qad s 1) j) (ts.getD j rw0) := hnd
 replace xx1 : ExtB gr w V1 := xx1
 refine wp_seq_k fun K6 hK6 => ?_
 refine Qae ?_
 refine Qab (.bool (decide (((i : Nat) : Int) < ((bigN (Qai (s) 1) : Nat) : Int)))) 9 rfl kj kj ?_
 refine Qaf ?_
 refine hK6 _ _ ?_
 refine wp_seq_k fun K7 hK7 => ?_
 refine Qa5 (t := decide (((i : Nat) : Int) < ((bigN (Qai (s) 1) : Nat) : Int))) kj (fun c8 => ?_) (fun c8 => ?_)
 ·skip
  have hlt9 : i < bigN (Qai s 1) := by have := of_decide_eq_true c8; omega
  refine wp_skip ?_
  refine hK7 _ _ ?_
  refine wp_seq_k fun K9 hK9 => ?_
  refine wp_block ?_
  refine wp_seq_k fun K10 hK10 => ?_
  refine wp_seq_k fun K11 hK11 => ?_
  refine Qae ?_
  obtain ⟨u12, xs12, bad, rb12, -, -, hsc⟩ := id hrs
  refine Qab (.pointer (some ⟨gr, 0, none⟩)) 10 rfl kj kj ?_
  refine Qab (.pointer (some ⟨gr, 0, none⟩)) 11 rfl kj kj ?_
  refine Qab (.pointer (some ⟨gr, 1, none⟩)) 12 rfl kj kj ?_
  refine Qab (.bool bad) 13 rfl kj (Qag 4 _ gr 1 179 _ (.bool bad) _ rb12 rfl kj kj kj) ?_
  refine Qaf ?_
  refine hK11 _ _ ?_
  refine Qa5 (t := bad) kj (fun c14 => ?_) (fun c14 => ?_)
  ·skip
   have hbad : bad = true := c14
   have h9 : itG rowR (Qad s 1) i = none := by rw [hsc, hbad]; rfl
   have h8 : itG rowR (Qad s 1) (bigN (Qai s 1)) = none := QbS Qdy _ i h9 _ hi
   have hrs3 : RSt B gr (itG rowR (Qad s 1) (bigN (Qai s 1))) V1 := by rw [h8, ← h9]; exact hrs
   refine wp_seq_k fun K15 hK15 => ?_
   refine Qae ?_
   refine Qab (.slice none 0 0) 4 rfl kj kj ?_
   refine Qaf ?_
   refine hK15 _ _ ?_
   refine wp_ret ?_
   repeat (first | with_reducible refine goR1 ?_ | with_reducible refine goR2 ?_)
   exact (show bodyPost _ _ _ .ret _ _ from ret1 (.slice none 0 0) rfl (Qaw kj) ⟨_, rfl, xx1, hrs3, [], OwL.nil _, by decide, fun hne => absurd h8 hne⟩)
  ·skip
   refine wp_skip ?_
   refine hK10 _ _ ?_
   refine Qae ?_
   refine Qab (u) 14 rfl kj kj ?_
   refine Qab (.func (.func 118) #[] #[]) 15 rfl kj kj ?_
   refine Qab (.pointer (some ⟨gr, 0, none⟩)) 16 rfl kj kj ?_
   refine Qak (fun v W' => ExtB gr V1 W' ∧ RSt B gr (rowR (itG rowR (Qad s 1) i)) W' ∧ (fun (v : Value) (W : World) => OwnN .u8 5 V1.heap.size (rowL (itG rowR (Qad s 1) i)) v W ∧ Qaj (rowL (itG rowR (Qad s 1) i)) ∧ (rowL (itG rowR (Qad s 1) i)).length ≤ 65535) v W') 118 #[.pointer (some ⟨gr, 0, none⟩)] 17 rfl kj kj (Qgj B gr _ _ hB hrs) fun vv16 W3 hh16 => ?_
   obtain ⟨q3, rs16, hv16⟩ := hh16
   have x3 : ExtB gr w W3 := ExtB.tr xx1 q3
   obtain ⟨ho17, hb17, hl17⟩ := hv16
   obtain ⟨a17_, c17_, rfl, -⟩ := id (OwnN.rd ho17)
   obtain ⟨tt17, htt17⟩ : ∃ z : RwV, z = ⟨rowL (itG rowR (Qad s 1) i), a17_, c17_⟩ := ⟨_, rfl⟩
   have hin17 : InRw V1.heap.size tt17 W3 := by rw [htt17]; exact ⟨hb17, hl17, ho17⟩
   have his17 : rowR (itG rowR (Qad s 1) i) ≠ none → RwIs (itG rowR (Qad s 1) i) tt17 := fun _ => by rw [htt17]; rfl
   refine QdV (.cells #[.slice a17_ (rowL (itG rowR (Qad s 1) i)).length c17_] 26) (fun g => .slice (some ⟨g, 0, none⟩) 1 1) 18 rfl kj (QeO 127 26 1 _ (.slice a17_ (rowL (itG rowR (Qad s 1) i)).length c17_) rfl kj kj kj kj kj (by decide) (by decide)) fun gz W4 lz e4 rz => ?_
   have x4 : ExtB gr w W4 := ExtB.ext x3 e4
   refine QdW inRw (by decide) 24 (.tmp 14) (.tmp 18) 127 rfl kj kj (by decide) (by decide) 19 rfl kj kj kj (OwL.rows inRw (OwL.rows inRw hu (Qbt 0 q3 hgr) (by decide)) (QbF _ 0 e4) (by decide)) (n := tt17) (cells := #[Value.slice tt17.a tt17.xs.length tt17.c]) (inRw 0 (by decide) _ _ _ _ (QbF _ 0 e4) (InRw.base xx1.2.2.2.1 tt17 hin17)) rfl rfl (fun u hu => by simp only [List.mem_cons, List.not_mem_nil, or_false] at hu; subst hu; rfl) (by rw [htt17]; exact rz) (by omega) x4.2.2.2.1 fun u2 W5 hu2 l5 => ?_
   have x5 : ExtB gr w W5 := ExtB.low x4 l5 (Nat.le_refl _)
   refine Qab (u2) 5 rfl kj kj ?_
   refine Qaf ?_
   refine hK9 _ _ ?_
   refine Qae ?_
   refine Qab (.int .i64 ((i + 1 : Nat) : Int)) 20 rfl kj (Qax (u := .int .i64 (IntKind.i64.wrap (((i : Nat) : Int) + 1))) kj (congrArg (Value.int .i64) (i64n _ _ (by omega) (by omega)))) ?_
   refine Qab (.int .i64 ((i + 1 : Nat) : Int)) 8 rfl kj kj ?_
   refine Qaf ?_
   have hts2 : (ts ++ [tt17]).length = i + 1 := by rw [List.length_append, List.length_singleton]; omega
   have hnd2 : itG rowR (Qad s 1) (i + 1) ≠ none → ∀ j, j < (ts ++ [tt17]).length → RwIs (itG rowR (Qad s 1) j) ((ts ++ [tt17]).getD j rw0) := by
    intro hne j hj
    rw [Qdu]
    split
    ·rename_i h5
     exact hnd (fun h6 => hne (QbS Qdy _ i h6 _ (by omega))) j h5
    ·rename_i h5
     obtain rfl : j = ts.length := by omega
     rw [if_pos rfl, htl]
     exact his17 hne
   have rs18 := (RSt.low (RSt.ext rs16 hB e4) hB l5 hgr)
   repeat (first | with_reducible refine goX1 ?_ | with_reducible refine goX2 ?_ | with_reducible refine goX3 ?_)
   exact QaK ((i + 1), u2, (ts ++ [tt17])) ⟨rfl, rfl, rfl, rfl, rfl, trivial⟩ ⟨(by omega), rs18, hu2, hts2, hnd2, x5⟩ (by omega)
 ·skip
  have heq9 : i = bigN (Qai s 1) := by have := of_decide_eq_false c8; omega
  have hrs2 := hrs
  rw [heq9] at hrs2
  refine wp_exit ?_
  refine hK3 _ _ ?_
  refine wp_seq_k fun K19 hK19 => ?_
  refine Qae ?_
  refine Qab (u) 21 rfl kj kj ?_
  refine Qab (u) 4 rfl kj kj ?_
  refine Qaf ?_
  refine hK19 _ _ ?_
  refine wp_ret ?_
  repeat (first | with_reducible refine goR1 ?_ | with_reducible refine goR2 ?_)
  exact (show bodyPost _ _ _ .ret _ _ from ret1 (u) rfl (Qaw kj) ⟨_, rfl, xx1, hrs2, ts, hu, by omega, fun hne => ⟨(show ts.length = bigN (Qai s 1) by omega), fun j hj => hnd (by rw [heq9]; exact hne) j hj⟩⟩)
set_option maxHeartbeats 4000000 in
theorem Qi8 (B gr : Nat) (s : Option (List Int)) (w : World) (hB : B ≤ gr) (h : RSt B gr s w) : Calls Try.prog 128 #[.pointer (some ⟨gr, 0, none⟩)] w (QbB B gr w (Qb0 s) fun v W => ∃ t : StV, v = .agg (cat [ints .u8 t.key, #[.slice t.a t.rows.length t.c]]) ∧ InSt w.heap.size t W ∧ (Qb0 s ≠ none → StIs s t)) := by
  have hgr := h.lt
  refine enter 8 [(0, .pointer (some ⟨gr, 0, none⟩))] Try.func128 rfl rfl kj rfl ?_
  refine wp_seq_k fun K1 hK1 => ?_
  refine Qae ?_
  refine Qav (cat [ints .u8 (List.replicate 32 0), #[.slice none 0 0]]) 129 2 rfl kj kj fun g2 W1 l2 e1 r2_1 => ?_
  have x1 : ExtB gr w W1 := ExtB.ext (ExtB.refl gr w) e1
  have b2 : w.heap.size ≤ g2 := Nat.le_trans (ExtB.refl gr w).size l2
  refine Qaf ?_
  refine hK1 _ _ ?_
  refine wp_seq_k fun K3 hK3 => ?_
  refine Qae ?_
  refine Qab (.pointer (some ⟨gr, 0, none⟩)) 3 rfl kj kj ?_
  have rs4 := (RSt.ext h hB e1)
  refine Qak (fun v W' => ExtB gr W1 W' ∧ RSt B gr (Qad (s) 32) W' ∧ (fun (v : Value) (_ : World) => v = .agg (ints .u8 (keyV (Qai (s) 32)))) v W') 109 #[.pointer (some ⟨gr, 0, none⟩)] 4 rfl kj kj (Qcg B gr _ _ hB rs4) fun vv5 W2 hh5 => ?_
  obtain ⟨q2, rs5, hv5⟩ := hh5
  have x2 : ExtB gr w W2 := ExtB.tr x1 q2
  subst hv5
  refine Qab (.pointer (some ⟨gr, 0, none⟩)) 5 rfl kj kj ?_
  refine Qak (fun v W' => ExtB gr W2 W' ∧ RSt B gr (lsR rowR (Qad (s) 32)) W' ∧ (fun (v : Value) (W : World) => ∃ ts : List RwV, Qcu W2.heap.size ts v W ∧ ts.length ≤ 255 ∧ (lsR rowR (Qad (s) 32) ≠ none → ts.length = lsN (Qad (s) 32) ∧ ∀ j, j < ts.length → RwIs (itG rowR (Qad (Qad (s) 32) 1) j) (ts.getD j rw0))) v W') 131 #[.pointer (some ⟨gr, 0, none⟩), .func (.func 118) #[] #[]] 6 rfl kj kj (QfL B gr _ _ hB rs5) fun vv6 W3 hh6 => ?_
  obtain ⟨q3, rs6, hv6⟩ := hh6
  have x3 : ExtB gr w W3 := ExtB.tr x2 q3
  obtain ⟨lsR, howR, hlnR, hisR⟩ := hv6
  obtain ⟨alR, clR, rfl⟩ := howR.sl
  refine Qab (.agg (cat [ints .u8 (keyV (Qai (s) 32)), #[.slice alR lsR.length clR]])) 7 rfl kj (Qcr 129 _ (.agg (cat [ints .u8 (List.replicate 32 0), #[.slice none 0 0]])) #[(0, 32), (32, 1)] [(0, 32, .agg (ints .u8 (keyV (Qai (s) 32))), ints .u8 (keyV (Qai (s) 32))), (1, 1, .slice alR lsR.length clR, #[.slice alR lsR.length clR])] rfl kj ⟨kj, rfl, ((Qac _ _).trans (Qap _ (Qal (s) 32))), kj, rfl, kj, trivial⟩ kj kj kj kj) ?_
  have r2_2 := (ExtB.row q2 r2_1 (Ne.symm (Nat.ne_of_lt (Nat.lt_of_lt_of_le hgr b2))))
  have r2_3 := (ExtB.row q3 r2_2 (Ne.symm (Nat.ne_of_lt (Nat.lt_of_lt_of_le hgr b2))))
  refine Qa3 g2 _ (cat [ints .u8 (keyV (Qai (s) 32)), #[.slice alR lsR.length clR]]) 129 r2_3 rfl kj (Qa0 129 _ _ g2 129 _ _ r2_3 rfl kj kj (isz (n := 33) kj (by rw [Qaa, Qaa]; simp only [Array.size_append, cat, ((Qac _ _).trans (Qap _ (Qal (s) 32)))]; rfl)) (eqsz (n := 33) (by rw [Qaa, Qaa]; simp only [Array.size_append, cat, ((Qac _ _).trans (List.length_replicate (n := 32)))]; rfl) (by rw [Qaa, Qaa]; simp only [Array.size_append, cat, ((Qac _ _).trans (Qap _ (Qal (s) 32)))]; rfl)) (QaX _ (by intro a ha; simp only [List.mem_cons, List.not_mem_nil, or_false] at ha; rcases ha with rfl | rfl; exact (Qas _ _); exact (Qaq _ rfl)))) fun W4 p4 r2_4 => ?_
  have x4 : ExtB gr w W4 := ExtB.putsN x3 p4 b2
  refine Qaf ?_
  refine hK3 _ _ ?_
  refine wp_ret ?_
  repeat (first | with_reducible refine goR1 ?_ | with_reducible refine goR2 ?_)
  have rs8 := (RSt.put rs6 hB p4 (Nat.lt_of_lt_of_le hgr b2))
  exact (show bodyPost _ _ _ .ret _ _ from ret1 (.agg (cat [ints .u8 (keyV (Qai (s) 32)), #[.slice alR lsR.length clR]])) rfl (Qbk g2 129 _ r2_4 kj kj (isz (n := 33) kj (by rw [Qaa, Qaa]; simp only [Array.size_append, cat, ((Qac _ _).trans (Qap _ (Qal (s) 32)))]; rfl))) ⟨_, rfl, x4, (show RSt B gr (Qb0 s) _ from rs8), ⟨keyV (Qai s 32), lsR, alR, clR⟩, rfl, ⟨Qap _ (Qal s 32), QbQ _ (h.bytes 32), hlnR, (Qcu.base_ x2.2.2.2.1 (OwL.rows inRw howR (Qbx _ p4 r2_3) (by decide)))⟩, fun hne => ⟨rfl, (hisR hne).1, (hisR hne).2⟩⟩)
set_option maxHeartbeats 4000000 in
set_option maxRecDepth 100000 in
theorem QfK (B gr : Nat) (s : Option (List Int)) (w : World) (hB : B ≤ gr) (h : RSt B gr s w) : Calls Try.prog 127 #[.pointer (some ⟨gr, 0, none⟩), .func (.func 128) #[] #[]] w (QbB B gr w (lsR Qb0 s) fun v W => ∃ ts : List StV, Qb8 w.heap.size ts v W ∧ ts.length ≤ 255 ∧ (lsR Qb0 s ≠ none → ts.length = lsN s ∧ ∀ j, j < ts.length → StIs (itG Qb0 (Qad s 1) j) (ts.getD j st0))) := by
 have hgr := h.lt
 have hN : bigN (Qai s 1) < 256 := Qdh _ (h.bytes 1) 1 (Qal s 1)
 refine enter 22 [(0, .pointer (some ⟨gr, 0, none⟩)), (1, .func (.func 128) #[] #[])] Try.func127 rfl rfl kj rfl ?_
 refine wp_seq_k fun K1 hK1 => ?_
 refine Qae ?_
 refine Qab (.slice none 0 0) 4 rfl kj kj ?_
 refine Qaf ?_
 refine hK1 _ _ ?_
 refine wp_seq_k fun K2 hK2 => ?_
 refine Qae ?_
 refine Qab (.slice none 0 0) 5 rfl kj kj ?_
 refine Qaf ?_
 refine hK2 _ _ ?_
 refine wp_seq_k fun K3 hK3 => ?_
 refine wp_seq_k fun K4 hK4 => ?_
 refine Qae ?_
 refine Qab (.pointer (some ⟨gr, 0, none⟩)) 6 rfl kj kj ?_
 refine Qak (fun v W' => ExtB gr w W' ∧ RSt B gr (Qad (s) 1) W' ∧ (fun (v : Value) (_ : World) => v = .int .i64 ((bigN (Qai (s) 1) : Nat) : Int)) v W') 110 #[.pointer (some ⟨gr, 0, none⟩), .int .i64 1] 7 rfl kj kj (Qbg B gr _ 1 _ hB h (by decide)) fun vv5 W1 hh5 => ?_
 obtain ⟨q1, rs5, hv5⟩ := hh5
 have x1 : ExtB gr w W1 := ExtB.tr (ExtB.refl gr w) q1
 subst hv5
 refine Qab (.int .i64 0) 8 rfl kj kj ?_
 refine Qaf ?_
 refine hK4 _ _ ?_
 refine wp_block ?_
 refine QaP (fun (s1 : Nat × Value × List StV) => [(0, .pointer (some ⟨gr, 0, none⟩)), (1, .func (.func 128) #[] #[]), (5, s1.2.1), (7, .int .i64 ((bigN (Qai (s) 1) : Nat) : Int)), (8, .int .i64 ((s1.1 : Nat) : Int))]) (fun (s1 : Nat × Value × List StV) W => (s1.1 ≤ bigN (Qai s 1)) ∧ (RSt B gr (itG Qb0 (Qad s 1) s1.1) W) ∧ (Qb8 w.heap.size s1.2.2 s1.2.1 W) ∧ (s1.2.2.length = s1.1) ∧ (itG Qb0 (Qad s 1) s1.1 ≠ none → ∀ j, j < s1.2.2.length → StIs (itG Qb0 (Qad s 1) j) (s1.2.2.getD j st0)) ∧ (ExtB gr w W)) (fun (s1 : Nat × Value × List StV) => bigN (Qai s 1) - s1.1) (0, (.slice none 0 0), []) ⟨rfl, rfl, rfl, rfl, rfl, trivial⟩ ⟨(Nat.zero_le _), rs5, (OwL.nil _), rfl, (fun _ j hj => absurd hj (Nat.not_lt_zero _)), x1⟩ fun s1 X1 V1 hI1 => ?_
 obtain ⟨i, u, ts⟩ := s1
 obtain ⟨hi, hrs, hu, htl, hnd, xx1⟩ := hI1
 replace hi : i ≤ bigN (Qai s 1) := hi
 replace hrs : RSt B gr (itG Qb0 (Qad s 1) i) V1 := hrs
 replace hu : Qb8 w.heap.size ts u V1 := hu
 replace htl : ts.length = i := htl
 replace hnd : itG Qb0 (Qad s 1) i ≠ none → ∀ j, j < ts.length → StIs (itG Qb0 (Qad s 1) j) (ts.getD j st0) := hnd
 replace xx1 : ExtB gr w V1 := xx1
 refine wp_seq_k fun K6 hK6 => ?_
 refine Qae ?_
 refine Qab (.bool (decide (((i : Nat) : Int) < ((bigN (Qai (s) 1) : Nat) : Int)))) 9 rfl kj kj ?_
 refine Qaf ?_
 refine hK6 _ _ ?_
 refine wp_seq_k fun K7 hK7 => ?_
 refine Qa5 (t := decide (((i : Nat) : Int) < ((bigN (Qai (s) 1) : Nat) : Int))) kj (fun c8 => ?_) (fun c8 => ?_)
 ·skip
  have hlt9 : i < bigN (Qai s 1) := by have := of_decide_eq_true c8; omega
  refine wp_skip ?_
  refine hK7 _ _ ?_
  refine wp_seq_k fun K9 hK9 => ?_
  refine wp_block ?_
  refine wp_seq_k fun K10 hK10 => ?_
  refine wp_seq_k fun K11 hK11 => ?_
  refine Qae ?_
  obtain ⟨u12, xs12, bad, rb12, -, -, hsc⟩ := id hrs
  refine Qab (.pointer (some ⟨gr, 0, none⟩)) 10 rfl kj kj ?_
  refine Qab (.pointer (some ⟨gr, 0, none⟩)) 11 rfl kj kj ?_
  refine Qab (.pointer (some ⟨gr, 1, none⟩)) 12 rfl kj kj ?_
  refine Qab (.bool bad) 13 rfl kj (Qag 4 _ gr 1 179 _ (.bool bad) _ rb12 rfl kj kj kj) ?_
  refine Qaf ?_
  refine hK11 _ _ ?_
  refine Qa5 (t := bad) kj (fun c14 => ?_) (fun c14 => ?_)
  ·skip
   have hbad : bad = true := c14
   have h9 : itG Qb0 (Qad s 1) i = none := by rw [hsc, hbad]; rfl
   have h8 : itG Qb0 (Qad s 1) (bigN (Qai s 1)) = none := QbS Qc8 _ i h9 _ hi
   have hrs3 : RSt B gr (itG Qb0 (Qad s 1) (bigN (Qai s 1))) V1 := by rw [h8, ← h9]; exact hrs
   refine wp_seq_k fun K15 hK15 => ?_
   refine Qae ?_
   refine Qab (.slice none 0 0) 4 rfl kj kj ?_
   refine Qaf ?_
   refine hK15 _ _ ?_
   refine wp_ret ?_
   repeat (first | with_reducible refine goR1 ?_ | with_reducible refine goR2 ?_)
   exact (show bodyPost _ _ _ .ret _ _ from ret1 (.slice none 0 0) rfl (Qaw kj) ⟨_, rfl, xx1, hrs3, [], OwL.nil _, by decide, fun hne => absurd h8 hne⟩)
  ·skip
   refine wp_skip ?_
   refine hK10 _ _ ?_
   refine Qae ?_
   refine Qab (u) 14 rfl kj kj ?_
   refine Qab (.func (.func 128) #[] #[]) 15 rfl kj kj ?_
   refine Qab (.pointer (some ⟨gr, 0, none⟩)) 16 rfl kj kj ?_
   refine Qak (fun v W' => ExtB gr V1 W' ∧ RSt B gr (Qb0 (itG Qb0 (Qad s 1) i)) W' ∧ (fun (v : Value) (W : World) => ∃ t : StV, v = .agg (cat [ints .u8 t.key, #[.slice t.a t.rows.length t.c]]) ∧ InSt V1.heap.size t W ∧ (Qb0 (itG Qb0 (Qad s 1) i) ≠ none → StIs (itG Qb0 (Qad s 1) i) t)) v W') 128 #[.pointer (some ⟨gr, 0, none⟩)] 17 rfl kj kj (Qi8 B gr _ _ hB hrs) fun vv16 W3 hh16 => ?_
   obtain ⟨q3, rs16, hv16⟩ := hh16
   have x3 : ExtB gr w W3 := ExtB.tr xx1 q3
   obtain ⟨tt17, rfl, hin17, his17⟩ := hv16
   refine QdV (.cells (cat [ints .u8 (tt17.key), #[.slice tt17.a tt17.rows.length tt17.c]]) 129) (fun g => .slice (some ⟨g, 0, none⟩) 1 1) 18 rfl kj (QeO 55 129 33 _ (.agg (cat [ints .u8 (tt17.key), #[.slice tt17.a tt17.rows.length tt17.c]])) rfl kj kj kj kj (Qcm tt17 hin17.1) (by decide) (by decide)) fun gz W4 lz e4 rz => ?_
   have x4 : ExtB gr w W4 := ExtB.ext x3 e4
   refine QdW inSt (by decide) 56 (.tmp 14) (.tmp 18) 55 rfl kj kj (by decide) (by decide) 19 rfl kj kj kj (OwL.rows inSt (OwL.rows inSt hu (Qbt 0 q3 hgr) (by decide)) (QbF _ 0 e4) (by decide)) (n := tt17) (cells := (cat (stP tt17))) (inSt 0 (by decide) _ _ _ _ (QbF _ 0 e4) (InSt.base xx1.2.2.2.1 tt17 hin17)) rfl (Qcm tt17 hin17.1) (QhA tt17) rz (by omega) x4.2.2.2.1 fun u2 W5 hu2 l5 => ?_
   have x5 : ExtB gr w W5 := ExtB.low x4 l5 (Nat.le_refl _)
   refine Qab (u2) 5 rfl kj kj ?_
   refine Qaf ?_
   refine hK9 _ _ ?_
   refine Qae ?_
   refine Qab (.int .i64 ((i + 1 : Nat) : Int)) 20 rfl kj (Qax (u := .int .i64 (IntKind.i64.wrap (((i : Nat) : Int) + 1))) kj (congrArg (Value.int .i64) (i64n _ _ (by omega) (by omega)))) ?_
   refine Qab (.int .i64 ((i + 1 : Nat) : Int)) 8 rfl kj kj ?_
   refine Qaf ?_
   have hts2 : (ts ++ [tt17]).length = i + 1 := by rw [List.length_append, List.length_singleton]; omega
   have hnd2 : itG Qb0 (Qad s 1) (i + 1) ≠ none → ∀ j, j < (ts ++ [tt17]).length → StIs (itG Qb0 (Qad s 1) j) ((ts ++ [tt17]).getD j st0) := by
    intro hne j hj
    rw [Qdu]
    split
    ·rename_i h5
     exact hnd (fun h6 => hne (QbS Qc8 _ i h6 _ (by omega))) j h5
    ·rename_i h5
     obtain rfl : j = ts.length := by omega
     rw [if_pos rfl, htl]
     exact his17 hne
   have rs18 := (RSt.low (RSt.ext rs16 hB e4) hB l5 hgr)
   repeat (first | with_reducible refine goX1 ?_ | with_reducible refine goX2 ?_ | with_reducible refine goX3 ?_)
   exact QaK ((i + 1), u2, (ts ++ [tt17])) ⟨rfl, rfl, rfl, rfl, rfl, trivial⟩ ⟨(by omega), rs18, hu2, hts2, hnd2, x5⟩ (by omega)
 ·skip
  have heq9 : i = bigN (Qai s 1) := by have := of_decide_eq_false c8; omega
  have hrs2 := hrs
  rw [heq9] at hrs2
  refine wp_exit ?_
  refine hK3 _ _ ?_
  refine wp_seq_k fun K19 hK19 => ?_
  refine Qae ?_
  refine Qab (u) 21 rfl kj kj ?_
  refine Qab (u) 4 rfl kj kj ?_
  refine Qaf ?_
  refine hK19 _ _ ?_
  refine wp_ret ?_
  repeat (first | with_reducible refine goR1 ?_ | with_reducible refine goR2 ?_)
  exact (show bodyPost _ _ _ .ret _ _ from ret1 (u) rfl (Qaw kj) ⟨_, rfl, xx1, hrs2, ts, hu, by omega, fun hne => ⟨(show ts.length = bigN (Qai s 1) by omega), fun j hj => hnd (by rw [heq9]; exact hne) j hj⟩⟩)
set_option maxHeartbeats 4000000 in
set_option maxRecDepth 100000 in
theorem QfM (B gr : Nat) (s : Option (List Int)) (w : World) (hB : B ≤ gr) (h : RSt B gr s w) : Calls Try.prog 115 #[.pointer (some ⟨gr, 0, none⟩), .func (.func 61) #[] #[]] w (QbB B gr w (lsR Qa2 s) fun v W => ∃ ts : List PrV, QbK w.heap.size ts v W ∧ ts.length ≤ 255 ∧ (lsR Qa2 s ≠ none → ts.length = lsN s ∧ ∀ j, j < ts.length → PrIs (itG Qa2 (Qad s 1) j) (ts.getD j pr0))) := by
 have hgr := h.lt
 have hN : bigN (Qai s 1) < 256 := Qdh _ (h.bytes 1) 1 (Qal s 1)
 refine enter 22 [(0, .pointer (some ⟨gr, 0, none⟩)), (1, .func (.func 61) #[] #[])] Try.func115 rfl rfl kj rfl ?_
 refine wp_seq_k fun K1 hK1 => ?_
 refine Qae ?_
 refine Qab (.slice none 0 0) 4 rfl kj kj ?_
 refine Qaf ?_
 refine hK1 _ _ ?_
 refine wp_seq_k fun K2 hK2 => ?_
 refine Qae ?_
 refine Qab (.slice none 0 0) 5 rfl kj kj ?_
 refine Qaf ?_
 refine hK2 _ _ ?_
 refine wp_seq_k fun K3 hK3 => ?_
 refine wp_seq_k fun K4 hK4 => ?_
 refine Qae ?_
 refine Qab (.pointer (some ⟨gr, 0, none⟩)) 6 rfl kj kj ?_
 refine Qak (fun v W' => ExtB gr w W' ∧ RSt B gr (Qad (s) 1) W' ∧ (fun (v : Value) (_ : World) => v = .int .i64 ((bigN (Qai (s) 1) : Nat) : Int)) v W') 110 #[.pointer (some ⟨gr, 0, none⟩), .int .i64 1] 7 rfl kj kj (Qbg B gr _ 1 _ hB h (by decide)) fun vv5 W1 hh5 => ?_
 obtain ⟨q1, rs5, hv5⟩ := hh5
 have x1 : ExtB gr w W1 := ExtB.tr (ExtB.refl gr w) q1
 subst hv5
 refine Qab (.int .i64 0) 8 rfl kj kj ?_
 refine Qaf ?_
 refine hK4 _ _ ?_
 refine wp_block ?_
 refine QaP (fun (s1 : Nat × Value × List PrV) => [(0, .pointer (some ⟨gr, 0, none⟩)), (1, .func (.func 61) #[] #[]), (5, s1.2.1), (7, .int .i64 ((bigN (Qai (s) 1) : Nat) : Int)), (8, .int .i64 ((s1.1 : Nat) : Int))]) (fun (s1 : Nat × Value × List PrV) W => (s1.1 ≤ bigN (Qai s 1)) ∧ (RSt B gr (itG Qa2 (Qad s 1) s1.1) W) ∧ (QbK w.heap.size s1.2.2 s1.2.1 W) ∧ (s1.2.2.length = s1.1) ∧ (itG Qa2 (Qad s 1) s1.1 ≠ none → ∀ j, j < s1.2.2.length → PrIs (itG Qa2 (Qad s 1) j) (s1.2.2.getD j pr0)) ∧ (ExtB gr w W)) (fun (s1 : Nat × Value × List PrV) => bigN (Qai s 1) - s1.1) (0, (.slice none 0 0), []) ⟨rfl, rfl, rfl, rfl, rfl, trivial⟩ ⟨(Nat.zero_le _), rs5, (OwL.nil _), rfl, (fun _ j hj => absurd hj (Nat.not_lt_zero _)), x1⟩ fun s1 X1 V1 hI1 => ?_
 obtain ⟨i, u, ts⟩ := s1
 obtain ⟨hi, hrs, hu, htl, hnd, xx1⟩ := hI1
 replace hi : i ≤ bigN (Qai s 1) := hi
 replace hrs : RSt B gr (itG Qa2 (Qad s 1) i) V1 := hrs
 replace hu : QbK w.heap.size ts u V1 := hu
 replace htl : ts.length = i := htl
 replace hnd : itG Qa2 (Qad s 1) i ≠ none → ∀ j, j < ts.length → PrIs (itG Qa2 (Qad s 1) j) (ts.getD j pr0) := hnd
 replace xx1 : ExtB gr w V1 := xx1
 refine wp_seq_k fun K6 hK6 => ?_
 refine Qae ?_
 refine Qab (.bool (decide (((i : Nat) : Int) < ((bigN (Qai (s) 1) : Nat) : Int)))) 9 rfl kj kj ?_
 refine Qaf ?_
 refine hK6 _ _ ?_
 refine wp_seq_k fun K7 hK7 => ?_
 refine Qa5 (t := decide (((i : Nat) : Int) < ((bigN (Qai (s) 1) : Nat) : Int))) kj (fun c8 => ?_) (fun c8 => ?_)
 ·skip
  have hlt9 : i < bigN (Qai s 1) := by have := of_decide_eq_true c8; omega
  refine wp_skip ?_
  refine hK7 _ _ ?_
  refine wp_seq_k fun K9 hK9 => ?_
  refine wp_block ?_
  refine wp_seq_k fun K10 hK10 => ?_
  refine wp_seq_k fun K11 hK11 => ?_
  refine Qae ?_
  obtain ⟨u12, xs12, bad, rb12, -, -, hsc⟩ := id hrs
  refine Qab (.pointer (some ⟨gr, 0, none⟩)) 10 rfl kj kj ?_
  refine Qab (.pointer (some ⟨gr, 0, none⟩)) 11 rfl kj kj ?_
  refine Qab (.pointer (some ⟨gr, 1, none⟩)) 12 rfl kj kj ?_
  refine Qab (.bool bad) 13 rfl kj (Qag 4 _ gr 1 179 _ (.bool bad) _ rb12 rfl kj kj kj) ?_
  refine Qaf ?_
  refine hK11 _ _ ?_
  refine Qa5 (t := bad) kj (fun c14 => ?_) (fun c14 => ?_)
  ·skip
   have hbad : bad = true := c14
   have h9 : itG Qa2 (Qad s 1) i = none := by rw [hsc, hbad]; rfl
   have h8 : itG Qa2 (Qad s 1) (bigN (Qai s 1)) = none := QbS QdJ _ i h9 _ hi
   have hrs3 : RSt B gr (itG Qa2 (Qad s 1) (bigN (Qai s 1))) V1 := by rw [h8, ← h9]; exact hrs
   refine wp_seq_k fun K15 hK15 => ?_
   refine Qae ?_
   refine Qab (.slice none 0 0) 4 rfl kj kj ?_
   refine Qaf ?_
   refine hK15 _ _ ?_
   refine wp_ret ?_
   repeat (first | with_reducible refine goR1 ?_ | with_reducible refine goR2 ?_)
   exact (show bodyPost _ _ _ .ret _ _ from ret1 (.slice none 0 0) rfl (Qaw kj) ⟨_, rfl, xx1, hrs3, [], OwL.nil _, by decide, fun hne => absurd h8 hne⟩)
  ·skip
   refine wp_skip ?_
   refine hK10 _ _ ?_
   refine Qae ?_
   refine Qab (u) 14 rfl kj kj ?_
   refine Qab (.func (.func 61) #[] #[]) 15 rfl kj kj ?_
   refine Qab (.pointer (some ⟨gr, 0, none⟩)) 16 rfl kj kj ?_
   refine Qak (fun v W' => ExtB gr V1 W' ∧ RSt B gr (Qa2 (itG Qa2 (Qad s 1) i)) W' ∧ (fun (v : Value) (W : World) => ∃ (xz : List Int) (a : Option Addr) (c : Nat), v = .agg (cat [ints .u8 (qGrp (itG Qa2 (Qad s 1) i)), #[.int .i64 (qEp (itG Qa2 (Qad s 1) i))], #[.int .i64 (qFr (itG Qa2 (Qad s 1) i))], ints .u8 (qBa (itG Qa2 (Qad s 1) i)), #[.int .i64 ((qKd (itG Qa2 (Qad s 1) i) : Nat) : Int)], #[.bool (qUs (itG Qa2 (Qad s 1) i))], #[.int .i64 (qNm (itG Qa2 (Qad s 1) i))], ints .u8 (qKy (itG Qa2 (Qad s 1) i)), ints .u8 (qSg (itG Qa2 (Qad s 1) i)), ints .u8 (qPa (itG Qa2 (Qad s 1) i)), #[.slice a xz.length c], ints .u8 (qSt (itG Qa2 (Qad s 1) i)), #[.int .i64 (qAt (itG Qa2 (Qad s 1) i))], ints .u8 (qSig (itG Qa2 (Qad s 1) i))]) ∧ OwnN .i64 3 V1.heap.size xz (.slice a xz.length c) W ∧ xz.length ≤ 255 ∧ (Qa2 (itG Qa2 (Qad s 1) i) ≠ none → xz = qL (itG Qa2 (Qad s 1) i))) v W') 61 #[.pointer (some ⟨gr, 0, none⟩)] 17 rfl kj kj (QiC B gr _ _ hB hrs) fun vv16 W3 hh16 => ?_
   obtain ⟨q3, rs16, hv16⟩ := hh16
   have x3 : ExtB gr w W3 := ExtB.tr xx1 q3
   have hby17 := hrs.byS
   obtain ⟨xs17, ax17, cx17, rfl, hox17, hlx17, hxx17⟩ := hv16
   obtain ⟨tt17, htt17⟩ : ∃ z : PrV, z = ⟨⟨qGrp (itG Qa2 (Qad s 1) i), qEp (itG Qa2 (Qad s 1) i), qFr (itG Qa2 (Qad s 1) i), qBa (itG Qa2 (Qad s 1) i), ((qKd (itG Qa2 (Qad s 1) i) : Nat) : Int), ⟨qUs (itG Qa2 (Qad s 1) i), qNm (itG Qa2 (Qad s 1) i), qKy (itG Qa2 (Qad s 1) i), qSg (itG Qa2 (Qad s 1) i), qPa (itG Qa2 (Qad s 1) i), xs17⟩, qSt (itG Qa2 (Qad s 1) i), qAt (itG Qa2 (Qad s 1) i), qSig (itG Qa2 (Qad s 1) i)⟩, ax17, cx17⟩ := ⟨_, rfl⟩
   have hin17 : InPr V1.heap.size tt17 W3 := by rw [htt17]; exact ⟨Qjs hby17 _, hlx17, hox17⟩
   have his17 : Qa2 (itG Qa2 (Qad s 1) i) ≠ none → PrIs (itG Qa2 (Qad s 1) i) tt17 := fun hne => by rw [htt17]; exact ⟨rfl, rfl, rfl, rfl, rfl, rfl, rfl, rfl, rfl, rfl, hxx17 hne, rfl, rfl, rfl⟩
   refine QdV (.cells (cat [ints .u8 (qGrp (itG Qa2 (Qad s 1) i)), #[.int .i64 (qEp (itG Qa2 (Qad s 1) i))], #[.int .i64 (qFr (itG Qa2 (Qad s 1) i))], ints .u8 (qBa (itG Qa2 (Qad s 1) i)), #[.int .i64 ((qKd (itG Qa2 (Qad s 1) i) : Nat) : Int)], #[.bool (qUs (itG Qa2 (Qad s 1) i))], #[.int .i64 (qNm (itG Qa2 (Qad s 1) i))], ints .u8 (qKy (itG Qa2 (Qad s 1) i)), ints .u8 (qSg (itG Qa2 (Qad s 1) i)), ints .u8 (qPa (itG Qa2 (Qad s 1) i)), #[.slice ax17 xs17.length cx17], ints .u8 (qSt (itG Qa2 (Qad s 1) i)), #[.int .i64 (qAt (itG Qa2 (Qad s 1) i))], ints .u8 (qSig (itG Qa2 (Qad s 1) i))]) 47) (fun g => .slice (some ⟨g, 0, none⟩) 1 1) 18 rfl kj (QeO 54 47 263 _ (.agg (cat [ints .u8 (qGrp (itG Qa2 (Qad s 1) i)), #[.int .i64 (qEp (itG Qa2 (Qad s 1) i))], #[.int .i64 (qFr (itG Qa2 (Qad s 1) i))], ints .u8 (qBa (itG Qa2 (Qad s 1) i)), #[.int .i64 ((qKd (itG Qa2 (Qad s 1) i) : Nat) : Int)], #[.bool (qUs (itG Qa2 (Qad s 1) i))], #[.int .i64 (qNm (itG Qa2 (Qad s 1) i))], ints .u8 (qKy (itG Qa2 (Qad s 1) i)), ints .u8 (qSg (itG Qa2 (Qad s 1) i)), ints .u8 (qPa (itG Qa2 (Qad s 1) i)), #[.slice ax17 xs17.length cx17], ints .u8 (qSt (itG Qa2 (Qad s 1) i)), #[.int .i64 (qAt (itG Qa2 (Qad s 1) i))], ints .u8 (qSig (itG Qa2 (Qad s 1) i))])) rfl kj kj kj kj (by have h9 := Qb5 tt17 hin17.1; rw [htt17] at h9; exact h9) (by decide) (by decide)) fun gz W4 lz e4 rz => ?_
   have x4 : ExtB gr w W4 := ExtB.ext x3 e4
   refine QdW inPr (by decide) 328 (.tmp 14) (.tmp 18) 54 rfl kj kj (by decide) (by decide) 19 rfl kj kj kj (OwL.rows inPr (OwL.rows inPr hu (Qbt 0 q3 hgr) (by decide)) (QbF _ 0 e4) (by decide)) (n := tt17) (cells := (cat (prP tt17))) (inPr 0 (by decide) _ _ _ _ (QbF _ 0 e4) (InPr.base xx1.2.2.2.1 tt17 hin17)) rfl (Qb5 tt17 hin17.1) (Qib tt17) (by rw [htt17]; exact rz) (by omega) x4.2.2.2.1 fun u2 W5 hu2 l5 => ?_
   have x5 : ExtB gr w W5 := ExtB.low x4 l5 (Nat.le_refl _)
   refine Qab (u2) 5 rfl kj kj ?_
   refine Qaf ?_
   refine hK9 _ _ ?_
   refine Qae ?_
   refine Qab (.int .i64 ((i + 1 : Nat) : Int)) 20 rfl kj (Qax (u := .int .i64 (IntKind.i64.wrap (((i : Nat) : Int) + 1))) kj (congrArg (Value.int .i64) (i64n _ _ (by omega) (by omega)))) ?_
   refine Qab (.int .i64 ((i + 1 : Nat) : Int)) 8 rfl kj kj ?_
   refine Qaf ?_
   have hts2 : (ts ++ [tt17]).length = i + 1 := by rw [List.length_append, List.length_singleton]; omega
   have hnd2 : itG Qa2 (Qad s 1) (i + 1) ≠ none → ∀ j, j < (ts ++ [tt17]).length → PrIs (itG Qa2 (Qad s 1) j) ((ts ++ [tt17]).getD j pr0) := by
    intro hne j hj
    rw [Qdu]
    split
    ·rename_i h5
     exact hnd (fun h6 => hne (QbS QdJ _ i h6 _ (by omega))) j h5
    ·rename_i h5
     obtain rfl : j = ts.length := by omega
     rw [if_pos rfl, htl]
     exact his17 hne
   have rs18 := (RSt.low (RSt.ext rs16 hB e4) hB l5 hgr)
   repeat (first | with_reducible refine goX1 ?_ | with_reducible refine goX2 ?_ | with_reducible refine goX3 ?_)
   exact QaK ((i + 1), u2, (ts ++ [tt17])) ⟨rfl, rfl, rfl, rfl, rfl, trivial⟩ ⟨(by omega), rs18, hu2, hts2, hnd2, x5⟩ (by omega)
 ·skip
  have heq9 : i = bigN (Qai s 1) := by have := of_decide_eq_false c8; omega
  have hrs2 := hrs
  rw [heq9] at hrs2
  refine wp_exit ?_
  refine hK3 _ _ ?_
  refine wp_seq_k fun K19 hK19 => ?_
  refine Qae ?_
  refine Qab (u) 21 rfl kj kj ?_
  refine Qab (u) 4 rfl kj kj ?_
  refine Qaf ?_
  refine hK19 _ _ ?_
  refine wp_ret ?_
  repeat (first | with_reducible refine goR1 ?_ | with_reducible refine goR2 ?_)
  exact (show bodyPost _ _ _ .ret _ _ from ret1 (u) rfl (Qaw kj) ⟨_, rfl, xx1, hrs2, ts, hu, by omega, fun hne => ⟨(show ts.length = bigN (Qai s 1) by omega), fun j hj => hnd (by rw [heq9]; exact hne) j hj⟩⟩)
end Go.Proofs.Ytfelfmchachljaa.Wr
end
