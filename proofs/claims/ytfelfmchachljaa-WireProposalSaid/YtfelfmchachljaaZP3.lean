/- Texts of this claim, joined (P3). -/
import Derived.Test.YtfelfmchachljaaZP2

section
namespace Go.Proofs.Ytfelfmchachljaa.Wr
open Go Go.RowKit
open Rely Auto Own Sha
set_option linter.unusedVariables false
set_option linter.unusedSimpArgs false
open Wk
section
variable {P : Program} {ops : Array Oper} {Q : Exit → Act → World → Prop} {o : Oper} {N : Nat} {L : Env} {w V : World} {ds : List Deferred} {fuel : Nat} {listed : Array Bool}
def QgB (N : Nat) (ds : List Deferred) {α : Type} (live : α → Env) (I : α → World → Prop) (e : Exit) (a : Act) (W : World) : Prop := match e with
  | .normal => ∃ (s : α) (X : Env), a = QaD ds N (live s ++ X) ∧ I s W
  | _ => False
theorem Qcj {α : Type} {id : Nat} {l : List Oper} (live : α → Env) (I : α → World → Prop) (hm : P.follows .mixedOrders = true) (h : ∀ W, Ext w W → WB P l.toArray (QgB N ds live I) (Ext W) l.length (Array.replicate l.length false) (QaD ds N L) W)
    (kk : ∀ (s : α) (X : Env) (W : World), I s W → Q .normal (QaD ds N (live s ++ X)) W) : (Code.region id l.toArray true).wp P Q (QaD ds N L) w := by
  refine wp_mono (QaU hm h) fun e a' w' h => ?_
  cases e with
  | normal =>
    obtain ⟨s, X, rfl, hI⟩ := h
    exact kk s X w' hI
  | _ => exact h.elim
theorem QbN {α : Type} {live : α → Env} {I : α → World → Prop} (hr : Region.ready .any ops listed = []) (s : α) (hL : QdP L (live s)) (hI : I s w) : WB P ops (QgB N ds live I) (Ext V) fuel listed (QaD ds N L) w :=
  QbH hr ⟨s, L, (QcM hL).symm, hI⟩
theorem QbA {k : IntKind} {T : TypeId} (b : Nat) (s x : Operand) (t : TypeId) (ho2 : o.op = .call { callee := .builtin .append, args := #[s, x], argTypes := #[t, t] })
    (ht : P.underlying t = some (.slice T)) (hi : (P.info? T).map (fun i => (i.zero, i.size, i.bytes)) = some (some (.int k 0), 1, b)) (hb8 : b ≤ 8) (d : Nat) (hd : o.dst = some d) (j : Nat) (ho : ops[j]? = some o) (hg : QbE ops o N L = some true) {B : Nat} {v y : Value} {xs ys : List Int}
    (hs : Rely.look (envN N L) s = v) (hx : Rely.look (envN N L) x = y)
    (h : OwnN k T V.heap.size xs v w) (hy : RdK k B ys y w) (hn : xs.length + ys.length ≤ 1000000000) (hV : Ext V w) {g : Nat} {c : Array Value} {T' : TypeId} (hrow : w.heap[g]? = some (.cells c T')) (hnb : v.ownBlock ≠ some g)
    (kk : ∀ (u : Value) (W' : World), OwnN k T V.heap.size (xs ++ ys) u W' → Ext V W' → Below V.heap.size w W' → W'.heap[g]? = some (.cells c T') → WB P ops Q (Ext V) fuel (listed.setIfInBounds j true) (QaD ds N ((d, u) :: L)) W') : WO P ops Q (Ext V) j fuel listed (QaD ds N L) w := by
  obtain ⟨v', W', h1, h2, h3, h4⟩ := Qcd (ρ := Rely.look (envN N L)) (o := o) (W := w) s x t ho2 ht hi hb8 hs hx h hy hn hV.size
  exact QbG ho (fun u W' => OwnN k T V.heap.size (xs ++ ys) u W' ∧ Ext V W' ∧ Below V.heap.size w W' ∧ W'.heap[g]? = some (.cells c T')) d hd hg ⟨v', W', h1, h2, Qdo hV h h3, ⟨h3.os, h3.tape, h3.output, h3.size, fun i hi => h3.block i (Nat.lt_of_lt_of_le hi hV.size) (fun q => by have := h.ge q.symm; omega)⟩, (h3.block g (Qay hrow) (fun q => hnb q.symm)).trans hrow⟩ (fun _ _ h => h.2.1) fun u W' h => kk u W' h.1 h.2.1 h.2.2.1 h.2.2.2
end
theorem QaF (us : Bool) (nm : Int) (key sg pa ms : List Int) : (Qbd us nm key sg pa ms).length = 2 + key.length + sg.length + pa.length + 1 + ms.length := by unfold Qbd QbK; simp only [List.length_append, List.length_cons, List.length_nil, List.length_map]
set_option maxHeartbeats 4000000 in
theorem Qfe (grp : List Int) (ep fr : Int) (bas : List Int) (us : Bool) (nm : Int) (key sg pa ms start : List Int) (at_ : Int) (sig : List Int) (a_m : Option Addr) (c_m : Nat) (w : World) (hrl : grp.length = 32) (hrb : Qag grp) (hal : bas.length = 32) (hab : Qag bas) (hkl : key.length = 32) (hgl : sg.length = 32) (hpl : pa.length = 32) (hkb : Qag key) (hgb : Qag sg) (hpb : Qag pa) (hml : ms.length ≤ 1000000) (htl : start.length = 32) (htb : Qag start) (hil : sig.length = 64) (hib : Qag sig) (hm : RdK .i64 w.heap.size ms (.slice a_m ms.length c_m) w) (hep : 0 ≤ ep ∧ ep ≤ 4294967295) : Calls Try.prog 59 #[.agg (cat [ints .u8 (grp), #[.int .i64 ep], #[.int .i64 fr], ints .u8 (bas), #[.int .i64 1], #[.bool us], #[.int .i64 nm], ints .u8 (key), ints .u8 (sg), ints .u8 (pa), #[.slice a_m ms.length c_m], ints .u8 (start), #[.int .i64 at_], ints .u8 (sig)])] w (Qb1 w (OwnN .u8 5 w.heap.size (Qbm grp ep fr bas 1 us nm key sg pa ms start at_ sig))) := by
 refine enter 47 [(0, .agg (cat [ints .u8 (grp), #[.int .i64 ep], #[.int .i64 fr], ints .u8 (bas), #[.int .i64 1], #[.bool us], #[.int .i64 nm], ints .u8 (key), ints .u8 (sg), ints .u8 (pa), #[.slice a_m ms.length c_m], ints .u8 (start), #[.int .i64 at_], ints .u8 (sig)]))] Try.func59 rfl rfl kj rfl ?_
 refine wp_seq_k fun K1 hK1 => ?_
 refine Qae ?_
 refine Qav (cat [ints .u8 (grp), #[.int .i64 ep], #[.int .i64 fr], ints .u8 (bas), #[.int .i64 1], #[.bool us], #[.int .i64 nm], ints .u8 (key), ints .u8 (sg), ints .u8 (pa), #[.slice a_m ms.length c_m], ints .u8 (start), #[.int .i64 at_], ints .u8 (sig)]) 47 1 rfl kj kj fun g2 W1 l2 e1 r2_1 => ?_
 have x1 : Ext w W1 := Ext.tr (Rely.Ext.refl w) e1
 have b2 : w.heap.size ≤ g2 := Nat.le_trans (Rely.Ext.refl w).size l2
 refine Qab (.slice none 0 0) 2 rfl kj kj ?_
 refine Qaf ?_
 refine hK1 _ _ ?_
 refine wp_seq_k fun K3 hK3 => ?_
 refine Qcj (fun (s0 : Value) => [(1, .pointer (some ⟨g2, 0, none⟩)), (3, s0)]) (fun s0 W => OwnN .u8 5 W1.heap.size (QaE grp ep fr ++ bas ++ [byV 1 0]) s0 W ∧ Ext W1 W) kj (fun WS eS => ?_) (fun u XX WJ hI => ?_)
 ·skip
  obtain ⟨W2, hWS⟩ : ∃ z, z = WS := ⟨_, rfl⟩
  rw [← hWS] at eS ⊢
  have e2 := eS
  have x2 : Ext w W2 := Ext.tr x1 e2
  refine Qar 0 (.pointer (some ⟨g2, 0, none⟩)) 4 rfl rfl kj kj (fun _ _ _ h => h) (fun W hR => by kernel_rfl) ?_
  have r2_2 := (Qas r2_1 e2)
  refine Qar 1 (.agg (ints .u8 (grp))) 5 rfl rfl kj kj (fun _ _ _ h => h) (fun W hR => (Qau 39 _ g2 0 47 _ _ _ (Qas r2_2 hR) rfl kj (Qak [] [ints .u8 (grp)] [#[.int .i64 ep], #[.int .i64 fr], ints .u8 (bas), #[.int .i64 1], #[.bool us], #[.int .i64 nm], ints .u8 (key), ints .u8 (sg), ints .u8 (pa), #[.slice a_m ms.length c_m], ints .u8 (start), #[.int .i64 at_], ints .u8 (sig)] 0 kj) kj (isz (n := 32) kj ((Qac _ _).trans hrl)))) ?_
  refine Qar 2 (.pointer (some ⟨g2, 32, none⟩)) 6 rfl rfl kj kj (fun _ _ _ h => h) (fun W hR => by kernel_rfl) ?_
  refine Qar 3 (.int .i64 ep) 7 rfl rfl kj kj (fun _ _ _ h => h) (fun W hR => (Qah 3 _ g2 32 47 _ (.int .i64 ep) _ (Qas r2_2 hR) rfl kj (Qak [ints .u8 (grp)] [#[.int .i64 ep]] [#[.int .i64 fr], ints .u8 (bas), #[.int .i64 1], #[.bool us], #[.int .i64 nm], ints .u8 (key), ints .u8 (sg), ints .u8 (pa), #[.slice a_m ms.length c_m], ints .u8 (start), #[.int .i64 at_], ints .u8 (sig)] 32 ((Qac _ _).trans hrl) 0 _ rfl) kj)) ?_
  refine Qar 4 (.pointer (some ⟨g2, 33, none⟩)) 8 rfl rfl kj kj (fun _ _ _ h => h) (fun W hR => by kernel_rfl) ?_
  refine Qar 5 (.int .i64 fr) 9 rfl rfl kj kj (fun _ _ _ h => h) (fun W hR => (Qah 3 _ g2 33 47 _ (.int .i64 fr) _ (Qas r2_2 hR) rfl kj (Qak [ints .u8 (grp), #[.int .i64 ep]] [#[.int .i64 fr]] [ints .u8 (bas), #[.int .i64 1], #[.bool us], #[.int .i64 nm], ints .u8 (key), ints .u8 (sg), ints .u8 (pa), #[.slice a_m ms.length c_m], ints .u8 (start), #[.int .i64 at_], ints .u8 (sig)] 33 (by rw [Qaa, Qaa]; simp only [Array.size_append, cat, ((Qac _ _).trans hrl)]; rfl) 0 _ rfl) kj)) ?_
  refine Qar 7 (.pointer (some ⟨g2, 34, none⟩)) 11 rfl rfl kj kj (fun _ _ _ h => h) (fun W hR => by kernel_rfl) ?_
  refine Qar 8 (.slice (some ⟨g2, 34, none⟩) 32 32) 12 rfl rfl kj kj (fun _ _ _ h => h) (fun W hR => by kernel_rfl) ?_
  refine Qar 10 (.pointer (some ⟨g2, 66, none⟩)) 14 rfl rfl kj kj (fun _ _ _ h => h) (fun W hR => by kernel_rfl) ?_
  refine Qar 11 (.int .i64 1) 15 rfl rfl kj kj (fun _ _ _ h => h) (fun W hR => (Qah 3 _ g2 66 47 _ (.int .i64 1) _ (Qas r2_2 hR) rfl kj (Qak [ints .u8 (grp), #[.int .i64 ep], #[.int .i64 fr], ints .u8 (bas)] [#[.int .i64 1]] [#[.bool us], #[.int .i64 nm], ints .u8 (key), ints .u8 (sg), ints .u8 (pa), #[.slice a_m ms.length c_m], ints .u8 (start), #[.int .i64 at_], ints .u8 (sig)] 66 (by rw [Qaa, Qaa, Qaa, Qaa]; simp only [Array.size_append, cat, ((Qac _ _).trans hal), ((Qac _ _).trans hrl)]; rfl) 0 _ rfl) kj)) ?_
  refine Qar 12 (.int .u8 (byV 1 0)) 16 rfl rfl kj kj (fun _ _ _ h => h) (fun W hR => (Qax (u := .int .u8 (IntKind.u8.wrap (1))) kj (congrArg (Value.int .u8) (byV0 1)))) ?_
  refine QcO 6 13 kj ?_ ?_
  ·skip
   refine Qbe rfl (fun v W' => (OwnN .u8 5 W2.heap.size (QaE grp ep fr)) v W' ∧ Ext W2 W') 66 #[.agg (ints .u8 (grp)), .int .i64 ep, .int .i64 fr] 10 rfl kj kj ((QcS grp ep fr _ hrl hep).mono (by rintro e w' ⟨v, rfl, e1, hv⟩; exact ⟨v, rfl, hv, e1⟩)) (fun _ _ h => Rely.Ext.trans (Rely.Ext.refl W2) h.2) fun vv4 W3 hh4 => ?_
   obtain ⟨hv4, e3⟩ := hh4
   have x3 : Ext w W3 := Ext.tr x2 e3
   obtain ⟨ahd_, chd_, rfl, -⟩ := id (OwnN.rd hv4)
   have hva3 := OwnN.base (Rely.Ext.refl W2).size hv4
   refine QcO 9 13 kj ?_ ?_
   ·skip
    have r2_3 := (Qas r2_2 e3)
    have y2_3 : Ext W2 W3 := (Rely.Ext.trans (Rely.Ext.refl W2) e3)
    refine QaY (k := .u8) (T := 5) (xs := QaE grp ep fr) (ys := bas) (V := W2) 1 (.tmp 10) (.tmp 12) 26 rfl kj kj (by decide) 13 rfl 9 rfl kj kj kj hva3 (QaC 34 hal r2_3 (fun i hi => Qa8 [ints .u8 (grp), #[.int .i64 ep], #[.int .i64 fr]] [#[.int .i64 1], #[.bool us], #[.int .i64 nm], ints .u8 (key), ints .u8 (sg), ints .u8 (pa), #[.slice a_m ms.length c_m], ints .u8 (start), #[.int .i64 at_], ints .u8 (sig)] bas 34 i (34 + i) (by rw [Qaa, Qaa, Qaa]; simp only [Array.size_append, cat, ((Qac _ _).trans hrl)]; rfl) rfl (by rw [hal]; exact hi)) (Qay r2_3) (Nat.le_refl _) (by decide)) (by simp only [List.length_append, List.length_cons, List.length_nil, QaF, QaG ep fr hrl, hrl, hal, hkl, hgl, hpl, htl, hil]; omega) y2_3 fun zz1 W4 f5 y4 l4 => ?_
    have x4 : Ext w W4 := Ext.low x3 l4 x2.size
    obtain ⟨ap1_, cp1_, rfl, -⟩ := id (OwnN.rd f5)
    refine QaN 13 kj ?_
    refine QbG rfl (fun v W' => Ext W4 W' ∧ NewS W4.heap.size #[.int .u8 (byV 1 0)] 5 1 v W') 17 rfl kj ⟨_, _, (by kernel_rfl : _ = Result.ok (Next.value (.slice (some ⟨W4.heap.size, 0, none⟩) 1 1)) (W4.alloc (.cells #[.int .u8 (byV 1 0)] 5))), Qbp _ _, ⟨_, rfl, Nat.le_refl _, heap_alloc_new _ _⟩⟩ (fun _ _ h => Rely.Ext.trans y4 h.1) fun vv7 W5 hh7 => ?_
    obtain ⟨e5, gz, rfl, lz5, rz5⟩ := hh7
    have x5 : Ext w W5 := Ext.tr x4 e5
    have bz5 : w.heap.size ≤ gz := Nat.le_trans x4.size lz5
    refine QaN 14 kj ?_
    have f9_5 := (f5.ext e5)
    have y2_5 : Ext W2 W5 := (Rely.Ext.trans y4 e5)
    refine QaY (k := .u8) (T := 5) (xs := QaE grp ep fr ++ bas) (ys := [(byV 1 0)]) (V := W2) 1 (.tmp 13) (.tmp 17) 26 rfl kj kj (by decide) 18 rfl 14 rfl kj kj kj f9_5 (QaT (xs := [(byV 1 0)]) (n := 1) rfl rz5 (Qay rz5) (show 1 ≤ maxLen from by decide)) (by simp only [List.length_append, List.length_cons, List.length_nil, QaF, QaG ep fr hrl, hrl, hal, hkl, hgl, hpl, htl, hil]; omega) y2_5 fun zz2 W6 f10 y6 l6 => ?_
    have x6 : Ext w W6 := Ext.low x5 l6 x2.size
    obtain ⟨ap2_, cp2_, rfl, -⟩ := id (OwnN.rd f10)
    refine Qar 15 (.slice ap2_ ((QaE grp ep fr ++ bas ++ [(byV 1 0)]).length) cp2_) 3 rfl rfl kj kj (fun _ _ _ h => h) (fun W hR => by kernel_rfl) ?_
    exact QbN kj (.slice ap2_ ((QaE grp ep fr ++ bas ++ [(byV 1 0)]).length) cp2_) ⟨rfl, rfl, trivial⟩ ⟨OwnN.base e2.size f10, Rely.Ext.trans e2 y6⟩
   ·skip
    have y2_3 : Ext W2 W3 := (Rely.Ext.trans (Rely.Ext.refl W2) e3)
    refine QbG rfl (fun v W' => Ext W3 W' ∧ NewS W3.heap.size #[.int .u8 (byV 1 0)] 5 1 v W') 17 rfl kj ⟨_, _, (by kernel_rfl : _ = Result.ok (Next.value (.slice (some ⟨W3.heap.size, 0, none⟩) 1 1)) (W3.alloc (.cells #[.int .u8 (byV 1 0)] 5))), Qbp _ _, ⟨_, rfl, Nat.le_refl _, heap_alloc_new _ _⟩⟩ (fun _ _ h => Rely.Ext.trans y2_3 h.1) fun vv12 W4 hh12 => ?_
    obtain ⟨e4, gz, rfl, lz4, rz4⟩ := hh12
    have x4 : Ext w W4 := Ext.tr x3 e4
    have bz4 : w.heap.size ≤ gz := Nat.le_trans x3.size lz4
    have hnb4 : (Value.slice ahd_ (QaE grp ep fr).length chd_).ownBlock ≠ some gz := fun q => by have := hva3.lt q; omega
    refine QaN 9 kj ?_
    have f14_4 := (hva3.ext e4)
    have r2_3 := (Qas r2_2 e3)
    have r2_4 := (Qas r2_3 e4)
    have y2_4 : Ext W2 W4 := (Rely.Ext.trans y2_3 e4)
    refine QbA (k := .u8) (T := 5) (xs := QaE grp ep fr) (ys := bas) (V := W2) 1 (.tmp 10) (.tmp 12) 26 rfl kj kj (by decide) 13 rfl 9 rfl kj kj kj f14_4 (QaC 34 hal r2_4 (fun i hi => Qa8 [ints .u8 (grp), #[.int .i64 ep], #[.int .i64 fr]] [#[.int .i64 1], #[.bool us], #[.int .i64 nm], ints .u8 (key), ints .u8 (sg), ints .u8 (pa), #[.slice a_m ms.length c_m], ints .u8 (start), #[.int .i64 at_], ints .u8 (sig)] bas 34 i (34 + i) (by rw [Qaa, Qaa, Qaa]; simp only [Array.size_append, cat, ((Qac _ _).trans hrl)]; rfl) rfl (by rw [hal]; exact hi)) (Qay r2_4) (Nat.le_refl _) (by decide)) (by simp only [List.length_append, List.length_cons, List.length_nil, QaF, QaG ep fr hrl, hrl, hal, hkl, hgl, hpl, htl, hil]; omega) y2_4 rz4 hnb4 fun zz1 W5 f15 y5 l5 rz5 => ?_
    have x5 : Ext w W5 := Ext.low x4 l5 x2.size
    obtain ⟨ap1_, cp1_, rfl, -⟩ := id (OwnN.rd f15)
    refine QaN 14 kj ?_
    refine QaY (k := .u8) (T := 5) (xs := QaE grp ep fr ++ bas) (ys := [(byV 1 0)]) (V := W2) 1 (.tmp 13) (.tmp 17) 26 rfl kj kj (by decide) 18 rfl 14 rfl kj kj kj f15 (QaT (xs := [(byV 1 0)]) (n := 1) rfl rz5 (Qay rz5) (show 1 ≤ maxLen from by decide)) (by simp only [List.length_append, List.length_cons, List.length_nil, QaF, QaG ep fr hrl, hrl, hal, hkl, hgl, hpl, htl, hil]; omega) y5 fun zz2 W6 f16 y6 l6 => ?_
    have x6 : Ext w W6 := Ext.low x5 l6 x2.size
    obtain ⟨ap2_, cp2_, rfl, -⟩ := id (OwnN.rd f16)
    refine Qar 15 (.slice ap2_ ((QaE grp ep fr ++ bas ++ [(byV 1 0)]).length) cp2_) 3 rfl rfl kj kj (fun _ _ _ h => h) (fun W hR => by kernel_rfl) ?_
    exact QbN kj (.slice ap2_ ((QaE grp ep fr ++ bas ++ [(byV 1 0)]).length) cp2_) ⟨rfl, rfl, trivial⟩ ⟨OwnN.base e2.size f16, Rely.Ext.trans e2 y6⟩
  ·skip
   refine QbG rfl (fun v W' => Ext W2 W' ∧ NewS W2.heap.size #[.int .u8 (byV 1 0)] 5 1 v W') 17 rfl kj ⟨_, _, (by kernel_rfl : _ = Result.ok (Next.value (.slice (some ⟨W2.heap.size, 0, none⟩) 1 1)) (W2.alloc (.cells #[.int .u8 (byV 1 0)] 5))), Qbp _ _, ⟨_, rfl, Nat.le_refl _, heap_alloc_new _ _⟩⟩ (fun _ _ h => Rely.Ext.trans (Rely.Ext.refl W2) h.1) fun vv18 W3 hh18 => ?_
   obtain ⟨e3, gz, rfl, lz3, rz3⟩ := hh18
   have x3 : Ext w W3 := Ext.tr x2 e3
   have bz3 : w.heap.size ≤ gz := Nat.le_trans x2.size lz3
   refine QaN 6 kj ?_
   have y2_3 : Ext W2 W3 := (Rely.Ext.trans (Rely.Ext.refl W2) e3)
   refine Qbe rfl (fun v W' => (OwnN .u8 5 W3.heap.size (QaE grp ep fr)) v W' ∧ Ext W3 W') 66 #[.agg (ints .u8 (grp)), .int .i64 ep, .int .i64 fr] 10 rfl kj kj ((QcS grp ep fr _ hrl hep).mono (by rintro e w' ⟨v, rfl, e1, hv⟩; exact ⟨v, rfl, hv, e1⟩)) (fun _ _ h => Rely.Ext.trans y2_3 h.2) fun vv20 W4 hh20 => ?_
   obtain ⟨hv20, e4⟩ := hh20
   have x4 : Ext w W4 := Ext.tr x3 e4
   obtain ⟨ahd_, chd_, rfl, -⟩ := id (OwnN.rd hv20)
   have hva4 := OwnN.base y2_3.size hv20
   have hnb4 := QaV hv20 (Qay rz3)
   refine QaN 9 kj ?_
   have r2_3 := (Qas r2_2 e3)
   have r2_4 := (Qas r2_3 e4)
   have y2_4 : Ext W2 W4 := (Rely.Ext.trans y2_3 e4)
   have r19_4 := (Qas rz3 e4)
   refine QbA (k := .u8) (T := 5) (xs := QaE grp ep fr) (ys := bas) (V := W2) 1 (.tmp 10) (.tmp 12) 26 rfl kj kj (by decide) 13 rfl 9 rfl kj kj kj hva4 (QaC 34 hal r2_4 (fun i hi => Qa8 [ints .u8 (grp), #[.int .i64 ep], #[.int .i64 fr]] [#[.int .i64 1], #[.bool us], #[.int .i64 nm], ints .u8 (key), ints .u8 (sg), ints .u8 (pa), #[.slice a_m ms.length c_m], ints .u8 (start), #[.int .i64 at_], ints .u8 (sig)] bas 34 i (34 + i) (by rw [Qaa, Qaa, Qaa]; simp only [Array.size_append, cat, ((Qac _ _).trans hrl)]; rfl) rfl (by rw [hal]; exact hi)) (Qay r2_4) (Nat.le_refl _) (by decide)) (by simp only [List.length_append, List.length_cons, List.length_nil, QaF, QaG ep fr hrl, hrl, hal, hkl, hgl, hpl, htl, hil]; omega) y2_4 r19_4 hnb4 fun zz1 W5 f21 y5 l5 rz5 => ?_
   have x5 : Ext w W5 := Ext.low x4 l5 x2.size
   obtain ⟨ap1_, cp1_, rfl, -⟩ := id (OwnN.rd f21)
   refine QaN 14 kj ?_
   refine QaY (k := .u8) (T := 5) (xs := QaE grp ep fr ++ bas) (ys := [(byV 1 0)]) (V := W2) 1 (.tmp 13) (.tmp 17) 26 rfl kj kj (by decide) 18 rfl 14 rfl kj kj kj f21 (QaT (xs := [(byV 1 0)]) (n := 1) rfl rz5 (Qay rz5) (show 1 ≤ maxLen from by decide)) (by simp only [List.length_append, List.length_cons, List.length_nil, QaF, QaG ep fr hrl, hrl, hal, hkl, hgl, hpl, htl, hil]; omega) y5 fun zz2 W6 f22 y6 l6 => ?_
   have x6 : Ext w W6 := Ext.low x5 l6 x2.size
   obtain ⟨ap2_, cp2_, rfl, -⟩ := id (OwnN.rd f22)
   refine Qar 15 (.slice ap2_ ((QaE grp ep fr ++ bas ++ [(byV 1 0)]).length) cp2_) 3 rfl rfl kj kj (fun _ _ _ h => h) (fun W hR => by kernel_rfl) ?_
   exact QbN kj (.slice ap2_ ((QaE grp ep fr ++ bas ++ [(byV 1 0)]).length) cp2_) ⟨rfl, rfl, trivial⟩ ⟨OwnN.base e2.size f22, Rely.Ext.trans e2 y6⟩
 obtain ⟨W2, hWJ⟩ : ∃ z, z = WJ := ⟨_, rfl⟩
 rw [← hWJ] at hI ⊢
 obtain ⟨hJ, e2⟩ := hI
 have x2 : Ext w W2 := Ext.tr x1 e2
 obtain ⟨aJ_, cJ_, rfl, -⟩ := id (OwnN.rd hJ)
 refine hK3 _ _ ?_
 refine wp_seq_k fun K24 hK24 => ?_
 refine wp_seq_k fun K25 hK25 => ?_
 refine Qae ?_
 refine Qab (.pointer (some ⟨g2, 66, none⟩)) 19 rfl kj kj ?_
 have r2_2 := (Qas r2_1 e2)
 refine Qab (.int .i64 1) 20 rfl kj (Qah 3 _ g2 66 47 _ (.int .i64 1) _ r2_2 rfl kj (Qak [ints .u8 (grp), #[.int .i64 ep], #[.int .i64 fr], ints .u8 (bas)] [#[.int .i64 1]] [#[.bool us], #[.int .i64 nm], ints .u8 (key), ints .u8 (sg), ints .u8 (pa), #[.slice a_m ms.length c_m], ints .u8 (start), #[.int .i64 at_], ints .u8 (sig)] 66 (by rw [Qaa, Qaa, Qaa, Qaa]; simp only [Array.size_append, cat, ((Qac _ _).trans hal), ((Qac _ _).trans hrl)]; rfl) 0 _ rfl) kj) ?_
 refine Qab (.bool true) 21 rfl kj kj ?_
 refine Qaf ?_
 refine hK25 _ _ ?_
 refine cond_true kj ?_
 refine Qae ?_
 refine Qab (.slice aJ_ ((QaE grp ep fr ++ bas ++ [byV 1 0]).length) cJ_) 22 rfl kj kj ?_
 refine Qab (.pointer (some ⟨g2, 67, none⟩)) 23 rfl kj kj ?_
 refine Qab (.agg (cat [#[.bool us], #[.int .i64 nm], ints .u8 (key), ints .u8 (sg), ints .u8 (pa), #[.slice a_m ms.length c_m]])) 24 rfl kj (Qau 43 _ g2 67 47 _ _ _ r2_2 rfl kj (Qak [ints .u8 (grp), #[.int .i64 ep], #[.int .i64 fr], ints .u8 (bas), #[.int .i64 1]] [#[.bool us], #[.int .i64 nm], ints .u8 (key), ints .u8 (sg), ints .u8 (pa), #[.slice a_m ms.length c_m]] [ints .u8 (start), #[.int .i64 at_], ints .u8 (sig)] 67 (by rw [Qaa, Qaa, Qaa, Qaa, Qaa]; simp only [Array.size_append, cat, ((Qac _ _).trans hal), ((Qac _ _).trans hrl)]; rfl)) kj (isz (n := 99) kj (by rw [Qaa, Qaa, Qaa, Qaa, Qaa, Qaa]; simp only [Array.size_append, cat, ((Qac _ _).trans hgl), ((Qac _ _).trans hkl), ((Qac _ _).trans hpl)]; rfl))) ?_
 refine Qal (fun v W' => (OwnN .u8 5 W2.heap.size (Qbd us nm key sg pa ms)) v W' ∧ Ext W2 W') 97 #[.agg (cat [#[.bool us], #[.int .i64 nm], ints .u8 (key), ints .u8 (sg), ints .u8 (pa), #[.slice a_m ms.length c_m]])] 25 rfl kj kj ((Qf4 us nm key sg pa ms _ _ _ hkl hgl hpl hml (RdK.here (RdK.ext hm x2))).mono (by rintro e w' ⟨v, rfl, e1, hv⟩; exact ⟨v, rfl, hv, e1⟩)) fun vv26 W3 hh26 => ?_
 obtain ⟨hv26, e3⟩ := hh26
 have x3 : Ext w W3 := Ext.tr x2 e3
 obtain ⟨and_, cnd_, rfl, -⟩ := id (OwnN.rd hv26)
 have f27_3 := (hJ.ext e3)
 have y1_2 : Ext W1 W2 := (Rely.Ext.trans (Rely.Ext.refl W1) e2)
 have y1_3 : Ext W1 W3 := (Rely.Ext.trans y1_2 e3)
 refine QaK (k := .u8) (T := 5) (xs := QaE grp ep fr ++ bas ++ [byV 1 0]) (ys := Qbd us nm key sg pa ms) (V := W1) 1 (.tmp 22) (.tmp 25) 26 rfl kj kj (by decide) 26 rfl kj kj kj f27_3 (OwnN.rd hv26) (by simp only [List.length_append, List.length_cons, List.length_nil, QaF, QaG ep fr hrl, hrl, hal, hkl, hgl, hpl, htl, hil]; omega) y1_3 fun zz3 W4 f28 y4 l4 => ?_
 have x4 : Ext w W4 := Ext.low x3 l4 x1.size
 obtain ⟨ap3_, cp3_, rfl, -⟩ := id (OwnN.rd f28)
 refine Qab (.slice ap3_ ((QaE grp ep fr ++ bas ++ [byV 1 0] ++ Qbd us nm key sg pa ms).length) cp3_) 3 rfl kj kj ?_
 refine Qaf ?_
 refine hK24 _ _ ?_
 refine wp_seq_k fun K30 hK30 => ?_
 refine wp_seq_k fun K31 hK31 => ?_
 refine Qae ?_
 refine Qab (.pointer (some ⟨g2, 66, none⟩)) 27 rfl kj kj ?_
 have r2_3 := (Qas r2_2 e3)
 have r2_4 := (Qbw l4 r2_3 (Qay r2_1))
 refine Qab (.int .i64 1) 28 rfl kj (Qah 3 _ g2 66 47 _ (.int .i64 1) _ r2_4 rfl kj (Qak [ints .u8 (grp), #[.int .i64 ep], #[.int .i64 fr], ints .u8 (bas)] [#[.int .i64 1]] [#[.bool us], #[.int .i64 nm], ints .u8 (key), ints .u8 (sg), ints .u8 (pa), #[.slice a_m ms.length c_m], ints .u8 (start), #[.int .i64 at_], ints .u8 (sig)] 66 (by rw [Qaa, Qaa, Qaa, Qaa]; simp only [Array.size_append, cat, ((Qac _ _).trans hal), ((Qac _ _).trans hrl)]; rfl) 0 _ rfl) kj) ?_
 refine Qab (.bool true) 29 rfl kj kj ?_
 refine Qaf ?_
 refine hK31 _ _ ?_
 refine cond_true kj ?_
 refine Qae ?_
 refine Qab (.slice ap3_ ((QaE grp ep fr ++ bas ++ [byV 1 0] ++ Qbd us nm key sg pa ms).length) cp3_) 30 rfl kj kj ?_
 refine Qab (.pointer (some ⟨g2, 166, none⟩)) 31 rfl kj kj ?_
 refine Qab (.slice (some ⟨g2, 166, none⟩) 32 32) 32 rfl kj kj ?_
 refine QaK (k := .u8) (T := 5) (xs := QaE grp ep fr ++ bas ++ [byV 1 0] ++ Qbd us nm key sg pa ms) (ys := start) (V := W1) 1 (.tmp 30) (.tmp 32) 26 rfl kj kj (by decide) 33 rfl kj kj kj f28 (QaC 166 htl r2_4 (fun i hi => Qa8 [ints .u8 (grp), #[.int .i64 ep], #[.int .i64 fr], ints .u8 (bas), #[.int .i64 1], #[.bool us], #[.int .i64 nm], ints .u8 (key), ints .u8 (sg), ints .u8 (pa), #[.slice a_m ms.length c_m]] [#[.int .i64 at_], ints .u8 (sig)] start 166 i (166 + i) (by rw [Qaa, Qaa, Qaa, Qaa, Qaa, Qaa, Qaa, Qaa, Qaa, Qaa, Qaa]; simp only [Array.size_append, cat, ((Qac _ _).trans hal), ((Qac _ _).trans hgl), ((Qac _ _).trans hkl), ((Qac _ _).trans hpl), ((Qac _ _).trans hrl)]; rfl) rfl (by rw [htl]; exact hi)) (Qay r2_4) (Nat.le_refl _) (by decide)) (by simp only [List.length_append, List.length_cons, List.length_nil, QaF, QaG ep fr hrl, hrl, hal, hkl, hgl, hpl, htl, hil]; omega) y4 fun zz4 W5 f32 y5 l5 => ?_
 have x5 : Ext w W5 := Ext.low x4 l5 x1.size
 obtain ⟨ap4_, cp4_, rfl, -⟩ := id (OwnN.rd f32)
 refine Qab (.slice ap4_ ((QaE grp ep fr ++ bas ++ [byV 1 0] ++ Qbd us nm key sg pa ms ++ start).length) cp4_) 3 rfl kj kj ?_
 refine Qaf ?_
 refine hK30 _ _ ?_
 refine wp_seq_k fun K34 hK34 => ?_
 refine wp_seq_k fun K35 hK35 => ?_
 refine Qae ?_
 refine Qab (.pointer (some ⟨g2, 66, none⟩)) 34 rfl kj kj ?_
 have r2_5 := (Qbw l5 r2_4 (Qay r2_1))
 refine Qab (.int .i64 1) 35 rfl kj (Qah 3 _ g2 66 47 _ (.int .i64 1) _ r2_5 rfl kj (Qak [ints .u8 (grp), #[.int .i64 ep], #[.int .i64 fr], ints .u8 (bas)] [#[.int .i64 1]] [#[.bool us], #[.int .i64 nm], ints .u8 (key), ints .u8 (sg), ints .u8 (pa), #[.slice a_m ms.length c_m], ints .u8 (start), #[.int .i64 at_], ints .u8 (sig)] 66 (by rw [Qaa, Qaa, Qaa, Qaa]; simp only [Array.size_append, cat, ((Qac _ _).trans hal), ((Qac _ _).trans hrl)]; rfl) 0 _ rfl) kj) ?_
 refine Qab (.bool false) 36 rfl kj kj ?_
 refine Qaf ?_
 refine hK35 _ _ ?_
 refine cond_false kj ?_
 refine wp_skip ?_
 refine hK34 _ _ ?_
 refine wp_seq_k fun K36 hK36 => ?_
 refine Qae ?_
 refine Qab (.slice ap4_ ((QaE grp ep fr ++ bas ++ [byV 1 0] ++ Qbd us nm key sg pa ms ++ start).length) cp4_) 43 rfl kj kj ?_
 refine Qab (.pointer (some ⟨g2, 199, none⟩)) 44 rfl kj kj ?_
 refine Qab (.slice (some ⟨g2, 199, none⟩) 64 64) 45 rfl kj kj ?_
 refine QaK (k := .u8) (T := 5) (xs := QaE grp ep fr ++ bas ++ [byV 1 0] ++ Qbd us nm key sg pa ms ++ start) (ys := sig) (V := W1) 1 (.tmp 43) (.tmp 45) 26 rfl kj kj (by decide) 46 rfl kj kj kj f32 (QaC 199 hil r2_5 (fun i hi => Qa8 [ints .u8 (grp), #[.int .i64 ep], #[.int .i64 fr], ints .u8 (bas), #[.int .i64 1], #[.bool us], #[.int .i64 nm], ints .u8 (key), ints .u8 (sg), ints .u8 (pa), #[.slice a_m ms.length c_m], ints .u8 (start), #[.int .i64 at_]] [] sig 199 i (199 + i) (by rw [Qaa, Qaa, Qaa, Qaa, Qaa, Qaa, Qaa, Qaa, Qaa, Qaa, Qaa, Qaa, Qaa]; simp only [Array.size_append, cat, ((Qac _ _).trans hal), ((Qac _ _).trans hgl), ((Qac _ _).trans hkl), ((Qac _ _).trans hpl), ((Qac _ _).trans hrl), ((Qac _ _).trans htl)]; rfl) rfl (by rw [hil]; exact hi)) (Qay r2_5) (Nat.le_refl _) (by decide)) (by simp only [List.length_append, List.length_cons, List.length_nil, QaF, QaG ep fr hrl, hrl, hal, hkl, hgl, hpl, htl, hil]; omega) y5 fun zz5 W6 f37 y6 l6 => ?_
 have x6 : Ext w W6 := Ext.low x5 l6 x1.size
 obtain ⟨ap5_, cp5_, rfl, -⟩ := id (OwnN.rd f37)
 refine Qab (.slice ap5_ ((QaE grp ep fr ++ bas ++ [byV 1 0] ++ Qbd us nm key sg pa ms ++ start ++ sig).length) cp5_) 2 rfl kj kj ?_
 refine Qaf ?_
 refine hK36 _ _ ?_
 refine wp_ret ?_
 repeat (first | with_reducible refine goR1 ?_ | with_reducible refine goR2 ?_)
 exact (show bodyPost _ _ _ .ret _ _ from ret1 (.slice ap5_ ((QaE grp ep fr ++ bas ++ [byV 1 0] ++ Qbd us nm key sg pa ms ++ start ++ sig).length) cp5_) rfl (Qaw kj) ⟨_, rfl, x6, OwnN.base x1.size (show OwnN .u8 5 _ (Qbm grp ep fr bas 1 us nm key sg pa ms start at_ sig) _ _ from (show QaE grp ep fr ++ bas ++ [byV 1 0] ++ Qbd us nm key sg pa ms ++ start ++ sig = Qbm grp ep fr bas 1 us nm key sg pa ms start at_ sig by unfold Qbm; simp only [show ((1 : Int) = 3) = False by decide, if_true, if_false, List.append_nil]) ▸ f37)⟩)
set_option maxHeartbeats 4000000 in
theorem Qfd (grp : List Int) (ep fr : Int) (bas : List Int) (us : Bool) (nm : Int) (key sg pa ms start : List Int) (at_ : Int) (sig : List Int) (a_m : Option Addr) (c_m : Nat) (w : World) (hrl : grp.length = 32) (hrb : Qag grp) (hal : bas.length = 32) (hab : Qag bas) (hkl : key.length = 32) (hgl : sg.length = 32) (hpl : pa.length = 32) (hkb : Qag key) (hgb : Qag sg) (hpb : Qag pa) (hml : ms.length ≤ 1000000) (htl : start.length = 32) (htb : Qag start) (hil : sig.length = 64) (hib : Qag sig) (hm : RdK .i64 w.heap.size ms (.slice a_m ms.length c_m) w) (hep : 0 ≤ ep ∧ ep ≤ 4294967295) : Calls Try.prog 59 #[.agg (cat [ints .u8 (grp), #[.int .i64 ep], #[.int .i64 fr], ints .u8 (bas), #[.int .i64 2], #[.bool us], #[.int .i64 nm], ints .u8 (key), ints .u8 (sg), ints .u8 (pa), #[.slice a_m ms.length c_m], ints .u8 (start), #[.int .i64 at_], ints .u8 (sig)])] w (Qb1 w (OwnN .u8 5 w.heap.size (Qbm grp ep fr bas 2 us nm key sg pa ms start at_ sig))) := by
 refine enter 47 [(0, .agg (cat [ints .u8 (grp), #[.int .i64 ep], #[.int .i64 fr], ints .u8 (bas), #[.int .i64 2], #[.bool us], #[.int .i64 nm], ints .u8 (key), ints .u8 (sg), ints .u8 (pa), #[.slice a_m ms.length c_m], ints .u8 (start), #[.int .i64 at_], ints .u8 (sig)]))] Try.func59 rfl rfl kj rfl ?_
 refine wp_seq_k fun K1 hK1 => ?_
 refine Qae ?_
 refine Qav (cat [ints .u8 (grp), #[.int .i64 ep], #[.int .i64 fr], ints .u8 (bas), #[.int .i64 2], #[.bool us], #[.int .i64 nm], ints .u8 (key), ints .u8 (sg), ints .u8 (pa), #[.slice a_m ms.length c_m], ints .u8 (start), #[.int .i64 at_], ints .u8 (sig)]) 47 1 rfl kj kj fun g2 W1 l2 e1 r2_1 => ?_
 have x1 : Ext w W1 := Ext.tr (Rely.Ext.refl w) e1
 have b2 : w.heap.size ≤ g2 := Nat.le_trans (Rely.Ext.refl w).size l2
 refine Qab (.slice none 0 0) 2 rfl kj kj ?_
 refine Qaf ?_
 refine hK1 _ _ ?_
 refine wp_seq_k fun K3 hK3 => ?_
 refine Qcj (fun (s0 : Value) => [(1, .pointer (some ⟨g2, 0, none⟩)), (3, s0)]) (fun s0 W => OwnN .u8 5 W1.heap.size (QaE grp ep fr ++ bas ++ [byV 2 0]) s0 W ∧ Ext W1 W) kj (fun WS eS => ?_) (fun u XX WJ hI => ?_)
 ·skip
  obtain ⟨W2, hWS⟩ : ∃ z, z = WS := ⟨_, rfl⟩
  rw [← hWS] at eS ⊢
  have e2 := eS
  have x2 : Ext w W2 := Ext.tr x1 e2
  refine Qar 0 (.pointer (some ⟨g2, 0, none⟩)) 4 rfl rfl kj kj (fun _ _ _ h => h) (fun W hR => by kernel_rfl) ?_
  have r2_2 := (Qas r2_1 e2)
  refine Qar 1 (.agg (ints .u8 (grp))) 5 rfl rfl kj kj (fun _ _ _ h => h) (fun W hR => (Qau 39 _ g2 0 47 _ _ _ (Qas r2_2 hR) rfl kj (Qak [] [ints .u8 (grp)] [#[.int .i64 ep], #[.int .i64 fr], ints .u8 (bas), #[.int .i64 2], #[.bool us], #[.int .i64 nm], ints .u8 (key), ints .u8 (sg), ints .u8 (pa), #[.slice a_m ms.length c_m], ints .u8 (start), #[.int .i64 at_], ints .u8 (sig)] 0 kj) kj (isz (n := 32) kj ((Qac _ _).trans hrl)))) ?_
  refine Qar 2 (.pointer (some ⟨g2, 32, none⟩)) 6 rfl rfl kj kj (fun _ _ _ h => h) (fun W hR => by kernel_rfl) ?_
  refine Qar 3 (.int .i64 ep) 7 rfl rfl kj kj (fun _ _ _ h => h) (fun W hR => (Qah 3 _ g2 32 47 _ (.int .i64 ep) _ (Qas r2_2 hR) rfl kj (Qak [ints .u8 (grp)] [#[.int .i64 ep]] [#[.int .i64 fr], ints .u8 (bas), #[.int .i64 2], #[.bool us], #[.int .i64 nm], ints .u8 (key), ints .u8 (sg), ints .u8 (pa), #[.slice a_m ms.length c_m], ints .u8 (start), #[.int .i64 at_], ints .u8 (sig)] 32 ((Qac _ _).trans hrl) 0 _ rfl) kj)) ?_
  refine Qar 4 (.pointer (some ⟨g2, 33, none⟩)) 8 rfl rfl kj kj (fun _ _ _ h => h) (fun W hR => by kernel_rfl) ?_
  refine Qar 5 (.int .i64 fr) 9 rfl rfl kj kj (fun _ _ _ h => h) (fun W hR => (Qah 3 _ g2 33 47 _ (.int .i64 fr) _ (Qas r2_2 hR) rfl kj (Qak [ints .u8 (grp), #[.int .i64 ep]] [#[.int .i64 fr]] [ints .u8 (bas), #[.int .i64 2], #[.bool us], #[.int .i64 nm], ints .u8 (key), ints .u8 (sg), ints .u8 (pa), #[.slice a_m ms.length c_m], ints .u8 (start), #[.int .i64 at_], ints .u8 (sig)] 33 (by rw [Qaa, Qaa]; simp only [Array.size_append, cat, ((Qac _ _).trans hrl)]; rfl) 0 _ rfl) kj)) ?_
  refine Qar 7 (.pointer (some ⟨g2, 34, none⟩)) 11 rfl rfl kj kj (fun _ _ _ h => h) (fun W hR => by kernel_rfl) ?_
  refine Qar 8 (.slice (some ⟨g2, 34, none⟩) 32 32) 12 rfl rfl kj kj (fun _ _ _ h => h) (fun W hR => by kernel_rfl) ?_
  refine Qar 10 (.pointer (some ⟨g2, 66, none⟩)) 14 rfl rfl kj kj (fun _ _ _ h => h) (fun W hR => by kernel_rfl) ?_
  refine Qar 11 (.int .i64 2) 15 rfl rfl kj kj (fun _ _ _ h => h) (fun W hR => (Qah 3 _ g2 66 47 _ (.int .i64 2) _ (Qas r2_2 hR) rfl kj (Qak [ints .u8 (grp), #[.int .i64 ep], #[.int .i64 fr], ints .u8 (bas)] [#[.int .i64 2]] [#[.bool us], #[.int .i64 nm], ints .u8 (key), ints .u8 (sg), ints .u8 (pa), #[.slice a_m ms.length c_m], ints .u8 (start), #[.int .i64 at_], ints .u8 (sig)] 66 (by rw [Qaa, Qaa, Qaa, Qaa]; simp only [Array.size_append, cat, ((Qac _ _).trans hal), ((Qac _ _).trans hrl)]; rfl) 0 _ rfl) kj)) ?_
  refine Qar 12 (.int .u8 (byV 2 0)) 16 rfl rfl kj kj (fun _ _ _ h => h) (fun W hR => (Qax (u := .int .u8 (IntKind.u8.wrap (2))) kj (congrArg (Value.int .u8) (byV0 2)))) ?_
  refine QcO 6 13 kj ?_ ?_
  ·skip
   refine Qbe rfl (fun v W' => (OwnN .u8 5 W2.heap.size (QaE grp ep fr)) v W' ∧ Ext W2 W') 66 #[.agg (ints .u8 (grp)), .int .i64 ep, .int .i64 fr] 10 rfl kj kj ((QcS grp ep fr _ hrl hep).mono (by rintro e w' ⟨v, rfl, e1, hv⟩; exact ⟨v, rfl, hv, e1⟩)) (fun _ _ h => Rely.Ext.trans (Rely.Ext.refl W2) h.2) fun vv4 W3 hh4 => ?_
   obtain ⟨hv4, e3⟩ := hh4
   have x3 : Ext w W3 := Ext.tr x2 e3
   obtain ⟨ahd_, chd_, rfl, -⟩ := id (OwnN.rd hv4)
   have hva3 := OwnN.base (Rely.Ext.refl W2).size hv4
   refine QcO 9 13 kj ?_ ?_
   ·skip
    have r2_3 := (Qas r2_2 e3)
    have y2_3 : Ext W2 W3 := (Rely.Ext.trans (Rely.Ext.refl W2) e3)
    refine QaY (k := .u8) (T := 5) (xs := QaE grp ep fr) (ys := bas) (V := W2) 1 (.tmp 10) (.tmp 12) 26 rfl kj kj (by decide) 13 rfl 9 rfl kj kj kj hva3 (QaC 34 hal r2_3 (fun i hi => Qa8 [ints .u8 (grp), #[.int .i64 ep], #[.int .i64 fr]] [#[.int .i64 2], #[.bool us], #[.int .i64 nm], ints .u8 (key), ints .u8 (sg), ints .u8 (pa), #[.slice a_m ms.length c_m], ints .u8 (start), #[.int .i64 at_], ints .u8 (sig)] bas 34 i (34 + i) (by rw [Qaa, Qaa, Qaa]; simp only [Array.size_append, cat, ((Qac _ _).trans hrl)]; rfl) rfl (by rw [hal]; exact hi)) (Qay r2_3) (Nat.le_refl _) (by decide)) (by simp only [List.length_append, List.length_cons, List.length_nil, QaF, QaG ep fr hrl, hrl, hal, hkl, hgl, hpl, htl, hil]; omega) y2_3 fun zz1 W4 f5 y4 l4 => ?_
    have x4 : Ext w W4 := Ext.low x3 l4 x2.size
    obtain ⟨ap1_, cp1_, rfl, -⟩ := id (OwnN.rd f5)
    refine QaN 13 kj ?_
    refine QbG rfl (fun v W' => Ext W4 W' ∧ NewS W4.heap.size #[.int .u8 (byV 2 0)] 5 1 v W') 17 rfl kj ⟨_, _, (by kernel_rfl : _ = Result.ok (Next.value (.slice (some ⟨W4.heap.size, 0, none⟩) 1 1)) (W4.alloc (.cells #[.int .u8 (byV 2 0)] 5))), Qbp _ _, ⟨_, rfl, Nat.le_refl _, heap_alloc_new _ _⟩⟩ (fun _ _ h => Rely.Ext.trans y4 h.1) fun vv7 W5 hh7 => ?_
    obtain ⟨e5, gz, rfl, lz5, rz5⟩ := hh7
    have x5 : Ext w W5 := Ext.tr x4 e5
    have bz5 : w.heap.size ≤ gz := Nat.le_trans x4.size lz5
    refine QaN 14 kj ?_
    have f9_5 := (f5.ext e5)
    have y2_5 : Ext W2 W5 := (Rely.Ext.trans y4 e5)
    refine QaY (k := .u8) (T := 5) (xs := QaE grp ep fr ++ bas) (ys := [(byV 2 0)]) (V := W2) 1 (.tmp 13) (.tmp 17) 26 rfl kj kj (by decide) 18 rfl 14 rfl kj kj kj f9_5 (QaT (xs := [(byV 2 0)]) (n := 1) rfl rz5 (Qay rz5) (show 1 ≤ maxLen from by decide)) (by simp only [List.length_append, List.length_cons, List.length_nil, QaF, QaG ep fr hrl, hrl, hal, hkl, hgl, hpl, htl, hil]; omega) y2_5 fun zz2 W6 f10 y6 l6 => ?_
    have x6 : Ext w W6 := Ext.low x5 l6 x2.size
    obtain ⟨ap2_, cp2_, rfl, -⟩ := id (OwnN.rd f10)
    refine Qar 15 (.slice ap2_ ((QaE grp ep fr ++ bas ++ [(byV 2 0)]).length) cp2_) 3 rfl rfl kj kj (fun _ _ _ h => h) (fun W hR => by kernel_rfl) ?_
    exact QbN kj (.slice ap2_ ((QaE grp ep fr ++ bas ++ [(byV 2 0)]).length) cp2_) ⟨rfl, rfl, trivial⟩ ⟨OwnN.base e2.size f10, Rely.Ext.trans e2 y6⟩
   ·skip
    have y2_3 : Ext W2 W3 := (Rely.Ext.trans (Rely.Ext.refl W2) e3)
    refine QbG rfl (fun v W' => Ext W3 W' ∧ NewS W3.heap.size #[.int .u8 (byV 2 0)] 5 1 v W') 17 rfl kj ⟨_, _, (by kernel_rfl : _ = Result.ok (Next.value (.slice (some ⟨W3.heap.size, 0, none⟩) 1 1)) (W3.alloc (.cells #[.int .u8 (byV 2 0)] 5))), Qbp _ _, ⟨_, rfl, Nat.le_refl _, heap_alloc_new _ _⟩⟩ (fun _ _ h => Rely.Ext.trans y2_3 h.1) fun vv12 W4 hh12 => ?_
    obtain ⟨e4, gz, rfl, lz4, rz4⟩ := hh12
    have x4 : Ext w W4 := Ext.tr x3 e4
    have bz4 : w.heap.size ≤ gz := Nat.le_trans x3.size lz4
    have hnb4 : (Value.slice ahd_ (QaE grp ep fr).length chd_).ownBlock ≠ some gz := fun q => by have := hva3.lt q; omega
    refine QaN 9 kj ?_
    have f14_4 := (hva3.ext e4)
    have r2_3 := (Qas r2_2 e3)
    have r2_4 := (Qas r2_3 e4)
    have y2_4 : Ext W2 W4 := (Rely.Ext.trans y2_3 e4)
    refine QbA (k := .u8) (T := 5) (xs := QaE grp ep fr) (ys := bas) (V := W2) 1 (.tmp 10) (.tmp 12) 26 rfl kj kj (by decide) 13 rfl 9 rfl kj kj kj f14_4 (QaC 34 hal r2_4 (fun i hi => Qa8 [ints .u8 (grp), #[.int .i64 ep], #[.int .i64 fr]] [#[.int .i64 2], #[.bool us], #[.int .i64 nm], ints .u8 (key), ints .u8 (sg), ints .u8 (pa), #[.slice a_m ms.length c_m], ints .u8 (start), #[.int .i64 at_], ints .u8 (sig)] bas 34 i (34 + i) (by rw [Qaa, Qaa, Qaa]; simp only [Array.size_append, cat, ((Qac _ _).trans hrl)]; rfl) rfl (by rw [hal]; exact hi)) (Qay r2_4) (Nat.le_refl _) (by decide)) (by simp only [List.length_append, List.length_cons, List.length_nil, QaF, QaG ep fr hrl, hrl, hal, hkl, hgl, hpl, htl, hil]; omega) y2_4 rz4 hnb4 fun zz1 W5 f15 y5 l5 rz5 => ?_
    have x5 : Ext w W5 := Ext.low x4 l5 x2.size
    obtain ⟨ap1_, cp1_, rfl, -⟩ := id (OwnN.rd f15)
    refine QaN 14 kj ?_
    refine QaY (k := .u8) (T := 5) (xs := QaE grp ep fr ++ bas) (ys := [(byV 2 0)]) (V := W2) 1 (.tmp 13) (.tmp 17) 26 rfl kj kj (by decide) 18 rfl 14 rfl kj kj kj f15 (QaT (xs := [(byV 2 0)]) (n := 1) rfl rz5 (Qay rz5) (show 1 ≤ maxLen from by decide)) (by simp only [List.length_append, List.length_cons, List.length_nil, QaF, QaG ep fr hrl, hrl, hal, hkl, hgl, hpl, htl, hil]; omega) y5 fun zz2 W6 f16 y6 l6 => ?_
    have x6 : Ext w W6 := Ext.low x5 l6 x2.size
    obtain ⟨ap2_, cp2_, rfl, -⟩ := id (OwnN.rd f16)
    refine Qar 15 (.slice ap2_ ((QaE grp ep fr ++ bas ++ [(byV 2 0)]).length) cp2_) 3 rfl rfl kj kj (fun _ _ _ h => h) (fun W hR => by kernel_rfl) ?_
    exact QbN kj (.slice ap2_ ((QaE grp ep fr ++ bas ++ [(byV 2 0)]).length) cp2_) ⟨rfl, rfl, trivial⟩ ⟨OwnN.base e2.size f16, Rely.Ext.trans e2 y6⟩
  ·skip
   refine QbG rfl (fun v W' => Ext W2 W' ∧ NewS W2.heap.size #[.int .u8 (byV 2 0)] 5 1 v W') 17 rfl kj ⟨_, _, (by kernel_rfl : _ = Result.ok (Next.value (.slice (some ⟨W2.heap.size, 0, none⟩) 1 1)) (W2.alloc (.cells #[.int .u8 (byV 2 0)] 5))), Qbp _ _, ⟨_, rfl, Nat.le_refl _, heap_alloc_new _ _⟩⟩ (fun _ _ h => Rely.Ext.trans (Rely.Ext.refl W2) h.1) fun vv18 W3 hh18 => ?_
   obtain ⟨e3, gz, rfl, lz3, rz3⟩ := hh18
   have x3 : Ext w W3 := Ext.tr x2 e3
   have bz3 : w.heap.size ≤ gz := Nat.le_trans x2.size lz3
   refine QaN 6 kj ?_
   have y2_3 : Ext W2 W3 := (Rely.Ext.trans (Rely.Ext.refl W2) e3)
   refine Qbe rfl (fun v W' => (OwnN .u8 5 W3.heap.size (QaE grp ep fr)) v W' ∧ Ext W3 W') 66 #[.agg (ints .u8 (grp)), .int .i64 ep, .int .i64 fr] 10 rfl kj kj ((QcS grp ep fr _ hrl hep).mono (by rintro e w' ⟨v, rfl, e1, hv⟩; exact ⟨v, rfl, hv, e1⟩)) (fun _ _ h => Rely.Ext.trans y2_3 h.2) fun vv20 W4 hh20 => ?_
   obtain ⟨hv20, e4⟩ := hh20
   have x4 : Ext w W4 := Ext.tr x3 e4
   obtain ⟨ahd_, chd_, rfl, -⟩ := id (OwnN.rd hv20)
   have hva4 := OwnN.base y2_3.size hv20
   have hnb4 := QaV hv20 (Qay rz3)
   refine QaN 9 kj ?_
   have r2_3 := (Qas r2_2 e3)
   have r2_4 := (Qas r2_3 e4)
   have y2_4 : Ext W2 W4 := (Rely.Ext.trans y2_3 e4)
   have r19_4 := (Qas rz3 e4)
   refine QbA (k := .u8) (T := 5) (xs := QaE grp ep fr) (ys := bas) (V := W2) 1 (.tmp 10) (.tmp 12) 26 rfl kj kj (by decide) 13 rfl 9 rfl kj kj kj hva4 (QaC 34 hal r2_4 (fun i hi => Qa8 [ints .u8 (grp), #[.int .i64 ep], #[.int .i64 fr]] [#[.int .i64 2], #[.bool us], #[.int .i64 nm], ints .u8 (key), ints .u8 (sg), ints .u8 (pa), #[.slice a_m ms.length c_m], ints .u8 (start), #[.int .i64 at_], ints .u8 (sig)] bas 34 i (34 + i) (by rw [Qaa, Qaa, Qaa]; simp only [Array.size_append, cat, ((Qac _ _).trans hrl)]; rfl) rfl (by rw [hal]; exact hi)) (Qay r2_4) (Nat.le_refl _) (by decide)) (by simp only [List.length_append, List.length_cons, List.length_nil, QaF, QaG ep fr hrl, hrl, hal, hkl, hgl, hpl, htl, hil]; omega) y2_4 r19_4 hnb4 fun zz1 W5 f21 y5 l5 rz5 => ?_
   have x5 : Ext w W5 := Ext.low x4 l5 x2.size
   obtain ⟨ap1_, cp1_, rfl, -⟩ := id (OwnN.rd f21)
   refine QaN 14 kj ?_
   refine QaY (k := .u8) (T := 5) (xs := QaE grp ep fr ++ bas) (ys := [(byV 2 0)]) (V := W2) 1 (.tmp 13) (.tmp 17) 26 rfl kj kj (by decide) 18 rfl 14 rfl kj kj kj f21 (QaT (xs := [(byV 2 0)]) (n := 1) rfl rz5 (Qay rz5) (show 1 ≤ maxLen from by decide)) (by simp only [List.length_append, List.length_cons, List.length_nil, QaF, QaG ep fr hrl, hrl, hal, hkl, hgl, hpl, htl, hil]; omega) y5 fun zz2 W6 f22 y6 l6 => ?_
   have x6 : Ext w W6 := Ext.low x5 l6 x2.size
   obtain ⟨ap2_, cp2_, rfl, -⟩ := id (OwnN.rd f22)
   refine Qar 15 (.slice ap2_ ((QaE grp ep fr ++ bas ++ [(byV 2 0)]).length) cp2_) 3 rfl rfl kj kj (fun _ _ _ h => h) (fun W hR => by kernel_rfl) ?_
   exact QbN kj (.slice ap2_ ((QaE grp ep fr ++ bas ++ [(byV 2 0)]).length) cp2_) ⟨rfl, rfl, trivial⟩ ⟨OwnN.base e2.size f22, Rely.Ext.trans e2 y6⟩
 obtain ⟨W2, hWJ⟩ : ∃ z, z = WJ := ⟨_, rfl⟩
 rw [← hWJ] at hI ⊢
 obtain ⟨hJ, e2⟩ := hI
 have x2 : Ext w W2 := Ext.tr x1 e2
 obtain ⟨aJ_, cJ_, rfl, -⟩ := id (OwnN.rd hJ)
 refine hK3 _ _ ?_
 refine wp_seq_k fun K24 hK24 => ?_
 refine wp_seq_k fun K25 hK25 => ?_
 refine Qae ?_
 refine Qab (.pointer (some ⟨g2, 66, none⟩)) 19 rfl kj kj ?_
 have r2_2 := (Qas r2_1 e2)
 refine Qab (.int .i64 2) 20 rfl kj (Qah 3 _ g2 66 47 _ (.int .i64 2) _ r2_2 rfl kj (Qak [ints .u8 (grp), #[.int .i64 ep], #[.int .i64 fr], ints .u8 (bas)] [#[.int .i64 2]] [#[.bool us], #[.int .i64 nm], ints .u8 (key), ints .u8 (sg), ints .u8 (pa), #[.slice a_m ms.length c_m], ints .u8 (start), #[.int .i64 at_], ints .u8 (sig)] 66 (by rw [Qaa, Qaa, Qaa, Qaa]; simp only [Array.size_append, cat, ((Qac _ _).trans hal), ((Qac _ _).trans hrl)]; rfl) 0 _ rfl) kj) ?_
 refine Qab (.bool true) 21 rfl kj kj ?_
 refine Qaf ?_
 refine hK25 _ _ ?_
 refine cond_true kj ?_
 refine Qae ?_
 refine Qab (.slice aJ_ ((QaE grp ep fr ++ bas ++ [byV 2 0]).length) cJ_) 22 rfl kj kj ?_
 refine Qab (.pointer (some ⟨g2, 67, none⟩)) 23 rfl kj kj ?_
 refine Qab (.agg (cat [#[.bool us], #[.int .i64 nm], ints .u8 (key), ints .u8 (sg), ints .u8 (pa), #[.slice a_m ms.length c_m]])) 24 rfl kj (Qau 43 _ g2 67 47 _ _ _ r2_2 rfl kj (Qak [ints .u8 (grp), #[.int .i64 ep], #[.int .i64 fr], ints .u8 (bas), #[.int .i64 2]] [#[.bool us], #[.int .i64 nm], ints .u8 (key), ints .u8 (sg), ints .u8 (pa), #[.slice a_m ms.length c_m]] [ints .u8 (start), #[.int .i64 at_], ints .u8 (sig)] 67 (by rw [Qaa, Qaa, Qaa, Qaa, Qaa]; simp only [Array.size_append, cat, ((Qac _ _).trans hal), ((Qac _ _).trans hrl)]; rfl)) kj (isz (n := 99) kj (by rw [Qaa, Qaa, Qaa, Qaa, Qaa, Qaa]; simp only [Array.size_append, cat, ((Qac _ _).trans hgl), ((Qac _ _).trans hkl), ((Qac _ _).trans hpl)]; rfl))) ?_
 refine Qal (fun v W' => (OwnN .u8 5 W2.heap.size (Qbd us nm key sg pa ms)) v W' ∧ Ext W2 W') 97 #[.agg (cat [#[.bool us], #[.int .i64 nm], ints .u8 (key), ints .u8 (sg), ints .u8 (pa), #[.slice a_m ms.length c_m]])] 25 rfl kj kj ((Qf4 us nm key sg pa ms _ _ _ hkl hgl hpl hml (RdK.here (RdK.ext hm x2))).mono (by rintro e w' ⟨v, rfl, e1, hv⟩; exact ⟨v, rfl, hv, e1⟩)) fun vv26 W3 hh26 => ?_
 obtain ⟨hv26, e3⟩ := hh26
 have x3 : Ext w W3 := Ext.tr x2 e3
 obtain ⟨and_, cnd_, rfl, -⟩ := id (OwnN.rd hv26)
 have f27_3 := (hJ.ext e3)
 have y1_2 : Ext W1 W2 := (Rely.Ext.trans (Rely.Ext.refl W1) e2)
 have y1_3 : Ext W1 W3 := (Rely.Ext.trans y1_2 e3)
 refine QaK (k := .u8) (T := 5) (xs := QaE grp ep fr ++ bas ++ [byV 2 0]) (ys := Qbd us nm key sg pa ms) (V := W1) 1 (.tmp 22) (.tmp 25) 26 rfl kj kj (by decide) 26 rfl kj kj kj f27_3 (OwnN.rd hv26) (by simp only [List.length_append, List.length_cons, List.length_nil, QaF, QaG ep fr hrl, hrl, hal, hkl, hgl, hpl, htl, hil]; omega) y1_3 fun zz3 W4 f28 y4 l4 => ?_
 have x4 : Ext w W4 := Ext.low x3 l4 x1.size
 obtain ⟨ap3_, cp3_, rfl, -⟩ := id (OwnN.rd f28)
 refine Qab (.slice ap3_ ((QaE grp ep fr ++ bas ++ [byV 2 0] ++ Qbd us nm key sg pa ms).length) cp3_) 3 rfl kj kj ?_
 refine Qaf ?_
 refine hK24 _ _ ?_
 refine wp_seq_k fun K30 hK30 => ?_
 refine wp_seq_k fun K31 hK31 => ?_
 refine Qae ?_
 refine Qab (.pointer (some ⟨g2, 66, none⟩)) 27 rfl kj kj ?_
 have r2_3 := (Qas r2_2 e3)
 have r2_4 := (Qbw l4 r2_3 (Qay r2_1))
 refine Qab (.int .i64 2) 28 rfl kj (Qah 3 _ g2 66 47 _ (.int .i64 2) _ r2_4 rfl kj (Qak [ints .u8 (grp), #[.int .i64 ep], #[.int .i64 fr], ints .u8 (bas)] [#[.int .i64 2]] [#[.bool us], #[.int .i64 nm], ints .u8 (key), ints .u8 (sg), ints .u8 (pa), #[.slice a_m ms.length c_m], ints .u8 (start), #[.int .i64 at_], ints .u8 (sig)] 66 (by rw [Qaa, Qaa, Qaa, Qaa]; simp only [Array.size_append, cat, ((Qac _ _).trans hal), ((Qac _ _).trans hrl)]; rfl) 0 _ rfl) kj) ?_
 refine Qab (.bool false) 29 rfl kj kj ?_
 refine Qaf ?_
 refine hK31 _ _ ?_
 refine cond_false kj ?_
 refine wp_skip ?_
 refine hK30 _ _ ?_
 refine wp_seq_k fun K32 hK32 => ?_
 refine wp_seq_k fun K33 hK33 => ?_
 refine Qae ?_
 refine Qab (.pointer (some ⟨g2, 66, none⟩)) 34 rfl kj kj ?_
 refine Qab (.int .i64 2) 35 rfl kj (Qah 3 _ g2 66 47 _ (.int .i64 2) _ r2_4 rfl kj (Qak [ints .u8 (grp), #[.int .i64 ep], #[.int .i64 fr], ints .u8 (bas)] [#[.int .i64 2]] [#[.bool us], #[.int .i64 nm], ints .u8 (key), ints .u8 (sg), ints .u8 (pa), #[.slice a_m ms.length c_m], ints .u8 (start), #[.int .i64 at_], ints .u8 (sig)] 66 (by rw [Qaa, Qaa, Qaa, Qaa]; simp only [Array.size_append, cat, ((Qac _ _).trans hal), ((Qac _ _).trans hrl)]; rfl) 0 _ rfl) kj) ?_
 refine Qab (.bool false) 36 rfl kj kj ?_
 refine Qaf ?_
 refine hK33 _ _ ?_
 refine cond_false kj ?_
 refine wp_skip ?_
 refine hK32 _ _ ?_
 refine wp_seq_k fun K34 hK34 => ?_
 refine Qae ?_
 refine Qab (.slice ap3_ ((QaE grp ep fr ++ bas ++ [byV 2 0] ++ Qbd us nm key sg pa ms).length) cp3_) 43 rfl kj kj ?_
 refine Qab (.pointer (some ⟨g2, 199, none⟩)) 44 rfl kj kj ?_
 refine Qab (.slice (some ⟨g2, 199, none⟩) 64 64) 45 rfl kj kj ?_
 refine QaK (k := .u8) (T := 5) (xs := QaE grp ep fr ++ bas ++ [byV 2 0] ++ Qbd us nm key sg pa ms) (ys := sig) (V := W1) 1 (.tmp 43) (.tmp 45) 26 rfl kj kj (by decide) 46 rfl kj kj kj f28 (QaC 199 hil r2_4 (fun i hi => Qa8 [ints .u8 (grp), #[.int .i64 ep], #[.int .i64 fr], ints .u8 (bas), #[.int .i64 2], #[.bool us], #[.int .i64 nm], ints .u8 (key), ints .u8 (sg), ints .u8 (pa), #[.slice a_m ms.length c_m], ints .u8 (start), #[.int .i64 at_]] [] sig 199 i (199 + i) (by rw [Qaa, Qaa, Qaa, Qaa, Qaa, Qaa, Qaa, Qaa, Qaa, Qaa, Qaa, Qaa, Qaa]; simp only [Array.size_append, cat, ((Qac _ _).trans hal), ((Qac _ _).trans hgl), ((Qac _ _).trans hkl), ((Qac _ _).trans hpl), ((Qac _ _).trans hrl), ((Qac _ _).trans htl)]; rfl) rfl (by rw [hil]; exact hi)) (Qay r2_4) (Nat.le_refl _) (by decide)) (by simp only [List.length_append, List.length_cons, List.length_nil, QaF, QaG ep fr hrl, hrl, hal, hkl, hgl, hpl, htl, hil]; omega) y4 fun zz4 W5 f35 y5 l5 => ?_
 have x5 : Ext w W5 := Ext.low x4 l5 x1.size
 obtain ⟨ap4_, cp4_, rfl, -⟩ := id (OwnN.rd f35)
 refine Qab (.slice ap4_ ((QaE grp ep fr ++ bas ++ [byV 2 0] ++ Qbd us nm key sg pa ms ++ sig).length) cp4_) 2 rfl kj kj ?_
 refine Qaf ?_
 refine hK34 _ _ ?_
 refine wp_ret ?_
 repeat (first | with_reducible refine goR1 ?_ | with_reducible refine goR2 ?_)
 exact (show bodyPost _ _ _ .ret _ _ from ret1 (.slice ap4_ ((QaE grp ep fr ++ bas ++ [byV 2 0] ++ Qbd us nm key sg pa ms ++ sig).length) cp4_) rfl (Qaw kj) ⟨_, rfl, x5, OwnN.base x1.size (show OwnN .u8 5 _ (Qbm grp ep fr bas 2 us nm key sg pa ms start at_ sig) _ _ from (show QaE grp ep fr ++ bas ++ [byV 2 0] ++ Qbd us nm key sg pa ms ++ sig = Qbm grp ep fr bas 2 us nm key sg pa ms start at_ sig by unfold Qbm; simp only [show ((2 : Int) = 3) = False by decide, show ((2 : Int) = 1) = False by decide, if_true, if_false, List.append_nil]) ▸ f35)⟩)
set_option maxHeartbeats 4000000 in
theorem Qfc (grp : List Int) (ep fr : Int) (bas : List Int) (us : Bool) (nm : Int) (key sg pa ms start : List Int) (at_ : Int) (sig : List Int) (a_m : Option Addr) (c_m : Nat) (w : World) (hrl : grp.length = 32) (hrb : Qag grp) (hal : bas.length = 32) (hab : Qag bas) (hkl : key.length = 32) (hgl : sg.length = 32) (hpl : pa.length = 32) (hkb : Qag key) (hgb : Qag sg) (hpb : Qag pa) (hml : ms.length ≤ 1000000) (htl : start.length = 32) (htb : Qag start) (hil : sig.length = 64) (hib : Qag sig) (hm : RdK .i64 w.heap.size ms (.slice a_m ms.length c_m) w) (hep : 0 ≤ ep ∧ ep ≤ 4294967295) : Calls Try.prog 59 #[.agg (cat [ints .u8 (grp), #[.int .i64 ep], #[.int .i64 fr], ints .u8 (bas), #[.int .i64 3], #[.bool us], #[.int .i64 nm], ints .u8 (key), ints .u8 (sg), ints .u8 (pa), #[.slice a_m ms.length c_m], ints .u8 (start), #[.int .i64 at_], ints .u8 (sig)])] w (Qb1 w (OwnN .u8 5 w.heap.size (Qbm grp ep fr bas 3 us nm key sg pa ms start at_ sig))) := by
 refine enter 47 [(0, .agg (cat [ints .u8 (grp), #[.int .i64 ep], #[.int .i64 fr], ints .u8 (bas), #[.int .i64 3], #[.bool us], #[.int .i64 nm], ints .u8 (key), ints .u8 (sg), ints .u8 (pa), #[.slice a_m ms.length c_m], ints .u8 (start), #[.int .i64 at_], ints .u8 (sig)]))] Try.func59 rfl rfl kj rfl ?_
 refine wp_seq_k fun K1 hK1 => ?_
 refine Qae ?_
 refine Qav (cat [ints .u8 (grp), #[.int .i64 ep], #[.int .i64 fr], ints .u8 (bas), #[.int .i64 3], #[.bool us], #[.int .i64 nm], ints .u8 (key), ints .u8 (sg), ints .u8 (pa), #[.slice a_m ms.length c_m], ints .u8 (start), #[.int .i64 at_], ints .u8 (sig)]) 47 1 rfl kj kj fun g2 W1 l2 e1 r2_1 => ?_
 have x1 : Ext w W1 := Ext.tr (Rely.Ext.refl w) e1
 have b2 : w.heap.size ≤ g2 := Nat.le_trans (Rely.Ext.refl w).size l2
 refine Qab (.slice none 0 0) 2 rfl kj kj ?_
 refine Qaf ?_
 refine hK1 _ _ ?_
 refine wp_seq_k fun K3 hK3 => ?_
 refine Qcj (fun (s0 : Value) => [(1, .pointer (some ⟨g2, 0, none⟩)), (3, s0)]) (fun s0 W => OwnN .u8 5 W1.heap.size (QaE grp ep fr ++ bas ++ [byV 3 0]) s0 W ∧ Ext W1 W) kj (fun WS eS => ?_) (fun u XX WJ hI => ?_)
 ·skip
  obtain ⟨W2, hWS⟩ : ∃ z, z = WS := ⟨_, rfl⟩
  rw [← hWS] at eS ⊢
  have e2 := eS
  have x2 : Ext w W2 := Ext.tr x1 e2
  refine Qar 0 (.pointer (some ⟨g2, 0, none⟩)) 4 rfl rfl kj kj (fun _ _ _ h => h) (fun W hR => by kernel_rfl) ?_
  have r2_2 := (Qas r2_1 e2)
  refine Qar 1 (.agg (ints .u8 (grp))) 5 rfl rfl kj kj (fun _ _ _ h => h) (fun W hR => (Qau 39 _ g2 0 47 _ _ _ (Qas r2_2 hR) rfl kj (Qak [] [ints .u8 (grp)] [#[.int .i64 ep], #[.int .i64 fr], ints .u8 (bas), #[.int .i64 3], #[.bool us], #[.int .i64 nm], ints .u8 (key), ints .u8 (sg), ints .u8 (pa), #[.slice a_m ms.length c_m], ints .u8 (start), #[.int .i64 at_], ints .u8 (sig)] 0 kj) kj (isz (n := 32) kj ((Qac _ _).trans hrl)))) ?_
  refine Qar 2 (.pointer (some ⟨g2, 32, none⟩)) 6 rfl rfl kj kj (fun _ _ _ h => h) (fun W hR => by kernel_rfl) ?_
  refine Qar 3 (.int .i64 ep) 7 rfl rfl kj kj (fun _ _ _ h => h) (fun W hR => (Qah 3 _ g2 32 47 _ (.int .i64 ep) _ (Qas r2_2 hR) rfl kj (Qak [ints .u8 (grp)] [#[.int .i64 ep]] [#[.int .i64 fr], ints .u8 (bas), #[.int .i64 3], #[.bool us], #[.int .i64 nm], ints .u8 (key), ints .u8 (sg), ints .u8 (pa), #[.slice a_m ms.length c_m], ints .u8 (start), #[.int .i64 at_], ints .u8 (sig)] 32 ((Qac _ _).trans hrl) 0 _ rfl) kj)) ?_
  refine Qar 4 (.pointer (some ⟨g2, 33, none⟩)) 8 rfl rfl kj kj (fun _ _ _ h => h) (fun W hR => by kernel_rfl) ?_
  refine Qar 5 (.int .i64 fr) 9 rfl rfl kj kj (fun _ _ _ h => h) (fun W hR => (Qah 3 _ g2 33 47 _ (.int .i64 fr) _ (Qas r2_2 hR) rfl kj (Qak [ints .u8 (grp), #[.int .i64 ep]] [#[.int .i64 fr]] [ints .u8 (bas), #[.int .i64 3], #[.bool us], #[.int .i64 nm], ints .u8 (key), ints .u8 (sg), ints .u8 (pa), #[.slice a_m ms.length c_m], ints .u8 (start), #[.int .i64 at_], ints .u8 (sig)] 33 (by rw [Qaa, Qaa]; simp only [Array.size_append, cat, ((Qac _ _).trans hrl)]; rfl) 0 _ rfl) kj)) ?_
  refine Qar 7 (.pointer (some ⟨g2, 34, none⟩)) 11 rfl rfl kj kj (fun _ _ _ h => h) (fun W hR => by kernel_rfl) ?_
  refine Qar 8 (.slice (some ⟨g2, 34, none⟩) 32 32) 12 rfl rfl kj kj (fun _ _ _ h => h) (fun W hR => by kernel_rfl) ?_
  refine Qar 10 (.pointer (some ⟨g2, 66, none⟩)) 14 rfl rfl kj kj (fun _ _ _ h => h) (fun W hR => by kernel_rfl) ?_
  refine Qar 11 (.int .i64 3) 15 rfl rfl kj kj (fun _ _ _ h => h) (fun W hR => (Qah 3 _ g2 66 47 _ (.int .i64 3) _ (Qas r2_2 hR) rfl kj (Qak [ints .u8 (grp), #[.int .i64 ep], #[.int .i64 fr], ints .u8 (bas)] [#[.int .i64 3]] [#[.bool us], #[.int .i64 nm], ints .u8 (key), ints .u8 (sg), ints .u8 (pa), #[.slice a_m ms.length c_m], ints .u8 (start), #[.int .i64 at_], ints .u8 (sig)] 66 (by rw [Qaa, Qaa, Qaa, Qaa]; simp only [Array.size_append, cat, ((Qac _ _).trans hal), ((Qac _ _).trans hrl)]; rfl) 0 _ rfl) kj)) ?_
  refine Qar 12 (.int .u8 (byV 3 0)) 16 rfl rfl kj kj (fun _ _ _ h => h) (fun W hR => (Qax (u := .int .u8 (IntKind.u8.wrap (3))) kj (congrArg (Value.int .u8) (byV0 3)))) ?_
  refine QcO 6 13 kj ?_ ?_
  ·skip
   refine Qbe rfl (fun v W' => (OwnN .u8 5 W2.heap.size (QaE grp ep fr)) v W' ∧ Ext W2 W') 66 #[.agg (ints .u8 (grp)), .int .i64 ep, .int .i64 fr] 10 rfl kj kj ((QcS grp ep fr _ hrl hep).mono (by rintro e w' ⟨v, rfl, e1, hv⟩; exact ⟨v, rfl, hv, e1⟩)) (fun _ _ h => Rely.Ext.trans (Rely.Ext.refl W2) h.2) fun vv4 W3 hh4 => ?_
   obtain ⟨hv4, e3⟩ := hh4
   have x3 : Ext w W3 := Ext.tr x2 e3
   obtain ⟨ahd_, chd_, rfl, -⟩ := id (OwnN.rd hv4)
   have hva3 := OwnN.base (Rely.Ext.refl W2).size hv4
   refine QcO 9 13 kj ?_ ?_
   ·skip
    have r2_3 := (Qas r2_2 e3)
    have y2_3 : Ext W2 W3 := (Rely.Ext.trans (Rely.Ext.refl W2) e3)
    refine QaY (k := .u8) (T := 5) (xs := QaE grp ep fr) (ys := bas) (V := W2) 1 (.tmp 10) (.tmp 12) 26 rfl kj kj (by decide) 13 rfl 9 rfl kj kj kj hva3 (QaC 34 hal r2_3 (fun i hi => Qa8 [ints .u8 (grp), #[.int .i64 ep], #[.int .i64 fr]] [#[.int .i64 3], #[.bool us], #[.int .i64 nm], ints .u8 (key), ints .u8 (sg), ints .u8 (pa), #[.slice a_m ms.length c_m], ints .u8 (start), #[.int .i64 at_], ints .u8 (sig)] bas 34 i (34 + i) (by rw [Qaa, Qaa, Qaa]; simp only [Array.size_append, cat, ((Qac _ _).trans hrl)]; rfl) rfl (by rw [hal]; exact hi)) (Qay r2_3) (Nat.le_refl _) (by decide)) (by simp only [List.length_append, List.length_cons, List.length_nil, QaF, QaG ep fr hrl, hrl, hal, hkl, hgl, hpl, htl, hil]; omega) y2_3 fun zz1 W4 f5 y4 l4 => ?_
    have x4 : Ext w W4 := Ext.low x3 l4 x2.size
    obtain ⟨ap1_, cp1_, rfl, -⟩ := id (OwnN.rd f5)
    refine QaN 13 kj ?_
    refine QbG rfl (fun v W' => Ext W4 W' ∧ NewS W4.heap.size #[.int .u8 (byV 3 0)] 5 1 v W') 17 rfl kj ⟨_, _, (by kernel_rfl : _ = Result.ok (Next.value (.slice (some ⟨W4.heap.size, 0, none⟩) 1 1)) (W4.alloc (.cells #[.int .u8 (byV 3 0)] 5))), Qbp _ _, ⟨_, rfl, Nat.le_refl _, heap_alloc_new _ _⟩⟩ (fun _ _ h => Rely.Ext.trans y4 h.1) fun vv7 W5 hh7 => ?_
    obtain ⟨e5, gz, rfl, lz5, rz5⟩ := hh7
    have x5 : Ext w W5 := Ext.tr x4 e5
    have bz5 : w.heap.size ≤ gz := Nat.le_trans x4.size lz5
    refine QaN 14 kj ?_
    have f9_5 := (f5.ext e5)
    have y2_5 : Ext W2 W5 := (Rely.Ext.trans y4 e5)
    refine QaY (k := .u8) (T := 5) (xs := QaE grp ep fr ++ bas) (ys := [(byV 3 0)]) (V := W2) 1 (.tmp 13) (.tmp 17) 26 rfl kj kj (by decide) 18 rfl 14 rfl kj kj kj f9_5 (QaT (xs := [(byV 3 0)]) (n := 1) rfl rz5 (Qay rz5) (show 1 ≤ maxLen from by decide)) (by simp only [List.length_append, List.length_cons, List.length_nil, QaF, QaG ep fr hrl, hrl, hal, hkl, hgl, hpl, htl, hil]; omega) y2_5 fun zz2 W6 f10 y6 l6 => ?_
    have x6 : Ext w W6 := Ext.low x5 l6 x2.size
    obtain ⟨ap2_, cp2_, rfl, -⟩ := id (OwnN.rd f10)
    refine Qar 15 (.slice ap2_ ((QaE grp ep fr ++ bas ++ [(byV 3 0)]).length) cp2_) 3 rfl rfl kj kj (fun _ _ _ h => h) (fun W hR => by kernel_rfl) ?_
    exact QbN kj (.slice ap2_ ((QaE grp ep fr ++ bas ++ [(byV 3 0)]).length) cp2_) ⟨rfl, rfl, trivial⟩ ⟨OwnN.base e2.size f10, Rely.Ext.trans e2 y6⟩
   ·skip
    have y2_3 : Ext W2 W3 := (Rely.Ext.trans (Rely.Ext.refl W2) e3)
    refine QbG rfl (fun v W' => Ext W3 W' ∧ NewS W3.heap.size #[.int .u8 (byV 3 0)] 5 1 v W') 17 rfl kj ⟨_, _, (by kernel_rfl : _ = Result.ok (Next.value (.slice (some ⟨W3.heap.size, 0, none⟩) 1 1)) (W3.alloc (.cells #[.int .u8 (byV 3 0)] 5))), Qbp _ _, ⟨_, rfl, Nat.le_refl _, heap_alloc_new _ _⟩⟩ (fun _ _ h => Rely.Ext.trans y2_3 h.1) fun vv12 W4 hh12 => ?_
    obtain ⟨e4, gz, rfl, lz4, rz4⟩ := hh12
    have x4 : Ext w W4 := Ext.tr x3 e4
    have bz4 : w.heap.size ≤ gz := Nat.le_trans x3.size lz4
    have hnb4 : (Value.slice ahd_ (QaE grp ep fr).length chd_).ownBlock ≠ some gz := fun q => by have := hva3.lt q; omega
    refine QaN 9 kj ?_
    have f14_4 := (hva3.ext e4)
    have r2_3 := (Qas r2_2 e3)
    have r2_4 := (Qas r2_3 e4)
    have y2_4 : Ext W2 W4 := (Rely.Ext.trans y2_3 e4)
    refine QbA (k := .u8) (T := 5) (xs := QaE grp ep fr) (ys := bas) (V := W2) 1 (.tmp 10) (.tmp 12) 26 rfl kj kj (by decide) 13 rfl 9 rfl kj kj kj f14_4 (QaC 34 hal r2_4 (fun i hi => Qa8 [ints .u8 (grp), #[.int .i64 ep], #[.int .i64 fr]] [#[.int .i64 3], #[.bool us], #[.int .i64 nm], ints .u8 (key), ints .u8 (sg), ints .u8 (pa), #[.slice a_m ms.length c_m], ints .u8 (start), #[.int .i64 at_], ints .u8 (sig)] bas 34 i (34 + i) (by rw [Qaa, Qaa, Qaa]; simp only [Array.size_append, cat, ((Qac _ _).trans hrl)]; rfl) rfl (by rw [hal]; exact hi)) (Qay r2_4) (Nat.le_refl _) (by decide)) (by simp only [List.length_append, List.length_cons, List.length_nil, QaF, QaG ep fr hrl, hrl, hal, hkl, hgl, hpl, htl, hil]; omega) y2_4 rz4 hnb4 fun zz1 W5 f15 y5 l5 rz5 => ?_
    have x5 : Ext w W5 := Ext.low x4 l5 x2.size
    obtain ⟨ap1_, cp1_, rfl, -⟩ := id (OwnN.rd f15)
    refine QaN 14 kj ?_
    refine QaY (k := .u8) (T := 5) (xs := QaE grp ep fr ++ bas) (ys := [(byV 3 0)]) (V := W2) 1 (.tmp 13) (.tmp 17) 26 rfl kj kj (by decide) 18 rfl 14 rfl kj kj kj f15 (QaT (xs := [(byV 3 0)]) (n := 1) rfl rz5 (Qay rz5) (show 1 ≤ maxLen from by decide)) (by simp only [List.length_append, List.length_cons, List.length_nil, QaF, QaG ep fr hrl, hrl, hal, hkl, hgl, hpl, htl, hil]; omega) y5 fun zz2 W6 f16 y6 l6 => ?_
    have x6 : Ext w W6 := Ext.low x5 l6 x2.size
    obtain ⟨ap2_, cp2_, rfl, -⟩ := id (OwnN.rd f16)
    refine Qar 15 (.slice ap2_ ((QaE grp ep fr ++ bas ++ [(byV 3 0)]).length) cp2_) 3 rfl rfl kj kj (fun _ _ _ h => h) (fun W hR => by kernel_rfl) ?_
    exact QbN kj (.slice ap2_ ((QaE grp ep fr ++ bas ++ [(byV 3 0)]).length) cp2_) ⟨rfl, rfl, trivial⟩ ⟨OwnN.base e2.size f16, Rely.Ext.trans e2 y6⟩
  ·skip
   refine QbG rfl (fun v W' => Ext W2 W' ∧ NewS W2.heap.size #[.int .u8 (byV 3 0)] 5 1 v W') 17 rfl kj ⟨_, _, (by kernel_rfl : _ = Result.ok (Next.value (.slice (some ⟨W2.heap.size, 0, none⟩) 1 1)) (W2.alloc (.cells #[.int .u8 (byV 3 0)] 5))), Qbp _ _, ⟨_, rfl, Nat.le_refl _, heap_alloc_new _ _⟩⟩ (fun _ _ h => Rely.Ext.trans (Rely.Ext.refl W2) h.1) fun vv18 W3 hh18 => ?_
   obtain ⟨e3, gz, rfl, lz3, rz3⟩ := hh18
   have x3 : Ext w W3 := Ext.tr x2 e3
   have bz3 : w.heap.size ≤ gz := Nat.le_trans x2.size lz3
   refine QaN 6 kj ?_
   have y2_3 : Ext W2 W3 := (Rely.Ext.trans (Rely.Ext.refl W2) e3)
   refine Qbe rfl (fun v W' => (OwnN .u8 5 W3.heap.size (QaE grp ep fr)) v W' ∧ Ext W3 W') 66 #[.agg (ints .u8 (grp)), .int .i64 ep, .int .i64 fr] 10 rfl kj kj ((QcS grp ep fr _ hrl hep).mono (by rintro e w' ⟨v, rfl, e1, hv⟩; exact ⟨v, rfl, hv, e1⟩)) (fun _ _ h => Rely.Ext.trans y2_3 h.2) fun vv20 W4 hh20 => ?_
   obtain ⟨hv20, e4⟩ := hh20
   have x4 : Ext w W4 := Ext.tr x3 e4
   obtain ⟨ahd_, chd_, rfl, -⟩ := id (OwnN.rd hv20)
   have hva4 := OwnN.base y2_3.size hv20
   have hnb4 := QaV hv20 (Qay rz3)
   refine QaN 9 kj ?_
   have r2_3 := (Qas r2_2 e3)
   have r2_4 := (Qas r2_3 e4)
   have y2_4 : Ext W2 W4 := (Rely.Ext.trans y2_3 e4)
   have r19_4 := (Qas rz3 e4)
   refine QbA (k := .u8) (T := 5) (xs := QaE grp ep fr) (ys := bas) (V := W2) 1 (.tmp 10) (.tmp 12) 26 rfl kj kj (by decide) 13 rfl 9 rfl kj kj kj hva4 (QaC 34 hal r2_4 (fun i hi => Qa8 [ints .u8 (grp), #[.int .i64 ep], #[.int .i64 fr]] [#[.int .i64 3], #[.bool us], #[.int .i64 nm], ints .u8 (key), ints .u8 (sg), ints .u8 (pa), #[.slice a_m ms.length c_m], ints .u8 (start), #[.int .i64 at_], ints .u8 (sig)] bas 34 i (34 + i) (by rw [Qaa, Qaa, Qaa]; simp only [Array.size_append, cat, ((Qac _ _).trans hrl)]; rfl) rfl (by rw [hal]; exact hi)) (Qay r2_4) (Nat.le_refl _) (by decide)) (by simp only [List.length_append, List.length_cons, List.length_nil, QaF, QaG ep fr hrl, hrl, hal, hkl, hgl, hpl, htl, hil]; omega) y2_4 r19_4 hnb4 fun zz1 W5 f21 y5 l5 rz5 => ?_
   have x5 : Ext w W5 := Ext.low x4 l5 x2.size
   obtain ⟨ap1_, cp1_, rfl, -⟩ := id (OwnN.rd f21)
   refine QaN 14 kj ?_
   refine QaY (k := .u8) (T := 5) (xs := QaE grp ep fr ++ bas) (ys := [(byV 3 0)]) (V := W2) 1 (.tmp 13) (.tmp 17) 26 rfl kj kj (by decide) 18 rfl 14 rfl kj kj kj f21 (QaT (xs := [(byV 3 0)]) (n := 1) rfl rz5 (Qay rz5) (show 1 ≤ maxLen from by decide)) (by simp only [List.length_append, List.length_cons, List.length_nil, QaF, QaG ep fr hrl, hrl, hal, hkl, hgl, hpl, htl, hil]; omega) y5 fun zz2 W6 f22 y6 l6 => ?_
   have x6 : Ext w W6 := Ext.low x5 l6 x2.size
   obtain ⟨ap2_, cp2_, rfl, -⟩ := id (OwnN.rd f22)
   refine Qar 15 (.slice ap2_ ((QaE grp ep fr ++ bas ++ [(byV 3 0)]).length) cp2_) 3 rfl rfl kj kj (fun _ _ _ h => h) (fun W hR => by kernel_rfl) ?_
   exact QbN kj (.slice ap2_ ((QaE grp ep fr ++ bas ++ [(byV 3 0)]).length) cp2_) ⟨rfl, rfl, trivial⟩ ⟨OwnN.base e2.size f22, Rely.Ext.trans e2 y6⟩
 obtain ⟨W2, hWJ⟩ : ∃ z, z = WJ := ⟨_, rfl⟩
 rw [← hWJ] at hI ⊢
 obtain ⟨hJ, e2⟩ := hI
 have x2 : Ext w W2 := Ext.tr x1 e2
 obtain ⟨aJ_, cJ_, rfl, -⟩ := id (OwnN.rd hJ)
 refine hK3 _ _ ?_
 refine wp_seq_k fun K24 hK24 => ?_
 refine wp_seq_k fun K25 hK25 => ?_
 refine Qae ?_
 refine Qab (.pointer (some ⟨g2, 66, none⟩)) 19 rfl kj kj ?_
 have r2_2 := (Qas r2_1 e2)
 refine Qab (.int .i64 3) 20 rfl kj (Qah 3 _ g2 66 47 _ (.int .i64 3) _ r2_2 rfl kj (Qak [ints .u8 (grp), #[.int .i64 ep], #[.int .i64 fr], ints .u8 (bas)] [#[.int .i64 3]] [#[.bool us], #[.int .i64 nm], ints .u8 (key), ints .u8 (sg), ints .u8 (pa), #[.slice a_m ms.length c_m], ints .u8 (start), #[.int .i64 at_], ints .u8 (sig)] 66 (by rw [Qaa, Qaa, Qaa, Qaa]; simp only [Array.size_append, cat, ((Qac _ _).trans hal), ((Qac _ _).trans hrl)]; rfl) 0 _ rfl) kj) ?_
 refine Qab (.bool false) 21 rfl kj kj ?_
 refine Qaf ?_
 refine hK25 _ _ ?_
 refine cond_false kj ?_
 refine wp_skip ?_
 refine hK24 _ _ ?_
 refine wp_seq_k fun K26 hK26 => ?_
 refine wp_seq_k fun K27 hK27 => ?_
 refine Qae ?_
 refine Qab (.pointer (some ⟨g2, 66, none⟩)) 27 rfl kj kj ?_
 refine Qab (.int .i64 3) 28 rfl kj (Qah 3 _ g2 66 47 _ (.int .i64 3) _ r2_2 rfl kj (Qak [ints .u8 (grp), #[.int .i64 ep], #[.int .i64 fr], ints .u8 (bas)] [#[.int .i64 3]] [#[.bool us], #[.int .i64 nm], ints .u8 (key), ints .u8 (sg), ints .u8 (pa), #[.slice a_m ms.length c_m], ints .u8 (start), #[.int .i64 at_], ints .u8 (sig)] 66 (by rw [Qaa, Qaa, Qaa, Qaa]; simp only [Array.size_append, cat, ((Qac _ _).trans hal), ((Qac _ _).trans hrl)]; rfl) 0 _ rfl) kj) ?_
 refine Qab (.bool false) 29 rfl kj kj ?_
 refine Qaf ?_
 refine hK27 _ _ ?_
 refine cond_false kj ?_
 refine wp_skip ?_
 refine hK26 _ _ ?_
 refine wp_seq_k fun K28 hK28 => ?_
 refine wp_seq_k fun K29 hK29 => ?_
 refine Qae ?_
 refine Qab (.pointer (some ⟨g2, 66, none⟩)) 34 rfl kj kj ?_
 refine Qab (.int .i64 3) 35 rfl kj (Qah 3 _ g2 66 47 _ (.int .i64 3) _ r2_2 rfl kj (Qak [ints .u8 (grp), #[.int .i64 ep], #[.int .i64 fr], ints .u8 (bas)] [#[.int .i64 3]] [#[.bool us], #[.int .i64 nm], ints .u8 (key), ints .u8 (sg), ints .u8 (pa), #[.slice a_m ms.length c_m], ints .u8 (start), #[.int .i64 at_], ints .u8 (sig)] 66 (by rw [Qaa, Qaa, Qaa, Qaa]; simp only [Array.size_append, cat, ((Qac _ _).trans hal), ((Qac _ _).trans hrl)]; rfl) 0 _ rfl) kj) ?_
 refine Qab (.bool true) 36 rfl kj kj ?_
 refine Qaf ?_
 refine hK29 _ _ ?_
 refine cond_true kj ?_
 refine Qae ?_
 refine Qab (.slice aJ_ ((QaE grp ep fr ++ bas ++ [byV 3 0]).length) cJ_) 37 rfl kj kj ?_
 refine Qab (.pointer (some ⟨g2, 198, none⟩)) 38 rfl kj kj ?_
 refine Qab (.int .i64 at_) 39 rfl kj (Qah 3 _ g2 198 47 _ (.int .i64 at_) _ r2_2 rfl kj (Qak [ints .u8 (grp), #[.int .i64 ep], #[.int .i64 fr], ints .u8 (bas), #[.int .i64 3], #[.bool us], #[.int .i64 nm], ints .u8 (key), ints .u8 (sg), ints .u8 (pa), #[.slice a_m ms.length c_m], ints .u8 (start)] [#[.int .i64 at_]] [ints .u8 (sig)] 198 (by rw [Qaa, Qaa, Qaa, Qaa, Qaa, Qaa, Qaa, Qaa, Qaa, Qaa, Qaa, Qaa]; simp only [Array.size_append, cat, ((Qac _ _).trans hal), ((Qac _ _).trans hgl), ((Qac _ _).trans hkl), ((Qac _ _).trans hpl), ((Qac _ _).trans hrl), ((Qac _ _).trans htl)]; rfl) 0 _ rfl) kj) ?_
 refine Qab (.int .u8 (byV at_ 0)) 40 rfl kj (Qax (u := .int .u8 (IntKind.u8.wrap (at_))) kj (congrArg (Value.int .u8) (byV0 at_))) ?_
 refine Qba (ints .u8 ([(byV at_ 0)])) 5 1 41 rfl kj kj fun g30 W3 l30 e3 r30_3 => ?_
 have x3 : Ext w W3 := Ext.tr x2 e3
 have b30 : w.heap.size ≤ g30 := Nat.le_trans x2.size l30
 have f31_3 := (hJ.ext e3)
 have y1_2 : Ext W1 W2 := (Rely.Ext.trans (Rely.Ext.refl W1) e2)
 have y1_3 : Ext W1 W3 := (Rely.Ext.trans y1_2 e3)
 refine QaK (k := .u8) (T := 5) (xs := QaE grp ep fr ++ bas ++ [byV 3 0]) (ys := [(byV at_ 0)]) (V := W1) 1 (.tmp 37) (.tmp 41) 26 rfl kj kj (by decide) 42 rfl kj kj kj f31_3 (QaT (xs := [(byV at_ 0)]) (n := 1) rfl r30_3 (Qay r30_3) (show 1 ≤ maxLen from by decide)) (by simp only [List.length_append, List.length_cons, List.length_nil, QaF, QaG ep fr hrl, hrl, hal, hkl, hgl, hpl, htl, hil]; omega) y1_3 fun zz3 W4 f32 y4 l4 => ?_
 have x4 : Ext w W4 := Ext.low x3 l4 x1.size
 obtain ⟨ap3_, cp3_, rfl, -⟩ := id (OwnN.rd f32)
 refine Qab (.slice ap3_ ((QaE grp ep fr ++ bas ++ [byV 3 0] ++ [(byV at_ 0)]).length) cp3_) 3 rfl kj kj ?_
 refine Qaf ?_
 refine hK28 _ _ ?_
 refine wp_seq_k fun K34 hK34 => ?_
 refine Qae ?_
 refine Qab (.slice ap3_ ((QaE grp ep fr ++ bas ++ [byV 3 0] ++ [(byV at_ 0)]).length) cp3_) 43 rfl kj kj ?_
 refine Qab (.pointer (some ⟨g2, 199, none⟩)) 44 rfl kj kj ?_
 refine Qab (.slice (some ⟨g2, 199, none⟩) 64 64) 45 rfl kj kj ?_
 have r2_3 := (Qas r2_2 e3)
 have r2_4 := (Qbw l4 r2_3 (Qay r2_1))
 refine QaK (k := .u8) (T := 5) (xs := QaE grp ep fr ++ bas ++ [byV 3 0] ++ [(byV at_ 0)]) (ys := sig) (V := W1) 1 (.tmp 43) (.tmp 45) 26 rfl kj kj (by decide) 46 rfl kj kj kj f32 (QaC 199 hil r2_4 (fun i hi => Qa8 [ints .u8 (grp), #[.int .i64 ep], #[.int .i64 fr], ints .u8 (bas), #[.int .i64 3], #[.bool us], #[.int .i64 nm], ints .u8 (key), ints .u8 (sg), ints .u8 (pa), #[.slice a_m ms.length c_m], ints .u8 (start), #[.int .i64 at_]] [] sig 199 i (199 + i) (by rw [Qaa, Qaa, Qaa, Qaa, Qaa, Qaa, Qaa, Qaa, Qaa, Qaa, Qaa, Qaa, Qaa]; simp only [Array.size_append, cat, ((Qac _ _).trans hal), ((Qac _ _).trans hgl), ((Qac _ _).trans hkl), ((Qac _ _).trans hpl), ((Qac _ _).trans hrl), ((Qac _ _).trans htl)]; rfl) rfl (by rw [hil]; exact hi)) (Qay r2_4) (Nat.le_refl _) (by decide)) (by simp only [List.length_append, List.length_cons, List.length_nil, QaF, QaG ep fr hrl, hrl, hal, hkl, hgl, hpl, htl, hil]; omega) y4 fun zz4 W5 f35 y5 l5 => ?_
 have x5 : Ext w W5 := Ext.low x4 l5 x1.size
 obtain ⟨ap4_, cp4_, rfl, -⟩ := id (OwnN.rd f35)
 refine Qab (.slice ap4_ ((QaE grp ep fr ++ bas ++ [byV 3 0] ++ [(byV at_ 0)] ++ sig).length) cp4_) 2 rfl kj kj ?_
 refine Qaf ?_
 refine hK34 _ _ ?_
 refine wp_ret ?_
 repeat (first | with_reducible refine goR1 ?_ | with_reducible refine goR2 ?_)
 exact (show bodyPost _ _ _ .ret _ _ from ret1 (.slice ap4_ ((QaE grp ep fr ++ bas ++ [byV 3 0] ++ [(byV at_ 0)] ++ sig).length) cp4_) rfl (Qaw kj) ⟨_, rfl, x5, OwnN.base x1.size (show OwnN .u8 5 _ (Qbm grp ep fr bas 3 us nm key sg pa ms start at_ sig) _ _ from (show QaE grp ep fr ++ bas ++ [byV 3 0] ++ [(byV at_ 0)] ++ sig = Qbm grp ep fr bas 3 us nm key sg pa ms start at_ sig by unfold Qbm; simp only [show ((3 : Int) = 1) = False by decide, if_true, if_false, List.append_nil]) ▸ f35)⟩)
theorem QfA (grp : List Int) (ep fr : Int) (bas : List Int) (kd : Int) (us : Bool) (nm : Int) (key sg pa ms start : List Int) (at_ : Int) (sig : List Int) (a_m : Option Addr) (c_m : Nat) (w : World) (hrl : grp.length = 32) (hrb : Qag grp) (hal : bas.length = 32) (hab : Qag bas) (hkl : key.length = 32) (hgl : sg.length = 32) (hpl : pa.length = 32) (hkb : Qag key) (hgb : Qag sg) (hpb : Qag pa) (hml : ms.length ≤ 1000000) (htl : start.length = 32) (htb : Qag start) (hil : sig.length = 64) (hib : Qag sig) (hm : RdK .i64 w.heap.size ms (.slice a_m ms.length c_m) w) (hep : 0 ≤ ep ∧ ep ≤ 4294967295) (hk : kd = 1 ∨ kd = 2 ∨ kd = 3) : Calls Try.prog 59 #[.agg (cat [ints .u8 (grp), #[.int .i64 ep], #[.int .i64 fr], ints .u8 (bas), #[.int .i64 kd], #[.bool us], #[.int .i64 nm], ints .u8 (key), ints .u8 (sg), ints .u8 (pa), #[.slice a_m ms.length c_m], ints .u8 (start), #[.int .i64 at_], ints .u8 (sig)])] w (Qb1 w (OwnN .u8 5 w.heap.size (Qbm grp ep fr bas kd us nm key sg pa ms start at_ sig))) := by
  rcases hk with rfl | rfl | rfl
  · exact Qfe grp ep fr bas us nm key sg pa ms start at_ sig a_m c_m w hrl hrb hal hab hkl hgl hpl hkb hgb hpb hml htl htb hil hib hm hep
  · exact Qfd grp ep fr bas us nm key sg pa ms start at_ sig a_m c_m w hrl hrb hal hab hkl hgl hpl hkb hgb hpb hml htl htb hil hib hm hep
  · exact Qfc grp ep fr bas us nm key sg pa ms start at_ sig a_m c_m w hrl hrb hal hab hkl hgl hpl hkb hgb hpb hml htl htb hil hib hm hep
theorem Qc2 {ep fr kd : Int} {us : Bool} {nm : Int} {key sg pa ms start : List Int} {at_ : Int} (h : Qbk ep fr kd us nm key sg pa ms start at_ = true) : hgB ep fr = true ∧ (kd = 1 ∨ kd = 2 ∨ kd = 3) ∧ (kd = 3 ∨ Qb8 us nm key sg pa ms = true) := by
  unfold Qbk at h
  rw [Bool.and_eq_true] at h
  refine ⟨h.1, ?_⟩
  have h2 := h.2
  by_cases k1 : kd = 1
  · rw [if_pos k1, Bool.and_eq_true] at h2; exact ⟨.inl k1, .inr h2.1⟩
  · rw [if_neg k1] at h2
    by_cases k2 : kd = 2
    · rw [if_pos k2, Bool.and_eq_true] at h2; exact ⟨.inr (.inl k2), .inr h2.1⟩
    · rw [if_neg k2] at h2
      by_cases k3 : kd = 3
      · exact ⟨.inr (.inr k3), .inl k3⟩
      · rw [if_neg k3] at h2; cases h2
theorem QcD (grp : List Int) (ep fr : Int) (bas : List Int) (kd : Int) (us : Bool) (nm : Int) (key sg pa ms start : List Int) (at_ : Int) (sig : List Int) (hrl : grp.length = 32) (hal : bas.length = 32) (hkl : key.length = 32) (hgl : sg.length = 32) (hpl : pa.length = 32) (htl : start.length = 32) (hil : sig.length = 64) (h : Qbk ep fr kd us nm key sg pa ms start at_ = true) : (Qbm grp ep fr bas kd us nm key sg pa ms start at_ sig).length ≤ 400 ∧ 0 < (Qbm grp ep fr bas kd us nm key sg pa ms start at_ sig).length := by
  obtain ⟨-, -, h3⟩ := Qc2 h
  have h4 : (if kd = 3 then ([] : List Int) else Qbd us nm key sg pa ms).length ≤ 131 := by
    rcases h3 with h3 | h3
    · rw [if_pos h3]; exact Nat.zero_le _
    · split
      · exact Nat.zero_le _
      · unfold Qb8 at h3
        simp only [Bool.and_eq_true, decide_eq_true_eq] at h3
        rw [QaF]; omega
  have h5 : (if kd = 1 then start else ([] : List Int)).length ≤ 32 := by split; omega; exact Nat.zero_le _
  have h6 : (if kd = 3 then [byV at_ 0] else ([] : List Int)).length ≤ 1 := by split; exact Nat.le_refl _; exact Nat.zero_le _
  unfold Qbm
  simp only [List.length_append, QaG ep fr hrl, hal, hil, List.length_cons, List.length_nil]
  omega
set_option maxHeartbeats 4000000 in
theorem Qfp (grp : List Int) (ep fr : Int) (bas : List Int) (kd : Int) (us : Bool) (nm : Int) (key sg pa ms start : List Int) (at_ : Int) (sig : List Int) (a_m : Option Addr) (c_m : Nat) (w : World) (hrl : grp.length = 32) (hrb : Qag grp) (hal : bas.length = 32) (hab : Qag bas) (hkl : key.length = 32) (hgl : sg.length = 32) (hpl : pa.length = 32) (hkb : Qag key) (hgb : Qag sg) (hpb : Qag pa) (hml : ms.length ≤ 1000000) (htl : start.length = 32) (htb : Qag start) (hil : sig.length = 64) (hib : Qag sig) (hm : RdK .i64 w.heap.size ms (.slice a_m ms.length c_m) w) (hG : Qbk ep fr kd us nm key sg pa ms start at_ = false) : Calls Try.prog 22 #[.agg (cat [ints .u8 (grp), #[.int .i64 ep], #[.int .i64 fr], ints .u8 (bas), #[.int .i64 kd], #[.bool us], #[.int .i64 nm], ints .u8 (key), ints .u8 (sg), ints .u8 (pa), #[.slice a_m ms.length c_m], ints .u8 (start), #[.int .i64 at_], ints .u8 (sig)])] w (Qb1 w (QdM w.heap.size (none))) := by
  refine enter 12 [(0, .agg (cat [ints .u8 (grp), #[.int .i64 ep], #[.int .i64 fr], ints .u8 (bas), #[.int .i64 kd], #[.bool us], #[.int .i64 nm], ints .u8 (key), ints .u8 (sg), ints .u8 (pa), #[.slice a_m ms.length c_m], ints .u8 (start), #[.int .i64 at_], ints .u8 (sig)]))] Try.func22 rfl rfl kj rfl ?_
  refine wp_seq_k fun K1 hK1 => ?_
  refine Qae ?_
  refine Qav (cat [ints .u8 (grp), #[.int .i64 ep], #[.int .i64 fr], ints .u8 (bas), #[.int .i64 kd], #[.bool us], #[.int .i64 nm], ints .u8 (key), ints .u8 (sg), ints .u8 (pa), #[.slice a_m ms.length c_m], ints .u8 (start), #[.int .i64 at_], ints .u8 (sig)]) 47 1 rfl kj kj fun g2 W1 l2 e1 r2_1 => ?_
  have x1 : Ext w W1 := Ext.tr (Rely.Ext.refl w) e1
  have b2 : w.heap.size ≤ g2 := Nat.le_trans (Rely.Ext.refl w).size l2
  refine Qab (.slice none 0 0) 2 rfl kj kj ?_
  refine Qab (.bool false) 3 rfl kj kj ?_
  refine Qaf ?_
  refine hK1 _ _ ?_
  refine wp_seq_k fun K3 hK3 => ?_
  refine wp_seq_k fun K4 hK4 => ?_
  refine Qae ?_
  refine Qab (.agg (cat [ints .u8 (grp), #[.int .i64 ep], #[.int .i64 fr], ints .u8 (bas), #[.int .i64 kd], #[.bool us], #[.int .i64 nm], ints .u8 (key), ints .u8 (sg), ints .u8 (pa), #[.slice a_m ms.length c_m], ints .u8 (start), #[.int .i64 at_], ints .u8 (sig)])) 4 rfl kj (Qa4 47 _ g2 47 _ _ r2_1 rfl kj kj (isz (n := 263) kj (by rw [Qaa, Qaa, Qaa, Qaa, Qaa, Qaa, Qaa, Qaa, Qaa, Qaa, Qaa, Qaa, Qaa, Qaa]; simp only [Array.size_append, cat, ((Qac _ _).trans hal), ((Qac _ _).trans hgl), ((Qac _ _).trans hil), ((Qac _ _).trans hkl), ((Qac _ _).trans hpl), ((Qac _ _).trans hrl), ((Qac _ _).trans htl)]; rfl))) ?_
  refine Qa3 (.bool false) 58 #[.agg (cat [ints .u8 (grp), #[.int .i64 ep], #[.int .i64 fr], ints .u8 (bas), #[.int .i64 kd], #[.bool us], #[.int .i64 nm], ints .u8 (key), ints .u8 (sg), ints .u8 (pa), #[.slice a_m ms.length c_m], ints .u8 (start), #[.int .i64 at_], ints .u8 (sig)])] 5 rfl kj kj (QeB grp ep fr bas kd us nm key sg pa ms start at_ sig _ _ _ hG _ hrl hrb hal hab hkl hgl hpl hkb hgb hpb hml htl htb hil hib (RdK.here (RdK.ext hm x1))) fun W2 e2 => ?_
  have x2 : Ext w W2 := Ext.tr x1 e2
  refine Qab (.bool true) 6 rfl kj kj ?_
  refine Qaf ?_
  refine hK4 _ _ ?_
  refine cond_true kj ?_
  refine wp_seq_k fun K5 hK5 => ?_
  refine Qae ?_
  refine Qab (.slice none 0 0) 2 rfl kj kj ?_
  refine Qab (.bool false) 3 rfl kj kj ?_
  refine Qaf ?_
  refine hK5 _ _ ?_
  refine wp_ret ?_
  repeat (first | with_reducible refine goR1 ?_ | with_reducible refine goR2 ?_)
  exact (show bodyPost _ _ _ .ret _ _ from ret2 (.slice none 0 0) (.bool false) rfl (Qaw kj) (Qaw kj) ⟨_, rfl, x2, rfl⟩)
set_option maxHeartbeats 4000000 in
theorem Qfo (grp : List Int) (ep fr : Int) (bas : List Int) (kd : Int) (us : Bool) (nm : Int) (key sg pa ms start : List Int) (at_ : Int) (sig : List Int) (a_m : Option Addr) (c_m : Nat) (w : World) (hrl : grp.length = 32) (hrb : Qag grp) (hal : bas.length = 32) (hab : Qag bas) (hkl : key.length = 32) (hgl : sg.length = 32) (hpl : pa.length = 32) (hkb : Qag key) (hgb : Qag sg) (hpb : Qag pa) (hml : ms.length ≤ 1000000) (htl : start.length = 32) (htb : Qag start) (hil : sig.length = 64) (hib : Qag sig) (hm : RdK .i64 w.heap.size ms (.slice a_m ms.length c_m) w) (hG : Qbk ep fr kd us nm key sg pa ms start at_ = true) : Calls Try.prog 22 #[.agg (cat [ints .u8 (grp), #[.int .i64 ep], #[.int .i64 fr], ints .u8 (bas), #[.int .i64 kd], #[.bool us], #[.int .i64 nm], ints .u8 (key), ints .u8 (sg), ints .u8 (pa), #[.slice a_m ms.length c_m], ints .u8 (start), #[.int .i64 at_], ints .u8 (sig)])] w (Qb1 w (QdM w.heap.size (some (Qbm grp ep fr bas kd us nm key sg pa ms start at_ sig)))) := by
  obtain ⟨hg0, hk, -⟩ := Qc2 hG
  have hep := QbY (show inB ep 4294967295 = true by unfold hgB at hg0; simp only [Bool.and_eq_true] at hg0; exact hg0.1)
  have hf : (Qbm grp ep fr bas kd us nm key sg pa ms start at_ sig).length ≤ 65536 := by have := (QcD grp ep fr bas kd us nm key sg pa ms start at_ sig hrl hal hkl hgl hpl htl hil hG).1; omega
  refine enter 12 [(0, .agg (cat [ints .u8 (grp), #[.int .i64 ep], #[.int .i64 fr], ints .u8 (bas), #[.int .i64 kd], #[.bool us], #[.int .i64 nm], ints .u8 (key), ints .u8 (sg), ints .u8 (pa), #[.slice a_m ms.length c_m], ints .u8 (start), #[.int .i64 at_], ints .u8 (sig)]))] Try.func22 rfl rfl kj rfl ?_
  refine wp_seq_k fun K1 hK1 => ?_
  refine Qae ?_
  refine Qav (cat [ints .u8 (grp), #[.int .i64 ep], #[.int .i64 fr], ints .u8 (bas), #[.int .i64 kd], #[.bool us], #[.int .i64 nm], ints .u8 (key), ints .u8 (sg), ints .u8 (pa), #[.slice a_m ms.length c_m], ints .u8 (start), #[.int .i64 at_], ints .u8 (sig)]) 47 1 rfl kj kj fun g2 W1 l2 e1 r2_1 => ?_
  have x1 : Ext w W1 := Ext.tr (Rely.Ext.refl w) e1
  have b2 : w.heap.size ≤ g2 := Nat.le_trans (Rely.Ext.refl w).size l2
  refine Qab (.slice none 0 0) 2 rfl kj kj ?_
  refine Qab (.bool false) 3 rfl kj kj ?_
  refine Qaf ?_
  refine hK1 _ _ ?_
  refine wp_seq_k fun K3 hK3 => ?_
  refine wp_seq_k fun K4 hK4 => ?_
  refine Qae ?_
  refine Qab (.agg (cat [ints .u8 (grp), #[.int .i64 ep], #[.int .i64 fr], ints .u8 (bas), #[.int .i64 kd], #[.bool us], #[.int .i64 nm], ints .u8 (key), ints .u8 (sg), ints .u8 (pa), #[.slice a_m ms.length c_m], ints .u8 (start), #[.int .i64 at_], ints .u8 (sig)])) 4 rfl kj (Qa4 47 _ g2 47 _ _ r2_1 rfl kj kj (isz (n := 263) kj (by rw [Qaa, Qaa, Qaa, Qaa, Qaa, Qaa, Qaa, Qaa, Qaa, Qaa, Qaa, Qaa, Qaa, Qaa]; simp only [Array.size_append, cat, ((Qac _ _).trans hal), ((Qac _ _).trans hgl), ((Qac _ _).trans hil), ((Qac _ _).trans hkl), ((Qac _ _).trans hpl), ((Qac _ _).trans hrl), ((Qac _ _).trans htl)]; rfl))) ?_
  refine Qa3 (.bool true) 58 #[.agg (cat [ints .u8 (grp), #[.int .i64 ep], #[.int .i64 fr], ints .u8 (bas), #[.int .i64 kd], #[.bool us], #[.int .i64 nm], ints .u8 (key), ints .u8 (sg), ints .u8 (pa), #[.slice a_m ms.length c_m], ints .u8 (start), #[.int .i64 at_], ints .u8 (sig)])] 5 rfl kj kj (QeB grp ep fr bas kd us nm key sg pa ms start at_ sig _ _ _ hG _ hrl hrb hal hab hkl hgl hpl hkb hgb hpb hml htl htb hil hib (RdK.here (RdK.ext hm x1))) fun W2 e2 => ?_
  have x2 : Ext w W2 := Ext.tr x1 e2
  refine Qab (.bool false) 6 rfl kj kj ?_
  refine Qaf ?_
  refine hK4 _ _ ?_
  refine cond_false kj ?_
  refine wp_skip ?_
  refine hK3 _ _ ?_
  refine wp_seq_k fun K5 hK5 => ?_
  refine Qae ?_
  have r2_2 := (Qas r2_1 e2)
  refine Qab (.agg (cat [ints .u8 (grp), #[.int .i64 ep], #[.int .i64 fr], ints .u8 (bas), #[.int .i64 kd], #[.bool us], #[.int .i64 nm], ints .u8 (key), ints .u8 (sg), ints .u8 (pa), #[.slice a_m ms.length c_m], ints .u8 (start), #[.int .i64 at_], ints .u8 (sig)])) 7 rfl kj (Qa4 47 _ g2 47 _ _ r2_2 rfl kj kj (isz (n := 263) kj (by rw [Qaa, Qaa, Qaa, Qaa, Qaa, Qaa, Qaa, Qaa, Qaa, Qaa, Qaa, Qaa, Qaa, Qaa]; simp only [Array.size_append, cat, ((Qac _ _).trans hal), ((Qac _ _).trans hgl), ((Qac _ _).trans hil), ((Qac _ _).trans hkl), ((Qac _ _).trans hpl), ((Qac _ _).trans hrl), ((Qac _ _).trans htl)]; rfl))) ?_
  refine Qal (fun v W' => (OwnN .u8 5 W2.heap.size (Qbm grp ep fr bas kd us nm key sg pa ms start at_ sig)) v W' ∧ Ext W2 W') 59 #[.agg (cat [ints .u8 (grp), #[.int .i64 ep], #[.int .i64 fr], ints .u8 (bas), #[.int .i64 kd], #[.bool us], #[.int .i64 nm], ints .u8 (key), ints .u8 (sg), ints .u8 (pa), #[.slice a_m ms.length c_m], ints .u8 (start), #[.int .i64 at_], ints .u8 (sig)])] 8 rfl kj kj ((QfA grp ep fr bas kd us nm key sg pa ms start at_ sig _ _ _ hrl hrb hal hab hkl hgl hpl hkb hgb hpb hml htl htb hil hib (RdK.here (RdK.ext hm x2)) hep hk).mono (by rintro e w' ⟨v, rfl, e1, hv⟩; exact ⟨v, rfl, hv, e1⟩)) fun vv6 W3 hh6 => ?_
  obtain ⟨hv6, e3⟩ := hh6
  have x3 : Ext w W3 := Ext.tr x2 e3
  obtain ⟨ab_, cb_, rfl, -⟩ := id (OwnN.rd hv6)
  refine Qa3 (.tuple #[.slice ab_ ((Qbm grp ep fr bas kd us nm key sg pa ms start at_ sig).length) cb_, .bool true]) 52 #[.slice ab_ ((Qbm grp ep fr bas kd us nm key sg pa ms start at_ sig).length) cb_] 9 rfl kj kj ((fun w => Qg6 (Qbm grp ep fr bas kd us nm key sg pa ms start at_ sig) _ _ w hf) _) fun W4 e4 => ?_
  have x4 : Ext w W4 := Ext.tr x3 e4
  refine Qab (.slice ab_ ((Qbm grp ep fr bas kd us nm key sg pa ms start at_ sig).length) cb_) 10 rfl kj kj ?_
  refine Qab (.bool true) 11 rfl kj kj ?_
  refine Qab (.slice ab_ ((Qbm grp ep fr bas kd us nm key sg pa ms start at_ sig).length) cb_) 2 rfl kj kj ?_
  refine Qab (.bool true) 3 rfl kj kj ?_
  refine Qaf ?_
  refine hK5 _ _ ?_
  refine wp_ret ?_
  repeat (first | with_reducible refine goR1 ?_ | with_reducible refine goR2 ?_)
  have f7_4 := (hv6.ext e4)
  exact (show bodyPost _ _ _ .ret _ _ from ret2 (.slice ab_ ((Qbm grp ep fr bas kd us nm key sg pa ms start at_ sig).length) cb_) (.bool true) rfl (Qaw kj) (Qaw kj) ⟨_, rfl, x4, _, rfl, OwnN.base x2.size f7_4⟩)
theorem Qb5 (grp : List Int) (ep fr : Int) (bas : List Int) (kd : Int) (us : Bool) (nm : Int) (key sg pa ms start : List Int) (at_ : Int) (sig : List Int) (a_m : Option Addr) (c_m : Nat) (w : World) (hrl : grp.length = 32) (hrb : Qag grp) (hal : bas.length = 32) (hab : Qag bas) (hkl : key.length = 32) (hgl : sg.length = 32) (hpl : pa.length = 32) (hkb : Qag key) (hgb : Qag sg) (hpb : Qag pa) (hml : ms.length ≤ 1000000) (htl : start.length = 32) (htb : Qag start) (hil : sig.length = 64) (hib : Qag sig) (hm : RdK .i64 w.heap.size ms (.slice a_m ms.length c_m) w) : Calls Try.prog 22 #[.agg (cat [ints .u8 (grp), #[.int .i64 ep], #[.int .i64 fr], ints .u8 (bas), #[.int .i64 kd], #[.bool us], #[.int .i64 nm], ints .u8 (key), ints .u8 (sg), ints .u8 (pa), #[.slice a_m ms.length c_m], ints .u8 (start), #[.int .i64 at_], ints .u8 (sig)])] w (Qb1 w (QdM w.heap.size (Qcm grp ep fr bas kd us nm key sg pa ms start at_ sig))) := by
  unfold Qcm
  cases hG : Qbk ep fr kd us nm key sg pa ms start at_ with
  | false => exact Qfp grp ep fr bas kd us nm key sg pa ms start at_ sig a_m c_m w hrl hrb hal hab hkl hgl hpl hkb hgb hpb hml htl htb hil hib hm hG
  | true => exact Qfo grp ep fr bas kd us nm key sg pa ms start at_ sig a_m c_m w hrl hrb hal hab hkl hgl hpl hkb hgb hpb hml htl htb hil hib hm hG
end Go.Proofs.Ytfelfmchachljaa.Wr
end
section
namespace Go.Proofs.Ytfelfmchachljaa.Wr
open Go Go.RowKit
open Rely Auto Own Sha
set_option linter.unusedVariables false
set_option linter.unusedSimpArgs false
set_option maxHeartbeats 4000000 in
theorem QfN (base gw : Nat) (s : Option (List Int)) (grp : List Int) (ep fr : Int) (bas : List Int) (us : Bool) (nm : Int) (key sg pa ms start : List Int) (at_ : Int) (sig : List Int) (a_m : Option Addr) (c_m : Nat) (w : World) (hbw : base ≤ w.heap.size) (hbg : base ≤ gw) (h : WSt base gw s w) (hrl : grp.length = 32) (hrb : Qag grp) (hal : bas.length = 32) (hab : Qag bas) (hkl : key.length = 32) (hgl : sg.length = 32) (hpl : pa.length = 32) (hkb : Qag key) (hgb : Qag sg) (hpb : Qag pa) (hml : ms.length ≤ 1000000) (htl : start.length = 32) (htb : Qag start) (hil : sig.length = 64) (hib : Qag sig) (hm : RdK .i64 base ms (.slice a_m ms.length c_m) w) : Calls Try.prog 57 #[.pointer (some ⟨gw, 0, none⟩), .agg (cat [ints .u8 (grp), #[.int .i64 ep], #[.int .i64 fr], ints .u8 (bas), #[.int .i64 1], #[.bool us], #[.int .i64 nm], ints .u8 (key), ints .u8 (sg), ints .u8 (pa), #[.slice a_m ms.length c_m], ints .u8 (start), #[.int .i64 at_], ints .u8 (sig)])] w (fun e W => e = .returned (.tuple #[]) ∧ GW base gw w W ∧ WSt base gw (rawS (Qa0 (rawS (QbX (numS (Qa0 (rawS (QaI (numS (rawS (s) grp) ep 4) fr) bas) true) 1 1) us nm key sg pa ms) start) ((at_ == 0))) sig) W) := by
  have hgw := h.lt
  refine enter 80 [(0, .pointer (some ⟨gw, 0, none⟩)), (1, .agg (cat [ints .u8 (grp), #[.int .i64 ep], #[.int .i64 fr], ints .u8 (bas), #[.int .i64 1], #[.bool us], #[.int .i64 nm], ints .u8 (key), ints .u8 (sg), ints .u8 (pa), #[.slice a_m ms.length c_m], ints .u8 (start), #[.int .i64 at_], ints .u8 (sig)]))] Try.func57 rfl rfl kj rfl ?_
  refine wp_seq_k fun K1 hK1 => ?_
  refine Qae ?_
  refine Qav (cat [ints .u8 (grp), #[.int .i64 ep], #[.int .i64 fr], ints .u8 (bas), #[.int .i64 1], #[.bool us], #[.int .i64 nm], ints .u8 (key), ints .u8 (sg), ints .u8 (pa), #[.slice a_m ms.length c_m], ints .u8 (start), #[.int .i64 at_], ints .u8 (sig)]) 47 3 rfl kj kj fun g2 W1 l2 e1 r2_1 => ?_
  have x1 : GW base gw w W1 := GW.ext (GW.refl base gw w) e1
  have ws3 := WSt.ext h e1
  have b2 : w.heap.size ≤ g2 := Nat.le_trans (GW.refl base gw w).size l2
  refine Qaf ?_
  refine hK1 _ _ ?_
  refine wp_seq_k fun K4 hK4 => ?_
  refine Qae ?_
  refine Qab (.pointer (some ⟨gw, 0, none⟩)) 4 rfl kj kj ?_
  refine Qab (.pointer (some ⟨g2, 0, none⟩)) 5 rfl kj kj ?_
  refine Qab (.slice (some ⟨g2, 0, none⟩) 32 32) 6 rfl kj kj ?_
  refine Qal (fun v W' => v = .tuple #[] ∧ GW base gw W1 W' ∧ WSt base gw (rawS (s) grp) W') 104 #[.pointer (some ⟨gw, 0, none⟩), .slice (some ⟨g2, 0, none⟩) 32 32] 7 rfl kj kj ((rawW base gw _ grp _ _ (Nat.le_trans hbw x1.size) ws3 (by omega) hrb (fun W e => (QaC 0 hrl (ExtB.row e r2_1 (Ne.symm (Nat.ne_of_lt (Nat.lt_of_lt_of_le hgw b2)))) (fun i hi => Qa8 [] [#[.int .i64 ep], #[.int .i64 fr], ints .u8 (bas), #[.int .i64 1], #[.bool us], #[.int .i64 nm], ints .u8 (key), ints .u8 (sg), ints .u8 (pa), #[.slice a_m ms.length c_m], ints .u8 (start), #[.int .i64 at_], ints .u8 (sig)] grp 0 i (0 + i) kj rfl (by rw [hrl]; exact hi)) (Qay (ExtB.row e r2_1 (Ne.symm (Nat.ne_of_lt (Nat.lt_of_lt_of_le hgw b2))))) (Nat.le_refl _) (by decide)))).mono (by rintro e w' ⟨rfl, h1, h2⟩; exact ⟨_, rfl, rfl, h1, h2⟩)) fun v5 W2 h5 => ?_
  obtain ⟨rfl, q2, ws5⟩ := h5
  have x2 : GW base gw w W2 := GW.trans x1 q2
  refine Qaf ?_
  refine hK4 _ _ ?_
  refine wp_seq_k fun K6 hK6 => ?_
  refine Qae ?_
  refine Qab (.pointer (some ⟨gw, 0, none⟩)) 8 rfl kj kj ?_
  refine Qab (.pointer (some ⟨g2, 32, none⟩)) 9 rfl kj kj ?_
  have r2_2 := (GW.row q2 r2_1 (by decide) (Ne.symm (Nat.ne_of_lt (Nat.lt_of_lt_of_le hgw b2))))
  refine Qab (.int .i64 ep) 10 rfl kj (Qah 3 _ g2 32 47 _ (.int .i64 ep) _ r2_2 rfl kj (Qak [ints .u8 (grp)] [#[.int .i64 ep]] [#[.int .i64 fr], ints .u8 (bas), #[.int .i64 1], #[.bool us], #[.int .i64 nm], ints .u8 (key), ints .u8 (sg), ints .u8 (pa), #[.slice a_m ms.length c_m], ints .u8 (start), #[.int .i64 at_], ints .u8 (sig)] 32 ((Qac _ _).trans hrl) 0 _ rfl) kj) ?_
  refine Qal (fun v W' => v = .tuple #[] ∧ GW base gw W2 W' ∧ WSt base gw (numS (rawS (s) grp) ep 4) W') 105 #[.pointer (some ⟨gw, 0, none⟩), .int .i64 ep, .int .i64 4] 11 rfl kj kj ((Qbj base gw _ ep 4 _ (Nat.le_trans hbw x2.size) ws5 (by decide)).mono (by rintro e w' ⟨rfl, h1, h2⟩; exact ⟨_, rfl, rfl, h1, h2⟩)) fun v7 W3 h7 => ?_
  obtain ⟨rfl, q3, ws7⟩ := h7
  have x3 : GW base gw w W3 := GW.trans x2 q3
  refine Qaf ?_
  refine hK6 _ _ ?_
  refine wp_seq_k fun K8 hK8 => ?_
  refine Qae ?_
  refine Qab (.pointer (some ⟨gw, 0, none⟩)) 12 rfl kj kj ?_
  refine Qab (.pointer (some ⟨g2, 33, none⟩)) 13 rfl kj kj ?_
  have r2_3 := (GW.row q3 r2_2 (by decide) (Ne.symm (Nat.ne_of_lt (Nat.lt_of_lt_of_le hgw b2))))
  refine Qab (.int .i64 fr) 14 rfl kj (Qah 3 _ g2 33 47 _ (.int .i64 fr) _ r2_3 rfl kj (Qak [ints .u8 (grp), #[.int .i64 ep]] [#[.int .i64 fr]] [ints .u8 (bas), #[.int .i64 1], #[.bool us], #[.int .i64 nm], ints .u8 (key), ints .u8 (sg), ints .u8 (pa), #[.slice a_m ms.length c_m], ints .u8 (start), #[.int .i64 at_], ints .u8 (sig)] 33 (by rw [Qaa, Qaa]; simp only [Array.size_append, cat, ((Qac _ _).trans hrl)]; rfl) 0 _ rfl) kj) ?_
  refine Qal (fun v W' => v = .tuple #[] ∧ GW base gw W3 W' ∧ WSt base gw (QaI (numS (rawS (s) grp) ep 4) fr) W') 106 #[.pointer (some ⟨gw, 0, none⟩), .int .i64 fr] 15 rfl kj kj ((Qd5 base gw _ fr _ (Nat.le_trans hbw x3.size) ws7).mono (by rintro e w' ⟨rfl, h1, h2⟩; exact ⟨_, rfl, rfl, h1, h2⟩)) fun v9 W4 h9 => ?_
  obtain ⟨rfl, q4, ws9⟩ := h9
  have x4 : GW base gw w W4 := GW.trans x3 q4
  refine Qaf ?_
  refine hK8 _ _ ?_
  refine wp_seq_k fun K10 hK10 => ?_
  refine Qae ?_
  refine Qab (.pointer (some ⟨gw, 0, none⟩)) 16 rfl kj kj ?_
  refine Qab (.pointer (some ⟨g2, 34, none⟩)) 17 rfl kj kj ?_
  refine Qab (.slice (some ⟨g2, 34, none⟩) 32 32) 18 rfl kj kj ?_
  have r2_4 := (GW.row q4 r2_3 (by decide) (Ne.symm (Nat.ne_of_lt (Nat.lt_of_lt_of_le hgw b2))))
  refine Qal (fun v W' => v = .tuple #[] ∧ GW base gw W4 W' ∧ WSt base gw (rawS (QaI (numS (rawS (s) grp) ep 4) fr) bas) W') 104 #[.pointer (some ⟨gw, 0, none⟩), .slice (some ⟨g2, 34, none⟩) 32 32] 19 rfl kj kj ((rawW base gw _ bas _ _ (Nat.le_trans hbw x4.size) ws9 (by omega) hab (fun W e => (QaC 34 hal (ExtB.row e r2_4 (Ne.symm (Nat.ne_of_lt (Nat.lt_of_lt_of_le hgw b2)))) (fun i hi => Qa8 [ints .u8 (grp), #[.int .i64 ep], #[.int .i64 fr]] [#[.int .i64 1], #[.bool us], #[.int .i64 nm], ints .u8 (key), ints .u8 (sg), ints .u8 (pa), #[.slice a_m ms.length c_m], ints .u8 (start), #[.int .i64 at_], ints .u8 (sig)] bas 34 i (34 + i) (by rw [Qaa, Qaa, Qaa]; simp only [Array.size_append, cat, ((Qac _ _).trans hrl)]; rfl) rfl (by rw [hal]; exact hi)) (Qay (ExtB.row e r2_4 (Ne.symm (Nat.ne_of_lt (Nat.lt_of_lt_of_le hgw b2))))) (Nat.le_refl _) (by decide)))).mono (by rintro e w' ⟨rfl, h1, h2⟩; exact ⟨_, rfl, rfl, h1, h2⟩)) fun v11 W5 h11 => ?_
  obtain ⟨rfl, q5, ws11⟩ := h11
  have x5 : GW base gw w W5 := GW.trans x4 q5
  refine Qaf ?_
  refine hK10 _ _ ?_
  refine wp_seq_k fun K12 hK12 => ?_
  refine Qae ?_
  refine Qab (.pointer (some ⟨gw, 0, none⟩)) 20 rfl kj kj ?_
  refine Qab (.pointer (some ⟨g2, 66, none⟩)) 21 rfl kj kj ?_
  have r2_5 := (GW.row q5 r2_4 (by decide) (Ne.symm (Nat.ne_of_lt (Nat.lt_of_lt_of_le hgw b2))))
  refine Qab (.int .i64 1) 22 rfl kj (Qah 3 _ g2 66 47 _ (.int .i64 1) _ r2_5 rfl kj (Qak [ints .u8 (grp), #[.int .i64 ep], #[.int .i64 fr], ints .u8 (bas)] [#[.int .i64 1]] [#[.bool us], #[.int .i64 nm], ints .u8 (key), ints .u8 (sg), ints .u8 (pa), #[.slice a_m ms.length c_m], ints .u8 (start), #[.int .i64 at_], ints .u8 (sig)] 66 (by rw [Qaa, Qaa, Qaa, Qaa]; simp only [Array.size_append, cat, ((Qac _ _).trans hal), ((Qac _ _).trans hrl)]; rfl) 0 _ rfl) kj) ?_
  refine Qab (.bool true) 23 rfl kj kj ?_
  refine Qab (.bool true) 24 rfl kj kj ?_
  refine Qab (.pointer (some ⟨g2, 66, none⟩)) 25 rfl kj kj ?_
  refine Qab (.int .i64 1) 26 rfl kj (Qah 3 _ g2 66 47 _ (.int .i64 1) _ r2_5 rfl kj (Qak [ints .u8 (grp), #[.int .i64 ep], #[.int .i64 fr], ints .u8 (bas)] [#[.int .i64 1]] [#[.bool us], #[.int .i64 nm], ints .u8 (key), ints .u8 (sg), ints .u8 (pa), #[.slice a_m ms.length c_m], ints .u8 (start), #[.int .i64 at_], ints .u8 (sig)] 66 (by rw [Qaa, Qaa, Qaa, Qaa]; simp only [Array.size_append, cat, ((Qac _ _).trans hal), ((Qac _ _).trans hrl)]; rfl) 0 _ rfl) kj) ?_
  refine Qab (.bool true) 27 rfl kj kj ?_
  refine Qab (.bool true) 28 rfl kj kj ?_
  refine Qal (fun v W' => v = .tuple #[] ∧ GW base gw W5 W' ∧ WSt base gw (Qa0 (rawS (QaI (numS (rawS (s) grp) ep 4) fr) bas) true) W') 98 #[.pointer (some ⟨gw, 0, none⟩), .bool true] 29 rfl kj kj ((QbF base gw _ true _ ws11).mono (by rintro e w' ⟨rfl, h1, h2⟩; exact ⟨_, rfl, rfl, h1, h2⟩)) fun v13 W6 h13 => ?_
  obtain ⟨rfl, q6, ws13⟩ := h13
  have x6 : GW base gw w W6 := GW.trans x5 q6
  refine Qaf ?_
  refine hK12 _ _ ?_
  refine wp_seq_k fun K14 hK14 => ?_
  refine Qae ?_
  refine Qab (.pointer (some ⟨gw, 0, none⟩)) 30 rfl kj kj ?_
  refine Qab (.pointer (some ⟨g2, 66, none⟩)) 31 rfl kj kj ?_
  have r2_6 := (GW.row q6 r2_5 (by decide) (Ne.symm (Nat.ne_of_lt (Nat.lt_of_lt_of_le hgw b2))))
  refine Qab (.int .i64 1) 32 rfl kj (Qah 3 _ g2 66 47 _ (.int .i64 1) _ r2_6 rfl kj (Qak [ints .u8 (grp), #[.int .i64 ep], #[.int .i64 fr], ints .u8 (bas)] [#[.int .i64 1]] [#[.bool us], #[.int .i64 nm], ints .u8 (key), ints .u8 (sg), ints .u8 (pa), #[.slice a_m ms.length c_m], ints .u8 (start), #[.int .i64 at_], ints .u8 (sig)] 66 (by rw [Qaa, Qaa, Qaa, Qaa]; simp only [Array.size_append, cat, ((Qac _ _).trans hal), ((Qac _ _).trans hrl)]; rfl) 0 _ rfl) kj) ?_
  refine Qal (fun v W' => v = .tuple #[] ∧ GW base gw W6 W' ∧ WSt base gw (numS (Qa0 (rawS (QaI (numS (rawS (s) grp) ep 4) fr) bas) true) 1 1) W') 105 #[.pointer (some ⟨gw, 0, none⟩), .int .i64 1, .int .i64 1] 33 rfl kj kj ((Qbj base gw _ 1 1 _ (Nat.le_trans hbw x6.size) ws13 (by decide)).mono (by rintro e w' ⟨rfl, h1, h2⟩; exact ⟨_, rfl, rfl, h1, h2⟩)) fun v15 W7 h15 => ?_
  obtain ⟨rfl, q7, ws15⟩ := h15
  have x7 : GW base gw w W7 := GW.trans x6 q7
  refine Qaf ?_
  refine hK14 _ _ ?_
  refine wp_seq_k fun K16 hK16 => ?_
  refine wp_seq_k fun K17 hK17 => ?_
  refine Qae ?_
  refine Qab (.pointer (some ⟨g2, 66, none⟩)) 34 rfl kj kj ?_
  have r2_7 := (GW.row q7 r2_6 (by decide) (Ne.symm (Nat.ne_of_lt (Nat.lt_of_lt_of_le hgw b2))))
  refine Qab (.int .i64 1) 35 rfl kj (Qah 3 _ g2 66 47 _ (.int .i64 1) _ r2_7 rfl kj (Qak [ints .u8 (grp), #[.int .i64 ep], #[.int .i64 fr], ints .u8 (bas)] [#[.int .i64 1]] [#[.bool us], #[.int .i64 nm], ints .u8 (key), ints .u8 (sg), ints .u8 (pa), #[.slice a_m ms.length c_m], ints .u8 (start), #[.int .i64 at_], ints .u8 (sig)] 66 (by rw [Qaa, Qaa, Qaa, Qaa]; simp only [Array.size_append, cat, ((Qac _ _).trans hal), ((Qac _ _).trans hrl)]; rfl) 0 _ rfl) kj) ?_
  refine Qab (.bool true) 36 rfl kj kj ?_
  refine Qab (.bool true) 37 rfl kj kj ?_
  refine Qap 38 rfl kj ?_
  refine Qap 39 rfl kj ?_
  refine Qap 40 rfl kj ?_
  refine Qab (.bool true) 41 rfl kj kj ?_
  refine Qaf ?_
  refine hK17 _ _ ?_
  refine cond_true kj ?_
  refine Qae ?_
  refine Qab (.pointer (some ⟨gw, 0, none⟩)) 42 rfl kj kj ?_
  refine Qab (.pointer (some ⟨g2, 67, none⟩)) 43 rfl kj kj ?_
  refine Qab (.agg (cat [#[.bool us], #[.int .i64 nm], ints .u8 (key), ints .u8 (sg), ints .u8 (pa), #[.slice a_m ms.length c_m]])) 44 rfl kj (Qau 43 _ g2 67 47 _ _ _ r2_7 rfl kj (Qak [ints .u8 (grp), #[.int .i64 ep], #[.int .i64 fr], ints .u8 (bas), #[.int .i64 1]] [#[.bool us], #[.int .i64 nm], ints .u8 (key), ints .u8 (sg), ints .u8 (pa), #[.slice a_m ms.length c_m]] [ints .u8 (start), #[.int .i64 at_], ints .u8 (sig)] 67 (by rw [Qaa, Qaa, Qaa, Qaa, Qaa]; simp only [Array.size_append, cat, ((Qac _ _).trans hal), ((Qac _ _).trans hrl)]; rfl)) kj (isz (n := 99) kj (by rw [Qaa, Qaa, Qaa, Qaa, Qaa, Qaa]; simp only [Array.size_append, cat, ((Qac _ _).trans hgl), ((Qac _ _).trans hkl), ((Qac _ _).trans hpl)]; rfl))) ?_
  refine Qal (fun v W' => v = .tuple #[] ∧ GW base gw W7 W' ∧ WSt base gw (QbX (numS (Qa0 (rawS (QaI (numS (rawS (s) grp) ep 4) fr) bas) true) 1 1) us nm key sg pa ms) W') 95 #[.pointer (some ⟨gw, 0, none⟩), .agg (cat [#[.bool us], #[.int .i64 nm], ints .u8 (key), ints .u8 (sg), ints .u8 (pa), #[.slice a_m ms.length c_m]])] 45 rfl kj kj ((Qgz base gw _ us nm key sg pa ms _ _ _ (Nat.le_trans hbw x7.size) hbg ws15 hkl hgl hpl hkb hgb hpb hml (Qc9 hm x7 hbg)).mono (by rintro e w' ⟨rfl, h1, h2⟩; exact ⟨_, rfl, rfl, h1, h2⟩)) fun v18 W8 h18 => ?_
  obtain ⟨rfl, q8, ws18⟩ := h18
  have x8 : GW base gw w W8 := GW.trans x7 q8
  refine Qaf ?_
  refine hK16 _ _ ?_
  refine wp_seq_k fun K19 hK19 => ?_
  refine wp_seq_k fun K20 hK20 => ?_
  refine Qae ?_
  refine Qab (.pointer (some ⟨g2, 66, none⟩)) 51 rfl kj kj ?_
  have r2_8 := (GW.row q8 r2_7 (by decide) (Ne.symm (Nat.ne_of_lt (Nat.lt_of_lt_of_le hgw b2))))
  refine Qab (.int .i64 1) 52 rfl kj (Qah 3 _ g2 66 47 _ (.int .i64 1) _ r2_8 rfl kj (Qak [ints .u8 (grp), #[.int .i64 ep], #[.int .i64 fr], ints .u8 (bas)] [#[.int .i64 1]] [#[.bool us], #[.int .i64 nm], ints .u8 (key), ints .u8 (sg), ints .u8 (pa), #[.slice a_m ms.length c_m], ints .u8 (start), #[.int .i64 at_], ints .u8 (sig)] 66 (by rw [Qaa, Qaa, Qaa, Qaa]; simp only [Array.size_append, cat, ((Qac _ _).trans hal), ((Qac _ _).trans hrl)]; rfl) 0 _ rfl) kj) ?_
  refine Qab (.bool true) 53 rfl kj kj ?_
  refine Qaf ?_
  refine hK20 _ _ ?_
  refine cond_true kj ?_
  refine Qae ?_
  refine Qab (.pointer (some ⟨gw, 0, none⟩)) 54 rfl kj kj ?_
  refine Qab (.pointer (some ⟨g2, 166, none⟩)) 55 rfl kj kj ?_
  refine Qab (.slice (some ⟨g2, 166, none⟩) 32 32) 56 rfl kj kj ?_
  refine Qal (fun v W' => v = .tuple #[] ∧ GW base gw W8 W' ∧ WSt base gw (rawS (QbX (numS (Qa0 (rawS (QaI (numS (rawS (s) grp) ep 4) fr) bas) true) 1 1) us nm key sg pa ms) start) W') 104 #[.pointer (some ⟨gw, 0, none⟩), .slice (some ⟨g2, 166, none⟩) 32 32] 57 rfl kj kj ((rawW base gw _ start _ _ (Nat.le_trans hbw x8.size) ws18 (by omega) htb (fun W e => (QaC 166 htl (ExtB.row e r2_8 (Ne.symm (Nat.ne_of_lt (Nat.lt_of_lt_of_le hgw b2)))) (fun i hi => Qa8 [ints .u8 (grp), #[.int .i64 ep], #[.int .i64 fr], ints .u8 (bas), #[.int .i64 1], #[.bool us], #[.int .i64 nm], ints .u8 (key), ints .u8 (sg), ints .u8 (pa), #[.slice a_m ms.length c_m]] [#[.int .i64 at_], ints .u8 (sig)] start 166 i (166 + i) (by rw [Qaa, Qaa, Qaa, Qaa, Qaa, Qaa, Qaa, Qaa, Qaa, Qaa, Qaa]; simp only [Array.size_append, cat, ((Qac _ _).trans hal), ((Qac _ _).trans hgl), ((Qac _ _).trans hkl), ((Qac _ _).trans hpl), ((Qac _ _).trans hrl)]; rfl) rfl (by rw [htl]; exact hi)) (Qay (ExtB.row e r2_8 (Ne.symm (Nat.ne_of_lt (Nat.lt_of_lt_of_le hgw b2))))) (Nat.le_refl _) (by decide)))).mono (by rintro e w' ⟨rfl, h1, h2⟩; exact ⟨_, rfl, rfl, h1, h2⟩)) fun v21 W9 h21 => ?_
  obtain ⟨rfl, q9, ws21⟩ := h21
  have x9 : GW base gw w W9 := GW.trans x8 q9
  refine Qaf ?_
  refine hK19 _ _ ?_
  refine wp_seq_k fun K22 hK22 => ?_
  refine wp_seq_k fun K23 hK23 => ?_
  refine Qae ?_
  refine Qab (.pointer (some ⟨g2, 66, none⟩)) 64 rfl kj kj ?_
  have r2_9 := (GW.row q9 r2_8 (by decide) (Ne.symm (Nat.ne_of_lt (Nat.lt_of_lt_of_le hgw b2))))
  refine Qab (.int .i64 1) 65 rfl kj (Qah 3 _ g2 66 47 _ (.int .i64 1) _ r2_9 rfl kj (Qak [ints .u8 (grp), #[.int .i64 ep], #[.int .i64 fr], ints .u8 (bas)] [#[.int .i64 1]] [#[.bool us], #[.int .i64 nm], ints .u8 (key), ints .u8 (sg), ints .u8 (pa), #[.slice a_m ms.length c_m], ints .u8 (start), #[.int .i64 at_], ints .u8 (sig)] 66 (by rw [Qaa, Qaa, Qaa, Qaa]; simp only [Array.size_append, cat, ((Qac _ _).trans hal), ((Qac _ _).trans hrl)]; rfl) 0 _ rfl) kj) ?_
  refine Qab (.bool false) 66 rfl kj kj ?_
  refine Qaf ?_
  refine hK23 _ _ ?_
  refine cond_false kj ?_
  refine Qae ?_
  refine Qab (.pointer (some ⟨gw, 0, none⟩)) 71 rfl kj kj ?_
  refine Qab (.pointer (some ⟨g2, 198, none⟩)) 72 rfl kj kj ?_
  refine Qab (.int .i64 at_) 73 rfl kj (Qah 3 _ g2 198 47 _ (.int .i64 at_) _ r2_9 rfl kj (Qak [ints .u8 (grp), #[.int .i64 ep], #[.int .i64 fr], ints .u8 (bas), #[.int .i64 1], #[.bool us], #[.int .i64 nm], ints .u8 (key), ints .u8 (sg), ints .u8 (pa), #[.slice a_m ms.length c_m], ints .u8 (start)] [#[.int .i64 at_]] [ints .u8 (sig)] 198 (by rw [Qaa, Qaa, Qaa, Qaa, Qaa, Qaa, Qaa, Qaa, Qaa, Qaa, Qaa, Qaa]; simp only [Array.size_append, cat, ((Qac _ _).trans hal), ((Qac _ _).trans hgl), ((Qac _ _).trans hkl), ((Qac _ _).trans hpl), ((Qac _ _).trans hrl), ((Qac _ _).trans htl)]; rfl) 0 _ rfl) kj) ?_
  refine Qab (.bool ((at_ == 0))) 74 rfl kj kj ?_
  refine Qal (fun v W' => v = .tuple #[] ∧ GW base gw W9 W' ∧ WSt base gw (Qa0 (rawS (QbX (numS (Qa0 (rawS (QaI (numS (rawS (s) grp) ep 4) fr) bas) true) 1 1) us nm key sg pa ms) start) ((at_ == 0))) W') 98 #[.pointer (some ⟨gw, 0, none⟩), .bool ((at_ == 0))] 75 rfl kj kj ((QbF base gw _ ((at_ == 0)) _ ws21).mono (by rintro e w' ⟨rfl, h1, h2⟩; exact ⟨_, rfl, rfl, h1, h2⟩)) fun v24 W10 h24 => ?_
  obtain ⟨rfl, q10, ws24⟩ := h24
  have x10 : GW base gw w W10 := GW.trans x9 q10
  refine Qaf ?_
  refine hK22 _ _ ?_
  refine Qae ?_
  refine Qab (.pointer (some ⟨gw, 0, none⟩)) 76 rfl kj kj ?_
  refine Qab (.pointer (some ⟨g2, 199, none⟩)) 77 rfl kj kj ?_
  refine Qab (.slice (some ⟨g2, 199, none⟩) 64 64) 78 rfl kj kj ?_
  have r2_10 := (GW.row q10 r2_9 (by decide) (Ne.symm (Nat.ne_of_lt (Nat.lt_of_lt_of_le hgw b2))))
  refine Qal (fun v W' => v = .tuple #[] ∧ GW base gw W10 W' ∧ WSt base gw (rawS (Qa0 (rawS (QbX (numS (Qa0 (rawS (QaI (numS (rawS (s) grp) ep 4) fr) bas) true) 1 1) us nm key sg pa ms) start) ((at_ == 0))) sig) W') 104 #[.pointer (some ⟨gw, 0, none⟩), .slice (some ⟨g2, 199, none⟩) 64 64] 79 rfl kj kj ((rawW base gw _ sig _ _ (Nat.le_trans hbw x10.size) ws24 (by omega) hib (fun W e => (QaC 199 hil (ExtB.row e r2_10 (Ne.symm (Nat.ne_of_lt (Nat.lt_of_lt_of_le hgw b2)))) (fun i hi => Qa8 [ints .u8 (grp), #[.int .i64 ep], #[.int .i64 fr], ints .u8 (bas), #[.int .i64 1], #[.bool us], #[.int .i64 nm], ints .u8 (key), ints .u8 (sg), ints .u8 (pa), #[.slice a_m ms.length c_m], ints .u8 (start), #[.int .i64 at_]] [] sig 199 i (199 + i) (by rw [Qaa, Qaa, Qaa, Qaa, Qaa, Qaa, Qaa, Qaa, Qaa, Qaa, Qaa, Qaa, Qaa]; simp only [Array.size_append, cat, ((Qac _ _).trans hal), ((Qac _ _).trans hgl), ((Qac _ _).trans hkl), ((Qac _ _).trans hpl), ((Qac _ _).trans hrl), ((Qac _ _).trans htl)]; rfl) rfl (by rw [hil]; exact hi)) (Qay (ExtB.row e r2_10 (Ne.symm (Nat.ne_of_lt (Nat.lt_of_lt_of_le hgw b2))))) (Nat.le_refl _) (by decide)))).mono (by rintro e w' ⟨rfl, h1, h2⟩; exact ⟨_, rfl, rfl, h1, h2⟩)) fun v25 W11 h25 => ?_
  obtain ⟨rfl, q11, ws25⟩ := h25
  have x11 : GW base gw w W11 := GW.trans x10 q11
  refine Qaf ?_
  repeat (first | with_reducible refine goX1 ?_ | with_reducible refine goX2 ?_ | with_reducible refine goX3 ?_)
  exact (show bodyPost _ _ _ .normal _ _ from end0 rfl ⟨rfl, x11, ws25⟩)
set_option maxHeartbeats 4000000 in
theorem QfM (base gw : Nat) (s : Option (List Int)) (grp : List Int) (ep fr : Int) (bas : List Int) (us : Bool) (nm : Int) (key sg pa ms start : List Int) (at_ : Int) (sig : List Int) (a_m : Option Addr) (c_m : Nat) (w : World) (hbw : base ≤ w.heap.size) (hbg : base ≤ gw) (h : WSt base gw s w) (hrl : grp.length = 32) (hrb : Qag grp) (hal : bas.length = 32) (hab : Qag bas) (hkl : key.length = 32) (hgl : sg.length = 32) (hpl : pa.length = 32) (hkb : Qag key) (hgb : Qag sg) (hpb : Qag pa) (hml : ms.length ≤ 1000000) (htl : start.length = 32) (htb : Qag start) (hil : sig.length = 64) (hib : Qag sig) (hm : RdK .i64 base ms (.slice a_m ms.length c_m) w) : Calls Try.prog 57 #[.pointer (some ⟨gw, 0, none⟩), .agg (cat [ints .u8 (grp), #[.int .i64 ep], #[.int .i64 fr], ints .u8 (bas), #[.int .i64 2], #[.bool us], #[.int .i64 nm], ints .u8 (key), ints .u8 (sg), ints .u8 (pa), #[.slice a_m ms.length c_m], ints .u8 (start), #[.int .i64 at_], ints .u8 (sig)])] w (fun e W => e = .returned (.tuple #[]) ∧ GW base gw w W ∧ WSt base gw (rawS (Qa0 (Qa0 (QbX (numS (Qa0 (rawS (QaI (numS (rawS (s) grp) ep 4) fr) bas) true) 2 1) us nm key sg pa ms) (decide (start = List.replicate 32 0))) ((at_ == 0))) sig) W) := by
  have hgw := h.lt
  refine enter 80 [(0, .pointer (some ⟨gw, 0, none⟩)), (1, .agg (cat [ints .u8 (grp), #[.int .i64 ep], #[.int .i64 fr], ints .u8 (bas), #[.int .i64 2], #[.bool us], #[.int .i64 nm], ints .u8 (key), ints .u8 (sg), ints .u8 (pa), #[.slice a_m ms.length c_m], ints .u8 (start), #[.int .i64 at_], ints .u8 (sig)]))] Try.func57 rfl rfl kj rfl ?_
  refine wp_seq_k fun K1 hK1 => ?_
  refine Qae ?_
  refine Qav (cat [ints .u8 (grp), #[.int .i64 ep], #[.int .i64 fr], ints .u8 (bas), #[.int .i64 2], #[.bool us], #[.int .i64 nm], ints .u8 (key), ints .u8 (sg), ints .u8 (pa), #[.slice a_m ms.length c_m], ints .u8 (start), #[.int .i64 at_], ints .u8 (sig)]) 47 3 rfl kj kj fun g2 W1 l2 e1 r2_1 => ?_
  have x1 : GW base gw w W1 := GW.ext (GW.refl base gw w) e1
  have ws3 := WSt.ext h e1
  have b2 : w.heap.size ≤ g2 := Nat.le_trans (GW.refl base gw w).size l2
  refine Qaf ?_
  refine hK1 _ _ ?_
  refine wp_seq_k fun K4 hK4 => ?_
  refine Qae ?_
  refine Qab (.pointer (some ⟨gw, 0, none⟩)) 4 rfl kj kj ?_
  refine Qab (.pointer (some ⟨g2, 0, none⟩)) 5 rfl kj kj ?_
  refine Qab (.slice (some ⟨g2, 0, none⟩) 32 32) 6 rfl kj kj ?_
  refine Qal (fun v W' => v = .tuple #[] ∧ GW base gw W1 W' ∧ WSt base gw (rawS (s) grp) W') 104 #[.pointer (some ⟨gw, 0, none⟩), .slice (some ⟨g2, 0, none⟩) 32 32] 7 rfl kj kj ((rawW base gw _ grp _ _ (Nat.le_trans hbw x1.size) ws3 (by omega) hrb (fun W e => (QaC 0 hrl (ExtB.row e r2_1 (Ne.symm (Nat.ne_of_lt (Nat.lt_of_lt_of_le hgw b2)))) (fun i hi => Qa8 [] [#[.int .i64 ep], #[.int .i64 fr], ints .u8 (bas), #[.int .i64 2], #[.bool us], #[.int .i64 nm], ints .u8 (key), ints .u8 (sg), ints .u8 (pa), #[.slice a_m ms.length c_m], ints .u8 (start), #[.int .i64 at_], ints .u8 (sig)] grp 0 i (0 + i) kj rfl (by rw [hrl]; exact hi)) (Qay (ExtB.row e r2_1 (Ne.symm (Nat.ne_of_lt (Nat.lt_of_lt_of_le hgw b2))))) (Nat.le_refl _) (by decide)))).mono (by rintro e w' ⟨rfl, h1, h2⟩; exact ⟨_, rfl, rfl, h1, h2⟩)) fun v5 W2 h5 => ?_
  obtain ⟨rfl, q2, ws5⟩ := h5
  have x2 : GW base gw w W2 := GW.trans x1 q2
  refine Qaf ?_
  refine hK4 _ _ ?_
  refine wp_seq_k fun K6 hK6 => ?_
  refine Qae ?_
  refine Qab (.pointer (some ⟨gw, 0, none⟩)) 8 rfl kj kj ?_
  refine Qab (.pointer (some ⟨g2, 32, none⟩)) 9 rfl kj kj ?_
  have r2_2 := (GW.row q2 r2_1 (by decide) (Ne.symm (Nat.ne_of_lt (Nat.lt_of_lt_of_le hgw b2))))
  refine Qab (.int .i64 ep) 10 rfl kj (Qah 3 _ g2 32 47 _ (.int .i64 ep) _ r2_2 rfl kj (Qak [ints .u8 (grp)] [#[.int .i64 ep]] [#[.int .i64 fr], ints .u8 (bas), #[.int .i64 2], #[.bool us], #[.int .i64 nm], ints .u8 (key), ints .u8 (sg), ints .u8 (pa), #[.slice a_m ms.length c_m], ints .u8 (start), #[.int .i64 at_], ints .u8 (sig)] 32 ((Qac _ _).trans hrl) 0 _ rfl) kj) ?_
  refine Qal (fun v W' => v = .tuple #[] ∧ GW base gw W2 W' ∧ WSt base gw (numS (rawS (s) grp) ep 4) W') 105 #[.pointer (some ⟨gw, 0, none⟩), .int .i64 ep, .int .i64 4] 11 rfl kj kj ((Qbj base gw _ ep 4 _ (Nat.le_trans hbw x2.size) ws5 (by decide)).mono (by rintro e w' ⟨rfl, h1, h2⟩; exact ⟨_, rfl, rfl, h1, h2⟩)) fun v7 W3 h7 => ?_
  obtain ⟨rfl, q3, ws7⟩ := h7
  have x3 : GW base gw w W3 := GW.trans x2 q3
  refine Qaf ?_
  refine hK6 _ _ ?_
  refine wp_seq_k fun K8 hK8 => ?_
  refine Qae ?_
  refine Qab (.pointer (some ⟨gw, 0, none⟩)) 12 rfl kj kj ?_
  refine Qab (.pointer (some ⟨g2, 33, none⟩)) 13 rfl kj kj ?_
  have r2_3 := (GW.row q3 r2_2 (by decide) (Ne.symm (Nat.ne_of_lt (Nat.lt_of_lt_of_le hgw b2))))
  refine Qab (.int .i64 fr) 14 rfl kj (Qah 3 _ g2 33 47 _ (.int .i64 fr) _ r2_3 rfl kj (Qak [ints .u8 (grp), #[.int .i64 ep]] [#[.int .i64 fr]] [ints .u8 (bas), #[.int .i64 2], #[.bool us], #[.int .i64 nm], ints .u8 (key), ints .u8 (sg), ints .u8 (pa), #[.slice a_m ms.length c_m], ints .u8 (start), #[.int .i64 at_], ints .u8 (sig)] 33 (by rw [Qaa, Qaa]; simp only [Array.size_append, cat, ((Qac _ _).trans hrl)]; rfl) 0 _ rfl) kj) ?_
  refine Qal (fun v W' => v = .tuple #[] ∧ GW base gw W3 W' ∧ WSt base gw (QaI (numS (rawS (s) grp) ep 4) fr) W') 106 #[.pointer (some ⟨gw, 0, none⟩), .int .i64 fr] 15 rfl kj kj ((Qd5 base gw _ fr _ (Nat.le_trans hbw x3.size) ws7).mono (by rintro e w' ⟨rfl, h1, h2⟩; exact ⟨_, rfl, rfl, h1, h2⟩)) fun v9 W4 h9 => ?_
  obtain ⟨rfl, q4, ws9⟩ := h9
  have x4 : GW base gw w W4 := GW.trans x3 q4
  refine Qaf ?_
  refine hK8 _ _ ?_
  refine wp_seq_k fun K10 hK10 => ?_
  refine Qae ?_
  refine Qab (.pointer (some ⟨gw, 0, none⟩)) 16 rfl kj kj ?_
  refine Qab (.pointer (some ⟨g2, 34, none⟩)) 17 rfl kj kj ?_
  refine Qab (.slice (some ⟨g2, 34, none⟩) 32 32) 18 rfl kj kj ?_
  have r2_4 := (GW.row q4 r2_3 (by decide) (Ne.symm (Nat.ne_of_lt (Nat.lt_of_lt_of_le hgw b2))))
  refine Qal (fun v W' => v = .tuple #[] ∧ GW base gw W4 W' ∧ WSt base gw (rawS (QaI (numS (rawS (s) grp) ep 4) fr) bas) W') 104 #[.pointer (some ⟨gw, 0, none⟩), .slice (some ⟨g2, 34, none⟩) 32 32] 19 rfl kj kj ((rawW base gw _ bas _ _ (Nat.le_trans hbw x4.size) ws9 (by omega) hab (fun W e => (QaC 34 hal (ExtB.row e r2_4 (Ne.symm (Nat.ne_of_lt (Nat.lt_of_lt_of_le hgw b2)))) (fun i hi => Qa8 [ints .u8 (grp), #[.int .i64 ep], #[.int .i64 fr]] [#[.int .i64 2], #[.bool us], #[.int .i64 nm], ints .u8 (key), ints .u8 (sg), ints .u8 (pa), #[.slice a_m ms.length c_m], ints .u8 (start), #[.int .i64 at_], ints .u8 (sig)] bas 34 i (34 + i) (by rw [Qaa, Qaa, Qaa]; simp only [Array.size_append, cat, ((Qac _ _).trans hrl)]; rfl) rfl (by rw [hal]; exact hi)) (Qay (ExtB.row e r2_4 (Ne.symm (Nat.ne_of_lt (Nat.lt_of_lt_of_le hgw b2))))) (Nat.le_refl _) (by decide)))).mono (by rintro e w' ⟨rfl, h1, h2⟩; exact ⟨_, rfl, rfl, h1, h2⟩)) fun v11 W5 h11 => ?_
  obtain ⟨rfl, q5, ws11⟩ := h11
  have x5 : GW base gw w W5 := GW.trans x4 q5
  refine Qaf ?_
  refine hK10 _ _ ?_
  refine wp_seq_k fun K12 hK12 => ?_
  refine Qae ?_
  refine Qab (.pointer (some ⟨gw, 0, none⟩)) 20 rfl kj kj ?_
  refine Qab (.pointer (some ⟨g2, 66, none⟩)) 21 rfl kj kj ?_
  have r2_5 := (GW.row q5 r2_4 (by decide) (Ne.symm (Nat.ne_of_lt (Nat.lt_of_lt_of_le hgw b2))))
  refine Qab (.int .i64 2) 22 rfl kj (Qah 3 _ g2 66 47 _ (.int .i64 2) _ r2_5 rfl kj (Qak [ints .u8 (grp), #[.int .i64 ep], #[.int .i64 fr], ints .u8 (bas)] [#[.int .i64 2]] [#[.bool us], #[.int .i64 nm], ints .u8 (key), ints .u8 (sg), ints .u8 (pa), #[.slice a_m ms.length c_m], ints .u8 (start), #[.int .i64 at_], ints .u8 (sig)] 66 (by rw [Qaa, Qaa, Qaa, Qaa]; simp only [Array.size_append, cat, ((Qac _ _).trans hal), ((Qac _ _).trans hrl)]; rfl) 0 _ rfl) kj) ?_
  refine Qab (.bool true) 23 rfl kj kj ?_
  refine Qab (.bool true) 24 rfl kj kj ?_
  refine Qab (.pointer (some ⟨g2, 66, none⟩)) 25 rfl kj kj ?_
  refine Qab (.int .i64 2) 26 rfl kj (Qah 3 _ g2 66 47 _ (.int .i64 2) _ r2_5 rfl kj (Qak [ints .u8 (grp), #[.int .i64 ep], #[.int .i64 fr], ints .u8 (bas)] [#[.int .i64 2]] [#[.bool us], #[.int .i64 nm], ints .u8 (key), ints .u8 (sg), ints .u8 (pa), #[.slice a_m ms.length c_m], ints .u8 (start), #[.int .i64 at_], ints .u8 (sig)] 66 (by rw [Qaa, Qaa, Qaa, Qaa]; simp only [Array.size_append, cat, ((Qac _ _).trans hal), ((Qac _ _).trans hrl)]; rfl) 0 _ rfl) kj) ?_
  refine Qab (.bool true) 27 rfl kj kj ?_
  refine Qab (.bool true) 28 rfl kj kj ?_
  refine Qal (fun v W' => v = .tuple #[] ∧ GW base gw W5 W' ∧ WSt base gw (Qa0 (rawS (QaI (numS (rawS (s) grp) ep 4) fr) bas) true) W') 98 #[.pointer (some ⟨gw, 0, none⟩), .bool true] 29 rfl kj kj ((QbF base gw _ true _ ws11).mono (by rintro e w' ⟨rfl, h1, h2⟩; exact ⟨_, rfl, rfl, h1, h2⟩)) fun v13 W6 h13 => ?_
  obtain ⟨rfl, q6, ws13⟩ := h13
  have x6 : GW base gw w W6 := GW.trans x5 q6
  refine Qaf ?_
  refine hK12 _ _ ?_
  refine wp_seq_k fun K14 hK14 => ?_
  refine Qae ?_
  refine Qab (.pointer (some ⟨gw, 0, none⟩)) 30 rfl kj kj ?_
  refine Qab (.pointer (some ⟨g2, 66, none⟩)) 31 rfl kj kj ?_
  have r2_6 := (GW.row q6 r2_5 (by decide) (Ne.symm (Nat.ne_of_lt (Nat.lt_of_lt_of_le hgw b2))))
  refine Qab (.int .i64 2) 32 rfl kj (Qah 3 _ g2 66 47 _ (.int .i64 2) _ r2_6 rfl kj (Qak [ints .u8 (grp), #[.int .i64 ep], #[.int .i64 fr], ints .u8 (bas)] [#[.int .i64 2]] [#[.bool us], #[.int .i64 nm], ints .u8 (key), ints .u8 (sg), ints .u8 (pa), #[.slice a_m ms.length c_m], ints .u8 (start), #[.int .i64 at_], ints .u8 (sig)] 66 (by rw [Qaa, Qaa, Qaa, Qaa]; simp only [Array.size_append, cat, ((Qac _ _).trans hal), ((Qac _ _).trans hrl)]; rfl) 0 _ rfl) kj) ?_
  refine Qal (fun v W' => v = .tuple #[] ∧ GW base gw W6 W' ∧ WSt base gw (numS (Qa0 (rawS (QaI (numS (rawS (s) grp) ep 4) fr) bas) true) 2 1) W') 105 #[.pointer (some ⟨gw, 0, none⟩), .int .i64 2, .int .i64 1] 33 rfl kj kj ((Qbj base gw _ 2 1 _ (Nat.le_trans hbw x6.size) ws13 (by decide)).mono (by rintro e w' ⟨rfl, h1, h2⟩; exact ⟨_, rfl, rfl, h1, h2⟩)) fun v15 W7 h15 => ?_
  obtain ⟨rfl, q7, ws15⟩ := h15
  have x7 : GW base gw w W7 := GW.trans x6 q7
  refine Qaf ?_
  refine hK14 _ _ ?_
  refine wp_seq_k fun K16 hK16 => ?_
  refine wp_seq_k fun K17 hK17 => ?_
  refine Qae ?_
  refine Qab (.pointer (some ⟨g2, 66, none⟩)) 34 rfl kj kj ?_
  have r2_7 := (GW.row q7 r2_6 (by decide) (Ne.symm (Nat.ne_of_lt (Nat.lt_of_lt_of_le hgw b2))))
  refine Qab (.int .i64 2) 35 rfl kj (Qah 3 _ g2 66 47 _ (.int .i64 2) _ r2_7 rfl kj (Qak [ints .u8 (grp), #[.int .i64 ep], #[.int .i64 fr], ints .u8 (bas)] [#[.int .i64 2]] [#[.bool us], #[.int .i64 nm], ints .u8 (key), ints .u8 (sg), ints .u8 (pa), #[.slice a_m ms.length c_m], ints .u8 (start), #[.int .i64 at_], ints .u8 (sig)] 66 (by rw [Qaa, Qaa, Qaa, Qaa]; simp only [Array.size_append, cat, ((Qac _ _).trans hal), ((Qac _ _).trans hrl)]; rfl) 0 _ rfl) kj) ?_
  refine Qab (.bool false) 36 rfl kj kj ?_
  refine Qab (.bool false) 37 rfl kj kj ?_
  refine Qab (.pointer (some ⟨g2, 66, none⟩)) 38 rfl kj kj ?_
  refine Qab (.int .i64 2) 39 rfl kj (Qah 3 _ g2 66 47 _ (.int .i64 2) _ r2_7 rfl kj (Qak [ints .u8 (grp), #[.int .i64 ep], #[.int .i64 fr], ints .u8 (bas)] [#[.int .i64 2]] [#[.bool us], #[.int .i64 nm], ints .u8 (key), ints .u8 (sg), ints .u8 (pa), #[.slice a_m ms.length c_m], ints .u8 (start), #[.int .i64 at_], ints .u8 (sig)] 66 (by rw [Qaa, Qaa, Qaa, Qaa]; simp only [Array.size_append, cat, ((Qac _ _).trans hal), ((Qac _ _).trans hrl)]; rfl) 0 _ rfl) kj) ?_
  refine Qab (.bool true) 40 rfl kj kj ?_
  refine Qab (.bool true) 41 rfl kj kj ?_
  refine Qaf ?_
  refine hK17 _ _ ?_
  refine cond_true kj ?_
  refine Qae ?_
  refine Qab (.pointer (some ⟨gw, 0, none⟩)) 42 rfl kj kj ?_
  refine Qab (.pointer (some ⟨g2, 67, none⟩)) 43 rfl kj kj ?_
  refine Qab (.agg (cat [#[.bool us], #[.int .i64 nm], ints .u8 (key), ints .u8 (sg), ints .u8 (pa), #[.slice a_m ms.length c_m]])) 44 rfl kj (Qau 43 _ g2 67 47 _ _ _ r2_7 rfl kj (Qak [ints .u8 (grp), #[.int .i64 ep], #[.int .i64 fr], ints .u8 (bas), #[.int .i64 2]] [#[.bool us], #[.int .i64 nm], ints .u8 (key), ints .u8 (sg), ints .u8 (pa), #[.slice a_m ms.length c_m]] [ints .u8 (start), #[.int .i64 at_], ints .u8 (sig)] 67 (by rw [Qaa, Qaa, Qaa, Qaa, Qaa]; simp only [Array.size_append, cat, ((Qac _ _).trans hal), ((Qac _ _).trans hrl)]; rfl)) kj (isz (n := 99) kj (by rw [Qaa, Qaa, Qaa, Qaa, Qaa, Qaa]; simp only [Array.size_append, cat, ((Qac _ _).trans hgl), ((Qac _ _).trans hkl), ((Qac _ _).trans hpl)]; rfl))) ?_
  refine Qal (fun v W' => v = .tuple #[] ∧ GW base gw W7 W' ∧ WSt base gw (QbX (numS (Qa0 (rawS (QaI (numS (rawS (s) grp) ep 4) fr) bas) true) 2 1) us nm key sg pa ms) W') 95 #[.pointer (some ⟨gw, 0, none⟩), .agg (cat [#[.bool us], #[.int .i64 nm], ints .u8 (key), ints .u8 (sg), ints .u8 (pa), #[.slice a_m ms.length c_m]])] 45 rfl kj kj ((Qgz base gw _ us nm key sg pa ms _ _ _ (Nat.le_trans hbw x7.size) hbg ws15 hkl hgl hpl hkb hgb hpb hml (Qc9 hm x7 hbg)).mono (by rintro e w' ⟨rfl, h1, h2⟩; exact ⟨_, rfl, rfl, h1, h2⟩)) fun v18 W8 h18 => ?_
  obtain ⟨rfl, q8, ws18⟩ := h18
  have x8 : GW base gw w W8 := GW.trans x7 q8
  refine Qaf ?_
  refine hK16 _ _ ?_
  refine wp_seq_k fun K19 hK19 => ?_
  refine wp_seq_k fun K20 hK20 => ?_
  refine Qae ?_
  refine Qab (.pointer (some ⟨g2, 66, none⟩)) 51 rfl kj kj ?_
  have r2_8 := (GW.row q8 r2_7 (by decide) (Ne.symm (Nat.ne_of_lt (Nat.lt_of_lt_of_le hgw b2))))
  refine Qab (.int .i64 2) 52 rfl kj (Qah 3 _ g2 66 47 _ (.int .i64 2) _ r2_8 rfl kj (Qak [ints .u8 (grp), #[.int .i64 ep], #[.int .i64 fr], ints .u8 (bas)] [#[.int .i64 2]] [#[.bool us], #[.int .i64 nm], ints .u8 (key), ints .u8 (sg), ints .u8 (pa), #[.slice a_m ms.length c_m], ints .u8 (start), #[.int .i64 at_], ints .u8 (sig)] 66 (by rw [Qaa, Qaa, Qaa, Qaa]; simp only [Array.size_append, cat, ((Qac _ _).trans hal), ((Qac _ _).trans hrl)]; rfl) 0 _ rfl) kj) ?_
  refine Qab (.bool false) 53 rfl kj kj ?_
  refine Qaf ?_
  refine hK20 _ _ ?_
  refine cond_false kj ?_
  refine Qae ?_
  refine Qab (.pointer (some ⟨gw, 0, none⟩)) 58 rfl kj kj ?_
  refine Qab (.pointer (some ⟨g2, 166, none⟩)) 59 rfl kj kj ?_
  refine Qab (.agg (ints .u8 (start))) 60 rfl kj (Qau 40 _ g2 166 47 _ _ _ r2_8 rfl kj (Qak [ints .u8 (grp), #[.int .i64 ep], #[.int .i64 fr], ints .u8 (bas), #[.int .i64 2], #[.bool us], #[.int .i64 nm], ints .u8 (key), ints .u8 (sg), ints .u8 (pa), #[.slice a_m ms.length c_m]] [ints .u8 (start)] [#[.int .i64 at_], ints .u8 (sig)] 166 (by rw [Qaa, Qaa, Qaa, Qaa, Qaa, Qaa, Qaa, Qaa, Qaa, Qaa, Qaa]; simp only [Array.size_append, cat, ((Qac _ _).trans hal), ((Qac _ _).trans hgl), ((Qac _ _).trans hkl), ((Qac _ _).trans hpl), ((Qac _ _).trans hrl)]; rfl)) kj (isz (n := 32) kj ((Qac _ _).trans htl))) ?_
  refine Qab (.agg (ints .u8 (List.replicate 32 0))) 61 rfl kj kj ?_
  refine Qab (.bool (decide (start = List.replicate 32 0))) 62 rfl kj (Qa1 40 _ _ _ _ _ (.bool (decide (start = List.replicate 32 0))) rfl kj kj kj (Qa6 40 (e := 5) (k := .u8) (start) (List.replicate 32 0) rfl htl (List.length_replicate (n := 32)) kj kj kj _)) ?_
  refine Qal (fun v W' => v = .tuple #[] ∧ GW base gw W8 W' ∧ WSt base gw (Qa0 (QbX (numS (Qa0 (rawS (QaI (numS (rawS (s) grp) ep 4) fr) bas) true) 2 1) us nm key sg pa ms) (decide (start = List.replicate 32 0))) W') 98 #[.pointer (some ⟨gw, 0, none⟩), .bool (decide (start = List.replicate 32 0))] 63 rfl kj kj ((QbF base gw _ (decide (start = List.replicate 32 0)) _ ws18).mono (by rintro e w' ⟨rfl, h1, h2⟩; exact ⟨_, rfl, rfl, h1, h2⟩)) fun v21 W9 h21 => ?_
  obtain ⟨rfl, q9, ws21⟩ := h21
  have x9 : GW base gw w W9 := GW.trans x8 q9
  refine Qaf ?_
  refine hK19 _ _ ?_
  refine wp_seq_k fun K22 hK22 => ?_
  refine wp_seq_k fun K23 hK23 => ?_
  refine Qae ?_
  refine Qab (.pointer (some ⟨g2, 66, none⟩)) 64 rfl kj kj ?_
  have r2_9 := (GW.row q9 r2_8 (by decide) (Ne.symm (Nat.ne_of_lt (Nat.lt_of_lt_of_le hgw b2))))
  refine Qab (.int .i64 2) 65 rfl kj (Qah 3 _ g2 66 47 _ (.int .i64 2) _ r2_9 rfl kj (Qak [ints .u8 (grp), #[.int .i64 ep], #[.int .i64 fr], ints .u8 (bas)] [#[.int .i64 2]] [#[.bool us], #[.int .i64 nm], ints .u8 (key), ints .u8 (sg), ints .u8 (pa), #[.slice a_m ms.length c_m], ints .u8 (start), #[.int .i64 at_], ints .u8 (sig)] 66 (by rw [Qaa, Qaa, Qaa, Qaa]; simp only [Array.size_append, cat, ((Qac _ _).trans hal), ((Qac _ _).trans hrl)]; rfl) 0 _ rfl) kj) ?_
  refine Qab (.bool false) 66 rfl kj kj ?_
  refine Qaf ?_
  refine hK23 _ _ ?_
  refine cond_false kj ?_
  refine Qae ?_
  refine Qab (.pointer (some ⟨gw, 0, none⟩)) 71 rfl kj kj ?_
  refine Qab (.pointer (some ⟨g2, 198, none⟩)) 72 rfl kj kj ?_
  refine Qab (.int .i64 at_) 73 rfl kj (Qah 3 _ g2 198 47 _ (.int .i64 at_) _ r2_9 rfl kj (Qak [ints .u8 (grp), #[.int .i64 ep], #[.int .i64 fr], ints .u8 (bas), #[.int .i64 2], #[.bool us], #[.int .i64 nm], ints .u8 (key), ints .u8 (sg), ints .u8 (pa), #[.slice a_m ms.length c_m], ints .u8 (start)] [#[.int .i64 at_]] [ints .u8 (sig)] 198 (by rw [Qaa, Qaa, Qaa, Qaa, Qaa, Qaa, Qaa, Qaa, Qaa, Qaa, Qaa, Qaa]; simp only [Array.size_append, cat, ((Qac _ _).trans hal), ((Qac _ _).trans hgl), ((Qac _ _).trans hkl), ((Qac _ _).trans hpl), ((Qac _ _).trans hrl), ((Qac _ _).trans htl)]; rfl) 0 _ rfl) kj) ?_
  refine Qab (.bool ((at_ == 0))) 74 rfl kj kj ?_
  refine Qal (fun v W' => v = .tuple #[] ∧ GW base gw W9 W' ∧ WSt base gw (Qa0 (Qa0 (QbX (numS (Qa0 (rawS (QaI (numS (rawS (s) grp) ep 4) fr) bas) true) 2 1) us nm key sg pa ms) (decide (start = List.replicate 32 0))) ((at_ == 0))) W') 98 #[.pointer (some ⟨gw, 0, none⟩), .bool ((at_ == 0))] 75 rfl kj kj ((QbF base gw _ ((at_ == 0)) _ ws21).mono (by rintro e w' ⟨rfl, h1, h2⟩; exact ⟨_, rfl, rfl, h1, h2⟩)) fun v24 W10 h24 => ?_
  obtain ⟨rfl, q10, ws24⟩ := h24
  have x10 : GW base gw w W10 := GW.trans x9 q10
  refine Qaf ?_
  refine hK22 _ _ ?_
  refine Qae ?_
  refine Qab (.pointer (some ⟨gw, 0, none⟩)) 76 rfl kj kj ?_
  refine Qab (.pointer (some ⟨g2, 199, none⟩)) 77 rfl kj kj ?_
  refine Qab (.slice (some ⟨g2, 199, none⟩) 64 64) 78 rfl kj kj ?_
  have r2_10 := (GW.row q10 r2_9 (by decide) (Ne.symm (Nat.ne_of_lt (Nat.lt_of_lt_of_le hgw b2))))
  refine Qal (fun v W' => v = .tuple #[] ∧ GW base gw W10 W' ∧ WSt base gw (rawS (Qa0 (Qa0 (QbX (numS (Qa0 (rawS (QaI (numS (rawS (s) grp) ep 4) fr) bas) true) 2 1) us nm key sg pa ms) (decide (start = List.replicate 32 0))) ((at_ == 0))) sig) W') 104 #[.pointer (some ⟨gw, 0, none⟩), .slice (some ⟨g2, 199, none⟩) 64 64] 79 rfl kj kj ((rawW base gw _ sig _ _ (Nat.le_trans hbw x10.size) ws24 (by omega) hib (fun W e => (QaC 199 hil (ExtB.row e r2_10 (Ne.symm (Nat.ne_of_lt (Nat.lt_of_lt_of_le hgw b2)))) (fun i hi => Qa8 [ints .u8 (grp), #[.int .i64 ep], #[.int .i64 fr], ints .u8 (bas), #[.int .i64 2], #[.bool us], #[.int .i64 nm], ints .u8 (key), ints .u8 (sg), ints .u8 (pa), #[.slice a_m ms.length c_m], ints .u8 (start), #[.int .i64 at_]] [] sig 199 i (199 + i) (by rw [Qaa, Qaa, Qaa, Qaa, Qaa, Qaa, Qaa, Qaa, Qaa, Qaa, Qaa, Qaa, Qaa]; simp only [Array.size_append, cat, ((Qac _ _).trans hal), ((Qac _ _).trans hgl), ((Qac _ _).trans hkl), ((Qac _ _).trans hpl), ((Qac _ _).trans hrl), ((Qac _ _).trans htl)]; rfl) rfl (by rw [hil]; exact hi)) (Qay (ExtB.row e r2_10 (Ne.symm (Nat.ne_of_lt (Nat.lt_of_lt_of_le hgw b2))))) (Nat.le_refl _) (by decide)))).mono (by rintro e w' ⟨rfl, h1, h2⟩; exact ⟨_, rfl, rfl, h1, h2⟩)) fun v25 W11 h25 => ?_
  obtain ⟨rfl, q11, ws25⟩ := h25
  have x11 : GW base gw w W11 := GW.trans x10 q11
  refine Qaf ?_
  repeat (first | with_reducible refine goX1 ?_ | with_reducible refine goX2 ?_ | with_reducible refine goX3 ?_)
  exact (show bodyPost _ _ _ .normal _ _ from end0 rfl ⟨rfl, x11, ws25⟩)
set_option maxHeartbeats 4000000 in
theorem QfL (base gw : Nat) (s : Option (List Int)) (grp : List Int) (ep fr : Int) (bas : List Int) (us : Bool) (nm : Int) (key sg pa ms start : List Int) (at_ : Int) (sig : List Int) (a_m : Option Addr) (c_m : Nat) (w : World) (hbw : base ≤ w.heap.size) (hbg : base ≤ gw) (h : WSt base gw s w) (hrl : grp.length = 32) (hrb : Qag grp) (hal : bas.length = 32) (hab : Qag bas) (hkl : key.length = 32) (hgl : sg.length = 32) (hpl : pa.length = 32) (hkb : Qag key) (hgb : Qag sg) (hpb : Qag pa) (hml : ms.length ≤ 1000000) (htl : start.length = 32) (htb : Qag start) (hil : sig.length = 64) (hib : Qag sig) (hm : RdK .i64 base ms (.slice a_m ms.length c_m) w) : Calls Try.prog 57 #[.pointer (some ⟨gw, 0, none⟩), .agg (cat [ints .u8 (grp), #[.int .i64 ep], #[.int .i64 fr], ints .u8 (bas), #[.int .i64 3], #[.bool us], #[.int .i64 nm], ints .u8 (key), ints .u8 (sg), ints .u8 (pa), #[.slice a_m ms.length c_m], ints .u8 (start), #[.int .i64 at_], ints .u8 (sig)])] w (fun e W => e = .returned (.tuple #[]) ∧ GW base gw w W ∧ WSt base gw (rawS (QaI (Qa0 (Qa0 (numS (Qa0 (rawS (QaI (numS (rawS (s) grp) ep 4) fr) bas) true) 3 1) (Qa7 us nm key sg pa ms)) (decide (start = List.replicate 32 0))) at_) sig) W) := by
  have hgw := h.lt
  refine enter 80 [(0, .pointer (some ⟨gw, 0, none⟩)), (1, .agg (cat [ints .u8 (grp), #[.int .i64 ep], #[.int .i64 fr], ints .u8 (bas), #[.int .i64 3], #[.bool us], #[.int .i64 nm], ints .u8 (key), ints .u8 (sg), ints .u8 (pa), #[.slice a_m ms.length c_m], ints .u8 (start), #[.int .i64 at_], ints .u8 (sig)]))] Try.func57 rfl rfl kj rfl ?_
  refine wp_seq_k fun K1 hK1 => ?_
  refine Qae ?_
  refine Qav (cat [ints .u8 (grp), #[.int .i64 ep], #[.int .i64 fr], ints .u8 (bas), #[.int .i64 3], #[.bool us], #[.int .i64 nm], ints .u8 (key), ints .u8 (sg), ints .u8 (pa), #[.slice a_m ms.length c_m], ints .u8 (start), #[.int .i64 at_], ints .u8 (sig)]) 47 3 rfl kj kj fun g2 W1 l2 e1 r2_1 => ?_
  have x1 : GW base gw w W1 := GW.ext (GW.refl base gw w) e1
  have ws3 := WSt.ext h e1
  have b2 : w.heap.size ≤ g2 := Nat.le_trans (GW.refl base gw w).size l2
  refine Qaf ?_
  refine hK1 _ _ ?_
  refine wp_seq_k fun K4 hK4 => ?_
  refine Qae ?_
  refine Qab (.pointer (some ⟨gw, 0, none⟩)) 4 rfl kj kj ?_
  refine Qab (.pointer (some ⟨g2, 0, none⟩)) 5 rfl kj kj ?_
  refine Qab (.slice (some ⟨g2, 0, none⟩) 32 32) 6 rfl kj kj ?_
  refine Qal (fun v W' => v = .tuple #[] ∧ GW base gw W1 W' ∧ WSt base gw (rawS (s) grp) W') 104 #[.pointer (some ⟨gw, 0, none⟩), .slice (some ⟨g2, 0, none⟩) 32 32] 7 rfl kj kj ((rawW base gw _ grp _ _ (Nat.le_trans hbw x1.size) ws3 (by omega) hrb (fun W e => (QaC 0 hrl (ExtB.row e r2_1 (Ne.symm (Nat.ne_of_lt (Nat.lt_of_lt_of_le hgw b2)))) (fun i hi => Qa8 [] [#[.int .i64 ep], #[.int .i64 fr], ints .u8 (bas), #[.int .i64 3], #[.bool us], #[.int .i64 nm], ints .u8 (key), ints .u8 (sg), ints .u8 (pa), #[.slice a_m ms.length c_m], ints .u8 (start), #[.int .i64 at_], ints .u8 (sig)] grp 0 i (0 + i) kj rfl (by rw [hrl]; exact hi)) (Qay (ExtB.row e r2_1 (Ne.symm (Nat.ne_of_lt (Nat.lt_of_lt_of_le hgw b2))))) (Nat.le_refl _) (by decide)))).mono (by rintro e w' ⟨rfl, h1, h2⟩; exact ⟨_, rfl, rfl, h1, h2⟩)) fun v5 W2 h5 => ?_
  obtain ⟨rfl, q2, ws5⟩ := h5
  have x2 : GW base gw w W2 := GW.trans x1 q2
  refine Qaf ?_
  refine hK4 _ _ ?_
  refine wp_seq_k fun K6 hK6 => ?_
  refine Qae ?_
  refine Qab (.pointer (some ⟨gw, 0, none⟩)) 8 rfl kj kj ?_
  refine Qab (.pointer (some ⟨g2, 32, none⟩)) 9 rfl kj kj ?_
  have r2_2 := (GW.row q2 r2_1 (by decide) (Ne.symm (Nat.ne_of_lt (Nat.lt_of_lt_of_le hgw b2))))
  refine Qab (.int .i64 ep) 10 rfl kj (Qah 3 _ g2 32 47 _ (.int .i64 ep) _ r2_2 rfl kj (Qak [ints .u8 (grp)] [#[.int .i64 ep]] [#[.int .i64 fr], ints .u8 (bas), #[.int .i64 3], #[.bool us], #[.int .i64 nm], ints .u8 (key), ints .u8 (sg), ints .u8 (pa), #[.slice a_m ms.length c_m], ints .u8 (start), #[.int .i64 at_], ints .u8 (sig)] 32 ((Qac _ _).trans hrl) 0 _ rfl) kj) ?_
  refine Qal (fun v W' => v = .tuple #[] ∧ GW base gw W2 W' ∧ WSt base gw (numS (rawS (s) grp) ep 4) W') 105 #[.pointer (some ⟨gw, 0, none⟩), .int .i64 ep, .int .i64 4] 11 rfl kj kj ((Qbj base gw _ ep 4 _ (Nat.le_trans hbw x2.size) ws5 (by decide)).mono (by rintro e w' ⟨rfl, h1, h2⟩; exact ⟨_, rfl, rfl, h1, h2⟩)) fun v7 W3 h7 => ?_
  obtain ⟨rfl, q3, ws7⟩ := h7
  have x3 : GW base gw w W3 := GW.trans x2 q3
  refine Qaf ?_
  refine hK6 _ _ ?_
  refine wp_seq_k fun K8 hK8 => ?_
  refine Qae ?_
  refine Qab (.pointer (some ⟨gw, 0, none⟩)) 12 rfl kj kj ?_
  refine Qab (.pointer (some ⟨g2, 33, none⟩)) 13 rfl kj kj ?_
  have r2_3 := (GW.row q3 r2_2 (by decide) (Ne.symm (Nat.ne_of_lt (Nat.lt_of_lt_of_le hgw b2))))
  refine Qab (.int .i64 fr) 14 rfl kj (Qah 3 _ g2 33 47 _ (.int .i64 fr) _ r2_3 rfl kj (Qak [ints .u8 (grp), #[.int .i64 ep]] [#[.int .i64 fr]] [ints .u8 (bas), #[.int .i64 3], #[.bool us], #[.int .i64 nm], ints .u8 (key), ints .u8 (sg), ints .u8 (pa), #[.slice a_m ms.length c_m], ints .u8 (start), #[.int .i64 at_], ints .u8 (sig)] 33 (by rw [Qaa, Qaa]; simp only [Array.size_append, cat, ((Qac _ _).trans hrl)]; rfl) 0 _ rfl) kj) ?_
  refine Qal (fun v W' => v = .tuple #[] ∧ GW base gw W3 W' ∧ WSt base gw (QaI (numS (rawS (s) grp) ep 4) fr) W') 106 #[.pointer (some ⟨gw, 0, none⟩), .int .i64 fr] 15 rfl kj kj ((Qd5 base gw _ fr _ (Nat.le_trans hbw x3.size) ws7).mono (by rintro e w' ⟨rfl, h1, h2⟩; exact ⟨_, rfl, rfl, h1, h2⟩)) fun v9 W4 h9 => ?_
  obtain ⟨rfl, q4, ws9⟩ := h9
  have x4 : GW base gw w W4 := GW.trans x3 q4
  refine Qaf ?_
  refine hK8 _ _ ?_
  refine wp_seq_k fun K10 hK10 => ?_
  refine Qae ?_
  refine Qab (.pointer (some ⟨gw, 0, none⟩)) 16 rfl kj kj ?_
  refine Qab (.pointer (some ⟨g2, 34, none⟩)) 17 rfl kj kj ?_
  refine Qab (.slice (some ⟨g2, 34, none⟩) 32 32) 18 rfl kj kj ?_
  have r2_4 := (GW.row q4 r2_3 (by decide) (Ne.symm (Nat.ne_of_lt (Nat.lt_of_lt_of_le hgw b2))))
  refine Qal (fun v W' => v = .tuple #[] ∧ GW base gw W4 W' ∧ WSt base gw (rawS (QaI (numS (rawS (s) grp) ep 4) fr) bas) W') 104 #[.pointer (some ⟨gw, 0, none⟩), .slice (some ⟨g2, 34, none⟩) 32 32] 19 rfl kj kj ((rawW base gw _ bas _ _ (Nat.le_trans hbw x4.size) ws9 (by omega) hab (fun W e => (QaC 34 hal (ExtB.row e r2_4 (Ne.symm (Nat.ne_of_lt (Nat.lt_of_lt_of_le hgw b2)))) (fun i hi => Qa8 [ints .u8 (grp), #[.int .i64 ep], #[.int .i64 fr]] [#[.int .i64 3], #[.bool us], #[.int .i64 nm], ints .u8 (key), ints .u8 (sg), ints .u8 (pa), #[.slice a_m ms.length c_m], ints .u8 (start), #[.int .i64 at_], ints .u8 (sig)] bas 34 i (34 + i) (by rw [Qaa, Qaa, Qaa]; simp only [Array.size_append, cat, ((Qac _ _).trans hrl)]; rfl) rfl (by rw [hal]; exact hi)) (Qay (ExtB.row e r2_4 (Ne.symm (Nat.ne_of_lt (Nat.lt_of_lt_of_le hgw b2))))) (Nat.le_refl _) (by decide)))).mono (by rintro e w' ⟨rfl, h1, h2⟩; exact ⟨_, rfl, rfl, h1, h2⟩)) fun v11 W5 h11 => ?_
  obtain ⟨rfl, q5, ws11⟩ := h11
  have x5 : GW base gw w W5 := GW.trans x4 q5
  refine Qaf ?_
  refine hK10 _ _ ?_
  refine wp_seq_k fun K12 hK12 => ?_
  refine Qae ?_
  refine Qab (.pointer (some ⟨gw, 0, none⟩)) 20 rfl kj kj ?_
  refine Qab (.pointer (some ⟨g2, 66, none⟩)) 21 rfl kj kj ?_
  have r2_5 := (GW.row q5 r2_4 (by decide) (Ne.symm (Nat.ne_of_lt (Nat.lt_of_lt_of_le hgw b2))))
  refine Qab (.int .i64 3) 22 rfl kj (Qah 3 _ g2 66 47 _ (.int .i64 3) _ r2_5 rfl kj (Qak [ints .u8 (grp), #[.int .i64 ep], #[.int .i64 fr], ints .u8 (bas)] [#[.int .i64 3]] [#[.bool us], #[.int .i64 nm], ints .u8 (key), ints .u8 (sg), ints .u8 (pa), #[.slice a_m ms.length c_m], ints .u8 (start), #[.int .i64 at_], ints .u8 (sig)] 66 (by rw [Qaa, Qaa, Qaa, Qaa]; simp only [Array.size_append, cat, ((Qac _ _).trans hal), ((Qac _ _).trans hrl)]; rfl) 0 _ rfl) kj) ?_
  refine Qab (.bool true) 23 rfl kj kj ?_
  refine Qab (.bool true) 24 rfl kj kj ?_
  refine Qab (.pointer (some ⟨g2, 66, none⟩)) 25 rfl kj kj ?_
  refine Qab (.int .i64 3) 26 rfl kj (Qah 3 _ g2 66 47 _ (.int .i64 3) _ r2_5 rfl kj (Qak [ints .u8 (grp), #[.int .i64 ep], #[.int .i64 fr], ints .u8 (bas)] [#[.int .i64 3]] [#[.bool us], #[.int .i64 nm], ints .u8 (key), ints .u8 (sg), ints .u8 (pa), #[.slice a_m ms.length c_m], ints .u8 (start), #[.int .i64 at_], ints .u8 (sig)] 66 (by rw [Qaa, Qaa, Qaa, Qaa]; simp only [Array.size_append, cat, ((Qac _ _).trans hal), ((Qac _ _).trans hrl)]; rfl) 0 _ rfl) kj) ?_
  refine Qab (.bool true) 27 rfl kj kj ?_
  refine Qab (.bool true) 28 rfl kj kj ?_
  refine Qal (fun v W' => v = .tuple #[] ∧ GW base gw W5 W' ∧ WSt base gw (Qa0 (rawS (QaI (numS (rawS (s) grp) ep 4) fr) bas) true) W') 98 #[.pointer (some ⟨gw, 0, none⟩), .bool true] 29 rfl kj kj ((QbF base gw _ true _ ws11).mono (by rintro e w' ⟨rfl, h1, h2⟩; exact ⟨_, rfl, rfl, h1, h2⟩)) fun v13 W6 h13 => ?_
  obtain ⟨rfl, q6, ws13⟩ := h13
  have x6 : GW base gw w W6 := GW.trans x5 q6
  refine Qaf ?_
  refine hK12 _ _ ?_
  refine wp_seq_k fun K14 hK14 => ?_
  refine Qae ?_
  refine Qab (.pointer (some ⟨gw, 0, none⟩)) 30 rfl kj kj ?_
  refine Qab (.pointer (some ⟨g2, 66, none⟩)) 31 rfl kj kj ?_
  have r2_6 := (GW.row q6 r2_5 (by decide) (Ne.symm (Nat.ne_of_lt (Nat.lt_of_lt_of_le hgw b2))))
  refine Qab (.int .i64 3) 32 rfl kj (Qah 3 _ g2 66 47 _ (.int .i64 3) _ r2_6 rfl kj (Qak [ints .u8 (grp), #[.int .i64 ep], #[.int .i64 fr], ints .u8 (bas)] [#[.int .i64 3]] [#[.bool us], #[.int .i64 nm], ints .u8 (key), ints .u8 (sg), ints .u8 (pa), #[.slice a_m ms.length c_m], ints .u8 (start), #[.int .i64 at_], ints .u8 (sig)] 66 (by rw [Qaa, Qaa, Qaa, Qaa]; simp only [Array.size_append, cat, ((Qac _ _).trans hal), ((Qac _ _).trans hrl)]; rfl) 0 _ rfl) kj) ?_
  refine Qal (fun v W' => v = .tuple #[] ∧ GW base gw W6 W' ∧ WSt base gw (numS (Qa0 (rawS (QaI (numS (rawS (s) grp) ep 4) fr) bas) true) 3 1) W') 105 #[.pointer (some ⟨gw, 0, none⟩), .int .i64 3, .int .i64 1] 33 rfl kj kj ((Qbj base gw _ 3 1 _ (Nat.le_trans hbw x6.size) ws13 (by decide)).mono (by rintro e w' ⟨rfl, h1, h2⟩; exact ⟨_, rfl, rfl, h1, h2⟩)) fun v15 W7 h15 => ?_
  obtain ⟨rfl, q7, ws15⟩ := h15
  have x7 : GW base gw w W7 := GW.trans x6 q7
  refine Qaf ?_
  refine hK14 _ _ ?_
  refine wp_seq_k fun K16 hK16 => ?_
  refine wp_seq_k fun K17 hK17 => ?_
  refine Qae ?_
  refine Qab (.pointer (some ⟨g2, 66, none⟩)) 34 rfl kj kj ?_
  have r2_7 := (GW.row q7 r2_6 (by decide) (Ne.symm (Nat.ne_of_lt (Nat.lt_of_lt_of_le hgw b2))))
  refine Qab (.int .i64 3) 35 rfl kj (Qah 3 _ g2 66 47 _ (.int .i64 3) _ r2_7 rfl kj (Qak [ints .u8 (grp), #[.int .i64 ep], #[.int .i64 fr], ints .u8 (bas)] [#[.int .i64 3]] [#[.bool us], #[.int .i64 nm], ints .u8 (key), ints .u8 (sg), ints .u8 (pa), #[.slice a_m ms.length c_m], ints .u8 (start), #[.int .i64 at_], ints .u8 (sig)] 66 (by rw [Qaa, Qaa, Qaa, Qaa]; simp only [Array.size_append, cat, ((Qac _ _).trans hal), ((Qac _ _).trans hrl)]; rfl) 0 _ rfl) kj) ?_
  refine Qab (.bool false) 36 rfl kj kj ?_
  refine Qab (.bool false) 37 rfl kj kj ?_
  refine Qab (.pointer (some ⟨g2, 66, none⟩)) 38 rfl kj kj ?_
  refine Qab (.int .i64 3) 39 rfl kj (Qah 3 _ g2 66 47 _ (.int .i64 3) _ r2_7 rfl kj (Qak [ints .u8 (grp), #[.int .i64 ep], #[.int .i64 fr], ints .u8 (bas)] [#[.int .i64 3]] [#[.bool us], #[.int .i64 nm], ints .u8 (key), ints .u8 (sg), ints .u8 (pa), #[.slice a_m ms.length c_m], ints .u8 (start), #[.int .i64 at_], ints .u8 (sig)] 66 (by rw [Qaa, Qaa, Qaa, Qaa]; simp only [Array.size_append, cat, ((Qac _ _).trans hal), ((Qac _ _).trans hrl)]; rfl) 0 _ rfl) kj) ?_
  refine Qab (.bool false) 40 rfl kj kj ?_
  refine Qab (.bool false) 41 rfl kj kj ?_
  refine Qaf ?_
  refine hK17 _ _ ?_
  refine cond_false kj ?_
  refine Qae ?_
  refine Qab (.pointer (some ⟨gw, 0, none⟩)) 46 rfl kj kj ?_
  refine Qab (.pointer (some ⟨g2, 67, none⟩)) 47 rfl kj kj ?_
  refine Qab (.agg (cat [#[.bool us], #[.int .i64 nm], ints .u8 (key), ints .u8 (sg), ints .u8 (pa), #[.slice a_m ms.length c_m]])) 48 rfl kj (Qau 43 _ g2 67 47 _ _ _ r2_7 rfl kj (Qak [ints .u8 (grp), #[.int .i64 ep], #[.int .i64 fr], ints .u8 (bas), #[.int .i64 3]] [#[.bool us], #[.int .i64 nm], ints .u8 (key), ints .u8 (sg), ints .u8 (pa), #[.slice a_m ms.length c_m]] [ints .u8 (start), #[.int .i64 at_], ints .u8 (sig)] 67 (by rw [Qaa, Qaa, Qaa, Qaa, Qaa]; simp only [Array.size_append, cat, ((Qac _ _).trans hal), ((Qac _ _).trans hrl)]; rfl)) kj (isz (n := 99) kj (by rw [Qaa, Qaa, Qaa, Qaa, Qaa, Qaa]; simp only [Array.size_append, cat, ((Qac _ _).trans hgl), ((Qac _ _).trans hkl), ((Qac _ _).trans hpl)]; rfl))) ?_
  refine Qa3 (.bool (Qa7 us nm key sg pa ms)) 107 #[.agg (cat [#[.bool us], #[.int .i64 nm], ints .u8 (key), ints .u8 (sg), ints .u8 (pa), #[.slice a_m ms.length c_m]])] 49 rfl kj kj (Qd9 us nm key sg pa ms _ _ _ hkl hgl hpl) fun W8 e8 => ?_
  have x8 : GW base gw w W8 := GW.ext x7 e8
  have ws18 := WSt.ext ws15 e8
  refine Qal (fun v W' => v = .tuple #[] ∧ GW base gw W8 W' ∧ WSt base gw (Qa0 (numS (Qa0 (rawS (QaI (numS (rawS (s) grp) ep 4) fr) bas) true) 3 1) (Qa7 us nm key sg pa ms)) W') 98 #[.pointer (some ⟨gw, 0, none⟩), .bool (Qa7 us nm key sg pa ms)] 50 rfl kj kj ((QbF base gw _ (Qa7 us nm key sg pa ms) _ ws18).mono (by rintro e w' ⟨rfl, h1, h2⟩; exact ⟨_, rfl, rfl, h1, h2⟩)) fun v19 W9 h19 => ?_
  obtain ⟨rfl, q9, ws19⟩ := h19
  have x9 : GW base gw w W9 := GW.trans x8 q9
  refine Qaf ?_
  refine hK16 _ _ ?_
  refine wp_seq_k fun K20 hK20 => ?_
  refine wp_seq_k fun K21 hK21 => ?_
  refine Qae ?_
  refine Qab (.pointer (some ⟨g2, 66, none⟩)) 51 rfl kj kj ?_
  have r2_8 := (Qas r2_7 e8)
  have r2_9 := (GW.row q9 r2_8 (by decide) (Ne.symm (Nat.ne_of_lt (Nat.lt_of_lt_of_le hgw b2))))
  refine Qab (.int .i64 3) 52 rfl kj (Qah 3 _ g2 66 47 _ (.int .i64 3) _ r2_9 rfl kj (Qak [ints .u8 (grp), #[.int .i64 ep], #[.int .i64 fr], ints .u8 (bas)] [#[.int .i64 3]] [#[.bool us], #[.int .i64 nm], ints .u8 (key), ints .u8 (sg), ints .u8 (pa), #[.slice a_m ms.length c_m], ints .u8 (start), #[.int .i64 at_], ints .u8 (sig)] 66 (by rw [Qaa, Qaa, Qaa, Qaa]; simp only [Array.size_append, cat, ((Qac _ _).trans hal), ((Qac _ _).trans hrl)]; rfl) 0 _ rfl) kj) ?_
  refine Qab (.bool false) 53 rfl kj kj ?_
  refine Qaf ?_
  refine hK21 _ _ ?_
  refine cond_false kj ?_
  refine Qae ?_
  refine Qab (.pointer (some ⟨gw, 0, none⟩)) 58 rfl kj kj ?_
  refine Qab (.pointer (some ⟨g2, 166, none⟩)) 59 rfl kj kj ?_
  refine Qab (.agg (ints .u8 (start))) 60 rfl kj (Qau 40 _ g2 166 47 _ _ _ r2_9 rfl kj (Qak [ints .u8 (grp), #[.int .i64 ep], #[.int .i64 fr], ints .u8 (bas), #[.int .i64 3], #[.bool us], #[.int .i64 nm], ints .u8 (key), ints .u8 (sg), ints .u8 (pa), #[.slice a_m ms.length c_m]] [ints .u8 (start)] [#[.int .i64 at_], ints .u8 (sig)] 166 (by rw [Qaa, Qaa, Qaa, Qaa, Qaa, Qaa, Qaa, Qaa, Qaa, Qaa, Qaa]; simp only [Array.size_append, cat, ((Qac _ _).trans hal), ((Qac _ _).trans hgl), ((Qac _ _).trans hkl), ((Qac _ _).trans hpl), ((Qac _ _).trans hrl)]; rfl)) kj (isz (n := 32) kj ((Qac _ _).trans htl))) ?_
  refine Qab (.agg (ints .u8 (List.replicate 32 0))) 61 rfl kj kj ?_
  refine Qab (.bool (decide (start = List.replicate 32 0))) 62 rfl kj (Qa1 40 _ _ _ _ _ (.bool (decide (start = List.replicate 32 0))) rfl kj kj kj (Qa6 40 (e := 5) (k := .u8) (start) (List.replicate 32 0) rfl htl (List.length_replicate (n := 32)) kj kj kj _)) ?_
  refine Qal (fun v W' => v = .tuple #[] ∧ GW base gw W9 W' ∧ WSt base gw (Qa0 (Qa0 (numS (Qa0 (rawS (QaI (numS (rawS (s) grp) ep 4) fr) bas) true) 3 1) (Qa7 us nm key sg pa ms)) (decide (start = List.replicate 32 0))) W') 98 #[.pointer (some ⟨gw, 0, none⟩), .bool (decide (start = List.replicate 32 0))] 63 rfl kj kj ((QbF base gw _ (decide (start = List.replicate 32 0)) _ ws19).mono (by rintro e w' ⟨rfl, h1, h2⟩; exact ⟨_, rfl, rfl, h1, h2⟩)) fun v22 W10 h22 => ?_
  obtain ⟨rfl, q10, ws22⟩ := h22
  have x10 : GW base gw w W10 := GW.trans x9 q10
  refine Qaf ?_
  refine hK20 _ _ ?_
  refine wp_seq_k fun K23 hK23 => ?_
  refine wp_seq_k fun K24 hK24 => ?_
  refine Qae ?_
  refine Qab (.pointer (some ⟨g2, 66, none⟩)) 64 rfl kj kj ?_
  have r2_10 := (GW.row q10 r2_9 (by decide) (Ne.symm (Nat.ne_of_lt (Nat.lt_of_lt_of_le hgw b2))))
  refine Qab (.int .i64 3) 65 rfl kj (Qah 3 _ g2 66 47 _ (.int .i64 3) _ r2_10 rfl kj (Qak [ints .u8 (grp), #[.int .i64 ep], #[.int .i64 fr], ints .u8 (bas)] [#[.int .i64 3]] [#[.bool us], #[.int .i64 nm], ints .u8 (key), ints .u8 (sg), ints .u8 (pa), #[.slice a_m ms.length c_m], ints .u8 (start), #[.int .i64 at_], ints .u8 (sig)] 66 (by rw [Qaa, Qaa, Qaa, Qaa]; simp only [Array.size_append, cat, ((Qac _ _).trans hal), ((Qac _ _).trans hrl)]; rfl) 0 _ rfl) kj) ?_
  refine Qab (.bool true) 66 rfl kj kj ?_
  refine Qaf ?_
  refine hK24 _ _ ?_
  refine cond_true kj ?_
  refine Qae ?_
  refine Qab (.pointer (some ⟨gw, 0, none⟩)) 67 rfl kj kj ?_
  refine Qab (.pointer (some ⟨g2, 198, none⟩)) 68 rfl kj kj ?_
  refine Qab (.int .i64 at_) 69 rfl kj (Qah 3 _ g2 198 47 _ (.int .i64 at_) _ r2_10 rfl kj (Qak [ints .u8 (grp), #[.int .i64 ep], #[.int .i64 fr], ints .u8 (bas), #[.int .i64 3], #[.bool us], #[.int .i64 nm], ints .u8 (key), ints .u8 (sg), ints .u8 (pa), #[.slice a_m ms.length c_m], ints .u8 (start)] [#[.int .i64 at_]] [ints .u8 (sig)] 198 (by rw [Qaa, Qaa, Qaa, Qaa, Qaa, Qaa, Qaa, Qaa, Qaa, Qaa, Qaa, Qaa]; simp only [Array.size_append, cat, ((Qac _ _).trans hal), ((Qac _ _).trans hgl), ((Qac _ _).trans hkl), ((Qac _ _).trans hpl), ((Qac _ _).trans hrl), ((Qac _ _).trans htl)]; rfl) 0 _ rfl) kj) ?_
  refine Qal (fun v W' => v = .tuple #[] ∧ GW base gw W10 W' ∧ WSt base gw (QaI (Qa0 (Qa0 (numS (Qa0 (rawS (QaI (numS (rawS (s) grp) ep 4) fr) bas) true) 3 1) (Qa7 us nm key sg pa ms)) (decide (start = List.replicate 32 0))) at_) W') 106 #[.pointer (some ⟨gw, 0, none⟩), .int .i64 at_] 70 rfl kj kj ((Qd5 base gw _ at_ _ (Nat.le_trans hbw x10.size) ws22).mono (by rintro e w' ⟨rfl, h1, h2⟩; exact ⟨_, rfl, rfl, h1, h2⟩)) fun v25 W11 h25 => ?_
  obtain ⟨rfl, q11, ws25⟩ := h25
  have x11 : GW base gw w W11 := GW.trans x10 q11
  refine Qaf ?_
  refine hK23 _ _ ?_
  refine Qae ?_
  refine Qab (.pointer (some ⟨gw, 0, none⟩)) 76 rfl kj kj ?_
  refine Qab (.pointer (some ⟨g2, 199, none⟩)) 77 rfl kj kj ?_
  refine Qab (.slice (some ⟨g2, 199, none⟩) 64 64) 78 rfl kj kj ?_
  have r2_11 := (GW.row q11 r2_10 (by decide) (Ne.symm (Nat.ne_of_lt (Nat.lt_of_lt_of_le hgw b2))))
  refine Qal (fun v W' => v = .tuple #[] ∧ GW base gw W11 W' ∧ WSt base gw (rawS (QaI (Qa0 (Qa0 (numS (Qa0 (rawS (QaI (numS (rawS (s) grp) ep 4) fr) bas) true) 3 1) (Qa7 us nm key sg pa ms)) (decide (start = List.replicate 32 0))) at_) sig) W') 104 #[.pointer (some ⟨gw, 0, none⟩), .slice (some ⟨g2, 199, none⟩) 64 64] 79 rfl kj kj ((rawW base gw _ sig _ _ (Nat.le_trans hbw x11.size) ws25 (by omega) hib (fun W e => (QaC 199 hil (ExtB.row e r2_11 (Ne.symm (Nat.ne_of_lt (Nat.lt_of_lt_of_le hgw b2)))) (fun i hi => Qa8 [ints .u8 (grp), #[.int .i64 ep], #[.int .i64 fr], ints .u8 (bas), #[.int .i64 3], #[.bool us], #[.int .i64 nm], ints .u8 (key), ints .u8 (sg), ints .u8 (pa), #[.slice a_m ms.length c_m], ints .u8 (start), #[.int .i64 at_]] [] sig 199 i (199 + i) (by rw [Qaa, Qaa, Qaa, Qaa, Qaa, Qaa, Qaa, Qaa, Qaa, Qaa, Qaa, Qaa, Qaa]; simp only [Array.size_append, cat, ((Qac _ _).trans hal), ((Qac _ _).trans hgl), ((Qac _ _).trans hkl), ((Qac _ _).trans hpl), ((Qac _ _).trans hrl), ((Qac _ _).trans htl)]; rfl) rfl (by rw [hil]; exact hi)) (Qay (ExtB.row e r2_11 (Ne.symm (Nat.ne_of_lt (Nat.lt_of_lt_of_le hgw b2))))) (Nat.le_refl _) (by decide)))).mono (by rintro e w' ⟨rfl, h1, h2⟩; exact ⟨_, rfl, rfl, h1, h2⟩)) fun v26 W12 h26 => ?_
  obtain ⟨rfl, q12, ws26⟩ := h26
  have x12 : GW base gw w W12 := GW.trans x11 q12
  refine Qaf ?_
  repeat (first | with_reducible refine goX1 ?_ | with_reducible refine goX2 ?_ | with_reducible refine goX3 ?_)
  exact (show bodyPost _ _ _ .normal _ _ from end0 rfl ⟨rfl, x12, ws26⟩)
set_option maxHeartbeats 4000000 in
theorem QfJ (base gw : Nat) (s : Option (List Int)) (kd : Int) (hkd : kd < 1) (grp : List Int) (ep fr : Int) (bas : List Int) (us : Bool) (nm : Int) (key sg pa ms start : List Int) (at_ : Int) (sig : List Int) (a_m : Option Addr) (c_m : Nat) (w : World) (hbw : base ≤ w.heap.size) (hbg : base ≤ gw) (h : WSt base gw s w) (hrl : grp.length = 32) (hrb : Qag grp) (hal : bas.length = 32) (hab : Qag bas) (hkl : key.length = 32) (hgl : sg.length = 32) (hpl : pa.length = 32) (hkb : Qag key) (hgb : Qag sg) (hpb : Qag pa) (hml : ms.length ≤ 1000000) (htl : start.length = 32) (htb : Qag start) (hil : sig.length = 64) (hib : Qag sig) (hm : RdK .i64 base ms (.slice a_m ms.length c_m) w) : Calls Try.prog 57 #[.pointer (some ⟨gw, 0, none⟩), .agg (cat [ints .u8 (grp), #[.int .i64 ep], #[.int .i64 fr], ints .u8 (bas), #[.int .i64 kd], #[.bool us], #[.int .i64 nm], ints .u8 (key), ints .u8 (sg), ints .u8 (pa), #[.slice a_m ms.length c_m], ints .u8 (start), #[.int .i64 at_], ints .u8 (sig)])] w (fun e W => e = .returned (.tuple #[]) ∧ GW base gw w W ∧ WSt base gw (rawS (Qa0 (Qa0 (Qa0 (numS (Qa0 (rawS (QaI (numS (rawS (s) grp) ep 4) fr) bas) false) kd 1) (Qa7 us nm key sg pa ms)) (decide (start = List.replicate 32 0))) ((at_ == 0))) sig) W) := by
  have hgw := h.lt
  refine enter 80 [(0, .pointer (some ⟨gw, 0, none⟩)), (1, .agg (cat [ints .u8 (grp), #[.int .i64 ep], #[.int .i64 fr], ints .u8 (bas), #[.int .i64 kd], #[.bool us], #[.int .i64 nm], ints .u8 (key), ints .u8 (sg), ints .u8 (pa), #[.slice a_m ms.length c_m], ints .u8 (start), #[.int .i64 at_], ints .u8 (sig)]))] Try.func57 rfl rfl kj rfl ?_
  refine wp_seq_k fun K1 hK1 => ?_
  refine Qae ?_
  refine Qav (cat [ints .u8 (grp), #[.int .i64 ep], #[.int .i64 fr], ints .u8 (bas), #[.int .i64 kd], #[.bool us], #[.int .i64 nm], ints .u8 (key), ints .u8 (sg), ints .u8 (pa), #[.slice a_m ms.length c_m], ints .u8 (start), #[.int .i64 at_], ints .u8 (sig)]) 47 3 rfl kj kj fun g2 W1 l2 e1 r2_1 => ?_
  have x1 : GW base gw w W1 := GW.ext (GW.refl base gw w) e1
  have ws3 := WSt.ext h e1
  have b2 : w.heap.size ≤ g2 := Nat.le_trans (GW.refl base gw w).size l2
  refine Qaf ?_
  refine hK1 _ _ ?_
  refine wp_seq_k fun K4 hK4 => ?_
  refine Qae ?_
  refine Qab (.pointer (some ⟨gw, 0, none⟩)) 4 rfl kj kj ?_
  refine Qab (.pointer (some ⟨g2, 0, none⟩)) 5 rfl kj kj ?_
  refine Qab (.slice (some ⟨g2, 0, none⟩) 32 32) 6 rfl kj kj ?_
  refine Qal (fun v W' => v = .tuple #[] ∧ GW base gw W1 W' ∧ WSt base gw (rawS (s) grp) W') 104 #[.pointer (some ⟨gw, 0, none⟩), .slice (some ⟨g2, 0, none⟩) 32 32] 7 rfl kj kj ((rawW base gw _ grp _ _ (Nat.le_trans hbw x1.size) ws3 (by omega) hrb (fun W e => (QaC 0 hrl (ExtB.row e r2_1 (Ne.symm (Nat.ne_of_lt (Nat.lt_of_lt_of_le hgw b2)))) (fun i hi => Qa8 [] [#[.int .i64 ep], #[.int .i64 fr], ints .u8 (bas), #[.int .i64 kd], #[.bool us], #[.int .i64 nm], ints .u8 (key), ints .u8 (sg), ints .u8 (pa), #[.slice a_m ms.length c_m], ints .u8 (start), #[.int .i64 at_], ints .u8 (sig)] grp 0 i (0 + i) kj rfl (by rw [hrl]; exact hi)) (Qay (ExtB.row e r2_1 (Ne.symm (Nat.ne_of_lt (Nat.lt_of_lt_of_le hgw b2))))) (Nat.le_refl _) (by decide)))).mono (by rintro e w' ⟨rfl, h1, h2⟩; exact ⟨_, rfl, rfl, h1, h2⟩)) fun v5 W2 h5 => ?_
  obtain ⟨rfl, q2, ws5⟩ := h5
  have x2 : GW base gw w W2 := GW.trans x1 q2
  refine Qaf ?_
  refine hK4 _ _ ?_
  refine wp_seq_k fun K6 hK6 => ?_
  refine Qae ?_
  refine Qab (.pointer (some ⟨gw, 0, none⟩)) 8 rfl kj kj ?_
  refine Qab (.pointer (some ⟨g2, 32, none⟩)) 9 rfl kj kj ?_
  have r2_2 := (GW.row q2 r2_1 (by decide) (Ne.symm (Nat.ne_of_lt (Nat.lt_of_lt_of_le hgw b2))))
  refine Qab (.int .i64 ep) 10 rfl kj (Qah 3 _ g2 32 47 _ (.int .i64 ep) _ r2_2 rfl kj (Qak [ints .u8 (grp)] [#[.int .i64 ep]] [#[.int .i64 fr], ints .u8 (bas), #[.int .i64 kd], #[.bool us], #[.int .i64 nm], ints .u8 (key), ints .u8 (sg), ints .u8 (pa), #[.slice a_m ms.length c_m], ints .u8 (start), #[.int .i64 at_], ints .u8 (sig)] 32 ((Qac _ _).trans hrl) 0 _ rfl) kj) ?_
  refine Qal (fun v W' => v = .tuple #[] ∧ GW base gw W2 W' ∧ WSt base gw (numS (rawS (s) grp) ep 4) W') 105 #[.pointer (some ⟨gw, 0, none⟩), .int .i64 ep, .int .i64 4] 11 rfl kj kj ((Qbj base gw _ ep 4 _ (Nat.le_trans hbw x2.size) ws5 (by decide)).mono (by rintro e w' ⟨rfl, h1, h2⟩; exact ⟨_, rfl, rfl, h1, h2⟩)) fun v7 W3 h7 => ?_
  obtain ⟨rfl, q3, ws7⟩ := h7
  have x3 : GW base gw w W3 := GW.trans x2 q3
  refine Qaf ?_
  refine hK6 _ _ ?_
  refine wp_seq_k fun K8 hK8 => ?_
  refine Qae ?_
  refine Qab (.pointer (some ⟨gw, 0, none⟩)) 12 rfl kj kj ?_
  refine Qab (.pointer (some ⟨g2, 33, none⟩)) 13 rfl kj kj ?_
  have r2_3 := (GW.row q3 r2_2 (by decide) (Ne.symm (Nat.ne_of_lt (Nat.lt_of_lt_of_le hgw b2))))
  refine Qab (.int .i64 fr) 14 rfl kj (Qah 3 _ g2 33 47 _ (.int .i64 fr) _ r2_3 rfl kj (Qak [ints .u8 (grp), #[.int .i64 ep]] [#[.int .i64 fr]] [ints .u8 (bas), #[.int .i64 kd], #[.bool us], #[.int .i64 nm], ints .u8 (key), ints .u8 (sg), ints .u8 (pa), #[.slice a_m ms.length c_m], ints .u8 (start), #[.int .i64 at_], ints .u8 (sig)] 33 (by rw [Qaa, Qaa]; simp only [Array.size_append, cat, ((Qac _ _).trans hrl)]; rfl) 0 _ rfl) kj) ?_
  refine Qal (fun v W' => v = .tuple #[] ∧ GW base gw W3 W' ∧ WSt base gw (QaI (numS (rawS (s) grp) ep 4) fr) W') 106 #[.pointer (some ⟨gw, 0, none⟩), .int .i64 fr] 15 rfl kj kj ((Qd5 base gw _ fr _ (Nat.le_trans hbw x3.size) ws7).mono (by rintro e w' ⟨rfl, h1, h2⟩; exact ⟨_, rfl, rfl, h1, h2⟩)) fun v9 W4 h9 => ?_
  obtain ⟨rfl, q4, ws9⟩ := h9
  have x4 : GW base gw w W4 := GW.trans x3 q4
  refine Qaf ?_
  refine hK8 _ _ ?_
  refine wp_seq_k fun K10 hK10 => ?_
  refine Qae ?_
  refine Qab (.pointer (some ⟨gw, 0, none⟩)) 16 rfl kj kj ?_
  refine Qab (.pointer (some ⟨g2, 34, none⟩)) 17 rfl kj kj ?_
  refine Qab (.slice (some ⟨g2, 34, none⟩) 32 32) 18 rfl kj kj ?_
  have r2_4 := (GW.row q4 r2_3 (by decide) (Ne.symm (Nat.ne_of_lt (Nat.lt_of_lt_of_le hgw b2))))
  refine Qal (fun v W' => v = .tuple #[] ∧ GW base gw W4 W' ∧ WSt base gw (rawS (QaI (numS (rawS (s) grp) ep 4) fr) bas) W') 104 #[.pointer (some ⟨gw, 0, none⟩), .slice (some ⟨g2, 34, none⟩) 32 32] 19 rfl kj kj ((rawW base gw _ bas _ _ (Nat.le_trans hbw x4.size) ws9 (by omega) hab (fun W e => (QaC 34 hal (ExtB.row e r2_4 (Ne.symm (Nat.ne_of_lt (Nat.lt_of_lt_of_le hgw b2)))) (fun i hi => Qa8 [ints .u8 (grp), #[.int .i64 ep], #[.int .i64 fr]] [#[.int .i64 kd], #[.bool us], #[.int .i64 nm], ints .u8 (key), ints .u8 (sg), ints .u8 (pa), #[.slice a_m ms.length c_m], ints .u8 (start), #[.int .i64 at_], ints .u8 (sig)] bas 34 i (34 + i) (by rw [Qaa, Qaa, Qaa]; simp only [Array.size_append, cat, ((Qac _ _).trans hrl)]; rfl) rfl (by rw [hal]; exact hi)) (Qay (ExtB.row e r2_4 (Ne.symm (Nat.ne_of_lt (Nat.lt_of_lt_of_le hgw b2))))) (Nat.le_refl _) (by decide)))).mono (by rintro e w' ⟨rfl, h1, h2⟩; exact ⟨_, rfl, rfl, h1, h2⟩)) fun v11 W5 h11 => ?_
  obtain ⟨rfl, q5, ws11⟩ := h11
  have x5 : GW base gw w W5 := GW.trans x4 q5
  refine Qaf ?_
  refine hK10 _ _ ?_
  refine wp_seq_k fun K12 hK12 => ?_
  refine Qae ?_
  refine Qab (.pointer (some ⟨gw, 0, none⟩)) 20 rfl kj kj ?_
  refine Qab (.pointer (some ⟨g2, 66, none⟩)) 21 rfl kj kj ?_
  have r2_5 := (GW.row q5 r2_4 (by decide) (Ne.symm (Nat.ne_of_lt (Nat.lt_of_lt_of_le hgw b2))))
  refine Qab (.int .i64 kd) 22 rfl kj (Qah 3 _ g2 66 47 _ (.int .i64 kd) _ r2_5 rfl kj (Qak [ints .u8 (grp), #[.int .i64 ep], #[.int .i64 fr], ints .u8 (bas)] [#[.int .i64 kd]] [#[.bool us], #[.int .i64 nm], ints .u8 (key), ints .u8 (sg), ints .u8 (pa), #[.slice a_m ms.length c_m], ints .u8 (start), #[.int .i64 at_], ints .u8 (sig)] 66 (by rw [Qaa, Qaa, Qaa, Qaa]; simp only [Array.size_append, cat, ((Qac _ _).trans hal), ((Qac _ _).trans hrl)]; rfl) 0 _ rfl) kj) ?_
  refine Qab (.bool false) 23 rfl kj (Qax (u := .bool (decide (kd ≥ 1))) kj (congrArg Value.bool (decide_eq_false (by omega)))) ?_
  refine Qab (.bool false) 24 rfl kj kj ?_
  refine Qap 25 rfl kj ?_
  refine Qap 26 rfl kj ?_
  refine Qap 27 rfl kj ?_
  refine Qab (.bool false) 28 rfl kj kj ?_
  refine Qal (fun v W' => v = .tuple #[] ∧ GW base gw W5 W' ∧ WSt base gw (Qa0 (rawS (QaI (numS (rawS (s) grp) ep 4) fr) bas) false) W') 98 #[.pointer (some ⟨gw, 0, none⟩), .bool false] 29 rfl kj kj ((QbF base gw _ false _ ws11).mono (by rintro e w' ⟨rfl, h1, h2⟩; exact ⟨_, rfl, rfl, h1, h2⟩)) fun v13 W6 h13 => ?_
  obtain ⟨rfl, q6, ws13⟩ := h13
  have x6 : GW base gw w W6 := GW.trans x5 q6
  refine Qaf ?_
  refine hK12 _ _ ?_
  refine wp_seq_k fun K14 hK14 => ?_
  refine Qae ?_
  refine Qab (.pointer (some ⟨gw, 0, none⟩)) 30 rfl kj kj ?_
  refine Qab (.pointer (some ⟨g2, 66, none⟩)) 31 rfl kj kj ?_
  have r2_6 := (GW.row q6 r2_5 (by decide) (Ne.symm (Nat.ne_of_lt (Nat.lt_of_lt_of_le hgw b2))))
  refine Qab (.int .i64 kd) 32 rfl kj (Qah 3 _ g2 66 47 _ (.int .i64 kd) _ r2_6 rfl kj (Qak [ints .u8 (grp), #[.int .i64 ep], #[.int .i64 fr], ints .u8 (bas)] [#[.int .i64 kd]] [#[.bool us], #[.int .i64 nm], ints .u8 (key), ints .u8 (sg), ints .u8 (pa), #[.slice a_m ms.length c_m], ints .u8 (start), #[.int .i64 at_], ints .u8 (sig)] 66 (by rw [Qaa, Qaa, Qaa, Qaa]; simp only [Array.size_append, cat, ((Qac _ _).trans hal), ((Qac _ _).trans hrl)]; rfl) 0 _ rfl) kj) ?_
  refine Qal (fun v W' => v = .tuple #[] ∧ GW base gw W6 W' ∧ WSt base gw (numS (Qa0 (rawS (QaI (numS (rawS (s) grp) ep 4) fr) bas) false) kd 1) W') 105 #[.pointer (some ⟨gw, 0, none⟩), .int .i64 kd, .int .i64 1] 33 rfl kj kj ((Qbj base gw _ kd 1 _ (Nat.le_trans hbw x6.size) ws13 (by decide)).mono (by rintro e w' ⟨rfl, h1, h2⟩; exact ⟨_, rfl, rfl, h1, h2⟩)) fun v15 W7 h15 => ?_
  obtain ⟨rfl, q7, ws15⟩ := h15
  have x7 : GW base gw w W7 := GW.trans x6 q7
  refine Qaf ?_
  refine hK14 _ _ ?_
  refine wp_seq_k fun K16 hK16 => ?_
  refine wp_seq_k fun K17 hK17 => ?_
  refine Qae ?_
  refine Qab (.pointer (some ⟨g2, 66, none⟩)) 34 rfl kj kj ?_
  have r2_7 := (GW.row q7 r2_6 (by decide) (Ne.symm (Nat.ne_of_lt (Nat.lt_of_lt_of_le hgw b2))))
  refine Qab (.int .i64 kd) 35 rfl kj (Qah 3 _ g2 66 47 _ (.int .i64 kd) _ r2_7 rfl kj (Qak [ints .u8 (grp), #[.int .i64 ep], #[.int .i64 fr], ints .u8 (bas)] [#[.int .i64 kd]] [#[.bool us], #[.int .i64 nm], ints .u8 (key), ints .u8 (sg), ints .u8 (pa), #[.slice a_m ms.length c_m], ints .u8 (start), #[.int .i64 at_], ints .u8 (sig)] 66 (by rw [Qaa, Qaa, Qaa, Qaa]; simp only [Array.size_append, cat, ((Qac _ _).trans hal), ((Qac _ _).trans hrl)]; rfl) 0 _ rfl) kj) ?_
  refine Qab (.bool false) 36 rfl kj (Qax (u := .bool ((kd == 1))) kj (congrArg Value.bool (beq_eq_false_iff_ne.2 (by omega)))) ?_
  refine Qab (.bool false) 37 rfl kj kj ?_
  refine Qab (.pointer (some ⟨g2, 66, none⟩)) 38 rfl kj kj ?_
  refine Qab (.int .i64 kd) 39 rfl kj (Qah 3 _ g2 66 47 _ (.int .i64 kd) _ r2_7 rfl kj (Qak [ints .u8 (grp), #[.int .i64 ep], #[.int .i64 fr], ints .u8 (bas)] [#[.int .i64 kd]] [#[.bool us], #[.int .i64 nm], ints .u8 (key), ints .u8 (sg), ints .u8 (pa), #[.slice a_m ms.length c_m], ints .u8 (start), #[.int .i64 at_], ints .u8 (sig)] 66 (by rw [Qaa, Qaa, Qaa, Qaa]; simp only [Array.size_append, cat, ((Qac _ _).trans hal), ((Qac _ _).trans hrl)]; rfl) 0 _ rfl) kj) ?_
  refine Qab (.bool false) 40 rfl kj (Qax (u := .bool ((kd == 2))) kj (congrArg Value.bool (beq_eq_false_iff_ne.2 (by omega)))) ?_
  refine Qab (.bool false) 41 rfl kj kj ?_
  refine Qaf ?_
  refine hK17 _ _ ?_
  refine cond_false kj ?_
  refine Qae ?_
  refine Qab (.pointer (some ⟨gw, 0, none⟩)) 46 rfl kj kj ?_
  refine Qab (.pointer (some ⟨g2, 67, none⟩)) 47 rfl kj kj ?_
  refine Qab (.agg (cat [#[.bool us], #[.int .i64 nm], ints .u8 (key), ints .u8 (sg), ints .u8 (pa), #[.slice a_m ms.length c_m]])) 48 rfl kj (Qau 43 _ g2 67 47 _ _ _ r2_7 rfl kj (Qak [ints .u8 (grp), #[.int .i64 ep], #[.int .i64 fr], ints .u8 (bas), #[.int .i64 kd]] [#[.bool us], #[.int .i64 nm], ints .u8 (key), ints .u8 (sg), ints .u8 (pa), #[.slice a_m ms.length c_m]] [ints .u8 (start), #[.int .i64 at_], ints .u8 (sig)] 67 (by rw [Qaa, Qaa, Qaa, Qaa, Qaa]; simp only [Array.size_append, cat, ((Qac _ _).trans hal), ((Qac _ _).trans hrl)]; rfl)) kj (isz (n := 99) kj (by rw [Qaa, Qaa, Qaa, Qaa, Qaa, Qaa]; simp only [Array.size_append, cat, ((Qac _ _).trans hgl), ((Qac _ _).trans hkl), ((Qac _ _).trans hpl)]; rfl))) ?_
  refine Qa3 (.bool (Qa7 us nm key sg pa ms)) 107 #[.agg (cat [#[.bool us], #[.int .i64 nm], ints .u8 (key), ints .u8 (sg), ints .u8 (pa), #[.slice a_m ms.length c_m]])] 49 rfl kj kj (Qd9 us nm key sg pa ms _ _ _ hkl hgl hpl) fun W8 e8 => ?_
  have x8 : GW base gw w W8 := GW.ext x7 e8
  have ws18 := WSt.ext ws15 e8
  refine Qal (fun v W' => v = .tuple #[] ∧ GW base gw W8 W' ∧ WSt base gw (Qa0 (numS (Qa0 (rawS (QaI (numS (rawS (s) grp) ep 4) fr) bas) false) kd 1) (Qa7 us nm key sg pa ms)) W') 98 #[.pointer (some ⟨gw, 0, none⟩), .bool (Qa7 us nm key sg pa ms)] 50 rfl kj kj ((QbF base gw _ (Qa7 us nm key sg pa ms) _ ws18).mono (by rintro e w' ⟨rfl, h1, h2⟩; exact ⟨_, rfl, rfl, h1, h2⟩)) fun v19 W9 h19 => ?_
  obtain ⟨rfl, q9, ws19⟩ := h19
  have x9 : GW base gw w W9 := GW.trans x8 q9
  refine Qaf ?_
  refine hK16 _ _ ?_
  refine wp_seq_k fun K20 hK20 => ?_
  refine wp_seq_k fun K21 hK21 => ?_
  refine Qae ?_
  refine Qab (.pointer (some ⟨g2, 66, none⟩)) 51 rfl kj kj ?_
  have r2_8 := (Qas r2_7 e8)
  have r2_9 := (GW.row q9 r2_8 (by decide) (Ne.symm (Nat.ne_of_lt (Nat.lt_of_lt_of_le hgw b2))))
  refine Qab (.int .i64 kd) 52 rfl kj (Qah 3 _ g2 66 47 _ (.int .i64 kd) _ r2_9 rfl kj (Qak [ints .u8 (grp), #[.int .i64 ep], #[.int .i64 fr], ints .u8 (bas)] [#[.int .i64 kd]] [#[.bool us], #[.int .i64 nm], ints .u8 (key), ints .u8 (sg), ints .u8 (pa), #[.slice a_m ms.length c_m], ints .u8 (start), #[.int .i64 at_], ints .u8 (sig)] 66 (by rw [Qaa, Qaa, Qaa, Qaa]; simp only [Array.size_append, cat, ((Qac _ _).trans hal), ((Qac _ _).trans hrl)]; rfl) 0 _ rfl) kj) ?_
  refine Qab (.bool false) 53 rfl kj (Qax (u := .bool ((kd == 1))) kj (congrArg Value.bool (beq_eq_false_iff_ne.2 (by omega)))) ?_
  refine Qaf ?_
  refine hK21 _ _ ?_
  refine cond_false kj ?_
  refine Qae ?_
  refine Qab (.pointer (some ⟨gw, 0, none⟩)) 58 rfl kj kj ?_
  refine Qab (.pointer (some ⟨g2, 166, none⟩)) 59 rfl kj kj ?_
  refine Qab (.agg (ints .u8 (start))) 60 rfl kj (Qau 40 _ g2 166 47 _ _ _ r2_9 rfl kj (Qak [ints .u8 (grp), #[.int .i64 ep], #[.int .i64 fr], ints .u8 (bas), #[.int .i64 kd], #[.bool us], #[.int .i64 nm], ints .u8 (key), ints .u8 (sg), ints .u8 (pa), #[.slice a_m ms.length c_m]] [ints .u8 (start)] [#[.int .i64 at_], ints .u8 (sig)] 166 (by rw [Qaa, Qaa, Qaa, Qaa, Qaa, Qaa, Qaa, Qaa, Qaa, Qaa, Qaa]; simp only [Array.size_append, cat, ((Qac _ _).trans hal), ((Qac _ _).trans hgl), ((Qac _ _).trans hkl), ((Qac _ _).trans hpl), ((Qac _ _).trans hrl)]; rfl)) kj (isz (n := 32) kj ((Qac _ _).trans htl))) ?_
  refine Qab (.agg (ints .u8 (List.replicate 32 0))) 61 rfl kj kj ?_
  refine Qab (.bool (decide (start = List.replicate 32 0))) 62 rfl kj (Qa1 40 _ _ _ _ _ (.bool (decide (start = List.replicate 32 0))) rfl kj kj kj (Qa6 40 (e := 5) (k := .u8) (start) (List.replicate 32 0) rfl htl (List.length_replicate (n := 32)) kj kj kj _)) ?_
  refine Qal (fun v W' => v = .tuple #[] ∧ GW base gw W9 W' ∧ WSt base gw (Qa0 (Qa0 (numS (Qa0 (rawS (QaI (numS (rawS (s) grp) ep 4) fr) bas) false) kd 1) (Qa7 us nm key sg pa ms)) (decide (start = List.replicate 32 0))) W') 98 #[.pointer (some ⟨gw, 0, none⟩), .bool (decide (start = List.replicate 32 0))] 63 rfl kj kj ((QbF base gw _ (decide (start = List.replicate 32 0)) _ ws19).mono (by rintro e w' ⟨rfl, h1, h2⟩; exact ⟨_, rfl, rfl, h1, h2⟩)) fun v22 W10 h22 => ?_
  obtain ⟨rfl, q10, ws22⟩ := h22
  have x10 : GW base gw w W10 := GW.trans x9 q10
  refine Qaf ?_
  refine hK20 _ _ ?_
  refine wp_seq_k fun K23 hK23 => ?_
  refine wp_seq_k fun K24 hK24 => ?_
  refine Qae ?_
  refine Qab (.pointer (some ⟨g2, 66, none⟩)) 64 rfl kj kj ?_
  have r2_10 := (GW.row q10 r2_9 (by decide) (Ne.symm (Nat.ne_of_lt (Nat.lt_of_lt_of_le hgw b2))))
  refine Qab (.int .i64 kd) 65 rfl kj (Qah 3 _ g2 66 47 _ (.int .i64 kd) _ r2_10 rfl kj (Qak [ints .u8 (grp), #[.int .i64 ep], #[.int .i64 fr], ints .u8 (bas)] [#[.int .i64 kd]] [#[.bool us], #[.int .i64 nm], ints .u8 (key), ints .u8 (sg), ints .u8 (pa), #[.slice a_m ms.length c_m], ints .u8 (start), #[.int .i64 at_], ints .u8 (sig)] 66 (by rw [Qaa, Qaa, Qaa, Qaa]; simp only [Array.size_append, cat, ((Qac _ _).trans hal), ((Qac _ _).trans hrl)]; rfl) 0 _ rfl) kj) ?_
  refine Qab (.bool false) 66 rfl kj (Qax (u := .bool ((kd == 3))) kj (congrArg Value.bool (beq_eq_false_iff_ne.2 (by omega)))) ?_
  refine Qaf ?_
  refine hK24 _ _ ?_
  refine cond_false kj ?_
  refine Qae ?_
  refine Qab (.pointer (some ⟨gw, 0, none⟩)) 71 rfl kj kj ?_
  refine Qab (.pointer (some ⟨g2, 198, none⟩)) 72 rfl kj kj ?_
  refine Qab (.int .i64 at_) 73 rfl kj (Qah 3 _ g2 198 47 _ (.int .i64 at_) _ r2_10 rfl kj (Qak [ints .u8 (grp), #[.int .i64 ep], #[.int .i64 fr], ints .u8 (bas), #[.int .i64 kd], #[.bool us], #[.int .i64 nm], ints .u8 (key), ints .u8 (sg), ints .u8 (pa), #[.slice a_m ms.length c_m], ints .u8 (start)] [#[.int .i64 at_]] [ints .u8 (sig)] 198 (by rw [Qaa, Qaa, Qaa, Qaa, Qaa, Qaa, Qaa, Qaa, Qaa, Qaa, Qaa, Qaa]; simp only [Array.size_append, cat, ((Qac _ _).trans hal), ((Qac _ _).trans hgl), ((Qac _ _).trans hkl), ((Qac _ _).trans hpl), ((Qac _ _).trans hrl), ((Qac _ _).trans htl)]; rfl) 0 _ rfl) kj) ?_
  refine Qab (.bool ((at_ == 0))) 74 rfl kj kj ?_
  refine Qal (fun v W' => v = .tuple #[] ∧ GW base gw W10 W' ∧ WSt base gw (Qa0 (Qa0 (Qa0 (numS (Qa0 (rawS (QaI (numS (rawS (s) grp) ep 4) fr) bas) false) kd 1) (Qa7 us nm key sg pa ms)) (decide (start = List.replicate 32 0))) ((at_ == 0))) W') 98 #[.pointer (some ⟨gw, 0, none⟩), .bool ((at_ == 0))] 75 rfl kj kj ((QbF base gw _ ((at_ == 0)) _ ws22).mono (by rintro e w' ⟨rfl, h1, h2⟩; exact ⟨_, rfl, rfl, h1, h2⟩)) fun v25 W11 h25 => ?_
  obtain ⟨rfl, q11, ws25⟩ := h25
  have x11 : GW base gw w W11 := GW.trans x10 q11
  refine Qaf ?_
  refine hK23 _ _ ?_
  refine Qae ?_
  refine Qab (.pointer (some ⟨gw, 0, none⟩)) 76 rfl kj kj ?_
  refine Qab (.pointer (some ⟨g2, 199, none⟩)) 77 rfl kj kj ?_
  refine Qab (.slice (some ⟨g2, 199, none⟩) 64 64) 78 rfl kj kj ?_
  have r2_11 := (GW.row q11 r2_10 (by decide) (Ne.symm (Nat.ne_of_lt (Nat.lt_of_lt_of_le hgw b2))))
  refine Qal (fun v W' => v = .tuple #[] ∧ GW base gw W11 W' ∧ WSt base gw (rawS (Qa0 (Qa0 (Qa0 (numS (Qa0 (rawS (QaI (numS (rawS (s) grp) ep 4) fr) bas) false) kd 1) (Qa7 us nm key sg pa ms)) (decide (start = List.replicate 32 0))) ((at_ == 0))) sig) W') 104 #[.pointer (some ⟨gw, 0, none⟩), .slice (some ⟨g2, 199, none⟩) 64 64] 79 rfl kj kj ((rawW base gw _ sig _ _ (Nat.le_trans hbw x11.size) ws25 (by omega) hib (fun W e => (QaC 199 hil (ExtB.row e r2_11 (Ne.symm (Nat.ne_of_lt (Nat.lt_of_lt_of_le hgw b2)))) (fun i hi => Qa8 [ints .u8 (grp), #[.int .i64 ep], #[.int .i64 fr], ints .u8 (bas), #[.int .i64 kd], #[.bool us], #[.int .i64 nm], ints .u8 (key), ints .u8 (sg), ints .u8 (pa), #[.slice a_m ms.length c_m], ints .u8 (start), #[.int .i64 at_]] [] sig 199 i (199 + i) (by rw [Qaa, Qaa, Qaa, Qaa, Qaa, Qaa, Qaa, Qaa, Qaa, Qaa, Qaa, Qaa, Qaa]; simp only [Array.size_append, cat, ((Qac _ _).trans hal), ((Qac _ _).trans hgl), ((Qac _ _).trans hkl), ((Qac _ _).trans hpl), ((Qac _ _).trans hrl), ((Qac _ _).trans htl)]; rfl) rfl (by rw [hil]; exact hi)) (Qay (ExtB.row e r2_11 (Ne.symm (Nat.ne_of_lt (Nat.lt_of_lt_of_le hgw b2))))) (Nat.le_refl _) (by decide)))).mono (by rintro e w' ⟨rfl, h1, h2⟩; exact ⟨_, rfl, rfl, h1, h2⟩)) fun v26 W12 h26 => ?_
  obtain ⟨rfl, q12, ws26⟩ := h26
  have x12 : GW base gw w W12 := GW.trans x11 q12
  refine Qaf ?_
  repeat (first | with_reducible refine goX1 ?_ | with_reducible refine goX2 ?_ | with_reducible refine goX3 ?_)
  exact (show bodyPost _ _ _ .normal _ _ from end0 rfl ⟨rfl, x12, ws26⟩)
set_option maxHeartbeats 4000000 in
theorem QfK (base gw : Nat) (s : Option (List Int)) (kd : Int) (hkd : 3 < kd) (grp : List Int) (ep fr : Int) (bas : List Int) (us : Bool) (nm : Int) (key sg pa ms start : List Int) (at_ : Int) (sig : List Int) (a_m : Option Addr) (c_m : Nat) (w : World) (hbw : base ≤ w.heap.size) (hbg : base ≤ gw) (h : WSt base gw s w) (hrl : grp.length = 32) (hrb : Qag grp) (hal : bas.length = 32) (hab : Qag bas) (hkl : key.length = 32) (hgl : sg.length = 32) (hpl : pa.length = 32) (hkb : Qag key) (hgb : Qag sg) (hpb : Qag pa) (hml : ms.length ≤ 1000000) (htl : start.length = 32) (htb : Qag start) (hil : sig.length = 64) (hib : Qag sig) (hm : RdK .i64 base ms (.slice a_m ms.length c_m) w) : Calls Try.prog 57 #[.pointer (some ⟨gw, 0, none⟩), .agg (cat [ints .u8 (grp), #[.int .i64 ep], #[.int .i64 fr], ints .u8 (bas), #[.int .i64 kd], #[.bool us], #[.int .i64 nm], ints .u8 (key), ints .u8 (sg), ints .u8 (pa), #[.slice a_m ms.length c_m], ints .u8 (start), #[.int .i64 at_], ints .u8 (sig)])] w (fun e W => e = .returned (.tuple #[]) ∧ GW base gw w W ∧ WSt base gw (rawS (Qa0 (Qa0 (Qa0 (numS (Qa0 (rawS (QaI (numS (rawS (s) grp) ep 4) fr) bas) false) kd 1) (Qa7 us nm key sg pa ms)) (decide (start = List.replicate 32 0))) ((at_ == 0))) sig) W) := by
  have hgw := h.lt
  refine enter 80 [(0, .pointer (some ⟨gw, 0, none⟩)), (1, .agg (cat [ints .u8 (grp), #[.int .i64 ep], #[.int .i64 fr], ints .u8 (bas), #[.int .i64 kd], #[.bool us], #[.int .i64 nm], ints .u8 (key), ints .u8 (sg), ints .u8 (pa), #[.slice a_m ms.length c_m], ints .u8 (start), #[.int .i64 at_], ints .u8 (sig)]))] Try.func57 rfl rfl kj rfl ?_
  refine wp_seq_k fun K1 hK1 => ?_
  refine Qae ?_
  refine Qav (cat [ints .u8 (grp), #[.int .i64 ep], #[.int .i64 fr], ints .u8 (bas), #[.int .i64 kd], #[.bool us], #[.int .i64 nm], ints .u8 (key), ints .u8 (sg), ints .u8 (pa), #[.slice a_m ms.length c_m], ints .u8 (start), #[.int .i64 at_], ints .u8 (sig)]) 47 3 rfl kj kj fun g2 W1 l2 e1 r2_1 => ?_
  have x1 : GW base gw w W1 := GW.ext (GW.refl base gw w) e1
  have ws3 := WSt.ext h e1
  have b2 : w.heap.size ≤ g2 := Nat.le_trans (GW.refl base gw w).size l2
  refine Qaf ?_
  refine hK1 _ _ ?_
  refine wp_seq_k fun K4 hK4 => ?_
  refine Qae ?_
  refine Qab (.pointer (some ⟨gw, 0, none⟩)) 4 rfl kj kj ?_
  refine Qab (.pointer (some ⟨g2, 0, none⟩)) 5 rfl kj kj ?_
  refine Qab (.slice (some ⟨g2, 0, none⟩) 32 32) 6 rfl kj kj ?_
  refine Qal (fun v W' => v = .tuple #[] ∧ GW base gw W1 W' ∧ WSt base gw (rawS (s) grp) W') 104 #[.pointer (some ⟨gw, 0, none⟩), .slice (some ⟨g2, 0, none⟩) 32 32] 7 rfl kj kj ((rawW base gw _ grp _ _ (Nat.le_trans hbw x1.size) ws3 (by omega) hrb (fun W e => (QaC 0 hrl (ExtB.row e r2_1 (Ne.symm (Nat.ne_of_lt (Nat.lt_of_lt_of_le hgw b2)))) (fun i hi => Qa8 [] [#[.int .i64 ep], #[.int .i64 fr], ints .u8 (bas), #[.int .i64 kd], #[.bool us], #[.int .i64 nm], ints .u8 (key), ints .u8 (sg), ints .u8 (pa), #[.slice a_m ms.length c_m], ints .u8 (start), #[.int .i64 at_], ints .u8 (sig)] grp 0 i (0 + i) kj rfl (by rw [hrl]; exact hi)) (Qay (ExtB.row e r2_1 (Ne.symm (Nat.ne_of_lt (Nat.lt_of_lt_of_le hgw b2))))) (Nat.le_refl _) (by decide)))).mono (by rintro e w' ⟨rfl, h1, h2⟩; exact ⟨_, rfl, rfl, h1, h2⟩)) fun v5 W2 h5 => ?_
  obtain ⟨rfl, q2, ws5⟩ := h5
  have x2 : GW base gw w W2 := GW.trans x1 q2
  refine Qaf ?_
  refine hK4 _ _ ?_
  refine wp_seq_k fun K6 hK6 => ?_
  refine Qae ?_
  refine Qab (.pointer (some ⟨gw, 0, none⟩)) 8 rfl kj kj ?_
  refine Qab (.pointer (some ⟨g2, 32, none⟩)) 9 rfl kj kj ?_
  have r2_2 := (GW.row q2 r2_1 (by decide) (Ne.symm (Nat.ne_of_lt (Nat.lt_of_lt_of_le hgw b2))))
  refine Qab (.int .i64 ep) 10 rfl kj (Qah 3 _ g2 32 47 _ (.int .i64 ep) _ r2_2 rfl kj (Qak [ints .u8 (grp)] [#[.int .i64 ep]] [#[.int .i64 fr], ints .u8 (bas), #[.int .i64 kd], #[.bool us], #[.int .i64 nm], ints .u8 (key), ints .u8 (sg), ints .u8 (pa), #[.slice a_m ms.length c_m], ints .u8 (start), #[.int .i64 at_], ints .u8 (sig)] 32 ((Qac _ _).trans hrl) 0 _ rfl) kj) ?_
  refine Qal (fun v W' => v = .tuple #[] ∧ GW base gw W2 W' ∧ WSt base gw (numS (rawS (s) grp) ep 4) W') 105 #[.pointer (some ⟨gw, 0, none⟩), .int .i64 ep, .int .i64 4] 11 rfl kj kj ((Qbj base gw _ ep 4 _ (Nat.le_trans hbw x2.size) ws5 (by decide)).mono (by rintro e w' ⟨rfl, h1, h2⟩; exact ⟨_, rfl, rfl, h1, h2⟩)) fun v7 W3 h7 => ?_
  obtain ⟨rfl, q3, ws7⟩ := h7
  have x3 : GW base gw w W3 := GW.trans x2 q3
  refine Qaf ?_
  refine hK6 _ _ ?_
  refine wp_seq_k fun K8 hK8 => ?_
  refine Qae ?_
  refine Qab (.pointer (some ⟨gw, 0, none⟩)) 12 rfl kj kj ?_
  refine Qab (.pointer (some ⟨g2, 33, none⟩)) 13 rfl kj kj ?_
  have r2_3 := (GW.row q3 r2_2 (by decide) (Ne.symm (Nat.ne_of_lt (Nat.lt_of_lt_of_le hgw b2))))
  refine Qab (.int .i64 fr) 14 rfl kj (Qah 3 _ g2 33 47 _ (.int .i64 fr) _ r2_3 rfl kj (Qak [ints .u8 (grp), #[.int .i64 ep]] [#[.int .i64 fr]] [ints .u8 (bas), #[.int .i64 kd], #[.bool us], #[.int .i64 nm], ints .u8 (key), ints .u8 (sg), ints .u8 (pa), #[.slice a_m ms.length c_m], ints .u8 (start), #[.int .i64 at_], ints .u8 (sig)] 33 (by rw [Qaa, Qaa]; simp only [Array.size_append, cat, ((Qac _ _).trans hrl)]; rfl) 0 _ rfl) kj) ?_
  refine Qal (fun v W' => v = .tuple #[] ∧ GW base gw W3 W' ∧ WSt base gw (QaI (numS (rawS (s) grp) ep 4) fr) W') 106 #[.pointer (some ⟨gw, 0, none⟩), .int .i64 fr] 15 rfl kj kj ((Qd5 base gw _ fr _ (Nat.le_trans hbw x3.size) ws7).mono (by rintro e w' ⟨rfl, h1, h2⟩; exact ⟨_, rfl, rfl, h1, h2⟩)) fun v9 W4 h9 => ?_
  obtain ⟨rfl, q4, ws9⟩ := h9
  have x4 : GW base gw w W4 := GW.trans x3 q4
  refine Qaf ?_
  refine hK8 _ _ ?_
  refine wp_seq_k fun K10 hK10 => ?_
  refine Qae ?_
  refine Qab (.pointer (some ⟨gw, 0, none⟩)) 16 rfl kj kj ?_
  refine Qab (.pointer (some ⟨g2, 34, none⟩)) 17 rfl kj kj ?_
  refine Qab (.slice (some ⟨g2, 34, none⟩) 32 32) 18 rfl kj kj ?_
  have r2_4 := (GW.row q4 r2_3 (by decide) (Ne.symm (Nat.ne_of_lt (Nat.lt_of_lt_of_le hgw b2))))
  refine Qal (fun v W' => v = .tuple #[] ∧ GW base gw W4 W' ∧ WSt base gw (rawS (QaI (numS (rawS (s) grp) ep 4) fr) bas) W') 104 #[.pointer (some ⟨gw, 0, none⟩), .slice (some ⟨g2, 34, none⟩) 32 32] 19 rfl kj kj ((rawW base gw _ bas _ _ (Nat.le_trans hbw x4.size) ws9 (by omega) hab (fun W e => (QaC 34 hal (ExtB.row e r2_4 (Ne.symm (Nat.ne_of_lt (Nat.lt_of_lt_of_le hgw b2)))) (fun i hi => Qa8 [ints .u8 (grp), #[.int .i64 ep], #[.int .i64 fr]] [#[.int .i64 kd], #[.bool us], #[.int .i64 nm], ints .u8 (key), ints .u8 (sg), ints .u8 (pa), #[.slice a_m ms.length c_m], ints .u8 (start), #[.int .i64 at_], ints .u8 (sig)] bas 34 i (34 + i) (by rw [Qaa, Qaa, Qaa]; simp only [Array.size_append, cat, ((Qac _ _).trans hrl)]; rfl) rfl (by rw [hal]; exact hi)) (Qay (ExtB.row e r2_4 (Ne.symm (Nat.ne_of_lt (Nat.lt_of_lt_of_le hgw b2))))) (Nat.le_refl _) (by decide)))).mono (by rintro e w' ⟨rfl, h1, h2⟩; exact ⟨_, rfl, rfl, h1, h2⟩)) fun v11 W5 h11 => ?_
  obtain ⟨rfl, q5, ws11⟩ := h11
  have x5 : GW base gw w W5 := GW.trans x4 q5
  refine Qaf ?_
  refine hK10 _ _ ?_
  refine wp_seq_k fun K12 hK12 => ?_
  refine Qae ?_
  refine Qab (.pointer (some ⟨gw, 0, none⟩)) 20 rfl kj kj ?_
  refine Qab (.pointer (some ⟨g2, 66, none⟩)) 21 rfl kj kj ?_
  have r2_5 := (GW.row q5 r2_4 (by decide) (Ne.symm (Nat.ne_of_lt (Nat.lt_of_lt_of_le hgw b2))))
  refine Qab (.int .i64 kd) 22 rfl kj (Qah 3 _ g2 66 47 _ (.int .i64 kd) _ r2_5 rfl kj (Qak [ints .u8 (grp), #[.int .i64 ep], #[.int .i64 fr], ints .u8 (bas)] [#[.int .i64 kd]] [#[.bool us], #[.int .i64 nm], ints .u8 (key), ints .u8 (sg), ints .u8 (pa), #[.slice a_m ms.length c_m], ints .u8 (start), #[.int .i64 at_], ints .u8 (sig)] 66 (by rw [Qaa, Qaa, Qaa, Qaa]; simp only [Array.size_append, cat, ((Qac _ _).trans hal), ((Qac _ _).trans hrl)]; rfl) 0 _ rfl) kj) ?_
  refine Qab (.bool true) 23 rfl kj (Qax (u := .bool (decide (kd ≥ 1))) kj (congrArg Value.bool (decide_eq_true (by omega)))) ?_
  refine Qab (.bool true) 24 rfl kj kj ?_
  refine Qab (.pointer (some ⟨g2, 66, none⟩)) 25 rfl kj kj ?_
  refine Qab (.int .i64 kd) 26 rfl kj (Qah 3 _ g2 66 47 _ (.int .i64 kd) _ r2_5 rfl kj (Qak [ints .u8 (grp), #[.int .i64 ep], #[.int .i64 fr], ints .u8 (bas)] [#[.int .i64 kd]] [#[.bool us], #[.int .i64 nm], ints .u8 (key), ints .u8 (sg), ints .u8 (pa), #[.slice a_m ms.length c_m], ints .u8 (start), #[.int .i64 at_], ints .u8 (sig)] 66 (by rw [Qaa, Qaa, Qaa, Qaa]; simp only [Array.size_append, cat, ((Qac _ _).trans hal), ((Qac _ _).trans hrl)]; rfl) 0 _ rfl) kj) ?_
  refine Qab (.bool false) 27 rfl kj (Qax (u := .bool (decide (kd ≤ 3))) kj (congrArg Value.bool (decide_eq_false (by omega)))) ?_
  refine Qab (.bool false) 28 rfl kj kj ?_
  refine Qal (fun v W' => v = .tuple #[] ∧ GW base gw W5 W' ∧ WSt base gw (Qa0 (rawS (QaI (numS (rawS (s) grp) ep 4) fr) bas) false) W') 98 #[.pointer (some ⟨gw, 0, none⟩), .bool false] 29 rfl kj kj ((QbF base gw _ false _ ws11).mono (by rintro e w' ⟨rfl, h1, h2⟩; exact ⟨_, rfl, rfl, h1, h2⟩)) fun v13 W6 h13 => ?_
  obtain ⟨rfl, q6, ws13⟩ := h13
  have x6 : GW base gw w W6 := GW.trans x5 q6
  refine Qaf ?_
  refine hK12 _ _ ?_
  refine wp_seq_k fun K14 hK14 => ?_
  refine Qae ?_
  refine Qab (.pointer (some ⟨gw, 0, none⟩)) 30 rfl kj kj ?_
  refine Qab (.pointer (some ⟨g2, 66, none⟩)) 31 rfl kj kj ?_
  have r2_6 := (GW.row q6 r2_5 (by decide) (Ne.symm (Nat.ne_of_lt (Nat.lt_of_lt_of_le hgw b2))))
  refine Qab (.int .i64 kd) 32 rfl kj (Qah 3 _ g2 66 47 _ (.int .i64 kd) _ r2_6 rfl kj (Qak [ints .u8 (grp), #[.int .i64 ep], #[.int .i64 fr], ints .u8 (bas)] [#[.int .i64 kd]] [#[.bool us], #[.int .i64 nm], ints .u8 (key), ints .u8 (sg), ints .u8 (pa), #[.slice a_m ms.length c_m], ints .u8 (start), #[.int .i64 at_], ints .u8 (sig)] 66 (by rw [Qaa, Qaa, Qaa, Qaa]; simp only [Array.size_append, cat, ((Qac _ _).trans hal), ((Qac _ _).trans hrl)]; rfl) 0 _ rfl) kj) ?_
  refine Qal (fun v W' => v = .tuple #[] ∧ GW base gw W6 W' ∧ WSt base gw (numS (Qa0 (rawS (QaI (numS (rawS (s) grp) ep 4) fr) bas) false) kd 1) W') 105 #[.pointer (some ⟨gw, 0, none⟩), .int .i64 kd, .int .i64 1] 33 rfl kj kj ((Qbj base gw _ kd 1 _ (Nat.le_trans hbw x6.size) ws13 (by decide)).mono (by rintro e w' ⟨rfl, h1, h2⟩; exact ⟨_, rfl, rfl, h1, h2⟩)) fun v15 W7 h15 => ?_
  obtain ⟨rfl, q7, ws15⟩ := h15
  have x7 : GW base gw w W7 := GW.trans x6 q7
  refine Qaf ?_
  refine hK14 _ _ ?_
  refine wp_seq_k fun K16 hK16 => ?_
  refine wp_seq_k fun K17 hK17 => ?_
  refine Qae ?_
  refine Qab (.pointer (some ⟨g2, 66, none⟩)) 34 rfl kj kj ?_
  have r2_7 := (GW.row q7 r2_6 (by decide) (Ne.symm (Nat.ne_of_lt (Nat.lt_of_lt_of_le hgw b2))))
  refine Qab (.int .i64 kd) 35 rfl kj (Qah 3 _ g2 66 47 _ (.int .i64 kd) _ r2_7 rfl kj (Qak [ints .u8 (grp), #[.int .i64 ep], #[.int .i64 fr], ints .u8 (bas)] [#[.int .i64 kd]] [#[.bool us], #[.int .i64 nm], ints .u8 (key), ints .u8 (sg), ints .u8 (pa), #[.slice a_m ms.length c_m], ints .u8 (start), #[.int .i64 at_], ints .u8 (sig)] 66 (by rw [Qaa, Qaa, Qaa, Qaa]; simp only [Array.size_append, cat, ((Qac _ _).trans hal), ((Qac _ _).trans hrl)]; rfl) 0 _ rfl) kj) ?_
  refine Qab (.bool false) 36 rfl kj (Qax (u := .bool ((kd == 1))) kj (congrArg Value.bool (beq_eq_false_iff_ne.2 (by omega)))) ?_
  refine Qab (.bool false) 37 rfl kj kj ?_
  refine Qab (.pointer (some ⟨g2, 66, none⟩)) 38 rfl kj kj ?_
  refine Qab (.int .i64 kd) 39 rfl kj (Qah 3 _ g2 66 47 _ (.int .i64 kd) _ r2_7 rfl kj (Qak [ints .u8 (grp), #[.int .i64 ep], #[.int .i64 fr], ints .u8 (bas)] [#[.int .i64 kd]] [#[.bool us], #[.int .i64 nm], ints .u8 (key), ints .u8 (sg), ints .u8 (pa), #[.slice a_m ms.length c_m], ints .u8 (start), #[.int .i64 at_], ints .u8 (sig)] 66 (by rw [Qaa, Qaa, Qaa, Qaa]; simp only [Array.size_append, cat, ((Qac _ _).trans hal), ((Qac _ _).trans hrl)]; rfl) 0 _ rfl) kj) ?_
  refine Qab (.bool false) 40 rfl kj (Qax (u := .bool ((kd == 2))) kj (congrArg Value.bool (beq_eq_false_iff_ne.2 (by omega)))) ?_
  refine Qab (.bool false) 41 rfl kj kj ?_
  refine Qaf ?_
  refine hK17 _ _ ?_
  refine cond_false kj ?_
  refine Qae ?_
  refine Qab (.pointer (some ⟨gw, 0, none⟩)) 46 rfl kj kj ?_
  refine Qab (.pointer (some ⟨g2, 67, none⟩)) 47 rfl kj kj ?_
  refine Qab (.agg (cat [#[.bool us], #[.int .i64 nm], ints .u8 (key), ints .u8 (sg), ints .u8 (pa), #[.slice a_m ms.length c_m]])) 48 rfl kj (Qau 43 _ g2 67 47 _ _ _ r2_7 rfl kj (Qak [ints .u8 (grp), #[.int .i64 ep], #[.int .i64 fr], ints .u8 (bas), #[.int .i64 kd]] [#[.bool us], #[.int .i64 nm], ints .u8 (key), ints .u8 (sg), ints .u8 (pa), #[.slice a_m ms.length c_m]] [ints .u8 (start), #[.int .i64 at_], ints .u8 (sig)] 67 (by rw [Qaa, Qaa, Qaa, Qaa, Qaa]; simp only [Array.size_append, cat, ((Qac _ _).trans hal), ((Qac _ _).trans hrl)]; rfl)) kj (isz (n := 99) kj (by rw [Qaa, Qaa, Qaa, Qaa, Qaa, Qaa]; simp only [Array.size_append, cat, ((Qac _ _).trans hgl), ((Qac _ _).trans hkl), ((Qac _ _).trans hpl)]; rfl))) ?_
  refine Qa3 (.bool (Qa7 us nm key sg pa ms)) 107 #[.agg (cat [#[.bool us], #[.int .i64 nm], ints .u8 (key), ints .u8 (sg), ints .u8 (pa), #[.slice a_m ms.length c_m]])] 49 rfl kj kj (Qd9 us nm key sg pa ms _ _ _ hkl hgl hpl) fun W8 e8 => ?_
  have x8 : GW base gw w W8 := GW.ext x7 e8
  have ws18 := WSt.ext ws15 e8
  refine Qal (fun v W' => v = .tuple #[] ∧ GW base gw W8 W' ∧ WSt base gw (Qa0 (numS (Qa0 (rawS (QaI (numS (rawS (s) grp) ep 4) fr) bas) false) kd 1) (Qa7 us nm key sg pa ms)) W') 98 #[.pointer (some ⟨gw, 0, none⟩), .bool (Qa7 us nm key sg pa ms)] 50 rfl kj kj ((QbF base gw _ (Qa7 us nm key sg pa ms) _ ws18).mono (by rintro e w' ⟨rfl, h1, h2⟩; exact ⟨_, rfl, rfl, h1, h2⟩)) fun v19 W9 h19 => ?_
  obtain ⟨rfl, q9, ws19⟩ := h19
  have x9 : GW base gw w W9 := GW.trans x8 q9
  refine Qaf ?_
  refine hK16 _ _ ?_
  refine wp_seq_k fun K20 hK20 => ?_
  refine wp_seq_k fun K21 hK21 => ?_
  refine Qae ?_
  refine Qab (.pointer (some ⟨g2, 66, none⟩)) 51 rfl kj kj ?_
  have r2_8 := (Qas r2_7 e8)
  have r2_9 := (GW.row q9 r2_8 (by decide) (Ne.symm (Nat.ne_of_lt (Nat.lt_of_lt_of_le hgw b2))))
  refine Qab (.int .i64 kd) 52 rfl kj (Qah 3 _ g2 66 47 _ (.int .i64 kd) _ r2_9 rfl kj (Qak [ints .u8 (grp), #[.int .i64 ep], #[.int .i64 fr], ints .u8 (bas)] [#[.int .i64 kd]] [#[.bool us], #[.int .i64 nm], ints .u8 (key), ints .u8 (sg), ints .u8 (pa), #[.slice a_m ms.length c_m], ints .u8 (start), #[.int .i64 at_], ints .u8 (sig)] 66 (by rw [Qaa, Qaa, Qaa, Qaa]; simp only [Array.size_append, cat, ((Qac _ _).trans hal), ((Qac _ _).trans hrl)]; rfl) 0 _ rfl) kj) ?_
  refine Qab (.bool false) 53 rfl kj (Qax (u := .bool ((kd == 1))) kj (congrArg Value.bool (beq_eq_false_iff_ne.2 (by omega)))) ?_
  refine Qaf ?_
  refine hK21 _ _ ?_
  refine cond_false kj ?_
  refine Qae ?_
  refine Qab (.pointer (some ⟨gw, 0, none⟩)) 58 rfl kj kj ?_
  refine Qab (.pointer (some ⟨g2, 166, none⟩)) 59 rfl kj kj ?_
  refine Qab (.agg (ints .u8 (start))) 60 rfl kj (Qau 40 _ g2 166 47 _ _ _ r2_9 rfl kj (Qak [ints .u8 (grp), #[.int .i64 ep], #[.int .i64 fr], ints .u8 (bas), #[.int .i64 kd], #[.bool us], #[.int .i64 nm], ints .u8 (key), ints .u8 (sg), ints .u8 (pa), #[.slice a_m ms.length c_m]] [ints .u8 (start)] [#[.int .i64 at_], ints .u8 (sig)] 166 (by rw [Qaa, Qaa, Qaa, Qaa, Qaa, Qaa, Qaa, Qaa, Qaa, Qaa, Qaa]; simp only [Array.size_append, cat, ((Qac _ _).trans hal), ((Qac _ _).trans hgl), ((Qac _ _).trans hkl), ((Qac _ _).trans hpl), ((Qac _ _).trans hrl)]; rfl)) kj (isz (n := 32) kj ((Qac _ _).trans htl))) ?_
  refine Qab (.agg (ints .u8 (List.replicate 32 0))) 61 rfl kj kj ?_
  refine Qab (.bool (decide (start = List.replicate 32 0))) 62 rfl kj (Qa1 40 _ _ _ _ _ (.bool (decide (start = List.replicate 32 0))) rfl kj kj kj (Qa6 40 (e := 5) (k := .u8) (start) (List.replicate 32 0) rfl htl (List.length_replicate (n := 32)) kj kj kj _)) ?_
  refine Qal (fun v W' => v = .tuple #[] ∧ GW base gw W9 W' ∧ WSt base gw (Qa0 (Qa0 (numS (Qa0 (rawS (QaI (numS (rawS (s) grp) ep 4) fr) bas) false) kd 1) (Qa7 us nm key sg pa ms)) (decide (start = List.replicate 32 0))) W') 98 #[.pointer (some ⟨gw, 0, none⟩), .bool (decide (start = List.replicate 32 0))] 63 rfl kj kj ((QbF base gw _ (decide (start = List.replicate 32 0)) _ ws19).mono (by rintro e w' ⟨rfl, h1, h2⟩; exact ⟨_, rfl, rfl, h1, h2⟩)) fun v22 W10 h22 => ?_
  obtain ⟨rfl, q10, ws22⟩ := h22
  have x10 : GW base gw w W10 := GW.trans x9 q10
  refine Qaf ?_
  refine hK20 _ _ ?_
  refine wp_seq_k fun K23 hK23 => ?_
  refine wp_seq_k fun K24 hK24 => ?_
  refine Qae ?_
  refine Qab (.pointer (some ⟨g2, 66, none⟩)) 64 rfl kj kj ?_
  have r2_10 := (GW.row q10 r2_9 (by decide) (Ne.symm (Nat.ne_of_lt (Nat.lt_of_lt_of_le hgw b2))))
  refine Qab (.int .i64 kd) 65 rfl kj (Qah 3 _ g2 66 47 _ (.int .i64 kd) _ r2_10 rfl kj (Qak [ints .u8 (grp), #[.int .i64 ep], #[.int .i64 fr], ints .u8 (bas)] [#[.int .i64 kd]] [#[.bool us], #[.int .i64 nm], ints .u8 (key), ints .u8 (sg), ints .u8 (pa), #[.slice a_m ms.length c_m], ints .u8 (start), #[.int .i64 at_], ints .u8 (sig)] 66 (by rw [Qaa, Qaa, Qaa, Qaa]; simp only [Array.size_append, cat, ((Qac _ _).trans hal), ((Qac _ _).trans hrl)]; rfl) 0 _ rfl) kj) ?_
  refine Qab (.bool false) 66 rfl kj (Qax (u := .bool ((kd == 3))) kj (congrArg Value.bool (beq_eq_false_iff_ne.2 (by omega)))) ?_
  refine Qaf ?_
  refine hK24 _ _ ?_
  refine cond_false kj ?_
  refine Qae ?_
  refine Qab (.pointer (some ⟨gw, 0, none⟩)) 71 rfl kj kj ?_
  refine Qab (.pointer (some ⟨g2, 198, none⟩)) 72 rfl kj kj ?_
  refine Qab (.int .i64 at_) 73 rfl kj (Qah 3 _ g2 198 47 _ (.int .i64 at_) _ r2_10 rfl kj (Qak [ints .u8 (grp), #[.int .i64 ep], #[.int .i64 fr], ints .u8 (bas), #[.int .i64 kd], #[.bool us], #[.int .i64 nm], ints .u8 (key), ints .u8 (sg), ints .u8 (pa), #[.slice a_m ms.length c_m], ints .u8 (start)] [#[.int .i64 at_]] [ints .u8 (sig)] 198 (by rw [Qaa, Qaa, Qaa, Qaa, Qaa, Qaa, Qaa, Qaa, Qaa, Qaa, Qaa, Qaa]; simp only [Array.size_append, cat, ((Qac _ _).trans hal), ((Qac _ _).trans hgl), ((Qac _ _).trans hkl), ((Qac _ _).trans hpl), ((Qac _ _).trans hrl), ((Qac _ _).trans htl)]; rfl) 0 _ rfl) kj) ?_
  refine Qab (.bool ((at_ == 0))) 74 rfl kj kj ?_
  refine Qal (fun v W' => v = .tuple #[] ∧ GW base gw W10 W' ∧ WSt base gw (Qa0 (Qa0 (Qa0 (numS (Qa0 (rawS (QaI (numS (rawS (s) grp) ep 4) fr) bas) false) kd 1) (Qa7 us nm key sg pa ms)) (decide (start = List.replicate 32 0))) ((at_ == 0))) W') 98 #[.pointer (some ⟨gw, 0, none⟩), .bool ((at_ == 0))] 75 rfl kj kj ((QbF base gw _ ((at_ == 0)) _ ws22).mono (by rintro e w' ⟨rfl, h1, h2⟩; exact ⟨_, rfl, rfl, h1, h2⟩)) fun v25 W11 h25 => ?_
  obtain ⟨rfl, q11, ws25⟩ := h25
  have x11 : GW base gw w W11 := GW.trans x10 q11
  refine Qaf ?_
  refine hK23 _ _ ?_
  refine Qae ?_
  refine Qab (.pointer (some ⟨gw, 0, none⟩)) 76 rfl kj kj ?_
  refine Qab (.pointer (some ⟨g2, 199, none⟩)) 77 rfl kj kj ?_
  refine Qab (.slice (some ⟨g2, 199, none⟩) 64 64) 78 rfl kj kj ?_
  have r2_11 := (GW.row q11 r2_10 (by decide) (Ne.symm (Nat.ne_of_lt (Nat.lt_of_lt_of_le hgw b2))))
  refine Qal (fun v W' => v = .tuple #[] ∧ GW base gw W11 W' ∧ WSt base gw (rawS (Qa0 (Qa0 (Qa0 (numS (Qa0 (rawS (QaI (numS (rawS (s) grp) ep 4) fr) bas) false) kd 1) (Qa7 us nm key sg pa ms)) (decide (start = List.replicate 32 0))) ((at_ == 0))) sig) W') 104 #[.pointer (some ⟨gw, 0, none⟩), .slice (some ⟨g2, 199, none⟩) 64 64] 79 rfl kj kj ((rawW base gw _ sig _ _ (Nat.le_trans hbw x11.size) ws25 (by omega) hib (fun W e => (QaC 199 hil (ExtB.row e r2_11 (Ne.symm (Nat.ne_of_lt (Nat.lt_of_lt_of_le hgw b2)))) (fun i hi => Qa8 [ints .u8 (grp), #[.int .i64 ep], #[.int .i64 fr], ints .u8 (bas), #[.int .i64 kd], #[.bool us], #[.int .i64 nm], ints .u8 (key), ints .u8 (sg), ints .u8 (pa), #[.slice a_m ms.length c_m], ints .u8 (start), #[.int .i64 at_]] [] sig 199 i (199 + i) (by rw [Qaa, Qaa, Qaa, Qaa, Qaa, Qaa, Qaa, Qaa, Qaa, Qaa, Qaa, Qaa, Qaa]; simp only [Array.size_append, cat, ((Qac _ _).trans hal), ((Qac _ _).trans hgl), ((Qac _ _).trans hkl), ((Qac _ _).trans hpl), ((Qac _ _).trans hrl), ((Qac _ _).trans htl)]; rfl) rfl (by rw [hil]; exact hi)) (Qay (ExtB.row e r2_11 (Ne.symm (Nat.ne_of_lt (Nat.lt_of_lt_of_le hgw b2))))) (Nat.le_refl _) (by decide)))).mono (by rintro e w' ⟨rfl, h1, h2⟩; exact ⟨_, rfl, rfl, h1, h2⟩)) fun v26 W12 h26 => ?_
  obtain ⟨rfl, q12, ws26⟩ := h26
  have x12 : GW base gw w W12 := GW.trans x11 q12
  refine Qaf ?_
  repeat (first | with_reducible refine goX1 ?_ | with_reducible refine goX2 ?_ | with_reducible refine goX3 ?_)
  exact (show bodyPost _ _ _ .normal _ _ from end0 rfl ⟨rfl, x12, ws26⟩)
end Go.Proofs.Ytfelfmchachljaa.Wr
end
section
namespace Go.Proofs.Ytfelfmchachljaa.Wr
open Go Go.RowKit
open Rely Auto Own Sha
set_option linter.unusedVariables false
set_option linter.unusedSimpArgs false
def QeF (s : Option (List Int)) (grp : List Int) (ep fr : Int) (bas : List Int) (kd : Int) : Option (List Int) := numS (Qa0 (rawS (QaI (numS (rawS s grp) ep 4) fr) bas) (decide (1 ≤ kd ∧ kd ≤ 3))) kd 1
def QcE (s : Option (List Int)) (grp : List Int) (ep fr : Int) (bas : List Int) (kd : Int) (us : Bool) (nm : Int) (key sg pa ms start : List Int) (at_ : Int) (sig : List Int) : Option (List Int) :=
  rawS (if kd = 1 then Qa0 (rawS (QbX (QeF s grp ep fr bas kd) us nm key sg pa ms) start) (at_ == 0)
    else if kd = 2 then Qa0 (Qa0 (QbX (QeF s grp ep fr bas kd) us nm key sg pa ms) (decide (start = List.replicate 32 0))) (at_ == 0)
    else if kd = 3 then QaI (Qa0 (Qa0 (QeF s grp ep fr bas kd) (Qa7 us nm key sg pa ms)) (decide (start = List.replicate 32 0))) at_ else none) sig
theorem Qd3 (n : Int) (k : Nat) : numS none n k = none := by unfold numS; rw [show Qa0 none (okN n k) = none by cases okN n k <;> rfl, QcF]
theorem QbC (b : Bool) : Qa0 none b = none := by cases b <;> rfl
set_option maxHeartbeats 4000000 in
theorem QeD (base gw : Nat) (s : Option (List Int)) (grp : List Int) (ep fr : Int) (bas : List Int) (kd : Int) (us : Bool) (nm : Int) (key sg pa ms start : List Int) (at_ : Int) (sig : List Int) (a_m : Option Addr) (c_m : Nat) (w : World) (hbw : base ≤ w.heap.size) (hbg : base ≤ gw) (h : WSt base gw s w) (hrl : grp.length = 32) (hrb : Qag grp) (hal : bas.length = 32) (hab : Qag bas) (hkl : key.length = 32) (hgl : sg.length = 32) (hpl : pa.length = 32) (hkb : Qag key) (hgb : Qag sg) (hpb : Qag pa) (hml : ms.length ≤ 1000000) (htl : start.length = 32) (htb : Qag start) (hil : sig.length = 64) (hib : Qag sig) (hm : RdK .i64 base ms (.slice a_m ms.length c_m) w) : Calls Try.prog 57 #[.pointer (some ⟨gw, 0, none⟩), .agg (cat [ints .u8 (grp), #[.int .i64 ep], #[.int .i64 fr], ints .u8 (bas), #[.int .i64 kd], #[.bool us], #[.int .i64 nm], ints .u8 (key), ints .u8 (sg), ints .u8 (pa), #[.slice a_m ms.length c_m], ints .u8 (start), #[.int .i64 at_], ints .u8 (sig)])] w (fun e W => e = .returned (.tuple #[]) ∧ GW base gw w W ∧ WSt base gw (QcE s grp ep fr bas kd us nm key sg pa ms start at_ sig) W) := by
  rcases (show kd = 1 ∨ kd = 2 ∨ kd = 3 ∨ kd < 1 ∨ 3 < kd by omega) with rfl | rfl | rfl | hk | hk
  ·
    exact (QfN base gw s grp ep fr bas us nm key sg pa ms start at_ sig a_m c_m w hbw hbg h hrl hrb hal hab hkl hgl hpl hkb hgb hpb hml htl htb hil hib hm).mono fun e W hh => ⟨hh.1, hh.2.1, hh.2.2⟩
  ·
    exact (QfM base gw s grp ep fr bas us nm key sg pa ms start at_ sig a_m c_m w hbw hbg h hrl hrb hal hab hkl hgl hpl hkb hgb hpb hml htl htb hil hib hm).mono fun e W hh => ⟨hh.1, hh.2.1, hh.2.2⟩
  ·
    exact (QfL base gw s grp ep fr bas us nm key sg pa ms start at_ sig a_m c_m w hbw hbg h hrl hrb hal hab hkl hgl hpl hkb hgb hpb hml htl htb hil hib hm).mono fun e W hh => ⟨hh.1, hh.2.1, hh.2.2⟩
  ·
    exact (QfJ base gw s kd hk grp ep fr bas us nm key sg pa ms start at_ sig a_m c_m w hbw hbg h hrl hrb hal hab hkl hgl hpl hkb hgb hpb hml htl htb hil hib hm).mono fun e W hh => ⟨hh.1, hh.2.1, by have h9 := hh.2.2; unfold QcE; rw [if_neg (by omega), if_neg (by omega), if_neg (by omega)]; rw [show Qa0 (rawS (QaI (numS (rawS s grp) ep 4) fr) bas) false = none from rfl, Qd3, QbC, QbC, QbC] at h9; exact h9⟩
  ·
    exact (QfK base gw s kd hk grp ep fr bas us nm key sg pa ms start at_ sig a_m c_m w hbw hbg h hrl hrb hal hab hkl hgl hpl hkb hgb hpb hml htl htb hil hib hm).mono fun e W hh => ⟨hh.1, hh.2.1, by have h9 := hh.2.2; unfold QcE; rw [if_neg (by omega), if_neg (by omega), if_neg (by omega)]; rw [show Qa0 (rawS (QaI (numS (rawS s grp) ep 4) fr) bas) false = none from rfl, Qd3, QbC, QbC, QbC] at h9; exact h9⟩
set_option maxHeartbeats 4000000 in
theorem QcC (grp : List Int) (ep fr : Int) (bas : List Int) (kd : Int) (us : Bool) (nm : Int) (key sg pa ms start : List Int) (at_ : Int) (sig : List Int) (a_m : Option Addr) (c_m : Nat) (w : World) (hrl : grp.length = 32) (hrb : Qag grp) (hal : bas.length = 32) (hab : Qag bas) (hkl : key.length = 32) (hgl : sg.length = 32) (hpl : pa.length = 32) (hkb : Qag key) (hgb : Qag sg) (hpb : Qag pa) (hml : ms.length ≤ 1000000) (htl : start.length = 32) (htb : Qag start) (hil : sig.length = 64) (hib : Qag sig) (hm : RdK .i64 w.heap.size ms (.slice a_m ms.length c_m) w) : Calls Try.prog 56 #[.agg (cat [ints .u8 (grp), #[.int .i64 ep], #[.int .i64 fr], ints .u8 (bas), #[.int .i64 kd], #[.bool us], #[.int .i64 nm], ints .u8 (key), ints .u8 (sg), ints .u8 (pa), #[.slice a_m ms.length c_m], ints .u8 (start), #[.int .i64 at_], ints .u8 (sig)]), .func (.func 57) #[] #[]] w (Qb1 w (PutR w.heap.size (QcE (some []) grp ep fr bas kd us nm key sg pa ms start at_ sig))) := by
 refine enter 22 [(0, .agg (cat [ints .u8 (grp), #[.int .i64 ep], #[.int .i64 fr], ints .u8 (bas), #[.int .i64 kd], #[.bool us], #[.int .i64 nm], ints .u8 (key), ints .u8 (sg), ints .u8 (pa), #[.slice a_m ms.length c_m], ints .u8 (start), #[.int .i64 at_], ints .u8 (sig)])), (1, .func (.func 57) #[] #[])] Try.func56 rfl rfl kj rfl ?_
 refine wp_seq_k fun K1 hK1 => ?_
 refine Qae ?_
 refine Qav (cat [ints .u8 (grp), #[.int .i64 ep], #[.int .i64 fr], ints .u8 (bas), #[.int .i64 kd], #[.bool us], #[.int .i64 nm], ints .u8 (key), ints .u8 (sg), ints .u8 (pa), #[.slice a_m ms.length c_m], ints .u8 (start), #[.int .i64 at_], ints .u8 (sig)]) 47 2 rfl kj kj fun g2 W1 l2 e1 r2_1 => ?_
 have x1 : Ext w W1 := Ext.tr (Rely.Ext.refl w) e1
 have b2 : w.heap.size ≤ g2 := Nat.le_trans (Rely.Ext.refl w).size l2
 refine Qab (.slice none 0 0) 4 rfl kj kj ?_
 refine Qab (.nilIface) 5 rfl kj kj ?_
 refine Qaf ?_
 refine hK1 _ _ ?_
 refine wp_seq_k fun K3 hK3 => ?_
 refine Qae ?_
 refine Qab (.agg (cat [#[.slice none 0 0], #[.bool false]])) 7 rfl kj kj ?_
 refine Qav (cat [#[.slice none 0 0], #[.bool false]]) 174 8 rfl kj kj fun g4 W2 l4 e2 r4_2 => ?_
 have x2 : Ext w W2 := Ext.tr x1 e2
 have b4 : w.heap.size ≤ g4 := Nat.le_trans x1.size l4
 refine Qab (.pointer (some ⟨g4, 0, none⟩)) 6 rfl kj kj ?_
 refine Qaf ?_
 refine hK3 _ _ ?_
 refine wp_seq_k fun K5 hK5 => ?_
 refine Qae ?_
 refine Qab (.func (.func 57) #[] #[]) 9 rfl kj kj ?_
 refine Qab (.pointer (some ⟨g4, 0, none⟩)) 10 rfl kj kj ?_
 have r2_2 := (Qas r2_1 e2)
 refine Qab (.agg (cat [ints .u8 (grp), #[.int .i64 ep], #[.int .i64 fr], ints .u8 (bas), #[.int .i64 kd], #[.bool us], #[.int .i64 nm], ints .u8 (key), ints .u8 (sg), ints .u8 (pa), #[.slice a_m ms.length c_m], ints .u8 (start), #[.int .i64 at_], ints .u8 (sig)])) 11 rfl kj (Qa4 47 _ g2 47 _ _ r2_2 rfl kj kj (isz (n := 263) kj (by rw [Qaa, Qaa, Qaa, Qaa, Qaa, Qaa, Qaa, Qaa, Qaa, Qaa, Qaa, Qaa, Qaa, Qaa]; simp only [Array.size_append, cat, ((Qac _ _).trans hal), ((Qac _ _).trans hgl), ((Qac _ _).trans hil), ((Qac _ _).trans hkl), ((Qac _ _).trans hpl), ((Qac _ _).trans hrl), ((Qac _ _).trans htl)]; rfl))) ?_
 refine Qal (fun v W' => v = .tuple #[] ∧ GW W1.heap.size g4 W2 W' ∧ WSt W1.heap.size g4 (QcE (some []) grp ep fr bas kd us nm key sg pa ms start at_ sig) W') 57 #[.pointer (some ⟨g4, 0, none⟩), .agg (cat [ints .u8 (grp), #[.int .i64 ep], #[.int .i64 fr], ints .u8 (bas), #[.int .i64 kd], #[.bool us], #[.int .i64 nm], ints .u8 (key), ints .u8 (sg), ints .u8 (pa), #[.slice a_m ms.length c_m], ints .u8 (start), #[.int .i64 at_], ints .u8 (sig)])] 12 rfl kj kj ((QeD W1.heap.size g4 (some []) grp ep fr bas kd us nm key sg pa ms start at_ sig a_m c_m _ (Nat.le_trans (Nat.le_refl _) e2.size) l4 ⟨_, [], false, r4_2, QbJ .u8 5 _ _, Nat.zero_le _, (fun x hx => by cases hx), rfl⟩ hrl hrb hal hab hkl hgl hpl hkb hgb hpb hml htl htb hil hib (RdK.more (RdK.ext hm x2) (Nat.le_trans (Nat.le_refl _) e1.size))).mono (by rintro e w' ⟨rfl, h1, h2⟩; exact ⟨_, rfl, rfl, h1, h2⟩)) fun v6 W3 h6 => ?_
 obtain ⟨rfl, q3, u, xs, bad, rb3, ho, -, -, hS⟩ := h6
 have x3 : Ext w W3 := GW.back x2 q3 (Nat.le_trans (Nat.le_refl _) e1.size) b4
 obtain ⟨au, cu, rfl, -⟩ := id (OwnN.rd ho)
 refine Qaf ?_
 refine hK5 _ _ ?_
 refine wp_seq_k fun K7 hK7 => ?_
 refine wp_seq_k fun K8 hK8 => ?_
 refine Qae ?_
 refine Qab (.pointer (some ⟨g4, 0, none⟩)) 13 rfl kj kj ?_
 refine Qab (.pointer (some ⟨g4, 0, none⟩)) 14 rfl kj kj ?_
 refine Qab (.pointer (some ⟨g4, 1, none⟩)) 15 rfl kj kj ?_
 refine Qab (.bool bad) 16 rfl kj (Qah 4 _ g4 1 174 _ (.bool bad) _ rb3 rfl kj kj kj) ?_
 refine Qaf ?_
 refine hK8 _ _ ?_
 refine QaM (t := bad) kj (fun c9 => ?_) (fun c9 => ?_)
 ·skip
  refine wp_seq_k fun K10 hK10 => ?_
  refine Qae ?_
  refine Qab (.iface 102 (.int .i64 3)) 17 rfl kj kj ?_
  refine Qab (.slice none 0 0) 4 rfl kj kj ?_
  refine Qab (.iface 102 (.int .i64 3)) 5 rfl kj kj ?_
  refine Qaf ?_
  refine hK10 _ _ ?_
  refine wp_ret ?_
  repeat (first | with_reducible refine goR1 ?_ | with_reducible refine goR2 ?_)
  exact (show bodyPost _ _ _ .ret _ _ from ret2 (.slice none 0 0) (.iface 102 (.int .i64 3)) rfl (Qaw kj) (Qaw kj) ⟨_, rfl, x3, by rw [hS, c9]; exact rfl⟩)
 ·skip
  refine wp_skip ?_
  refine hK7 _ _ ?_
  refine wp_seq_k fun K11 hK11 => ?_
  refine Qae ?_
  refine Qab (.pointer (some ⟨g4, 0, none⟩)) 18 rfl kj kj ?_
  refine Qab (.pointer (some ⟨g4, 0, none⟩)) 19 rfl kj kj ?_
  refine Qab (.pointer (some ⟨g4, 0, none⟩)) 20 rfl kj kj ?_
  refine Qab (.slice au xs.length cu) 21 rfl kj (Qah 26 _ g4 0 174 _ (.slice au xs.length cu) _ rb3 rfl kj kj kj) ?_
  refine Qab (.slice au xs.length cu) 4 rfl kj kj ?_
  refine Qab (.nilIface) 5 rfl kj kj ?_
  refine Qaf ?_
  refine hK11 _ _ ?_
  refine wp_ret ?_
  repeat (first | with_reducible refine goR1 ?_ | with_reducible refine goR2 ?_)
  exact (show bodyPost _ _ _ .ret _ _ from ret2 (.slice au xs.length cu) (.nilIface) rfl (Qaw kj) (Qaw kj) ⟨_, rfl, x3, by rw [hS, c9]; exact ⟨_, rfl, OwnN.base (Nat.le_trans (Nat.le_refl _) e1.size) ho⟩⟩)
set_option maxHeartbeats 4000000 in
theorem Qds (grp : List Int) (ep fr : Int) (bas : List Int) (kd : Int) (us : Bool) (nm : Int) (key sg pa ms start : List Int) (at_ : Int) (sig : List Int) (a_m : Option Addr) (c_m : Nat) (w : World) (hrl : grp.length = 32) (hrb : Qag grp) (hal : bas.length = 32) (hab : Qag bas) (hkl : key.length = 32) (hgl : sg.length = 32) (hpl : pa.length = 32) (hkb : Qag key) (hgb : Qag sg) (hpb : Qag pa) (hml : ms.length ≤ 1000000) (htl : start.length = 32) (htb : Qag start) (hil : sig.length = 64) (hib : Qag sig) (hm : RdK .i64 w.heap.size ms (.slice a_m ms.length c_m) w) (hS : QcE (some []) grp ep fr bas kd us nm key sg pa ms start at_ sig = none) : Calls Try.prog 21 #[.agg (cat [ints .u8 (grp), #[.int .i64 ep], #[.int .i64 fr], ints .u8 (bas), #[.int .i64 kd], #[.bool us], #[.int .i64 nm], ints .u8 (key), ints .u8 (sg), ints .u8 (pa), #[.slice a_m ms.length c_m], ints .u8 (start), #[.int .i64 at_], ints .u8 (sig)])] w (Qb1 w (PutR w.heap.size (none))) := by
  refine enter 8 [(0, .agg (cat [ints .u8 (grp), #[.int .i64 ep], #[.int .i64 fr], ints .u8 (bas), #[.int .i64 kd], #[.bool us], #[.int .i64 nm], ints .u8 (key), ints .u8 (sg), ints .u8 (pa), #[.slice a_m ms.length c_m], ints .u8 (start), #[.int .i64 at_], ints .u8 (sig)]))] Try.func21 rfl rfl kj rfl ?_
  refine wp_seq_k fun K1 hK1 => ?_
  refine Qae ?_
  refine Qav (cat [ints .u8 (grp), #[.int .i64 ep], #[.int .i64 fr], ints .u8 (bas), #[.int .i64 kd], #[.bool us], #[.int .i64 nm], ints .u8 (key), ints .u8 (sg), ints .u8 (pa), #[.slice a_m ms.length c_m], ints .u8 (start), #[.int .i64 at_], ints .u8 (sig)]) 47 1 rfl kj kj fun g2 W1 l2 e1 r2_1 => ?_
  have x1 : Ext w W1 := Ext.tr (Rely.Ext.refl w) e1
  have b2 : w.heap.size ≤ g2 := Nat.le_trans (Rely.Ext.refl w).size l2
  refine Qab (.slice none 0 0) 2 rfl kj kj ?_
  refine Qab (.nilIface) 3 rfl kj kj ?_
  refine Qaf ?_
  refine hK1 _ _ ?_
  refine wp_seq_k fun K3 hK3 => ?_
  refine Qae ?_
  refine Qab (.agg (cat [ints .u8 (grp), #[.int .i64 ep], #[.int .i64 fr], ints .u8 (bas), #[.int .i64 kd], #[.bool us], #[.int .i64 nm], ints .u8 (key), ints .u8 (sg), ints .u8 (pa), #[.slice a_m ms.length c_m], ints .u8 (start), #[.int .i64 at_], ints .u8 (sig)])) 4 rfl kj (Qa4 47 _ g2 47 _ _ r2_1 rfl kj kj (isz (n := 263) kj (by rw [Qaa, Qaa, Qaa, Qaa, Qaa, Qaa, Qaa, Qaa, Qaa, Qaa, Qaa, Qaa, Qaa, Qaa]; simp only [Array.size_append, cat, ((Qac _ _).trans hal), ((Qac _ _).trans hgl), ((Qac _ _).trans hil), ((Qac _ _).trans hkl), ((Qac _ _).trans hpl), ((Qac _ _).trans hrl), ((Qac _ _).trans htl)]; rfl))) ?_
  refine Qal (fun v W' => (PutR W1.heap.size (QcE (some []) grp ep fr bas kd us nm key sg pa ms start at_ sig)) v W' ∧ Ext W1 W') 56 #[.agg (cat [ints .u8 (grp), #[.int .i64 ep], #[.int .i64 fr], ints .u8 (bas), #[.int .i64 kd], #[.bool us], #[.int .i64 nm], ints .u8 (key), ints .u8 (sg), ints .u8 (pa), #[.slice a_m ms.length c_m], ints .u8 (start), #[.int .i64 at_], ints .u8 (sig)]), .func (.func 57) #[] #[]] 5 rfl kj kj ((QcC grp ep fr bas kd us nm key sg pa ms start at_ sig a_m c_m _ hrl hrb hal hab hkl hgl hpl hkb hgb hpb hml htl htb hil hib (RdK.here (RdK.ext hm x1))).mono (by rintro e w' ⟨v, rfl, e1, hv⟩; exact ⟨v, rfl, hv, e1⟩)) fun vv4 W2 hh4 => ?_
  obtain ⟨hv4, e2⟩ := hh4
  have x2 : Ext w W2 := Ext.tr x1 e2
  rw [hS] at hv4
  have hv2 : vv4 = .tuple #[.slice none 0 0, .iface 102 (.int .i64 3)] := hv4
  subst hv2
  refine Qab (.slice none 0 0) 6 rfl kj kj ?_
  refine Qab (.iface 102 (.int .i64 3)) 7 rfl kj kj ?_
  refine Qab (.slice none 0 0) 2 rfl kj kj ?_
  refine Qab (.iface 102 (.int .i64 3)) 3 rfl kj kj ?_
  refine Qaf ?_
  refine hK3 _ _ ?_
  refine wp_ret ?_
  repeat (first | with_reducible refine goR1 ?_ | with_reducible refine goR2 ?_)
  exact (show bodyPost _ _ _ .ret _ _ from ret2 (.slice none 0 0) (.iface 102 (.int .i64 3)) rfl (Qaw kj) (Qaw kj) ⟨_, rfl, x2, rfl⟩)
set_option maxHeartbeats 4000000 in
theorem Qdr (grp : List Int) (ep fr : Int) (bas : List Int) (kd : Int) (us : Bool) (nm : Int) (key sg pa ms start : List Int) (at_ : Int) (sig : List Int) (a_m : Option Addr) (c_m : Nat) (w : World) (hrl : grp.length = 32) (hrb : Qag grp) (hal : bas.length = 32) (hab : Qag bas) (hkl : key.length = 32) (hgl : sg.length = 32) (hpl : pa.length = 32) (hkb : Qag key) (hgb : Qag sg) (hpb : Qag pa) (hml : ms.length ≤ 1000000) (htl : start.length = 32) (htb : Qag start) (hil : sig.length = 64) (hib : Qag sig) (hm : RdK .i64 w.heap.size ms (.slice a_m ms.length c_m) w) (xs : List Int) (hS : QcE (some []) grp ep fr bas kd us nm key sg pa ms start at_ sig = some xs) : Calls Try.prog 21 #[.agg (cat [ints .u8 (grp), #[.int .i64 ep], #[.int .i64 fr], ints .u8 (bas), #[.int .i64 kd], #[.bool us], #[.int .i64 nm], ints .u8 (key), ints .u8 (sg), ints .u8 (pa), #[.slice a_m ms.length c_m], ints .u8 (start), #[.int .i64 at_], ints .u8 (sig)])] w (Qb1 w (PutR w.heap.size (some xs))) := by
  refine enter 8 [(0, .agg (cat [ints .u8 (grp), #[.int .i64 ep], #[.int .i64 fr], ints .u8 (bas), #[.int .i64 kd], #[.bool us], #[.int .i64 nm], ints .u8 (key), ints .u8 (sg), ints .u8 (pa), #[.slice a_m ms.length c_m], ints .u8 (start), #[.int .i64 at_], ints .u8 (sig)]))] Try.func21 rfl rfl kj rfl ?_
  refine wp_seq_k fun K1 hK1 => ?_
  refine Qae ?_
  refine Qav (cat [ints .u8 (grp), #[.int .i64 ep], #[.int .i64 fr], ints .u8 (bas), #[.int .i64 kd], #[.bool us], #[.int .i64 nm], ints .u8 (key), ints .u8 (sg), ints .u8 (pa), #[.slice a_m ms.length c_m], ints .u8 (start), #[.int .i64 at_], ints .u8 (sig)]) 47 1 rfl kj kj fun g2 W1 l2 e1 r2_1 => ?_
  have x1 : Ext w W1 := Ext.tr (Rely.Ext.refl w) e1
  have b2 : w.heap.size ≤ g2 := Nat.le_trans (Rely.Ext.refl w).size l2
  refine Qab (.slice none 0 0) 2 rfl kj kj ?_
  refine Qab (.nilIface) 3 rfl kj kj ?_
  refine Qaf ?_
  refine hK1 _ _ ?_
  refine wp_seq_k fun K3 hK3 => ?_
  refine Qae ?_
  refine Qab (.agg (cat [ints .u8 (grp), #[.int .i64 ep], #[.int .i64 fr], ints .u8 (bas), #[.int .i64 kd], #[.bool us], #[.int .i64 nm], ints .u8 (key), ints .u8 (sg), ints .u8 (pa), #[.slice a_m ms.length c_m], ints .u8 (start), #[.int .i64 at_], ints .u8 (sig)])) 4 rfl kj (Qa4 47 _ g2 47 _ _ r2_1 rfl kj kj (isz (n := 263) kj (by rw [Qaa, Qaa, Qaa, Qaa, Qaa, Qaa, Qaa, Qaa, Qaa, Qaa, Qaa, Qaa, Qaa, Qaa]; simp only [Array.size_append, cat, ((Qac _ _).trans hal), ((Qac _ _).trans hgl), ((Qac _ _).trans hil), ((Qac _ _).trans hkl), ((Qac _ _).trans hpl), ((Qac _ _).trans hrl), ((Qac _ _).trans htl)]; rfl))) ?_
  refine Qal (fun v W' => (PutR W1.heap.size (QcE (some []) grp ep fr bas kd us nm key sg pa ms start at_ sig)) v W' ∧ Ext W1 W') 56 #[.agg (cat [ints .u8 (grp), #[.int .i64 ep], #[.int .i64 fr], ints .u8 (bas), #[.int .i64 kd], #[.bool us], #[.int .i64 nm], ints .u8 (key), ints .u8 (sg), ints .u8 (pa), #[.slice a_m ms.length c_m], ints .u8 (start), #[.int .i64 at_], ints .u8 (sig)]), .func (.func 57) #[] #[]] 5 rfl kj kj ((QcC grp ep fr bas kd us nm key sg pa ms start at_ sig a_m c_m _ hrl hrb hal hab hkl hgl hpl hkb hgb hpb hml htl htb hil hib (RdK.here (RdK.ext hm x1))).mono (by rintro e w' ⟨v, rfl, e1, hv⟩; exact ⟨v, rfl, hv, e1⟩)) fun vv4 W2 hh4 => ?_
  obtain ⟨hv4, e2⟩ := hh4
  have x2 : Ext w W2 := Ext.tr x1 e2
  rw [hS] at hv4
  obtain ⟨u5_, rfl, hu5_⟩ := hv4
  obtain ⟨a5_, c5_, rfl, -⟩ := id (OwnN.rd hu5_)
  refine Qab (.slice a5_ ((xs).length) c5_) 6 rfl kj kj ?_
  refine Qab (.nilIface) 7 rfl kj kj ?_
  refine Qab (.slice a5_ ((xs).length) c5_) 2 rfl kj kj ?_
  refine Qab (.nilIface) 3 rfl kj kj ?_
  refine Qaf ?_
  refine hK3 _ _ ?_
  refine wp_ret ?_
  repeat (first | with_reducible refine goR1 ?_ | with_reducible refine goR2 ?_)
  exact (show bodyPost _ _ _ .ret _ _ from ret2 (.slice a5_ ((xs).length) c5_) (.nilIface) rfl (Qaw kj) (Qaw kj) ⟨_, rfl, x2, _, rfl, OwnN.base x1.size hu5_⟩)
end Go.Proofs.Ytfelfmchachljaa.Wr
end
section
namespace Go.Proofs.Ytfelfmchachljaa.Wr
open Go Go.RowKit
open Rely Auto Own Sha
set_option linter.unusedVariables false
set_option linter.unusedSimpArgs false
set_option maxHeartbeats 4000000 in
set_option maxRecDepth 100000 in
theorem Qc4 (xs : List Int) (a_y : Option Addr) (c_y : Nat) (w : World) (hyb : Qag xs) (hy : RdK .u8 w.heap.size xs (.slice a_y xs.length c_y) w) (hS : Qbx (Qai xs) = some []) : Calls Try.prog 60 #[.slice a_y xs.length c_y, .func (.func 61) #[] #[]] w (Qb1 w (fun v W => ∃ (a : Option Addr) (c : Nat), v = .tuple #[.agg (cat [ints .u8 (qGrp (Qai xs)), #[.int .i64 (qEp (Qai xs))], #[.int .i64 (qFr (Qai xs))], ints .u8 (qBa (Qai xs)), #[.int .i64 ((qKd (Qai xs) : Nat) : Int)], #[.bool (qUs (Qai xs))], #[.int .i64 (qNm (Qai xs))], ints .u8 (qKy (Qai xs)), ints .u8 (qSg (Qai xs)), ints .u8 (qPa (Qai xs)), #[.slice a (qL (Qai xs)).length c], ints .u8 (qSt (Qai xs)), #[.int .i64 (qAt (Qai xs))], ints .u8 (qSig (Qai xs))]), .nilIface] ∧ OwnN .i64 3 w.heap.size (qL (Qai xs)) (.slice a (qL (Qai xs)).length c) W)) := by
  refine enter 33 [(0, .slice a_y xs.length c_y), (1, .func (.func 61) #[] #[])] Try.func60 rfl rfl kj rfl ?_
  refine wp_seq_k fun K1 hK1 => ?_
  refine Qae ?_
  refine Qav (cat [ints .u8 (List.replicate 32 0), #[.int .i64 0], #[.int .i64 0], ints .u8 (List.replicate 32 0), #[.int .i64 0], #[.bool false], #[.int .i64 0], ints .u8 (List.replicate 32 0), ints .u8 (List.replicate 32 0), ints .u8 (List.replicate 32 0), #[.slice none 0 0], ints .u8 (List.replicate 32 0), #[.int .i64 0], ints .u8 (List.replicate 64 0)]) 47 4 rfl kj (QaZ 47 _ rfl (Qb3 _)) fun g2 W1 l2 e1 r2_1 => ?_
  have x1 : Ext w W1 := Ext.tr (Rely.Ext.refl w) e1
  have b2 : w.heap.size ≤ g2 := Nat.le_trans (Rely.Ext.refl w).size l2
  refine Qab (.nilIface) 5 rfl kj kj ?_
  refine Qaf ?_
  refine hK1 _ _ ?_
  refine wp_seq_k fun K3 hK3 => ?_
  refine Qae ?_
  refine Qab (.slice a_y xs.length c_y) 9 rfl kj kj ?_
  refine Qab (.slice a_y xs.length c_y) 10 rfl kj kj ?_
  refine Qab (.int .i64 ((xs.length : Nat) : Int)) 11 rfl kj kj ?_
  refine Qab (.bool (decide (((xs.length : Nat) : Int) > 65536))) 12 rfl kj kj ?_
  refine Qab (.agg (cat [#[.slice a_y xs.length c_y], #[.bool (decide (((xs.length : Nat) : Int) > 65536))]])) 13 rfl kj kj ?_
  refine Qav (cat [#[.slice a_y xs.length c_y], #[.bool (decide (((xs.length : Nat) : Int) > 65536))]]) 179 14 rfl kj kj fun g4 W2 l4 e2 r4_2 => ?_
  have x2 : Ext w W2 := Ext.tr x1 e2
  have b4 : w.heap.size ≤ g4 := Nat.le_trans x1.size l4
  refine Qab (.pointer (some ⟨g4, 0, none⟩)) 6 rfl kj kj ?_
  refine Qaf ?_
  refine hK3 _ _ ?_
  refine wp_seq_k fun K5 hK5 => ?_
  refine Qae ?_
  refine Qab (.func (.func 61) #[] #[]) 15 rfl kj kj ?_
  refine Qab (.pointer (some ⟨g4, 0, none⟩)) 16 rfl kj kj ?_
  refine Qal (fun v W' => ExtB g4 W2 W' ∧ RSt w.heap.size g4 (Qbx (Qai xs)) W' ∧ ∃ (xz : List Int) (a : Option Addr) (c : Nat), v = .agg (cat [ints .u8 (qGrp (Qai xs)), #[.int .i64 (qEp (Qai xs))], #[.int .i64 (qFr (Qai xs))], ints .u8 (qBa (Qai xs)), #[.int .i64 ((qKd (Qai xs) : Nat) : Int)], #[.bool (qUs (Qai xs))], #[.int .i64 (qNm (Qai xs))], ints .u8 (qKy (Qai xs)), ints .u8 (qSg (Qai xs)), ints .u8 (qPa (Qai xs)), #[.slice a xz.length c], ints .u8 (qSt (Qai xs)), #[.int .i64 (qAt (Qai xs))], ints .u8 (qSig (Qai xs))]) ∧ OwnN .i64 3 W2.heap.size xz (.slice a xz.length c) W' ∧ xz.length ≤ 255 ∧ (Qbx (Qai xs) ≠ none → xz = qL (Qai xs))) 61 #[.pointer (some ⟨g4, 0, none⟩)] 17 rfl kj kj (Qgu w.heap.size g4 (Qai xs) _ b4 ⟨_, xs, _, r4_2, RdK.ext hy x2, hyb, rfl⟩) fun vv6 W3 hh6 => ?_
  obtain ⟨q3, ⟨u6, xs2, bad, rb3, hu6, -, hS2⟩, hv6⟩ := hh6
  rw [hS] at hS2
  obtain ⟨au_, cu_, rfl, -⟩ := id hu6
  obtain ⟨rfl, rfl⟩ : bad = false ∧ xs2 = [] := by cases bad with | true => cases hS2 | false => exact ⟨rfl, (Option.some.inj hS2).symm⟩
  have rc3 : W3.heap[g4]? = some (.cells (cat [#[.slice au_ 0 cu_], #[.bool false]]) 179) := rb3
  have x3 : Ext w W3 := ExtB.toExt x2 q3 b4
  obtain ⟨xl, al, cl, rfl, hol, hll, hxl⟩ := hv6
  obtain rfl : xl = qL (Qai xs) := hxl (by rw [hS]; exact fun h => by cases h)
  refine Qav (cat [ints .u8 (List.replicate 32 0), #[.int .i64 0], #[.int .i64 0], ints .u8 (List.replicate 32 0), #[.int .i64 0], #[.bool false], #[.int .i64 0], ints .u8 (List.replicate 32 0), ints .u8 (List.replicate 32 0), ints .u8 (List.replicate 32 0), #[.slice none 0 0], ints .u8 (List.replicate 32 0), #[.int .i64 0], ints .u8 (List.replicate 64 0)]) 47 7 rfl kj (QaZ 47 _ rfl (Qb3 _)) fun g7 W4 l7 e4 r7_4 => ?_
  have x4 : Ext w W4 := Ext.tr x3 e4
  have b7 : w.heap.size ≤ g7 := Nat.le_trans x3.size l7
  refine Qa2 g7 _ (cat [ints .u8 (qGrp (Qai xs)), #[.int .i64 (qEp (Qai xs))], #[.int .i64 (qFr (Qai xs))], ints .u8 (qBa (Qai xs)), #[.int .i64 ((qKd (Qai xs) : Nat) : Int)], #[.bool (qUs (Qai xs))], #[.int .i64 (qNm (Qai xs))], ints .u8 (qKy (Qai xs)), ints .u8 (qSg (Qai xs)), ints .u8 (qPa (Qai xs)), #[.slice al ((qL (Qai xs)).length) cl], ints .u8 (qSt (Qai xs)), #[.int .i64 (qAt (Qai xs))], ints .u8 (qSig (Qai xs))]) 47 r7_4 rfl kj (Qaz 47 _ _ g7 47 _ _ r7_4 rfl kj kj (isz (n := 263) kj (by rw [Qaa, Qaa, Qaa, Qaa, Qaa, Qaa, Qaa, Qaa, Qaa, Qaa, Qaa, Qaa, Qaa, Qaa]; simp only [Array.size_append, cat, ((Qac _ _).trans (QbU (Qai xs))), ((Qac _ _).trans (Qb7 (Qai xs))), ((Qac _ _).trans (QbT (Qai xs))), ((Qac _ _).trans (QbS (Qai xs))), ((Qac _ _).trans (QbR (Qai xs))), ((Qac _ _).trans (Qb6 (Qai xs))), ((Qac _ _).trans (QbQ (Qai xs)))]; rfl)) (eqsz (n := 263) (by rw [Qaa, Qaa, Qaa, Qaa, Qaa, Qaa, Qaa, Qaa, Qaa, Qaa, Qaa, Qaa, Qaa, Qaa]; simp only [Array.size_append, cat, ((Qac _ _).trans (List.length_replicate (n := 32))), ((Qac _ _).trans (List.length_replicate (n := 64)))]; rfl) (by rw [Qaa, Qaa, Qaa, Qaa, Qaa, Qaa, Qaa, Qaa, Qaa, Qaa, Qaa, Qaa, Qaa, Qaa]; simp only [Array.size_append, cat, ((Qac _ _).trans (QbU (Qai xs))), ((Qac _ _).trans (Qb7 (Qai xs))), ((Qac _ _).trans (QbT (Qai xs))), ((Qac _ _).trans (QbS (Qai xs))), ((Qac _ _).trans (QbR (Qai xs))), ((Qac _ _).trans (Qb6 (Qai xs))), ((Qac _ _).trans (QbQ (Qai xs)))]; rfl)) (QaP _ (by intro a ha; simp only [List.mem_cons, List.not_mem_nil, or_false] at ha; rcases ha with rfl | rfl | rfl | rfl | rfl | rfl | rfl | rfl | rfl | rfl | rfl | rfl | rfl | rfl; exact (Qat _ _); exact (Qaq _ rfl); exact (Qaq _ rfl); exact (Qat _ _); exact (Qaq _ rfl); exact (Qaq _ rfl); exact (Qaq _ rfl); exact (Qat _ _); exact (Qat _ _); exact (Qat _ _); exact (Qaq _ rfl); exact (Qat _ _); exact (Qaq _ rfl); exact (Qat _ _)))) fun W5 p5 r7_5 => ?_
  have x5 : Ext w W5 := Puts.ext p5 x4 b7
  refine Qaf ?_
  refine hK5 _ _ ?_
  refine wp_seq_k fun K8 hK8 => ?_
  refine wp_seq_k fun K9 hK9 => ?_
  refine Qae ?_
  refine Qab (.pointer (some ⟨g4, 0, none⟩)) 18 rfl kj kj ?_
  refine Qab (.pointer (some ⟨g4, 0, none⟩)) 19 rfl kj kj ?_
  refine Qab (.pointer (some ⟨g4, 1, none⟩)) 20 rfl kj kj ?_
  have r4_4 := (Qas rc3 e4)
  have r4_5 := (Puts.row p5 r4_4 (QaA rc3 l7))
  refine Qab (.bool false) 21 rfl kj (Qah 4 _ g4 1 179 _ (.bool false) _ r4_5 rfl kj kj kj) ?_
  refine Qab (.bool false) 22 rfl kj kj ?_
  refine Qab (.pointer (some ⟨g4, 0, none⟩)) 23 rfl kj kj ?_
  refine Qab (.pointer (some ⟨g4, 0, none⟩)) 24 rfl kj kj ?_
  refine Qab (.pointer (some ⟨g4, 0, none⟩)) 25 rfl kj kj ?_
  refine Qab (.slice au_ 0 cu_) 26 rfl kj (Qah 26 _ g4 0 179 _ (.slice au_ 0 cu_) _ r4_5 rfl kj kj kj) ?_
  refine Qab (.int .i64 0) 27 rfl kj kj ?_
  refine Qab (.bool false) 28 rfl kj kj ?_
  refine Qab (.bool false) 29 rfl kj kj ?_
  refine Qaf ?_
  refine hK9 _ _ ?_
  refine cond_false kj ?_
  refine wp_skip ?_
  refine hK8 _ _ ?_
  refine wp_seq_k fun K10 hK10 => ?_
  refine Qae ?_
  refine Qab (.agg (cat [ints .u8 (qGrp (Qai xs)), #[.int .i64 (qEp (Qai xs))], #[.int .i64 (qFr (Qai xs))], ints .u8 (qBa (Qai xs)), #[.int .i64 ((qKd (Qai xs) : Nat) : Int)], #[.bool (qUs (Qai xs))], #[.int .i64 (qNm (Qai xs))], ints .u8 (qKy (Qai xs)), ints .u8 (qSg (Qai xs)), ints .u8 (qPa (Qai xs)), #[.slice al ((qL (Qai xs)).length) cl], ints .u8 (qSt (Qai xs)), #[.int .i64 (qAt (Qai xs))], ints .u8 (qSig (Qai xs))])) 32 rfl kj (Qa4 47 _ g7 47 _ _ r7_5 rfl kj kj (isz (n := 263) kj (by rw [Qaa, Qaa, Qaa, Qaa, Qaa, Qaa, Qaa, Qaa, Qaa, Qaa, Qaa, Qaa, Qaa, Qaa]; simp only [Array.size_append, cat, ((Qac _ _).trans (QbU (Qai xs))), ((Qac _ _).trans (Qb7 (Qai xs))), ((Qac _ _).trans (QbT (Qai xs))), ((Qac _ _).trans (QbS (Qai xs))), ((Qac _ _).trans (QbR (Qai xs))), ((Qac _ _).trans (Qb6 (Qai xs))), ((Qac _ _).trans (QbQ (Qai xs)))]; rfl))) ?_
  have r2_2 := (Qas r2_1 e2)
  have r2_3 := (ExtB.row q3 r2_2 (QaA r2_1 l4))
  have r2_4 := (Qas r2_3 e4)
  have r2_5 := (Puts.row p5 r2_4 (QaA r2_3 l7))
  refine Qa2 g2 _ (cat [ints .u8 (qGrp (Qai xs)), #[.int .i64 (qEp (Qai xs))], #[.int .i64 (qFr (Qai xs))], ints .u8 (qBa (Qai xs)), #[.int .i64 ((qKd (Qai xs) : Nat) : Int)], #[.bool (qUs (Qai xs))], #[.int .i64 (qNm (Qai xs))], ints .u8 (qKy (Qai xs)), ints .u8 (qSg (Qai xs)), ints .u8 (qPa (Qai xs)), #[.slice al ((qL (Qai xs)).length) cl], ints .u8 (qSt (Qai xs)), #[.int .i64 (qAt (Qai xs))], ints .u8 (qSig (Qai xs))]) 47 r2_5 rfl kj (Qaz 47 _ _ g2 47 _ _ r2_5 rfl kj kj (isz (n := 263) kj (by rw [Qaa, Qaa, Qaa, Qaa, Qaa, Qaa, Qaa, Qaa, Qaa, Qaa, Qaa, Qaa, Qaa, Qaa]; simp only [Array.size_append, cat, ((Qac _ _).trans (QbU (Qai xs))), ((Qac _ _).trans (Qb7 (Qai xs))), ((Qac _ _).trans (QbT (Qai xs))), ((Qac _ _).trans (QbS (Qai xs))), ((Qac _ _).trans (QbR (Qai xs))), ((Qac _ _).trans (Qb6 (Qai xs))), ((Qac _ _).trans (QbQ (Qai xs)))]; rfl)) (eqsz (n := 263) (by rw [Qaa, Qaa, Qaa, Qaa, Qaa, Qaa, Qaa, Qaa, Qaa, Qaa, Qaa, Qaa, Qaa, Qaa]; simp only [Array.size_append, cat, ((Qac _ _).trans (List.length_replicate (n := 32))), ((Qac _ _).trans (List.length_replicate (n := 64)))]; rfl) (by rw [Qaa, Qaa, Qaa, Qaa, Qaa, Qaa, Qaa, Qaa, Qaa, Qaa, Qaa, Qaa, Qaa, Qaa]; simp only [Array.size_append, cat, ((Qac _ _).trans (QbU (Qai xs))), ((Qac _ _).trans (Qb7 (Qai xs))), ((Qac _ _).trans (QbT (Qai xs))), ((Qac _ _).trans (QbS (Qai xs))), ((Qac _ _).trans (QbR (Qai xs))), ((Qac _ _).trans (Qb6 (Qai xs))), ((Qac _ _).trans (QbQ (Qai xs)))]; rfl)) (QaP _ (by intro a ha; simp only [List.mem_cons, List.not_mem_nil, or_false] at ha; rcases ha with rfl | rfl | rfl | rfl | rfl | rfl | rfl | rfl | rfl | rfl | rfl | rfl | rfl | rfl; exact (Qat _ _); exact (Qaq _ rfl); exact (Qaq _ rfl); exact (Qat _ _); exact (Qaq _ rfl); exact (Qaq _ rfl); exact (Qaq _ rfl); exact (Qat _ _); exact (Qat _ _); exact (Qat _ _); exact (Qaq _ rfl); exact (Qat _ _); exact (Qaq _ rfl); exact (Qat _ _)))) fun W6 p6 r2_6 => ?_
  have x6 : Ext w W6 := Puts.ext p6 x5 b2
  refine Qab (.nilIface) 5 rfl kj kj ?_
  refine Qaf ?_
  refine hK10 _ _ ?_
  refine wp_ret ?_
  repeat (first | with_reducible refine goR1 ?_ | with_reducible refine goR2 ?_)
  have f11_4 := (hol.ext e4)
  have f12_5 := (f11_4.puts p5 (Qcy hol l7))
  have f13_6 := (f12_5.puts p6 (QaV hol (Qay r2_2)))
  exact (show bodyPost _ _ _ .ret _ _ from ret2 (.agg (cat [ints .u8 (qGrp (Qai xs)), #[.int .i64 (qEp (Qai xs))], #[.int .i64 (qFr (Qai xs))], ints .u8 (qBa (Qai xs)), #[.int .i64 ((qKd (Qai xs) : Nat) : Int)], #[.bool (qUs (Qai xs))], #[.int .i64 (qNm (Qai xs))], ints .u8 (qKy (Qai xs)), ints .u8 (qSg (Qai xs)), ints .u8 (qPa (Qai xs)), #[.slice al ((qL (Qai xs)).length) cl], ints .u8 (qSt (Qai xs)), #[.int .i64 (qAt (Qai xs))], ints .u8 (qSig (Qai xs))])) (.nilIface) rfl (QaW g2 47 _ r2_6 kj kj (isz (n := 263) kj (by rw [Qaa, Qaa, Qaa, Qaa, Qaa, Qaa, Qaa, Qaa, Qaa, Qaa, Qaa, Qaa, Qaa, Qaa]; simp only [Array.size_append, cat, ((Qac _ _).trans (QbU (Qai xs))), ((Qac _ _).trans (Qb7 (Qai xs))), ((Qac _ _).trans (QbT (Qai xs))), ((Qac _ _).trans (QbS (Qai xs))), ((Qac _ _).trans (QbR (Qai xs))), ((Qac _ _).trans (Qb6 (Qai xs))), ((Qac _ _).trans (QbQ (Qai xs)))]; rfl))) (Qaw kj) ⟨_, rfl, x6, _, _, rfl, OwnN.base x2.size f13_6⟩)
set_option maxHeartbeats 4000000 in
set_option maxRecDepth 100000 in
theorem QcA (xs : List Int) (a_y : Option Addr) (c_y : Nat) (w : World) (hyb : Qag xs) (hy : RdK .u8 w.heap.size xs (.slice a_y xs.length c_y) w) (hS : Qbx (Qai xs) = some []) : Calls Try.prog 23 #[.slice a_y xs.length c_y] w (Qb1 w (fun v W => ∃ (a : Option Addr) (c : Nat), v = .tuple #[.agg (cat [ints .u8 (qGrp (Qai xs)), #[.int .i64 (qEp (Qai xs))], #[.int .i64 (qFr (Qai xs))], ints .u8 (qBa (Qai xs)), #[.int .i64 ((qKd (Qai xs) : Nat) : Int)], #[.bool (qUs (Qai xs))], #[.int .i64 (qNm (Qai xs))], ints .u8 (qKy (Qai xs)), ints .u8 (qSg (Qai xs)), ints .u8 (qPa (Qai xs)), #[.slice a (qL (Qai xs)).length c], ints .u8 (qSt (Qai xs)), #[.int .i64 (qAt (Qai xs))], ints .u8 (qSig (Qai xs))]), .nilIface] ∧ OwnN .i64 3 w.heap.size (qL (Qai xs)) (.slice a (qL (Qai xs)).length c) W)) := by
  refine enter 8 [(0, .slice a_y xs.length c_y)] Try.func23 rfl rfl kj rfl ?_
  refine wp_seq_k fun K1 hK1 => ?_
  refine Qae ?_
  refine Qav (cat [ints .u8 (List.replicate 32 0), #[.int .i64 0], #[.int .i64 0], ints .u8 (List.replicate 32 0), #[.int .i64 0], #[.bool false], #[.int .i64 0], ints .u8 (List.replicate 32 0), ints .u8 (List.replicate 32 0), ints .u8 (List.replicate 32 0), #[.slice none 0 0], ints .u8 (List.replicate 32 0), #[.int .i64 0], ints .u8 (List.replicate 64 0)]) 47 2 rfl kj (QaZ 47 _ rfl (Qb3 _)) fun g2 W1 l2 e1 r2_1 => ?_
  have x1 : Ext w W1 := Ext.tr (Rely.Ext.refl w) e1
  have b2 : w.heap.size ≤ g2 := Nat.le_trans (Rely.Ext.refl w).size l2
  refine Qab (.nilIface) 3 rfl kj kj ?_
  refine Qaf ?_
  refine hK1 _ _ ?_
  refine wp_seq_k fun K3 hK3 => ?_
  refine Qae ?_
  refine Qab (.slice a_y xs.length c_y) 4 rfl kj kj ?_
  refine Qal (fun v W' => (fun v W => ∃ (a : Option Addr) (c : Nat), v = .tuple #[.agg (cat [ints .u8 (qGrp (Qai xs)), #[.int .i64 (qEp (Qai xs))], #[.int .i64 (qFr (Qai xs))], ints .u8 (qBa (Qai xs)), #[.int .i64 ((qKd (Qai xs) : Nat) : Int)], #[.bool (qUs (Qai xs))], #[.int .i64 (qNm (Qai xs))], ints .u8 (qKy (Qai xs)), ints .u8 (qSg (Qai xs)), ints .u8 (qPa (Qai xs)), #[.slice a (qL (Qai xs)).length c], ints .u8 (qSt (Qai xs)), #[.int .i64 (qAt (Qai xs))], ints .u8 (qSig (Qai xs))]), .nilIface] ∧ OwnN .i64 3 W1.heap.size (qL (Qai xs)) (.slice a (qL (Qai xs)).length c) W) v W' ∧ Ext W1 W') 60 #[.slice a_y xs.length c_y, .func (.func 61) #[] #[]] 5 rfl kj kj ((Qc4 xs _ _ _ hyb (RdK.here (RdK.ext hy x1)) hS).mono (by rintro e w' ⟨v, rfl, e1, hv⟩; exact ⟨v, rfl, hv, e1⟩)) fun vv4 W2 hh4 => ?_
  obtain ⟨hv4, e2⟩ := hh4
  have x2 : Ext w W2 := Ext.tr x1 e2
  obtain ⟨al, cl, rfl, hol⟩ := hv4
  refine Qab (.agg (cat [ints .u8 (qGrp (Qai xs)), #[.int .i64 (qEp (Qai xs))], #[.int .i64 (qFr (Qai xs))], ints .u8 (qBa (Qai xs)), #[.int .i64 ((qKd (Qai xs) : Nat) : Int)], #[.bool (qUs (Qai xs))], #[.int .i64 (qNm (Qai xs))], ints .u8 (qKy (Qai xs)), ints .u8 (qSg (Qai xs)), ints .u8 (qPa (Qai xs)), #[.slice al ((qL (Qai xs)).length) cl], ints .u8 (qSt (Qai xs)), #[.int .i64 (qAt (Qai xs))], ints .u8 (qSig (Qai xs))])) 6 rfl kj kj ?_
  refine Qab (.nilIface) 7 rfl kj kj ?_
  have r2_2 := (Qas r2_1 e2)
  refine Qa2 g2 _ (cat [ints .u8 (qGrp (Qai xs)), #[.int .i64 (qEp (Qai xs))], #[.int .i64 (qFr (Qai xs))], ints .u8 (qBa (Qai xs)), #[.int .i64 ((qKd (Qai xs) : Nat) : Int)], #[.bool (qUs (Qai xs))], #[.int .i64 (qNm (Qai xs))], ints .u8 (qKy (Qai xs)), ints .u8 (qSg (Qai xs)), ints .u8 (qPa (Qai xs)), #[.slice al ((qL (Qai xs)).length) cl], ints .u8 (qSt (Qai xs)), #[.int .i64 (qAt (Qai xs))], ints .u8 (qSig (Qai xs))]) 47 r2_2 rfl kj (Qaz 47 _ _ g2 47 _ _ r2_2 rfl kj kj (isz (n := 263) kj (by rw [Qaa, Qaa, Qaa, Qaa, Qaa, Qaa, Qaa, Qaa, Qaa, Qaa, Qaa, Qaa, Qaa, Qaa]; simp only [Array.size_append, cat, ((Qac _ _).trans (QbU (Qai xs))), ((Qac _ _).trans (Qb7 (Qai xs))), ((Qac _ _).trans (QbT (Qai xs))), ((Qac _ _).trans (QbS (Qai xs))), ((Qac _ _).trans (QbR (Qai xs))), ((Qac _ _).trans (Qb6 (Qai xs))), ((Qac _ _).trans (QbQ (Qai xs)))]; rfl)) (eqsz (n := 263) (by rw [Qaa, Qaa, Qaa, Qaa, Qaa, Qaa, Qaa, Qaa, Qaa, Qaa, Qaa, Qaa, Qaa, Qaa]; simp only [Array.size_append, cat, ((Qac _ _).trans (List.length_replicate (n := 32))), ((Qac _ _).trans (List.length_replicate (n := 64)))]; rfl) (by rw [Qaa, Qaa, Qaa, Qaa, Qaa, Qaa, Qaa, Qaa, Qaa, Qaa, Qaa, Qaa, Qaa, Qaa]; simp only [Array.size_append, cat, ((Qac _ _).trans (QbU (Qai xs))), ((Qac _ _).trans (Qb7 (Qai xs))), ((Qac _ _).trans (QbT (Qai xs))), ((Qac _ _).trans (QbS (Qai xs))), ((Qac _ _).trans (QbR (Qai xs))), ((Qac _ _).trans (Qb6 (Qai xs))), ((Qac _ _).trans (QbQ (Qai xs)))]; rfl)) (QaP _ (by intro a ha; simp only [List.mem_cons, List.not_mem_nil, or_false] at ha; rcases ha with rfl | rfl | rfl | rfl | rfl | rfl | rfl | rfl | rfl | rfl | rfl | rfl | rfl | rfl; exact (Qat _ _); exact (Qaq _ rfl); exact (Qaq _ rfl); exact (Qat _ _); exact (Qaq _ rfl); exact (Qaq _ rfl); exact (Qaq _ rfl); exact (Qat _ _); exact (Qat _ _); exact (Qat _ _); exact (Qaq _ rfl); exact (Qat _ _); exact (Qaq _ rfl); exact (Qat _ _)))) fun W3 p3 r2_3 => ?_
  have x3 : Ext w W3 := Puts.ext p3 x2 b2
  refine Qab (.nilIface) 3 rfl kj kj ?_
  refine Qaf ?_
  refine hK3 _ _ ?_
  refine wp_ret ?_
  repeat (first | with_reducible refine goR1 ?_ | with_reducible refine goR2 ?_)
  have f5_3 := (hol.puts p3 (QaV hol (Qay r2_1)))
  exact (show bodyPost _ _ _ .ret _ _ from ret2 (.agg (cat [ints .u8 (qGrp (Qai xs)), #[.int .i64 (qEp (Qai xs))], #[.int .i64 (qFr (Qai xs))], ints .u8 (qBa (Qai xs)), #[.int .i64 ((qKd (Qai xs) : Nat) : Int)], #[.bool (qUs (Qai xs))], #[.int .i64 (qNm (Qai xs))], ints .u8 (qKy (Qai xs)), ints .u8 (qSg (Qai xs)), ints .u8 (qPa (Qai xs)), #[.slice al ((qL (Qai xs)).length) cl], ints .u8 (qSt (Qai xs)), #[.int .i64 (qAt (Qai xs))], ints .u8 (qSig (Qai xs))])) (.nilIface) rfl (QaW g2 47 _ r2_3 kj kj (isz (n := 263) kj (by rw [Qaa, Qaa, Qaa, Qaa, Qaa, Qaa, Qaa, Qaa, Qaa, Qaa, Qaa, Qaa, Qaa, Qaa]; simp only [Array.size_append, cat, ((Qac _ _).trans (QbU (Qai xs))), ((Qac _ _).trans (Qb7 (Qai xs))), ((Qac _ _).trans (QbT (Qai xs))), ((Qac _ _).trans (QbS (Qai xs))), ((Qac _ _).trans (QbR (Qai xs))), ((Qac _ _).trans (Qb6 (Qai xs))), ((Qac _ _).trans (QbQ (Qai xs)))]; rfl))) (Qaw kj) ⟨_, rfl, x3, _, _, rfl, OwnN.base x1.size f5_3⟩)
end Go.Proofs.Ytfelfmchachljaa.Wr
end
section
namespace Go.Proofs.Ytfelfmchachljaa.Wr
open Go Go.RowKit
open Rely Auto Own Sha
set_option linter.unusedVariables false
set_option linter.unusedSimpArgs false
def putN (s : Option (List Int)) (us : Bool) (nm : Int) (key sg pa ms : List Int) : Option (List Int) := if Qb8 us nm key sg pa ms = true then rawS s (Qbd us nm key sg pa ms) else none
theorem QcG (s : Option (List Int)) (us : Bool) (nm : Int) (key sg pa ms : List Int) (hkl : key.length = 32) (hgl : sg.length = 32) (hpl : pa.length = 32) : QbX s us nm key sg pa ms = putN s us nm key sg pa ms := by
  have hall := Qee ms ms.length (Nat.le_refl _)
  rw [List.take_length] at hall
  unfold QbX putN Qb8 QbW
  rw [Qc3]
  change _ = if (inB nm 255 && decide (ms.length ≤ 32) && (risV ms && allN ms ms.length && (us || Qa7 us nm key sg pa ms))) = true then _ else _
  have hs1 : (bif us then numS s 1 1 else numS (Qa0 s (Qa7 us nm key sg pa ms)) 0 1) = bif (us || Qa7 us nm key sg pa ms) then rawS s [bif us then 1 else 0] else none := by
    cases us with
    | true => rfl
    | false =>
      cases Qa7 false nm key sg pa ms with
      | true => rfl
      | false => rfl
  rw [hs1]
  cases hb : (us || Qa7 us nm key sg pa ms) with
  | false =>
    rw [if_neg (by rw [Bool.and_false, Bool.and_false]; decide)]
    show ms.foldl QaI (numS (Qa0 (rawS (rawS (rawS (numS none nm 1) key) sg) pa) (risV ms)) _ 1) = none
    have e1 : numS none nm 1 = none := by rw [QbV _ nm 0 255 (by decide) (by decide)]; cases inB nm 255 <;> rfl
    rw [e1]
    have e2 : Qa0 (rawS (rawS (rawS none key) sg) pa) (risV ms) = none := by cases risV ms <;> rfl
    rw [e2, QbV _ _ 0 255 (by decide) (by decide)]
    cases inB ((ms.length : Nat) : Int) 255 <;> exact Qbt ms
  | true =>
    rw [Bool.and_true]
    show ms.foldl QaI (numS (Qa0 (rawS (rawS (rawS (numS (rawS s [bif us then 1 else 0]) nm 1) key) sg) pa) (risV ms)) _ 1) = _
    rw [QbV _ nm 0 255 (by decide) (by decide)]
    cases hn : inB nm 255 with
    | false =>
      rw [if_neg (by rw [Bool.false_and, Bool.false_and]; decide)]
      have e2 : Qa0 (rawS (rawS (rawS (bif false then rawS (rawS s [bif us then 1 else 0]) (beV nm (0 + 1)) else none) key) sg) pa) (risV ms) = none := by cases risV ms <;> rfl
      rw [e2, QbV _ _ 0 255 (by decide) (by decide)]
      cases inB ((ms.length : Nat) : Int) 255 <;> exact Qbt ms
    | true =>
      rw [Bool.true_and]
      cases hr : risV ms with
      | false =>
        rw [if_neg (by rw [Bool.false_and, Bool.and_false]; decide)]
        show ms.foldl QaI (numS none _ 1) = none
        rw [QbV _ _ 0 255 (by decide) (by decide)]
        cases inB ((ms.length : Nat) : Int) 255 <;> exact Qbt ms
      | true =>
        rw [Bool.true_and]
        show ms.foldl QaI (numS (rawS (rawS (rawS (rawS (rawS s [bif us then 1 else 0]) (beV nm 1)) key) sg) pa) ((ms.length : Nat) : Int) (0 + 1)) = _
        rw [QbV _ _ 0 255 (by decide) (by decide)]
        cases ha : allN ms ms.length with
        | false =>
          rw [if_neg (by rw [Bool.and_false]; decide)]
          cases inB ((ms.length : Nat) : Int) 255 with
          | false => exact Qbt ms
          | true =>
            show ms.foldl QaI (rawS _ (beV _ (0 + 1))) = none
            rw [QcI, ← hall, ha]
            rfl
        | true =>
          have hl := QgN ms hr ha
          rw [decide_eq_true hl, if_pos (by rfl), show inB ((ms.length : Nat) : Int) 255 = true by unfold inB; simp; omega]
          show ms.foldl QaI (rawS _ (beV _ (0 + 1))) = _
          rw [QcI, ← hall, ha]
          show rawS (rawS (rawS (rawS (rawS (rawS s [bif us then 1 else 0]) (beV nm 1)) key) sg) pa) (beV ((ms.length : Nat) : Int) 1 ++ ms.map fun m => byV m 0) = _
          rw [QaX, QaX, QaX, QaX, QaX]
          have e : [bif us then 1 else 0] ++ (beV nm 1 ++ (key ++ (sg ++ (pa ++ (beV ((ms.length : Nat) : Int) 1 ++ ms.map fun m => byV m 0))))) = Qbd us nm key sg pa ms := by
            unfold Qbd QbK
            simp only [List.append_assoc]
            rfl
          rw [e]
theorem Qdn (grp : List Int) (ep fr : Int) (bas : List Int) (kd : Int) (us : Bool) (nm : Int) (key sg pa ms start : List Int) (at_ : Int) (sig : List Int) (hrl : grp.length = 32) (hal : bas.length = 32) (hkl : key.length = 32) (hgl : sg.length = 32) (hpl : pa.length = 32) (htl : start.length = 32) (hil : sig.length = 64) (h : Qbk ep fr kd us nm key sg pa ms start at_ = true) : rawS (some []) (Qbm grp ep fr bas kd us nm key sg pa ms start at_ sig) = some (Qbm grp ep fr bas kd us nm key sg pa ms start at_ sig) := by
  rw [Qfn]
  unfold fitV
  rw [if_pos (by have := (QcD grp ep fr bas kd us nm key sg pa ms start at_ sig hrl hal hkl hgl hpl htl hil h).1; omega)]
theorem Qfq (grp : List Int) (ep fr : Int) (bas : List Int) (kd : Int) (hk : 1 ≤ kd ∧ kd ≤ 3) : QeF (some []) grp ep fr bas kd = bif hgB ep fr then rawS (some []) (QaE grp ep fr ++ bas ++ [byV kd 0]) else none := by
  unfold QeF hgB
  rw [decide_eq_true hk, QbV _ kd 0 255 (by decide) (by decide), Qco, QbV _ ep 3 4294967295 (by decide) (by decide), show inB kd 255 = true by unfold inB; simp; omega]
  cases inB ep 4294967295 with
  | false => cases inB fr 31 <;> rfl
  | true =>
    cases inB fr 31 with
    | false => rfl
    | true =>
      show rawS (rawS (rawS (rawS (rawS (some []) grp) (beV ep 4)) (beV fr 1)) bas) (beV kd 1) = rawS (some []) _
      rw [QaX, QaX, QaX, QaX]
      congr 1; unfold QaE; simp only [List.append_assoc]; rfl
theorem Qeo (us : Bool) (nm : Int) (key sg pa ms : List Int) (hkl : key.length = 32) (hgl : sg.length = 32) (hpl : pa.length = 32) : QbX none us nm key sg pa ms = none := by
  rw [QcG none us nm key sg pa ms hkl hgl hpl]
  unfold putN
  split <;> rfl
theorem Qfv (n : Int) : QaI none n = none := by rw [Qco]; cases inB n 31 <;> rfl
theorem QdV (grp : List Int) (ep fr : Int) (bas : List Int) (kd : Int) (us : Bool) (nm : Int) (key sg pa ms start : List Int) (at_ : Int) (sig : List Int) (hrl : grp.length = 32) (hal : bas.length = 32) (hkl : key.length = 32) (hgl : sg.length = 32) (hpl : pa.length = 32) (htl : start.length = 32) (hil : sig.length = 64) : QcE (some []) grp ep fr bas kd us nm key sg pa ms start at_ sig = Qcm grp ep fr bas kd us nm key sg pa ms start at_ sig := by
  unfold QcE Qcm
  by_cases hk : 1 ≤ kd ∧ kd ≤ 3
  · rw [Qfq grp ep fr bas kd hk]
    cases h0 : hgB ep fr with
    | false =>
      have e : Qbk ep fr kd us nm key sg pa ms start at_ = false := by unfold Qbk; rw [h0, Bool.false_and]
      rw [e, if_neg (show ¬ (false = true) by decide), _root_.cond_false, Qeo us nm key sg pa ms hkl hgl hpl]
      simp only [QbC, Qfv, show rawS none start = none from rfl, ite_self]
      rfl
    | true =>
    rw [_root_.cond_true]
    rcases (show kd = 1 ∨ kd = 2 ∨ kd = 3 by omega) with rfl | rfl | rfl
    · rw [if_pos rfl, QcG _ us nm key sg pa ms hkl hgl hpl]
      have eo : Qbk ep fr 1 us nm key sg pa ms start at_ = (Qb8 us nm key sg pa ms && (at_ == 0)) := by unfold Qbk; rw [h0, Bool.true_and, if_pos rfl]
      unfold putN
      cases hg : Qb8 us nm key sg pa ms with
      | false => rw [eo, hg]; cases at_ == 0 <;> rfl
      | true =>
        cases ha : at_ == 0 with
        | false => rw [eo, hg, ha]; rfl
        | true =>
          have ho : Qbk ep fr 1 us nm key sg pa ms start at_ = true := by rw [eo, hg, ha]; rfl
          rw [if_pos rfl, if_pos ho]
          show rawS (rawS (rawS (rawS (some []) (QaE grp ep fr ++ bas ++ [byV 1 0])) (Qbd us nm key sg pa ms)) start) sig = _
          rw [QaX, QaX, QaX, ← Qdn grp ep fr bas 1 us nm key sg pa ms start at_ sig hrl hal hkl hgl hpl htl hil ho]
          congr 1; unfold Qbm; simp
    · rw [if_neg (by decide), if_pos rfl, QcG _ us nm key sg pa ms hkl hgl hpl]
      have eo : Qbk ep fr 2 us nm key sg pa ms start at_ = (Qb8 us nm key sg pa ms && (decide (start = List.replicate 32 0) && (at_ == 0))) := by unfold Qbk; rw [h0, Bool.true_and, if_neg (by decide), if_pos rfl]
      unfold putN
      cases hg : Qb8 us nm key sg pa ms with
      | false => rw [eo, hg]; cases decide (start = List.replicate 32 0) <;> cases at_ == 0 <;> rfl
      | true =>
        cases hd : decide (start = List.replicate 32 0) with
        | false => rw [eo, hg, hd]; cases at_ == 0 <;> rfl
        | true =>
          cases ha : at_ == 0 with
          | false => rw [eo, hg, hd, ha]; rfl
          | true =>
            have ho : Qbk ep fr 2 us nm key sg pa ms start at_ = true := by rw [eo, hg, hd, ha]; rfl
            rw [if_pos rfl, if_pos ho]
            show rawS (rawS (rawS (some []) (QaE grp ep fr ++ bas ++ [byV 2 0])) (Qbd us nm key sg pa ms)) sig = _
            rw [QaX, QaX, ← Qdn grp ep fr bas 2 us nm key sg pa ms start at_ sig hrl hal hkl hgl hpl htl hil ho]
            congr 1; unfold Qbm; simp
    · rw [if_neg (by decide), if_neg (by decide), if_pos rfl]
      have eo : Qbk ep fr 3 us nm key sg pa ms start at_ = (Qa7 us nm key sg pa ms && (decide (start = List.replicate 32 0) && inB at_ 31)) := by unfold Qbk; rw [h0, Bool.true_and, if_neg (by decide), if_neg (by decide), if_pos rfl]
      rw [Qco]
      cases hg : Qa7 us nm key sg pa ms with
      | false => rw [eo, hg]; cases decide (start = List.replicate 32 0) <;> cases inB at_ 31 <;> rfl
      | true =>
        cases hd : decide (start = List.replicate 32 0) with
        | false => rw [eo, hg, hd]; cases inB at_ 31 <;> rfl
        | true =>
          cases ha : inB at_ 31 with
          | false => rw [eo, hg, hd, ha]; rfl
          | true =>
            have ho : Qbk ep fr 3 us nm key sg pa ms start at_ = true := by rw [eo, hg, hd, ha]; rfl
            rw [if_pos ho]
            show rawS (rawS (rawS (some []) (QaE grp ep fr ++ bas ++ [byV 3 0])) (beV at_ 1)) sig = _
            rw [QaX, QaX, ← Qdn grp ep fr bas 3 us nm key sg pa ms start at_ sig hrl hal hkl hgl hpl htl hil ho]
            congr 1; unfold Qbm; simp only [if_true, if_neg (show ¬ (3 : Int) = 1 by decide), List.append_nil, List.append_assoc]; rfl
  · rw [if_neg (by omega), if_neg (by omega), if_neg (by omega), if_neg (fun h => hk (by have := (Qc2 h).2.1; omega))]
    rfl
theorem Qel (grp : List Int) (ep fr : Int) (bas : List Int) (kd : Int) (us : Bool) (nm : Int) (key sg pa ms start : List Int) (at_ : Int) (sig : List Int) (hrb : Qag grp) (hab : Qag bas) (hkb : Qag key) (hgb : Qag sg) (hpb : Qag pa) (htb : Qag start) (hib : Qag sig) : Qag (Qbm grp ep fr bas kd us nm key sg pa ms start at_ sig) := by
  have nil : Qag ([] : List Int) := fun x hx => by cases hx
  unfold Qbm QaE
  refine Qbc (Qbc (Qbc (Qbc (Qbc (Qbc (Qbc (Qbc hrb (Qb0 ep 4)) (Qb0 fr 1)) hab) (Qb0 kd 1)) ?_) ?_) ?_) hib
  · split
    · exact nil
    · exact Qem us nm key sg pa ms hkb hgb hpb
  · split
    · exact htb
    · exact nil
  · split
    · exact Qb0 at_ 1
    · exact nil
theorem QcU (us : Bool) (nm : Int) (key sg pa ms r : List Int) (hkl : key.length = 32) (hgl : sg.length = 32) (hpl : pa.length = 32) (hg : Qb8 us nm key sg pa ms = true) (s : Option (List Int)) (hs : s = some (Qbd us nm key sg pa ms ++ r)) :
    nUs s = us ∧ nNm s = nm ∧ nKy s = key ∧ nSg s = sg ∧ nPa s = pa ∧ QaL s = some r ∧ nL s = ms := by
  obtain ⟨h1, h2, h3, h4, h5, h6, h7⟩ := QeL us nm key sg pa ms r hkl hgl hpl hg s hs
  have hu : nUs s = us := by unfold nUs; rw [h1]; cases us <;> rfl
  refine ⟨hu, h2, h3, h4, h5, ?_, h7⟩
  unfold Qb8 at hg
  rw [Qc3] at hg
  simp only [Bool.and_eq_true] at hg
  obtain ⟨-, ⟨hr, -⟩, hb⟩ := hg
  have ho : nOk s = true := by
    unfold nOk
    rw [hu, h1, h2, h3, h4, h5, h7]
    cases us with
    | true => rfl
    | false => exact hb
  unfold QaL
  rw [ho, h6, h7, show risV ms = true from hr]
  rfl
theorem Qcq (ys : List Int) (h : ys.length = 64) : Qbn ys = ys := by
  unfold Qbn
  rw [h, show (List.replicate 64 (0 : Int)).drop 64 = [] from rfl, List.append_nil]
theorem QeE (grp : List Int) (ep fr : Int) (bas : List Int) (kd : Int) (us : Bool) (nm : Int) (key sg pa ms start : List Int) (at_ : Int) (sig : List Int) (bs : List Int) (hrl : grp.length = 32) (hal : bas.length = 32) (hkl : key.length = 32) (hgl : sg.length = 32) (hpl : pa.length = 32) (htl : start.length = 32) (hil : sig.length = 64) (h : Qcm grp ep fr bas kd us nm key sg pa ms start at_ sig = some bs) : Qbx (Qai bs) = some [] ∧ qGrp (Qai bs) = grp ∧ qEp (Qai bs) = ep ∧ qFr (Qai bs) = fr ∧ qBa (Qai bs) = bas ∧ ((qKd (Qai bs) : Nat) : Int) = kd ∧ qUs (Qai bs) = us ∧ qNm (Qai bs) = nm ∧ qKy (Qai bs) = key ∧ qSg (Qai bs) = sg ∧ qPa (Qai bs) = pa ∧ qL (Qai bs) = ms ∧ qSt (Qai bs) = start ∧ qAt (Qai bs) = at_ ∧ qSig (Qai bs) = sig ∧ bs.length ≤ 65536 ∧ 0 < bs.length := by
 unfold Qcm at h
 split at h
 ·rename_i hok
  obtain rfl := Option.some.inj h
  obtain ⟨h0, hk, hg⟩ := Qc2 hok
  have hlen := QcD grp ep fr bas kd us nm key sg pa ms start at_ sig hrl hal hkl hgl hpl htl hil hok
  unfold hgB at h0
  simp only [Bool.and_eq_true] at h0
  have b1 := QbY h0.1
  have b2 := QbY h0.2
  have hfit : (Qbm grp ep fr bas kd us nm key sg pa ms start at_ sig).length ≤ 65536 := by omega
  rw [QdC _ hfit]
  obtain ⟨rest, hrest⟩ : ∃ r, r = (if kd = 3 then [] else Qbd us nm key sg pa ms) ++ ((if kd = 1 then start else []) ++ ((if kd = 3 then [byV at_ 0] else []) ++ sig)) := ⟨_, rfl⟩
  have e : Qbm grp ep fr bas kd us nm key sg pa ms start at_ sig = grp ++ (beV ep 4 ++ (beV fr 1 ++ (bas ++ (beV kd 1 ++ rest)))) := by rw [hrest]; unfold Qbm QaE; simp only [List.append_assoc]; rfl
  obtain ⟨s, hs⟩ : ∃ s, s = some (Qbm grp ep fr bas kd us nm key sg pa ms start at_ sig) := ⟨_, rfl⟩
  rw [← hs]
  rw [e] at hs
  have s1 : qS1 s = some (beV ep 4 ++ (beV fr 1 ++ (bas ++ (beV kd 1 ++ rest)))) := by unfold qS1; rw [hs]; exact QaR _ _ 32 hrl
  have s2 : qS2 s = some (beV fr 1 ++ (bas ++ (beV kd 1 ++ rest))) := by unfold qS2; rw [s1]; exact QaR _ _ 4 (QaQ _ 4)
  have q : ((bigN (beV fr 1) : Nat) : Int) = fr := QcZ fr 1 b2.1 (by omega)
  have s3 : qS3 s = some (bas ++ (beV kd 1 ++ rest)) := by unfold qS3 Qao; rw [s2, QaO _ _ 1 (QaQ _ 1), q, QaR _ _ 1 (QaQ _ 1), decide_eq_true (by omega)]; rfl
  have s4 : qS4 s = some (beV kd 1 ++ rest) := by unfold qS4; rw [s3]; exact QaR _ _ 32 hal
  have s5 : qS5 s = some rest := by unfold qS5; rw [s4]; exact QaR _ _ 1 (QaQ _ 1)
  have k5 : ((qKd s : Nat) : Int) = kd := by unfold qKd; rw [s4, QaO _ _ 1 (QaQ _ 1), QcZ kd 1 (by omega) (by omega)]
  have f1 : qGrp s = grp := by unfold qGrp; rw [hs, QaO _ _ 32 hrl, QbM _ hrl]
  have f2 : qEp s = ep := by unfold qEp; rw [s1, QaO _ _ 4 (QaQ _ 4), QcZ ep 4 b1.1 (by omega)]
  have f3 : qFr s = fr := by unfold qFr; rw [s2, QaO _ _ 1 (QaQ _ 1), q]
  have f4 : qBa s = bas := by unfold qBa; rw [s3, QaO _ _ 32 hal, QbM _ hal]
  have w0 : Qaj (some sig) 64 = sig := by have := QaO sig [] 64 hil; rwa [List.append_nil] at this
  have w1 : Qad (some sig) 64 = some [] := by have := QaR sig [] 64 hil; rwa [List.append_nil] at this
  rcases hk with rfl | rfl | rfl
  ·skip
   have kq : qKd s = 1 := by omega
   have kn : qNd s = true := by unfold qNd; rw [kq]; rfl
   have hr : rest = Qbd us nm key sg pa ms ++ (start ++ sig) := by rw [hrest]; simp
   have hg1 := hg.resolve_left (by decide)
   obtain ⟨n1, n2, n3, n4, n5, n6, n7⟩ := QcU us nm key sg pa ms (start ++ sig) hkl hgl hpl hg1 (qS5 s) (by rw [s5, hr])
   have m1 : Qce s = some sig := by unfold Qce; rw [kq, n6]; exact QaR _ _ 32 htl
   have hat : at_ = 0 := by unfold Qbk at hok; rw [if_pos rfl, Bool.and_eq_true, Bool.and_eq_true] at hok; exact beq_iff_eq.1 hok.2.2
   exact ⟨by unfold Qbx; rw [m1]; exact w1, f1, f2, f3, f4, k5, by unfold qUs; rw [kn]; exact n1, by unfold qNm; rw [kn]; exact n2, by unfold qKy; rw [kn]; exact n3, by unfold qSg; rw [kn]; exact n4, by unfold qPa; rw [kn]; exact n5, by unfold qL; rw [kn]; exact n7, by unfold qSt; rw [kq, n6]; show keyV (Qaj (some (start ++ sig)) 32) = start; rw [QaO _ _ 32 htl, QbM _ htl], by unfold qAt; rw [kq, hat]; rfl, by unfold qSig; rw [m1, w0]; exact Qcq _ hil, hfit, hlen.2⟩
  ·skip
   have kq : qKd s = 2 := by omega
   have kn : qNd s = true := by unfold qNd; rw [kq]; rfl
   have hr : rest = Qbd us nm key sg pa ms ++ (sig) := by rw [hrest]; simp
   have hg1 := hg.resolve_left (by decide)
   obtain ⟨n1, n2, n3, n4, n5, n6, n7⟩ := QcU us nm key sg pa ms (sig) hkl hgl hpl hg1 (qS5 s) (by rw [s5, hr])
   have m1 : Qce s = some sig := by unfold Qce; rw [kq, n6]; rfl
   obtain ⟨hst, hat⟩ : start = List.replicate 32 0 ∧ at_ = 0 := by unfold Qbk at hok; rw [if_neg (by decide), if_pos rfl] at hok; simp only [Bool.and_eq_true, decide_eq_true_eq, beq_iff_eq] at hok; exact hok.2.2
   exact ⟨by unfold Qbx; rw [m1]; exact w1, f1, f2, f3, f4, k5, by unfold qUs; rw [kn]; exact n1, by unfold qNm; rw [kn]; exact n2, by unfold qKy; rw [kn]; exact n3, by unfold qSg; rw [kn]; exact n4, by unfold qPa; rw [kn]; exact n5, by unfold qL; rw [kn]; exact n7, by unfold qSt; rw [kq, hst]; rfl, by unfold qAt; rw [kq, hat]; rfl, by unfold qSig; rw [m1, w0]; exact Qcq _ hil, hfit, hlen.2⟩
  ·skip
   have kq : qKd s = 3 := by omega
   have kn : qNd s = false := by unfold qNd; rw [kq]; rfl
   have hr : rest = beV at_ 1 ++ sig := by rw [hrest]; simp only [if_true, if_neg (show ¬ (3 : Int) = 1 by decide), List.nil_append]; rfl
   obtain ⟨hbl, hst, hat⟩ : Qa7 us nm key sg pa ms = true ∧ start = List.replicate 32 0 ∧ inB at_ 31 = true := by unfold Qbk at hok; rw [if_neg (by decide), if_neg (by decide), if_pos rfl] at hok; simp only [Bool.and_eq_true, decide_eq_true_eq] at hok; exact hok.2
   have ba := QbY hat
   have qa : ((bigN (beV at_ 1) : Nat) : Int) = at_ := QcZ at_ 1 ba.1 (by omega)
   have m1 : Qce s = some sig := by
    unfold Qce; rw [kq]
    show Qao (qS5 s) = _
    unfold Qao
    rw [s5, hr, QaO _ _ 1 (QaQ _ 1), qa, QaR _ _ 1 (QaQ _ 1), decide_eq_true (by omega)]; rfl
   unfold Qa7 at hbl
   simp only [Bool.and_eq_true, decide_eq_true_eq, beq_iff_eq, Bool.not_eq_true'] at hbl
   obtain ⟨⟨⟨⟨⟨z1, z2⟩, z3⟩, z4⟩, z5⟩, z6⟩ := hbl
   exact ⟨by unfold Qbx; rw [m1]; exact w1, f1, f2, f3, f4, k5, by unfold qUs; rw [kn]; exact z1.symm, by unfold qNm; rw [kn]; exact z2.symm, by unfold qKy; rw [kn]; exact z3.symm, by unfold qSg; rw [kn]; exact z4.symm, by unfold qPa; rw [kn]; exact z5.symm, by unfold qL; rw [kn]; exact (List.length_eq_zero_iff.1 z6).symm, by unfold qSt; rw [kq]; exact hst.symm, by unfold qAt; rw [kq]; show ((bigN (Qaj (qS5 s) 1) : Nat) : Int) = at_; rw [s5, hr, QaO _ _ 1 (QaQ _ 1), qa], by unfold qSig; rw [m1, w0]; exact Qcq _ hil, hfit, hlen.2⟩
 ·cases h
end Go.Proofs.Ytfelfmchachljaa.Wr
end
section
namespace Go.Proofs.Ytfelfmchachljaa.Wr
open Go Go.RowKit
open Rely Auto Own Sha
set_option linter.unusedVariables false
set_option linter.unusedSimpArgs false
set_option maxHeartbeats 4000000 in
theorem QeV (w : World) : Calls Try.prog 12 #[] w (Ret w (.bool true)) := by
  refine enter 40 [] Try.func12 rfl rfl kj rfl ?_
  refine wp_seq_k fun K1 hK1 => ?_
  refine Qae ?_
  refine Qab (.bool false) 0 rfl kj kj ?_
  refine Qaf ?_
  refine hK1 _ _ ?_
  refine wp_seq_k fun K2 hK2 => ?_
  refine Qae ?_
  refine Qab (.agg (cat [(Array.replicate 32 (.int .u8 0)), #[.int .i64 0], #[.int .i64 0], #[.int .i64 0], #[.slice none 0 0]])) 7 rfl kj kj ?_
  refine Qal (fun v W' => (PutR w.heap.size (some (List.replicate 43 (0 : Int)))) v W' ∧ Ext w W') 34 #[.agg (cat [(Array.replicate 32 (.int .u8 0)), #[.int .i64 0], #[.int .i64 0], #[.int .i64 0], #[.slice none 0 0]])] 8 rfl kj kj ((QdN (List.replicate 32 0) 0 0 0 [] none 0 _ rfl (fun x hx => by rw [(List.mem_replicate.1 hx).2]; decide) (by decide) QcK (QfR _ _) (List.replicate 43 (0 : Int)) (by decide +kernel)).mono (by rintro e w' ⟨v, rfl, e1, hv⟩; exact ⟨v, rfl, hv, e1⟩)) fun vv3 W1 hh3 => ?_
  obtain ⟨hv3, e1⟩ := hh3
  have x1 : Ext w W1 := Ext.tr (Rely.Ext.refl w) e1
  obtain ⟨ub, rfl, hub⟩ := hv3
  obtain ⟨ab, cb, rfl, hcb, -⟩ := id (OwnN.rd hub)
  have hb43 : OwnN .u8 5 w.heap.size (List.replicate 43 (0 : Int)) (.slice ab 43 cb) W1 := hub
  replace hcb : 43 ≤ cb := hcb
  refine Qab (.tuple #[.slice ab 43 cb, .nilIface]) 6 rfl kj kj ?_
  refine Qab (.slice ab 43 cb) 9 rfl kj kj ?_
  refine Qab (.nilIface) 10 rfl kj kj ?_
  refine Qab (.slice ab 43 cb) 1 rfl kj kj ?_
  refine Qab (.nilIface) 2 rfl kj kj ?_
  refine Qaf ?_
  refine hK2 _ _ ?_
  refine wp_seq_k fun K4 hK4 => ?_
  refine wp_seq_k fun K5 hK5 => ?_
  refine Qae ?_
  refine Qab (.nilIface) 11 rfl kj kj ?_
  refine Qab (.bool false) 12 rfl kj kj ?_
  refine Qab (.bool false) 13 rfl kj kj ?_
  refine Qab (.slice ab 43 cb) 14 rfl kj kj ?_
  refine Qab (.int .i64 43) 15 rfl kj kj ?_
  refine Qab (.bool false) 16 rfl kj kj ?_
  refine Qab (.bool false) 17 rfl kj kj ?_
  refine Qaf ?_
  refine hK5 _ _ ?_
  refine cond_false kj ?_
  refine wp_skip ?_
  refine hK4 _ _ ?_
  refine wp_seq_k fun K6 hK6 => ?_
  refine Qae ?_
  refine Qab (.slice ab 43 cb) 19 rfl kj kj ?_
  refine Qal (fun v W' => (fun v W => ∃ (a_s : Option Addr) (c_s : Nat), v = .tuple #[.agg (cat [ints .u8 (pGrp (Qai (List.replicate 43 (0 : Int)))), #[.int .i64 (pEp (Qai (List.replicate 43 (0 : Int))))], #[.int .i64 (pFr (Qai (List.replicate 43 (0 : Int))))], #[.int .i64 (pNo (Qai (List.replicate 43 (0 : Int))))], #[.slice a_s (pSe (Qai (List.replicate 43 (0 : Int)))).length c_s]]), .nilIface] ∧ OwnN .u8 5 W1.heap.size (pSe (Qai (List.replicate 43 (0 : Int)))) (.slice a_s (pSe (Qai (List.replicate 43 (0 : Int)))).length c_s) W ∧ Qag (pSe (Qai (List.replicate 43 (0 : Int)))) ∧ (pSe (Qai (List.replicate 43 (0 : Int)))).length ≤ 65535) v W' ∧ Ext W1 W') 36 #[.slice ab 43 cb] 20 rfl kj kj ((Qdk (List.replicate 43 (0 : Int)) _ _ _ (fun x hx => by rw [(List.mem_replicate.1 hx).2]; decide) (RdK.here (OwnN.rd hb43)) (by decide +kernel)).mono (by rintro e w' ⟨v, rfl, e1, hv⟩; exact ⟨v, rfl, hv, e1⟩)) fun vv7 W2 hh7 => ?_
  obtain ⟨hv7, e2⟩ := hh7
  have x2 : Ext w W2 := Ext.tr x1 e2
  obtain ⟨as1, cs1, rfl, hs1, -, -⟩ := hv7
  refine Qab (.tuple #[.agg (cat [ints .u8 (pGrp (Qai (List.replicate 43 (0 : Int)))), #[.int .i64 (pEp (Qai (List.replicate 43 (0 : Int))))], #[.int .i64 (pFr (Qai (List.replicate 43 (0 : Int))))], #[.int .i64 (pNo (Qai (List.replicate 43 (0 : Int))))], #[.slice as1 ((pSe (Qai (List.replicate 43 (0 : Int)))).length) cs1]]), .nilIface]) 18 rfl kj kj ?_
  refine Qab (.agg (cat [ints .u8 (pGrp (Qai (List.replicate 43 (0 : Int)))), #[.int .i64 (pEp (Qai (List.replicate 43 (0 : Int))))], #[.int .i64 (pFr (Qai (List.replicate 43 (0 : Int))))], #[.int .i64 (pNo (Qai (List.replicate 43 (0 : Int))))], #[.slice as1 ((pSe (Qai (List.replicate 43 (0 : Int)))).length) cs1]])) 21 rfl kj kj ?_
  refine Qab (.nilIface) 22 rfl kj kj ?_
  refine Qav (cat [(Array.replicate 32 (.int .u8 0)), #[.int .i64 0], #[.int .i64 0], #[.int .i64 0], #[.slice none 0 0]]) 81 3 rfl kj kj fun g8 W3 l8 e3 r8_3 => ?_
  have x3 : Ext w W3 := Ext.tr x2 e3
  have b8 : w.heap.size ≤ g8 := Nat.le_trans x2.size l8
  refine Qa2 g8 _ (cat [ints .u8 (pGrp (Qai (List.replicate 43 (0 : Int)))), #[.int .i64 (pEp (Qai (List.replicate 43 (0 : Int))))], #[.int .i64 (pFr (Qai (List.replicate 43 (0 : Int))))], #[.int .i64 (pNo (Qai (List.replicate 43 (0 : Int))))], #[.slice as1 ((pSe (Qai (List.replicate 43 (0 : Int)))).length) cs1]]) 81 r8_3 rfl kj (Qaz 81 _ _ g8 81 _ _ r8_3 rfl kj kj (isz (n := 36) kj (by rw [Qaa, Qaa, Qaa, Qaa, Qaa]; simp only [Array.size_append, cat, ((Qac _ _).trans (Qbf (Qai (List.replicate 43 (0 : Int)))))]; rfl)) (eqsz (n := 36) kj (by rw [Qaa, Qaa, Qaa, Qaa, Qaa]; simp only [Array.size_append, cat, ((Qac _ _).trans (Qbf (Qai (List.replicate 43 (0 : Int)))))]; rfl)) (QaP _ (by intro a ha; simp only [List.mem_cons, List.not_mem_nil, or_false] at ha; rcases ha with rfl | rfl | rfl | rfl | rfl; exact (Qat _ _); exact (Qaq _ rfl); exact (Qaq _ rfl); exact (Qaq _ rfl); exact (Qaq _ rfl)))) fun W4 p4 r8_4 => ?_
  have x4 : Ext w W4 := Puts.ext p4 x3 b8
  refine Qab (.nilIface) 2 rfl kj kj ?_
  refine Qaf ?_
  refine hK6 _ _ ?_
  refine wp_seq_k fun K9 hK9 => ?_
  refine Qae ?_
  refine Qab (.slice ab 43 cb) 24 rfl kj kj ?_
  refine Qab (.slice (Qc8 ab cb 1) (43 - 1) (cb - 1)) 25 rfl kj (QcP 26 _ _ 1 5 rfl (a := ab) (len := 43) (cap := cb) kj kj kj .i64 kj (by decide) hcb) ?_
  have f10_2 := (hb43.ext e2)
  have f11_3 := (f10_2.ext e3)
  have f12_4 := (f11_3.puts p4 (Qcy f10_2 l8))
  refine Qa3 (.tuple #[.agg (cat [(Array.replicate 32 (.int .u8 0)), #[.int .i64 0], #[.int .i64 0], #[.int .i64 0], #[.slice none 0 0]]), .iface 102 (.int .i64 3)]) 36 #[.slice (Qc8 ab cb 1) (43 - 1) (cb - 1)] 26 rfl kj kj (Qd2 ((List.replicate 43 (0 : Int)).drop 1) _ _ _ (QcY (fun x hx => by rw [(List.mem_replicate.1 hx).2]; decide) 1) (RdK.here (QdU (OwnN.rd f12_4) 1 (by decide))) (by decide +kernel)) fun W5 e5 => ?_
  have x5 : Ext w W5 := Ext.tr x4 e5
  refine Qab (.tuple #[.agg (cat [(Array.replicate 32 (.int .u8 0)), #[.int .i64 0], #[.int .i64 0], #[.int .i64 0], #[.slice none 0 0]]), .iface 102 (.int .i64 3)]) 23 rfl kj kj ?_
  refine Qab (.agg (cat [(Array.replicate 32 (.int .u8 0)), #[.int .i64 0], #[.int .i64 0], #[.int .i64 0], #[.slice none 0 0]])) 27 rfl kj kj ?_
  refine Qab (.iface 102 (.int .i64 3)) 28 rfl kj kj ?_
  refine Qav (cat [(Array.replicate 32 (.int .u8 0)), #[.int .i64 0], #[.int .i64 0], #[.int .i64 0], #[.slice none 0 0]]) 81 4 rfl kj kj fun g13 W6 l13 e6 r13_6 => ?_
  have x6 : Ext w W6 := Ext.tr x5 e6
  have b13 : w.heap.size ≤ g13 := Nat.le_trans x5.size l13
  refine Qa2 g13 _ (cat [(Array.replicate 32 (.int .u8 0)), #[.int .i64 0], #[.int .i64 0], #[.int .i64 0], #[.slice none 0 0]]) 81 r13_6 rfl kj (Qaz 81 _ _ g13 81 _ _ r13_6 rfl kj kj (isz (n := 36) kj kj) (eqsz (n := 36) kj kj) kj) fun W7 p7 r13_7 => ?_
  have x7 : Ext w W7 := Puts.ext p7 x6 b13
  refine Qab (.iface 102 (.int .i64 3)) 5 rfl kj kj ?_
  refine Qaf ?_
  refine hK9 _ _ ?_
  refine wp_seq_k fun K14 hK14 => ?_
  refine Qae ?_
  refine Qab (.nilIface) 29 rfl kj kj ?_
  refine Qab (.bool true) 30 rfl kj kj ?_
  refine Qab (.bool true) 31 rfl kj kj ?_
  refine Qab (.pointer (some ⟨g8, 32, none⟩)) 32 rfl kj kj ?_
  have r8_5 := (Qas r8_4 e5)
  have r8_6 := (Qas r8_5 e6)
  have r8_7 := (Puts.row p7 r8_6 (QaA r8_5 l13))
  refine Qab (.int .i64 (pEp (Qai (List.replicate 43 (0 : Int))))) 33 rfl kj (Qah 3 _ g8 32 81 _ (.int .i64 (pEp (Qai (List.replicate 43 (0 : Int))))) _ r8_7 rfl kj (Qak [ints .u8 (pGrp (Qai (List.replicate 43 (0 : Int))))] [#[.int .i64 (pEp (Qai (List.replicate 43 (0 : Int))))]] [#[.int .i64 (pFr (Qai (List.replicate 43 (0 : Int))))], #[.int .i64 (pNo (Qai (List.replicate 43 (0 : Int))))], #[.slice as1 ((pSe (Qai (List.replicate 43 (0 : Int)))).length) cs1]] 32 ((Qac _ _).trans (Qbf (Qai (List.replicate 43 (0 : Int))))) 0 _ rfl) kj) ?_
  refine Qab (.bool true) 34 rfl kj kj ?_
  refine Qab (.bool true) 35 rfl kj kj ?_
  refine Qab (.bool true) 36 rfl kj kj ?_
  refine Qab (.iface 102 (.int .i64 3)) 37 rfl kj kj ?_
  refine Qa3 (.bool true) 45 #[.iface 102 (.int .i64 3), .int .i64 3] 38 rfl kj kj ((is3) _) fun W8 e8 => ?_
  have x8 : Ext w W8 := Ext.tr x7 e8
  refine Qab (.bool true) 39 rfl kj kj ?_
  refine Qab (.bool true) 0 rfl kj kj ?_
  refine Qaf ?_
  refine hK14 _ _ ?_
  refine wp_ret ?_
  repeat (first | with_reducible refine goR1 ?_ | with_reducible refine goR2 ?_)
  exact (show bodyPost _ _ _ .ret _ _ from ret1 (.bool true) rfl (Qaw kj) ⟨rfl, x8⟩)
end Go.Proofs.Ytfelfmchachljaa.Wr
end
