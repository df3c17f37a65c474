/- Texts of this claim, joined (ME1). -/
import Derived.Test.YthfkppjajmjpnaaDoorZME0
import Derived.MapKept
import Derived.ChangeMaps4
import Derived.Maps.RangeRun
import Derived.Sort.LoopGhostIn

set_option linter.unusedVariables false
set_option linter.unusedSimpArgs false
set_option maxHeartbeats 4000000
section
namespace Go.Proofs.YthfkppjajmjpnaaDoor.Te
open Go Go.RowKit
open Rely Auto Own Seat Sha
def Qb7 (a b:NdC):Bool:=a.us==b.us&&a.nm==b.nm&&decide (a.key=b.key)&&decide (a.sg=b.sg)&&decide (a.pa=b.pa)&&decide (a.ms=b.ms)
theorem Qkw (nd me:NdV) (hok:NdOk nd.n) (hok2:NdOk me.n) (B1 B2:Nat) (w:World) (hm1:nd.n.ms.length≤1000000) (hm2:me.n.ms.length≤1000000) (hr1:RdK .i64 B1 nd.n.ms (.slice nd.a nd.n.ms.length nd.c) w) (hr2:RdK .i64 B2 me.n.ms (.slice me.a me.n.ms.length me.c) w) (hu:nd.n.us≠me.n.us):Calls Tryd.prog 46 #[.agg (cat [#[.bool nd.n.us],#[.int .i64 nd.n.nm],ints .u8 (nd.n.key),ints .u8 (nd.n.sg),ints .u8 (nd.n.pa),#[.slice nd.a nd.n.ms.length nd.c]]),.agg (cat [#[.bool me.n.us],#[.int .i64 me.n.nm],ints .u8 (me.n.key),ints .u8 (me.n.sg),ints .u8 (me.n.pa),#[.slice me.a me.n.ms.length me.c]])] w (Ret w (.bool false)):=by
  refine enter 45 [(0,.agg (cat [#[.bool nd.n.us],#[.int .i64 nd.n.nm],ints .u8 (nd.n.key),ints .u8 (nd.n.sg),ints .u8 (nd.n.pa),#[.slice nd.a nd.n.ms.length nd.c]])),(1,.agg (cat [#[.bool me.n.us],#[.int .i64 me.n.nm],ints .u8 (me.n.key),ints .u8 (me.n.sg),ints .u8 (me.n.pa),#[.slice me.a me.n.ms.length me.c]]))] Tryd.func46 rfl rfl kj rfl ?_
  refine wp_seq_k fun K1 hK1=>?_
  refine Qab ?_
  refine Qan (cat [#[.bool nd.n.us],#[.int .i64 nd.n.nm],ints .u8 (nd.n.key),ints .u8 (nd.n.sg),ints .u8 (nd.n.pa),#[.slice nd.a nd.n.ms.length nd.c]]) 50 2 rfl kj kj fun g2 W1 l2 e1 r2_1=>?_
  have x1:Ext w W1:=Ext.tr (Rely.Ext.refl w) e1
  have b2:w.heap.size≤g2:=qT (Rely.Ext.refl w).size l2
  refine Qan (cat [#[.bool me.n.us],#[.int .i64 me.n.nm],ints .u8 (me.n.key),ints .u8 (me.n.sg),ints .u8 (me.n.pa),#[.slice me.a me.n.ms.length me.c]]) 50 3 rfl kj kj fun g3 W2 l3 e2 r3_2=>?_
  have x2:Ext w W2:=Ext.tr x1 e2
  have b3:w.heap.size≤g3:=qT x1.size l3
  refine Qaa (.bool false) 4 rfl kj kj ?_
  refine Qaf ?_
  refine hK1 _ _ ?_
  refine wp_seq_k fun K4 hK4=>?_
  refine Qab ?_
  refine Qaa (.pointer (some ⟨g2,0,none⟩)) 5 rfl kj kj ?_
  have r2_2:=(Qah r2_1 e2)
  refine Qaa (.bool nd.n.us) 6 rfl kj (Qag 4 _ g2 0 50 _ (.bool nd.n.us) _ r2_2 rfl kj (Qaj [] [#[.bool nd.n.us]] [#[.int .i64 nd.n.nm],ints .u8 (nd.n.key),ints .u8 (nd.n.sg),ints .u8 (nd.n.pa),#[.slice nd.a nd.n.ms.length nd.c]] 0 kj 0 _ rfl) kj) ?_
  refine Qaa (.pointer (some ⟨g3,0,none⟩)) 7 rfl kj kj ?_
  refine Qaa (.bool me.n.us) 8 rfl kj (Qag 4 _ g3 0 50 _ (.bool me.n.us) _ r3_2 rfl kj (Qaj [] [#[.bool me.n.us]] [#[.int .i64 me.n.nm],ints .u8 (me.n.key),ints .u8 (me.n.sg),ints .u8 (me.n.pa),#[.slice me.a me.n.ms.length me.c]] 0 kj 0 _ rfl) kj) ?_
  refine Qaa (.bool false) 9 rfl kj (Qai (u:=.bool (nd.n.us==me.n.us)) kj (congrArg Value.bool (beq_eq_false_iff_ne.2 hu))) ?_
  refine Qaa (.bool false) 10 rfl kj kj ?_
  refine Qad 11 rfl kj ?_
  refine Qad 12 rfl kj ?_
  refine Qad 13 rfl kj ?_
  refine Qad 14 rfl kj ?_
  refine Qad 15 rfl kj ?_
  refine Qaa (.bool false) 16 rfl kj kj ?_
  refine Qaa (.bool false) 17 rfl kj kj ?_
  refine Qad 18 rfl kj ?_
  refine Qad 19 rfl kj ?_
  refine Qad 20 rfl kj ?_
  refine Qad 21 rfl kj ?_
  refine Qad 22 rfl kj ?_
  refine Qaa (.bool false) 23 rfl kj kj ?_
  refine Qaa (.bool false) 24 rfl kj kj ?_
  refine Qad 25 rfl kj ?_
  refine Qad 26 rfl kj ?_
  refine Qad 27 rfl kj ?_
  refine Qad 28 rfl kj ?_
  refine Qad 29 rfl kj ?_
  refine Qaa (.bool false) 30 rfl kj kj ?_
  refine Qaa (.bool false) 31 rfl kj kj ?_
  refine Qad 32 rfl kj ?_
  refine Qad 33 rfl kj ?_
  refine Qad 34 rfl kj ?_
  refine Qad 35 rfl kj ?_
  refine Qad 36 rfl kj ?_
  refine Qaa (.bool false) 37 rfl kj kj ?_
  refine Qaa (.bool false) 38 rfl kj kj ?_
  refine Qad 39 rfl kj ?_
  refine Qad 40 rfl kj ?_
  refine Qad 41 rfl kj ?_
  refine Qad 42 rfl kj ?_
  refine Qad 43 rfl kj ?_
  refine Qaa (.bool false) 44 rfl kj kj ?_
  refine Qaa (.bool false) 4 rfl kj kj ?_
  refine Qaf ?_
  refine hK4 _ _ ?_
  refine wp_ret ?_
  repeat (first | with_reducible refine goR1 ?_ | with_reducible refine goR2 ?_)
  exact (show bodyPost _ _ _ .ret _ _ from ret1 (.bool false) rfl (Qaq kj) ⟨rfl,x2⟩)
theorem Qky (nd me:NdV) (hok:NdOk nd.n) (hok2:NdOk me.n) (B1 B2:Nat) (w:World) (hm1:nd.n.ms.length≤1000000) (hm2:me.n.ms.length≤1000000) (hr1:RdK .i64 B1 nd.n.ms (.slice nd.a nd.n.ms.length nd.c) w) (hr2:RdK .i64 B2 me.n.ms (.slice me.a me.n.ms.length me.c) w) (hu:nd.n.us=me.n.us) (hn:nd.n.nm≠me.n.nm):Calls Tryd.prog 46 #[.agg (cat [#[.bool nd.n.us],#[.int .i64 nd.n.nm],ints .u8 (nd.n.key),ints .u8 (nd.n.sg),ints .u8 (nd.n.pa),#[.slice nd.a nd.n.ms.length nd.c]]),.agg (cat [#[.bool me.n.us],#[.int .i64 me.n.nm],ints .u8 (me.n.key),ints .u8 (me.n.sg),ints .u8 (me.n.pa),#[.slice me.a me.n.ms.length me.c]])] w (Ret w (.bool false)):=by
  refine enter 45 [(0,.agg (cat [#[.bool nd.n.us],#[.int .i64 nd.n.nm],ints .u8 (nd.n.key),ints .u8 (nd.n.sg),ints .u8 (nd.n.pa),#[.slice nd.a nd.n.ms.length nd.c]])),(1,.agg (cat [#[.bool me.n.us],#[.int .i64 me.n.nm],ints .u8 (me.n.key),ints .u8 (me.n.sg),ints .u8 (me.n.pa),#[.slice me.a me.n.ms.length me.c]]))] Tryd.func46 rfl rfl kj rfl ?_
  refine wp_seq_k fun K1 hK1=>?_
  refine Qab ?_
  refine Qan (cat [#[.bool nd.n.us],#[.int .i64 nd.n.nm],ints .u8 (nd.n.key),ints .u8 (nd.n.sg),ints .u8 (nd.n.pa),#[.slice nd.a nd.n.ms.length nd.c]]) 50 2 rfl kj kj fun g2 W1 l2 e1 r2_1=>?_
  have x1:Ext w W1:=Ext.tr (Rely.Ext.refl w) e1
  have b2:w.heap.size≤g2:=qT (Rely.Ext.refl w).size l2
  refine Qan (cat [#[.bool me.n.us],#[.int .i64 me.n.nm],ints .u8 (me.n.key),ints .u8 (me.n.sg),ints .u8 (me.n.pa),#[.slice me.a me.n.ms.length me.c]]) 50 3 rfl kj kj fun g3 W2 l3 e2 r3_2=>?_
  have x2:Ext w W2:=Ext.tr x1 e2
  have b3:w.heap.size≤g3:=qT x1.size l3
  refine Qaa (.bool false) 4 rfl kj kj ?_
  refine Qaf ?_
  refine hK1 _ _ ?_
  refine wp_seq_k fun K4 hK4=>?_
  refine Qab ?_
  refine Qaa (.pointer (some ⟨g2,0,none⟩)) 5 rfl kj kj ?_
  have r2_2:=(Qah r2_1 e2)
  refine Qaa (.bool nd.n.us) 6 rfl kj (Qag 4 _ g2 0 50 _ (.bool nd.n.us) _ r2_2 rfl kj (Qaj [] [#[.bool nd.n.us]] [#[.int .i64 nd.n.nm],ints .u8 (nd.n.key),ints .u8 (nd.n.sg),ints .u8 (nd.n.pa),#[.slice nd.a nd.n.ms.length nd.c]] 0 kj 0 _ rfl) kj) ?_
  refine Qaa (.pointer (some ⟨g3,0,none⟩)) 7 rfl kj kj ?_
  refine Qaa (.bool me.n.us) 8 rfl kj (Qag 4 _ g3 0 50 _ (.bool me.n.us) _ r3_2 rfl kj (Qaj [] [#[.bool me.n.us]] [#[.int .i64 me.n.nm],ints .u8 (me.n.key),ints .u8 (me.n.sg),ints .u8 (me.n.pa),#[.slice me.a me.n.ms.length me.c]] 0 kj 0 _ rfl) kj) ?_
  refine Qaa (.bool true) 9 rfl kj (Qai (u:=.bool (nd.n.us==me.n.us)) kj (congrArg Value.bool (beq_iff_eq.2 hu))) ?_
  refine Qaa (.bool true) 10 rfl kj kj ?_
  refine Qaa (.pointer (some ⟨g2,1,none⟩)) 11 rfl kj kj ?_
  refine Qaa (.int .i64 nd.n.nm) 12 rfl kj (Qag 3 _ g2 1 50 _ (.int .i64 nd.n.nm) _ r2_2 rfl kj (Qaj [#[.bool nd.n.us]] [#[.int .i64 nd.n.nm]] [ints .u8 (nd.n.key),ints .u8 (nd.n.sg),ints .u8 (nd.n.pa),#[.slice nd.a nd.n.ms.length nd.c]] 1 kj 0 _ rfl) kj) ?_
  refine Qaa (.pointer (some ⟨g3,1,none⟩)) 13 rfl kj kj ?_
  refine Qaa (.int .i64 me.n.nm) 14 rfl kj (Qag 3 _ g3 1 50 _ (.int .i64 me.n.nm) _ r3_2 rfl kj (Qaj [#[.bool me.n.us]] [#[.int .i64 me.n.nm]] [ints .u8 (me.n.key),ints .u8 (me.n.sg),ints .u8 (me.n.pa),#[.slice me.a me.n.ms.length me.c]] 1 kj 0 _ rfl) kj) ?_
  refine Qaa (.bool false) 15 rfl kj (Qai (u:=.bool ((nd.n.nm==me.n.nm))) kj (congrArg Value.bool (beq_eq_false_iff_ne.2 hn))) ?_
  refine Qaa (.bool false) 16 rfl kj kj ?_
  refine Qaa (.bool false) 17 rfl kj kj ?_
  refine Qad 18 rfl kj ?_
  refine Qad 19 rfl kj ?_
  refine Qad 20 rfl kj ?_
  refine Qad 21 rfl kj ?_
  refine Qad 22 rfl kj ?_
  refine Qaa (.bool false) 23 rfl kj kj ?_
  refine Qaa (.bool false) 24 rfl kj kj ?_
  refine Qad 25 rfl kj ?_
  refine Qad 26 rfl kj ?_
  refine Qad 27 rfl kj ?_
  refine Qad 28 rfl kj ?_
  refine Qad 29 rfl kj ?_
  refine Qaa (.bool false) 30 rfl kj kj ?_
  refine Qaa (.bool false) 31 rfl kj kj ?_
  refine Qad 32 rfl kj ?_
  refine Qad 33 rfl kj ?_
  refine Qad 34 rfl kj ?_
  refine Qad 35 rfl kj ?_
  refine Qad 36 rfl kj ?_
  refine Qaa (.bool false) 37 rfl kj kj ?_
  refine Qaa (.bool false) 38 rfl kj kj ?_
  refine Qad 39 rfl kj ?_
  refine Qad 40 rfl kj ?_
  refine Qad 41 rfl kj ?_
  refine Qad 42 rfl kj ?_
  refine Qad 43 rfl kj ?_
  refine Qaa (.bool false) 44 rfl kj kj ?_
  refine Qaa (.bool false) 4 rfl kj kj ?_
  refine Qaf ?_
  refine hK4 _ _ ?_
  refine wp_ret ?_
  repeat (first | with_reducible refine goR1 ?_ | with_reducible refine goR2 ?_)
  exact (show bodyPost _ _ _ .ret _ _ from ret1 (.bool false) rfl (Qaq kj) ⟨rfl,x2⟩)
theorem Qk0 (nd me:NdV) (hok:NdOk nd.n) (hok2:NdOk me.n) (B1 B2:Nat) (w:World) (hm1:nd.n.ms.length≤1000000) (hm2:me.n.ms.length≤1000000) (hr1:RdK .i64 B1 nd.n.ms (.slice nd.a nd.n.ms.length nd.c) w) (hr2:RdK .i64 B2 me.n.ms (.slice me.a me.n.ms.length me.c) w) (hu:nd.n.us=me.n.us) (hn:nd.n.nm=me.n.nm) (hk:nd.n.key=me.n.key) (hg:nd.n.sg≠me.n.sg):Calls Tryd.prog 46 #[.agg (cat [#[.bool nd.n.us],#[.int .i64 nd.n.nm],ints .u8 (nd.n.key),ints .u8 (nd.n.sg),ints .u8 (nd.n.pa),#[.slice nd.a nd.n.ms.length nd.c]]),.agg (cat [#[.bool me.n.us],#[.int .i64 me.n.nm],ints .u8 (me.n.key),ints .u8 (me.n.sg),ints .u8 (me.n.pa),#[.slice me.a me.n.ms.length me.c]])] w (Ret w (.bool false)):=by
  refine enter 45 [(0,.agg (cat [#[.bool nd.n.us],#[.int .i64 nd.n.nm],ints .u8 (nd.n.key),ints .u8 (nd.n.sg),ints .u8 (nd.n.pa),#[.slice nd.a nd.n.ms.length nd.c]])),(1,.agg (cat [#[.bool me.n.us],#[.int .i64 me.n.nm],ints .u8 (me.n.key),ints .u8 (me.n.sg),ints .u8 (me.n.pa),#[.slice me.a me.n.ms.length me.c]]))] Tryd.func46 rfl rfl kj rfl ?_
  refine wp_seq_k fun K1 hK1=>?_
  refine Qab ?_
  refine Qan (cat [#[.bool nd.n.us],#[.int .i64 nd.n.nm],ints .u8 (nd.n.key),ints .u8 (nd.n.sg),ints .u8 (nd.n.pa),#[.slice nd.a nd.n.ms.length nd.c]]) 50 2 rfl kj kj fun g2 W1 l2 e1 r2_1=>?_
  have x1:Ext w W1:=Ext.tr (Rely.Ext.refl w) e1
  have b2:w.heap.size≤g2:=qT (Rely.Ext.refl w).size l2
  refine Qan (cat [#[.bool me.n.us],#[.int .i64 me.n.nm],ints .u8 (me.n.key),ints .u8 (me.n.sg),ints .u8 (me.n.pa),#[.slice me.a me.n.ms.length me.c]]) 50 3 rfl kj kj fun g3 W2 l3 e2 r3_2=>?_
  have x2:Ext w W2:=Ext.tr x1 e2
  have b3:w.heap.size≤g3:=qT x1.size l3
  refine Qaa (.bool false) 4 rfl kj kj ?_
  refine Qaf ?_
  refine hK1 _ _ ?_
  refine wp_seq_k fun K4 hK4=>?_
  refine Qab ?_
  refine Qaa (.pointer (some ⟨g2,0,none⟩)) 5 rfl kj kj ?_
  have r2_2:=(Qah r2_1 e2)
  refine Qaa (.bool nd.n.us) 6 rfl kj (Qag 4 _ g2 0 50 _ (.bool nd.n.us) _ r2_2 rfl kj (Qaj [] [#[.bool nd.n.us]] [#[.int .i64 nd.n.nm],ints .u8 (nd.n.key),ints .u8 (nd.n.sg),ints .u8 (nd.n.pa),#[.slice nd.a nd.n.ms.length nd.c]] 0 kj 0 _ rfl) kj) ?_
  refine Qaa (.pointer (some ⟨g3,0,none⟩)) 7 rfl kj kj ?_
  refine Qaa (.bool me.n.us) 8 rfl kj (Qag 4 _ g3 0 50 _ (.bool me.n.us) _ r3_2 rfl kj (Qaj [] [#[.bool me.n.us]] [#[.int .i64 me.n.nm],ints .u8 (me.n.key),ints .u8 (me.n.sg),ints .u8 (me.n.pa),#[.slice me.a me.n.ms.length me.c]] 0 kj 0 _ rfl) kj) ?_
  refine Qaa (.bool true) 9 rfl kj (Qai (u:=.bool (nd.n.us==me.n.us)) kj (congrArg Value.bool (beq_iff_eq.2 hu))) ?_
  refine Qaa (.bool true) 10 rfl kj kj ?_
  refine Qaa (.pointer (some ⟨g2,1,none⟩)) 11 rfl kj kj ?_
  refine Qaa (.int .i64 nd.n.nm) 12 rfl kj (Qag 3 _ g2 1 50 _ (.int .i64 nd.n.nm) _ r2_2 rfl kj (Qaj [#[.bool nd.n.us]] [#[.int .i64 nd.n.nm]] [ints .u8 (nd.n.key),ints .u8 (nd.n.sg),ints .u8 (nd.n.pa),#[.slice nd.a nd.n.ms.length nd.c]] 1 kj 0 _ rfl) kj) ?_
  refine Qaa (.pointer (some ⟨g3,1,none⟩)) 13 rfl kj kj ?_
  refine Qaa (.int .i64 me.n.nm) 14 rfl kj (Qag 3 _ g3 1 50 _ (.int .i64 me.n.nm) _ r3_2 rfl kj (Qaj [#[.bool me.n.us]] [#[.int .i64 me.n.nm]] [ints .u8 (me.n.key),ints .u8 (me.n.sg),ints .u8 (me.n.pa),#[.slice me.a me.n.ms.length me.c]] 1 kj 0 _ rfl) kj) ?_
  refine Qaa (.bool true) 15 rfl kj (Qai (u:=.bool ((nd.n.nm==me.n.nm))) kj (congrArg Value.bool (beq_iff_eq.2 hn))) ?_
  refine Qaa (.bool true) 16 rfl kj kj ?_
  refine Qaa (.bool true) 17 rfl kj kj ?_
  refine Qaa (.pointer (some ⟨g2,2,none⟩)) 18 rfl kj kj ?_
  refine Qaa (.agg (ints .u8 (nd.n.key))) 19 rfl kj (Qao 48 _ g2 2 50 _ _ _ r2_2 rfl kj (Qaj [#[.bool nd.n.us],#[.int .i64 nd.n.nm]] [ints .u8 (nd.n.key)] [ints .u8 (nd.n.sg),ints .u8 (nd.n.pa),#[.slice nd.a nd.n.ms.length nd.c]] 2 kj) kj (isz (n:=32) kj ((Qae _ _).trans hok.kl))) ?_
  refine Qaa (.pointer (some ⟨g3,2,none⟩)) 20 rfl kj kj ?_
  refine Qaa (.agg (ints .u8 (me.n.key))) 21 rfl kj (Qao 48 _ g3 2 50 _ _ _ r3_2 rfl kj (Qaj [#[.bool me.n.us],#[.int .i64 me.n.nm]] [ints .u8 (me.n.key)] [ints .u8 (me.n.sg),ints .u8 (me.n.pa),#[.slice me.a me.n.ms.length me.c]] 2 kj) kj (isz (n:=32) kj ((Qae _ _).trans hok2.kl))) ?_
  refine Qaa (.bool true) 22 rfl kj (QaB 48 _ _ _ _ _ (.bool true) rfl kj kj kj (QaO 48 (e:=5) (k:=.u8) (nd.n.key) (me.n.key) (decide_eq_true hk) hok.kl hok2.kl kj kj kj _)) ?_
  refine Qaa (.bool true) 23 rfl kj kj ?_
  refine Qaa (.bool true) 24 rfl kj kj ?_
  refine Qaa (.pointer (some ⟨g2,34,none⟩)) 25 rfl kj kj ?_
  refine Qaa (.agg (ints .u8 (nd.n.sg))) 26 rfl kj (Qao 48 _ g2 34 50 _ _ _ r2_2 rfl kj (Qaj [#[.bool nd.n.us],#[.int .i64 nd.n.nm],ints .u8 (nd.n.key)] [ints .u8 (nd.n.sg)] [ints .u8 (nd.n.pa),#[.slice nd.a nd.n.ms.length nd.c]] 34 (by rw [Qac,Qac,Qac]; simp only [qS,cat,((Qae _ _).trans hok.kl)]; rfl)) kj (isz (n:=32) kj ((Qae _ _).trans hok.gl))) ?_
  refine Qaa (.pointer (some ⟨g3,34,none⟩)) 27 rfl kj kj ?_
  refine Qaa (.agg (ints .u8 (me.n.sg))) 28 rfl kj (Qao 48 _ g3 34 50 _ _ _ r3_2 rfl kj (Qaj [#[.bool me.n.us],#[.int .i64 me.n.nm],ints .u8 (me.n.key)] [ints .u8 (me.n.sg)] [ints .u8 (me.n.pa),#[.slice me.a me.n.ms.length me.c]] 34 (by rw [Qac,Qac,Qac]; simp only [qS,cat,((Qae _ _).trans hok2.kl)]; rfl)) kj (isz (n:=32) kj ((Qae _ _).trans hok2.gl))) ?_
  refine Qaa (.bool false) 29 rfl kj (QaB 48 _ _ _ _ _ (.bool false) rfl kj kj kj (QaO 48 (e:=5) (k:=.u8) (nd.n.sg) (me.n.sg) (decide_eq_false hg) hok.gl hok2.gl kj kj kj _)) ?_
  refine Qaa (.bool false) 30 rfl kj kj ?_
  refine Qaa (.bool false) 31 rfl kj kj ?_
  refine Qad 32 rfl kj ?_
  refine Qad 33 rfl kj ?_
  refine Qad 34 rfl kj ?_
  refine Qad 35 rfl kj ?_
  refine Qad 36 rfl kj ?_
  refine Qaa (.bool false) 37 rfl kj kj ?_
  refine Qaa (.bool false) 38 rfl kj kj ?_
  refine Qad 39 rfl kj ?_
  refine Qad 40 rfl kj ?_
  refine Qad 41 rfl kj ?_
  refine Qad 42 rfl kj ?_
  refine Qad 43 rfl kj ?_
  refine Qaa (.bool false) 44 rfl kj kj ?_
  refine Qaa (.bool false) 4 rfl kj kj ?_
  refine Qaf ?_
  refine hK4 _ _ ?_
  refine wp_ret ?_
  repeat (first | with_reducible refine goR1 ?_ | with_reducible refine goR2 ?_)
  exact (show bodyPost _ _ _ .ret _ _ from ret1 (.bool false) rfl (Qaq kj) ⟨rfl,x2⟩)
theorem Qkz (nd me:NdV) (hok:NdOk nd.n) (hok2:NdOk me.n) (B1 B2:Nat) (w:World) (hm1:nd.n.ms.length≤1000000) (hm2:me.n.ms.length≤1000000) (hr1:RdK .i64 B1 nd.n.ms (.slice nd.a nd.n.ms.length nd.c) w) (hr2:RdK .i64 B2 me.n.ms (.slice me.a me.n.ms.length me.c) w) (hu:nd.n.us=me.n.us) (hn:nd.n.nm=me.n.nm) (hk:nd.n.key≠me.n.key):Calls Tryd.prog 46 #[.agg (cat [#[.bool nd.n.us],#[.int .i64 nd.n.nm],ints .u8 (nd.n.key),ints .u8 (nd.n.sg),ints .u8 (nd.n.pa),#[.slice nd.a nd.n.ms.length nd.c]]),.agg (cat [#[.bool me.n.us],#[.int .i64 me.n.nm],ints .u8 (me.n.key),ints .u8 (me.n.sg),ints .u8 (me.n.pa),#[.slice me.a me.n.ms.length me.c]])] w (Ret w (.bool false)):=by
  refine enter 45 [(0,.agg (cat [#[.bool nd.n.us],#[.int .i64 nd.n.nm],ints .u8 (nd.n.key),ints .u8 (nd.n.sg),ints .u8 (nd.n.pa),#[.slice nd.a nd.n.ms.length nd.c]])),(1,.agg (cat [#[.bool me.n.us],#[.int .i64 me.n.nm],ints .u8 (me.n.key),ints .u8 (me.n.sg),ints .u8 (me.n.pa),#[.slice me.a me.n.ms.length me.c]]))] Tryd.func46 rfl rfl kj rfl ?_
  refine wp_seq_k fun K1 hK1=>?_
  refine Qab ?_
  refine Qan (cat [#[.bool nd.n.us],#[.int .i64 nd.n.nm],ints .u8 (nd.n.key),ints .u8 (nd.n.sg),ints .u8 (nd.n.pa),#[.slice nd.a nd.n.ms.length nd.c]]) 50 2 rfl kj kj fun g2 W1 l2 e1 r2_1=>?_
  have x1:Ext w W1:=Ext.tr (Rely.Ext.refl w) e1
  have b2:w.heap.size≤g2:=qT (Rely.Ext.refl w).size l2
  refine Qan (cat [#[.bool me.n.us],#[.int .i64 me.n.nm],ints .u8 (me.n.key),ints .u8 (me.n.sg),ints .u8 (me.n.pa),#[.slice me.a me.n.ms.length me.c]]) 50 3 rfl kj kj fun g3 W2 l3 e2 r3_2=>?_
  have x2:Ext w W2:=Ext.tr x1 e2
  have b3:w.heap.size≤g3:=qT x1.size l3
  refine Qaa (.bool false) 4 rfl kj kj ?_
  refine Qaf ?_
  refine hK1 _ _ ?_
  refine wp_seq_k fun K4 hK4=>?_
  refine Qab ?_
  refine Qaa (.pointer (some ⟨g2,0,none⟩)) 5 rfl kj kj ?_
  have r2_2:=(Qah r2_1 e2)
  refine Qaa (.bool nd.n.us) 6 rfl kj (Qag 4 _ g2 0 50 _ (.bool nd.n.us) _ r2_2 rfl kj (Qaj [] [#[.bool nd.n.us]] [#[.int .i64 nd.n.nm],ints .u8 (nd.n.key),ints .u8 (nd.n.sg),ints .u8 (nd.n.pa),#[.slice nd.a nd.n.ms.length nd.c]] 0 kj 0 _ rfl) kj) ?_
  refine Qaa (.pointer (some ⟨g3,0,none⟩)) 7 rfl kj kj ?_
  refine Qaa (.bool me.n.us) 8 rfl kj (Qag 4 _ g3 0 50 _ (.bool me.n.us) _ r3_2 rfl kj (Qaj [] [#[.bool me.n.us]] [#[.int .i64 me.n.nm],ints .u8 (me.n.key),ints .u8 (me.n.sg),ints .u8 (me.n.pa),#[.slice me.a me.n.ms.length me.c]] 0 kj 0 _ rfl) kj) ?_
  refine Qaa (.bool true) 9 rfl kj (Qai (u:=.bool (nd.n.us==me.n.us)) kj (congrArg Value.bool (beq_iff_eq.2 hu))) ?_
  refine Qaa (.bool true) 10 rfl kj kj ?_
  refine Qaa (.pointer (some ⟨g2,1,none⟩)) 11 rfl kj kj ?_
  refine Qaa (.int .i64 nd.n.nm) 12 rfl kj (Qag 3 _ g2 1 50 _ (.int .i64 nd.n.nm) _ r2_2 rfl kj (Qaj [#[.bool nd.n.us]] [#[.int .i64 nd.n.nm]] [ints .u8 (nd.n.key),ints .u8 (nd.n.sg),ints .u8 (nd.n.pa),#[.slice nd.a nd.n.ms.length nd.c]] 1 kj 0 _ rfl) kj) ?_
  refine Qaa (.pointer (some ⟨g3,1,none⟩)) 13 rfl kj kj ?_
  refine Qaa (.int .i64 me.n.nm) 14 rfl kj (Qag 3 _ g3 1 50 _ (.int .i64 me.n.nm) _ r3_2 rfl kj (Qaj [#[.bool me.n.us]] [#[.int .i64 me.n.nm]] [ints .u8 (me.n.key),ints .u8 (me.n.sg),ints .u8 (me.n.pa),#[.slice me.a me.n.ms.length me.c]] 1 kj 0 _ rfl) kj) ?_
  refine Qaa (.bool true) 15 rfl kj (Qai (u:=.bool ((nd.n.nm==me.n.nm))) kj (congrArg Value.bool (beq_iff_eq.2 hn))) ?_
  refine Qaa (.bool true) 16 rfl kj kj ?_
  refine Qaa (.bool true) 17 rfl kj kj ?_
  refine Qaa (.pointer (some ⟨g2,2,none⟩)) 18 rfl kj kj ?_
  refine Qaa (.agg (ints .u8 (nd.n.key))) 19 rfl kj (Qao 48 _ g2 2 50 _ _ _ r2_2 rfl kj (Qaj [#[.bool nd.n.us],#[.int .i64 nd.n.nm]] [ints .u8 (nd.n.key)] [ints .u8 (nd.n.sg),ints .u8 (nd.n.pa),#[.slice nd.a nd.n.ms.length nd.c]] 2 kj) kj (isz (n:=32) kj ((Qae _ _).trans hok.kl))) ?_
  refine Qaa (.pointer (some ⟨g3,2,none⟩)) 20 rfl kj kj ?_
  refine Qaa (.agg (ints .u8 (me.n.key))) 21 rfl kj (Qao 48 _ g3 2 50 _ _ _ r3_2 rfl kj (Qaj [#[.bool me.n.us],#[.int .i64 me.n.nm]] [ints .u8 (me.n.key)] [ints .u8 (me.n.sg),ints .u8 (me.n.pa),#[.slice me.a me.n.ms.length me.c]] 2 kj) kj (isz (n:=32) kj ((Qae _ _).trans hok2.kl))) ?_
  refine Qaa (.bool false) 22 rfl kj (QaB 48 _ _ _ _ _ (.bool false) rfl kj kj kj (QaO 48 (e:=5) (k:=.u8) (nd.n.key) (me.n.key) (decide_eq_false hk) hok.kl hok2.kl kj kj kj _)) ?_
  refine Qaa (.bool false) 23 rfl kj kj ?_
  refine Qaa (.bool false) 24 rfl kj kj ?_
  refine Qad 25 rfl kj ?_
  refine Qad 26 rfl kj ?_
  refine Qad 27 rfl kj ?_
  refine Qad 28 rfl kj ?_
  refine Qad 29 rfl kj ?_
  refine Qaa (.bool false) 30 rfl kj kj ?_
  refine Qaa (.bool false) 31 rfl kj kj ?_
  refine Qad 32 rfl kj ?_
  refine Qad 33 rfl kj ?_
  refine Qad 34 rfl kj ?_
  refine Qad 35 rfl kj ?_
  refine Qad 36 rfl kj ?_
  refine Qaa (.bool false) 37 rfl kj kj ?_
  refine Qaa (.bool false) 38 rfl kj kj ?_
  refine Qad 39 rfl kj ?_
  refine Qad 40 rfl kj ?_
  refine Qad 41 rfl kj ?_
  refine Qad 42 rfl kj ?_
  refine Qad 43 rfl kj ?_
  refine Qaa (.bool false) 44 rfl kj kj ?_
  refine Qaa (.bool false) 4 rfl kj kj ?_
  refine Qaf ?_
  refine hK4 _ _ ?_
  refine wp_ret ?_
  repeat (first | with_reducible refine goR1 ?_ | with_reducible refine goR2 ?_)
  exact (show bodyPost _ _ _ .ret _ _ from ret1 (.bool false) rfl (Qaq kj) ⟨rfl,x2⟩)
theorem Qkx (nd me:NdV) (hok:NdOk nd.n) (hok2:NdOk me.n) (B1 B2:Nat) (w:World) (hm1:nd.n.ms.length≤1000000) (hm2:me.n.ms.length≤1000000) (hr1:RdK .i64 B1 nd.n.ms (.slice nd.a nd.n.ms.length nd.c) w) (hr2:RdK .i64 B2 me.n.ms (.slice me.a me.n.ms.length me.c) w) (hu:nd.n.us=me.n.us) (hn:nd.n.nm=me.n.nm) (hk:nd.n.key=me.n.key) (hg:nd.n.sg=me.n.sg) (hp:nd.n.pa≠me.n.pa):Calls Tryd.prog 46 #[.agg (cat [#[.bool nd.n.us],#[.int .i64 nd.n.nm],ints .u8 (nd.n.key),ints .u8 (nd.n.sg),ints .u8 (nd.n.pa),#[.slice nd.a nd.n.ms.length nd.c]]),.agg (cat [#[.bool me.n.us],#[.int .i64 me.n.nm],ints .u8 (me.n.key),ints .u8 (me.n.sg),ints .u8 (me.n.pa),#[.slice me.a me.n.ms.length me.c]])] w (Ret w (.bool false)):=by
  refine enter 45 [(0,.agg (cat [#[.bool nd.n.us],#[.int .i64 nd.n.nm],ints .u8 (nd.n.key),ints .u8 (nd.n.sg),ints .u8 (nd.n.pa),#[.slice nd.a nd.n.ms.length nd.c]])),(1,.agg (cat [#[.bool me.n.us],#[.int .i64 me.n.nm],ints .u8 (me.n.key),ints .u8 (me.n.sg),ints .u8 (me.n.pa),#[.slice me.a me.n.ms.length me.c]]))] Tryd.func46 rfl rfl kj rfl ?_
  refine wp_seq_k fun K1 hK1=>?_
  refine Qab ?_
  refine Qan (cat [#[.bool nd.n.us],#[.int .i64 nd.n.nm],ints .u8 (nd.n.key),ints .u8 (nd.n.sg),ints .u8 (nd.n.pa),#[.slice nd.a nd.n.ms.length nd.c]]) 50 2 rfl kj kj fun g2 W1 l2 e1 r2_1=>?_
  have x1:Ext w W1:=Ext.tr (Rely.Ext.refl w) e1
  have b2:w.heap.size≤g2:=qT (Rely.Ext.refl w).size l2
  refine Qan (cat [#[.bool me.n.us],#[.int .i64 me.n.nm],ints .u8 (me.n.key),ints .u8 (me.n.sg),ints .u8 (me.n.pa),#[.slice me.a me.n.ms.length me.c]]) 50 3 rfl kj kj fun g3 W2 l3 e2 r3_2=>?_
  have x2:Ext w W2:=Ext.tr x1 e2
  have b3:w.heap.size≤g3:=qT x1.size l3
  refine Qaa (.bool false) 4 rfl kj kj ?_
  refine Qaf ?_
  refine hK1 _ _ ?_
  refine wp_seq_k fun K4 hK4=>?_
  refine Qab ?_
  refine Qaa (.pointer (some ⟨g2,0,none⟩)) 5 rfl kj kj ?_
  have r2_2:=(Qah r2_1 e2)
  refine Qaa (.bool nd.n.us) 6 rfl kj (Qag 4 _ g2 0 50 _ (.bool nd.n.us) _ r2_2 rfl kj (Qaj [] [#[.bool nd.n.us]] [#[.int .i64 nd.n.nm],ints .u8 (nd.n.key),ints .u8 (nd.n.sg),ints .u8 (nd.n.pa),#[.slice nd.a nd.n.ms.length nd.c]] 0 kj 0 _ rfl) kj) ?_
  refine Qaa (.pointer (some ⟨g3,0,none⟩)) 7 rfl kj kj ?_
  refine Qaa (.bool me.n.us) 8 rfl kj (Qag 4 _ g3 0 50 _ (.bool me.n.us) _ r3_2 rfl kj (Qaj [] [#[.bool me.n.us]] [#[.int .i64 me.n.nm],ints .u8 (me.n.key),ints .u8 (me.n.sg),ints .u8 (me.n.pa),#[.slice me.a me.n.ms.length me.c]] 0 kj 0 _ rfl) kj) ?_
  refine Qaa (.bool true) 9 rfl kj (Qai (u:=.bool (nd.n.us==me.n.us)) kj (congrArg Value.bool (beq_iff_eq.2 hu))) ?_
  refine Qaa (.bool true) 10 rfl kj kj ?_
  refine Qaa (.pointer (some ⟨g2,1,none⟩)) 11 rfl kj kj ?_
  refine Qaa (.int .i64 nd.n.nm) 12 rfl kj (Qag 3 _ g2 1 50 _ (.int .i64 nd.n.nm) _ r2_2 rfl kj (Qaj [#[.bool nd.n.us]] [#[.int .i64 nd.n.nm]] [ints .u8 (nd.n.key),ints .u8 (nd.n.sg),ints .u8 (nd.n.pa),#[.slice nd.a nd.n.ms.length nd.c]] 1 kj 0 _ rfl) kj) ?_
  refine Qaa (.pointer (some ⟨g3,1,none⟩)) 13 rfl kj kj ?_
  refine Qaa (.int .i64 me.n.nm) 14 rfl kj (Qag 3 _ g3 1 50 _ (.int .i64 me.n.nm) _ r3_2 rfl kj (Qaj [#[.bool me.n.us]] [#[.int .i64 me.n.nm]] [ints .u8 (me.n.key),ints .u8 (me.n.sg),ints .u8 (me.n.pa),#[.slice me.a me.n.ms.length me.c]] 1 kj 0 _ rfl) kj) ?_
  refine Qaa (.bool true) 15 rfl kj (Qai (u:=.bool ((nd.n.nm==me.n.nm))) kj (congrArg Value.bool (beq_iff_eq.2 hn))) ?_
  refine Qaa (.bool true) 16 rfl kj kj ?_
  refine Qaa (.bool true) 17 rfl kj kj ?_
  refine Qaa (.pointer (some ⟨g2,2,none⟩)) 18 rfl kj kj ?_
  refine Qaa (.agg (ints .u8 (nd.n.key))) 19 rfl kj (Qao 48 _ g2 2 50 _ _ _ r2_2 rfl kj (Qaj [#[.bool nd.n.us],#[.int .i64 nd.n.nm]] [ints .u8 (nd.n.key)] [ints .u8 (nd.n.sg),ints .u8 (nd.n.pa),#[.slice nd.a nd.n.ms.length nd.c]] 2 kj) kj (isz (n:=32) kj ((Qae _ _).trans hok.kl))) ?_
  refine Qaa (.pointer (some ⟨g3,2,none⟩)) 20 rfl kj kj ?_
  refine Qaa (.agg (ints .u8 (me.n.key))) 21 rfl kj (Qao 48 _ g3 2 50 _ _ _ r3_2 rfl kj (Qaj [#[.bool me.n.us],#[.int .i64 me.n.nm]] [ints .u8 (me.n.key)] [ints .u8 (me.n.sg),ints .u8 (me.n.pa),#[.slice me.a me.n.ms.length me.c]] 2 kj) kj (isz (n:=32) kj ((Qae _ _).trans hok2.kl))) ?_
  refine Qaa (.bool true) 22 rfl kj (QaB 48 _ _ _ _ _ (.bool true) rfl kj kj kj (QaO 48 (e:=5) (k:=.u8) (nd.n.key) (me.n.key) (decide_eq_true hk) hok.kl hok2.kl kj kj kj _)) ?_
  refine Qaa (.bool true) 23 rfl kj kj ?_
  refine Qaa (.bool true) 24 rfl kj kj ?_
  refine Qaa (.pointer (some ⟨g2,34,none⟩)) 25 rfl kj kj ?_
  refine Qaa (.agg (ints .u8 (nd.n.sg))) 26 rfl kj (Qao 48 _ g2 34 50 _ _ _ r2_2 rfl kj (Qaj [#[.bool nd.n.us],#[.int .i64 nd.n.nm],ints .u8 (nd.n.key)] [ints .u8 (nd.n.sg)] [ints .u8 (nd.n.pa),#[.slice nd.a nd.n.ms.length nd.c]] 34 (by rw [Qac,Qac,Qac]; simp only [qS,cat,((Qae _ _).trans hok.kl)]; rfl)) kj (isz (n:=32) kj ((Qae _ _).trans hok.gl))) ?_
  refine Qaa (.pointer (some ⟨g3,34,none⟩)) 27 rfl kj kj ?_
  refine Qaa (.agg (ints .u8 (me.n.sg))) 28 rfl kj (Qao 48 _ g3 34 50 _ _ _ r3_2 rfl kj (Qaj [#[.bool me.n.us],#[.int .i64 me.n.nm],ints .u8 (me.n.key)] [ints .u8 (me.n.sg)] [ints .u8 (me.n.pa),#[.slice me.a me.n.ms.length me.c]] 34 (by rw [Qac,Qac,Qac]; simp only [qS,cat,((Qae _ _).trans hok2.kl)]; rfl)) kj (isz (n:=32) kj ((Qae _ _).trans hok2.gl))) ?_
  refine Qaa (.bool true) 29 rfl kj (QaB 48 _ _ _ _ _ (.bool true) rfl kj kj kj (QaO 48 (e:=5) (k:=.u8) (nd.n.sg) (me.n.sg) (decide_eq_true hg) hok.gl hok2.gl kj kj kj _)) ?_
  refine Qaa (.bool true) 30 rfl kj kj ?_
  refine Qaa (.bool true) 31 rfl kj kj ?_
  refine Qaa (.pointer (some ⟨g2,66,none⟩)) 32 rfl kj kj ?_
  refine Qaa (.agg (ints .u8 (nd.n.pa))) 33 rfl kj (Qao 28 _ g2 66 50 _ _ _ r2_2 rfl kj (Qaj [#[.bool nd.n.us],#[.int .i64 nd.n.nm],ints .u8 (nd.n.key),ints .u8 (nd.n.sg)] [ints .u8 (nd.n.pa)] [#[.slice nd.a nd.n.ms.length nd.c]] 66 (by rw [Qac,Qac,Qac,Qac]; simp only [qS,cat,((Qae _ _).trans hok.gl),((Qae _ _).trans hok.kl)]; rfl)) kj (isz (n:=32) kj ((Qae _ _).trans hok.pl))) ?_
  refine Qaa (.pointer (some ⟨g3,66,none⟩)) 34 rfl kj kj ?_
  refine Qaa (.agg (ints .u8 (me.n.pa))) 35 rfl kj (Qao 28 _ g3 66 50 _ _ _ r3_2 rfl kj (Qaj [#[.bool me.n.us],#[.int .i64 me.n.nm],ints .u8 (me.n.key),ints .u8 (me.n.sg)] [ints .u8 (me.n.pa)] [#[.slice me.a me.n.ms.length me.c]] 66 (by rw [Qac,Qac,Qac,Qac]; simp only [qS,cat,((Qae _ _).trans hok2.gl),((Qae _ _).trans hok2.kl)]; rfl)) kj (isz (n:=32) kj ((Qae _ _).trans hok2.pl))) ?_
  refine Qaa (.bool false) 36 rfl kj (QaB 28 _ _ _ _ _ (.bool false) rfl kj kj kj (QaO 28 (e:=5) (k:=.u8) (nd.n.pa) (me.n.pa) (decide_eq_false hp) hok.pl hok2.pl kj kj kj _)) ?_
  refine Qaa (.bool false) 37 rfl kj kj ?_
  refine Qaa (.bool false) 38 rfl kj kj ?_
  refine Qad 39 rfl kj ?_
  refine Qad 40 rfl kj ?_
  refine Qad 41 rfl kj ?_
  refine Qad 42 rfl kj ?_
  refine Qad 43 rfl kj ?_
  refine Qaa (.bool false) 44 rfl kj kj ?_
  refine Qaa (.bool false) 4 rfl kj kj ?_
  refine Qaf ?_
  refine hK4 _ _ ?_
  refine wp_ret ?_
  repeat (first | with_reducible refine goR1 ?_ | with_reducible refine goR2 ?_)
  exact (show bodyPost _ _ _ .ret _ _ from ret1 (.bool false) rfl (Qaq kj) ⟨rfl,x2⟩)
theorem Qk1 (nd me:NdV) (hok:NdOk nd.n) (hok2:NdOk me.n) (B1 B2:Nat) (w:World) (hm1:nd.n.ms.length≤1000000) (hm2:me.n.ms.length≤1000000) (hr1:RdK .i64 B1 nd.n.ms (.slice nd.a nd.n.ms.length nd.c) w) (hr2:RdK .i64 B2 me.n.ms (.slice me.a me.n.ms.length me.c) w) (hu:nd.n.us=me.n.us) (hn:nd.n.nm=me.n.nm) (hk:nd.n.key=me.n.key) (hg:nd.n.sg=me.n.sg) (hp:nd.n.pa=me.n.pa):Calls Tryd.prog 46 #[.agg (cat [#[.bool nd.n.us],#[.int .i64 nd.n.nm],ints .u8 (nd.n.key),ints .u8 (nd.n.sg),ints .u8 (nd.n.pa),#[.slice nd.a nd.n.ms.length nd.c]]),.agg (cat [#[.bool me.n.us],#[.int .i64 me.n.nm],ints .u8 (me.n.key),ints .u8 (me.n.sg),ints .u8 (me.n.pa),#[.slice me.a me.n.ms.length me.c]])] w (Ret w (.bool (decide (nd.n.ms=me.n.ms)))):=by
  refine enter 45 [(0,.agg (cat [#[.bool nd.n.us],#[.int .i64 nd.n.nm],ints .u8 (nd.n.key),ints .u8 (nd.n.sg),ints .u8 (nd.n.pa),#[.slice nd.a nd.n.ms.length nd.c]])),(1,.agg (cat [#[.bool me.n.us],#[.int .i64 me.n.nm],ints .u8 (me.n.key),ints .u8 (me.n.sg),ints .u8 (me.n.pa),#[.slice me.a me.n.ms.length me.c]]))] Tryd.func46 rfl rfl kj rfl ?_
  refine wp_seq_k fun K1 hK1=>?_
  refine Qab ?_
  refine Qan (cat [#[.bool nd.n.us],#[.int .i64 nd.n.nm],ints .u8 (nd.n.key),ints .u8 (nd.n.sg),ints .u8 (nd.n.pa),#[.slice nd.a nd.n.ms.length nd.c]]) 50 2 rfl kj kj fun g2 W1 l2 e1 r2_1=>?_
  have x1:Ext w W1:=Ext.tr (Rely.Ext.refl w) e1
  have b2:w.heap.size≤g2:=qT (Rely.Ext.refl w).size l2
  refine Qan (cat [#[.bool me.n.us],#[.int .i64 me.n.nm],ints .u8 (me.n.key),ints .u8 (me.n.sg),ints .u8 (me.n.pa),#[.slice me.a me.n.ms.length me.c]]) 50 3 rfl kj kj fun g3 W2 l3 e2 r3_2=>?_
  have x2:Ext w W2:=Ext.tr x1 e2
  have b3:w.heap.size≤g3:=qT x1.size l3
  refine Qaa (.bool false) 4 rfl kj kj ?_
  refine Qaf ?_
  refine hK1 _ _ ?_
  refine wp_seq_k fun K4 hK4=>?_
  refine Qab ?_
  refine Qaa (.pointer (some ⟨g2,0,none⟩)) 5 rfl kj kj ?_
  have r2_2:=(Qah r2_1 e2)
  refine Qaa (.bool nd.n.us) 6 rfl kj (Qag 4 _ g2 0 50 _ (.bool nd.n.us) _ r2_2 rfl kj (Qaj [] [#[.bool nd.n.us]] [#[.int .i64 nd.n.nm],ints .u8 (nd.n.key),ints .u8 (nd.n.sg),ints .u8 (nd.n.pa),#[.slice nd.a nd.n.ms.length nd.c]] 0 kj 0 _ rfl) kj) ?_
  refine Qaa (.pointer (some ⟨g3,0,none⟩)) 7 rfl kj kj ?_
  refine Qaa (.bool me.n.us) 8 rfl kj (Qag 4 _ g3 0 50 _ (.bool me.n.us) _ r3_2 rfl kj (Qaj [] [#[.bool me.n.us]] [#[.int .i64 me.n.nm],ints .u8 (me.n.key),ints .u8 (me.n.sg),ints .u8 (me.n.pa),#[.slice me.a me.n.ms.length me.c]] 0 kj 0 _ rfl) kj) ?_
  refine Qaa (.bool true) 9 rfl kj (Qai (u:=.bool (nd.n.us==me.n.us)) kj (congrArg Value.bool (beq_iff_eq.2 hu))) ?_
  refine Qaa (.bool true) 10 rfl kj kj ?_
  refine Qaa (.pointer (some ⟨g2,1,none⟩)) 11 rfl kj kj ?_
  refine Qaa (.int .i64 nd.n.nm) 12 rfl kj (Qag 3 _ g2 1 50 _ (.int .i64 nd.n.nm) _ r2_2 rfl kj (Qaj [#[.bool nd.n.us]] [#[.int .i64 nd.n.nm]] [ints .u8 (nd.n.key),ints .u8 (nd.n.sg),ints .u8 (nd.n.pa),#[.slice nd.a nd.n.ms.length nd.c]] 1 kj 0 _ rfl) kj) ?_
  refine Qaa (.pointer (some ⟨g3,1,none⟩)) 13 rfl kj kj ?_
  refine Qaa (.int .i64 me.n.nm) 14 rfl kj (Qag 3 _ g3 1 50 _ (.int .i64 me.n.nm) _ r3_2 rfl kj (Qaj [#[.bool me.n.us]] [#[.int .i64 me.n.nm]] [ints .u8 (me.n.key),ints .u8 (me.n.sg),ints .u8 (me.n.pa),#[.slice me.a me.n.ms.length me.c]] 1 kj 0 _ rfl) kj) ?_
  refine Qaa (.bool true) 15 rfl kj (Qai (u:=.bool ((nd.n.nm==me.n.nm))) kj (congrArg Value.bool (beq_iff_eq.2 hn))) ?_
  refine Qaa (.bool true) 16 rfl kj kj ?_
  refine Qaa (.bool true) 17 rfl kj kj ?_
  refine Qaa (.pointer (some ⟨g2,2,none⟩)) 18 rfl kj kj ?_
  refine Qaa (.agg (ints .u8 (nd.n.key))) 19 rfl kj (Qao 48 _ g2 2 50 _ _ _ r2_2 rfl kj (Qaj [#[.bool nd.n.us],#[.int .i64 nd.n.nm]] [ints .u8 (nd.n.key)] [ints .u8 (nd.n.sg),ints .u8 (nd.n.pa),#[.slice nd.a nd.n.ms.length nd.c]] 2 kj) kj (isz (n:=32) kj ((Qae _ _).trans hok.kl))) ?_
  refine Qaa (.pointer (some ⟨g3,2,none⟩)) 20 rfl kj kj ?_
  refine Qaa (.agg (ints .u8 (me.n.key))) 21 rfl kj (Qao 48 _ g3 2 50 _ _ _ r3_2 rfl kj (Qaj [#[.bool me.n.us],#[.int .i64 me.n.nm]] [ints .u8 (me.n.key)] [ints .u8 (me.n.sg),ints .u8 (me.n.pa),#[.slice me.a me.n.ms.length me.c]] 2 kj) kj (isz (n:=32) kj ((Qae _ _).trans hok2.kl))) ?_
  refine Qaa (.bool true) 22 rfl kj (QaB 48 _ _ _ _ _ (.bool true) rfl kj kj kj (QaO 48 (e:=5) (k:=.u8) (nd.n.key) (me.n.key) (decide_eq_true hk) hok.kl hok2.kl kj kj kj _)) ?_
  refine Qaa (.bool true) 23 rfl kj kj ?_
  refine Qaa (.bool true) 24 rfl kj kj ?_
  refine Qaa (.pointer (some ⟨g2,34,none⟩)) 25 rfl kj kj ?_
  refine Qaa (.agg (ints .u8 (nd.n.sg))) 26 rfl kj (Qao 48 _ g2 34 50 _ _ _ r2_2 rfl kj (Qaj [#[.bool nd.n.us],#[.int .i64 nd.n.nm],ints .u8 (nd.n.key)] [ints .u8 (nd.n.sg)] [ints .u8 (nd.n.pa),#[.slice nd.a nd.n.ms.length nd.c]] 34 (by rw [Qac,Qac,Qac]; simp only [qS,cat,((Qae _ _).trans hok.kl)]; rfl)) kj (isz (n:=32) kj ((Qae _ _).trans hok.gl))) ?_
  refine Qaa (.pointer (some ⟨g3,34,none⟩)) 27 rfl kj kj ?_
  refine Qaa (.agg (ints .u8 (me.n.sg))) 28 rfl kj (Qao 48 _ g3 34 50 _ _ _ r3_2 rfl kj (Qaj [#[.bool me.n.us],#[.int .i64 me.n.nm],ints .u8 (me.n.key)] [ints .u8 (me.n.sg)] [ints .u8 (me.n.pa),#[.slice me.a me.n.ms.length me.c]] 34 (by rw [Qac,Qac,Qac]; simp only [qS,cat,((Qae _ _).trans hok2.kl)]; rfl)) kj (isz (n:=32) kj ((Qae _ _).trans hok2.gl))) ?_
  refine Qaa (.bool true) 29 rfl kj (QaB 48 _ _ _ _ _ (.bool true) rfl kj kj kj (QaO 48 (e:=5) (k:=.u8) (nd.n.sg) (me.n.sg) (decide_eq_true hg) hok.gl hok2.gl kj kj kj _)) ?_
  refine Qaa (.bool true) 30 rfl kj kj ?_
  refine Qaa (.bool true) 31 rfl kj kj ?_
  refine Qaa (.pointer (some ⟨g2,66,none⟩)) 32 rfl kj kj ?_
  refine Qaa (.agg (ints .u8 (nd.n.pa))) 33 rfl kj (Qao 28 _ g2 66 50 _ _ _ r2_2 rfl kj (Qaj [#[.bool nd.n.us],#[.int .i64 nd.n.nm],ints .u8 (nd.n.key),ints .u8 (nd.n.sg)] [ints .u8 (nd.n.pa)] [#[.slice nd.a nd.n.ms.length nd.c]] 66 (by rw [Qac,Qac,Qac,Qac]; simp only [qS,cat,((Qae _ _).trans hok.gl),((Qae _ _).trans hok.kl)]; rfl)) kj (isz (n:=32) kj ((Qae _ _).trans hok.pl))) ?_
  refine Qaa (.pointer (some ⟨g3,66,none⟩)) 34 rfl kj kj ?_
  refine Qaa (.agg (ints .u8 (me.n.pa))) 35 rfl kj (Qao 28 _ g3 66 50 _ _ _ r3_2 rfl kj (Qaj [#[.bool me.n.us],#[.int .i64 me.n.nm],ints .u8 (me.n.key),ints .u8 (me.n.sg)] [ints .u8 (me.n.pa)] [#[.slice me.a me.n.ms.length me.c]] 66 (by rw [Qac,Qac,Qac,Qac]; simp only [qS,cat,((Qae _ _).trans hok2.gl),((Qae _ _).trans hok2.kl)]; rfl)) kj (isz (n:=32) kj ((Qae _ _).trans hok2.pl))) ?_
  refine Qaa (.bool true) 36 rfl kj (QaB 28 _ _ _ _ _ (.bool true) rfl kj kj kj (QaO 28 (e:=5) (k:=.u8) (nd.n.pa) (me.n.pa) (decide_eq_true hp) hok.pl hok2.pl kj kj kj _)) ?_
  refine Qaa (.bool true) 37 rfl kj kj ?_
  refine Qaa (.bool true) 38 rfl kj kj ?_
  refine Qaa (.pointer (some ⟨g2,98,none⟩)) 39 rfl kj kj ?_
  refine Qaa (.slice nd.a nd.n.ms.length nd.c) 40 rfl kj (Qag 24 _ g2 98 50 _ (.slice nd.a nd.n.ms.length nd.c) _ r2_2 rfl kj (Qaj [#[.bool nd.n.us],#[.int .i64 nd.n.nm],ints .u8 (nd.n.key),ints .u8 (nd.n.sg),ints .u8 (nd.n.pa)] [#[.slice nd.a nd.n.ms.length nd.c]] [] 98 (by rw [Qac,Qac,Qac,Qac,Qac]; simp only [qS,cat,((Qae _ _).trans hok.gl),((Qae _ _).trans hok.kl),((Qae _ _).trans hok.pl)]; rfl) 0 _ rfl) kj) ?_
  refine Qaa (.pointer (some ⟨g3,98,none⟩)) 41 rfl kj kj ?_
  refine Qaa (.slice me.a me.n.ms.length me.c) 42 rfl kj (Qag 24 _ g3 98 50 _ (.slice me.a me.n.ms.length me.c) _ r3_2 rfl kj (Qaj [#[.bool me.n.us],#[.int .i64 me.n.nm],ints .u8 (me.n.key),ints .u8 (me.n.sg),ints .u8 (me.n.pa)] [#[.slice me.a me.n.ms.length me.c]] [] 98 (by rw [Qac,Qac,Qac,Qac,Qac]; simp only [qS,cat,((Qae _ _).trans hok2.gl),((Qae _ _).trans hok2.kl),((Qae _ _).trans hok2.pl)]; rfl) 0 _ rfl) kj) ?_
  refine Qal (.bool (decide (nd.n.ms=me.n.ms))) 61 #[.slice nd.a nd.n.ms.length nd.c,.slice me.a me.n.ms.length me.c] 43 rfl kj kj (Qlc nd.n.ms me.n.ms nd.a me.a nd.c me.c _ _ _ hm1 hm2 (RdK.here (RdK.ext hr1 x2)) (RdK.here (RdK.ext hr2 x2))) fun W3 e3=>?_
  have x3:Ext w W3:=Ext.tr x2 e3
  refine Qaa (.bool (decide (nd.n.ms=me.n.ms))) 44 rfl kj kj ?_
  refine Qaa (.bool (decide (nd.n.ms=me.n.ms))) 4 rfl kj kj ?_
  refine Qaf ?_
  refine hK4 _ _ ?_
  refine wp_ret ?_
  repeat (first | with_reducible refine goR1 ?_ | with_reducible refine goR2 ?_)
  exact (show bodyPost _ _ _ .ret _ _ from ret1 (.bool (decide (nd.n.ms=me.n.ms))) rfl (Qaq kj) ⟨rfl,x3⟩)
theorem QlH (nd me:NdV) (hok:NdOk nd.n) (hok2:NdOk me.n) (B1 B2:Nat) (w:World) (hm1:nd.n.ms.length≤1000000) (hm2:me.n.ms.length≤1000000) (hr1:RdK .i64 B1 nd.n.ms (.slice nd.a nd.n.ms.length nd.c) w) (hr2:RdK .i64 B2 me.n.ms (.slice me.a me.n.ms.length me.c) w):Calls Tryd.prog 46 #[.agg (cat (ndP nd)),.agg (cat (ndP me))] w (Ret w (.bool (Qb7 nd.n me.n))):=by
  unfold Qb7 ndP
  by_cases hu:nd.n.us=me.n.us
  case neg=>rw [beq_eq_false_iff_ne.2 hu]; simp only [Bool.false_and]; exact Qkw nd me hok hok2 B1 B2 w hm1 hm2 hr1 hr2 hu
  by_cases hn:nd.n.nm=me.n.nm
  case neg=>rw [beq_eq_false_iff_ne.2 hn]; simp only [Bool.false_and,Bool.and_false]; exact Qky nd me hok hok2 B1 B2 w hm1 hm2 hr1 hr2 hu hn
  by_cases hk:nd.n.key=me.n.key
  case neg=>rw [decide_eq_false hk]; simp only [Bool.false_and,Bool.and_false]; exact Qkz nd me hok hok2 B1 B2 w hm1 hm2 hr1 hr2 hu hn hk
  by_cases hg:nd.n.sg=me.n.sg
  case neg=>rw [decide_eq_false hg]; simp only [Bool.false_and,Bool.and_false]; exact Qk0 nd me hok hok2 B1 B2 w hm1 hm2 hr1 hr2 hu hn hk hg
  by_cases hp:nd.n.pa=me.n.pa
  case neg=>rw [decide_eq_false hp]; simp only [Bool.false_and,Bool.and_false]; exact Qkx nd me hok hok2 B1 B2 w hm1 hm2 hr1 hr2 hu hn hk hg hp
  rw [beq_iff_eq.2 hu,beq_iff_eq.2 hn,decide_eq_true hk,decide_eq_true hg,decide_eq_true hp]
  simp only [Bool.true_and]
  exact Qk1 nd me hok hok2 B1 B2 w hm1 hm2 hr1 hr2 hu hn hk hg hp
end Go.Proofs.YthfkppjajmjpnaaDoor.Te
end
section
namespace Go.Proofs.YthfkppjajmjpnaaDoor.Te
open Go Go.RowKit
open Rely Auto Own Seat Sha
theorem Qkq (nd me:NdV) (hok:NdOk nd.n) (hok2:NdOk me.n) (B1 B2:Nat) (w:World) (hm1:nd.n.ms.length≤1000000) (hm2:me.n.ms.length≤1000000) (hr1:RdK .i64 B1 nd.n.ms (.slice nd.a nd.n.ms.length nd.c) w) (hr2:RdK .i64 B2 me.n.ms (.slice me.a me.n.ms.length me.c) w) (hu:nd.n.us≠me.n.us):Calls Tryd.prog 31 #[.agg (cat [#[.bool nd.n.us],#[.int .i64 nd.n.nm],ints .u8 (nd.n.key),ints .u8 (nd.n.sg),ints .u8 (nd.n.pa),#[.slice nd.a nd.n.ms.length nd.c]]),.agg (cat [#[.bool me.n.us],#[.int .i64 me.n.nm],ints .u8 (me.n.key),ints .u8 (me.n.sg),ints .u8 (me.n.pa),#[.slice me.a me.n.ms.length me.c]])] w (Ret w (.bool false)):=by
  refine enter 66 [(0,.agg (cat [#[.bool nd.n.us],#[.int .i64 nd.n.nm],ints .u8 (nd.n.key),ints .u8 (nd.n.sg),ints .u8 (nd.n.pa),#[.slice nd.a nd.n.ms.length nd.c]])),(1,.agg (cat [#[.bool me.n.us],#[.int .i64 me.n.nm],ints .u8 (me.n.key),ints .u8 (me.n.sg),ints .u8 (me.n.pa),#[.slice me.a me.n.ms.length me.c]]))] Tryd.func31 rfl rfl kj rfl ?_
  refine wp_seq_k fun K1 hK1=>?_
  refine Qab ?_
  refine Qan (cat [#[.bool nd.n.us],#[.int .i64 nd.n.nm],ints .u8 (nd.n.key),ints .u8 (nd.n.sg),ints .u8 (nd.n.pa),#[.slice nd.a nd.n.ms.length nd.c]]) 50 2 rfl kj kj fun g2 W1 l2 e1 r2_1=>?_
  have x1:Ext w W1:=Ext.tr (Rely.Ext.refl w) e1
  have b2:w.heap.size≤g2:=qT (Rely.Ext.refl w).size l2
  refine Qan (cat [#[.bool me.n.us],#[.int .i64 me.n.nm],ints .u8 (me.n.key),ints .u8 (me.n.sg),ints .u8 (me.n.pa),#[.slice me.a me.n.ms.length me.c]]) 50 3 rfl kj kj fun g3 W2 l3 e2 r3_2=>?_
  have x2:Ext w W2:=Ext.tr x1 e2
  have b3:w.heap.size≤g3:=qT x1.size l3
  refine Qaa (.bool false) 4 rfl kj kj ?_
  refine Qaf ?_
  refine hK1 _ _ ?_
  refine wp_seq_k fun K4 hK4=>?_
  refine wp_seq_k fun K5 hK5=>?_
  refine Qab ?_
  refine Qaa (.pointer (some ⟨g2,0,none⟩)) 6 rfl kj kj ?_
  have r2_2:=(Qah r2_1 e2)
  refine Qaa (.bool nd.n.us) 7 rfl kj (Qag 4 _ g2 0 50 _ (.bool nd.n.us) _ r2_2 rfl kj (Qaj [] [#[.bool nd.n.us]] [#[.int .i64 nd.n.nm],ints .u8 (nd.n.key),ints .u8 (nd.n.sg),ints .u8 (nd.n.pa),#[.slice nd.a nd.n.ms.length nd.c]] 0 kj 0 _ rfl) kj) ?_
  refine Qaa (.pointer (some ⟨g3,0,none⟩)) 8 rfl kj kj ?_
  refine Qaa (.bool me.n.us) 9 rfl kj (Qag 4 _ g3 0 50 _ (.bool me.n.us) _ r3_2 rfl kj (Qaj [] [#[.bool me.n.us]] [#[.int .i64 me.n.nm],ints .u8 (me.n.key),ints .u8 (me.n.sg),ints .u8 (me.n.pa),#[.slice me.a me.n.ms.length me.c]] 0 kj 0 _ rfl) kj) ?_
  refine Qaa (.bool true) 10 rfl kj (Qai (u:=.bool (nd.n.us != me.n.us)) kj (congrArg Value.bool (bne_iff_ne.2 hu))) ?_
  refine Qaa (.bool true) 11 rfl kj kj ?_
  refine Qad 12 rfl kj ?_
  refine Qad 13 rfl kj ?_
  refine Qad 14 rfl kj ?_
  refine Qad 15 rfl kj ?_
  refine Qad 16 rfl kj ?_
  refine Qaa (.bool true) 17 rfl kj kj ?_
  refine Qaa (.bool true) 18 rfl kj kj ?_
  refine Qad 19 rfl kj ?_
  refine Qad 20 rfl kj ?_
  refine Qad 21 rfl kj ?_
  refine Qad 22 rfl kj ?_
  refine Qad 23 rfl kj ?_
  refine Qaa (.bool true) 24 rfl kj kj ?_
  refine Qaa (.bool true) 25 rfl kj kj ?_
  refine Qad 26 rfl kj ?_
  refine Qad 27 rfl kj ?_
  refine Qad 28 rfl kj ?_
  refine Qad 29 rfl kj ?_
  refine Qad 30 rfl kj ?_
  refine Qaa (.bool true) 31 rfl kj kj ?_
  refine Qaa (.bool true) 32 rfl kj kj ?_
  refine Qad 33 rfl kj ?_
  refine Qad 34 rfl kj ?_
  refine Qad 35 rfl kj ?_
  refine Qad 36 rfl kj ?_
  refine Qad 37 rfl kj ?_
  refine Qaa (.bool true) 38 rfl kj kj ?_
  refine Qaa (.bool true) 39 rfl kj kj ?_
  refine Qad 40 rfl kj ?_
  refine Qad 41 rfl kj ?_
  refine Qad 42 rfl kj ?_
  refine Qad 43 rfl kj ?_
  refine Qad 44 rfl kj ?_
  refine Qad 45 rfl kj ?_
  refine Qad 46 rfl kj ?_
  refine Qaa (.bool true) 47 rfl kj kj ?_
  refine Qaf ?_
  refine hK5 _ _ ?_
  refine cond_true kj ?_
  refine wp_seq_k fun K6 hK6=>?_
  refine Qab ?_
  refine Qaa (.bool false) 4 rfl kj kj ?_
  refine Qaf ?_
  refine hK6 _ _ ?_
  refine wp_ret ?_
  repeat (first | with_reducible refine goR1 ?_ | with_reducible refine goR2 ?_)
  exact (show bodyPost _ _ _ .ret _ _ from ret1 (.bool false) rfl (Qaq kj) ⟨rfl,x2⟩)
theorem Qks (nd me:NdV) (hok:NdOk nd.n) (hok2:NdOk me.n) (B1 B2:Nat) (w:World) (hm1:nd.n.ms.length≤1000000) (hm2:me.n.ms.length≤1000000) (hr1:RdK .i64 B1 nd.n.ms (.slice nd.a nd.n.ms.length nd.c) w) (hr2:RdK .i64 B2 me.n.ms (.slice me.a me.n.ms.length me.c) w) (hu:nd.n.us=me.n.us) (hn:nd.n.nm≠me.n.nm):Calls Tryd.prog 31 #[.agg (cat [#[.bool nd.n.us],#[.int .i64 nd.n.nm],ints .u8 (nd.n.key),ints .u8 (nd.n.sg),ints .u8 (nd.n.pa),#[.slice nd.a nd.n.ms.length nd.c]]),.agg (cat [#[.bool me.n.us],#[.int .i64 me.n.nm],ints .u8 (me.n.key),ints .u8 (me.n.sg),ints .u8 (me.n.pa),#[.slice me.a me.n.ms.length me.c]])] w (Ret w (.bool false)):=by
  refine enter 66 [(0,.agg (cat [#[.bool nd.n.us],#[.int .i64 nd.n.nm],ints .u8 (nd.n.key),ints .u8 (nd.n.sg),ints .u8 (nd.n.pa),#[.slice nd.a nd.n.ms.length nd.c]])),(1,.agg (cat [#[.bool me.n.us],#[.int .i64 me.n.nm],ints .u8 (me.n.key),ints .u8 (me.n.sg),ints .u8 (me.n.pa),#[.slice me.a me.n.ms.length me.c]]))] Tryd.func31 rfl rfl kj rfl ?_
  refine wp_seq_k fun K1 hK1=>?_
  refine Qab ?_
  refine Qan (cat [#[.bool nd.n.us],#[.int .i64 nd.n.nm],ints .u8 (nd.n.key),ints .u8 (nd.n.sg),ints .u8 (nd.n.pa),#[.slice nd.a nd.n.ms.length nd.c]]) 50 2 rfl kj kj fun g2 W1 l2 e1 r2_1=>?_
  have x1:Ext w W1:=Ext.tr (Rely.Ext.refl w) e1
  have b2:w.heap.size≤g2:=qT (Rely.Ext.refl w).size l2
  refine Qan (cat [#[.bool me.n.us],#[.int .i64 me.n.nm],ints .u8 (me.n.key),ints .u8 (me.n.sg),ints .u8 (me.n.pa),#[.slice me.a me.n.ms.length me.c]]) 50 3 rfl kj kj fun g3 W2 l3 e2 r3_2=>?_
  have x2:Ext w W2:=Ext.tr x1 e2
  have b3:w.heap.size≤g3:=qT x1.size l3
  refine Qaa (.bool false) 4 rfl kj kj ?_
  refine Qaf ?_
  refine hK1 _ _ ?_
  refine wp_seq_k fun K4 hK4=>?_
  refine wp_seq_k fun K5 hK5=>?_
  refine Qab ?_
  refine Qaa (.pointer (some ⟨g2,0,none⟩)) 6 rfl kj kj ?_
  have r2_2:=(Qah r2_1 e2)
  refine Qaa (.bool nd.n.us) 7 rfl kj (Qag 4 _ g2 0 50 _ (.bool nd.n.us) _ r2_2 rfl kj (Qaj [] [#[.bool nd.n.us]] [#[.int .i64 nd.n.nm],ints .u8 (nd.n.key),ints .u8 (nd.n.sg),ints .u8 (nd.n.pa),#[.slice nd.a nd.n.ms.length nd.c]] 0 kj 0 _ rfl) kj) ?_
  refine Qaa (.pointer (some ⟨g3,0,none⟩)) 8 rfl kj kj ?_
  refine Qaa (.bool me.n.us) 9 rfl kj (Qag 4 _ g3 0 50 _ (.bool me.n.us) _ r3_2 rfl kj (Qaj [] [#[.bool me.n.us]] [#[.int .i64 me.n.nm],ints .u8 (me.n.key),ints .u8 (me.n.sg),ints .u8 (me.n.pa),#[.slice me.a me.n.ms.length me.c]] 0 kj 0 _ rfl) kj) ?_
  refine Qaa (.bool false) 10 rfl kj (Qai (u:=.bool (nd.n.us != me.n.us)) kj (congrArg Value.bool (bne_eq_false_iff_eq.2 hu))) ?_
  refine Qaa (.bool false) 11 rfl kj kj ?_
  refine Qaa (.pointer (some ⟨g2,1,none⟩)) 12 rfl kj kj ?_
  refine Qaa (.int .i64 nd.n.nm) 13 rfl kj (Qag 3 _ g2 1 50 _ (.int .i64 nd.n.nm) _ r2_2 rfl kj (Qaj [#[.bool nd.n.us]] [#[.int .i64 nd.n.nm]] [ints .u8 (nd.n.key),ints .u8 (nd.n.sg),ints .u8 (nd.n.pa),#[.slice nd.a nd.n.ms.length nd.c]] 1 kj 0 _ rfl) kj) ?_
  refine Qaa (.pointer (some ⟨g3,1,none⟩)) 14 rfl kj kj ?_
  refine Qaa (.int .i64 me.n.nm) 15 rfl kj (Qag 3 _ g3 1 50 _ (.int .i64 me.n.nm) _ r3_2 rfl kj (Qaj [#[.bool me.n.us]] [#[.int .i64 me.n.nm]] [ints .u8 (me.n.key),ints .u8 (me.n.sg),ints .u8 (me.n.pa),#[.slice me.a me.n.ms.length me.c]] 1 kj 0 _ rfl) kj) ?_
  refine Qaa (.bool true) 16 rfl kj (Qai (u:=.bool ((nd.n.nm != me.n.nm))) kj (congrArg Value.bool (bne_iff_ne.2 hn))) ?_
  refine Qaa (.bool true) 17 rfl kj kj ?_
  refine Qaa (.bool true) 18 rfl kj kj ?_
  refine Qad 19 rfl kj ?_
  refine Qad 20 rfl kj ?_
  refine Qad 21 rfl kj ?_
  refine Qad 22 rfl kj ?_
  refine Qad 23 rfl kj ?_
  refine Qaa (.bool true) 24 rfl kj kj ?_
  refine Qaa (.bool true) 25 rfl kj kj ?_
  refine Qad 26 rfl kj ?_
  refine Qad 27 rfl kj ?_
  refine Qad 28 rfl kj ?_
  refine Qad 29 rfl kj ?_
  refine Qad 30 rfl kj ?_
  refine Qaa (.bool true) 31 rfl kj kj ?_
  refine Qaa (.bool true) 32 rfl kj kj ?_
  refine Qad 33 rfl kj ?_
  refine Qad 34 rfl kj ?_
  refine Qad 35 rfl kj ?_
  refine Qad 36 rfl kj ?_
  refine Qad 37 rfl kj ?_
  refine Qaa (.bool true) 38 rfl kj kj ?_
  refine Qaa (.bool true) 39 rfl kj kj ?_
  refine Qad 40 rfl kj ?_
  refine Qad 41 rfl kj ?_
  refine Qad 42 rfl kj ?_
  refine Qad 43 rfl kj ?_
  refine Qad 44 rfl kj ?_
  refine Qad 45 rfl kj ?_
  refine Qad 46 rfl kj ?_
  refine Qaa (.bool true) 47 rfl kj kj ?_
  refine Qaf ?_
  refine hK5 _ _ ?_
  refine cond_true kj ?_
  refine wp_seq_k fun K6 hK6=>?_
  refine Qab ?_
  refine Qaa (.bool false) 4 rfl kj kj ?_
  refine Qaf ?_
  refine hK6 _ _ ?_
  refine wp_ret ?_
  repeat (first | with_reducible refine goR1 ?_ | with_reducible refine goR2 ?_)
  exact (show bodyPost _ _ _ .ret _ _ from ret1 (.bool false) rfl (Qaq kj) ⟨rfl,x2⟩)
theorem Qku (nd me:NdV) (hok:NdOk nd.n) (hok2:NdOk me.n) (B1 B2:Nat) (w:World) (hm1:nd.n.ms.length≤1000000) (hm2:me.n.ms.length≤1000000) (hr1:RdK .i64 B1 nd.n.ms (.slice nd.a nd.n.ms.length nd.c) w) (hr2:RdK .i64 B2 me.n.ms (.slice me.a me.n.ms.length me.c) w) (hu:nd.n.us=me.n.us) (hn:nd.n.nm=me.n.nm) (hk:nd.n.key=me.n.key) (hg:nd.n.sg≠me.n.sg):Calls Tryd.prog 31 #[.agg (cat [#[.bool nd.n.us],#[.int .i64 nd.n.nm],ints .u8 (nd.n.key),ints .u8 (nd.n.sg),ints .u8 (nd.n.pa),#[.slice nd.a nd.n.ms.length nd.c]]),.agg (cat [#[.bool me.n.us],#[.int .i64 me.n.nm],ints .u8 (me.n.key),ints .u8 (me.n.sg),ints .u8 (me.n.pa),#[.slice me.a me.n.ms.length me.c]])] w (Ret w (.bool false)):=by
  refine enter 66 [(0,.agg (cat [#[.bool nd.n.us],#[.int .i64 nd.n.nm],ints .u8 (nd.n.key),ints .u8 (nd.n.sg),ints .u8 (nd.n.pa),#[.slice nd.a nd.n.ms.length nd.c]])),(1,.agg (cat [#[.bool me.n.us],#[.int .i64 me.n.nm],ints .u8 (me.n.key),ints .u8 (me.n.sg),ints .u8 (me.n.pa),#[.slice me.a me.n.ms.length me.c]]))] Tryd.func31 rfl rfl kj rfl ?_
  refine wp_seq_k fun K1 hK1=>?_
  refine Qab ?_
  refine Qan (cat [#[.bool nd.n.us],#[.int .i64 nd.n.nm],ints .u8 (nd.n.key),ints .u8 (nd.n.sg),ints .u8 (nd.n.pa),#[.slice nd.a nd.n.ms.length nd.c]]) 50 2 rfl kj kj fun g2 W1 l2 e1 r2_1=>?_
  have x1:Ext w W1:=Ext.tr (Rely.Ext.refl w) e1
  have b2:w.heap.size≤g2:=qT (Rely.Ext.refl w).size l2
  refine Qan (cat [#[.bool me.n.us],#[.int .i64 me.n.nm],ints .u8 (me.n.key),ints .u8 (me.n.sg),ints .u8 (me.n.pa),#[.slice me.a me.n.ms.length me.c]]) 50 3 rfl kj kj fun g3 W2 l3 e2 r3_2=>?_
  have x2:Ext w W2:=Ext.tr x1 e2
  have b3:w.heap.size≤g3:=qT x1.size l3
  refine Qaa (.bool false) 4 rfl kj kj ?_
  refine Qaf ?_
  refine hK1 _ _ ?_
  refine wp_seq_k fun K4 hK4=>?_
  refine wp_seq_k fun K5 hK5=>?_
  refine Qab ?_
  refine Qaa (.pointer (some ⟨g2,0,none⟩)) 6 rfl kj kj ?_
  have r2_2:=(Qah r2_1 e2)
  refine Qaa (.bool nd.n.us) 7 rfl kj (Qag 4 _ g2 0 50 _ (.bool nd.n.us) _ r2_2 rfl kj (Qaj [] [#[.bool nd.n.us]] [#[.int .i64 nd.n.nm],ints .u8 (nd.n.key),ints .u8 (nd.n.sg),ints .u8 (nd.n.pa),#[.slice nd.a nd.n.ms.length nd.c]] 0 kj 0 _ rfl) kj) ?_
  refine Qaa (.pointer (some ⟨g3,0,none⟩)) 8 rfl kj kj ?_
  refine Qaa (.bool me.n.us) 9 rfl kj (Qag 4 _ g3 0 50 _ (.bool me.n.us) _ r3_2 rfl kj (Qaj [] [#[.bool me.n.us]] [#[.int .i64 me.n.nm],ints .u8 (me.n.key),ints .u8 (me.n.sg),ints .u8 (me.n.pa),#[.slice me.a me.n.ms.length me.c]] 0 kj 0 _ rfl) kj) ?_
  refine Qaa (.bool false) 10 rfl kj (Qai (u:=.bool (nd.n.us != me.n.us)) kj (congrArg Value.bool (bne_eq_false_iff_eq.2 hu))) ?_
  refine Qaa (.bool false) 11 rfl kj kj ?_
  refine Qaa (.pointer (some ⟨g2,1,none⟩)) 12 rfl kj kj ?_
  refine Qaa (.int .i64 nd.n.nm) 13 rfl kj (Qag 3 _ g2 1 50 _ (.int .i64 nd.n.nm) _ r2_2 rfl kj (Qaj [#[.bool nd.n.us]] [#[.int .i64 nd.n.nm]] [ints .u8 (nd.n.key),ints .u8 (nd.n.sg),ints .u8 (nd.n.pa),#[.slice nd.a nd.n.ms.length nd.c]] 1 kj 0 _ rfl) kj) ?_
  refine Qaa (.pointer (some ⟨g3,1,none⟩)) 14 rfl kj kj ?_
  refine Qaa (.int .i64 me.n.nm) 15 rfl kj (Qag 3 _ g3 1 50 _ (.int .i64 me.n.nm) _ r3_2 rfl kj (Qaj [#[.bool me.n.us]] [#[.int .i64 me.n.nm]] [ints .u8 (me.n.key),ints .u8 (me.n.sg),ints .u8 (me.n.pa),#[.slice me.a me.n.ms.length me.c]] 1 kj 0 _ rfl) kj) ?_
  refine Qaa (.bool false) 16 rfl kj (Qai (u:=.bool ((nd.n.nm != me.n.nm))) kj (congrArg Value.bool (bne_eq_false_iff_eq.2 hn))) ?_
  refine Qaa (.bool false) 17 rfl kj kj ?_
  refine Qaa (.bool false) 18 rfl kj kj ?_
  refine Qaa (.pointer (some ⟨g2,2,none⟩)) 19 rfl kj kj ?_
  refine Qaa (.agg (ints .u8 (nd.n.key))) 20 rfl kj (Qao 48 _ g2 2 50 _ _ _ r2_2 rfl kj (Qaj [#[.bool nd.n.us],#[.int .i64 nd.n.nm]] [ints .u8 (nd.n.key)] [ints .u8 (nd.n.sg),ints .u8 (nd.n.pa),#[.slice nd.a nd.n.ms.length nd.c]] 2 kj) kj (isz (n:=32) kj ((Qae _ _).trans hok.kl))) ?_
  refine Qaa (.pointer (some ⟨g3,2,none⟩)) 21 rfl kj kj ?_
  refine Qaa (.agg (ints .u8 (me.n.key))) 22 rfl kj (Qao 48 _ g3 2 50 _ _ _ r3_2 rfl kj (Qaj [#[.bool me.n.us],#[.int .i64 me.n.nm]] [ints .u8 (me.n.key)] [ints .u8 (me.n.sg),ints .u8 (me.n.pa),#[.slice me.a me.n.ms.length me.c]] 2 kj) kj (isz (n:=32) kj ((Qae _ _).trans hok2.kl))) ?_
  refine Qaa (.bool false) 23 rfl kj (QaM 48 _ _ _ _ _ (.bool false) rfl kj kj kj (QaV 48 (e:=5) (k:=.u8) (nd.n.key) (me.n.key) (decide_eq_true hk) hok.kl hok2.kl kj kj kj _)) ?_
  refine Qaa (.bool false) 24 rfl kj kj ?_
  refine Qaa (.bool false) 25 rfl kj kj ?_
  refine Qaa (.pointer (some ⟨g2,34,none⟩)) 26 rfl kj kj ?_
  refine Qaa (.agg (ints .u8 (nd.n.sg))) 27 rfl kj (Qao 48 _ g2 34 50 _ _ _ r2_2 rfl kj (Qaj [#[.bool nd.n.us],#[.int .i64 nd.n.nm],ints .u8 (nd.n.key)] [ints .u8 (nd.n.sg)] [ints .u8 (nd.n.pa),#[.slice nd.a nd.n.ms.length nd.c]] 34 (by rw [Qac,Qac,Qac]; simp only [qS,cat,((Qae _ _).trans hok.kl)]; rfl)) kj (isz (n:=32) kj ((Qae _ _).trans hok.gl))) ?_
  refine Qaa (.pointer (some ⟨g3,34,none⟩)) 28 rfl kj kj ?_
  refine Qaa (.agg (ints .u8 (me.n.sg))) 29 rfl kj (Qao 48 _ g3 34 50 _ _ _ r3_2 rfl kj (Qaj [#[.bool me.n.us],#[.int .i64 me.n.nm],ints .u8 (me.n.key)] [ints .u8 (me.n.sg)] [ints .u8 (me.n.pa),#[.slice me.a me.n.ms.length me.c]] 34 (by rw [Qac,Qac,Qac]; simp only [qS,cat,((Qae _ _).trans hok2.kl)]; rfl)) kj (isz (n:=32) kj ((Qae _ _).trans hok2.gl))) ?_
  refine Qaa (.bool true) 30 rfl kj (QaM 48 _ _ _ _ _ (.bool true) rfl kj kj kj (QaV 48 (e:=5) (k:=.u8) (nd.n.sg) (me.n.sg) (decide_eq_false hg) hok.gl hok2.gl kj kj kj _)) ?_
  refine Qaa (.bool true) 31 rfl kj kj ?_
  refine Qaa (.bool true) 32 rfl kj kj ?_
  refine Qad 33 rfl kj ?_
  refine Qad 34 rfl kj ?_
  refine Qad 35 rfl kj ?_
  refine Qad 36 rfl kj ?_
  refine Qad 37 rfl kj ?_
  refine Qaa (.bool true) 38 rfl kj kj ?_
  refine Qaa (.bool true) 39 rfl kj kj ?_
  refine Qad 40 rfl kj ?_
  refine Qad 41 rfl kj ?_
  refine Qad 42 rfl kj ?_
  refine Qad 43 rfl kj ?_
  refine Qad 44 rfl kj ?_
  refine Qad 45 rfl kj ?_
  refine Qad 46 rfl kj ?_
  refine Qaa (.bool true) 47 rfl kj kj ?_
  refine Qaf ?_
  refine hK5 _ _ ?_
  refine cond_true kj ?_
  refine wp_seq_k fun K6 hK6=>?_
  refine Qab ?_
  refine Qaa (.bool false) 4 rfl kj kj ?_
  refine Qaf ?_
  refine hK6 _ _ ?_
  refine wp_ret ?_
  repeat (first | with_reducible refine goR1 ?_ | with_reducible refine goR2 ?_)
  exact (show bodyPost _ _ _ .ret _ _ from ret1 (.bool false) rfl (Qaq kj) ⟨rfl,x2⟩)
theorem Qkt (nd me:NdV) (hok:NdOk nd.n) (hok2:NdOk me.n) (B1 B2:Nat) (w:World) (hm1:nd.n.ms.length≤1000000) (hm2:me.n.ms.length≤1000000) (hr1:RdK .i64 B1 nd.n.ms (.slice nd.a nd.n.ms.length nd.c) w) (hr2:RdK .i64 B2 me.n.ms (.slice me.a me.n.ms.length me.c) w) (hu:nd.n.us=me.n.us) (hn:nd.n.nm=me.n.nm) (hk:nd.n.key≠me.n.key):Calls Tryd.prog 31 #[.agg (cat [#[.bool nd.n.us],#[.int .i64 nd.n.nm],ints .u8 (nd.n.key),ints .u8 (nd.n.sg),ints .u8 (nd.n.pa),#[.slice nd.a nd.n.ms.length nd.c]]),.agg (cat [#[.bool me.n.us],#[.int .i64 me.n.nm],ints .u8 (me.n.key),ints .u8 (me.n.sg),ints .u8 (me.n.pa),#[.slice me.a me.n.ms.length me.c]])] w (Ret w (.bool false)):=by
  refine enter 66 [(0,.agg (cat [#[.bool nd.n.us],#[.int .i64 nd.n.nm],ints .u8 (nd.n.key),ints .u8 (nd.n.sg),ints .u8 (nd.n.pa),#[.slice nd.a nd.n.ms.length nd.c]])),(1,.agg (cat [#[.bool me.n.us],#[.int .i64 me.n.nm],ints .u8 (me.n.key),ints .u8 (me.n.sg),ints .u8 (me.n.pa),#[.slice me.a me.n.ms.length me.c]]))] Tryd.func31 rfl rfl kj rfl ?_
  refine wp_seq_k fun K1 hK1=>?_
  refine Qab ?_
  refine Qan (cat [#[.bool nd.n.us],#[.int .i64 nd.n.nm],ints .u8 (nd.n.key),ints .u8 (nd.n.sg),ints .u8 (nd.n.pa),#[.slice nd.a nd.n.ms.length nd.c]]) 50 2 rfl kj kj fun g2 W1 l2 e1 r2_1=>?_
  have x1:Ext w W1:=Ext.tr (Rely.Ext.refl w) e1
  have b2:w.heap.size≤g2:=qT (Rely.Ext.refl w).size l2
  refine Qan (cat [#[.bool me.n.us],#[.int .i64 me.n.nm],ints .u8 (me.n.key),ints .u8 (me.n.sg),ints .u8 (me.n.pa),#[.slice me.a me.n.ms.length me.c]]) 50 3 rfl kj kj fun g3 W2 l3 e2 r3_2=>?_
  have x2:Ext w W2:=Ext.tr x1 e2
  have b3:w.heap.size≤g3:=qT x1.size l3
  refine Qaa (.bool false) 4 rfl kj kj ?_
  refine Qaf ?_
  refine hK1 _ _ ?_
  refine wp_seq_k fun K4 hK4=>?_
  refine wp_seq_k fun K5 hK5=>?_
  refine Qab ?_
  refine Qaa (.pointer (some ⟨g2,0,none⟩)) 6 rfl kj kj ?_
  have r2_2:=(Qah r2_1 e2)
  refine Qaa (.bool nd.n.us) 7 rfl kj (Qag 4 _ g2 0 50 _ (.bool nd.n.us) _ r2_2 rfl kj (Qaj [] [#[.bool nd.n.us]] [#[.int .i64 nd.n.nm],ints .u8 (nd.n.key),ints .u8 (nd.n.sg),ints .u8 (nd.n.pa),#[.slice nd.a nd.n.ms.length nd.c]] 0 kj 0 _ rfl) kj) ?_
  refine Qaa (.pointer (some ⟨g3,0,none⟩)) 8 rfl kj kj ?_
  refine Qaa (.bool me.n.us) 9 rfl kj (Qag 4 _ g3 0 50 _ (.bool me.n.us) _ r3_2 rfl kj (Qaj [] [#[.bool me.n.us]] [#[.int .i64 me.n.nm],ints .u8 (me.n.key),ints .u8 (me.n.sg),ints .u8 (me.n.pa),#[.slice me.a me.n.ms.length me.c]] 0 kj 0 _ rfl) kj) ?_
  refine Qaa (.bool false) 10 rfl kj (Qai (u:=.bool (nd.n.us != me.n.us)) kj (congrArg Value.bool (bne_eq_false_iff_eq.2 hu))) ?_
  refine Qaa (.bool false) 11 rfl kj kj ?_
  refine Qaa (.pointer (some ⟨g2,1,none⟩)) 12 rfl kj kj ?_
  refine Qaa (.int .i64 nd.n.nm) 13 rfl kj (Qag 3 _ g2 1 50 _ (.int .i64 nd.n.nm) _ r2_2 rfl kj (Qaj [#[.bool nd.n.us]] [#[.int .i64 nd.n.nm]] [ints .u8 (nd.n.key),ints .u8 (nd.n.sg),ints .u8 (nd.n.pa),#[.slice nd.a nd.n.ms.length nd.c]] 1 kj 0 _ rfl) kj) ?_
  refine Qaa (.pointer (some ⟨g3,1,none⟩)) 14 rfl kj kj ?_
  refine Qaa (.int .i64 me.n.nm) 15 rfl kj (Qag 3 _ g3 1 50 _ (.int .i64 me.n.nm) _ r3_2 rfl kj (Qaj [#[.bool me.n.us]] [#[.int .i64 me.n.nm]] [ints .u8 (me.n.key),ints .u8 (me.n.sg),ints .u8 (me.n.pa),#[.slice me.a me.n.ms.length me.c]] 1 kj 0 _ rfl) kj) ?_
  refine Qaa (.bool false) 16 rfl kj (Qai (u:=.bool ((nd.n.nm != me.n.nm))) kj (congrArg Value.bool (bne_eq_false_iff_eq.2 hn))) ?_
  refine Qaa (.bool false) 17 rfl kj kj ?_
  refine Qaa (.bool false) 18 rfl kj kj ?_
  refine Qaa (.pointer (some ⟨g2,2,none⟩)) 19 rfl kj kj ?_
  refine Qaa (.agg (ints .u8 (nd.n.key))) 20 rfl kj (Qao 48 _ g2 2 50 _ _ _ r2_2 rfl kj (Qaj [#[.bool nd.n.us],#[.int .i64 nd.n.nm]] [ints .u8 (nd.n.key)] [ints .u8 (nd.n.sg),ints .u8 (nd.n.pa),#[.slice nd.a nd.n.ms.length nd.c]] 2 kj) kj (isz (n:=32) kj ((Qae _ _).trans hok.kl))) ?_
  refine Qaa (.pointer (some ⟨g3,2,none⟩)) 21 rfl kj kj ?_
  refine Qaa (.agg (ints .u8 (me.n.key))) 22 rfl kj (Qao 48 _ g3 2 50 _ _ _ r3_2 rfl kj (Qaj [#[.bool me.n.us],#[.int .i64 me.n.nm]] [ints .u8 (me.n.key)] [ints .u8 (me.n.sg),ints .u8 (me.n.pa),#[.slice me.a me.n.ms.length me.c]] 2 kj) kj (isz (n:=32) kj ((Qae _ _).trans hok2.kl))) ?_
  refine Qaa (.bool true) 23 rfl kj (QaM 48 _ _ _ _ _ (.bool true) rfl kj kj kj (QaV 48 (e:=5) (k:=.u8) (nd.n.key) (me.n.key) (decide_eq_false hk) hok.kl hok2.kl kj kj kj _)) ?_
  refine Qaa (.bool true) 24 rfl kj kj ?_
  refine Qaa (.bool true) 25 rfl kj kj ?_
  refine Qad 26 rfl kj ?_
  refine Qad 27 rfl kj ?_
  refine Qad 28 rfl kj ?_
  refine Qad 29 rfl kj ?_
  refine Qad 30 rfl kj ?_
  refine Qaa (.bool true) 31 rfl kj kj ?_
  refine Qaa (.bool true) 32 rfl kj kj ?_
  refine Qad 33 rfl kj ?_
  refine Qad 34 rfl kj ?_
  refine Qad 35 rfl kj ?_
  refine Qad 36 rfl kj ?_
  refine Qad 37 rfl kj ?_
  refine Qaa (.bool true) 38 rfl kj kj ?_
  refine Qaa (.bool true) 39 rfl kj kj ?_
  refine Qad 40 rfl kj ?_
  refine Qad 41 rfl kj ?_
  refine Qad 42 rfl kj ?_
  refine Qad 43 rfl kj ?_
  refine Qad 44 rfl kj ?_
  refine Qad 45 rfl kj ?_
  refine Qad 46 rfl kj ?_
  refine Qaa (.bool true) 47 rfl kj kj ?_
  refine Qaf ?_
  refine hK5 _ _ ?_
  refine cond_true kj ?_
  refine wp_seq_k fun K6 hK6=>?_
  refine Qab ?_
  refine Qaa (.bool false) 4 rfl kj kj ?_
  refine Qaf ?_
  refine hK6 _ _ ?_
  refine wp_ret ?_
  repeat (first | with_reducible refine goR1 ?_ | with_reducible refine goR2 ?_)
  exact (show bodyPost _ _ _ .ret _ _ from ret1 (.bool false) rfl (Qaq kj) ⟨rfl,x2⟩)
theorem Qkr (nd me:NdV) (hok:NdOk nd.n) (hok2:NdOk me.n) (B1 B2:Nat) (w:World) (hm1:nd.n.ms.length≤1000000) (hm2:me.n.ms.length≤1000000) (hr1:RdK .i64 B1 nd.n.ms (.slice nd.a nd.n.ms.length nd.c) w) (hr2:RdK .i64 B2 me.n.ms (.slice me.a me.n.ms.length me.c) w) (hu:nd.n.us=me.n.us) (hn:nd.n.nm=me.n.nm) (hk:nd.n.key=me.n.key) (hg:nd.n.sg=me.n.sg) (hp:nd.n.pa≠me.n.pa):Calls Tryd.prog 31 #[.agg (cat [#[.bool nd.n.us],#[.int .i64 nd.n.nm],ints .u8 (nd.n.key),ints .u8 (nd.n.sg),ints .u8 (nd.n.pa),#[.slice nd.a nd.n.ms.length nd.c]]),.agg (cat [#[.bool me.n.us],#[.int .i64 me.n.nm],ints .u8 (me.n.key),ints .u8 (me.n.sg),ints .u8 (me.n.pa),#[.slice me.a me.n.ms.length me.c]])] w (Ret w (.bool false)):=by
  refine enter 66 [(0,.agg (cat [#[.bool nd.n.us],#[.int .i64 nd.n.nm],ints .u8 (nd.n.key),ints .u8 (nd.n.sg),ints .u8 (nd.n.pa),#[.slice nd.a nd.n.ms.length nd.c]])),(1,.agg (cat [#[.bool me.n.us],#[.int .i64 me.n.nm],ints .u8 (me.n.key),ints .u8 (me.n.sg),ints .u8 (me.n.pa),#[.slice me.a me.n.ms.length me.c]]))] Tryd.func31 rfl rfl kj rfl ?_
  refine wp_seq_k fun K1 hK1=>?_
  refine Qab ?_
  refine Qan (cat [#[.bool nd.n.us],#[.int .i64 nd.n.nm],ints .u8 (nd.n.key),ints .u8 (nd.n.sg),ints .u8 (nd.n.pa),#[.slice nd.a nd.n.ms.length nd.c]]) 50 2 rfl kj kj fun g2 W1 l2 e1 r2_1=>?_
  have x1:Ext w W1:=Ext.tr (Rely.Ext.refl w) e1
  have b2:w.heap.size≤g2:=qT (Rely.Ext.refl w).size l2
  refine Qan (cat [#[.bool me.n.us],#[.int .i64 me.n.nm],ints .u8 (me.n.key),ints .u8 (me.n.sg),ints .u8 (me.n.pa),#[.slice me.a me.n.ms.length me.c]]) 50 3 rfl kj kj fun g3 W2 l3 e2 r3_2=>?_
  have x2:Ext w W2:=Ext.tr x1 e2
  have b3:w.heap.size≤g3:=qT x1.size l3
  refine Qaa (.bool false) 4 rfl kj kj ?_
  refine Qaf ?_
  refine hK1 _ _ ?_
  refine wp_seq_k fun K4 hK4=>?_
  refine wp_seq_k fun K5 hK5=>?_
  refine Qab ?_
  refine Qaa (.pointer (some ⟨g2,0,none⟩)) 6 rfl kj kj ?_
  have r2_2:=(Qah r2_1 e2)
  refine Qaa (.bool nd.n.us) 7 rfl kj (Qag 4 _ g2 0 50 _ (.bool nd.n.us) _ r2_2 rfl kj (Qaj [] [#[.bool nd.n.us]] [#[.int .i64 nd.n.nm],ints .u8 (nd.n.key),ints .u8 (nd.n.sg),ints .u8 (nd.n.pa),#[.slice nd.a nd.n.ms.length nd.c]] 0 kj 0 _ rfl) kj) ?_
  refine Qaa (.pointer (some ⟨g3,0,none⟩)) 8 rfl kj kj ?_
  refine Qaa (.bool me.n.us) 9 rfl kj (Qag 4 _ g3 0 50 _ (.bool me.n.us) _ r3_2 rfl kj (Qaj [] [#[.bool me.n.us]] [#[.int .i64 me.n.nm],ints .u8 (me.n.key),ints .u8 (me.n.sg),ints .u8 (me.n.pa),#[.slice me.a me.n.ms.length me.c]] 0 kj 0 _ rfl) kj) ?_
  refine Qaa (.bool false) 10 rfl kj (Qai (u:=.bool (nd.n.us != me.n.us)) kj (congrArg Value.bool (bne_eq_false_iff_eq.2 hu))) ?_
  refine Qaa (.bool false) 11 rfl kj kj ?_
  refine Qaa (.pointer (some ⟨g2,1,none⟩)) 12 rfl kj kj ?_
  refine Qaa (.int .i64 nd.n.nm) 13 rfl kj (Qag 3 _ g2 1 50 _ (.int .i64 nd.n.nm) _ r2_2 rfl kj (Qaj [#[.bool nd.n.us]] [#[.int .i64 nd.n.nm]] [ints .u8 (nd.n.key),ints .u8 (nd.n.sg),ints .u8 (nd.n.pa),#[.slice nd.a nd.n.ms.length nd.c]] 1 kj 0 _ rfl) kj) ?_
  refine Qaa (.pointer (some ⟨g3,1,none⟩)) 14 rfl kj kj ?_
  refine Qaa (.int .i64 me.n.nm) 15 rfl kj (Qag 3 _ g3 1 50 _ (.int .i64 me.n.nm) _ r3_2 rfl kj (Qaj [#[.bool me.n.us]] [#[.int .i64 me.n.nm]] [ints .u8 (me.n.key),ints .u8 (me.n.sg),ints .u8 (me.n.pa),#[.slice me.a me.n.ms.length me.c]] 1 kj 0 _ rfl) kj) ?_
  refine Qaa (.bool false) 16 rfl kj (Qai (u:=.bool ((nd.n.nm != me.n.nm))) kj (congrArg Value.bool (bne_eq_false_iff_eq.2 hn))) ?_
  refine Qaa (.bool false) 17 rfl kj kj ?_
  refine Qaa (.bool false) 18 rfl kj kj ?_
  refine Qaa (.pointer (some ⟨g2,2,none⟩)) 19 rfl kj kj ?_
  refine Qaa (.agg (ints .u8 (nd.n.key))) 20 rfl kj (Qao 48 _ g2 2 50 _ _ _ r2_2 rfl kj (Qaj [#[.bool nd.n.us],#[.int .i64 nd.n.nm]] [ints .u8 (nd.n.key)] [ints .u8 (nd.n.sg),ints .u8 (nd.n.pa),#[.slice nd.a nd.n.ms.length nd.c]] 2 kj) kj (isz (n:=32) kj ((Qae _ _).trans hok.kl))) ?_
  refine Qaa (.pointer (some ⟨g3,2,none⟩)) 21 rfl kj kj ?_
  refine Qaa (.agg (ints .u8 (me.n.key))) 22 rfl kj (Qao 48 _ g3 2 50 _ _ _ r3_2 rfl kj (Qaj [#[.bool me.n.us],#[.int .i64 me.n.nm]] [ints .u8 (me.n.key)] [ints .u8 (me.n.sg),ints .u8 (me.n.pa),#[.slice me.a me.n.ms.length me.c]] 2 kj) kj (isz (n:=32) kj ((Qae _ _).trans hok2.kl))) ?_
  refine Qaa (.bool false) 23 rfl kj (QaM 48 _ _ _ _ _ (.bool false) rfl kj kj kj (QaV 48 (e:=5) (k:=.u8) (nd.n.key) (me.n.key) (decide_eq_true hk) hok.kl hok2.kl kj kj kj _)) ?_
  refine Qaa (.bool false) 24 rfl kj kj ?_
  refine Qaa (.bool false) 25 rfl kj kj ?_
  refine Qaa (.pointer (some ⟨g2,34,none⟩)) 26 rfl kj kj ?_
  refine Qaa (.agg (ints .u8 (nd.n.sg))) 27 rfl kj (Qao 48 _ g2 34 50 _ _ _ r2_2 rfl kj (Qaj [#[.bool nd.n.us],#[.int .i64 nd.n.nm],ints .u8 (nd.n.key)] [ints .u8 (nd.n.sg)] [ints .u8 (nd.n.pa),#[.slice nd.a nd.n.ms.length nd.c]] 34 (by rw [Qac,Qac,Qac]; simp only [qS,cat,((Qae _ _).trans hok.kl)]; rfl)) kj (isz (n:=32) kj ((Qae _ _).trans hok.gl))) ?_
  refine Qaa (.pointer (some ⟨g3,34,none⟩)) 28 rfl kj kj ?_
  refine Qaa (.agg (ints .u8 (me.n.sg))) 29 rfl kj (Qao 48 _ g3 34 50 _ _ _ r3_2 rfl kj (Qaj [#[.bool me.n.us],#[.int .i64 me.n.nm],ints .u8 (me.n.key)] [ints .u8 (me.n.sg)] [ints .u8 (me.n.pa),#[.slice me.a me.n.ms.length me.c]] 34 (by rw [Qac,Qac,Qac]; simp only [qS,cat,((Qae _ _).trans hok2.kl)]; rfl)) kj (isz (n:=32) kj ((Qae _ _).trans hok2.gl))) ?_
  refine Qaa (.bool false) 30 rfl kj (QaM 48 _ _ _ _ _ (.bool false) rfl kj kj kj (QaV 48 (e:=5) (k:=.u8) (nd.n.sg) (me.n.sg) (decide_eq_true hg) hok.gl hok2.gl kj kj kj _)) ?_
  refine Qaa (.bool false) 31 rfl kj kj ?_
  refine Qaa (.bool false) 32 rfl kj kj ?_
  refine Qaa (.pointer (some ⟨g2,66,none⟩)) 33 rfl kj kj ?_
  refine Qaa (.agg (ints .u8 (nd.n.pa))) 34 rfl kj (Qao 28 _ g2 66 50 _ _ _ r2_2 rfl kj (Qaj [#[.bool nd.n.us],#[.int .i64 nd.n.nm],ints .u8 (nd.n.key),ints .u8 (nd.n.sg)] [ints .u8 (nd.n.pa)] [#[.slice nd.a nd.n.ms.length nd.c]] 66 (by rw [Qac,Qac,Qac,Qac]; simp only [qS,cat,((Qae _ _).trans hok.gl),((Qae _ _).trans hok.kl)]; rfl)) kj (isz (n:=32) kj ((Qae _ _).trans hok.pl))) ?_
  refine Qaa (.pointer (some ⟨g3,66,none⟩)) 35 rfl kj kj ?_
  refine Qaa (.agg (ints .u8 (me.n.pa))) 36 rfl kj (Qao 28 _ g3 66 50 _ _ _ r3_2 rfl kj (Qaj [#[.bool me.n.us],#[.int .i64 me.n.nm],ints .u8 (me.n.key),ints .u8 (me.n.sg)] [ints .u8 (me.n.pa)] [#[.slice me.a me.n.ms.length me.c]] 66 (by rw [Qac,Qac,Qac,Qac]; simp only [qS,cat,((Qae _ _).trans hok2.gl),((Qae _ _).trans hok2.kl)]; rfl)) kj (isz (n:=32) kj ((Qae _ _).trans hok2.pl))) ?_
  refine Qaa (.bool true) 37 rfl kj (QaM 28 _ _ _ _ _ (.bool true) rfl kj kj kj (QaV 28 (e:=5) (k:=.u8) (nd.n.pa) (me.n.pa) (decide_eq_false hp) hok.pl hok2.pl kj kj kj _)) ?_
  refine Qaa (.bool true) 38 rfl kj kj ?_
  refine Qaa (.bool true) 39 rfl kj kj ?_
  refine Qad 40 rfl kj ?_
  refine Qad 41 rfl kj ?_
  refine Qad 42 rfl kj ?_
  refine Qad 43 rfl kj ?_
  refine Qad 44 rfl kj ?_
  refine Qad 45 rfl kj ?_
  refine Qad 46 rfl kj ?_
  refine Qaa (.bool true) 47 rfl kj kj ?_
  refine Qaf ?_
  refine hK5 _ _ ?_
  refine cond_true kj ?_
  refine wp_seq_k fun K6 hK6=>?_
  refine Qab ?_
  refine Qaa (.bool false) 4 rfl kj kj ?_
  refine Qaf ?_
  refine hK6 _ _ ?_
  refine wp_ret ?_
  repeat (first | with_reducible refine goR1 ?_ | with_reducible refine goR2 ?_)
  exact (show bodyPost _ _ _ .ret _ _ from ret1 (.bool false) rfl (Qaq kj) ⟨rfl,x2⟩)
theorem Qkv (nd me:NdV) (hok:NdOk nd.n) (hok2:NdOk me.n) (B1 B2:Nat) (w:World) (hm1:nd.n.ms.length≤1000000) (hm2:me.n.ms.length≤1000000) (hr1:RdK .i64 B1 nd.n.ms (.slice nd.a nd.n.ms.length nd.c) w) (hr2:RdK .i64 B2 me.n.ms (.slice me.a me.n.ms.length me.c) w) (hu:nd.n.us=me.n.us) (hn:nd.n.nm=me.n.nm) (hk:nd.n.key=me.n.key) (hg:nd.n.sg=me.n.sg) (hp:nd.n.pa=me.n.pa):Calls Tryd.prog 31 #[.agg (cat [#[.bool nd.n.us],#[.int .i64 nd.n.nm],ints .u8 (nd.n.key),ints .u8 (nd.n.sg),ints .u8 (nd.n.pa),#[.slice nd.a nd.n.ms.length nd.c]]),.agg (cat [#[.bool me.n.us],#[.int .i64 me.n.nm],ints .u8 (me.n.key),ints .u8 (me.n.sg),ints .u8 (me.n.pa),#[.slice me.a me.n.ms.length me.c]])] w (Ret w (.bool (decide (nd.n.ms=me.n.ms)))):=by
 refine enter 66 [(0,.agg (cat [#[.bool nd.n.us],#[.int .i64 nd.n.nm],ints .u8 (nd.n.key),ints .u8 (nd.n.sg),ints .u8 (nd.n.pa),#[.slice nd.a nd.n.ms.length nd.c]])),(1,.agg (cat [#[.bool me.n.us],#[.int .i64 me.n.nm],ints .u8 (me.n.key),ints .u8 (me.n.sg),ints .u8 (me.n.pa),#[.slice me.a me.n.ms.length me.c]]))] Tryd.func31 rfl rfl kj rfl ?_
 refine wp_seq_k fun K1 hK1=>?_
 refine Qab ?_
 refine Qan (cat [#[.bool nd.n.us],#[.int .i64 nd.n.nm],ints .u8 (nd.n.key),ints .u8 (nd.n.sg),ints .u8 (nd.n.pa),#[.slice nd.a nd.n.ms.length nd.c]]) 50 2 rfl kj kj fun g2 W1 l2 e1 r2_1=>?_
 have x1:Ext w W1:=Ext.tr (Rely.Ext.refl w) e1
 have b2:w.heap.size≤g2:=qT (Rely.Ext.refl w).size l2
 refine Qan (cat [#[.bool me.n.us],#[.int .i64 me.n.nm],ints .u8 (me.n.key),ints .u8 (me.n.sg),ints .u8 (me.n.pa),#[.slice me.a me.n.ms.length me.c]]) 50 3 rfl kj kj fun g3 W2 l3 e2 r3_2=>?_
 have x2:Ext w W2:=Ext.tr x1 e2
 have b3:w.heap.size≤g3:=qT x1.size l3
 refine Qaa (.bool false) 4 rfl kj kj ?_
 refine Qaf ?_
 refine hK1 _ _ ?_
 refine wp_seq_k fun K4 hK4=>?_
 refine wp_seq_k fun K5 hK5=>?_
 rcases (show nd.n.ms.length≠me.n.ms.length∨nd.n.ms.length=me.n.ms.length by omega) with hl | hl
 ·skip
  refine Qab ?_
  refine Qaa (.pointer (some ⟨g2,0,none⟩)) 6 rfl kj kj ?_
  have r2_2:=(Qah r2_1 e2)
  refine Qaa (.bool nd.n.us) 7 rfl kj (Qag 4 _ g2 0 50 _ (.bool nd.n.us) _ r2_2 rfl kj (Qaj [] [#[.bool nd.n.us]] [#[.int .i64 nd.n.nm],ints .u8 (nd.n.key),ints .u8 (nd.n.sg),ints .u8 (nd.n.pa),#[.slice nd.a nd.n.ms.length nd.c]] 0 kj 0 _ rfl) kj) ?_
  refine Qaa (.pointer (some ⟨g3,0,none⟩)) 8 rfl kj kj ?_
  refine Qaa (.bool me.n.us) 9 rfl kj (Qag 4 _ g3 0 50 _ (.bool me.n.us) _ r3_2 rfl kj (Qaj [] [#[.bool me.n.us]] [#[.int .i64 me.n.nm],ints .u8 (me.n.key),ints .u8 (me.n.sg),ints .u8 (me.n.pa),#[.slice me.a me.n.ms.length me.c]] 0 kj 0 _ rfl) kj) ?_
  refine Qaa (.bool false) 10 rfl kj (Qai (u:=.bool (nd.n.us != me.n.us)) kj (congrArg Value.bool (bne_eq_false_iff_eq.2 hu))) ?_
  refine Qaa (.bool false) 11 rfl kj kj ?_
  refine Qaa (.pointer (some ⟨g2,1,none⟩)) 12 rfl kj kj ?_
  refine Qaa (.int .i64 nd.n.nm) 13 rfl kj (Qag 3 _ g2 1 50 _ (.int .i64 nd.n.nm) _ r2_2 rfl kj (Qaj [#[.bool nd.n.us]] [#[.int .i64 nd.n.nm]] [ints .u8 (nd.n.key),ints .u8 (nd.n.sg),ints .u8 (nd.n.pa),#[.slice nd.a nd.n.ms.length nd.c]] 1 kj 0 _ rfl) kj) ?_
  refine Qaa (.pointer (some ⟨g3,1,none⟩)) 14 rfl kj kj ?_
  refine Qaa (.int .i64 me.n.nm) 15 rfl kj (Qag 3 _ g3 1 50 _ (.int .i64 me.n.nm) _ r3_2 rfl kj (Qaj [#[.bool me.n.us]] [#[.int .i64 me.n.nm]] [ints .u8 (me.n.key),ints .u8 (me.n.sg),ints .u8 (me.n.pa),#[.slice me.a me.n.ms.length me.c]] 1 kj 0 _ rfl) kj) ?_
  refine Qaa (.bool false) 16 rfl kj (Qai (u:=.bool ((nd.n.nm != me.n.nm))) kj (congrArg Value.bool (bne_eq_false_iff_eq.2 hn))) ?_
  refine Qaa (.bool false) 17 rfl kj kj ?_
  refine Qaa (.bool false) 18 rfl kj kj ?_
  refine Qaa (.pointer (some ⟨g2,2,none⟩)) 19 rfl kj kj ?_
  refine Qaa (.agg (ints .u8 (nd.n.key))) 20 rfl kj (Qao 48 _ g2 2 50 _ _ _ r2_2 rfl kj (Qaj [#[.bool nd.n.us],#[.int .i64 nd.n.nm]] [ints .u8 (nd.n.key)] [ints .u8 (nd.n.sg),ints .u8 (nd.n.pa),#[.slice nd.a nd.n.ms.length nd.c]] 2 kj) kj (isz (n:=32) kj ((Qae _ _).trans hok.kl))) ?_
  refine Qaa (.pointer (some ⟨g3,2,none⟩)) 21 rfl kj kj ?_
  refine Qaa (.agg (ints .u8 (me.n.key))) 22 rfl kj (Qao 48 _ g3 2 50 _ _ _ r3_2 rfl kj (Qaj [#[.bool me.n.us],#[.int .i64 me.n.nm]] [ints .u8 (me.n.key)] [ints .u8 (me.n.sg),ints .u8 (me.n.pa),#[.slice me.a me.n.ms.length me.c]] 2 kj) kj (isz (n:=32) kj ((Qae _ _).trans hok2.kl))) ?_
  refine Qaa (.bool false) 23 rfl kj (QaM 48 _ _ _ _ _ (.bool false) rfl kj kj kj (QaV 48 (e:=5) (k:=.u8) (nd.n.key) (me.n.key) (decide_eq_true hk) hok.kl hok2.kl kj kj kj _)) ?_
  refine Qaa (.bool false) 24 rfl kj kj ?_
  refine Qaa (.bool false) 25 rfl kj kj ?_
  refine Qaa (.pointer (some ⟨g2,34,none⟩)) 26 rfl kj kj ?_
  refine Qaa (.agg (ints .u8 (nd.n.sg))) 27 rfl kj (Qao 48 _ g2 34 50 _ _ _ r2_2 rfl kj (Qaj [#[.bool nd.n.us],#[.int .i64 nd.n.nm],ints .u8 (nd.n.key)] [ints .u8 (nd.n.sg)] [ints .u8 (nd.n.pa),#[.slice nd.a nd.n.ms.length nd.c]] 34 (by rw [Qac,Qac,Qac]; simp only [qS,cat,((Qae _ _).trans hok.kl)]; rfl)) kj (isz (n:=32) kj ((Qae _ _).trans hok.gl))) ?_
  refine Qaa (.pointer (some ⟨g3,34,none⟩)) 28 rfl kj kj ?_
  refine Qaa (.agg (ints .u8 (me.n.sg))) 29 rfl kj (Qao 48 _ g3 34 50 _ _ _ r3_2 rfl kj (Qaj [#[.bool me.n.us],#[.int .i64 me.n.nm],ints .u8 (me.n.key)] [ints .u8 (me.n.sg)] [ints .u8 (me.n.pa),#[.slice me.a me.n.ms.length me.c]] 34 (by rw [Qac,Qac,Qac]; simp only [qS,cat,((Qae _ _).trans hok2.kl)]; rfl)) kj (isz (n:=32) kj ((Qae _ _).trans hok2.gl))) ?_
  refine Qaa (.bool false) 30 rfl kj (QaM 48 _ _ _ _ _ (.bool false) rfl kj kj kj (QaV 48 (e:=5) (k:=.u8) (nd.n.sg) (me.n.sg) (decide_eq_true hg) hok.gl hok2.gl kj kj kj _)) ?_
  refine Qaa (.bool false) 31 rfl kj kj ?_
  refine Qaa (.bool false) 32 rfl kj kj ?_
  refine Qaa (.pointer (some ⟨g2,66,none⟩)) 33 rfl kj kj ?_
  refine Qaa (.agg (ints .u8 (nd.n.pa))) 34 rfl kj (Qao 28 _ g2 66 50 _ _ _ r2_2 rfl kj (Qaj [#[.bool nd.n.us],#[.int .i64 nd.n.nm],ints .u8 (nd.n.key),ints .u8 (nd.n.sg)] [ints .u8 (nd.n.pa)] [#[.slice nd.a nd.n.ms.length nd.c]] 66 (by rw [Qac,Qac,Qac,Qac]; simp only [qS,cat,((Qae _ _).trans hok.gl),((Qae _ _).trans hok.kl)]; rfl)) kj (isz (n:=32) kj ((Qae _ _).trans hok.pl))) ?_
  refine Qaa (.pointer (some ⟨g3,66,none⟩)) 35 rfl kj kj ?_
  refine Qaa (.agg (ints .u8 (me.n.pa))) 36 rfl kj (Qao 28 _ g3 66 50 _ _ _ r3_2 rfl kj (Qaj [#[.bool me.n.us],#[.int .i64 me.n.nm],ints .u8 (me.n.key),ints .u8 (me.n.sg)] [ints .u8 (me.n.pa)] [#[.slice me.a me.n.ms.length me.c]] 66 (by rw [Qac,Qac,Qac,Qac]; simp only [qS,cat,((Qae _ _).trans hok2.gl),((Qae _ _).trans hok2.kl)]; rfl)) kj (isz (n:=32) kj ((Qae _ _).trans hok2.pl))) ?_
  refine Qaa (.bool false) 37 rfl kj (QaM 28 _ _ _ _ _ (.bool false) rfl kj kj kj (QaV 28 (e:=5) (k:=.u8) (nd.n.pa) (me.n.pa) (decide_eq_true hp) hok.pl hok2.pl kj kj kj _)) ?_
  refine Qaa (.bool false) 38 rfl kj kj ?_
  refine Qaa (.bool false) 39 rfl kj kj ?_
  refine Qaa (.pointer (some ⟨g2,98,none⟩)) 40 rfl kj kj ?_
  refine Qaa (.slice nd.a nd.n.ms.length nd.c) 41 rfl kj (Qag 24 _ g2 98 50 _ (.slice nd.a nd.n.ms.length nd.c) _ r2_2 rfl kj (Qaj [#[.bool nd.n.us],#[.int .i64 nd.n.nm],ints .u8 (nd.n.key),ints .u8 (nd.n.sg),ints .u8 (nd.n.pa)] [#[.slice nd.a nd.n.ms.length nd.c]] [] 98 (by rw [Qac,Qac,Qac,Qac,Qac]; simp only [qS,cat,((Qae _ _).trans hok.gl),((Qae _ _).trans hok.kl),((Qae _ _).trans hok.pl)]; rfl) 0 _ rfl) kj) ?_
  refine Qaa (.int .i64 ((nd.n.ms.length:Nat):Int)) 42 rfl kj kj ?_
  refine Qaa (.pointer (some ⟨g3,98,none⟩)) 43 rfl kj kj ?_
  refine Qaa (.slice me.a me.n.ms.length me.c) 44 rfl kj (Qag 24 _ g3 98 50 _ (.slice me.a me.n.ms.length me.c) _ r3_2 rfl kj (Qaj [#[.bool me.n.us],#[.int .i64 me.n.nm],ints .u8 (me.n.key),ints .u8 (me.n.sg),ints .u8 (me.n.pa)] [#[.slice me.a me.n.ms.length me.c]] [] 98 (by rw [Qac,Qac,Qac,Qac,Qac]; simp only [qS,cat,((Qae _ _).trans hok2.gl),((Qae _ _).trans hok2.kl),((Qae _ _).trans hok2.pl)]; rfl) 0 _ rfl) kj) ?_
  refine Qaa (.int .i64 ((me.n.ms.length:Nat):Int)) 45 rfl kj kj ?_
  refine Qaa (.bool true) 46 rfl kj (Qai (u:=.bool ((((nd.n.ms.length:Nat):Int) != ((me.n.ms.length:Nat):Int)))) kj (congrArg Value.bool (bne_iff_ne.2 (by omega)))) ?_
  refine Qaa (.bool true) 47 rfl kj kj ?_
  refine Qaf ?_
  refine hK5 _ _ ?_
  refine cond_true kj ?_
  refine wp_seq_k fun K6 hK6=>?_
  refine Qab ?_
  refine Qaa (.bool false) 4 rfl kj kj ?_
  refine Qaf ?_
  refine hK6 _ _ ?_
  refine wp_ret ?_
  repeat (first | with_reducible refine goR1 ?_ | with_reducible refine goR2 ?_)
  exact (show bodyPost _ _ _ .ret _ _ from ret1 (.bool false) rfl (Qaq kj) ⟨congrArg (fun z=>Ending.returned (.bool z)) (decide_eq_false (fun e=>hl (congrArg List.length e))).symm,x2⟩)
 ·skip
  refine Qab ?_
  refine Qaa (.pointer (some ⟨g2,0,none⟩)) 6 rfl kj kj ?_
  have r2_2:=(Qah r2_1 e2)
  refine Qaa (.bool nd.n.us) 7 rfl kj (Qag 4 _ g2 0 50 _ (.bool nd.n.us) _ r2_2 rfl kj (Qaj [] [#[.bool nd.n.us]] [#[.int .i64 nd.n.nm],ints .u8 (nd.n.key),ints .u8 (nd.n.sg),ints .u8 (nd.n.pa),#[.slice nd.a nd.n.ms.length nd.c]] 0 kj 0 _ rfl) kj) ?_
  refine Qaa (.pointer (some ⟨g3,0,none⟩)) 8 rfl kj kj ?_
  refine Qaa (.bool me.n.us) 9 rfl kj (Qag 4 _ g3 0 50 _ (.bool me.n.us) _ r3_2 rfl kj (Qaj [] [#[.bool me.n.us]] [#[.int .i64 me.n.nm],ints .u8 (me.n.key),ints .u8 (me.n.sg),ints .u8 (me.n.pa),#[.slice me.a me.n.ms.length me.c]] 0 kj 0 _ rfl) kj) ?_
  refine Qaa (.bool false) 10 rfl kj (Qai (u:=.bool (nd.n.us != me.n.us)) kj (congrArg Value.bool (bne_eq_false_iff_eq.2 hu))) ?_
  refine Qaa (.bool false) 11 rfl kj kj ?_
  refine Qaa (.pointer (some ⟨g2,1,none⟩)) 12 rfl kj kj ?_
  refine Qaa (.int .i64 nd.n.nm) 13 rfl kj (Qag 3 _ g2 1 50 _ (.int .i64 nd.n.nm) _ r2_2 rfl kj (Qaj [#[.bool nd.n.us]] [#[.int .i64 nd.n.nm]] [ints .u8 (nd.n.key),ints .u8 (nd.n.sg),ints .u8 (nd.n.pa),#[.slice nd.a nd.n.ms.length nd.c]] 1 kj 0 _ rfl) kj) ?_
  refine Qaa (.pointer (some ⟨g3,1,none⟩)) 14 rfl kj kj ?_
  refine Qaa (.int .i64 me.n.nm) 15 rfl kj (Qag 3 _ g3 1 50 _ (.int .i64 me.n.nm) _ r3_2 rfl kj (Qaj [#[.bool me.n.us]] [#[.int .i64 me.n.nm]] [ints .u8 (me.n.key),ints .u8 (me.n.sg),ints .u8 (me.n.pa),#[.slice me.a me.n.ms.length me.c]] 1 kj 0 _ rfl) kj) ?_
  refine Qaa (.bool false) 16 rfl kj (Qai (u:=.bool ((nd.n.nm != me.n.nm))) kj (congrArg Value.bool (bne_eq_false_iff_eq.2 hn))) ?_
  refine Qaa (.bool false) 17 rfl kj kj ?_
  refine Qaa (.bool false) 18 rfl kj kj ?_
  refine Qaa (.pointer (some ⟨g2,2,none⟩)) 19 rfl kj kj ?_
  refine Qaa (.agg (ints .u8 (nd.n.key))) 20 rfl kj (Qao 48 _ g2 2 50 _ _ _ r2_2 rfl kj (Qaj [#[.bool nd.n.us],#[.int .i64 nd.n.nm]] [ints .u8 (nd.n.key)] [ints .u8 (nd.n.sg),ints .u8 (nd.n.pa),#[.slice nd.a nd.n.ms.length nd.c]] 2 kj) kj (isz (n:=32) kj ((Qae _ _).trans hok.kl))) ?_
  refine Qaa (.pointer (some ⟨g3,2,none⟩)) 21 rfl kj kj ?_
  refine Qaa (.agg (ints .u8 (me.n.key))) 22 rfl kj (Qao 48 _ g3 2 50 _ _ _ r3_2 rfl kj (Qaj [#[.bool me.n.us],#[.int .i64 me.n.nm]] [ints .u8 (me.n.key)] [ints .u8 (me.n.sg),ints .u8 (me.n.pa),#[.slice me.a me.n.ms.length me.c]] 2 kj) kj (isz (n:=32) kj ((Qae _ _).trans hok2.kl))) ?_
  refine Qaa (.bool false) 23 rfl kj (QaM 48 _ _ _ _ _ (.bool false) rfl kj kj kj (QaV 48 (e:=5) (k:=.u8) (nd.n.key) (me.n.key) (decide_eq_true hk) hok.kl hok2.kl kj kj kj _)) ?_
  refine Qaa (.bool false) 24 rfl kj kj ?_
  refine Qaa (.bool false) 25 rfl kj kj ?_
  refine Qaa (.pointer (some ⟨g2,34,none⟩)) 26 rfl kj kj ?_
  refine Qaa (.agg (ints .u8 (nd.n.sg))) 27 rfl kj (Qao 48 _ g2 34 50 _ _ _ r2_2 rfl kj (Qaj [#[.bool nd.n.us],#[.int .i64 nd.n.nm],ints .u8 (nd.n.key)] [ints .u8 (nd.n.sg)] [ints .u8 (nd.n.pa),#[.slice nd.a nd.n.ms.length nd.c]] 34 (by rw [Qac,Qac,Qac]; simp only [qS,cat,((Qae _ _).trans hok.kl)]; rfl)) kj (isz (n:=32) kj ((Qae _ _).trans hok.gl))) ?_
  refine Qaa (.pointer (some ⟨g3,34,none⟩)) 28 rfl kj kj ?_
  refine Qaa (.agg (ints .u8 (me.n.sg))) 29 rfl kj (Qao 48 _ g3 34 50 _ _ _ r3_2 rfl kj (Qaj [#[.bool me.n.us],#[.int .i64 me.n.nm],ints .u8 (me.n.key)] [ints .u8 (me.n.sg)] [ints .u8 (me.n.pa),#[.slice me.a me.n.ms.length me.c]] 34 (by rw [Qac,Qac,Qac]; simp only [qS,cat,((Qae _ _).trans hok2.kl)]; rfl)) kj (isz (n:=32) kj ((Qae _ _).trans hok2.gl))) ?_
  refine Qaa (.bool false) 30 rfl kj (QaM 48 _ _ _ _ _ (.bool false) rfl kj kj kj (QaV 48 (e:=5) (k:=.u8) (nd.n.sg) (me.n.sg) (decide_eq_true hg) hok.gl hok2.gl kj kj kj _)) ?_
  refine Qaa (.bool false) 31 rfl kj kj ?_
  refine Qaa (.bool false) 32 rfl kj kj ?_
  refine Qaa (.pointer (some ⟨g2,66,none⟩)) 33 rfl kj kj ?_
  refine Qaa (.agg (ints .u8 (nd.n.pa))) 34 rfl kj (Qao 28 _ g2 66 50 _ _ _ r2_2 rfl kj (Qaj [#[.bool nd.n.us],#[.int .i64 nd.n.nm],ints .u8 (nd.n.key),ints .u8 (nd.n.sg)] [ints .u8 (nd.n.pa)] [#[.slice nd.a nd.n.ms.length nd.c]] 66 (by rw [Qac,Qac,Qac,Qac]; simp only [qS,cat,((Qae _ _).trans hok.gl),((Qae _ _).trans hok.kl)]; rfl)) kj (isz (n:=32) kj ((Qae _ _).trans hok.pl))) ?_
  refine Qaa (.pointer (some ⟨g3,66,none⟩)) 35 rfl kj kj ?_
  refine Qaa (.agg (ints .u8 (me.n.pa))) 36 rfl kj (Qao 28 _ g3 66 50 _ _ _ r3_2 rfl kj (Qaj [#[.bool me.n.us],#[.int .i64 me.n.nm],ints .u8 (me.n.key),ints .u8 (me.n.sg)] [ints .u8 (me.n.pa)] [#[.slice me.a me.n.ms.length me.c]] 66 (by rw [Qac,Qac,Qac,Qac]; simp only [qS,cat,((Qae _ _).trans hok2.gl),((Qae _ _).trans hok2.kl)]; rfl)) kj (isz (n:=32) kj ((Qae _ _).trans hok2.pl))) ?_
  refine Qaa (.bool false) 37 rfl kj (QaM 28 _ _ _ _ _ (.bool false) rfl kj kj kj (QaV 28 (e:=5) (k:=.u8) (nd.n.pa) (me.n.pa) (decide_eq_true hp) hok.pl hok2.pl kj kj kj _)) ?_
  refine Qaa (.bool false) 38 rfl kj kj ?_
  refine Qaa (.bool false) 39 rfl kj kj ?_
  refine Qaa (.pointer (some ⟨g2,98,none⟩)) 40 rfl kj kj ?_
  refine Qaa (.slice nd.a nd.n.ms.length nd.c) 41 rfl kj (Qag 24 _ g2 98 50 _ (.slice nd.a nd.n.ms.length nd.c) _ r2_2 rfl kj (Qaj [#[.bool nd.n.us],#[.int .i64 nd.n.nm],ints .u8 (nd.n.key),ints .u8 (nd.n.sg),ints .u8 (nd.n.pa)] [#[.slice nd.a nd.n.ms.length nd.c]] [] 98 (by rw [Qac,Qac,Qac,Qac,Qac]; simp only [qS,cat,((Qae _ _).trans hok.gl),((Qae _ _).trans hok.kl),((Qae _ _).trans hok.pl)]; rfl) 0 _ rfl) kj) ?_
  refine Qaa (.int .i64 ((nd.n.ms.length:Nat):Int)) 42 rfl kj kj ?_
  refine Qaa (.pointer (some ⟨g3,98,none⟩)) 43 rfl kj kj ?_
  refine Qaa (.slice me.a me.n.ms.length me.c) 44 rfl kj (Qag 24 _ g3 98 50 _ (.slice me.a me.n.ms.length me.c) _ r3_2 rfl kj (Qaj [#[.bool me.n.us],#[.int .i64 me.n.nm],ints .u8 (me.n.key),ints .u8 (me.n.sg),ints .u8 (me.n.pa)] [#[.slice me.a me.n.ms.length me.c]] [] 98 (by rw [Qac,Qac,Qac,Qac,Qac]; simp only [qS,cat,((Qae _ _).trans hok2.gl),((Qae _ _).trans hok2.kl),((Qae _ _).trans hok2.pl)]; rfl) 0 _ rfl) kj) ?_
  refine Qaa (.int .i64 ((me.n.ms.length:Nat):Int)) 45 rfl kj kj ?_
  refine Qaa (.bool false) 46 rfl kj (Qai (u:=.bool ((((nd.n.ms.length:Nat):Int) != ((me.n.ms.length:Nat):Int)))) kj (congrArg Value.bool (bne_eq_false_iff_eq.2 (by omega)))) ?_
  refine Qaa (.bool false) 47 rfl kj kj ?_
  refine Qaf ?_
  refine hK5 _ _ ?_
  refine cond_false kj ?_
  refine wp_skip ?_
  refine hK4 _ _ ?_
  refine wp_seq_k fun K7 hK7=>?_
  refine wp_seq_k fun K8 hK8=>?_
  refine Qab ?_
  refine Qaa (.int .i64 0) 5 rfl kj kj ?_
  refine Qaf ?_
  refine hK8 _ _ ?_
  refine wp_block ?_
  refine Qa0 (fun (s1:Nat)=>[(2,.pointer (some ⟨g2,0,none⟩)),(3,.pointer (some ⟨g3,0,none⟩)),(5,.int .i64 ((s1:Nat):Int))]) (fun (s1:Nat) W=>(s1≤nd.n.ms.length)∧(nd.n.ms.take s1=me.n.ms.take s1)∧(Ext W2 W)∧(Ext w W)) (fun (s1:Nat)=>nd.n.ms.length-s1) 0 ⟨rfl,rfl,rfl,trivial⟩ ⟨(Nat.zero_le _),rfl,(Rely.Ext.refl W2),x2⟩ fun s1 X1 V1 hI1=>?_
  obtain ⟨i,hs1⟩:∃ z,z=s1:=⟨_,rfl⟩
  subst hs1
  obtain ⟨hi,hpre,kk1,xx1⟩:=hI1
  replace hi:i≤nd.n.ms.length:=hi
  replace hpre:nd.n.ms.take i=me.n.ms.take i:=hpre
  replace kk1:Ext W2 V1:=kk1
  replace xx1:Ext w V1:=xx1
  have e3:=kk1
  refine wp_seq_k fun K9 hK9=>?_
  refine wp_seq_k fun K10 hK10=>?_
  refine Qab ?_
  refine Qaa (.int .i64 ((i:Nat):Int)) 48 rfl kj kj ?_
  refine Qaa (.pointer (some ⟨g2,98,none⟩)) 49 rfl kj kj ?_
  have r2_3:=(Qah r2_2 e3)
  refine Qaa (.slice nd.a nd.n.ms.length nd.c) 50 rfl kj (Qag 24 _ g2 98 50 _ (.slice nd.a nd.n.ms.length nd.c) _ r2_3 rfl kj (Qaj [#[.bool nd.n.us],#[.int .i64 nd.n.nm],ints .u8 (nd.n.key),ints .u8 (nd.n.sg),ints .u8 (nd.n.pa)] [#[.slice nd.a nd.n.ms.length nd.c]] [] 98 (by rw [Qac,Qac,Qac,Qac,Qac]; simp only [qS,cat,((Qae _ _).trans hok.gl),((Qae _ _).trans hok.kl),((Qae _ _).trans hok.pl)]; rfl) 0 _ rfl) kj) ?_
  refine Qaa (.int .i64 ((nd.n.ms.length:Nat):Int)) 51 rfl kj kj ?_
  refine Qaa (.bool (decide (((i:Nat):Int)<((nd.n.ms.length:Nat):Int)))) 52 rfl kj kj ?_
  refine Qaf ?_
  refine hK10 _ _ ?_
  refine Qar (t:=decide (((i:Nat):Int)<((nd.n.ms.length:Nat):Int))) kj (fun c11=>?_) (fun c11=>?_)
  ·skip
   have hlt52:i<nd.n.ms.length:=by have:=of_decide_eq_true c11; omega
   refine wp_skip ?_
   refine hK9 _ _ ?_
   refine wp_seq_k fun K12 hK12=>?_
   refine wp_block ?_
   refine wp_seq_k fun K13 hK13=>?_
   have hnx_14:(nd.n.ms).length=nd.n.ms.length:=rfl
   obtain ⟨gcx_14,ocx_14,hax_14,hlx_14,hcx_14⟩:=QaY (RdK.here (RdK.ext hr1 xx1)) (by rw [hnx_14]; omega)
   have hny_15:(me.n.ms).length=me.n.ms.length:=rfl
   obtain ⟨gcy_15,ocy_15,hay_15,hly_15,hcy_15⟩:=QaY (RdK.here (RdK.ext hr2 xx1)) (by rw [hny_15]; omega)
   refine QaX 10 [⟨none,[(2,none)]⟩,⟨none,[(55,some 0)]⟩,⟨none,[(5,none)]⟩,⟨none,[(56,some 1),(57,some 2)]⟩,⟨none,[(58,some 3)]⟩,⟨none,[(3,none)]⟩,⟨none,[(60,some 5)]⟩,⟨none,[(5,none)]⟩,⟨none,[(61,some 6),(62,some 7)]⟩,⟨none,[(63,some 8)]⟩] kj kj fun F hF=>?_
   refine Qaz (Qam _) (.pointer (some ⟨g2,98,none⟩)) kj kj (fun W=>by kernel_rfl) ?_
   refine QaK (Qam _) (.slice nd.a nd.n.ms.length nd.c) kj kj (fun W hR=>(Qag 24 _ g2 98 50 _ (.slice nd.a nd.n.ms.length nd.c) _ (Qah (Qah r2_3 (Qax _)) hR) rfl kj (Qaj [#[.bool nd.n.us],#[.int .i64 nd.n.nm],ints .u8 (nd.n.key),ints .u8 (nd.n.sg),ints .u8 (nd.n.pa)] [#[.slice nd.a nd.n.ms.length nd.c]] [] 98 (by rw [Qac,Qac,Qac,Qac,Qac]; simp only [qS,cat,((Qae _ _).trans hok.gl),((Qae _ _).trans hok.kl),((Qae _ _).trans hok.pl)]; rfl) 0 _ rfl) kj)) ?_
   refine Qaz (Qam _) (.int .i64 ((i:Nat):Int)) kj kj (fun W=>by kernel_rfl) ?_
   refine Qaz (Qam _) (.pointer (some ⟨gcx_14,ocx_14+i,none⟩)) kj kj (fun W=>(Qa6 24 _ _ .i64 i gcx_14 ocx_14 nd.n.ms.length nd.c 3 nd.a _ hax_14 rfl rfl kj kj kj kj (Nat.lt_of_lt_of_eq (show i<nd.n.ms.length by omega) hnx_14.symm))) ?_
   refine QaK (Qam _) (.int .i64 (nth (nd.n.ms) (i))) kj kj (fun W hR=>(Qak 3 _ _ (.int .i64 (nth (nd.n.ms) (i))) ((Below.cell (Rely.Ext.trans (Qax _) hR) hlx_14).trans (hcx_14 i (Nat.lt_of_lt_of_eq (show i<nd.n.ms.length by omega) hnx_14.symm))) rfl kj kj)) ?_
   refine Qaz (Qam _) (.pointer (some ⟨g3,98,none⟩)) kj kj (fun W=>by kernel_rfl) ?_
   have r3_3:=(Qah r3_2 e3)
   refine QaK (Qam _) (.slice me.a me.n.ms.length me.c) kj kj (fun W hR=>(Qag 24 _ g3 98 50 _ (.slice me.a me.n.ms.length me.c) _ (Qah (Qah r3_3 (Qax _)) hR) rfl kj (Qaj [#[.bool me.n.us],#[.int .i64 me.n.nm],ints .u8 (me.n.key),ints .u8 (me.n.sg),ints .u8 (me.n.pa)] [#[.slice me.a me.n.ms.length me.c]] [] 98 (by rw [Qac,Qac,Qac,Qac,Qac]; simp only [qS,cat,((Qae _ _).trans hok2.gl),((Qae _ _).trans hok2.kl),((Qae _ _).trans hok2.pl)]; rfl) 0 _ rfl) kj)) ?_
   refine Qaz (Qam _) (.int .i64 ((i:Nat):Int)) kj kj (fun W=>by kernel_rfl) ?_
   refine Qaz (Qam _) (.pointer (some ⟨gcy_15,ocy_15+i,none⟩)) kj kj (fun W=>(Qa6 24 _ _ .i64 i gcy_15 ocy_15 me.n.ms.length me.c 3 me.a _ hay_15 rfl rfl kj kj kj kj (Nat.lt_of_lt_of_eq (show i<me.n.ms.length by omega) hny_15.symm))) ?_
   refine QaK (Qam _) (.int .i64 (nth (me.n.ms) (i))) kj kj (fun W hR=>(Qak 3 _ _ (.int .i64 (nth (me.n.ms) (i))) ((Below.cell (Rely.Ext.trans (Qax _) hR) hly_15).trans (hcy_15 i (Nat.lt_of_lt_of_eq (show i<me.n.ms.length by omega) hny_15.symm))) rfl kj kj)) ?_
   refine QcZ (hF _ fun W4 e4=>?_)
   simp only [List.nil_append,List.cons_append,List.take_succ_cons,List.take_zero,List.drop_succ_cons,List.drop_zero,finE,up]
   clear hF
   have x4:Ext w W4:=Ext.tr xx1 e4
   refine Qaa (.bool (((nth (nd.n.ms) (i)) != (nth (me.n.ms) (i))))) 65 rfl kj kj ?_
   refine Qaf ?_
   refine hK13 _ _ ?_
   refine Qar (t:=((nth (nd.n.ms) (i)) != (nth (me.n.ms) (i)))) kj (fun c16=>?_) (fun c16=>?_)
   ·skip
    have hcn:nth (nd.n.ms) i≠nth (me.n.ms) i:=(bne_iff_ne.1 c16)
    refine wp_seq_k fun K17 hK17=>?_
    refine Qab ?_
    refine Qaa (.bool false) 4 rfl kj kj ?_
    refine Qaf ?_
    refine hK17 _ _ ?_
    refine wp_ret ?_
    repeat (first | with_reducible refine goR1 ?_ | with_reducible refine goR2 ?_)
    exact (show bodyPost _ _ _ .ret _ _ from ret1 (.bool false) rfl (Qaq kj) ⟨congrArg (fun z=>Ending.returned (.bool z)) (decide_eq_false (fun e=>hcn (congrArg (fun z=>nth z i) e))).symm,x4⟩)
   ·skip
    have hcn:nth (nd.n.ms) i=nth (me.n.ms) i:=(bne_eq_false_iff_eq.1 c16)
    refine wp_skip ?_
    refine hK12 _ _ ?_
    refine Qab ?_
    refine Qaa (.int .i64 ((i:Nat):Int)) 53 rfl kj kj ?_
    refine Qaa (.int .i64 ((i+1:Nat):Int)) 54 rfl kj (Qai (u:=.int .i64 (IntKind.i64.wrap (((i:Nat):Int)+1))) kj (congrArg (Value.int .i64) (i64n _ _ (by omega) (by omega)))) ?_
    refine Qaa (.int .i64 ((i+1:Nat):Int)) 5 rfl kj kj ?_
    refine Qaf ?_
    have y2_4:Ext W2 W4:=(Rely.Ext.trans e3 e4)
    repeat (first | with_reducible refine goX1 ?_ | with_reducible refine goX2 ?_ | with_reducible refine goX3 ?_)
    exact Qat (i+1) ⟨rfl,rfl,rfl,trivial⟩ ⟨(by omega),(Qd6 hpre hcn (by omega) (by omega)),y2_4,x4⟩ (by show nd.n.ms.length-(i+1)<nd.n.ms.length-i; omega)
  ·skip
   have heq52:i=nd.n.ms.length:=by have:=of_decide_eq_false c11; omega
   have hxy:nd.n.ms=me.n.ms:=by rw [heq52,List.take_length,hl,List.take_length] at hpre; exact hpre
   refine wp_exit ?_
   refine hK7 _ _ ?_
   refine wp_seq_k fun K18 hK18=>?_
   refine Qab ?_
   refine Qaa (.bool true) 4 rfl kj kj ?_
   refine Qaf ?_
   refine hK18 _ _ ?_
   refine wp_ret ?_
   repeat (first | with_reducible refine goR1 ?_ | with_reducible refine goR2 ?_)
   exact (show bodyPost _ _ _ .ret _ _ from ret1 (.bool true) rfl (Qaq kj) ⟨congrArg (fun z=>Ending.returned (.bool z)) (decide_eq_true hxy).symm,xx1⟩)
theorem QjB (nd me:NdV) (hok:NdOk nd.n) (hok2:NdOk me.n) (B1 B2:Nat) (w:World) (hm1:nd.n.ms.length≤1000000) (hm2:me.n.ms.length≤1000000) (hr1:RdK .i64 B1 nd.n.ms (.slice nd.a nd.n.ms.length nd.c) w) (hr2:RdK .i64 B2 me.n.ms (.slice me.a me.n.ms.length me.c) w):Calls Tryd.prog 31 #[.agg (cat (ndP nd)),.agg (cat (ndP me))] w (Ret w (.bool (Qb7 nd.n me.n))):=by
  unfold Qb7 ndP
  by_cases hu:nd.n.us=me.n.us
  case neg=>rw [beq_eq_false_iff_ne.2 hu]; simp only [Bool.false_and]; exact Qkq nd me hok hok2 B1 B2 w hm1 hm2 hr1 hr2 hu
  by_cases hn:nd.n.nm=me.n.nm
  case neg=>rw [beq_eq_false_iff_ne.2 hn]; simp only [Bool.false_and,Bool.and_false]; exact Qks nd me hok hok2 B1 B2 w hm1 hm2 hr1 hr2 hu hn
  by_cases hk:nd.n.key=me.n.key
  case neg=>rw [decide_eq_false hk]; simp only [Bool.false_and,Bool.and_false]; exact Qkt nd me hok hok2 B1 B2 w hm1 hm2 hr1 hr2 hu hn hk
  by_cases hg:nd.n.sg=me.n.sg
  case neg=>rw [decide_eq_false hg]; simp only [Bool.false_and,Bool.and_false]; exact Qku nd me hok hok2 B1 B2 w hm1 hm2 hr1 hr2 hu hn hk hg
  by_cases hp:nd.n.pa=me.n.pa
  case neg=>rw [decide_eq_false hp]; simp only [Bool.false_and,Bool.and_false]; exact Qkr nd me hok hok2 B1 B2 w hm1 hm2 hr1 hr2 hu hn hk hg hp
  rw [beq_iff_eq.2 hu,beq_iff_eq.2 hn,decide_eq_true hk,decide_eq_true hg,decide_eq_true hp]
  simp only [Bool.true_and]
  exact Qkv nd me hok hok2 B1 B2 w hm1 hm2 hr1 hr2 hu hn hk hg hp
end Go.Proofs.YthfkppjajmjpnaaDoor.Te
end
section
namespace Go.Proofs.YthfkppjajmjpnaaDoor.Te
open Go Go.RowKit
open Rely Auto Own Seat Sha
theorem NdAt.ext {B g off:Nat} {w W:World} {n:NdV} (h:NdAt B w g off n) (e:Ext w W):NdAt B W g off n:=h.keep e.size fun k _ hl=>e.block k hl
def Qcq (ts us:List NdV):Bool:=ts.length==us.length&&(List.range ts.length).all fun i=>Qb7 (ndi ts i).n (ndi us i).n
theorem Qh5 {ts us:List NdV} (h:ts.length≠us.length):Qcq ts us=false:=by unfold Qcq; rw [beq_eq_false_iff_ne.2 h]; rfl
theorem QiF {ts us:List NdV} {i:Nat} (hi:i<ts.length) (h:Qb7 (ndi ts i).n (ndi us i).n=false):Qcq ts us=false:=by
  unfold Qcq
  rw [Bool.and_eq_false_iff]
  right
  rw [List.all_eq_false]
  exact ⟨i,List.mem_range.2 hi,by rw [h]; decide⟩
theorem Qfz {ts us:List NdV} (hl:ts.length=us.length) (h:∀ i,i<ts.length→Qb7 (ndi ts i).n (ndi us i).n=true):Qcq ts us=true:=by
  unfold Qcq
  rw [beq_iff_eq.2 hl,Bool.true_and,List.all_eq_true]
  exact fun i hi=>h i (List.mem_range.1 hi)
end Go.Proofs.YthfkppjajmjpnaaDoor.Te
end
section
namespace Go.Proofs.YthfkppjajmjpnaaDoor.Te
open Go Go.RowKit
open Rely Auto Own Seat Sha
set_option maxRecDepth 100000 in
theorem Qlx (ts us:List NdV) (a_t a_u:Option Addr) (c_t c_u B1 B2:Nat) (w:World) (htl:ts.length≤1000000) (hul:us.length≤1000000) (hmt:∀ i,i<ts.length→(ndi ts i).n.ms.length≤1000000) (hmu:∀ i,i<us.length→(ndi us i).n.ms.length≤1000000) (ht:TrAt B1 w a_t ts) (hu:TrAt B2 w a_u us) (hl:ts.length≠us.length):Calls Tryd.prog 20 #[.slice a_t ts.length c_t,.slice a_u us.length c_u] w (Ret w (.bool (Qcq ts us))):=by
  refine enter 27 [(0,.slice a_t ts.length c_t),(1,.slice a_u us.length c_u)] Tryd.func20 rfl rfl kj rfl ?_
  refine wp_seq_k fun K1 hK1=>?_
  refine Qab ?_
  refine Qaa (.bool false) 4 rfl kj kj ?_
  refine Qaf ?_
  refine hK1 _ _ ?_
  refine wp_seq_k fun K2 hK2=>?_
  refine wp_seq_k fun K3 hK3=>?_
  refine Qab ?_
  refine Qaa (.slice a_t ts.length c_t) 6 rfl kj kj ?_
  refine Qaa (.int .i64 ((ts.length:Nat):Int)) 7 rfl kj kj ?_
  refine Qaa (.slice a_u us.length c_u) 8 rfl kj kj ?_
  refine Qaa (.int .i64 ((us.length:Nat):Int)) 9 rfl kj kj ?_
  refine Qaa (.bool true) 10 rfl kj (Qai (u:=.bool ((((ts.length:Nat):Int) != ((us.length:Nat):Int)))) kj (congrArg Value.bool (bne_iff_ne.2 (by omega)))) ?_
  refine Qaf ?_
  refine hK3 _ _ ?_
  refine cond_true kj ?_
  refine wp_seq_k fun K4 hK4=>?_
  refine Qab ?_
  refine Qaa (.bool false) 4 rfl kj kj ?_
  refine Qaf ?_
  refine hK4 _ _ ?_
  refine wp_ret ?_
  repeat (first | with_reducible refine goR1 ?_ | with_reducible refine goR2 ?_)
  exact (show bodyPost _ _ _ .ret _ _ from ret1 (.bool false) rfl (Qaq kj) ⟨congrArg (fun z=>Ending.returned (.bool z)) (Qh5 hl).symm,(Rely.Ext.refl w)⟩)
set_option maxRecDepth 100000 in
theorem Qly (ts us:List NdV) (a_t a_u:Option Addr) (c_t c_u B1 B2:Nat) (w:World) (htl:ts.length≤1000000) (hul:us.length≤1000000) (hmt:∀ i,i<ts.length→(ndi ts i).n.ms.length≤1000000) (hmu:∀ i,i<us.length→(ndi us i).n.ms.length≤1000000) (ht:TrAt B1 w a_t ts) (hu:TrAt B2 w a_u us) (hl:ts.length=us.length):Calls Tryd.prog 20 #[.slice a_t ts.length c_t,.slice a_u us.length c_u] w (Ret w (.bool (Qcq ts us))):=by
 refine enter 27 [(0,.slice a_t ts.length c_t),(1,.slice a_u us.length c_u)] Tryd.func20 rfl rfl kj rfl ?_
 refine wp_seq_k fun K1 hK1=>?_
 refine Qab ?_
 refine Qaa (.bool false) 4 rfl kj kj ?_
 refine Qaf ?_
 refine hK1 _ _ ?_
 refine wp_seq_k fun K2 hK2=>?_
 refine wp_seq_k fun K3 hK3=>?_
 refine Qab ?_
 refine Qaa (.slice a_t ts.length c_t) 6 rfl kj kj ?_
 refine Qaa (.int .i64 ((ts.length:Nat):Int)) 7 rfl kj kj ?_
 refine Qaa (.slice a_u us.length c_u) 8 rfl kj kj ?_
 refine Qaa (.int .i64 ((us.length:Nat):Int)) 9 rfl kj kj ?_
 refine Qaa (.bool false) 10 rfl kj (Qai (u:=.bool ((((ts.length:Nat):Int) != ((us.length:Nat):Int)))) kj (congrArg Value.bool (bne_eq_false_iff_eq.2 (by omega)))) ?_
 refine Qaf ?_
 refine hK3 _ _ ?_
 refine cond_false kj ?_
 refine wp_skip ?_
 refine hK2 _ _ ?_
 refine wp_seq_k fun K4 hK4=>?_
 refine wp_seq_k fun K5 hK5=>?_
 refine Qab ?_
 refine Qaa (.int .i64 0) 5 rfl kj kj ?_
 refine Qaf ?_
 refine hK5 _ _ ?_
 refine wp_block ?_
 refine Qa0 (fun (s1:Nat)=>[(0,.slice a_t ts.length c_t),(1,.slice a_u us.length c_u),(5,.int .i64 ((s1:Nat):Int))]) (fun (s1:Nat) W=>(s1≤ts.length)∧(∀ j,j<s1→Qb7 (ndi ts j).n (ndi us j).n=true)∧(Ext w W)∧(Ext w W)) (fun (s1:Nat)=>ts.length-s1) 0 ⟨rfl,rfl,rfl,trivial⟩ ⟨(Nat.zero_le _),(fun j h=>absurd h (Nat.not_lt_zero j)),(Rely.Ext.refl w),(Rely.Ext.refl w)⟩ fun s1 X1 V1 hI1=>?_
 obtain ⟨i,hs1⟩:∃ z,z=s1:=⟨_,rfl⟩
 subst hs1
 obtain ⟨hi,hpre,kk1,xx1⟩:=hI1
 replace hi:i≤ts.length:=hi
 replace hpre:∀ j,j<i→Qb7 (ndi ts j).n (ndi us j).n=true:=hpre
 replace kk1:Ext w V1:=kk1
 replace xx1:Ext w V1:=xx1
 have e1:=kk1
 refine wp_seq_k fun K6 hK6=>?_
 refine wp_seq_k fun K7 hK7=>?_
 refine Qab ?_
 refine Qaa (.int .i64 ((i:Nat):Int)) 11 rfl kj kj ?_
 refine Qaa (.slice a_t ts.length c_t) 12 rfl kj kj ?_
 refine Qaa (.int .i64 ((ts.length:Nat):Int)) 13 rfl kj kj ?_
 refine Qaa (.bool (decide (((i:Nat):Int)<((ts.length:Nat):Int)))) 14 rfl kj kj ?_
 refine Qaf ?_
 refine hK7 _ _ ?_
 refine Qar (t:=decide (((i:Nat):Int)<((ts.length:Nat):Int))) kj (fun c8=>?_) (fun c8=>?_)
 ·skip
  have hlt14:i<ts.length:=by have:=of_decide_eq_true c8; omega
  refine wp_skip ?_
  refine hK6 _ _ ?_
  refine wp_seq_k fun K9 hK9=>?_
  refine wp_block ?_
  refine wp_seq_k fun K10 hK10=>?_
  obtain ⟨gtT,otT,hat,hnts⟩:=TrAt.ext ht xx1
  have hnt:=hnts i (by omega)
  obtain ⟨nt,ent⟩:∃ z,z=ndi ts i:=⟨_,rfl⟩
  rw [←ent] at hnt
  have okt:=hnt.ok
  have rdt:=hnt.rd
  obtain ⟨guT,ouT,hau,hnus⟩:=TrAt.ext hu xx1
  have hnu:=hnus i (by omega)
  obtain ⟨nu,enu⟩:∃ z,z=ndi us i:=⟨_,rfl⟩
  rw [←enu] at hnu
  have oku:=hnu.ok
  have rdu:=hnu.rd
  refine QaX 8 [⟨none,[(0,none)]⟩,⟨none,[(5,none)]⟩,⟨none,[(17,some 0),(18,some 1)]⟩,⟨none,[(19,some 2)]⟩,⟨none,[(1,none)]⟩,⟨none,[(5,none)]⟩,⟨none,[(21,some 4),(22,some 5)]⟩,⟨none,[(23,some 6)]⟩] kj kj fun F hF=>?_
  refine Qaz (Qam _) (.slice a_t ts.length c_t) kj kj (fun W=>by kernel_rfl) ?_
  refine Qaz (Qam _) (.int .i64 ((i:Nat):Int)) kj kj (fun W=>by kernel_rfl) ?_
  refine Qaz (Qam _) (.pointer (some ⟨gtT,otT+i*99,none⟩)) kj kj (fun W=>(Qap 23 _ _ .i64 i gtT otT ts.length c_t 50 99 a_t (hat (by omega)) rfl kj kj kj kj (by omega))) ?_
  refine QaK (Qam _) (.agg (cat [#[.bool nt.n.us],#[.int .i64 nt.n.nm],ints .u8 (nt.n.key),ints .u8 (nt.n.sg),ints .u8 (nt.n.pa),#[.slice nt.a nt.n.ms.length nt.c]])) kj kj (fun W hR=>(QaH 50 _ gtT (otT+i*99) nt (NdAt.ext hnt (Rely.Ext.trans (Qax _) hR)) rfl kj kj kj)) ?_
  refine Qaz (Qam _) (.slice a_u us.length c_u) kj kj (fun W=>by kernel_rfl) ?_
  refine Qaz (Qam _) (.int .i64 ((i:Nat):Int)) kj kj (fun W=>by kernel_rfl) ?_
  refine Qaz (Qam _) (.pointer (some ⟨guT,ouT+i*99,none⟩)) kj kj (fun W=>(Qap 23 _ _ .i64 i guT ouT us.length c_u 50 99 a_u (hau (by omega)) rfl kj kj kj kj (by omega))) ?_
  refine QaK (Qam _) (.agg (cat [#[.bool nu.n.us],#[.int .i64 nu.n.nm],ints .u8 (nu.n.key),ints .u8 (nu.n.sg),ints .u8 (nu.n.pa),#[.slice nu.a nu.n.ms.length nu.c]])) kj kj (fun W hR=>(QaH 50 _ guT (ouT+i*99) nu (NdAt.ext hnu (Rely.Ext.trans (Qax _) hR)) rfl kj kj kj)) ?_
  refine QcZ (hF _ fun W2 e2=>?_)
  simp only [List.nil_append,List.cons_append,List.take_succ_cons,List.take_zero,List.drop_succ_cons,List.drop_zero,finE,up]
  clear hF
  have x2:Ext w W2:=Ext.tr xx1 e2
  have y1_2:Ext V1 W2:=(Rely.Ext.trans (Rely.Ext.refl V1) e2)
  refine Qal (.bool (Qb7 nt.n nu.n)) 31 #[.agg (cat [#[.bool nt.n.us],#[.int .i64 nt.n.nm],ints .u8 (nt.n.key),ints .u8 (nt.n.sg),ints .u8 (nt.n.pa),#[.slice nt.a nt.n.ms.length nt.c]]),.agg (cat [#[.bool nu.n.us],#[.int .i64 nu.n.nm],ints .u8 (nu.n.key),ints .u8 (nu.n.sg),ints .u8 (nu.n.pa),#[.slice nu.a nu.n.ms.length nu.c]])] 25 rfl kj kj (QjB nt nu okt oku _ _ _ (ent▸hmt i (by omega)) (enu▸hmu i (by omega)) (RdK.here (RdK.ext rdt y1_2)) (RdK.here (RdK.ext rdu y1_2))) fun W3 e3=>?_
  have x3:Ext w W3:=Ext.tr x2 e3
  refine Qaa (.bool (!(Qb7 nt.n nu.n))) 26 rfl kj kj ?_
  refine Qaf ?_
  refine hK10 _ _ ?_
  refine Qar (t:=!(Qb7 nt.n nu.n)) kj (fun c11=>?_) (fun c11=>?_)
  ·skip
   have hcn:Qb7 (ndi ts i).n (ndi us i).n=false:=by rw [←ent,←enu]; cases h9:Qb7 nt.n nu.n <;> simp [h9] at c11 ⊢
   refine wp_seq_k fun K12 hK12=>?_
   refine Qab ?_
   refine Qaa (.bool false) 4 rfl kj kj ?_
   refine Qaf ?_
   refine hK12 _ _ ?_
   refine wp_ret ?_
   repeat (first | with_reducible refine goR1 ?_ | with_reducible refine goR2 ?_)
   exact (show bodyPost _ _ _ .ret _ _ from ret1 (.bool false) rfl (Qaq kj) ⟨congrArg (fun z=>Ending.returned (.bool z)) (QiF hlt14 hcn).symm,x3⟩)
  ·skip
   have hcn:Qb7 (ndi ts i).n (ndi us i).n=true:=by rw [←ent,←enu]; cases h9:Qb7 nt.n nu.n <;> simp [h9] at c11 ⊢
   refine wp_skip ?_
   refine hK9 _ _ ?_
   refine Qab ?_
   refine Qaa (.int .i64 ((i:Nat):Int)) 15 rfl kj kj ?_
   refine Qaa (.int .i64 ((i+1:Nat):Int)) 16 rfl kj (Qai (u:=.int .i64 (IntKind.i64.wrap (((i:Nat):Int)+1))) kj (congrArg (Value.int .i64) (i64n _ _ (by omega) (by omega)))) ?_
   refine Qaa (.int .i64 ((i+1:Nat):Int)) 5 rfl kj kj ?_
   refine Qaf ?_
   have y0_2:Ext w W2:=(Rely.Ext.trans e1 e2)
   have y0_3:Ext w W3:=(Rely.Ext.trans y0_2 e3)
   repeat (first | with_reducible refine goX1 ?_ | with_reducible refine goX2 ?_ | with_reducible refine goX3 ?_)
   exact Qat (i+1) ⟨rfl,rfl,rfl,trivial⟩ ⟨(by omega),(fun j hj=>by by_cases h8:j=i; (rw [h8]; exact hcn); exact hpre j (by omega)),y0_3,x3⟩ (by show ts.length-(i+1)<ts.length-i; omega)
 ·skip
  have heq14:i=ts.length:=by have:=of_decide_eq_false c8; omega
  have hall:Qcq ts us=true:=Qfz hl (by rw [←heq14]; exact hpre)
  refine wp_exit ?_
  refine hK4 _ _ ?_
  refine wp_seq_k fun K13 hK13=>?_
  refine Qab ?_
  refine Qaa (.bool true) 4 rfl kj kj ?_
  refine Qaf ?_
  refine hK13 _ _ ?_
  refine wp_ret ?_
  repeat (first | with_reducible refine goR1 ?_ | with_reducible refine goR2 ?_)
  exact (show bodyPost _ _ _ .ret _ _ from ret1 (.bool true) rfl (Qaq kj) ⟨congrArg (fun z=>Ending.returned (.bool z)) hall.symm,xx1⟩)
theorem Qmq (ts us:List NdV) (a_t a_u:Option Addr) (c_t c_u B1 B2:Nat) (w:World) (htl:ts.length≤1000000) (hul:us.length≤1000000) (hmt:∀ i,i<ts.length→(ndi ts i).n.ms.length≤1000000) (hmu:∀ i,i<us.length→(ndi us i).n.ms.length≤1000000) (ht:TrAt B1 w a_t ts) (hu:TrAt B2 w a_u us):Calls Tryd.prog 20 #[.slice a_t ts.length c_t,.slice a_u us.length c_u] w (Ret w (.bool (Qcq ts us))):=by
  by_cases hl:ts.length=us.length
  · exact Qly ts us a_t a_u c_t c_u B1 B2 w htl hul hmt hmu ht hu hl
  · exact Qlx ts us a_t a_u c_t c_u B1 B2 w htl hul hmt hmu ht hu hl
end Go.Proofs.YthfkppjajmjpnaaDoor.Te
end
section
namespace Go.Proofs.YthfkppjajmjpnaaDoor.Te
open Go Go.RowKit
open Rely Auto Own Seat Sha
end Go.Proofs.YthfkppjajmjpnaaDoor.Te
end
section
namespace Go.Proofs.YthfkppjajmjpnaaDoor.Te
open Go Go.RowKit
open Rely Auto Own Seat Sha
theorem Qmj (a b c:Value) (k g p:Array Value) (hk:k.size=32) (hg:g.size=32) (hp:p.size=32):(cat [#[a],#[b],k,g,p,#[c]])[0]? = some a∧(cat [#[a],#[b],k,g,p,#[c]])[1]? = some b∧(cat [#[a],#[b],k,g,p,#[c]])[98]? = some c:=by
  refine ⟨?_,?_,?_⟩
  · show (#[a]++cat _)[0]? = _
    rw [Array.getElem?_append_left (show 0<1 by decide)]; rfl
  · show (#[a]++(#[b]++cat _))[1]? = _
    rw [Array.getElem?_append_right (show 1≤1 by decide),Array.getElem?_append_left (show 0<1 by decide)]; rfl
  · rw [show cat [#[a],#[b],k,g,p,#[c]]=(#[a]++#[b]++k++g++p)++#[c] by simp [cat,Array.append_assoc]]
    rw [Array.getElem?_append_right (by simp [hk,hg,hp])]
    simp [hk,hg,hp]
theorem NdAt.at3 {B g off:Nat} {w:World} {n:NdV} (h:NdAt B w g off n):w.cell? ⟨g,off,none⟩=some (.bool n.n.us)∧w.cell? ⟨g,off+1,none⟩=some (.int .i64 n.n.nm)∧w.cell? ⟨g,off+98,none⟩=some (.slice n.a n.n.ms.length n.c):=by
  have q:=Qmj (.bool n.n.us) (.int .i64 n.n.nm) (.slice n.a n.n.ms.length n.c) (ints .u8 n.n.key) (ints .u8 n.n.sg) (ints .u8 n.n.pa) (by rw [Qae]; exact h.ok.kl) (by rw [Qae]; exact h.ok.gl) (by rw [Qae]; exact h.ok.pl)
  exact ⟨h.cell 0 _ q.1,h.cell 1 _ q.2.1,h.cell 98 _ q.2.2⟩
def anyU (ts : List NdV) (k:Nat):Bool:=(List.range ts.length).any fun j=>decide (k≤j)&&decide (2*j<ts.length)&&(ndi ts (2*j)).n.us
theorem QgJ {ts : List NdV} {k j:Nat} (h1:k≤j) (h2:2*j<ts.length) (h3:(ndi ts (2*j)).n.us=true):anyU ts k=true:=by
  unfold anyU
  rw [List.any_eq_true]
  exact ⟨j,List.mem_range.2 (by omega),by simp [h1,h2,h3]⟩
theorem Qix {ts : List NdV} {k i:Nat} (h:∀ j,k≤j→j<i→(ndi ts (2*j)).n.us=false) (hi:ts.length≤2*i):anyU ts k=false:=by
  unfold anyU
  rw [List.any_eq_false]
  intro j hj hc
  simp only [Bool.and_eq_true,decide_eq_true_eq] at hc
  rw [h j hc.1.1 (by omega)] at hc
  exact Bool.noConfusion hc.2
set_option maxRecDepth 100000 in
theorem Ql4 (ts : List NdV) (a_t:Option Addr) (c_t B1:Nat) (w:World) (ht:TrAt B1 w a_t ts) (htl:ts.length≤100000) (k:Nat) (hk:k≤100000):Calls Tryd.prog 30 #[.slice a_t ts.length c_t,.int .i64 ((k:Nat):Int)] w (Ret w (.bool (anyU ts k))):=by
 refine enter 19 [(0,.slice a_t ts.length c_t),(1,.int .i64 ((k:Nat):Int))] Tryd.func30 rfl rfl kj rfl ?_
 refine wp_seq_k fun K1 hK1=>?_
 refine Qab ?_
 refine Qaa (.bool false) 4 rfl kj kj ?_
 refine Qaf ?_
 refine hK1 _ _ ?_
 refine wp_seq_k fun K2 hK2=>?_
 refine wp_seq_k fun K3 hK3=>?_
 refine Qab ?_
 refine Qaa (.int .i64 ((k:Nat):Int)) 6 rfl kj kj ?_
 refine Qaa (.int .i64 (((2*k:Nat):Int))) 7 rfl kj (Qai (u:=.int .i64 (IntKind.i64.wrap (2*((k:Nat):Int)))) kj (congrArg (Value.int .i64) ((IntWalk.i64_in _ (by omega)).trans (by omega)))) ?_
 refine Qaa (.int .i64 (((2*k:Nat):Int))) 5 rfl kj kj ?_
 refine Qaf ?_
 refine hK3 _ _ ?_
 refine wp_block ?_
 refine Qa0 (fun (s1:Nat)=>[(0,.slice a_t ts.length c_t),(5,.int .i64 ((2*s1:Nat):Int))]) (fun (s1:Nat) W=>(s1≤1000000)∧(k≤s1)∧(∀ j,k≤j→j<s1→(ndi ts (2*j)).n.us=false)∧(Ext w W)∧(Ext w W)) (fun (s1:Nat)=>ts.length-s1) k ⟨rfl,rfl,trivial⟩ ⟨(by omega),(qR k),(fun j h1 h2=>absurd h2 (by omega)),(Rely.Ext.refl w),(Rely.Ext.refl w)⟩ fun s1 X1 V1 hI1=>?_
 obtain ⟨i,hs1⟩:∃ z,z=s1:=⟨_,rfl⟩
 subst hs1
 obtain ⟨hi,hki,hno,kk1,xx1⟩:=hI1
 replace hi:i≤1000000:=hi
 replace hki:k≤i:=hki
 replace hno:∀ j,k≤j→j<i→(ndi ts (2*j)).n.us=false:=hno
 replace kk1:Ext w V1:=kk1
 replace xx1:Ext w V1:=xx1
 have e1:=kk1
 refine wp_seq_k fun K4 hK4=>?_
 refine wp_seq_k fun K5 hK5=>?_
 refine Qab ?_
 refine Qaa (.int .i64 ((2*i:Nat):Int)) 8 rfl kj kj ?_
 refine Qaa (.slice a_t ts.length c_t) 9 rfl kj kj ?_
 refine Qaa (.int .i64 ((ts.length:Nat):Int)) 10 rfl kj kj ?_
 refine Qaa (.bool (decide (((2*i:Nat):Int)<((ts.length:Nat):Int)))) 11 rfl kj kj ?_
 refine Qaf ?_
 refine hK5 _ _ ?_
 refine Qar (t:=decide (((2*i:Nat):Int)<((ts.length:Nat):Int))) kj (fun c6=>?_) (fun c6=>?_)
 ·skip
  have h11:2*i<ts.length:=by have:=of_decide_eq_true c6; omega
  refine wp_skip ?_
  refine hK4 _ _ ?_
  refine wp_seq_k fun K7 hK7=>?_
  refine wp_block ?_
  refine wp_seq_k fun K8 hK8=>?_
  refine Qab ?_
  refine Qaa (.slice a_t ts.length c_t) 14 rfl kj kj ?_
  refine Qaa (.int .i64 ((2*i:Nat):Int)) 15 rfl kj kj ?_
  obtain ⟨gtT,otT,hat,hnts⟩:=TrAt.ext ht xx1
  have hnt:=hnts (2*i) (by omega)
  obtain ⟨nt,ent⟩:∃ z,z=ndi ts (2*i):=⟨_,rfl⟩
  rw [←ent] at hnt
  have okt:=hnt.ok
  have rdt:=hnt.rd
  refine Qaa (.pointer (some ⟨gtT,otT+(2*i)*99,none⟩)) 16 rfl kj (Qap 23 _ _ .i64 (2*i) gtT otT ts.length c_t 50 99 a_t (hat (by omega)) rfl kj kj kj kj (by omega)) ?_
  refine Qaa (.pointer (some ⟨gtT,otT+(2*i)*99,none⟩)) 17 rfl kj kj ?_
  refine Qaa (.bool nt.n.us) 18 rfl kj (Qak 4 _ _ (.bool nt.n.us) (NdAt.at3 hnt).1 rfl kj kj) ?_
  refine Qaf ?_
  refine hK8 _ _ ?_
  refine Qar (t:=nt.n.us) kj (fun c9=>?_) (fun c9=>?_)
  ·skip
   have hcn:(ndi ts (2*i)).n.us=true:=ent▸c9
   refine wp_seq_k fun K10 hK10=>?_
   refine Qab ?_
   refine Qaa (.bool true) 4 rfl kj kj ?_
   refine Qaf ?_
   refine hK10 _ _ ?_
   refine wp_ret ?_
   repeat (first | with_reducible refine goR1 ?_ | with_reducible refine goR2 ?_)
   exact (show bodyPost _ _ _ .ret _ _ from ret1 (.bool true) rfl (Qaq kj) ⟨congrArg (fun z=>Ending.returned (.bool z)) (QgJ hki h11 hcn).symm,xx1⟩)
  ·skip
   have hcn:(ndi ts (2*i)).n.us=false:=ent▸c9
   refine wp_skip ?_
   refine hK7 _ _ ?_
   refine Qab ?_
   refine Qaa (.int .i64 ((2*i:Nat):Int)) 12 rfl kj kj ?_
   refine Qaa (.int .i64 (((2*(i+1):Nat):Int))) 13 rfl kj (Qai (u:=.int .i64 (IntKind.i64.wrap (((2*i:Nat):Int)+2))) kj (congrArg (Value.int .i64) ((IntWalk.i64_in _ (by omega)).trans (by omega)))) ?_
   refine Qaa (.int .i64 (((2*(i+1):Nat):Int))) 5 rfl kj kj ?_
   refine Qaf ?_
   repeat (first | with_reducible refine goX1 ?_ | with_reducible refine goX2 ?_ | with_reducible refine goX3 ?_)
   exact Qat (i+1) ⟨rfl,rfl,trivial⟩ ⟨(by omega),(by omega),(fun j h1 h2=>by by_cases h3:j=i; (rw [h3]; exact hcn); exact hno j h1 (by omega)),e1,xx1⟩ (by show ts.length-(i+1)<ts.length-i; omega)
 ·skip
  have h11:¬ 2*i<ts.length:=by have:=of_decide_eq_false c6; omega
  refine wp_exit ?_
  refine hK2 _ _ ?_
  refine wp_seq_k fun K11 hK11=>?_
  refine Qab ?_
  refine Qaa (.bool false) 4 rfl kj kj ?_
  refine Qaf ?_
  refine hK11 _ _ ?_
  refine wp_ret ?_
  repeat (first | with_reducible refine goR1 ?_ | with_reducible refine goR2 ?_)
  exact (show bodyPost _ _ _ .ret _ _ from ret1 (.bool false) rfl (Qaq kj) ⟨congrArg (fun z=>Ending.returned (.bool z)) (Qix hno (by omega)).symm,xx1⟩)
end Go.Proofs.YthfkppjajmjpnaaDoor.Te
end
section
namespace Go.Proofs.YthfkppjajmjpnaaDoor.Te
open Go Go.RowKit
open Rely Auto Own Seat Sha
theorem Qcd (m : Int) (hm:i64 m) (v:Int) (h:leaves m=v) (w:World):Calls Tryd.prog 29 #[.int .i64 m] w (Ret w (.int .i64 v)):=(QkO m hm w).mono fun e W h2=>⟨h▸h2.1,h2.2▸Rely.Ext.refl _⟩
theorem QeV (m : Int) (v:Int) (h:QcX m=v) (w:World):Calls Tryd.prog 25 #[.int .i64 m] w (Ret w (.int .i64 v)):=(rleaves m w).mono fun e W h2=>⟨h▸h2.1,h2.2▸Rely.Ext.refl _⟩
set_option maxRecDepth 100000 in
theorem QjC (ts : List NdV) (a_t:Option Addr) (c_t B1:Nat) (w:World) (ht:TrAt B1 w a_t ts) (htl:ts.length≤100000) (L:Nat) (hL:leaves ((ts.length:Nat):Int)=((L:Nat):Int)) (hL2:L≤100000):Calls Tryd.prog 45 #[.slice a_t ts.length c_t] w (Ret w (.bool (anyU ts (L/2)))):=by
 refine enter 21 [(0,.slice a_t ts.length c_t)] Tryd.func45 rfl rfl kj rfl ?_
 refine wp_seq_k fun K1 hK1=>?_
 refine Qab ?_
 refine Qaa (.bool false) 2 rfl kj kj ?_
 refine Qaf ?_
 refine hK1 _ _ ?_
 refine wp_seq_k fun K2 hK2=>?_
 refine wp_seq_k fun K3 hK3=>?_
 refine Qab ?_
 refine Qaa (.slice a_t ts.length c_t) 4 rfl kj kj ?_
 refine Qaa (.int .i64 ((ts.length:Nat):Int)) 5 rfl kj kj ?_
 refine Qal (.int .i64 ((L:Nat):Int)) 29 #[.int .i64 ((ts.length:Nat):Int)] 6 rfl kj kj (Qcd ((ts.length:Nat):Int) ⟨by omega,by omega⟩ _ hL _) fun W1 e1=>?_
 have x1:Ext w W1:=Ext.tr (Rely.Ext.refl w) e1
 refine Qaa (.int .i64 ((L/2:Nat):Int)) 7 rfl kj (Qai (u:=.int .i64 (IntKind.i64.wrap (Int.tdiv (((L:Nat):Int)) (2)))) kj (congrArg (Value.int .i64) (Qb3 _ 2 (by omega)))) ?_
 refine Qaa (.int .i64 ((L/2:Nat):Int)) 3 rfl kj kj ?_
 refine Qaf ?_
 refine hK3 _ _ ?_
 refine wp_block ?_
 refine Qa0 (fun (s1:Nat)=>[(0,.slice a_t ts.length c_t),(3,.int .i64 ((s1:Nat):Int))]) (fun (s1:Nat) W=>(s1≤1000000)∧(L/2≤s1)∧(∀ j,L/2≤j→j<s1→(ndi ts (2*j)).n.us=false)∧(Ext W1 W)∧(Ext w W)) (fun (s1:Nat)=>ts.length-s1) (L/2) ⟨rfl,rfl,trivial⟩ ⟨(by omega),(qR _),(fun j h1 h2=>absurd h2 (by omega)),(Rely.Ext.refl W1),x1⟩ fun s1 X1 V1 hI1=>?_
 obtain ⟨i,hs1⟩:∃ z,z=s1:=⟨_,rfl⟩
 subst hs1
 obtain ⟨hi,hki,hno,kk1,xx1⟩:=hI1
 replace hi:i≤1000000:=hi
 replace hki:L/2≤i:=hki
 replace hno:∀ j,L/2≤j→j<i→(ndi ts (2*j)).n.us=false:=hno
 replace kk1:Ext W1 V1:=kk1
 replace xx1:Ext w V1:=xx1
 have e2:=kk1
 refine wp_seq_k fun K4 hK4=>?_
 refine wp_seq_k fun K5 hK5=>?_
 refine Qab ?_
 refine Qaa (.int .i64 ((i:Nat):Int)) 8 rfl kj kj ?_
 refine Qaa (.int .i64 (((2*i:Nat):Int))) 9 rfl kj (Qai (u:=.int .i64 (IntKind.i64.wrap (2*((i:Nat):Int)))) kj (congrArg (Value.int .i64) ((IntWalk.i64_in _ (by omega)).trans (by omega)))) ?_
 refine Qaa (.slice a_t ts.length c_t) 10 rfl kj kj ?_
 refine Qaa (.int .i64 ((ts.length:Nat):Int)) 11 rfl kj kj ?_
 refine Qaa (.bool (decide (((2*i:Nat):Int)<((ts.length:Nat):Int)))) 12 rfl kj kj ?_
 refine Qaf ?_
 refine hK5 _ _ ?_
 refine Qar (t:=decide (((2*i:Nat):Int)<((ts.length:Nat):Int))) kj (fun c6=>?_) (fun c6=>?_)
 ·skip
  have h11:2*i<ts.length:=by have:=of_decide_eq_true c6; omega
  refine wp_skip ?_
  refine hK4 _ _ ?_
  refine wp_seq_k fun K7 hK7=>?_
  refine wp_block ?_
  refine wp_seq_k fun K8 hK8=>?_
  refine Qab ?_
  refine Qaa (.slice a_t ts.length c_t) 15 rfl kj kj ?_
  refine Qaa (.int .i64 ((i:Nat):Int)) 16 rfl kj kj ?_
  refine Qaa (.int .i64 (((2*i:Nat):Int))) 17 rfl kj (Qai (u:=.int .i64 (IntKind.i64.wrap (2*((i:Nat):Int)))) kj (congrArg (Value.int .i64) ((IntWalk.i64_in _ (by omega)).trans (by omega)))) ?_
  obtain ⟨gtT,otT,hat,hnts⟩:=TrAt.ext ht xx1
  have hnt:=hnts (2*i) (by omega)
  obtain ⟨nt,ent⟩:∃ z,z=ndi ts (2*i):=⟨_,rfl⟩
  rw [←ent] at hnt
  have okt:=hnt.ok
  have rdt:=hnt.rd
  refine Qaa (.pointer (some ⟨gtT,otT+(2*i)*99,none⟩)) 18 rfl kj (Qap 23 _ _ .i64 (2*i) gtT otT ts.length c_t 50 99 a_t (hat (by omega)) rfl kj kj kj kj (by omega)) ?_
  refine Qaa (.pointer (some ⟨gtT,otT+(2*i)*99,none⟩)) 19 rfl kj kj ?_
  refine Qaa (.bool nt.n.us) 20 rfl kj (Qak 4 _ _ (.bool nt.n.us) (NdAt.at3 hnt).1 rfl kj kj) ?_
  refine Qaf ?_
  refine hK8 _ _ ?_
  refine Qar (t:=nt.n.us) kj (fun c9=>?_) (fun c9=>?_)
  ·skip
   have hcn:(ndi ts (2*i)).n.us=true:=ent▸c9
   refine wp_seq_k fun K10 hK10=>?_
   refine Qab ?_
   refine Qaa (.bool true) 2 rfl kj kj ?_
   refine Qaf ?_
   refine hK10 _ _ ?_
   refine wp_ret ?_
   repeat (first | with_reducible refine goR1 ?_ | with_reducible refine goR2 ?_)
   exact (show bodyPost _ _ _ .ret _ _ from ret1 (.bool true) rfl (Qaq kj) ⟨congrArg (fun z=>Ending.returned (.bool z)) (QgJ hki h11 hcn).symm,xx1⟩)
  ·skip
   have hcn:(ndi ts (2*i)).n.us=false:=ent▸c9
   refine wp_skip ?_
   refine hK7 _ _ ?_
   refine Qab ?_
   refine Qaa (.int .i64 ((i:Nat):Int)) 13 rfl kj kj ?_
   refine Qaa (.int .i64 ((i+1:Nat):Int)) 14 rfl kj (Qai (u:=.int .i64 (IntKind.i64.wrap (((i:Nat):Int)+1))) kj (congrArg (Value.int .i64) (i64n _ _ (by omega) (by omega)))) ?_
   refine Qaa (.int .i64 ((i+1:Nat):Int)) 3 rfl kj kj ?_
   refine Qaf ?_
   repeat (first | with_reducible refine goX1 ?_ | with_reducible refine goX2 ?_ | with_reducible refine goX3 ?_)
   exact Qat (i+1) ⟨rfl,rfl,trivial⟩ ⟨(by omega),(by omega),(fun j h1 h2=>by by_cases h3:j=i; (rw [h3]; exact hcn); exact hno j h1 (by omega)),e2,xx1⟩ (by show ts.length-(i+1)<ts.length-i; omega)
 ·skip
  have h11:¬ 2*i<ts.length:=by have:=of_decide_eq_false c6; omega
  refine wp_exit ?_
  refine hK2 _ _ ?_
  refine wp_seq_k fun K11 hK11=>?_
  refine Qab ?_
  refine Qaa (.bool false) 2 rfl kj kj ?_
  refine Qaf ?_
  refine hK11 _ _ ?_
  refine wp_ret ?_
  repeat (first | with_reducible refine goR1 ?_ | with_reducible refine goR2 ?_)
  exact (show bodyPost _ _ _ .ret _ _ from ret1 (.bool false) rfl (Qaq kj) ⟨congrArg (fun z=>Ending.returned (.bool z)) (Qix hno (by omega)).symm,xx1⟩)
end Go.Proofs.YthfkppjajmjpnaaDoor.Te
end
section
namespace Go.Proofs.YthfkppjajmjpnaaDoor.Te
open Go Go.RowKit
open Rely Auto Own Seat Sha
end Go.Proofs.YthfkppjajmjpnaaDoor.Te
end
section
namespace Go.Proofs.YthfkppjajmjpnaaDoor.Te
open Go Go.RowKit
open Rely Auto Own Seat Sha
theorem QkQ (nd : NdV) (hok:NdOk nd.n) (w:World)  : Calls Tryd.prog 33 #[.agg (cat [#[.bool false],#[.int .i64 nd.n.nm],ints .u8 (nd.n.key),ints .u8 (nd.n.sg),ints .u8 (nd.n.pa),#[.slice nd.a nd.n.ms.length nd.c]])] w (Ret w (.bool false)):=by
  refine enter 21 [(0,.agg (cat [#[.bool false],#[.int .i64 nd.n.nm],ints .u8 (nd.n.key),ints .u8 (nd.n.sg),ints .u8 (nd.n.pa),#[.slice nd.a nd.n.ms.length nd.c]]))] Tryd.func33 rfl rfl kj rfl ?_
  refine wp_seq_k fun K1 hK1=>?_
  refine Qab ?_
  refine Qan (cat [#[.bool false],#[.int .i64 nd.n.nm],ints .u8 (nd.n.key),ints .u8 (nd.n.sg),ints .u8 (nd.n.pa),#[.slice nd.a nd.n.ms.length nd.c]]) 50 1 rfl kj kj fun g2 W1 l2 e1 r2_1=>?_
  have x1:Ext w W1:=Ext.tr (Rely.Ext.refl w) e1
  have b2:w.heap.size≤g2:=qT (Rely.Ext.refl w).size l2
  refine Qaa (.bool false) 2 rfl kj kj ?_
  refine Qaf ?_
  refine hK1 _ _ ?_
  refine wp_seq_k fun K3 hK3=>?_
  refine Qab ?_
  refine Qaa (.pointer (some ⟨g2,0,none⟩)) 3 rfl kj kj ?_
  refine Qaa (.bool false) 4 rfl kj (Qag 4 _ g2 0 50 _ (.bool false) _ r2_1 rfl kj (Qaj [] [#[.bool false]] [#[.int .i64 nd.n.nm],ints .u8 (nd.n.key),ints .u8 (nd.n.sg),ints .u8 (nd.n.pa),#[.slice nd.a nd.n.ms.length nd.c]] 0 kj 0 _ rfl) kj) ?_
  refine Qaa (.bool false) 5 rfl kj kj ?_
  refine Qad 6 rfl kj ?_
  refine Qad 7 rfl kj ?_
  refine Qad 8 rfl kj ?_
  refine Qaa (.bool false) 9 rfl kj kj ?_
  refine Qaa (.bool false) 10 rfl kj kj ?_
  refine Qad 11 rfl kj ?_
  refine Qad 12 rfl kj ?_
  refine Qad 13 rfl kj ?_
  refine Qaa (.bool false) 14 rfl kj kj ?_
  refine Qaa (.bool false) 15 rfl kj kj ?_
  refine Qad 16 rfl kj ?_
  refine Qad 17 rfl kj ?_
  refine Qad 18 rfl kj ?_
  refine Qad 19 rfl kj ?_
  refine Qaa (.bool false) 20 rfl kj kj ?_
  refine Qaa (.bool false) 2 rfl kj kj ?_
  refine Qaf ?_
  refine hK3 _ _ ?_
  refine wp_ret ?_
  repeat (first | with_reducible refine goR1 ?_ | with_reducible refine goR2 ?_)
  exact (show bodyPost _ _ _ .ret _ _ from ret1 (.bool false) rfl (Qaq kj) ⟨rfl,x1⟩)
theorem QkS (nd : NdV) (hok:NdOk nd.n) (w:World) (h2:nd.n.nm<0):Calls Tryd.prog 33 #[.agg (cat [#[.bool true],#[.int .i64 nd.n.nm],ints .u8 (nd.n.key),ints .u8 (nd.n.sg),ints .u8 (nd.n.pa),#[.slice nd.a nd.n.ms.length nd.c]])] w (Ret w (.bool false)):=by
  refine enter 21 [(0,.agg (cat [#[.bool true],#[.int .i64 nd.n.nm],ints .u8 (nd.n.key),ints .u8 (nd.n.sg),ints .u8 (nd.n.pa),#[.slice nd.a nd.n.ms.length nd.c]]))] Tryd.func33 rfl rfl kj rfl ?_
  refine wp_seq_k fun K1 hK1=>?_
  refine Qab ?_
  refine Qan (cat [#[.bool true],#[.int .i64 nd.n.nm],ints .u8 (nd.n.key),ints .u8 (nd.n.sg),ints .u8 (nd.n.pa),#[.slice nd.a nd.n.ms.length nd.c]]) 50 1 rfl kj kj fun g2 W1 l2 e1 r2_1=>?_
  have x1:Ext w W1:=Ext.tr (Rely.Ext.refl w) e1
  have b2:w.heap.size≤g2:=qT (Rely.Ext.refl w).size l2
  refine Qaa (.bool false) 2 rfl kj kj ?_
  refine Qaf ?_
  refine hK1 _ _ ?_
  refine wp_seq_k fun K3 hK3=>?_
  refine Qab ?_
  refine Qaa (.pointer (some ⟨g2,0,none⟩)) 3 rfl kj kj ?_
  refine Qaa (.bool true) 4 rfl kj (Qag 4 _ g2 0 50 _ (.bool true) _ r2_1 rfl kj (Qaj [] [#[.bool true]] [#[.int .i64 nd.n.nm],ints .u8 (nd.n.key),ints .u8 (nd.n.sg),ints .u8 (nd.n.pa),#[.slice nd.a nd.n.ms.length nd.c]] 0 kj 0 _ rfl) kj) ?_
  refine Qaa (.bool true) 5 rfl kj kj ?_
  refine Qaa (.pointer (some ⟨g2,1,none⟩)) 6 rfl kj kj ?_
  refine Qaa (.int .i64 nd.n.nm) 7 rfl kj (Qag 3 _ g2 1 50 _ (.int .i64 nd.n.nm) _ r2_1 rfl kj (Qaj [#[.bool true]] [#[.int .i64 nd.n.nm]] [ints .u8 (nd.n.key),ints .u8 (nd.n.sg),ints .u8 (nd.n.pa),#[.slice nd.a nd.n.ms.length nd.c]] 1 kj 0 _ rfl) kj) ?_
  refine Qaa (.bool false) 8 rfl kj (Qai (u:=.bool (decide (nd.n.nm≥0))) kj (congrArg Value.bool (decide_eq_false (by omega)))) ?_
  refine Qaa (.bool false) 9 rfl kj kj ?_
  refine Qaa (.bool false) 10 rfl kj kj ?_
  refine Qad 11 rfl kj ?_
  refine Qad 12 rfl kj ?_
  refine Qad 13 rfl kj ?_
  refine Qaa (.bool false) 14 rfl kj kj ?_
  refine Qaa (.bool false) 15 rfl kj kj ?_
  refine Qad 16 rfl kj ?_
  refine Qad 17 rfl kj ?_
  refine Qad 18 rfl kj ?_
  refine Qad 19 rfl kj ?_
  refine Qaa (.bool false) 20 rfl kj kj ?_
  refine Qaa (.bool false) 2 rfl kj kj ?_
  refine Qaf ?_
  refine hK3 _ _ ?_
  refine wp_ret ?_
  repeat (first | with_reducible refine goR1 ?_ | with_reducible refine goR2 ?_)
  exact (show bodyPost _ _ _ .ret _ _ from ret1 (.bool false) rfl (Qaq kj) ⟨rfl,x1⟩)
theorem QkT (nd : NdV) (hok:NdOk nd.n) (w:World) (h2:0≤nd.n.nm) (h3:255<nd.n.nm):Calls Tryd.prog 33 #[.agg (cat [#[.bool true],#[.int .i64 nd.n.nm],ints .u8 (nd.n.key),ints .u8 (nd.n.sg),ints .u8 (nd.n.pa),#[.slice nd.a nd.n.ms.length nd.c]])] w (Ret w (.bool false)):=by
  refine enter 21 [(0,.agg (cat [#[.bool true],#[.int .i64 nd.n.nm],ints .u8 (nd.n.key),ints .u8 (nd.n.sg),ints .u8 (nd.n.pa),#[.slice nd.a nd.n.ms.length nd.c]]))] Tryd.func33 rfl rfl kj rfl ?_
  refine wp_seq_k fun K1 hK1=>?_
  refine Qab ?_
  refine Qan (cat [#[.bool true],#[.int .i64 nd.n.nm],ints .u8 (nd.n.key),ints .u8 (nd.n.sg),ints .u8 (nd.n.pa),#[.slice nd.a nd.n.ms.length nd.c]]) 50 1 rfl kj kj fun g2 W1 l2 e1 r2_1=>?_
  have x1:Ext w W1:=Ext.tr (Rely.Ext.refl w) e1
  have b2:w.heap.size≤g2:=qT (Rely.Ext.refl w).size l2
  refine Qaa (.bool false) 2 rfl kj kj ?_
  refine Qaf ?_
  refine hK1 _ _ ?_
  refine wp_seq_k fun K3 hK3=>?_
  refine Qab ?_
  refine Qaa (.pointer (some ⟨g2,0,none⟩)) 3 rfl kj kj ?_
  refine Qaa (.bool true) 4 rfl kj (Qag 4 _ g2 0 50 _ (.bool true) _ r2_1 rfl kj (Qaj [] [#[.bool true]] [#[.int .i64 nd.n.nm],ints .u8 (nd.n.key),ints .u8 (nd.n.sg),ints .u8 (nd.n.pa),#[.slice nd.a nd.n.ms.length nd.c]] 0 kj 0 _ rfl) kj) ?_
  refine Qaa (.bool true) 5 rfl kj kj ?_
  refine Qaa (.pointer (some ⟨g2,1,none⟩)) 6 rfl kj kj ?_
  refine Qaa (.int .i64 nd.n.nm) 7 rfl kj (Qag 3 _ g2 1 50 _ (.int .i64 nd.n.nm) _ r2_1 rfl kj (Qaj [#[.bool true]] [#[.int .i64 nd.n.nm]] [ints .u8 (nd.n.key),ints .u8 (nd.n.sg),ints .u8 (nd.n.pa),#[.slice nd.a nd.n.ms.length nd.c]] 1 kj 0 _ rfl) kj) ?_
  refine Qaa (.bool true) 8 rfl kj (Qai (u:=.bool (decide (nd.n.nm≥0))) kj (congrArg Value.bool (decide_eq_true (by omega)))) ?_
  refine Qaa (.bool true) 9 rfl kj kj ?_
  refine Qaa (.bool true) 10 rfl kj kj ?_
  refine Qaa (.pointer (some ⟨g2,1,none⟩)) 11 rfl kj kj ?_
  refine Qaa (.int .i64 nd.n.nm) 12 rfl kj (Qag 3 _ g2 1 50 _ (.int .i64 nd.n.nm) _ r2_1 rfl kj (Qaj [#[.bool true]] [#[.int .i64 nd.n.nm]] [ints .u8 (nd.n.key),ints .u8 (nd.n.sg),ints .u8 (nd.n.pa),#[.slice nd.a nd.n.ms.length nd.c]] 1 kj 0 _ rfl) kj) ?_
  refine Qaa (.bool false) 13 rfl kj (Qai (u:=.bool (decide (nd.n.nm≤255))) kj (congrArg Value.bool (decide_eq_false (by omega)))) ?_
  refine Qaa (.bool false) 14 rfl kj kj ?_
  refine Qaa (.bool false) 15 rfl kj kj ?_
  refine Qad 16 rfl kj ?_
  refine Qad 17 rfl kj ?_
  refine Qad 18 rfl kj ?_
  refine Qad 19 rfl kj ?_
  refine Qaa (.bool false) 20 rfl kj kj ?_
  refine Qaa (.bool false) 2 rfl kj kj ?_
  refine Qaf ?_
  refine hK3 _ _ ?_
  refine wp_ret ?_
  repeat (first | with_reducible refine goR1 ?_ | with_reducible refine goR2 ?_)
  exact (show bodyPost _ _ _ .ret _ _ from ret1 (.bool false) rfl (Qaq kj) ⟨rfl,x1⟩)
theorem QkR (nd : NdV) (hok:NdOk nd.n) (w:World) (h2:0≤nd.n.nm) (h3:nd.n.nm≤255) (h1:nd.n.ms.length≠0):Calls Tryd.prog 33 #[.agg (cat [#[.bool true],#[.int .i64 nd.n.nm],ints .u8 (nd.n.key),ints .u8 (nd.n.sg),ints .u8 (nd.n.pa),#[.slice nd.a nd.n.ms.length nd.c]])] w (Ret w (.bool false)):=by
  refine enter 21 [(0,.agg (cat [#[.bool true],#[.int .i64 nd.n.nm],ints .u8 (nd.n.key),ints .u8 (nd.n.sg),ints .u8 (nd.n.pa),#[.slice nd.a nd.n.ms.length nd.c]]))] Tryd.func33 rfl rfl kj rfl ?_
  refine wp_seq_k fun K1 hK1=>?_
  refine Qab ?_
  refine Qan (cat [#[.bool true],#[.int .i64 nd.n.nm],ints .u8 (nd.n.key),ints .u8 (nd.n.sg),ints .u8 (nd.n.pa),#[.slice nd.a nd.n.ms.length nd.c]]) 50 1 rfl kj kj fun g2 W1 l2 e1 r2_1=>?_
  have x1:Ext w W1:=Ext.tr (Rely.Ext.refl w) e1
  have b2:w.heap.size≤g2:=qT (Rely.Ext.refl w).size l2
  refine Qaa (.bool false) 2 rfl kj kj ?_
  refine Qaf ?_
  refine hK1 _ _ ?_
  refine wp_seq_k fun K3 hK3=>?_
  refine Qab ?_
  refine Qaa (.pointer (some ⟨g2,0,none⟩)) 3 rfl kj kj ?_
  refine Qaa (.bool true) 4 rfl kj (Qag 4 _ g2 0 50 _ (.bool true) _ r2_1 rfl kj (Qaj [] [#[.bool true]] [#[.int .i64 nd.n.nm],ints .u8 (nd.n.key),ints .u8 (nd.n.sg),ints .u8 (nd.n.pa),#[.slice nd.a nd.n.ms.length nd.c]] 0 kj 0 _ rfl) kj) ?_
  refine Qaa (.bool true) 5 rfl kj kj ?_
  refine Qaa (.pointer (some ⟨g2,1,none⟩)) 6 rfl kj kj ?_
  refine Qaa (.int .i64 nd.n.nm) 7 rfl kj (Qag 3 _ g2 1 50 _ (.int .i64 nd.n.nm) _ r2_1 rfl kj (Qaj [#[.bool true]] [#[.int .i64 nd.n.nm]] [ints .u8 (nd.n.key),ints .u8 (nd.n.sg),ints .u8 (nd.n.pa),#[.slice nd.a nd.n.ms.length nd.c]] 1 kj 0 _ rfl) kj) ?_
  refine Qaa (.bool true) 8 rfl kj (Qai (u:=.bool (decide (nd.n.nm≥0))) kj (congrArg Value.bool (decide_eq_true (by omega)))) ?_
  refine Qaa (.bool true) 9 rfl kj kj ?_
  refine Qaa (.bool true) 10 rfl kj kj ?_
  refine Qaa (.pointer (some ⟨g2,1,none⟩)) 11 rfl kj kj ?_
  refine Qaa (.int .i64 nd.n.nm) 12 rfl kj (Qag 3 _ g2 1 50 _ (.int .i64 nd.n.nm) _ r2_1 rfl kj (Qaj [#[.bool true]] [#[.int .i64 nd.n.nm]] [ints .u8 (nd.n.key),ints .u8 (nd.n.sg),ints .u8 (nd.n.pa),#[.slice nd.a nd.n.ms.length nd.c]] 1 kj 0 _ rfl) kj) ?_
  refine Qaa (.bool true) 13 rfl kj (Qai (u:=.bool (decide (nd.n.nm≤255))) kj (congrArg Value.bool (decide_eq_true (by omega)))) ?_
  refine Qaa (.bool true) 14 rfl kj kj ?_
  refine Qaa (.bool true) 15 rfl kj kj ?_
  refine Qaa (.pointer (some ⟨g2,98,none⟩)) 16 rfl kj kj ?_
  refine Qaa (.slice nd.a nd.n.ms.length nd.c) 17 rfl kj (Qag 24 _ g2 98 50 _ (.slice nd.a nd.n.ms.length nd.c) _ r2_1 rfl kj (Qaj [#[.bool true],#[.int .i64 nd.n.nm],ints .u8 (nd.n.key),ints .u8 (nd.n.sg),ints .u8 (nd.n.pa)] [#[.slice nd.a nd.n.ms.length nd.c]] [] 98 (by rw [Qac,Qac,Qac,Qac,Qac]; simp only [qS,cat,((Qae _ _).trans hok.gl),((Qae _ _).trans hok.kl),((Qae _ _).trans hok.pl)]; rfl) 0 _ rfl) kj) ?_
  refine Qaa (.int .i64 ((nd.n.ms.length:Nat):Int)) 18 rfl kj kj ?_
  refine Qaa (.bool false) 19 rfl kj (Qai (u:=.bool ((((nd.n.ms.length:Nat):Int)==0))) kj (congrArg Value.bool (beq_eq_false_iff_ne.2 (by omega)))) ?_
  refine Qaa (.bool false) 20 rfl kj kj ?_
  refine Qaa (.bool false) 2 rfl kj kj ?_
  refine Qaf ?_
  refine hK3 _ _ ?_
  refine wp_ret ?_
  repeat (first | with_reducible refine goR1 ?_ | with_reducible refine goR2 ?_)
  exact (show bodyPost _ _ _ .ret _ _ from ret1 (.bool false) rfl (Qaq kj) ⟨rfl,x1⟩)
theorem QkP (nd : NdV) (hok:NdOk nd.n) (w:World) (h2:0≤nd.n.nm) (h3:nd.n.nm≤255) (h1:nd.n.ms.length=0):Calls Tryd.prog 33 #[.agg (cat [#[.bool true],#[.int .i64 nd.n.nm],ints .u8 (nd.n.key),ints .u8 (nd.n.sg),ints .u8 (nd.n.pa),#[.slice nd.a nd.n.ms.length nd.c]])] w (Ret w (.bool true)):=by
  refine enter 21 [(0,.agg (cat [#[.bool true],#[.int .i64 nd.n.nm],ints .u8 (nd.n.key),ints .u8 (nd.n.sg),ints .u8 (nd.n.pa),#[.slice nd.a nd.n.ms.length nd.c]]))] Tryd.func33 rfl rfl kj rfl ?_
  refine wp_seq_k fun K1 hK1=>?_
  refine Qab ?_
  refine Qan (cat [#[.bool true],#[.int .i64 nd.n.nm],ints .u8 (nd.n.key),ints .u8 (nd.n.sg),ints .u8 (nd.n.pa),#[.slice nd.a nd.n.ms.length nd.c]]) 50 1 rfl kj kj fun g2 W1 l2 e1 r2_1=>?_
  have x1:Ext w W1:=Ext.tr (Rely.Ext.refl w) e1
  have b2:w.heap.size≤g2:=qT (Rely.Ext.refl w).size l2
  refine Qaa (.bool false) 2 rfl kj kj ?_
  refine Qaf ?_
  refine hK1 _ _ ?_
  refine wp_seq_k fun K3 hK3=>?_
  refine Qab ?_
  refine Qaa (.pointer (some ⟨g2,0,none⟩)) 3 rfl kj kj ?_
  refine Qaa (.bool true) 4 rfl kj (Qag 4 _ g2 0 50 _ (.bool true) _ r2_1 rfl kj (Qaj [] [#[.bool true]] [#[.int .i64 nd.n.nm],ints .u8 (nd.n.key),ints .u8 (nd.n.sg),ints .u8 (nd.n.pa),#[.slice nd.a nd.n.ms.length nd.c]] 0 kj 0 _ rfl) kj) ?_
  refine Qaa (.bool true) 5 rfl kj kj ?_
  refine Qaa (.pointer (some ⟨g2,1,none⟩)) 6 rfl kj kj ?_
  refine Qaa (.int .i64 nd.n.nm) 7 rfl kj (Qag 3 _ g2 1 50 _ (.int .i64 nd.n.nm) _ r2_1 rfl kj (Qaj [#[.bool true]] [#[.int .i64 nd.n.nm]] [ints .u8 (nd.n.key),ints .u8 (nd.n.sg),ints .u8 (nd.n.pa),#[.slice nd.a nd.n.ms.length nd.c]] 1 kj 0 _ rfl) kj) ?_
  refine Qaa (.bool true) 8 rfl kj (Qai (u:=.bool (decide (nd.n.nm≥0))) kj (congrArg Value.bool (decide_eq_true (by omega)))) ?_
  refine Qaa (.bool true) 9 rfl kj kj ?_
  refine Qaa (.bool true) 10 rfl kj kj ?_
  refine Qaa (.pointer (some ⟨g2,1,none⟩)) 11 rfl kj kj ?_
  refine Qaa (.int .i64 nd.n.nm) 12 rfl kj (Qag 3 _ g2 1 50 _ (.int .i64 nd.n.nm) _ r2_1 rfl kj (Qaj [#[.bool true]] [#[.int .i64 nd.n.nm]] [ints .u8 (nd.n.key),ints .u8 (nd.n.sg),ints .u8 (nd.n.pa),#[.slice nd.a nd.n.ms.length nd.c]] 1 kj 0 _ rfl) kj) ?_
  refine Qaa (.bool true) 13 rfl kj (Qai (u:=.bool (decide (nd.n.nm≤255))) kj (congrArg Value.bool (decide_eq_true (by omega)))) ?_
  refine Qaa (.bool true) 14 rfl kj kj ?_
  refine Qaa (.bool true) 15 rfl kj kj ?_
  refine Qaa (.pointer (some ⟨g2,98,none⟩)) 16 rfl kj kj ?_
  refine Qaa (.slice nd.a nd.n.ms.length nd.c) 17 rfl kj (Qag 24 _ g2 98 50 _ (.slice nd.a nd.n.ms.length nd.c) _ r2_1 rfl kj (Qaj [#[.bool true],#[.int .i64 nd.n.nm],ints .u8 (nd.n.key),ints .u8 (nd.n.sg),ints .u8 (nd.n.pa)] [#[.slice nd.a nd.n.ms.length nd.c]] [] 98 (by rw [Qac,Qac,Qac,Qac,Qac]; simp only [qS,cat,((Qae _ _).trans hok.gl),((Qae _ _).trans hok.kl),((Qae _ _).trans hok.pl)]; rfl) 0 _ rfl) kj) ?_
  refine Qaa (.int .i64 ((nd.n.ms.length:Nat):Int)) 18 rfl kj kj ?_
  refine Qaa (.bool true) 19 rfl kj (Qai (u:=.bool ((((nd.n.ms.length:Nat):Int)==0))) kj (congrArg Value.bool (beq_iff_eq.2 (by omega)))) ?_
  refine Qaa (.bool true) 20 rfl kj kj ?_
  refine Qaa (.bool true) 2 rfl kj kj ?_
  refine Qaf ?_
  refine hK3 _ _ ?_
  refine wp_ret ?_
  repeat (first | with_reducible refine goR1 ?_ | with_reducible refine goR2 ?_)
  exact (show bodyPost _ _ _ .ret _ _ from ret1 (.bool true) rfl (Qaq kj) ⟨rfl,x1⟩)
theorem QlZ (nd : NdV) (hok:NdOk nd.n) (w:World):Calls Tryd.prog 33 #[.agg (cat (ndP nd))] w (Ret w (.bool (QbJ nd.n))):=by
  unfold QbJ ndP
  cases hu:nd.n.us with
  | false=>exact QkQ nd hok w
  | true =>
    by_cases h2:nd.n.nm<0
    · rw [decide_eq_false (show ¬ 0≤nd.n.nm by omega)]; simp only [Bool.and_false,Bool.false_and]; exact QkS nd hok w h2
    · by_cases h3:255<nd.n.nm
      · rw [decide_eq_false (show ¬ nd.n.nm≤255 by omega)]; simp only [Bool.and_false]; exact QkT nd hok w (by omega) h3
      · rw [decide_eq_true (show 0≤nd.n.nm by omega),decide_eq_true (show nd.n.nm≤255 by omega)]
        by_cases h1:nd.n.ms.length=0
        · rw [beq_iff_eq.2 h1]; exact QkP nd hok w (by omega) (by omega) h1
        · rw [beq_eq_false_iff_ne.2 h1]; exact QkR nd hok w (by omega) (by omega) h1
end Go.Proofs.YthfkppjajmjpnaaDoor.Te
end
section
namespace Go.Proofs.YthfkppjajmjpnaaDoor.Te
open Go Go.RowKit
open Rely Auto Own Seat Sha
theorem QhK {xs : List Int} {n:Int} {i:Nat} (h:i<xs.length) (e:nth xs i=n):n∈xs:=by
  rw [←e,show nth xs i=xs[i] by simp [nth,List.getElem?_eq_getElem h]]
  exact List.getElem_mem h
theorem QkK {xs : List Int} {n:Int} (h:n∈xs):∃ i,i<xs.length∧nth xs i=n:=by
  obtain ⟨i,hi,e⟩:=List.getElem_of_mem h
  exact ⟨i,hi,by rw [show nth xs i=xs[i] by simp [nth,List.getElem?_eq_getElem hi]]; exact e⟩
theorem QhL {xs : List Int} {n:Int} {i:Nat} (hi:i=xs.length) (h:∀ j,j<i→nth xs j≠n):n∉xs:=fun hm=>by
  obtain ⟨j,hj,e⟩:=QkK hm
  exact h j (hi▸hj) e
theorem inR (xs : List Int) (n:Int) (a_x:Option Addr) (c_x B1:Nat) (w:World) (hxl:xs.length≤1000000) (hx:RdK .i64 B1 xs (.slice a_x xs.length c_x) w):Calls Tryd.prog 41 #[.int .i64 n,.slice a_x xs.length c_x] w (Ret w (.bool (decide (n∈xs)))):=by
 refine enter 18 [(0,.int .i64 n),(1,.slice a_x xs.length c_x)] Tryd.func41 rfl rfl kj rfl ?_
 refine wp_seq_k fun K1 hK1=>?_
 refine Qab ?_
 refine Qaa (.bool false) 4 rfl kj kj ?_
 refine Qaf ?_
 refine hK1 _ _ ?_
 refine wp_seq_k fun K2 hK2=>?_
 refine wp_seq_k fun K3 hK3=>?_
 refine Qab ?_
 refine Qaa (.int .i64 0) 5 rfl kj kj ?_
 refine Qaf ?_
 refine hK3 _ _ ?_
 refine wp_block ?_
 refine Qa0 (fun (s1:Nat)=>[(0,.int .i64 n),(1,.slice a_x xs.length c_x),(5,.int .i64 ((s1:Nat):Int))]) (fun (s1:Nat) W=>(s1≤xs.length)∧(∀ j,j<s1→nth xs j≠n)∧(Ext w W)∧(Ext w W)) (fun (s1:Nat)=>xs.length-s1) 0 ⟨rfl,rfl,rfl,trivial⟩ ⟨(Nat.zero_le _),(fun j h=>absurd h (Nat.not_lt_zero j)),(Rely.Ext.refl w),(Rely.Ext.refl w)⟩ fun s1 X1 V1 hI1=>?_
 obtain ⟨i,hs1⟩:∃ z,z=s1:=⟨_,rfl⟩
 subst hs1
 obtain ⟨hi,hno,kk1,xx1⟩:=hI1
 replace hi:i≤xs.length:=hi
 replace hno:∀ j,j<i→nth xs j≠n:=hno
 replace kk1:Ext w V1:=kk1
 replace xx1:Ext w V1:=xx1
 have e1:=kk1
 refine wp_seq_k fun K4 hK4=>?_
 refine wp_seq_k fun K5 hK5=>?_
 refine Qab ?_
 refine Qaa (.int .i64 ((i:Nat):Int)) 6 rfl kj kj ?_
 refine Qaa (.slice a_x xs.length c_x) 7 rfl kj kj ?_
 refine Qaa (.int .i64 ((xs.length:Nat):Int)) 8 rfl kj kj ?_
 refine Qaa (.bool (decide (((i:Nat):Int)<((xs.length:Nat):Int)))) 9 rfl kj kj ?_
 refine Qaf ?_
 refine hK5 _ _ ?_
 refine Qar (t:=decide (((i:Nat):Int)<((xs.length:Nat):Int))) kj (fun c6=>?_) (fun c6=>?_)
 ·skip
  have hlt9:i<xs.length:=by have:=of_decide_eq_true c6; omega
  refine wp_skip ?_
  refine hK4 _ _ ?_
  refine wp_seq_k fun K7 hK7=>?_
  refine wp_block ?_
  refine wp_seq_k fun K8 hK8=>?_
  refine Qab ?_
  refine Qaa (.slice a_x xs.length c_x) 12 rfl kj kj ?_
  refine Qaa (.int .i64 ((i:Nat):Int)) 13 rfl kj kj ?_
  have hnx_9:(xs).length=xs.length:=rfl
  obtain ⟨gcx_9,ocx_9,hax_9,hlx_9,hcx_9⟩:=QaY (RdK.here (RdK.ext hx xx1)) (by rw [hnx_9]; omega)
  refine Qaa (.pointer (some ⟨gcx_9,ocx_9+i,none⟩)) 14 rfl kj (Qa6 24 _ _ .i64 i gcx_9 ocx_9 xs.length c_x 3 a_x _ hax_9 rfl rfl kj kj kj kj (Nat.lt_of_lt_of_eq (show i<xs.length by omega) hnx_9.symm)) ?_
  refine Qaa (.int .i64 (nth (xs) (i))) 15 rfl kj (Qak 3 _ _ (.int .i64 (nth (xs) (i))) (hcx_9 i (Nat.lt_of_lt_of_eq (show i<xs.length by omega) hnx_9.symm)) rfl kj kj) ?_
  refine Qaa (.int .i64 n) 16 rfl kj kj ?_
  refine Qaa (.bool (((nth (xs) (i))==n))) 17 rfl kj kj ?_
  refine Qaf ?_
  refine hK8 _ _ ?_
  refine Qar (t:=((nth (xs) (i))==n)) kj (fun c10=>?_) (fun c10=>?_)
  ·skip
   have hcn:nth xs i=n:=((beq_iff_eq.1 c10))
   refine wp_seq_k fun K11 hK11=>?_
   refine Qab ?_
   refine Qaa (.bool true) 4 rfl kj kj ?_
   refine Qaf ?_
   refine hK11 _ _ ?_
   refine wp_ret ?_
   repeat (first | with_reducible refine goR1 ?_ | with_reducible refine goR2 ?_)
   exact (show bodyPost _ _ _ .ret _ _ from ret1 (.bool true) rfl (Qaq kj) ⟨congrArg (fun z=>Ending.returned (.bool z)) (decide_eq_true (QhK hlt9 hcn)).symm,xx1⟩)
  ·skip
   have hcn:nth xs i≠n:=(fun e=>(beq_eq_false_iff_ne.1 c10) e)
   refine wp_skip ?_
   refine hK7 _ _ ?_
   refine Qab ?_
   refine Qaa (.int .i64 ((i:Nat):Int)) 10 rfl kj kj ?_
   refine Qaa (.int .i64 ((i+1:Nat):Int)) 11 rfl kj (Qai (u:=.int .i64 (IntKind.i64.wrap (((i:Nat):Int)+1))) kj (congrArg (Value.int .i64) (i64n _ _ (by omega) (by omega)))) ?_
   refine Qaa (.int .i64 ((i+1:Nat):Int)) 5 rfl kj kj ?_
   refine Qaf ?_
   repeat (first | with_reducible refine goX1 ?_ | with_reducible refine goX2 ?_ | with_reducible refine goX3 ?_)
   exact Qat (i+1) ⟨rfl,rfl,rfl,trivial⟩ ⟨(by omega),(fun j hj=>by by_cases hji:j=i; (rw [hji]; exact hcn); exact hno j (by omega)),e1,xx1⟩ (by show xs.length-(i+1)<xs.length-i; omega)
 ·skip
  have heq9:i=xs.length:=by have:=of_decide_eq_false c6; omega
  refine wp_exit ?_
  refine hK2 _ _ ?_
  refine wp_seq_k fun K12 hK12=>?_
  refine Qab ?_
  refine Qaa (.bool false) 4 rfl kj kj ?_
  refine Qaf ?_
  refine hK12 _ _ ?_
  refine wp_ret ?_
  repeat (first | with_reducible refine goR1 ?_ | with_reducible refine goR2 ?_)
  exact (show bodyPost _ _ _ .ret _ _ from ret1 (.bool false) rfl (Qaq kj) ⟨congrArg (fun z=>Ending.returned (.bool z)) (decide_eq_false (QhL heq9 hno)).symm,xx1⟩)
theorem Qmb (xs : List Int) (n:Int) (a_x:Option Addr) (c_x B1:Nat) (w:World) (hxl:xs.length≤1000000) (hx:RdK .i64 B1 xs (.slice a_x xs.length c_x) w):Calls Tryd.prog 66 #[.slice a_x xs.length c_x,.int .i64 n] w (QbK w (fun v W=>∃ r:Int,v=.int .i64 r∧(0≤r↔n∈xs))):=by
 refine enter 19 [(0,.slice a_x xs.length c_x),(1,.int .i64 n)] Tryd.func66 rfl rfl kj rfl ?_
 refine wp_seq_k fun K1 hK1=>?_
 refine Qab ?_
 refine Qaa (.int .i64 0) 4 rfl kj kj ?_
 refine Qaf ?_
 refine hK1 _ _ ?_
 refine wp_seq_k fun K2 hK2=>?_
 refine wp_seq_k fun K3 hK3=>?_
 refine Qab ?_
 refine Qaa (.slice a_x xs.length c_x) 6 rfl kj kj ?_
 refine Qaa (.int .i64 ((xs.length:Nat):Int)) 7 rfl kj kj ?_
 refine Qaa (.int .i64 0) 8 rfl kj kj ?_
 refine Qaf ?_
 refine hK3 _ _ ?_
 refine wp_block ?_
 refine Qa0 (fun (s1:Nat)=>[(0,.slice a_x xs.length c_x),(1,.int .i64 n),(7,.int .i64 ((xs.length:Nat):Int)),(8,.int .i64 ((s1:Nat):Int))]) (fun (s1:Nat) W=>(s1≤xs.length)∧(∀ j,j<s1→nth xs j≠n)∧(Ext w W)∧(Ext w W)) (fun (s1:Nat)=>xs.length-s1) 0 ⟨rfl,rfl,rfl,rfl,trivial⟩ ⟨(Nat.zero_le _),(fun j h=>absurd h (Nat.not_lt_zero j)),(Rely.Ext.refl w),(Rely.Ext.refl w)⟩ fun s1 X1 V1 hI1=>?_
 obtain ⟨i,hs1⟩:∃ z,z=s1:=⟨_,rfl⟩
 subst hs1
 obtain ⟨hi,hno,kk1,xx1⟩:=hI1
 replace hi:i≤xs.length:=hi
 replace hno:∀ j,j<i→nth xs j≠n:=hno
 replace kk1:Ext w V1:=kk1
 replace xx1:Ext w V1:=xx1
 have e1:=kk1
 refine wp_seq_k fun K4 hK4=>?_
 refine Qab ?_
 refine Qaa (.bool (decide (((i:Nat):Int)<((xs.length:Nat):Int)))) 9 rfl kj kj ?_
 refine Qaf ?_
 refine hK4 _ _ ?_
 refine wp_seq_k fun K5 hK5=>?_
 refine Qar (t:=decide (((i:Nat):Int)<((xs.length:Nat):Int))) kj (fun c6=>?_) (fun c6=>?_)
 ·skip
  have hlt9:i<xs.length:=by have:=of_decide_eq_true c6; omega
  refine wp_skip ?_
  refine hK5 _ _ ?_
  refine wp_seq_k fun K7 hK7=>?_
  refine wp_block ?_
  refine wp_seq_k fun K8 hK8=>?_
  refine Qab ?_
  refine Qaa (.int .i64 ((i:Nat):Int)) 10 rfl kj kj ?_
  refine Qaa (.int .i64 ((i:Nat):Int)) 5 rfl kj kj ?_
  refine Qaf ?_
  refine hK8 _ _ ?_
  refine wp_seq_k fun K9 hK9=>?_
  refine Qab ?_
  refine Qaa (.int .i64 n) 11 rfl kj kj ?_
  refine Qaa (.slice a_x xs.length c_x) 12 rfl kj kj ?_
  refine Qaa (.int .i64 ((i:Nat):Int)) 13 rfl kj kj ?_
  have hnx_10:(xs).length=xs.length:=rfl
  obtain ⟨gcx_10,ocx_10,hax_10,hlx_10,hcx_10⟩:=QaY (RdK.here (RdK.ext hx xx1)) (by rw [hnx_10]; omega)
  refine Qaa (.pointer (some ⟨gcx_10,ocx_10+i,none⟩)) 14 rfl kj (Qa6 24 _ _ .i64 i gcx_10 ocx_10 xs.length c_x 3 a_x _ hax_10 rfl rfl kj kj kj kj (Nat.lt_of_lt_of_eq (show i<xs.length by omega) hnx_10.symm)) ?_
  refine Qaa (.int .i64 (nth (xs) (i))) 15 rfl kj (Qak 3 _ _ (.int .i64 (nth (xs) (i))) (hcx_10 i (Nat.lt_of_lt_of_eq (show i<xs.length by omega) hnx_10.symm)) rfl kj kj) ?_
  refine Qaa (.bool ((n==(nth (xs) (i))))) 16 rfl kj kj ?_
  refine Qaf ?_
  refine hK9 _ _ ?_
  refine Qar (t:=(n==(nth (xs) (i)))) kj (fun c11=>?_) (fun c11=>?_)
  ·skip
   have hcn:nth xs i=n:=(Eq.symm (beq_iff_eq.1 c11))
   refine wp_seq_k fun K12 hK12=>?_
   refine Qab ?_
   refine Qaa (.int .i64 ((i:Nat):Int)) 17 rfl kj kj ?_
   refine Qaa (.int .i64 ((i:Nat):Int)) 4 rfl kj kj ?_
   refine Qaf ?_
   refine hK12 _ _ ?_
   refine wp_ret ?_
   repeat (first | with_reducible refine goR1 ?_ | with_reducible refine goR2 ?_)
   exact (show bodyPost _ _ _ .ret _ _ from ret1 (.int .i64 ((i:Nat):Int)) rfl (Qaq kj) ⟨_,rfl,xx1,_,rfl,⟨fun _=>QhK hlt9 hcn,fun _=>Int.natCast_nonneg _⟩⟩)
  ·skip
   have hcn:nth xs i≠n:=(fun e=>(beq_eq_false_iff_ne.1 c11) e.symm)
   refine wp_skip ?_
   refine hK7 _ _ ?_
   refine Qab ?_
   refine Qaa (.int .i64 ((i+1:Nat):Int)) 18 rfl kj (Qai (u:=.int .i64 (IntKind.i64.wrap (((i:Nat):Int)+1))) kj (congrArg (Value.int .i64) (i64n _ _ (by omega) (by omega)))) ?_
   refine Qaa (.int .i64 ((i+1:Nat):Int)) 8 rfl kj kj ?_
   refine Qaf ?_
   repeat (first | with_reducible refine goX1 ?_ | with_reducible refine goX2 ?_ | with_reducible refine goX3 ?_)
   exact Qat (i+1) ⟨rfl,rfl,rfl,rfl,trivial⟩ ⟨(by omega),(fun j hj=>by by_cases hji:j=i; (rw [hji]; exact hcn); exact hno j (by omega)),e1,xx1⟩ (by show xs.length-(i+1)<xs.length-i; omega)
 ·skip
  have heq9:i=xs.length:=by have:=of_decide_eq_false c6; omega
  refine wp_exit ?_
  refine hK2 _ _ ?_
  refine wp_seq_k fun K13 hK13=>?_
  refine Qab ?_
  refine Qaa (.int .i64 (-1)) 4 rfl kj kj ?_
  refine Qaf ?_
  refine hK13 _ _ ?_
  refine wp_ret ?_
  repeat (first | with_reducible refine goR1 ?_ | with_reducible refine goR2 ?_)
  exact (show bodyPost _ _ _ .ret _ _ from ret1 (.int .i64 (-1)) rfl (Qaq kj) ⟨_,rfl,xx1,_,rfl,⟨fun h=>absurd h (by decide),fun h=>absurd h (QhL heq9 hno)⟩⟩)
end Go.Proofs.YthfkppjajmjpnaaDoor.Te
end
section
namespace Go.Proofs.YthfkppjajmjpnaaDoor.Te
open Go Go.RowKit
open Rely Auto Own Seat Sha
theorem QfI (xs : List Int) (n:Int) (a_x:Option Addr) (c_x B1:Nat) (w:World) (hxl:xs.length≤1000000) (hx:RdK .i64 B1 xs (.slice a_x xs.length c_x) w):Calls Tryd.prog 48 #[.slice a_x xs.length c_x,.int .i64 n] w (Ret w (.bool (decide (n∈xs)))):=by
  refine enter 9 [(0,.slice a_x xs.length c_x),(1,.int .i64 n)] Tryd.func48 rfl rfl kj rfl ?_
  refine wp_seq_k fun K1 hK1=>?_
  refine Qab ?_
  refine Qaa (.bool false) 4 rfl kj kj ?_
  refine Qaf ?_
  refine hK1 _ _ ?_
  refine wp_seq_k fun K2 hK2=>?_
  refine Qab ?_
  refine Qaa (.slice a_x xs.length c_x) 5 rfl kj kj ?_
  refine Qaa (.int .i64 n) 6 rfl kj kj ?_
  refine Qa1 (fun v W'=>(fun v W=>∃ r:Int,v=.int .i64 r∧(0≤r↔n∈xs)) v W'∧Ext w W') 66 #[.slice a_x xs.length c_x,.int .i64 n] 7 rfl kj kj ((Qmb xs n a_x c_x _ _ hxl (RdK.here (RdK.ext hx (Rely.Ext.refl w)))).mono (by rintro e w' ⟨v,rfl,e1,hv⟩; exact ⟨v,rfl,hv,e1⟩)) fun vv3 W1 hh3=>?_
  obtain ⟨hv3,e1⟩:=hh3
  have x1:Ext w W1:=Ext.tr (Rely.Ext.refl w) e1
  obtain ⟨r,rfl,hr⟩:=hv3
  refine Qaa (.bool (decide (r≥0))) 8 rfl kj kj ?_
  refine Qaa (.bool (decide (r≥0))) 4 rfl kj kj ?_
  refine Qaf ?_
  refine hK2 _ _ ?_
  refine wp_ret ?_
  repeat (first | with_reducible refine goR1 ?_ | with_reducible refine goR2 ?_)
  exact (show bodyPost _ _ _ .ret _ _ from ret1 (.bool (decide (r≥0))) rfl (Qaq kj) ⟨congrArg (fun z=>Ending.returned (.bool z)) (decide_eq_decide.2 hr),x1⟩)
end Go.Proofs.YthfkppjajmjpnaaDoor.Te
end
section
namespace Go.Proofs.YthfkppjajmjpnaaDoor.Auto
open Go Go.RowKit
open Rely
structure MpW (es : Array MapEntry) (clock : Nat) (m : List (Int × Value)) : Prop where
  ents:es.toList.map (fun e=>(e.key,e.val))=m.map fun p=>(Value.int .i64 p.1,p.2)
  nod:(m.map Prod.fst).Nodup
  born:(es.toList.map (·.born)).Nodup
  old:∀ e∈es.toList,e.born<clock
def MpAt (g : Nat) (m:List (Int×Value)) (W:World):Prop:=∃ es clock,W.heap[g]? = some (.map es clock)∧MpW es clock m
def mget (m : List (Int×Value)) (k:Int) (z:Value):Value:=((m.find? fun p=>p.1==k).map Prod.snd).getD z
theorem QkI (c : Nat):MpW #[] c []:=⟨rfl,List.nodup_nil,List.nodup_nil,fun e h=>by cases h⟩
theorem MpAt.lt {g : Nat} {m:List (Int×Value)} {W:World} (h:MpAt g m W):g<W.heap.size:=by obtain ⟨es,c,h1,-⟩:=h; exact Qa5 h1
theorem MpAt.keep {g : Nat} {m:List (Int×Value)} {W W':World} (h:MpAt g m W) (e:W'.heap[g]? = W.heap[g]?):MpAt g m W':=by obtain ⟨es,c,h1,h2⟩:=h; exact ⟨es,c,e.trans h1,h2⟩
theorem MpAt.ext {g : Nat} {m:List (Int×Value)} {W W':World} (h:MpAt g m W) (e:Ext W W'):MpAt g m W':=h.keep (e.block g h.lt)
theorem MpAt.ne {g k:Nat} {m:List (Int×Value)} {W:World} {cs:Array Value} {T:TypeId} {fr:Nat×Nat} (h:MpAt g m W) (r:W.heap[k]? = some (.cells cs T fr)):k≠g:=fun e=>by
  obtain ⟨es,c,h1,-⟩:=h
  rw [e,h1] at r
  cases r
theorem MpAt.puts {g k:Nat} {m:List (Int×Value)} {W W':World} (h:MpAt g m W) (p:Puts W k W') (hn:g≠k):MpAt g m W':=h.keep (p.2.2.2.2 g hn)
theorem Qc0 (k : Int):∀ (es:List MapEntry) (m:List (Int×Value)) (i:Nat),es.map (fun e=>(e.key,e.val))=m.map (fun p=>(Value.int .i64 p.1,p.2)) →
    (Instr.findNow (.int .i64) (.int .i64 k) es i=some none∧m.find? (fun p=>p.1==k)=none∧∀ e∈es,e.key≠.int .i64 k)∨∃ j v e,Instr.findNow (.int .i64) (.int .i64 k) es i=some (some (i+j,v))∧m.find? (fun p=>p.1==k)=some (k,v)∧es[j]? = some e∧e.key=.int .i64 k
  | [],[],i,_=>.inl ⟨rfl,rfl,fun e h=>by cases h⟩
  | [],_::_,i,h=>by cases h
  | _::_,[],i,h=>by cases h
  | e::es,p::m,i,h=>by
    simp only [List.map_cons,List.cons.injEq,Prod.mk.injEq] at h
    obtain ⟨⟨h1,h2⟩,h3⟩:=h
    have hs:Instr.sameNow (.int .i64) (.int .i64 k) e.key=some (k==p.1):=by rw [h1]; simp [Instr.sameNow]
    by_cases hk:p.1=k
    · right
      refine ⟨0,p.2,e,?_,?_,rfl,by rw [h1,hk]⟩
      · rw [Instr.findNow,hs,hk,beq_self_eq_true,h2]; rfl
      · rw [List.find?_cons_of_pos (by simp [hk])]; congr 1; exact Prod.ext hk rfl
    · have hs':Instr.sameNow (.int .i64) (.int .i64 k) e.key=some false:=by rw [hs]; congr 1; simp; exact fun q=>hk q.symm
      rcases Qc0 k es m (i+1) h3 with ⟨q1,q2,q3⟩ | ⟨j,v,e',q1,q2,q3,q4⟩
      · left
        refine ⟨by rw [Instr.findNow,hs']; exact q1,by rw [List.find?_cons_of_neg (by simp [hk])]; exact q2,fun x hx=>?_⟩
        rcases List.mem_cons.1 hx with rfl | hx
        · rw [h1]; exact fun q=>hk (by injection q)
        · exact q3 x hx
      · right
        exact ⟨j+1,v,e',by rw [Instr.findNow,hs']; show Instr.findNow _ _ es (i+1)=_; rw [q1,show i+1+j=i+(j+1) by omega],by rw [List.find?_cons_of_neg (by simp [hk])]; exact q2,by rw [List.getElem?_cons_succ]; exact q3,q4⟩
section
variable {P : Program} {ρ : Operand → Value} {o : Oper} {w : World}
theorem Qdi (t : TypeId) (m k:Operand) {kt et:TypeId} {g:Nat} {n:Int} {ms:List (Int×Value)} {z:Value} (ho:o.op=.lookup t m k false) (hm:ρ m=.map (some g)) (hk:ρ k=.int .i64 n)
    (ht:P.underlying t=some (.map kt et)) (hkt:P.underlying kt=some (.int .i64)) (h:MpAt g ms w) (hz:(zeroValue et).run P w=.ok z w):(execOp ρ o).run P w=.ok (.value (mget ms n z)) w:=by
  obtain ⟨es,c,hg,hM⟩:=h
  have hl:(Instr.lookup t (.map (some g)) (.int .i64 n) false).run P w=.ok (mget ms n z) w:=by
    unfold Instr.lookup
    rw [Sem.run_bind,run_underlying ht]
    show ((getObj g >>= _) >>= _:Sem Value).run P w=_
    rw [Sem.run_bind,Sem.run_bind,MapKept.run_getObj_map hg]
    show ((Instr.checkKey es.isEmpty 10000 kt (.int .i64 n)) >>= _:Sem Value).run P w=_
    rw [Sem.run_bind,MapKept.run_checkKey hkt (by simp [MapKept.IsKey])]
    rcases Qc0 n es.toList ms 0 hM.ents with ⟨q1,q2,-⟩ | ⟨j,v,e,q1,q2,-,-⟩
    · have hf:=MapKept.run_findKey (P:=P) (w:=w) hkt q1
      unfold mget
      rw [q2]
      simp [Sem.run_bind,hf,Result.andThen,hz]
    · have hf:=MapKept.run_findKey (P:=P) (w:=w) hkt q1
      unfold mget
      rw [q2]
      simp [Sem.run_bind,hf,Result.andThen]
  unfold execOp
  simp only [ho,hm,hk,Sem.run_bind,hl,Result.andThen_ok,Sem.run_pure]
theorem QiY {es : Array MapEntry} {c:Nat} {m:List (Int×Value)} (h:MpW es c m) {n:Int} {v:Value} (hn:n∉m.map Prod.fst):MpW (es.push { key:=.int .i64 n,val:=v,born:=c }) (c+1) (m++[(n,v)]):=by
  refine ⟨?_,?_,?_,?_⟩
  · rw [Array.toList_push,List.map_append,h.ents,List.map_append]; rfl
  · rw [List.map_append]
    refine List.nodup_append.2 ⟨h.nod,(List.nodup_cons.2 ⟨List.not_mem_nil,List.nodup_nil⟩),fun a ha b hb=>?_⟩
    rw [List.map_singleton,List.mem_singleton] at hb
    subst hb
    exact fun q=>hn (q▸ha)
  · rw [Array.toList_push,List.map_append]
    refine List.nodup_append.2 ⟨h.born,(List.nodup_cons.2 ⟨List.not_mem_nil,List.nodup_nil⟩),fun a ha b hb=>?_⟩
    obtain ⟨e,he,rfl⟩:=List.mem_map.1 ha
    rw [List.map_singleton,List.mem_singleton] at hb
    subst hb
    exact Nat.ne_of_lt (h.old e he)
  · intro e he
    rw [Array.toList_push,List.mem_append,List.mem_singleton] at he
    rcases he with he | rfl
    · exact Nat.lt_succ_of_lt (h.old e he)
    · exact Nat.lt_succ_self _
theorem QkF {m : List (Int×Value)} {n:Int} (h:n∉m.map Prod.fst):m.find? (fun p=>p.1==n)=none:=by
  rw [List.find?_eq_none]
  intro p hp q
  exact h (List.mem_map.2 ⟨p,hp,by simpa using q⟩)
theorem QiJ (t : TypeId) (m k x:Operand) {kt et:TypeId} {g:Nat} {n:Int} {ms:List (Int×Value)} {v:Value} (ho:o.op=.mapUpdate t m k x) (hm:ρ m=.map (some g)) (hk:ρ k=.int .i64 n) (hx:ρ x=v)
    (ht:P.underlying t=some (.map kt et)) (hkt:P.underlying kt=some (.int .i64)) (h:MpAt g ms w) (hn:n∉ms.map Prod.fst):∃ W',(execOp ρ o).run P w=.ok .skip W'∧Puts w g W'∧MpAt g (ms++[(n,v)]) W':=by
  obtain ⟨es,c,hg,hM⟩:=h
  rcases Qc0 n es.toList ms 0 hM.ents with ⟨q1,-,-⟩ | ⟨j,u,e,q1,q2,-,-⟩
  · have hf:=MapKept.run_findKey (P:=P) (w:=w) hkt q1
    have hi:(Instr.mapUpdate t (.map (some g)) (.int .i64 n) v).run P w=.ok () { w with heap:=w.heap.setIfInBounds g (.map (es.push { key:=.int .i64 n,val:=v,born:=c }) (c+1)) }:=by
      unfold Instr.mapUpdate
      rw [Sem.run_bind,run_underlying ht]
      show ((getObj g) >>= _:Sem Unit).run P w=_
      rw [Sem.run_bind,MapKept.run_getObj_map hg]
      show ((Instr.checkKey false 10000 kt (.int .i64 n)) >>= _:Sem Unit).run P w=_
      rw [Sem.run_bind,MapKept.run_checkKey hkt (by simp [MapKept.IsKey])]
      show ((Instr.findKey kt (.int .i64 n) es.toList) >>= _:Sem Unit).run P w=_
      rw [Sem.run_bind,hf]
      exact MapKept.run_setObj_map _ hg
    have hh:=MapKept.heap_set (o':=.map (es.push { key:=.int .i64 n,val:=v,born:=c }) (c+1)) hg
    refine ⟨{ w with heap:=w.heap.setIfInBounds g (.map (es.push { key:=.int .i64 n,val:=v,born:=c }) (c+1)) },?_,⟨rfl,rfl,rfl,by simp,fun i hi=>hh.2 i hi⟩,_,_,hh.1,QiY hM hn⟩
    unfold execOp
    rw [ho]
    show ((Instr.mapUpdate t (ρ m) (ρ k) (ρ x)) >>= _).run P w=_
    rw [hm,hk,hx,Sem.run_bind,hi]
    rfl
  · rw [QkF hn] at q2; cases q2
theorem Qfc {α β:Type} (f:α→β) (p:β→Bool):∀ l:List α,(l.map f).filter p=(l.filter fun x=>p (f x)).map f
  | []=>rfl
  | x::l=>by
    rw [List.map_cons,List.filter_cons,List.filter_cons,Qfc f p l]
    split <;> rfl
theorem QgZ {es : Array MapEntry} {c:Nat} {m:List (Int×Value)} (h:MpW es c m) (q:Int→Bool) (es':Array MapEntry) (he:es'.toList=es.toList.filter fun e=>match e.key with | .int _ n=>q n | _=>true):MpW es' c (m.filter fun p=>q p.1):=by
  refine ⟨?_,?_,?_,?_⟩
  · rw [he]
    have e1:=Qfc (fun e:MapEntry=>(e.key,e.val)) (fun x=>match x.1 with | .int _ n=>q n | _=>true) es.toList
    have e2:=Qfc (fun p:Int×Value=>(Value.int .i64 p.1,p.2)) (fun x=>match x.1 with | .int _ n=>q n | _=>true) m
    rw [←e1,h.ents,e2]
  · exact h.nod.sublist ((List.filter_sublist).map _)
  · rw [he]; exact h.born.sublist ((List.filter_sublist).map _)
  · intro e hm; rw [he] at hm; exact h.old e (List.mem_filter.1 hm).1
def nk (n : Int) (e:MapEntry):Bool:=match e.key with | .int _ x=>x != n | _=>true
theorem QfA {n x:Int} {e:MapEntry} (h:e.key=.int .i64 x):nk n e=(x != n):=by unfold nk; rw [h]
theorem QdD {n : Int}:∀ (l:List MapEntry) (j:Nat) (e:MapEntry),(l.map (·.key)).Nodup→(∀ x∈l,∃ a,x.key=Value.int .i64 a)→l[j]? = some e→e.key=.int .i64 n→l.eraseIdx j=l.filter (nk n)
  | [],_,_,_,_,h,_=>by simp at h
  | x::l,0,e,hn,hi,h,hk=>by
    simp only [List.getElem?_cons_zero,Option.some.injEq] at h
    subst h
    rw [List.eraseIdx_cons_zero,List.filter_cons_of_neg (by rw [QfA hk]; simp)]
    rw [List.map_cons,List.nodup_cons] at hn
    refine (List.filter_eq_self.2 fun y hy=>?_).symm
    obtain ⟨a,ha⟩:=hi y (List.mem_cons_of_mem _ hy)
    rw [QfA ha]
    simp only [bne_iff_ne,ne_eq]
    exact fun q=>hn.1 (by rw [hk,←q,←ha]; exact List.mem_map_of_mem (f:=fun e:MapEntry=>e.key) hy)
  | x::l,j+1,e,hn,hi,h,hk=>by
    rw [List.getElem?_cons_succ] at h
    rw [List.map_cons,List.nodup_cons] at hn
    obtain ⟨a,ha⟩:=hi x (List.mem_cons_self ..)
    have hx:nk n x=true:=by
      rw [QfA ha]
      simp only [bne_iff_ne,ne_eq]
      exact fun q=>hn.1 (by rw [ha,q,←hk]; exact List.mem_map_of_mem (f:=fun e:MapEntry=>e.key) (List.mem_of_getElem? h))
    rw [List.eraseIdx_cons_succ,List.filter_cons_of_pos hx,QdD l j e hn.2 (fun y hy=>hi y (List.mem_cons_of_mem _ hy)) h hk]
theorem QeE {es : Array MapEntry} {c:Nat} {m:List (Int×Value)} (h:MpW es c m):(es.toList.map (·.key)).Nodup:=by
  have e:es.toList.map (·.key)=(m.map Prod.fst).map (Value.int .i64):=by
    have:=congrArg (List.map Prod.fst) h.ents
    rw [List.map_map,List.map_map] at this
    rw [List.map_map]
    exact this
  rw [e]
  exact List.Pairwise.map _ (fun a b q r=>q (by injection r)) h.nod
theorem Qgb {es : Array MapEntry} {c:Nat} {m:List (Int×Value)} (h:MpW es c m) {e:MapEntry} (he:e∈es.toList):∃ n,e.key=.int .i64 n:=by
  have:=List.mem_map_of_mem (f:=fun e:MapEntry=>(e.key,e.val)) he
  rw [h.ents,List.mem_map] at this
  obtain ⟨p,-,hp⟩:=this
  exact ⟨p.1,(congrArg Prod.fst hp).symm⟩
end
def km (lim : Int) (e:MapEntry):Bool:=match e.key with | .int _ x=>decide (lim≤x) | _=>true
theorem Qma {lim x:Int} {e:MapEntry} (h:e.key=.int .i64 x):km lim e=decide (lim≤x):=by unfold km; rw [h]
def rkeep (lim : Int) (sn:Array Nat) (e:MapEntry):Bool:=km lim e || !sn.contains e.born
def QfM (g r:Nat) (lim:Int) (es0:Array MapEntry) (c:Nat) (sn:Array Nat) (W:World):Prop:=∃ es:Array MapEntry,es.toList=es0.toList.filter (rkeep lim sn)∧W.heap[g]? = some (.map es c)∧W.heap[r]? = some (.mapIter (some g) c sn c)
def Qi0 (g r:Nat) (lim:Int) (es0:Array MapEntry) (c:Nat) (sn:Array Nat) (e:MapEntry) (W:World):Prop:=∃ es:Array MapEntry,es.toList=es0.toList.filter (rkeep lim sn)∧W.heap[g]? = some (.map es c)∧W.heap[r]? = some (.mapIter (some g) c (sn.push e.born) c)∧e∈es.toList∧sn.contains e.born=false
theorem Qdl {α β:Type} (f:α→β):∀ l:List α,(l.map f).Nodup→∀ a∈l,∀ b∈l,f a=f b→a=b
  | [],_,a,ha,_,_,_=>by cases ha
  | x::l,h,a,ha,b,hb,e=>by
    rw [List.map_cons,List.nodup_cons] at h
    rcases List.mem_cons.1 ha with ha' | ha' <;> rcases List.mem_cons.1 hb with hb' | hb'
    · rw [ha',hb']
    · exact absurd (by rw [←ha',e]; exact List.mem_map_of_mem (f:=f) hb') h.1
    · exact absurd (by rw [←hb',←e]; exact List.mem_map_of_mem (f:=f) ha') h.1
    · exact Qdl f l h.2 a ha' b hb' e
theorem Qgu (sn : Array Nat) (b x:Nat):(sn.push b).contains x=(sn.contains x || x==b):=by
  rw [←Array.contains_toList,Array.toList_push,←Array.contains_toList]
  rw [Bool.eq_iff_iff]
  simp [List.contains_eq_mem,List.mem_append]
section
variable {es0 : Array MapEntry} {c : Nat} {m0 : List (Int × Value)} {g r : Nat} {lim : Int} {sn : Array Nat} {W : World}
theorem QfM.start (hM : MpW es0 c m0) (hg:W.heap[g]? = some (.map es0 c)) (hr:W.heap[r]? = some (.mapIter (some g) c #[] c)):QfM g r lim es0 c #[] W :=
  ⟨es0,(List.filter_eq_self.2 fun e _=>by unfold rkeep; simp).symm,hg,hr⟩
theorem QfM.done (hM : MpW es0 c m0) (h:QfM g r lim es0 c sn W) (h0:∀ es,W.heap[g]? = some (.map es c)→(leftOf es sn).size=0):MpAt g (m0.filter fun p=>decide (lim≤p.1)) W:=by
  obtain ⟨es,he,hg,hr⟩:=h
  have hl:=h0 es hg
  refine ⟨es,c,hg,QgZ hM (fun x=>decide (lim≤x)) es ?_⟩
  show _=es0.toList.filter (km lim)
  rw [he]
  refine List.filter_congr fun e hm=>?_
  unfold rkeep
  cases hk:km lim e with
  | true=>rfl
  | false =>
    rw [Bool.false_or]
    cases hs:sn.contains e.born with
    | true=>rfl
    | false =>
      exfalso
      have h1:e∈leftOf es sn:=by
        unfold leftOf
        rw [Array.mem_filter]
        refine ⟨?_,by rw [hs]; rfl⟩
        rw [←Array.mem_toList_iff,he,List.mem_filter]
        exact ⟨hm,by unfold rkeep; rw [hs]; simp⟩
      rw [Array.eq_empty_of_size_eq_zero hl] at h1
      cases h1 with | mk h=>cases h
theorem Qi0.stay (hM : MpW es0 c m0) {e:MapEntry} (h:Qi0 g r lim es0 c sn e W) (hk:km lim e=true):QfM g r lim es0 c (sn.push e.born) W:=by
  obtain ⟨es,he,hg,hr,hm,hs⟩:=h
  refine ⟨es,he.trans (List.filter_congr fun f hf=>?_),hg,hr⟩
  unfold rkeep
  rw [Qgu]
  by_cases hb:f.born=e.born
  · have hm':=hm
    rw [he] at hm'
    rw [Qdl (·.born) _ hM.born f hf e (List.mem_filter.1 hm').1 hb,hk]
    rfl
  · rw [show (f.born==e.born)=false from by simpa using hb,Bool.or_false]
theorem Qi0.drop (hM : MpW es0 c m0) {e:MapEntry} {x:Int} (h:Qi0 g r lim es0 c sn e W) (hx:e.key=.int .i64 x) (hk:x<lim) {P:Program} {t kt et ty:TypeId} (ht:P.underlying t=some (.map kt et)) (hkt:P.underlying kt=some (.int .i64)) :
    ∃ W',(Builtin.delete_ #[t,kt] ty #[.map (some g),.int .i64 x]).run P W=.ok (.tuple #[]) W'∧Puts W g W'∧QfM g r lim es0 c (sn.push e.born) W':=by
  obtain ⟨es,he,hg,hr,hm,hs⟩:=h
  have hME:MpW es c (m0.filter fun p=>true)∨True:=.inr trivial
  have hnb:(es.toList.map (·.born)).Nodup:=by rw [he]; exact hM.born.sublist ((List.filter_sublist).map _)
  have hnk:(es.toList.map (·.key)).Nodup:=by rw [he]; exact (QeE hM).sublist ((List.filter_sublist).map _)
  have hik:∀ y∈es.toList,∃ a,y.key=Value.int .i64 a:=fun y hy=>by rw [he] at hy; exact Qgb hM (List.mem_filter.1 hy).1
  have hm':=hm
  rw [he] at hm'
  have he0:=(List.mem_filter.1 hm').1
  obtain ⟨j,hj⟩:=List.mem_iff_getElem?.1 hm
  have hgr:g≠r:=fun q=>by rw [q,hr] at hg; cases hg
  have hfn:∀ (l:List MapEntry) (i:Nat),(∀ y∈l,∃ a,y.key=Value.int .i64 a)→(∃ y∈l,y.key=.int .i64 x)→∃ j v y,Instr.findNow (.int .i64) (.int .i64 x) l i=some (some (i+j,v))∧l[j]? = some y∧y.key=.int .i64 x:=by
    intro l
    induction l with
    | nil=>intro i _ h; obtain ⟨y,hy,-⟩:=h; cases hy
    | cons z l ih =>
      intro i hi hy
      obtain ⟨a,ha⟩:=hi z (List.mem_cons_self ..)
      have hsn:Instr.sameNow (.int .i64) (.int .i64 x) z.key=some (x==a):=by rw [ha]; simp [Instr.sameNow]
      by_cases hxa:a=x
      · exact ⟨0,z.val,z,by rw [Instr.findNow,hsn,hxa,beq_self_eq_true]; rfl,rfl,by rw [ha,hxa]⟩
      · have hsn':Instr.sameNow (.int .i64) (.int .i64 x) z.key=some false:=by rw [hsn]; congr 1; simp; exact fun q=>hxa q.symm
        obtain ⟨y,hy1,hy2⟩:=hy
        have hyl:y∈l:=by
          rcases List.mem_cons.1 hy1 with rfl | hy1
          · rw [ha] at hy2; exact absurd (by injection hy2) hxa
          · exact hy1
        obtain ⟨j,v,y',q1,q2,q3⟩:=ih (i+1) (fun y hy=>hi y (List.mem_cons_of_mem _ hy)) ⟨y,hyl,hy2⟩
        exact ⟨j+1,v,y',by rw [Instr.findNow,hsn']; show Instr.findNow _ _ l (i+1)=_; rw [q1,show i+1+j=i+(j+1) by omega],by rw [List.getElem?_cons_succ]; exact q2,q3⟩
  obtain ⟨j2,v,y,q1,q2,q3⟩:=hfn es.toList 0 hik ⟨e,hm,hx⟩
  have hf:=MapKept.run_findKey (P:=P) (w:=W) hkt q1
  rw [Nat.zero_add] at hf
  have hj2:j2<es.size:=by have:=(List.getElem?_eq_some_iff.1 q2).1; simpa using this
  have hE:(es.eraseIdxIfInBounds j2).toList=es.toList.filter (nk x):=by
    rw [Array.eraseIdxIfInBounds_eq,dif_pos hj2,Array.toList_eraseIdx]
    exact QdD _ j2 y hnk hik q2 q3
  have hh:=MapKept.heap_set (o':=.map (es.eraseIdxIfInBounds j2) c) hg
  refine ⟨{ W with heap:=W.heap.setIfInBounds g (.map (es.eraseIdxIfInBounds j2) c) },?_,⟨rfl,rfl,rfl,by simp,fun i hi=>hh.2 i hi⟩,es.eraseIdxIfInBounds j2,?_,hh.1,(hh.2 r (fun q=>hgr q.symm)).trans hr⟩
  · simp [Builtin.delete_,run_underlying ht,MapKept.run_getObj_map hg,MapKept.run_checkKey hkt (show MapKept.IsKey (.int .i64) (.int .i64 x) by simp [MapKept.IsKey]),hf,MapKept.run_setObj_map _ hg,Result.andThen]
  · rw [hE,he,List.filter_filter]
    refine List.filter_congr fun f hfm=>?_
    unfold rkeep
    rw [Qgu]
    by_cases hb:f.born=e.born
    · rw [Qdl (·.born) _ hM.born f hfm e he0 hb,QfA hx,Qma hx,decide_eq_false (by omega)]
      simp
    · have hne:f.key≠e.key:=fun q=>hb (congrArg MapEntry.born (Qdl (·.key) _ (QeE hM) f hfm e he0 q))
      obtain ⟨a,ha⟩:=Qgb hM hfm
      have hnx:nk x f=true:=by rw [QfA ha]; simp only [bne_iff_ne,ne_eq]; exact fun q=>hne (by rw [ha,hx,q])
      rw [hnx,show (f.born==e.born)=false from by simpa using hb,Bool.or_false,Bool.true_and]
theorem QfM.next (hM : MpW es0 c m0) (h:QfM g r lim es0 c sn W) {P:Program} (ty:TypeId) :
    ((Instr.next (.pointer (some ⟨r,0,none⟩)) false ty).run P W=.ok (.tuple #[.bool false]) W∧MpAt g (m0.filter fun p=>decide (lim≤p.1)) W) ∨
    ∃ e x W1,e.key=.int .i64 x∧(Instr.next (.pointer (some ⟨r,0,none⟩)) false ty).run P W=.ok (.tuple #[.bool true,.int .i64 x,e.val]) W1∧Puts W r W1∧Qi0 g r lim es0 c sn e W1∧(Instr.entry (.pointer (some ⟨r,0,none⟩))).run P W1=.ok (.tuple #[.int .i64 x,e.val]) W1:=by
  have h':=h
  obtain ⟨es,he,hg,hr⟩:=h
  have hgr:g≠r:=fun q=>by rw [q,hr] at hg; cases hg
  have hsub:∀ y∈es.toList,y∈es0.toList:=fun y hy=>by rw [he] at hy; exact (List.mem_filter.1 hy).1
  rcases run_next_at (P:=P) W ty r g c c sn es c hr hg (fun y hy=>hM.old y (hsub y hy)) (qR _) with ⟨h0,hrun⟩ | ⟨e,hm,w1,hw1,hrun⟩
  · left
    refine ⟨hrun,h'.done hM fun es2 hg2=>?_⟩
    rw [hg] at hg2
    injection hg2 with q
    injection q with q1 _
    rw [←q1]; exact h0
  · right
    unfold leftOf at hm
    rw [Array.mem_toList_iff,Array.mem_filter] at hm
    obtain ⟨hm1,hs⟩:=hm
    have hm2:e∈es.toList:=by rw [Array.mem_toList_iff]; exact hm1
    obtain ⟨x,hx⟩:=Qgb hM (hsub e hm2)
    have hh:w1.heap=W.heap∧w1.os=W.os∧w1.tape=W.tape∧w1.output=W.output:=by
      rcases hw1 with rfl | rfl
      · exact ⟨rfl,rfl,rfl,rfl⟩
      · exact ⟨rfl,(Qax W).os,(Qax W).tape,(Qax W).output⟩
    have hP:Puts W r (ChangeMaps.setBlock w1 r (.mapIter (some g) c (sn.push e.born) c)):=⟨hh.2.1,hh.2.2.1,hh.2.2.2,by simp [ChangeMaps.setBlock,hh.1],fun i hi=>by simp only [ChangeMaps.setBlock,hh.1]; exact Array.getElem?_setIfInBounds_ne (fun e=>hi e.symm)⟩
    have hr1:(ChangeMaps.setBlock w1 r (.mapIter (some g) c (sn.push e.born) c)).heap[r]? = some (.mapIter (some g) c (sn.push e.born) c):=by simp only [ChangeMaps.setBlock,hh.1]; exact Array.getElem?_setIfInBounds_self_of_lt (Qa5 hr)
    have hg1:=(hP.2.2.2.2 g hgr).trans hg
    refine ⟨e,x,_,hx,by rw [hrun,hx],hP,⟨es,he,hg1,hr1,hm2,by simpa using hs⟩,?_⟩
    rw [←hx]
    exact run_entry_at _ r g c sn es c e hr1 hg1 hm2 (by rw [he]; exact hM.born.sublist ((List.filter_sublist).map _))
end
end Go.Proofs.YthfkppjajmjpnaaDoor.Auto
end
section
namespace Go.Proofs.YthfkppjajmjpnaaDoor.Auto
open Go Go.RowKit
open Rely
def mset (ms : List (Int×Value)) (n:Int) (v:Value):List (Int×Value):=ms.map fun p=>if p.1=n then (n,v) else p
theorem QhR (ms : List (Int×Value)) (n:Int) (v:Value):(mset ms n v).map Prod.fst=ms.map Prod.fst:=by
  unfold mset
  rw [List.map_map]
  apply List.map_congr_left
  intro p _
  show (if p.1=n then (n,v) else p).1=p.1
  split
  · next h=>exact h.symm
  · rfl
theorem QhU {ms : List (Int×Value)} {n:Int} {v:Value} (z:Value) (h:n∈ms.map Prod.fst):mget (mset ms n v) n z=v:=by
  unfold mget mset
  rw [List.find?_map]
  obtain ⟨p,hp,he⟩:=List.mem_map.1 h
  cases hf:ms.find? ((fun p=>p.1==n)∘fun p=>if p.1=n then (n,v) else p) with
  | none =>
    have h1:=List.find?_eq_none.1 hf p hp
    simp [he] at h1
  | some q =>
    have h1:=List.find?_some hf
    simp only [Function.comp] at h1
    by_cases hq:q.1=n
    · simp [hq]
    · rw [if_neg hq] at h1
      exact absurd (beq_iff_eq.1 h1) hq
theorem QkJ {es : Array MapEntry} {c j:Nat} {m:List (Int×Value)} (h:MpW es c m) {n:Int} {v:Value} {e:MapEntry} (hj:es.toList[j]? = some e) (hk:e.key=.int .i64 n) :
    MpW (es.modify j fun e=>{ e with key:=.int .i64 n,val:=v }) c (mset m n v):=by
  obtain ⟨h1,h2,h3,h4⟩:=h
  have hb:(es.modify j fun e=>{ e with key:=.int .i64 n,val:=v }).toList.map (·.born)=es.toList.map (·.born):=by
    apply List.ext_getElem?
    intro i
    rw [List.getElem?_map,List.getElem?_map,Array.toList_modify,List.getElem?_modify]
    cases es.toList[i]? with
    | none=>rfl
    | some x=>by_cases hij:j=i <;> simp [hij]
  refine ⟨?_,by rw [QhR]; exact h2,by rw [hb]; exact h3,fun x hx=>?_⟩
  · apply List.ext_getElem?
    intro i
    have hi:=congrArg (fun l=>l[i]?) h1
    have hjj:=congrArg (fun l=>l[j]?) h1
    simp only [List.getElem?_map] at hi hjj
    unfold mset
    rw [List.getElem?_map,Array.toList_modify,List.getElem?_modify,List.getElem?_map,List.getElem?_map]
    rw [hj] at hjj
    cases hmj:m[j]? with
    | none=>rw [hmj] at hjj; cases hjj
    | some p =>
      rw [hmj] at hjj
      simp only [Option.map_some,Option.some.injEq,Prod.mk.injEq] at hjj
      have hp:p.1=n:=by
        have:=hjj.1.symm.trans hk
        injection this
      by_cases hij:j=i
      · subst hij
        rw [hj,hmj]
        simp [hp]
      · cases hmi:m[i]? with
        | none=>rw [hmi] at hi; simp only [Option.map_none] at hi; cases hx:es.toList[i]? with
          | none=>simp
          | some x=>rw [hx] at hi; cases hi
        | some q =>
          have hq:q.1≠n:=fun hq=>by
            have hlt1:j<m.length:=(List.getElem?_eq_some_iff.1 hmj).1
            have hlt2:i<m.length:=(List.getElem?_eq_some_iff.1 hmi).1
            have e1:(m.map Prod.fst)[j]'(by simpa using hlt1)=(m.map Prod.fst)[i]'(by simpa using hlt2):=by
              simp only [List.getElem_map]
              rw [(List.getElem?_eq_some_iff.1 hmj).2,(List.getElem?_eq_some_iff.1 hmi).2,hp,hq]
            exact hij ((List.getElem_inj h2).1 e1)
          rw [hmi] at hi
          cases hx:es.toList[i]? with
          | none=>rw [hx] at hi; cases hi
          | some x =>
            rw [hx] at hi
            simp only [Option.map_some,Option.some.injEq] at hi
            simp [hij,hq,hi]
  · have hm:x.born∈(es.modify j fun e=>{ e with key:=.int .i64 n,val:=v }).toList.map (·.born):=List.mem_map_of_mem hx
    rw [hb] at hm
    obtain ⟨y,hy,e2⟩:=List.mem_map.1 hm
    rw [←e2]
    exact h4 y hy
section
variable {P : Program} {ρ : Operand → Value} {o : Oper} {w : World}
theorem Qhw (n : Int):(Instr.keyThatStays (.int .i64 n) (.int .i64 n)).run P w=.ok (.int .i64 n) w:=by
  have hs:Instr.sameBits 10000 (.int .i64 n) (.int .i64 n)=true:=by simp [Instr.sameBits]
  unfold Instr.keyThatStays
  rw [if_pos hs]
  rfl
theorem QiH (t : TypeId) (m k x:Operand) {kt et:TypeId} {g:Nat} {n:Int} {ms:List (Int×Value)} {v:Value} (ho:o.op=.mapUpdate t m k x) (hm:ρ m=.map (some g)) (hk:ρ k=.int .i64 n) (hx:ρ x=v)
    (ht:P.underlying t=some (.map kt et)) (hkt:P.underlying kt=some (.int .i64)) (h:MpAt g ms w) (hn:n∈ms.map Prod.fst):∃ W',(execOp ρ o).run P w=.ok .skip W'∧Puts w g W'∧MpAt g (mset ms n v) W':=by
  obtain ⟨es,c,hg,hM⟩:=h
  rcases Qc0 n es.toList ms 0 hM.ents with ⟨-,q2,-⟩ | ⟨j,u,e,q1,q2,q3,q4⟩
  · obtain ⟨p,hp,he⟩:=List.mem_map.1 hn
    have:=List.find?_eq_none.1 q2 p hp
    simp [he] at this
  · have hf:=MapKept.run_findKey (P:=P) (w:=w) hkt q1
    have he:es[j]? = some e:=by rw [←Array.getElem?_toList]; exact q3
    have hi:(Instr.mapUpdate t (.map (some g)) (.int .i64 n) v).run P w=.ok () { w with heap:=w.heap.setIfInBounds g (.map (es.modify j fun e=>{ e with key:=.int .i64 n,val:=v }) c) }:=by
      unfold Instr.mapUpdate
      rw [Sem.run_bind,run_underlying ht]
      show ((getObj g) >>= _:Sem Unit).run P w=_
      rw [Sem.run_bind,MapKept.run_getObj_map hg]
      show ((Instr.checkKey false 10000 kt (.int .i64 n)) >>= _:Sem Unit).run P w=_
      rw [Sem.run_bind,MapKept.run_checkKey hkt (by simp [MapKept.IsKey])]
      show ((Instr.findKey kt (.int .i64 n) es.toList) >>= _:Sem Unit).run P w=_
      rw [Sem.run_bind,hf]
      simp only [Nat.zero_add,Result.andThen_ok,he,Option.map_some,Option.getD_some,q4]
      show ((Instr.keyThatStays (.int .i64 n) (.int .i64 n)) >>= _:Sem Unit).run P w=_
      rw [Sem.run_bind,Qhw]
      exact MapKept.run_setObj_map _ hg
    have hh:=MapKept.heap_set (o':=.map (es.modify j fun e=>{ e with key:=.int .i64 n,val:=v }) c) hg
    refine ⟨{ w with heap:=w.heap.setIfInBounds g (.map (es.modify j fun e=>{ e with key:=.int .i64 n,val:=v }) c) },?_,⟨rfl,rfl,rfl,by simp,fun i hi=>hh.2 i hi⟩,_,_,hh.1,QkJ hM q3 q4⟩
    unfold execOp
    rw [ho]
    show ((Instr.mapUpdate t (ρ m) (ρ k) (ρ x)) >>= _).run P w=_
    rw [hm,hk,hx,Sem.run_bind,hi]
    rfl
end
end Go.Proofs.YthfkppjajmjpnaaDoor.Auto
end
section
namespace Go.Proofs.YthfkppjajmjpnaaDoor.Te
open Go Go.RowKit
open Rely Auto Own Seat Sha
def tmv (n : Int):Int×Value:=(n,.int .i64 1)
theorem QlD {ts : List Int} {n:Int} (h:n∈ts) (z:Value):mget (ts.map tmv) n z=.int .i64 1:=by
  unfold mget
  cases hf:(ts.map tmv).find? (fun p=>p.1==n) with
  | none =>
    rw [List.find?_eq_none] at hf
    exact absurd (show ((tmv n).1==n)=true by simp [tmv]) (hf _ (List.mem_map_of_mem h))
  | some p =>
    obtain ⟨x,-,rfl⟩:=List.mem_map.1 (List.mem_of_find?_eq_some hf)
    rfl
theorem Qj7 {ts : List Int} {n:Int} (h:n∉ts) (z:Value):mget (ts.map tmv) n z=z:=by
  unfold mget
  rw [show (ts.map tmv).find? (fun p=>p.1==n)=none from List.find?_eq_none.2 fun p hp q=>by
    obtain ⟨x,hx,rfl⟩:=List.mem_map.1 hp
    exact h ((show x=n by simpa [tmv] using q)▸hx)]
  rfl
theorem Qee (ts : List Int):(ts.map tmv).map Prod.fst=ts:=by
  rw [List.map_map]
  exact List.map_id' ts
section
variable {ds : List Deferred} {P : Program} {ops : Array Oper} {Q : Exit → Act → World → Prop} {rest : List Oper} {o : Oper} {N : Nat} {L : Env} {w : World}
theorem Qfx (d : Nat) (hd:o.dst=some d) (hg:Qbu ops o N L=some true) (h:(execOp (Rely.look (envN N L)) o).run P w=.ok (.value (.map (some w.heap.size))) (w.alloc (.map #[] 0)))
    (kk:∀ m W',w.heap.size≤m→Ext w W'→W'.heap[m]? = some (.map #[] 0)→WL P ops Q rest (Qa3 ds N ((d,.map (some m))::L)) W'):WL P ops Q (o::rest) (Qa3 ds N L) w :=
  QbI _ _ d hd hg h (kk w.heap.size _ (qR _) (Qck _ _) (heap_alloc_new _ _))
theorem Qh2 (m k x:Operand) (t:TypeId) {kt et:TypeId} {mT:Nat} {ts:List Int} {n:Int} (ho:o.op=.mapUpdate t m k x) (hm:Rely.look (envN N L) m=.map (some mT)) (hk:Rely.look (envN N L) k=.int .i64 n) (hx:Rely.look (envN N L) x=.int .i64 1)
    (ht:P.underlying t=some (.map kt et)) (hkt:P.underlying kt=some (.int .i64)) (h:MpAt mT (ts.map tmv) w) (hn:n∉ts) (hd:o.dst=none) (hg:Qbu ops o N L=some true)
    (kk:∀ W',Puts w mT W'→MpAt mT ((ts++[n]).map tmv) W'→WL P ops Q rest (Qa3 ds N L) W'):WL P ops Q (o::rest) (Qa3 ds N L) w:=by
  obtain ⟨W',r1,r2,r3⟩:=QiJ (ρ:=Rely.look (envN N L)) (o:=o) t m k x ho hm hk hx ht hkt h (by rw [Qee]; exact hn)
  refine Qdh W' hd hg r1 (kk W' r2 ?_)
  rw [List.map_append]; exact r3
theorem Qh1 (m k x:Operand) (t:TypeId) {kt et:TypeId} {mT:Nat} {ts:List Int} {n:Int} {v:Value} (ho:o.op=.mapUpdate t m k x) (hm:Rely.look (envN N L) m=.map (some mT)) (hk:Rely.look (envN N L) k=.int .i64 n) (hx:Rely.look (envN N L) x=v)
    (ht:P.underlying t=some (.map kt et)) (hkt:P.underlying kt=some (.int .i64)) (h:MpAt mT (ts.map tmv) w) (hn:n∈ts) (hd:o.dst=none) (hg:Qbu ops o N L=some true)
    (kk:∀ W',Puts w mT W'→MpAt mT (mset (ts.map tmv) n v) W'→WL P ops Q rest (Qa3 ds N L) W'):WL P ops Q (o::rest) (Qa3 ds N L) w:=by
  obtain ⟨W',r1,r2,r3⟩:=QiH (ρ:=Rely.look (envN N L)) (o:=o) t m k x ho hm hk hx ht hkt h (by rw [Qee]; exact hn)
  exact Qdh W' hd hg r1 (kk W' r2 r3)
end
def Qbc (ts : List NdV):Nat→List Int
  | 0=>[]
  | i+1=>if (ndi ts (2*i)).n.us=true then Qbc ts i++[(ndi ts (2*i)).n.nm] else Qbc ts i
theorem Qec {ts : List NdV} {i:Nat} (h:¬ (Qbc ts i).Nodup):∀ m,i≤m→¬ (Qbc ts m).Nodup
  | 0,hm=>by
      obtain rfl:i=0:=by omega
      exact h
  | m+1,hm=>by
    by_cases e:i=m+1
    · rw [←e]; exact h
    · have h2:=Qec h m (by omega)
      unfold Qbc
      split
      · intro q; exact h2 (List.nodup_append.1 q).1
      · exact h2
def QbV (ts : List NdV):Bool:=decide (Qbc ts ((ts.length+1)/2)).Nodup
theorem NdAt.puts {B g off m:Nat} {w W:World} {n:NdV} (h:NdAt B w g off n) (p:Puts w m W) (hm:B≤m):NdAt B W g off n:=h.keep (qE p.2.2.2.1.symm) fun k hk _=>p.2.2.2.2 k (by omega)
theorem QcI {us : List Int} {n:Int} (h:us.Nodup) (hn:n∉us):(us++[n]).Nodup:=List.nodup_append.2 ⟨h,by simp,fun a ha b hb e=>hn (by rw [List.mem_singleton] at hb; rw [←hb,←e]; exact ha)⟩
set_option maxRecDepth 100000 in
theorem QhQ (ts : List NdV) (a_t:Option Addr) (c_t B1:Nat) (w:World) (ht:TrAt B1 w a_t ts) (hB:B1≤w.heap.size) (htl:ts.length≤100000):Calls Tryd.prog 44 #[.slice a_t ts.length c_t] w (Ret w (.bool (QbV ts))):=by
 refine enter 35 [(0,.slice a_t ts.length c_t)] Tryd.func44 rfl rfl kj rfl ?_
 refine wp_seq_k fun K1 hK1=>?_
 refine Qab ?_
 refine Qaa (.bool false) 2 rfl kj kj ?_
 refine Qaf ?_
 refine hK1 _ _ ?_
 refine wp_seq_k fun K2 hK2=>?_
 refine Qab ?_
 refine Qaa (.slice a_t ts.length c_t) 5 rfl kj kj ?_
 refine Qaa (.int .i64 ((ts.length:Nat):Int)) 6 rfl kj kj ?_
 refine Qfx 7 rfl kj kj fun mT W1 lmT e1 rmT=>?_
 have x1:Ext w W1:=Ext.tr (Rely.Ext.refl w) e1
 have hmp0:MpAt mT (([]:List Int).map tmv) W1:=⟨_,_,rmT,QkI 0⟩
 have lm0:w.heap.size≤mT:=qT (Rely.Ext.refl w).size lmT
 refine Qaa (.map (some mT)) 3 rfl kj kj ?_
 refine Qaf ?_
 refine hK2 _ _ ?_
 refine wp_seq_k fun K3 hK3=>?_
 refine wp_seq_k fun K4 hK4=>?_
 refine Qab ?_
 refine Qaa (.int .i64 0) 4 rfl kj kj ?_
 refine Qaf ?_
 refine hK4 _ _ ?_
 refine wp_block ?_
 refine Qa0 (fun (s1:Nat)=>[(0,.slice a_t ts.length c_t),(3,.map (some mT)),(4,.int .i64 ((2*s1:Nat):Int))]) (fun (s1:Nat) W=>(s1≤(ts.length+1)/2)∧((Qbc ts s1).Nodup)∧(MpAt mT ((Qbc ts s1).map tmv) W)∧(Ext w W)) (fun (s1:Nat)=>ts.length-s1) 0 ⟨rfl,rfl,rfl,trivial⟩ ⟨(Nat.zero_le _),List.nodup_nil,hmp0,x1⟩ fun s1 X1 V1 hI1=>?_
 obtain ⟨i,hs1⟩:∃ z,z=s1:=⟨_,rfl⟩
 subst hs1
 obtain ⟨hi,hnd,hmp,xx1⟩:=hI1
 replace hi:i≤(ts.length+1)/2:=hi
 replace hnd:(Qbc ts i).Nodup:=hnd
 replace hmp:MpAt mT ((Qbc ts i).map tmv) V1:=hmp
 replace xx1:Ext w V1:=xx1
 refine wp_seq_k fun K5 hK5=>?_
 refine wp_seq_k fun K6 hK6=>?_
 refine Qab ?_
 refine Qaa (.int .i64 ((2*i:Nat):Int)) 8 rfl kj kj ?_
 refine Qaa (.slice a_t ts.length c_t) 9 rfl kj kj ?_
 refine Qaa (.int .i64 ((ts.length:Nat):Int)) 10 rfl kj kj ?_
 refine Qaa (.bool (decide (((2*i:Nat):Int)<((ts.length:Nat):Int)))) 11 rfl kj kj ?_
 refine Qaf ?_
 refine hK6 _ _ ?_
 refine Qar (t:=decide (((2*i:Nat):Int)<((ts.length:Nat):Int))) kj (fun c7=>?_) (fun c7=>?_)
 ·skip
  have h11:2*i<ts.length:=by have:=of_decide_eq_true c7; omega
  refine wp_skip ?_
  refine hK5 _ _ ?_
  refine wp_seq_k fun K8 hK8=>?_
  refine wp_block ?_
  refine wp_seq_k fun K9 hK9=>?_
  obtain ⟨gtT,otT,hat,hnts⟩:=TrAt.ext ht xx1
  have hnt:=hnts (2*i) (by omega)
  obtain ⟨nt,ent⟩:∃ z,z=ndi ts (2*i):=⟨_,rfl⟩
  rw [←ent] at hnt
  have okt:=hnt.ok
  have rdt:=hnt.rd
  rcases (show nt.n.us=false∨(nt.n.us=true∧nt.n.nm∉Qbc ts i)∨(nt.n.us=true∧nt.n.nm∈Qbc ts i) from by cases h8:nt.n.us; exact .inl rfl; by_cases h7:nt.n.nm∈Qbc ts i; exact .inr (.inr ⟨rfl,h7⟩); exact .inr (.inl ⟨rfl,h7⟩)) with hq | hq | hq
  ·skip
   have hun:Qbc ts (i+1)=Qbc ts i:=by rw [Qbc,if_neg (by rw [←ent,hq]; decide)]
   refine Qab ?_
   refine Qaa (.slice a_t ts.length c_t) 14 rfl kj kj ?_
   refine Qaa (.int .i64 ((2*i:Nat):Int)) 15 rfl kj kj ?_
   refine Qaa (.pointer (some ⟨gtT,otT+(2*i)*99,none⟩)) 16 rfl kj (Qap 23 _ _ .i64 ((2*i)) gtT otT ts.length c_t 50 99 a_t (hat (by omega)) rfl kj kj kj kj (by omega)) ?_
   refine Qaa (.pointer (some ⟨gtT,otT+(2*i)*99,none⟩)) 17 rfl kj kj ?_
   refine Qaa (.bool false) 18 rfl kj (Qak 4 _ _ (.bool false) ((NdAt.at3 hnt).1.trans (congrArg (fun z=>some (Value.bool z)) hq)) rfl kj kj) ?_
   refine Qaf ?_
   refine hK9 _ _ ?_
   refine cond_false kj ?_
   refine wp_skip ?_
   refine hK8 _ _ ?_
   refine Qab ?_
   refine Qaa (.int .i64 ((2*i:Nat):Int)) 12 rfl kj kj ?_
   refine Qaa (.int .i64 (((2*(i+1):Nat):Int))) 13 rfl kj (Qai (u:=.int .i64 (IntKind.i64.wrap (((2*i:Nat):Int)+2))) kj (congrArg (Value.int .i64) ((IntWalk.i64_in _ (by omega)).trans (by omega)))) ?_
   refine Qaa (.int .i64 (((2*(i+1):Nat):Int))) 4 rfl kj kj ?_
   refine Qaf ?_
   repeat (first | with_reducible refine goX1 ?_ | with_reducible refine goX2 ?_ | with_reducible refine goX3 ?_)
   exact Qat (i+1) ⟨rfl,rfl,rfl,trivial⟩ ⟨(by omega),hun▸hnd,hun▸hmp,xx1⟩ (by show ts.length-(i+1)<ts.length-i; omega)
  ·skip
   obtain ⟨hus,hni⟩:=hq
   have hun:Qbc ts (i+1)=Qbc ts i++[nt.n.nm]:=by rw [Qbc,if_pos (by rw [←ent]; exact hus),←ent]
   refine Qab ?_
   refine Qaa (.slice a_t ts.length c_t) 14 rfl kj kj ?_
   refine Qaa (.int .i64 ((2*i:Nat):Int)) 15 rfl kj kj ?_
   refine Qaa (.pointer (some ⟨gtT,otT+(2*i)*99,none⟩)) 16 rfl kj (Qap 23 _ _ .i64 ((2*i)) gtT otT ts.length c_t 50 99 a_t (hat (by omega)) rfl kj kj kj kj (by omega)) ?_
   refine Qaa (.pointer (some ⟨gtT,otT+(2*i)*99,none⟩)) 17 rfl kj kj ?_
   refine Qaa (.bool true) 18 rfl kj (Qak 4 _ _ (.bool true) ((NdAt.at3 hnt).1.trans (congrArg (fun z=>some (Value.bool z)) hus)) rfl kj kj) ?_
   refine Qaf ?_
   refine hK9 _ _ ?_
   refine cond_true kj ?_
   refine wp_seq_k fun K10 hK10=>?_
   refine Qab ?_
   refine Qaa (.map (some mT)) 19 rfl kj kj ?_
   refine Qaa (.slice a_t ts.length c_t) 20 rfl kj kj ?_
   refine Qaa (.int .i64 ((2*i:Nat):Int)) 21 rfl kj kj ?_
   refine Qaa (.pointer (some ⟨gtT,otT+(2*i)*99,none⟩)) 22 rfl kj (Qap 23 _ _ .i64 ((2*i)) gtT otT ts.length c_t 50 99 a_t (hat (by omega)) rfl kj kj kj kj (by omega)) ?_
   refine Qaa (.pointer (some ⟨gtT,otT+(2*i)*99+1,none⟩)) 23 rfl kj kj ?_
   refine Qaa (.int .i64 nt.n.nm) 24 rfl kj (Qak 3 _ _ (.int .i64 nt.n.nm) (NdAt.at3 hnt).2.1 rfl kj kj) ?_
   refine Qaa (.int .i64 0) 25 rfl kj ((Qdi (z:=.int .i64 0) 85 _ _ rfl kj kj Tryd.underlying85 kj hmp kj).trans (by rw [Qj7 hni])) ?_
   refine Qaa (.int .i64 1) 26 rfl kj kj ?_
   refine Qh2 (.tmp 19) (.tmp 24) (.tmp 26) 85 rfl kj kj kj Tryd.underlying85 kj hmp hni rfl kj fun W3 p3 hmp2=>?_
   have x3:Ext w W3:=Puts.ext p3 xx1 lm0
   have hnt2:=NdAt.puts hnt p3 (by omega)
   refine Qaf ?_
   refine hK10 _ _ ?_
   refine wp_seq_k fun K11 hK11=>?_
   refine Qab ?_
   refine Qaa (.map (some mT)) 27 rfl kj kj ?_
   refine Qaa (.slice a_t ts.length c_t) 28 rfl kj kj ?_
   refine Qaa (.int .i64 ((2*i:Nat):Int)) 29 rfl kj kj ?_
   refine Qaa (.pointer (some ⟨gtT,otT+(2*i)*99,none⟩)) 30 rfl kj (Qap 23 _ _ .i64 ((2*i)) gtT otT ts.length c_t 50 99 a_t (hat (by omega)) rfl kj kj kj kj (by omega)) ?_
   refine Qaa (.pointer (some ⟨gtT,otT+(2*i)*99+1,none⟩)) 31 rfl kj kj ?_
   refine Qaa (.int .i64 nt.n.nm) 32 rfl kj (Qak 3 _ _ (.int .i64 nt.n.nm) (NdAt.at3 hnt2).2.1 rfl kj kj) ?_
   refine Qaa (.int .i64 1) 33 rfl kj ((Qdi (z:=.int .i64 0) 85 _ _ rfl kj kj Tryd.underlying85 kj hmp2 kj).trans (by rw [QlD (List.mem_append.2 (.inr (List.mem_singleton.2 rfl)))])) ?_
   refine Qaa (.bool false) 34 rfl kj kj ?_
   refine Qaf ?_
   refine hK11 _ _ ?_
   refine cond_false kj ?_
   refine wp_skip ?_
   refine hK8 _ _ ?_
   refine Qab ?_
   refine Qaa (.int .i64 ((2*i:Nat):Int)) 12 rfl kj kj ?_
   refine Qaa (.int .i64 (((2*(i+1):Nat):Int))) 13 rfl kj (Qai (u:=.int .i64 (IntKind.i64.wrap (((2*i:Nat):Int)+2))) kj (congrArg (Value.int .i64) ((IntWalk.i64_in _ (by omega)).trans (by omega)))) ?_
   refine Qaa (.int .i64 (((2*(i+1):Nat):Int))) 4 rfl kj kj ?_
   refine Qaf ?_
   repeat (first | with_reducible refine goX1 ?_ | with_reducible refine goX2 ?_ | with_reducible refine goX3 ?_)
   exact Qat (i+1) ⟨rfl,rfl,rfl,trivial⟩ ⟨(by omega),(hun▸QcI hnd hni),hun▸hmp2,x3⟩ (by show ts.length-(i+1)<ts.length-i; omega)
  ·skip
   obtain ⟨hus,hni⟩:=hq
   have hun:Qbc ts (i+1)=Qbc ts i++[nt.n.nm]:=by rw [Qbc,if_pos (by rw [←ent]; exact hus),←ent]
   refine Qab ?_
   refine Qaa (.slice a_t ts.length c_t) 14 rfl kj kj ?_
   refine Qaa (.int .i64 ((2*i:Nat):Int)) 15 rfl kj kj ?_
   refine Qaa (.pointer (some ⟨gtT,otT+(2*i)*99,none⟩)) 16 rfl kj (Qap 23 _ _ .i64 ((2*i)) gtT otT ts.length c_t 50 99 a_t (hat (by omega)) rfl kj kj kj kj (by omega)) ?_
   refine Qaa (.pointer (some ⟨gtT,otT+(2*i)*99,none⟩)) 17 rfl kj kj ?_
   refine Qaa (.bool true) 18 rfl kj (Qak 4 _ _ (.bool true) ((NdAt.at3 hnt).1.trans (congrArg (fun z=>some (Value.bool z)) hus)) rfl kj kj) ?_
   refine Qaf ?_
   refine hK9 _ _ ?_
   refine cond_true kj ?_
   refine wp_seq_k fun K12 hK12=>?_
   refine Qab ?_
   refine Qaa (.map (some mT)) 19 rfl kj kj ?_
   refine Qaa (.slice a_t ts.length c_t) 20 rfl kj kj ?_
   refine Qaa (.int .i64 ((2*i:Nat):Int)) 21 rfl kj kj ?_
   refine Qaa (.pointer (some ⟨gtT,otT+(2*i)*99,none⟩)) 22 rfl kj (Qap 23 _ _ .i64 ((2*i)) gtT otT ts.length c_t 50 99 a_t (hat (by omega)) rfl kj kj kj kj (by omega)) ?_
   refine Qaa (.pointer (some ⟨gtT,otT+(2*i)*99+1,none⟩)) 23 rfl kj kj ?_
   refine Qaa (.int .i64 nt.n.nm) 24 rfl kj (Qak 3 _ _ (.int .i64 nt.n.nm) (NdAt.at3 hnt).2.1 rfl kj kj) ?_
   refine Qaa (.int .i64 1) 25 rfl kj ((Qdi (z:=.int .i64 0) 85 _ _ rfl kj kj Tryd.underlying85 kj hmp kj).trans (by rw [QlD hni])) ?_
   refine Qaa (.int .i64 2) 26 rfl kj kj ?_
   refine Qh1 (v:=.int .i64 2) (.tmp 19) (.tmp 24) (.tmp 26) 85 rfl kj kj kj Tryd.underlying85 kj hmp hni rfl kj fun W3 p3 hmp2=>?_
   have x3:Ext w W3:=Puts.ext p3 xx1 lm0
   have hnt2:=NdAt.puts hnt p3 (by omega)
   refine Qaf ?_
   refine hK12 _ _ ?_
   refine wp_seq_k fun K13 hK13=>?_
   refine Qab ?_
   refine Qaa (.map (some mT)) 27 rfl kj kj ?_
   refine Qaa (.slice a_t ts.length c_t) 28 rfl kj kj ?_
   refine Qaa (.int .i64 ((2*i:Nat):Int)) 29 rfl kj kj ?_
   refine Qaa (.pointer (some ⟨gtT,otT+(2*i)*99,none⟩)) 30 rfl kj (Qap 23 _ _ .i64 ((2*i)) gtT otT ts.length c_t 50 99 a_t (hat (by omega)) rfl kj kj kj kj (by omega)) ?_
   refine Qaa (.pointer (some ⟨gtT,otT+(2*i)*99+1,none⟩)) 31 rfl kj kj ?_
   refine Qaa (.int .i64 nt.n.nm) 32 rfl kj (Qak 3 _ _ (.int .i64 nt.n.nm) (NdAt.at3 hnt2).2.1 rfl kj kj) ?_
   refine Qaa (.int .i64 2) 33 rfl kj ((Qdi (z:=.int .i64 0) 85 _ _ rfl kj kj Tryd.underlying85 kj hmp2 kj).trans (by rw [QhU _ (by rw [Qee]; exact hni)])) ?_
   refine Qaa (.bool true) 34 rfl kj kj ?_
   refine Qaf ?_
   refine hK13 _ _ ?_
   refine cond_true kj ?_
   refine wp_seq_k fun K14 hK14=>?_
   refine Qab ?_
   refine Qaa (.bool false) 2 rfl kj kj ?_
   refine Qaf ?_
   refine hK14 _ _ ?_
   refine wp_ret ?_
   repeat (first | with_reducible refine goR1 ?_ | with_reducible refine goR2 ?_)
   exact (show bodyPost _ _ _ .ret _ _ from ret1 (.bool false) rfl (Qaq kj) ⟨congrArg (fun z=>Ending.returned (.bool z)) (decide_eq_false (Qec (i:=i+1) (by rw [hun]; exact fun q=>(List.nodup_append.1 q).2.2 _ hni _ (List.mem_singleton.2 rfl) rfl) _ (by omega))).symm,x3⟩)
 ·skip
  have h11:¬ 2*i<ts.length:=by have:=of_decide_eq_false c7; omega
  refine wp_exit ?_
  refine hK3 _ _ ?_
  refine wp_seq_k fun K15 hK15=>?_
  refine Qab ?_
  refine Qaa (.bool true) 2 rfl kj kj ?_
  refine Qaf ?_
  refine hK15 _ _ ?_
  refine wp_ret ?_
  repeat (first | with_reducible refine goR1 ?_ | with_reducible refine goR2 ?_)
  exact (show bodyPost _ _ _ .ret _ _ from ret1 (.bool true) rfl (Qaq kj) ⟨congrArg (fun z=>Ending.returned (.bool z)) (decide_eq_true ((show i=(ts.length+1)/2 by omega)▸hnd)).symm,xx1⟩)
end Go.Proofs.YthfkppjajmjpnaaDoor.Te
end
section
namespace Go.Proofs.YthfkppjajmjpnaaDoor.Te
open Go Go.RowKit
open Rely Auto Own Seat Sha
end Go.Proofs.YthfkppjajmjpnaaDoor.Te
end
section
namespace Go.Proofs.YthfkppjajmjpnaaDoor.Te
open Go Go.RowKit
open Rely Auto Own Seat Sha
theorem nb_old {k : IntKind} {T:TypeId} {base g:Nat} {xs:List Int} {v:Value} {W:World} (h:OwnN k T base xs v W) (hg:g<base):v.ownBlock≠some g:=fun e=>by
  have:=h.ge e
  omega
theorem ownN_but {k : IntKind} {T:TypeId} {b g:Nat} {xs:List Int} {v:Value} {W W':World} (h:OwnN k T b xs v W) (q:ExtB g W W') (hn:v.ownBlock≠some g):OwnN k T b xs v W':=h.keep fun k hk=>q.2.2.2.2 k (h.lt hk) (fun e=>hn (by rw [hk,e]))
theorem run_storeQ {P : Program} {ρ:Operand→Value} {o:Oper} {w:World} (ty:TypeId) (x y:Operand) (g off:Nat) (t:TypeId) (pre post:List (Array Value)) (u v:Value) (hg:w.heap[g]? = some (.cells (cat (pre++([#[u]]++post))) t))
    (ho:o.op=.store ty x y) (hx:ρ x=.pointer (some ⟨g,off,none⟩)) (hy:ρ y=v) (hi:(P.info? ty).map (·.size)=some 1) (hp:(cat pre).size=off) (h1:v.oneCell'=true) (hcs:v.cells=#[v]) :
    (execOp ρ o).run P w=.ok .skip (w.setRow g (cat (pre++([#[v]]++post)))):=by
  subst hp
  have hs:Nat.blt (cat pre).size (cat (pre++([#[u]]++post))).size=true:=by
    have:(cat pre).size<(cat (pre++([#[u]]++post))).size:=by
      rw [QaA,QaA,qS,qS]
      have e1:(cat [#[u]]).size=1:=rfl
      omega
    simpa using this
  have e:(cat (pre++([#[u]]++post))).setIfInBounds (cat pre).size v=cat (pre++([#[v]]++post)):=by
    rw [QaA,QaA,QaA,QaA]
    have e1:∀ z,cat [#[z]]=#[z]:=fun z=>rfl
    rw [e1,e1,Array.setIfInBounds_append_right (qR _),Nat.sub_self,Array.setIfInBounds_append_left (by simp)]
    rfl
  rw [←e]
  exact QaW ty x y g _ t _ v hg ho hx hy hi hs h1 hcs
end Go.Proofs.YthfkppjajmjpnaaDoor.Te
end
section
namespace Go.Proofs.YthfkppjajmjpnaaDoor.Te
open Go Go.RowKit
open Rely Auto Own Seat Sha
end Go.Proofs.YthfkppjajmjpnaaDoor.Te
end
section
namespace Go.Proofs.YthfkppjajmjpnaaDoor.Te
open Go Go.RowKit
open Rely Auto Own Seat Sha
end Go.Proofs.YthfkppjajmjpnaaDoor.Te
end
section
namespace Go.Proofs.YthfkppjajmjpnaaDoor.Te
open Go Go.RowKit
open Rely Auto Own Seat Sha
end Go.Proofs.YthfkppjajmjpnaaDoor.Te
end
section
namespace Go.Proofs.YthfkppjajmjpnaaDoor.Te
open Go Go.RowKit
open Rely Auto Own Seat
theorem Qd1 (m : Nat) (hm:m≤100000):∃ L:Nat,leaves ((m:Nat):Int)=((L:Nat):Int)∧2*L≤m+1∧L≤32∧(L≠0→m+1=2*L∧QaG ((L:Nat):Int)=true):=by
  unfold leaves
  have e1:((m:Nat):Int).tmod 2=((m%2:Nat):Int):=by rw [Int.tmod_eq_emod_of_nonneg (by omega)]; omega
  have e2:((m:Nat):Int).tdiv 2=((m/2:Nat):Int):=by rw [Int.tdiv_eq_ediv_of_nonneg (by omega)]; omega
  have e3:wrap64 (((m/2:Nat):Int)+1)=((m/2+1:Nat):Int):=by unfold wrap64; omega
  rw [e1,e2,e3]
  by_cases h1:m%2=1
  · rw [if_neg (by rw [h1]; decide)]
    cases h2:QaG ((m/2+1:Nat):Int) with
    | true =>
      rw [if_pos rfl]
      have h3:=Qa9 h2
      exact ⟨m/2+1,rfl,by omega,by omega,fun _=>⟨by omega,h2⟩⟩
    | false=>rw [if_neg (by decide)]; exact ⟨0,rfl,by omega,by omega,fun h=>absurd rfl h⟩
  · rw [if_pos (by
      have:m%2=0:=by omega
      rw [this]; decide)]
    exact ⟨0,rfl,by omega,by omega,fun h=>absurd rfl h⟩
end Go.Proofs.YthfkppjajmjpnaaDoor.Te
end
section
namespace Go.Proofs.YthfkppjajmjpnaaDoor.Seat
open Go Go.RowKit
open Rely Auto Own
theorem quiet {P : Program} {f:FuncId} {args:Array Value} {w:World} {v:Value} (h:Calls P f args w fun e w'=>e=.returned v∧w=w'):Calls P f args w (Ret w v):=h.mono fun e w' ⟨h1,h2⟩=>⟨h1,h2▸Rely.Ext.refl w⟩
def upn (x n:Int):Nat→Int
  | 0=>par x n
  | k+1=>par (upn x n k) n
theorem QhH (x n:Int):i64 (par x n):=by have:=QjG x n; unfold i64; omega
theorem Qke (x n:Int):∀ k,i64 (upn x n k)
  | 0=>QhH x n
  | k+1=>QhH _ n
theorem Qhq (x n:Int):∀ k,0≤upn x n k→Qa2 (upn x n k) n=true∧(k:Int)+1≤lv (upn x n k)
  | 0,h=>by
    have h:0≤par x n:=h
    cases hd:Qa2 x n with
    | false=>rw [QcR hd] at h; omega
    | true =>
      rcases QcH hd with h2 | h2
      · omega
      · have h3:0≤lv x:=(Qen hd).1
        exact ⟨h2.1,by show ((0:Nat):Int)+1≤lv (par x n); omega⟩
  | k+1,h=>by
    have h:0≤par (upn x n k) n:=h
    have h0:0≤upn x n k:=by
      rcases Int.lt_or_le (upn x n k) 0 with h1 | h1
      · have:Qa2 (upn x n k) n=false:=by
          cases hd:Qa2 (upn x n k) n with
          | false=>rfl
          | true=>have:=Qbh hd; omega
        rw [QcR this] at h; omega
      · exact h1
    have h1:=Qhq x n k h0
    rcases QcH h1.1 with h2 | h2
    · omega
    · refine ⟨h2.1,?_⟩
      show ((k+1:Nat):Int)+1≤lv (par (upn x n k) n)
      omega
theorem Qhr {x n:Int} {k:Nat} (h:0≤upn x n k):k<6:=by
  have h1:=Qhq x n k h
  have h2:=Qen h1.1
  omega
theorem TabAt.keepC {gs : List Nat} {A B:World} (h:TabAt A) (k:QbA gs A B) (n:1∉gs):TabAt B:=⟨qL h.1 k.1,fun j hj=>k.cell (h.2 j hj) n⟩
def SP (x n:Int) (ys:List Nat):Prop:=∃ k,ys=List.range k∧upn x n k<0∧∀ i,i<k→0≤upn x n i
def SPp (x n:Int) (ys:List Nat):Prop:=∃ k,ys=List.range k∧∀ i,i<k→0≤upn x n i
end Go.Proofs.YthfkppjajmjpnaaDoor.Seat
end
section
namespace Go.Proofs.YthfkppjajmjpnaaDoor.Seat
open Go Go.RowKit
open Rely Auto Own
theorem Qm3 (x n:Int) (w:World):Calls Tryd.prog 75 #[.int .i64 x,.int .i64 n] w (QbK w (fun v W=>∃ g1 g2,v=.func (.func 80) #[] #[.pointer (some ⟨g1,0,none⟩),.pointer (some ⟨g2,0,none⟩)]∧w.heap.size≤g1∧w.heap.size≤g2∧W.heap[g1]? = some (.cells #[.int .i64 x] 3)∧W.heap[g2]? = some (.cells #[.int .i64 n] 3))):=by
  refine enter 6 [(0,.int .i64 x),(1,.int .i64 n)] Tryd.func75 rfl rfl (by kernel_rfl) rfl ?_
  refine wp_seq_k fun K1 hK1=>?_
  refine Qab ?_
  refine Qan (#[.int .i64 x]) 3 2 rfl (by kernel_rfl) (by kernel_rfl) fun g2 W1 l2 e1 r2_1=>?_
  have x1:Ext w W1:=Ext.tr (Rely.Ext.refl w) e1
  have b2:w.heap.size≤g2:=qT (Rely.Ext.refl w).size l2
  refine Qan (#[.int .i64 n]) 3 3 rfl (by kernel_rfl) (by kernel_rfl) fun g3 W2 l3 e2 r3_2=>?_
  have x2:Ext w W2:=Ext.tr x1 e2
  have b3:w.heap.size≤g3:=qT x1.size l3
  refine Qaa (.nilFunc) 4 rfl (by kernel_rfl) (by kernel_rfl) ?_
  refine Qaf ?_
  refine hK1 _ _ ?_
  refine wp_seq_k fun K4 hK4=>?_
  refine Qab ?_
  refine Qaa (.func (.func 80) #[] #[.pointer (some ⟨g2,0,none⟩),.pointer (some ⟨g3,0,none⟩)]) 5 rfl (by kernel_rfl) (by kernel_rfl) ?_
  refine Qaa (.func (.func 80) #[] #[.pointer (some ⟨g2,0,none⟩),.pointer (some ⟨g3,0,none⟩)]) 4 rfl (by kernel_rfl) (by kernel_rfl) ?_
  refine Qaf ?_
  refine hK4 _ _ ?_
  refine wp_ret ?_
  repeat (first | with_reducible refine goR1 ?_ | with_reducible refine goR2 ?_)
  have r2_2:=(Qah r2_1 e2)
  exact (show bodyPost _ _ _ .ret _ _ from ret1 (.func (.func 80) #[] #[.pointer (some ⟨g2,0,none⟩),.pointer (some ⟨g3,0,none⟩)]) rfl (Qaq (by kernel_rfl)) ⟨_,rfl,x2,g2,g3,rfl,b2,b3,r2_2,r3_2⟩)
end Go.Proofs.YthfkppjajmjpnaaDoor.Seat
end
section
namespace Go.Proofs.YthfkppjajmjpnaaDoor.Te
open Go Go.RowKit
open Rely Auto Own Seat Sha
def upN (x n:Int) (k:Nat):Nat:=if Qa2 (upn x n k) n=true then (upn x n k).toNat else (n-1).toNat
theorem Qgo {x n:Int} {k:Nat} (h:0≤upn x n k):Qa2 (upn x n k) n=true:=(Qhq x n k h).1
theorem Qed {x n:Int} {k:Nat} (h:0≤upn x n k):((upN x n k:Nat):Int)=upn x n k:=by unfold upN; rw [if_pos (Qgo h)]; omega
theorem Qhs {P : Program} {m l:Nat} {x n:Int} {k:Nat} {W:World} {Q:Ending→World→Prop} (h0:0≤upn x n k) (h:YieldAt Fence.wide m P l #[.int .i64 ((upN x n k:Nat):Int)] W Q):YieldAt Fence.wide m P l #[.int .i64 (upn x n k)] W Q:=by rwa [Qed h0] at h
theorem Qh9 {n : Int} (h:QaG n=true):Qa2 (n-1) n=true:=by
  have:=Qa9 h
  unfold Qa2
  rw [h]
  simp
  omega
theorem Qi6 {x n:Int} (k:Nat) (h:QaG n=true):Qa2 ((upN x n k:Nat):Int) n=true:=by
  unfold upN
  split
  · next h2=>have:=(Qbh h2).1; rw [Int.toNat_of_nonneg this]; exact h2
  · have h3:=Qa9 h; rw [Int.toNat_of_nonneg (by omega)]; exact Qh9 h
theorem Ql8 {x n:Int} (k:Nat) (h:QaG n=true):((upN x n k:Nat):Int)≤2*n-2:=(Qbh (Qi6 (x:=x) k h)).2.2.1
theorem Qhp {x n:Int} {k:Nat} (h:upn x n k<0):∀ m,k≤m→upn x n m<0
  | 0,hm=>by
      obtain rfl:k=0:=by omega
      exact h
  | m+1,hm=>by
    by_cases e:k=m+1
    · rw [←e]; exact h
    · have h2:=Qhp h m (by omega)
      show par (upn x n m) n<0
      have:Qa2 (upn x n m) n=false:=by
        cases hd:Qa2 (upn x n m) n with
        | false=>rfl
        | true=>have:=Qbh hd; omega
      rw [QcR this]; decide
theorem Qe7 {q : List Nat} {z k:Nat} (h:q++[z]=List.range k):k=z+1∧q=List.range z:=by
  rcases k with _ | j
  · have:=congrArg List.length h; simp at this
  · rw [List.range_succ] at h
    have h2:=List.append_inj' h rfl
    have h3:z=j:=by simpa using h2.2
    subst h3
    exact ⟨rfl,h2.1⟩
theorem QfX (m : Nat) (gs:List Nat) (g1 g2:Nat) (x n:Int) (hx:i64 x) (w:World) (hTw:TabAt w) (r1w:w.heap[g1]? = some (.cells #[.int .i64 x] 3)) (r2w:w.heap[g2]? = some (.cells #[.int .i64 n] 3)) (n1:g1∉gs) (n2:g2∉gs) (nT:1∉gs) :
  SeqStopsK Fence.wide m Tryd.prog 80 #[.pointer (some ⟨g1,0,none⟩),.pointer (some ⟨g2,0,none⟩)] (fun i:Nat=>#[Value.int .i64 ((upN x n i:Nat):Int)]) (QbA gs) (SP x n) (SPp x n) 7 w:=fun l J Jx Wi hW hJ hJx hY h0=>by
 refine callsIn_wide.2 ?_
 have hT:TabAt Wi:=hTw.ext hW
 have r1:=Qah r1w hW
 have r2:=Qah r2w hW
 refine enter 17 [(0,.func (.yield l) #[] #[]),(1,.pointer (some ⟨g1,0,none⟩)),(2,.pointer (some ⟨g2,0,none⟩))] Tryd.func80 rfl rfl kj rfl ?_
 refine wp_seq_k fun K3 hK3=>?_
 refine Qab ?_
 refine Qaa (.int .i64 x) 5 rfl kj (Qag 3 _ g1 0 3 _ (.int .i64 x) _ r1 rfl kj kj kj) ?_
 refine Qaa (.int .i64 n) 6 rfl kj (Qag 3 _ g2 0 3 _ (.int .i64 n) _ r2 rfl kj kj kj) ?_
 refine Qal (.int .i64 (upn x n 0)) 81 #[.int .i64 x,.int .i64 n] 7 rfl kj kj ((fun W hT=>quiet (parent x n hx W hT)) _ hT) fun W1 e1=>?_
 have x1:Grew Wi W1:=Grew.ext (Grew.refl Wi) e1
 refine Qaa (.int .i64 (upn x n 0)) 4 rfl kj kj ?_
 refine Qaf ?_
 refine hK3 _ _ ?_
 refine wp_block ?_
 have f4_1:=(QeI hJ h0 e1)
 have r1_1:=(Qah r1 e1)
 have r2_1:=(Qah r2 e1)
 have f5_1:=(TabAt.ext hT e1)
 refine Qa0 (fun (s1:Nat)=>[(0,.func (.yield l) #[] #[]),(1,.pointer (some ⟨g1,0,none⟩)),(2,.pointer (some ⟨g2,0,none⟩)),(4,.int .i64 (upn x n s1))]) (fun (s1:Nat) W=>(s1≤6)∧(∀ i,i<s1→0≤upn x n i)∧(J (List.range s1) W)∧(W.heap[g1]? = some (.cells #[.int .i64 x] 3))∧(W.heap[g2]? = some (.cells #[.int .i64 n] 3))∧(TabAt W)∧(Grew Wi W)) (fun (s1:Nat)=>6-s1) 0 ⟨rfl,rfl,rfl,rfl,trivial⟩ ⟨(by omega),(fun i hi=>by omega),(show J (List.range 0) _ from f4_1),r1_1,r2_1,f5_1,x1⟩ fun s1 X1 V1 hI1=>?_
 obtain ⟨k,hs1⟩:∃ z,z=s1:=⟨_,rfl⟩
 subst hs1
 obtain ⟨hk,hall,hJ1,rr1,rr2,hT1,xx1⟩:=hI1
 replace hk:k≤6:=hk
 replace hall:∀ i,i<k→0≤upn x n i:=hall
 replace hJ1:J (List.range k) V1:=hJ1
 replace rr1:V1.heap[g1]? = some (.cells #[.int .i64 x] 3):=rr1
 replace rr2:V1.heap[g2]? = some (.cells #[.int .i64 n] 3):=rr2
 replace hT1:TabAt V1:=hT1
 replace xx1:Grew Wi V1:=xx1
 refine wp_seq_k fun K6 hK6=>?_
 refine wp_seq_k fun K7 hK7=>?_
 refine Qab ?_
 refine Qaa (.int .i64 (upn x n k)) 8 rfl kj kj ?_
 refine Qaa (.bool (decide ((upn x n k)≥0))) 9 rfl kj kj ?_
 refine Qaf ?_
 refine hK7 _ _ ?_
 refine Qar (t:=decide ((upn x n k)≥0)) kj (fun c8=>?_) (fun c8=>?_)
 ·skip
  have hk0:0≤upn x n k:=of_decide_eq_true c8
  have hk6:=Qhr hk0
  refine wp_skip ?_
  refine hK6 _ _ ?_
  refine wp_seq_k fun K9 hK9=>?_
  refine wp_block ?_
  refine wp_seq_k fun K10 hK10=>?_
  refine (wpIn_wide (n:=m)).1 ?_
  refine QbX ?_
  refine QcC (.func (.yield l) #[] #[]) 13 rfl (QbR _ _) rfl kj kj ?_
  refine QcC (.int .i64 (upn x n k)) 14 rfl (QbR _ _) rfl kj kj ?_
  refine Qjj (m:=m) (l:=l) (args:=#[.int .i64 (upn x n k)]) 15 rfl rfl kj kj (Qhs hk0 (hY (List.range k) k V1 hJ1 (by rw [List.length_range]; omega))) (fun W' hA=>?_) (fun W' hA=>?_)
  ·skip
   obtain ⟨W3,hW3⟩:∃ z,z=W':=⟨_,rfl⟩
   rw [←hW3] at hA ⊢
   obtain ⟨hj11,hk11⟩:=hA
   have x3:Grew Wi W3:=Grew.keepC xx1 hk11
   refine QcC (.bool false) 16 rfl (QbR _ _) rfl kj kj ?_
   refine Qer ?_
   refine hK10 _ _ ?_
   refine cond_false kj ?_
   refine wp_skip ?_
   refine hK9 _ _ ?_
   refine Qab ?_
   refine Qaa (.int .i64 (upn x n k)) 10 rfl kj kj ?_
   have r2_3:=(QbA.row hk11 rr2 n2)
   refine Qaa (.int .i64 n) 11 rfl kj (Qag 3 _ g2 0 3 _ (.int .i64 n) _ r2_3 rfl kj kj kj) ?_
   have f12_3:=(TabAt.keepC hT1 hk11 nT)
   refine Qal (.int .i64 (upn x n (k+1))) 81 #[.int .i64 (upn x n k),.int .i64 n] 12 rfl kj kj ((fun W hT=>quiet (parent (upn x n k) n (Qke x n k) W hT)) _ f12_3) fun W4 e4=>?_
   have x4:Grew Wi W4:=Grew.ext x3 e4
   refine Qaa (.int .i64 (upn x n (k+1))) 4 rfl kj kj ?_
   refine Qaf ?_
   have f13_4:=(QeI hJ hj11 e4)
   have r1_3:=(QbA.row hk11 rr1 n1)
   have r1_4:=(Qah r1_3 e4)
   have r2_4:=(Qah r2_3 e4)
   have f14_4:=(TabAt.ext f12_3 e4)
   repeat (first | with_reducible refine goX1 ?_ | with_reducible refine goX2 ?_ | with_reducible refine goX3 ?_)
   exact Qat (k+1) ⟨rfl,rfl,rfl,rfl,trivial⟩ ⟨(by omega),(fun i hi=>by rcases Nat.lt_or_ge i k with h | h; exact hall i h; rw [show i=k by omega]; exact hk0),(by rw [List.range_succ]; exact f13_4),r1_4,r2_4,f14_4,x4⟩ (by show 6-(k+1)<6-k; omega)
  ·skip
   obtain ⟨W3,hW3⟩:∃ z,z=W':=⟨_,rfl⟩
   rw [←hW3] at hA ⊢
   refine QcC (.bool true) 16 rfl (QbR _ _) rfl kj kj ?_
   refine Qer ?_
   refine hK10 _ _ ?_
   refine cond_true kj ?_
   refine wp_ret ?_
   repeat (first | with_reducible refine goR1 ?_ | with_reducible refine goR2 ?_)
   exact (show bodyPost _ _ _ .ret _ _ from ret0 rfl ⟨⟨_,rfl⟩,.inr ⟨_,⟨k+1,List.range_succ.symm,fun i hi=>by rcases Nat.lt_or_ge i k with h | h; exact hall i h; rw [show i=k by omega]; exact hk0⟩,hA⟩⟩)
 ·skip
  have hk0:upn x n k<0:=by have:=of_decide_eq_false c8; omega
  refine wp_exit ?_
  repeat (first | with_reducible refine goX1 ?_ | with_reducible refine goX2 ?_ | with_reducible refine goX3 ?_)
  exact (show bodyPost _ _ _ .normal _ _ from end0 rfl ⟨⟨_,rfl⟩,.inl ⟨_,⟨k,rfl,hk0,hall⟩,hJ1⟩⟩)
end Go.Proofs.YthfkppjajmjpnaaDoor.Te
end
section
namespace Go.Proofs.YthfkppjajmjpnaaDoor.Auto
open Go Go.RowKit
open Rely Own
variable {ds : List Deferred} {Fe : Fence} {nf : Nat}
section
variable {P : Program} {ops : Array Oper} {Q : Exit → Act → World → Prop} {rest : List Oper} {o : Oper} {N : Nat} {L : Env} {w : World}
theorem Qic (d : Nat) (hd:o.dst=some d) (hF:Free Fe nf P) (hnd:QbL o=true) (hg:Qbu ops o N L=some false) (k:WLI Fe nf P ops Q rest (Qa3 ds N ((d,undef)::L)) w):WLI Fe nf P ops Q (o::rest) (Qa3 ds N L) w :=
  ⟨wpListIn_step fun K hK=>by
    rw [if_neg (by rw [QbS hg]; decide),hd,Qbb]
    exact ⟨fun f _=>hF.fn f,hK _ _ k.out⟩⟩
theorem QkX (v : Value) (f:FuncId) (args:Array Value) (d:Nat) (hd:o.dst=some d) (hF:Free Fe nf P) (hnd:QbL o=true) (hg:Qbu ops o N L=some true) (h:(execOp (Rely.look (envN N L)) o).run P w=.ok (.enter f args) w)
    (hc:Calls P f args w (Ret w v)) (k:∀ W:World,Ext w W→WLI Fe nf P ops Q rest (Qa3 ds N ((d,v)::L)) W):WLI Fe nf P ops Q (o::rest) (Qa3 ds N L) w :=
  Qjm hF hnd hg fun K hK=>by
    rw [h]
    refine ⟨hF.dp,(hF.calls hc).mono ?_⟩
    rintro e w' ⟨rfl,hw⟩
    show K _ _
    rw [hd,Qbb]
    exact hK _ _ (k _ hw)
end
section
variable {P : Program} {Q : Exit → Act → World → Prop} {w : World} {N : Nat} {L : Env}
theorem Qfh {c : Operand} {x y:Code} (hc:Rely.look (envN N L) c=.bool false) (h:y.wpIn Fe nf P Q (Qa3 ds N L) w):(Code.cond c x y).wpIn Fe nf P Q (Qa3 ds N L) w:=wpIn_cond_false (by rw [Qbj]; exact hc) h
end
theorem QeF {P : Program} {id:Nat} {Q:Exit→Act→World→Prop} {N:Nat} {L:Env} {w:World} {l:List Oper} (n:Nat) (S:List Srq) (hFr:Free Fe nf P) (hdf:(l.all QbL)=true) (hm:P.follows .mixedOrders=true) (hok:ok l n N S=true)
    (h:∀ F:List KE→Prop,(∀ C,(∀ W,Ext w W→finE (fun L W=>WLI Fe nf P l.toArray Q (l.drop n) (Qa3 ds N L) W) (l.take n) C L W)→F C)→Qbs P Ext w.drew N L F (l.take n) S []) :
    (Code.region id l.toArray true).wpIn Fe nf P Q (Qa3 ds N L) w :=
  Qhf Ext Rely.Ext.refl Rely.Ext.trans n S hFr hdf hm hok fun F hF=>h F fun C hC=>hF C fun W hR=>hC W (Rely.Ext.trans (Qax w) hR)
section
variable {P : Program} {ops : Array Oper} {Q : Exit → Act → World → Prop} {rest : List Oper} {o : Oper} {N : Nat} {L : Env} {W : World}
end
end Go.Proofs.YthfkppjajmjpnaaDoor.Auto
end
section
namespace Go.Proofs.YthfkppjajmjpnaaDoor.Auto
open Go Go.RowKit
open Rely
theorem Qcf {P : Program} {w:World} {N:Nat} {L:Env} {a:Tmp} {ty:TypeId} (g:Nat) (t:TypeId) (cs:Array Value) (v:Value) (hg:w.heap[g]? = some (.cells cs t)) (ha:envN N L a=.pointer (some ⟨g,0,none⟩)) (hu:aggD P ty=some false) (hp:cs[0]? = some v) :
    Qew P w N L (.cell a ty) v:=by
  refine ⟨_,ha,?_⟩
  unfold aggD at hu
  cases hd:P.underlying ty with
  | none=>rw [hd] at hu; cases hu
  | some d =>
    rw [hd] at hu
    have hdd:aggB d=false:=Option.some.inj hu
    have hc:w.cell? ⟨g,0,none⟩=some v:=(cell_of_row w g 0 cs t _ hg).trans hp
    have hagg:(isAgg ty).run P w=.ok false w:=by
      unfold isAgg
      rw [Sem.run_bind,run_underlying hd w]
      cases d <;> first | rfl | cases hdd
    simp [loadVar,Sem.run_bind,hagg,hc]
theorem QhN {W : World} {g D:Nat} {cs:Array Value} {t:TypeId} {b:Option (List Deferred)} (h:W.heap[g]? = some (.cells cs t)) (hD:W.heap[D]? = some (.deferred b)):D≠g:=fun e=>by
  subst e
  rw [h] at hD
  cases hD
section
variable {P : Program} {fn : Func} {R : Ending → World → Prop} {N : Nat} {L : Env} {w : World}
theorem Qk4 {D : Nat} {r:ResultVar} (v:Value) (hr:fn.results=#[r]) (hD:w.heap[D]? = some (.deferred (some []))) (h:Qew P (w.putObj D (.deferred none)) N L r v) (k:R (.returned v) (w.putObj D (.deferred none))):bodyPostM Fence.wide 3 P fn R .ret (Qa3 [mark D] N L) w :=
  ⟨by simp,.inl ⟨_,_,rfl,run_takeDeferred hD,⟨_,Qd8 hr h,k⟩⟩⟩
end
end Go.Proofs.YthfkppjajmjpnaaDoor.Auto
end
section
namespace Go.Proofs.YthfkppjajmjpnaaDoor.Auto
open Go Go.RowKit
open Rely
section
variable {P : Program} {Rd : World → Prop} {w0 : World} {base N : Nat} {L : Env} {U : List Nat} {F : List Kn → Prop} {o : Oper} {os : List Oper} {s : Srq} {ss : List Srq} {C : List Kn}
end
end Go.Proofs.YthfkppjajmjpnaaDoor.Auto
end
section
namespace Go.Proofs.YthfkppjajmjpnaaDoor.Auto
open Go Go.RowKit
open Rely Own
variable {ds : List Deferred}
theorem QgU {α : Type} {P:Program} {g:Operand} {p:Tmp} {assign body:Code} {Q:Exit→Act→World→Prop} {N:Nat} {L:Env} {w:World}
    {gf:Nat} {lb:Array Value} (hg:Rely.look (envN N L) g=.func (.func gf) #[] lb) (eg:∀ args w,(callFunc gf args).run P w=.ok (.enter gf args) w)
    {enc:α→Value} {Kp:World→World→Prop} {S Sp:List α→Prop} {M:Nat} {w0:World} (hseq:SeqStopsK Fence.wide 2 P gf lb (fun x=>#[enc x]) Kp S Sp M w0)
    (hKt:∀ {A B C:World},Kp A B→Kp B C→Kp A C) (hKb:∀ (W:World) (l:Nat) (o o':Obj),w.heap.size≤l→W.heap[l]? = some o→o.isCells=false→o.isWalk=false→Kp W (W.putObj l o')) (hb0:Below w0.heap.size w0 w)
    (I:List α→World→Prop) (Ix:Code→List α→World→Prop) (hI:OwnFrom w.heap.size I) (hIx:∀ c,OwnFrom w.heap.size (Ix c)) (h0:I [] w) (asg:α→Env)
    (hassign:∀ (l:Nat) (x:α) (W:World) (K:Act→World→Prop),K (Qa3 [] N (asg x++L)) W→assign.wpIn (Fence.wide.inRound l) 1 P (Exit.then K (fun _ _ _=>False)) (Qa3 [] N ((p,enc x)::L)) W)
    (hbody:∀ (l:Nat) (pre:List α) (x:α) (W:World),I pre W→pre.length<M→body.wpIn (Fence.wide.inRound l) 1 P (ownPostK Kp I Ix (pre++[x]) W) (Qa3 [] N (asg x++L)) W)
    (hdone:∀ (D:Nat) (xs:List α) (W:World),w.heap.size≤D→S xs→I xs W→W.heap[D]? = some (.deferred (some []))→Q .normal (Qa3 (mark D::ds) N L) W)
    (hstop:∀ (D:Nat) (c:Code) (pre:List α) (W:World),w.heap.size≤D→Sp pre→Ix c pre W→W.heap[D]? = some (.deferred (some []))→c.wp P Q (Qa3 (mark D::ds) N L) W) :
    (Code.rangeFunc g #[p] assign body).wp P Q (Qa3 ds N L) w:=by
  refine (wpIn_wide (n:=3)).1 ?_
  refine wpIn_rangeFunc_ownF rfl (by omega) (by rw [Qbj]; exact hg) trivial eg (w0:=w0) hseq hKt hKb hb0 (fun _=>rfl) I Ix hI hIx h0 (fun x=>Qa3 [] N (asg x++L)) (fun l x W K hK=>?_) hbody ?_ ?_
  · rw [QfU]
    exact hassign l x W K hK
  · intro D xs W h1 h2 h3 h4
    exact hdone D xs W h1 h2 h3 h4
  · intro D c pre W h1 h2 h3 h4
    exact wpIn_wide.2 (hstop D c pre W h1 h2 h3 h4)
section
variable {P : Program} {fn : Func} {R : Ending → World → Prop} {N : Nat} {L : Env} {w : World}
end
section
variable {P : Program} {fn : Func} {R : Ending → World → Prop} {N : Nat} {L : Env} {w : World}
end
end Go.Proofs.YthfkppjajmjpnaaDoor.Auto
end
section
namespace Go.Proofs.YthfkppjajmjpnaaDoor.Te
open Go Go.RowKit
open Rely Auto Own Seat Sha
theorem QgI (x n:Int) (hx:i64 x) (W:World) (hT:TabAt W):Calls Tryd.prog 60 #[.int .i64 x,.int .i64 n] W (Ret W (.tuple #[.int .i64 (bel x n).1,.int .i64 (bel x n).2])):=quiet (below x n hx W hT)
theorem Qlr : Qbp (fun n x=>decide (0≤(bel x n).1)&&decide ((bel x n).2<n))=true:=by decide +kernel
theorem Qca {x n:Int} (h:Qa2 x n=true):0≤(bel x n).1∧(bel x n).2<n:=by
  have:=QaJ Qlr h
  simp only [Bool.and_eq_true,decide_eq_true_eq] at this
  exact this
def QdK (x y n:Int) (k:Nat):Bool:=decide (upn y n k<0) || (List.range (k+1)).any fun j=>upn y n j==x
def okU (ts : List NdV) (i n:Int) (k:Nat):Bool:=!(ndi ts (upN (2*i) n k)).n.us || decide (i∈(ndi ts (upN (2*i) n k)).n.ms)
def Qbg (ts : List NdV) (n x i:Int):Bool:=decide ((bel x n).1≤i)&&decide (i≤(bel x n).2)&&(ndi ts (2*i).toNat).n.us&&(List.range 6).all fun k=>QdK x (2*i) n k || okU ts i n k
theorem Qiy {ts : List NdV} {i n x:Int} {k:Nat} (h:∀ j,j<k→okU ts i n j=true) (hs:upn (2*i) n k<0∨upn (2*i) n k=x):((List.range 6).all fun k=>QdK x (2*i) n k || okU ts i n k)=true:=by
  rw [List.all_eq_true]
  intro m _
  rw [Bool.or_eq_true]
  by_cases hm:m<k
  · exact .inr (h m hm)
  · left
    unfold QdK
    rw [Bool.or_eq_true]
    rcases hs with hs | hs
    · exact .inl (decide_eq_true (Qhp hs m (by omega)))
    · right
      rw [List.any_eq_true]
      exact ⟨k,List.mem_range.2 (by omega),by rw [hs]; exact beq_self_eq_true _⟩
theorem Qmp {ts : List NdV} {i n x:Int} {k:Nat} (h0:∀ j,j≤k→0≤upn (2*i) n j∧upn (2*i) n j≠x) (hb:okU ts i n k=false):((List.range 6).all fun k=>QdK x (2*i) n k || okU ts i n k)=false:=by
  rw [List.all_eq_false]
  refine ⟨k,List.mem_range.2 (Qhr (h0 k (qR _)).1),?_⟩
  rw [hb,Bool.or_false]
  unfold QdK
  rw [decide_eq_false (by have:=(h0 k (qR _)).1; omega),Bool.false_or]
  intro hc
  rw [List.any_eq_true] at hc
  obtain ⟨j,hj,e⟩:=hc
  exact (h0 j (by have:=List.mem_range.1 hj; omega)).2 (eq_of_beq e)
theorem Qfq {ts : List NdV} {n x i:Int} (h:i<(bel x n).1):Qbg ts n x i=false:=by unfold Qbg; rw [decide_eq_false (by omega)]; rfl
theorem Qe5 {ts : List NdV} {n x i:Int} (h:(bel x n).2<i):Qbg ts n x i=false:=by unfold Qbg; rw [decide_eq_false (show ¬ i≤(bel x n).2 by omega)]; simp
theorem QeO {ts : List NdV} {n x:Int} {m:Nat} (h:(ndi ts (2*m)).n.us=false):Qbg ts n x ((m:Nat):Int)=false:=by unfold Qbg; rw [show (2*((m:Nat):Int)).toNat=2*m by omega,h]; simp
theorem QeP {ts : List NdV} {n x:Int} {m:Nat} (h1:(bel x n).1≤((m:Nat):Int)) (h2:((m:Nat):Int)≤(bel x n).2) (h:(ndi ts (2*m)).n.us=true):Qbg ts n x ((m:Nat):Int)=(List.range 6).all fun k=>QdK x (2*((m:Nat):Int)) n k || okU ts ((m:Nat):Int) n k:=by unfold Qbg; rw [show (2*((m:Nat):Int)).toNat=2*m by omega,h,decide_eq_true h1,decide_eq_true h2]; rfl
set_option maxRecDepth 100000 in
theorem QjV (ts : List NdV) (a_t:Option Addr) (c_t B1:Nat) (w:World) (ht:TrAt B1 w a_t ts) (L:Nat) (hL:leaves ((ts.length:Nat):Int)=((L:Nat):Int)) (hlen:ts.length+1=2*L) (hTr:QaG ((L:Nat):Int)=true) (hmt:∀ i,i<ts.length→(ndi ts i).n.ms.length≤1000000) (x:Int) (hxn:Qa2 x ((L:Nat):Int)=true) (hT:TabAt w) (i:Int) (h:i<(bel x ((L:Nat):Int)).1):Calls Tryd.prog 65 #[.slice a_t ts.length c_t,.int .i64 x,.int .i64 i] w (Ret w (.bool (Qbg ts ((L:Nat):Int) x i))):=by
  have hbn:=Qca hxn
  have hxb:=Qbh hxn
  have hx0:0≤x:=hxb.1
  have hxi:i64 x:=⟨by omega,by omega⟩
  refine enter 60 [(0,.slice a_t ts.length c_t),(1,.int .i64 x),(2,.int .i64 i)] Tryd.func65 rfl rfl kj rfl ?_
  refine wp_seq_k fun K1 hK1=>?_
  refine Qab ?_
  refine Qan (#[.slice a_t ts.length c_t]) 23 3 rfl kj kj fun g2 W1 l2 e1 r2_1=>?_
  have x1:Ext w W1:=Ext.tr (Rely.Ext.refl w) e1
  have b2:w.heap.size≤g2:=qT (Rely.Ext.refl w).size l2
  refine Qan (#[.int .i64 x]) 3 4 rfl kj kj fun g3 W2 l3 e2 r3_2=>?_
  have x2:Ext w W2:=Ext.tr x1 e2
  have b3:w.heap.size≤g3:=qT x1.size l3
  refine Qan (#[.int .i64 i]) 3 5 rfl kj kj fun g4 W3 l4 e3 r4_3=>?_
  have x3:Ext w W3:=Ext.tr x2 e3
  have b4:w.heap.size≤g4:=qT x2.size l4
  refine Qan (#[.bool false]) 4 6 rfl kj kj fun g5 W4 l5 e4 r5_4=>?_
  have x4:Ext w W4:=Ext.tr x3 e4
  have b5:w.heap.size≤g5:=qT x3.size l5
  refine Qaf ?_
  refine hK1 _ _ ?_
  refine wp_seq_k fun K6 hK6=>?_
  refine Qab ?_
  have r2_2:=(Qah r2_1 e2)
  have r2_3:=(Qah r2_2 e3)
  have r2_4:=(Qah r2_3 e4)
  refine Qaa (.slice a_t ts.length c_t) 11 rfl kj (Qag 23 _ g2 0 23 _ (.slice a_t ts.length c_t) _ r2_4 rfl kj kj kj) ?_
  refine Qaa (.int .i64 ((ts.length:Nat):Int)) 12 rfl kj kj ?_
  refine Qal (.int .i64 ((L:Nat):Int)) 29 #[.int .i64 ((ts.length:Nat):Int)] 13 rfl kj kj (Qcd ((ts.length:Nat):Int) ⟨by omega,by omega⟩ _ hL _) fun W5 e5=>?_
  have x5:Ext w W5:=Ext.tr x4 e5
  refine Qaa (.int .i64 ((L:Nat):Int)) 7 rfl kj kj ?_
  refine Qaf ?_
  refine hK6 _ _ ?_
  refine wp_seq_k fun K7 hK7=>?_
  refine Qab ?_
  have r3_3:=(Qah r3_2 e3)
  have r3_4:=(Qah r3_3 e4)
  have r3_5:=(Qah r3_4 e5)
  refine Qaa (.int .i64 x) 15 rfl kj (Qag 3 _ g3 0 3 _ (.int .i64 x) _ r3_5 rfl kj kj kj) ?_
  refine Qaa (.int .i64 ((L:Nat):Int)) 16 rfl kj kj ?_
  refine Qal (.tuple #[.int .i64 (bel x ((L:Nat):Int)).1,.int .i64 (bel x ((L:Nat):Int)).2]) 60 #[.int .i64 x,.int .i64 ((L:Nat):Int)] 17 rfl kj kj (QgI x ((L:Nat):Int) hxi _ (TabAt.ext hT x5)) fun W6 e6=>?_
  have x6:Ext w W6:=Ext.tr x5 e6
  refine Qaa (.tuple #[.int .i64 (bel x ((L:Nat):Int)).1,.int .i64 (bel x ((L:Nat):Int)).2]) 14 rfl kj kj ?_
  refine Qaa (.int .i64 ((bel x ((L:Nat):Int)).1)) 18 rfl kj kj ?_
  refine Qaa (.int .i64 ((bel x ((L:Nat):Int)).2)) 19 rfl kj kj ?_
  refine Qaa (.int .i64 ((bel x ((L:Nat):Int)).1)) 8 rfl kj kj ?_
  refine Qaa (.int .i64 ((bel x ((L:Nat):Int)).2)) 9 rfl kj kj ?_
  refine Qaf ?_
  refine hK7 _ _ ?_
  refine wp_seq_k fun K8 hK8=>?_
  refine wp_seq_k fun K9 hK9=>?_
  refine Qab ?_
  have r4_4:=(Qah r4_3 e4)
  have r4_5:=(Qah r4_4 e5)
  have r4_6:=(Qah r4_5 e6)
  refine Qaa (.int .i64 i) 20 rfl kj (Qag 3 _ g4 0 3 _ (.int .i64 i) _ r4_6 rfl kj kj kj) ?_
  refine Qaa (.int .i64 ((bel x ((L:Nat):Int)).1)) 21 rfl kj kj ?_
  refine Qaa (.bool true) 22 rfl kj (Qai (u:=.bool (decide (i<((bel x ((L:Nat):Int)).1)))) kj (congrArg Value.bool (decide_eq_true (by omega)))) ?_
  refine Qaa (.bool true) 23 rfl kj kj ?_
  refine Qad 24 rfl kj ?_
  refine Qad 25 rfl kj ?_
  refine Qad 26 rfl kj ?_
  refine Qaa (.bool true) 27 rfl kj kj ?_
  refine Qaa (.bool true) 28 rfl kj kj ?_
  refine Qad 29 rfl kj ?_
  refine Qad 30 rfl kj ?_
  refine Qad 31 rfl kj ?_
  refine Qad 32 rfl kj ?_
  refine Qad 33 rfl kj ?_
  refine Qad 34 rfl kj ?_
  refine Qad 35 rfl kj ?_
  refine Qaa (.bool true) 36 rfl kj kj ?_
  refine Qaf ?_
  refine hK9 _ _ ?_
  refine cond_true kj ?_
  refine wp_seq_k fun K10 hK10=>?_
  refine Qab ?_
  have r5_5:=(Qah r5_4 e5)
  have r5_6:=(Qah r5_5 e6)
  refine Qau g5 _ (#[.bool false]) 4 r5_6 rfl kj (QaW 4 _ _ g5 0 4 _ (.bool false) r5_6 rfl kj kj kj kj kj rfl) fun W7 p7 r5_7=>?_
  have x7:Ext w W7:=Puts.ext p7 x6 b5
  refine Qaf ?_
  refine hK10 _ _ ?_
  refine wp_ret ?_
  repeat (first | with_reducible refine goR1 ?_ | with_reducible refine goR2 ?_)
  exact (show bodyPost _ _ _ .ret _ _ from ret1 (.bool false) rfl (Qcf g5 4 _ (.bool false) r5_7 kj kj rfl) ⟨congrArg (fun z=>Ending.returned (.bool z)) (Qfq h).symm,x7⟩)
set_option maxRecDepth 100000 in
theorem QjU (ts : List NdV) (a_t:Option Addr) (c_t B1:Nat) (w:World) (ht:TrAt B1 w a_t ts) (L:Nat) (hL:leaves ((ts.length:Nat):Int)=((L:Nat):Int)) (hlen:ts.length+1=2*L) (hTr:QaG ((L:Nat):Int)=true) (hmt:∀ i,i<ts.length→(ndi ts i).n.ms.length≤1000000) (x:Int) (hxn:Qa2 x ((L:Nat):Int)=true) (hT:TabAt w) (i:Int) (h0:(bel x ((L:Nat):Int)).1≤i) (h:(bel x ((L:Nat):Int)).2<i):Calls Tryd.prog 65 #[.slice a_t ts.length c_t,.int .i64 x,.int .i64 i] w (Ret w (.bool (Qbg ts ((L:Nat):Int) x i))):=by
  have hbn:=Qca hxn
  have hxb:=Qbh hxn
  have hx0:0≤x:=hxb.1
  have hxi:i64 x:=⟨by omega,by omega⟩
  refine enter 60 [(0,.slice a_t ts.length c_t),(1,.int .i64 x),(2,.int .i64 i)] Tryd.func65 rfl rfl kj rfl ?_
  refine wp_seq_k fun K1 hK1=>?_
  refine Qab ?_
  refine Qan (#[.slice a_t ts.length c_t]) 23 3 rfl kj kj fun g2 W1 l2 e1 r2_1=>?_
  have x1:Ext w W1:=Ext.tr (Rely.Ext.refl w) e1
  have b2:w.heap.size≤g2:=qT (Rely.Ext.refl w).size l2
  refine Qan (#[.int .i64 x]) 3 4 rfl kj kj fun g3 W2 l3 e2 r3_2=>?_
  have x2:Ext w W2:=Ext.tr x1 e2
  have b3:w.heap.size≤g3:=qT x1.size l3
  refine Qan (#[.int .i64 i]) 3 5 rfl kj kj fun g4 W3 l4 e3 r4_3=>?_
  have x3:Ext w W3:=Ext.tr x2 e3
  have b4:w.heap.size≤g4:=qT x2.size l4
  refine Qan (#[.bool false]) 4 6 rfl kj kj fun g5 W4 l5 e4 r5_4=>?_
  have x4:Ext w W4:=Ext.tr x3 e4
  have b5:w.heap.size≤g5:=qT x3.size l5
  refine Qaf ?_
  refine hK1 _ _ ?_
  refine wp_seq_k fun K6 hK6=>?_
  refine Qab ?_
  have r2_2:=(Qah r2_1 e2)
  have r2_3:=(Qah r2_2 e3)
  have r2_4:=(Qah r2_3 e4)
  refine Qaa (.slice a_t ts.length c_t) 11 rfl kj (Qag 23 _ g2 0 23 _ (.slice a_t ts.length c_t) _ r2_4 rfl kj kj kj) ?_
  refine Qaa (.int .i64 ((ts.length:Nat):Int)) 12 rfl kj kj ?_
  refine Qal (.int .i64 ((L:Nat):Int)) 29 #[.int .i64 ((ts.length:Nat):Int)] 13 rfl kj kj (Qcd ((ts.length:Nat):Int) ⟨by omega,by omega⟩ _ hL _) fun W5 e5=>?_
  have x5:Ext w W5:=Ext.tr x4 e5
  refine Qaa (.int .i64 ((L:Nat):Int)) 7 rfl kj kj ?_
  refine Qaf ?_
  refine hK6 _ _ ?_
  refine wp_seq_k fun K7 hK7=>?_
  refine Qab ?_
  have r3_3:=(Qah r3_2 e3)
  have r3_4:=(Qah r3_3 e4)
  have r3_5:=(Qah r3_4 e5)
  refine Qaa (.int .i64 x) 15 rfl kj (Qag 3 _ g3 0 3 _ (.int .i64 x) _ r3_5 rfl kj kj kj) ?_
  refine Qaa (.int .i64 ((L:Nat):Int)) 16 rfl kj kj ?_
  refine Qal (.tuple #[.int .i64 (bel x ((L:Nat):Int)).1,.int .i64 (bel x ((L:Nat):Int)).2]) 60 #[.int .i64 x,.int .i64 ((L:Nat):Int)] 17 rfl kj kj (QgI x ((L:Nat):Int) hxi _ (TabAt.ext hT x5)) fun W6 e6=>?_
  have x6:Ext w W6:=Ext.tr x5 e6
  refine Qaa (.tuple #[.int .i64 (bel x ((L:Nat):Int)).1,.int .i64 (bel x ((L:Nat):Int)).2]) 14 rfl kj kj ?_
  refine Qaa (.int .i64 ((bel x ((L:Nat):Int)).1)) 18 rfl kj kj ?_
  refine Qaa (.int .i64 ((bel x ((L:Nat):Int)).2)) 19 rfl kj kj ?_
  refine Qaa (.int .i64 ((bel x ((L:Nat):Int)).1)) 8 rfl kj kj ?_
  refine Qaa (.int .i64 ((bel x ((L:Nat):Int)).2)) 9 rfl kj kj ?_
  refine Qaf ?_
  refine hK7 _ _ ?_
  refine wp_seq_k fun K8 hK8=>?_
  refine wp_seq_k fun K9 hK9=>?_
  refine Qab ?_
  have r4_4:=(Qah r4_3 e4)
  have r4_5:=(Qah r4_4 e5)
  have r4_6:=(Qah r4_5 e6)
  refine Qaa (.int .i64 i) 20 rfl kj (Qag 3 _ g4 0 3 _ (.int .i64 i) _ r4_6 rfl kj kj kj) ?_
  refine Qaa (.int .i64 ((bel x ((L:Nat):Int)).1)) 21 rfl kj kj ?_
  refine Qaa (.bool false) 22 rfl kj (Qai (u:=.bool (decide (i<((bel x ((L:Nat):Int)).1)))) kj (congrArg Value.bool (decide_eq_false (by omega)))) ?_
  refine Qaa (.bool false) 23 rfl kj kj ?_
  refine Qaa (.int .i64 i) 24 rfl kj (Qag 3 _ g4 0 3 _ (.int .i64 i) _ r4_6 rfl kj kj kj) ?_
  refine Qaa (.int .i64 ((bel x ((L:Nat):Int)).2)) 25 rfl kj kj ?_
  refine Qaa (.bool true) 26 rfl kj (Qai (u:=.bool (decide (i>((bel x ((L:Nat):Int)).2)))) kj (congrArg Value.bool (decide_eq_true (by omega)))) ?_
  refine Qaa (.bool true) 27 rfl kj kj ?_
  refine Qaa (.bool true) 28 rfl kj kj ?_
  refine Qad 29 rfl kj ?_
  refine Qad 30 rfl kj ?_
  refine Qad 31 rfl kj ?_
  refine Qad 32 rfl kj ?_
  refine Qad 33 rfl kj ?_
  refine Qad 34 rfl kj ?_
  refine Qad 35 rfl kj ?_
  refine Qaa (.bool true) 36 rfl kj kj ?_
  refine Qaf ?_
  refine hK9 _ _ ?_
  refine cond_true kj ?_
  refine wp_seq_k fun K10 hK10=>?_
  refine Qab ?_
  have r5_5:=(Qah r5_4 e5)
  have r5_6:=(Qah r5_5 e6)
  refine Qau g5 _ (#[.bool false]) 4 r5_6 rfl kj (QaW 4 _ _ g5 0 4 _ (.bool false) r5_6 rfl kj kj kj kj kj rfl) fun W7 p7 r5_7=>?_
  have x7:Ext w W7:=Puts.ext p7 x6 b5
  refine Qaf ?_
  refine hK10 _ _ ?_
  refine wp_ret ?_
  repeat (first | with_reducible refine goR1 ?_ | with_reducible refine goR2 ?_)
  exact (show bodyPost _ _ _ .ret _ _ from ret1 (.bool false) rfl (Qcf g5 4 _ (.bool false) r5_7 kj kj rfl) ⟨congrArg (fun z=>Ending.returned (.bool z)) (Qe5 h).symm,x7⟩)
set_option maxRecDepth 100000 in
theorem QjT (ts : List NdV) (a_t:Option Addr) (c_t B1:Nat) (w:World) (ht:TrAt B1 w a_t ts) (L:Nat) (hL:leaves ((ts.length:Nat):Int)=((L:Nat):Int)) (hlen:ts.length+1=2*L) (hTr:QaG ((L:Nat):Int)=true) (hmt:∀ i,i<ts.length→(ndi ts i).n.ms.length≤1000000) (x:Int) (hxn:Qa2 x ((L:Nat):Int)=true) (hT:TabAt w) (m:Nat) (h1:(bel x ((L:Nat):Int)).1≤((m:Nat):Int)) (h2:((m:Nat):Int)≤(bel x ((L:Nat):Int)).2) (hus:(ndi ts (2*m)).n.us=false):Calls Tryd.prog 65 #[.slice a_t ts.length c_t,.int .i64 x,.int .i64 ((m:Nat):Int)] w (Ret w (.bool (Qbg ts ((L:Nat):Int) x ((m:Nat):Int)))):=by
 have hbn:=Qca hxn
 have hxb:=Qbh hxn
 have hx0:0≤x:=hxb.1
 have hxi:i64 x:=⟨by omega,by omega⟩
 have hm:2*m<ts.length:=by omega
 have hYi:i64 (2*((m:Nat):Int)):=⟨by omega,by omega⟩
 refine enter 60 [(0,.slice a_t ts.length c_t),(1,.int .i64 x),(2,.int .i64 ((m:Nat):Int))] Tryd.func65 rfl rfl kj rfl ?_
 refine wp_seq_k fun K1 hK1=>?_
 refine Qab ?_
 refine Qan (#[.slice a_t ts.length c_t]) 23 3 rfl kj kj fun g2 W1 l2 e1 r2_1=>?_
 have x1:Ext w W1:=Ext.tr (Rely.Ext.refl w) e1
 have b2:w.heap.size≤g2:=qT (Rely.Ext.refl w).size l2
 refine Qan (#[.int .i64 x]) 3 4 rfl kj kj fun g3 W2 l3 e2 r3_2=>?_
 have x2:Ext w W2:=Ext.tr x1 e2
 have b3:w.heap.size≤g3:=qT x1.size l3
 refine Qan (#[.int .i64 ((m:Nat):Int)]) 3 5 rfl kj kj fun g4 W3 l4 e3 r4_3=>?_
 have x3:Ext w W3:=Ext.tr x2 e3
 have b4:w.heap.size≤g4:=qT x2.size l4
 refine Qan (#[.bool false]) 4 6 rfl kj kj fun g5 W4 l5 e4 r5_4=>?_
 have x4:Ext w W4:=Ext.tr x3 e4
 have b5:w.heap.size≤g5:=qT x3.size l5
 refine Qaf ?_
 refine hK1 _ _ ?_
 refine wp_seq_k fun K6 hK6=>?_
 refine Qab ?_
 have r2_2:=(Qah r2_1 e2)
 have r2_3:=(Qah r2_2 e3)
 have r2_4:=(Qah r2_3 e4)
 refine Qaa (.slice a_t ts.length c_t) 11 rfl kj (Qag 23 _ g2 0 23 _ (.slice a_t ts.length c_t) _ r2_4 rfl kj kj kj) ?_
 refine Qaa (.int .i64 ((ts.length:Nat):Int)) 12 rfl kj kj ?_
 refine Qal (.int .i64 ((L:Nat):Int)) 29 #[.int .i64 ((ts.length:Nat):Int)] 13 rfl kj kj (Qcd ((ts.length:Nat):Int) ⟨by omega,by omega⟩ _ hL _) fun W5 e5=>?_
 have x5:Ext w W5:=Ext.tr x4 e5
 refine Qaa (.int .i64 ((L:Nat):Int)) 7 rfl kj kj ?_
 refine Qaf ?_
 refine hK6 _ _ ?_
 refine wp_seq_k fun K7 hK7=>?_
 refine Qab ?_
 have r3_3:=(Qah r3_2 e3)
 have r3_4:=(Qah r3_3 e4)
 have r3_5:=(Qah r3_4 e5)
 refine Qaa (.int .i64 x) 15 rfl kj (Qag 3 _ g3 0 3 _ (.int .i64 x) _ r3_5 rfl kj kj kj) ?_
 refine Qaa (.int .i64 ((L:Nat):Int)) 16 rfl kj kj ?_
 refine Qal (.tuple #[.int .i64 (bel x ((L:Nat):Int)).1,.int .i64 (bel x ((L:Nat):Int)).2]) 60 #[.int .i64 x,.int .i64 ((L:Nat):Int)] 17 rfl kj kj (QgI x ((L:Nat):Int) hxi _ (TabAt.ext hT x5)) fun W6 e6=>?_
 have x6:Ext w W6:=Ext.tr x5 e6
 refine Qaa (.tuple #[.int .i64 (bel x ((L:Nat):Int)).1,.int .i64 (bel x ((L:Nat):Int)).2]) 14 rfl kj kj ?_
 refine Qaa (.int .i64 ((bel x ((L:Nat):Int)).1)) 18 rfl kj kj ?_
 refine Qaa (.int .i64 ((bel x ((L:Nat):Int)).2)) 19 rfl kj kj ?_
 refine Qaa (.int .i64 ((bel x ((L:Nat):Int)).1)) 8 rfl kj kj ?_
 refine Qaa (.int .i64 ((bel x ((L:Nat):Int)).2)) 9 rfl kj kj ?_
 refine Qaf ?_
 refine hK7 _ _ ?_
 refine wp_seq_k fun K8 hK8=>?_
 refine wp_seq_k fun K9 hK9=>?_
 obtain ⟨gtT,otT,hat,hnts⟩:=TrAt.ext ht x6
 have hnt:=hnts (2*m) (by omega)
 obtain ⟨nt,ent⟩:∃ z,z=ndi ts (2*m):=⟨_,rfl⟩
 rw [←ent] at hnt
 have okt:=hnt.ok
 have rdt:=hnt.rd
 skip
 ·skip
  refine Qab ?_
  have r4_4:=(Qah r4_3 e4)
  have r4_5:=(Qah r4_4 e5)
  have r4_6:=(Qah r4_5 e6)
  refine Qaa (.int .i64 ((m:Nat):Int)) 20 rfl kj (Qag 3 _ g4 0 3 _ (.int .i64 ((m:Nat):Int)) _ r4_6 rfl kj kj kj) ?_
  refine Qaa (.int .i64 ((bel x ((L:Nat):Int)).1)) 21 rfl kj kj ?_
  refine Qaa (.bool false) 22 rfl kj (Qai (u:=.bool (decide (((m:Nat):Int)<((bel x ((L:Nat):Int)).1)))) kj (congrArg Value.bool (decide_eq_false (by omega)))) ?_
  refine Qaa (.bool false) 23 rfl kj kj ?_
  refine Qaa (.int .i64 ((m:Nat):Int)) 24 rfl kj (Qag 3 _ g4 0 3 _ (.int .i64 ((m:Nat):Int)) _ r4_6 rfl kj kj kj) ?_
  refine Qaa (.int .i64 ((bel x ((L:Nat):Int)).2)) 25 rfl kj kj ?_
  refine Qaa (.bool false) 26 rfl kj (Qai (u:=.bool (decide (((m:Nat):Int)>((bel x ((L:Nat):Int)).2)))) kj (congrArg Value.bool (decide_eq_false (by omega)))) ?_
  refine Qaa (.bool false) 27 rfl kj kj ?_
  refine Qaa (.bool false) 28 rfl kj kj ?_
  have r2_5:=(Qah r2_4 e5)
  have r2_6:=(Qah r2_5 e6)
  refine Qaa (.slice a_t ts.length c_t) 29 rfl kj (Qag 23 _ g2 0 23 _ (.slice a_t ts.length c_t) _ r2_6 rfl kj kj kj) ?_
  refine Qaa (.int .i64 ((m:Nat):Int)) 30 rfl kj (Qag 3 _ g4 0 3 _ (.int .i64 ((m:Nat):Int)) _ r4_6 rfl kj kj kj) ?_
  refine Qaa (.int .i64 (((2*m:Nat):Int))) 31 rfl kj (Qai (u:=.int .i64 (IntKind.i64.wrap (2*((m:Nat):Int)))) kj (congrArg (Value.int .i64) ((IntWalk.i64_in _ (by omega)).trans (by omega)))) ?_
  refine Qaa (.pointer (some ⟨gtT,otT+(2*m)*99,none⟩)) 32 rfl kj (Qap 23 _ _ .i64 ((2*m)) gtT otT ts.length c_t 50 99 a_t (hat (by omega)) rfl kj kj kj kj (by omega)) ?_
  refine Qaa (.pointer (some ⟨gtT,otT+(2*m)*99,none⟩)) 33 rfl kj kj ?_
  refine Qaa (.bool false) 34 rfl kj (Qak 4 _ _ (.bool false) ((NdAt.at3 hnt).1.trans (congrArg (fun z=>some (Value.bool z)) (ent▸hus))) rfl kj kj) ?_
  refine Qaa (.bool true) 35 rfl kj kj ?_
  refine Qaa (.bool true) 36 rfl kj kj ?_
  refine Qaf ?_
  refine hK9 _ _ ?_
  refine cond_true kj ?_
  refine wp_seq_k fun K10 hK10=>?_
  refine Qab ?_
  have r5_5:=(Qah r5_4 e5)
  have r5_6:=(Qah r5_5 e6)
  refine Qau g5 _ (#[.bool false]) 4 r5_6 rfl kj (QaW 4 _ _ g5 0 4 _ (.bool false) r5_6 rfl kj kj kj kj kj rfl) fun W7 p7 r5_7=>?_
  have x7:Ext w W7:=Puts.ext p7 x6 b5
  refine Qaf ?_
  refine hK10 _ _ ?_
  refine wp_ret ?_
  repeat (first | with_reducible refine goR1 ?_ | with_reducible refine goR2 ?_)
  exact (show bodyPost _ _ _ .ret _ _ from ret1 (.bool false) rfl (Qcf g5 4 _ (.bool false) r5_7 kj kj rfl) ⟨congrArg (fun z=>Ending.returned (.bool z)) (QeO hus).symm,x7⟩)
set_option maxRecDepth 100000 in
theorem QjS (ts : List NdV) (a_t:Option Addr) (c_t B1:Nat) (w:World) (ht:TrAt B1 w a_t ts) (L:Nat) (hL:leaves ((ts.length:Nat):Int)=((L:Nat):Int)) (hlen:ts.length+1=2*L) (hTr:QaG ((L:Nat):Int)=true) (hmt:∀ i,i<ts.length→(ndi ts i).n.ms.length≤1000000) (x:Int) (hxn:Qa2 x ((L:Nat):Int)=true) (hT:TabAt w) (m:Nat) (h1:(bel x ((L:Nat):Int)).1≤((m:Nat):Int)) (h2:((m:Nat):Int)≤(bel x ((L:Nat):Int)).2) (hus:(ndi ts (2*m)).n.us=true):Calls Tryd.prog 65 #[.slice a_t ts.length c_t,.int .i64 x,.int .i64 ((m:Nat):Int)] w (Ret w (.bool (Qbg ts ((L:Nat):Int) x ((m:Nat):Int)))):=by
 have hbn:=Qca hxn
 have hxb:=Qbh hxn
 have hx0:0≤x:=hxb.1
 have hxi:i64 x:=⟨by omega,by omega⟩
 have hm:2*m<ts.length:=by omega
 have hYi:i64 (2*((m:Nat):Int)):=⟨by omega,by omega⟩
 refine Qmf 60 [(0,.slice a_t ts.length c_t),(1,.int .i64 x),(2,.int .i64 ((m:Nat):Int))] Tryd.func65 rfl rfl kj rfl ?_
 refine wp_seq_k fun K1 hK1=>?_
 refine Qab ?_
 refine Qan (#[.slice a_t ts.length c_t]) 23 3 rfl kj kj fun g2 W1 l2 e1 r2_1=>?_
 have x1:Ext w W1:=Ext.tr (Rely.Ext.refl w) e1
 have b2:w.heap.size≤g2:=qT (Rely.Ext.refl w).size l2
 refine Qan (#[.int .i64 x]) 3 4 rfl kj kj fun g3 W2 l3 e2 r3_2=>?_
 have x2:Ext w W2:=Ext.tr x1 e2
 have b3:w.heap.size≤g3:=qT x1.size l3
 refine Qan (#[.int .i64 ((m:Nat):Int)]) 3 5 rfl kj kj fun g4 W3 l4 e3 r4_3=>?_
 have x3:Ext w W3:=Ext.tr x2 e3
 have b4:w.heap.size≤g4:=qT x2.size l4
 refine Qan (#[.bool false]) 4 6 rfl kj kj fun g5 W4 l5 e4 r5_4=>?_
 have x4:Ext w W4:=Ext.tr x3 e4
 have b5:w.heap.size≤g5:=qT x3.size l5
 refine Qaf ?_
 refine hK1 _ _ ?_
 refine wp_seq_k fun K6 hK6=>?_
 refine Qab ?_
 have r2_2:=(Qah r2_1 e2)
 have r2_3:=(Qah r2_2 e3)
 have r2_4:=(Qah r2_3 e4)
 refine Qaa (.slice a_t ts.length c_t) 11 rfl kj (Qag 23 _ g2 0 23 _ (.slice a_t ts.length c_t) _ r2_4 rfl kj kj kj) ?_
 refine Qaa (.int .i64 ((ts.length:Nat):Int)) 12 rfl kj kj ?_
 refine Qal (.int .i64 ((L:Nat):Int)) 29 #[.int .i64 ((ts.length:Nat):Int)] 13 rfl kj kj (Qcd ((ts.length:Nat):Int) ⟨by omega,by omega⟩ _ hL _) fun W5 e5=>?_
 have x5:Ext w W5:=Ext.tr x4 e5
 refine Qaa (.int .i64 ((L:Nat):Int)) 7 rfl kj kj ?_
 refine Qaf ?_
 refine hK6 _ _ ?_
 refine wp_seq_k fun K7 hK7=>?_
 refine Qab ?_
 have r3_3:=(Qah r3_2 e3)
 have r3_4:=(Qah r3_3 e4)
 have r3_5:=(Qah r3_4 e5)
 refine Qaa (.int .i64 x) 15 rfl kj (Qag 3 _ g3 0 3 _ (.int .i64 x) _ r3_5 rfl kj kj kj) ?_
 refine Qaa (.int .i64 ((L:Nat):Int)) 16 rfl kj kj ?_
 refine Qal (.tuple #[.int .i64 (bel x ((L:Nat):Int)).1,.int .i64 (bel x ((L:Nat):Int)).2]) 60 #[.int .i64 x,.int .i64 ((L:Nat):Int)] 17 rfl kj kj (QgI x ((L:Nat):Int) hxi _ (TabAt.ext hT x5)) fun W6 e6=>?_
 have x6:Ext w W6:=Ext.tr x5 e6
 refine Qaa (.tuple #[.int .i64 (bel x ((L:Nat):Int)).1,.int .i64 (bel x ((L:Nat):Int)).2]) 14 rfl kj kj ?_
 refine Qaa (.int .i64 ((bel x ((L:Nat):Int)).1)) 18 rfl kj kj ?_
 refine Qaa (.int .i64 ((bel x ((L:Nat):Int)).2)) 19 rfl kj kj ?_
 refine Qaa (.int .i64 ((bel x ((L:Nat):Int)).1)) 8 rfl kj kj ?_
 refine Qaa (.int .i64 ((bel x ((L:Nat):Int)).2)) 9 rfl kj kj ?_
 refine Qaf ?_
 refine hK7 _ _ ?_
 refine wp_seq_k fun K8 hK8=>?_
 refine wp_seq_k fun K9 hK9=>?_
 obtain ⟨gtT,otT,hat,hnts⟩:=TrAt.ext ht x6
 have hnt:=hnts (2*m) (by omega)
 obtain ⟨nt,ent⟩:∃ z,z=ndi ts (2*m):=⟨_,rfl⟩
 rw [←ent] at hnt
 have okt:=hnt.ok
 have rdt:=hnt.rd
 skip
 ·skip
  refine Qab ?_
  have r4_4:=(Qah r4_3 e4)
  have r4_5:=(Qah r4_4 e5)
  have r4_6:=(Qah r4_5 e6)
  refine Qaa (.int .i64 ((m:Nat):Int)) 20 rfl kj (Qag 3 _ g4 0 3 _ (.int .i64 ((m:Nat):Int)) _ r4_6 rfl kj kj kj) ?_
  refine Qaa (.int .i64 ((bel x ((L:Nat):Int)).1)) 21 rfl kj kj ?_
  refine Qaa (.bool false) 22 rfl kj (Qai (u:=.bool (decide (((m:Nat):Int)<((bel x ((L:Nat):Int)).1)))) kj (congrArg Value.bool (decide_eq_false (by omega)))) ?_
  refine Qaa (.bool false) 23 rfl kj kj ?_
  refine Qaa (.int .i64 ((m:Nat):Int)) 24 rfl kj (Qag 3 _ g4 0 3 _ (.int .i64 ((m:Nat):Int)) _ r4_6 rfl kj kj kj) ?_
  refine Qaa (.int .i64 ((bel x ((L:Nat):Int)).2)) 25 rfl kj kj ?_
  refine Qaa (.bool false) 26 rfl kj (Qai (u:=.bool (decide (((m:Nat):Int)>((bel x ((L:Nat):Int)).2)))) kj (congrArg Value.bool (decide_eq_false (by omega)))) ?_
  refine Qaa (.bool false) 27 rfl kj kj ?_
  refine Qaa (.bool false) 28 rfl kj kj ?_
  have r2_5:=(Qah r2_4 e5)
  have r2_6:=(Qah r2_5 e6)
  refine Qaa (.slice a_t ts.length c_t) 29 rfl kj (Qag 23 _ g2 0 23 _ (.slice a_t ts.length c_t) _ r2_6 rfl kj kj kj) ?_
  refine Qaa (.int .i64 ((m:Nat):Int)) 30 rfl kj (Qag 3 _ g4 0 3 _ (.int .i64 ((m:Nat):Int)) _ r4_6 rfl kj kj kj) ?_
  refine Qaa (.int .i64 (((2*m:Nat):Int))) 31 rfl kj (Qai (u:=.int .i64 (IntKind.i64.wrap (2*((m:Nat):Int)))) kj (congrArg (Value.int .i64) ((IntWalk.i64_in _ (by omega)).trans (by omega)))) ?_
  refine Qaa (.pointer (some ⟨gtT,otT+(2*m)*99,none⟩)) 32 rfl kj (Qap 23 _ _ .i64 ((2*m)) gtT otT ts.length c_t 50 99 a_t (hat (by omega)) rfl kj kj kj kj (by omega)) ?_
  refine Qaa (.pointer (some ⟨gtT,otT+(2*m)*99,none⟩)) 33 rfl kj kj ?_
  refine Qaa (.bool true) 34 rfl kj (Qak 4 _ _ (.bool true) ((NdAt.at3 hnt).1.trans (congrArg (fun z=>some (Value.bool z)) (ent▸hus))) rfl kj kj) ?_
  refine Qaa (.bool false) 35 rfl kj kj ?_
  refine Qaa (.bool false) 36 rfl kj kj ?_
  refine Qaf ?_
  refine hK9 _ _ ?_
  refine cond_false kj ?_
  refine wp_skip ?_
  refine hK8 _ _ ?_
  refine wp_seq_k fun K10 hK10=>?_
  refine wp_seq_k fun K11 hK11=>?_
  refine Qab ?_
  refine Qaa (.int .i64 ((m:Nat):Int)) 37 rfl kj (Qag 3 _ g4 0 3 _ (.int .i64 ((m:Nat):Int)) _ r4_6 rfl kj kj kj) ?_
  refine Qaa (.int .i64 (2*((m:Nat):Int))) 38 rfl kj (Qai (u:=.int .i64 (IntKind.i64.wrap (2*((m:Nat):Int)))) kj (congrArg (Value.int .i64) (IntWalk.i64_in _ (by omega)))) ?_
  refine Qaa (.int .i64 ((L:Nat):Int)) 39 rfl kj kj ?_
  refine Qa1 (fun v W'=>(fun v W=>∃ g1 g2,v=.func (.func 80) #[] #[.pointer (some ⟨g1,0,none⟩),.pointer (some ⟨g2,0,none⟩)]∧W6.heap.size≤g1∧W6.heap.size≤g2∧W.heap[g1]? = some (.cells #[.int .i64 (2*((m:Nat):Int))] 3)∧W.heap[g2]? = some (.cells #[.int .i64 (((L:Nat):Int))] 3)) v W'∧Ext W6 W') 75 #[.int .i64 (2*((m:Nat):Int)),.int .i64 ((L:Nat):Int)] 40 rfl kj kj ((Qm3 (2*((m:Nat):Int)) (((L:Nat):Int)) _).mono (by rintro e w' ⟨v,rfl,e1,hv⟩; exact ⟨v,rfl,hv,e1⟩)) fun vv12 W7 hh12=>?_
  obtain ⟨hv12,e7⟩:=hh12
  have x7:Ext w W7:=Ext.tr x6 e7
  obtain ⟨gp1,gp2,rfl,lp1,lp2,rp1,rp2⟩:=hv12
  refine Qaf ?_
  refine hK11 _ _ ?_
  refine wp_block ?_
  have r2_7:=(Qah r2_6 e7)
  have r3_6:=(Qah r3_5 e6)
  have r3_7:=(Qah r3_6 e7)
  have r4_7:=(Qah r4_6 e7)
  have r5_5:=(Qah r5_4 e5)
  have r5_6:=(Qah r5_5 e6)
  have r5_7:=(Qah r5_6 e7)
  refine QgU (gf:=80) (lb:=#[.pointer (some ⟨gp1,0,none⟩),.pointer (some ⟨gp2,0,none⟩)]) (enc:=fun z:Nat=>.int .i64 ((upN (2*((m:Nat):Int)) ((L:Nat):Int) z:Nat):Int)) kj (enters_of Tryd.func80 kj rfl) (QfX 2 [] gp1 gp2 (2*((m:Nat):Int)) ((L:Nat):Int) hYi W7 (TabAt.ext hT x7) rp1 rp2 Qb9 Qb9 Qb9) (fun h k=>QbA.trans h k) QbA.book (Below.refl _ _)
    (fun pre W=>(W.heap[g2]? = some (.cells (#[.slice a_t ts.length c_t]) 23)∧W.heap[g3]? = some (.cells (#[.int .i64 x]) 3)∧W.heap[g4]? = some (.cells (#[.int .i64 ((m:Nat):Int)]) 3)∧W.heap[g5]? = some (.cells (#[.bool false]) 4))∧(∀ z∈pre,upn (2*((m:Nat):Int)) ((L:Nat):Int) z≠x∧okU ts ((m:Nat):Int) ((L:Nat):Int) z=true)∧Ext w W)
    (fun c pre W=>((c=.exit 0∧(W.heap[g5]? = some (.cells (#[.bool false]) 4))∧∃ q z,pre=q++[z]∧(∀ u∈q,upn (2*((m:Nat):Int)) ((L:Nat):Int) u≠x∧okU ts ((m:Nat):Int) ((L:Nat):Int) u=true)∧((upN (2*((m:Nat):Int)) ((L:Nat):Int) z:Nat):Int)=x)∨(c=.ret∧(W.heap[g5]? = some (.cells (#[.bool false]) 4))∧∃ q z,pre=q++[z]∧(∀ u∈q,upn (2*((m:Nat):Int)) ((L:Nat):Int) u≠x∧okU ts ((m:Nat):Int) ((L:Nat):Int) u=true)∧((upN (2*((m:Nat):Int)) ((L:Nat):Int) z:Nat):Int)≠x∧okU ts ((m:Nat):Int) ((L:Nat):Int) z=false))∧Ext w W) (OwnFrom.and (Own.from (fun s A B row hs hg hr=>⟨Qcr hs.1 hg hr,Qcr hs.2.1 hg hr,Qcr hs.2.2.1 hg hr,Qcr hs.2.2.2 hg hr⟩) _) (OwnFrom.and (Own.from (fun _ _ _ _ hs _ _=>hs) _) (ownFrom_below (qR _) x7.size))) (fun c=>OwnFrom.and (Own.from (fun s A B row hs hg hr=>by rcases hs with ⟨e,r,q⟩ | ⟨e,r,q⟩; exact .inl ⟨e,Qcr r hg hr,q⟩; exact .inr ⟨e,Qcr r hg hr,q⟩) _) (ownFrom_below (qR _) x7.size)) ⟨⟨r2_7,r3_7,r4_7,r5_7⟩,(fun z hz=>by cases hz),x7⟩ (fun z=>[(10,.int .i64 ((upN (2*((m:Nat):Int)) ((L:Nat):Int) z:Nat):Int)),(41,.int .i64 ((upN (2*((m:Nat):Int)) ((L:Nat):Int) z:Nat):Int))]) (fun l z W K hK=>?_) (fun l pre z W hI hp=>?_) (fun D ys W lD hS hI rD=>?_) (fun D c pre W lD hSp hIx rD=>?_)
  ·refine QbX ?_
   refine QcC (.int .i64 ((upN (2*((m:Nat):Int)) ((L:Nat):Int) z:Nat):Int)) 10 rfl (Qbi l 1 _) rfl kj kj ?_
   refine Qer ?_
   exact hK
  ·skip
   obtain ⟨⟨q3,q4,q5,q6⟩,hok,xx⟩:=hI
   have hul:=Ql8 (x:=2*((m:Nat):Int)) z hTr
   obtain ⟨u,hu⟩:∃ u,u=upN (2*((m:Nat):Int)) ((L:Nat):Int) z:=⟨_,rfl⟩
   rw [←hu] at hul ⊢
   refine wpIn_block ?_
   refine wpIn_seq_k fun K505 hK505=>?_
   refine wpIn_seq_k fun K506 hK506=>?_
   refine QbX ?_
   refine QcC (.int .i64 ((u:Nat):Int)) 42 rfl (Qbi l 1 _) rfl kj kj ?_
   refine QcC (.int .i64 x) 43 rfl (Qbi l 1 _) rfl kj (Qag 3 _ g3 0 3 _ (.int .i64 x) _ q4 rfl kj kj kj) ?_
   refine QcC (.bool ((((u:Nat):Int)==x))) 44 rfl (Qbi l 1 _) rfl kj kj ?_
   refine Qer ?_
   refine hK506 _ _ ?_
   refine Qdm (t:=(((u:Nat):Int)==x)) kj (fun c507=>?_) (fun c507=>?_)
   ·skip
    have hux:((u:Nat):Int)=x:=beq_iff_eq.1 c507
    refine wpIn_exit ?_
    repeat (first | with_reducible refine goX1 ?_ | with_reducible refine goXo1 (by decide) ?_ | with_reducible refine goXo2 (by decide) ?_)
    exact ⟨(KeepsOthers.refl _),.inl ⟨rfl,q6,pre,z,rfl,hok,hu▸hux⟩,xx⟩
   ·skip
    have hux:((u:Nat):Int)≠x:=beq_eq_false_iff_ne.1 c507
    refine wpIn_skip ?_
    refine hK505 _ _ ?_
    refine wpIn_seq_k fun K508 hK508=>?_
    obtain ⟨gtT,otT,hat,hnts⟩:=TrAt.ext ht xx
    have hnt:=hnts u (by omega)
    obtain ⟨nt,ent⟩:∃ z,z=ndi ts u:=⟨_,rfl⟩
    rw [←ent] at hnt
    have okt:=hnt.ok
    have rdt:=hnt.rd
    rcases (show nt.n.us=true∨nt.n.us=false from by cases nt.n.us; exact .inr rfl; exact .inl rfl) with hq | hq
    ·skip
     have hoz0:okU ts ((m:Nat):Int) ((L:Nat):Int) z=decide (((m:Nat):Int)∈nt.n.ms):=by unfold okU; rw [←hu,←ent,hq]; rfl
     refine QeF 12 [⟨none,[(3,none)]⟩,⟨none,[(10,none)]⟩,⟨none,[(45,some 0),(46,some 1)]⟩,⟨none,[(47,some 2)]⟩,⟨none,[(48,some 3)]⟩,⟨none,[(49,some 4)]⟩,⟨some (50,true),[(3,none),(50,some 5)]⟩,⟨some (50,true),[(10,none),(50,some 5)]⟩,⟨some (50,true),[(51,some 6),(52,some 7),(50,some 5)]⟩,⟨some (50,true),[(53,some 8),(50,some 5)]⟩,⟨some (50,true),[(54,some 9),(50,some 5)]⟩,⟨some (50,true),[(5,none),(50,some 5)]⟩] (Qbi l 1 _) rfl kj kj fun F hF=>?_
     refine QaK (Qam _) (.slice a_t ts.length c_t) kj kj (fun W hR=>(Qag 23 _ g2 0 23 _ (.slice a_t ts.length c_t) _ (Qah (Qah q3 (Qax _)) hR) rfl kj kj kj)) ?_
     refine Qaz (Qam _) (.int .i64 ((u:Nat):Int)) kj kj (fun W=>by kernel_rfl) ?_
     refine Qaz (Qam _) (.pointer (some ⟨gtT,otT+u*99,none⟩)) kj kj (fun W=>(Qap 23 _ _ .i64 u gtT otT ts.length c_t 50 99 a_t (hat (by omega)) rfl kj kj kj kj (by omega))) ?_
     refine Qaz (Qam _) (.pointer (some ⟨gtT,otT+u*99,none⟩)) kj kj (fun W=>by kernel_rfl) ?_
     refine QaK (Qam _) (.bool true) kj kj (fun W hR=>(Qak 4 _ _ (.bool true) (((NdAt.at3 (NdAt.ext hnt (Rely.Ext.trans (Qax _) hR))).1).trans (congrArg (fun z=>some (Value.bool z)) hq)) rfl kj kj)) ?_
     refine Qaz (Qam _) (.bool true) kj kj (fun W=>by kernel_rfl) ?_
     refine QaK (Qam _) (.slice a_t ts.length c_t) kj kj (fun W hR=>(Qag 23 _ g2 0 23 _ (.slice a_t ts.length c_t) _ (Qah (Qah q3 (Qax _)) hR) rfl kj kj kj)) ?_
     refine Qaz (Qam _) (.int .i64 ((u:Nat):Int)) kj kj (fun W=>by kernel_rfl) ?_
     refine Qaz (Qam _) (.pointer (some ⟨gtT,otT+u*99,none⟩)) kj kj (fun W=>(Qap 23 _ _ .i64 u gtT otT ts.length c_t 50 99 a_t (hat (by omega)) rfl kj kj kj kj (by omega))) ?_
     refine Qaz (Qam _) (.pointer (some ⟨gtT,otT+u*99+98,none⟩)) kj kj (fun W=>by kernel_rfl) ?_
     refine QaK (Qam _) (.slice nt.a nt.n.ms.length nt.c) kj kj (fun W hR=>(Qak 24 _ _ (.slice nt.a nt.n.ms.length nt.c) (NdAt.at3 (NdAt.ext hnt (Rely.Ext.trans (Qax _) hR))).2.2 rfl kj kj)) ?_
     refine QaK (Qam _) (.int .i64 ((m:Nat):Int)) kj kj (fun W hR=>(Qag 3 _ g4 0 3 _ (.int .i64 ((m:Nat):Int)) _ (Qah (Qah q5 (Qax _)) hR) rfl kj kj kj)) ?_
     refine QcZ (hF _ fun W1 e1=>?_)
     simp only [List.nil_append,List.cons_append,List.take_succ_cons,List.take_zero,List.drop_succ_cons,List.drop_zero,finE,up]
     clear hF
     have x1:Ext w W1:=Ext.tr xx e1
     have y0_1:Ext W W1:=(Rely.Ext.trans (Rely.Ext.refl W) e1)
     refine QkX (.bool (decide (((m:Nat):Int)∈nt.n.ms))) 48 #[.slice nt.a nt.n.ms.length nt.c,.int .i64 ((m:Nat):Int)] 57 rfl (Qbi l 1 _) rfl kj kj (QfI nt.n.ms ((m:Nat):Int) nt.a nt.c _ _ (ent▸hmt u (by omega)) (RdK.here (RdK.ext rdt y0_1))) fun W2 e2=>?_
     have x2:Ext w W2:=Ext.tr x1 e2
     refine QcC (.bool (!(decide (((m:Nat):Int)∈nt.n.ms)))) 58 rfl (Qbi l 1 _) rfl kj kj ?_
     refine QcC (.bool (!(decide (((m:Nat):Int)∈nt.n.ms)))) 59 rfl (Qbi l 1 _) rfl kj kj ?_
     refine Qer ?_
     refine hK508 _ _ ?_
     refine Qdm (t:=!(decide (((m:Nat):Int)∈nt.n.ms))) kj (fun c509=>?_) (fun c509=>?_)
     ·skip
      have hoz:okU ts ((m:Nat):Int) ((L:Nat):Int) z=false:=by rw [hoz0]; simpa using c509
      refine wpIn_seq_k fun K510 hK510=>?_
      refine QbX ?_
      have r504_1:=(Qah q6 e1)
      have r504_2:=(Qah r504_1 e2)
      refine Qjl g5 _ (#[.bool false]) 4 r504_2 rfl (Qbi l 1 _) rfl kj (QaW 4 _ _ g5 0 4 _ (.bool false) r504_2 rfl kj kj kj kj kj rfl) fun W3 p3 r504_3=>?_
      have x3:Ext w W3:=Puts.ext p3 x2 b5
      refine Qer ?_
      refine hK510 _ _ ?_
      refine wpIn_ret ?_
      repeat (first | with_reducible refine goR1 ?_ | with_reducible refine goR2 ?_)
      exact ⟨(((QcB e1).trans (QcB e2)).trans (Qhc p3 r504_2)),.inr ⟨rfl,r504_3,pre,z,rfl,hok,hu▸hux,hoz⟩,x3⟩
     ·skip
      have hoz:okU ts ((m:Nat):Int) ((L:Nat):Int) z=true:=by rw [hoz0]; simpa using c509
      refine wpIn_skip ?_
      repeat (first | with_reducible refine goX1 ?_ | with_reducible refine goX2 ?_ | with_reducible refine goX3 ?_)
      have y0_2:Ext W W2:=(Rely.Ext.trans y0_1 e2)
      have r501_1:=(Qah q3 e1)
      have r501_2:=(Qah r501_1 e2)
      have r502_1:=(Qah q4 e1)
      have r502_2:=(Qah r502_1 e2)
      have r503_1:=(Qah q5 e1)
      have r503_2:=(Qah r503_1 e2)
      have r504_1:=(Qah q6 e1)
      have r504_2:=(Qah r504_1 e2)
      exact ⟨((QcB e1).trans (QcB e2)),QbA.ext y0_2,⟨r501_2,r502_2,r503_2,r504_2⟩,(fun v hv=>by rcases List.mem_append.1 hv with h | h; exact hok v h; rw [List.mem_singleton.1 h]; exact ⟨fun e=>hux (by rw [hu,Qed (by rw [e]; exact hx0)]; exact e),hoz⟩),x2⟩
    ·skip
     have hoz:okU ts ((m:Nat):Int) ((L:Nat):Int) z=true:=by unfold okU; rw [←hu,←ent,hq]; rfl
     refine QeF 12 [⟨none,[(3,none)]⟩,⟨none,[(10,none)]⟩,⟨none,[(45,some 0),(46,some 1)]⟩,⟨none,[(47,some 2)]⟩,⟨none,[(48,some 3)]⟩,⟨none,[(49,some 4)]⟩,⟨some (50,true),[(3,none),(50,some 5)]⟩,⟨some (50,true),[(10,none),(50,some 5)]⟩,⟨some (50,true),[(51,some 6),(52,some 7),(50,some 5)]⟩,⟨some (50,true),[(53,some 8),(50,some 5)]⟩,⟨some (50,true),[(54,some 9),(50,some 5)]⟩,⟨some (50,true),[(5,none),(50,some 5)]⟩] (Qbi l 1 _) rfl kj kj fun F hF=>?_
     refine QaK (Qam _) (.slice a_t ts.length c_t) kj kj (fun W hR=>(Qag 23 _ g2 0 23 _ (.slice a_t ts.length c_t) _ (Qah (Qah q3 (Qax _)) hR) rfl kj kj kj)) ?_
     refine Qaz (Qam _) (.int .i64 ((u:Nat):Int)) kj kj (fun W=>by kernel_rfl) ?_
     refine Qaz (Qam _) (.pointer (some ⟨gtT,otT+u*99,none⟩)) kj kj (fun W=>(Qap 23 _ _ .i64 u gtT otT ts.length c_t 50 99 a_t (hat (by omega)) rfl kj kj kj kj (by omega))) ?_
     refine Qaz (Qam _) (.pointer (some ⟨gtT,otT+u*99,none⟩)) kj kj (fun W=>by kernel_rfl) ?_
     refine QaK (Qam _) (.bool false) kj kj (fun W hR=>(Qak 4 _ _ (.bool false) (((NdAt.at3 (NdAt.ext hnt (Rely.Ext.trans (Qax _) hR))).1).trans (congrArg (fun z=>some (Value.bool z)) hq)) rfl kj kj)) ?_
     refine Qaz (Qam _) (.bool false) kj kj (fun W=>by kernel_rfl) ?_
     refine QbN kj kj ?_
     refine QbN kj kj ?_
     refine QbN kj kj ?_
     refine QbN kj kj ?_
     refine QbN kj kj ?_
     refine QbN kj kj ?_
     refine QcZ (hF _ fun W1 e1=>?_)
     simp only [List.nil_append,List.cons_append,List.take_succ_cons,List.take_zero,List.drop_succ_cons,List.drop_zero,finE,up]
     clear hF
     have x1:Ext w W1:=Ext.tr xx e1
     refine Qic 57 rfl (Qbi l 1 _) rfl kj ?_
     refine Qic 58 rfl (Qbi l 1 _) rfl kj ?_
     refine QcC (.bool false) 59 rfl (Qbi l 1 _) rfl kj kj ?_
     refine Qer ?_
     refine hK508 _ _ ?_
     refine Qfh kj ?_
     refine wpIn_skip ?_
     repeat (first | with_reducible refine goX1 ?_ | with_reducible refine goX2 ?_ | with_reducible refine goX3 ?_)
     have y0_1:Ext W W1:=(Rely.Ext.trans (Rely.Ext.refl W) e1)
     have r501_1:=(Qah q3 e1)
     have r502_1:=(Qah q4 e1)
     have r503_1:=(Qah q5 e1)
     have r504_1:=(Qah q6 e1)
     exact ⟨(QcB e1),QbA.ext y0_1,⟨r501_1,r502_1,r503_1,r504_1⟩,(fun v hv=>by rcases List.mem_append.1 hv with h | h; exact hok v h; rw [List.mem_singleton.1 h]; exact ⟨fun e=>hux (by rw [hu,Qed (by rw [e]; exact hx0)]; exact e),hoz⟩),x1⟩
  ·obtain ⟨⟨q3,q4,q5,q6⟩,hok,xx⟩:=hI
   obtain ⟨k1,rfl,hneg,hall⟩:=hS
   have bD:w.heap.size≤D:=qT x7.size lD
   have hfin:Qbg ts ((L:Nat):Int) x ((m:Nat):Int)=true:=(QeP h1 h2 hus).trans (Qiy (fun j hj=>(hok j (List.mem_range.2 hj)).2) (.inl hneg))
   refine hK10 _ _ ?_
   refine wp_seq_k fun K14 hK14=>?_
   refine Qab ?_
   refine Qau g5 _ (#[.bool true]) 4 q6 rfl kj (QaW 4 _ _ g5 0 4 _ (.bool true) q6 rfl kj kj kj kj kj rfl) fun W9 p9 r5_9=>?_
   have x9:Ext w W9:=Puts.ext p9 xx b5
   refine Qaf ?_
   refine hK14 _ _ ?_
   refine wp_ret ?_
   repeat (first | with_reducible refine goR1 ?_ | with_reducible refine goR2 ?_)
   have r13_9:=(Puts.row p9 rD (QhN q6 rD))
   exact (show bodyPostM _ _ _ _ _ .ret _ _ from Qk4 (.bool true) rfl r13_9 (Qcf g5 4 _ (.bool true) (QeW r5_9 r13_9 _) kj kj rfl) ⟨congrArg (fun z=>Ending.returned (.bool z)) hfin.symm,QeX x9 bD r13_9 _⟩)
  ·rcases hIx with ⟨⟨rfl,q6,q,z,rfl,hok,hzx⟩ | ⟨rfl,q6,q,z,rfl,hok,hzx,hbad⟩,xx⟩
   ·obtain ⟨k0,e0,hall⟩:=hSp
    obtain ⟨rfl,rfl⟩:=Qe7 e0
    have bD:w.heap.size≤D:=qT x7.size lD
    have hfin:Qbg ts ((L:Nat):Int) x ((m:Nat):Int)=true:=(QeP h1 h2 hus).trans (Qiy (fun j hj=>(hok j (List.mem_range.2 hj)).2) (.inr ((Qed (hall z (by omega))).symm.trans hzx)))
    refine wp_exit ?_
    refine hK10 _ _ ?_
    refine wp_seq_k fun K16 hK16=>?_
    refine Qab ?_
    refine Qau g5 _ (#[.bool true]) 4 q6 rfl kj (QaW 4 _ _ g5 0 4 _ (.bool true) q6 rfl kj kj kj kj kj rfl) fun W9 p9 r5_9=>?_
    have x9:Ext w W9:=Puts.ext p9 xx b5
    refine Qaf ?_
    refine hK16 _ _ ?_
    refine wp_ret ?_
    repeat (first | with_reducible refine goR1 ?_ | with_reducible refine goR2 ?_)
    have r15_9:=(Puts.row p9 rD (QhN q6 rD))
    exact (show bodyPostM _ _ _ _ _ .ret _ _ from Qk4 (.bool true) rfl r15_9 (Qcf g5 4 _ (.bool true) (QeW r5_9 r15_9 _) kj kj rfl) ⟨congrArg (fun z=>Ending.returned (.bool z)) hfin.symm,QeX x9 bD r15_9 _⟩)
   ·obtain ⟨k0,e0,hall⟩:=hSp
    obtain ⟨rfl,rfl⟩:=Qe7 e0
    have bD:w.heap.size≤D:=qT x7.size lD
    have hfin:Qbg ts ((L:Nat):Int) x ((m:Nat):Int)=false:=(QeP h1 h2 hus).trans (Qmp (k:=z) (fun j hj=>⟨hall j (by omega),by by_cases e:j=z; (rw [e,←Qed (hall z (by omega))]; exact hzx); exact (hok j (List.mem_range.2 (by omega))).1⟩) hbad)
    refine wp_ret ?_
    repeat (first | with_reducible refine goR1 ?_ | with_reducible refine goR2 ?_)
    exact (show bodyPostM _ _ _ _ _ .ret _ _ from Qk4 (.bool false) rfl rD (Qcf g5 4 _ (.bool false) (QeW q6 rD _) kj kj rfl) ⟨congrArg (fun z=>Ending.returned (.bool z)) hfin.symm,QeX xx bD rD _⟩)
theorem Ql1 (ts : List NdV) (a_t:Option Addr) (c_t B1:Nat) (w:World) (ht:TrAt B1 w a_t ts) (L:Nat) (hL:leaves ((ts.length:Nat):Int)=((L:Nat):Int)) (hlen:ts.length+1=2*L) (hTr:QaG ((L:Nat):Int)=true) (hmt:∀ i,i<ts.length→(ndi ts i).n.ms.length≤1000000) (x:Int) (hxn:Qa2 x ((L:Nat):Int)=true) (hT:TabAt w) (i:Int):Calls Tryd.prog 65 #[.slice a_t ts.length c_t,.int .i64 x,.int .i64 i] w (Ret w (.bool (Qbg ts ((L:Nat):Int) x i))):=by
  by_cases h1:i<(bel x ((L:Nat):Int)).1
  · exact QjV ts a_t c_t B1 w ht L hL hlen hTr hmt x hxn hT i h1
  by_cases h2:(bel x ((L:Nat):Int)).2<i
  · exact QjU ts a_t c_t B1 w ht L hL hlen hTr hmt x hxn hT i (by omega) h2
  have hbn:=Qca hxn
  obtain ⟨m,rfl⟩:∃ m:Nat,i=((m:Nat):Int):=⟨i.toNat,by omega⟩
  cases hus:(ndi ts (2*m)).n.us with
  | false=>exact QjT ts a_t c_t B1 w ht L hL hlen hTr hmt x hxn hT m (by omega) (by omega) hus
  | true=>exact QjS ts a_t c_t B1 w ht L hL hlen hTr hmt x hxn hT m (by omega) (by omega) hus
end Go.Proofs.YthfkppjajmjpnaaDoor.Te
end
