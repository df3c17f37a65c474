/- Texts of this claim, joined (MD1). -/
import Derived.Test.YthfkppjajmjpnaaDoorZMD0
import Derived.MapKept
import Derived.ChangeMaps4
import Derived.Maps.RangeRun
import Derived.Sort.LoopGhostIn
import Derived.Shelf.Spec.SlicesInsertGrow
import Derived.Shelf.Slices.SearchI
import Derived.Shelf.Slices.Empties

set_option linter.unusedVariables false
set_option linter.unusedSimpArgs false
set_option maxHeartbeats 4000000
section
namespace Go.Proofs.YthfkppjajmjpnaaDoor.Te
open Go Go.RowKit
open Rely Auto Own Seat Sha
theorem Qku (nd me:NdV) (hok:NdOk nd.n) (hok2:NdOk me.n) (B1 B2:Nat) (w:World) (hm1:nd.n.ms.length≤1000000) (hm2:me.n.ms.length≤1000000) (hr1:RdK .i64 B1 nd.n.ms (.slice nd.a nd.n.ms.length nd.c) w) (hr2:RdK .i64 B2 me.n.ms (.slice me.a me.n.ms.length me.c) w) (hu:nd.n.us≠me.n.us):Calls Tryd.prog 31 #[.agg (cat [#[.bool nd.n.us],#[.int .i64 nd.n.nm],ints .u8 (nd.n.key),ints .u8 (nd.n.sg),ints .u8 (nd.n.pa),#[.slice nd.a nd.n.ms.length nd.c]]),.agg (cat [#[.bool me.n.us],#[.int .i64 me.n.nm],ints .u8 (me.n.key),ints .u8 (me.n.sg),ints .u8 (me.n.pa),#[.slice me.a me.n.ms.length me.c]])] w (Ret w (.bool false)):=by
  refine enter 66 [(0,.agg (cat [#[.bool nd.n.us],#[.int .i64 nd.n.nm],ints .u8 (nd.n.key),ints .u8 (nd.n.sg),ints .u8 (nd.n.pa),#[.slice nd.a nd.n.ms.length nd.c]])),(1,.agg (cat [#[.bool me.n.us],#[.int .i64 me.n.nm],ints .u8 (me.n.key),ints .u8 (me.n.sg),ints .u8 (me.n.pa),#[.slice me.a me.n.ms.length me.c]]))] Tryd.func31 rfl rfl kj rfl <| sgC fun K1 hK1=>Qal (cat [#[.bool nd.n.us],#[.int .i64 nd.n.nm],ints .u8 (nd.n.key),ints .u8 (nd.n.sg),ints .u8 (nd.n.pa),#[.slice nd.a nd.n.ms.length nd.c]]) 50 2 rfl kj kj fun g2 W1 l2 e1 r2_1=>?_
  have x1:=Ext.tr (Rely.Ext.refl w) e1
  have b2:=qT (Rely.Ext.refl w).size l2
  refine Qal (cat [#[.bool me.n.us],#[.int .i64 me.n.nm],ints .u8 (me.n.key),ints .u8 (me.n.sg),ints .u8 (me.n.pa),#[.slice me.a me.n.ms.length me.c]]) 50 3 rfl kj kj fun g3 W2 l3 e2 r3_2=>?_
  have b3:=qT x1.size l3
  refine sg 1 kj <| sgN hK1 <| wp_seq_k fun K4 hK4=>sgC fun K5 hK5=>sg 1 kj <| Qaa (.bool nd.n.us) 7 rfl kj (Qaf 4 _ g2 0 50 _ (.bool nd.n.us) _ (Qae r2_1 e2) rfl kj (Qah [] [#[.bool nd.n.us]] [#[.int .i64 nd.n.nm],ints .u8 (nd.n.key),ints .u8 (nd.n.sg),ints .u8 (nd.n.pa),#[.slice nd.a nd.n.ms.length nd.c]] 0 kj 0 _ rfl) kj) <| sg 1 kj <| Qaa (.bool me.n.us) 9 rfl kj (Qaf 4 _ g3 0 50 _ (.bool me.n.us) _ r3_2 rfl kj (Qah [] [#[.bool me.n.us]] [#[.int .i64 me.n.nm],ints .u8 (me.n.key),ints .u8 (me.n.sg),ints .u8 (me.n.pa),#[.slice me.a me.n.ms.length me.c]] 0 kj 0 _ rfl) kj) <| Qaa (.bool true) 10 rfl kj (Qag (u:=.bool (nd.n.us != me.n.us)) kj (congrArg Value.bool (bne_iff_ne.2 hu))) <| sg 37 kj ?_
  refine sgN hK5 <| cond_true kj <| sgB kj <| wp_ret ?_
  repeat (first | with_reducible refine goR1 ?_ | with_reducible refine goR2 ?_)
  exact (show bodyPost _ _ _ .ret _ _ from ret1 (.bool false) rfl (Qar kj) ⟨rfl,(Ext.tr x1 e2)⟩)
theorem Qkw (nd me:NdV) (hok:NdOk nd.n) (hok2:NdOk me.n) (B1 B2:Nat) (w:World) (hm1:nd.n.ms.length≤1000000) (hm2:me.n.ms.length≤1000000) (hr1:RdK .i64 B1 nd.n.ms (.slice nd.a nd.n.ms.length nd.c) w) (hr2:RdK .i64 B2 me.n.ms (.slice me.a me.n.ms.length me.c) w) (hu:nd.n.us=me.n.us) (hn:nd.n.nm≠me.n.nm):Calls Tryd.prog 31 #[.agg (cat [#[.bool nd.n.us],#[.int .i64 nd.n.nm],ints .u8 (nd.n.key),ints .u8 (nd.n.sg),ints .u8 (nd.n.pa),#[.slice nd.a nd.n.ms.length nd.c]]),.agg (cat [#[.bool me.n.us],#[.int .i64 me.n.nm],ints .u8 (me.n.key),ints .u8 (me.n.sg),ints .u8 (me.n.pa),#[.slice me.a me.n.ms.length me.c]])] w (Ret w (.bool false)):=by
  refine enter 66 [(0,.agg (cat [#[.bool nd.n.us],#[.int .i64 nd.n.nm],ints .u8 (nd.n.key),ints .u8 (nd.n.sg),ints .u8 (nd.n.pa),#[.slice nd.a nd.n.ms.length nd.c]])),(1,.agg (cat [#[.bool me.n.us],#[.int .i64 me.n.nm],ints .u8 (me.n.key),ints .u8 (me.n.sg),ints .u8 (me.n.pa),#[.slice me.a me.n.ms.length me.c]]))] Tryd.func31 rfl rfl kj rfl <| sgC fun K1 hK1=>Qal (cat [#[.bool nd.n.us],#[.int .i64 nd.n.nm],ints .u8 (nd.n.key),ints .u8 (nd.n.sg),ints .u8 (nd.n.pa),#[.slice nd.a nd.n.ms.length nd.c]]) 50 2 rfl kj kj fun g2 W1 l2 e1 r2_1=>?_
  have x1:=Ext.tr (Rely.Ext.refl w) e1
  have b2:=qT (Rely.Ext.refl w).size l2
  refine Qal (cat [#[.bool me.n.us],#[.int .i64 me.n.nm],ints .u8 (me.n.key),ints .u8 (me.n.sg),ints .u8 (me.n.pa),#[.slice me.a me.n.ms.length me.c]]) 50 3 rfl kj kj fun g3 W2 l3 e2 r3_2=>?_
  have b3:=qT x1.size l3
  refine sg 1 kj <| sgN hK1 <| wp_seq_k fun K4 hK4=>sgC fun K5 hK5=>sg 1 kj ?_
  have r2_2:=(Qae r2_1 e2)
  refine Qaa (.bool nd.n.us) 7 rfl kj (Qaf 4 _ g2 0 50 _ (.bool nd.n.us) _ r2_2 rfl kj (Qah [] [#[.bool nd.n.us]] [#[.int .i64 nd.n.nm],ints .u8 (nd.n.key),ints .u8 (nd.n.sg),ints .u8 (nd.n.pa),#[.slice nd.a nd.n.ms.length nd.c]] 0 kj 0 _ rfl) kj) <| sg 1 kj <| Qaa (.bool me.n.us) 9 rfl kj (Qaf 4 _ g3 0 50 _ (.bool me.n.us) _ r3_2 rfl kj (Qah [] [#[.bool me.n.us]] [#[.int .i64 me.n.nm],ints .u8 (me.n.key),ints .u8 (me.n.sg),ints .u8 (me.n.pa),#[.slice me.a me.n.ms.length me.c]] 0 kj 0 _ rfl) kj) <| Qaa (.bool false) 10 rfl kj (Qag (u:=.bool (nd.n.us != me.n.us)) kj (congrArg Value.bool (bne_eq_false_iff_eq.2 hu))) <| sg 2 kj <| Qaa (.int .i64 nd.n.nm) 13 rfl kj (Qaf 3 _ g2 1 50 _ (.int .i64 nd.n.nm) _ r2_2 rfl kj (Qah [#[.bool nd.n.us]] [#[.int .i64 nd.n.nm]] [ints .u8 (nd.n.key),ints .u8 (nd.n.sg),ints .u8 (nd.n.pa),#[.slice nd.a nd.n.ms.length nd.c]] 1 kj 0 _ rfl) kj) <| sg 1 kj <| Qaa (.int .i64 me.n.nm) 15 rfl kj (Qaf 3 _ g3 1 50 _ (.int .i64 me.n.nm) _ r3_2 rfl kj (Qah [#[.bool me.n.us]] [#[.int .i64 me.n.nm]] [ints .u8 (me.n.key),ints .u8 (me.n.sg),ints .u8 (me.n.pa),#[.slice me.a me.n.ms.length me.c]] 1 kj 0 _ rfl) kj) <| Qaa (.bool true) 16 rfl kj (Qag (u:=.bool ((nd.n.nm != me.n.nm))) kj (congrArg Value.bool (bne_iff_ne.2 hn))) <| sg 31 kj ?_
  refine sgN hK5 <| cond_true kj <| sgB kj <| wp_ret ?_
  repeat (first | with_reducible refine goR1 ?_ | with_reducible refine goR2 ?_)
  exact (show bodyPost _ _ _ .ret _ _ from ret1 (.bool false) rfl (Qar kj) ⟨rfl,(Ext.tr x1 e2)⟩)
theorem Qky (nd me:NdV) (hok:NdOk nd.n) (hok2:NdOk me.n) (B1 B2:Nat) (w:World) (hm1:nd.n.ms.length≤1000000) (hm2:me.n.ms.length≤1000000) (hr1:RdK .i64 B1 nd.n.ms (.slice nd.a nd.n.ms.length nd.c) w) (hr2:RdK .i64 B2 me.n.ms (.slice me.a me.n.ms.length me.c) w) (hu:nd.n.us=me.n.us) (hn:nd.n.nm=me.n.nm) (hk:nd.n.key=me.n.key) (hg:nd.n.sg≠me.n.sg):Calls Tryd.prog 31 #[.agg (cat [#[.bool nd.n.us],#[.int .i64 nd.n.nm],ints .u8 (nd.n.key),ints .u8 (nd.n.sg),ints .u8 (nd.n.pa),#[.slice nd.a nd.n.ms.length nd.c]]),.agg (cat [#[.bool me.n.us],#[.int .i64 me.n.nm],ints .u8 (me.n.key),ints .u8 (me.n.sg),ints .u8 (me.n.pa),#[.slice me.a me.n.ms.length me.c]])] w (Ret w (.bool false)):=by
  refine enter 66 [(0,.agg (cat [#[.bool nd.n.us],#[.int .i64 nd.n.nm],ints .u8 (nd.n.key),ints .u8 (nd.n.sg),ints .u8 (nd.n.pa),#[.slice nd.a nd.n.ms.length nd.c]])),(1,.agg (cat [#[.bool me.n.us],#[.int .i64 me.n.nm],ints .u8 (me.n.key),ints .u8 (me.n.sg),ints .u8 (me.n.pa),#[.slice me.a me.n.ms.length me.c]]))] Tryd.func31 rfl rfl kj rfl <| sgC fun K1 hK1=>Qal (cat [#[.bool nd.n.us],#[.int .i64 nd.n.nm],ints .u8 (nd.n.key),ints .u8 (nd.n.sg),ints .u8 (nd.n.pa),#[.slice nd.a nd.n.ms.length nd.c]]) 50 2 rfl kj kj fun g2 W1 l2 e1 r2_1=>?_
  have x1:=Ext.tr (Rely.Ext.refl w) e1
  have b2:=qT (Rely.Ext.refl w).size l2
  refine Qal (cat [#[.bool me.n.us],#[.int .i64 me.n.nm],ints .u8 (me.n.key),ints .u8 (me.n.sg),ints .u8 (me.n.pa),#[.slice me.a me.n.ms.length me.c]]) 50 3 rfl kj kj fun g3 W2 l3 e2 r3_2=>?_
  have b3:=qT x1.size l3
  refine sg 1 kj <| sgN hK1 <| wp_seq_k fun K4 hK4=>sgC fun K5 hK5=>sg 1 kj ?_
  have r2_2:=(Qae r2_1 e2)
  refine Qaa (.bool nd.n.us) 7 rfl kj (Qaf 4 _ g2 0 50 _ (.bool nd.n.us) _ r2_2 rfl kj (Qah [] [#[.bool nd.n.us]] [#[.int .i64 nd.n.nm],ints .u8 (nd.n.key),ints .u8 (nd.n.sg),ints .u8 (nd.n.pa),#[.slice nd.a nd.n.ms.length nd.c]] 0 kj 0 _ rfl) kj) <| sg 1 kj <| Qaa (.bool me.n.us) 9 rfl kj (Qaf 4 _ g3 0 50 _ (.bool me.n.us) _ r3_2 rfl kj (Qah [] [#[.bool me.n.us]] [#[.int .i64 me.n.nm],ints .u8 (me.n.key),ints .u8 (me.n.sg),ints .u8 (me.n.pa),#[.slice me.a me.n.ms.length me.c]] 0 kj 0 _ rfl) kj) <| Qaa (.bool false) 10 rfl kj (Qag (u:=.bool (nd.n.us != me.n.us)) kj (congrArg Value.bool (bne_eq_false_iff_eq.2 hu))) <| sg 2 kj <| Qaa (.int .i64 nd.n.nm) 13 rfl kj (Qaf 3 _ g2 1 50 _ (.int .i64 nd.n.nm) _ r2_2 rfl kj (Qah [#[.bool nd.n.us]] [#[.int .i64 nd.n.nm]] [ints .u8 (nd.n.key),ints .u8 (nd.n.sg),ints .u8 (nd.n.pa),#[.slice nd.a nd.n.ms.length nd.c]] 1 kj 0 _ rfl) kj) <| sg 1 kj <| Qaa (.int .i64 me.n.nm) 15 rfl kj (Qaf 3 _ g3 1 50 _ (.int .i64 me.n.nm) _ r3_2 rfl kj (Qah [#[.bool me.n.us]] [#[.int .i64 me.n.nm]] [ints .u8 (me.n.key),ints .u8 (me.n.sg),ints .u8 (me.n.pa),#[.slice me.a me.n.ms.length me.c]] 1 kj 0 _ rfl) kj) <| Qaa (.bool false) 16 rfl kj (Qag (u:=.bool ((nd.n.nm != me.n.nm))) kj (congrArg Value.bool (bne_eq_false_iff_eq.2 hn))) <| sg 3 kj ?_
  refine Qaa (.agg (ints .u8 (nd.n.key))) 20 rfl kj (Qao 48 _ g2 2 50 _ _ _ r2_2 rfl kj (Qah [#[.bool nd.n.us],#[.int .i64 nd.n.nm]] [ints .u8 (nd.n.key)] [ints .u8 (nd.n.sg),ints .u8 (nd.n.pa),#[.slice nd.a nd.n.ms.length nd.c]] 2 kj) kj (isz (n:=32) kj ((Qac _ _).trans hok.kl))) <| sg 1 kj <| Qaa (.agg (ints .u8 (me.n.key))) 22 rfl kj (Qao 48 _ g3 2 50 _ _ _ r3_2 rfl kj (Qah [#[.bool me.n.us],#[.int .i64 me.n.nm]] [ints .u8 (me.n.key)] [ints .u8 (me.n.sg),ints .u8 (me.n.pa),#[.slice me.a me.n.ms.length me.c]] 2 kj) kj (isz (n:=32) kj ((Qac _ _).trans hok2.kl))) <| Qaa (.bool false) 23 rfl kj (QaH 48 _ _ _ _ _ (.bool false) rfl kj kj kj (QaW 48 (e:=5) (k:=.u8) (nd.n.key) (me.n.key) (decide_eq_true hk) hok.kl hok2.kl kj kj kj _)) <| sg 3 kj <| Qaa (.agg (ints .u8 (nd.n.sg))) 27 rfl kj (Qao 48 _ g2 34 50 _ _ _ r2_2 rfl kj (Qah [#[.bool nd.n.us],#[.int .i64 nd.n.nm],ints .u8 (nd.n.key)] [ints .u8 (nd.n.sg)] [ints .u8 (nd.n.pa),#[.slice nd.a nd.n.ms.length nd.c]] 34 (by rw [Qab,Qab,Qab]; simp only [qS,cat,((Qac _ _).trans hok.kl)]; rfl)) kj (isz (n:=32) kj ((Qac _ _).trans hok.gl))) ?_
  refine sg 1 kj <| Qaa (.agg (ints .u8 (me.n.sg))) 29 rfl kj (Qao 48 _ g3 34 50 _ _ _ r3_2 rfl kj (Qah [#[.bool me.n.us],#[.int .i64 me.n.nm],ints .u8 (me.n.key)] [ints .u8 (me.n.sg)] [ints .u8 (me.n.pa),#[.slice me.a me.n.ms.length me.c]] 34 (by rw [Qab,Qab,Qab]; simp only [qS,cat,((Qac _ _).trans hok2.kl)]; rfl)) kj (isz (n:=32) kj ((Qac _ _).trans hok2.gl))) ?_
  refine Qaa (.bool true) 30 rfl kj (QaH 48 _ _ _ _ _ (.bool true) rfl kj kj kj (QaW 48 (e:=5) (k:=.u8) (nd.n.sg) (me.n.sg) (decide_eq_false hg) hok.gl hok2.gl kj kj kj _)) <| sg 17 kj <| sgN hK5 <| cond_true kj <| sgB kj <| wp_ret ?_
  repeat (first | with_reducible refine goR1 ?_ | with_reducible refine goR2 ?_)
  exact (show bodyPost _ _ _ .ret _ _ from ret1 (.bool false) rfl (Qar kj) ⟨rfl,(Ext.tr x1 e2)⟩)
theorem Qkx (nd me:NdV) (hok:NdOk nd.n) (hok2:NdOk me.n) (B1 B2:Nat) (w:World) (hm1:nd.n.ms.length≤1000000) (hm2:me.n.ms.length≤1000000) (hr1:RdK .i64 B1 nd.n.ms (.slice nd.a nd.n.ms.length nd.c) w) (hr2:RdK .i64 B2 me.n.ms (.slice me.a me.n.ms.length me.c) w) (hu:nd.n.us=me.n.us) (hn:nd.n.nm=me.n.nm) (hk:nd.n.key≠me.n.key):Calls Tryd.prog 31 #[.agg (cat [#[.bool nd.n.us],#[.int .i64 nd.n.nm],ints .u8 (nd.n.key),ints .u8 (nd.n.sg),ints .u8 (nd.n.pa),#[.slice nd.a nd.n.ms.length nd.c]]),.agg (cat [#[.bool me.n.us],#[.int .i64 me.n.nm],ints .u8 (me.n.key),ints .u8 (me.n.sg),ints .u8 (me.n.pa),#[.slice me.a me.n.ms.length me.c]])] w (Ret w (.bool false)):=by
  refine enter 66 [(0,.agg (cat [#[.bool nd.n.us],#[.int .i64 nd.n.nm],ints .u8 (nd.n.key),ints .u8 (nd.n.sg),ints .u8 (nd.n.pa),#[.slice nd.a nd.n.ms.length nd.c]])),(1,.agg (cat [#[.bool me.n.us],#[.int .i64 me.n.nm],ints .u8 (me.n.key),ints .u8 (me.n.sg),ints .u8 (me.n.pa),#[.slice me.a me.n.ms.length me.c]]))] Tryd.func31 rfl rfl kj rfl <| sgC fun K1 hK1=>Qal (cat [#[.bool nd.n.us],#[.int .i64 nd.n.nm],ints .u8 (nd.n.key),ints .u8 (nd.n.sg),ints .u8 (nd.n.pa),#[.slice nd.a nd.n.ms.length nd.c]]) 50 2 rfl kj kj fun g2 W1 l2 e1 r2_1=>?_
  have x1:=Ext.tr (Rely.Ext.refl w) e1
  have b2:=qT (Rely.Ext.refl w).size l2
  refine Qal (cat [#[.bool me.n.us],#[.int .i64 me.n.nm],ints .u8 (me.n.key),ints .u8 (me.n.sg),ints .u8 (me.n.pa),#[.slice me.a me.n.ms.length me.c]]) 50 3 rfl kj kj fun g3 W2 l3 e2 r3_2=>?_
  have b3:=qT x1.size l3
  refine sg 1 kj <| sgN hK1 <| wp_seq_k fun K4 hK4=>sgC fun K5 hK5=>sg 1 kj ?_
  have r2_2:=(Qae r2_1 e2)
  refine Qaa (.bool nd.n.us) 7 rfl kj (Qaf 4 _ g2 0 50 _ (.bool nd.n.us) _ r2_2 rfl kj (Qah [] [#[.bool nd.n.us]] [#[.int .i64 nd.n.nm],ints .u8 (nd.n.key),ints .u8 (nd.n.sg),ints .u8 (nd.n.pa),#[.slice nd.a nd.n.ms.length nd.c]] 0 kj 0 _ rfl) kj) <| sg 1 kj <| Qaa (.bool me.n.us) 9 rfl kj (Qaf 4 _ g3 0 50 _ (.bool me.n.us) _ r3_2 rfl kj (Qah [] [#[.bool me.n.us]] [#[.int .i64 me.n.nm],ints .u8 (me.n.key),ints .u8 (me.n.sg),ints .u8 (me.n.pa),#[.slice me.a me.n.ms.length me.c]] 0 kj 0 _ rfl) kj) <| Qaa (.bool false) 10 rfl kj (Qag (u:=.bool (nd.n.us != me.n.us)) kj (congrArg Value.bool (bne_eq_false_iff_eq.2 hu))) <| sg 2 kj <| Qaa (.int .i64 nd.n.nm) 13 rfl kj (Qaf 3 _ g2 1 50 _ (.int .i64 nd.n.nm) _ r2_2 rfl kj (Qah [#[.bool nd.n.us]] [#[.int .i64 nd.n.nm]] [ints .u8 (nd.n.key),ints .u8 (nd.n.sg),ints .u8 (nd.n.pa),#[.slice nd.a nd.n.ms.length nd.c]] 1 kj 0 _ rfl) kj) <| sg 1 kj <| Qaa (.int .i64 me.n.nm) 15 rfl kj (Qaf 3 _ g3 1 50 _ (.int .i64 me.n.nm) _ r3_2 rfl kj (Qah [#[.bool me.n.us]] [#[.int .i64 me.n.nm]] [ints .u8 (me.n.key),ints .u8 (me.n.sg),ints .u8 (me.n.pa),#[.slice me.a me.n.ms.length me.c]] 1 kj 0 _ rfl) kj) <| Qaa (.bool false) 16 rfl kj (Qag (u:=.bool ((nd.n.nm != me.n.nm))) kj (congrArg Value.bool (bne_eq_false_iff_eq.2 hn))) <| sg 3 kj ?_
  refine Qaa (.agg (ints .u8 (nd.n.key))) 20 rfl kj (Qao 48 _ g2 2 50 _ _ _ r2_2 rfl kj (Qah [#[.bool nd.n.us],#[.int .i64 nd.n.nm]] [ints .u8 (nd.n.key)] [ints .u8 (nd.n.sg),ints .u8 (nd.n.pa),#[.slice nd.a nd.n.ms.length nd.c]] 2 kj) kj (isz (n:=32) kj ((Qac _ _).trans hok.kl))) <| sg 1 kj <| Qaa (.agg (ints .u8 (me.n.key))) 22 rfl kj (Qao 48 _ g3 2 50 _ _ _ r3_2 rfl kj (Qah [#[.bool me.n.us],#[.int .i64 me.n.nm]] [ints .u8 (me.n.key)] [ints .u8 (me.n.sg),ints .u8 (me.n.pa),#[.slice me.a me.n.ms.length me.c]] 2 kj) kj (isz (n:=32) kj ((Qac _ _).trans hok2.kl))) <| Qaa (.bool true) 23 rfl kj (QaH 48 _ _ _ _ _ (.bool true) rfl kj kj kj (QaW 48 (e:=5) (k:=.u8) (nd.n.key) (me.n.key) (decide_eq_false hk) hok.kl hok2.kl kj kj kj _)) <| sg 24 kj <| sgN hK5 <| cond_true kj <| sgB kj <| wp_ret ?_
  repeat (first | with_reducible refine goR1 ?_ | with_reducible refine goR2 ?_)
  exact (show bodyPost _ _ _ .ret _ _ from ret1 (.bool false) rfl (Qar kj) ⟨rfl,(Ext.tr x1 e2)⟩)
theorem Qkv (nd me:NdV) (hok:NdOk nd.n) (hok2:NdOk me.n) (B1 B2:Nat) (w:World) (hm1:nd.n.ms.length≤1000000) (hm2:me.n.ms.length≤1000000) (hr1:RdK .i64 B1 nd.n.ms (.slice nd.a nd.n.ms.length nd.c) w) (hr2:RdK .i64 B2 me.n.ms (.slice me.a me.n.ms.length me.c) w) (hu:nd.n.us=me.n.us) (hn:nd.n.nm=me.n.nm) (hk:nd.n.key=me.n.key) (hg:nd.n.sg=me.n.sg) (hp:nd.n.pa≠me.n.pa):Calls Tryd.prog 31 #[.agg (cat [#[.bool nd.n.us],#[.int .i64 nd.n.nm],ints .u8 (nd.n.key),ints .u8 (nd.n.sg),ints .u8 (nd.n.pa),#[.slice nd.a nd.n.ms.length nd.c]]),.agg (cat [#[.bool me.n.us],#[.int .i64 me.n.nm],ints .u8 (me.n.key),ints .u8 (me.n.sg),ints .u8 (me.n.pa),#[.slice me.a me.n.ms.length me.c]])] w (Ret w (.bool false)):=by
  refine enter 66 [(0,.agg (cat [#[.bool nd.n.us],#[.int .i64 nd.n.nm],ints .u8 (nd.n.key),ints .u8 (nd.n.sg),ints .u8 (nd.n.pa),#[.slice nd.a nd.n.ms.length nd.c]])),(1,.agg (cat [#[.bool me.n.us],#[.int .i64 me.n.nm],ints .u8 (me.n.key),ints .u8 (me.n.sg),ints .u8 (me.n.pa),#[.slice me.a me.n.ms.length me.c]]))] Tryd.func31 rfl rfl kj rfl <| sgC fun K1 hK1=>Qal (cat [#[.bool nd.n.us],#[.int .i64 nd.n.nm],ints .u8 (nd.n.key),ints .u8 (nd.n.sg),ints .u8 (nd.n.pa),#[.slice nd.a nd.n.ms.length nd.c]]) 50 2 rfl kj kj fun g2 W1 l2 e1 r2_1=>?_
  have x1:=Ext.tr (Rely.Ext.refl w) e1
  have b2:=qT (Rely.Ext.refl w).size l2
  refine Qal (cat [#[.bool me.n.us],#[.int .i64 me.n.nm],ints .u8 (me.n.key),ints .u8 (me.n.sg),ints .u8 (me.n.pa),#[.slice me.a me.n.ms.length me.c]]) 50 3 rfl kj kj fun g3 W2 l3 e2 r3_2=>?_
  have b3:=qT x1.size l3
  refine sg 1 kj <| sgN hK1 <| wp_seq_k fun K4 hK4=>sgC fun K5 hK5=>sg 1 kj ?_
  have r2_2:=(Qae r2_1 e2)
  refine Qaa (.bool nd.n.us) 7 rfl kj (Qaf 4 _ g2 0 50 _ (.bool nd.n.us) _ r2_2 rfl kj (Qah [] [#[.bool nd.n.us]] [#[.int .i64 nd.n.nm],ints .u8 (nd.n.key),ints .u8 (nd.n.sg),ints .u8 (nd.n.pa),#[.slice nd.a nd.n.ms.length nd.c]] 0 kj 0 _ rfl) kj) <| sg 1 kj <| Qaa (.bool me.n.us) 9 rfl kj (Qaf 4 _ g3 0 50 _ (.bool me.n.us) _ r3_2 rfl kj (Qah [] [#[.bool me.n.us]] [#[.int .i64 me.n.nm],ints .u8 (me.n.key),ints .u8 (me.n.sg),ints .u8 (me.n.pa),#[.slice me.a me.n.ms.length me.c]] 0 kj 0 _ rfl) kj) <| Qaa (.bool false) 10 rfl kj (Qag (u:=.bool (nd.n.us != me.n.us)) kj (congrArg Value.bool (bne_eq_false_iff_eq.2 hu))) <| sg 2 kj <| Qaa (.int .i64 nd.n.nm) 13 rfl kj (Qaf 3 _ g2 1 50 _ (.int .i64 nd.n.nm) _ r2_2 rfl kj (Qah [#[.bool nd.n.us]] [#[.int .i64 nd.n.nm]] [ints .u8 (nd.n.key),ints .u8 (nd.n.sg),ints .u8 (nd.n.pa),#[.slice nd.a nd.n.ms.length nd.c]] 1 kj 0 _ rfl) kj) <| sg 1 kj <| Qaa (.int .i64 me.n.nm) 15 rfl kj (Qaf 3 _ g3 1 50 _ (.int .i64 me.n.nm) _ r3_2 rfl kj (Qah [#[.bool me.n.us]] [#[.int .i64 me.n.nm]] [ints .u8 (me.n.key),ints .u8 (me.n.sg),ints .u8 (me.n.pa),#[.slice me.a me.n.ms.length me.c]] 1 kj 0 _ rfl) kj) <| Qaa (.bool false) 16 rfl kj (Qag (u:=.bool ((nd.n.nm != me.n.nm))) kj (congrArg Value.bool (bne_eq_false_iff_eq.2 hn))) <| sg 3 kj ?_
  refine Qaa (.agg (ints .u8 (nd.n.key))) 20 rfl kj (Qao 48 _ g2 2 50 _ _ _ r2_2 rfl kj (Qah [#[.bool nd.n.us],#[.int .i64 nd.n.nm]] [ints .u8 (nd.n.key)] [ints .u8 (nd.n.sg),ints .u8 (nd.n.pa),#[.slice nd.a nd.n.ms.length nd.c]] 2 kj) kj (isz (n:=32) kj ((Qac _ _).trans hok.kl))) <| sg 1 kj <| Qaa (.agg (ints .u8 (me.n.key))) 22 rfl kj (Qao 48 _ g3 2 50 _ _ _ r3_2 rfl kj (Qah [#[.bool me.n.us],#[.int .i64 me.n.nm]] [ints .u8 (me.n.key)] [ints .u8 (me.n.sg),ints .u8 (me.n.pa),#[.slice me.a me.n.ms.length me.c]] 2 kj) kj (isz (n:=32) kj ((Qac _ _).trans hok2.kl))) <| Qaa (.bool false) 23 rfl kj (QaH 48 _ _ _ _ _ (.bool false) rfl kj kj kj (QaW 48 (e:=5) (k:=.u8) (nd.n.key) (me.n.key) (decide_eq_true hk) hok.kl hok2.kl kj kj kj _)) <| sg 3 kj <| Qaa (.agg (ints .u8 (nd.n.sg))) 27 rfl kj (Qao 48 _ g2 34 50 _ _ _ r2_2 rfl kj (Qah [#[.bool nd.n.us],#[.int .i64 nd.n.nm],ints .u8 (nd.n.key)] [ints .u8 (nd.n.sg)] [ints .u8 (nd.n.pa),#[.slice nd.a nd.n.ms.length nd.c]] 34 (by rw [Qab,Qab,Qab]; simp only [qS,cat,((Qac _ _).trans hok.kl)]; rfl)) kj (isz (n:=32) kj ((Qac _ _).trans hok.gl))) ?_
  refine sg 1 kj <| Qaa (.agg (ints .u8 (me.n.sg))) 29 rfl kj (Qao 48 _ g3 34 50 _ _ _ r3_2 rfl kj (Qah [#[.bool me.n.us],#[.int .i64 me.n.nm],ints .u8 (me.n.key)] [ints .u8 (me.n.sg)] [ints .u8 (me.n.pa),#[.slice me.a me.n.ms.length me.c]] 34 (by rw [Qab,Qab,Qab]; simp only [qS,cat,((Qac _ _).trans hok2.kl)]; rfl)) kj (isz (n:=32) kj ((Qac _ _).trans hok2.gl))) ?_
  refine Qaa (.bool false) 30 rfl kj (QaH 48 _ _ _ _ _ (.bool false) rfl kj kj kj (QaW 48 (e:=5) (k:=.u8) (nd.n.sg) (me.n.sg) (decide_eq_true hg) hok.gl hok2.gl kj kj kj _)) <| sg 3 kj <| Qaa (.agg (ints .u8 (nd.n.pa))) 34 rfl kj (Qao 28 _ g2 66 50 _ _ _ r2_2 rfl kj (Qah [#[.bool nd.n.us],#[.int .i64 nd.n.nm],ints .u8 (nd.n.key),ints .u8 (nd.n.sg)] [ints .u8 (nd.n.pa)] [#[.slice nd.a nd.n.ms.length nd.c]] 66 (by rw [Qab,Qab,Qab,Qab]; simp only [qS,cat,((Qac _ _).trans hok.gl),((Qac _ _).trans hok.kl)]; rfl)) kj (isz (n:=32) kj ((Qac _ _).trans hok.pl))) ?_
  refine sg 1 kj <| Qaa (.agg (ints .u8 (me.n.pa))) 36 rfl kj (Qao 28 _ g3 66 50 _ _ _ r3_2 rfl kj (Qah [#[.bool me.n.us],#[.int .i64 me.n.nm],ints .u8 (me.n.key),ints .u8 (me.n.sg)] [ints .u8 (me.n.pa)] [#[.slice me.a me.n.ms.length me.c]] 66 (by rw [Qab,Qab,Qab,Qab]; simp only [qS,cat,((Qac _ _).trans hok2.gl),((Qac _ _).trans hok2.kl)]; rfl)) kj (isz (n:=32) kj ((Qac _ _).trans hok2.pl))) ?_
  refine Qaa (.bool true) 37 rfl kj (QaH 28 _ _ _ _ _ (.bool true) rfl kj kj kj (QaW 28 (e:=5) (k:=.u8) (nd.n.pa) (me.n.pa) (decide_eq_false hp) hok.pl hok2.pl kj kj kj _)) <| sg 10 kj <| sgN hK5 <| cond_true kj <| sgB kj <| wp_ret ?_
  repeat (first | with_reducible refine goR1 ?_ | with_reducible refine goR2 ?_)
  exact (show bodyPost _ _ _ .ret _ _ from ret1 (.bool false) rfl (Qar kj) ⟨rfl,(Ext.tr x1 e2)⟩)
theorem Qkz (nd me:NdV) (hok:NdOk nd.n) (hok2:NdOk me.n) (B1 B2:Nat) (w:World) (hm1:nd.n.ms.length≤1000000) (hm2:me.n.ms.length≤1000000) (hr1:RdK .i64 B1 nd.n.ms (.slice nd.a nd.n.ms.length nd.c) w) (hr2:RdK .i64 B2 me.n.ms (.slice me.a me.n.ms.length me.c) w) (hu:nd.n.us=me.n.us) (hn:nd.n.nm=me.n.nm) (hk:nd.n.key=me.n.key) (hg:nd.n.sg=me.n.sg) (hp:nd.n.pa=me.n.pa):Calls Tryd.prog 31 #[.agg (cat [#[.bool nd.n.us],#[.int .i64 nd.n.nm],ints .u8 (nd.n.key),ints .u8 (nd.n.sg),ints .u8 (nd.n.pa),#[.slice nd.a nd.n.ms.length nd.c]]),.agg (cat [#[.bool me.n.us],#[.int .i64 me.n.nm],ints .u8 (me.n.key),ints .u8 (me.n.sg),ints .u8 (me.n.pa),#[.slice me.a me.n.ms.length me.c]])] w (Ret w (.bool (decide (nd.n.ms=me.n.ms)))):=by
 refine enter 66 [(0,.agg (cat [#[.bool nd.n.us],#[.int .i64 nd.n.nm],ints .u8 (nd.n.key),ints .u8 (nd.n.sg),ints .u8 (nd.n.pa),#[.slice nd.a nd.n.ms.length nd.c]])),(1,.agg (cat [#[.bool me.n.us],#[.int .i64 me.n.nm],ints .u8 (me.n.key),ints .u8 (me.n.sg),ints .u8 (me.n.pa),#[.slice me.a me.n.ms.length me.c]]))] Tryd.func31 rfl rfl kj rfl <| sgC fun K1 hK1=>Qal (cat [#[.bool nd.n.us],#[.int .i64 nd.n.nm],ints .u8 (nd.n.key),ints .u8 (nd.n.sg),ints .u8 (nd.n.pa),#[.slice nd.a nd.n.ms.length nd.c]]) 50 2 rfl kj kj fun g2 W1 l2 e1 r2_1=>?_
 have x1:=Ext.tr (Rely.Ext.refl w) e1
 have b2:=qT (Rely.Ext.refl w).size l2
 refine Qal (cat [#[.bool me.n.us],#[.int .i64 me.n.nm],ints .u8 (me.n.key),ints .u8 (me.n.sg),ints .u8 (me.n.pa),#[.slice me.a me.n.ms.length me.c]]) 50 3 rfl kj kj fun g3 W2 l3 e2 r3_2=>?_
 have x2:=Ext.tr x1 e2
 have b3:=qT x1.size l3
 refine sg 1 kj <| sgN hK1 <| wp_seq_k fun K4 hK4=>wp_seq_k fun K5 hK5=>?_
 rcases (show nd.n.ms.length≠me.n.ms.length∨nd.n.ms.length=me.n.ms.length by omega) with hl | hl
 ·skip
  refine Qad <| sg 1 kj ?_
  have r2_2:=(Qae r2_1 e2)
  refine Qaa (.bool nd.n.us) 7 rfl kj (Qaf 4 _ g2 0 50 _ (.bool nd.n.us) _ r2_2 rfl kj (Qah [] [#[.bool nd.n.us]] [#[.int .i64 nd.n.nm],ints .u8 (nd.n.key),ints .u8 (nd.n.sg),ints .u8 (nd.n.pa),#[.slice nd.a nd.n.ms.length nd.c]] 0 kj 0 _ rfl) kj) <| sg 1 kj <| Qaa (.bool me.n.us) 9 rfl kj (Qaf 4 _ g3 0 50 _ (.bool me.n.us) _ r3_2 rfl kj (Qah [] [#[.bool me.n.us]] [#[.int .i64 me.n.nm],ints .u8 (me.n.key),ints .u8 (me.n.sg),ints .u8 (me.n.pa),#[.slice me.a me.n.ms.length me.c]] 0 kj 0 _ rfl) kj) <| Qaa (.bool false) 10 rfl kj (Qag (u:=.bool (nd.n.us != me.n.us)) kj (congrArg Value.bool (bne_eq_false_iff_eq.2 hu))) <| sg 2 kj <| Qaa (.int .i64 nd.n.nm) 13 rfl kj (Qaf 3 _ g2 1 50 _ (.int .i64 nd.n.nm) _ r2_2 rfl kj (Qah [#[.bool nd.n.us]] [#[.int .i64 nd.n.nm]] [ints .u8 (nd.n.key),ints .u8 (nd.n.sg),ints .u8 (nd.n.pa),#[.slice nd.a nd.n.ms.length nd.c]] 1 kj 0 _ rfl) kj) <| sg 1 kj <| Qaa (.int .i64 me.n.nm) 15 rfl kj (Qaf 3 _ g3 1 50 _ (.int .i64 me.n.nm) _ r3_2 rfl kj (Qah [#[.bool me.n.us]] [#[.int .i64 me.n.nm]] [ints .u8 (me.n.key),ints .u8 (me.n.sg),ints .u8 (me.n.pa),#[.slice me.a me.n.ms.length me.c]] 1 kj 0 _ rfl) kj) <| Qaa (.bool false) 16 rfl kj (Qag (u:=.bool ((nd.n.nm != me.n.nm))) kj (congrArg Value.bool (bne_eq_false_iff_eq.2 hn))) <| sg 3 kj ?_
  refine Qaa (.agg (ints .u8 (nd.n.key))) 20 rfl kj (Qao 48 _ g2 2 50 _ _ _ r2_2 rfl kj (Qah [#[.bool nd.n.us],#[.int .i64 nd.n.nm]] [ints .u8 (nd.n.key)] [ints .u8 (nd.n.sg),ints .u8 (nd.n.pa),#[.slice nd.a nd.n.ms.length nd.c]] 2 kj) kj (isz (n:=32) kj ((Qac _ _).trans hok.kl))) <| sg 1 kj <| Qaa (.agg (ints .u8 (me.n.key))) 22 rfl kj (Qao 48 _ g3 2 50 _ _ _ r3_2 rfl kj (Qah [#[.bool me.n.us],#[.int .i64 me.n.nm]] [ints .u8 (me.n.key)] [ints .u8 (me.n.sg),ints .u8 (me.n.pa),#[.slice me.a me.n.ms.length me.c]] 2 kj) kj (isz (n:=32) kj ((Qac _ _).trans hok2.kl))) <| Qaa (.bool false) 23 rfl kj (QaH 48 _ _ _ _ _ (.bool false) rfl kj kj kj (QaW 48 (e:=5) (k:=.u8) (nd.n.key) (me.n.key) (decide_eq_true hk) hok.kl hok2.kl kj kj kj _)) <| sg 3 kj <| Qaa (.agg (ints .u8 (nd.n.sg))) 27 rfl kj (Qao 48 _ g2 34 50 _ _ _ r2_2 rfl kj (Qah [#[.bool nd.n.us],#[.int .i64 nd.n.nm],ints .u8 (nd.n.key)] [ints .u8 (nd.n.sg)] [ints .u8 (nd.n.pa),#[.slice nd.a nd.n.ms.length nd.c]] 34 (by rw [Qab,Qab,Qab]; simp only [qS,cat,((Qac _ _).trans hok.kl)]; rfl)) kj (isz (n:=32) kj ((Qac _ _).trans hok.gl))) ?_
  refine sg 1 kj <| Qaa (.agg (ints .u8 (me.n.sg))) 29 rfl kj (Qao 48 _ g3 34 50 _ _ _ r3_2 rfl kj (Qah [#[.bool me.n.us],#[.int .i64 me.n.nm],ints .u8 (me.n.key)] [ints .u8 (me.n.sg)] [ints .u8 (me.n.pa),#[.slice me.a me.n.ms.length me.c]] 34 (by rw [Qab,Qab,Qab]; simp only [qS,cat,((Qac _ _).trans hok2.kl)]; rfl)) kj (isz (n:=32) kj ((Qac _ _).trans hok2.gl))) ?_
  refine Qaa (.bool false) 30 rfl kj (QaH 48 _ _ _ _ _ (.bool false) rfl kj kj kj (QaW 48 (e:=5) (k:=.u8) (nd.n.sg) (me.n.sg) (decide_eq_true hg) hok.gl hok2.gl kj kj kj _)) <| sg 3 kj <| Qaa (.agg (ints .u8 (nd.n.pa))) 34 rfl kj (Qao 28 _ g2 66 50 _ _ _ r2_2 rfl kj (Qah [#[.bool nd.n.us],#[.int .i64 nd.n.nm],ints .u8 (nd.n.key),ints .u8 (nd.n.sg)] [ints .u8 (nd.n.pa)] [#[.slice nd.a nd.n.ms.length nd.c]] 66 (by rw [Qab,Qab,Qab,Qab]; simp only [qS,cat,((Qac _ _).trans hok.gl),((Qac _ _).trans hok.kl)]; rfl)) kj (isz (n:=32) kj ((Qac _ _).trans hok.pl))) ?_
  refine sg 1 kj <| Qaa (.agg (ints .u8 (me.n.pa))) 36 rfl kj (Qao 28 _ g3 66 50 _ _ _ r3_2 rfl kj (Qah [#[.bool me.n.us],#[.int .i64 me.n.nm],ints .u8 (me.n.key),ints .u8 (me.n.sg)] [ints .u8 (me.n.pa)] [#[.slice me.a me.n.ms.length me.c]] 66 (by rw [Qab,Qab,Qab,Qab]; simp only [qS,cat,((Qac _ _).trans hok2.gl),((Qac _ _).trans hok2.kl)]; rfl)) kj (isz (n:=32) kj ((Qac _ _).trans hok2.pl))) ?_
  refine Qaa (.bool false) 37 rfl kj (QaH 28 _ _ _ _ _ (.bool false) rfl kj kj kj (QaW 28 (e:=5) (k:=.u8) (nd.n.pa) (me.n.pa) (decide_eq_true hp) hok.pl hok2.pl kj kj kj _)) <| sg 3 kj <| Qaa (.slice nd.a nd.n.ms.length nd.c) 41 rfl kj (Qaf 24 _ g2 98 50 _ (.slice nd.a nd.n.ms.length nd.c) _ r2_2 rfl kj (Qah [#[.bool nd.n.us],#[.int .i64 nd.n.nm],ints .u8 (nd.n.key),ints .u8 (nd.n.sg),ints .u8 (nd.n.pa)] [#[.slice nd.a nd.n.ms.length nd.c]] [] 98 (by rw [Qab,Qab,Qab,Qab,Qab]; simp only [qS,cat,((Qac _ _).trans hok.gl),((Qac _ _).trans hok.kl),((Qac _ _).trans hok.pl)]; rfl) 0 _ rfl) kj) ?_
  refine sg 2 kj <| Qaa (.slice me.a me.n.ms.length me.c) 44 rfl kj (Qaf 24 _ g3 98 50 _ (.slice me.a me.n.ms.length me.c) _ r3_2 rfl kj (Qah [#[.bool me.n.us],#[.int .i64 me.n.nm],ints .u8 (me.n.key),ints .u8 (me.n.sg),ints .u8 (me.n.pa)] [#[.slice me.a me.n.ms.length me.c]] [] 98 (by rw [Qab,Qab,Qab,Qab,Qab]; simp only [qS,cat,((Qac _ _).trans hok2.gl),((Qac _ _).trans hok2.kl),((Qac _ _).trans hok2.pl)]; rfl) 0 _ rfl) kj) ?_
  refine sg 1 kj <| Qaa (.bool true) 46 rfl kj (Qag (u:=.bool ((((nd.n.ms.length:Nat):Int) != ((me.n.ms.length:Nat):Int)))) kj (congrArg Value.bool (bne_iff_ne.2 (by omega)))) <| sg 1 kj <| sgN hK5 <| cond_true kj <| sgB kj <| wp_ret ?_
  repeat (first | with_reducible refine goR1 ?_ | with_reducible refine goR2 ?_)
  exact (show bodyPost _ _ _ .ret _ _ from ret1 (.bool false) rfl (Qar kj) ⟨congrArg (fun z=>Ending.returned (.bool z)) (decide_eq_false (fun e=>hl (congrArg List.length e))).symm,x2⟩)
 ·skip
  refine Qad <| sg 1 kj ?_
  have r2_2:=(Qae r2_1 e2)
  refine Qaa (.bool nd.n.us) 7 rfl kj (Qaf 4 _ g2 0 50 _ (.bool nd.n.us) _ r2_2 rfl kj (Qah [] [#[.bool nd.n.us]] [#[.int .i64 nd.n.nm],ints .u8 (nd.n.key),ints .u8 (nd.n.sg),ints .u8 (nd.n.pa),#[.slice nd.a nd.n.ms.length nd.c]] 0 kj 0 _ rfl) kj) <| sg 1 kj <| Qaa (.bool me.n.us) 9 rfl kj (Qaf 4 _ g3 0 50 _ (.bool me.n.us) _ r3_2 rfl kj (Qah [] [#[.bool me.n.us]] [#[.int .i64 me.n.nm],ints .u8 (me.n.key),ints .u8 (me.n.sg),ints .u8 (me.n.pa),#[.slice me.a me.n.ms.length me.c]] 0 kj 0 _ rfl) kj) <| Qaa (.bool false) 10 rfl kj (Qag (u:=.bool (nd.n.us != me.n.us)) kj (congrArg Value.bool (bne_eq_false_iff_eq.2 hu))) <| sg 2 kj <| Qaa (.int .i64 nd.n.nm) 13 rfl kj (Qaf 3 _ g2 1 50 _ (.int .i64 nd.n.nm) _ r2_2 rfl kj (Qah [#[.bool nd.n.us]] [#[.int .i64 nd.n.nm]] [ints .u8 (nd.n.key),ints .u8 (nd.n.sg),ints .u8 (nd.n.pa),#[.slice nd.a nd.n.ms.length nd.c]] 1 kj 0 _ rfl) kj) <| sg 1 kj <| Qaa (.int .i64 me.n.nm) 15 rfl kj (Qaf 3 _ g3 1 50 _ (.int .i64 me.n.nm) _ r3_2 rfl kj (Qah [#[.bool me.n.us]] [#[.int .i64 me.n.nm]] [ints .u8 (me.n.key),ints .u8 (me.n.sg),ints .u8 (me.n.pa),#[.slice me.a me.n.ms.length me.c]] 1 kj 0 _ rfl) kj) <| Qaa (.bool false) 16 rfl kj (Qag (u:=.bool ((nd.n.nm != me.n.nm))) kj (congrArg Value.bool (bne_eq_false_iff_eq.2 hn))) <| sg 3 kj ?_
  refine Qaa (.agg (ints .u8 (nd.n.key))) 20 rfl kj (Qao 48 _ g2 2 50 _ _ _ r2_2 rfl kj (Qah [#[.bool nd.n.us],#[.int .i64 nd.n.nm]] [ints .u8 (nd.n.key)] [ints .u8 (nd.n.sg),ints .u8 (nd.n.pa),#[.slice nd.a nd.n.ms.length nd.c]] 2 kj) kj (isz (n:=32) kj ((Qac _ _).trans hok.kl))) <| sg 1 kj <| Qaa (.agg (ints .u8 (me.n.key))) 22 rfl kj (Qao 48 _ g3 2 50 _ _ _ r3_2 rfl kj (Qah [#[.bool me.n.us],#[.int .i64 me.n.nm]] [ints .u8 (me.n.key)] [ints .u8 (me.n.sg),ints .u8 (me.n.pa),#[.slice me.a me.n.ms.length me.c]] 2 kj) kj (isz (n:=32) kj ((Qac _ _).trans hok2.kl))) <| Qaa (.bool false) 23 rfl kj (QaH 48 _ _ _ _ _ (.bool false) rfl kj kj kj (QaW 48 (e:=5) (k:=.u8) (nd.n.key) (me.n.key) (decide_eq_true hk) hok.kl hok2.kl kj kj kj _)) <| sg 3 kj <| Qaa (.agg (ints .u8 (nd.n.sg))) 27 rfl kj (Qao 48 _ g2 34 50 _ _ _ r2_2 rfl kj (Qah [#[.bool nd.n.us],#[.int .i64 nd.n.nm],ints .u8 (nd.n.key)] [ints .u8 (nd.n.sg)] [ints .u8 (nd.n.pa),#[.slice nd.a nd.n.ms.length nd.c]] 34 (by rw [Qab,Qab,Qab]; simp only [qS,cat,((Qac _ _).trans hok.kl)]; rfl)) kj (isz (n:=32) kj ((Qac _ _).trans hok.gl))) ?_
  refine sg 1 kj <| Qaa (.agg (ints .u8 (me.n.sg))) 29 rfl kj (Qao 48 _ g3 34 50 _ _ _ r3_2 rfl kj (Qah [#[.bool me.n.us],#[.int .i64 me.n.nm],ints .u8 (me.n.key)] [ints .u8 (me.n.sg)] [ints .u8 (me.n.pa),#[.slice me.a me.n.ms.length me.c]] 34 (by rw [Qab,Qab,Qab]; simp only [qS,cat,((Qac _ _).trans hok2.kl)]; rfl)) kj (isz (n:=32) kj ((Qac _ _).trans hok2.gl))) ?_
  refine Qaa (.bool false) 30 rfl kj (QaH 48 _ _ _ _ _ (.bool false) rfl kj kj kj (QaW 48 (e:=5) (k:=.u8) (nd.n.sg) (me.n.sg) (decide_eq_true hg) hok.gl hok2.gl kj kj kj _)) <| sg 3 kj <| Qaa (.agg (ints .u8 (nd.n.pa))) 34 rfl kj (Qao 28 _ g2 66 50 _ _ _ r2_2 rfl kj (Qah [#[.bool nd.n.us],#[.int .i64 nd.n.nm],ints .u8 (nd.n.key),ints .u8 (nd.n.sg)] [ints .u8 (nd.n.pa)] [#[.slice nd.a nd.n.ms.length nd.c]] 66 (by rw [Qab,Qab,Qab,Qab]; simp only [qS,cat,((Qac _ _).trans hok.gl),((Qac _ _).trans hok.kl)]; rfl)) kj (isz (n:=32) kj ((Qac _ _).trans hok.pl))) ?_
  refine sg 1 kj <| Qaa (.agg (ints .u8 (me.n.pa))) 36 rfl kj (Qao 28 _ g3 66 50 _ _ _ r3_2 rfl kj (Qah [#[.bool me.n.us],#[.int .i64 me.n.nm],ints .u8 (me.n.key),ints .u8 (me.n.sg)] [ints .u8 (me.n.pa)] [#[.slice me.a me.n.ms.length me.c]] 66 (by rw [Qab,Qab,Qab,Qab]; simp only [qS,cat,((Qac _ _).trans hok2.gl),((Qac _ _).trans hok2.kl)]; rfl)) kj (isz (n:=32) kj ((Qac _ _).trans hok2.pl))) ?_
  refine Qaa (.bool false) 37 rfl kj (QaH 28 _ _ _ _ _ (.bool false) rfl kj kj kj (QaW 28 (e:=5) (k:=.u8) (nd.n.pa) (me.n.pa) (decide_eq_true hp) hok.pl hok2.pl kj kj kj _)) <| sg 3 kj <| Qaa (.slice nd.a nd.n.ms.length nd.c) 41 rfl kj (Qaf 24 _ g2 98 50 _ (.slice nd.a nd.n.ms.length nd.c) _ r2_2 rfl kj (Qah [#[.bool nd.n.us],#[.int .i64 nd.n.nm],ints .u8 (nd.n.key),ints .u8 (nd.n.sg),ints .u8 (nd.n.pa)] [#[.slice nd.a nd.n.ms.length nd.c]] [] 98 (by rw [Qab,Qab,Qab,Qab,Qab]; simp only [qS,cat,((Qac _ _).trans hok.gl),((Qac _ _).trans hok.kl),((Qac _ _).trans hok.pl)]; rfl) 0 _ rfl) kj) ?_
  refine sg 2 kj <| Qaa (.slice me.a me.n.ms.length me.c) 44 rfl kj (Qaf 24 _ g3 98 50 _ (.slice me.a me.n.ms.length me.c) _ r3_2 rfl kj (Qah [#[.bool me.n.us],#[.int .i64 me.n.nm],ints .u8 (me.n.key),ints .u8 (me.n.sg),ints .u8 (me.n.pa)] [#[.slice me.a me.n.ms.length me.c]] [] 98 (by rw [Qab,Qab,Qab,Qab,Qab]; simp only [qS,cat,((Qac _ _).trans hok2.gl),((Qac _ _).trans hok2.kl),((Qac _ _).trans hok2.pl)]; rfl) 0 _ rfl) kj) ?_
  refine sg 1 kj <| Qaa (.bool false) 46 rfl kj (Qag (u:=.bool ((((nd.n.ms.length:Nat):Int) != ((me.n.ms.length:Nat):Int)))) kj (congrArg Value.bool (bne_eq_false_iff_eq.2 (by omega)))) <| sg 1 kj <| sgN hK5 <| cond_false kj <| wp_skip <| hK4 _ _ <| wp_seq_k fun K7 hK7=>sgB kj <| wp_block ?_
  refine Qay (fun (s1:Nat)=>[(2,.pointer (some ⟨g2,0,none⟩)),(3,.pointer (some ⟨g3,0,none⟩)),(5,.int .i64 ((s1:Nat):Int))]) (fun (s1:Nat) W=>(s1≤nd.n.ms.length)∧(nd.n.ms.take s1=me.n.ms.take s1)∧(Ext W2 W)∧(Ext w W)) (fun (s1:Nat)=>nd.n.ms.length-s1) 0 ⟨kj,kj,kj,trivial⟩ ⟨(Nat.zero_le _),rfl,(Rely.Ext.refl W2),x2⟩ fun s1 X1 V1 hI1=>?_
  obtain ⟨i,hs1⟩:∃ z,z=s1:=⟨_,rfl⟩
  subst hs1
  obtain ⟨hi,hpre,kk1,xx1⟩:=hI1
  replace hi:i≤nd.n.ms.length:=hi
  replace hpre:nd.n.ms.take i=me.n.ms.take i:=hpre
  replace kk1:Ext W2 V1:=kk1
  replace xx1:Ext w V1:=xx1
  have e3:=kk1
  refine wp_seq_k fun K9 hK9=>sgC fun K10 hK10=>sg 2 kj ?_
  have r2_3:=(Qae r2_2 e3)
  refine Qaa (.slice nd.a nd.n.ms.length nd.c) 50 rfl kj (Qaf 24 _ g2 98 50 _ (.slice nd.a nd.n.ms.length nd.c) _ r2_3 rfl kj (Qah [#[.bool nd.n.us],#[.int .i64 nd.n.nm],ints .u8 (nd.n.key),ints .u8 (nd.n.sg),ints .u8 (nd.n.pa)] [#[.slice nd.a nd.n.ms.length nd.c]] [] 98 (by rw [Qab,Qab,Qab,Qab,Qab]; simp only [qS,cat,((Qac _ _).trans hok.gl),((Qac _ _).trans hok.kl),((Qac _ _).trans hok.pl)]; rfl) 0 _ rfl) kj) ?_
  refine sg 2 kj <| sgN hK10 <| Qaq (t:=decide (((i:Nat):Int)<((nd.n.ms.length:Nat):Int))) kj (fun c11=>?_) (fun c11=>?_)
  ·skip
   have hlt52:i<nd.n.ms.length:=by have:=of_decide_eq_true c11; omega
   refine wp_skip <| hK9 _ _ <| wp_seq_k fun K12 hK12=>wp_block <| wp_seq_k fun K13 hK13=>?_
   have hnx_14:(nd.n.ms).length=nd.n.ms.length:=rfl
   obtain ⟨gcx_14,ocx_14,hax_14,hlx_14,hcx_14⟩:=QaO (RdK.here (RdK.ext hr1 xx1)) (by rw [hnx_14]; omega)
   have hny_15:(me.n.ms).length=me.n.ms.length:=rfl
   obtain ⟨gcy_15,ocy_15,hay_15,hly_15,hcy_15⟩:=QaO (RdK.here (RdK.ext hr2 xx1)) (by rw [hny_15]; omega)
   refine QaY 10 [⟨none,[(2,none)]⟩,⟨none,[(55,some 0)]⟩,⟨none,[(5,none)]⟩,⟨none,[(56,some 1),(57,some 2)]⟩,⟨none,[(58,some 3)]⟩,⟨none,[(3,none)]⟩,⟨none,[(60,some 5)]⟩,⟨none,[(5,none)]⟩,⟨none,[(61,some 6),(62,some 7)]⟩,⟨none,[(63,some 8)]⟩] kj kj fun F hF=>Qa2 (Qam _) (.pointer (some ⟨g2,98,none⟩)) kj kj (fun W=>by kernel_rfl) <| QaM (Qam _) (.slice nd.a nd.n.ms.length nd.c) kj kj (fun W hR=>(Qaf 24 _ g2 98 50 _ (.slice nd.a nd.n.ms.length nd.c) _ (Qae (Qae r2_3 (Qaz _)) hR) rfl kj (Qah [#[.bool nd.n.us],#[.int .i64 nd.n.nm],ints .u8 (nd.n.key),ints .u8 (nd.n.sg),ints .u8 (nd.n.pa)] [#[.slice nd.a nd.n.ms.length nd.c]] [] 98 (by rw [Qab,Qab,Qab,Qab,Qab]; simp only [qS,cat,((Qac _ _).trans hok.gl),((Qac _ _).trans hok.kl),((Qac _ _).trans hok.pl)]; rfl) 0 _ rfl) kj)) ?_
   refine Qa2 (Qam _) (.int .i64 ((i:Nat):Int)) kj kj (fun W=>by kernel_rfl) <| Qa2 (Qam _) (.pointer (some ⟨gcx_14,ocx_14+i,none⟩)) kj kj (fun W=>(Qa1 24 _ _ .i64 i gcx_14 ocx_14 nd.n.ms.length nd.c 3 nd.a _ hax_14 rfl rfl kj kj kj kj (Nat.lt_of_lt_of_eq (show i<nd.n.ms.length by omega) hnx_14.symm))) <| QaM (Qam _) (.int .i64 (nth (nd.n.ms) (i))) kj kj (fun W hR=>(Qai 3 _ _ (.int .i64 (nth (nd.n.ms) (i))) ((Below.cell (Rely.Ext.trans (Qaz _) hR) hlx_14).trans (hcx_14 i (Nat.lt_of_lt_of_eq (show i<nd.n.ms.length by omega) hnx_14.symm))) rfl kj kj)) <| Qa2 (Qam _) (.pointer (some ⟨g3,98,none⟩)) kj kj (fun W=>by kernel_rfl) <| QaM (Qam _) (.slice me.a me.n.ms.length me.c) kj kj (fun W hR=>(Qaf 24 _ g3 98 50 _ (.slice me.a me.n.ms.length me.c) _ (Qae (Qae (Qae r3_2 e3) (Qaz _)) hR) rfl kj (Qah [#[.bool me.n.us],#[.int .i64 me.n.nm],ints .u8 (me.n.key),ints .u8 (me.n.sg),ints .u8 (me.n.pa)] [#[.slice me.a me.n.ms.length me.c]] [] 98 (by rw [Qab,Qab,Qab,Qab,Qab]; simp only [qS,cat,((Qac _ _).trans hok2.gl),((Qac _ _).trans hok2.kl),((Qac _ _).trans hok2.pl)]; rfl) 0 _ rfl) kj)) ?_
   refine Qa2 (Qam _) (.int .i64 ((i:Nat):Int)) kj kj (fun W=>by kernel_rfl) <| Qa2 (Qam _) (.pointer (some ⟨gcy_15,ocy_15+i,none⟩)) kj kj (fun W=>(Qa1 24 _ _ .i64 i gcy_15 ocy_15 me.n.ms.length me.c 3 me.a _ hay_15 rfl rfl kj kj kj kj (Nat.lt_of_lt_of_eq (show i<me.n.ms.length by omega) hny_15.symm))) <| QaM (Qam _) (.int .i64 (nth (me.n.ms) (i))) kj kj (fun W hR=>(Qai 3 _ _ (.int .i64 (nth (me.n.ms) (i))) ((Below.cell (Rely.Ext.trans (Qaz _) hR) hly_15).trans (hcy_15 i (Nat.lt_of_lt_of_eq (show i<me.n.ms.length by omega) hny_15.symm))) rfl kj kj)) <| Qda (hF _ fun W4 e4=>?_)
   simp only [List.nil_append,List.cons_append,List.take_succ_cons,List.take_zero,List.drop_succ_cons,List.drop_zero,finE,up]
   clear hF
   have x4:=Ext.tr xx1 e4
   refine sg 1 kj <| sgN hK13 <| Qaq (t:=((nth (nd.n.ms) (i)) != (nth (me.n.ms) (i)))) kj (fun c16=>?_) (fun c16=>?_)
   ·skip
    have hcn:nth (nd.n.ms) i≠nth (me.n.ms) i:=(bne_iff_ne.1 c16)
    refine sgB kj <| wp_ret ?_
    repeat (first | with_reducible refine goR1 ?_ | with_reducible refine goR2 ?_)
    exact (show bodyPost _ _ _ .ret _ _ from ret1 (.bool false) rfl (Qar kj) ⟨congrArg (fun z=>Ending.returned (.bool z)) (decide_eq_false (fun e=>hcn (congrArg (fun z=>nth z i) e))).symm,x4⟩)
   ·skip
    have hcn:nth (nd.n.ms) i=nth (me.n.ms) i:=(bne_eq_false_iff_eq.1 c16)
    refine wp_skip <| hK12 _ _ <| Qad <| sg 1 kj <| Qaa (.int .i64 ((i+1:Nat):Int)) 54 rfl kj (Qag (u:=.int .i64 (IntKind.i64.wrap (((i:Nat):Int)+1))) kj (congrArg (Value.int .i64) (i64n _ _ (by omega) (by omega)))) <| sg 1 kj <| Qaj ?_
    repeat (first | with_reducible refine goX1 ?_ | with_reducible refine goX2 ?_ | with_reducible refine goX3 ?_)
    exact Qap (i+1) ⟨kj,kj,kj,trivial⟩ ⟨(by omega),(QdC hpre hcn (by omega) (by omega)),(Rely.Ext.trans e3 e4),x4⟩ (by show nd.n.ms.length-(i+1)<nd.n.ms.length-i; omega)
  ·skip
   have heq52:i=nd.n.ms.length:=by have:=of_decide_eq_false c11; omega
   have hxy:nd.n.ms=me.n.ms:=by rw [heq52,List.take_length,hl,List.take_length] at hpre; exact hpre
   refine wp_exit <| hK7 _ _ <| sgB kj <| wp_ret ?_
   repeat (first | with_reducible refine goR1 ?_ | with_reducible refine goR2 ?_)
   exact (show bodyPost _ _ _ .ret _ _ from ret1 (.bool true) rfl (Qar kj) ⟨congrArg (fun z=>Ending.returned (.bool z)) (decide_eq_true hxy).symm,xx1⟩)
theorem QlN (nd me:NdV) (hok:NdOk nd.n) (hok2:NdOk me.n) (B1 B2:Nat) (w:World) (hm1:nd.n.ms.length≤1000000) (hm2:me.n.ms.length≤1000000) (hr1:RdK .i64 B1 nd.n.ms (.slice nd.a nd.n.ms.length nd.c) w) (hr2:RdK .i64 B2 me.n.ms (.slice me.a me.n.ms.length me.c) w):Calls Tryd.prog 31 #[.agg (cat (ndP nd)),.agg (cat (ndP me))] w (Ret w (.bool (QcR nd.n me.n))):=by
  unfold QcR ndP
  by_cases hu:nd.n.us=me.n.us
  case neg=>rw [beq_eq_false_iff_ne.2 hu]; simp only [Bool.false_and]; exact Qku nd me hok hok2 B1 B2 w hm1 hm2 hr1 hr2 hu
  by_cases hn:nd.n.nm=me.n.nm
  case neg=>rw [beq_eq_false_iff_ne.2 hn]; simp only [Bool.false_and,Bool.and_false]; exact Qkw nd me hok hok2 B1 B2 w hm1 hm2 hr1 hr2 hu hn
  by_cases hk:nd.n.key=me.n.key
  case neg=>rw [decide_eq_false hk]; simp only [Bool.false_and,Bool.and_false]; exact Qkx nd me hok hok2 B1 B2 w hm1 hm2 hr1 hr2 hu hn hk
  by_cases hg:nd.n.sg=me.n.sg
  case neg=>rw [decide_eq_false hg]; simp only [Bool.false_and,Bool.and_false]; exact Qky nd me hok hok2 B1 B2 w hm1 hm2 hr1 hr2 hu hn hk hg
  by_cases hp:nd.n.pa=me.n.pa
  case neg=>rw [decide_eq_false hp]; simp only [Bool.false_and,Bool.and_false]; exact Qkv nd me hok hok2 B1 B2 w hm1 hm2 hr1 hr2 hu hn hk hg hp
  rw [beq_iff_eq.2 hu,beq_iff_eq.2 hn,decide_eq_true hk,decide_eq_true hg,decide_eq_true hp]
  simp only [Bool.true_and]
  exact Qkz nd me hok hok2 B1 B2 w hm1 hm2 hr1 hr2 hu hn hk hg hp
end Go.Proofs.YthfkppjajmjpnaaDoor.Te
end
section
namespace Go.Proofs.YthfkppjajmjpnaaDoor.Te
open Go Go.RowKit
open Rely Auto Own Seat Sha
theorem NdAt.ext {B g off:Nat} {w W:World} {n:NdV} (h:NdAt B w g off n) (e:Ext w W):NdAt B W g off n:=h.keep e.size fun k _ hl=>e.block k hl
end Go.Proofs.YthfkppjajmjpnaaDoor.Te
end
section
namespace Go.Proofs.YthfkppjajmjpnaaDoor.Te
open Go Go.RowKit
open Rely Auto Own Seat Sha
end Go.Proofs.YthfkppjajmjpnaaDoor.Te
end
section
namespace Go.Proofs.YthfkppjajmjpnaaDoor.Te
open Go Go.RowKit
open Rely Auto Own Seat Sha
end Go.Proofs.YthfkppjajmjpnaaDoor.Te
end
section
namespace Go.Proofs.YthfkppjajmjpnaaDoor.Te
open Go Go.RowKit
open Rely Auto Own Seat Sha
theorem Qmr (a b c:Value) (k g p:Array Value) (hk:k.size=32) (hg:g.size=32) (hp:p.size=32):(cat [#[a],#[b],k,g,p,#[c]])[0]? = some a∧(cat [#[a],#[b],k,g,p,#[c]])[1]? = some b∧(cat [#[a],#[b],k,g,p,#[c]])[98]? = some c:=by
  refine ⟨?_,?_,?_⟩
  · show (#[a]++cat _)[0]? = _
    rw [Array.getElem?_append_left (show 0<1 by decide)]; rfl
  · show (#[a]++(#[b]++cat _))[1]? = _
    rw [Array.getElem?_append_right (show 1≤1 by decide),Array.getElem?_append_left (show 0<1 by decide)]; rfl
  · rw [show cat [#[a],#[b],k,g,p,#[c]]=(#[a]++#[b]++k++g++p)++#[c] by simp [cat,Array.append_assoc]]
    rw [Array.getElem?_append_right (by simp [hk,hg,hp])]
    simp [hk,hg,hp]
theorem NdAt.at3 {B g off:Nat} {w:World} {n:NdV} (h:NdAt B w g off n):w.cell? ⟨g,off,none⟩=some (.bool n.n.us)∧w.cell? ⟨g,off+1,none⟩=some (.int .i64 n.n.nm)∧w.cell? ⟨g,off+98,none⟩=some (.slice n.a n.n.ms.length n.c):=by
  have q:=Qmr (.bool n.n.us) (.int .i64 n.n.nm) (.slice n.a n.n.ms.length n.c) (ints .u8 n.n.key) (ints .u8 n.n.sg) (ints .u8 n.n.pa) (by rw [Qac]; exact h.ok.kl) (by rw [Qac]; exact h.ok.gl) (by rw [Qac]; exact h.ok.pl)
  exact ⟨h.cell 0 _ q.1,h.cell 1 _ q.2.1,h.cell 98 _ q.2.2⟩
def anyU (ts : List NdV) (k:Nat):Bool:=(List.range ts.length).any fun j=>decide (k≤j)&&decide (2*j<ts.length)&&(ndi ts (2*j)).n.us
theorem QgR {ts : List NdV} {k j:Nat} (h1:k≤j) (h2:2*j<ts.length) (h3:(ndi ts (2*j)).n.us=true):anyU ts k=true:=by
  unfold anyU
  rw [List.any_eq_true]
  exact ⟨j,List.mem_range.2 (by omega),by simp [h1,h2,h3]⟩
theorem Qi2 {ts : List NdV} {k i:Nat} (h:∀ j,k≤j→j<i→(ndi ts (2*j)).n.us=false) (hi:ts.length≤2*i):anyU ts k=false:=by
  unfold anyU
  rw [List.any_eq_false]
  intro j hj hc
  simp only [Bool.and_eq_true,decide_eq_true_eq] at hc
  rw [h j hc.1.1 (by omega)] at hc
  exact Bool.noConfusion hc.2
set_option maxRecDepth 100000 in
theorem QlB (ts : List NdV) (a_t:Option Addr) (c_t B1:Nat) (w:World) (ht:TrAt B1 w a_t ts) (htl:ts.length≤100000) (k:Nat) (hk:k≤100000):Calls Tryd.prog 30 #[.slice a_t ts.length c_t,.int .i64 ((k:Nat):Int)] w (Ret w (.bool (anyU ts k))):=by
 refine enter 19 [(0,.slice a_t ts.length c_t),(1,.int .i64 ((k:Nat):Int))] Tryd.func30 rfl rfl kj rfl <| sgB kj <| wp_seq_k fun K2 hK2=>sgC fun K3 hK3=>sg 1 kj <| Qaa (.int .i64 (((2*k:Nat):Int))) 7 rfl kj (Qag (u:=.int .i64 (IntKind.i64.wrap (2*((k:Nat):Int)))) kj (congrArg (Value.int .i64) ((IntWalk.i64_in _ (by omega)).trans (by omega)))) <| sg 1 kj <| sgN hK3 <| wp_block <| Qay (fun (s1:Nat)=>[(0,.slice a_t ts.length c_t),(5,.int .i64 ((2*s1:Nat):Int))]) (fun (s1:Nat) W=>(s1≤1000000)∧(k≤s1)∧(∀ j,k≤j→j<s1→(ndi ts (2*j)).n.us=false)∧(Ext w W)∧(Ext w W)) (fun (s1:Nat)=>ts.length-s1) k ⟨kj,kj,trivial⟩ ⟨(by omega),(qR k),(fun j h1 h2=>absurd h2 (by omega)),(Rely.Ext.refl w),(Rely.Ext.refl w)⟩ fun s1 X1 V1 hI1=>?_
 obtain ⟨i,hs1⟩:∃ z,z=s1:=⟨_,rfl⟩
 subst hs1
 obtain ⟨hi,hki,hno,kk1,xx1⟩:=hI1
 replace hi:i≤1000000:=hi
 replace hki:k≤i:=hki
 replace hno:∀ j,k≤j→j<i→(ndi ts (2*j)).n.us=false:=hno
 replace kk1:Ext w V1:=kk1
 replace xx1:Ext w V1:=xx1
 have e1:=kk1
 refine wp_seq_k fun K4 hK4=>sgB kj <| Qaq (t:=decide (((2*i:Nat):Int)<((ts.length:Nat):Int))) kj (fun c6=>?_) (fun c6=>?_)
 ·skip
  have h11:2*i<ts.length:=by have:=of_decide_eq_true c6; omega
  refine wp_skip <| hK4 _ _ <| wp_seq_k fun K7 hK7=>wp_block <| sgC fun K8 hK8=>sg 2 kj ?_
  obtain ⟨gtT,otT,hat,hnts⟩:=TrAt.ext ht xx1
  have hnt:=hnts (2*i) (by omega)
  obtain ⟨nt,ent⟩:∃ z,z=ndi ts (2*i):=⟨_,rfl⟩
  rw [←ent] at hnt
  have okt:=hnt.ok
  have rdt:=hnt.rd
  refine Qaa (.pointer (some ⟨gtT,otT+(2*i)*99,none⟩)) 16 rfl kj (Qan 23 _ _ .i64 (2*i) gtT otT ts.length c_t 50 99 a_t (hat (by omega)) rfl kj kj kj kj (by omega)) <| sg 1 kj <| Qaa (.bool nt.n.us) 18 rfl kj (Qai 4 _ _ (.bool nt.n.us) (NdAt.at3 hnt).1 rfl kj kj) <| sgN hK8 <| Qaq (t:=nt.n.us) kj (fun c9=>?_) (fun c9=>?_)
  ·skip
   have hcn:(ndi ts (2*i)).n.us=true:=ent▸c9
   refine sgB kj <| wp_ret ?_
   repeat (first | with_reducible refine goR1 ?_ | with_reducible refine goR2 ?_)
   exact (show bodyPost _ _ _ .ret _ _ from ret1 (.bool true) rfl (Qar kj) ⟨congrArg (fun z=>Ending.returned (.bool z)) (QgR hki h11 hcn).symm,xx1⟩)
  ·skip
   have hcn:(ndi ts (2*i)).n.us=false:=ent▸c9
   refine wp_skip <| hK7 _ _ <| Qad <| sg 1 kj <| Qaa (.int .i64 (((2*(i+1):Nat):Int))) 13 rfl kj (Qag (u:=.int .i64 (IntKind.i64.wrap (((2*i:Nat):Int)+2))) kj (congrArg (Value.int .i64) ((IntWalk.i64_in _ (by omega)).trans (by omega)))) <| sg 1 kj <| Qaj ?_
   repeat (first | with_reducible refine goX1 ?_ | with_reducible refine goX2 ?_ | with_reducible refine goX3 ?_)
   exact Qap (i+1) ⟨kj,kj,trivial⟩ ⟨(by omega),(by omega),(fun j h1 h2=>by by_cases h3:j=i; (rw [h3]; exact hcn); exact hno j h1 (by omega)),e1,xx1⟩ (by show ts.length-(i+1)<ts.length-i; omega)
 ·skip
  have h11:¬ 2*i<ts.length:=by have:=of_decide_eq_false c6; omega
  refine wp_exit <| hK2 _ _ <| sgB kj <| wp_ret ?_
  repeat (first | with_reducible refine goR1 ?_ | with_reducible refine goR2 ?_)
  exact (show bodyPost _ _ _ .ret _ _ from ret1 (.bool false) rfl (Qar kj) ⟨congrArg (fun z=>Ending.returned (.bool z)) (Qi2 hno (by omega)).symm,xx1⟩)
end Go.Proofs.YthfkppjajmjpnaaDoor.Te
end
section
namespace Go.Proofs.YthfkppjajmjpnaaDoor.Te
open Go Go.RowKit
open Rely Auto Own Seat Sha
theorem Qce (m : Int) (hm:i64 m) (v:Int) (h:leaves m=v) (w:World):Calls Tryd.prog 29 #[.int .i64 m] w (Ret w (.int .i64 v)):=(QkY m hm w).mono fun e W h2=>⟨h▸h2.1,h2.2▸Rely.Ext.refl _⟩
theorem QdS (m : Int) (v:Int) (h:QcW m=v) (w:World):Calls Tryd.prog 25 #[.int .i64 m] w (Ret w (.int .i64 v)):=(rleaves m w).mono fun e W h2=>⟨h▸h2.1,h2.2▸Rely.Ext.refl _⟩
set_option maxRecDepth 100000 in
theorem Qj6 (ts : List NdV) (a_t:Option Addr) (c_t B1:Nat) (w:World) (ht:TrAt B1 w a_t ts) (htl:ts.length≤100000) (L:Nat) (hL:leaves ((ts.length:Nat):Int)=((L:Nat):Int)) (hL2:L≤100000):Calls Tryd.prog 45 #[.slice a_t ts.length c_t] w (Ret w (.bool (anyU ts (L/2)))):=by
 refine enter 21 [(0,.slice a_t ts.length c_t)] Tryd.func45 rfl rfl kj rfl <| sgB kj <| wp_seq_k fun K2 hK2=>sgC fun K3 hK3=>sg 2 kj <| Qak (.int .i64 ((L:Nat):Int)) 29 #[.int .i64 ((ts.length:Nat):Int)] 6 rfl kj kj (Qce ((ts.length:Nat):Int) ⟨by omega,by omega⟩ _ hL _) fun W1 e1=>Qaa (.int .i64 ((L/2:Nat):Int)) 7 rfl kj (Qag (u:=.int .i64 (IntKind.i64.wrap (Int.tdiv (((L:Nat):Int)) (2)))) kj (congrArg (Value.int .i64) (Qb7 _ 2 (by omega)))) <| sg 1 kj <| sgN hK3 <| wp_block ?_
 refine Qay (fun (s1:Nat)=>[(0,.slice a_t ts.length c_t),(3,.int .i64 ((s1:Nat):Int))]) (fun (s1:Nat) W=>(s1≤1000000)∧(L/2≤s1)∧(∀ j,L/2≤j→j<s1→(ndi ts (2*j)).n.us=false)∧(Ext W1 W)∧(Ext w W)) (fun (s1:Nat)=>ts.length-s1) (L/2) ⟨kj,kj,trivial⟩ ⟨(by omega),(qR _),(fun j h1 h2=>absurd h2 (by omega)),(Rely.Ext.refl W1),(Ext.tr (Rely.Ext.refl w) e1)⟩ fun s1 X1 V1 hI1=>?_
 obtain ⟨i,hs1⟩:∃ z,z=s1:=⟨_,rfl⟩
 subst hs1
 obtain ⟨hi,hki,hno,kk1,xx1⟩:=hI1
 replace hi:i≤1000000:=hi
 replace hki:L/2≤i:=hki
 replace hno:∀ j,L/2≤j→j<i→(ndi ts (2*j)).n.us=false:=hno
 replace kk1:Ext W1 V1:=kk1
 replace xx1:Ext w V1:=xx1
 have e2:=kk1
 refine wp_seq_k fun K4 hK4=>sgC fun K5 hK5=>sg 1 kj <| Qaa (.int .i64 (((2*i:Nat):Int))) 9 rfl kj (Qag (u:=.int .i64 (IntKind.i64.wrap (2*((i:Nat):Int)))) kj (congrArg (Value.int .i64) ((IntWalk.i64_in _ (by omega)).trans (by omega)))) <| sg 3 kj <| sgN hK5 <| Qaq (t:=decide (((2*i:Nat):Int)<((ts.length:Nat):Int))) kj (fun c6=>?_) (fun c6=>?_)
 ·skip
  have h11:2*i<ts.length:=by have:=of_decide_eq_true c6; omega
  refine wp_skip <| hK4 _ _ <| wp_seq_k fun K7 hK7=>wp_block <| sgC fun K8 hK8=>sg 2 kj <| Qaa (.int .i64 (((2*i:Nat):Int))) 17 rfl kj (Qag (u:=.int .i64 (IntKind.i64.wrap (2*((i:Nat):Int)))) kj (congrArg (Value.int .i64) ((IntWalk.i64_in _ (by omega)).trans (by omega)))) ?_
  obtain ⟨gtT,otT,hat,hnts⟩:=TrAt.ext ht xx1
  have hnt:=hnts (2*i) (by omega)
  obtain ⟨nt,ent⟩:∃ z,z=ndi ts (2*i):=⟨_,rfl⟩
  rw [←ent] at hnt
  have okt:=hnt.ok
  have rdt:=hnt.rd
  refine Qaa (.pointer (some ⟨gtT,otT+(2*i)*99,none⟩)) 18 rfl kj (Qan 23 _ _ .i64 (2*i) gtT otT ts.length c_t 50 99 a_t (hat (by omega)) rfl kj kj kj kj (by omega)) <| sg 1 kj <| Qaa (.bool nt.n.us) 20 rfl kj (Qai 4 _ _ (.bool nt.n.us) (NdAt.at3 hnt).1 rfl kj kj) <| sgN hK8 <| Qaq (t:=nt.n.us) kj (fun c9=>?_) (fun c9=>?_)
  ·skip
   have hcn:(ndi ts (2*i)).n.us=true:=ent▸c9
   refine sgB kj <| wp_ret ?_
   repeat (first | with_reducible refine goR1 ?_ | with_reducible refine goR2 ?_)
   exact (show bodyPost _ _ _ .ret _ _ from ret1 (.bool true) rfl (Qar kj) ⟨congrArg (fun z=>Ending.returned (.bool z)) (QgR hki h11 hcn).symm,xx1⟩)
  ·skip
   have hcn:(ndi ts (2*i)).n.us=false:=ent▸c9
   refine wp_skip <| hK7 _ _ <| Qad <| sg 1 kj <| Qaa (.int .i64 ((i+1:Nat):Int)) 14 rfl kj (Qag (u:=.int .i64 (IntKind.i64.wrap (((i:Nat):Int)+1))) kj (congrArg (Value.int .i64) (i64n _ _ (by omega) (by omega)))) <| sg 1 kj <| Qaj ?_
   repeat (first | with_reducible refine goX1 ?_ | with_reducible refine goX2 ?_ | with_reducible refine goX3 ?_)
   exact Qap (i+1) ⟨kj,kj,trivial⟩ ⟨(by omega),(by omega),(fun j h1 h2=>by by_cases h3:j=i; (rw [h3]; exact hcn); exact hno j h1 (by omega)),e2,xx1⟩ (by show ts.length-(i+1)<ts.length-i; omega)
 ·skip
  have h11:¬ 2*i<ts.length:=by have:=of_decide_eq_false c6; omega
  refine wp_exit <| hK2 _ _ <| sgB kj <| wp_ret ?_
  repeat (first | with_reducible refine goR1 ?_ | with_reducible refine goR2 ?_)
  exact (show bodyPost _ _ _ .ret _ _ from ret1 (.bool false) rfl (Qar kj) ⟨congrArg (fun z=>Ending.returned (.bool z)) (Qi2 hno (by omega)).symm,xx1⟩)
end Go.Proofs.YthfkppjajmjpnaaDoor.Te
end
section
namespace Go.Proofs.YthfkppjajmjpnaaDoor.Te
open Go Go.RowKit
open Rely Auto Own Seat Sha
end Go.Proofs.YthfkppjajmjpnaaDoor.Te
end
section
namespace Go.Proofs.YthfkppjajmjpnaaDoor.Te
open Go Go.RowKit
open Rely Auto Own Seat Sha
theorem Qla (nd : NdV) (hok:NdOk nd.n) (w:World)  : Calls Tryd.prog 33 #[.agg (cat [#[.bool false],#[.int .i64 nd.n.nm],ints .u8 (nd.n.key),ints .u8 (nd.n.sg),ints .u8 (nd.n.pa),#[.slice nd.a nd.n.ms.length nd.c]])] w (Ret w (.bool false)):=by
  refine enter 21 [(0,.agg (cat [#[.bool false],#[.int .i64 nd.n.nm],ints .u8 (nd.n.key),ints .u8 (nd.n.sg),ints .u8 (nd.n.pa),#[.slice nd.a nd.n.ms.length nd.c]]))] Tryd.func33 rfl rfl kj rfl <| sgC fun K1 hK1=>Qal (cat [#[.bool false],#[.int .i64 nd.n.nm],ints .u8 (nd.n.key),ints .u8 (nd.n.sg),ints .u8 (nd.n.pa),#[.slice nd.a nd.n.ms.length nd.c]]) 50 1 rfl kj kj fun g2 W1 l2 e1 r2_1=>?_
  have b2:=qT (Rely.Ext.refl w).size l2
  refine sg 1 kj <| sgN hK1 <| sgC fun K3 hK3=>sg 1 kj <| Qaa (.bool false) 4 rfl kj (Qaf 4 _ g2 0 50 _ (.bool false) _ r2_1 rfl kj (Qah [] [#[.bool false]] [#[.int .i64 nd.n.nm],ints .u8 (nd.n.key),ints .u8 (nd.n.sg),ints .u8 (nd.n.pa),#[.slice nd.a nd.n.ms.length nd.c]] 0 kj 0 _ rfl) kj) <| sg 17 kj <| sgN hK3 <| wp_ret ?_
  repeat (first | with_reducible refine goR1 ?_ | with_reducible refine goR2 ?_)
  exact (show bodyPost _ _ _ .ret _ _ from ret1 (.bool false) rfl (Qar kj) ⟨rfl,(Ext.tr (Rely.Ext.refl w) e1)⟩)
theorem Qlc (nd : NdV) (hok:NdOk nd.n) (w:World) (h2:nd.n.nm<0):Calls Tryd.prog 33 #[.agg (cat [#[.bool true],#[.int .i64 nd.n.nm],ints .u8 (nd.n.key),ints .u8 (nd.n.sg),ints .u8 (nd.n.pa),#[.slice nd.a nd.n.ms.length nd.c]])] w (Ret w (.bool false)):=by
  refine enter 21 [(0,.agg (cat [#[.bool true],#[.int .i64 nd.n.nm],ints .u8 (nd.n.key),ints .u8 (nd.n.sg),ints .u8 (nd.n.pa),#[.slice nd.a nd.n.ms.length nd.c]]))] Tryd.func33 rfl rfl kj rfl <| sgC fun K1 hK1=>Qal (cat [#[.bool true],#[.int .i64 nd.n.nm],ints .u8 (nd.n.key),ints .u8 (nd.n.sg),ints .u8 (nd.n.pa),#[.slice nd.a nd.n.ms.length nd.c]]) 50 1 rfl kj kj fun g2 W1 l2 e1 r2_1=>?_
  have b2:=qT (Rely.Ext.refl w).size l2
  refine sg 1 kj <| sgN hK1 <| sgC fun K3 hK3=>sg 1 kj <| Qaa (.bool true) 4 rfl kj (Qaf 4 _ g2 0 50 _ (.bool true) _ r2_1 rfl kj (Qah [] [#[.bool true]] [#[.int .i64 nd.n.nm],ints .u8 (nd.n.key),ints .u8 (nd.n.sg),ints .u8 (nd.n.pa),#[.slice nd.a nd.n.ms.length nd.c]] 0 kj 0 _ rfl) kj) <| sg 2 kj <| Qaa (.int .i64 nd.n.nm) 7 rfl kj (Qaf 3 _ g2 1 50 _ (.int .i64 nd.n.nm) _ r2_1 rfl kj (Qah [#[.bool true]] [#[.int .i64 nd.n.nm]] [ints .u8 (nd.n.key),ints .u8 (nd.n.sg),ints .u8 (nd.n.pa),#[.slice nd.a nd.n.ms.length nd.c]] 1 kj 0 _ rfl) kj) <| Qaa (.bool false) 8 rfl kj (Qag (u:=.bool (decide (nd.n.nm≥0))) kj (congrArg Value.bool (decide_eq_false (by omega)))) <| sg 13 kj <| sgN hK3 ?_
  refine wp_ret ?_
  repeat (first | with_reducible refine goR1 ?_ | with_reducible refine goR2 ?_)
  exact (show bodyPost _ _ _ .ret _ _ from ret1 (.bool false) rfl (Qar kj) ⟨rfl,(Ext.tr (Rely.Ext.refl w) e1)⟩)
theorem Qld (nd : NdV) (hok:NdOk nd.n) (w:World) (h2:0≤nd.n.nm) (h3:255<nd.n.nm):Calls Tryd.prog 33 #[.agg (cat [#[.bool true],#[.int .i64 nd.n.nm],ints .u8 (nd.n.key),ints .u8 (nd.n.sg),ints .u8 (nd.n.pa),#[.slice nd.a nd.n.ms.length nd.c]])] w (Ret w (.bool false)):=by
  refine enter 21 [(0,.agg (cat [#[.bool true],#[.int .i64 nd.n.nm],ints .u8 (nd.n.key),ints .u8 (nd.n.sg),ints .u8 (nd.n.pa),#[.slice nd.a nd.n.ms.length nd.c]]))] Tryd.func33 rfl rfl kj rfl <| sgC fun K1 hK1=>Qal (cat [#[.bool true],#[.int .i64 nd.n.nm],ints .u8 (nd.n.key),ints .u8 (nd.n.sg),ints .u8 (nd.n.pa),#[.slice nd.a nd.n.ms.length nd.c]]) 50 1 rfl kj kj fun g2 W1 l2 e1 r2_1=>?_
  have b2:=qT (Rely.Ext.refl w).size l2
  refine sg 1 kj <| sgN hK1 <| sgC fun K3 hK3=>sg 1 kj <| Qaa (.bool true) 4 rfl kj (Qaf 4 _ g2 0 50 _ (.bool true) _ r2_1 rfl kj (Qah [] [#[.bool true]] [#[.int .i64 nd.n.nm],ints .u8 (nd.n.key),ints .u8 (nd.n.sg),ints .u8 (nd.n.pa),#[.slice nd.a nd.n.ms.length nd.c]] 0 kj 0 _ rfl) kj) <| sg 2 kj <| Qaa (.int .i64 nd.n.nm) 7 rfl kj (Qaf 3 _ g2 1 50 _ (.int .i64 nd.n.nm) _ r2_1 rfl kj (Qah [#[.bool true]] [#[.int .i64 nd.n.nm]] [ints .u8 (nd.n.key),ints .u8 (nd.n.sg),ints .u8 (nd.n.pa),#[.slice nd.a nd.n.ms.length nd.c]] 1 kj 0 _ rfl) kj) <| Qaa (.bool true) 8 rfl kj (Qag (u:=.bool (decide (nd.n.nm≥0))) kj (congrArg Value.bool (decide_eq_true (by omega)))) <| sg 3 kj <| Qaa (.int .i64 nd.n.nm) 12 rfl kj (Qaf 3 _ g2 1 50 _ (.int .i64 nd.n.nm) _ r2_1 rfl kj (Qah [#[.bool true]] [#[.int .i64 nd.n.nm]] [ints .u8 (nd.n.key),ints .u8 (nd.n.sg),ints .u8 (nd.n.pa),#[.slice nd.a nd.n.ms.length nd.c]] 1 kj 0 _ rfl) kj) ?_
  refine Qaa (.bool false) 13 rfl kj (Qag (u:=.bool (decide (nd.n.nm≤255))) kj (congrArg Value.bool (decide_eq_false (by omega)))) <| sg 8 kj <| sgN hK3 <| wp_ret ?_
  repeat (first | with_reducible refine goR1 ?_ | with_reducible refine goR2 ?_)
  exact (show bodyPost _ _ _ .ret _ _ from ret1 (.bool false) rfl (Qar kj) ⟨rfl,(Ext.tr (Rely.Ext.refl w) e1)⟩)
theorem Qlb (nd : NdV) (hok:NdOk nd.n) (w:World) (h2:0≤nd.n.nm) (h3:nd.n.nm≤255) (h1:nd.n.ms.length≠0):Calls Tryd.prog 33 #[.agg (cat [#[.bool true],#[.int .i64 nd.n.nm],ints .u8 (nd.n.key),ints .u8 (nd.n.sg),ints .u8 (nd.n.pa),#[.slice nd.a nd.n.ms.length nd.c]])] w (Ret w (.bool false)):=by
  refine enter 21 [(0,.agg (cat [#[.bool true],#[.int .i64 nd.n.nm],ints .u8 (nd.n.key),ints .u8 (nd.n.sg),ints .u8 (nd.n.pa),#[.slice nd.a nd.n.ms.length nd.c]]))] Tryd.func33 rfl rfl kj rfl <| sgC fun K1 hK1=>Qal (cat [#[.bool true],#[.int .i64 nd.n.nm],ints .u8 (nd.n.key),ints .u8 (nd.n.sg),ints .u8 (nd.n.pa),#[.slice nd.a nd.n.ms.length nd.c]]) 50 1 rfl kj kj fun g2 W1 l2 e1 r2_1=>?_
  have b2:=qT (Rely.Ext.refl w).size l2
  refine sg 1 kj <| sgN hK1 <| sgC fun K3 hK3=>sg 1 kj <| Qaa (.bool true) 4 rfl kj (Qaf 4 _ g2 0 50 _ (.bool true) _ r2_1 rfl kj (Qah [] [#[.bool true]] [#[.int .i64 nd.n.nm],ints .u8 (nd.n.key),ints .u8 (nd.n.sg),ints .u8 (nd.n.pa),#[.slice nd.a nd.n.ms.length nd.c]] 0 kj 0 _ rfl) kj) <| sg 2 kj <| Qaa (.int .i64 nd.n.nm) 7 rfl kj (Qaf 3 _ g2 1 50 _ (.int .i64 nd.n.nm) _ r2_1 rfl kj (Qah [#[.bool true]] [#[.int .i64 nd.n.nm]] [ints .u8 (nd.n.key),ints .u8 (nd.n.sg),ints .u8 (nd.n.pa),#[.slice nd.a nd.n.ms.length nd.c]] 1 kj 0 _ rfl) kj) <| Qaa (.bool true) 8 rfl kj (Qag (u:=.bool (decide (nd.n.nm≥0))) kj (congrArg Value.bool (decide_eq_true (by omega)))) <| sg 3 kj <| Qaa (.int .i64 nd.n.nm) 12 rfl kj (Qaf 3 _ g2 1 50 _ (.int .i64 nd.n.nm) _ r2_1 rfl kj (Qah [#[.bool true]] [#[.int .i64 nd.n.nm]] [ints .u8 (nd.n.key),ints .u8 (nd.n.sg),ints .u8 (nd.n.pa),#[.slice nd.a nd.n.ms.length nd.c]] 1 kj 0 _ rfl) kj) ?_
  refine Qaa (.bool true) 13 rfl kj (Qag (u:=.bool (decide (nd.n.nm≤255))) kj (congrArg Value.bool (decide_eq_true (by omega)))) <| sg 3 kj <| Qaa (.slice nd.a nd.n.ms.length nd.c) 17 rfl kj (Qaf 24 _ g2 98 50 _ (.slice nd.a nd.n.ms.length nd.c) _ r2_1 rfl kj (Qah [#[.bool true],#[.int .i64 nd.n.nm],ints .u8 (nd.n.key),ints .u8 (nd.n.sg),ints .u8 (nd.n.pa)] [#[.slice nd.a nd.n.ms.length nd.c]] [] 98 (by rw [Qab,Qab,Qab,Qab,Qab]; simp only [qS,cat,((Qac _ _).trans hok.gl),((Qac _ _).trans hok.kl),((Qac _ _).trans hok.pl)]; rfl) 0 _ rfl) kj) ?_
  refine sg 1 kj <| Qaa (.bool false) 19 rfl kj (Qag (u:=.bool ((((nd.n.ms.length:Nat):Int)==0))) kj (congrArg Value.bool (beq_eq_false_iff_ne.2 (by omega)))) <| sg 2 kj <| sgN hK3 <| wp_ret ?_
  repeat (first | with_reducible refine goR1 ?_ | with_reducible refine goR2 ?_)
  exact (show bodyPost _ _ _ .ret _ _ from ret1 (.bool false) rfl (Qar kj) ⟨rfl,(Ext.tr (Rely.Ext.refl w) e1)⟩)
theorem QkZ (nd : NdV) (hok:NdOk nd.n) (w:World) (h2:0≤nd.n.nm) (h3:nd.n.nm≤255) (h1:nd.n.ms.length=0):Calls Tryd.prog 33 #[.agg (cat [#[.bool true],#[.int .i64 nd.n.nm],ints .u8 (nd.n.key),ints .u8 (nd.n.sg),ints .u8 (nd.n.pa),#[.slice nd.a nd.n.ms.length nd.c]])] w (Ret w (.bool true)):=by
  refine enter 21 [(0,.agg (cat [#[.bool true],#[.int .i64 nd.n.nm],ints .u8 (nd.n.key),ints .u8 (nd.n.sg),ints .u8 (nd.n.pa),#[.slice nd.a nd.n.ms.length nd.c]]))] Tryd.func33 rfl rfl kj rfl <| sgC fun K1 hK1=>Qal (cat [#[.bool true],#[.int .i64 nd.n.nm],ints .u8 (nd.n.key),ints .u8 (nd.n.sg),ints .u8 (nd.n.pa),#[.slice nd.a nd.n.ms.length nd.c]]) 50 1 rfl kj kj fun g2 W1 l2 e1 r2_1=>?_
  have b2:=qT (Rely.Ext.refl w).size l2
  refine sg 1 kj <| sgN hK1 <| sgC fun K3 hK3=>sg 1 kj <| Qaa (.bool true) 4 rfl kj (Qaf 4 _ g2 0 50 _ (.bool true) _ r2_1 rfl kj (Qah [] [#[.bool true]] [#[.int .i64 nd.n.nm],ints .u8 (nd.n.key),ints .u8 (nd.n.sg),ints .u8 (nd.n.pa),#[.slice nd.a nd.n.ms.length nd.c]] 0 kj 0 _ rfl) kj) <| sg 2 kj <| Qaa (.int .i64 nd.n.nm) 7 rfl kj (Qaf 3 _ g2 1 50 _ (.int .i64 nd.n.nm) _ r2_1 rfl kj (Qah [#[.bool true]] [#[.int .i64 nd.n.nm]] [ints .u8 (nd.n.key),ints .u8 (nd.n.sg),ints .u8 (nd.n.pa),#[.slice nd.a nd.n.ms.length nd.c]] 1 kj 0 _ rfl) kj) <| Qaa (.bool true) 8 rfl kj (Qag (u:=.bool (decide (nd.n.nm≥0))) kj (congrArg Value.bool (decide_eq_true (by omega)))) <| sg 3 kj <| Qaa (.int .i64 nd.n.nm) 12 rfl kj (Qaf 3 _ g2 1 50 _ (.int .i64 nd.n.nm) _ r2_1 rfl kj (Qah [#[.bool true]] [#[.int .i64 nd.n.nm]] [ints .u8 (nd.n.key),ints .u8 (nd.n.sg),ints .u8 (nd.n.pa),#[.slice nd.a nd.n.ms.length nd.c]] 1 kj 0 _ rfl) kj) ?_
  refine Qaa (.bool true) 13 rfl kj (Qag (u:=.bool (decide (nd.n.nm≤255))) kj (congrArg Value.bool (decide_eq_true (by omega)))) <| sg 3 kj <| Qaa (.slice nd.a nd.n.ms.length nd.c) 17 rfl kj (Qaf 24 _ g2 98 50 _ (.slice nd.a nd.n.ms.length nd.c) _ r2_1 rfl kj (Qah [#[.bool true],#[.int .i64 nd.n.nm],ints .u8 (nd.n.key),ints .u8 (nd.n.sg),ints .u8 (nd.n.pa)] [#[.slice nd.a nd.n.ms.length nd.c]] [] 98 (by rw [Qab,Qab,Qab,Qab,Qab]; simp only [qS,cat,((Qac _ _).trans hok.gl),((Qac _ _).trans hok.kl),((Qac _ _).trans hok.pl)]; rfl) 0 _ rfl) kj) ?_
  refine sg 1 kj <| Qaa (.bool true) 19 rfl kj (Qag (u:=.bool ((((nd.n.ms.length:Nat):Int)==0))) kj (congrArg Value.bool (beq_iff_eq.2 (by omega)))) <| sg 2 kj <| sgN hK3 <| wp_ret ?_
  repeat (first | with_reducible refine goR1 ?_ | with_reducible refine goR2 ?_)
  exact (show bodyPost _ _ _ .ret _ _ from ret1 (.bool true) rfl (Qar kj) ⟨rfl,(Ext.tr (Rely.Ext.refl w) e1)⟩)
theorem Qmg (nd : NdV) (hok:NdOk nd.n) (w:World):Calls Tryd.prog 33 #[.agg (cat (ndP nd))] w (Ret w (.bool (QbT nd.n))):=by
  unfold QbT ndP
  cases hu:nd.n.us with
  | false=>exact Qla nd hok w
  | true =>
    by_cases h2:nd.n.nm<0
    · rw [decide_eq_false (show ¬ 0≤nd.n.nm by omega)]; simp only [Bool.and_false,Bool.false_and]; exact Qlc nd hok w h2
    · by_cases h3:255<nd.n.nm
      · rw [decide_eq_false (show ¬ nd.n.nm≤255 by omega)]; simp only [Bool.and_false]; exact Qld nd hok w (by omega) h3
      · rw [decide_eq_true (show 0≤nd.n.nm by omega),decide_eq_true (show nd.n.nm≤255 by omega)]
        by_cases h1:nd.n.ms.length=0
        · rw [beq_iff_eq.2 h1]; exact QkZ nd hok w (by omega) (by omega) h1
        · rw [beq_eq_false_iff_ne.2 h1]; exact Qlb nd hok w (by omega) (by omega) h1
end Go.Proofs.YthfkppjajmjpnaaDoor.Te
end
section
namespace Go.Proofs.YthfkppjajmjpnaaDoor.Te
open Go Go.RowKit
open Rely Auto Own Seat Sha
theorem QhO {xs : List Int} {n:Int} {i:Nat} (h:i<xs.length) (e:nth xs i=n):n∈xs:=by
  rw [←e,show nth xs i=xs[i] by simp [nth,List.getElem?_eq_getElem h]]
  exact List.getElem_mem h
theorem QkV {xs : List Int} {n:Int} (h:n∈xs):∃ i,i<xs.length∧nth xs i=n:=by
  obtain ⟨i,hi,e⟩:=List.getElem_of_mem h
  exact ⟨i,hi,by rw [show nth xs i=xs[i] by simp [nth,List.getElem?_eq_getElem hi]]; exact e⟩
theorem QhP {xs : List Int} {n:Int} {i:Nat} (hi:i=xs.length) (h:∀ j,j<i→nth xs j≠n):n∉xs:=fun hm=>by
  obtain ⟨j,hj,e⟩:=QkV hm
  exact h j (hi▸hj) e
theorem inR (xs : List Int) (n:Int) (a_x:Option Addr) (c_x B1:Nat) (w:World) (hxl:xs.length≤1000000) (hx:RdK .i64 B1 xs (.slice a_x xs.length c_x) w):Calls Tryd.prog 41 #[.int .i64 n,.slice a_x xs.length c_x] w (Ret w (.bool (decide (n∈xs)))):=by
 refine enter 18 [(0,.int .i64 n),(1,.slice a_x xs.length c_x)] Tryd.func41 rfl rfl kj rfl <| sgB kj <| wp_seq_k fun K2 hK2=>sgB kj <| wp_block <| Qay (fun (s1:Nat)=>[(0,.int .i64 n),(1,.slice a_x xs.length c_x),(5,.int .i64 ((s1:Nat):Int))]) (fun (s1:Nat) W=>(s1≤xs.length)∧(∀ j,j<s1→nth xs j≠n)∧(Ext w W)∧(Ext w W)) (fun (s1:Nat)=>xs.length-s1) 0 ⟨kj,kj,kj,trivial⟩ ⟨(Nat.zero_le _),(fun j h=>absurd h (Nat.not_lt_zero j)),(Rely.Ext.refl w),(Rely.Ext.refl w)⟩ fun s1 X1 V1 hI1=>?_
 obtain ⟨i,hs1⟩:∃ z,z=s1:=⟨_,rfl⟩
 subst hs1
 obtain ⟨hi,hno,kk1,xx1⟩:=hI1
 replace hi:i≤xs.length:=hi
 replace hno:∀ j,j<i→nth xs j≠n:=hno
 replace kk1:Ext w V1:=kk1
 replace xx1:Ext w V1:=xx1
 have e1:=kk1
 refine wp_seq_k fun K4 hK4=>sgB kj <| Qaq (t:=decide (((i:Nat):Int)<((xs.length:Nat):Int))) kj (fun c6=>?_) (fun c6=>?_)
 ·skip
  have hlt9:i<xs.length:=by have:=of_decide_eq_true c6; omega
  refine wp_skip <| hK4 _ _ <| wp_seq_k fun K7 hK7=>wp_block <| sgC fun K8 hK8=>sg 2 kj ?_
  have hnx_9:(xs).length=xs.length:=rfl
  obtain ⟨gcx_9,ocx_9,hax_9,hlx_9,hcx_9⟩:=QaO (RdK.here (RdK.ext hx xx1)) (by rw [hnx_9]; omega)
  refine Qaa (.pointer (some ⟨gcx_9,ocx_9+i,none⟩)) 14 rfl kj (Qa1 24 _ _ .i64 i gcx_9 ocx_9 xs.length c_x 3 a_x _ hax_9 rfl rfl kj kj kj kj (Nat.lt_of_lt_of_eq (show i<xs.length by omega) hnx_9.symm)) <| Qaa (.int .i64 (nth (xs) (i))) 15 rfl kj (Qai 3 _ _ (.int .i64 (nth (xs) (i))) (hcx_9 i (Nat.lt_of_lt_of_eq (show i<xs.length by omega) hnx_9.symm)) rfl kj kj) <| sg 2 kj <| sgN hK8 <| Qaq (t:=((nth (xs) (i))==n)) kj (fun c10=>?_) (fun c10=>?_)
  ·skip
   have hcn:nth xs i=n:=((beq_iff_eq.1 c10))
   refine sgB kj <| wp_ret ?_
   repeat (first | with_reducible refine goR1 ?_ | with_reducible refine goR2 ?_)
   exact (show bodyPost _ _ _ .ret _ _ from ret1 (.bool true) rfl (Qar kj) ⟨congrArg (fun z=>Ending.returned (.bool z)) (decide_eq_true (QhO hlt9 hcn)).symm,xx1⟩)
  ·skip
   have hcn:nth xs i≠n:=(fun e=>(beq_eq_false_iff_ne.1 c10) e)
   refine wp_skip <| hK7 _ _ <| Qad <| sg 1 kj <| Qaa (.int .i64 ((i+1:Nat):Int)) 11 rfl kj (Qag (u:=.int .i64 (IntKind.i64.wrap (((i:Nat):Int)+1))) kj (congrArg (Value.int .i64) (i64n _ _ (by omega) (by omega)))) <| sg 1 kj <| Qaj ?_
   repeat (first | with_reducible refine goX1 ?_ | with_reducible refine goX2 ?_ | with_reducible refine goX3 ?_)
   exact Qap (i+1) ⟨kj,kj,kj,trivial⟩ ⟨(by omega),(fun j hj=>by by_cases hji:j=i; (rw [hji]; exact hcn); exact hno j (by omega)),e1,xx1⟩ (by show xs.length-(i+1)<xs.length-i; omega)
 ·skip
  have heq9:i=xs.length:=by have:=of_decide_eq_false c6; omega
  refine wp_exit <| hK2 _ _ <| sgB kj <| wp_ret ?_
  repeat (first | with_reducible refine goR1 ?_ | with_reducible refine goR2 ?_)
  exact (show bodyPost _ _ _ .ret _ _ from ret1 (.bool false) rfl (Qar kj) ⟨congrArg (fun z=>Ending.returned (.bool z)) (decide_eq_false (QhP heq9 hno)).symm,xx1⟩)
theorem Qmi (xs : List Int) (n:Int) (a_x:Option Addr) (c_x B1:Nat) (w:World) (hxl:xs.length≤1000000) (hx:RdK .i64 B1 xs (.slice a_x xs.length c_x) w):Calls Tryd.prog 66 #[.slice a_x xs.length c_x,.int .i64 n] w (Qbs w (fun v W=>∃ r:Int,v=.int .i64 r∧(0≤r↔n∈xs))):=by
 refine enter 19 [(0,.slice a_x xs.length c_x),(1,.int .i64 n)] Tryd.func66 rfl rfl kj rfl <| sgB kj <| wp_seq_k fun K2 hK2=>sgB kj <| wp_block <| Qay (fun (s1:Nat)=>[(0,.slice a_x xs.length c_x),(1,.int .i64 n),(7,.int .i64 ((xs.length:Nat):Int)),(8,.int .i64 ((s1:Nat):Int))]) (fun (s1:Nat) W=>(s1≤xs.length)∧(∀ j,j<s1→nth xs j≠n)∧(Ext w W)∧(Ext w W)) (fun (s1:Nat)=>xs.length-s1) 0 ⟨kj,kj,kj,kj,trivial⟩ ⟨(Nat.zero_le _),(fun j h=>absurd h (Nat.not_lt_zero j)),(Rely.Ext.refl w),(Rely.Ext.refl w)⟩ fun s1 X1 V1 hI1=>?_
 obtain ⟨i,hs1⟩:∃ z,z=s1:=⟨_,rfl⟩
 subst hs1
 obtain ⟨hi,hno,kk1,xx1⟩:=hI1
 replace hi:i≤xs.length:=hi
 replace hno:∀ j,j<i→nth xs j≠n:=hno
 replace kk1:Ext w V1:=kk1
 replace xx1:Ext w V1:=xx1
 have e1:=kk1
 refine sgB kj <| wp_seq_k fun K5 hK5=>Qaq (t:=decide (((i:Nat):Int)<((xs.length:Nat):Int))) kj (fun c6=>?_) (fun c6=>?_)
 ·skip
  have hlt9:i<xs.length:=by have:=of_decide_eq_true c6; omega
  refine wp_skip <| hK5 _ _ <| wp_seq_k fun K7 hK7=>wp_block <| sgB kj <| sgC fun K9 hK9=>sg 3 kj ?_
  have hnx_10:(xs).length=xs.length:=rfl
  obtain ⟨gcx_10,ocx_10,hax_10,hlx_10,hcx_10⟩:=QaO (RdK.here (RdK.ext hx xx1)) (by rw [hnx_10]; omega)
  refine Qaa (.pointer (some ⟨gcx_10,ocx_10+i,none⟩)) 14 rfl kj (Qa1 24 _ _ .i64 i gcx_10 ocx_10 xs.length c_x 3 a_x _ hax_10 rfl rfl kj kj kj kj (Nat.lt_of_lt_of_eq (show i<xs.length by omega) hnx_10.symm)) <| Qaa (.int .i64 (nth (xs) (i))) 15 rfl kj (Qai 3 _ _ (.int .i64 (nth (xs) (i))) (hcx_10 i (Nat.lt_of_lt_of_eq (show i<xs.length by omega) hnx_10.symm)) rfl kj kj) <| sg 1 kj <| sgN hK9 <| Qaq (t:=(n==(nth (xs) (i)))) kj (fun c11=>?_) (fun c11=>?_)
  ·skip
   have hcn:nth xs i=n:=(Eq.symm (beq_iff_eq.1 c11))
   refine sgB kj <| wp_ret ?_
   repeat (first | with_reducible refine goR1 ?_ | with_reducible refine goR2 ?_)
   exact (show bodyPost _ _ _ .ret _ _ from ret1 (.int .i64 ((i:Nat):Int)) rfl (Qar kj) ⟨_,rfl,xx1,_,rfl,⟨fun _=>QhO hlt9 hcn,fun _=>Int.natCast_nonneg _⟩⟩)
  ·skip
   have hcn:nth xs i≠n:=(fun e=>(beq_eq_false_iff_ne.1 c11) e.symm)
   refine wp_skip <| hK7 _ _ <| Qad <| Qaa (.int .i64 ((i+1:Nat):Int)) 18 rfl kj (Qag (u:=.int .i64 (IntKind.i64.wrap (((i:Nat):Int)+1))) kj (congrArg (Value.int .i64) (i64n _ _ (by omega) (by omega)))) <| sg 1 kj <| Qaj ?_
   repeat (first | with_reducible refine goX1 ?_ | with_reducible refine goX2 ?_ | with_reducible refine goX3 ?_)
   exact Qap (i+1) ⟨kj,kj,kj,kj,trivial⟩ ⟨(by omega),(fun j hj=>by by_cases hji:j=i; (rw [hji]; exact hcn); exact hno j (by omega)),e1,xx1⟩ (by show xs.length-(i+1)<xs.length-i; omega)
 ·skip
  have heq9:i=xs.length:=by have:=of_decide_eq_false c6; omega
  refine wp_exit <| hK2 _ _ <| sgB kj <| wp_ret ?_
  repeat (first | with_reducible refine goR1 ?_ | with_reducible refine goR2 ?_)
  exact (show bodyPost _ _ _ .ret _ _ from ret1 (.int .i64 (-1)) rfl (Qar kj) ⟨_,rfl,xx1,_,rfl,⟨fun h=>absurd h (by decide),fun h=>absurd h (QhP heq9 hno)⟩⟩)
end Go.Proofs.YthfkppjajmjpnaaDoor.Te
end
section
namespace Go.Proofs.YthfkppjajmjpnaaDoor.Te
open Go Go.RowKit
open Rely Auto Own Seat Sha
theorem QfR (xs : List Int) (n:Int) (a_x:Option Addr) (c_x B1:Nat) (w:World) (hxl:xs.length≤1000000) (hx:RdK .i64 B1 xs (.slice a_x xs.length c_x) w):Calls Tryd.prog 48 #[.slice a_x xs.length c_x,.int .i64 n] w (Ret w (.bool (decide (n∈xs)))):=by
  refine enter 9 [(0,.slice a_x xs.length c_x),(1,.int .i64 n)] Tryd.func48 rfl rfl kj rfl <| sgB kj <| sgC fun K2 hK2=>sg 2 kj <| Qa0 (fun v W'=>(fun v W=>∃ r:Int,v=.int .i64 r∧(0≤r↔n∈xs)) v W'∧Ext w W') 66 #[.slice a_x xs.length c_x,.int .i64 n] 7 rfl kj kj ((Qmi xs n a_x c_x _ _ hxl (RdK.here (RdK.ext hx (Rely.Ext.refl w)))).mono (by rintro e w' ⟨v,rfl,e1,hv⟩; exact ⟨v,rfl,hv,e1⟩)) fun vv3 W1 hh3=>?_
  obtain ⟨hv3,e1⟩:=hh3
  obtain ⟨r,rfl,hr⟩:=hv3
  refine sg 2 kj <| sgN hK2 <| wp_ret ?_
  repeat (first | with_reducible refine goR1 ?_ | with_reducible refine goR2 ?_)
  exact (show bodyPost _ _ _ .ret _ _ from ret1 (.bool (decide (r≥0))) rfl (Qar kj) ⟨congrArg (fun z=>Ending.returned (.bool z)) (decide_eq_decide.2 hr),(Ext.tr (Rely.Ext.refl w) e1)⟩)
end Go.Proofs.YthfkppjajmjpnaaDoor.Te
end
section
namespace Go.Proofs.YthfkppjajmjpnaaDoor.Auto
open Go Go.RowKit
open Rely
structure MpW (es : Array MapEntry) (clock : Nat) (m : List (Int × Value)) : Prop where
  ents:es.toList.map (fun e=>(e.key,e.val))=m.map fun p=>(Value.int .i64 p.1,p.2)
  nod:(m.map Prod.fst).Nodup
  born:(es.toList.map (·.born)).Nodup
  old:∀ e∈es.toList,e.born<clock
def MpAt (g : Nat) (m:List (Int×Value)) (W:World):Prop:=∃ es clock,W.heap[g]? = some (.map es clock)∧MpW es clock m
def mget (m : List (Int×Value)) (k:Int) (z:Value):Value:=((m.find? fun p=>p.1==k).map Prod.snd).getD z
theorem QkT (c : Nat):MpW #[] c []:=⟨rfl,List.nodup_nil,List.nodup_nil,fun e h=>by cases h⟩
theorem MpAt.lt {g : Nat} {m:List (Int×Value)} {W:World} (h:MpAt g m W):g<W.heap.size:=by obtain ⟨es,c,h1,-⟩:=h; exact Qa5 h1
theorem MpAt.keep {g : Nat} {m:List (Int×Value)} {W W':World} (h:MpAt g m W) (e:W'.heap[g]? = W.heap[g]?):MpAt g m W':=by obtain ⟨es,c,h1,h2⟩:=h; exact ⟨es,c,e.trans h1,h2⟩
theorem MpAt.ext {g : Nat} {m:List (Int×Value)} {W W':World} (h:MpAt g m W) (e:Ext W W'):MpAt g m W':=h.keep (e.block g h.lt)
theorem MpAt.puts {g k:Nat} {m:List (Int×Value)} {W W':World} (h:MpAt g m W) (p:Puts W k W') (hn:g≠k):MpAt g m W':=h.keep (p.2.2.2.2 g hn)
theorem Qc2 (k : Int):∀ (es:List MapEntry) (m:List (Int×Value)) (i:Nat),es.map (fun e=>(e.key,e.val))=m.map (fun p=>(Value.int .i64 p.1,p.2)) →
    (Instr.findNow (.int .i64) (.int .i64 k) es i=some none∧m.find? (fun p=>p.1==k)=none∧∀ e∈es,e.key≠.int .i64 k)∨∃ j v e,Instr.findNow (.int .i64) (.int .i64 k) es i=some (some (i+j,v))∧m.find? (fun p=>p.1==k)=some (k,v)∧es[j]? = some e∧e.key=.int .i64 k
  | [],[],i,_=>.inl ⟨rfl,rfl,fun e h=>by cases h⟩
  | [],_::_,i,h=>by cases h
  | _::_,[],i,h=>by cases h
  | e::es,p::m,i,h=>by
    simp only [List.map_cons,List.cons.injEq,Prod.mk.injEq] at h
    obtain ⟨⟨h1,h2⟩,h3⟩:=h
    have hs:Instr.sameNow (.int .i64) (.int .i64 k) e.key=some (k==p.1):=by rw [h1]; simp [Instr.sameNow]
    by_cases hk:p.1=k
    · right
      refine ⟨0,p.2,e,?_,?_,rfl,by rw [h1,hk]⟩
      · rw [Instr.findNow,hs,hk,beq_self_eq_true,h2]; rfl
      · rw [List.find?_cons_of_pos (by simp [hk])]; congr 1; exact Prod.ext hk rfl
    · have hs':Instr.sameNow (.int .i64) (.int .i64 k) e.key=some false:=by rw [hs]; congr 1; simp; exact fun q=>hk q.symm
      rcases Qc2 k es m (i+1) h3 with ⟨q1,q2,q3⟩ | ⟨j,v,e',q1,q2,q3,q4⟩
      · left
        refine ⟨by rw [Instr.findNow,hs']; exact q1,by rw [List.find?_cons_of_neg (by simp [hk])]; exact q2,fun x hx=>?_⟩
        rcases List.mem_cons.1 hx with rfl | hx
        · rw [h1]; exact fun q=>hk (by injection q)
        · exact q3 x hx
      · right
        exact ⟨j+1,v,e',by rw [Instr.findNow,hs']; show Instr.findNow _ _ es (i+1)=_; rw [q1,show i+1+j=i+(j+1) by omega],by rw [List.find?_cons_of_neg (by simp [hk])]; exact q2,by rw [List.getElem?_cons_succ]; exact q3,q4⟩
section
variable {P : Program} {ρ : Operand → Value} {o : Oper} {w : World}
theorem Qdi (t : TypeId) (m k:Operand) {kt et:TypeId} {g:Nat} {n:Int} {ms:List (Int×Value)} {z:Value} (ho:o.op=.lookup t m k false) (hm:ρ m=.map (some g)) (hk:ρ k=.int .i64 n)
    (ht:P.underlying t=some (.map kt et)) (hkt:P.underlying kt=some (.int .i64)) (h:MpAt g ms w) (hz:(zeroValue et).run P w=.ok z w):(execOp ρ o).run P w=.ok (.value (mget ms n z)) w:=by
  obtain ⟨es,c,hg,hM⟩:=h
  have hl:(Instr.lookup t (.map (some g)) (.int .i64 n) false).run P w=.ok (mget ms n z) w:=by
    unfold Instr.lookup
    rw [Sem.run_bind,run_underlying ht]
    show ((getObj g >>= _) >>= _:Sem Value).run P w=_
    rw [Sem.run_bind,Sem.run_bind,MapKept.run_getObj_map hg]
    show ((Instr.checkKey es.isEmpty 10000 kt (.int .i64 n)) >>= _:Sem Value).run P w=_
    rw [Sem.run_bind,MapKept.run_checkKey hkt (by simp [MapKept.IsKey])]
    rcases Qc2 n es.toList ms 0 hM.ents with ⟨q1,q2,-⟩ | ⟨j,v,e,q1,q2,-,-⟩
    · have hf:=MapKept.run_findKey (P:=P) (w:=w) hkt q1
      unfold mget
      rw [q2]
      simp [Sem.run_bind,hf,Result.andThen,hz]
    · have hf:=MapKept.run_findKey (P:=P) (w:=w) hkt q1
      unfold mget
      rw [q2]
      simp [Sem.run_bind,hf,Result.andThen]
  unfold execOp
  simp only [ho,hm,hk,Sem.run_bind,hl,Result.andThen_ok,Sem.run_pure]
theorem Qja {es : Array MapEntry} {c:Nat} {m:List (Int×Value)} (h:MpW es c m) {n:Int} {v:Value} (hn:n∉m.map Prod.fst):MpW (es.push { key:=.int .i64 n,val:=v,born:=c }) (c+1) (m++[(n,v)]):=by
  refine ⟨?_,?_,?_,?_⟩
  · rw [Array.toList_push,List.map_append,h.ents,List.map_append]; rfl
  · rw [List.map_append]
    refine List.nodup_append.2 ⟨h.nod,(List.nodup_cons.2 ⟨List.not_mem_nil,List.nodup_nil⟩),fun a ha b hb=>?_⟩
    rw [List.map_singleton,List.mem_singleton] at hb
    subst hb
    exact fun q=>hn (q▸ha)
  · rw [Array.toList_push,List.map_append]
    refine List.nodup_append.2 ⟨h.born,(List.nodup_cons.2 ⟨List.not_mem_nil,List.nodup_nil⟩),fun a ha b hb=>?_⟩
    obtain ⟨e,he,rfl⟩:=List.mem_map.1 ha
    rw [List.map_singleton,List.mem_singleton] at hb
    subst hb
    exact Nat.ne_of_lt (h.old e he)
  · intro e he
    rw [Array.toList_push,List.mem_append,List.mem_singleton] at he
    rcases he with he | rfl
    · exact Nat.lt_succ_of_lt (h.old e he)
    · exact Nat.lt_succ_self _
theorem QkO {m : List (Int×Value)} {n:Int} (h:n∉m.map Prod.fst):m.find? (fun p=>p.1==n)=none:=by
  rw [List.find?_eq_none]
  intro p hp q
  exact h (List.mem_map.2 ⟨p,hp,by simpa using q⟩)
theorem QiJ (t : TypeId) (m k x:Operand) {kt et:TypeId} {g:Nat} {n:Int} {ms:List (Int×Value)} {v:Value} (ho:o.op=.mapUpdate t m k x) (hm:ρ m=.map (some g)) (hk:ρ k=.int .i64 n) (hx:ρ x=v)
    (ht:P.underlying t=some (.map kt et)) (hkt:P.underlying kt=some (.int .i64)) (h:MpAt g ms w) (hn:n∉ms.map Prod.fst):∃ W',(execOp ρ o).run P w=.ok .skip W'∧Puts w g W'∧MpAt g (ms++[(n,v)]) W':=by
  obtain ⟨es,c,hg,hM⟩:=h
  rcases Qc2 n es.toList ms 0 hM.ents with ⟨q1,-,-⟩ | ⟨j,u,e,q1,q2,-,-⟩
  · have hf:=MapKept.run_findKey (P:=P) (w:=w) hkt q1
    have hi:(Instr.mapUpdate t (.map (some g)) (.int .i64 n) v).run P w=.ok () { w with heap:=w.heap.setIfInBounds g (.map (es.push { key:=.int .i64 n,val:=v,born:=c }) (c+1)) }:=by
      unfold Instr.mapUpdate
      rw [Sem.run_bind,run_underlying ht]
      show ((getObj g) >>= _:Sem Unit).run P w=_
      rw [Sem.run_bind,MapKept.run_getObj_map hg]
      show ((Instr.checkKey false 10000 kt (.int .i64 n)) >>= _:Sem Unit).run P w=_
      rw [Sem.run_bind,MapKept.run_checkKey hkt (by simp [MapKept.IsKey])]
      show ((Instr.findKey kt (.int .i64 n) es.toList) >>= _:Sem Unit).run P w=_
      rw [Sem.run_bind,hf]
      exact MapKept.run_setObj_map _ hg
    have hh:=MapKept.heap_set (o':=.map (es.push { key:=.int .i64 n,val:=v,born:=c }) (c+1)) hg
    refine ⟨{ w with heap:=w.heap.setIfInBounds g (.map (es.push { key:=.int .i64 n,val:=v,born:=c }) (c+1)) },?_,⟨rfl,rfl,rfl,by simp,fun i hi=>hh.2 i hi⟩,_,_,hh.1,Qja hM hn⟩
    unfold execOp
    rw [ho]
    show ((Instr.mapUpdate t (ρ m) (ρ k) (ρ x)) >>= _).run P w=_
    rw [hm,hk,hx,Sem.run_bind,hi]
    rfl
  · rw [QkO hn] at q2; cases q2
theorem Qfr {α β:Type} (f:α→β) (p:β→Bool):∀ l:List α,(l.map f).filter p=(l.filter fun x=>p (f x)).map f
  | []=>rfl
  | x::l=>by
    rw [List.map_cons,List.filter_cons,List.filter_cons,Qfr f p l]
    split <;> rfl
theorem Qhi {es : Array MapEntry} {c:Nat} {m:List (Int×Value)} (h:MpW es c m) (q:Int→Bool) (es':Array MapEntry) (he:es'.toList=es.toList.filter fun e=>match e.key with | .int _ n=>q n | _=>true):MpW es' c (m.filter fun p=>q p.1):=by
  refine ⟨?_,?_,?_,?_⟩
  · rw [he]
    have e1:=Qfr (fun e:MapEntry=>(e.key,e.val)) (fun x=>match x.1 with | .int _ n=>q n | _=>true) es.toList
    have e2:=Qfr (fun p:Int×Value=>(Value.int .i64 p.1,p.2)) (fun x=>match x.1 with | .int _ n=>q n | _=>true) m
    rw [←e1,h.ents,e2]
  · exact h.nod.sublist ((List.filter_sublist).map _)
  · rw [he]; exact h.born.sublist ((List.filter_sublist).map _)
  · intro e hm; rw [he] at hm; exact h.old e (List.mem_filter.1 hm).1
def nk (n : Int) (e:MapEntry):Bool:=match e.key with | .int _ x=>x != n | _=>true
theorem QfH {n x:Int} {e:MapEntry} (h:e.key=.int .i64 x):nk n e=(x != n):=by unfold nk; rw [h]
theorem QdH {n : Int}:∀ (l:List MapEntry) (j:Nat) (e:MapEntry),(l.map (·.key)).Nodup→(∀ x∈l,∃ a,x.key=Value.int .i64 a)→l[j]? = some e→e.key=.int .i64 n→l.eraseIdx j=l.filter (nk n)
  | [],_,_,_,_,h,_=>by simp at h
  | x::l,0,e,hn,hi,h,hk=>by
    simp only [List.getElem?_cons_zero,Option.some.injEq] at h
    subst h
    rw [List.eraseIdx_cons_zero,List.filter_cons_of_neg (by rw [QfH hk]; simp)]
    rw [List.map_cons,List.nodup_cons] at hn
    refine (List.filter_eq_self.2 fun y hy=>?_).symm
    obtain ⟨a,ha⟩:=hi y (List.mem_cons_of_mem _ hy)
    rw [QfH ha]
    simp only [bne_iff_ne,ne_eq]
    exact fun q=>hn.1 (by rw [hk,←q,←ha]; exact List.mem_map_of_mem (f:=fun e:MapEntry=>e.key) hy)
  | x::l,j+1,e,hn,hi,h,hk=>by
    rw [List.getElem?_cons_succ] at h
    rw [List.map_cons,List.nodup_cons] at hn
    obtain ⟨a,ha⟩:=hi x (List.mem_cons_self ..)
    have hx:nk n x=true:=by
      rw [QfH ha]
      simp only [bne_iff_ne,ne_eq]
      exact fun q=>hn.1 (by rw [ha,q,←hk]; exact List.mem_map_of_mem (f:=fun e:MapEntry=>e.key) (List.mem_of_getElem? h))
    rw [List.eraseIdx_cons_succ,List.filter_cons_of_pos hx,QdH l j e hn.2 (fun y hy=>hi y (List.mem_cons_of_mem _ hy)) h hk]
theorem QeP {es : Array MapEntry} {c:Nat} {m:List (Int×Value)} (h:MpW es c m):(es.toList.map (·.key)).Nodup:=by
  have e:es.toList.map (·.key)=(m.map Prod.fst).map (Value.int .i64):=by
    have:=congrArg (List.map Prod.fst) h.ents
    rw [List.map_map,List.map_map] at this
    rw [List.map_map]
    exact this
  rw [e]
  exact List.Pairwise.map _ (fun a b q r=>q (by injection r)) h.nod
theorem Qgh {es : Array MapEntry} {c:Nat} {m:List (Int×Value)} (h:MpW es c m) {e:MapEntry} (he:e∈es.toList):∃ n,e.key=.int .i64 n:=by
  have:=List.mem_map_of_mem (f:=fun e:MapEntry=>(e.key,e.val)) he
  rw [h.ents,List.mem_map] at this
  obtain ⟨p,-,hp⟩:=this
  exact ⟨p.1,(congrArg Prod.fst hp).symm⟩
end
def km (lim : Int) (e:MapEntry):Bool:=match e.key with | .int _ x=>decide (lim≤x) | _=>true
theorem Qmh {lim x:Int} {e:MapEntry} (h:e.key=.int .i64 x):km lim e=decide (lim≤x):=by unfold km; rw [h]
def rkeep (lim : Int) (sn:Array Nat) (e:MapEntry):Bool:=km lim e || !sn.contains e.born
def QfU (g r:Nat) (lim:Int) (es0:Array MapEntry) (c:Nat) (sn:Array Nat) (W:World):Prop:=∃ es:Array MapEntry,es.toList=es0.toList.filter (rkeep lim sn)∧W.heap[g]? = some (.map es c)∧W.heap[r]? = some (.mapIter (some g) c sn c)
def Qi5 (g r:Nat) (lim:Int) (es0:Array MapEntry) (c:Nat) (sn:Array Nat) (e:MapEntry) (W:World):Prop:=∃ es:Array MapEntry,es.toList=es0.toList.filter (rkeep lim sn)∧W.heap[g]? = some (.map es c)∧W.heap[r]? = some (.mapIter (some g) c (sn.push e.born) c)∧e∈es.toList∧sn.contains e.born=false
theorem Qdq {α β:Type} (f:α→β):∀ l:List α,(l.map f).Nodup→∀ a∈l,∀ b∈l,f a=f b→a=b
  | [],_,a,ha,_,_,_=>by cases ha
  | x::l,h,a,ha,b,hb,e=>by
    rw [List.map_cons,List.nodup_cons] at h
    rcases List.mem_cons.1 ha with ha' | ha' <;> rcases List.mem_cons.1 hb with hb' | hb'
    · rw [ha',hb']
    · exact absurd (by rw [←ha',e]; exact List.mem_map_of_mem (f:=f) hb') h.1
    · exact absurd (by rw [←hb',←e]; exact List.mem_map_of_mem (f:=f) ha') h.1
    · exact Qdq f l h.2 a ha' b hb' e
theorem Qg3 (sn : Array Nat) (b x:Nat):(sn.push b).contains x=(sn.contains x || x==b):=by
  rw [←Array.contains_toList,Array.toList_push,←Array.contains_toList]
  rw [Bool.eq_iff_iff]
  simp [List.contains_eq_mem,List.mem_append]
section
variable {es0 : Array MapEntry} {c : Nat} {m0 : List (Int × Value)} {g r : Nat} {lim : Int} {sn : Array Nat} {W : World}
theorem QfU.start (hM : MpW es0 c m0) (hg:W.heap[g]? = some (.map es0 c)) (hr:W.heap[r]? = some (.mapIter (some g) c #[] c)):QfU g r lim es0 c #[] W :=
  ⟨es0,(List.filter_eq_self.2 fun e _=>by unfold rkeep; simp).symm,hg,hr⟩
theorem QfU.done (hM : MpW es0 c m0) (h:QfU g r lim es0 c sn W) (h0:∀ es,W.heap[g]? = some (.map es c)→(leftOf es sn).size=0):MpAt g (m0.filter fun p=>decide (lim≤p.1)) W:=by
  obtain ⟨es,he,hg,hr⟩:=h
  have hl:=h0 es hg
  refine ⟨es,c,hg,Qhi hM (fun x=>decide (lim≤x)) es ?_⟩
  show _=es0.toList.filter (km lim)
  rw [he]
  refine List.filter_congr fun e hm=>?_
  unfold rkeep
  cases hk:km lim e with
  | true=>rfl
  | false =>
    rw [Bool.false_or]
    cases hs:sn.contains e.born with
    | true=>rfl
    | false =>
      exfalso
      have h1:e∈leftOf es sn:=by
        unfold leftOf
        rw [Array.mem_filter]
        refine ⟨?_,by rw [hs]; rfl⟩
        rw [←Array.mem_toList_iff,he,List.mem_filter]
        exact ⟨hm,by unfold rkeep; rw [hs]; simp⟩
      rw [Array.eq_empty_of_size_eq_zero hl] at h1
      cases h1 with | mk h=>cases h
theorem Qi5.stay (hM : MpW es0 c m0) {e:MapEntry} (h:Qi5 g r lim es0 c sn e W) (hk:km lim e=true):QfU g r lim es0 c (sn.push e.born) W:=by
  obtain ⟨es,he,hg,hr,hm,hs⟩:=h
  refine ⟨es,he.trans (List.filter_congr fun f hf=>?_),hg,hr⟩
  unfold rkeep
  rw [Qg3]
  by_cases hb:f.born=e.born
  · have hm':=hm
    rw [he] at hm'
    rw [Qdq (·.born) _ hM.born f hf e (List.mem_filter.1 hm').1 hb,hk]
    rfl
  · rw [show (f.born==e.born)=false from by simpa using hb,Bool.or_false]
theorem Qi5.drop (hM : MpW es0 c m0) {e:MapEntry} {x:Int} (h:Qi5 g r lim es0 c sn e W) (hx:e.key=.int .i64 x) (hk:x<lim) {P:Program} {t kt et ty:TypeId} (ht:P.underlying t=some (.map kt et)) (hkt:P.underlying kt=some (.int .i64)) :
    ∃ W',(Builtin.delete_ #[t,kt] ty #[.map (some g),.int .i64 x]).run P W=.ok (.tuple #[]) W'∧Puts W g W'∧QfU g r lim es0 c (sn.push e.born) W':=by
  obtain ⟨es,he,hg,hr,hm,hs⟩:=h
  have hME:MpW es c (m0.filter fun p=>true)∨True:=.inr trivial
  have hnb:(es.toList.map (·.born)).Nodup:=by rw [he]; exact hM.born.sublist ((List.filter_sublist).map _)
  have hnk:(es.toList.map (·.key)).Nodup:=by rw [he]; exact (QeP hM).sublist ((List.filter_sublist).map _)
  have hik:∀ y∈es.toList,∃ a,y.key=Value.int .i64 a:=fun y hy=>by rw [he] at hy; exact Qgh hM (List.mem_filter.1 hy).1
  have hm':=hm
  rw [he] at hm'
  have he0:=(List.mem_filter.1 hm').1
  obtain ⟨j,hj⟩:=List.mem_iff_getElem?.1 hm
  have hgr:g≠r:=fun q=>by rw [q,hr] at hg; cases hg
  have hfn:∀ (l:List MapEntry) (i:Nat),(∀ y∈l,∃ a,y.key=Value.int .i64 a)→(∃ y∈l,y.key=.int .i64 x)→∃ j v y,Instr.findNow (.int .i64) (.int .i64 x) l i=some (some (i+j,v))∧l[j]? = some y∧y.key=.int .i64 x:=by
    intro l
    induction l with
    | nil=>intro i _ h; obtain ⟨y,hy,-⟩:=h; cases hy
    | cons z l ih =>
      intro i hi hy
      obtain ⟨a,ha⟩:=hi z (List.mem_cons_self ..)
      have hsn:Instr.sameNow (.int .i64) (.int .i64 x) z.key=some (x==a):=by rw [ha]; simp [Instr.sameNow]
      by_cases hxa:a=x
      · exact ⟨0,z.val,z,by rw [Instr.findNow,hsn,hxa,beq_self_eq_true]; rfl,rfl,by rw [ha,hxa]⟩
      · have hsn':Instr.sameNow (.int .i64) (.int .i64 x) z.key=some false:=by rw [hsn]; congr 1; simp; exact fun q=>hxa q.symm
        obtain ⟨y,hy1,hy2⟩:=hy
        have hyl:y∈l:=by
          rcases List.mem_cons.1 hy1 with rfl | hy1
          · rw [ha] at hy2; exact absurd (by injection hy2) hxa
          · exact hy1
        obtain ⟨j,v,y',q1,q2,q3⟩:=ih (i+1) (fun y hy=>hi y (List.mem_cons_of_mem _ hy)) ⟨y,hyl,hy2⟩
        exact ⟨j+1,v,y',by rw [Instr.findNow,hsn']; show Instr.findNow _ _ l (i+1)=_; rw [q1,show i+1+j=i+(j+1) by omega],by rw [List.getElem?_cons_succ]; exact q2,q3⟩
  obtain ⟨j2,v,y,q1,q2,q3⟩:=hfn es.toList 0 hik ⟨e,hm,hx⟩
  have hf:=MapKept.run_findKey (P:=P) (w:=W) hkt q1
  rw [Nat.zero_add] at hf
  have hj2:j2<es.size:=by have:=(List.getElem?_eq_some_iff.1 q2).1; simpa using this
  have hE:(es.eraseIdxIfInBounds j2).toList=es.toList.filter (nk x):=by
    rw [Array.eraseIdxIfInBounds_eq,dif_pos hj2,Array.toList_eraseIdx]
    exact QdH _ j2 y hnk hik q2 q3
  have hh:=MapKept.heap_set (o':=.map (es.eraseIdxIfInBounds j2) c) hg
  refine ⟨{ W with heap:=W.heap.setIfInBounds g (.map (es.eraseIdxIfInBounds j2) c) },?_,⟨rfl,rfl,rfl,by simp,fun i hi=>hh.2 i hi⟩,es.eraseIdxIfInBounds j2,?_,hh.1,(hh.2 r (fun q=>hgr q.symm)).trans hr⟩
  · simp [Builtin.delete_,run_underlying ht,MapKept.run_getObj_map hg,MapKept.run_checkKey hkt (show MapKept.IsKey (.int .i64) (.int .i64 x) by simp [MapKept.IsKey]),hf,MapKept.run_setObj_map _ hg,Result.andThen]
  · rw [hE,he,List.filter_filter]
    refine List.filter_congr fun f hfm=>?_
    unfold rkeep
    rw [Qg3]
    by_cases hb:f.born=e.born
    · rw [Qdq (·.born) _ hM.born f hfm e he0 hb,QfH hx,Qmh hx,decide_eq_false (by omega)]
      simp
    · have hne:f.key≠e.key:=fun q=>hb (congrArg MapEntry.born (Qdq (·.key) _ (QeP hM) f hfm e he0 q))
      obtain ⟨a,ha⟩:=Qgh hM hfm
      have hnx:nk x f=true:=by rw [QfH ha]; simp only [bne_iff_ne,ne_eq]; exact fun q=>hne (by rw [ha,hx,q])
      rw [hnx,show (f.born==e.born)=false from by simpa using hb,Bool.or_false,Bool.true_and]
theorem QfU.next (hM : MpW es0 c m0) (h:QfU g r lim es0 c sn W) {P:Program} (ty:TypeId) :
    ((Instr.next (.pointer (some ⟨r,0,none⟩)) false ty).run P W=.ok (.tuple #[.bool false]) W∧MpAt g (m0.filter fun p=>decide (lim≤p.1)) W) ∨
    ∃ e x W1,e.key=.int .i64 x∧(Instr.next (.pointer (some ⟨r,0,none⟩)) false ty).run P W=.ok (.tuple #[.bool true,.int .i64 x,e.val]) W1∧Puts W r W1∧Qi5 g r lim es0 c sn e W1∧(Instr.entry (.pointer (some ⟨r,0,none⟩))).run P W1=.ok (.tuple #[.int .i64 x,e.val]) W1:=by
  have h':=h
  obtain ⟨es,he,hg,hr⟩:=h
  have hgr:g≠r:=fun q=>by rw [q,hr] at hg; cases hg
  have hsub:∀ y∈es.toList,y∈es0.toList:=fun y hy=>by rw [he] at hy; exact (List.mem_filter.1 hy).1
  rcases run_next_at (P:=P) W ty r g c c sn es c hr hg (fun y hy=>hM.old y (hsub y hy)) (qR _) with ⟨h0,hrun⟩ | ⟨e,hm,w1,hw1,hrun⟩
  · left
    refine ⟨hrun,h'.done hM fun es2 hg2=>?_⟩
    rw [hg] at hg2
    injection hg2 with q
    injection q with q1 _
    rw [←q1]; exact h0
  · right
    unfold leftOf at hm
    rw [Array.mem_toList_iff,Array.mem_filter] at hm
    obtain ⟨hm1,hs⟩:=hm
    have hm2:e∈es.toList:=by rw [Array.mem_toList_iff]; exact hm1
    obtain ⟨x,hx⟩:=Qgh hM (hsub e hm2)
    have hh:w1.heap=W.heap∧w1.os=W.os∧w1.tape=W.tape∧w1.output=W.output:=by
      rcases hw1 with rfl | rfl
      · exact ⟨rfl,rfl,rfl,rfl⟩
      · exact ⟨rfl,(Qaz W).os,(Qaz W).tape,(Qaz W).output⟩
    have hP:Puts W r (ChangeMaps.setBlock w1 r (.mapIter (some g) c (sn.push e.born) c)):=⟨hh.2.1,hh.2.2.1,hh.2.2.2,by simp [ChangeMaps.setBlock,hh.1],fun i hi=>by simp only [ChangeMaps.setBlock,hh.1]; exact Array.getElem?_setIfInBounds_ne (fun e=>hi e.symm)⟩
    have hr1:(ChangeMaps.setBlock w1 r (.mapIter (some g) c (sn.push e.born) c)).heap[r]? = some (.mapIter (some g) c (sn.push e.born) c):=by simp only [ChangeMaps.setBlock,hh.1]; exact Array.getElem?_setIfInBounds_self_of_lt (Qa5 hr)
    have hg1:=(hP.2.2.2.2 g hgr).trans hg
    refine ⟨e,x,_,hx,by rw [hrun,hx],hP,⟨es,he,hg1,hr1,hm2,by simpa using hs⟩,?_⟩
    rw [←hx]
    exact run_entry_at _ r g c sn es c e hr1 hg1 hm2 (by rw [he]; exact hM.born.sublist ((List.filter_sublist).map _))
end
end Go.Proofs.YthfkppjajmjpnaaDoor.Auto
end
section
namespace Go.Proofs.YthfkppjajmjpnaaDoor.Auto
open Go Go.RowKit
open Rely
def mset (ms : List (Int×Value)) (n:Int) (v:Value):List (Int×Value):=ms.map fun p=>if p.1=n then (n,v) else p
theorem QhV (ms : List (Int×Value)) (n:Int) (v:Value):(mset ms n v).map Prod.fst=ms.map Prod.fst:=by
  unfold mset
  rw [List.map_map]
  apply List.map_congr_left
  intro p _
  show (if p.1=n then (n,v) else p).1=p.1
  split
  · next h=>exact h.symm
  · rfl
theorem QhY {ms : List (Int×Value)} {n:Int} {v:Value} (z:Value) (h:n∈ms.map Prod.fst):mget (mset ms n v) n z=v:=by
  unfold mget mset
  rw [List.find?_map]
  obtain ⟨p,hp,he⟩:=List.mem_map.1 h
  cases hf:ms.find? ((fun p=>p.1==n)∘fun p=>if p.1=n then (n,v) else p) with
  | none =>
    have h1:=List.find?_eq_none.1 hf p hp
    simp [he] at h1
  | some q =>
    have h1:=List.find?_some hf
    simp only [Function.comp] at h1
    by_cases hq:q.1=n
    · simp [hq]
    · rw [if_neg hq] at h1
      exact absurd (beq_iff_eq.1 h1) hq
theorem QkU {es : Array MapEntry} {c j:Nat} {m:List (Int×Value)} (h:MpW es c m) {n:Int} {v:Value} {e:MapEntry} (hj:es.toList[j]? = some e) (hk:e.key=.int .i64 n) :
    MpW (es.modify j fun e=>{ e with key:=.int .i64 n,val:=v }) c (mset m n v):=by
  obtain ⟨h1,h2,h3,h4⟩:=h
  have hb:(es.modify j fun e=>{ e with key:=.int .i64 n,val:=v }).toList.map (·.born)=es.toList.map (·.born):=by
    apply List.ext_getElem?
    intro i
    rw [List.getElem?_map,List.getElem?_map,Array.toList_modify,List.getElem?_modify]
    cases es.toList[i]? with
    | none=>rfl
    | some x=>by_cases hij:j=i <;> simp [hij]
  refine ⟨?_,by rw [QhV]; exact h2,by rw [hb]; exact h3,fun x hx=>?_⟩
  · apply List.ext_getElem?
    intro i
    have hi:=congrArg (fun l=>l[i]?) h1
    have hjj:=congrArg (fun l=>l[j]?) h1
    simp only [List.getElem?_map] at hi hjj
    unfold mset
    rw [List.getElem?_map,Array.toList_modify,List.getElem?_modify,List.getElem?_map,List.getElem?_map]
    rw [hj] at hjj
    cases hmj:m[j]? with
    | none=>rw [hmj] at hjj; cases hjj
    | some p =>
      rw [hmj] at hjj
      simp only [Option.map_some,Option.some.injEq,Prod.mk.injEq] at hjj
      have hp:p.1=n:=by
        have:=hjj.1.symm.trans hk
        injection this
      by_cases hij:j=i
      · subst hij
        rw [hj,hmj]
        simp [hp]
      · cases hmi:m[i]? with
        | none=>rw [hmi] at hi; simp only [Option.map_none] at hi; cases hx:es.toList[i]? with
          | none=>simp
          | some x=>rw [hx] at hi; cases hi
        | some q =>
          have hq:q.1≠n:=fun hq=>by
            have hlt1:j<m.length:=(List.getElem?_eq_some_iff.1 hmj).1
            have hlt2:i<m.length:=(List.getElem?_eq_some_iff.1 hmi).1
            have e1:(m.map Prod.fst)[j]'(by simpa using hlt1)=(m.map Prod.fst)[i]'(by simpa using hlt2):=by
              simp only [List.getElem_map]
              rw [(List.getElem?_eq_some_iff.1 hmj).2,(List.getElem?_eq_some_iff.1 hmi).2,hp,hq]
            exact hij ((List.getElem_inj h2).1 e1)
          rw [hmi] at hi
          cases hx:es.toList[i]? with
          | none=>rw [hx] at hi; cases hi
          | some x =>
            rw [hx] at hi
            simp only [Option.map_some,Option.some.injEq] at hi
            simp [hij,hq,hi]
  · have hm:x.born∈(es.modify j fun e=>{ e with key:=.int .i64 n,val:=v }).toList.map (·.born):=List.mem_map_of_mem hx
    rw [hb] at hm
    obtain ⟨y,hy,e2⟩:=List.mem_map.1 hm
    rw [←e2]
    exact h4 y hy
section
variable {P : Program} {ρ : Operand → Value} {o : Oper} {w : World}
theorem Qh1 (n : Int):(Instr.keyThatStays (.int .i64 n) (.int .i64 n)).run P w=.ok (.int .i64 n) w:=by
  have hs:Instr.sameBits 10000 (.int .i64 n) (.int .i64 n)=true:=by simp [Instr.sameBits]
  unfold Instr.keyThatStays
  rw [if_pos hs]
  rfl
theorem QiI (t : TypeId) (m k x:Operand) {kt et:TypeId} {g:Nat} {n:Int} {ms:List (Int×Value)} {v:Value} (ho:o.op=.mapUpdate t m k x) (hm:ρ m=.map (some g)) (hk:ρ k=.int .i64 n) (hx:ρ x=v)
    (ht:P.underlying t=some (.map kt et)) (hkt:P.underlying kt=some (.int .i64)) (h:MpAt g ms w) (hn:n∈ms.map Prod.fst):∃ W',(execOp ρ o).run P w=.ok .skip W'∧Puts w g W'∧MpAt g (mset ms n v) W':=by
  obtain ⟨es,c,hg,hM⟩:=h
  rcases Qc2 n es.toList ms 0 hM.ents with ⟨-,q2,-⟩ | ⟨j,u,e,q1,q2,q3,q4⟩
  · obtain ⟨p,hp,he⟩:=List.mem_map.1 hn
    have:=List.find?_eq_none.1 q2 p hp
    simp [he] at this
  · have hf:=MapKept.run_findKey (P:=P) (w:=w) hkt q1
    have he:es[j]? = some e:=by rw [←Array.getElem?_toList]; exact q3
    have hi:(Instr.mapUpdate t (.map (some g)) (.int .i64 n) v).run P w=.ok () { w with heap:=w.heap.setIfInBounds g (.map (es.modify j fun e=>{ e with key:=.int .i64 n,val:=v }) c) }:=by
      unfold Instr.mapUpdate
      rw [Sem.run_bind,run_underlying ht]
      show ((getObj g) >>= _:Sem Unit).run P w=_
      rw [Sem.run_bind,MapKept.run_getObj_map hg]
      show ((Instr.checkKey false 10000 kt (.int .i64 n)) >>= _:Sem Unit).run P w=_
      rw [Sem.run_bind,MapKept.run_checkKey hkt (by simp [MapKept.IsKey])]
      show ((Instr.findKey kt (.int .i64 n) es.toList) >>= _:Sem Unit).run P w=_
      rw [Sem.run_bind,hf]
      simp only [Nat.zero_add,Result.andThen_ok,he,Option.map_some,Option.getD_some,q4]
      show ((Instr.keyThatStays (.int .i64 n) (.int .i64 n)) >>= _:Sem Unit).run P w=_
      rw [Sem.run_bind,Qh1]
      exact MapKept.run_setObj_map _ hg
    have hh:=MapKept.heap_set (o':=.map (es.modify j fun e=>{ e with key:=.int .i64 n,val:=v }) c) hg
    refine ⟨{ w with heap:=w.heap.setIfInBounds g (.map (es.modify j fun e=>{ e with key:=.int .i64 n,val:=v }) c) },?_,⟨rfl,rfl,rfl,by simp,fun i hi=>hh.2 i hi⟩,_,_,hh.1,QkU hM q3 q4⟩
    unfold execOp
    rw [ho]
    show ((Instr.mapUpdate t (ρ m) (ρ k) (ρ x)) >>= _).run P w=_
    rw [hm,hk,hx,Sem.run_bind,hi]
    rfl
end
end Go.Proofs.YthfkppjajmjpnaaDoor.Auto
end
section
namespace Go.Proofs.YthfkppjajmjpnaaDoor.Te
open Go Go.RowKit
open Rely Auto Own Seat Sha
def tmv (n : Int):Int×Value:=(n,.int .i64 1)
theorem QlJ {ts : List Int} {n:Int} (h:n∈ts) (z:Value):mget (ts.map tmv) n z=.int .i64 1:=by
  unfold mget
  cases hf:(ts.map tmv).find? (fun p=>p.1==n) with
  | none =>
    rw [List.find?_eq_none] at hf
    exact absurd (show ((tmv n).1==n)=true by simp [tmv]) (hf _ (List.mem_map_of_mem h))
  | some p =>
    obtain ⟨x,-,rfl⟩:=List.mem_map.1 (List.mem_of_find?_eq_some hf)
    rfl
theorem Qj3 {ts : List Int} {n:Int} (h:n∉ts) (z:Value):mget (ts.map tmv) n z=z:=by
  unfold mget
  rw [show (ts.map tmv).find? (fun p=>p.1==n)=none from List.find?_eq_none.2 fun p hp q=>by
    obtain ⟨x,hx,rfl⟩:=List.mem_map.1 hp
    exact h ((show x=n by simpa [tmv] using q)▸hx)]
  rfl
theorem Qeg (ts : List Int):(ts.map tmv).map Prod.fst=ts:=by
  rw [List.map_map]
  exact List.map_id' ts
section
variable {ds : List Deferred} {P : Program} {ops : Array Oper} {Q : Exit → Act → World → Prop} {rest : List Oper} {o : Oper} {N : Nat} {L : Env} {w : World}
theorem Qh7 (d : Nat) (hd:o.dst=some d) (hg:Qby ops o N L=some true) (h:(execOp (Rely.look (envN N L)) o).run P w=.ok (.value (.map (some w.heap.size))) (w.alloc (.map #[] 0)))
    (kk:∀ m W',w.heap.size≤m→Ext w W'→W'.heap[m]? = some (.map #[] 0)→WL P ops Q rest (Qa3 ds N ((d,.map (some m))::L)) W'):WL P ops Q (o::rest) (Qa3 ds N L) w :=
  QbW _ _ d hd hg h (kk w.heap.size _ (qR _) (QcE _ _) (heap_alloc_new _ _))
theorem Qh6 (m k x:Operand) (t:TypeId) {kt et:TypeId} {mT:Nat} {ts:List Int} {n:Int} (ho:o.op=.mapUpdate t m k x) (hm:Rely.look (envN N L) m=.map (some mT)) (hk:Rely.look (envN N L) k=.int .i64 n) (hx:Rely.look (envN N L) x=.int .i64 1)
    (ht:P.underlying t=some (.map kt et)) (hkt:P.underlying kt=some (.int .i64)) (h:MpAt mT (ts.map tmv) w) (hn:n∉ts) (hd:o.dst=none) (hg:Qby ops o N L=some true)
    (kk:∀ W',Puts w mT W'→MpAt mT ((ts++[n]).map tmv) W'→WL P ops Q rest (Qa3 ds N L) W'):WL P ops Q (o::rest) (Qa3 ds N L) w:=by
  obtain ⟨W',r1,r2,r3⟩:=QiJ (ρ:=Rely.look (envN N L)) (o:=o) t m k x ho hm hk hx ht hkt h (by rw [Qeg]; exact hn)
  refine Qei W' hd hg r1 (kk W' r2 ?_)
  rw [List.map_append]; exact r3
theorem Qh5 (m k x:Operand) (t:TypeId) {kt et:TypeId} {mT:Nat} {ts:List Int} {n:Int} {v:Value} (ho:o.op=.mapUpdate t m k x) (hm:Rely.look (envN N L) m=.map (some mT)) (hk:Rely.look (envN N L) k=.int .i64 n) (hx:Rely.look (envN N L) x=v)
    (ht:P.underlying t=some (.map kt et)) (hkt:P.underlying kt=some (.int .i64)) (h:MpAt mT (ts.map tmv) w) (hn:n∈ts) (hd:o.dst=none) (hg:Qby ops o N L=some true)
    (kk:∀ W',Puts w mT W'→MpAt mT (mset (ts.map tmv) n v) W'→WL P ops Q rest (Qa3 ds N L) W'):WL P ops Q (o::rest) (Qa3 ds N L) w:=by
  obtain ⟨W',r1,r2,r3⟩:=QiI (ρ:=Rely.look (envN N L)) (o:=o) t m k x ho hm hk hx ht hkt h (by rw [Qeg]; exact hn)
  exact Qei W' hd hg r1 (kk W' r2 r3)
end
def Qbg (ts : List NdV):Nat→List Int
  | 0=>[]
  | i+1=>if (ndi ts (2*i)).n.us=true then Qbg ts i++[(ndi ts (2*i)).n.nm] else Qbg ts i
theorem Qee {ts : List NdV} {i:Nat} (h:¬ (Qbg ts i).Nodup):∀ m,i≤m→¬ (Qbg ts m).Nodup
  | 0,hm=>by
      obtain rfl:i=0:=by omega
      exact h
  | m+1,hm=>by
    by_cases e:i=m+1
    · rw [←e]; exact h
    · have h2:=Qee h m (by omega)
      unfold Qbg
      split
      · intro q; exact h2 (List.nodup_append.1 q).1
      · exact h2
def Qcg (ts : List NdV):Bool:=decide (Qbg ts ((ts.length+1)/2)).Nodup
theorem NdAt.puts {B g off m:Nat} {w W:World} {n:NdV} (h:NdAt B w g off n) (p:Puts w m W) (hm:B≤m):NdAt B W g off n:=h.keep (qE p.2.2.2.1.symm) fun k hk _=>p.2.2.2.2 k (by omega)
theorem QcJ {us : List Int} {n:Int} (h:us.Nodup) (hn:n∉us):(us++[n]).Nodup:=List.nodup_append.2 ⟨h,by simp,fun a ha b hb e=>hn (by rw [List.mem_singleton] at hb; rw [←hb,←e]; exact ha)⟩
set_option maxRecDepth 100000 in
theorem QhU (ts : List NdV) (a_t:Option Addr) (c_t B1:Nat) (w:World) (ht:TrAt B1 w a_t ts) (hB:B1≤w.heap.size) (htl:ts.length≤100000):Calls Tryd.prog 44 #[.slice a_t ts.length c_t] w (Ret w (.bool (Qcg ts))):=by
 refine enter 35 [(0,.slice a_t ts.length c_t)] Tryd.func44 rfl rfl kj rfl <| sgB kj <| sgC fun K2 hK2=>sg 2 kj <| Qh7 7 rfl kj kj fun mT W1 lmT e1 rmT=>?_
 have hmp0:MpAt mT (([]:List Int).map tmv) W1:=⟨_,_,rmT,QkT 0⟩
 have lm0:=qT (Rely.Ext.refl w).size lmT
 refine sg 1 kj <| sgN hK2 <| wp_seq_k fun K3 hK3=>sgB kj <| wp_block <| Qay (fun (s1:Nat)=>[(0,.slice a_t ts.length c_t),(3,.map (some mT)),(4,.int .i64 ((2*s1:Nat):Int))]) (fun (s1:Nat) W=>(s1≤(ts.length+1)/2)∧((Qbg ts s1).Nodup)∧(MpAt mT ((Qbg ts s1).map tmv) W)∧(Ext w W)) (fun (s1:Nat)=>ts.length-s1) 0 ⟨kj,kj,kj,trivial⟩ ⟨(Nat.zero_le _),List.nodup_nil,hmp0,(Ext.tr (Rely.Ext.refl w) e1)⟩ fun s1 X1 V1 hI1=>?_
 obtain ⟨i,hs1⟩:∃ z,z=s1:=⟨_,rfl⟩
 subst hs1
 obtain ⟨hi,hnd,hmp,xx1⟩:=hI1
 replace hi:i≤(ts.length+1)/2:=hi
 replace hnd:(Qbg ts i).Nodup:=hnd
 replace hmp:MpAt mT ((Qbg ts i).map tmv) V1:=hmp
 replace xx1:Ext w V1:=xx1
 refine wp_seq_k fun K5 hK5=>sgB kj <| Qaq (t:=decide (((2*i:Nat):Int)<((ts.length:Nat):Int))) kj (fun c7=>?_) (fun c7=>?_)
 ·skip
  have h11:2*i<ts.length:=by have:=of_decide_eq_true c7; omega
  refine wp_skip <| hK5 _ _ <| wp_seq_k fun K8 hK8=>wp_block <| wp_seq_k fun K9 hK9=>?_
  obtain ⟨gtT,otT,hat,hnts⟩:=TrAt.ext ht xx1
  have hnt:=hnts (2*i) (by omega)
  obtain ⟨nt,ent⟩:∃ z,z=ndi ts (2*i):=⟨_,rfl⟩
  rw [←ent] at hnt
  have okt:=hnt.ok
  have rdt:=hnt.rd
  rcases (show nt.n.us=false∨(nt.n.us=true∧nt.n.nm∉Qbg ts i)∨(nt.n.us=true∧nt.n.nm∈Qbg ts i) from by cases h8:nt.n.us; exact .inl rfl; by_cases h7:nt.n.nm∈Qbg ts i; exact .inr (.inr ⟨rfl,h7⟩); exact .inr (.inl ⟨rfl,h7⟩)) with hq | hq | hq
  ·skip
   have hun:Qbg ts (i+1)=Qbg ts i:=by rw [Qbg,if_neg (by rw [←ent,hq]; decide)]
   refine Qad <| sg 2 kj <| Qaa (.pointer (some ⟨gtT,otT+(2*i)*99,none⟩)) 16 rfl kj (Qan 23 _ _ .i64 ((2*i)) gtT otT ts.length c_t 50 99 a_t (hat (by omega)) rfl kj kj kj kj (by omega)) <| sg 1 kj <| Qaa (.bool false) 18 rfl kj (Qai 4 _ _ (.bool false) ((NdAt.at3 hnt).1.trans (congrArg (fun z=>some (Value.bool z)) hq)) rfl kj kj) <| sgN hK9 <| cond_false kj <| wp_skip <| hK8 _ _ <| Qad ?_
   refine sg 1 kj <| Qaa (.int .i64 (((2*(i+1):Nat):Int))) 13 rfl kj (Qag (u:=.int .i64 (IntKind.i64.wrap (((2*i:Nat):Int)+2))) kj (congrArg (Value.int .i64) ((IntWalk.i64_in _ (by omega)).trans (by omega)))) <| sg 1 kj <| Qaj ?_
   repeat (first | with_reducible refine goX1 ?_ | with_reducible refine goX2 ?_ | with_reducible refine goX3 ?_)
   exact Qap (i+1) ⟨kj,kj,kj,trivial⟩ ⟨(by omega),hun▸hnd,hun▸hmp,xx1⟩ (by show ts.length-(i+1)<ts.length-i; omega)
  ·skip
   obtain ⟨hus,hni⟩:=hq
   have hun:Qbg ts (i+1)=Qbg ts i++[nt.n.nm]:=by rw [Qbg,if_pos (by rw [←ent]; exact hus),←ent]
   refine Qad <| sg 2 kj <| Qaa (.pointer (some ⟨gtT,otT+(2*i)*99,none⟩)) 16 rfl kj (Qan 23 _ _ .i64 ((2*i)) gtT otT ts.length c_t 50 99 a_t (hat (by omega)) rfl kj kj kj kj (by omega)) <| sg 1 kj <| Qaa (.bool true) 18 rfl kj (Qai 4 _ _ (.bool true) ((NdAt.at3 hnt).1.trans (congrArg (fun z=>some (Value.bool z)) hus)) rfl kj kj) <| sgN hK9 <| cond_true kj <| sgC fun K10 hK10=>sg 3 kj <| Qaa (.pointer (some ⟨gtT,otT+(2*i)*99,none⟩)) 22 rfl kj (Qan 23 _ _ .i64 ((2*i)) gtT otT ts.length c_t 50 99 a_t (hat (by omega)) rfl kj kj kj kj (by omega)) ?_
   refine sg 1 kj <| Qaa (.int .i64 nt.n.nm) 24 rfl kj (Qai 3 _ _ (.int .i64 nt.n.nm) (NdAt.at3 hnt).2.1 rfl kj kj) <| Qaa (.int .i64 0) 25 rfl kj ((Qdi (z:=.int .i64 0) 85 _ _ rfl kj kj Tryd.underlying85 kj hmp kj).trans (by rw [Qj3 hni])) <| sg 1 kj <| Qh6 (.tmp 19) (.tmp 24) (.tmp 26) 85 rfl kj kj kj Tryd.underlying85 kj hmp hni rfl kj fun W3 p3 hmp2=>?_
   have x3:=Puts.ext p3 xx1 lm0
   have hnt2:=NdAt.puts hnt p3 (by omega)
   refine sgN hK10 <| sgC fun K11 hK11=>sg 3 kj <| Qaa (.pointer (some ⟨gtT,otT+(2*i)*99,none⟩)) 30 rfl kj (Qan 23 _ _ .i64 ((2*i)) gtT otT ts.length c_t 50 99 a_t (hat (by omega)) rfl kj kj kj kj (by omega)) <| sg 1 kj <| Qaa (.int .i64 nt.n.nm) 32 rfl kj (Qai 3 _ _ (.int .i64 nt.n.nm) (NdAt.at3 hnt2).2.1 rfl kj kj) <| Qaa (.int .i64 1) 33 rfl kj ((Qdi (z:=.int .i64 0) 85 _ _ rfl kj kj Tryd.underlying85 kj hmp2 kj).trans (by rw [QlJ (List.mem_append.2 (.inr (List.mem_singleton.2 rfl)))])) <| sg 1 kj <| sgN hK11 <| cond_false kj ?_
   refine wp_skip <| hK8 _ _ <| Qad <| sg 1 kj <| Qaa (.int .i64 (((2*(i+1):Nat):Int))) 13 rfl kj (Qag (u:=.int .i64 (IntKind.i64.wrap (((2*i:Nat):Int)+2))) kj (congrArg (Value.int .i64) ((IntWalk.i64_in _ (by omega)).trans (by omega)))) <| sg 1 kj <| Qaj ?_
   repeat (first | with_reducible refine goX1 ?_ | with_reducible refine goX2 ?_ | with_reducible refine goX3 ?_)
   exact Qap (i+1) ⟨kj,kj,kj,trivial⟩ ⟨(by omega),(hun▸QcJ hnd hni),hun▸hmp2,x3⟩ (by show ts.length-(i+1)<ts.length-i; omega)
  ·skip
   obtain ⟨hus,hni⟩:=hq
   have hun:Qbg ts (i+1)=Qbg ts i++[nt.n.nm]:=by rw [Qbg,if_pos (by rw [←ent]; exact hus),←ent]
   refine Qad <| sg 2 kj <| Qaa (.pointer (some ⟨gtT,otT+(2*i)*99,none⟩)) 16 rfl kj (Qan 23 _ _ .i64 ((2*i)) gtT otT ts.length c_t 50 99 a_t (hat (by omega)) rfl kj kj kj kj (by omega)) <| sg 1 kj <| Qaa (.bool true) 18 rfl kj (Qai 4 _ _ (.bool true) ((NdAt.at3 hnt).1.trans (congrArg (fun z=>some (Value.bool z)) hus)) rfl kj kj) <| sgN hK9 <| cond_true kj <| sgC fun K12 hK12=>sg 3 kj <| Qaa (.pointer (some ⟨gtT,otT+(2*i)*99,none⟩)) 22 rfl kj (Qan 23 _ _ .i64 ((2*i)) gtT otT ts.length c_t 50 99 a_t (hat (by omega)) rfl kj kj kj kj (by omega)) ?_
   refine sg 1 kj <| Qaa (.int .i64 nt.n.nm) 24 rfl kj (Qai 3 _ _ (.int .i64 nt.n.nm) (NdAt.at3 hnt).2.1 rfl kj kj) <| Qaa (.int .i64 1) 25 rfl kj ((Qdi (z:=.int .i64 0) 85 _ _ rfl kj kj Tryd.underlying85 kj hmp kj).trans (by rw [QlJ hni])) <| sg 1 kj <| Qh5 (v:=.int .i64 2) (.tmp 19) (.tmp 24) (.tmp 26) 85 rfl kj kj kj Tryd.underlying85 kj hmp hni rfl kj fun W3 p3 hmp2=>?_
   have x3:=Puts.ext p3 xx1 lm0
   have hnt2:=NdAt.puts hnt p3 (by omega)
   refine sgN hK12 <| sgC fun K13 hK13=>sg 3 kj <| Qaa (.pointer (some ⟨gtT,otT+(2*i)*99,none⟩)) 30 rfl kj (Qan 23 _ _ .i64 ((2*i)) gtT otT ts.length c_t 50 99 a_t (hat (by omega)) rfl kj kj kj kj (by omega)) <| sg 1 kj <| Qaa (.int .i64 nt.n.nm) 32 rfl kj (Qai 3 _ _ (.int .i64 nt.n.nm) (NdAt.at3 hnt2).2.1 rfl kj kj) <| Qaa (.int .i64 2) 33 rfl kj ((Qdi (z:=.int .i64 0) 85 _ _ rfl kj kj Tryd.underlying85 kj hmp2 kj).trans (by rw [QhY _ (by rw [Qeg]; exact hni)])) ?_
   refine sg 1 kj <| sgN hK13 <| cond_true kj <| sgB kj <| wp_ret ?_
   repeat (first | with_reducible refine goR1 ?_ | with_reducible refine goR2 ?_)
   exact (show bodyPost _ _ _ .ret _ _ from ret1 (.bool false) rfl (Qar kj) ⟨congrArg (fun z=>Ending.returned (.bool z)) (decide_eq_false (Qee (i:=i+1) (by rw [hun]; exact fun q=>(List.nodup_append.1 q).2.2 _ hni _ (List.mem_singleton.2 rfl) rfl) _ (by omega))).symm,x3⟩)
 ·skip
  have h11:¬ 2*i<ts.length:=by have:=of_decide_eq_false c7; omega
  refine wp_exit <| hK3 _ _ <| sgB kj <| wp_ret ?_
  repeat (first | with_reducible refine goR1 ?_ | with_reducible refine goR2 ?_)
  exact (show bodyPost _ _ _ .ret _ _ from ret1 (.bool true) rfl (Qar kj) ⟨congrArg (fun z=>Ending.returned (.bool z)) (decide_eq_true ((show i=(ts.length+1)/2 by omega)▸hnd)).symm,xx1⟩)
end Go.Proofs.YthfkppjajmjpnaaDoor.Te
end
section
namespace Go.Proofs.YthfkppjajmjpnaaDoor.Te
open Go Go.RowKit
open Rely Auto Own Seat Sha
end Go.Proofs.YthfkppjajmjpnaaDoor.Te
end
section
namespace Go.Proofs.YthfkppjajmjpnaaDoor.Te
open Go Go.RowKit
open Rely Auto Own Seat Sha
theorem nb_old {k : IntKind} {T:TypeId} {base g:Nat} {xs:List Int} {v:Value} {W:World} (h:OwnN k T base xs v W) (hg:g<base):v.ownBlock≠some g:=fun e=>by
  have:=h.ge e
  omega
theorem ownN_but {k : IntKind} {T:TypeId} {b g:Nat} {xs:List Int} {v:Value} {W W':World} (h:OwnN k T b xs v W) (q:ExtB g W W') (hn:v.ownBlock≠some g):OwnN k T b xs v W':=h.keep fun k hk=>q.2.2.2.2 k (h.lt hk) (fun e=>hn (by rw [hk,e]))
theorem run_storeQ {P : Program} {ρ:Operand→Value} {o:Oper} {w:World} (ty:TypeId) (x y:Operand) (g off:Nat) (t:TypeId) (pre post:List (Array Value)) (u v:Value) (hg:w.heap[g]? = some (.cells (cat (pre++([#[u]]++post))) t))
    (ho:o.op=.store ty x y) (hx:ρ x=.pointer (some ⟨g,off,none⟩)) (hy:ρ y=v) (hi:(P.info? ty).map (·.size)=some 1) (hp:(cat pre).size=off) (h1:v.oneCell'=true) (hcs:v.cells=#[v]) :
    (execOp ρ o).run P w=.ok .skip (w.setRow g (cat (pre++([#[v]]++post)))):=by
  subst hp
  have hs:Nat.blt (cat pre).size (cat (pre++([#[u]]++post))).size=true:=by
    have:(cat pre).size<(cat (pre++([#[u]]++post))).size:=by
      rw [QaL,QaL,qS,qS]
      have e1:(cat [#[u]]).size=1:=rfl
      omega
    simpa using this
  have e:(cat (pre++([#[u]]++post))).setIfInBounds (cat pre).size v=cat (pre++([#[v]]++post)):=by
    rw [QaL,QaL,QaL,QaL]
    have e1:∀ z,cat [#[z]]=#[z]:=fun z=>rfl
    rw [e1,e1,Array.setIfInBounds_append_right (qR _),Nat.sub_self,Array.setIfInBounds_append_left (by simp)]
    rfl
  rw [←e]
  exact QaX ty x y g _ t _ v hg ho hx hy hi hs h1 hcs
end Go.Proofs.YthfkppjajmjpnaaDoor.Te
end
section
namespace Go.Proofs.YthfkppjajmjpnaaDoor.Te
open Go Go.RowKit
open Rely Auto Own Seat Sha
end Go.Proofs.YthfkppjajmjpnaaDoor.Te
end
section
namespace Go.Proofs.YthfkppjajmjpnaaDoor.Te
open Go Go.RowKit
open Rely Auto Own Seat Sha
end Go.Proofs.YthfkppjajmjpnaaDoor.Te
end
section
namespace Go.Proofs.YthfkppjajmjpnaaDoor.Te
open Go Go.RowKit
open Rely Auto Own Seat Sha
end Go.Proofs.YthfkppjajmjpnaaDoor.Te
end
section
namespace Go.Proofs.YthfkppjajmjpnaaDoor.Te
open Go Go.RowKit
open Rely Auto Own Seat
theorem Qd6 (m : Nat) (hm:m≤100000):∃ L:Nat,leaves ((m:Nat):Int)=((L:Nat):Int)∧2*L≤m+1∧L≤32∧(L≠0→m+1=2*L∧QaF ((L:Nat):Int)=true):=by
  unfold leaves
  have e1:((m:Nat):Int).tmod 2=((m%2:Nat):Int):=by rw [Int.tmod_eq_emod_of_nonneg (by omega)]; omega
  have e2:((m:Nat):Int).tdiv 2=((m/2:Nat):Int):=by rw [Int.tdiv_eq_ediv_of_nonneg (by omega)]; omega
  have e3:wrap64 (((m/2:Nat):Int)+1)=((m/2+1:Nat):Int):=by unfold wrap64; omega
  rw [e1,e2,e3]
  by_cases h1:m%2=1
  · rw [if_neg (by rw [h1]; decide)]
    cases h2:QaF ((m/2+1:Nat):Int) with
    | true =>
      rw [if_pos rfl]
      have h3:=QaB h2
      exact ⟨m/2+1,rfl,by omega,by omega,fun _=>⟨by omega,h2⟩⟩
    | false=>rw [if_neg (by decide)]; exact ⟨0,rfl,by omega,by omega,fun h=>absurd rfl h⟩
  · rw [if_pos (by
      have:m%2=0:=by omega
      rw [this]; decide)]
    exact ⟨0,rfl,by omega,by omega,fun h=>absurd rfl h⟩
end Go.Proofs.YthfkppjajmjpnaaDoor.Te
end
section
namespace Go.Proofs.YthfkppjajmjpnaaDoor.Seat
open Go Go.RowKit
open Rely Auto Own
theorem quiet {P : Program} {f:FuncId} {args:Array Value} {w:World} {v:Value} (h:Calls P f args w fun e w'=>e=.returned v∧w=w'):Calls P f args w (Ret w v):=h.mono fun e w' ⟨h1,h2⟩=>⟨h1,h2▸Rely.Ext.refl w⟩
def upn (x n:Int):Nat→Int
  | 0=>par x n
  | k+1=>par (upn x n k) n
theorem QhK (x n:Int):i64 (par x n):=by have:=QjF x n; unfold i64; omega
theorem Qke (x n:Int):∀ k,i64 (upn x n k)
  | 0=>QhK x n
  | k+1=>QhK _ n
theorem Qhw (x n:Int):∀ k,0≤upn x n k→Qa4 (upn x n k) n=true∧(k:Int)+1≤lv (upn x n k)
  | 0,h=>by
    have h:0≤par x n:=h
    cases hd:Qa4 x n with
    | false=>rw [QcS hd] at h; omega
    | true =>
      rcases QcI hd with h2 | h2
      · omega
      · have h3:0≤lv x:=(Qes hd).1
        exact ⟨h2.1,by show ((0:Nat):Int)+1≤lv (par x n); omega⟩
  | k+1,h=>by
    have h:0≤par (upn x n k) n:=h
    have h0:0≤upn x n k:=by
      rcases Int.lt_or_le (upn x n k) 0 with h1 | h1
      · have:Qa4 (upn x n k) n=false:=by
          cases hd:Qa4 (upn x n k) n with
          | false=>rfl
          | true=>have:=Qbl hd; omega
        rw [QcS this] at h; omega
      · exact h1
    have h1:=Qhw x n k h0
    rcases QcI h1.1 with h2 | h2
    · omega
    · refine ⟨h2.1,?_⟩
      show ((k+1:Nat):Int)+1≤lv (par (upn x n k) n)
      omega
theorem Qhx {x n:Int} {k:Nat} (h:0≤upn x n k):k<6:=by
  have h1:=Qhw x n k h
  have h2:=Qes h1.1
  omega
theorem TabAt.keepC {gs : List Nat} {A B:World} (h:TabAt A) (k:QbF gs A B) (n:1∉gs):TabAt B:=⟨qL h.1 k.1,fun j hj=>k.cell (h.2 j hj) n⟩
def SP (x n:Int) (ys:List Nat):Prop:=∃ k,ys=List.range k∧upn x n k<0∧∀ i,i<k→0≤upn x n i
def SPp (x n:Int) (ys:List Nat):Prop:=∃ k,ys=List.range k∧∀ i,i<k→0≤upn x n i
end Go.Proofs.YthfkppjajmjpnaaDoor.Seat
end
section
namespace Go.Proofs.YthfkppjajmjpnaaDoor.Seat
open Go Go.RowKit
open Rely Auto Own
theorem QmD (x n:Int) (w:World):Calls Tryd.prog 75 #[.int .i64 x,.int .i64 n] w (Qbs w (fun v W=>∃ g1 g2,v=.func (.func 80) #[] #[.pointer (some ⟨g1,0,none⟩),.pointer (some ⟨g2,0,none⟩)]∧w.heap.size≤g1∧w.heap.size≤g2∧W.heap[g1]? = some (.cells #[.int .i64 x] 3)∧W.heap[g2]? = some (.cells #[.int .i64 n] 3))):=by
  refine enter 6 [(0,.int .i64 x),(1,.int .i64 n)] Tryd.func75 rfl rfl (by kernel_rfl) rfl <| sgC fun K1 hK1=>Qal (#[.int .i64 x]) 3 2 rfl (by kernel_rfl) (by kernel_rfl) fun g2 W1 l2 e1 r2_1=>?_
  have x1:=Ext.tr (Rely.Ext.refl w) e1
  refine Qal (#[.int .i64 n]) 3 3 rfl (by kernel_rfl) (by kernel_rfl) fun g3 W2 l3 e2 r3_2=>Qaa (.nilFunc) 4 rfl (by kernel_rfl) (by kernel_rfl) <| sgN hK1 <| sgC fun K4 hK4=>Qaa (.func (.func 80) #[] #[.pointer (some ⟨g2,0,none⟩),.pointer (some ⟨g3,0,none⟩)]) 5 rfl (by kernel_rfl) (by kernel_rfl) <| Qaa (.func (.func 80) #[] #[.pointer (some ⟨g2,0,none⟩),.pointer (some ⟨g3,0,none⟩)]) 4 rfl (by kernel_rfl) (by kernel_rfl) <| sgN hK4 <| wp_ret ?_
  repeat (first | with_reducible refine goR1 ?_ | with_reducible refine goR2 ?_)
  exact (show bodyPost _ _ _ .ret _ _ from ret1 (.func (.func 80) #[] #[.pointer (some ⟨g2,0,none⟩),.pointer (some ⟨g3,0,none⟩)]) rfl (Qar (by kernel_rfl)) ⟨_,rfl,(Ext.tr x1 e2),g2,g3,rfl,(qT (Rely.Ext.refl w).size l2),(qT x1.size l3),(Qae r2_1 e2),r3_2⟩)
end Go.Proofs.YthfkppjajmjpnaaDoor.Seat
end
section
namespace Go.Proofs.YthfkppjajmjpnaaDoor.Te
open Go Go.RowKit
open Rely Auto Own Seat Sha
def upN (x n:Int) (k:Nat):Nat:=if Qa4 (upn x n k) n=true then (upn x n k).toNat else (n-1).toNat
theorem Qgw {x n:Int} {k:Nat} (h:0≤upn x n k):Qa4 (upn x n k) n=true:=(Qhw x n k h).1
theorem Qef {x n:Int} {k:Nat} (h:0≤upn x n k):((upN x n k:Nat):Int)=upn x n k:=by unfold upN; rw [if_pos (Qgw h)]; omega
theorem Qhy {P : Program} {m l:Nat} {x n:Int} {k:Nat} {W:World} {Q:Ending→World→Prop} (h0:0≤upn x n k) (h:YieldAt Fence.wide m P l #[.int .i64 ((upN x n k:Nat):Int)] W Q):YieldAt Fence.wide m P l #[.int .i64 (upn x n k)] W Q:=by rwa [Qef h0] at h
theorem QhA {n : Int} (h:QaF n=true):Qa4 (n-1) n=true:=by
  have:=QaB h
  unfold Qa4
  rw [h]
  simp
  omega
theorem QiB {x n:Int} (k:Nat) (h:QaF n=true):Qa4 ((upN x n k:Nat):Int) n=true:=by
  unfold upN
  split
  · next h2=>have:=(Qbl h2).1; rw [Int.toNat_of_nonneg this]; exact h2
  · have h3:=QaB h; rw [Int.toNat_of_nonneg (by omega)]; exact QhA h
theorem QlF {x n:Int} (k:Nat) (h:QaF n=true):((upN x n k:Nat):Int)≤2*n-2:=(Qbl (QiB (x:=x) k h)).2.2.1
theorem Qhv {x n:Int} {k:Nat} (h:upn x n k<0):∀ m,k≤m→upn x n m<0
  | 0,hm=>by
      obtain rfl:k=0:=by omega
      exact h
  | m+1,hm=>by
    by_cases e:k=m+1
    · rw [←e]; exact h
    · have h2:=Qhv h m (by omega)
      show par (upn x n m) n<0
      have:Qa4 (upn x n m) n=false:=by
        cases hd:Qa4 (upn x n m) n with
        | false=>rfl
        | true=>have:=Qbl hd; omega
      rw [QcS this]; decide
theorem QeG {q : List Nat} {z k:Nat} (h:q++[z]=List.range k):k=z+1∧q=List.range z:=by
  rcases k with _ | j
  · have:=congrArg List.length h; simp at this
  · rw [List.range_succ] at h
    have h2:=List.append_inj' h rfl
    have h3:z=j:=by simpa using h2.2
    subst h3
    exact ⟨rfl,h2.1⟩
theorem Qge (m : Nat) (gs:List Nat) (g1 g2:Nat) (x n:Int) (hx:i64 x) (w:World) (hTw:TabAt w) (r1w:w.heap[g1]? = some (.cells #[.int .i64 x] 3)) (r2w:w.heap[g2]? = some (.cells #[.int .i64 n] 3)) (n1:g1∉gs) (n2:g2∉gs) (nT:1∉gs) :
  SeqStopsK Fence.wide m Tryd.prog 80 #[.pointer (some ⟨g1,0,none⟩),.pointer (some ⟨g2,0,none⟩)] (fun i:Nat=>#[Value.int .i64 ((upN x n i:Nat):Int)]) (QbF gs) (SP x n) (SPp x n) 7 w:=fun l J Jx Wi hW hJ hJx hY h0=>by
 refine callsIn_wide.2 ?_
 have hT:TabAt Wi:=hTw.ext hW
 have r1:=Qae r1w hW
 have r2:=Qae r2w hW
 refine enter 17 [(0,.func (.yield l) #[] #[]),(1,.pointer (some ⟨g1,0,none⟩)),(2,.pointer (some ⟨g2,0,none⟩))] Tryd.func80 rfl rfl kj rfl <| sgC fun K3 hK3=>Qaa (.int .i64 x) 5 rfl kj (Qaf 3 _ g1 0 3 _ (.int .i64 x) _ r1 rfl kj kj kj) <| Qaa (.int .i64 n) 6 rfl kj (Qaf 3 _ g2 0 3 _ (.int .i64 n) _ r2 rfl kj kj kj) <| Qak (.int .i64 (upn x n 0)) 81 #[.int .i64 x,.int .i64 n] 7 rfl kj kj ((fun W hT=>quiet (parent x n hx W hT)) _ hT) fun W1 e1=>sg 1 kj <| sgN hK3 <| wp_block <| Qay (fun (s1:Nat)=>[(0,.func (.yield l) #[] #[]),(1,.pointer (some ⟨g1,0,none⟩)),(2,.pointer (some ⟨g2,0,none⟩)),(4,.int .i64 (upn x n s1))]) (fun (s1:Nat) W=>(s1≤6)∧(∀ i,i<s1→0≤upn x n i)∧(J (List.range s1) W)∧(W.heap[g1]? = some (.cells #[.int .i64 x] 3))∧(W.heap[g2]? = some (.cells #[.int .i64 n] 3))∧(TabAt W)∧(Grew Wi W)) (fun (s1:Nat)=>6-s1) 0 ⟨kj,kj,kj,kj,trivial⟩ ⟨(by omega),(fun i hi=>by omega),(show J (List.range 0) _ from (QeT hJ h0 e1)),(Qae r1 e1),(Qae r2 e1),(TabAt.ext hT e1),(Grew.ext (Grew.refl Wi) e1)⟩ fun s1 X1 V1 hI1=>?_
 obtain ⟨k,hs1⟩:∃ z,z=s1:=⟨_,rfl⟩
 subst hs1
 obtain ⟨hk,hall,hJ1,rr1,rr2,hT1,xx1⟩:=hI1
 replace hk:k≤6:=hk
 replace hall:∀ i,i<k→0≤upn x n i:=hall
 replace hJ1:J (List.range k) V1:=hJ1
 replace rr1:V1.heap[g1]? = some (.cells #[.int .i64 x] 3):=rr1
 replace rr2:V1.heap[g2]? = some (.cells #[.int .i64 n] 3):=rr2
 replace hT1:TabAt V1:=hT1
 replace xx1:Grew Wi V1:=xx1
 refine wp_seq_k fun K6 hK6=>sgB kj <| Qaq (t:=decide ((upn x n k)≥0)) kj (fun c8=>?_) (fun c8=>?_)
 ·skip
  have hk0:0≤upn x n k:=of_decide_eq_true c8
  have hk6:=Qhx hk0
  refine wp_skip <| hK6 _ _ <| wp_seq_k fun K9 hK9=>wp_block <| wp_seq_k fun K10 hK10=>(wpIn_wide (n:=m)).1 <| Qci <| QcD (.func (.yield l) #[] #[]) 13 rfl (Qca _ _) rfl kj kj <| QcD (.int .i64 (upn x n k)) 14 rfl (Qca _ _) rfl kj kj <| Qjh (m:=m) (l:=l) (args:=#[.int .i64 (upn x n k)]) 15 rfl rfl kj kj (Qhy hk0 (hY (List.range k) k V1 hJ1 (by rw [List.length_range]; omega))) (fun W' hA=>?_) (fun W' hA=>?_)
  ·skip
   obtain ⟨W3,hW3⟩:∃ z,z=W':=⟨_,rfl⟩
   rw [←hW3] at hA ⊢
   obtain ⟨hj11,hk11⟩:=hA
   refine QcD (.bool false) 16 rfl (Qca _ _) rfl kj kj <| Qew <| hK10 _ _ <| cond_false kj <| wp_skip <| hK9 _ _ <| Qad <| sg 1 kj ?_
   have r2_3:=(QbF.row hk11 rr2 n2)
   refine Qaa (.int .i64 n) 11 rfl kj (Qaf 3 _ g2 0 3 _ (.int .i64 n) _ r2_3 rfl kj kj kj) ?_
   have f12_3:=(TabAt.keepC hT1 hk11 nT)
   refine Qak (.int .i64 (upn x n (k+1))) 81 #[.int .i64 (upn x n k),.int .i64 n] 12 rfl kj kj ((fun W hT=>quiet (parent (upn x n k) n (Qke x n k) W hT)) _ f12_3) fun W4 e4=>sg 1 kj <| Qaj ?_
   repeat (first | with_reducible refine goX1 ?_ | with_reducible refine goX2 ?_ | with_reducible refine goX3 ?_)
   exact Qap (k+1) ⟨kj,kj,kj,kj,trivial⟩ ⟨(by omega),(fun i hi=>by rcases Nat.lt_or_ge i k with h | h; exact hall i h; rw [show i=k by omega]; exact hk0),(by rw [List.range_succ]; exact (QeT hJ hj11 e4)),(Qae (QbF.row hk11 rr1 n1) e4),(Qae r2_3 e4),(TabAt.ext f12_3 e4),(Grew.ext (Grew.keepC xx1 hk11) e4)⟩ (by show 6-(k+1)<6-k; omega)
  ·skip
   obtain ⟨W3,hW3⟩:∃ z,z=W':=⟨_,rfl⟩
   rw [←hW3] at hA ⊢
   refine QcD (.bool true) 16 rfl (Qca _ _) rfl kj kj <| Qew <| hK10 _ _ <| cond_true kj <| wp_ret ?_
   repeat (first | with_reducible refine goR1 ?_ | with_reducible refine goR2 ?_)
   exact (show bodyPost _ _ _ .ret _ _ from ret0 rfl ⟨⟨_,rfl⟩,.inr ⟨_,⟨k+1,List.range_succ.symm,fun i hi=>by rcases Nat.lt_or_ge i k with h | h; exact hall i h; rw [show i=k by omega]; exact hk0⟩,hA⟩⟩)
 ·skip
  have hk0:upn x n k<0:=by have:=of_decide_eq_false c8; omega
  refine wp_exit ?_
  repeat (first | with_reducible refine goX1 ?_ | with_reducible refine goX2 ?_ | with_reducible refine goX3 ?_)
  exact (show bodyPost _ _ _ .normal _ _ from end0 rfl ⟨⟨_,rfl⟩,.inl ⟨_,⟨k,rfl,hk0,hall⟩,hJ1⟩⟩)
end Go.Proofs.YthfkppjajmjpnaaDoor.Te
end
section
namespace Go.Proofs.YthfkppjajmjpnaaDoor.Auto
open Go Go.RowKit
open Rely Own
variable {ds : List Deferred} {Fe : Fence} {nf : Nat}
section
variable {P : Program} {ops : Array Oper} {Q : Exit → Act → World → Prop} {rest : List Oper} {o : Oper} {N : Nat} {L : Env} {w : World}
theorem Qih (d : Nat) (hd:o.dst=some d) (hF:Free Fe nf P) (hnd:QbR o=true) (hg:Qby ops o N L=some false) (k:WLI Fe nf P ops Q rest (Qa3 ds N ((d,undef)::L)) w):WLI Fe nf P ops Q (o::rest) (Qa3 ds N L) w :=
  ⟨wpListIn_step fun K hK=>by
    rw [if_neg (by rw [QbD hg]; decide),hd,Qbd]
    exact ⟨fun f _=>hF.fn f,hK _ _ k.out⟩⟩
theorem Qli (v : Value) (f:FuncId) (args:Array Value) (d:Nat) (hd:o.dst=some d) (hF:Free Fe nf P) (hnd:QbR o=true) (hg:Qby ops o N L=some true) (h:(execOp (Rely.look (envN N L)) o).run P w=.ok (.enter f args) w)
    (hc:Calls P f args w (Ret w v)) (k:∀ W:World,Ext w W→WLI Fe nf P ops Q rest (Qa3 ds N ((d,v)::L)) W):WLI Fe nf P ops Q (o::rest) (Qa3 ds N L) w :=
  Qjk hF hnd hg fun K hK=>by
    rw [h]
    refine ⟨hF.dp,(hF.calls hc).mono ?_⟩
    rintro e w' ⟨rfl,hw⟩
    show K _ _
    rw [hd,Qbd]
    exact hK _ _ (k _ hw)
end
section
variable {P : Program} {Q : Exit → Act → World → Prop} {w : World} {N : Nat} {L : Env}
theorem Qfx {c : Operand} {x y:Code} (hc:Rely.look (envN N L) c=.bool false) (h:y.wpIn Fe nf P Q (Qa3 ds N L) w):(Code.cond c x y).wpIn Fe nf P Q (Qa3 ds N L) w:=wpIn_cond_false (by rw [Qbj]; exact hc) h
end
theorem QeQ {P : Program} {id:Nat} {Q:Exit→Act→World→Prop} {N:Nat} {L:Env} {w:World} {l:List Oper} (n:Nat) (S:List Srq) (hFr:Free Fe nf P) (hdf:(l.all QbR)=true) (hm:P.follows .mixedOrders=true) (hok:ok l n N S=true)
    (h:∀ F:List KE→Prop,(∀ C,(∀ W,Ext w W→finE (fun L W=>WLI Fe nf P l.toArray Q (l.drop n) (Qa3 ds N L) W) (l.take n) C L W)→F C)→Qbz P Ext w.drew N L F (l.take n) S []) :
    (Code.region id l.toArray true).wpIn Fe nf P Q (Qa3 ds N L) w :=
  Qho Ext Rely.Ext.refl Rely.Ext.trans n S hFr hdf hm hok fun F hF=>h F fun C hC=>hF C fun W hR=>hC W (Rely.Ext.trans (Qaz w) hR)
section
variable {P : Program} {ops : Array Oper} {Q : Exit → Act → World → Prop} {rest : List Oper} {o : Oper} {N : Nat} {L : Env} {W : World}
end
end Go.Proofs.YthfkppjajmjpnaaDoor.Auto
end
section
namespace Go.Proofs.YthfkppjajmjpnaaDoor.Auto
open Go Go.RowKit
open Rely
theorem Qck {P : Program} {w:World} {N:Nat} {L:Env} {a:Tmp} {ty:TypeId} (g:Nat) (t:TypeId) (cs:Array Value) (v:Value) (hg:w.heap[g]? = some (.cells cs t)) (ha:envN N L a=.pointer (some ⟨g,0,none⟩)) (hu:aggD P ty=some false) (hp:cs[0]? = some v) :
    Qe6 P w N L (.cell a ty) v:=by
  refine ⟨_,ha,?_⟩
  unfold aggD at hu
  cases hd:P.underlying ty with
  | none=>rw [hd] at hu; cases hu
  | some d =>
    rw [hd] at hu
    have hdd:aggB d=false:=Option.some.inj hu
    have hc:w.cell? ⟨g,0,none⟩=some v:=(cell_of_row w g 0 cs t _ hg).trans hp
    have hagg:(isAgg ty).run P w=.ok false w:=by
      unfold isAgg
      rw [Sem.run_bind,run_underlying hd w]
      cases d <;> first | rfl | cases hdd
    simp [loadVar,Sem.run_bind,hagg,hc]
theorem QhS {W : World} {g D:Nat} {cs:Array Value} {t:TypeId} {b:Option (List Deferred)} (h:W.heap[g]? = some (.cells cs t)) (hD:W.heap[D]? = some (.deferred b)):D≠g:=fun e=>by
  subst e
  rw [h] at hD
  cases hD
section
variable {P : Program} {fn : Func} {R : Ending → World → Prop} {N : Nat} {L : Env} {w : World}
theorem QkA {D : Nat} {r:ResultVar} (v:Value) (hr:fn.results=#[r]) (hD:w.heap[D]? = some (.deferred (some []))) (h:Qe6 P (w.putObj D (.deferred none)) N L r v) (k:R (.returned v) (w.putObj D (.deferred none))):bodyPostM Fence.wide 3 P fn R .ret (Qa3 [mark D] N L) w :=
  ⟨by simp,.inl ⟨_,_,rfl,run_takeDeferred hD,⟨_,QdE hr h,k⟩⟩⟩
end
end Go.Proofs.YthfkppjajmjpnaaDoor.Auto
end
section
namespace Go.Proofs.YthfkppjajmjpnaaDoor.Auto
open Go Go.RowKit
open Rely
section
variable {P : Program} {Rd : World → Prop} {w0 : World} {base N : Nat} {L : Env} {U : List Nat} {F : List Kn → Prop} {o : Oper} {os : List Oper} {s : Srq} {ss : List Srq} {C : List Kn}
end
end Go.Proofs.YthfkppjajmjpnaaDoor.Auto
end
section
namespace Go.Proofs.YthfkppjajmjpnaaDoor.Auto
open Go Go.RowKit
open Rely Own
variable {ds : List Deferred}
theorem Qhd {α : Type} {P:Program} {g:Operand} {p:Tmp} {assign body:Code} {Q:Exit→Act→World→Prop} {N:Nat} {L:Env} {w:World}
    {gf:Nat} {lb:Array Value} (hg:Rely.look (envN N L) g=.func (.func gf) #[] lb) (eg:∀ args w,(callFunc gf args).run P w=.ok (.enter gf args) w)
    {enc:α→Value} {Kp:World→World→Prop} {S Sp:List α→Prop} {M:Nat} {w0:World} (hseq:SeqStopsK Fence.wide 2 P gf lb (fun x=>#[enc x]) Kp S Sp M w0)
    (hKt:∀ {A B C:World},Kp A B→Kp B C→Kp A C) (hKb:∀ (W:World) (l:Nat) (o o':Obj),w.heap.size≤l→W.heap[l]? = some o→o.isCells=false→o.isWalk=false→Kp W (W.putObj l o')) (hb0:Below w0.heap.size w0 w)
    (I:List α→World→Prop) (Ix:Code→List α→World→Prop) (hI:OwnFrom w.heap.size I) (hIx:∀ c,OwnFrom w.heap.size (Ix c)) (h0:I [] w) (asg:α→Env)
    (hassign:∀ (l:Nat) (x:α) (W:World) (K:Act→World→Prop),K (Qa3 [] N (asg x++L)) W→assign.wpIn (Fence.wide.inRound l) 1 P (Exit.then K (fun _ _ _=>False)) (Qa3 [] N ((p,enc x)::L)) W)
    (hbody:∀ (l:Nat) (pre:List α) (x:α) (W:World),I pre W→pre.length<M→body.wpIn (Fence.wide.inRound l) 1 P (ownPostK Kp I Ix (pre++[x]) W) (Qa3 [] N (asg x++L)) W)
    (hdone:∀ (D:Nat) (xs:List α) (W:World),w.heap.size≤D→S xs→I xs W→W.heap[D]? = some (.deferred (some []))→Q .normal (Qa3 (mark D::ds) N L) W)
    (hstop:∀ (D:Nat) (c:Code) (pre:List α) (W:World),w.heap.size≤D→Sp pre→Ix c pre W→W.heap[D]? = some (.deferred (some []))→c.wp P Q (Qa3 (mark D::ds) N L) W) :
    (Code.rangeFunc g #[p] assign body).wp P Q (Qa3 ds N L) w:=by
  refine (wpIn_wide (n:=3)).1 <| wpIn_rangeFunc_ownF rfl (by omega) (by rw [Qbj]; exact hg) trivial eg (w0:=w0) hseq hKt hKb hb0 (fun _=>rfl) I Ix hI hIx h0 (fun x=>Qa3 [] N (asg x++L)) (fun l x W K hK=>?_) hbody ?_ ?_
  · rw [Qgb]
    exact hassign l x W K hK
  · intro D xs W h1 h2 h3 h4
    exact hdone D xs W h1 h2 h3 h4
  · intro D c pre W h1 h2 h3 h4
    exact wpIn_wide.2 (hstop D c pre W h1 h2 h3 h4)
section
variable {P : Program} {fn : Func} {R : Ending → World → Prop} {N : Nat} {L : Env} {w : World}
end
section
variable {P : Program} {fn : Func} {R : Ending → World → Prop} {N : Nat} {L : Env} {w : World}
end
end Go.Proofs.YthfkppjajmjpnaaDoor.Auto
end
section
namespace Go.Proofs.YthfkppjajmjpnaaDoor.Te
open Go Go.RowKit
open Rely Auto Own Seat Sha
theorem QfS (x n:Int) (hx:i64 x) (W:World) (hT:TabAt W):Calls Tryd.prog 60 #[.int .i64 x,.int .i64 n] W (Ret W (.tuple #[.int .i64 (bel x n).1,.int .i64 (bel x n).2])):=quiet (below x n hx W hT)
theorem Ql1 : Qbx (fun n x=>decide (0≤(bel x n).1)&&decide ((bel x n).2<n))=true:=by decide +kernel
theorem QbN {x n:Int} (h:Qa4 x n=true):0≤(bel x n).1∧(bel x n).2<n:=by
  have:=QaN Ql1 h
  simp only [Bool.and_eq_true,decide_eq_true_eq] at this
  exact this
def QdO (x y n:Int) (k:Nat):Bool:=decide (upn y n k<0) || (List.range (k+1)).any fun j=>upn y n j==x
def okU (ts : List NdV) (i n:Int) (k:Nat):Bool:=!(ndi ts (upN (2*i) n k)).n.us || decide (i∈(ndi ts (upN (2*i) n k)).n.ms)
def Qbq (ts : List NdV) (n x i:Int):Bool:=decide ((bel x n).1≤i)&&decide (i≤(bel x n).2)&&(ndi ts (2*i).toNat).n.us&&(List.range 6).all fun k=>QdO x (2*i) n k || okU ts i n k
theorem Qi3 {ts : List NdV} {i n x:Int} {k:Nat} (h:∀ j,j<k→okU ts i n j=true) (hs:upn (2*i) n k<0∨upn (2*i) n k=x):((List.range 6).all fun k=>QdO x (2*i) n k || okU ts i n k)=true:=by
  rw [List.all_eq_true]
  intro m _
  rw [Bool.or_eq_true]
  by_cases hm:m<k
  · exact .inr (h m hm)
  · left
    unfold QdO
    rw [Bool.or_eq_true]
    rcases hs with hs | hs
    · exact .inl (decide_eq_true (Qhv hs m (by omega)))
    · right
      rw [List.any_eq_true]
      exact ⟨k,List.mem_range.2 (by omega),by rw [hs]; exact beq_self_eq_true _⟩
theorem Qm0 {ts : List NdV} {i n x:Int} {k:Nat} (h0:∀ j,j≤k→0≤upn (2*i) n j∧upn (2*i) n j≠x) (hb:okU ts i n k=false):((List.range 6).all fun k=>QdO x (2*i) n k || okU ts i n k)=false:=by
  rw [List.all_eq_false]
  refine ⟨k,List.mem_range.2 (Qhx (h0 k (qR _)).1),?_⟩
  rw [hb,Bool.or_false]
  unfold QdO
  rw [decide_eq_false (by have:=(h0 k (qR _)).1; omega),Bool.false_or]
  intro hc
  rw [List.any_eq_true] at hc
  obtain ⟨j,hj,e⟩:=hc
  exact (h0 j (by have:=List.mem_range.1 hj; omega)).2 (eq_of_beq e)
theorem Qf2 {ts : List NdV} {n x i:Int} (h:i<(bel x n).1):Qbq ts n x i=false:=by unfold Qbq; rw [decide_eq_false (by omega)]; rfl
theorem QeF {ts : List NdV} {n x i:Int} (h:(bel x n).2<i):Qbq ts n x i=false:=by unfold Qbq; rw [decide_eq_false (show ¬ i≤(bel x n).2 by omega)]; simp
theorem QeY {ts : List NdV} {n x:Int} {m:Nat} (h:(ndi ts (2*m)).n.us=false):Qbq ts n x ((m:Nat):Int)=false:=by unfold Qbq; rw [show (2*((m:Nat):Int)).toNat=2*m by omega,h]; simp
theorem QeZ {ts : List NdV} {n x:Int} {m:Nat} (h1:(bel x n).1≤((m:Nat):Int)) (h2:((m:Nat):Int)≤(bel x n).2) (h:(ndi ts (2*m)).n.us=true):Qbq ts n x ((m:Nat):Int)=(List.range 6).all fun k=>QdO x (2*((m:Nat):Int)) n k || okU ts ((m:Nat):Int) n k:=by unfold Qbq; rw [show (2*((m:Nat):Int)).toNat=2*m by omega,h,decide_eq_true h1,decide_eq_true h2]; rfl
set_option maxRecDepth 100000 in
theorem QjV (ts : List NdV) (a_t:Option Addr) (c_t B1:Nat) (w:World) (ht:TrAt B1 w a_t ts) (L:Nat) (hL:leaves ((ts.length:Nat):Int)=((L:Nat):Int)) (hlen:ts.length+1=2*L) (hTr:QaF ((L:Nat):Int)=true) (hmt:∀ i,i<ts.length→(ndi ts i).n.ms.length≤1000000) (x:Int) (hxn:Qa4 x ((L:Nat):Int)=true) (hT:TabAt w) (i:Int) (h:i<(bel x ((L:Nat):Int)).1):Calls Tryd.prog 65 #[.slice a_t ts.length c_t,.int .i64 x,.int .i64 i] w (Ret w (.bool (Qbq ts ((L:Nat):Int) x i))):=by
  have hbn:=QbN hxn
  have hxb:=Qbl hxn
  have hx0:0≤x:=hxb.1
  have hxi:i64 x:=⟨by omega,by omega⟩
  refine enter 60 [(0,.slice a_t ts.length c_t),(1,.int .i64 x),(2,.int .i64 i)] Tryd.func65 rfl rfl kj rfl <| sgC fun K1 hK1=>Qal (#[.slice a_t ts.length c_t]) 23 3 rfl kj kj fun g2 W1 l2 e1 r2_1=>?_
  have x1:=Ext.tr (Rely.Ext.refl w) e1
  have b2:=qT (Rely.Ext.refl w).size l2
  refine Qal (#[.int .i64 x]) 3 4 rfl kj kj fun g3 W2 l3 e2 r3_2=>?_
  have x2:=Ext.tr x1 e2
  have b3:=qT x1.size l3
  refine Qal (#[.int .i64 i]) 3 5 rfl kj kj fun g4 W3 l4 e3 r4_3=>?_
  have x3:=Ext.tr x2 e3
  have b4:=qT x2.size l4
  refine Qal (#[.bool false]) 4 6 rfl kj kj fun g5 W4 l5 e4 r5_4=>sgN hK1 <| sgC fun K6 hK6=>Qaa (.slice a_t ts.length c_t) 11 rfl kj (Qaf 23 _ g2 0 23 _ (.slice a_t ts.length c_t) _ (Qae (Qae (Qae r2_1 e2) e3) e4) rfl kj kj kj) <| sg 1 kj <| Qak (.int .i64 ((L:Nat):Int)) 29 #[.int .i64 ((ts.length:Nat):Int)] 13 rfl kj kj (Qce ((ts.length:Nat):Int) ⟨by omega,by omega⟩ _ hL _) fun W5 e5=>?_
  have x5:=Ext.tr (Ext.tr x3 e4) e5
  refine sg 1 kj <| sgN hK6 <| sgC fun K7 hK7=>Qaa (.int .i64 x) 15 rfl kj (Qaf 3 _ g3 0 3 _ (.int .i64 x) _ (Qae (Qae (Qae r3_2 e3) e4) e5) rfl kj kj kj) <| sg 1 kj <| Qak (.tuple #[.int .i64 (bel x ((L:Nat):Int)).1,.int .i64 (bel x ((L:Nat):Int)).2]) 60 #[.int .i64 x,.int .i64 ((L:Nat):Int)] 17 rfl kj kj (QfS x ((L:Nat):Int) hxi _ (TabAt.ext hT x5)) fun W6 e6=>sg 5 kj <| sgN hK7 <| wp_seq_k fun K8 hK8=>sgC fun K9 hK9=>?_
  refine Qaa (.int .i64 i) 20 rfl kj (Qaf 3 _ g4 0 3 _ (.int .i64 i) _ (Qae (Qae (Qae r4_3 e4) e5) e6) rfl kj kj kj) <| sg 1 kj <| Qaa (.bool true) 22 rfl kj (Qag (u:=.bool (decide (i<((bel x ((L:Nat):Int)).1)))) kj (congrArg Value.bool (decide_eq_true (by omega)))) <| sg 14 kj <| sgN hK9 <| cond_true kj <| sgC fun K10 hK10=>?_
  have r5_6:=(Qae (Qae r5_4 e5) e6)
  refine Qav g5 _ (#[.bool false]) 4 r5_6 rfl kj (QaX 4 _ _ g5 0 4 _ (.bool false) r5_6 rfl kj kj kj kj kj rfl) fun W7 p7 r5_7=>sgN hK10 <| wp_ret ?_
  repeat (first | with_reducible refine goR1 ?_ | with_reducible refine goR2 ?_)
  exact (show bodyPost _ _ _ .ret _ _ from ret1 (.bool false) rfl (Qck g5 4 _ (.bool false) r5_7 kj kj rfl) ⟨congrArg (fun z=>Ending.returned (.bool z)) (Qf2 h).symm,(Puts.ext p7 (Ext.tr x5 e6) (qT x3.size l5))⟩)
set_option maxRecDepth 100000 in
theorem QjU (ts : List NdV) (a_t:Option Addr) (c_t B1:Nat) (w:World) (ht:TrAt B1 w a_t ts) (L:Nat) (hL:leaves ((ts.length:Nat):Int)=((L:Nat):Int)) (hlen:ts.length+1=2*L) (hTr:QaF ((L:Nat):Int)=true) (hmt:∀ i,i<ts.length→(ndi ts i).n.ms.length≤1000000) (x:Int) (hxn:Qa4 x ((L:Nat):Int)=true) (hT:TabAt w) (i:Int) (h0:(bel x ((L:Nat):Int)).1≤i) (h:(bel x ((L:Nat):Int)).2<i):Calls Tryd.prog 65 #[.slice a_t ts.length c_t,.int .i64 x,.int .i64 i] w (Ret w (.bool (Qbq ts ((L:Nat):Int) x i))):=by
  have hbn:=QbN hxn
  have hxb:=Qbl hxn
  have hx0:0≤x:=hxb.1
  have hxi:i64 x:=⟨by omega,by omega⟩
  refine enter 60 [(0,.slice a_t ts.length c_t),(1,.int .i64 x),(2,.int .i64 i)] Tryd.func65 rfl rfl kj rfl <| sgC fun K1 hK1=>Qal (#[.slice a_t ts.length c_t]) 23 3 rfl kj kj fun g2 W1 l2 e1 r2_1=>?_
  have x1:=Ext.tr (Rely.Ext.refl w) e1
  have b2:=qT (Rely.Ext.refl w).size l2
  refine Qal (#[.int .i64 x]) 3 4 rfl kj kj fun g3 W2 l3 e2 r3_2=>?_
  have x2:=Ext.tr x1 e2
  have b3:=qT x1.size l3
  refine Qal (#[.int .i64 i]) 3 5 rfl kj kj fun g4 W3 l4 e3 r4_3=>?_
  have x3:=Ext.tr x2 e3
  have b4:=qT x2.size l4
  refine Qal (#[.bool false]) 4 6 rfl kj kj fun g5 W4 l5 e4 r5_4=>sgN hK1 <| sgC fun K6 hK6=>Qaa (.slice a_t ts.length c_t) 11 rfl kj (Qaf 23 _ g2 0 23 _ (.slice a_t ts.length c_t) _ (Qae (Qae (Qae r2_1 e2) e3) e4) rfl kj kj kj) <| sg 1 kj <| Qak (.int .i64 ((L:Nat):Int)) 29 #[.int .i64 ((ts.length:Nat):Int)] 13 rfl kj kj (Qce ((ts.length:Nat):Int) ⟨by omega,by omega⟩ _ hL _) fun W5 e5=>?_
  have x5:=Ext.tr (Ext.tr x3 e4) e5
  refine sg 1 kj <| sgN hK6 <| sgC fun K7 hK7=>Qaa (.int .i64 x) 15 rfl kj (Qaf 3 _ g3 0 3 _ (.int .i64 x) _ (Qae (Qae (Qae r3_2 e3) e4) e5) rfl kj kj kj) <| sg 1 kj <| Qak (.tuple #[.int .i64 (bel x ((L:Nat):Int)).1,.int .i64 (bel x ((L:Nat):Int)).2]) 60 #[.int .i64 x,.int .i64 ((L:Nat):Int)] 17 rfl kj kj (QfS x ((L:Nat):Int) hxi _ (TabAt.ext hT x5)) fun W6 e6=>sg 5 kj <| sgN hK7 <| wp_seq_k fun K8 hK8=>sgC fun K9 hK9=>?_
  have r4_6:=(Qae (Qae (Qae r4_3 e4) e5) e6)
  refine Qaa (.int .i64 i) 20 rfl kj (Qaf 3 _ g4 0 3 _ (.int .i64 i) _ r4_6 rfl kj kj kj) <| sg 1 kj <| Qaa (.bool false) 22 rfl kj (Qag (u:=.bool (decide (i<((bel x ((L:Nat):Int)).1)))) kj (congrArg Value.bool (decide_eq_false (by omega)))) <| sg 1 kj <| Qaa (.int .i64 i) 24 rfl kj (Qaf 3 _ g4 0 3 _ (.int .i64 i) _ r4_6 rfl kj kj kj) <| sg 1 kj <| Qaa (.bool true) 26 rfl kj (Qag (u:=.bool (decide (i>((bel x ((L:Nat):Int)).2)))) kj (congrArg Value.bool (decide_eq_true (by omega)))) <| sg 10 kj <| sgN hK9 <| cond_true kj ?_
  refine sgC fun K10 hK10=>?_
  have r5_6:=(Qae (Qae r5_4 e5) e6)
  refine Qav g5 _ (#[.bool false]) 4 r5_6 rfl kj (QaX 4 _ _ g5 0 4 _ (.bool false) r5_6 rfl kj kj kj kj kj rfl) fun W7 p7 r5_7=>sgN hK10 <| wp_ret ?_
  repeat (first | with_reducible refine goR1 ?_ | with_reducible refine goR2 ?_)
  exact (show bodyPost _ _ _ .ret _ _ from ret1 (.bool false) rfl (Qck g5 4 _ (.bool false) r5_7 kj kj rfl) ⟨congrArg (fun z=>Ending.returned (.bool z)) (QeF h).symm,(Puts.ext p7 (Ext.tr x5 e6) (qT x3.size l5))⟩)
set_option maxRecDepth 100000 in
theorem QjT (ts : List NdV) (a_t:Option Addr) (c_t B1:Nat) (w:World) (ht:TrAt B1 w a_t ts) (L:Nat) (hL:leaves ((ts.length:Nat):Int)=((L:Nat):Int)) (hlen:ts.length+1=2*L) (hTr:QaF ((L:Nat):Int)=true) (hmt:∀ i,i<ts.length→(ndi ts i).n.ms.length≤1000000) (x:Int) (hxn:Qa4 x ((L:Nat):Int)=true) (hT:TabAt w) (m:Nat) (h1:(bel x ((L:Nat):Int)).1≤((m:Nat):Int)) (h2:((m:Nat):Int)≤(bel x ((L:Nat):Int)).2) (hus:(ndi ts (2*m)).n.us=false):Calls Tryd.prog 65 #[.slice a_t ts.length c_t,.int .i64 x,.int .i64 ((m:Nat):Int)] w (Ret w (.bool (Qbq ts ((L:Nat):Int) x ((m:Nat):Int)))):=by
 have hbn:=QbN hxn
 have hxb:=Qbl hxn
 have hx0:0≤x:=hxb.1
 have hxi:i64 x:=⟨by omega,by omega⟩
 have hm:2*m<ts.length:=by omega
 have hYi:i64 (2*((m:Nat):Int)):=⟨by omega,by omega⟩
 refine enter 60 [(0,.slice a_t ts.length c_t),(1,.int .i64 x),(2,.int .i64 ((m:Nat):Int))] Tryd.func65 rfl rfl kj rfl <| sgC fun K1 hK1=>Qal (#[.slice a_t ts.length c_t]) 23 3 rfl kj kj fun g2 W1 l2 e1 r2_1=>?_
 have x1:=Ext.tr (Rely.Ext.refl w) e1
 have b2:=qT (Rely.Ext.refl w).size l2
 refine Qal (#[.int .i64 x]) 3 4 rfl kj kj fun g3 W2 l3 e2 r3_2=>?_
 have x2:=Ext.tr x1 e2
 have b3:=qT x1.size l3
 refine Qal (#[.int .i64 ((m:Nat):Int)]) 3 5 rfl kj kj fun g4 W3 l4 e3 r4_3=>?_
 have x3:=Ext.tr x2 e3
 have b4:=qT x2.size l4
 refine Qal (#[.bool false]) 4 6 rfl kj kj fun g5 W4 l5 e4 r5_4=>sgN hK1 <| sgC fun K6 hK6=>?_
 have r2_4:=(Qae (Qae (Qae r2_1 e2) e3) e4)
 refine Qaa (.slice a_t ts.length c_t) 11 rfl kj (Qaf 23 _ g2 0 23 _ (.slice a_t ts.length c_t) _ r2_4 rfl kj kj kj) <| sg 1 kj <| Qak (.int .i64 ((L:Nat):Int)) 29 #[.int .i64 ((ts.length:Nat):Int)] 13 rfl kj kj (Qce ((ts.length:Nat):Int) ⟨by omega,by omega⟩ _ hL _) fun W5 e5=>?_
 have x5:=Ext.tr (Ext.tr x3 e4) e5
 refine sg 1 kj <| sgN hK6 <| sgC fun K7 hK7=>Qaa (.int .i64 x) 15 rfl kj (Qaf 3 _ g3 0 3 _ (.int .i64 x) _ (Qae (Qae (Qae r3_2 e3) e4) e5) rfl kj kj kj) <| sg 1 kj <| Qak (.tuple #[.int .i64 (bel x ((L:Nat):Int)).1,.int .i64 (bel x ((L:Nat):Int)).2]) 60 #[.int .i64 x,.int .i64 ((L:Nat):Int)] 17 rfl kj kj (QfS x ((L:Nat):Int) hxi _ (TabAt.ext hT x5)) fun W6 e6=>?_
 have x6:=Ext.tr x5 e6
 refine sg 5 kj <| sgN hK7 <| wp_seq_k fun K8 hK8=>wp_seq_k fun K9 hK9=>?_
 obtain ⟨gtT,otT,hat,hnts⟩:=TrAt.ext ht x6
 have hnt:=hnts (2*m) (by omega)
 obtain ⟨nt,ent⟩:∃ z,z=ndi ts (2*m):=⟨_,rfl⟩
 rw [←ent] at hnt
 have okt:=hnt.ok
 have rdt:=hnt.rd
 skip
 ·skip
  refine Qad ?_
  have r4_6:=(Qae (Qae (Qae r4_3 e4) e5) e6)
  refine Qaa (.int .i64 ((m:Nat):Int)) 20 rfl kj (Qaf 3 _ g4 0 3 _ (.int .i64 ((m:Nat):Int)) _ r4_6 rfl kj kj kj) <| sg 1 kj <| Qaa (.bool false) 22 rfl kj (Qag (u:=.bool (decide (((m:Nat):Int)<((bel x ((L:Nat):Int)).1)))) kj (congrArg Value.bool (decide_eq_false (by omega)))) <| sg 1 kj <| Qaa (.int .i64 ((m:Nat):Int)) 24 rfl kj (Qaf 3 _ g4 0 3 _ (.int .i64 ((m:Nat):Int)) _ r4_6 rfl kj kj kj) <| sg 1 kj <| Qaa (.bool false) 26 rfl kj (Qag (u:=.bool (decide (((m:Nat):Int)>((bel x ((L:Nat):Int)).2)))) kj (congrArg Value.bool (decide_eq_false (by omega)))) <| sg 2 kj <| Qaa (.slice a_t ts.length c_t) 29 rfl kj (Qaf 23 _ g2 0 23 _ (.slice a_t ts.length c_t) _ (Qae (Qae r2_4 e5) e6) rfl kj kj kj) <| Qaa (.int .i64 ((m:Nat):Int)) 30 rfl kj (Qaf 3 _ g4 0 3 _ (.int .i64 ((m:Nat):Int)) _ r4_6 rfl kj kj kj) ?_
  refine Qaa (.int .i64 (((2*m:Nat):Int))) 31 rfl kj (Qag (u:=.int .i64 (IntKind.i64.wrap (2*((m:Nat):Int)))) kj (congrArg (Value.int .i64) ((IntWalk.i64_in _ (by omega)).trans (by omega)))) <| Qaa (.pointer (some ⟨gtT,otT+(2*m)*99,none⟩)) 32 rfl kj (Qan 23 _ _ .i64 ((2*m)) gtT otT ts.length c_t 50 99 a_t (hat (by omega)) rfl kj kj kj kj (by omega)) <| sg 1 kj <| Qaa (.bool false) 34 rfl kj (Qai 4 _ _ (.bool false) ((NdAt.at3 hnt).1.trans (congrArg (fun z=>some (Value.bool z)) (ent▸hus))) rfl kj kj) <| sg 2 kj <| sgN hK9 <| cond_true kj <| sgC fun K10 hK10=>?_
  have r5_6:=(Qae (Qae r5_4 e5) e6)
  refine Qav g5 _ (#[.bool false]) 4 r5_6 rfl kj (QaX 4 _ _ g5 0 4 _ (.bool false) r5_6 rfl kj kj kj kj kj rfl) fun W7 p7 r5_7=>sgN hK10 <| wp_ret ?_
  repeat (first | with_reducible refine goR1 ?_ | with_reducible refine goR2 ?_)
  exact (show bodyPost _ _ _ .ret _ _ from ret1 (.bool false) rfl (Qck g5 4 _ (.bool false) r5_7 kj kj rfl) ⟨congrArg (fun z=>Ending.returned (.bool z)) (QeY hus).symm,(Puts.ext p7 x6 (qT x3.size l5))⟩)
set_option maxRecDepth 100000 in
theorem QjS (ts : List NdV) (a_t:Option Addr) (c_t B1:Nat) (w:World) (ht:TrAt B1 w a_t ts) (L:Nat) (hL:leaves ((ts.length:Nat):Int)=((L:Nat):Int)) (hlen:ts.length+1=2*L) (hTr:QaF ((L:Nat):Int)=true) (hmt:∀ i,i<ts.length→(ndi ts i).n.ms.length≤1000000) (x:Int) (hxn:Qa4 x ((L:Nat):Int)=true) (hT:TabAt w) (m:Nat) (h1:(bel x ((L:Nat):Int)).1≤((m:Nat):Int)) (h2:((m:Nat):Int)≤(bel x ((L:Nat):Int)).2) (hus:(ndi ts (2*m)).n.us=true):Calls Tryd.prog 65 #[.slice a_t ts.length c_t,.int .i64 x,.int .i64 ((m:Nat):Int)] w (Ret w (.bool (Qbq ts ((L:Nat):Int) x ((m:Nat):Int)))):=by
 have hbn:=QbN hxn
 have hxb:=Qbl hxn
 have hx0:0≤x:=hxb.1
 have hxi:i64 x:=⟨by omega,by omega⟩
 have hm:2*m<ts.length:=by omega
 have hYi:i64 (2*((m:Nat):Int)):=⟨by omega,by omega⟩
 refine Qmn 60 [(0,.slice a_t ts.length c_t),(1,.int .i64 x),(2,.int .i64 ((m:Nat):Int))] Tryd.func65 rfl rfl kj rfl <| sgC fun K1 hK1=>Qal (#[.slice a_t ts.length c_t]) 23 3 rfl kj kj fun g2 W1 l2 e1 r2_1=>?_
 have x1:=Ext.tr (Rely.Ext.refl w) e1
 have b2:=qT (Rely.Ext.refl w).size l2
 refine Qal (#[.int .i64 x]) 3 4 rfl kj kj fun g3 W2 l3 e2 r3_2=>?_
 have x2:=Ext.tr x1 e2
 have b3:=qT x1.size l3
 refine Qal (#[.int .i64 ((m:Nat):Int)]) 3 5 rfl kj kj fun g4 W3 l4 e3 r4_3=>?_
 have x3:=Ext.tr x2 e3
 have b4:=qT x2.size l4
 refine Qal (#[.bool false]) 4 6 rfl kj kj fun g5 W4 l5 e4 r5_4=>?_
 have b5:=qT x3.size l5
 refine sgN hK1 <| sgC fun K6 hK6=>?_
 have r2_4:=(Qae (Qae (Qae r2_1 e2) e3) e4)
 refine Qaa (.slice a_t ts.length c_t) 11 rfl kj (Qaf 23 _ g2 0 23 _ (.slice a_t ts.length c_t) _ r2_4 rfl kj kj kj) <| sg 1 kj <| Qak (.int .i64 ((L:Nat):Int)) 29 #[.int .i64 ((ts.length:Nat):Int)] 13 rfl kj kj (Qce ((ts.length:Nat):Int) ⟨by omega,by omega⟩ _ hL _) fun W5 e5=>?_
 have x5:=Ext.tr (Ext.tr x3 e4) e5
 refine sg 1 kj <| sgN hK6 <| sgC fun K7 hK7=>?_
 have r3_5:=(Qae (Qae (Qae r3_2 e3) e4) e5)
 refine Qaa (.int .i64 x) 15 rfl kj (Qaf 3 _ g3 0 3 _ (.int .i64 x) _ r3_5 rfl kj kj kj) <| sg 1 kj <| Qak (.tuple #[.int .i64 (bel x ((L:Nat):Int)).1,.int .i64 (bel x ((L:Nat):Int)).2]) 60 #[.int .i64 x,.int .i64 ((L:Nat):Int)] 17 rfl kj kj (QfS x ((L:Nat):Int) hxi _ (TabAt.ext hT x5)) fun W6 e6=>?_
 have x6:=Ext.tr x5 e6
 refine sg 5 kj <| sgN hK7 <| wp_seq_k fun K8 hK8=>wp_seq_k fun K9 hK9=>?_
 obtain ⟨gtT,otT,hat,hnts⟩:=TrAt.ext ht x6
 have hnt:=hnts (2*m) (by omega)
 obtain ⟨nt,ent⟩:∃ z,z=ndi ts (2*m):=⟨_,rfl⟩
 rw [←ent] at hnt
 have okt:=hnt.ok
 have rdt:=hnt.rd
 skip
 ·skip
  refine Qad ?_
  have r4_6:=(Qae (Qae (Qae r4_3 e4) e5) e6)
  refine Qaa (.int .i64 ((m:Nat):Int)) 20 rfl kj (Qaf 3 _ g4 0 3 _ (.int .i64 ((m:Nat):Int)) _ r4_6 rfl kj kj kj) <| sg 1 kj <| Qaa (.bool false) 22 rfl kj (Qag (u:=.bool (decide (((m:Nat):Int)<((bel x ((L:Nat):Int)).1)))) kj (congrArg Value.bool (decide_eq_false (by omega)))) <| sg 1 kj <| Qaa (.int .i64 ((m:Nat):Int)) 24 rfl kj (Qaf 3 _ g4 0 3 _ (.int .i64 ((m:Nat):Int)) _ r4_6 rfl kj kj kj) <| sg 1 kj <| Qaa (.bool false) 26 rfl kj (Qag (u:=.bool (decide (((m:Nat):Int)>((bel x ((L:Nat):Int)).2)))) kj (congrArg Value.bool (decide_eq_false (by omega)))) <| sg 2 kj ?_
  have r2_6:=(Qae (Qae r2_4 e5) e6)
  refine Qaa (.slice a_t ts.length c_t) 29 rfl kj (Qaf 23 _ g2 0 23 _ (.slice a_t ts.length c_t) _ r2_6 rfl kj kj kj) <| Qaa (.int .i64 ((m:Nat):Int)) 30 rfl kj (Qaf 3 _ g4 0 3 _ (.int .i64 ((m:Nat):Int)) _ r4_6 rfl kj kj kj) <| Qaa (.int .i64 (((2*m:Nat):Int))) 31 rfl kj (Qag (u:=.int .i64 (IntKind.i64.wrap (2*((m:Nat):Int)))) kj (congrArg (Value.int .i64) ((IntWalk.i64_in _ (by omega)).trans (by omega)))) <| Qaa (.pointer (some ⟨gtT,otT+(2*m)*99,none⟩)) 32 rfl kj (Qan 23 _ _ .i64 ((2*m)) gtT otT ts.length c_t 50 99 a_t (hat (by omega)) rfl kj kj kj kj (by omega)) <| sg 1 kj <| Qaa (.bool true) 34 rfl kj (Qai 4 _ _ (.bool true) ((NdAt.at3 hnt).1.trans (congrArg (fun z=>some (Value.bool z)) (ent▸hus))) rfl kj kj) <| sg 2 kj <| sgN hK9 <| cond_false kj <| wp_skip ?_
  refine hK8 _ _ <| wp_seq_k fun K10 hK10=>sgC fun K11 hK11=>Qaa (.int .i64 ((m:Nat):Int)) 37 rfl kj (Qaf 3 _ g4 0 3 _ (.int .i64 ((m:Nat):Int)) _ r4_6 rfl kj kj kj) <| Qaa (.int .i64 (2*((m:Nat):Int))) 38 rfl kj (Qag (u:=.int .i64 (IntKind.i64.wrap (2*((m:Nat):Int)))) kj (congrArg (Value.int .i64) (IntWalk.i64_in _ (by omega)))) <| sg 1 kj <| Qa0 (fun v W'=>(fun v W=>∃ g1 g2,v=.func (.func 80) #[] #[.pointer (some ⟨g1,0,none⟩),.pointer (some ⟨g2,0,none⟩)]∧W6.heap.size≤g1∧W6.heap.size≤g2∧W.heap[g1]? = some (.cells #[.int .i64 (2*((m:Nat):Int))] 3)∧W.heap[g2]? = some (.cells #[.int .i64 (((L:Nat):Int))] 3)) v W'∧Ext W6 W') 75 #[.int .i64 (2*((m:Nat):Int)),.int .i64 ((L:Nat):Int)] 40 rfl kj kj ((QmD (2*((m:Nat):Int)) (((L:Nat):Int)) _).mono (by rintro e w' ⟨v,rfl,e1,hv⟩; exact ⟨v,rfl,hv,e1⟩)) fun vv12 W7 hh12=>?_
  obtain ⟨hv12,e7⟩:=hh12
  have x7:=Ext.tr x6 e7
  obtain ⟨gp1,gp2,rfl,lp1,lp2,rp1,rp2⟩:=hv12
  refine sgN hK11 <| wp_block <| Qhd (gf:=80) (lb:=#[.pointer (some ⟨gp1,0,none⟩),.pointer (some ⟨gp2,0,none⟩)]) (enc:=fun z:Nat=>.int .i64 ((upN (2*((m:Nat):Int)) ((L:Nat):Int) z:Nat):Int)) kj (enters_of Tryd.func80 kj rfl) (Qge 2 [] gp1 gp2 (2*((m:Nat):Int)) ((L:Nat):Int) hYi W7 (TabAt.ext hT x7) rp1 rp2 QbE QbE QbE) (fun h k=>QbF.trans h k) QbF.book (Below.refl _ _)
    (fun pre W=>(W.heap[g2]? = some (.cells (#[.slice a_t ts.length c_t]) 23)∧W.heap[g3]? = some (.cells (#[.int .i64 x]) 3)∧W.heap[g4]? = some (.cells (#[.int .i64 ((m:Nat):Int)]) 3)∧W.heap[g5]? = some (.cells (#[.bool false]) 4))∧(∀ z∈pre,upn (2*((m:Nat):Int)) ((L:Nat):Int) z≠x∧okU ts ((m:Nat):Int) ((L:Nat):Int) z=true)∧Ext w W)
    (fun c pre W=>((c=.exit 0∧(W.heap[g5]? = some (.cells (#[.bool false]) 4))∧∃ q z,pre=q++[z]∧(∀ u∈q,upn (2*((m:Nat):Int)) ((L:Nat):Int) u≠x∧okU ts ((m:Nat):Int) ((L:Nat):Int) u=true)∧((upN (2*((m:Nat):Int)) ((L:Nat):Int) z:Nat):Int)=x)∨(c=.ret∧(W.heap[g5]? = some (.cells (#[.bool false]) 4))∧∃ q z,pre=q++[z]∧(∀ u∈q,upn (2*((m:Nat):Int)) ((L:Nat):Int) u≠x∧okU ts ((m:Nat):Int) ((L:Nat):Int) u=true)∧((upN (2*((m:Nat):Int)) ((L:Nat):Int) z:Nat):Int)≠x∧okU ts ((m:Nat):Int) ((L:Nat):Int) z=false))∧Ext w W) (OwnFrom.and (Own.from (fun s A B row hs hg hr=>⟨Qcu hs.1 hg hr,Qcu hs.2.1 hg hr,Qcu hs.2.2.1 hg hr,Qcu hs.2.2.2 hg hr⟩) _) (OwnFrom.and (Own.from (fun _ _ _ _ hs _ _=>hs) _) (ownFrom_below (qR _) x7.size))) (fun c=>OwnFrom.and (Own.from (fun s A B row hs hg hr=>by rcases hs with ⟨e,r,q⟩ | ⟨e,r,q⟩; exact .inl ⟨e,Qcu r hg hr,q⟩; exact .inr ⟨e,Qcu r hg hr,q⟩) _) (ownFrom_below (qR _) x7.size)) ⟨⟨(Qae r2_6 e7),(Qae (Qae r3_5 e6) e7),(Qae r4_6 e7),(Qae (Qae (Qae r5_4 e5) e6) e7)⟩,(fun z hz=>by cases hz),x7⟩ (fun z=>[(10,.int .i64 ((upN (2*((m:Nat):Int)) ((L:Nat):Int) z:Nat):Int)),(41,.int .i64 ((upN (2*((m:Nat):Int)) ((L:Nat):Int) z:Nat):Int))]) (fun l z W K hK=>?_) (fun l pre z W hI hp=>?_) (fun D ys W lD hS hI rD=>?_) (fun D c pre W lD hSp hIx rD=>?_)
  ·refine Qci ?_
   refine QcD (.int .i64 ((upN (2*((m:Nat):Int)) ((L:Nat):Int) z:Nat):Int)) 10 rfl (Qbm l 1 _) rfl kj kj <| Qew ?_
   exact hK
  ·skip
   obtain ⟨⟨q3,q4,q5,q6⟩,hok,xx⟩:=hI
   have hul:=QlF (x:=2*((m:Nat):Int)) z hTr
   obtain ⟨u,hu⟩:∃ u,u=upN (2*((m:Nat):Int)) ((L:Nat):Int) z:=⟨_,rfl⟩
   rw [←hu] at hul ⊢
   refine wpIn_block <| wpIn_seq_k fun K505 hK505=>wpIn_seq_k fun K506 hK506=>Qci <| QcD (.int .i64 ((u:Nat):Int)) 42 rfl (Qbm l 1 _) rfl kj kj <| QcD (.int .i64 x) 43 rfl (Qbm l 1 _) rfl kj (Qaf 3 _ g3 0 3 _ (.int .i64 x) _ q4 rfl kj kj kj) <| QcD (.bool ((((u:Nat):Int)==x))) 44 rfl (Qbm l 1 _) rfl kj kj <| Qew <| hK506 _ _ <| Qdr (t:=(((u:Nat):Int)==x)) kj (fun c507=>?_) (fun c507=>?_)
   ·skip
    have hux:((u:Nat):Int)=x:=beq_iff_eq.1 c507
    refine wpIn_exit ?_
    repeat (first | with_reducible refine goX1 ?_ | with_reducible refine goXo1 (by decide) ?_ | with_reducible refine goXo2 (by decide) ?_)
    exact ⟨(KeepsOthers.refl _),.inl ⟨rfl,q6,pre,z,rfl,hok,hu▸hux⟩,xx⟩
   ·skip
    have hux:((u:Nat):Int)≠x:=beq_eq_false_iff_ne.1 c507
    refine wpIn_skip <| hK505 _ _ <| wpIn_seq_k fun K508 hK508=>?_
    obtain ⟨gtT,otT,hat,hnts⟩:=TrAt.ext ht xx
    have hnt:=hnts u (by omega)
    obtain ⟨nt,ent⟩:∃ z,z=ndi ts u:=⟨_,rfl⟩
    rw [←ent] at hnt
    have okt:=hnt.ok
    have rdt:=hnt.rd
    rcases (show nt.n.us=true∨nt.n.us=false from by cases nt.n.us; exact .inr rfl; exact .inl rfl) with hq | hq
    ·skip
     have hoz0:okU ts ((m:Nat):Int) ((L:Nat):Int) z=decide (((m:Nat):Int)∈nt.n.ms):=by unfold okU; rw [←hu,←ent,hq]; rfl
     refine QeQ 12 [⟨none,[(3,none)]⟩,⟨none,[(10,none)]⟩,⟨none,[(45,some 0),(46,some 1)]⟩,⟨none,[(47,some 2)]⟩,⟨none,[(48,some 3)]⟩,⟨none,[(49,some 4)]⟩,⟨some (50,true),[(3,none),(50,some 5)]⟩,⟨some (50,true),[(10,none),(50,some 5)]⟩,⟨some (50,true),[(51,some 6),(52,some 7),(50,some 5)]⟩,⟨some (50,true),[(53,some 8),(50,some 5)]⟩,⟨some (50,true),[(54,some 9),(50,some 5)]⟩,⟨some (50,true),[(5,none),(50,some 5)]⟩] (Qbm l 1 _) rfl kj kj fun F hF=>QaM (Qam _) (.slice a_t ts.length c_t) kj kj (fun W hR=>(Qaf 23 _ g2 0 23 _ (.slice a_t ts.length c_t) _ (Qae (Qae q3 (Qaz _)) hR) rfl kj kj kj)) <| Qa2 (Qam _) (.int .i64 ((u:Nat):Int)) kj kj (fun W=>by kernel_rfl) <| Qa2 (Qam _) (.pointer (some ⟨gtT,otT+u*99,none⟩)) kj kj (fun W=>(Qan 23 _ _ .i64 u gtT otT ts.length c_t 50 99 a_t (hat (by omega)) rfl kj kj kj kj (by omega))) <| Qa2 (Qam _) (.pointer (some ⟨gtT,otT+u*99,none⟩)) kj kj (fun W=>by kernel_rfl) <| QaM (Qam _) (.bool true) kj kj (fun W hR=>(Qai 4 _ _ (.bool true) (((NdAt.at3 (NdAt.ext hnt (Rely.Ext.trans (Qaz _) hR))).1).trans (congrArg (fun z=>some (Value.bool z)) hq)) rfl kj kj)) <| Qa2 (Qam _) (.bool true) kj kj (fun W=>by kernel_rfl) <| QaM (Qam _) (.slice a_t ts.length c_t) kj kj (fun W hR=>(Qaf 23 _ g2 0 23 _ (.slice a_t ts.length c_t) _ (Qae (Qae q3 (Qaz _)) hR) rfl kj kj kj)) <| Qa2 (Qam _) (.int .i64 ((u:Nat):Int)) kj kj (fun W=>by kernel_rfl) <| Qa2 (Qam _) (.pointer (some ⟨gtT,otT+u*99,none⟩)) kj kj (fun W=>(Qan 23 _ _ .i64 u gtT otT ts.length c_t 50 99 a_t (hat (by omega)) rfl kj kj kj kj (by omega))) ?_
     refine Qa2 (Qam _) (.pointer (some ⟨gtT,otT+u*99+98,none⟩)) kj kj (fun W=>by kernel_rfl) <| QaM (Qam _) (.slice nt.a nt.n.ms.length nt.c) kj kj (fun W hR=>(Qai 24 _ _ (.slice nt.a nt.n.ms.length nt.c) (NdAt.at3 (NdAt.ext hnt (Rely.Ext.trans (Qaz _) hR))).2.2 rfl kj kj)) <| QaM (Qam _) (.int .i64 ((m:Nat):Int)) kj kj (fun W hR=>(Qaf 3 _ g4 0 3 _ (.int .i64 ((m:Nat):Int)) _ (Qae (Qae q5 (Qaz _)) hR) rfl kj kj kj)) <| Qda (hF _ fun W1 e1=>?_)
     simp only [List.nil_append,List.cons_append,List.take_succ_cons,List.take_zero,List.drop_succ_cons,List.drop_zero,finE,up]
     clear hF
     have x1:=Ext.tr xx e1
     have y0_1:=(Rely.Ext.trans (Rely.Ext.refl W) e1)
     refine Qli (.bool (decide (((m:Nat):Int)∈nt.n.ms))) 48 #[.slice nt.a nt.n.ms.length nt.c,.int .i64 ((m:Nat):Int)] 57 rfl (Qbm l 1 _) rfl kj kj (QfR nt.n.ms ((m:Nat):Int) nt.a nt.c _ _ (ent▸hmt u (by omega)) (RdK.here (RdK.ext rdt y0_1))) fun W2 e2=>?_
     have x2:=Ext.tr x1 e2
     refine QcD (.bool (!(decide (((m:Nat):Int)∈nt.n.ms)))) 58 rfl (Qbm l 1 _) rfl kj kj <| QcD (.bool (!(decide (((m:Nat):Int)∈nt.n.ms)))) 59 rfl (Qbm l 1 _) rfl kj kj <| Qew <| hK508 _ _ <| Qdr (t:=!(decide (((m:Nat):Int)∈nt.n.ms))) kj (fun c509=>?_) (fun c509=>?_)
     ·skip
      have hoz:okU ts ((m:Nat):Int) ((L:Nat):Int) z=false:=by rw [hoz0]; simpa using c509
      refine wpIn_seq_k fun K510 hK510=>Qci ?_
      have r504_1:=(Qae q6 e1)
      have r504_2:=(Qae r504_1 e2)
      refine Qjj g5 _ (#[.bool false]) 4 r504_2 rfl (Qbm l 1 _) rfl kj (QaX 4 _ _ g5 0 4 _ (.bool false) r504_2 rfl kj kj kj kj kj rfl) fun W3 p3 r504_3=>?_
      have x3:=Puts.ext p3 x2 b5
      refine Qew <| hK510 _ _ <| wpIn_ret ?_
      repeat (first | with_reducible refine goR1 ?_ | with_reducible refine goR2 ?_)
      exact ⟨(((QcC e1).trans (QcC e2)).trans (Qhl p3 r504_2)),.inr ⟨rfl,r504_3,pre,z,rfl,hok,hu▸hux,hoz⟩,x3⟩
     ·skip
      have hoz:okU ts ((m:Nat):Int) ((L:Nat):Int) z=true:=by rw [hoz0]; simpa using c509
      refine wpIn_skip ?_
      repeat (first | with_reducible refine goX1 ?_ | with_reducible refine goX2 ?_ | with_reducible refine goX3 ?_)
      have r501_1:=(Qae q3 e1)
      have r502_1:=(Qae q4 e1)
      have r503_1:=(Qae q5 e1)
      have r504_1:=(Qae q6 e1)
      have r504_2:=(Qae r504_1 e2)
      exact ⟨((QcC e1).trans (QcC e2)),QbF.ext (Rely.Ext.trans y0_1 e2),⟨(Qae r501_1 e2),(Qae r502_1 e2),(Qae r503_1 e2),r504_2⟩,(fun v hv=>by rcases List.mem_append.1 hv with h | h; exact hok v h; rw [List.mem_singleton.1 h]; exact ⟨fun e=>hux (by rw [hu,Qef (by rw [e]; exact hx0)]; exact e),hoz⟩),x2⟩
    ·skip
     have hoz:okU ts ((m:Nat):Int) ((L:Nat):Int) z=true:=by unfold okU; rw [←hu,←ent,hq]; rfl
     refine QeQ 12 [⟨none,[(3,none)]⟩,⟨none,[(10,none)]⟩,⟨none,[(45,some 0),(46,some 1)]⟩,⟨none,[(47,some 2)]⟩,⟨none,[(48,some 3)]⟩,⟨none,[(49,some 4)]⟩,⟨some (50,true),[(3,none),(50,some 5)]⟩,⟨some (50,true),[(10,none),(50,some 5)]⟩,⟨some (50,true),[(51,some 6),(52,some 7),(50,some 5)]⟩,⟨some (50,true),[(53,some 8),(50,some 5)]⟩,⟨some (50,true),[(54,some 9),(50,some 5)]⟩,⟨some (50,true),[(5,none),(50,some 5)]⟩] (Qbm l 1 _) rfl kj kj fun F hF=>QaM (Qam _) (.slice a_t ts.length c_t) kj kj (fun W hR=>(Qaf 23 _ g2 0 23 _ (.slice a_t ts.length c_t) _ (Qae (Qae q3 (Qaz _)) hR) rfl kj kj kj)) <| Qa2 (Qam _) (.int .i64 ((u:Nat):Int)) kj kj (fun W=>by kernel_rfl) <| Qa2 (Qam _) (.pointer (some ⟨gtT,otT+u*99,none⟩)) kj kj (fun W=>(Qan 23 _ _ .i64 u gtT otT ts.length c_t 50 99 a_t (hat (by omega)) rfl kj kj kj kj (by omega))) <| Qa2 (Qam _) (.pointer (some ⟨gtT,otT+u*99,none⟩)) kj kj (fun W=>by kernel_rfl) <| QaM (Qam _) (.bool false) kj kj (fun W hR=>(Qai 4 _ _ (.bool false) (((NdAt.at3 (NdAt.ext hnt (Rely.Ext.trans (Qaz _) hR))).1).trans (congrArg (fun z=>some (Value.bool z)) hq)) rfl kj kj)) <| Qa2 (Qam _) (.bool false) kj kj (fun W=>by kernel_rfl) <| QbU kj kj <| QbU kj kj <| QbU kj kj ?_
     refine QbU kj kj <| QbU kj kj <| QbU kj kj <| Qda (hF _ fun W1 e1=>?_)
     simp only [List.nil_append,List.cons_append,List.take_succ_cons,List.take_zero,List.drop_succ_cons,List.drop_zero,finE,up]
     clear hF
     have x1:=Ext.tr xx e1
     refine Qih 57 rfl (Qbm l 1 _) rfl kj <| Qih 58 rfl (Qbm l 1 _) rfl kj <| QcD (.bool false) 59 rfl (Qbm l 1 _) rfl kj kj <| Qew <| hK508 _ _ <| Qfx kj <| wpIn_skip ?_
     repeat (first | with_reducible refine goX1 ?_ | with_reducible refine goX2 ?_ | with_reducible refine goX3 ?_)
     have y0_1:=(Rely.Ext.trans (Rely.Ext.refl W) e1)
     have r501_1:=(Qae q3 e1)
     have r502_1:=(Qae q4 e1)
     have r503_1:=(Qae q5 e1)
     have r504_1:=(Qae q6 e1)
     exact ⟨(QcC e1),QbF.ext y0_1,⟨r501_1,r502_1,r503_1,r504_1⟩,(fun v hv=>by rcases List.mem_append.1 hv with h | h; exact hok v h; rw [List.mem_singleton.1 h]; exact ⟨fun e=>hux (by rw [hu,Qef (by rw [e]; exact hx0)]; exact e),hoz⟩),x1⟩
  ·obtain ⟨⟨q3,q4,q5,q6⟩,hok,xx⟩:=hI
   obtain ⟨k1,rfl,hneg,hall⟩:=hS
   have bD:w.heap.size≤D:=qT x7.size lD
   have hfin:Qbq ts ((L:Nat):Int) x ((m:Nat):Int)=true:=(QeZ h1 h2 hus).trans (Qi3 (fun j hj=>(hok j (List.mem_range.2 hj)).2) (.inl hneg))
   refine hK10 _ _ <| sgC fun K14 hK14=>Qav g5 _ (#[.bool true]) 4 q6 rfl kj (QaX 4 _ _ g5 0 4 _ (.bool true) q6 rfl kj kj kj kj kj rfl) fun W9 p9 r5_9=>?_
   have x9:=Puts.ext p9 xx b5
   refine sgN hK14 <| wp_ret ?_
   repeat (first | with_reducible refine goR1 ?_ | with_reducible refine goR2 ?_)
   have r13_9:=(Puts.row p9 rD (QhS q6 rD))
   exact (show bodyPostM _ _ _ _ _ .ret _ _ from QkA (.bool true) rfl r13_9 (Qck g5 4 _ (.bool true) (Qfi r5_9 r13_9 _) kj kj rfl) ⟨congrArg (fun z=>Ending.returned (.bool z)) hfin.symm,Qfj x9 bD r13_9 _⟩)
  ·rcases hIx with ⟨⟨rfl,q6,q,z,rfl,hok,hzx⟩ | ⟨rfl,q6,q,z,rfl,hok,hzx,hbad⟩,xx⟩
   ·obtain ⟨k0,e0,hall⟩:=hSp
    obtain ⟨rfl,rfl⟩:=QeG e0
    have bD:w.heap.size≤D:=qT x7.size lD
    have hfin:Qbq ts ((L:Nat):Int) x ((m:Nat):Int)=true:=(QeZ h1 h2 hus).trans (Qi3 (fun j hj=>(hok j (List.mem_range.2 hj)).2) (.inr ((Qef (hall z (by omega))).symm.trans hzx)))
    refine wp_exit <| hK10 _ _ <| sgC fun K16 hK16=>Qav g5 _ (#[.bool true]) 4 q6 rfl kj (QaX 4 _ _ g5 0 4 _ (.bool true) q6 rfl kj kj kj kj kj rfl) fun W9 p9 r5_9=>?_
    have x9:=Puts.ext p9 xx b5
    refine sgN hK16 <| wp_ret ?_
    repeat (first | with_reducible refine goR1 ?_ | with_reducible refine goR2 ?_)
    have r15_9:=(Puts.row p9 rD (QhS q6 rD))
    exact (show bodyPostM _ _ _ _ _ .ret _ _ from QkA (.bool true) rfl r15_9 (Qck g5 4 _ (.bool true) (Qfi r5_9 r15_9 _) kj kj rfl) ⟨congrArg (fun z=>Ending.returned (.bool z)) hfin.symm,Qfj x9 bD r15_9 _⟩)
   ·obtain ⟨k0,e0,hall⟩:=hSp
    obtain ⟨rfl,rfl⟩:=QeG e0
    have bD:w.heap.size≤D:=qT x7.size lD
    have hfin:Qbq ts ((L:Nat):Int) x ((m:Nat):Int)=false:=(QeZ h1 h2 hus).trans (Qm0 (k:=z) (fun j hj=>⟨hall j (by omega),by by_cases e:j=z; (rw [e,←Qef (hall z (by omega))]; exact hzx); exact (hok j (List.mem_range.2 (by omega))).1⟩) hbad)
    refine wp_ret ?_
    repeat (first | with_reducible refine goR1 ?_ | with_reducible refine goR2 ?_)
    exact (show bodyPostM _ _ _ _ _ .ret _ _ from QkA (.bool false) rfl rD (Qck g5 4 _ (.bool false) (Qfi q6 rD _) kj kj rfl) ⟨congrArg (fun z=>Ending.returned (.bool z)) hfin.symm,Qfj xx bD rD _⟩)
theorem Ql8 (ts : List NdV) (a_t:Option Addr) (c_t B1:Nat) (w:World) (ht:TrAt B1 w a_t ts) (L:Nat) (hL:leaves ((ts.length:Nat):Int)=((L:Nat):Int)) (hlen:ts.length+1=2*L) (hTr:QaF ((L:Nat):Int)=true) (hmt:∀ i,i<ts.length→(ndi ts i).n.ms.length≤1000000) (x:Int) (hxn:Qa4 x ((L:Nat):Int)=true) (hT:TabAt w) (i:Int):Calls Tryd.prog 65 #[.slice a_t ts.length c_t,.int .i64 x,.int .i64 i] w (Ret w (.bool (Qbq ts ((L:Nat):Int) x i))):=by
  by_cases h1:i<(bel x ((L:Nat):Int)).1
  · exact QjV ts a_t c_t B1 w ht L hL hlen hTr hmt x hxn hT i h1
  by_cases h2:(bel x ((L:Nat):Int)).2<i
  · exact QjU ts a_t c_t B1 w ht L hL hlen hTr hmt x hxn hT i (by omega) h2
  have hbn:=QbN hxn
  obtain ⟨m,rfl⟩:∃ m:Nat,i=((m:Nat):Int):=⟨i.toNat,by omega⟩
  cases hus:(ndi ts (2*m)).n.us with
  | false=>exact QjT ts a_t c_t B1 w ht L hL hlen hTr hmt x hxn hT m (by omega) (by omega) hus
  | true=>exact QjS ts a_t c_t B1 w ht L hL hlen hTr hmt x hxn hT m (by omega) (by omega) hus
end Go.Proofs.YthfkppjajmjpnaaDoor.Te
end
section
namespace Go.Proofs.YthfkppjajmjpnaaDoor.Te
open Go Go.RowKit
open Rely Auto Own Seat Sha
def msOk (ts : List NdV) (n x:Int) (ms:List Int) (k:Nat):Bool:=(k==0 || decide (nth ms (k-1)<nth ms k))&&Qbq ts n x (nth ms k)
def QbC (ts : List NdV) (n:Int) (x:Nat):Bool:=if x%2=0 then QbT (ndi ts x).n else decide ((ndi ts x).n.nm=0)&&decide ((ndi ts x).n.sg=List.replicate 32 0)&&(List.range (ndi ts x).n.ms.length).all fun k=>msOk ts n ((x:Nat):Int) (ndi ts x).n.ms k
theorem QcG {ts : List NdV} {n:Int} {x:Nat} (h:x%2=0):QbC ts n x=QbT (ndi ts x).n:=by unfold QbC; rw [if_pos h]
theorem Qgv {ts : List NdV} {n:Int} {x:Nat} (h:x%2≠0) (h1:(ndi ts x).n.nm≠0):QbC ts n x=false:=by unfold QbC; rw [if_neg h,decide_eq_false h1]; rfl
theorem Qgu {ts : List NdV} {n:Int} {x:Nat} (h:x%2≠0) (h1:(ndi ts x).n.sg≠List.replicate 32 0):QbC ts n x=false:=by unfold QbC; rw [if_neg h,decide_eq_false h1]; simp
theorem Qbu {ts : List NdV} {n:Int} {x:Nat} (h:x%2≠0) (h1:(ndi ts x).n.nm=0) (h2:(ndi ts x).n.sg=List.replicate 32 0):QbC ts n x=(List.range (ndi ts x).n.ms.length).all fun k=>msOk ts n ((x:Nat):Int) (ndi ts x).n.ms k:=by unfold QbC; rw [if_neg h,decide_eq_true h1,decide_eq_true h2]; rfl
theorem Qg8 {p : Nat→Bool} {n:Nat} (h:∀ j,j<n→p j=true):(List.range n).all p=true:=List.all_eq_true.2 fun j hj=>h j (List.mem_range.1 hj)
theorem QcU {p : Nat→Bool} {n k:Nat} (hk:k<n) (h:p k=false):(List.range n).all p=false:=List.all_eq_false.2 ⟨k,List.mem_range.2 hk,by rw [h]; decide⟩
theorem QaK {x L:Nat} (hTr:QaF ((L:Nat):Int)=true) (h:x+1<2*L):Qa4 ((x:Nat):Int) ((L:Nat):Int)=true:=by unfold Qa4; rw [hTr]; simp; omega
set_option maxRecDepth 100000 in
theorem Qka (ts : List NdV) (a_t:Option Addr) (c_t B1:Nat) (w:World) (ht:TrAt B1 w a_t ts) (L:Nat) (hL:leaves ((ts.length:Nat):Int)=((L:Nat):Int)) (hlen:ts.length+1=2*L) (hTr:QaF ((L:Nat):Int)=true) (hmt:∀ i,i<ts.length→(ndi ts i).n.ms.length≤1000000) (x:Nat) (hx:x<ts.length) (hT:TabAt w) (h:x%2=0):Calls Tryd.prog 47 #[.slice a_t ts.length c_t,.int .i64 ((x:Nat):Int)] w (Ret w (.bool (QbC ts ((L:Nat):Int) x))):=by
  have hxn:Qa4 ((x:Nat):Int) ((L:Nat):Int)=true:=QaK hTr (by omega)
  refine enter 54 [(0,.slice a_t ts.length c_t),(1,.int .i64 ((x:Nat):Int))] Tryd.func47 rfl rfl kj rfl <| sgB kj <| sgC fun K2 hK2=>sg 2 kj ?_
  obtain ⟨gtT,otT,hat,hnts⟩:=TrAt.ext ht (Rely.Ext.refl w)
  have hnt:=hnts x (by omega)
  obtain ⟨nt,ent⟩:∃ z,z=ndi ts x:=⟨_,rfl⟩
  rw [←ent] at hnt
  have okt:=hnt.ok
  have rdt:=hnt.rd
  refine Qaa (.pointer (some ⟨gtT,otT+x*99,none⟩)) 10 rfl kj (Qan 23 _ _ .i64 x gtT otT ts.length c_t 50 99 a_t (hat (by omega)) rfl kj kj kj kj (by omega)) <| Qaa (.agg (cat [#[.bool nt.n.us],#[.int .i64 nt.n.nm],ints .u8 (nt.n.key),ints .u8 (nt.n.sg),ints .u8 (nt.n.pa),#[.slice nt.a nt.n.ms.length nt.c]])) 11 rfl kj (QaI 50 _ gtT (otT+x*99) nt hnt rfl kj kj kj) <| Qal (cat [#[.bool false],#[.int .i64 0],ints .u8 (List.replicate 32 0),ints .u8 (List.replicate 32 0),ints .u8 (List.replicate 32 0),#[.slice none 0 0]]) 50 5 rfl kj kj fun g3 W1 l3 e1 r3_1=>Qav g3 _ (cat [#[.bool nt.n.us],#[.int .i64 nt.n.nm],ints .u8 (nt.n.key),ints .u8 (nt.n.sg),ints .u8 (nt.n.pa),#[.slice nt.a nt.n.ms.length nt.c]]) 50 r3_1 rfl kj (Qat 50 _ _ g3 50 _ _ r3_1 rfl kj kj (isz (n:=99) kj (by rw [Qab,Qab,Qab,Qab,Qab,Qab]; simp only [qS,cat,((Qac _ _).trans okt.gl),((Qac _ _).trans okt.kl),((Qac _ _).trans okt.pl)]; rfl)) (eqsz (n:=99) (by rw [Qab,Qab,Qab,Qab,Qab,Qab]; simp only [qS,cat,((Qac _ _).trans (qZ (n:=32)))]; rfl) (by rw [Qab,Qab,Qab,Qab,Qab,Qab]; simp only [qS,cat,((Qac _ _).trans okt.gl),((Qac _ _).trans okt.kl),((Qac _ _).trans okt.pl)]; rfl)) (Qbo _ (by intro a ha; simp only [List.mem_cons,List.not_mem_nil,or_false] at ha; rcases ha with rfl | rfl | rfl | rfl | rfl | rfl; exact (Qa7 _ rfl); exact (Qa7 _ rfl); exact (Qau _ _); exact (Qau _ _); exact (Qau _ _); exact (Qa7 _ rfl)))) fun W2 p2 r3_2=>?_
  refine sgN hK2 <| wp_seq_k fun K4 hK4=>sgC fun K5 hK5=>sg 1 kj <| Qaa (.int .i64 ((x%2:Nat):Int)) 13 rfl kj (Qag (u:=.int .i64 (Int.tmod (((x:Nat):Int)) (2))) kj (congrArg (Value.int .i64) (Qbr _ 2))) <| Qaa (.bool true) 14 rfl kj (Qag (u:=.bool ((((x%2:Nat):Int)==0))) kj (congrArg Value.bool (beq_iff_eq.2 (by omega)))) <| sgN hK5 <| cond_true kj <| sgC fun K6 hK6=>Qaa (.agg (cat [#[.bool nt.n.us],#[.int .i64 nt.n.nm],ints .u8 (nt.n.key),ints .u8 (nt.n.sg),ints .u8 (nt.n.pa),#[.slice nt.a nt.n.ms.length nt.c]])) 15 rfl kj (QaA 50 _ g3 50 _ _ r3_2 rfl kj kj (isz (n:=99) kj (by rw [Qab,Qab,Qab,Qab,Qab,Qab]; simp only [qS,cat,((Qac _ _).trans okt.gl),((Qac _ _).trans okt.kl),((Qac _ _).trans okt.pl)]; rfl))) ?_
  refine Qak (.bool (QbT nt.n)) 64 #[.agg (cat [#[.bool nt.n.us],#[.int .i64 nt.n.nm],ints .u8 (nt.n.key),ints .u8 (nt.n.sg),ints .u8 (nt.n.pa),#[.slice nt.a nt.n.ms.length nt.c]])] 16 rfl kj kj (QlK nt okt _) fun W3 e3=>sg 1 kj <| sgN hK6 <| wp_ret ?_
  repeat (first | with_reducible refine goR1 ?_ | with_reducible refine goR2 ?_)
  exact (show bodyPost _ _ _ .ret _ _ from ret1 (.bool (QbT nt.n)) rfl (Qar kj) ⟨congrArg (fun z=>Ending.returned (.bool z)) (by rw [QcG h,←ent]),(Ext.tr (Puts.ext p2 (Ext.tr (Rely.Ext.refl w) e1) (qT (Rely.Ext.refl w).size l3)) e3)⟩)
set_option maxRecDepth 100000 in
theorem QjX (ts : List NdV) (a_t:Option Addr) (c_t B1:Nat) (w:World) (ht:TrAt B1 w a_t ts) (L:Nat) (hL:leaves ((ts.length:Nat):Int)=((L:Nat):Int)) (hlen:ts.length+1=2*L) (hTr:QaF ((L:Nat):Int)=true) (hmt:∀ i,i<ts.length→(ndi ts i).n.ms.length≤1000000) (x:Nat) (hx:x<ts.length) (hT:TabAt w) (h:x%2≠0) (h1:(ndi ts x).n.nm≠0):Calls Tryd.prog 47 #[.slice a_t ts.length c_t,.int .i64 ((x:Nat):Int)] w (Ret w (.bool (QbC ts ((L:Nat):Int) x))):=by
  have hxn:Qa4 ((x:Nat):Int) ((L:Nat):Int)=true:=QaK hTr (by omega)
  refine enter 54 [(0,.slice a_t ts.length c_t),(1,.int .i64 ((x:Nat):Int))] Tryd.func47 rfl rfl kj rfl <| sgB kj <| sgC fun K2 hK2=>sg 2 kj ?_
  obtain ⟨gtT,otT,hat,hnts⟩:=TrAt.ext ht (Rely.Ext.refl w)
  have hnt:=hnts x (by omega)
  obtain ⟨nt,ent⟩:∃ z,z=ndi ts x:=⟨_,rfl⟩
  rw [←ent] at hnt
  have okt:=hnt.ok
  have rdt:=hnt.rd
  refine Qaa (.pointer (some ⟨gtT,otT+x*99,none⟩)) 10 rfl kj (Qan 23 _ _ .i64 x gtT otT ts.length c_t 50 99 a_t (hat (by omega)) rfl kj kj kj kj (by omega)) <| Qaa (.agg (cat [#[.bool nt.n.us],#[.int .i64 nt.n.nm],ints .u8 (nt.n.key),ints .u8 (nt.n.sg),ints .u8 (nt.n.pa),#[.slice nt.a nt.n.ms.length nt.c]])) 11 rfl kj (QaI 50 _ gtT (otT+x*99) nt hnt rfl kj kj kj) <| Qal (cat [#[.bool false],#[.int .i64 0],ints .u8 (List.replicate 32 0),ints .u8 (List.replicate 32 0),ints .u8 (List.replicate 32 0),#[.slice none 0 0]]) 50 5 rfl kj kj fun g3 W1 l3 e1 r3_1=>Qav g3 _ (cat [#[.bool nt.n.us],#[.int .i64 nt.n.nm],ints .u8 (nt.n.key),ints .u8 (nt.n.sg),ints .u8 (nt.n.pa),#[.slice nt.a nt.n.ms.length nt.c]]) 50 r3_1 rfl kj (Qat 50 _ _ g3 50 _ _ r3_1 rfl kj kj (isz (n:=99) kj (by rw [Qab,Qab,Qab,Qab,Qab,Qab]; simp only [qS,cat,((Qac _ _).trans okt.gl),((Qac _ _).trans okt.kl),((Qac _ _).trans okt.pl)]; rfl)) (eqsz (n:=99) (by rw [Qab,Qab,Qab,Qab,Qab,Qab]; simp only [qS,cat,((Qac _ _).trans (qZ (n:=32)))]; rfl) (by rw [Qab,Qab,Qab,Qab,Qab,Qab]; simp only [qS,cat,((Qac _ _).trans okt.gl),((Qac _ _).trans okt.kl),((Qac _ _).trans okt.pl)]; rfl)) (Qbo _ (by intro a ha; simp only [List.mem_cons,List.not_mem_nil,or_false] at ha; rcases ha with rfl | rfl | rfl | rfl | rfl | rfl; exact (Qa7 _ rfl); exact (Qa7 _ rfl); exact (Qau _ _); exact (Qau _ _); exact (Qau _ _); exact (Qa7 _ rfl)))) fun W2 p2 r3_2=>?_
  refine sgN hK2 <| wp_seq_k fun K4 hK4=>sgC fun K5 hK5=>sg 1 kj <| Qaa (.int .i64 ((x%2:Nat):Int)) 13 rfl kj (Qag (u:=.int .i64 (Int.tmod (((x:Nat):Int)) (2))) kj (congrArg (Value.int .i64) (Qbr _ 2))) <| Qaa (.bool false) 14 rfl kj (Qag (u:=.bool ((((x%2:Nat):Int)==0))) kj (congrArg Value.bool (beq_eq_false_iff_ne.2 (by omega)))) <| sgN hK5 <| cond_false kj <| wp_skip <| hK4 _ _ ?_
  refine wp_seq_k fun K6 hK6=>sgC fun K7 hK7=>sg 1 kj <| Qaa (.int .i64 nt.n.nm) 18 rfl kj (Qaf 3 _ g3 1 50 _ (.int .i64 nt.n.nm) _ r3_2 rfl kj (Qah [#[.bool nt.n.us]] [#[.int .i64 nt.n.nm]] [ints .u8 (nt.n.key),ints .u8 (nt.n.sg),ints .u8 (nt.n.pa),#[.slice nt.a nt.n.ms.length nt.c]] 1 kj 0 _ rfl) kj) <| Qaa (.bool true) 19 rfl kj (Qag (u:=.bool ((nt.n.nm != 0))) kj (congrArg Value.bool (bne_iff_ne.2 (ent▸h1)))) <| sg 6 kj <| sgN hK7 <| cond_true kj <| sgB kj <| wp_ret ?_
  repeat (first | with_reducible refine goR1 ?_ | with_reducible refine goR2 ?_)
  exact (show bodyPost _ _ _ .ret _ _ from ret1 (.bool false) rfl (Qar kj) ⟨congrArg (fun z=>Ending.returned (.bool z)) (Qgv h h1).symm,(Puts.ext p2 (Ext.tr (Rely.Ext.refl w) e1) (qT (Rely.Ext.refl w).size l3))⟩)
set_option maxRecDepth 100000 in
theorem QjZ (ts : List NdV) (a_t:Option Addr) (c_t B1:Nat) (w:World) (ht:TrAt B1 w a_t ts) (L:Nat) (hL:leaves ((ts.length:Nat):Int)=((L:Nat):Int)) (hlen:ts.length+1=2*L) (hTr:QaF ((L:Nat):Int)=true) (hmt:∀ i,i<ts.length→(ndi ts i).n.ms.length≤1000000) (x:Nat) (hx:x<ts.length) (hT:TabAt w) (h:x%2≠0) (h1:(ndi ts x).n.nm=0) (h2:(ndi ts x).n.sg≠List.replicate 32 0):Calls Tryd.prog 47 #[.slice a_t ts.length c_t,.int .i64 ((x:Nat):Int)] w (Ret w (.bool (QbC ts ((L:Nat):Int) x))):=by
  have hxn:Qa4 ((x:Nat):Int) ((L:Nat):Int)=true:=QaK hTr (by omega)
  refine enter 54 [(0,.slice a_t ts.length c_t),(1,.int .i64 ((x:Nat):Int))] Tryd.func47 rfl rfl kj rfl <| sgB kj <| sgC fun K2 hK2=>sg 2 kj ?_
  obtain ⟨gtT,otT,hat,hnts⟩:=TrAt.ext ht (Rely.Ext.refl w)
  have hnt:=hnts x (by omega)
  obtain ⟨nt,ent⟩:∃ z,z=ndi ts x:=⟨_,rfl⟩
  rw [←ent] at hnt
  have okt:=hnt.ok
  have rdt:=hnt.rd
  refine Qaa (.pointer (some ⟨gtT,otT+x*99,none⟩)) 10 rfl kj (Qan 23 _ _ .i64 x gtT otT ts.length c_t 50 99 a_t (hat (by omega)) rfl kj kj kj kj (by omega)) <| Qaa (.agg (cat [#[.bool nt.n.us],#[.int .i64 nt.n.nm],ints .u8 (nt.n.key),ints .u8 (nt.n.sg),ints .u8 (nt.n.pa),#[.slice nt.a nt.n.ms.length nt.c]])) 11 rfl kj (QaI 50 _ gtT (otT+x*99) nt hnt rfl kj kj kj) <| Qal (cat [#[.bool false],#[.int .i64 0],ints .u8 (List.replicate 32 0),ints .u8 (List.replicate 32 0),ints .u8 (List.replicate 32 0),#[.slice none 0 0]]) 50 5 rfl kj kj fun g3 W1 l3 e1 r3_1=>Qav g3 _ (cat [#[.bool nt.n.us],#[.int .i64 nt.n.nm],ints .u8 (nt.n.key),ints .u8 (nt.n.sg),ints .u8 (nt.n.pa),#[.slice nt.a nt.n.ms.length nt.c]]) 50 r3_1 rfl kj (Qat 50 _ _ g3 50 _ _ r3_1 rfl kj kj (isz (n:=99) kj (by rw [Qab,Qab,Qab,Qab,Qab,Qab]; simp only [qS,cat,((Qac _ _).trans okt.gl),((Qac _ _).trans okt.kl),((Qac _ _).trans okt.pl)]; rfl)) (eqsz (n:=99) (by rw [Qab,Qab,Qab,Qab,Qab,Qab]; simp only [qS,cat,((Qac _ _).trans (qZ (n:=32)))]; rfl) (by rw [Qab,Qab,Qab,Qab,Qab,Qab]; simp only [qS,cat,((Qac _ _).trans okt.gl),((Qac _ _).trans okt.kl),((Qac _ _).trans okt.pl)]; rfl)) (Qbo _ (by intro a ha; simp only [List.mem_cons,List.not_mem_nil,or_false] at ha; rcases ha with rfl | rfl | rfl | rfl | rfl | rfl; exact (Qa7 _ rfl); exact (Qa7 _ rfl); exact (Qau _ _); exact (Qau _ _); exact (Qau _ _); exact (Qa7 _ rfl)))) fun W2 p2 r3_2=>?_
  refine sgN hK2 <| wp_seq_k fun K4 hK4=>sgC fun K5 hK5=>sg 1 kj <| Qaa (.int .i64 ((x%2:Nat):Int)) 13 rfl kj (Qag (u:=.int .i64 (Int.tmod (((x:Nat):Int)) (2))) kj (congrArg (Value.int .i64) (Qbr _ 2))) <| Qaa (.bool false) 14 rfl kj (Qag (u:=.bool ((((x%2:Nat):Int)==0))) kj (congrArg Value.bool (beq_eq_false_iff_ne.2 (by omega)))) <| sgN hK5 <| cond_false kj <| wp_skip <| hK4 _ _ ?_
  refine wp_seq_k fun K6 hK6=>sgC fun K7 hK7=>sg 1 kj <| Qaa (.int .i64 nt.n.nm) 18 rfl kj (Qaf 3 _ g3 1 50 _ (.int .i64 nt.n.nm) _ r3_2 rfl kj (Qah [#[.bool nt.n.us]] [#[.int .i64 nt.n.nm]] [ints .u8 (nt.n.key),ints .u8 (nt.n.sg),ints .u8 (nt.n.pa),#[.slice nt.a nt.n.ms.length nt.c]] 1 kj 0 _ rfl) kj) <| Qaa (.bool false) 19 rfl kj (Qag (u:=.bool ((nt.n.nm != 0))) kj (congrArg Value.bool (bne_eq_false_iff_eq.2 (ent▸h1)))) <| sg 2 kj <| Qaa (.agg (ints .u8 (nt.n.sg))) 22 rfl kj (Qao 48 _ g3 34 50 _ _ _ r3_2 rfl kj (Qah [#[.bool nt.n.us],#[.int .i64 nt.n.nm],ints .u8 (nt.n.key)] [ints .u8 (nt.n.sg)] [ints .u8 (nt.n.pa),#[.slice nt.a nt.n.ms.length nt.c]] 34 (by rw [Qab,Qab,Qab]; simp only [qS,cat,((Qac _ _).trans okt.kl)]; rfl)) kj (isz (n:=32) kj ((Qac _ _).trans okt.gl))) ?_
  refine sg 1 kj <| Qaa (.bool true) 24 rfl kj (QaH 48 _ _ _ _ _ (.bool true) rfl kj kj kj (QaW 48 (e:=5) (k:=.u8) (nt.n.sg) (List.replicate 32 0) (decide_eq_false (ent▸h2)) okt.gl (qZ (n:=32)) kj kj kj _)) <| sg 1 kj <| sgN hK7 <| cond_true kj <| sgB kj <| wp_ret ?_
  repeat (first | with_reducible refine goR1 ?_ | with_reducible refine goR2 ?_)
  exact (show bodyPost _ _ _ .ret _ _ from ret1 (.bool false) rfl (Qar kj) ⟨congrArg (fun z=>Ending.returned (.bool z)) (Qgu h h2).symm,(Puts.ext p2 (Ext.tr (Rely.Ext.refl w) e1) (qT (Rely.Ext.refl w).size l3))⟩)
set_option maxRecDepth 100000 in
theorem QjY (ts : List NdV) (a_t:Option Addr) (c_t B1:Nat) (w:World) (ht:TrAt B1 w a_t ts) (L:Nat) (hL:leaves ((ts.length:Nat):Int)=((L:Nat):Int)) (hlen:ts.length+1=2*L) (hTr:QaF ((L:Nat):Int)=true) (hmt:∀ i,i<ts.length→(ndi ts i).n.ms.length≤1000000) (x:Nat) (hx:x<ts.length) (hT:TabAt w) (h:x%2≠0) (h1:(ndi ts x).n.nm=0) (h2:(ndi ts x).n.sg=List.replicate 32 0):Calls Tryd.prog 47 #[.slice a_t ts.length c_t,.int .i64 ((x:Nat):Int)] w (Ret w (.bool (QbC ts ((L:Nat):Int) x))):=by
 have hxn:Qa4 ((x:Nat):Int) ((L:Nat):Int)=true:=QaK hTr (by omega)
 refine enter 54 [(0,.slice a_t ts.length c_t),(1,.int .i64 ((x:Nat):Int))] Tryd.func47 rfl rfl kj rfl <| sgB kj <| sgC fun K2 hK2=>sg 2 kj ?_
 obtain ⟨gtT,otT,hat,hnts⟩:=TrAt.ext ht (Rely.Ext.refl w)
 have hnt:=hnts x (by omega)
 obtain ⟨nt,ent⟩:∃ z,z=ndi ts x:=⟨_,rfl⟩
 rw [←ent] at hnt
 have okt:=hnt.ok
 have rdt:=hnt.rd
 refine Qaa (.pointer (some ⟨gtT,otT+x*99,none⟩)) 10 rfl kj (Qan 23 _ _ .i64 x gtT otT ts.length c_t 50 99 a_t (hat (by omega)) rfl kj kj kj kj (by omega)) <| Qaa (.agg (cat [#[.bool nt.n.us],#[.int .i64 nt.n.nm],ints .u8 (nt.n.key),ints .u8 (nt.n.sg),ints .u8 (nt.n.pa),#[.slice nt.a nt.n.ms.length nt.c]])) 11 rfl kj (QaI 50 _ gtT (otT+x*99) nt hnt rfl kj kj kj) <| Qal (cat [#[.bool false],#[.int .i64 0],ints .u8 (List.replicate 32 0),ints .u8 (List.replicate 32 0),ints .u8 (List.replicate 32 0),#[.slice none 0 0]]) 50 5 rfl kj kj fun g3 W1 l3 e1 r3_1=>Qav g3 _ (cat [#[.bool nt.n.us],#[.int .i64 nt.n.nm],ints .u8 (nt.n.key),ints .u8 (nt.n.sg),ints .u8 (nt.n.pa),#[.slice nt.a nt.n.ms.length nt.c]]) 50 r3_1 rfl kj (Qat 50 _ _ g3 50 _ _ r3_1 rfl kj kj (isz (n:=99) kj (by rw [Qab,Qab,Qab,Qab,Qab,Qab]; simp only [qS,cat,((Qac _ _).trans okt.gl),((Qac _ _).trans okt.kl),((Qac _ _).trans okt.pl)]; rfl)) (eqsz (n:=99) (by rw [Qab,Qab,Qab,Qab,Qab,Qab]; simp only [qS,cat,((Qac _ _).trans (qZ (n:=32)))]; rfl) (by rw [Qab,Qab,Qab,Qab,Qab,Qab]; simp only [qS,cat,((Qac _ _).trans okt.gl),((Qac _ _).trans okt.kl),((Qac _ _).trans okt.pl)]; rfl)) (Qbo _ (by intro a ha; simp only [List.mem_cons,List.not_mem_nil,or_false] at ha; rcases ha with rfl | rfl | rfl | rfl | rfl | rfl; exact (Qa7 _ rfl); exact (Qa7 _ rfl); exact (Qau _ _); exact (Qau _ _); exact (Qau _ _); exact (Qa7 _ rfl)))) fun W2 p2 r3_2=>?_
 refine sgN hK2 <| wp_seq_k fun K4 hK4=>sgC fun K5 hK5=>sg 1 kj <| Qaa (.int .i64 ((x%2:Nat):Int)) 13 rfl kj (Qag (u:=.int .i64 (Int.tmod (((x:Nat):Int)) (2))) kj (congrArg (Value.int .i64) (Qbr _ 2))) <| Qaa (.bool false) 14 rfl kj (Qag (u:=.bool ((((x%2:Nat):Int)==0))) kj (congrArg Value.bool (beq_eq_false_iff_ne.2 (by omega)))) <| sgN hK5 <| cond_false kj <| wp_skip <| hK4 _ _ ?_
 refine wp_seq_k fun K6 hK6=>sgC fun K7 hK7=>sg 1 kj <| Qaa (.int .i64 nt.n.nm) 18 rfl kj (Qaf 3 _ g3 1 50 _ (.int .i64 nt.n.nm) _ r3_2 rfl kj (Qah [#[.bool nt.n.us]] [#[.int .i64 nt.n.nm]] [ints .u8 (nt.n.key),ints .u8 (nt.n.sg),ints .u8 (nt.n.pa),#[.slice nt.a nt.n.ms.length nt.c]] 1 kj 0 _ rfl) kj) <| Qaa (.bool false) 19 rfl kj (Qag (u:=.bool ((nt.n.nm != 0))) kj (congrArg Value.bool (bne_eq_false_iff_eq.2 (ent▸h1)))) <| sg 2 kj <| Qaa (.agg (ints .u8 (nt.n.sg))) 22 rfl kj (Qao 48 _ g3 34 50 _ _ _ r3_2 rfl kj (Qah [#[.bool nt.n.us],#[.int .i64 nt.n.nm],ints .u8 (nt.n.key)] [ints .u8 (nt.n.sg)] [ints .u8 (nt.n.pa),#[.slice nt.a nt.n.ms.length nt.c]] 34 (by rw [Qab,Qab,Qab]; simp only [qS,cat,((Qac _ _).trans okt.kl)]; rfl)) kj (isz (n:=32) kj ((Qac _ _).trans okt.gl))) ?_
 refine sg 1 kj <| Qaa (.bool false) 24 rfl kj (QaH 48 _ _ _ _ _ (.bool false) rfl kj kj kj (QaW 48 (e:=5) (k:=.u8) (nt.n.sg) (List.replicate 32 0) (decide_eq_true (ent▸h2)) okt.gl (qZ (n:=32)) kj kj kj _)) <| sg 1 kj <| sgN hK7 <| cond_false kj <| wp_skip <| hK6 _ _ <| wp_seq_k fun K8 hK8=>sgC fun K9 hK9=>sg 1 kj ?_
 refine Qaa (.slice nt.a nt.n.ms.length nt.c) 27 rfl kj (Qaf 24 _ g3 98 50 _ (.slice nt.a nt.n.ms.length nt.c) _ r3_2 rfl kj (Qah [#[.bool nt.n.us],#[.int .i64 nt.n.nm],ints .u8 (nt.n.key),ints .u8 (nt.n.sg),ints .u8 (nt.n.pa)] [#[.slice nt.a nt.n.ms.length nt.c]] [] 98 (by rw [Qab,Qab,Qab,Qab,Qab]; simp only [qS,cat,((Qac _ _).trans okt.gl),((Qac _ _).trans okt.kl),((Qac _ _).trans okt.pl)]; rfl) 0 _ rfl) kj) ?_
 refine sg 2 kj <| sgN hK9 <| wp_block ?_
 have hml:nt.n.ms.length≤1000000:=ent▸hmt x hx
 refine Qay (fun (s1:Nat)=>[(0,.slice a_t ts.length c_t),(1,.int .i64 ((x:Nat):Int)),(5,.pointer (some ⟨g3,0,none⟩)),(27,.slice nt.a nt.n.ms.length nt.c),(28,.int .i64 ((nt.n.ms.length:Nat):Int)),(29,.int .i64 ((s1:Nat):Int))]) (fun (s1:Nat) W=>(s1≤nt.n.ms.length)∧(∀ j,j<s1→msOk ts ((L:Nat):Int) ((x:Nat):Int) nt.n.ms j=true)∧(Ext W2 W)∧(Ext w W)) (fun (s1:Nat)=>nt.n.ms.length-s1) 0 ⟨kj,kj,kj,kj,kj,kj,trivial⟩ ⟨(Nat.zero_le _),(fun j hj=>absurd hj (Nat.not_lt_zero j)),(Rely.Ext.refl W2),(Puts.ext p2 (Ext.tr (Rely.Ext.refl w) e1) (qT (Rely.Ext.refl w).size l3))⟩ fun s1 X1 V1 hI1=>?_
 obtain ⟨k,hs1⟩:∃ z,z=s1:=⟨_,rfl⟩
 subst hs1
 obtain ⟨hk,hall,kk1,xx1⟩:=hI1
 replace hk:k≤nt.n.ms.length:=hk
 replace hall:∀ j,j<k→msOk ts ((L:Nat):Int) ((x:Nat):Int) nt.n.ms j=true:=hall
 replace kk1:Ext W2 V1:=kk1
 replace xx1:Ext w V1:=xx1
 have e3:=kk1
 refine sgB kj <| wp_seq_k fun K11 hK11=>Qaq (t:=decide (((k:Nat):Int)<((nt.n.ms.length:Nat):Int))) kj (fun c12=>?_) (fun c12=>?_)
 ·skip
  have hlt30:k<nt.n.ms.length:=by have:=of_decide_eq_true c12; omega
  have hnx_13:(nt.n.ms).length=nt.n.ms.length:=rfl
  obtain ⟨gcx_13,ocx_13,hax_13,hlx_13,hcx_13⟩:=QaO (RdK.here (RdK.ext rdt (Rely.Ext.trans (Puts.ext p2 (Rely.Ext.trans (Rely.Ext.refl w) e1) l3) e3))) (by rw [hnx_13]; omega)
  refine wp_skip <| hK11 _ _ <| wp_seq_k fun K14 hK14=>wp_block <| sgC fun K15 hK15=>sg 1 kj <| Qaa (.pointer (some ⟨gcx_13,ocx_13+k,none⟩)) 32 rfl kj (Qa1 24 _ _ .i64 k gcx_13 ocx_13 nt.n.ms.length nt.c 3 nt.a _ hax_13 rfl rfl kj kj kj kj (Nat.lt_of_lt_of_eq (show k<nt.n.ms.length by omega) hnx_13.symm)) <| Qaa (.int .i64 (nth (nt.n.ms) (k))) 33 rfl kj (Qai 3 _ _ (.int .i64 (nth (nt.n.ms) (k))) (hcx_13 k (Nat.lt_of_lt_of_eq (show k<nt.n.ms.length by omega) hnx_13.symm)) rfl kj kj) <| sg 2 kj <| sgN hK15 ?_
  refine wp_seq_k fun K16 hK16=>?_
  rcases (show k=0∨(0<k∧nth nt.n.ms k≤nth nt.n.ms (k-1))∨(0<k∧nth nt.n.ms (k-1)<nth nt.n.ms k) by omega) with hq | hq | hq
  ·skip
   have hb0:msOk ts ((L:Nat):Int) ((x:Nat):Int) nt.n.ms k=Qbq ts ((L:Nat):Int) ((x:Nat):Int) (nth nt.n.ms k):=by unfold msOk; rw [hq]; rfl
   refine Qad <| sg 1 kj <| Qaa (.bool false) 35 rfl kj (Qag (u:=.bool (decide (((k:Nat):Int)>0))) kj (congrArg Value.bool (decide_eq_false (by omega)))) <| sg 14 kj <| Qak (.bool (Qbq ts ((L:Nat):Int) ((x:Nat):Int) (nth nt.n.ms k))) 65 #[.slice a_t ts.length c_t,.int .i64 ((x:Nat):Int),.int .i64 (nth (nt.n.ms) (k))] 50 rfl kj kj (Ql8 ts a_t c_t _ _ (TrAt.ext ht xx1) L hL hlen hTr hmt _ hxn (TabAt.ext hT xx1) _) fun W4 e4=>?_
   have x4:=Ext.tr xx1 e4
   refine sg 2 kj <| sgN hK16 <| Qaq (t:=!(Qbq ts ((L:Nat):Int) ((x:Nat):Int) (nth nt.n.ms k))) kj (fun c17=>?_) (fun c17=>?_)
   ·skip
    have hb:msOk ts ((L:Nat):Int) ((x:Nat):Int) nt.n.ms k=false:=by rw [hb0]; simpa using c17
    refine sgB kj <| wp_ret ?_
    repeat (first | with_reducible refine goR1 ?_ | with_reducible refine goR2 ?_)
    exact (show bodyPost _ _ _ .ret _ _ from ret1 (.bool false) rfl (Qar kj) ⟨congrArg (fun z=>Ending.returned (.bool z)) ((Qbu h h1 h2).trans (QcU (k:=k) (by rw [←ent]; exact hlt30) (by rw [←ent]; exact hb))).symm,x4⟩)
   ·skip
    have hb:msOk ts ((L:Nat):Int) ((x:Nat):Int) nt.n.ms k=true:=by rw [hb0]; simpa using c17
    refine wp_skip <| hK14 _ _ <| Qad <| Qaa (.int .i64 ((k+1:Nat):Int)) 53 rfl kj (Qag (u:=.int .i64 (IntKind.i64.wrap (((k:Nat):Int)+1))) kj (congrArg (Value.int .i64) (i64n _ _ (by omega) (by omega)))) <| sg 1 kj <| Qaj ?_
    have y2_4:=(Rely.Ext.trans e3 e4)
    repeat (first | with_reducible refine goX1 ?_ | with_reducible refine goX2 ?_ | with_reducible refine goX3 ?_)
    exact Qap (k+1) ⟨kj,kj,kj,kj,kj,kj,trivial⟩ ⟨(by omega),(fun j hj=>by by_cases e:j=k; (rw [e]; exact hb); exact hall j (by omega)),y2_4,x4⟩ (by show nt.n.ms.length-(k+1)<nt.n.ms.length-k; omega)
  ·skip
   have hb:msOk ts ((L:Nat):Int) ((x:Nat):Int) nt.n.ms k=false:=by unfold msOk; rw [beq_eq_false_iff_ne.2 (by omega),decide_eq_false (by omega)]; rfl
   refine Qad <| sg 1 kj <| Qaa (.bool true) 35 rfl kj (Qag (u:=.bool (decide (((k:Nat):Int)>0))) kj (congrArg Value.bool (decide_eq_true (by omega)))) <| sg 2 kj ?_
   have r3_3:=(Qae r3_2 e3)
   refine Qaa (.slice nt.a nt.n.ms.length nt.c) 38 rfl kj (Qaf 24 _ g3 98 50 _ (.slice nt.a nt.n.ms.length nt.c) _ r3_3 rfl kj (Qah [#[.bool nt.n.us],#[.int .i64 nt.n.nm],ints .u8 (nt.n.key),ints .u8 (nt.n.sg),ints .u8 (nt.n.pa)] [#[.slice nt.a nt.n.ms.length nt.c]] [] 98 (by rw [Qab,Qab,Qab,Qab,Qab]; simp only [qS,cat,((Qac _ _).trans okt.gl),((Qac _ _).trans okt.kl),((Qac _ _).trans okt.pl)]; rfl) 0 _ rfl) kj) ?_
   refine sg 1 kj <| Qaa (.int .i64 ((k-1:Nat):Int)) 40 rfl kj (Qag (u:=.int .i64 (IntKind.i64.wrap (((k:Nat):Int)-1))) kj (congrArg (Value.int .i64) (i64n _ _ (by omega) (by omega)))) <| Qaa (.pointer (some ⟨gcx_13,ocx_13+(k-1),none⟩)) 41 rfl kj (Qa1 24 _ _ .i64 (k-1) gcx_13 ocx_13 nt.n.ms.length nt.c 3 nt.a _ hax_13 rfl rfl kj kj kj kj (Nat.lt_of_lt_of_eq (show k-1<nt.n.ms.length by omega) hnx_13.symm)) <| Qaa (.int .i64 (nth (nt.n.ms) ((k-1)))) 42 rfl kj (Qai 3 _ _ (.int .i64 (nth (nt.n.ms) ((k-1)))) (hcx_13 (k-1) (Nat.lt_of_lt_of_eq (show k-1<nt.n.ms.length by omega) hnx_13.symm)) rfl kj kj) <| sg 1 kj <| Qaa (.bool true) 44 rfl kj (Qag (u:=.bool (decide ((nth (nt.n.ms) ((k-1)))≥(nth (nt.n.ms) (k))))) kj (congrArg Value.bool (decide_eq_true (by omega)))) <| sg 8 kj <| sgN hK16 <| cond_true kj <| sgB kj ?_
   refine wp_ret ?_
   repeat (first | with_reducible refine goR1 ?_ | with_reducible refine goR2 ?_)
   exact (show bodyPost _ _ _ .ret _ _ from ret1 (.bool false) rfl (Qar kj) ⟨congrArg (fun z=>Ending.returned (.bool z)) ((Qbu h h1 h2).trans (QcU (k:=k) (by rw [←ent]; exact hlt30) (by rw [←ent]; exact hb))).symm,xx1⟩)
  ·skip
   have hb0:msOk ts ((L:Nat):Int) ((x:Nat):Int) nt.n.ms k=Qbq ts ((L:Nat):Int) ((x:Nat):Int) (nth nt.n.ms k):=by unfold msOk; rw [decide_eq_true hq.2]; simp
   refine Qad <| sg 1 kj <| Qaa (.bool true) 35 rfl kj (Qag (u:=.bool (decide (((k:Nat):Int)>0))) kj (congrArg Value.bool (decide_eq_true (by omega)))) <| sg 2 kj ?_
   have r3_3:=(Qae r3_2 e3)
   refine Qaa (.slice nt.a nt.n.ms.length nt.c) 38 rfl kj (Qaf 24 _ g3 98 50 _ (.slice nt.a nt.n.ms.length nt.c) _ r3_3 rfl kj (Qah [#[.bool nt.n.us],#[.int .i64 nt.n.nm],ints .u8 (nt.n.key),ints .u8 (nt.n.sg),ints .u8 (nt.n.pa)] [#[.slice nt.a nt.n.ms.length nt.c]] [] 98 (by rw [Qab,Qab,Qab,Qab,Qab]; simp only [qS,cat,((Qac _ _).trans okt.gl),((Qac _ _).trans okt.kl),((Qac _ _).trans okt.pl)]; rfl) 0 _ rfl) kj) ?_
   refine sg 1 kj <| Qaa (.int .i64 ((k-1:Nat):Int)) 40 rfl kj (Qag (u:=.int .i64 (IntKind.i64.wrap (((k:Nat):Int)-1))) kj (congrArg (Value.int .i64) (i64n _ _ (by omega) (by omega)))) <| Qaa (.pointer (some ⟨gcx_13,ocx_13+(k-1),none⟩)) 41 rfl kj (Qa1 24 _ _ .i64 (k-1) gcx_13 ocx_13 nt.n.ms.length nt.c 3 nt.a _ hax_13 rfl rfl kj kj kj kj (Nat.lt_of_lt_of_eq (show k-1<nt.n.ms.length by omega) hnx_13.symm)) <| Qaa (.int .i64 (nth (nt.n.ms) ((k-1)))) 42 rfl kj (Qai 3 _ _ (.int .i64 (nth (nt.n.ms) ((k-1)))) (hcx_13 (k-1) (Nat.lt_of_lt_of_eq (show k-1<nt.n.ms.length by omega) hnx_13.symm)) rfl kj kj) <| sg 1 kj <| Qaa (.bool false) 44 rfl kj (Qag (u:=.bool (decide ((nth (nt.n.ms) ((k-1)))≥(nth (nt.n.ms) (k))))) kj (congrArg Value.bool (decide_eq_false (by omega)))) <| sg 5 kj <| Qak (.bool (Qbq ts ((L:Nat):Int) ((x:Nat):Int) (nth nt.n.ms k))) 65 #[.slice a_t ts.length c_t,.int .i64 ((x:Nat):Int),.int .i64 (nth (nt.n.ms) (k))] 50 rfl kj kj (Ql8 ts a_t c_t _ _ (TrAt.ext ht xx1) L hL hlen hTr hmt _ hxn (TabAt.ext hT xx1) _) fun W4 e4=>?_
   have x4:=Ext.tr xx1 e4
   refine sg 2 kj <| sgN hK16 <| Qaq (t:=!(Qbq ts ((L:Nat):Int) ((x:Nat):Int) (nth nt.n.ms k))) kj (fun c20=>?_) (fun c20=>?_)
   ·skip
    have hb:msOk ts ((L:Nat):Int) ((x:Nat):Int) nt.n.ms k=false:=by rw [hb0]; simpa using c20
    refine sgB kj <| wp_ret ?_
    repeat (first | with_reducible refine goR1 ?_ | with_reducible refine goR2 ?_)
    exact (show bodyPost _ _ _ .ret _ _ from ret1 (.bool false) rfl (Qar kj) ⟨congrArg (fun z=>Ending.returned (.bool z)) ((Qbu h h1 h2).trans (QcU (k:=k) (by rw [←ent]; exact hlt30) (by rw [←ent]; exact hb))).symm,x4⟩)
   ·skip
    have hb:msOk ts ((L:Nat):Int) ((x:Nat):Int) nt.n.ms k=true:=by rw [hb0]; simpa using c20
    refine wp_skip <| hK14 _ _ <| Qad <| Qaa (.int .i64 ((k+1:Nat):Int)) 53 rfl kj (Qag (u:=.int .i64 (IntKind.i64.wrap (((k:Nat):Int)+1))) kj (congrArg (Value.int .i64) (i64n _ _ (by omega) (by omega)))) <| sg 1 kj <| Qaj ?_
    have y2_4:=(Rely.Ext.trans e3 e4)
    repeat (first | with_reducible refine goX1 ?_ | with_reducible refine goX2 ?_ | with_reducible refine goX3 ?_)
    exact Qap (k+1) ⟨kj,kj,kj,kj,kj,kj,trivial⟩ ⟨(by omega),(fun j hj=>by by_cases e:j=k; (rw [e]; exact hb); exact hall j (by omega)),y2_4,x4⟩ (by show nt.n.ms.length-(k+1)<nt.n.ms.length-k; omega)
 ·skip
  have heq30:k=nt.n.ms.length:=by have:=of_decide_eq_false c12; omega
  refine wp_exit <| hK8 _ _ <| sgB kj <| wp_ret ?_
  repeat (first | with_reducible refine goR1 ?_ | with_reducible refine goR2 ?_)
  exact (show bodyPost _ _ _ .ret _ _ from ret1 (.bool true) rfl (Qar kj) ⟨congrArg (fun z=>Ending.returned (.bool z)) ((Qbu h h1 h2).trans (Qg8 (by rw [←ent,←heq30]; exact hall))).symm,xx1⟩)
theorem Qm5 (ts : List NdV) (a_t:Option Addr) (c_t B1:Nat) (w:World) (ht:TrAt B1 w a_t ts) (L:Nat) (hL:leaves ((ts.length:Nat):Int)=((L:Nat):Int)) (hlen:ts.length+1=2*L) (hTr:QaF ((L:Nat):Int)=true) (hmt:∀ i,i<ts.length→(ndi ts i).n.ms.length≤1000000) (x:Nat) (hx:x<ts.length) (hT:TabAt w):Calls Tryd.prog 47 #[.slice a_t ts.length c_t,.int .i64 ((x:Nat):Int)] w (Ret w (.bool (QbC ts ((L:Nat):Int) x))):=by
  by_cases h:x%2=0
  · exact Qka ts a_t c_t B1 w ht L hL hlen hTr hmt x hx hT h
  by_cases h1:(ndi ts x).n.nm=0
  · by_cases h2:(ndi ts x).n.sg=List.replicate 32 0
    · exact QjY ts a_t c_t B1 w ht L hL hlen hTr hmt x hx hT h h1 h2
    · exact QjZ ts a_t c_t B1 w ht L hL hlen hTr hmt x hx hT h h1 h2
  · exact QjX ts a_t c_t B1 w ht L hL hlen hTr hmt x hx hT h h1
end Go.Proofs.YthfkppjajmjpnaaDoor.Te
end
section
namespace Go.Proofs.YthfkppjajmjpnaaDoor.Te
open Go Go.RowKit
open Rely Auto Own Seat Sha
def zn : NdV:=⟨⟨false,0,List.replicate 32 0,List.replicate 32 0,List.replicate 32 0,[]⟩,none,0⟩
theorem zb : Qax (List.replicate 32 0):=fun x hx=>by have:=List.eq_of_mem_replicate hx; omega
theorem Qe8 : NdOk zn.n:=⟨rfl,rfl,rfl,zb,zb,zb⟩
theorem QeK (B : Nat) (W:World):RdK .i64 B [] (.slice none 0 0) W:=⟨none,0,rfl,qR _,by decide,fun _=>rfl,.inl rfl⟩
def Qbh (ts : List NdV) (n:Int) (x:Nat):Bool:=if (ndi ts x).n.us=true then QbC ts n x else QcR (ndi ts x).n zn.n
def lvs (ts : List NdV):Nat:=(leaves ((ts.length:Nat):Int)).toNat
def chkT (ts : List NdV):Bool:=decide (lvs ts≠0)&&Qcg ts&&anyU ts (lvs ts/2)&&(List.range ts.length).all (Qbh ts ((lvs ts:Nat):Int))
theorem Qcj {ts : List NdV} {L:Nat} (hL:leaves ((ts.length:Nat):Int)=((L:Nat):Int)):lvs ts=L:=by unfold lvs; rw [hL]; rfl
theorem chk0 {ts : List NdV} {L:Nat} (e:lvs ts=L) (h:L=0):chkT ts=false:=by unfold chkT; rw [e,h]; rfl
theorem chk1 {ts : List NdV} (h:Qcg ts=false):chkT ts=false:=by unfold chkT; rw [h]; simp
theorem chk2 {ts : List NdV} {L:Nat} (e:lvs ts=L) (h:anyU ts (L/2)=false):chkT ts=false:=by unfold chkT; rw [e,h]; simp
theorem chk3 {ts : List NdV} {L:Nat} (e:lvs ts=L) (h0:L≠0) (h1:Qcg ts=true) (h2:anyU ts (L/2)=true):chkT ts=(List.range ts.length).all (Qbh ts ((L:Nat):Int)):=by unfold chkT; rw [e,h1,h2,decide_eq_true h0]; rfl
theorem QlM (b u:Bool) (nd:NdV) (hok:NdOk nd.n) (B1:Nat) (w:World) (hm1:nd.n.ms.length≤1000000) (hr1:RdK .i64 B1 nd.n.ms (.slice nd.a nd.n.ms.length nd.c) w) (hu:nd.n.us=u) (h:QcR nd.n zn.n=b):Calls Tryd.prog 46 #[.agg (cat [#[.bool u],#[.int .i64 nd.n.nm],ints .u8 (nd.n.key),ints .u8 (nd.n.sg),ints .u8 (nd.n.pa),#[.slice nd.a nd.n.ms.length nd.c]]),.agg (cat [#[.bool false],#[.int .i64 0],ints .u8 (List.replicate 32 0),ints .u8 (List.replicate 32 0),ints .u8 (List.replicate 32 0),#[.slice none 0 0]])] w (Ret w (.bool b)):=by
  subst hu
  exact h▸QlO nd zn hok Qe8 B1 0 w hm1 (Nat.zero_le _) hr1 (QeK 0 w)
set_option maxRecDepth 100000 in
theorem Qls (ts : List NdV) (a_t:Option Addr) (c_t B1:Nat) (w:World) (ht:TrAt B1 w a_t ts) (htl:ts.length≤100000) (hmt:∀ i,i<ts.length→(ndi ts i).n.ms.length≤1000000) (hT:TabAt w) (L:Nat) (hL:leaves ((ts.length:Nat):Int)=((L:Nat):Int)) (hL2:2*L≤ts.length+1) (hL4:L≠0→ts.length+1=2*L∧QaF ((L:Nat):Int)=true) (h0:L=0):Calls Tryd.prog 26 #[.slice a_t ts.length c_t] w (Ret w (if chkT ts=true then .nilIface else .iface 68 (.int .i64 3))):=by
  refine enter 48 [(0,.slice a_t ts.length c_t)] Tryd.func26 rfl rfl kj rfl <| sgB kj <| wp_seq_k fun K2 hK2=>sgC fun K3 hK3=>sg 2 kj <| Qak (.int .i64 ((L:Nat):Int)) 29 #[.int .i64 ((ts.length:Nat):Int)] 7 rfl kj kj (Qce ((ts.length:Nat):Int) ⟨by omega,by omega⟩ _ hL _) fun W1 e1=>Qaa (.bool true) 8 rfl kj (Qag (u:=.bool ((((L:Nat):Int)==0))) kj (congrArg Value.bool (beq_iff_eq.2 (by omega)))) <| sg 10 kj <| sgN hK3 <| cond_true kj ?_
  refine sgB kj <| wp_ret ?_
  repeat (first | with_reducible refine goR1 ?_ | with_reducible refine goR2 ?_)
  exact (show bodyPost _ _ _ .ret _ _ from ret1 (.iface 68 (.int .i64 3)) rfl (Qar kj) ⟨by rw [chk0 (Qcj hL) h0]; rfl,(Ext.tr (Rely.Ext.refl w) e1)⟩)
set_option maxRecDepth 100000 in
theorem Qlr (ts : List NdV) (a_t:Option Addr) (c_t B1:Nat) (w:World) (ht:TrAt B1 w a_t ts) (htl:ts.length≤100000) (hmt:∀ i,i<ts.length→(ndi ts i).n.ms.length≤1000000) (hT:TabAt w) (L:Nat) (hL:leaves ((ts.length:Nat):Int)=((L:Nat):Int)) (hL2:2*L≤ts.length+1) (hL4:L≠0→ts.length+1=2*L∧QaF ((L:Nat):Int)=true) (h0:L≠0) (h1:Qcg ts=false):Calls Tryd.prog 26 #[.slice a_t ts.length c_t] w (Ret w (if chkT ts=true then .nilIface else .iface 68 (.int .i64 3))):=by
  obtain ⟨hlen,hTr⟩:=hL4 h0
  refine enter 48 [(0,.slice a_t ts.length c_t)] Tryd.func26 rfl rfl kj rfl <| sgB kj <| wp_seq_k fun K2 hK2=>sgC fun K3 hK3=>sg 2 kj <| Qak (.int .i64 ((L:Nat):Int)) 29 #[.int .i64 ((ts.length:Nat):Int)] 7 rfl kj kj (Qce ((ts.length:Nat):Int) ⟨by omega,by omega⟩ _ hL _) fun W1 e1=>?_
  have x1:=Ext.tr (Rely.Ext.refl w) e1
  refine Qaa (.bool false) 8 rfl kj (Qag (u:=.bool ((((L:Nat):Int)==0))) kj (congrArg Value.bool (beq_eq_false_iff_ne.2 (by omega)))) <| sg 2 kj <| Qak (.bool false) 44 #[.slice a_t ts.length c_t] 11 rfl kj kj ((h1▸QhU ts a_t c_t _ _ (TrAt.here (TrAt.ext ht x1)) (qR _) htl)) fun W2 e2=>sg 7 kj <| sgN hK3 <| cond_true kj <| sgB kj <| wp_ret ?_
  repeat (first | with_reducible refine goR1 ?_ | with_reducible refine goR2 ?_)
  exact (show bodyPost _ _ _ .ret _ _ from ret1 (.iface 68 (.int .i64 3)) rfl (Qar kj) ⟨by rw [chk1 h1]; rfl,(Ext.tr x1 e2)⟩)
set_option maxRecDepth 100000 in
theorem Qlq (ts : List NdV) (a_t:Option Addr) (c_t B1:Nat) (w:World) (ht:TrAt B1 w a_t ts) (htl:ts.length≤100000) (hmt:∀ i,i<ts.length→(ndi ts i).n.ms.length≤1000000) (hT:TabAt w) (L:Nat) (hL:leaves ((ts.length:Nat):Int)=((L:Nat):Int)) (hL2:2*L≤ts.length+1) (hL4:L≠0→ts.length+1=2*L∧QaF ((L:Nat):Int)=true) (h0:L≠0) (h1:Qcg ts=true) (h2:anyU ts (L/2)=false):Calls Tryd.prog 26 #[.slice a_t ts.length c_t] w (Ret w (if chkT ts=true then .nilIface else .iface 68 (.int .i64 3))):=by
  obtain ⟨hlen,hTr⟩:=hL4 h0
  refine enter 48 [(0,.slice a_t ts.length c_t)] Tryd.func26 rfl rfl kj rfl <| sgB kj <| wp_seq_k fun K2 hK2=>sgC fun K3 hK3=>sg 2 kj <| Qak (.int .i64 ((L:Nat):Int)) 29 #[.int .i64 ((ts.length:Nat):Int)] 7 rfl kj kj (Qce ((ts.length:Nat):Int) ⟨by omega,by omega⟩ _ hL _) fun W1 e1=>?_
  have x1:=Ext.tr (Rely.Ext.refl w) e1
  refine Qaa (.bool false) 8 rfl kj (Qag (u:=.bool ((((L:Nat):Int)==0))) kj (congrArg Value.bool (beq_eq_false_iff_ne.2 (by omega)))) <| sg 2 kj <| Qak (.bool true) 44 #[.slice a_t ts.length c_t] 11 rfl kj kj ((h1▸QhU ts a_t c_t _ _ (TrAt.here (TrAt.ext ht x1)) (qR _) htl)) fun W2 e2=>?_
  have x2:=Ext.tr x1 e2
  refine sg 4 kj <| Qak (.bool false) 45 #[.slice a_t ts.length c_t] 16 rfl kj kj ((h2▸Qj6 ts a_t c_t _ _ (TrAt.ext ht x2) htl L hL (by omega))) fun W3 e3=>sg 2 kj <| sgN hK3 <| cond_true kj <| sgB kj <| wp_ret ?_
  repeat (first | with_reducible refine goR1 ?_ | with_reducible refine goR2 ?_)
  exact (show bodyPost _ _ _ .ret _ _ from ret1 (.iface 68 (.int .i64 3)) rfl (Qar kj) ⟨by rw [chk2 (Qcj hL) h2]; rfl,(Ext.tr x2 e3)⟩)
set_option maxRecDepth 100000 in
theorem Qlp (ts : List NdV) (a_t:Option Addr) (c_t B1:Nat) (w:World) (ht:TrAt B1 w a_t ts) (htl:ts.length≤100000) (hmt:∀ i,i<ts.length→(ndi ts i).n.ms.length≤1000000) (hT:TabAt w) (L:Nat) (hL:leaves ((ts.length:Nat):Int)=((L:Nat):Int)) (hL2:2*L≤ts.length+1) (hL4:L≠0→ts.length+1=2*L∧QaF ((L:Nat):Int)=true) (h0:L≠0) (h1:Qcg ts=true) (h2:anyU ts (L/2)=true):Calls Tryd.prog 26 #[.slice a_t ts.length c_t] w (Ret w (if chkT ts=true then .nilIface else .iface 68 (.int .i64 3))):=by
 obtain ⟨hlen,hTr⟩:=hL4 h0
 refine enter 48 [(0,.slice a_t ts.length c_t)] Tryd.func26 rfl rfl kj rfl <| sgB kj <| wp_seq_k fun K2 hK2=>sgC fun K3 hK3=>sg 2 kj <| Qak (.int .i64 ((L:Nat):Int)) 29 #[.int .i64 ((ts.length:Nat):Int)] 7 rfl kj kj (Qce ((ts.length:Nat):Int) ⟨by omega,by omega⟩ _ hL _) fun W1 e1=>?_
 have x1:=Ext.tr (Rely.Ext.refl w) e1
 refine Qaa (.bool false) 8 rfl kj (Qag (u:=.bool ((((L:Nat):Int)==0))) kj (congrArg Value.bool (beq_eq_false_iff_ne.2 (by omega)))) <| sg 2 kj <| Qak (.bool true) 44 #[.slice a_t ts.length c_t] 11 rfl kj kj ((h1▸QhU ts a_t c_t _ _ (TrAt.here (TrAt.ext ht x1)) (qR _) htl)) fun W2 e2=>?_
 have x2:=Ext.tr x1 e2
 refine sg 4 kj <| Qak (.bool true) 45 #[.slice a_t ts.length c_t] 16 rfl kj kj ((h2▸Qj6 ts a_t c_t _ _ (TrAt.ext ht x2) htl L hL (by omega))) fun W3 e3=>sg 2 kj <| sgN hK3 <| cond_false kj <| wp_skip <| hK2 _ _ <| wp_seq_k fun K4 hK4=>sgB kj <| wp_block ?_
 refine Qay (fun (s1:Nat)=>[(0,.slice a_t ts.length c_t),(20,.slice a_t ts.length c_t),(21,.int .i64 ((ts.length:Nat):Int)),(22,.int .i64 ((s1:Nat):Int))]) (fun (s1:Nat) W=>(s1≤ts.length)∧(∀ j,j<s1→Qbh ts ((L:Nat):Int) j=true)∧(Ext W3 W)∧(Ext w W)) (fun (s1:Nat)=>ts.length-s1) 0 ⟨kj,kj,kj,kj,trivial⟩ ⟨(Nat.zero_le _),(fun j hj=>absurd hj (Nat.not_lt_zero j)),(Rely.Ext.refl W3),(Ext.tr x2 e3)⟩ fun s1 X1 V1 hI1=>?_
 obtain ⟨x,hs1⟩:∃ z,z=s1:=⟨_,rfl⟩
 subst hs1
 obtain ⟨hx,hall,kk1,xx1⟩:=hI1
 replace hx:x≤ts.length:=hx
 replace hall:∀ j,j<x→Qbh ts ((L:Nat):Int) j=true:=hall
 replace kk1:Ext W3 V1:=kk1
 replace xx1:Ext w V1:=xx1
 have e4:=kk1
 refine sgB kj <| wp_seq_k fun K7 hK7=>Qaq (t:=decide (((x:Nat):Int)<((ts.length:Nat):Int))) kj (fun c8=>?_) (fun c8=>?_)
 ·skip
  have hlt23:x<ts.length:=by have:=of_decide_eq_true c8; omega
  refine wp_skip <| hK7 _ _ <| wp_seq_k fun K9 hK9=>wp_block <| sgC fun K10 hK10=>sg 1 kj ?_
  obtain ⟨gtT,otT,hat,hnts⟩:=TrAt.ext ht xx1
  have hnt:=hnts x (by omega)
  obtain ⟨nt,ent⟩:∃ z,z=ndi ts x:=⟨_,rfl⟩
  rw [←ent] at hnt
  have okt:=hnt.ok
  have rdt:=hnt.rd
  refine Qaa (.pointer (some ⟨gtT,otT+x*99,none⟩)) 25 rfl kj (Qan 23 _ _ .i64 x gtT otT ts.length c_t 50 99 a_t (hat (by omega)) rfl kj kj kj kj (by omega)) <| Qaa (.agg (cat [#[.bool nt.n.us],#[.int .i64 nt.n.nm],ints .u8 (nt.n.key),ints .u8 (nt.n.sg),ints .u8 (nt.n.pa),#[.slice nt.a nt.n.ms.length nt.c]])) 26 rfl kj (QaI 50 _ gtT (otT+x*99) nt hnt rfl kj kj kj) <| Qal (cat [#[.bool false],#[.int .i64 0],ints .u8 (List.replicate 32 0),ints .u8 (List.replicate 32 0),ints .u8 (List.replicate 32 0),#[.slice none 0 0]]) 50 4 rfl kj kj fun g11 W5 l11 e5 r11_5=>sg 1 kj <| Qav g11 _ (cat [#[.bool nt.n.us],#[.int .i64 nt.n.nm],ints .u8 (nt.n.key),ints .u8 (nt.n.sg),ints .u8 (nt.n.pa),#[.slice nt.a nt.n.ms.length nt.c]]) 50 r11_5 rfl kj (Qat 50 _ _ g11 50 _ _ r11_5 rfl kj kj (isz (n:=99) kj (by rw [Qab,Qab,Qab,Qab,Qab,Qab]; simp only [qS,cat,((Qac _ _).trans okt.gl),((Qac _ _).trans okt.kl),((Qac _ _).trans okt.pl)]; rfl)) (eqsz (n:=99) (by rw [Qab,Qab,Qab,Qab,Qab,Qab]; simp only [qS,cat,((Qac _ _).trans (qZ (n:=32)))]; rfl) (by rw [Qab,Qab,Qab,Qab,Qab,Qab]; simp only [qS,cat,((Qac _ _).trans okt.gl),((Qac _ _).trans okt.kl),((Qac _ _).trans okt.pl)]; rfl)) (Qbo _ (by intro a ha; simp only [List.mem_cons,List.not_mem_nil,or_false] at ha; rcases ha with rfl | rfl | rfl | rfl | rfl | rfl; exact (Qa7 _ rfl); exact (Qa7 _ rfl); exact (Qau _ _); exact (Qau _ _); exact (Qau _ _); exact (Qa7 _ rfl)))) fun W6 p6 r11_6=>?_
  have x6:=Puts.ext p6 (Ext.tr xx1 e5) (qT xx1.size l11)
  refine sgN hK10 <| wp_seq_k fun K12 hK12=>?_
  rcases (show nt.n.us=true∨(nt.n.us=false∧QcR nt.n zn.n=true)∨(nt.n.us=false∧QcR nt.n zn.n=false) from by cases nt.n.us; (cases QcR nt.n zn.n; exact .inr (.inr ⟨rfl,rfl⟩); exact .inr (.inl ⟨rfl,rfl⟩)); exact .inl rfl) with hq | hq | hq
  ·skip
   have ru11_6:W6.heap[g11]? = some (.cells (cat [#[.bool true],#[.int .i64 nt.n.nm],ints .u8 (nt.n.key),ints .u8 (nt.n.sg),ints .u8 (nt.n.pa),#[.slice nt.a nt.n.ms.length nt.c]]) 50):=by have h9:=r11_6; rw [hq] at h9; exact h9
   have hb0:Qbh ts ((L:Nat):Int) x=QbC ts ((L:Nat):Int) x:=by unfold Qbh; rw [←ent,if_pos hq]
   refine Qad <| sg 1 kj <| Qaa (.bool true) 28 rfl kj (Qaf 4 _ g11 0 50 _ (.bool true) _ ru11_6 rfl kj (Qah [] [#[.bool true]] [#[.int .i64 nt.n.nm],ints .u8 (nt.n.key),ints .u8 (nt.n.sg),ints .u8 (nt.n.pa),#[.slice nt.a nt.n.ms.length nt.c]] 0 kj 0 _ rfl) kj) <| sg 9 kj <| Qaa (.bool true) 38 rfl kj (Qaf 4 _ g11 0 50 _ (.bool true) _ ru11_6 rfl kj (Qah [] [#[.bool true]] [#[.int .i64 nt.n.nm],ints .u8 (nt.n.key),ints .u8 (nt.n.sg),ints .u8 (nt.n.pa),#[.slice nt.a nt.n.ms.length nt.c]] 0 kj 0 _ rfl) kj) <| sg 3 kj <| Qak (.bool (QbC ts ((L:Nat):Int) x)) 47 #[.slice a_t ts.length c_t,.int .i64 ((x:Nat):Int)] 42 rfl kj kj (Qm5 ts a_t c_t _ _ (TrAt.ext ht x6) L hL hlen hTr hmt x (by omega) (TabAt.ext hT x6)) fun W7 e7=>?_
   have x7:=Ext.tr x6 e7
   refine sg 3 kj <| sgN hK12 <| Qaq (t:=!(QbC ts ((L:Nat):Int) x)) kj (fun c13=>?_) (fun c13=>?_)
   ·skip
    have hb:Qbh ts ((L:Nat):Int) x=false:=by rw [hb0]; simpa using c13
    refine sgB kj <| wp_ret ?_
    repeat (first | with_reducible refine goR1 ?_ | with_reducible refine goR2 ?_)
    exact (show bodyPost _ _ _ .ret _ _ from ret1 (.iface 68 (.int .i64 3)) rfl (Qar kj) ⟨by rw [(chk3 (Qcj hL) h0 h1 h2).trans (QcU hlt23 hb)]; rfl,x7⟩)
   ·skip
    have hb:Qbh ts ((L:Nat):Int) x=true:=by rw [hb0]; simpa using c13
    refine wp_skip <| hK9 _ _ <| Qad <| Qaa (.int .i64 ((x+1:Nat):Int)) 47 rfl kj (Qag (u:=.int .i64 (IntKind.i64.wrap (((x:Nat):Int)+1))) kj (congrArg (Value.int .i64) (i64n _ _ (by omega) (by omega)))) <| sg 1 kj <| Qaj ?_
    have y3_5:=(Rely.Ext.trans e4 e5)
    have y3_6:=(Puts.ext p6 y3_5 (qT e4.size l11))
    have y3_7:=(Rely.Ext.trans y3_6 e7)
    repeat (first | with_reducible refine goX1 ?_ | with_reducible refine goX2 ?_ | with_reducible refine goX3 ?_)
    exact Qap (x+1) ⟨kj,kj,kj,kj,trivial⟩ ⟨(by omega),(fun j hj=>by by_cases e:j=x; (rw [e]; exact hb); exact hall j (by omega)),y3_7,x7⟩ (by show ts.length-(x+1)<ts.length-x; omega)
  ·skip
   have ru11_6:W6.heap[g11]? = some (.cells (cat [#[.bool false],#[.int .i64 nt.n.nm],ints .u8 (nt.n.key),ints .u8 (nt.n.sg),ints .u8 (nt.n.pa),#[.slice nt.a nt.n.ms.length nt.c]]) 50):=by have h9:=r11_6; rw [hq.1] at h9; exact h9
   have hb:Qbh ts ((L:Nat):Int) x=true:=by unfold Qbh; rw [←ent,if_neg (by rw [hq.1]; decide)]; exact hq.2
   refine Qad <| sg 1 kj <| Qaa (.bool false) 28 rfl kj (Qaf 4 _ g11 0 50 _ (.bool false) _ ru11_6 rfl kj (Qah [] [#[.bool false]] [#[.int .i64 nt.n.nm],ints .u8 (nt.n.key),ints .u8 (nt.n.sg),ints .u8 (nt.n.pa),#[.slice nt.a nt.n.ms.length nt.c]] 0 kj 0 _ rfl) kj) <| sg 2 kj <| Qaa (.agg (cat [#[.bool false],#[.int .i64 nt.n.nm],ints .u8 (nt.n.key),ints .u8 (nt.n.sg),ints .u8 (nt.n.pa),#[.slice nt.a nt.n.ms.length nt.c]])) 31 rfl kj (QaA 50 _ g11 50 _ _ ru11_6 rfl kj kj (isz (n:=99) kj (by rw [Qab,Qab,Qab,Qab,Qab,Qab]; simp only [qS,cat,((Qac _ _).trans okt.gl),((Qac _ _).trans okt.kl),((Qac _ _).trans okt.pl)]; rfl))) ?_
   refine sg 1 kj ?_
   have y4_5:=(Rely.Ext.trans (Rely.Ext.refl V1) e5)
   have y4_6:=(Puts.ext p6 y4_5 l11)
   refine Qak (.bool true) 46 #[.agg (cat [#[.bool false],#[.int .i64 nt.n.nm],ints .u8 (nt.n.key),ints .u8 (nt.n.sg),ints .u8 (nt.n.pa),#[.slice nt.a nt.n.ms.length nt.c]]),.agg (cat [#[.bool false],#[.int .i64 0],ints .u8 (List.replicate 32 0),ints .u8 (List.replicate 32 0),ints .u8 (List.replicate 32 0),#[.slice none 0 0]])] 33 rfl kj kj (QlM true false nt okt _ _ (ent▸hmt x (by omega)) (RdK.here (RdK.ext rdt y4_6)) hq.1 hq.2) fun W7 e7=>?_
   have x7:=Ext.tr x6 e7
   refine sg 4 kj <| Qaa (.bool false) 38 rfl kj (Qaf 4 _ g11 0 50 _ (.bool false) _ (Qae ru11_6 e7) rfl kj (Qah [] [#[.bool false]] [#[.int .i64 nt.n.nm],ints .u8 (nt.n.key),ints .u8 (nt.n.sg),ints .u8 (nt.n.pa),#[.slice nt.a nt.n.ms.length nt.c]] 0 kj 0 _ rfl) kj) <| sg 7 kj <| sgN hK12 <| cond_false kj <| wp_skip <| hK9 _ _ <| Qad <| Qaa (.int .i64 ((x+1:Nat):Int)) 47 rfl kj (Qag (u:=.int .i64 (IntKind.i64.wrap (((x:Nat):Int)+1))) kj (congrArg (Value.int .i64) (i64n _ _ (by omega) (by omega)))) <| sg 1 kj ?_
   refine Qaj ?_
   have y3_5:=(Rely.Ext.trans e4 e5)
   have y3_6:=(Puts.ext p6 y3_5 (qT e4.size l11))
   have y3_7:=(Rely.Ext.trans y3_6 e7)
   repeat (first | with_reducible refine goX1 ?_ | with_reducible refine goX2 ?_ | with_reducible refine goX3 ?_)
   exact Qap (x+1) ⟨kj,kj,kj,kj,trivial⟩ ⟨(by omega),(fun j hj=>by by_cases e:j=x; (rw [e]; exact hb); exact hall j (by omega)),y3_7,x7⟩ (by show ts.length-(x+1)<ts.length-x; omega)
  ·skip
   have ru11_6:W6.heap[g11]? = some (.cells (cat [#[.bool false],#[.int .i64 nt.n.nm],ints .u8 (nt.n.key),ints .u8 (nt.n.sg),ints .u8 (nt.n.pa),#[.slice nt.a nt.n.ms.length nt.c]]) 50):=by have h9:=r11_6; rw [hq.1] at h9; exact h9
   have hb:Qbh ts ((L:Nat):Int) x=false:=by unfold Qbh; rw [←ent,if_neg (by rw [hq.1]; decide)]; exact hq.2
   refine Qad <| sg 1 kj <| Qaa (.bool false) 28 rfl kj (Qaf 4 _ g11 0 50 _ (.bool false) _ ru11_6 rfl kj (Qah [] [#[.bool false]] [#[.int .i64 nt.n.nm],ints .u8 (nt.n.key),ints .u8 (nt.n.sg),ints .u8 (nt.n.pa),#[.slice nt.a nt.n.ms.length nt.c]] 0 kj 0 _ rfl) kj) <| sg 2 kj <| Qaa (.agg (cat [#[.bool false],#[.int .i64 nt.n.nm],ints .u8 (nt.n.key),ints .u8 (nt.n.sg),ints .u8 (nt.n.pa),#[.slice nt.a nt.n.ms.length nt.c]])) 31 rfl kj (QaA 50 _ g11 50 _ _ ru11_6 rfl kj kj (isz (n:=99) kj (by rw [Qab,Qab,Qab,Qab,Qab,Qab]; simp only [qS,cat,((Qac _ _).trans okt.gl),((Qac _ _).trans okt.kl),((Qac _ _).trans okt.pl)]; rfl))) ?_
   refine sg 1 kj ?_
   have y4_5:=(Rely.Ext.trans (Rely.Ext.refl V1) e5)
   have y4_6:=(Puts.ext p6 y4_5 l11)
   refine Qak (.bool false) 46 #[.agg (cat [#[.bool false],#[.int .i64 nt.n.nm],ints .u8 (nt.n.key),ints .u8 (nt.n.sg),ints .u8 (nt.n.pa),#[.slice nt.a nt.n.ms.length nt.c]]),.agg (cat [#[.bool false],#[.int .i64 0],ints .u8 (List.replicate 32 0),ints .u8 (List.replicate 32 0),ints .u8 (List.replicate 32 0),#[.slice none 0 0]])] 33 rfl kj kj (QlM false false nt okt _ _ (ent▸hmt x (by omega)) (RdK.here (RdK.ext rdt y4_6)) hq.1 hq.2) fun W7 e7=>?_
   have x7:=Ext.tr x6 e7
   refine sg 12 kj <| sgN hK12 <| cond_true kj <| sgB kj <| wp_ret ?_
   repeat (first | with_reducible refine goR1 ?_ | with_reducible refine goR2 ?_)
   exact (show bodyPost _ _ _ .ret _ _ from ret1 (.iface 68 (.int .i64 3)) rfl (Qar kj) ⟨by rw [(chk3 (Qcj hL) h0 h1 h2).trans (QcU hlt23 hb)]; rfl,x7⟩)
 ·skip
  have heq23:x=ts.length:=by have:=of_decide_eq_false c8; omega
  refine wp_exit <| hK4 _ _ <| sgB kj <| wp_ret ?_
  repeat (first | with_reducible refine goR1 ?_ | with_reducible refine goR2 ?_)
  exact (show bodyPost _ _ _ .ret _ _ from ret1 (.nilIface) rfl (Qar kj) ⟨by rw [(chk3 (Qcj hL) h0 h1 h2).trans (Qg8 (heq23▸hall))]; rfl,xx1⟩)
theorem QjN (ts : List NdV) (a_t:Option Addr) (c_t B1:Nat) (w:World) (ht:TrAt B1 w a_t ts) (htl:ts.length≤100000) (hmt:∀ i,i<ts.length→(ndi ts i).n.ms.length≤1000000) (hT:TabAt w):Calls Tryd.prog 26 #[.slice a_t ts.length c_t] w (Ret w (if chkT ts=true then .nilIface else .iface 68 (.int .i64 3))):=by
  obtain ⟨L,hL,hL2,-,hL4⟩:=Qd6 ts.length htl
  by_cases h0:L=0
  · exact Qls ts a_t c_t B1 w ht htl hmt hT L hL hL2 hL4 h0
  cases h1:Qcg ts with
  | false=>exact Qlr ts a_t c_t B1 w ht htl hmt hT L hL hL2 hL4 h0 h1
  | true =>
    cases h2:anyU ts (L/2) with
    | false=>exact Qlq ts a_t c_t B1 w ht htl hmt hT L hL hL2 hL4 h0 h1 h2
    | true=>exact Qlp ts a_t c_t B1 w ht htl hmt hT L hL hL2 hL4 h0 h1 h2
theorem QgO (ts : List NdV) (a_t:Option Addr) (c_t B1:Nat) (w:World) (ht:TrAt B1 w a_t ts) (htl:ts.length≤100000) (hmt:∀ i,i<ts.length→(ndi ts i).n.ms.length≤1000000) (hT:TabAt w) (h:chkT ts=true):Calls Tryd.prog 26 #[.slice a_t ts.length c_t] w (Ret w .nilIface):=by
  have:=QjN ts a_t c_t B1 w ht htl hmt hT
  rwa [if_pos h] at this
theorem Qmq (ts : List NdV) (a_t:Option Addr) (c_t B1:Nat) (w:World) (ht:TrAt B1 w a_t ts) (htl:ts.length≤100000) (hmt:∀ i,i<ts.length→(ndi ts i).n.ms.length≤1000000) (hT:TabAt w) (h:chkT ts=false):Calls Tryd.prog 26 #[.slice a_t ts.length c_t] w (Ret w (.iface 68 (.int .i64 3))):=by
  have:=QjN ts a_t c_t B1 w ht htl hmt hT
  rwa [if_neg (by rw [h]; decide)] at this
end Go.Proofs.YthfkppjajmjpnaaDoor.Te
end
section
namespace Go.Proofs.YthfkppjajmjpnaaDoor.Te
open Go Go.RowKit
open Rely Auto Own Seat Sha
def AvT (p : Nat→Prop) (a:Option Addr) (ts:List NdV):Prop:=(∀ g o m,0<ts.length→a=some ⟨g,o,m⟩→p g)∧∀ i,i<ts.length→(ndi ts i).n.ms≠[]→∀ g o m,(ndi ts i).a=some ⟨g,o,m⟩→p g
theorem AvT.mono {p q:Nat→Prop} {a:Option Addr} {ts:List NdV} (h:AvT p a ts) (hpq:∀ g,p g→q g):AvT q a ts:=⟨fun g o m h1 h2=>hpq g (h.1 g o m h1 h2),fun i hi hn g o m e=>hpq g (h.2 i hi hn g o m e)⟩
theorem TrAt.keepC {B : Nat} {gs:List Nat} {V W:World} {a:Option Addr} {ts:List NdV} (h:TrAt B V a ts) (q:QbF gs V W) (hv:AvT (fun g=>g∉gs) a ts):TrAt B W a ts:=by
  obtain ⟨g,o,h1,h2⟩:=h
  refine ⟨g,o,h1,fun i hi=>?_⟩
  have hn:=h2 i hi
  have hg:g∉gs:=hv.1 g o none (by omega) (h1 (by omega))
  refine ⟨hn.lt,qL hn.lt2 q.1,fun j u hu=>q.cell (hn.cell j u hu) hg,?_,hn.ok⟩
  by_cases hne:(ndi ts i).n.ms=[]
  · obtain ⟨a',cap,e,e1,e2,e3,e4⟩:=hn.rd
    exact ⟨a',cap,e,e1,e2,e3,.inl hne⟩
  obtain ⟨a',cap,e,e1,e2,e3,e4⟩:=hn.rd
  refine ⟨a',cap,e,e1,e2,e3,?_⟩
  rcases e4 with e4 | ⟨gm,om,q1,q2,q3,q4⟩
  · exact .inl e4
  · have ha:(ndi ts i).a=some ⟨gm,om,none⟩:=by simp only [Value.slice.injEq] at e; rw [e.1,q1]
    exact .inr ⟨gm,om,q1,q2,qL q3 q.1,fun k hk=>q.cell (q4 k hk) (hv.2 i hi hne gm om none ha)⟩
def Qht (ts : List NdV):Nat→List Nat
  | 0=>[]
  | k+1=>if (ndi ts (2*k)).n.us=true then Qht ts k++[k] else Qht ts k
def nod (ts : List NdV) (z:Nat):NdV:=if 2*z<ts.length then ndi ts (2*z) else zn
end Go.Proofs.YthfkppjajmjpnaaDoor.Te
end
section
namespace Go.Proofs.YthfkppjajmjpnaaDoor.Te
open Go Go.RowKit
open Rely Auto Own Seat Sha
theorem Qiw {ts : List NdV} (htl:ts.length≤100000) (h:chkT ts=true):∃ L:Nat,leaves ((ts.length:Nat):Int)=((L:Nat):Int)∧L≤32∧ts.length+1=2*L∧QaF ((L:Nat):Int)=true:=by
  obtain ⟨L,hL,hL2,hL3,hL4⟩:=Qd6 ts.length htl
  have h0:L≠0:=fun e=>by rw [chk0 (Qcj hL) e] at h; cases h
  exact ⟨L,hL,hL3,hL4 h0⟩
end Go.Proofs.YthfkppjajmjpnaaDoor.Te
end
section
namespace Go.Proofs.YthfkppjajmjpnaaDoor.Te
open Go Go.RowKit Go.Shelf
open Rely Auto Own Seat
end Go.Proofs.YthfkppjajmjpnaaDoor.Te
end
section
namespace Go.Proofs.YthfkppjajmjpnaaDoor.Te
open Go Go.RowKit Go.Shelf
open Rely Auto Own Seat
theorem Qh3 (vs : List Value):∀ (cur:Array Value) (k:Nat),(splice cur k vs).size=cur.size:=by
  induction vs with
  | nil=>intro cur k; rfl
  | cons v r ih=>intro cur k; rw [splice,ih]; simp
def insA (xs : List Int) (c:Nat) (x:Int):List Int:=xs.take c++[x]++xs.drop c
theorem Qfy {w : World} {g o:Nat} {cur:Array Value} {T:TypeId} (r:w.heap[g]? = some (.cells cur T)):w.cell? ⟨g,o,none⟩=cur[o]?:=by unfold World.cell?; simp [r]
end Go.Proofs.YthfkppjajmjpnaaDoor.Te
end
section
namespace Go.Proofs.YthfkppjajmjpnaaDoor.Te
open Go Go.RowKit
open Rely Auto Own Seat Sha
def posI (xs : List Int) (x:Int):Nat:=xs.countP (· < x)
end Go.Proofs.YthfkppjajmjpnaaDoor.Te
end
section
namespace Go.Proofs.YthfkppjajmjpnaaDoor.Te
open Go Go.RowKit
open Rely Auto Own Seat
theorem own_typ {k : IntKind} {T:TypeId} {base:Nat} {xs:List Int} {v:Value} {W:World} (h:OwnN k T base xs v W) {g:Nat} (hg:v.ownBlock=some g):∃ cur,W.heap[g]? = some (.cells cur T):=by
  rcases h.1.2 with ⟨rfl,_⟩ | ⟨g',c,cur,rfl,q2,q3,_⟩
  · cases hg
  · obtain rfl:g'=g:=Option.some.inj hg
    exact ⟨cur,q3⟩
def slv (n : NdV):Value:=.slice n.a n.n.ms.length n.c
def ob (n : NdV):Option Nat:=(slv n).ownBlock
def NdIn (base : Nat) (W:World) (n:NdV):Prop:=NdOk n.n∧n.n.ms.length≤1000∧OwnN .i64 3 base n.n.ms (slv n) W
def fl (ts : List NdV):List Value:=ts.flatMap fun n=>(cat (ndP n)).toList
def Qi6 (cur : Array Value) (ts:List NdV):Prop:=∀ i,i<ts.length→∀ j,j<99→cur[i*99+j]? = (cat (ndP (ndi ts i)))[j]?
theorem Qcy {ts : List NdV} {i:Nat} (n:NdV) (h:i<ts.length) (j:Nat):ndi (ts.set i n) j=if j=i then n else ndi ts j:=by
  unfold ndi
  rw [List.getD_eq_getElem?_getD,List.getD_eq_getElem?_getD,List.getElem?_set]
  by_cases e:i=j
  · subst e; rw [if_pos rfl,if_pos rfl,if_pos h]; rfl
  · rw [if_neg e,if_neg (fun q=>e q.symm)]
theorem Qfn (ts us:List NdV) (j:Nat):ndi (ts++us) j=if j<ts.length then ndi ts j else ndi us (j-ts.length):=by
  unfold ndi
  rw [List.getD_eq_getElem?_getD,List.getD_eq_getElem?_getD,List.getD_eq_getElem?_getD]
  by_cases e:j<ts.length
  · rw [if_pos e,List.getElem?_append_left e]
  · rw [if_neg e,List.getElem?_append_right (by omega)]
theorem QkP {n j:Nat} (x:NdV) (h:j<n):ndi (List.replicate n x) j=x:=by
  unfold ndi
  rw [List.getD_eq_getElem?_getD,List.getElem?_replicate,if_pos h]; rfl
theorem Qin : ∀ (ts:List NdV),(∀ i,i<ts.length→NdOk (ndi ts i).n)→∀ i,i<ts.length→∀ j,j<99→(fl ts)[i*99+j]? = (cat (ndP (ndi ts i)))[j]?
  | [],_,i,hi,_,_=>absurd hi (Nat.not_lt_zero _)
  | x::r,ho,i,hi,j,hj=>by
    have hsz:(cat (ndP x)).toList.length=99:=by rw [Array.length_toList]; exact Qcz x (ho 0 (by simp))
    show (((cat (ndP x)).toList++fl r))[i*99+j]? = _
    cases i with
    | zero=>rw [List.getElem?_append_left (by omega),Nat.zero_mul,Nat.zero_add,Array.getElem?_toList]; rfl
    | succ i =>
      rw [List.getElem?_append_right (by omega),hsz,show (i+1)*99+j-99=i*99+j by omega]
      exact Qin r (fun k hk=>ho (k+1) (by simpa using hk)) i (by simpa using hi) j hj
theorem Qim : ∀ (ts:List NdV),(∀ i,i<ts.length→NdOk (ndi ts i).n)→(fl ts).length=ts.length*99
  | [],_=>rfl
  | x::r,ho=>by
    have hsz:(cat (ndP x)).toList.length=99:=by rw [Array.length_toList]; exact Qcz x (ho 0 (by simp))
    show (((cat (ndP x)).toList++fl r)).length=_
    rw [List.length_append,hsz,Qim r (fun k hk=>ho (k+1) (by simpa using hk)),List.length_cons]
    omega
theorem QmL {R : Array Value} {ts:List NdV} (ho:∀ i,i<ts.length→NdOk (ndi ts i).n) (hs:ts.length*99≤R.size) (h:Qi6 R ts):R.toList.take (ts.length*99)=fl ts:=by
  apply List.ext_getElem?
  intro k
  by_cases hk:k<ts.length*99
  · rw [List.getElem?_take,if_pos hk,Array.getElem?_toList]
    have e:k=k/99*99+k%99:=by omega
    rw [e,h (k/99) (by omega) (k%99) (by omega),Qin ts ho (k/99) (by omega) (k%99) (by omega)]
  · rw [List.getElem?_eq_none (by simp; omega),List.getElem?_eq_none (by rw [Qim ts ho]; omega)]
structure OwH (base : Nat) (ts : List NdV) (v : Value) (W : World) (h : Option Nat) : Prop where
  ok:∀ i,i<ts.length→NdOk (ndi ts i).n
  row:W.ownsRow base 50 99 v ts.length (fl ts)
  nd:∀ i,i<ts.length→some i≠h→NdIn base W (ndi ts i)
  ap:∀ i j,i<ts.length→j<ts.length→i≠j→some i≠h→some j≠h→∀ g,ob (ndi ts i)=some g→ob (ndi ts j)≠some g
abbrev OwT (base : Nat) (ts : List NdV) (v : Value) (W : World) : Prop := OwH base ts v W none
theorem OwH.opens {base : Nat} {ts:List NdV} {v:Value} {W:World} {h:Option Nat} (t:OwH base ts v W h) (h0:0<ts.length):∃ g c cur,v=.slice (some ⟨g,0,none⟩) ts.length c∧base≤g∧W.heap[g]? = some (.cells cur 50)∧cur.size=c*99∧ts.length≤c∧c≤maxLen∧Qi6 cur ts:=by
  rcases t.row.2 with ⟨_,h1⟩ | ⟨g,c,cur,h1,h2,h3,h4,h5,h6,h7⟩
  · omega
  · refine ⟨g,c,cur,h1,h2,h3,h6,h4,h5,fun i hi j hj=>?_⟩
    rw [←Qin ts t.ok i hi j hj,←h7,List.getElem?_take,if_pos (by omega),Array.getElem?_toList]
theorem OwH.made {base g c:Nat} {ts:List NdV} {W:World} {h:Option Nat} {cur:Array Value} (hg:base≤g) (r:W.heap[g]? = some (.cells cur 50)) (hs:cur.size=c*99) (hl:ts.length≤c) (hc:c≤maxLen) (hr:Qi6 cur ts)
    (ok:∀ i,i<ts.length→NdOk (ndi ts i).n) (nd:∀ i,i<ts.length→some i≠h→NdIn base W (ndi ts i)) (ap:∀ i j,i<ts.length→j<ts.length→i≠j→some i≠h→some j≠h→∀ g,ob (ndi ts i)=some g→ob (ndi ts j)≠some g):OwH base ts (.slice (some ⟨g,0,none⟩) ts.length c) W h :=
  ⟨ok,⟨Qim ts ok,.inr ⟨g,c,cur,rfl,hg,r,hl,hc,hs,QmL ok (by omega) hr⟩⟩,nd,ap⟩
theorem OwH.slice {base : Nat} {ts:List NdV} {v:Value} {W:World} {h:Option Nat} (t:OwH base ts v W h):∃ a c,v=.slice a ts.length c:=by
  rcases t.row.2 with ⟨e,e2⟩ | ⟨g,cap,cur,e,-⟩
  · exact ⟨none,0,by rw [e,e2]⟩
  · exact ⟨_,_,e⟩
theorem OwH.rowBlock {base : Nat} {ts:List NdV} {v:Value} {W:World} {h:Option Nat} (t:OwH base ts v W h) {g:Nat} (hg:v.ownBlock=some g):base≤g∧∃ cur,W.heap[g]? = some (.cells cur 50):=by
  rcases t.row.2 with ⟨rfl,_⟩ | ⟨g',c,cur,rfl,q2,q3,_⟩
  · cases hg
  · obtain rfl:g'=g:=Option.some.inj hg
    exact ⟨q2,cur,q3⟩
theorem NdIn.keep {base : Nat} {n:NdV} {W W':World} (h:NdIn base W n) (hk:∀ g,ob n=some g→W'.heap[g]? = W.heap[g]?):NdIn base W' n:=⟨h.1,h.2.1,h.2.2.keep hk⟩
theorem NdIn.low {a b:Nat} {n:NdV} {W:World} (h:NdIn b W n) (hab:a≤b):NdIn a W n:=⟨h.1,h.2.1,OwnN.base hab h.2.2⟩
theorem OwH.keep {base : Nat} {ts:List NdV} {v:Value} {W W':World} {h:Option Nat} (t:OwH base ts v W h) (hv:∀ g,v.ownBlock=some g→W'.heap[g]? = W.heap[g]?) (hn:∀ i,i<ts.length→some i≠h→∀ g,ob (ndi ts i)=some g→W'.heap[g]? = W.heap[g]?):OwH base ts v W' h :=
  ⟨t.ok,⟨t.row.1,t.row.2.imp id fun ⟨g,c,cur,q1,q2,q3,q4⟩=>⟨g,c,cur,q1,q2,(hv g (by rw [q1]; rfl)).trans q3,q4⟩⟩,fun i hi hh=>(t.nd i hi hh).keep (hn i hi hh),t.ap⟩
theorem OwH.lt {base : Nat} {ts:List NdV} {v:Value} {W:World} {h:Option Nat} (t:OwH base ts v W h) {g:Nat} (hg:v.ownBlock=some g):g<W.heap.size:=by
  obtain ⟨-,cur,r⟩:=t.rowBlock hg
  exact Qa5 r
theorem NdIn.lt {base : Nat} {n:NdV} {W:World} (h:NdIn base W n) {g:Nat} (hg:ob n=some g):g<W.heap.size:=h.2.2.lt hg
theorem OwH.ext {base : Nat} {ts:List NdV} {v:Value} {W W':World} {h:Option Nat} (t:OwH base ts v W h) (e:Ext W W'):OwH base ts v W' h:=t.keep (fun g hg=>e.block g (t.lt hg)) fun i hi hh g hg=>e.block g ((t.nd i hi hh).lt hg)
theorem OwH.low {a b:Nat} {ts:List NdV} {v:Value} {W:World} {h:Option Nat} (t:OwH b ts v W h) (hab:a≤b):OwH a ts v W h :=
  ⟨t.ok,⟨t.row.1,t.row.2.imp id fun ⟨g,c,cur,q1,q2,q3⟩=>⟨g,c,cur,q1,qT hab q2,q3⟩⟩,fun i hi hh=>(t.nd i hi hh).low hab,t.ap⟩
theorem OwH.above {base : Nat} {ts:List NdV} {v:Value} {W W':World} {h:Option Nat} (t:OwH base ts v W h) (hk:∀ g,base≤g→g<W.heap.size→W'.heap[g]? = W.heap[g]?):OwH base ts v W' h :=
  t.keep (fun g hg=>hk g (t.rowBlock hg).1 (t.lt hg)) fun i hi hh g hg=>hk g ((t.nd i hi hh).2.2.ge hg) ((t.nd i hi hh).lt hg)
theorem OwH.tr {base : Nat} {ts:List NdV} {a:Option Addr} {c:Nat} {W:World} (t:OwH base ts (.slice a ts.length c) W none):TrAt W.heap.size W a ts:=by
  by_cases h0:0<ts.length
  · obtain ⟨g,cap,cur,e,q2,q3,q4,q5,q6,q7⟩:=t.opens h0
    simp only [Value.slice.injEq] at e
    obtain ⟨rfl,-,rfl⟩:=e
    refine ⟨g,0,fun _=>rfl,fun i hi=>?_⟩
    obtain ⟨h1,h2,h3⟩:=t.nd i hi (by simp)
    refine ⟨Qa5 q3,Qa5 q3,fun j u hu=>?_,RdK.here (OwnN.rd h3),h1⟩
    have hj:j<99:=by have:=(Array.getElem?_eq_some_iff.1 hu).1; rw [Qcz _ h1] at this; exact this
    rw [Nat.zero_add,Qfy q3,q7 i hi j hj,hu]
  · exact ⟨0,0,fun h1=>absurd h1 h0,fun i hi=>absurd hi (by omega)⟩
theorem Qk6 {cur : Array Value} {ts:List NdV} {n:NdV} {i:Nat} (ok:NdOk n.n) (hi:i<ts.length) (hs:ts.length*99≤cur.size) (h:Qi6 cur ts):Qi6 (splice cur (i*99) (cat (ndP n)).toList) (ts.set i n):=by
  intro k hk j hj
  rw [List.length_set] at hk
  have hz:(cat (ndP n)).toList.length=99:=by rw [Array.length_toList]; exact Qcz n ok
  rw [Qha _ _ _ (by omega),hz,Qcy n hi]
  by_cases e:k=i
  · subst e
    rw [if_pos (by omega),if_pos rfl,show k*99+j-k*99=j by omega,Array.getElem?_toList]
  · rw [if_neg (by omega),if_neg e,h k hk j hj]
theorem Qmz {ts : List NdV} {n:NdV} {i:Nat} {h h':Option Nat} (hi:i<ts.length) (ap:∀ i j,i<ts.length→j<ts.length→i≠j→some i≠h→some j≠h→∀ g,ob (ndi ts i)=some g→ob (ndi ts j)≠some g) (hh:∀ k,k≠i→some k≠h'→some k≠h) (hn:some i≠h'→∀ j,j<ts.length→j≠i→some j≠h'→∀ g,ob n=some g→ob (ndi ts j)≠some g):∀ k j,k<(ts.set i n).length→j<(ts.set i n).length→k≠j→some k≠h'→some j≠h'→∀ g,ob (ndi (ts.set i n) k)=some g→ob (ndi (ts.set i n) j)≠some g:=by
  intro k j hk hj hkj hk2 hj2 g
  rw [List.length_set] at hk hj
  rw [Qcy n hi,Qcy n hi]
  by_cases e1:k=i
  · rw [if_pos e1,if_neg (by omega)]; exact hn (e1▸hk2) j hj (by omega) hj2 g
  · rw [if_neg e1]
    by_cases e2:j=i
    · rw [if_pos e2]; exact fun h1 h2=>hn (e2▸hj2) k hk e1 hk2 g h2 h1
    · rw [if_neg e2]; exact ap k j hk hj hkj (hh k e1 hk2) (hh j e2 hj2) g
theorem OwH.set {base g c i:Nat} {ts:List NdV} {n:NdV} {W W':World} {h:Option Nat} {cur:Array Value} (t:OwH base ts (.slice (some ⟨g,0,none⟩) ts.length c) W h) (hh:h=none∨h=some i) (hi:i<ts.length) (r:W.heap[g]? = some (.cells cur 50)) (p:Puts W g W') (r':W'.heap[g]? = some (.cells (splice cur (i*99) (cat (ndP n)).toList) 50))
    (hn:NdIn base W n) (ha:∀ j,j<ts.length→j≠i→∀ g,ob n=some g→ob (ndi ts j)≠some g):OwT base (ts.set i n) (.slice (some ⟨g,0,none⟩) ts.length c) W':=by
  obtain ⟨g',c',cur',e,q2,q3,q4,q5,q6,q7⟩:=t.opens (by omega)
  simp only [Value.slice.injEq,Option.some.injEq,Addr.mk.injEq] at e
  obtain ⟨⟨rfl,-⟩,-,rfl⟩:=e
  rw [r] at q3
  simp only [Option.some.injEq,Obj.cells.injEq,and_true] at q3
  subst q3
  have kp:∀ m:NdV,NdIn base W m→NdIn base W' m:=fun m hm=>hm.keep fun k hk=>p.2.2.2.2 k fun e=>by
    obtain ⟨cur2,r2⟩:=own_typ hm.2.2 hk
    rw [e,r] at r2
    simp at r2
  have ok:∀ k,k<(ts.set i n).length→NdOk (ndi (ts.set i n) k).n:=fun k hk=>by
    rw [List.length_set] at hk
    rw [Qcy n hi]
    by_cases e:k=i
    · rw [if_pos e]; exact hn.1
    · rw [if_neg e]; exact t.ok k hk
  have:=OwH.made (h:=none) (ts:=ts.set i n) (c:=c) q2 r' ((Qh3 _ _ _).trans q4) (by rw [List.length_set]; exact q5) q6 (Qk6 hn.1 hi (by omega) q7) ok (fun k hk _=>by
    rw [List.length_set] at hk
    rw [Qcy n hi]
    by_cases e:k=i
    · rw [if_pos e]; exact kp n hn
    · rw [if_neg e]; exact kp _ (t.nd k hk (by rcases hh with rfl | rfl <;> simp; exact e))) (Qmz hi t.ap (fun k hk _=>by rcases hh with rfl | rfl <;> simp; exact hk) fun _ j hj hji _=>ha j hj hji)
  rwa [List.length_set] at this
section
variable {ds : List Deferred} {P : Program} {ops : Array Oper} {Q : Exit → Act → World → Prop} {rest : List Oper} {o : Oper} {N : Nat} {L : Env} {W : World}
end
end Go.Proofs.YthfkppjajmjpnaaDoor.Te
end
section
namespace Go.Proofs.YthfkppjajmjpnaaDoor.Te
open Go Go.RowKit
open Rely Auto Own Seat Sha
def AsC (us ts:List NdV):Prop:=us.length=ts.length∧∀ j,j<ts.length→(ndi us j).n=(ndi ts j).n
section
variable {ds : List Deferred} {P : Program} {ops : Array Oper} {Q : Exit → Act → World → Prop} {rest : List Oper} {o : Oper} {N : Nat} {L : Env} {W : World}
end
end Go.Proofs.YthfkppjajmjpnaaDoor.Te
end
section
namespace Go.Proofs.YthfkppjajmjpnaaDoor.Te
open Go Go.RowKit
open Rely Auto Own Seat Sha
section
variable {ds : List Deferred} {P : Program} {ops : Array Oper} {Q : Exit → Act → World → Prop} {rest : List Oper} {o : Oper} {N : Nat} {L : Env} {W : World} {Fe : Fence} {nf : Nat}
end
end Go.Proofs.YthfkppjajmjpnaaDoor.Te
end
section
namespace Go.Proofs.YthfkppjajmjpnaaDoor.Te
open Go Go.RowKit
open Rely Auto Own Seat Sha
theorem Qdo {ts : List NdV} {n i:Nat} (h:i<n):ndi (ts.take n) i=ndi ts i:=by
  unfold ndi
  rw [List.getD_eq_getElem?_getD,List.getD_eq_getElem?_getD,List.getElem?_take,if_pos h]
theorem TrAt.take {B : Nat} {w:World} {a:Option Addr} {ts:List NdV} (h:TrAt B w a ts) (n:Nat):TrAt B w a (ts.take n):=by
  obtain ⟨g,o,h1,h2⟩:=h
  refine ⟨g,o,fun h0=>h1 (by rw [List.length_take] at h0; omega),fun i hi=>?_⟩
  rw [List.length_take] at hi
  rw [Qdo (by omega)]
  exact h2 i (by omega)
theorem AvT.take {p : Nat→Prop} {a:Option Addr} {ts:List NdV} (h:AvT p a ts) (n:Nat):AvT p a (ts.take n):=by
  refine ⟨fun g o m h0 e=>h.1 g o m (by rw [List.length_take] at h0; omega) e,fun i hi hn g o m e=>?_⟩
  rw [List.length_take] at hi
  rw [Qdo (by omega)] at hn e
  exact h.2 i (by omega) hn g o m e
def FrT (base : Nat) (us:List NdV) (v:Value) (W:World):Prop:=∃ a c,v=.slice a us.length c∧TrAt W.heap.size W a us∧AvT (fun g=>base≤g) a us∧∀ i,i<us.length→(ndi us i).n.ms.length≤1000
theorem Ql3 {base : Nat} {us:List NdV} {a:Option Addr} {c:Nat} {W:World} (t:OwT base us (.slice a us.length c) W):AvT (fun g=>base≤g) a us:=by
  refine ⟨fun g o m h0 e=>?_,fun i hi hn g o m e=>?_⟩
  · subst e
    exact (t.rowBlock (g:=g) rfl).1
  · have h1:=(t.nd i hi (by simp)).2.2
    exact h1.ge (g:=g) (by unfold slv; rw [e]; rfl)
theorem OwH.fr {base : Nat} {us:List NdV} {v:Value} {W:World} (t:OwT base us v W):FrT base us v W:=by
  obtain ⟨a,c,rfl⟩:=t.slice
  exact ⟨a,c,rfl,t.tr,Ql3 t,fun i hi=>(t.nd i hi (by simp)).2.1⟩
section
variable {P : Program} {ρ : Operand → Value} {o : Oper} {w : World}
end
theorem QhJ : Qbx (fun n x=>decide (par x n=-1) || decide (par x n%2=1))=true:=by decide +kernel
theorem Qhu {x n:Int}:∀ {k:Nat},0≤upn x n k→upn x n k%2=1
  | 0,h=>by
    have h:0≤par x n:=h
    show par x n%2=1
    cases hd:Qa4 x n with
    | false=>rw [QcS hd] at h; omega
    | true =>
      have:=QaN QhJ hd
      simp only [Bool.or_eq_true,decide_eq_true_eq] at this
      omega
  | k+1,h=>by
    have h:0≤par (upn x n k) n:=h
    show par (upn x n k) n%2=1
    cases hd:Qa4 (upn x n k) n with
    | false=>rw [QcS hd] at h; omega
    | true =>
      have:=QaN QhJ hd
      simp only [Bool.or_eq_true,decide_eq_true_eq] at this
      omega
end Go.Proofs.YthfkppjajmjpnaaDoor.Te
end
section
namespace Go.Proofs.YthfkppjajmjpnaaDoor.Te
open Go Go.RowKit
open Rely Auto Own Seat Sha
def QdQ (p : Nat→Prop) (A B:World):Prop:=A.heap.size≤B.heap.size∧∀ k cs t fr,A.heap[k]? = some (.cells cs t fr)→¬ p k→B.heap[k]? = some (.cells cs t fr)
section
variable {p : Nat → Prop} {A B C : World}
theorem QdQ.trans (h : QdQ p A B) (k:QdQ p B C):QdQ p A C:=⟨qT h.1 k.1,fun i cs t fr q n=>k.2 i cs t fr (h.2 i cs t fr q n) n⟩
theorem QdQ.ext (e : Ext A B):QdQ p A B:=⟨e.size,fun k cs t fr q _=>(e.block k (Qa5 q)).trans q⟩
theorem QdQ.book {w : World} (W:World) (l:Nat) (o o':Obj) (hl:w.heap.size≤l) (h:W.heap[l]? = some o) (hc:o.isCells=false) (_:o.isWalk=false):QdQ p W (W.putObj l o') :=
  ⟨by simp,fun k cs t fr q _=>(World.putObj_heap_other (fun e=>by subst e; rw [h] at q; cases q; cases hc)).trans q⟩
theorem QdQ.row {k : Nat} {cs:Array Value} {t:TypeId} (h:QdQ p A B) (r:A.heap[k]? = some (.cells cs t)) (n:¬ p k):B.heap[k]? = some (.cells cs t):=h.2 k cs t _ r n
theorem QdQ.cell {b off:Nat} {v:Value} (h:QdQ p A B) (hc:A.cell? ⟨b,off,none⟩=some v) (n:¬ p b):B.cell? ⟨b,off,none⟩=some v:=by
  unfold World.cell? at hc ⊢
  cases hb:A.heap[b]? with
  | none=>simp [hb] at hc
  | some ob =>
    cases ob with
    | cells cs t fr=>rw [h.2 b cs t fr hb n]; rw [hb] at hc; exact hc
    | _=>simp [hb] at hc
end
theorem OwH.node {base g M c i:Nat} {ts:List NdV} {W:World} (hM:ts.length=M) (t:OwT base ts (.slice (some ⟨g,0,none⟩) M c) W) (hi:i<M):NdAt W.heap.size W g (0+i*99) (ndi ts i):=by
  subst hM
  obtain ⟨g',o',h1,h2⟩:=t.tr
  have:=h1 (by omega)
  simp only [Option.some.injEq,Addr.mk.injEq,and_true] at this
  obtain ⟨rfl,rfl⟩:=this
  exact h2 i hi
end Go.Proofs.YthfkppjajmjpnaaDoor.Te
end
section
namespace Go.Proofs.YthfkppjajmjpnaaDoor.Wk
open Go Go.RowKit
open Rely Auto Own
variable {P : Program} {ops : Array Oper} {Q : Exit → Act → World → Prop} {Fe : Fence} {nf : Nat}
def allI (Fe : Fence) (nf:Nat) (P:Program) (ops:Array Oper) (Q:Exit→Act→World→Prop) (Rd:World→Prop):Nat→Array Bool→Act→World→Prop
  | 0,listed,a,w=>Region.ready .any ops listed=[]∧Q .normal a w
  | fuel+1,listed,a,w=>(Region.ready .any ops listed=[]→Q .normal a w)∧∀ i∈Region.ready .any ops listed,wpOpIn Fe nf P ops Q i (fun a' w'=>Rd w'∧allI Fe nf P ops Q Rd fuel (listed.setIfInBounds i true) a' w') a w
def QdA (P : Program) (ops:Array Oper) (Rd:World→Prop) (o:Oper) (v:Value) (a:Act):Prop :=
  (Region.wanted o (yielded ops a.tmps)=true∧∀ w,Rd w→(execOp a.eval o).run P w=.ok (.value v) w)∨(Region.wanted o (yielded ops a.tmps)=false∧v=undef)
theorem QdA.wpOp {Rd : World→Prop} (hF:Free Fe nf P) {i:Nat} {o:Oper} {v:Value} {a:Act} (hnd:QbR o=true) (hi:ops[i]? = some o) (hy:QdA P ops Rd o v a) {K:Act→World→Prop} {w:World} (hw:Rd w) (h:K (a.put o.dst v) w):wpOpIn Fe nf P ops Q i K a w:=by
  unfold wpOpIn
  simp only [hi]
  rcases hy with ⟨hw1,hv⟩ | ⟨hw1,rfl⟩
  · simp only [hw1,if_true,Oper.wpIn]
    rw [Oper.semAt_plain Fe _ _ (QeN hnd),hv w hw]
    exact ⟨fun f _=>hF.fn f,h⟩
  · simp only [hw1,Bool.false_eq_true,if_false]; exact ⟨fun f _=>hF.fn f,h⟩
theorem QdA.same {Rd : World→Prop} {o:Oper} {v:Value} {a a':Act} (hy:QdA P ops Rd o v a) (he:execOp a'.eval o=execOp a.eval o) (hw:Region.wanted o (yielded ops a'.tmps)=Region.wanted o (yielded ops a.tmps)):QdA P ops Rd o v a':=by
  unfold QdA at *
  rw [he,hw]
  exact hy
structure WBI (Fe : Fence) (nf : Nat) (P : Program) (ops : Array Oper) (Q : Exit → Act → World → Prop) (Rd : World → Prop) (fuel : Nat) (listed : Array Bool) (a : Act) (w : World) : Prop where
  out:Rd w→allI Fe nf P ops Q Rd fuel listed a w
structure WOI (Fe : Fence) (nf : Nat) (P : Program) (ops : Array Oper) (Q : Exit → Act → World → Prop) (Rd : World → Prop) (k fuel : Nat) (listed : Array Bool) (a : Act) (w : World) : Prop where
  out:wpOpIn Fe nf P ops Q k (fun a' w'=>Rd w'∧allI Fe nf P ops Q Rd fuel (listed.setIfInBounds k true) a' w') a w
variable {o : Oper} {N : Nat} {L : Env} {w V : World} {ds : List Deferred} {fuel : Nat} {listed : Array Bool} {k : Nat} {a : Act} {Rd : World → Prop}
end Go.Proofs.YthfkppjajmjpnaaDoor.Wk
end
section
namespace Go.Proofs.YthfkppjajmjpnaaDoor.Te
open Go Go.RowKit
open Rely Auto Own Seat Sha
def QgY (y n i:Int) (us:List NdV) (z:Nat):List NdV:=if (ndi us (upN y n z)).n.us=true then us.set (upN y n z) ⟨{ (ndi us (upN y n z)).n with ms:=insA (ndi us (upN y n z)).n.ms (posI (ndi us (upN y n z)).n.ms i) i },none,0⟩ else us
theorem Qf6 (y n i:Int) (us:List NdV) (z:Nat):(QgY y n i us z).length=us.length:=by
  unfold QgY
  split
  · rw [List.length_set]
  · rfl
theorem Qhn {xs : List Int} (x:Int) (h:xs.Pairwise (·≤·)):(insA xs (posI xs x) x).Pairwise (·≤·):=by
  have key:∀ xs:List Int,xs.Pairwise (·≤·)→∀ a∈xs.take (posI xs x),a<x:=by
    intro xs
    induction xs with
    | nil=>intro _ a ha; cases ha
    | cons b r ih =>
      intro h a ha
      rw [List.pairwise_cons] at h
      by_cases hb:b<x
      · have e:posI (b::r) x=posI r x+1:=by unfold posI; rw [List.countP_cons_of_pos (by simpa using hb)]
        rw [e,List.take_succ_cons,List.mem_cons] at ha
        rcases ha with rfl | ha
        · exact hb
        · exact ih h.2 a ha
      · have e:posI (b::r) x=0:=by
          unfold posI
          rw [List.countP_eq_zero]
          intro c hc
          rcases List.mem_cons.1 hc with rfl | hc
          · simpa using hb
          · have:=h.1 c hc
            simp; omega
        rw [e] at ha; cases ha
  have key2:∀ xs:List Int,xs.Pairwise (·≤·)→∀ a∈xs.drop (posI xs x),x≤a:=by
    intro xs
    induction xs with
    | nil=>intro _ a ha; rw [List.drop_nil] at ha; cases ha
    | cons b r ih =>
      intro h a ha
      rw [List.pairwise_cons] at h
      by_cases hb:b<x
      · have e:posI (b::r) x=posI r x+1:=by unfold posI; rw [List.countP_cons_of_pos (by simpa using hb)]
        rw [e,List.drop_succ_cons] at ha
        exact ih h.2 a ha
      · have h2:a∈b::r:=List.mem_of_mem_drop ha
        rcases List.mem_cons.1 h2 with rfl | hc
        · omega
        · have:=h.1 a hc; omega
  unfold insA
  rw [List.append_assoc,List.pairwise_append]
  refine ⟨h.sublist (List.take_sublist _ _),List.pairwise_cons.2 ⟨fun a ha=>key2 xs h a ha,h.sublist (List.drop_sublist _ _)⟩,fun a ha b hb=>?_⟩
  have h1:=key xs h a ha
  rcases List.mem_cons.1 hb with rfl | hb
  · omega
  · have:=key2 xs h b hb; omega
def Rise (b : Nat) (us:List NdV):Prop:=∀ j,j<us.length→(ndi us j).n.ms.Pairwise (·≤·)∧(ndi us j).n.ms.length≤b
theorem AsC.rise {vs us:List NdV} {b:Nat} (h:AsC vs us) (r:Rise b us):Rise b vs:=fun j hj=>by
  rw [h.1] at hj
  rw [h.2 j hj]
  exact r j hj
theorem AsC.step {vs us:List NdV} {y n i:Int} {z:Nat} {a:Option Addr} {c:Nat} (h:AsC vs us) (hu:upN y n z<us.length) (hus:(ndi vs (upN y n z)).n.us=true):AsC (vs.set (upN y n z) ⟨{ (ndi vs (upN y n z)).n with ms:=insA (ndi vs (upN y n z)).n.ms (posI (ndi vs (upN y n z)).n.ms i) i },a,c⟩) (QgY y n i us z):=by
  refine ⟨by rw [List.length_set,Qf6]; exact h.1,fun j hj=>?_⟩
  rw [Qf6] at hj
  have e:=h.2 _ hu
  rw [e] at hus
  unfold QgY
  rw [if_pos hus,Qcy _ (by rw [h.1]; exact hu),Qcy _ hu]
  by_cases e2:j=upN y n z
  · rw [if_pos e2,if_pos e2,e]
  · rw [if_neg e2,if_neg e2]; exact h.2 j hj
theorem AsC.stay {vs us:List NdV} {y n i:Int} {z:Nat} (h:AsC vs us) (hu:upN y n z<us.length) (hus:(ndi vs (upN y n z)).n.us=false):AsC vs (QgY y n i us z):=by
  have e:=h.2 _ hu
  rw [e] at hus
  unfold QgY
  rw [if_neg (by rw [hus]; decide)]
  exact h
section
variable {ds : List Deferred} {P : Program} {ops : Array Oper} {Q : Exit → Act → World → Prop} {rest : List Oper} {o : Oper} {N : Nat} {L : Env} {W : World} {Fe : Fence} {nf : Nat} {fuel k : Nat} {listed : Array Bool} {Rd : World → Prop}
end
end Go.Proofs.YthfkppjajmjpnaaDoor.Te
end
section
namespace Go.Proofs.YthfkppjajmjpnaaDoor.Te
open Go Go.RowKit
open Rely Auto Own Seat Sha
theorem AsC.all {us ts:List NdV} (h:AsC us ts) (j:Nat):(ndi us j).n=(ndi ts j).n:=by
  by_cases hj:j<ts.length
  · exact h.2 j hj
  · have e:∀ l:List NdV,l.length≤j→ndi l j=nd0:=fun l hl=>by unfold ndi; rw [List.getD_eq_getElem?_getD,List.getElem?_eq_none hl]; rfl
    rw [e us (by rw [h.1]; omega),e ts (by omega)]
theorem AsC.of {us ts:List NdV} (h:us.length=ts.length) (h2:∀ j,(ndi us j).n=(ndi ts j).n):AsC us ts:=⟨h,fun j _=>h2 j⟩
theorem AsC.refl (ts : List NdV):AsC ts ts:=⟨rfl,fun _ _=>rfl⟩
theorem AsC.trans {us ts vs:List NdV} (h:AsC us ts) (k:AsC ts vs):AsC us vs:=.of (h.1.trans k.1) fun j=>(h.all j).trans (k.all j)
theorem AsC.symm {us ts:List NdV} (h:AsC us ts):AsC ts us:=.of h.1.symm fun j=>(h.all j).symm
section
variable {us ts : List NdV}
theorem AsC.set (h : AsC us ts) (k:Nat) {n n':NdV} (hn:n.n=n'.n):AsC (us.set k n) (ts.set k n'):=by
  refine .of (by rw [List.length_set,List.length_set,h.1]) fun j=>?_
  by_cases e:k<ts.length
  · rw [Qcy n (by rw [h.1]; exact e),Qcy n' e]
    split
    · exact hn
    · exact h.all j
  · rw [List.set_eq_of_length_le (by rw [h.1]; omega),List.set_eq_of_length_le (by omega)]; exact h.all j
theorem AsC.app (h : AsC us ts) (vs:List NdV):AsC (us++vs) (ts++vs):=by
  refine .of (by rw [List.length_append,List.length_append,h.1]) fun j=>?_
  rw [Qfn,Qfn,h.1]
  split
  · exact h.all j
  · rfl
theorem AsC.take (h : AsC us ts) (k:Nat):AsC (us.take k) (ts.take k):=by
  refine ⟨by rw [List.length_take,List.length_take,h.1],fun j hj=>?_⟩
  rw [List.length_take] at hj
  rw [Qdo (by omega),Qdo (by omega)]
  exact h.all j
end
def lf (n : Int):NdV:=⟨⟨true,n,List.replicate 32 0,List.replicate 32 0,List.replicate 32 0,[]⟩,none,0⟩
theorem Qmf (n : Int):NdOk (lf n).n:=⟨rfl,rfl,rfl,zb,zb,zb⟩
end Go.Proofs.YthfkppjajmjpnaaDoor.Te
end
section
namespace Go.Proofs.YthfkppjajmjpnaaDoor.Te
open Go Go.RowKit
open Rely Auto Own Seat Sha
end Go.Proofs.YthfkppjajmjpnaaDoor.Te
end
section
namespace Go.Proofs.YthfkppjajmjpnaaDoor.Te
open Go Go.RowKit
open Rely Auto Own Seat Sha
set_option maxRecDepth 100000 in
theorem Ql5 : Qbx (fun n x=>(List.range n.toNat).all fun i=>abv x (2*((i:Nat):Int)) n==(decide ((bel x n).1≤((i:Nat):Int))&&decide (((i:Nat):Int)≤(bel x n).2)))=true:=by decide +kernel
set_option maxRecDepth 100000 in
theorem QlE : Qbx (fun n x=>decide (x%2=0) || (List.range n.toNat).all fun i=>abv x (2*((i:Nat):Int)) n==(List.range 6).any fun k=>decide (0≤upn (2*((i:Nat):Int)) n k)&&upn (2*((i:Nat):Int)) n k==x)=true:=by decide +kernel
set_option maxRecDepth 100000 in
theorem QlD : Qbx (fun n x=>decide (x%2=0) || (List.range n.toNat).all fun i=>!(abv x (2*((i:Nat):Int)) n) || (List.range 6).all fun k=>decide (upn (2*((i:Nat):Int)) n k<0) || ((abv x (upn (2*((i:Nat):Int)) n k) n&&!(upn (2*((i:Nat):Int)) n k==x))==!((List.range (k+1)).any fun j=>upn (2*((i:Nat):Int)) n j==x)))=true:=by decide +kernel
theorem Qe4 {n x:Int} {i:Nat} (h:Qa4 x n=true) (hi:((i:Nat):Int)<n):abv x (2*((i:Nat):Int)) n=(decide ((bel x n).1≤((i:Nat):Int))&&decide (((i:Nat):Int)≤(bel x n).2)):=by
  have:=List.all_eq_true.1 (QaN Ql5 h) i (List.mem_range.2 (by omega))
  exact eq_of_beq this
theorem QjR {n x:Int} {i:Nat} (h:Qa4 x n=true) (ho:x%2≠0) (hi:((i:Nat):Int)<n):abv x (2*((i:Nat):Int)) n=(List.range 6).any fun k=>decide (0≤upn (2*((i:Nat):Int)) n k)&&upn (2*((i:Nat):Int)) n k==x:=by
  have:=QaN QlE h
  rw [decide_eq_false ho,Bool.false_or] at this
  exact eq_of_beq (List.all_eq_true.1 this i (List.mem_range.2 (by omega)))
theorem Qi4 {n x:Int} {i k:Nat} (h:Qa4 x n=true) (ho:x%2≠0) (hi:((i:Nat):Int)<n) (ha:abv x (2*((i:Nat):Int)) n=true) (hk:0≤upn (2*((i:Nat):Int)) n k):(abv x (upn (2*((i:Nat):Int)) n k) n&&!(upn (2*((i:Nat):Int)) n k==x))=!((List.range (k+1)).any fun j=>upn (2*((i:Nat):Int)) n j==x):=by
  have:=QaN QlD h
  rw [decide_eq_false ho,Bool.false_or] at this
  have h2:=List.all_eq_true.1 this i (List.mem_range.2 (by omega))
  rw [ha,Bool.not_true,Bool.false_or] at h2
  have h3:=List.all_eq_true.1 h2 k (List.mem_range.2 (Qhx hk))
  rw [decide_eq_false (by omega),Bool.false_or] at h3
  exact eq_of_beq h3
section
variable {ts : List NdV} {n x : Int} {i : Nat}
theorem Qgr (h : Qa4 x n=true) (hi:((i:Nat):Int)<n) (ha:abv x (2*((i:Nat):Int)) n=false):Qbq ts n x ((i:Nat):Int)=false:=by
  rw [Qe4 h hi] at ha
  unfold Qbq
  rw [ha]; rfl
theorem QeX {y : Nat} (h:Qa4 x n=true) (ho:x%2≠0) (hi:((i:Nat):Int)<n) (ha:abv x (2*((i:Nat):Int)) n=true) (hy:Qa4 ((y:Nat):Int) n=true) (hyo:((y:Nat):Int)%2≠0) (hyx:((y:Nat):Int)≠x) (h1:abv x ((y:Nat):Int) n=true) (h2:abv ((y:Nat):Int) (2*((i:Nat):Int)) n=true)
    (hus:(ndi ts y).n.us=true) (hms:((i:Nat):Int)∉(ndi ts y).n.ms):Qbq ts n x ((i:Nat):Int)=false:=by
  rw [QjR hy hyo hi] at h2
  obtain ⟨k,hk,hk2⟩:=List.any_eq_true.1 h2
  simp only [Bool.and_eq_true,decide_eq_true_eq,beq_iff_eq] at hk2
  have h3:=Qi4 h ho hi ha hk2.1
  rw [hk2.2,h1,beq_eq_false_iff_ne.2 hyx] at h3
  have hup:upN (2*((i:Nat):Int)) n k=y:=by have:=Qef hk2.1; omega
  have hall:((List.range 6).all fun k=>QdO x (2*((i:Nat):Int)) n k || okU ts ((i:Nat):Int) n k)=false:=by
    rw [List.all_eq_false]
    refine ⟨k,hk,?_⟩
    have e1:QdO x (2*((i:Nat):Int)) n k=false:=by
      unfold QdO
      rw [decide_eq_false (by have:=hk2.1; omega),Bool.false_or]
      simpa using h3
    have e2:okU ts ((i:Nat):Int) n k=false:=by
      unfold okU
      rw [hup,hus,decide_eq_false hms]; rfl
    rw [e1,e2]; decide
  unfold Qbq
  rw [hall,Bool.and_false]
theorem Qea (h : Qa4 x n=true) (ho:x%2≠0) (hi:((i:Nat):Int)<n) (ha:abv x (2*((i:Nat):Int)) n=true) (hus:(ndi ts (2*i)).n.us=true)
    (hall:∀ y:Nat,((y:Nat):Int)≤2*n-2→y%2=1→((y:Nat):Int)≠x→(ndi ts y).n.us=true→abv x ((y:Nat):Int) n=true→abv ((y:Nat):Int) (2*((i:Nat):Int)) n=true→((i:Nat):Int)∈(ndi ts y).n.ms):Qbq ts n x ((i:Nat):Int)=true:=by
  have hb:=Qe4 h hi
  rw [ha] at hb
  unfold Qbq
  rw [show (2*((i:Nat):Int)).toNat=2*i by omega,hus,←hb,Bool.true_and,Bool.true_and]
  rw [List.all_eq_true]
  intro k hk
  rw [Bool.or_eq_true]
  by_cases hs:QdO x (2*((i:Nat):Int)) n k=true
  · exact .inl hs
  · right
    have hs:QdO x (2*((i:Nat):Int)) n k=false:=by simpa using hs
    unfold QdO at hs
    rw [Bool.or_eq_false_iff] at hs
    have hk0:0≤upn (2*((i:Nat):Int)) n k:=by have:=of_decide_eq_false hs.1; omega
    have h3:=Qi4 h ho hi ha hk0
    rw [hs.2,Bool.not_false,Bool.and_eq_true] at h3
    have hup:=Qef hk0
    have hnd:=Qgw hk0
    unfold okU
    cases hu:(ndi ts (upN (2*((i:Nat):Int)) n k)).n.us with
    | false=>rfl
    | true =>
      rw [Bool.not_true,Bool.false_or]
      refine decide_eq_true (hall _ ?_ ?_ ?_ hu ?_ ?_)
      · rw [hup]; exact (Qbl hnd).2.2.1
      · have:=Qhu hk0; omega
      · rw [hup]; intro e; rw [e] at h3; simp at h3
      · rw [hup]; exact h3.1
      · rw [hup,QjR hnd (by have:=Qhu hk0; omega) hi]
        exact List.any_eq_true.2 ⟨k,hk,by simp [hk0]⟩
end
end Go.Proofs.YthfkppjajmjpnaaDoor.Te
end
