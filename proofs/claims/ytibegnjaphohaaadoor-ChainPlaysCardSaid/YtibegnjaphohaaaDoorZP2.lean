/- Texts of this claim, joined (P2). -/
import Derived.Test.YtibegnjaphohaaaDoorZP1
import Derived.Laws.BitsAll
import Derived.Test.YtibegnjaphohaaaDoorRows
import Derived.Lib.TrailingZeros
import Derived.Laws.Bits64b

set_option linter.unusedVariables false
set_option linter.unusedSimpArgs false
set_option maxHeartbeats 4000000
section
namespace Go.Proofs.YtibegnjaphohaaaDoor.Cn
open Go Go.RowKit
open Rely Auto Own Sha
theorem Qbp (v : Int) (h:-5000000000≤v∧v≤5000000000):IntKind.i64.wrap v=v:=IntWalk.i64_in _ (by omega)
theorem shrB (B j:Nat) (hj:j<64):((B:Nat):Int).fdiv (2^min ((j:Nat):Int).toNat IntKind.u64.bits)=((B/2^j:Nat):Int):=by
  rw [show min (((j:Nat):Int).toNat) IntKind.u64.bits=j by show min (((j:Nat):Int).toNat) 64=j; omega]
  rw [Int.fdiv_eq_ediv_of_nonneg _ (Int.le_of_lt (Int.pow_pos (by decide))),Int.natCast_ediv,Int.natCast_pow]
  rfl
theorem andB (m : Nat) (h:m<18446744073709551616):bits .and .u64 ((m:Nat):Int) 1=((m%2:Nat):Int):=by
  rw [show (1:Int)=((1:Nat):Int) from rfl,bits_and_u64_nat m 1 h (by omega),Nat.and_one_is_mod]
theorem orB (a b:Nat) (ha:a<18446744073709551616) (hb:b<18446744073709551616):bits .or .u64 ((a:Nat):Int) ((b:Nat):Int)=((a|||b:Nat):Int):=by
  have h:=u64_or (a:Int) b (by omega) (by omega) (by omega) (by omega)
  simpa using h
theorem Qnf (m : Nat):IntKind.u64.wrap ((m:Nat):Int)=((m%18446744073709551616:Nat):Int):=by rw [IntKind.wrap_u64]; omega
theorem QiI (B a:Nat) (h:64≤a):B*2^a%18446744073709551616=0:=by
  obtain ⟨c,rfl⟩:∃ c,a=64+c:=⟨a-64,by omega⟩
  rw [Nat.pow_add,←Nat.mul_assoc,Nat.mul_comm B,Nat.mul_assoc]
  exact Nat.mul_mod_right _ _
theorem shlB (B a:Nat):IntKind.u64.wrap (((B:Nat):Int)*2^min ((a:Nat):Int).toNat IntKind.u64.bits)=((B*2^a%18446744073709551616:Nat):Int):=by
  have e:∀ c:Nat,((B:Nat):Int)*2^c=((B*2^c:Nat):Int):=fun c=>by rw [Int.natCast_mul,Int.natCast_pow]; rfl
  rw [e,Qnf]
  have hm:min (((a:Nat):Int).toNat) IntKind.u64.bits=min a 64:=by show min (((a:Nat):Int).toNat) 64=min a 64; rw [Int.toNat_natCast]
  rw [hm]
  rcases Nat.lt_or_ge a 64 with h | h
  · rw [show min a 64=a by omega]
  · rw [show min a 64=64 by omega,QiI B 64 (by omega),QiI B a h]
def chkW (nx : Int) (B:Nat) (n:Int):Int:=if n<0∨4294967295≤n then 8 else if 64<nx-1-n then 11 else if nx-1-n=0∨(0<nx-1-n∧B/2^(nx-1-n-1).toNat%2=1) then 7 else 0
def errV (e : Int):Value:=if e=0 then .nilIface else .iface 47 (.int .i64 e)
theorem QcA (g : Nat) (nx:Int) (B:Nat) (hnx:0≤nx∧nx≤4294967295) (hB:B<18446744073709551616) (sec:List Int) (pl mg:Nat) (hsec:sec.length=32) (w:World) (hg:w.heap[g]? = some (.cells (cat [#[.int .i64 nx],#[.int .u64 ((B:Nat):Int)],ints .u8 (sec),#[.int .i64 ((pl:Nat):Int)],#[.map (some mg)]]) 84)):Calls Tryd.prog 55 #[.pointer (some ⟨g,0,none⟩)] w (Ret w (.int .i64 (nx-1))):=by
  refine enter 8 [(0,.pointer (some ⟨g,0,none⟩))] Tryd.func55 rfl rfl kj rfl <| sgB kj <| sgC fun K3 hK3=>sg 3 kj <| Qab (.int .i64 nx) 6 rfl kj (Qag 3 _ g 0 84 _ (.int .i64 nx) _ hg rfl kj (Qaw [] [#[.int .i64 nx]] [#[.int .u64 ((B:Nat):Int)],ints .u8 (sec),#[.int .i64 ((pl:Nat):Int)],#[.map (some mg)]] 0 kj 0 _ rfl) kj) <| Qab (.int .i64 (nx-1)) 7 rfl kj (Qai (u:=.int .i64 (IntKind.i64.wrap (nx-1))) kj (congrArg (Value.int .i64) (Qbp _ (by omega)))) <| sg 1 kj <| sgN hK3 <| wp_ret ?_
  repeat (first | with_reducible refine goR1 ?_ | with_reducible refine goR2 ?_)
  exact (show bodyPost _ _ _ .ret _ _ from ret1 (.int .i64 (nx-1)) rfl (Qa2 kj) ⟨rfl,(Rely.Ext.refl w)⟩)
theorem QhI (g : Nat) (nx:Int) (B:Nat) (hnx:0≤nx∧nx≤4294967295) (hB:B<18446744073709551616) (sec:List Int) (pl mg:Nat) (hsec:sec.length=32) (w:World) (hg:w.heap[g]? = some (.cells (cat [#[.int .i64 nx],#[.int .u64 ((B:Nat):Int)],ints .u8 (sec),#[.int .i64 ((pl:Nat):Int)],#[.map (some mg)]]) 84)):Calls Tryd.prog 47 #[.pointer (some ⟨g,0,none⟩)] w (Ret w (.int .i64 (nx-1))):=by
  refine enter 9 [(0,.pointer (some ⟨g,0,none⟩))] Tryd.func47 rfl rfl kj rfl <| sgB kj <| wp_seq_k fun K3 hK3=>sgB kj <| cond_false kj <| wp_skip <| hK3 _ _ <| sgC fun K5 hK5=>sg 3 kj <| Qar (.int .i64 (nx-1)) 55 #[.pointer (some ⟨g,0,none⟩)] 8 rfl kj kj (QcA g nx B hnx hB sec pl mg hsec _ hg) fun W1 e1=>?_
  refine sg 1 kj <| sgN hK5 <| wp_ret ?_
  repeat (first | with_reducible refine goR1 ?_ | with_reducible refine goR2 ?_)
  exact (show bodyPost _ _ _ .ret _ _ from ret1 (.int .i64 (nx-1)) rfl (Qa2 kj) ⟨rfl,(Ext.tr (Rely.Ext.refl w) e1)⟩)
theorem Qmd (g : Nat) (nx:Int) (B:Nat) (n:Int) (hnx:0≤nx∧nx≤4294967295) (hB:B<18446744073709551616) (sec:List Int) (pl mg:Nat) (hsec:sec.length=32) (w:World) (hg:w.heap[g]? = some (.cells (cat [#[.int .i64 nx],#[.int .u64 ((B:Nat):Int)],ints .u8 (sec),#[.int .i64 ((pl:Nat):Int)],#[.map (some mg)]]) 84)) (hc:n<0):Calls Tryd.prog 53 #[.pointer (some ⟨g,0,none⟩),.int .i64 n] w (Ret w (.iface 47 (.int .i64 8))):=by
  refine enter 38 [(0,.pointer (some ⟨g,0,none⟩)),(1,.int .i64 n)] Tryd.func53 rfl rfl kj rfl <| sgB kj <| wp_seq_k fun K3 hK3=>sgC fun K4 hK4=>sg 1 kj <| Qab (.bool true) 7 rfl kj (Qai (u:=.bool (decide (n<0))) kj (congrArg Value.bool (decide_eq_true (by omega)))) <| sg 4 kj <| sgN hK4 <| cond_true kj <| sgB kj ?_
  refine wp_ret ?_
  repeat (first | with_reducible refine goR1 ?_ | with_reducible refine goR2 ?_)
  exact (show bodyPost _ _ _ .ret _ _ from ret1 (.iface 47 (.int .i64 8)) rfl (Qa2 kj) ⟨rfl,(Rely.Ext.refl w)⟩)
theorem Qmc (g : Nat) (nx:Int) (B:Nat) (n:Int) (hnx:0≤nx∧nx≤4294967295) (hB:B<18446744073709551616) (sec:List Int) (pl mg:Nat) (hsec:sec.length=32) (w:World) (hg:w.heap[g]? = some (.cells (cat [#[.int .i64 nx],#[.int .u64 ((B:Nat):Int)],ints .u8 (sec),#[.int .i64 ((pl:Nat):Int)],#[.map (some mg)]]) 84)) (hc:4294967295≤n):Calls Tryd.prog 53 #[.pointer (some ⟨g,0,none⟩),.int .i64 n] w (Ret w (.iface 47 (.int .i64 8))):=by
  refine enter 38 [(0,.pointer (some ⟨g,0,none⟩)),(1,.int .i64 n)] Tryd.func53 rfl rfl kj rfl <| sgB kj <| wp_seq_k fun K3 hK3=>sgC fun K4 hK4=>sg 1 kj <| Qab (.bool false) 7 rfl kj (Qai (u:=.bool (decide (n<0))) kj (congrArg Value.bool (decide_eq_false (by omega)))) <| sg 2 kj <| Qab (.bool true) 10 rfl kj (Qai (u:=.bool (decide (n≥4294967295))) kj (congrArg Value.bool (decide_eq_true (by omega)))) <| sg 1 kj <| sgN hK4 ?_
  refine cond_true kj <| sgB kj <| wp_ret ?_
  repeat (first | with_reducible refine goR1 ?_ | with_reducible refine goR2 ?_)
  exact (show bodyPost _ _ _ .ret _ _ from ret1 (.iface 47 (.int .i64 8)) rfl (Qa2 kj) ⟨rfl,(Rely.Ext.refl w)⟩)
theorem Qmb (g : Nat) (nx:Int) (B:Nat) (n:Int) (hnx:0≤nx∧nx≤4294967295) (hB:B<18446744073709551616) (sec:List Int) (pl mg:Nat) (hsec:sec.length=32) (w:World) (hg:w.heap[g]? = some (.cells (cat [#[.int .i64 nx],#[.int .u64 ((B:Nat):Int)],ints .u8 (sec),#[.int .i64 ((pl:Nat):Int)],#[.map (some mg)]]) 84)) (hn:0≤n∧n<4294967295) (hc:64<nx-1-n):Calls Tryd.prog 53 #[.pointer (some ⟨g,0,none⟩),.int .i64 n] w (Ret w (.iface 47 (.int .i64 11))):=by
  refine enter 38 [(0,.pointer (some ⟨g,0,none⟩)),(1,.int .i64 n)] Tryd.func53 rfl rfl kj rfl <| sgB kj <| wp_seq_k fun K3 hK3=>sgC fun K4 hK4=>sg 1 kj <| Qab (.bool false) 7 rfl kj (Qai (u:=.bool (decide (n<0))) kj (congrArg Value.bool (decide_eq_false (by omega)))) <| sg 2 kj <| Qab (.bool false) 10 rfl kj (Qai (u:=.bool (decide (n≥4294967295))) kj (congrArg Value.bool (decide_eq_false (by omega)))) <| sg 1 kj <| sgN hK4 ?_
  refine cond_false kj <| wp_skip <| hK3 _ _ <| sgC fun K5 hK5=>sg 1 kj <| Qar (.int .i64 (nx-1)) 55 #[.pointer (some ⟨g,0,none⟩)] 14 rfl kj kj (QcA g nx B hnx hB sec pl mg hsec _ hg) fun W1 e1=>sg 1 kj <| Qab (.int .i64 (nx-1-n)) 16 rfl kj (Qai (u:=.int .i64 (IntKind.i64.wrap ((nx-1)-n))) kj (congrArg (Value.int .i64) (Qbp _ (by omega)))) <| sg 1 kj <| sgN hK5 ?_
  refine wp_seq_k fun K6 hK6=>sgC fun K7 hK7=>sg 1 kj <| Qab (.bool true) 18 rfl kj (Qai (u:=.bool (decide ((nx-1-n)>64))) kj (congrArg Value.bool (decide_eq_true (by omega)))) <| sgN hK7 <| cond_true kj <| sgB kj <| wp_ret ?_
  repeat (first | with_reducible refine goR1 ?_ | with_reducible refine goR2 ?_)
  exact (show bodyPost _ _ _ .ret _ _ from ret1 (.iface 47 (.int .i64 11)) rfl (Qa2 kj) ⟨rfl,(Ext.tr (Rely.Ext.refl w) e1)⟩)
theorem Qma (g : Nat) (nx:Int) (B:Nat) (n:Int) (hnx:0≤nx∧nx≤4294967295) (hB:B<18446744073709551616) (sec:List Int) (pl mg:Nat) (hsec:sec.length=32) (w:World) (hg:w.heap[g]? = some (.cells (cat [#[.int .i64 nx],#[.int .u64 ((B:Nat):Int)],ints .u8 (sec),#[.int .i64 ((pl:Nat):Int)],#[.map (some mg)]]) 84)) (hn:0≤n∧n<4294967295) (hc:nx-1-n=0):Calls Tryd.prog 53 #[.pointer (some ⟨g,0,none⟩),.int .i64 n] w (Ret w (.iface 47 (.int .i64 7))):=by
  refine enter 38 [(0,.pointer (some ⟨g,0,none⟩)),(1,.int .i64 n)] Tryd.func53 rfl rfl kj rfl <| sgB kj <| wp_seq_k fun K3 hK3=>sgC fun K4 hK4=>sg 1 kj <| Qab (.bool false) 7 rfl kj (Qai (u:=.bool (decide (n<0))) kj (congrArg Value.bool (decide_eq_false (by omega)))) <| sg 2 kj <| Qab (.bool false) 10 rfl kj (Qai (u:=.bool (decide (n≥4294967295))) kj (congrArg Value.bool (decide_eq_false (by omega)))) <| sg 1 kj <| sgN hK4 ?_
  refine cond_false kj <| wp_skip <| hK3 _ _ <| sgC fun K5 hK5=>sg 1 kj <| Qar (.int .i64 (nx-1)) 55 #[.pointer (some ⟨g,0,none⟩)] 14 rfl kj kj (QcA g nx B hnx hB sec pl mg hsec _ hg) fun W1 e1=>sg 1 kj <| Qab (.int .i64 (nx-1-n)) 16 rfl kj (Qai (u:=.int .i64 (IntKind.i64.wrap ((nx-1)-n))) kj (congrArg (Value.int .i64) (Qbp _ (by omega)))) <| sg 1 kj <| sgN hK5 ?_
  refine wp_seq_k fun K6 hK6=>sgC fun K7 hK7=>sg 1 kj <| Qab (.bool false) 18 rfl kj (Qai (u:=.bool (decide ((nx-1-n)>64))) kj (congrArg Value.bool (decide_eq_false (by omega)))) <| sgN hK7 <| cond_false kj <| wp_skip <| hK6 _ _ <| wp_seq_k fun K8 hK8=>sgC fun K9 hK9=>?_
  refine sg 1 kj <| Qab (.bool true) 21 rfl kj (Qai (u:=.bool (((nx-1-n)==0))) kj (congrArg Value.bool (by simp; omega))) ?_
  refine sg 15 kj <| sgN hK9 <| cond_true kj <| sgB kj <| wp_ret ?_
  repeat (first | with_reducible refine goR1 ?_ | with_reducible refine goR2 ?_)
  exact (show bodyPost _ _ _ .ret _ _ from ret1 (.iface 47 (.int .i64 7)) rfl (Qa2 kj) ⟨rfl,(Ext.tr (Rely.Ext.refl w) e1)⟩)
theorem QlZ (g : Nat) (nx:Int) (B:Nat) (n:Int) (hnx:0≤nx∧nx≤4294967295) (hB:B<18446744073709551616) (sec:List Int) (pl mg:Nat) (hsec:sec.length=32) (w:World) (hg:w.heap[g]? = some (.cells (cat [#[.int .i64 nx],#[.int .u64 ((B:Nat):Int)],ints .u8 (sec),#[.int .i64 ((pl:Nat):Int)],#[.map (some mg)]]) 84)) (hn:0≤n∧n<4294967295) (j:Nat) (hj:nx-1-n-1=(j:Int)) (hj2:j<64) (hc:B/2^j%2=1):Calls Tryd.prog 53 #[.pointer (some ⟨g,0,none⟩),.int .i64 n] w (Ret w (.iface 47 (.int .i64 7))):=by
  refine enter 38 [(0,.pointer (some ⟨g,0,none⟩)),(1,.int .i64 n)] Tryd.func53 rfl rfl kj rfl <| sgB kj <| wp_seq_k fun K3 hK3=>sgC fun K4 hK4=>sg 1 kj <| Qab (.bool false) 7 rfl kj (Qai (u:=.bool (decide (n<0))) kj (congrArg Value.bool (decide_eq_false (by omega)))) <| sg 2 kj <| Qab (.bool false) 10 rfl kj (Qai (u:=.bool (decide (n≥4294967295))) kj (congrArg Value.bool (decide_eq_false (by omega)))) <| sg 1 kj <| sgN hK4 ?_
  refine cond_false kj <| wp_skip <| hK3 _ _ <| sgC fun K5 hK5=>sg 1 kj <| Qar (.int .i64 (nx-1)) 55 #[.pointer (some ⟨g,0,none⟩)] 14 rfl kj kj (QcA g nx B hnx hB sec pl mg hsec _ hg) fun W1 e1=>sg 1 kj <| Qab (.int .i64 (nx-1-n)) 16 rfl kj (Qai (u:=.int .i64 (IntKind.i64.wrap ((nx-1)-n))) kj (congrArg (Value.int .i64) (Qbp _ (by omega)))) <| sg 1 kj <| sgN hK5 ?_
  refine wp_seq_k fun K6 hK6=>sgC fun K7 hK7=>sg 1 kj <| Qab (.bool false) 18 rfl kj (Qai (u:=.bool (decide ((nx-1-n)>64))) kj (congrArg Value.bool (decide_eq_false (by omega)))) <| sgN hK7 <| cond_false kj <| wp_skip <| hK6 _ _ <| wp_seq_k fun K8 hK8=>sgC fun K9 hK9=>?_
  refine sg 1 kj <| Qab (.bool false) 21 rfl kj (Qai (u:=.bool (((nx-1-n)==0))) kj (congrArg Value.bool (by simp; omega))) ?_
  refine sg 2 kj <| Qab (.bool true) 24 rfl kj (Qai (u:=.bool (decide ((nx-1-n)>0))) kj (congrArg Value.bool (decide_eq_true (by omega)))) <| sg 4 kj <| Qab (.int .u64 ((B:Nat):Int)) 29 rfl kj (Qag 77 _ g 1 84 _ (.int .u64 ((B:Nat):Int)) _ (Qac hg e1) rfl kj (Qaw [#[.int .i64 nx]] [#[.int .u64 ((B:Nat):Int)]] [ints .u8 (sec),#[.int .i64 ((pl:Nat):Int)],#[.map (some mg)]] 1 kj 0 _ rfl) kj) <| sg 1 kj <| Qab (.int .i64 (((j:Nat):Int))) 31 rfl kj (Qai (u:=.int .i64 (IntKind.i64.wrap ((nx-1-n)-1))) kj (congrArg (Value.int .i64) (by rw [hj]; exact Qbp _ (by omega)))) ?_
  refine Qab (.int .u64 (((B/2^j:Nat):Int))) 32 rfl kj (Qa1 .shr _ _ _ _ .u64 .i64 _ _ _ rfl kj kj (QaQ _ _ _ _ _ _ (by omega) (shrB B j hj2))) <| Qab (.int .u64 (((B/2^j%2:Nat):Int))) 33 rfl kj (Qai (u:=.int .u64 (bits .and .u64 (((B/2^j:Nat):Int)) (1))) kj (congrArg (Value.int .u64) (andB _ (Nat.lt_of_le_of_lt (Nat.div_le_self _ _) hB)))) <| Qab (.bool true) 34 rfl kj (Qai (u:=.bool ((((B/2^j%2:Nat):Int)==1))) kj (congrArg Value.bool (by rw [hc]; rfl))) ?_
  refine sg 2 kj <| sgN hK9 <| cond_true kj <| sgB kj <| wp_ret ?_
  repeat (first | with_reducible refine goR1 ?_ | with_reducible refine goR2 ?_)
  exact (show bodyPost _ _ _ .ret _ _ from ret1 (.iface 47 (.int .i64 7)) rfl (Qa2 kj) ⟨rfl,(Ext.tr (Rely.Ext.refl w) e1)⟩)
theorem QlY (g : Nat) (nx:Int) (B:Nat) (n:Int) (hnx:0≤nx∧nx≤4294967295) (hB:B<18446744073709551616) (sec:List Int) (pl mg:Nat) (hsec:sec.length=32) (w:World) (hg:w.heap[g]? = some (.cells (cat [#[.int .i64 nx],#[.int .u64 ((B:Nat):Int)],ints .u8 (sec),#[.int .i64 ((pl:Nat):Int)],#[.map (some mg)]]) 84)) (hn:0≤n∧n<4294967295) (j:Nat) (hj:nx-1-n-1=(j:Int)) (hj2:j<64) (hc:B/2^j%2=0):Calls Tryd.prog 53 #[.pointer (some ⟨g,0,none⟩),.int .i64 n] w (Ret w (.nilIface)):=by
  refine enter 38 [(0,.pointer (some ⟨g,0,none⟩)),(1,.int .i64 n)] Tryd.func53 rfl rfl kj rfl <| sgB kj <| wp_seq_k fun K3 hK3=>sgC fun K4 hK4=>sg 1 kj <| Qab (.bool false) 7 rfl kj (Qai (u:=.bool (decide (n<0))) kj (congrArg Value.bool (decide_eq_false (by omega)))) <| sg 2 kj <| Qab (.bool false) 10 rfl kj (Qai (u:=.bool (decide (n≥4294967295))) kj (congrArg Value.bool (decide_eq_false (by omega)))) <| sg 1 kj <| sgN hK4 ?_
  refine cond_false kj <| wp_skip <| hK3 _ _ <| sgC fun K5 hK5=>sg 1 kj <| Qar (.int .i64 (nx-1)) 55 #[.pointer (some ⟨g,0,none⟩)] 14 rfl kj kj (QcA g nx B hnx hB sec pl mg hsec _ hg) fun W1 e1=>sg 1 kj <| Qab (.int .i64 (nx-1-n)) 16 rfl kj (Qai (u:=.int .i64 (IntKind.i64.wrap ((nx-1)-n))) kj (congrArg (Value.int .i64) (Qbp _ (by omega)))) <| sg 1 kj <| sgN hK5 ?_
  refine wp_seq_k fun K6 hK6=>sgC fun K7 hK7=>sg 1 kj <| Qab (.bool false) 18 rfl kj (Qai (u:=.bool (decide ((nx-1-n)>64))) kj (congrArg Value.bool (decide_eq_false (by omega)))) <| sgN hK7 <| cond_false kj <| wp_skip <| hK6 _ _ <| wp_seq_k fun K8 hK8=>sgC fun K9 hK9=>?_
  refine sg 1 kj <| Qab (.bool false) 21 rfl kj (Qai (u:=.bool (((nx-1-n)==0))) kj (congrArg Value.bool (by simp; omega))) ?_
  refine sg 2 kj <| Qab (.bool true) 24 rfl kj (Qai (u:=.bool (decide ((nx-1-n)>0))) kj (congrArg Value.bool (decide_eq_true (by omega)))) <| sg 4 kj <| Qab (.int .u64 ((B:Nat):Int)) 29 rfl kj (Qag 77 _ g 1 84 _ (.int .u64 ((B:Nat):Int)) _ (Qac hg e1) rfl kj (Qaw [#[.int .i64 nx]] [#[.int .u64 ((B:Nat):Int)]] [ints .u8 (sec),#[.int .i64 ((pl:Nat):Int)],#[.map (some mg)]] 1 kj 0 _ rfl) kj) <| sg 1 kj <| Qab (.int .i64 (((j:Nat):Int))) 31 rfl kj (Qai (u:=.int .i64 (IntKind.i64.wrap ((nx-1-n)-1))) kj (congrArg (Value.int .i64) (by rw [hj]; exact Qbp _ (by omega)))) ?_
  refine Qab (.int .u64 (((B/2^j:Nat):Int))) 32 rfl kj (Qa1 .shr _ _ _ _ .u64 .i64 _ _ _ rfl kj kj (QaQ _ _ _ _ _ _ (by omega) (shrB B j hj2))) <| Qab (.int .u64 (((B/2^j%2:Nat):Int))) 33 rfl kj (Qai (u:=.int .u64 (bits .and .u64 (((B/2^j:Nat):Int)) (1))) kj (congrArg (Value.int .u64) (andB _ (Nat.lt_of_le_of_lt (Nat.div_le_self _ _) hB)))) <| Qab (.bool false) 34 rfl kj (Qai (u:=.bool ((((B/2^j%2:Nat):Int)==1))) kj (congrArg Value.bool (by rw [hc]; rfl))) ?_
  refine sg 2 kj <| sgN hK9 <| cond_false kj <| wp_skip <| hK8 _ _ <| sgB kj <| wp_ret ?_
  repeat (first | with_reducible refine goR1 ?_ | with_reducible refine goR2 ?_)
  exact (show bodyPost _ _ _ .ret _ _ from ret1 (.nilIface) rfl (Qa2 kj) ⟨rfl,(Ext.tr (Rely.Ext.refl w) e1)⟩)
theorem QlX (g : Nat) (nx:Int) (B:Nat) (n:Int) (hnx:0≤nx∧nx≤4294967295) (hB:B<18446744073709551616) (sec:List Int) (pl mg:Nat) (hsec:sec.length=32) (w:World) (hg:w.heap[g]? = some (.cells (cat [#[.int .i64 nx],#[.int .u64 ((B:Nat):Int)],ints .u8 (sec),#[.int .i64 ((pl:Nat):Int)],#[.map (some mg)]]) 84)) (hn:0≤n∧n<4294967295) (hc:nx-1-n<0):Calls Tryd.prog 53 #[.pointer (some ⟨g,0,none⟩),.int .i64 n] w (Ret w (.nilIface)):=by
  refine enter 38 [(0,.pointer (some ⟨g,0,none⟩)),(1,.int .i64 n)] Tryd.func53 rfl rfl kj rfl <| sgB kj <| wp_seq_k fun K3 hK3=>sgC fun K4 hK4=>sg 1 kj <| Qab (.bool false) 7 rfl kj (Qai (u:=.bool (decide (n<0))) kj (congrArg Value.bool (decide_eq_false (by omega)))) <| sg 2 kj <| Qab (.bool false) 10 rfl kj (Qai (u:=.bool (decide (n≥4294967295))) kj (congrArg Value.bool (decide_eq_false (by omega)))) <| sg 1 kj <| sgN hK4 ?_
  refine cond_false kj <| wp_skip <| hK3 _ _ <| sgC fun K5 hK5=>sg 1 kj <| Qar (.int .i64 (nx-1)) 55 #[.pointer (some ⟨g,0,none⟩)] 14 rfl kj kj (QcA g nx B hnx hB sec pl mg hsec _ hg) fun W1 e1=>sg 1 kj <| Qab (.int .i64 (nx-1-n)) 16 rfl kj (Qai (u:=.int .i64 (IntKind.i64.wrap ((nx-1)-n))) kj (congrArg (Value.int .i64) (Qbp _ (by omega)))) <| sg 1 kj <| sgN hK5 ?_
  refine wp_seq_k fun K6 hK6=>sgC fun K7 hK7=>sg 1 kj <| Qab (.bool false) 18 rfl kj (Qai (u:=.bool (decide ((nx-1-n)>64))) kj (congrArg Value.bool (decide_eq_false (by omega)))) <| sgN hK7 <| cond_false kj <| wp_skip <| hK6 _ _ <| wp_seq_k fun K8 hK8=>sgC fun K9 hK9=>?_
  refine sg 1 kj <| Qab (.bool false) 21 rfl kj (Qai (u:=.bool (((nx-1-n)==0))) kj (congrArg Value.bool (by simp; omega))) ?_
  refine sg 2 kj <| Qab (.bool false) 24 rfl kj (Qai (u:=.bool (decide ((nx-1-n)>0))) kj (congrArg Value.bool (decide_eq_false (by omega)))) <| sg 12 kj <| sgN hK9 <| cond_false kj <| wp_skip <| hK8 _ _ <| sgB kj <| wp_ret ?_
  repeat (first | with_reducible refine goR1 ?_ | with_reducible refine goR2 ?_)
  exact (show bodyPost _ _ _ .ret _ _ from ret1 (.nilIface) rfl (Qa2 kj) ⟨rfl,(Ext.tr (Rely.Ext.refl w) e1)⟩)
theorem QhD (g : Nat) (nx:Int) (B:Nat) (n:Int) (hnx:0≤nx∧nx≤4294967295) (hB:B<18446744073709551616) (sec:List Int) (pl mg:Nat) (hsec:sec.length=32) (w:World) (hg:w.heap[g]? = some (.cells (cat [#[.int .i64 nx],#[.int .u64 ((B:Nat):Int)],ints .u8 (sec),#[.int .i64 ((pl:Nat):Int)],#[.map (some mg)]]) 84)):Calls Tryd.prog 53 #[.pointer (some ⟨g,0,none⟩),.int .i64 n] w (Ret w (errV (chkW nx B n))):=by
  unfold chkW
  by_cases h1:n<0
  · rw [if_pos (.inl h1)]; exact Qmd g nx B n hnx hB sec pl mg hsec w hg h1
  by_cases h2:4294967295≤n
  · rw [if_pos (.inr h2)]; exact Qmc g nx B n hnx hB sec pl mg hsec w hg h2
  rw [if_neg (by omega)]
  have hn:0≤n∧n<4294967295:=by omega
  by_cases h3:64<nx-1-n
  · rw [if_pos h3]; exact Qmb g nx B n hnx hB sec pl mg hsec w hg hn h3
  rw [if_neg h3]
  by_cases h4:nx-1-n=0
  · rw [if_pos (.inl h4)]; exact Qma g nx B n hnx hB sec pl mg hsec w hg hn h4
  by_cases h5:0<nx-1-n
  · obtain ⟨j,hj⟩:=Int.eq_ofNat_of_zero_le (show 0≤nx-1-n-1 by omega)
    have hj2:j<64:=by omega
    rw [hj,Int.toNat_natCast]
    have hm:B/2^j%2<2:=Nat.mod_lt _ (by decide)
    by_cases h6:B/2^j%2=1
    · rw [if_pos (.inr ⟨h5,h6⟩)]; exact QlZ g nx B n hnx hB sec pl mg hsec w hg hn j hj hj2 h6
    · rw [if_neg (by rintro (h | h); exact h4 h; exact h6 h.2)]; exact QlY g nx B n hnx hB sec pl mg hsec w hg hn j hj hj2 (by omega)
  · rw [if_neg (by rintro (h | h); exact h4 h; exact h5 h.1)]; exact QlX g nx B n hnx hB sec pl mg hsec w hg hn (by omega)
theorem Qj4 (g : Nat) (nx:Int) (B:Nat) (n:Int) (hnx:0≤nx∧nx≤4294967295) (hB:B<18446744073709551616) (sec:List Int) (pl mg:Nat) (hsec:sec.length=32) (w:World) (hg:w.heap[g]? = some (.cells (cat [#[.int .i64 nx],#[.int .u64 ((B:Nat):Int)],ints .u8 (sec),#[.int .i64 ((pl:Nat):Int)],#[.map (some mg)]]) 84)):Calls Tryd.prog 43 #[.pointer (some ⟨g,0,none⟩),.int .i64 n] w (Ret w (errV (chkW nx B n))):=by
  refine enter 13 [(0,.pointer (some ⟨g,0,none⟩)),(1,.int .i64 n)] Tryd.func43 rfl rfl kj rfl <| sgB kj <| wp_seq_k fun K3 hK3=>sgB kj <| cond_false kj <| wp_skip <| hK3 _ _ <| sgC fun K5 hK5=>sg 4 kj <| Qar (errV (chkW nx B n)) 53 #[.pointer (some ⟨g,0,none⟩),.int .i64 n] 12 rfl kj kj (QhD g nx B n hnx hB sec pl mg hsec _ hg) fun W1 e1=>?_
  refine sg 1 kj <| sgN hK5 <| wp_ret ?_
  repeat (first | with_reducible refine goR1 ?_ | with_reducible refine goR2 ?_)
  exact (show bodyPost _ _ _ .ret _ _ from ret1 (errV (chkW nx B n)) rfl (Qa2 kj) ⟨rfl,(Ext.tr (Rely.Ext.refl w) e1)⟩)
theorem Qcj {e : Int} (h:e≠0):errV e=.iface 47 (.int .i64 e):=by unfold errV; rw [if_neg h]
theorem Qb9 {e : Int} (h:e=0):errV e=.nilIface:=by unfold errV; rw [if_pos h]
theorem Ql0 (g : Nat) (nx:Int) (B:Nat) (n:Int) (hnx:0≤nx∧nx≤4294967295) (hB:B<18446744073709551616) (sec:List Int) (pl mg:Nat) (hsec:sec.length=32) (w:World) (hg:w.heap[g]? = some (.cells (cat [#[.int .i64 nx],#[.int .u64 ((B:Nat):Int)],ints .u8 (sec),#[.int .i64 ((pl:Nat):Int)],#[.map (some mg)]]) 84)) (hc:chkW nx B n≠0):Calls Tryd.prog 54 #[.pointer (some ⟨g,0,none⟩),.int .i64 n] w (Ret w (.iface 47 (.int .i64 (chkW nx B n)))):=by
  refine enter 48 [(0,.pointer (some ⟨g,0,none⟩)),(1,.int .i64 n)] Tryd.func54 rfl rfl kj rfl <| sgB kj <| wp_seq_k fun K3 hK3=>sgC fun K4 hK4=>sg 2 kj <| Qar (.iface 47 (.int .i64 (chkW nx B n))) 53 #[.pointer (some ⟨g,0,none⟩),.int .i64 n] 9 rfl kj kj (Qcj hc▸QhD g nx B n hnx hB sec pl mg hsec _ hg) fun W1 e1=>sg 1 kj <| sgN hK4 <| sgB kj <| cond_true kj ?_
  refine sgB kj <| wp_ret ?_
  repeat (first | with_reducible refine goR1 ?_ | with_reducible refine goR2 ?_)
  exact (show bodyPost _ _ _ .ret _ _ from ret1 (.iface 47 (.int .i64 (chkW nx B n))) rfl (Qa2 kj) ⟨rfl,(Ext.tr (Rely.Ext.refl w) e1)⟩)
theorem QlL (a b:Int) (h:-5000000000≤a∧a≤5000000000) (e:0-a=b):IntKind.i64.wrap (0-a)=b:=by rw [e]; exact Qbp _ (by omega)
theorem Qhn (j : Nat) (h:j<64):2^j<18446744073709551616:=Nat.pow_lt_pow_right (by decide) h
theorem shl1 (j : Nat) (h:j<64):IntKind.u64.wrap (1*2^min ((j:Nat):Int).toNat IntKind.u64.bits)=((2^j:Nat):Int):=by
  have:=shlB 1 j
  rw [Nat.one_mul,Nat.mod_eq_of_lt (Qhn j h)] at this
  exact this
theorem Qm5 (g : Nat) (nx:Int) (B:Nat) (n:Int) (hnx:0≤nx∧nx≤4294967295) (hB:B<18446744073709551616) (sec:List Int) (pl mg:Nat) (hsec:sec.length=32) (w:World) (hg:w.heap[g]? = some (.cells (cat [#[.int .i64 nx],#[.int .u64 ((B:Nat):Int)],ints .u8 (sec),#[.int .i64 ((pl:Nat):Int)],#[.map (some mg)]]) 84)) (hc:chkW nx B n=0) (j:Nat) (hj:nx-1-n-1=(j:Int)) (hj2:j<64):Calls Tryd.prog 54 #[.pointer (some ⟨g,0,none⟩),.int .i64 n] w (fun e w'=>e=.returned .nilIface∧ExtB g w w'∧w'.heap[g]? = some (.cells (cat [#[.int .i64 nx],#[.int .u64 ((B|||2^j:Nat):Int)],ints .u8 (sec),#[.int .i64 ((pl:Nat):Int)],#[.map (some mg)]]) 84)):=by
  refine enter 48 [(0,.pointer (some ⟨g,0,none⟩)),(1,.int .i64 n)] Tryd.func54 rfl rfl kj rfl <| sgB kj <| wp_seq_k fun K3 hK3=>sgC fun K4 hK4=>sg 2 kj <| Qar (.nilIface) 53 #[.pointer (some ⟨g,0,none⟩),.int .i64 n] 9 rfl kj kj (Qb9 hc▸QhD g nx B n hnx hB sec pl mg hsec _ hg) fun W1 e1=>sg 1 kj <| sgN hK4 <| sgB kj <| cond_false kj ?_
  refine wp_skip <| hK3 _ _ <| sgC fun K6 hK6=>sg 2 kj ?_
  have r1_1:=(Qac hg e1)
  refine Qar (.int .i64 (nx-1)) 55 #[.pointer (some ⟨g,0,none⟩)] 15 rfl kj kj (QcA g nx B hnx hB sec pl mg hsec _ r1_1) fun W2 e2=>Qab (.int .i64 (n-(nx-1))) 16 rfl kj (Qai (u:=.int .i64 (IntKind.i64.wrap (n-(nx-1)))) kj (congrArg (Value.int .i64) (Qbp _ (by omega)))) <| sg 1 kj <| sgN hK6 <| wp_seq_k fun K7 hK7=>sgC fun K8 hK8=>sg 1 kj <| Qab (.bool true) 18 rfl kj (Qai (u:=.bool (decide ((n-(nx-1))<0))) kj (congrArg Value.bool (decide_eq_true (by omega)))) <| sgN hK8 <| cond_true kj ?_
  refine wp_seq_k fun K9 hK9=>Qbq 11 [⟨none,[(0,none)]⟩,⟨none,[(19,some 0)]⟩,⟨none,[(20,some 1)]⟩,⟨none,[(21,some 2)]⟩,⟨none,[(6,none)]⟩,⟨none,[(23,some 4)]⟩,⟨none,[(24,some 5)]⟩,⟨none,[(25,some 6)]⟩,⟨none,[(22,some 3),(26,some 7)]⟩,⟨none,[(19,some 0)]⟩,⟨none,[(28,some 9)]⟩] kj kj fun F hF=>Qav (.pointer (some ⟨g,0,none⟩)) kj kj (fun W=>by kernel_rfl) <| Qav (.pointer (some ⟨g,0,none⟩)) kj kj (fun W=>by kernel_rfl) <| Qav (.pointer (some ⟨g,1,none⟩)) kj kj (fun W=>by kernel_rfl) ?_
  have r1_2:=(Qac r1_1 e2)
  refine Qbj (.int .u64 ((B:Nat):Int)) kj kj (fun W hR=>(Qag 77 _ g 1 84 _ (.int .u64 ((B:Nat):Int)) _ (Qac (Qac r1_2 (Qaz _)) hR) rfl kj (Qaw [#[.int .i64 nx]] [#[.int .u64 ((B:Nat):Int)]] [ints .u8 (sec),#[.int .i64 ((pl:Nat):Int)],#[.map (some mg)]] 1 kj 0 _ rfl) kj)) <| Qav (.int .i64 (n-(nx-1))) kj kj (fun W=>by kernel_rfl) <| Qav (.int .i64 (nx-1-n)) kj kj (fun W=>(Qai (u:=.int .i64 (IntKind.i64.wrap (0-(n-(nx-1))))) kj (congrArg (Value.int .i64) (QlL _ _ (by omega) (by omega))))) <| Qav (.int .i64 (((j:Nat):Int))) kj kj (fun W=>(Qai (u:=.int .i64 (IntKind.i64.wrap ((nx-1-n)-1))) kj (congrArg (Value.int .i64) (by rw [hj]; exact Qbp _ (by omega))))) ?_
  refine Qav (.int .u64 (((2^j:Nat):Int))) kj kj (fun W=>(Qa1 .shl _ _ _ _ .u64 .i64 _ _ _ rfl kj kj (Qg7 _ _ _ _ _ _ (by omega) (shl1 j hj2)))) <| Qav (.int .u64 (((B|||2^j:Nat):Int))) kj kj (fun W=>(Qai (u:=.int .u64 (bits .or .u64 (((B:Nat):Int)) (((2^j:Nat):Int)))) kj (congrArg (Value.int .u64) (orB _ _ hB (Qhn j hj2))))) <| Qav (.pointer (some ⟨g,0,none⟩)) kj kj (fun W=>by kernel_rfl) <| Qav (.pointer (some ⟨g,1,none⟩)) kj kj (fun W=>by kernel_rfl) <| Qb0 (hF _ kj fun W3 e3=>?_)
  simp only [ups,up,Kn.val,List.take_succ_cons,List.take_zero,List.drop_succ_cons,List.drop_zero,List.nil_append,List.cons_append]
  clear hF
  have r1_3:=(Qac r1_2 e3)
  refine Qaj g _ (cat [#[.int .i64 nx],#[.int .u64 (((B|||2^j:Nat):Int))],ints .u8 (sec),#[.int .i64 ((pl:Nat):Int)],#[.map (some mg)]]) 84 r1_3 rfl kj (Qbf 77 _ _ g 1 84 [#[.int .i64 nx]] [ints .u8 (sec),#[.int .i64 ((pl:Nat):Int)],#[.map (some mg)]] _ (.int .u64 (((B|||2^j:Nat):Int))) r1_3 rfl kj kj kj kj rfl rfl) fun W4 p4 r1_4=>sgN hK9 <| sgB kj <| wp_ret ?_
  repeat (first | with_reducible refine goR1 ?_ | with_reducible refine goR2 ?_)
  exact (show bodyPost _ _ _ .ret _ _ from ret1 (.nilIface) rfl (Qa2 kj) ⟨rfl,(ExtB.puts (ExtB.ext (ExtB.ext (ExtB.ext (ExtB.refl g w) e1) e2) e3) p4),r1_4⟩)
theorem Qm4 (g : Nat) (nx:Int) (B:Nat) (n:Int) (hnx:0≤nx∧nx≤4294967295) (hB:B<18446744073709551616) (sec:List Int) (pl mg:Nat) (hsec:sec.length=32) (w:World) (hg:w.heap[g]? = some (.cells (cat [#[.int .i64 nx],#[.int .u64 ((B:Nat):Int)],ints .u8 (sec),#[.int .i64 ((pl:Nat):Int)],#[.map (some mg)]]) 84)) (hc:chkW nx B n=0) (hn:0≤n∧n<4294967295) (a:Nat) (ha:n-(nx-1)=(a:Int)) (ha1:1≤a):Calls Tryd.prog 54 #[.pointer (some ⟨g,0,none⟩),.int .i64 n] w (fun e w'=>e=.returned .nilIface∧ExtB g w w'∧w'.heap[g]? = some (.cells (cat [#[.int .i64 (n+1)],#[.int .u64 ((B*2^a%18446744073709551616|||1*2^(a-1)%18446744073709551616:Nat):Int)],ints .u8 (sec),#[.int .i64 ((pl:Nat):Int)],#[.map (some mg)]]) 84)):=by
  refine enter 48 [(0,.pointer (some ⟨g,0,none⟩)),(1,.int .i64 n)] Tryd.func54 rfl rfl kj rfl <| sgB kj <| wp_seq_k fun K3 hK3=>sgC fun K4 hK4=>sg 2 kj <| Qar (.nilIface) 53 #[.pointer (some ⟨g,0,none⟩),.int .i64 n] 9 rfl kj kj (Qb9 hc▸QhD g nx B n hnx hB sec pl mg hsec _ hg) fun W1 e1=>sg 1 kj <| sgN hK4 <| sgB kj <| cond_false kj ?_
  refine wp_skip <| hK3 _ _ <| sgC fun K6 hK6=>sg 2 kj ?_
  have r1_1:=(Qac hg e1)
  refine Qar (.int .i64 (nx-1)) 55 #[.pointer (some ⟨g,0,none⟩)] 15 rfl kj kj (QcA g nx B hnx hB sec pl mg hsec _ r1_1) fun W2 e2=>Qab (.int .i64 (((a:Nat):Int))) 16 rfl kj (Qai (u:=.int .i64 (IntKind.i64.wrap (n-(nx-1)))) kj (congrArg (Value.int .i64) (by rw [ha]; exact Qbp _ (by omega)))) ?_
  refine sg 1 kj <| sgN hK6 <| wp_seq_k fun K7 hK7=>sgC fun K8 hK8=>sg 1 kj <| Qab (.bool false) 18 rfl kj (Qai (u:=.bool (decide (((a:Nat):Int)<0))) kj (congrArg Value.bool (decide_eq_false (by omega)))) <| sgN hK8 <| cond_false kj <| wp_skip <| hK7 _ _ ?_
  refine wp_seq_k fun K9 hK9=>Qbq 13 [⟨none,[(0,none)]⟩,⟨none,[(0,none)]⟩,⟨none,[(31,some 1)]⟩,⟨none,[(32,some 2)]⟩,⟨none,[(33,some 3)]⟩,⟨none,[(6,none)]⟩,⟨none,[(34,some 4),(35,some 5)]⟩,⟨none,[(6,none)]⟩,⟨none,[(37,some 7)]⟩,⟨none,[(38,some 8)]⟩,⟨none,[(36,some 6),(39,some 9)]⟩,⟨none,[(30,some 0)]⟩,⟨none,[(41,some 11)]⟩] kj kj fun F hF=>Qav (.pointer (some ⟨g,0,none⟩)) kj kj (fun W=>by kernel_rfl) <| Qav (.pointer (some ⟨g,0,none⟩)) kj kj (fun W=>by kernel_rfl) <| Qav (.pointer (some ⟨g,0,none⟩)) kj kj (fun W=>by kernel_rfl) <| Qav (.pointer (some ⟨g,1,none⟩)) kj kj (fun W=>by kernel_rfl) ?_
  have r1_2:=(Qac r1_1 e2)
  refine Qbj (.int .u64 ((B:Nat):Int)) kj kj (fun W hR=>(Qag 77 _ g 1 84 _ (.int .u64 ((B:Nat):Int)) _ (Qac (Qac r1_2 (Qaz _)) hR) rfl kj (Qaw [#[.int .i64 nx]] [#[.int .u64 ((B:Nat):Int)]] [ints .u8 (sec),#[.int .i64 ((pl:Nat):Int)],#[.map (some mg)]] 1 kj 0 _ rfl) kj)) <| Qav (.int .i64 (((a:Nat):Int))) kj kj (fun W=>by kernel_rfl) <| Qav (.int .u64 (((B*2^a%18446744073709551616:Nat):Int))) kj kj (fun W=>(Qa1 .shl _ _ _ _ .u64 .i64 _ _ _ rfl kj kj (Qg7 _ _ _ _ _ _ (by omega) (shlB B a)))) <| Qav (.int .i64 (((a:Nat):Int))) kj kj (fun W=>by kernel_rfl) <| Qav (.int .i64 (((a-1:Nat):Int))) kj kj (fun W=>(Qai (u:=.int .i64 (IntKind.i64.wrap (((a:Nat):Int)-1))) kj (congrArg (Value.int .i64) (by rw [show ((a-1:Nat):Int)=(a:Int)-1 by omega]; exact Qbp _ (by omega))))) ?_
  refine Qav (.int .u64 (((1*2^(a-1)%18446744073709551616:Nat):Int))) kj kj (fun W=>(Qa1 .shl _ _ _ _ .u64 .i64 _ _ _ rfl kj kj (Qg7 _ _ _ _ _ _ (by omega) (shlB 1 (a-1))))) <| Qav (.int .u64 (((B*2^a%18446744073709551616|||1*2^(a-1)%18446744073709551616:Nat):Int))) kj kj (fun W=>(Qai (u:=.int .u64 (bits .or .u64 (((B*2^a%18446744073709551616:Nat):Int)) (((1*2^(a-1)%18446744073709551616:Nat):Int)))) kj (congrArg (Value.int .u64) (orB _ _ (Nat.mod_lt _ (by decide)) (Nat.mod_lt _ (by decide)))))) <| Qav (.pointer (some ⟨g,0,none⟩)) kj kj (fun W=>by kernel_rfl) <| Qav (.pointer (some ⟨g,1,none⟩)) kj kj (fun W=>by kernel_rfl) <| Qb0 (hF _ kj fun W3 e3=>?_)
  simp only [ups,up,Kn.val,List.take_succ_cons,List.take_zero,List.drop_succ_cons,List.drop_zero,List.nil_append,List.cons_append]
  clear hF
  have r1_3:=(Qac r1_2 e3)
  refine Qaj g _ (cat [#[.int .i64 nx],#[.int .u64 (((B*2^a%18446744073709551616|||1*2^(a-1)%18446744073709551616:Nat):Int))],ints .u8 (sec),#[.int .i64 ((pl:Nat):Int)],#[.map (some mg)]]) 84 r1_3 rfl kj (Qbf 77 _ _ g 1 84 [#[.int .i64 nx]] [ints .u8 (sec),#[.int .i64 ((pl:Nat):Int)],#[.map (some mg)]] _ (.int .u64 (((B*2^a%18446744073709551616|||1*2^(a-1)%18446744073709551616:Nat):Int))) r1_3 rfl kj kj kj kj rfl rfl) fun W4 p4 r1_4=>sgN hK9 <| sgC fun K10 hK10=>sg 2 kj <| Qab (.int .i64 (n+1)) 45 rfl kj (Qai (u:=.int .i64 (IntKind.i64.wrap (n+1))) kj (congrArg (Value.int .i64) (Qbp _ (by omega)))) <| sg 2 kj <| Qaj g _ (cat [#[.int .i64 (n+1)],#[.int .u64 (((B*2^a%18446744073709551616|||1*2^(a-1)%18446744073709551616:Nat):Int))],ints .u8 (sec),#[.int .i64 ((pl:Nat):Int)],#[.map (some mg)]]) 84 r1_4 rfl kj (Qbf 3 _ _ g 0 84 [] [#[.int .u64 (((B*2^a%18446744073709551616|||1*2^(a-1)%18446744073709551616:Nat):Int))],ints .u8 (sec),#[.int .i64 ((pl:Nat):Int)],#[.map (some mg)]] _ (.int .i64 (n+1)) r1_4 rfl kj kj kj kj rfl rfl) fun W5 p5 r1_5=>sgN hK10 <| sgB kj <| wp_ret ?_
  repeat (first | with_reducible refine goR1 ?_ | with_reducible refine goR2 ?_)
  exact (show bodyPost _ _ _ .ret _ _ from ret1 (.nilIface) rfl (Qa2 kj) ⟨rfl,(ExtB.puts (ExtB.puts (ExtB.ext (ExtB.ext (ExtB.ext (ExtB.refl g w) e1) e2) e3) p4) p5),r1_5⟩)
theorem extB_trans {g : Nat} {a b c:World} (h:ExtB g a b) (k:ExtB g b c):ExtB g a c:=⟨k.1.trans h.1,k.2.1.trans h.2.1,k.2.2.1.trans h.2.2.1,qT h.2.2.2.1 k.2.2.2.1,fun i hi hn=>(k.2.2.2.2 i (qL hi h.2.2.2.1) hn).trans (h.2.2.2.2 i hi hn)⟩
theorem Qnb (g : Nat) (nx:Int) (B:Nat) (n:Int) (hnx:0≤nx∧nx≤4294967295) (hB:B<18446744073709551616) (sec:List Int) (pl mg:Nat) (hsec:sec.length=32) (w:World) (hg:w.heap[g]? = some (.cells (cat [#[.int .i64 nx],#[.int .u64 ((B:Nat):Int)],ints .u8 (sec),#[.int .i64 ((pl:Nat):Int)],#[.map (some mg)]]) 84)) (hc:chkW nx B n=0) (j:Nat) (hj:nx-1-n-1=(j:Int)) (hj2:j<64):Calls Tryd.prog 44 #[.pointer (some ⟨g,0,none⟩),.int .i64 n] w (fun e w'=>e=.returned .nilIface∧ExtB g w w'∧w'.heap[g]? = some (.cells (cat [#[.int .i64 nx],#[.int .u64 ((B|||2^j:Nat):Int)],ints .u8 (sec),#[.int .i64 ((pl:Nat):Int)],#[.map (some mg)]]) 84)):=by
  refine enter 13 [(0,.pointer (some ⟨g,0,none⟩)),(1,.int .i64 n)] Tryd.func44 rfl rfl kj rfl <| sgB kj <| wp_seq_k fun K3 hK3=>sgB kj <| cond_false kj <| wp_skip <| hK3 _ _ <| sgC fun K5 hK5=>sg 4 kj <| Qa6 (fun v W'=>v=.nilIface∧ExtB g w W'∧W'.heap[g]? = some (.cells (cat [#[.int .i64 nx],#[.int .u64 ((B|||2^j:Nat):Int)],ints .u8 (sec),#[.int .i64 ((pl:Nat):Int)],#[.map (some mg)]]) 84)) 54 #[.pointer (some ⟨g,0,none⟩),.int .i64 n] 12 rfl kj kj ((Qm5 g nx B n hnx hB sec pl mg hsec _ hg hc j hj hj2).mono fun e w' ⟨h1,h2,h3⟩=>⟨_,h1,rfl,h2,h3⟩) fun v W1 h=>?_
  obtain ⟨rfl,q1,r1_1⟩:=h
  refine sg 1 kj <| sgN hK5 <| wp_ret ?_
  repeat (first | with_reducible refine goR1 ?_ | with_reducible refine goR2 ?_)
  exact (show bodyPost _ _ _ .ret _ _ from ret1 (.nilIface) rfl (Qa2 kj) ⟨rfl,(extB_trans (ExtB.refl g w) q1),r1_1⟩)
theorem Qna (g : Nat) (nx:Int) (B:Nat) (n:Int) (hnx:0≤nx∧nx≤4294967295) (hB:B<18446744073709551616) (sec:List Int) (pl mg:Nat) (hsec:sec.length=32) (w:World) (hg:w.heap[g]? = some (.cells (cat [#[.int .i64 nx],#[.int .u64 ((B:Nat):Int)],ints .u8 (sec),#[.int .i64 ((pl:Nat):Int)],#[.map (some mg)]]) 84)) (hc:chkW nx B n=0) (hn:0≤n∧n<4294967295) (a:Nat) (ha:n-(nx-1)=(a:Int)) (ha1:1≤a):Calls Tryd.prog 44 #[.pointer (some ⟨g,0,none⟩),.int .i64 n] w (fun e w'=>e=.returned .nilIface∧ExtB g w w'∧w'.heap[g]? = some (.cells (cat [#[.int .i64 (n+1)],#[.int .u64 ((B*2^a%18446744073709551616|||1*2^(a-1)%18446744073709551616:Nat):Int)],ints .u8 (sec),#[.int .i64 ((pl:Nat):Int)],#[.map (some mg)]]) 84)):=by
  refine enter 13 [(0,.pointer (some ⟨g,0,none⟩)),(1,.int .i64 n)] Tryd.func44 rfl rfl kj rfl <| sgB kj <| wp_seq_k fun K3 hK3=>sgB kj <| cond_false kj <| wp_skip <| hK3 _ _ <| sgC fun K5 hK5=>sg 4 kj <| Qa6 (fun v W'=>v=.nilIface∧ExtB g w W'∧W'.heap[g]? = some (.cells (cat [#[.int .i64 (n+1)],#[.int .u64 ((B*2^a%18446744073709551616|||1*2^(a-1)%18446744073709551616:Nat):Int)],ints .u8 (sec),#[.int .i64 ((pl:Nat):Int)],#[.map (some mg)]]) 84)) 54 #[.pointer (some ⟨g,0,none⟩),.int .i64 n] 12 rfl kj kj ((Qm4 g nx B n hnx hB sec pl mg hsec _ hg hc hn a ha ha1).mono fun e w' ⟨h1,h2,h3⟩=>⟨_,h1,rfl,h2,h3⟩) fun v W1 h=>?_
  obtain ⟨rfl,q1,r1_1⟩:=h
  refine sg 1 kj <| sgN hK5 <| wp_ret ?_
  repeat (first | with_reducible refine goR1 ?_ | with_reducible refine goR2 ?_)
  exact (show bodyPost _ _ _ .ret _ _ from ret1 (.nilIface) rfl (Qa2 kj) ⟨rfl,(extB_trans (ExtB.refl g w) q1),r1_1⟩)
end Go.Proofs.YtibegnjaphohaaaDoor.Cn
end
section
namespace Go.Proofs.YtibegnjaphohaaaDoor.Wm
open Go Go.RowKit
open Rely Auto
variable {P : Program} {ops : Array Oper} {Q : Exit → Act → World → Prop}
def allM (P : Program) (ops:Array Oper) (Q:Exit→Act→World→Prop) (Rd:World→Prop) (m:Nat):Nat→Array Bool→Act→World→Prop
  | 0,listed,a,w=>Region.ready .any ops listed=[]∧Q .normal a w
  | fuel+1,listed,a,w=>(Region.ready .any ops listed=[]→Q .normal a w)∧∀ i∈Region.ready .any ops listed,wpOp P ops Q i (fun a' w'=>(i≠m→Rd w')∧allM P ops Q Rd m fuel (listed.setIfInBounds i true) a' w') a w
theorem QhF {Rd : World→Prop} {m:Nat}:∀ (fuel:Nat) (listed:Array Bool) (a:Act) (w:World),allM P ops Q Rd m fuel listed a w→wpAny P .any ops Q fuel listed a w
  | 0,_,_,_,h=>h
  | _+1,_,_,_,h=>⟨h.1,fun i hi=>wpOp_mono (fun a w h=>QhF _ _ a w h.2) (h.2 i hi)⟩
def Qcl (P : Program) (ops:Array Oper) (Rd:World→Prop) (o:Oper) (v:Value) (a:Act):Prop :=
  (Region.wanted o (yielded ops a.tmps)=true∧∀ w,Rd w→(execOp a.eval o).run P w=.ok (.value v) w)∨(Region.wanted o (yielded ops a.tmps)=false∧v=undef)
theorem Qcl.wpOp {Rd : World→Prop} {i:Nat} {o:Oper} {v:Value} {a:Act} (hi:ops[i]? = some o) (hy:Qcl P ops Rd o v a) {K:Act→World→Prop} {w:World} (hw:Rd w) (h:K (a.put o.dst v) w):wpOp P ops Q i K a w:=by
  unfold Go.wpOp
  simp only [hi]
  rcases hy with ⟨hw1,hv⟩ | ⟨hw1,rfl⟩
  · simp only [hw1,if_true,Oper.wp,hv w hw,Oper.upon]; exact .inl h
  · simp only [hw1,Bool.false_eq_true,if_false]; exact h
theorem Qcl.same {Rd : World→Prop} {o:Oper} {v:Value} {a a':Act} (hy:Qcl P ops Rd o v a) (he:execOp a'.eval o=execOp a.eval o) (hw:Region.wanted o (yielded ops a'.tmps)=Region.wanted o (yielded ops a.tmps)):Qcl P ops Rd o v a':=by
  unfold Qcl at *
  rw [he,hw]
  exact hy
theorem Qlw {Rd : World→Prop} {j:Nat} {oi oj:Oper} {v:Value} (hj:ops[j]? = some oj) (hap:oi.apart ops oj=true) (hsi:∀ cs b,oi.op≠.select cs b) (hsj:∀ cs b,oj.op≠.select cs b)
    (hQ:∀ c a w,Q (.panic c) (a.put oi.dst v) w→Q (.panic c) a w) {K:Act→World→Prop} {a:Act} {w:World} (hy:Qcl P ops Rd oi v a) (h:wpOp P ops Q j K (a.put oi.dst v) w) :
    wpOp P ops Q j (fun a' w'=>Qcl P ops Rd oi v a'∧K (a'.put oi.dst v) w') a w:=by
  obtain ⟨h1,h2,h3⟩:=Oper.apart_spec hap
  have keep:∀ (a:Act),Qcl P ops Rd oi v a→∀ u,Qcl P ops Rd oi v (a.put oj.dst u):=fun a hy u=>hy.same (execOp_put oi hsi a oj.dst u h3) (wanted_put oi a oj.dst u h3)
  have keepD:∀ d,Qcl P ops Rd oi v { a with defers:=d::a.defers }:=fun d=>hy.same rfl rfl
  unfold wpOp at *
  simp only [hj] at *
  rw [wanted_put oj a oi.dst v h1] at h
  split
  · rename_i hw
    simp only [hw,if_true] at h
    rcases h with h | ⟨hasks,hlets⟩
    case inr=>exact .inr ⟨by unfold Oper.asks at *; rw [execOp_put oj hsj a oi.dst v h1] at hasks; exact hasks,hlets⟩
    refine .inl ?_
    unfold Oper.wp at *
    rw [execOp_put oj hsj a oi.dst v h1] at h
    generalize (execOp a.eval oj).run P w=r at *
    cases r with
    | ok n w' =>
      cases n <;> simp only [Oper.upon] at h ⊢
      case value u=>exact ⟨keep a hy u,by rw [←Act.put_comm a v u h2]; exact h⟩
      case skip=>exact ⟨keep a hy _,by rw [←Act.put_comm a v undef h2]; exact h⟩
      case defer d =>
        refine ⟨keep _ (keepD d) _,?_⟩
        rw [←Act.put_comm _ v undef h2,←Act.put_defers]
        exact h
      case enter f args =>
        refine Calls.mono h fun e w'' he=>?_
        cases e with
        | returned u=>exact ⟨keep a hy u,by rw [←Act.put_comm a v u h2]; exact he⟩
        | panicked c=>exact hQ _ _ _ he
        | outgrown=>exact he
      case row row args=>exact Rows.mono h fun u w'' he=>⟨keep a hy u,by rw [←Act.put_comm a v u h2]; exact he⟩
    | halt x w' =>
      cases x <;> simp only [Oper.upon] at h ⊢
      case panic u=>exact hQ _ _ _ h
  · rename_i hw
    simp only [hw] at h
    exact ⟨keep a hy _,by rw [←Act.put_comm a v undef h2]; exact h⟩
theorem Qin {Rd : World→Prop} {m:Nat} {i:Nat} {oi:Oper} {v:Value} (hi:ops[i]? = some oi) (hsel:∀ (j:Nat) (o:Oper) cs b,ops[j]? = some o→o.op≠.select cs b) (him:i≠m) (hwait:∃ om e,ops[m]? = some om∧e∈om.after∧Region.binds .any e=true∧e.on=i) (hQ:∀ c a w,Q (.panic c) (a.put oi.dst v) w→Q (.panic c) a w) :
    ∀ (fuel:Nat) (listed:Array Bool) (a:Act) (w:World),Rd w →
      (∀ j oj,ops[j]? = some oj→j≠i→listed.getD j true=false→(∀ e∈oj.after,Region.binds .any e=true→e.on≠i)→oi.apart ops oj=true) →
      i∈Region.ready .any ops listed→Qcl P ops Rd oi v a→allM P ops Q Rd m fuel (listed.setIfInBounds i true) (a.put oi.dst v) w→allM P ops Q Rd m (fuel+1) listed a w:=by
  intro fuel
  induction fuel with
  | zero =>
    intro listed a w hw _ hr hy H
    refine ⟨fun h=>(by rw [h] at hr; cases hr),fun j hj=>?_⟩
    by_cases hji:j=i
    · subst hji; exact hy.wpOp hi hw ⟨fun _=>hw,H⟩
    · have:=ready_mono hj hji
      rw [H.1] at this
      cases this
  | succ fuel ih =>
    intro listed a w hw hfree hr hy H
    refine ⟨fun h=>(by rw [h] at hr; cases hr),fun j hj=>?_⟩
    by_cases hji:j=i
    · subst hji; exact hy.wpOp hi hw ⟨fun _=>hw,H⟩
    · have h1:=H.2 j (ready_mono hj hji)
      obtain ⟨hjun,oj,hoj,hall⟩:=mem_ready.1 hj
      have hnot:∀ e∈oj.after,Region.binds .any e=true→e.on≠i:=fun e he hb heq=>by
        have h1:=hall e he hb
        have h0:=(mem_ready.1 hr).1
        rw [heq] at h1
        rcases Nat.lt_or_ge i listed.size with h' | h'
        · simp [h'] at h0 h1; rw [h0] at h1; cases h1
        · simp [Array.getElem?_eq_none h'] at h1
      have hjm:j≠m:=fun q=>by
        subst q
        obtain ⟨om,e,hom,he,hb,heq⟩:=hwait
        rw [hoj] at hom
        exact hnot e (Option.some.inj hom▸he) hb heq
      have h2:=Qlw hoj (hfree j oj hoj hji hjun hnot) (fun cs b=>hsel i oi cs b hi) (fun cs b=>hsel j oj cs b hoj) hQ hy h1
      have hfree':∀ k ok,ops[k]? = some ok→k≠i→(listed.setIfInBounds j true).getD k true=false→(∀ e∈ok.after,Region.binds .any e=true→e.on≠i)→oi.apart ops ok=true:=fun k ok hk hki hun hno=>by
        refine hfree k ok hk hki ?_ hno
        by_cases hjk:j=k
        · subst hjk; exact hjun
        · rw [getD_set_ne true hjk] at hun; exact hun
      refine wpOp_mono (fun a' w' h3=>⟨fun _=>h3.2.1 hjm,ih (listed.setIfInBounds j true) a' w' (h3.2.1 hjm) hfree' (ready_mono hr (Ne.symm hji)) h3.1 ?_⟩) h2
      rw [Array.setIfInBounds_comm _ _ hji]
      exact h3.2.2
structure WM (P : Program) (ops : Array Oper) (Q : Exit → Act → World → Prop) (Rd : World → Prop) (m fuel : Nat) (listed : Array Bool) (a : Act) (w : World) : Prop where
  out:Rd w→allM P ops Q Rd m fuel listed a w
variable {o : Oper} {N : Nat} {L : Env} {w V : World} {ds : List Deferred} {fuel : Nat} {listed : Array Bool} {k m : Nat} {a : Act} {Rd : World → Prop}
theorem region_walkM {id : Nat} {l:List Oper} (Rd:World→Prop) (m:Nat) (hm:P.follows .mixedOrders=true) (h:∀ W,Ext w W→Rd W∧WM P l.toArray Q Rd m l.length (Array.replicate l.length false) (Qa0 ds N L) W):(Code.region id l.toArray true).wp P Q (Qa0 ds N L) w:=by
  refine wp_region_any hm ?_
  obtain ⟨h1,h2⟩:=h w.drew (Qaz w)
  have:=QhF _ _ _ _ (h2.out h1)
  simpa using this
def waits (ops : Array Oper) (m k:Nat):Bool:=match ops[m]? with | some om=>om.after.any (fun e=>Region.binds .any e&&e.on==k) | none=>false
theorem QhL (h : waits ops m k=true):∃ om e,ops[m]? = some om∧e∈om.after∧Region.binds .any e=true∧e.on=k:=by
  unfold waits at h
  split at h
  · rename_i om ho
    obtain ⟨i,hi,h1⟩:=Array.any_eq_true.1 h
    simp only [Bool.and_eq_true,beq_iff_eq] at h1
    exact ⟨om,_,ho,Array.getElem_mem hi,h1.1,h1.2⟩
  · cases h
theorem wm_val (k : Nat) (v:Value) (d:Nat) (ho:ops[k]? = some o) (hd:o.dst=some d) (hg:Qbr ops o N L=some true) (hc:(Region.noSelect ops&&Region.free .any ops listed k&&(Region.ready .any ops listed).contains k)=true) (hkm:k≠m) (hwt:waits ops m k=true)
    (hQ:∀ c a w,Q (.panic c) (a.put o.dst v) w→Q (.panic c) a w) (h:∀ W,Rd W→(execOp (Rely.look (envN N L)) o).run P W=.ok (.value v) W) (kk:WM P ops Q Rd m fuel (listed.setIfInBounds k true) (Qa0 ds N ((d,v)::L)) w):WM P ops Q Rd m (fuel+1) listed (Qa0 ds N L) w:=by
  simp only [Bool.and_eq_true] at hc
  refine ⟨fun hw=>Qin ho (Region.noSelect_spec hc.1.1) hkm (QhL hwt) hQ fuel listed _ w hw (Region.free_spec ho hc.1.2) (by simpa using hc.2) (.inl ⟨QbP hg,fun W hW=>?_⟩) ?_⟩
  · rw [Qbm]; exact h W hW
  · rw [hd,Qbo]; exact kk.out hw
theorem wm_call (k : Nat) (hr:Region.ready .any ops listed=[k]) (ho:ops[k]? = some o) (R:Value→World→Prop) (f:FuncId) (args:Array Value) (d:Nat) (hd:o.dst=some d) (hg:Qbr ops o N L=some true)
    (h:(execOp (Rely.look (envN N L)) o).run P w=.ok (.enter f args) w) (hc:Calls P f args w fun e w'=>∃ v,e=.returned v∧R v w') (hR:∀ v W,R v W→Rd W) (kk:∀ (v:Value) (W:World),R v W→WM P ops Q Rd m fuel (listed.setIfInBounds k true) (Qa0 ds N ((d,v)::L)) W):WM P ops Q Rd m (fuel+1) listed (Qa0 ds N L) w:=by
  refine ⟨fun _=>⟨fun h0=>(by rw [hr] at h0; cases h0),fun i hi=>?_⟩⟩
  rw [hr] at hi
  obtain rfl:i=k:=by simpa using hi
  unfold wpOp
  rw [ho]
  simp only [QbP hg,if_true]
  refine .inl ?_
  unfold Oper.wp
  rw [Qbm,h]
  refine hc.mono ?_
  rintro e w' ⟨v,rfl,hw⟩
  show _∧allM _ _ _ _ _ _ _ _ _
  rw [hd,Qbo]
  exact ⟨fun _=>hR v w' hw,(kk v w' hw).out (hR v w' hw)⟩
theorem wm_run (k : Nat) (hr:Region.ready .any ops listed=[k]) (ho:ops[k]? = some o) (R:Value→World→Prop) (d:Nat) (hd:o.dst=some d) (hg:Qbr ops o N L=some true) (h:∃ v W,(execOp (Rely.look (envN N L)) o).run P w=.ok (.value v) W∧R v W) (hR:∀ v W,R v W→Rd W)
    (kk:∀ (v:Value) (W:World),R v W→WM P ops Q Rd m fuel (listed.setIfInBounds k true) (Qa0 ds N ((d,v)::L)) W):WM P ops Q Rd m (fuel+1) listed (Qa0 ds N L) w:=by
  obtain ⟨v,W,h1,h2⟩:=h
  refine ⟨fun _=>⟨fun h0=>(by rw [hr] at h0; cases h0),fun i hi=>?_⟩⟩
  rw [hr] at hi
  obtain rfl:i=k:=by simpa using hi
  unfold wpOp
  rw [ho]
  simp only [QbP hg,if_true]
  refine .inl ?_
  unfold Oper.wp
  rw [Qbm,h1]
  show _∧allM _ _ _ _ _ _ _ _ _
  rw [hd,Qbo]
  exact ⟨fun _=>hR v W h2,(kk v W h2).out (hR v W h2)⟩
theorem wm_last (hr : Region.ready .any ops listed=[m]) (hr2:Region.ready .any ops (listed.setIfInBounds m true)=[]) (ho:ops[m]? = some o) (R:World→Prop) (hd:o.dst=none) (hg:Qbr ops o N L=some true) (h:∃ W,(execOp (Rely.look (envN N L)) o).run P w=.ok .skip W∧R W)
    (kk:∀ W,R W→Q .normal (Qa0 ds N L) W):WM P ops Q Rd m (fuel+1) listed (Qa0 ds N L) w:=by
  obtain ⟨W,h1,h2⟩:=h
  refine ⟨fun _=>⟨fun h0=>(by rw [hr] at h0; cases h0),fun i hi=>?_⟩⟩
  rw [hr] at hi
  obtain rfl:i=m:=by simpa using hi
  unfold wpOp
  rw [ho]
  simp only [QbP hg,if_true]
  refine .inl ?_
  unfold Oper.wp
  rw [Qbm,h1]
  show _∧allM _ _ _ _ _ _ _ _ _
  rw [hd,show (Qa0 ds N L).put none undef=Qa0 ds N L from rfl]
  refine ⟨fun q=>absurd rfl q,?_⟩
  cases fuel with
  | zero=>exact ⟨hr2,kk W h2⟩
  | succ n=>exact ⟨fun _=>kk W h2,by rw [hr2]; simp⟩
theorem wm_store (g : Nat) (old cs:Array Value) (t:TypeId) (hgr:w.heap[g]? = some (.cells old t)) (hr:Region.ready .any ops listed=[m]) (hr2:Region.ready .any ops (listed.setIfInBounds m true)=[]) (ho:ops[m]? = some o) (hd:o.dst=none) (hg:Qbr ops o N L=some true) (h:(execOp (Rely.look (envN N L)) o).run P w=.ok .skip (w.setRow g cs))
    (kk:∀ W,Puts w g W→W.heap[g]? = some (.cells cs t)→Q .normal (Qa0 ds N L) W):WM P ops Q Rd m (fuel+1) listed (Qa0 ds N L) w :=
  wm_last hr hr2 ho (fun W=>Puts w g W∧W.heap[g]? = some (.cells cs t)) hd hg ⟨_,h,Qbw _ _ _,setRow_heap _ _ _ _ _ _ hgr⟩ fun W hh=>kk W hh.1 hh.2
end Go.Proofs.YtibegnjaphohaaaDoor.Wm
end
section
namespace Go.Proofs.YtibegnjaphohaaaDoor.Cn
open Go Go.RowKit
open Rely Auto Own Sha
theorem QfQ (pl : Nat→Option (Nat×Nat)):∀ (ps:List (Nat×Nat×Value×Array Value)) (pre:List (Array Value)) (rest:Array Value) (off:Nat),(cat pre).size=off→okPl pl off ps→tot ps=rest.size →
    Instr.fill pl (cat pre++rest) (ps.map fun x=>(x.1,x.2.2.1))=some (cat (pre++ps.map fun x=>x.2.2.2))
  | [],pre,rest,off,_,_,ht=>by
    have:rest=#[]:=Array.eq_empty_of_size_eq_zero ht.symm
    subst this
    simp [Instr.fill]
  | (i,n,v,p)::r,pre,rest,off,hoff,⟨h1,h2,h3,h4⟩,ht=>by
    subst h2
    have hn:n≤rest.size:=by rw [←ht,tot]; omega
    simp only [List.map_cons,Instr.fill,h1,h3]
    rw [if_neg (by simp; omega)]
    have hz:(v.cells.zipIdx.foldl (fun cs (x:Value×Nat)=>cs.setIfInBounds (off+x.2) x.1) (cat pre++rest))=cat (pre++[v.cells])++rest.extract n rest.size:=by
      have e1:v.cells.zipIdx=(v.cells.toList.zipIdx 0).toArray:=by
        apply Array.ext'
        simp
      rw [e1,List.foldl_toArray',Qdf]
      · have e2:rest=rest.extract 0 n++rest.extract n rest.size:=by
          rw [Array.extract_append_extract,Nat.max_eq_right hn]
          simp
        have e3:(cat pre++rest)=cat (pre++([rest.extract 0 n]++[rest.extract n rest.size])):=by
          rw [QaT]
          congr 1
        rw [Nat.add_zero,e3]
        have:=Qee pre [rest.extract 0 n] [v.cells] [rest.extract n rest.size] off hoff (by show v.cells.size=(rest.extract 0 n).size; simp; omega)
        rw [show (cat [v.cells]).toList=v.cells.toList from rfl] at this
        rw [this,←List.append_assoc,QaT (pre++[v.cells])]
        rfl
      · rfl
    have key:=QfQ pl r (pre++[v.cells]) (rest.extract n rest.size) (off+n) (by rw [QaT]; show (cat pre++v.cells).size=_; simp; omega) h4 (by simp; rw [←ht,tot]; omega)
    rw [←hz] at key
    rw [List.append_assoc] at key
    exact key
theorem Qfl {P : Program} {ρ:Operand→Value} {o:Oper} {w:World} (t:TypeId) (parts:Array (Nat×Operand)) (z:Value) (places:Array (Nat×Nat)) (ps:List (Nat×Nat×Value×Array Value))
    (ho:o.op=.build t parts) (hv:(parts.map fun (i,x)=>(i,ρ x)).toList=ps.map fun x=>(x.1,x.2.2.1)) (hp:okPl (fun i=>places[i]?) 0 ps) (ht:tot ps=z.cells.size)
    (hz:(zeroValue t).run P w=.ok z w) (hu:P.underlying t=some (.struct (P.fieldsOf t))) (hm:((P.fieldsOf t).mapM fun f=>do pure (f.offset,←sizeOf f.type):Sem (Array (Nat×Nat))).run P w=.ok places w) :
    (execOp ρ o).run P w=.ok (.value (.agg (cat (ps.map fun x=>x.2.2.2)))) w:=by
  have:=QfQ (fun i=>places[i]?) ps [] z.cells 0 rfl hp ht
  rw [show cat []++z.cells=z.cells by simp [cat],List.nil_append] at this
  rw [←hv] at this
  have hB:(Instr.build t (parts.map fun (i,x)=>(i,ρ x))).run P w=.ok (.agg (cat (ps.map fun x=>x.2.2.2))) w:=by
    unfold Instr.build
    rw [Sem.run_bind,hz,Result.andThen_ok,Sem.run_bind,run_underlying hu w,Result.andThen_ok]
    show (Sem.run P _ w)=_
    rw [Sem.run_bind,hm,Result.andThen_ok]
    simp only [this]
    rfl
  unfold execOp
  simp only [ho,Sem.run_bind,hB,Result.andThen_ok,Sem.run_pure]
def sKey : ByteArray:=⟨#[107,101,121]⟩
def QgD : ByteArray:=⟨#[110,101,120,116]⟩
def Qgc : ByteArray:=⟨#[108,101,102,116]⟩
def Qeh : ByteArray:=⟨#[114,105,103,104,116]⟩
theorem strl (s : ByteArray) (h:s.size≤255):(strB s).length≤255:=by rw [QbQ]; exact h
theorem Qhh : (strB sKey).length≤255:=strl _ (by decide)
@[irreducible] def keyV (sec : List Int) : List Int := kx sec (Qbn (strB sKey) [] 44) 44
@[irreducible] def nxtV (sec : List Int) : List Int := Qbx sec (strB QgD)
theorem QaB (sec : List Int):(keyV sec).length=44:=by unfold keyV; exact QbD _ _ _
theorem QcI (sec : List Int):Qat (keyV sec):=by unfold keyV; exact Qh1 _ _ _
theorem QcS (sec lab:List Int):Qat (Qbx sec lab):=by
  unfold Qbx
  split
  · exact Qh1 _ _ _
  · exact fun x hx=>by rw [(List.mem_replicate.1 hx).2]; decide
theorem Qc7 (sec : List Int):(nxtV sec).length=32:=by unfold nxtV; exact Qd7 _ _
theorem QhZ (sec : List Int):Qat (nxtV sec):=by unfold nxtV; exact QcS _ _
def itV (sec : List Int):Nat→List Int
  | 0=>sec
  | n+1=>nxtV (itV sec n)
theorem Qa5 {sec : List Int} (h:sec.length=32):∀ n,(itV sec n).length=32
  | 0=>h
  | n+1=>Qc7 _
theorem Qbu {sec : List Int} (h:Qat sec):∀ n,Qat (itV sec n)
  | 0=>h
  | n+1=>QhZ _
theorem QeN (sec : List Int) (a:Nat):∀ b,itV (itV sec a) b=itV sec (a+b)
  | 0=>rfl
  | b+1=>by show nxtV (itV (itV sec a) b)=nxtV (itV sec (a+b)); rw [QeN sec a b]
def Qcs (base : Nat) (num:Int) (mv:List Int) (v:Value) (W:World):Prop:=∃ u,v=.agg (cat [#[.int .i64 num],ints .u8 (mv.take 32),#[u]])∧OwnN .u8 5 base (mv.drop 32) u W
theorem Qkh (k : IntKind) (xs:List Int) (n:Nat):ints k xs=cat [ints k (xs.take n),ints k (xs.drop n)]:=by
  apply Array.ext'
  simp [cat,ints,←List.map_append]
def mpv (p : Int×List Int):Int×Value:=(p.1,.agg (ints .u8 p.2))
def lget (ms : List (Int×List Int)) (k:Int):List Int:=((ms.find? fun p=>p.1==k).map Prod.snd).getD (List.replicate 44 0)
theorem Qhz : ∀ (ms:List (Int×List Int)) (k:Int),mget (ms.map mpv) k (.agg (ints .u8 (List.replicate 44 0)))=.agg (ints .u8 (lget ms k))
  | [],k=>rfl
  | p::ms,k=>by
    unfold mget lget
    rw [List.map_cons]
    by_cases h:(p.1==k)=true
    · rw [List.find?_cons_of_pos (p:=fun q:Int×Value=>q.1==k) h,List.find?_cons_of_pos (p:=fun q:Int×List Int=>q.1==k) h]; rfl
    · rw [List.find?_cons_of_neg (p:=fun q:Int×Value=>q.1==k) h,List.find?_cons_of_neg (p:=fun q:Int×List Int=>q.1==k) h]; exact Qhz ms k
def MsOk (ms : List (Int×List Int)):Prop:=∀ p∈ms,p.2.length=44∧Qat p.2
theorem QcD {ms : List (Int×List Int)} (h:MsOk ms) (k:Int):(lget ms k).length=44∧Qat (lget ms k):=by
  unfold lget
  cases hf:ms.find? (fun p=>p.1==k) with
  | none=>exact ⟨List.length_replicate,fun x hx=>by rw [(List.mem_replicate.1 hx).2]; decide⟩
  | some p=>exact h p (List.mem_of_find?_eq_some hf)
theorem Qjc (sec : List Int) (tc tq:TypeId) (w:World) (hc:w.heap[2]? = some (.cells (ints .u64 QaN) tc)) (hq:w.heap[1]? = some (.cells (ints .u64 Qam) tq)) (hsl:sec.length=32) (hsb:Qat sec):Calls Tryd.prog 45 #[.agg (ints .u8 sec)] w (Ret w (.agg (ints .u8 (keyV sec)))):=by
  refine enter 16 [(0,.agg (ints .u8 (sec)))] Tryd.func45 rfl rfl kj rfl <| sgC fun K3 hK3=>Qap (ints .u8 (sec)) 23 1 rfl kj kj fun g4 W1 l4 e1 r4_1=>?_
  have x1:=Ext.tr (Rely.Ext.refl w) e1
  have b4:=qT (Rely.Ext.refl w).size l4
  refine Qap (ints .u8 (List.replicate 44 0)) 93 2 rfl kj kj fun g5 W2 l5 e2 r5_2=>sgN hK3 <| sgC fun K6 hK6=>Qab (.agg (ints .u8 (sec))) 6 rfl kj (Qaq 23 _ g4 23 _ _ (Qac r4_1 e2) rfl kj kj (isz (n:=32) kj ((Qad _ _).trans hsl))) <| Qa6 (fun v W'=>(fun v W=>∃ u,v=.tuple #[u,.nilIface]∧OwnN .u8 5 W2.heap.size (kx sec (Qbn (strB sKey) [] 44) 44) u W) v W'∧Ext W2 W') 51 #[.agg (ints .u8 (sec)),.string sKey,.slice none 0 0,.int .i64 44] 7 rfl kj kj ((QkI sec [] sKey (.slice none 0 0) _ tc tq _ (Qac (Qac hc e1) e2) (Qac (Qac hq e1) e2) hsl hsb (fun x hx=>by cases hx) (nilrd _) 44 (by decide) Qhh (by decide)).mono (by rintro e w' ⟨v,rfl,e1,hv⟩; exact ⟨v,rfl,hv,e1⟩)) fun vv7 W3 hh7=>?_
  obtain ⟨hv7,e3⟩:=hh7
  obtain ⟨uu,rfl,huu⟩:=hv7
  obtain ⟨gu,cu,curu,rfl,-,hru,-,-,-,htu⟩:=Qdc huu (by rw [QbD]; decide)
  refine sg 5 kj <| sgN hK6 <| wp_seq_k fun K8 hK8=>sgB kj <| cond_false kj <| wp_skip <| hK8 _ _ <| sgC fun K10 hK10=>sg 1 kj <| Qab (.pointer (some ⟨gu,0,none⟩)) 14 rfl kj (QgF 93 _ 44 5 (a:=some ⟨gu,0,none⟩) (len:=(kx sec (Qbn (strB sKey) [] 44) 44).length) (cap:=cu) rfl kj kj (by rw [QbD]; exact qR _)) ?_
  refine Qab (.agg (ints .u8 (kx sec (Qbn (strB sKey) [] 44) 44))) 15 rfl kj (QaK 93 _ gu 0 5 _ _ _ (Qac hru (Rely.Ext.refl W3)) rfl kj (Qgx htu) kj (isz (n:=44) kj ((Qad _ _).trans (QbD _ _ _)))) ?_
  have r5_3:=(Qac r5_2 e3)
  refine Qaj g5 _ (ints .u8 (kx sec (Qbn (strB sKey) [] 44) 44)) 93 r5_3 rfl kj (Qal 93 _ _ g5 93 _ _ r5_3 rfl kj kj (isz (n:=44) kj ((Qad _ _).trans (QbD _ _ _))) (eqsz (n:=44) ((Qad _ _).trans (List.length_replicate (n:=44))) ((Qad _ _).trans (QbD _ _ _))) (Qau _ _)) fun W4 p4 r5_4=>sgN hK10 <| wp_ret ?_
  repeat (first | with_reducible refine goR1 ?_ | with_reducible refine goR2 ?_)
  exact (show bodyPost _ _ _ .ret _ _ from ret1 (.agg (ints .u8 (kx sec (Qbn (strB sKey) [] 44) 44))) rfl (QaE g5 93 _ r5_4 kj kj (isz (n:=44) kj ((Qad _ _).trans (QbD _ _ _)))) ⟨congrArg (fun z=>Ending.returned (.agg (ints .u8 z))) (show _=keyV sec by unfold keyV; rfl),(Puts.ext p4 (Ext.tr (Ext.tr x1 e2) e3) (qT x1.size l5))⟩)
theorem nxtC (sec : List Int) (tc tq:TypeId) (w:World) (hc:w.heap[2]? = some (.cells (ints .u64 QaN) tc)) (hq:w.heap[1]? = some (.cells (ints .u64 Qam) tq)) (hsl:sec.length=32) (hsb:Qat sec):Calls Tryd.prog 40 #[.agg (ints .u8 sec),.string QgD] w (Ret w (.agg (ints .u8 (nxtV sec)))):=by
  unfold nxtV
  exact QgW sec QgD tc tq w hc hq hsl hsb
theorem QeZ (sec : List Int) (tc tq:TypeId) (w:World) (hc:w.heap[2]? = some (.cells (ints .u64 QaN) tc)) (hq:w.heap[1]? = some (.cells (ints .u64 Qam) tq)) (hsl:sec.length=32) (hsb:Qat sec):Calls Tryd.prog 46 #[.agg (ints .u8 sec)] w (Ret w (.agg (ints .u8 (nxtV sec)))):=by
  refine enter 5 [(0,.agg (ints .u8 (sec)))] Tryd.func46 rfl rfl kj rfl <| sgC fun K3 hK3=>Qap (ints .u8 (sec)) 23 1 rfl kj kj fun g4 W1 l4 e1 r4_1=>?_
  have x1:=Ext.tr (Rely.Ext.refl w) e1
  have b4:=qT (Rely.Ext.refl w).size l4
  refine Qap (ints .u8 (List.replicate 32 0)) 23 2 rfl kj kj fun g5 W2 l5 e2 r5_2=>sgN hK3 <| sgC fun K6 hK6=>Qab (.agg (ints .u8 (sec))) 3 rfl kj (Qaq 23 _ g4 23 _ _ (Qac r4_1 e2) rfl kj kj (isz (n:=32) kj ((Qad _ _).trans hsl))) <| Qar (.agg (ints .u8 (nxtV sec))) 40 #[.agg (ints .u8 (sec)),.string QgD] 4 rfl kj kj (nxtC sec tc tq _ (Qac (Qac hc e1) e2) (Qac (Qac hq e1) e2) hsl hsb) fun W3 e3=>?_
  have r5_3:=(Qac r5_2 e3)
  refine Qaj g5 _ (ints .u8 (nxtV sec)) 23 r5_3 rfl kj (Qal 23 _ _ g5 23 _ _ r5_3 rfl kj kj (isz (n:=32) kj ((Qad _ _).trans (Qc7 _))) (eqsz (n:=32) ((Qad _ _).trans (List.length_replicate (n:=32))) ((Qad _ _).trans (Qc7 _))) (Qau _ _)) fun W4 p4 r5_4=>sgN hK6 <| wp_ret ?_
  repeat (first | with_reducible refine goR1 ?_ | with_reducible refine goR2 ?_)
  exact (show bodyPost _ _ _ .ret _ _ from ret1 (.agg (ints .u8 (nxtV sec))) rfl (QaE g5 23 _ r5_4 kj kj (isz (n:=32) kj ((Qad _ _).trans (Qc7 _)))) ⟨rfl,(Puts.ext p4 (Ext.tr (Ext.tr x1 e2) e3) (qT x1.size l5))⟩)
theorem QlW (w : World):Calls Tryd.prog 56 #[.slice none 0 0] w (QbN w (OwnN .u8 5 w.heap.size [])):=by
  refine enter 8 [(0,.slice none 0 0)] Tryd.func56 rfl rfl kj rfl <| sgB kj <| wp_seq_k fun K2 hK2=>sgB kj <| cond_true kj <| sgB kj <| wp_ret ?_
  repeat (first | with_reducible refine goR1 ?_ | with_reducible refine goR2 ?_)
  exact (show bodyPost _ _ _ .ret _ _ from ret1 (.slice none 0 0) rfl (Qa2 kj) ⟨_,rfl,(Rely.Ext.refl w),Qb7 .u8 5 _ _⟩)
theorem QlV (text : List Int) (ad:Addr) (cp B:Nat) (w:World) (htl:text.length≤900000000) (ht:RdK .u8 B text (.slice (some ad) text.length cp) w):Calls Tryd.prog 56 #[.slice (some ad) text.length cp] w (QbN w (OwnN .u8 5 w.heap.size text)):=by
  refine enter 8 [(0,.slice (some ad) text.length cp)] Tryd.func56 rfl rfl kj rfl <| sgB kj <| wp_seq_k fun K2 hK2=>sgB kj <| cond_false kj <| wp_skip <| hK2 _ _ <| sgC fun K4 hK4=>QaL (ints .u8 ([])) 5 0 5 rfl kj kj fun g5 W1 l5 e1 r5_1=>?_
  have x1:=Ext.tr (Rely.Ext.refl w) e1
  have b5:=qT (Rely.Ext.refl w).size l5
  refine sg 1 kj <| QaM (k:=.u8) (T:=5) (xs:=[]) (ys:=text) (V:=w) 1 (.tmp 5) (.tmp 6) 38 rfl kj kj (by decide) 7 rfl kj kj kj (QbU (xs:=[]) rfl l5 r5_1 (by decide)) (RdK.ext ht x1) (by simp; omega) (Rely.Ext.trans (Rely.Ext.refl w) e1) fun u1 W2 f6 y2 l2=>?_
  refine sg 1 kj <| sgN hK4 <| wp_ret ?_
  repeat (first | with_reducible refine goR1 ?_ | with_reducible refine goR2 ?_)
  exact (show bodyPost _ _ _ .ret _ _ from ret1 (u1) rfl (Qa2 kj) ⟨_,rfl,(Ext.low x1 l2 (Rely.Ext.refl w).size),f6⟩)
theorem QmV (text : List Int) (v:Value) (B:Nat) (w:World) (htl:text.length≤900000000) (ht:RdK .u8 B text v w):Calls Tryd.prog 56 #[v] w (QbN w (OwnN .u8 5 w.heap.size text)):=by
  obtain ⟨a,c,rfl,h1,h2,h3,h4⟩:=id ht
  cases a with
  | none =>
    obtain rfl:=h3 rfl
    obtain rfl:text=[]:=List.length_eq_zero_iff.1 (by omega)
    exact QlW w
  | some ad=>exact QlV text ad c B w htl ht
theorem Qn1 (k1 k2:List Int) (num:Int) (w:World) (h1:k1.length=32) (h2:k2.length=12):Calls Tryd.prog 48 #[.agg (cat [ints .u8 (k1),ints .u8 (k2)]),.int .i64 num] w (QbN w (fun v W=>∃ u,v=.agg (cat [#[.int .i64 num],ints .u8 k1,#[u]])∧OwnN .u8 5 w.heap.size k2 u W)):=by
  refine enter 12 [(0,.agg (cat [ints .u8 (k1),ints .u8 (k2)])),(1,.int .i64 num)] Tryd.func48 rfl rfl kj rfl <| sgC fun K1 hK1=>Qap (cat [ints .u8 (k1),ints .u8 (k2)]) 93 2 rfl kj kj fun g2 W1 l2 e1 r2_1=>?_
  have x1:=Ext.tr (Rely.Ext.refl w) e1
  have b2:=qT (Rely.Ext.refl w).size l2
  refine Qap (cat [#[.int .i64 0],ints .u8 (List.replicate 32 0),#[.slice none 0 0]]) 40 4 rfl kj kj fun g3 W2 l3 e2 r3_2=>sgN hK1 <| wp_seq_k fun K4 hK4=>?_
  have r2_2:=(Qac r2_1 e2)
  refine Wm.region_walkM (fun W=>W.heap[g2]? = some (.cells (cat [ints .u8 (k1),ints .u8 (k2)]) 93)) 7 kj fun W3 e3=>⟨Qac r2_2 e3,?_⟩
  have x3:=Ext.tr (Ext.tr x1 e2) e3
  refine Wm.wm_val 0 (.int .i64 num) 5 rfl rfl kj kj (by decide) kj (fun _ _ _ h=>h) (fun W hR=>by kernel_rfl) <| Wm.wm_val 1 (.slice (some ⟨g2,0,none⟩) 32 44) 6 rfl rfl kj kj (by decide) kj (fun _ _ _ h=>h) (fun W hR=>(Qdp 93 _ _ _ 0 32 44 g2 0 5 rfl kj kj kj rfl ⟨.i64,by kernel_rfl⟩ (by decide) (by decide) (by decide))) <| Wm.wm_val 2 (.pointer (some ⟨g2,0,none⟩)) 7 rfl rfl kj kj (by decide) kj (fun _ _ _ h=>h) (fun W hR=>(QgF 37 _ 32 5 (a:=some ⟨g2,0,none⟩) (len:=32) (cap:=44) rfl kj kj (qR _))) <| Wm.wm_val 3 (.agg (ints .u8 (k1))) 8 rfl rfl kj kj (by decide) kj (fun _ _ _ h=>h) (fun W hR=>(QaK 37 _ g2 0 93 _ _ _ hR rfl kj (Qaw [] [ints .u8 (k1)] [ints .u8 (k2)] 0 kj) kj (isz (n:=32) kj ((Qad _ _).trans h1)))) <| Wm.wm_val 4 (.slice (some ⟨g2,32,none⟩) 12 12) 9 rfl rfl kj kj (by decide) kj (fun _ _ _ h=>h) (fun W hR=>(Qdp 93 _ _ _ 32 44 44 g2 0 5 rfl kj kj kj ⟨.i64,by kernel_rfl⟩ rfl (by decide) (by decide) (by decide))) ?_
  have r2_3:=(Qac r2_2 e3)
  refine Wm.wm_call 5 kj rfl (fun v W'=>(OwnN .u8 5 W3.heap.size k2) v W'∧Ext W3 W') 56 #[.slice (some ⟨g2,32,none⟩) 12 12] 10 rfl kj kj ((QmV k2 _ _ _ (by rw [h2]; decide) (QiF 32 h2 r2_3 (fun i hi=>Qcr [ints .u8 (k1)] [] k2 32 i (32+i) ((Qad _ _).trans h1) rfl (by rw [h2]; exact hi)) (Qay r2_3) (qR _) (by decide))).mono (by rintro e w' ⟨v,rfl,e1,hv⟩; exact ⟨v,rfl,hv,e1⟩)) (fun v W h=>Qac r2_3 h.2) fun vv5 W4 hh5=>?_
  obtain ⟨hv5,e4⟩:=hh5
  obtain ⟨au,cu,rfl,-⟩:=id (OwnN.rd hv5)
  refine Wm.wm_val 6 (.agg (cat [#[.int .i64 num],ints .u8 (k1),#[.slice au k2.length cu]])) 11 rfl rfl kj kj (by decide) kj (fun _ _ _ h=>h) (fun W hR=>(Qfl 40 _ (.agg (cat [#[.int .i64 0],ints .u8 (List.replicate 32 0),#[.slice none 0 0]])) #[(0,1),(1,32),(33,1)] [(0,1,.int .i64 num,#[.int .i64 num]),(1,32,.agg (ints .u8 (k1)),ints .u8 (k1)),(2,1,.slice au k2.length cu,#[.slice au k2.length cu])] rfl kj ⟨kj,rfl,kj,kj,rfl,((Qad _ _).trans h1),kj,rfl,kj,trivial⟩ kj kj kj kj)) ?_
  have r3_3:=(Qac r3_2 e3)
  have r3_4:=(Qac r3_3 e4)
  refine Wm.wm_store g3 _ (cat [#[.int .i64 num],ints .u8 (k1),#[.slice au k2.length cu]]) 40 r3_4 kj kj rfl rfl kj (Qal 40 _ _ g3 40 _ _ r3_4 rfl kj kj (isz (n:=34) kj (by rw [Qaa,Qaa,Qaa]; simp only [qS,cat,((Qad _ _).trans h1)]; rfl)) (eqsz (n:=34) (by rw [Qaa,Qaa,Qaa]; simp only [qS,cat,((Qad _ _).trans (List.length_replicate (n:=32)))]; rfl) (by rw [Qaa,Qaa,Qaa]; simp only [qS,cat,((Qad _ _).trans h1)]; rfl)) (QaD _ (by intro a ha; simp only [List.mem_cons,List.not_mem_nil,or_false] at ha; rcases ha with rfl | rfl | rfl; exact (Qan _ rfl); exact (Qau _ _); exact (Qan _ rfl)))) fun W5 p5 r3_5=>?_
  refine hK4 _ _ <| wp_ret ?_
  repeat (first | with_reducible refine goR1 ?_ | with_reducible refine goR2 ?_)
  exact (show bodyPost _ _ _ .ret _ _ from ret1 (.agg (cat [#[.int .i64 num],ints .u8 (k1),#[.slice au k2.length cu]])) rfl (QaE g3 40 _ r3_5 kj kj (isz (n:=34) kj (by rw [Qaa,Qaa,Qaa]; simp only [qS,cat,((Qad _ _).trans h1)]; rfl))) ⟨_,rfl,(Puts.ext p5 (Ext.tr x3 e4) (qT x1.size l3)),_,rfl,(OwnN.puts hv5 p5 (fun e=>by have h8:=OwnN.ge hv5 e; have h9:=Qay r3_3; omega)).base x3.size⟩)
theorem Qm1 (mv : List Int) (num:Int) (w:World) (hl:mv.length=44):Calls Tryd.prog 48 #[.agg (ints .u8 mv),.int .i64 num] w (QbN w (Qcs w.heap.size num mv)):=by
  rw [Qkh .u8 mv 32]
  exact Qn1 (mv.take 32) (mv.drop 32) num w (by rw [List.length_take]; omega) (by rw [List.length_drop]; omega)
end Go.Proofs.YtibegnjaphohaaaDoor.Cn
end
section
namespace Go.Proofs.YtibegnjaphohaaaDoor.Cn
open Go Go.RowKit
open Rely Auto Own Sha
theorem QcU {k : IntKind} {T:TypeId} {base g:Nat} {xs:List Int} {v:Value} {W:World} (h:OwnN k T base xs v W) (hg:g<base):v.ownBlock≠some g:=fun e=>by
  have:=h.ge e
  omega
theorem Qhq {k : IntKind} {T:TypeId} {b g:Nat} {xs:List Int} {v:Value} {W W':World} (h:OwnN k T b xs v W) (q:ExtB g W W') (hn:v.ownBlock≠some g):OwnN k T b xs v W':=h.keep fun k hk=>q.2.2.2.2 k (h.lt hk) (fun e=>hn (by rw [hk,e]))
theorem QaP {l : List Int} (h:l.length=44):(l.take 32).length=32:=by rw [List.length_take,h]; rfl
def chkC (nx : Int) (B pl:Nat) (n:Int):Int:=if chkW nx B n≠0 then chkW nx B n else if ((pl:Nat):Int)+256<n then 12 else 0
theorem Qky (g : Nat) (nx:Int) (B:Nat) (n:Int) (hnx:0≤nx∧nx≤4294967295) (hB:B<18446744073709551616) (sec:List Int) (pl mg:Nat) (hsec:sec.length=32) (w:World) (hg:w.heap[g]? = some (.cells (cat [#[.int .i64 nx],#[.int .u64 ((B:Nat):Int)],ints .u8 (sec),#[.int .i64 ((pl:Nat):Int)],#[.map (some mg)]]) 84)) (hc:chkW nx B n≠0):Calls Tryd.prog 32 #[.pointer (some ⟨g,0,none⟩),.int .i64 n] w (Ret w (.iface 47 (.int .i64 (chkW nx B n)))):=by
  refine enter 22 [(0,.pointer (some ⟨g,0,none⟩)),(1,.int .i64 n)] Tryd.func32 rfl rfl kj rfl <| sgB kj <| wp_seq_k fun K3 hK3=>sgC fun K4 hK4=>sg 4 kj <| Qar (.iface 47 (.int .i64 (chkW nx B n))) 43 #[.pointer (some ⟨g,0,none⟩),.int .i64 n] 10 rfl kj kj (Qcj hc▸Qj4 g nx B n hnx hB sec pl mg hsec _ hg) fun W1 e1=>sg 1 kj <| sgN hK4 <| sgB kj <| cond_true kj ?_
  refine sgB kj <| wp_ret ?_
  repeat (first | with_reducible refine goR1 ?_ | with_reducible refine goR2 ?_)
  exact (show bodyPost _ _ _ .ret _ _ from ret1 (.iface 47 (.int .i64 (chkW nx B n))) rfl (Qa2 kj) ⟨rfl,(Ext.tr (Rely.Ext.refl w) e1)⟩)
theorem Qkx (g : Nat) (nx:Int) (B:Nat) (n:Int) (hnx:0≤nx∧nx≤4294967295) (hB:B<18446744073709551616) (sec:List Int) (pl mg:Nat) (hsec:sec.length=32) (w:World) (hg:w.heap[g]? = some (.cells (cat [#[.int .i64 nx],#[.int .u64 ((B:Nat):Int)],ints .u8 (sec),#[.int .i64 ((pl:Nat):Int)],#[.map (some mg)]]) 84)) (hc:chkW nx B n=0) (hp:pl≤4294967295) (hf:((pl:Nat):Int)+256<n):Calls Tryd.prog 32 #[.pointer (some ⟨g,0,none⟩),.int .i64 n] w (Ret w (.iface 47 (.int .i64 12))):=by
  refine enter 22 [(0,.pointer (some ⟨g,0,none⟩)),(1,.int .i64 n)] Tryd.func32 rfl rfl kj rfl <| sgB kj <| wp_seq_k fun K3 hK3=>sgC fun K4 hK4=>sg 4 kj <| Qar (.nilIface) 43 #[.pointer (some ⟨g,0,none⟩),.int .i64 n] 10 rfl kj kj (Qb9 hc▸Qj4 g nx B n hnx hB sec pl mg hsec _ hg) fun W1 e1=>sg 1 kj <| sgN hK4 <| sgB kj <| cond_false kj ?_
  refine wp_skip <| hK3 _ _ <| wp_seq_k fun K6 hK6=>sgC fun K7 hK7=>sg 4 kj <| Qab (.int .i64 ((pl:Nat):Int)) 18 rfl kj (Qag 3 _ g 34 84 _ (.int .i64 ((pl:Nat):Int)) _ (Qac hg e1) rfl kj (Qaw [#[.int .i64 nx],#[.int .u64 ((B:Nat):Int)],ints .u8 (sec)] [#[.int .i64 ((pl:Nat):Int)]] [#[.map (some mg)]] 34 (by rw [Qaa,Qaa,Qaa]; simp only [qS,cat,((Qad _ _).trans hsec)]; rfl) 0 _ rfl) kj) ?_
  refine Qab (.int .i64 (((pl:Nat):Int)+256)) 19 rfl kj (Qai (u:=.int .i64 (IntKind.i64.wrap (((pl:Nat):Int)+256))) kj (congrArg (Value.int .i64) (Qbp _ (by omega)))) <| Qab (.bool true) 20 rfl kj (Qai (u:=.bool (decide (n>(((pl:Nat):Int)+256)))) kj (congrArg Value.bool (decide_eq_true (by omega)))) <| sgN hK7 <| cond_true kj <| sgB kj <| wp_ret ?_
  repeat (first | with_reducible refine goR1 ?_ | with_reducible refine goR2 ?_)
  exact (show bodyPost _ _ _ .ret _ _ from ret1 (.iface 47 (.int .i64 12)) rfl (Qa2 kj) ⟨rfl,(Ext.tr (Rely.Ext.refl w) e1)⟩)
theorem Qkw (g : Nat) (nx:Int) (B:Nat) (n:Int) (hnx:0≤nx∧nx≤4294967295) (hB:B<18446744073709551616) (sec:List Int) (pl mg:Nat) (hsec:sec.length=32) (w:World) (hg:w.heap[g]? = some (.cells (cat [#[.int .i64 nx],#[.int .u64 ((B:Nat):Int)],ints .u8 (sec),#[.int .i64 ((pl:Nat):Int)],#[.map (some mg)]]) 84)) (hc:chkW nx B n=0) (hp:pl≤4294967295) (hf:¬ ((pl:Nat):Int)+256<n):Calls Tryd.prog 32 #[.pointer (some ⟨g,0,none⟩),.int .i64 n] w (Ret w (.nilIface)):=by
  refine enter 22 [(0,.pointer (some ⟨g,0,none⟩)),(1,.int .i64 n)] Tryd.func32 rfl rfl kj rfl <| sgB kj <| wp_seq_k fun K3 hK3=>sgC fun K4 hK4=>sg 4 kj <| Qar (.nilIface) 43 #[.pointer (some ⟨g,0,none⟩),.int .i64 n] 10 rfl kj kj (Qb9 hc▸Qj4 g nx B n hnx hB sec pl mg hsec _ hg) fun W1 e1=>sg 1 kj <| sgN hK4 <| sgB kj <| cond_false kj ?_
  refine wp_skip <| hK3 _ _ <| wp_seq_k fun K6 hK6=>sgC fun K7 hK7=>sg 4 kj <| Qab (.int .i64 ((pl:Nat):Int)) 18 rfl kj (Qag 3 _ g 34 84 _ (.int .i64 ((pl:Nat):Int)) _ (Qac hg e1) rfl kj (Qaw [#[.int .i64 nx],#[.int .u64 ((B:Nat):Int)],ints .u8 (sec)] [#[.int .i64 ((pl:Nat):Int)]] [#[.map (some mg)]] 34 (by rw [Qaa,Qaa,Qaa]; simp only [qS,cat,((Qad _ _).trans hsec)]; rfl) 0 _ rfl) kj) ?_
  refine Qab (.int .i64 (((pl:Nat):Int)+256)) 19 rfl kj (Qai (u:=.int .i64 (IntKind.i64.wrap (((pl:Nat):Int)+256))) kj (congrArg (Value.int .i64) (Qbp _ (by omega)))) <| Qab (.bool false) 20 rfl kj (Qai (u:=.bool (decide (n>(((pl:Nat):Int)+256)))) kj (congrArg Value.bool (decide_eq_false (by omega)))) <| sgN hK7 <| cond_false kj <| wp_skip <| hK6 _ _ <| sgB kj <| wp_ret ?_
  repeat (first | with_reducible refine goR1 ?_ | with_reducible refine goR2 ?_)
  exact (show bodyPost _ _ _ .ret _ _ from ret1 (.nilIface) rfl (Qa2 kj) ⟨rfl,(Ext.tr (Rely.Ext.refl w) e1)⟩)
theorem Qj0 (g : Nat) (nx:Int) (B:Nat) (n:Int) (hnx:0≤nx∧nx≤4294967295) (hB:B<18446744073709551616) (sec:List Int) (pl mg:Nat) (hsec:sec.length=32) (w:World) (hg:w.heap[g]? = some (.cells (cat [#[.int .i64 nx],#[.int .u64 ((B:Nat):Int)],ints .u8 (sec),#[.int .i64 ((pl:Nat):Int)],#[.map (some mg)]]) 84)) (hp:pl≤4294967295):Calls Tryd.prog 32 #[.pointer (some ⟨g,0,none⟩),.int .i64 n] w (Ret w (errV (chkC nx B pl n))):=by
  unfold chkC
  by_cases hc:chkW nx B n=0
  · rw [if_neg (fun h=>h hc)]
    by_cases hf:((pl:Nat):Int)+256<n
    · rw [if_pos hf]; exact Qkx g nx B n hnx hB sec pl mg hsec w hg hc hp hf
    · rw [if_neg hf]; exact Qkw g nx B n hnx hB sec pl mg hsec w hg hc hp hf
  · rw [if_pos hc,Qcj hc]; exact Qky g nx B n hnx hB sec pl mg hsec w hg hc
theorem QkH (g : Nat) (nx:Int) (B:Nat) (hnx:0≤nx∧nx≤4294967295) (hB:B<18446744073709551616) (sec:List Int) (pl mg:Nat) (hsec:sec.length=32) (w:World) (hg:w.heap[g]? = some (.cells (cat [#[.int .i64 nx],#[.int .u64 ((B:Nat):Int)],ints .u8 (sec),#[.int .i64 ((pl:Nat):Int)],#[.map (some mg)]]) 84)) (ms:List (Int×List Int)) (hmo:MsOk ms) (hmp:MpAt mg (ms.map mpv) w) (tc tq:TypeId) (hc:w.heap[2]? = some (.cells (ints .u64 QaN) tc)) (hq:w.heap[1]? = some (.cells (ints .u64 Qam) tq)) (hsb:Qat sec) (n:Int) (hn:n<((pl:Nat):Int)):Calls Tryd.prog 34 #[.pointer (some ⟨g,0,none⟩),.int .i64 n] w (QbN w (Qcs w.heap.size n (lget ms n))):=by
  obtain ⟨es5,cl5,hes5,hM5⟩:=id hmp
  refine enter 39 [(0,.pointer (some ⟨g,0,none⟩)),(1,.int .i64 n)] Tryd.func34 rfl rfl kj rfl <| sgC fun K6 hK6=>Qap (cat [#[.int .i64 0],ints .u8 (List.replicate 32 0),#[.slice none 0 0]]) 40 4 rfl kj kj fun g7 W1 l7 e1 r7_1=>?_
  have x1:=Ext.tr (Rely.Ext.refl w) e1
  refine sgN hK6 <| wp_seq_k fun K8 hK8=>sgC fun K9 hK9=>sg 4 kj ?_
  have r1_1:=(Qac hg e1)
  refine Qab (.int .i64 ((pl:Nat):Int)) 10 rfl kj (Qag 3 _ g 34 84 _ (.int .i64 ((pl:Nat):Int)) _ r1_1 rfl kj (Qaw [#[.int .i64 nx],#[.int .u64 ((B:Nat):Int)],ints .u8 (sec)] [#[.int .i64 ((pl:Nat):Int)]] [#[.map (some mg)]] 34 (by rw [Qaa,Qaa,Qaa]; simp only [qS,cat,((Qad _ _).trans hsec)]; rfl) 0 _ rfl) kj) ?_
  refine Qab (.bool true) 11 rfl kj (Qai (u:=.bool (decide (n<((pl:Nat):Int)))) kj (congrArg Value.bool (decide_eq_true (by omega)))) <| sgN hK9 <| cond_true kj <| sgC fun K10 hK10=>sg 3 kj <| Qab (.map (some mg)) 15 rfl kj (Qag 82 _ g 35 84 _ (.map (some mg)) _ r1_1 rfl kj (Qaw [#[.int .i64 nx],#[.int .u64 ((B:Nat):Int)],ints .u8 (sec),#[.int .i64 ((pl:Nat):Int)]] [#[.map (some mg)]] [] 35 (by rw [Qaa,Qaa,Qaa,Qaa]; simp only [qS,cat,((Qad _ _).trans hsec)]; rfl) 0 _ rfl) kj) ?_
  refine sg 1 kj <| Qab (.agg (ints .u8 (lget ms n))) 17 rfl kj (Qhz ms n▸Qi6 (kt:=3) (et:=93) (ms:=ms.map mpv) (n:=n) (z:=.agg (ints .u8 (List.replicate 44 0))) 82 _ _ rfl kj kj kj kj ⟨_,_,(Qac hes5 e1),hM5⟩ kj) <| sg 1 kj <| Qa6 (fun v W'=>(Qcs W1.heap.size n (lget ms n)) v W'∧Ext W1 W') 48 #[.agg (ints .u8 (lget ms n)),.int .i64 n] 19 rfl kj kj ((Qm1 (lget ms n) n _ (QcD hmo n).1).mono (by rintro e w' ⟨v,rfl,e1,hv⟩; exact ⟨v,rfl,hv,e1⟩)) fun vv11 W2 hh11=>?_
  obtain ⟨hv11,e2⟩:=hh11
  obtain ⟨u12,rfl,hu12⟩:=hv11
  obtain ⟨a12_,c12_,rfl,-⟩:=id (OwnN.rd hu12)
  have r7_2:=(Qac r7_1 e2)
  refine Qaj g7 _ (cat [#[.int .i64 n],ints .u8 ((lget ms n).take 32),#[.slice a12_ (((lget ms n).drop 32).length) c12_]]) 40 r7_2 rfl kj (Qal 40 _ _ g7 40 _ _ r7_2 rfl kj kj (isz (n:=34) kj (by rw [Qaa,Qaa,Qaa]; simp only [qS,cat,((Qad _ _).trans (QaP (QcD hmo n).1))]; rfl)) (eqsz (n:=34) (by rw [Qaa,Qaa,Qaa]; simp only [qS,cat,((Qad _ _).trans (List.length_replicate (n:=32)))]; rfl) (by rw [Qaa,Qaa,Qaa]; simp only [qS,cat,((Qad _ _).trans (QaP (QcD hmo n).1))]; rfl)) (QaD _ (by intro a ha; simp only [List.mem_cons,List.not_mem_nil,or_false] at ha; rcases ha with rfl | rfl | rfl; exact (Qan _ rfl); exact (Qau _ _); exact (Qan _ rfl)))) fun W3 p3 r7_3=>?_
  refine sgN hK10 <| wp_ret ?_
  repeat (first | with_reducible refine goR1 ?_ | with_reducible refine goR2 ?_)
  exact (show bodyPost _ _ _ .ret _ _ from ret1 (.agg (cat [#[.int .i64 n],ints .u8 ((lget ms n).take 32),#[.slice a12_ (((lget ms n).drop 32).length) c12_]])) rfl (QaE g7 40 _ r7_3 kj kj (isz (n:=34) kj (by rw [Qaa,Qaa,Qaa]; simp only [qS,cat,((Qad _ _).trans (QaP (QcD hmo n).1))]; rfl))) ⟨_,rfl,(Puts.ext p3 (Ext.tr x1 e2) (qT (Rely.Ext.refl w).size l7)),_,rfl,OwnN.base x1.size (hu12.puts p3 (QcU hu12 (Qay r7_1)))⟩)
theorem QkG (g : Nat) (nx:Int) (B:Nat) (hnx:0≤nx∧nx≤4294967295) (hB:B<18446744073709551616) (sec:List Int) (pl mg:Nat) (hsec:sec.length=32) (w:World) (hg:w.heap[g]? = some (.cells (cat [#[.int .i64 nx],#[.int .u64 ((B:Nat):Int)],ints .u8 (sec),#[.int .i64 ((pl:Nat):Int)],#[.map (some mg)]]) 84)) (ms:List (Int×List Int)) (hmo:MsOk ms) (hmp:MpAt mg (ms.map mpv) w) (tc tq:TypeId) (hc:w.heap[2]? = some (.cells (ints .u64 QaN) tc)) (hq:w.heap[1]? = some (.cells (ints .u64 Qam) tq)) (hsb:Qat sec) (n:Nat) (hp:pl≤4294967295) (hm:n≤4294967294) (hn:pl≤n):Calls Tryd.prog 34 #[.pointer (some ⟨g,0,none⟩),.int .i64 ((n:Nat):Int)] w (QbN w (Qcs w.heap.size ((n:Nat):Int) (keyV (itV sec (n-pl))))):=by
 obtain ⟨es5,cl5,hes5,hM5⟩:=id hmp
 refine enter 39 [(0,.pointer (some ⟨g,0,none⟩)),(1,.int .i64 ((n:Nat):Int))] Tryd.func34 rfl rfl kj rfl <| sgC fun K6 hK6=>Qap (cat [#[.int .i64 0],ints .u8 (List.replicate 32 0),#[.slice none 0 0]]) 40 4 rfl kj kj fun g7 W1 l7 e1 r7_1=>?_
 have x1:=Ext.tr (Rely.Ext.refl w) e1
 refine sgN hK6 <| wp_seq_k fun K8 hK8=>sgC fun K9 hK9=>sg 4 kj ?_
 have r1_1:=(Qac hg e1)
 refine Qab (.int .i64 ((pl:Nat):Int)) 10 rfl kj (Qag 3 _ g 34 84 _ (.int .i64 ((pl:Nat):Int)) _ r1_1 rfl kj (Qaw [#[.int .i64 nx],#[.int .u64 ((B:Nat):Int)],ints .u8 (sec)] [#[.int .i64 ((pl:Nat):Int)]] [#[.map (some mg)]] 34 (by rw [Qaa,Qaa,Qaa]; simp only [qS,cat,((Qad _ _).trans hsec)]; rfl) 0 _ rfl) kj) ?_
 refine Qab (.bool false) 11 rfl kj (Qai (u:=.bool (decide (((n:Nat):Int)<((pl:Nat):Int)))) kj (congrArg Value.bool (decide_eq_false (by omega)))) <| sgN hK9 <| cond_false kj <| wp_skip <| hK8 _ _ <| sgC fun K10 hK10=>sg 3 kj <| Qab (.agg (ints .u8 (sec))) 23 rfl kj (QaK 23 _ g 2 84 _ _ _ r1_1 rfl kj (Qaw [#[.int .i64 nx],#[.int .u64 ((B:Nat):Int)]] [ints .u8 (sec)] [#[.int .i64 ((pl:Nat):Int)],#[.map (some mg)]] 2 kj) kj (isz (n:=32) kj ((Qad _ _).trans hsec))) <| Qap (ints .u8 (List.replicate 32 0)) 23 5 rfl kj kj fun g11 W2 l11 e2 r11_2=>?_
 have b11:=qT x1.size l11
 refine Qaj g11 _ (ints .u8 (sec)) 23 r11_2 rfl kj (Qal 23 _ _ g11 23 _ _ r11_2 rfl kj kj (isz (n:=32) kj ((Qad _ _).trans hsec)) (eqsz (n:=32) ((Qad _ _).trans (List.length_replicate (n:=32))) ((Qad _ _).trans hsec)) (Qau _ _)) fun W3 p3 r11_3=>sgN hK10 <| wp_seq_k fun K12 hK12=>sgC fun K13 hK13=>sg 4 kj <| Qab (.int .i64 ((pl:Nat):Int)) 28 rfl kj (Qag 3 _ g 34 84 _ (.int .i64 ((pl:Nat):Int)) _ (Puts.row p3 (Qac r1_1 e2) (Qae r1_1 l11)) rfl kj (Qaw [#[.int .i64 nx],#[.int .u64 ((B:Nat):Int)],ints .u8 (sec)] [#[.int .i64 ((pl:Nat):Int)]] [#[.map (some mg)]] 34 (by rw [Qaa,Qaa,Qaa]; simp only [qS,cat,((Qad _ _).trans hsec)]; rfl) 0 _ rfl) kj) ?_
 refine Qab (.int .i64 (((n-pl:Nat):Int))) 29 rfl kj (Qai (u:=.int .i64 (IntKind.i64.wrap (((n:Nat):Int)-((pl:Nat):Int)))) kj (congrArg (Value.int .i64) ((Qbp _ (by omega)).trans (by omega)))) <| sg 1 kj <| sgN hK13 <| wp_block <| QaC (fun (s1:Nat)=>[(0,.pointer (some ⟨g,0,none⟩)),(1,.int .i64 ((n:Nat):Int)),(4,.pointer (some ⟨g7,0,none⟩)),(5,.pointer (some ⟨g11,0,none⟩)),(29,.int .i64 (((n-pl:Nat):Int))),(30,.int .i64 ((s1:Nat):Int))]) (fun (s1:Nat) W=>(s1≤n-pl)∧(W.heap[g11]? = some (.cells (ints .u8 (itV sec s1)) 23))∧(Qah [g11] W3 W)∧(Ext w W)) (fun (s1:Nat)=>n-pl-s1) 0 ⟨kj,kj,kj,kj,kj,kj,trivial⟩ ⟨(Nat.zero_le _),r11_3,(Qah.refl [g11] W3),(Puts.ext p3 (Ext.tr x1 e2) b11)⟩ fun s1 X1 V1 hI1=>?_
 obtain ⟨i,hs1⟩:∃ z,z=s1:=⟨_,rfl⟩
 subst hs1
 obtain ⟨hi,q11_1,kk1,xx1⟩:=hI1
 replace hi:i≤n-pl:=hi
 replace q11_1:V1.heap[g11]? = some (.cells (ints .u8 (itV sec i)) 23):=q11_1
 replace kk1:Qah [g11] W3 V1:=kk1
 replace xx1:Ext w V1:=xx1
 have q4:=kk1
 refine sgB kj <| wp_seq_k fun K15 hK15=>Qa3 (t:=decide (((i:Nat):Int)<((n-pl:Nat):Int))) kj (fun c16=>?_) (fun c16=>?_)
 ·skip
  have hlt31:i<(n-pl):=by have:=of_decide_eq_true c16; omega
  refine wp_skip <| hK15 _ _ <| wp_seq_k fun K17 hK17=>wp_block <| Qaf <| Qab (.agg (ints .u8 (itV sec i))) 32 rfl kj (Qaq 23 _ g11 23 _ _ q11_1 rfl kj kj (isz (n:=32) kj ((Qad _ _).trans (Qa5 hsec i)))) ?_
  have r2_1:=(Qac hc e1)
  have r2_2:=(Qac r2_1 e2)
  have r2_3:=(Puts.row p3 r2_2 (Qae r2_1 l11))
  have r2_4:=(Qah.row q4 r2_3 (Qax (Qae r2_1 l11) QaJ))
  have r3_1:=(Qac hq e1)
  have r3_2:=(Qac r3_1 e2)
  have r3_3:=(Puts.row p3 r3_2 (Qae r3_1 l11))
  have r3_4:=(Qah.row q4 r3_3 (Qax (Qae r3_1 l11) QaJ))
  refine Qar (.agg (ints .u8 (itV sec (i+1)))) 46 #[.agg (ints .u8 (itV sec i))] 33 rfl kj kj (QeZ (itV sec i) tc tq _ r2_4 r3_4 (Qa5 hsec _) (Qbu hsb _)) fun W5 e5=>?_
  have x5:=Ext.tr xx1 e5
  have r11_5:=(Qac q11_1 e5)
  refine Qaj g11 _ (ints .u8 (itV sec (i+1))) 23 r11_5 rfl kj (Qal 23 _ _ g11 23 _ _ r11_5 rfl kj kj (isz (n:=32) kj ((Qad _ _).trans (Qa5 hsec (i+1)))) (eqsz (n:=32) ((Qad _ _).trans (Qa5 hsec i)) ((Qad _ _).trans (Qa5 hsec (i+1)))) (Qau _ _)) fun W6 p6 r11_6=>?_
  have x6:=Puts.ext p6 x5 b11
  refine Qak <| hK17 _ _ <| Qaf <| Qab (.int .i64 ((i+1:Nat):Int)) 34 rfl kj (Qai (u:=.int .i64 (IntKind.i64.wrap (((i:Nat):Int)+1))) kj (congrArg (Value.int .i64) (i64n _ _ (by omega) (by omega)))) <| sg 1 kj <| Qak ?_
  repeat (first | with_reducible refine goX1 ?_ | with_reducible refine goX2 ?_ | with_reducible refine goX3 ?_)
  exact Qa4 (i+1) ⟨kj,kj,kj,kj,kj,kj,trivial⟩ ⟨(by omega),r11_6,(Qah.puts (Qah.step q4 e5) p6 (.inl (by simp))),x6⟩ (by omega)
 ·skip
  have heq31:i=(n-pl):=by have:=of_decide_eq_false c16; omega
  have r11_4_18:V1.heap[g11]? = some (.cells (ints .u8 (itV sec (n-pl))) 23):=Qbi q11_1 (by rw [heq31])
  refine wp_exit <| hK12 _ _ <| sgC fun K19 hK19=>Qab (.agg (ints .u8 (itV sec (n-pl)))) 35 rfl kj (Qaq 23 _ g11 23 _ _ r11_4_18 rfl kj kj (isz (n:=32) kj ((Qad _ _).trans (Qa5 hsec (n-pl))))) ?_
  have r2_1:=(Qac hc e1)
  have r2_2:=(Qac r2_1 e2)
  have r2_3:=(Puts.row p3 r2_2 (Qae r2_1 l11))
  have r2_4:=(Qah.row q4 r2_3 (Qax (Qae r2_1 l11) QaJ))
  have r3_1:=(Qac hq e1)
  have r3_2:=(Qac r3_1 e2)
  have r3_3:=(Puts.row p3 r3_2 (Qae r3_1 l11))
  have r3_4:=(Qah.row q4 r3_3 (Qax (Qae r3_1 l11) QaJ))
  refine Qar (.agg (ints .u8 (keyV (itV sec (n-pl))))) 45 #[.agg (ints .u8 (itV sec (n-pl)))] 36 rfl kj kj (Qjc (itV sec (n-pl)) tc tq _ r2_4 r3_4 (Qa5 hsec _) (Qbu hsb _)) fun W5 e5=>?_
  have x5:=Ext.tr xx1 e5
  refine sg 1 kj <| Qa6 (fun v W'=>(Qcs W5.heap.size ((n:Nat):Int) (keyV (itV sec (n-pl)))) v W'∧Ext W5 W') 48 #[.agg (ints .u8 (keyV (itV sec (n-pl)))),.int .i64 ((n:Nat):Int)] 38 rfl kj kj ((Qm1 (keyV (itV sec (n-pl))) ((n:Nat):Int) _ (QaB _)).mono (by rintro e w' ⟨v,rfl,e1,hv⟩; exact ⟨v,rfl,hv,e1⟩)) fun vv20 W6 hh20=>?_
  obtain ⟨hv20,e6⟩:=hh20
  have x6:=Ext.tr x5 e6
  obtain ⟨u21,rfl,hu21⟩:=hv20
  obtain ⟨a21_,c21_,rfl,-⟩:=id (OwnN.rd hu21)
  have r7_5:=(Qac (Qah.row q4 (Puts.row p3 (Qac r7_1 e2) (Qae r7_1 l11)) (Qax (Qae r7_1 l11) QaJ)) e5)
  have r7_6:=(Qac r7_5 e6)
  refine Qaj g7 _ (cat [#[.int .i64 ((n:Nat):Int)],ints .u8 ((keyV (itV sec (n-pl))).take 32),#[.slice a21_ (((keyV (itV sec (n-pl))).drop 32).length) c21_]]) 40 r7_6 rfl kj (Qal 40 _ _ g7 40 _ _ r7_6 rfl kj kj (isz (n:=34) kj (by rw [Qaa,Qaa,Qaa]; simp only [qS,cat,((Qad _ _).trans (QaP (QaB _)))]; rfl)) (eqsz (n:=34) (by rw [Qaa,Qaa,Qaa]; simp only [qS,cat,((Qad _ _).trans (List.length_replicate (n:=32)))]; rfl) (by rw [Qaa,Qaa,Qaa]; simp only [qS,cat,((Qad _ _).trans (QaP (QaB _)))]; rfl)) (QaD _ (by intro a ha; simp only [List.mem_cons,List.not_mem_nil,or_false] at ha; rcases ha with rfl | rfl | rfl; exact (Qan _ rfl); exact (Qau _ _); exact (Qan _ rfl)))) fun W7 p7 r7_7=>?_
  refine sgN hK19 <| wp_ret ?_
  repeat (first | with_reducible refine goR1 ?_ | with_reducible refine goR2 ?_)
  exact (show bodyPost _ _ _ .ret _ _ from ret1 (.agg (cat [#[.int .i64 ((n:Nat):Int)],ints .u8 ((keyV (itV sec (n-pl))).take 32),#[.slice a21_ (((keyV (itV sec (n-pl))).drop 32).length) c21_]])) rfl (QaE g7 40 _ r7_7 kj kj (isz (n:=34) kj (by rw [Qaa,Qaa,Qaa]; simp only [qS,cat,((Qad _ _).trans (QaP (QaB _)))]; rfl))) ⟨_,rfl,(Puts.ext p7 x6 (qT (Rely.Ext.refl w).size l7)),_,rfl,OwnN.base x5.size (hu21.puts p7 (QcU hu21 (Qay r7_5)))⟩)
end Go.Proofs.YtibegnjaphohaaaDoor.Cn
end
section
namespace Go.Proofs.YtibegnjaphohaaaDoor.Cn
open Go Go.RowKit
open Rely Auto Own Sha
theorem nb_nil {v : Value}:∀ c∈([]:List Nat),v.ownBlock≠some c:=fun _ h=>by simp at h
theorem nb_cons {v : Value} {g:Nat} {gs:List Nat} (h:v.ownBlock≠some g) (h2:∀ c∈gs,v.ownBlock≠some c):∀ c∈g::gs,v.ownBlock≠some c:=fun c hc=>by
  rcases List.mem_cons.1 hc with e | e
  · rw [e]; exact h
  · exact h2 c e
theorem _root_.Go.Proofs.YtibegnjaphohaaaDoor.Auto.OwnN.keepsL {k : IntKind} {T:TypeId} {base:Nat} {gs:List Nat} {xs:List Int} {v:Value} {V W:World} (h:OwnN k T base xs v V) (q:Qah gs V W) (hn:∀ c∈gs,v.ownBlock≠some c):OwnN k T base xs v W :=
  h.keep fun g hg=>q.block g (h.lt hg) (fun hm=>hn g hm hg)
theorem run_extractT {P : Program} {ρ:Operand→Value} {o:Oper} {w:World} (x:Operand) (i:Nat) (vs:Array Value) (u:Value) (ho:o.op=.extract x i) (hx:ρ x=.tuple vs) (hi:vs[i]? = some u):(execOp ρ o).run P w=.ok (.value u) w:=by
  unfold execOp
  simp [ho,hx,Instr.extract,hi]
theorem Qd0 {k : IntKind} {T:TypeId} {base g:Nat} {xs:List Int} {v:Value} {W:World} (h:OwnN k T base xs v W) (hg:W.heap.size≤g):v.ownBlock≠some g:=fun e=>by have:=h.lt e; omega
section
variable {P : Program} {ρ : Operand → Value} {o : Oper} {w : World}
theorem Qfi (t : TypeId) (x:Operand) {kt et:TypeId} {g:Nat} {es:Array MapEntry} {clock:Nat} (ho:o.op=.range t x) (hx:ρ x=.map (some g)) (ht:P.underlying t=some (.map kt et)) (hg:w.heap[g]? = some (.map es clock)) :
    (execOp ρ o).run P w=.ok (.value (.pointer (some ⟨w.heap.size,0,none⟩))) (w.alloc (.mapIter (some g) clock #[] clock)):=by
  have hgo:(getObj g).run P w=.ok (.map es clock) w:=by simp [getObj,Sem.run,hg]
  unfold execOp
  simp only [ho,hx,Instr.range,Sem.run_bind,run_underlying ht,hgo,Result.andThen_ok,Sem.run_pure,run_newObj_alloc]
theorem Qgf (x : Operand) {r:Nat} {v:Value} {w1:World} (ho:o.op=.next x false) (hx:ρ x=.pointer (some ⟨r,0,none⟩)) (h:(Instr.next (.pointer (some ⟨r,0,none⟩)) false o.type).run P w=.ok v w1):(execOp ρ o).run P w=.ok (.value v) w1:=by
  unfold execOp
  simp only [ho,hx,Sem.run_bind,h,Result.andThen_ok,Sem.run_pure]
theorem Qfj (x : Operand) {r:Nat} {v:Value} (ho:o.op=.entry x) (hx:ρ x=.pointer (some ⟨r,0,none⟩)) (h:(Instr.entry (.pointer (some ⟨r,0,none⟩))).run P w=.ok v w):(execOp ρ o).run P w=.ok (.value v) w:=by
  unfold execOp
  simp only [ho,hx,Sem.run_bind,h,Result.andThen_ok,Sem.run_pure]
end
section
variable {ds : List Deferred} {P : Program} {ops : Array Oper} {Q : Exit → Act → World → Prop} {rest : List Oper} {o : Oper} {N : Nat} {L : Env} {w : World}
theorem Qhf (ob : Obj) (mk:Nat→Value) (d:Nat) (hd:o.dst=some d) (hg:Qbr ops o N L=some true) (h:(execOp (Rely.look (envN N L)) o).run P w=.ok (.value (mk w.heap.size)) (w.alloc ob))
    (k:∀ (g:Nat) (W:World),w.heap.size≤g→Ext w W→W.heap[g]? = some ob→WL P ops Q rest (Qa0 ds N ((d,mk g)::L)) W):WL P ops Q (o::rest) (Qa0 ds N L) w :=
  Qbt _ _ d hd hg h (k _ _ (qR _) (QbI _ _) (heap_alloc_new _ _))
theorem QdV (v : Value) (w':World) (hd:o.dst=none) (hg:Qbr ops o N L=some true) (h:(execOp (Rely.look (envN N L)) o).run P w=.ok (.value v) w') (k:WL P ops Q rest (Qa0 ds N L) w'):WL P ops Q (o::rest) (Qa0 ds N L) w :=
  Qfh hg fun K hK=>by
    rw [h]
    show K _ _
    rw [hd,show (Qa0 ds N L).put none v=Qa0 ds N L from rfl]
    exact hK _ _ k
theorem Qhg (m k:Operand) (t:TypeId) {kt et:TypeId} {g:Nat} {n:Int} {ms:List (Int×Value)} (ho:o.op=.call { callee:=.builtin .delete,args:=#[m,k],argTypes:=#[t,kt] }) (hm:Rely.look (envN N L) m=.map (some g)) (hk:Rely.look (envN N L) k=.int .i64 n)
    (ht:P.underlying t=some (.map kt et)) (hkt:P.underlying kt=some (.int .i64)) (h:MpAt g ms w) (hd:o.dst=none) (hg:Qbr ops o N L=some true)
    (kk:∀ W',Puts w g W'→MpAt g (ms.filter fun p=>p.1 != n) W'→WL P ops Q rest (Qa0 ds N L) W'):WL P ops Q (o::rest) (Qa0 ds N L) w:=by
  obtain ⟨W',h1,h2,h3⟩:=QjD (ρ:=Rely.look (envN N L)) (o:=o) m k t ho hm hk ht hkt h
  exact QdV _ _ hd hg h1 (kk W' h2 h3)
theorem Qga (m k:Operand) (t:TypeId) {kt et:TypeId} {g r:Nat} {lim x:Int} {es0:Array MapEntry} {c:Nat} {sn:Array Nat} {e:MapEntry} {m0:List (Int×Value)} (hM:MpW es0 c m0) (ho:o.op=.call { callee:=.builtin .delete,args:=#[m,k],argTypes:=#[t,kt] }) (hm:Rely.look (envN N L) m=.map (some g)) (hk:Rely.look (envN N L) k=.int .i64 x)
    (ht:P.underlying t=some (.map kt et)) (hkt:P.underlying kt=some (.int .i64)) (h:Qdm g r lim es0 c sn e w) (hx:e.key=.int .i64 x) (hl:x<lim) (hd:o.dst=none) (hg:Qbr ops o N L=some true)
    (kk:∀ W',Puts w g W'→QcW g r lim es0 c (sn.push e.born) W'→WL P ops Q rest (Qa0 ds N L) W'):WL P ops Q (o::rest) (Qa0 ds N L) w:=by
  obtain ⟨W',h1,h2,h3⟩:=h.drop hM hx hl (P:=P) (ty:=o.type) ht hkt
  have hr:(execOp (Rely.look (envN N L)) o).run P w=.ok (.value (.tuple #[])) W':=Qi8 m k t kt ho hm hk h1
  exact QdV _ _ hd hg hr (kk W' h2 h3)
theorem QfZ (x : Operand) {g r:Nat} {lim:Int} {es0:Array MapEntry} {c:Nat} {sn:Array Nat} {m0:List (Int×Value)} (hM:MpW es0 c m0) (ho:o.op=.next x false) (hx:Rely.look (envN N L) x=.pointer (some ⟨r,0,none⟩)) (h:QcW g r lim es0 c sn w) (d:Nat) (hd:o.dst=some d) (hg:Qbr ops o N L=some true)
    (k0:MpAt g (m0.filter fun p=>decide (lim≤p.1)) w→WL P ops Q rest (Qa0 ds N ((d,.tuple #[.bool false])::L)) w)
    (k1:∀ (e:MapEntry) (y:Int) (W:World),e.key=.int .i64 y→Puts w r W→Qdm g r lim es0 c sn e W→(Instr.entry (.pointer (some ⟨r,0,none⟩))).run P W=.ok (.tuple #[.int .i64 y,e.val]) W→WL P ops Q rest (Qa0 ds N ((d,.tuple #[.bool true,.int .i64 y,e.val])::L)) W):WL P ops Q (o::rest) (Qa0 ds N L) w:=by
  rcases h.next hM (P:=P) o.type with ⟨h1,h2⟩ | ⟨e,y,W,h1,h2,h3,h4,h5⟩
  · exact Qbt _ _ d hd hg (Qgf x ho hx h1) (k0 h2)
  · exact Qbt _ _ d hd hg (Qgf x ho hx h2) (k1 e y W h1 h3 h4 h5)
end
theorem retG {P : Program} {f:FuncId} {a:Array Value} {w:World} {v:Value} (h:Calls P f a w (Ret w v)):Calls P f a w (QbN w fun u _=>u=v):=h.mono fun e W hh=>⟨v,hh.1,hh.2,rfl⟩
def msNo (ms : List (Int×List Int)) (n:Int):List (Int×List Int):=ms.filter fun p=>p.1 != n
def Qfe (ms : List (Int×List Int)) (lim:Int):List (Int×List Int):=ms.filter fun p=>decide (lim≤p.1)
def QbY (sec : List Int) (pl n:Nat):Nat→List (Int×List Int)
  | 0=>[]
  | k+1=>QbY sec pl n k++(if pl+k<n∧n≤pl+k+64 then [(((pl+k:Nat):Int),keyV (itV sec k))] else [])
theorem QhH (sec : List Int) (pl n:Nat):∀ k,∀ p∈QbY sec pl n k,((pl:Nat):Int)≤p.1∧p.1<((pl+k:Nat):Int)
  | 0,p,h=>by cases h
  | k+1,p,h=>by
    rw [QbY,List.mem_append] at h
    rcases h with h | h
    · have:=QhH sec pl n k p h; omega
    · split at h
      · rw [List.mem_singleton] at h; subst h; simp only; omega
      · cases h
theorem QhG {sec : List Int} {pl n k:Nat} (h:pl+k<n∧n≤pl+k+64):QbY sec pl n (k+1)=QbY sec pl n k++[(((pl+k:Nat):Int),keyV (itV sec k))]:=by rw [QbY,if_pos h]
theorem QfT {sec : List Int} {pl n k:Nat} (h:¬ (pl+k<n∧n≤pl+k+64)):QbY sec pl n (k+1)=QbY sec pl n k:=by rw [QbY,if_neg h,List.append_nil]
theorem Qdv (q : Int→Bool) (ms:List (Int×List Int)):(ms.map mpv).filter (fun p=>q p.1)=(ms.filter fun p=>q p.1).map mpv:=Qez mpv (fun p=>q p.1) ms
theorem QiW {ms : List (Int×List Int)} {sec:List Int} {pl n k:Nat} (hlt:∀ p∈ms,p.1<((pl:Nat):Int)):((pl+k:Nat):Int)∉((ms++QbY sec pl n k).map mpv).map Prod.fst:=fun h=>by
  rw [List.map_map,List.mem_map] at h
  obtain ⟨p,hp,he⟩:=h
  rw [List.mem_append] at hp
  have he':p.1=((pl+k:Nat):Int):=he
  rcases hp with hp | hp
  · have:=hlt p hp; omega
  · have:=(QhH sec pl n k p hp).2; omega
theorem Qgt {ms : List (Int×List Int)} {pl:Nat} {n:Int} (hlt:∀ p∈ms,p.1<((pl:Nat):Int)):∀ p∈msNo ms n,p.1<((pl:Nat):Int):=fun p hp=>hlt p (List.mem_filter.1 hp).1
theorem Qf2 {g r:Nat} {lim:Int} {es0:Array MapEntry} {c:Nat} {sn:Array Nat} {e:MapEntry} {W W':World} (h:Qdm g r lim es0 c sn e W) (x:Ext W W'):Qdm g r lim es0 c sn e W':=by
  obtain ⟨es,h1,h2,h3,h4⟩:=h
  exact ⟨es,h1,Qac h2 x,Qac h3 x,h4⟩
theorem Qht (a b:Nat) (ha:a<18446744073709551616) (hb:b<18446744073709551616):a|||b<18446744073709551616:=Nat.or_lt_two_pow (n:=64) ha hb
theorem Qk6 (g : Nat) (nx:Int) (B:Nat) (hnx:0≤nx∧nx≤4294967295) (hB:B<18446744073709551616) (sec:List Int) (pl mg:Nat) (hsec:sec.length=32) (w:World) (hg:w.heap[g]? = some (.cells (cat [#[.int .i64 nx],#[.int .u64 ((B:Nat):Int)],ints .u8 (sec),#[.int .i64 ((pl:Nat):Int)],#[.map (some mg)]]) 84)) (ms:List (Int×List Int)) (hmo:MsOk ms) (hmp:MpAt mg (ms.map mpv) w) (tc tq:TypeId) (hc:w.heap[2]? = some (.cells (ints .u64 QaN) tc)) (hq:w.heap[1]? = some (.cells (ints .u64 Qam) tq)) (hsb:Qat sec) (n:Nat) (hm:n≤4294967294) (hp:pl≤4294967295) (hlt0:∀ p∈ms,p.1<((pl:Nat):Int)) (hcg:2≠g) (hsg:1≠g) (hc0:chkW nx B ((n:Nat):Int)=0) (hn:n<pl) (j:Nat) (hj:nx-1-((n:Nat):Int)-1=(j:Int)) (hj2:j<64):Calls Tryd.prog 33 #[.pointer (some ⟨g,0,none⟩),.int .i64 ((n:Nat):Int)] w (fun e W=>∃ v,e=.returned (.tuple #[v,.nilIface])∧Qah [g,mg] w W∧W.heap[g]? = some (.cells (cat [#[.int .i64 nx],#[.int .u64 ((B|||2^j:Nat):Int)],ints .u8 (itV sec (n+1-pl)),#[.int .i64 ((pl+(n+1-pl):Nat):Int)],#[.map (some mg)]]) 84)∧MpAt mg ((Qfe ((msNo ms ((n:Nat):Int))++QbY sec pl n (n+1-pl)) (nx-1-64)).map mpv) W∧Qcs w.heap.size ((n:Nat):Int) (lget ms ((n:Nat):Int)) v W):=by
 have hcm:=MpAt.ne hmp hc
 have hsm:=MpAt.ne hmp hq
 have hgm:=MpAt.ne hmp hg
 have hl_g:=Qay hg
 have hl_mg:=MpAt.lt hmp
 obtain ⟨es5,cl5,hes5,hM5⟩:=id hmp
 refine enter 97 [(0,.pointer (some ⟨g,0,none⟩)),(1,.int .i64 ((n:Nat):Int))] Tryd.func33 rfl rfl kj rfl <| sgC fun K6 hK6=>Qap (cat [#[.int .i64 0],ints .u8 (List.replicate 32 0),#[.slice none 0 0]]) 40 4 rfl kj kj fun g7 W1 l7 e1 r7_1=>?_
 have x1:Qah [g,mg] w W1:=Qah.step (Qah.refl [g,mg] w) e1
 have b7:=qT (Qah.refl [g,mg] w).size l7
 refine sg 1 kj <| sgN hK6 <| sgC fun K8 hK8=>sg 2 kj ?_
 have r2_1:=(Qac hc e1)
 have r3_1:=(Qac hq e1)
 have r1_1:=(Qac hg e1)
 have r4_1:=(Qac hes5 e1)
 refine Qa6 (fun v W'=>(Qcs W1.heap.size ((n:Nat):Int) (lget ms ((n:Nat):Int))) v W'∧Ext W1 W') 34 #[.pointer (some ⟨g,0,none⟩),.int .i64 ((n:Nat):Int)] 11 rfl kj kj ((QkH g nx B hnx hB sec pl mg hsec _ r1_1 ms hmo ⟨_,_,r4_1,hM5⟩ tc tq r2_1 r3_1 hsb ((n:Nat):Int) (by omega)).mono (by rintro e w' ⟨v,rfl,e1,hv⟩; exact ⟨v,rfl,hv,e1⟩)) fun vv9 W2 hh9=>?_
 obtain ⟨hv9,e2⟩:=hh9
 have x2:Qah [g,mg] w W2:=Qah.step x1 e2
 obtain ⟨u10,rfl,hu10⟩:=hv9
 obtain ⟨a10_,c10_,rfl,-⟩:=id (OwnN.rd hu10)
 have nbg:=QcU hu10 (Qay r1_1)
 have nbm:=QcU hu10 (Qay r4_1)
 refine Qap (cat [#[.int .i64 0],ints .u8 (List.replicate 32 0),#[.slice none 0 0]]) 40 6 rfl kj kj fun g11 W3 l11 e3 r11_3=>?_
 have x3:Qah [g,mg] w W3:=Qah.step x2 e3
 have b11:=qT x2.size l11
 refine Qaj g11 _ (cat [#[.int .i64 ((n:Nat):Int)],ints .u8 ((lget ms ((n:Nat):Int)).take 32),#[.slice a10_ (((lget ms ((n:Nat):Int)).drop 32).length) c10_]]) 40 r11_3 rfl kj (Qal 40 _ _ g11 40 _ _ r11_3 rfl kj kj (isz (n:=34) kj (by rw [Qaa,Qaa,Qaa]; simp only [qS,cat,((Qad _ _).trans (QaP (QcD hmo _).1))]; rfl)) (eqsz (n:=34) (by rw [Qaa,Qaa,Qaa]; simp only [qS,cat,((Qad _ _).trans (List.length_replicate (n:=32)))]; rfl) (by rw [Qaa,Qaa,Qaa]; simp only [qS,cat,((Qad _ _).trans (QaP (QcD hmo _).1))]; rfl)) (QaD _ (by intro a ha; simp only [List.mem_cons,List.not_mem_nil,or_false] at ha; rcases ha with rfl | rfl | rfl; exact (Qan _ rfl); exact (Qau _ _); exact (Qan _ rfl)))) fun W4 p4 r11_4=>?_
 have x4:Qah [g,mg] w W4:=Qah.puts x3 p4 (.inr b11)
 refine sgN hK8 <| wp_seq_k fun K12 hK12=>sgC fun K13 hK13=>sg 4 kj <| Qa6 (fun v W'=>v=.nilIface∧ExtB g W4 W'∧W'.heap[g]? = some (.cells (cat [#[.int .i64 nx],#[.int .u64 ((B|||2^j:Nat):Int)],ints .u8 (sec),#[.int .i64 ((pl:Nat):Int)],#[.map (some mg)]]) 84)) 44 #[.pointer (some ⟨g,0,none⟩),.int .i64 ((n:Nat):Int)] 16 rfl kj kj ((Qnb g nx B ((n:Nat):Int) hnx hB sec pl mg hsec _ (Puts.row p4 (Qac (Qac r1_1 e2) e3) (Nat.ne_of_lt (qL hl_g b11))) hc0 j hj hj2).mono fun e w' ⟨h1,h2,h3⟩=>⟨_,h1,rfl,h2,h3⟩) fun v W5 h=>?_
 obtain ⟨rfl,q5,r1_5⟩:=h
 have x5:Qah [g,mg] w W5:=Qah.but x4 q5 (.inl (by simp))
 refine sg 1 kj <| sgN hK13 <| sgB kj <| cond_false kj <| wp_skip <| hK12 _ _ <| sgC fun K15 hK15=>sg 3 kj <| Qab (.map (some mg)) 24 rfl kj (Qag 82 _ g 35 84 _ (.map (some mg)) _ r1_5 rfl kj (Qaw [#[.int .i64 nx],#[.int .u64 ((B|||2^j:Nat):Int)],ints .u8 (sec),#[.int .i64 ((pl:Nat):Int)]] [#[.map (some mg)]] [] 35 (by rw [Qaa,Qaa,Qaa,Qaa]; simp only [qS,cat,((Qad _ _).trans hsec)]; rfl) 0 _ rfl) kj) ?_
 refine sg 1 kj <| Qhg (n:=((n:Nat):Int)) (.tmp 24) (.tmp 25) 82 (kt:=3) (et:=93) rfl kj kj kj kj ⟨_,_,(ExtB.row q5 (Puts.row p4 (Qac (Qac r4_1 e2) e3) (Nat.ne_of_lt (qL hl_mg b11))) (Ne.symm hgm)),hM5⟩ rfl kj fun W6 p6 hmp=>?_
 have x6:Qah [g,mg] w W6:=Qah.puts x5 p6 (.inl (by simp))
 replace hmp:MpAt mg ((msNo ms ((n:Nat):Int)).map mpv) W6:=by have h9:=hmp; rw [Qdv (fun x=>x != ((n:Nat):Int))] at h9; exact h9
 obtain ⟨es16,cl16,hes16,hM16⟩:=id hmp
 refine sgN hK15 <| wp_seq_k fun K17 hK17=>wp_block ?_
 have n_7_1:g7≠g:=(Ne.symm (Nat.ne_of_lt (qL hl_g b7)))
 have n_7_4:g7≠mg:=(Ne.symm (Nat.ne_of_lt (qL hl_mg b7)))
 have n_11_1:g11≠g:=(Ne.symm (Nat.ne_of_lt (qL hl_g b11)))
 have n_11_4:g11≠mg:=(Ne.symm (Nat.ne_of_lt (qL hl_mg b11)))
 refine QaC (fun (s1:Nat)=>[(0,.pointer (some ⟨g,0,none⟩)),(1,.int .i64 ((n:Nat):Int)),(4,.pointer (some ⟨g7,0,none⟩)),(5,.nilIface),(6,.pointer (some ⟨g11,0,none⟩)),(7,.nilIface)]) (fun (s1:Nat) W=>(s1≤n+1-pl)∧(MpAt mg (((msNo ms ((n:Nat):Int))++QbY sec pl n s1).map mpv) W)∧(W.heap[g]? = some (.cells (cat [#[.int .i64 nx],#[.int .u64 ((B|||2^j:Nat):Int)],ints .u8 (itV sec s1),#[.int .i64 ((pl+s1:Nat):Int)],#[.map (some mg)]]) 84))∧(Qah [g,mg] W6 W)∧(Qah [g,mg] w W)) (fun (s1:Nat)=>n+1-pl-s1) 0 ⟨kj,kj,kj,kj,kj,kj,trivial⟩ ⟨(Nat.zero_le _),(by show MpAt mg (((msNo ms ((n:Nat):Int))++[]).map mpv) _; rw [List.append_nil]; exact ⟨_,_,hes16,hM16⟩),(Puts.row p6 r1_5 hgm),(Qah.refl [g,mg] W6),x6⟩ fun s1 X1 V1 hI1=>?_
 obtain ⟨k,hs1⟩:∃ z,z=s1:=⟨_,rfl⟩
 subst hs1
 obtain ⟨hk,hmp,q1_1,kk1,xx1⟩:=hI1
 replace hk:k≤n+1-pl:=hk
 replace hmp:MpAt mg (((msNo ms ((n:Nat):Int))++QbY sec pl n k).map mpv) V1:=hmp
 replace q1_1:V1.heap[g]? = some (.cells (cat [#[.int .i64 nx],#[.int .u64 ((B|||2^j:Nat):Int)],ints .u8 (itV sec k),#[.int .i64 ((pl+k:Nat):Int)],#[.map (some mg)]]) 84):=q1_1
 replace kk1:Qah [g,mg] W6 V1:=kk1
 replace xx1:Qah [g,mg] w V1:=xx1
 have q7:=kk1
 obtain ⟨es18,cl18,hes18,hM18⟩:=id hmp
 have hkp:pl+k≤4294967295:=by omega
 refine wp_seq_k fun K19 hK19=>sgC fun K20 hK20=>sg 3 kj <| Qab (.int .i64 ((pl+k:Nat):Int)) 29 rfl kj (Qag 3 _ g 34 84 _ (.int .i64 ((pl+k:Nat):Int)) _ q1_1 rfl kj (Qaw [#[.int .i64 nx],#[.int .u64 ((B|||2^j:Nat):Int)],ints .u8 (itV sec k)] [#[.int .i64 ((pl+k:Nat):Int)]] [#[.map (some mg)]] 34 (by rw [Qaa,Qaa,Qaa]; simp only [qS,cat,((Qad _ _).trans (Qa5 hsec k))]; rfl) 0 _ rfl) kj) ?_
 refine sg 2 kj <| sgN hK20 <| Qa3 (t:=decide (((pl+k:Nat):Int)≤((n:Nat):Int))) kj (fun c21=>?_) (fun c21=>?_)
 ·skip
  have hlt:pl+k≤n:=by have:=of_decide_eq_true c21; omega
  refine wp_skip <| hK19 _ _ <| wp_block <| wp_seq_k fun K22 hK22=>wp_seq_k fun K23 hK23=>?_
  rcases (show (pl+k<n∧n≤pl+k+64)∨(pl+k<n∧pl+k+64<n)∨pl+k=n by omega) with hcc | hcc | hcc
  ·skip
   refine Qaf <| sg 3 kj <| Qab (.int .i64 ((pl+k:Nat):Int)) 35 rfl kj (Qag 3 _ g 34 84 _ (.int .i64 ((pl+k:Nat):Int)) _ q1_1 rfl kj (Qaw [#[.int .i64 nx],#[.int .u64 ((B|||2^j:Nat):Int)],ints .u8 (itV sec k)] [#[.int .i64 ((pl+k:Nat):Int)]] [#[.map (some mg)]] 34 (by rw [Qaa,Qaa,Qaa]; simp only [qS,cat,((Qad _ _).trans (Qa5 hsec k))]; rfl) 0 _ rfl) kj) ?_
   refine sg 1 kj <| Qab (.bool true) 37 rfl kj (Qai (u:=.bool (decide (((pl+k:Nat):Int)<((n:Nat):Int)))) kj (congrArg Value.bool (decide_eq_true (by omega)))) <| sg 4 kj <| Qab (.int .i64 ((pl+k:Nat):Int)) 42 rfl kj (Qag 3 _ g 34 84 _ (.int .i64 ((pl+k:Nat):Int)) _ q1_1 rfl kj (Qaw [#[.int .i64 nx],#[.int .u64 ((B|||2^j:Nat):Int)],ints .u8 (itV sec k)] [#[.int .i64 ((pl+k:Nat):Int)]] [#[.map (some mg)]] 34 (by rw [Qaa,Qaa,Qaa]; simp only [qS,cat,((Qad _ _).trans (Qa5 hsec k))]; rfl) 0 _ rfl) kj) ?_
   refine sg 1 kj <| Qab (.int .i64 (((n:Nat):Int)-64)) 44 rfl kj (Qai (u:=.int .i64 (IntKind.i64.wrap (((n:Nat):Int)-64))) kj (congrArg (Value.int .i64) (Qbp _ (by omega)))) <| Qab (.bool true) 45 rfl kj (Qai (u:=.bool (decide (((pl+k:Nat):Int)≥(((n:Nat):Int)-64)))) kj (congrArg Value.bool (decide_eq_true (by omega)))) <| sg 1 kj <| sgN hK23 <| cond_true kj <| Wm.region_walkM (fun W=>W.heap[g]? = some (.cells (cat [#[.int .i64 nx],#[.int .u64 ((B|||2^j:Nat):Int)],ints .u8 (itV sec k),#[.int .i64 ((pl+k:Nat):Int)],#[.map (some mg)]]) 84)) 13 kj fun W8 e8=>⟨Qac q1_1 e8,?_⟩
   have x8:Qah [g,mg] w W8:=Qah.step xx1 e8
   refine Wm.wm_val 0 (.pointer (some ⟨g,0,none⟩)) 47 rfl rfl kj kj (by decide) kj (fun _ _ _ h=>h) (fun W hR=>by kernel_rfl) <| Wm.wm_val 1 (.pointer (some ⟨g,0,none⟩)) 48 rfl rfl kj kj (by decide) kj (fun _ _ _ h=>h) (fun W hR=>by kernel_rfl) <| Wm.wm_val 2 (.pointer (some ⟨g,35,none⟩)) 49 rfl rfl kj kj (by decide) kj (fun _ _ _ h=>h) (fun W hR=>by kernel_rfl) <| Wm.wm_val 3 (.map (some mg)) 50 rfl rfl kj kj (by decide) kj (fun _ _ _ h=>h) (fun W hR=>(Qag 82 _ g 35 84 _ (.map (some mg)) _ hR rfl kj (Qaw [#[.int .i64 nx],#[.int .u64 ((B|||2^j:Nat):Int)],ints .u8 (itV sec k),#[.int .i64 ((pl+k:Nat):Int)]] [#[.map (some mg)]] [] 35 (by rw [Qaa,Qaa,Qaa,Qaa]; simp only [qS,cat,((Qad _ _).trans (Qa5 hsec k))]; rfl) 0 _ rfl) kj)) ?_
   refine Wm.wm_val 4 (.pointer (some ⟨g,0,none⟩)) 51 rfl rfl kj kj (by decide) kj (fun _ _ _ h=>h) (fun W hR=>by kernel_rfl) <| Wm.wm_val 5 (.pointer (some ⟨g,0,none⟩)) 52 rfl rfl kj kj (by decide) kj (fun _ _ _ h=>h) (fun W hR=>by kernel_rfl) <| Wm.wm_val 6 (.pointer (some ⟨g,34,none⟩)) 53 rfl rfl kj kj (by decide) kj (fun _ _ _ h=>h) (fun W hR=>by kernel_rfl) <| Wm.wm_val 7 (.int .i64 ((pl+k:Nat):Int)) 54 rfl rfl kj kj (by decide) kj (fun _ _ _ h=>h) (fun W hR=>(Qag 3 _ g 34 84 _ (.int .i64 ((pl+k:Nat):Int)) _ hR rfl kj (Qaw [#[.int .i64 nx],#[.int .u64 ((B|||2^j:Nat):Int)],ints .u8 (itV sec k)] [#[.int .i64 ((pl+k:Nat):Int)]] [#[.map (some mg)]] 34 (by rw [Qaa,Qaa,Qaa]; simp only [qS,cat,((Qad _ _).trans (Qa5 hsec k))]; rfl) 0 _ rfl) kj)) ?_
   refine Wm.wm_val 8 (.pointer (some ⟨g,0,none⟩)) 55 rfl rfl kj kj (by decide) kj (fun _ _ _ h=>h) (fun W hR=>by kernel_rfl) <| Wm.wm_val 9 (.pointer (some ⟨g,0,none⟩)) 56 rfl rfl kj kj (by decide) kj (fun _ _ _ h=>h) (fun W hR=>by kernel_rfl) <| Wm.wm_val 10 (.pointer (some ⟨g,2,none⟩)) 57 rfl rfl kj kj (by decide) kj (fun _ _ _ h=>h) (fun W hR=>by kernel_rfl) <| Wm.wm_val 11 (.agg (ints .u8 (itV sec k))) 58 rfl rfl kj kj (by decide) kj (fun _ _ _ h=>h) (fun W hR=>(QaK 23 _ g 2 84 _ _ _ hR rfl kj (Qaw [#[.int .i64 nx],#[.int .u64 ((B|||2^j:Nat):Int)]] [ints .u8 (itV sec k)] [#[.int .i64 ((pl+k:Nat):Int)],#[.map (some mg)]] 2 kj) kj (isz (n:=32) kj ((Qad _ _).trans (Qa5 hsec k))))) ?_
   have r1_8:=(Qac q1_1 e8)
   have r2_2:=(Qac r2_1 e2)
   have r2_3:=(Qac r2_2 e3)
   have r2_4:=(Puts.row p4 r2_3 (Qae r2_2 l11))
   have r2_5:=(ExtB.row q5 r2_4 hcg)
   have r2_6:=(Puts.row p6 r2_5 hcm)
   have r2_7:=(Qah.row q7 r2_6 (Qax hcg (Qax hcm QaJ)))
   have r2_8:=(Qac r2_7 e8)
   have r3_2:=(Qac r3_1 e2)
   have r3_3:=(Qac r3_2 e3)
   have r3_4:=(Puts.row p4 r3_3 (Qae r3_2 l11))
   have r3_5:=(ExtB.row q5 r3_4 hsg)
   have r3_6:=(Puts.row p6 r3_5 hsm)
   have r3_7:=(Qah.row q7 r3_6 (Qax hsg (Qax hsm QaJ)))
   have r3_8:=(Qac r3_7 e8)
   refine Wm.wm_call 12 kj rfl (fun v W'=>(fun v _=>v=.agg (ints .u8 (keyV (itV sec k)))) v W'∧Ext W8 W') 45 #[.agg (ints .u8 (itV sec k))] 59 rfl kj kj ((retG (Qjc (itV sec k) tc tq _ r2_8 r3_8 (Qa5 hsec k) (Qbu hsb k))).mono (by rintro e w' ⟨v,rfl,e1,hv⟩; exact ⟨v,rfl,hv,e1⟩)) (fun v W h=>Qac r1_8 h.2) fun vv24 W9 hh24=>?_
   obtain ⟨hv24,e9⟩:=hh24
   have x9:Qah [g,mg] w W9:=Qah.step x8 e9
   subst hv24
   have r1_9:=(Qac r1_8 e9)
   have r4_8:=(Qac hes18 e8)
   have r4_9:=(Qac r4_8 e9)
   refine Wm.wm_last kj kj rfl (fun W'=>Puts W9 mg W'∧MpAt mg ((((msNo ms ((n:Nat):Int))++QbY sec pl n k).map mpv)++[(((pl+k:Nat):Int),.agg (ints .u8 (keyV (itV sec k))))]) W') rfl kj (Qhj 82 _ _ _ (kt:=3) (et:=93) rfl kj kj kj kj kj ⟨_,_,r4_9,hM18⟩ (QiW (Qgt hlt0))) fun W10 hh=>?_
   obtain ⟨p10,hmp⟩:=hh
   have x10:Qah [g,mg] w W10:=Qah.puts x9 p10 (.inl (by simp))
   replace hmp:MpAt mg (((msNo ms ((n:Nat):Int))++QbY sec pl n (k+1)).map mpv) W10:=by rw [QhG hcc,←List.append_assoc,List.map_append]; exact hmp
   obtain ⟨es25,cl25,hes25,hM25⟩:=id hmp
   refine hK22 _ _ <| sgC fun K26 hK26=>sg 4 kj ?_
   have r1_10:=(Puts.row p10 r1_9 hgm)
   refine Qab (.agg (ints .u8 (itV sec k))) 64 rfl kj (QaK 23 _ g 2 84 _ _ _ r1_10 rfl kj (Qaw [#[.int .i64 nx],#[.int .u64 ((B|||2^j:Nat):Int)]] [ints .u8 (itV sec k)] [#[.int .i64 ((pl+k:Nat):Int)],#[.map (some mg)]] 2 kj) kj (isz (n:=32) kj ((Qad _ _).trans (Qa5 hsec k)))) <| Qar (.agg (ints .u8 (itV sec (k+1)))) 46 #[.agg (ints .u8 (itV sec k))] 65 rfl kj kj (QeZ (itV sec k) tc tq _ (Puts.row p10 (Qac r2_8 e9) hcm) (Puts.row p10 (Qac r3_8 e9) hsm) (Qa5 hsec k) (Qbu hsb k)) fun W11 e11=>?_
   have x11:Qah [g,mg] w W11:=Qah.step x10 e11
   refine sg 2 kj ?_
   have r1_11:=(Qac r1_10 e11)
   refine Qaj g _ (cat [#[.int .i64 nx],#[.int .u64 ((B|||2^j:Nat):Int)],ints .u8 (itV sec (k+1)),#[.int .i64 ((pl+k:Nat):Int)],#[.map (some mg)]]) 84 r1_11 rfl kj (Qb1 23 _ _ g 2 84 [#[.int .i64 nx],#[.int .u64 ((B|||2^j:Nat):Int)]] [ints .u8 (itV sec k)] [ints .u8 (itV sec (k+1))] [#[.int .i64 ((pl+k:Nat):Int)],#[.map (some mg)]] r1_11 rfl kj kj (isz (n:=32) kj ((Qad _ _).trans (Qa5 hsec (k+1)))) kj (eqsz (n:=32) ((Qad _ _).trans (Qa5 hsec (k+1))) ((Qad _ _).trans (Qa5 hsec k))) (Qau _ _)) fun W12 p12 r1_12=>?_
   have x12:Qah [g,mg] w W12:=Qah.puts x11 p12 (.inl (by simp))
   refine sgN hK26 <| Qaf <| sg 3 kj <| Qab (.int .i64 ((pl+k:Nat):Int)) 71 rfl kj (Qag 3 _ g 34 84 _ (.int .i64 ((pl+k:Nat):Int)) _ r1_12 rfl kj (Qaw [#[.int .i64 nx],#[.int .u64 ((B|||2^j:Nat):Int)],ints .u8 (itV sec (k+1))] [#[.int .i64 ((pl+k:Nat):Int)]] [#[.map (some mg)]] 34 (by rw [Qaa,Qaa,Qaa]; simp only [qS,cat,((Qad _ _).trans (Qa5 hsec (k+1)))]; rfl) 0 _ rfl) kj) ?_
   refine Qab (.int .i64 (((pl+(k+1):Nat):Int))) 72 rfl kj (Qai (u:=.int .i64 (IntKind.i64.wrap (((pl+k:Nat):Int)+1))) kj (congrArg (Value.int .i64) ((Qbp _ (by omega)).trans (by omega)))) <| sg 2 kj <| Qaj g _ (cat [#[.int .i64 nx],#[.int .u64 ((B|||2^j:Nat):Int)],ints .u8 (itV sec (k+1)),#[.int .i64 (((pl+(k+1):Nat):Int))],#[.map (some mg)]]) 84 r1_12 rfl kj (Qbf 3 _ _ g 34 84 [#[.int .i64 nx],#[.int .u64 ((B|||2^j:Nat):Int)],ints .u8 (itV sec (k+1))] [#[.map (some mg)]] _ (.int .i64 (((pl+(k+1):Nat):Int))) r1_12 rfl kj kj kj (by rw [Qaa,Qaa,Qaa]; simp only [qS,cat,((Qad _ _).trans (Qa5 hsec (k+1)))]; rfl) rfl rfl) fun W13 p13 r1_13=>?_
   have x13:Qah [g,mg] w W13:=Qah.puts x12 p13 (.inl (by simp))
   refine Qak ?_
   repeat (first | with_reducible refine goX1 ?_ | with_reducible refine goX2 ?_ | with_reducible refine goX3 ?_)
   exact Qa4 (k+1) ⟨kj,kj,kj,kj,kj,kj,trivial⟩ ⟨(by omega),⟨_,_,(Puts.row p13 (Puts.row p12 (Qac hes25 e11) (Ne.symm hgm)) (Ne.symm hgm)),hM25⟩,r1_13,(Qah.puts (Qah.puts (Qah.step (Qah.puts (Qah.step (Qah.step q7 e8) e9) p10 (.inl (by simp))) e11) p12 (.inl (by simp))) p13 (.inl (by simp))),x13⟩ (by omega)
  ·skip
   refine Qaf <| sg 3 kj <| Qab (.int .i64 ((pl+k:Nat):Int)) 35 rfl kj (Qag 3 _ g 34 84 _ (.int .i64 ((pl+k:Nat):Int)) _ q1_1 rfl kj (Qaw [#[.int .i64 nx],#[.int .u64 ((B|||2^j:Nat):Int)],ints .u8 (itV sec k)] [#[.int .i64 ((pl+k:Nat):Int)]] [#[.map (some mg)]] 34 (by rw [Qaa,Qaa,Qaa]; simp only [qS,cat,((Qad _ _).trans (Qa5 hsec k))]; rfl) 0 _ rfl) kj) ?_
   refine sg 1 kj <| Qab (.bool true) 37 rfl kj (Qai (u:=.bool (decide (((pl+k:Nat):Int)<((n:Nat):Int)))) kj (congrArg Value.bool (decide_eq_true (by omega)))) <| sg 4 kj <| Qab (.int .i64 ((pl+k:Nat):Int)) 42 rfl kj (Qag 3 _ g 34 84 _ (.int .i64 ((pl+k:Nat):Int)) _ q1_1 rfl kj (Qaw [#[.int .i64 nx],#[.int .u64 ((B|||2^j:Nat):Int)],ints .u8 (itV sec k)] [#[.int .i64 ((pl+k:Nat):Int)]] [#[.map (some mg)]] 34 (by rw [Qaa,Qaa,Qaa]; simp only [qS,cat,((Qad _ _).trans (Qa5 hsec k))]; rfl) 0 _ rfl) kj) ?_
   refine sg 1 kj <| Qab (.int .i64 (((n:Nat):Int)-64)) 44 rfl kj (Qai (u:=.int .i64 (IntKind.i64.wrap (((n:Nat):Int)-64))) kj (congrArg (Value.int .i64) (Qbp _ (by omega)))) <| Qab (.bool false) 45 rfl kj (Qai (u:=.bool (decide (((pl+k:Nat):Int)≥(((n:Nat):Int)-64)))) kj (congrArg Value.bool (decide_eq_false (by omega)))) <| sg 1 kj <| sgN hK23 <| cond_false kj <| wp_skip <| hK22 _ _ <| sgC fun K27 hK27=>sg 4 kj ?_
   refine Qab (.agg (ints .u8 (itV sec k))) 64 rfl kj (QaK 23 _ g 2 84 _ _ _ q1_1 rfl kj (Qaw [#[.int .i64 nx],#[.int .u64 ((B|||2^j:Nat):Int)]] [ints .u8 (itV sec k)] [#[.int .i64 ((pl+k:Nat):Int)],#[.map (some mg)]] 2 kj) kj (isz (n:=32) kj ((Qad _ _).trans (Qa5 hsec k)))) ?_
   have r2_2:=(Qac r2_1 e2)
   have r2_3:=(Qac r2_2 e3)
   have r2_4:=(Puts.row p4 r2_3 (Qae r2_2 l11))
   have r2_5:=(ExtB.row q5 r2_4 hcg)
   have r2_6:=(Puts.row p6 r2_5 hcm)
   have r2_7:=(Qah.row q7 r2_6 (Qax hcg (Qax hcm QaJ)))
   have r3_2:=(Qac r3_1 e2)
   have r3_3:=(Qac r3_2 e3)
   have r3_4:=(Puts.row p4 r3_3 (Qae r3_2 l11))
   have r3_5:=(ExtB.row q5 r3_4 hsg)
   have r3_6:=(Puts.row p6 r3_5 hsm)
   have r3_7:=(Qah.row q7 r3_6 (Qax hsg (Qax hsm QaJ)))
   refine Qar (.agg (ints .u8 (itV sec (k+1)))) 46 #[.agg (ints .u8 (itV sec k))] 65 rfl kj kj (QeZ (itV sec k) tc tq _ r2_7 r3_7 (Qa5 hsec k) (Qbu hsb k)) fun W8 e8=>?_
   have x8:Qah [g,mg] w W8:=Qah.step xx1 e8
   refine sg 2 kj ?_
   have r1_8:=(Qac q1_1 e8)
   refine Qaj g _ (cat [#[.int .i64 nx],#[.int .u64 ((B|||2^j:Nat):Int)],ints .u8 (itV sec (k+1)),#[.int .i64 ((pl+k:Nat):Int)],#[.map (some mg)]]) 84 r1_8 rfl kj (Qb1 23 _ _ g 2 84 [#[.int .i64 nx],#[.int .u64 ((B|||2^j:Nat):Int)]] [ints .u8 (itV sec k)] [ints .u8 (itV sec (k+1))] [#[.int .i64 ((pl+k:Nat):Int)],#[.map (some mg)]] r1_8 rfl kj kj (isz (n:=32) kj ((Qad _ _).trans (Qa5 hsec (k+1)))) kj (eqsz (n:=32) ((Qad _ _).trans (Qa5 hsec (k+1))) ((Qad _ _).trans (Qa5 hsec k))) (Qau _ _)) fun W9 p9 r1_9=>?_
   have x9:Qah [g,mg] w W9:=Qah.puts x8 p9 (.inl (by simp))
   refine sgN hK27 <| Qaf <| sg 3 kj <| Qab (.int .i64 ((pl+k:Nat):Int)) 71 rfl kj (Qag 3 _ g 34 84 _ (.int .i64 ((pl+k:Nat):Int)) _ r1_9 rfl kj (Qaw [#[.int .i64 nx],#[.int .u64 ((B|||2^j:Nat):Int)],ints .u8 (itV sec (k+1))] [#[.int .i64 ((pl+k:Nat):Int)]] [#[.map (some mg)]] 34 (by rw [Qaa,Qaa,Qaa]; simp only [qS,cat,((Qad _ _).trans (Qa5 hsec (k+1)))]; rfl) 0 _ rfl) kj) ?_
   refine Qab (.int .i64 (((pl+(k+1):Nat):Int))) 72 rfl kj (Qai (u:=.int .i64 (IntKind.i64.wrap (((pl+k:Nat):Int)+1))) kj (congrArg (Value.int .i64) ((Qbp _ (by omega)).trans (by omega)))) <| sg 2 kj <| Qaj g _ (cat [#[.int .i64 nx],#[.int .u64 ((B|||2^j:Nat):Int)],ints .u8 (itV sec (k+1)),#[.int .i64 (((pl+(k+1):Nat):Int))],#[.map (some mg)]]) 84 r1_9 rfl kj (Qbf 3 _ _ g 34 84 [#[.int .i64 nx],#[.int .u64 ((B|||2^j:Nat):Int)],ints .u8 (itV sec (k+1))] [#[.map (some mg)]] _ (.int .i64 (((pl+(k+1):Nat):Int))) r1_9 rfl kj kj kj (by rw [Qaa,Qaa,Qaa]; simp only [qS,cat,((Qad _ _).trans (Qa5 hsec (k+1)))]; rfl) rfl rfl) fun W10 p10 r1_10=>?_
   have x10:Qah [g,mg] w W10:=Qah.puts x9 p10 (.inl (by simp))
   refine Qak ?_
   have r4_8:=(Qac hes18 e8)
   have r4_9:=(Puts.row p9 r4_8 (Ne.symm hgm))
   have r4_10:=(Puts.row p10 r4_9 (Ne.symm hgm))
   repeat (first | with_reducible refine goX1 ?_ | with_reducible refine goX2 ?_ | with_reducible refine goX3 ?_)
   exact Qa4 (k+1) ⟨kj,kj,kj,kj,kj,kj,trivial⟩ ⟨(by omega),(by rw [QfT (by omega)]; exact ⟨_,_,r4_10,hM18⟩),r1_10,(Qah.puts (Qah.puts (Qah.step q7 e8) p9 (.inl (by simp))) p10 (.inl (by simp))),x10⟩ (by omega)
  ·skip
   refine Qaf <| sg 3 kj <| Qab (.int .i64 ((pl+k:Nat):Int)) 35 rfl kj (Qag 3 _ g 34 84 _ (.int .i64 ((pl+k:Nat):Int)) _ q1_1 rfl kj (Qaw [#[.int .i64 nx],#[.int .u64 ((B|||2^j:Nat):Int)],ints .u8 (itV sec k)] [#[.int .i64 ((pl+k:Nat):Int)]] [#[.map (some mg)]] 34 (by rw [Qaa,Qaa,Qaa]; simp only [qS,cat,((Qad _ _).trans (Qa5 hsec k))]; rfl) 0 _ rfl) kj) ?_
   refine sg 1 kj <| Qab (.bool false) 37 rfl kj (Qai (u:=.bool (decide (((pl+k:Nat):Int)<((n:Nat):Int)))) kj (congrArg Value.bool (decide_eq_false (by omega)))) <| sg 9 kj <| sgN hK23 <| cond_false kj <| wp_skip <| hK22 _ _ <| sgC fun K28 hK28=>sg 4 kj <| Qab (.agg (ints .u8 (itV sec k))) 64 rfl kj (QaK 23 _ g 2 84 _ _ _ q1_1 rfl kj (Qaw [#[.int .i64 nx],#[.int .u64 ((B|||2^j:Nat):Int)]] [ints .u8 (itV sec k)] [#[.int .i64 ((pl+k:Nat):Int)],#[.map (some mg)]] 2 kj) kj (isz (n:=32) kj ((Qad _ _).trans (Qa5 hsec k)))) ?_
   have r2_2:=(Qac r2_1 e2)
   have r2_3:=(Qac r2_2 e3)
   have r2_4:=(Puts.row p4 r2_3 (Qae r2_2 l11))
   have r2_5:=(ExtB.row q5 r2_4 hcg)
   have r2_6:=(Puts.row p6 r2_5 hcm)
   have r2_7:=(Qah.row q7 r2_6 (Qax hcg (Qax hcm QaJ)))
   have r3_2:=(Qac r3_1 e2)
   have r3_3:=(Qac r3_2 e3)
   have r3_4:=(Puts.row p4 r3_3 (Qae r3_2 l11))
   have r3_5:=(ExtB.row q5 r3_4 hsg)
   have r3_6:=(Puts.row p6 r3_5 hsm)
   have r3_7:=(Qah.row q7 r3_6 (Qax hsg (Qax hsm QaJ)))
   refine Qar (.agg (ints .u8 (itV sec (k+1)))) 46 #[.agg (ints .u8 (itV sec k))] 65 rfl kj kj (QeZ (itV sec k) tc tq _ r2_7 r3_7 (Qa5 hsec k) (Qbu hsb k)) fun W8 e8=>?_
   have x8:Qah [g,mg] w W8:=Qah.step xx1 e8
   refine sg 2 kj ?_
   have r1_8:=(Qac q1_1 e8)
   refine Qaj g _ (cat [#[.int .i64 nx],#[.int .u64 ((B|||2^j:Nat):Int)],ints .u8 (itV sec (k+1)),#[.int .i64 ((pl+k:Nat):Int)],#[.map (some mg)]]) 84 r1_8 rfl kj (Qb1 23 _ _ g 2 84 [#[.int .i64 nx],#[.int .u64 ((B|||2^j:Nat):Int)]] [ints .u8 (itV sec k)] [ints .u8 (itV sec (k+1))] [#[.int .i64 ((pl+k:Nat):Int)],#[.map (some mg)]] r1_8 rfl kj kj (isz (n:=32) kj ((Qad _ _).trans (Qa5 hsec (k+1)))) kj (eqsz (n:=32) ((Qad _ _).trans (Qa5 hsec (k+1))) ((Qad _ _).trans (Qa5 hsec k))) (Qau _ _)) fun W9 p9 r1_9=>?_
   have x9:Qah [g,mg] w W9:=Qah.puts x8 p9 (.inl (by simp))
   refine sgN hK28 <| Qaf <| sg 3 kj <| Qab (.int .i64 ((pl+k:Nat):Int)) 71 rfl kj (Qag 3 _ g 34 84 _ (.int .i64 ((pl+k:Nat):Int)) _ r1_9 rfl kj (Qaw [#[.int .i64 nx],#[.int .u64 ((B|||2^j:Nat):Int)],ints .u8 (itV sec (k+1))] [#[.int .i64 ((pl+k:Nat):Int)]] [#[.map (some mg)]] 34 (by rw [Qaa,Qaa,Qaa]; simp only [qS,cat,((Qad _ _).trans (Qa5 hsec (k+1)))]; rfl) 0 _ rfl) kj) ?_
   refine Qab (.int .i64 (((pl+(k+1):Nat):Int))) 72 rfl kj (Qai (u:=.int .i64 (IntKind.i64.wrap (((pl+k:Nat):Int)+1))) kj (congrArg (Value.int .i64) ((Qbp _ (by omega)).trans (by omega)))) <| sg 2 kj <| Qaj g _ (cat [#[.int .i64 nx],#[.int .u64 ((B|||2^j:Nat):Int)],ints .u8 (itV sec (k+1)),#[.int .i64 (((pl+(k+1):Nat):Int))],#[.map (some mg)]]) 84 r1_9 rfl kj (Qbf 3 _ _ g 34 84 [#[.int .i64 nx],#[.int .u64 ((B|||2^j:Nat):Int)],ints .u8 (itV sec (k+1))] [#[.map (some mg)]] _ (.int .i64 (((pl+(k+1):Nat):Int))) r1_9 rfl kj kj kj (by rw [Qaa,Qaa,Qaa]; simp only [qS,cat,((Qad _ _).trans (Qa5 hsec (k+1)))]; rfl) rfl rfl) fun W10 p10 r1_10=>?_
   have x10:Qah [g,mg] w W10:=Qah.puts x9 p10 (.inl (by simp))
   refine Qak ?_
   have r4_8:=(Qac hes18 e8)
   have r4_9:=(Puts.row p9 r4_8 (Ne.symm hgm))
   have r4_10:=(Puts.row p10 r4_9 (Ne.symm hgm))
   repeat (first | with_reducible refine goX1 ?_ | with_reducible refine goX2 ?_ | with_reducible refine goX3 ?_)
   exact Qa4 (k+1) ⟨kj,kj,kj,kj,kj,kj,trivial⟩ ⟨(by omega),(by rw [QfT (by omega)]; exact ⟨_,_,r4_10,hM18⟩),r1_10,(Qah.puts (Qah.puts (Qah.step q7 e8) p9 (.inl (by simp))) p10 (.inl (by simp))),x10⟩ (by omega)
 ·skip
  have heq:k=n+1-pl:=by have:=of_decide_eq_false c21; omega
  refine wp_exit <| hK17 _ _ <| wp_seq_k fun K29 hK29=>sgC fun K30 hK30=>sg 3 kj <| Qab (.map (some mg)) 78 rfl kj (Qag 82 _ g 35 84 _ (.map (some mg)) _ q1_1 rfl kj (Qaw [#[.int .i64 nx],#[.int .u64 ((B|||2^j:Nat):Int)],ints .u8 (itV sec k),#[.int .i64 ((pl+k:Nat):Int)]] [#[.map (some mg)]] [] 35 (by rw [Qaa,Qaa,Qaa,Qaa]; simp only [qS,cat,((Qad _ _).trans (Qa5 hsec k))]; rfl) 0 _ rfl) kj) ?_
  refine Qhf (.mapIter (some mg) cl18 #[] cl18) (fun g=>.pointer (some ⟨g,0,none⟩)) 79 rfl kj (Qfi (kt:=3) (et:=93) 82 _ rfl kj kj hes18) fun g32 W8 l32 e8 r32_8=>?_
  have x8:Qah [g,mg] w W8:=Qah.step xx1 e8
  have b32:=qT xx1.size l32
  have r4_8:=(Qac hes18 e8)
  have hrg0:QcW mg g32 (nx-1-64) es18 cl18 #[] W8:=QcW.start hM18 r4_8 r32_8
  refine sgN hK30 <| wp_block ?_
  have r2_2:=(Qac r2_1 e2)
  have r2_3:=(Qac r2_2 e3)
  have r2_4:=(Puts.row p4 r2_3 (Qae r2_2 l11))
  have r2_5:=(ExtB.row q5 r2_4 hcg)
  have r2_6:=(Puts.row p6 r2_5 hcm)
  have r2_7:=(Qah.row q7 r2_6 (Qax hcg (Qax hcm QaJ)))
  have n_2_32:2≠g32:=(Qae r2_7 l32)
  have r3_2:=(Qac r3_1 e2)
  have r3_3:=(Qac r3_2 e3)
  have r3_4:=(Puts.row p4 r3_3 (Qae r3_2 l11))
  have r3_5:=(ExtB.row q5 r3_4 hsg)
  have r3_6:=(Puts.row p6 r3_5 hsm)
  have r3_7:=(Qah.row q7 r3_6 (Qax hsg (Qax hsm QaJ)))
  have n_3_32:1≠g32:=(Qae r3_7 l32)
  have r7_2:=(Qac r7_1 e2)
  have r7_7:=(Qah.row q7 (Puts.row p6 (ExtB.row q5 (Puts.row p4 (Qac r7_2 e3) (Qae r7_2 l11)) n_7_1) n_7_4) (Qax n_7_1 (Qax n_7_4 QaJ)))
  have n_7_32:g7≠g32:=(Qae r7_7 l32)
  have r11_7:=(Qah.row q7 (Puts.row p6 (ExtB.row q5 r11_4 n_11_1) n_11_4) (Qax n_11_1 (Qax n_11_4 QaJ)))
  have n_11_32:g11≠g32:=(Qae r11_7 l32)
  have n_32_1:g32≠g:=(Ne.symm (Nat.ne_of_lt (qL hl_g b32)))
  have n_32_4:g32≠mg:=(Ne.symm (Nat.ne_of_lt (qL hl_mg b32)))
  refine QaC (fun (s2:Array Nat)=>[(0,.pointer (some ⟨g,0,none⟩)),(1,.int .i64 ((n:Nat):Int)),(4,.pointer (some ⟨g7,0,none⟩)),(5,.nilIface),(6,.pointer (some ⟨g11,0,none⟩)),(79,.pointer (some ⟨g32,0,none⟩))]) (fun (s2:Array Nat) W=>(QcW mg g32 (nx-1-64) es18 cl18 s2 W)∧(Qah [mg,g32] W8 W)∧(Qah [g,mg] w W)) (fun (s2:Array Nat)=>rmu es18 s2) #[] ⟨kj,kj,kj,kj,kj,kj,trivial⟩ ⟨hrg0,(Qah.refl [mg,g32] W8),x8⟩ fun s2 X2 V2 hI2=>?_
  obtain ⟨sn,hs2⟩:∃ z,z=s2:=⟨_,rfl⟩
  subst hs2
  obtain ⟨hrg,kk2,xx2⟩:=hI2
  replace hrg:QcW mg g32 (nx-1-64) es18 cl18 sn V2:=hrg
  replace kk2:Qah [mg,g32] W8 V2:=kk2
  replace xx2:Qah [g,mg] w V2:=xx2
  have q9:=kk2
  refine sgC fun K33 hK33=>QfZ (.tmp 79) hM18 rfl kj hrg 80 rfl kj (fun hmp=>?_) (fun e y WN hy pN hst hen=>?_)
  ·skip
   obtain ⟨es34,cl34,hes34,hM34⟩:=id hmp
   refine sg 1 kj <| sgN hK33 <| wp_seq_k fun K35 hK35=>cond_false kj <| wp_exit <| hK29 _ _ <| sgC fun K36 hK36=>Qab (.agg (cat [#[.int .i64 ((n:Nat):Int)],ints .u8 ((lget ms ((n:Nat):Int)).take 32),#[.slice a10_ (((lget ms ((n:Nat):Int)).drop 32).length) c10_]])) 96 rfl kj (Qaq 40 _ g11 40 _ _ (Qah.row q9 (Qac r11_7 e8) (Qax n_11_4 (Qax n_11_32 QaJ))) rfl kj kj (isz (n:=34) kj (by rw [Qaa,Qaa,Qaa]; simp only [qS,cat,((Qad _ _).trans (QaP (QcD hmo _).1))]; rfl))) ?_
   have r7_9:=(Qah.row q9 (Qac r7_7 e8) (Qax n_7_4 (Qax n_7_32 QaJ)))
   refine Qaj g7 _ (cat [#[.int .i64 ((n:Nat):Int)],ints .u8 ((lget ms ((n:Nat):Int)).take 32),#[.slice a10_ (((lget ms ((n:Nat):Int)).drop 32).length) c10_]]) 40 r7_9 rfl kj (Qal 40 _ _ g7 40 _ _ r7_9 rfl kj kj (isz (n:=34) kj (by rw [Qaa,Qaa,Qaa]; simp only [qS,cat,((Qad _ _).trans (QaP (QcD hmo _).1))]; rfl)) (eqsz (n:=34) (by rw [Qaa,Qaa,Qaa]; simp only [qS,cat,((Qad _ _).trans (List.length_replicate (n:=32)))]; rfl) (by rw [Qaa,Qaa,Qaa]; simp only [qS,cat,((Qad _ _).trans (QaP (QcD hmo _).1))]; rfl)) (QaD _ (by intro a ha; simp only [List.mem_cons,List.not_mem_nil,or_false] at ha; rcases ha with rfl | rfl | rfl; exact (Qan _ rfl); exact (Qau _ _); exact (Qan _ rfl)))) fun W10 p10 r7_10=>?_
   have x10:Qah [g,mg] w W10:=Qah.puts xx2 p10 (.inr b7)
   refine sg 1 kj <| sgN hK36 <| wp_ret ?_
   repeat (first | with_reducible refine goR1 ?_ | with_reducible refine goR2 ?_)
   have r1_8:=(Qac q1_1 e8)
   have r1_9:=(Qah.row q9 r1_8 (Qax hgm (Qax (Ne.symm n_32_1) QaJ)))
   have r1_10:=(Puts.row p10 r1_9 (Ne.symm n_7_1))
   have r4_10:=(Puts.row p10 hes34 (Ne.symm n_7_4))
   have f41_7:=(OwnN.keepsL ((Qhq ((hu10.ext e3).puts p4 (Qd0 hu10 l11)) q5 nbg).puts p6 nbm) q7 (nb_cons nbg (nb_cons nbm nb_nil)))
   exact (show bodyPost _ _ _ .ret _ _ from ret2 (.agg (cat [#[.int .i64 ((n:Nat):Int)],ints .u8 ((lget ms ((n:Nat):Int)).take 32),#[.slice a10_ (((lget ms ((n:Nat):Int)).drop 32).length) c10_]])) (.nilIface) rfl (QaE g7 40 _ r7_10 kj kj (isz (n:=34) kj (by rw [Qaa,Qaa,Qaa]; simp only [qS,cat,((Qad _ _).trans (QaP (QcD hmo _).1))]; rfl))) (Qa2 kj) ⟨_,rfl,x10,(by rw [←heq]; exact r1_10),(by have h9:MpAt mg _ _:=⟨_,_,r4_10,hM34⟩; rw [Qdv (fun x=>decide ((nx-1-64)≤x))] at h9; rw [←heq]; exact h9),_,rfl,OwnN.base x1.size ((OwnN.keepsL (f41_7.ext e8) q9 (nb_cons nbm (nb_cons (Qd0 f41_7 l32) nb_nil))).puts p10 (QcU hu10 (Qay r7_1)))⟩)
  ·skip
   have p10:=pN
   have x10:Qah [g,mg] w WN:=Qah.puts xx2 p10 (.inr b32)
   refine sg 1 kj <| sgN hK33 <| sgT kj <| wp_block <| sgC fun K46 hK46=>Qab (.tuple #[.int .i64 y,e.val]) 82 rfl kj (Qfj _ rfl kj hen) <| sg 2 kj <| sgN hK46 <| sgC fun K47 hK47=>sg 4 kj ?_
   have r1_8:=(Qac q1_1 e8)
   have r1_9:=(Qah.row q9 r1_8 (Qax hgm (Qax (Ne.symm n_32_1) QaJ)))
   have r1_10:=(Puts.row p10 r1_9 (Ne.symm n_32_1))
   refine Qar (.int .i64 (nx-1)) 47 #[.pointer (some ⟨g,0,none⟩)] 88 rfl kj kj (QhI g (nx) (B|||2^j) hnx (Qht _ _ hB (Qhn j hj2)) _ _ mg (Qa5 hsec k) _ r1_10) fun W11 e11=>?_
   have x11:Qah [g,mg] w W11:=Qah.step x10 e11
   refine Qab (.int .i64 (nx-1-64)) 89 rfl kj (Qai (u:=.int .i64 (IntKind.i64.wrap ((nx-1)-64))) kj (congrArg (Value.int .i64) (Qbp _ (by omega)))) <| sg 1 kj <| sgN hK47 <| Qa3 (t:=decide (y<(nx-1-64))) kj (fun c48=>?_) (fun c48=>?_)
   ·skip
    have hcut:(y<(nx-1-64)):=of_decide_eq_true c48
    refine Qaf <| sg 3 kj ?_
    have r1_11:=(Qac r1_10 e11)
    refine Qab (.map (some mg)) 94 rfl kj (Qag 82 _ g 35 84 _ (.map (some mg)) _ r1_11 rfl kj (Qaw [#[.int .i64 nx],#[.int .u64 ((B|||2^j:Nat):Int)],ints .u8 (itV sec k),#[.int .i64 ((pl+k:Nat):Int)]] [#[.map (some mg)]] [] 35 (by rw [Qaa,Qaa,Qaa,Qaa]; simp only [qS,cat,((Qad _ _).trans (Qa5 hsec k))]; rfl) 0 _ rfl) kj) ?_
    refine sg 1 kj <| Qga (kt:=3) (et:=93) (.tmp 94) (.tmp 95) 82 hM18 rfl kj kj kj kj (Qf2 hst e11) hy hcut rfl kj fun W12 p12 hrg2=>?_
    have x12:Qah [g,mg] w W12:=Qah.puts x11 p12 (.inl (by simp))
    refine Qak ?_
    repeat (first | with_reducible refine goX1 ?_ | with_reducible refine goX2 ?_ | with_reducible refine goX3 ?_)
    exact Qa4 (sn.push e.born) ⟨kj,kj,kj,kj,kj,kj,trivial⟩ ⟨hrg2,(Qah.puts (Qah.step (Qah.puts q9 p10 (.inl (by simp))) e11) p12 (.inl (by simp))),x12⟩ (Qdm.mu hst)
   ·skip
    have hcut:¬ (y<(nx-1-64)):=of_decide_eq_false c48
    refine wp_skip ?_
    repeat (first | with_reducible refine goX1 ?_ | with_reducible refine goX2 ?_ | with_reducible refine goX3 ?_)
    exact Qa4 (sn.push e.born) ⟨kj,kj,kj,kj,kj,kj,trivial⟩ ⟨(Qdm.stay hM18 (Qf2 hst e11) (by rw [Qjb hy]; exact decide_eq_true (Int.not_lt.1 hcut))),(Qah.step (Qah.puts q9 p10 (.inl (by simp))) e11),x11⟩ (Qdm.mu hst)
theorem Qk5 (g : Nat) (nx:Int) (B:Nat) (hnx:0≤nx∧nx≤4294967295) (hB:B<18446744073709551616) (sec:List Int) (pl mg:Nat) (hsec:sec.length=32) (w:World) (hg:w.heap[g]? = some (.cells (cat [#[.int .i64 nx],#[.int .u64 ((B:Nat):Int)],ints .u8 (sec),#[.int .i64 ((pl:Nat):Int)],#[.map (some mg)]]) 84)) (ms:List (Int×List Int)) (hmo:MsOk ms) (hmp:MpAt mg (ms.map mpv) w) (tc tq:TypeId) (hc:w.heap[2]? = some (.cells (ints .u64 QaN) tc)) (hq:w.heap[1]? = some (.cells (ints .u64 Qam) tq)) (hsb:Qat sec) (n:Nat) (hm:n≤4294967294) (hp:pl≤4294967295) (hlt0:∀ p∈ms,p.1<((pl:Nat):Int)) (hcg:2≠g) (hsg:1≠g) (hc0:chkW nx B ((n:Nat):Int)=0) (hn:pl≤n) (a:Nat) (ha:((n:Nat):Int)-(nx-1)=(a:Int)) (ha1:1≤a):Calls Tryd.prog 33 #[.pointer (some ⟨g,0,none⟩),.int .i64 ((n:Nat):Int)] w (fun e W=>∃ v,e=.returned (.tuple #[v,.nilIface])∧Qah [g,mg] w W∧W.heap[g]? = some (.cells (cat [#[.int .i64 (((n:Nat):Int)+1)],#[.int .u64 ((B*2^a%18446744073709551616|||1*2^(a-1)%18446744073709551616:Nat):Int)],ints .u8 (itV sec (n+1-pl)),#[.int .i64 ((pl+(n+1-pl):Nat):Int)],#[.map (some mg)]]) 84)∧MpAt mg ((Qfe ((msNo ms ((n:Nat):Int))++QbY sec pl n (n+1-pl)) (((n:Nat):Int)+1-1-64)).map mpv) W∧Qcs w.heap.size ((n:Nat):Int) (keyV (itV sec (n-pl))) v W):=by
 have hcm:=MpAt.ne hmp hc
 have hsm:=MpAt.ne hmp hq
 have hgm:=MpAt.ne hmp hg
 have hl_g:=Qay hg
 have hl_mg:=MpAt.lt hmp
 obtain ⟨es5,cl5,hes5,hM5⟩:=id hmp
 refine enter 97 [(0,.pointer (some ⟨g,0,none⟩)),(1,.int .i64 ((n:Nat):Int))] Tryd.func33 rfl rfl kj rfl <| sgC fun K6 hK6=>Qap (cat [#[.int .i64 0],ints .u8 (List.replicate 32 0),#[.slice none 0 0]]) 40 4 rfl kj kj fun g7 W1 l7 e1 r7_1=>?_
 have x1:Qah [g,mg] w W1:=Qah.step (Qah.refl [g,mg] w) e1
 have b7:=qT (Qah.refl [g,mg] w).size l7
 refine sg 1 kj <| sgN hK6 <| sgC fun K8 hK8=>sg 2 kj ?_
 have r2_1:=(Qac hc e1)
 have r3_1:=(Qac hq e1)
 have r1_1:=(Qac hg e1)
 have r4_1:=(Qac hes5 e1)
 refine Qa6 (fun v W'=>(Qcs W1.heap.size ((n:Nat):Int) (keyV (itV sec (n-pl)))) v W'∧Ext W1 W') 34 #[.pointer (some ⟨g,0,none⟩),.int .i64 ((n:Nat):Int)] 11 rfl kj kj ((QkG g nx B hnx hB sec pl mg hsec _ r1_1 ms hmo ⟨_,_,r4_1,hM5⟩ tc tq r2_1 r3_1 hsb n hp hm (by omega)).mono (by rintro e w' ⟨v,rfl,e1,hv⟩; exact ⟨v,rfl,hv,e1⟩)) fun vv9 W2 hh9=>?_
 obtain ⟨hv9,e2⟩:=hh9
 have x2:Qah [g,mg] w W2:=Qah.step x1 e2
 obtain ⟨u10,rfl,hu10⟩:=hv9
 obtain ⟨a10_,c10_,rfl,-⟩:=id (OwnN.rd hu10)
 have nbg:=QcU hu10 (Qay r1_1)
 have nbm:=QcU hu10 (Qay r4_1)
 refine Qap (cat [#[.int .i64 0],ints .u8 (List.replicate 32 0),#[.slice none 0 0]]) 40 6 rfl kj kj fun g11 W3 l11 e3 r11_3=>?_
 have x3:Qah [g,mg] w W3:=Qah.step x2 e3
 have b11:=qT x2.size l11
 refine Qaj g11 _ (cat [#[.int .i64 ((n:Nat):Int)],ints .u8 ((keyV (itV sec (n-pl))).take 32),#[.slice a10_ (((keyV (itV sec (n-pl))).drop 32).length) c10_]]) 40 r11_3 rfl kj (Qal 40 _ _ g11 40 _ _ r11_3 rfl kj kj (isz (n:=34) kj (by rw [Qaa,Qaa,Qaa]; simp only [qS,cat,((Qad _ _).trans (QaP (QaB _)))]; rfl)) (eqsz (n:=34) (by rw [Qaa,Qaa,Qaa]; simp only [qS,cat,((Qad _ _).trans (List.length_replicate (n:=32)))]; rfl) (by rw [Qaa,Qaa,Qaa]; simp only [qS,cat,((Qad _ _).trans (QaP (QaB _)))]; rfl)) (QaD _ (by intro a ha; simp only [List.mem_cons,List.not_mem_nil,or_false] at ha; rcases ha with rfl | rfl | rfl; exact (Qan _ rfl); exact (Qau _ _); exact (Qan _ rfl)))) fun W4 p4 r11_4=>?_
 have x4:Qah [g,mg] w W4:=Qah.puts x3 p4 (.inr b11)
 refine sgN hK8 <| wp_seq_k fun K12 hK12=>sgC fun K13 hK13=>sg 4 kj <| Qa6 (fun v W'=>v=.nilIface∧ExtB g W4 W'∧W'.heap[g]? = some (.cells (cat [#[.int .i64 (((n:Nat):Int)+1)],#[.int .u64 ((B*2^a%18446744073709551616|||1*2^(a-1)%18446744073709551616:Nat):Int)],ints .u8 (sec),#[.int .i64 ((pl:Nat):Int)],#[.map (some mg)]]) 84)) 44 #[.pointer (some ⟨g,0,none⟩),.int .i64 ((n:Nat):Int)] 16 rfl kj kj ((Qna g nx B ((n:Nat):Int) hnx hB sec pl mg hsec _ (Puts.row p4 (Qac (Qac r1_1 e2) e3) (Nat.ne_of_lt (qL hl_g b11))) hc0 (by omega) a ha ha1).mono fun e w' ⟨h1,h2,h3⟩=>⟨_,h1,rfl,h2,h3⟩) fun v W5 h=>?_
 obtain ⟨rfl,q5,r1_5⟩:=h
 have x5:Qah [g,mg] w W5:=Qah.but x4 q5 (.inl (by simp))
 refine sg 1 kj <| sgN hK13 <| sgB kj <| cond_false kj <| wp_skip <| hK12 _ _ <| sgC fun K15 hK15=>sg 3 kj <| Qab (.map (some mg)) 24 rfl kj (Qag 82 _ g 35 84 _ (.map (some mg)) _ r1_5 rfl kj (Qaw [#[.int .i64 (((n:Nat):Int)+1)],#[.int .u64 ((B*2^a%18446744073709551616|||1*2^(a-1)%18446744073709551616:Nat):Int)],ints .u8 (sec),#[.int .i64 ((pl:Nat):Int)]] [#[.map (some mg)]] [] 35 (by rw [Qaa,Qaa,Qaa,Qaa]; simp only [qS,cat,((Qad _ _).trans hsec)]; rfl) 0 _ rfl) kj) ?_
 refine sg 1 kj <| Qhg (n:=((n:Nat):Int)) (.tmp 24) (.tmp 25) 82 (kt:=3) (et:=93) rfl kj kj kj kj ⟨_,_,(ExtB.row q5 (Puts.row p4 (Qac (Qac r4_1 e2) e3) (Nat.ne_of_lt (qL hl_mg b11))) (Ne.symm hgm)),hM5⟩ rfl kj fun W6 p6 hmp=>?_
 have x6:Qah [g,mg] w W6:=Qah.puts x5 p6 (.inl (by simp))
 replace hmp:MpAt mg ((msNo ms ((n:Nat):Int)).map mpv) W6:=by have h9:=hmp; rw [Qdv (fun x=>x != ((n:Nat):Int))] at h9; exact h9
 obtain ⟨es16,cl16,hes16,hM16⟩:=id hmp
 refine sgN hK15 <| wp_seq_k fun K17 hK17=>wp_block ?_
 have n_7_1:g7≠g:=(Ne.symm (Nat.ne_of_lt (qL hl_g b7)))
 have n_7_4:g7≠mg:=(Ne.symm (Nat.ne_of_lt (qL hl_mg b7)))
 have n_11_1:g11≠g:=(Ne.symm (Nat.ne_of_lt (qL hl_g b11)))
 have n_11_4:g11≠mg:=(Ne.symm (Nat.ne_of_lt (qL hl_mg b11)))
 refine QaC (fun (s1:Nat)=>[(0,.pointer (some ⟨g,0,none⟩)),(1,.int .i64 ((n:Nat):Int)),(4,.pointer (some ⟨g7,0,none⟩)),(5,.nilIface),(6,.pointer (some ⟨g11,0,none⟩)),(7,.nilIface)]) (fun (s1:Nat) W=>(s1≤n+1-pl)∧(MpAt mg (((msNo ms ((n:Nat):Int))++QbY sec pl n s1).map mpv) W)∧(W.heap[g]? = some (.cells (cat [#[.int .i64 (((n:Nat):Int)+1)],#[.int .u64 ((B*2^a%18446744073709551616|||1*2^(a-1)%18446744073709551616:Nat):Int)],ints .u8 (itV sec s1),#[.int .i64 ((pl+s1:Nat):Int)],#[.map (some mg)]]) 84))∧(Qah [g,mg] W6 W)∧(Qah [g,mg] w W)) (fun (s1:Nat)=>n+1-pl-s1) 0 ⟨kj,kj,kj,kj,kj,kj,trivial⟩ ⟨(Nat.zero_le _),(by show MpAt mg (((msNo ms ((n:Nat):Int))++[]).map mpv) _; rw [List.append_nil]; exact ⟨_,_,hes16,hM16⟩),(Puts.row p6 r1_5 hgm),(Qah.refl [g,mg] W6),x6⟩ fun s1 X1 V1 hI1=>?_
 obtain ⟨k,hs1⟩:∃ z,z=s1:=⟨_,rfl⟩
 subst hs1
 obtain ⟨hk,hmp,q1_1,kk1,xx1⟩:=hI1
 replace hk:k≤n+1-pl:=hk
 replace hmp:MpAt mg (((msNo ms ((n:Nat):Int))++QbY sec pl n k).map mpv) V1:=hmp
 replace q1_1:V1.heap[g]? = some (.cells (cat [#[.int .i64 (((n:Nat):Int)+1)],#[.int .u64 ((B*2^a%18446744073709551616|||1*2^(a-1)%18446744073709551616:Nat):Int)],ints .u8 (itV sec k),#[.int .i64 ((pl+k:Nat):Int)],#[.map (some mg)]]) 84):=q1_1
 replace kk1:Qah [g,mg] W6 V1:=kk1
 replace xx1:Qah [g,mg] w V1:=xx1
 have q7:=kk1
 obtain ⟨es18,cl18,hes18,hM18⟩:=id hmp
 have hkp:pl+k≤4294967295:=by omega
 refine wp_seq_k fun K19 hK19=>sgC fun K20 hK20=>sg 3 kj <| Qab (.int .i64 ((pl+k:Nat):Int)) 29 rfl kj (Qag 3 _ g 34 84 _ (.int .i64 ((pl+k:Nat):Int)) _ q1_1 rfl kj (Qaw [#[.int .i64 (((n:Nat):Int)+1)],#[.int .u64 ((B*2^a%18446744073709551616|||1*2^(a-1)%18446744073709551616:Nat):Int)],ints .u8 (itV sec k)] [#[.int .i64 ((pl+k:Nat):Int)]] [#[.map (some mg)]] 34 (by rw [Qaa,Qaa,Qaa]; simp only [qS,cat,((Qad _ _).trans (Qa5 hsec k))]; rfl) 0 _ rfl) kj) ?_
 refine sg 2 kj <| sgN hK20 <| Qa3 (t:=decide (((pl+k:Nat):Int)≤((n:Nat):Int))) kj (fun c21=>?_) (fun c21=>?_)
 ·skip
  have hlt:pl+k≤n:=by have:=of_decide_eq_true c21; omega
  refine wp_skip <| hK19 _ _ <| wp_block <| wp_seq_k fun K22 hK22=>wp_seq_k fun K23 hK23=>?_
  rcases (show (pl+k<n∧n≤pl+k+64)∨(pl+k<n∧pl+k+64<n)∨pl+k=n by omega) with hcc | hcc | hcc
  ·skip
   refine Qaf <| sg 3 kj <| Qab (.int .i64 ((pl+k:Nat):Int)) 35 rfl kj (Qag 3 _ g 34 84 _ (.int .i64 ((pl+k:Nat):Int)) _ q1_1 rfl kj (Qaw [#[.int .i64 (((n:Nat):Int)+1)],#[.int .u64 ((B*2^a%18446744073709551616|||1*2^(a-1)%18446744073709551616:Nat):Int)],ints .u8 (itV sec k)] [#[.int .i64 ((pl+k:Nat):Int)]] [#[.map (some mg)]] 34 (by rw [Qaa,Qaa,Qaa]; simp only [qS,cat,((Qad _ _).trans (Qa5 hsec k))]; rfl) 0 _ rfl) kj) ?_
   refine sg 1 kj <| Qab (.bool true) 37 rfl kj (Qai (u:=.bool (decide (((pl+k:Nat):Int)<((n:Nat):Int)))) kj (congrArg Value.bool (decide_eq_true (by omega)))) <| sg 4 kj <| Qab (.int .i64 ((pl+k:Nat):Int)) 42 rfl kj (Qag 3 _ g 34 84 _ (.int .i64 ((pl+k:Nat):Int)) _ q1_1 rfl kj (Qaw [#[.int .i64 (((n:Nat):Int)+1)],#[.int .u64 ((B*2^a%18446744073709551616|||1*2^(a-1)%18446744073709551616:Nat):Int)],ints .u8 (itV sec k)] [#[.int .i64 ((pl+k:Nat):Int)]] [#[.map (some mg)]] 34 (by rw [Qaa,Qaa,Qaa]; simp only [qS,cat,((Qad _ _).trans (Qa5 hsec k))]; rfl) 0 _ rfl) kj) ?_
   refine sg 1 kj <| Qab (.int .i64 (((n:Nat):Int)-64)) 44 rfl kj (Qai (u:=.int .i64 (IntKind.i64.wrap (((n:Nat):Int)-64))) kj (congrArg (Value.int .i64) (Qbp _ (by omega)))) <| Qab (.bool true) 45 rfl kj (Qai (u:=.bool (decide (((pl+k:Nat):Int)≥(((n:Nat):Int)-64)))) kj (congrArg Value.bool (decide_eq_true (by omega)))) <| sg 1 kj <| sgN hK23 <| cond_true kj <| Wm.region_walkM (fun W=>W.heap[g]? = some (.cells (cat [#[.int .i64 (((n:Nat):Int)+1)],#[.int .u64 ((B*2^a%18446744073709551616|||1*2^(a-1)%18446744073709551616:Nat):Int)],ints .u8 (itV sec k),#[.int .i64 ((pl+k:Nat):Int)],#[.map (some mg)]]) 84)) 13 kj fun W8 e8=>⟨Qac q1_1 e8,?_⟩
   have x8:Qah [g,mg] w W8:=Qah.step xx1 e8
   refine Wm.wm_val 0 (.pointer (some ⟨g,0,none⟩)) 47 rfl rfl kj kj (by decide) kj (fun _ _ _ h=>h) (fun W hR=>by kernel_rfl) <| Wm.wm_val 1 (.pointer (some ⟨g,0,none⟩)) 48 rfl rfl kj kj (by decide) kj (fun _ _ _ h=>h) (fun W hR=>by kernel_rfl) <| Wm.wm_val 2 (.pointer (some ⟨g,35,none⟩)) 49 rfl rfl kj kj (by decide) kj (fun _ _ _ h=>h) (fun W hR=>by kernel_rfl) <| Wm.wm_val 3 (.map (some mg)) 50 rfl rfl kj kj (by decide) kj (fun _ _ _ h=>h) (fun W hR=>(Qag 82 _ g 35 84 _ (.map (some mg)) _ hR rfl kj (Qaw [#[.int .i64 (((n:Nat):Int)+1)],#[.int .u64 ((B*2^a%18446744073709551616|||1*2^(a-1)%18446744073709551616:Nat):Int)],ints .u8 (itV sec k),#[.int .i64 ((pl+k:Nat):Int)]] [#[.map (some mg)]] [] 35 (by rw [Qaa,Qaa,Qaa,Qaa]; simp only [qS,cat,((Qad _ _).trans (Qa5 hsec k))]; rfl) 0 _ rfl) kj)) ?_
   refine Wm.wm_val 4 (.pointer (some ⟨g,0,none⟩)) 51 rfl rfl kj kj (by decide) kj (fun _ _ _ h=>h) (fun W hR=>by kernel_rfl) <| Wm.wm_val 5 (.pointer (some ⟨g,0,none⟩)) 52 rfl rfl kj kj (by decide) kj (fun _ _ _ h=>h) (fun W hR=>by kernel_rfl) <| Wm.wm_val 6 (.pointer (some ⟨g,34,none⟩)) 53 rfl rfl kj kj (by decide) kj (fun _ _ _ h=>h) (fun W hR=>by kernel_rfl) <| Wm.wm_val 7 (.int .i64 ((pl+k:Nat):Int)) 54 rfl rfl kj kj (by decide) kj (fun _ _ _ h=>h) (fun W hR=>(Qag 3 _ g 34 84 _ (.int .i64 ((pl+k:Nat):Int)) _ hR rfl kj (Qaw [#[.int .i64 (((n:Nat):Int)+1)],#[.int .u64 ((B*2^a%18446744073709551616|||1*2^(a-1)%18446744073709551616:Nat):Int)],ints .u8 (itV sec k)] [#[.int .i64 ((pl+k:Nat):Int)]] [#[.map (some mg)]] 34 (by rw [Qaa,Qaa,Qaa]; simp only [qS,cat,((Qad _ _).trans (Qa5 hsec k))]; rfl) 0 _ rfl) kj)) ?_
   refine Wm.wm_val 8 (.pointer (some ⟨g,0,none⟩)) 55 rfl rfl kj kj (by decide) kj (fun _ _ _ h=>h) (fun W hR=>by kernel_rfl) <| Wm.wm_val 9 (.pointer (some ⟨g,0,none⟩)) 56 rfl rfl kj kj (by decide) kj (fun _ _ _ h=>h) (fun W hR=>by kernel_rfl) <| Wm.wm_val 10 (.pointer (some ⟨g,2,none⟩)) 57 rfl rfl kj kj (by decide) kj (fun _ _ _ h=>h) (fun W hR=>by kernel_rfl) <| Wm.wm_val 11 (.agg (ints .u8 (itV sec k))) 58 rfl rfl kj kj (by decide) kj (fun _ _ _ h=>h) (fun W hR=>(QaK 23 _ g 2 84 _ _ _ hR rfl kj (Qaw [#[.int .i64 (((n:Nat):Int)+1)],#[.int .u64 ((B*2^a%18446744073709551616|||1*2^(a-1)%18446744073709551616:Nat):Int)]] [ints .u8 (itV sec k)] [#[.int .i64 ((pl+k:Nat):Int)],#[.map (some mg)]] 2 kj) kj (isz (n:=32) kj ((Qad _ _).trans (Qa5 hsec k))))) ?_
   have r1_8:=(Qac q1_1 e8)
   have r2_2:=(Qac r2_1 e2)
   have r2_3:=(Qac r2_2 e3)
   have r2_4:=(Puts.row p4 r2_3 (Qae r2_2 l11))
   have r2_5:=(ExtB.row q5 r2_4 hcg)
   have r2_6:=(Puts.row p6 r2_5 hcm)
   have r2_7:=(Qah.row q7 r2_6 (Qax hcg (Qax hcm QaJ)))
   have r2_8:=(Qac r2_7 e8)
   have r3_2:=(Qac r3_1 e2)
   have r3_3:=(Qac r3_2 e3)
   have r3_4:=(Puts.row p4 r3_3 (Qae r3_2 l11))
   have r3_5:=(ExtB.row q5 r3_4 hsg)
   have r3_6:=(Puts.row p6 r3_5 hsm)
   have r3_7:=(Qah.row q7 r3_6 (Qax hsg (Qax hsm QaJ)))
   have r3_8:=(Qac r3_7 e8)
   refine Wm.wm_call 12 kj rfl (fun v W'=>(fun v _=>v=.agg (ints .u8 (keyV (itV sec k)))) v W'∧Ext W8 W') 45 #[.agg (ints .u8 (itV sec k))] 59 rfl kj kj ((retG (Qjc (itV sec k) tc tq _ r2_8 r3_8 (Qa5 hsec k) (Qbu hsb k))).mono (by rintro e w' ⟨v,rfl,e1,hv⟩; exact ⟨v,rfl,hv,e1⟩)) (fun v W h=>Qac r1_8 h.2) fun vv24 W9 hh24=>?_
   obtain ⟨hv24,e9⟩:=hh24
   have x9:Qah [g,mg] w W9:=Qah.step x8 e9
   subst hv24
   have r1_9:=(Qac r1_8 e9)
   have r4_8:=(Qac hes18 e8)
   have r4_9:=(Qac r4_8 e9)
   refine Wm.wm_last kj kj rfl (fun W'=>Puts W9 mg W'∧MpAt mg ((((msNo ms ((n:Nat):Int))++QbY sec pl n k).map mpv)++[(((pl+k:Nat):Int),.agg (ints .u8 (keyV (itV sec k))))]) W') rfl kj (Qhj 82 _ _ _ (kt:=3) (et:=93) rfl kj kj kj kj kj ⟨_,_,r4_9,hM18⟩ (QiW (Qgt hlt0))) fun W10 hh=>?_
   obtain ⟨p10,hmp⟩:=hh
   have x10:Qah [g,mg] w W10:=Qah.puts x9 p10 (.inl (by simp))
   replace hmp:MpAt mg (((msNo ms ((n:Nat):Int))++QbY sec pl n (k+1)).map mpv) W10:=by rw [QhG hcc,←List.append_assoc,List.map_append]; exact hmp
   obtain ⟨es25,cl25,hes25,hM25⟩:=id hmp
   refine hK22 _ _ <| sgC fun K26 hK26=>sg 4 kj ?_
   have r1_10:=(Puts.row p10 r1_9 hgm)
   refine Qab (.agg (ints .u8 (itV sec k))) 64 rfl kj (QaK 23 _ g 2 84 _ _ _ r1_10 rfl kj (Qaw [#[.int .i64 (((n:Nat):Int)+1)],#[.int .u64 ((B*2^a%18446744073709551616|||1*2^(a-1)%18446744073709551616:Nat):Int)]] [ints .u8 (itV sec k)] [#[.int .i64 ((pl+k:Nat):Int)],#[.map (some mg)]] 2 kj) kj (isz (n:=32) kj ((Qad _ _).trans (Qa5 hsec k)))) <| Qar (.agg (ints .u8 (itV sec (k+1)))) 46 #[.agg (ints .u8 (itV sec k))] 65 rfl kj kj (QeZ (itV sec k) tc tq _ (Puts.row p10 (Qac r2_8 e9) hcm) (Puts.row p10 (Qac r3_8 e9) hsm) (Qa5 hsec k) (Qbu hsb k)) fun W11 e11=>?_
   have x11:Qah [g,mg] w W11:=Qah.step x10 e11
   refine sg 2 kj ?_
   have r1_11:=(Qac r1_10 e11)
   refine Qaj g _ (cat [#[.int .i64 (((n:Nat):Int)+1)],#[.int .u64 ((B*2^a%18446744073709551616|||1*2^(a-1)%18446744073709551616:Nat):Int)],ints .u8 (itV sec (k+1)),#[.int .i64 ((pl+k:Nat):Int)],#[.map (some mg)]]) 84 r1_11 rfl kj (Qb1 23 _ _ g 2 84 [#[.int .i64 (((n:Nat):Int)+1)],#[.int .u64 ((B*2^a%18446744073709551616|||1*2^(a-1)%18446744073709551616:Nat):Int)]] [ints .u8 (itV sec k)] [ints .u8 (itV sec (k+1))] [#[.int .i64 ((pl+k:Nat):Int)],#[.map (some mg)]] r1_11 rfl kj kj (isz (n:=32) kj ((Qad _ _).trans (Qa5 hsec (k+1)))) kj (eqsz (n:=32) ((Qad _ _).trans (Qa5 hsec (k+1))) ((Qad _ _).trans (Qa5 hsec k))) (Qau _ _)) fun W12 p12 r1_12=>?_
   have x12:Qah [g,mg] w W12:=Qah.puts x11 p12 (.inl (by simp))
   refine sgN hK26 <| Qaf <| sg 3 kj <| Qab (.int .i64 ((pl+k:Nat):Int)) 71 rfl kj (Qag 3 _ g 34 84 _ (.int .i64 ((pl+k:Nat):Int)) _ r1_12 rfl kj (Qaw [#[.int .i64 (((n:Nat):Int)+1)],#[.int .u64 ((B*2^a%18446744073709551616|||1*2^(a-1)%18446744073709551616:Nat):Int)],ints .u8 (itV sec (k+1))] [#[.int .i64 ((pl+k:Nat):Int)]] [#[.map (some mg)]] 34 (by rw [Qaa,Qaa,Qaa]; simp only [qS,cat,((Qad _ _).trans (Qa5 hsec (k+1)))]; rfl) 0 _ rfl) kj) ?_
   refine Qab (.int .i64 (((pl+(k+1):Nat):Int))) 72 rfl kj (Qai (u:=.int .i64 (IntKind.i64.wrap (((pl+k:Nat):Int)+1))) kj (congrArg (Value.int .i64) ((Qbp _ (by omega)).trans (by omega)))) <| sg 2 kj <| Qaj g _ (cat [#[.int .i64 (((n:Nat):Int)+1)],#[.int .u64 ((B*2^a%18446744073709551616|||1*2^(a-1)%18446744073709551616:Nat):Int)],ints .u8 (itV sec (k+1)),#[.int .i64 (((pl+(k+1):Nat):Int))],#[.map (some mg)]]) 84 r1_12 rfl kj (Qbf 3 _ _ g 34 84 [#[.int .i64 (((n:Nat):Int)+1)],#[.int .u64 ((B*2^a%18446744073709551616|||1*2^(a-1)%18446744073709551616:Nat):Int)],ints .u8 (itV sec (k+1))] [#[.map (some mg)]] _ (.int .i64 (((pl+(k+1):Nat):Int))) r1_12 rfl kj kj kj (by rw [Qaa,Qaa,Qaa]; simp only [qS,cat,((Qad _ _).trans (Qa5 hsec (k+1)))]; rfl) rfl rfl) fun W13 p13 r1_13=>?_
   have x13:Qah [g,mg] w W13:=Qah.puts x12 p13 (.inl (by simp))
   refine Qak ?_
   repeat (first | with_reducible refine goX1 ?_ | with_reducible refine goX2 ?_ | with_reducible refine goX3 ?_)
   exact Qa4 (k+1) ⟨kj,kj,kj,kj,kj,kj,trivial⟩ ⟨(by omega),⟨_,_,(Puts.row p13 (Puts.row p12 (Qac hes25 e11) (Ne.symm hgm)) (Ne.symm hgm)),hM25⟩,r1_13,(Qah.puts (Qah.puts (Qah.step (Qah.puts (Qah.step (Qah.step q7 e8) e9) p10 (.inl (by simp))) e11) p12 (.inl (by simp))) p13 (.inl (by simp))),x13⟩ (by omega)
  ·skip
   refine Qaf <| sg 3 kj <| Qab (.int .i64 ((pl+k:Nat):Int)) 35 rfl kj (Qag 3 _ g 34 84 _ (.int .i64 ((pl+k:Nat):Int)) _ q1_1 rfl kj (Qaw [#[.int .i64 (((n:Nat):Int)+1)],#[.int .u64 ((B*2^a%18446744073709551616|||1*2^(a-1)%18446744073709551616:Nat):Int)],ints .u8 (itV sec k)] [#[.int .i64 ((pl+k:Nat):Int)]] [#[.map (some mg)]] 34 (by rw [Qaa,Qaa,Qaa]; simp only [qS,cat,((Qad _ _).trans (Qa5 hsec k))]; rfl) 0 _ rfl) kj) ?_
   refine sg 1 kj <| Qab (.bool true) 37 rfl kj (Qai (u:=.bool (decide (((pl+k:Nat):Int)<((n:Nat):Int)))) kj (congrArg Value.bool (decide_eq_true (by omega)))) <| sg 4 kj <| Qab (.int .i64 ((pl+k:Nat):Int)) 42 rfl kj (Qag 3 _ g 34 84 _ (.int .i64 ((pl+k:Nat):Int)) _ q1_1 rfl kj (Qaw [#[.int .i64 (((n:Nat):Int)+1)],#[.int .u64 ((B*2^a%18446744073709551616|||1*2^(a-1)%18446744073709551616:Nat):Int)],ints .u8 (itV sec k)] [#[.int .i64 ((pl+k:Nat):Int)]] [#[.map (some mg)]] 34 (by rw [Qaa,Qaa,Qaa]; simp only [qS,cat,((Qad _ _).trans (Qa5 hsec k))]; rfl) 0 _ rfl) kj) ?_
   refine sg 1 kj <| Qab (.int .i64 (((n:Nat):Int)-64)) 44 rfl kj (Qai (u:=.int .i64 (IntKind.i64.wrap (((n:Nat):Int)-64))) kj (congrArg (Value.int .i64) (Qbp _ (by omega)))) <| Qab (.bool false) 45 rfl kj (Qai (u:=.bool (decide (((pl+k:Nat):Int)≥(((n:Nat):Int)-64)))) kj (congrArg Value.bool (decide_eq_false (by omega)))) <| sg 1 kj <| sgN hK23 <| cond_false kj <| wp_skip <| hK22 _ _ <| sgC fun K27 hK27=>sg 4 kj ?_
   refine Qab (.agg (ints .u8 (itV sec k))) 64 rfl kj (QaK 23 _ g 2 84 _ _ _ q1_1 rfl kj (Qaw [#[.int .i64 (((n:Nat):Int)+1)],#[.int .u64 ((B*2^a%18446744073709551616|||1*2^(a-1)%18446744073709551616:Nat):Int)]] [ints .u8 (itV sec k)] [#[.int .i64 ((pl+k:Nat):Int)],#[.map (some mg)]] 2 kj) kj (isz (n:=32) kj ((Qad _ _).trans (Qa5 hsec k)))) ?_
   have r2_2:=(Qac r2_1 e2)
   have r2_3:=(Qac r2_2 e3)
   have r2_4:=(Puts.row p4 r2_3 (Qae r2_2 l11))
   have r2_5:=(ExtB.row q5 r2_4 hcg)
   have r2_6:=(Puts.row p6 r2_5 hcm)
   have r2_7:=(Qah.row q7 r2_6 (Qax hcg (Qax hcm QaJ)))
   have r3_2:=(Qac r3_1 e2)
   have r3_3:=(Qac r3_2 e3)
   have r3_4:=(Puts.row p4 r3_3 (Qae r3_2 l11))
   have r3_5:=(ExtB.row q5 r3_4 hsg)
   have r3_6:=(Puts.row p6 r3_5 hsm)
   have r3_7:=(Qah.row q7 r3_6 (Qax hsg (Qax hsm QaJ)))
   refine Qar (.agg (ints .u8 (itV sec (k+1)))) 46 #[.agg (ints .u8 (itV sec k))] 65 rfl kj kj (QeZ (itV sec k) tc tq _ r2_7 r3_7 (Qa5 hsec k) (Qbu hsb k)) fun W8 e8=>?_
   have x8:Qah [g,mg] w W8:=Qah.step xx1 e8
   refine sg 2 kj ?_
   have r1_8:=(Qac q1_1 e8)
   refine Qaj g _ (cat [#[.int .i64 (((n:Nat):Int)+1)],#[.int .u64 ((B*2^a%18446744073709551616|||1*2^(a-1)%18446744073709551616:Nat):Int)],ints .u8 (itV sec (k+1)),#[.int .i64 ((pl+k:Nat):Int)],#[.map (some mg)]]) 84 r1_8 rfl kj (Qb1 23 _ _ g 2 84 [#[.int .i64 (((n:Nat):Int)+1)],#[.int .u64 ((B*2^a%18446744073709551616|||1*2^(a-1)%18446744073709551616:Nat):Int)]] [ints .u8 (itV sec k)] [ints .u8 (itV sec (k+1))] [#[.int .i64 ((pl+k:Nat):Int)],#[.map (some mg)]] r1_8 rfl kj kj (isz (n:=32) kj ((Qad _ _).trans (Qa5 hsec (k+1)))) kj (eqsz (n:=32) ((Qad _ _).trans (Qa5 hsec (k+1))) ((Qad _ _).trans (Qa5 hsec k))) (Qau _ _)) fun W9 p9 r1_9=>?_
   have x9:Qah [g,mg] w W9:=Qah.puts x8 p9 (.inl (by simp))
   refine sgN hK27 <| Qaf <| sg 3 kj <| Qab (.int .i64 ((pl+k:Nat):Int)) 71 rfl kj (Qag 3 _ g 34 84 _ (.int .i64 ((pl+k:Nat):Int)) _ r1_9 rfl kj (Qaw [#[.int .i64 (((n:Nat):Int)+1)],#[.int .u64 ((B*2^a%18446744073709551616|||1*2^(a-1)%18446744073709551616:Nat):Int)],ints .u8 (itV sec (k+1))] [#[.int .i64 ((pl+k:Nat):Int)]] [#[.map (some mg)]] 34 (by rw [Qaa,Qaa,Qaa]; simp only [qS,cat,((Qad _ _).trans (Qa5 hsec (k+1)))]; rfl) 0 _ rfl) kj) ?_
   refine Qab (.int .i64 (((pl+(k+1):Nat):Int))) 72 rfl kj (Qai (u:=.int .i64 (IntKind.i64.wrap (((pl+k:Nat):Int)+1))) kj (congrArg (Value.int .i64) ((Qbp _ (by omega)).trans (by omega)))) <| sg 2 kj <| Qaj g _ (cat [#[.int .i64 (((n:Nat):Int)+1)],#[.int .u64 ((B*2^a%18446744073709551616|||1*2^(a-1)%18446744073709551616:Nat):Int)],ints .u8 (itV sec (k+1)),#[.int .i64 (((pl+(k+1):Nat):Int))],#[.map (some mg)]]) 84 r1_9 rfl kj (Qbf 3 _ _ g 34 84 [#[.int .i64 (((n:Nat):Int)+1)],#[.int .u64 ((B*2^a%18446744073709551616|||1*2^(a-1)%18446744073709551616:Nat):Int)],ints .u8 (itV sec (k+1))] [#[.map (some mg)]] _ (.int .i64 (((pl+(k+1):Nat):Int))) r1_9 rfl kj kj kj (by rw [Qaa,Qaa,Qaa]; simp only [qS,cat,((Qad _ _).trans (Qa5 hsec (k+1)))]; rfl) rfl rfl) fun W10 p10 r1_10=>?_
   have x10:Qah [g,mg] w W10:=Qah.puts x9 p10 (.inl (by simp))
   refine Qak ?_
   have r4_8:=(Qac hes18 e8)
   have r4_9:=(Puts.row p9 r4_8 (Ne.symm hgm))
   have r4_10:=(Puts.row p10 r4_9 (Ne.symm hgm))
   repeat (first | with_reducible refine goX1 ?_ | with_reducible refine goX2 ?_ | with_reducible refine goX3 ?_)
   exact Qa4 (k+1) ⟨kj,kj,kj,kj,kj,kj,trivial⟩ ⟨(by omega),(by rw [QfT (by omega)]; exact ⟨_,_,r4_10,hM18⟩),r1_10,(Qah.puts (Qah.puts (Qah.step q7 e8) p9 (.inl (by simp))) p10 (.inl (by simp))),x10⟩ (by omega)
  ·skip
   refine Qaf <| sg 3 kj <| Qab (.int .i64 ((pl+k:Nat):Int)) 35 rfl kj (Qag 3 _ g 34 84 _ (.int .i64 ((pl+k:Nat):Int)) _ q1_1 rfl kj (Qaw [#[.int .i64 (((n:Nat):Int)+1)],#[.int .u64 ((B*2^a%18446744073709551616|||1*2^(a-1)%18446744073709551616:Nat):Int)],ints .u8 (itV sec k)] [#[.int .i64 ((pl+k:Nat):Int)]] [#[.map (some mg)]] 34 (by rw [Qaa,Qaa,Qaa]; simp only [qS,cat,((Qad _ _).trans (Qa5 hsec k))]; rfl) 0 _ rfl) kj) ?_
   refine sg 1 kj <| Qab (.bool false) 37 rfl kj (Qai (u:=.bool (decide (((pl+k:Nat):Int)<((n:Nat):Int)))) kj (congrArg Value.bool (decide_eq_false (by omega)))) <| sg 9 kj <| sgN hK23 <| cond_false kj <| wp_skip <| hK22 _ _ <| sgC fun K28 hK28=>sg 4 kj <| Qab (.agg (ints .u8 (itV sec k))) 64 rfl kj (QaK 23 _ g 2 84 _ _ _ q1_1 rfl kj (Qaw [#[.int .i64 (((n:Nat):Int)+1)],#[.int .u64 ((B*2^a%18446744073709551616|||1*2^(a-1)%18446744073709551616:Nat):Int)]] [ints .u8 (itV sec k)] [#[.int .i64 ((pl+k:Nat):Int)],#[.map (some mg)]] 2 kj) kj (isz (n:=32) kj ((Qad _ _).trans (Qa5 hsec k)))) ?_
   have r2_2:=(Qac r2_1 e2)
   have r2_3:=(Qac r2_2 e3)
   have r2_4:=(Puts.row p4 r2_3 (Qae r2_2 l11))
   have r2_5:=(ExtB.row q5 r2_4 hcg)
   have r2_6:=(Puts.row p6 r2_5 hcm)
   have r2_7:=(Qah.row q7 r2_6 (Qax hcg (Qax hcm QaJ)))
   have r3_2:=(Qac r3_1 e2)
   have r3_3:=(Qac r3_2 e3)
   have r3_4:=(Puts.row p4 r3_3 (Qae r3_2 l11))
   have r3_5:=(ExtB.row q5 r3_4 hsg)
   have r3_6:=(Puts.row p6 r3_5 hsm)
   have r3_7:=(Qah.row q7 r3_6 (Qax hsg (Qax hsm QaJ)))
   refine Qar (.agg (ints .u8 (itV sec (k+1)))) 46 #[.agg (ints .u8 (itV sec k))] 65 rfl kj kj (QeZ (itV sec k) tc tq _ r2_7 r3_7 (Qa5 hsec k) (Qbu hsb k)) fun W8 e8=>?_
   have x8:Qah [g,mg] w W8:=Qah.step xx1 e8
   refine sg 2 kj ?_
   have r1_8:=(Qac q1_1 e8)
   refine Qaj g _ (cat [#[.int .i64 (((n:Nat):Int)+1)],#[.int .u64 ((B*2^a%18446744073709551616|||1*2^(a-1)%18446744073709551616:Nat):Int)],ints .u8 (itV sec (k+1)),#[.int .i64 ((pl+k:Nat):Int)],#[.map (some mg)]]) 84 r1_8 rfl kj (Qb1 23 _ _ g 2 84 [#[.int .i64 (((n:Nat):Int)+1)],#[.int .u64 ((B*2^a%18446744073709551616|||1*2^(a-1)%18446744073709551616:Nat):Int)]] [ints .u8 (itV sec k)] [ints .u8 (itV sec (k+1))] [#[.int .i64 ((pl+k:Nat):Int)],#[.map (some mg)]] r1_8 rfl kj kj (isz (n:=32) kj ((Qad _ _).trans (Qa5 hsec (k+1)))) kj (eqsz (n:=32) ((Qad _ _).trans (Qa5 hsec (k+1))) ((Qad _ _).trans (Qa5 hsec k))) (Qau _ _)) fun W9 p9 r1_9=>?_
   have x9:Qah [g,mg] w W9:=Qah.puts x8 p9 (.inl (by simp))
   refine sgN hK28 <| Qaf <| sg 3 kj <| Qab (.int .i64 ((pl+k:Nat):Int)) 71 rfl kj (Qag 3 _ g 34 84 _ (.int .i64 ((pl+k:Nat):Int)) _ r1_9 rfl kj (Qaw [#[.int .i64 (((n:Nat):Int)+1)],#[.int .u64 ((B*2^a%18446744073709551616|||1*2^(a-1)%18446744073709551616:Nat):Int)],ints .u8 (itV sec (k+1))] [#[.int .i64 ((pl+k:Nat):Int)]] [#[.map (some mg)]] 34 (by rw [Qaa,Qaa,Qaa]; simp only [qS,cat,((Qad _ _).trans (Qa5 hsec (k+1)))]; rfl) 0 _ rfl) kj) ?_
   refine Qab (.int .i64 (((pl+(k+1):Nat):Int))) 72 rfl kj (Qai (u:=.int .i64 (IntKind.i64.wrap (((pl+k:Nat):Int)+1))) kj (congrArg (Value.int .i64) ((Qbp _ (by omega)).trans (by omega)))) <| sg 2 kj <| Qaj g _ (cat [#[.int .i64 (((n:Nat):Int)+1)],#[.int .u64 ((B*2^a%18446744073709551616|||1*2^(a-1)%18446744073709551616:Nat):Int)],ints .u8 (itV sec (k+1)),#[.int .i64 (((pl+(k+1):Nat):Int))],#[.map (some mg)]]) 84 r1_9 rfl kj (Qbf 3 _ _ g 34 84 [#[.int .i64 (((n:Nat):Int)+1)],#[.int .u64 ((B*2^a%18446744073709551616|||1*2^(a-1)%18446744073709551616:Nat):Int)],ints .u8 (itV sec (k+1))] [#[.map (some mg)]] _ (.int .i64 (((pl+(k+1):Nat):Int))) r1_9 rfl kj kj kj (by rw [Qaa,Qaa,Qaa]; simp only [qS,cat,((Qad _ _).trans (Qa5 hsec (k+1)))]; rfl) rfl rfl) fun W10 p10 r1_10=>?_
   have x10:Qah [g,mg] w W10:=Qah.puts x9 p10 (.inl (by simp))
   refine Qak ?_
   have r4_8:=(Qac hes18 e8)
   have r4_9:=(Puts.row p9 r4_8 (Ne.symm hgm))
   have r4_10:=(Puts.row p10 r4_9 (Ne.symm hgm))
   repeat (first | with_reducible refine goX1 ?_ | with_reducible refine goX2 ?_ | with_reducible refine goX3 ?_)
   exact Qa4 (k+1) ⟨kj,kj,kj,kj,kj,kj,trivial⟩ ⟨(by omega),(by rw [QfT (by omega)]; exact ⟨_,_,r4_10,hM18⟩),r1_10,(Qah.puts (Qah.puts (Qah.step q7 e8) p9 (.inl (by simp))) p10 (.inl (by simp))),x10⟩ (by omega)
 ·skip
  have heq:k=n+1-pl:=by have:=of_decide_eq_false c21; omega
  refine wp_exit <| hK17 _ _ <| wp_seq_k fun K29 hK29=>sgC fun K30 hK30=>sg 3 kj <| Qab (.map (some mg)) 78 rfl kj (Qag 82 _ g 35 84 _ (.map (some mg)) _ q1_1 rfl kj (Qaw [#[.int .i64 (((n:Nat):Int)+1)],#[.int .u64 ((B*2^a%18446744073709551616|||1*2^(a-1)%18446744073709551616:Nat):Int)],ints .u8 (itV sec k),#[.int .i64 ((pl+k:Nat):Int)]] [#[.map (some mg)]] [] 35 (by rw [Qaa,Qaa,Qaa,Qaa]; simp only [qS,cat,((Qad _ _).trans (Qa5 hsec k))]; rfl) 0 _ rfl) kj) ?_
  refine Qhf (.mapIter (some mg) cl18 #[] cl18) (fun g=>.pointer (some ⟨g,0,none⟩)) 79 rfl kj (Qfi (kt:=3) (et:=93) 82 _ rfl kj kj hes18) fun g32 W8 l32 e8 r32_8=>?_
  have x8:Qah [g,mg] w W8:=Qah.step xx1 e8
  have b32:=qT xx1.size l32
  have r4_8:=(Qac hes18 e8)
  have hrg0:QcW mg g32 (((n:Nat):Int)+1-1-64) es18 cl18 #[] W8:=QcW.start hM18 r4_8 r32_8
  refine sgN hK30 <| wp_block ?_
  have r2_2:=(Qac r2_1 e2)
  have r2_3:=(Qac r2_2 e3)
  have r2_4:=(Puts.row p4 r2_3 (Qae r2_2 l11))
  have r2_5:=(ExtB.row q5 r2_4 hcg)
  have r2_6:=(Puts.row p6 r2_5 hcm)
  have r2_7:=(Qah.row q7 r2_6 (Qax hcg (Qax hcm QaJ)))
  have n_2_32:2≠g32:=(Qae r2_7 l32)
  have r3_2:=(Qac r3_1 e2)
  have r3_3:=(Qac r3_2 e3)
  have r3_4:=(Puts.row p4 r3_3 (Qae r3_2 l11))
  have r3_5:=(ExtB.row q5 r3_4 hsg)
  have r3_6:=(Puts.row p6 r3_5 hsm)
  have r3_7:=(Qah.row q7 r3_6 (Qax hsg (Qax hsm QaJ)))
  have n_3_32:1≠g32:=(Qae r3_7 l32)
  have r7_2:=(Qac r7_1 e2)
  have r7_7:=(Qah.row q7 (Puts.row p6 (ExtB.row q5 (Puts.row p4 (Qac r7_2 e3) (Qae r7_2 l11)) n_7_1) n_7_4) (Qax n_7_1 (Qax n_7_4 QaJ)))
  have n_7_32:g7≠g32:=(Qae r7_7 l32)
  have r11_7:=(Qah.row q7 (Puts.row p6 (ExtB.row q5 r11_4 n_11_1) n_11_4) (Qax n_11_1 (Qax n_11_4 QaJ)))
  have n_11_32:g11≠g32:=(Qae r11_7 l32)
  have n_32_1:g32≠g:=(Ne.symm (Nat.ne_of_lt (qL hl_g b32)))
  have n_32_4:g32≠mg:=(Ne.symm (Nat.ne_of_lt (qL hl_mg b32)))
  refine QaC (fun (s2:Array Nat)=>[(0,.pointer (some ⟨g,0,none⟩)),(1,.int .i64 ((n:Nat):Int)),(4,.pointer (some ⟨g7,0,none⟩)),(5,.nilIface),(6,.pointer (some ⟨g11,0,none⟩)),(79,.pointer (some ⟨g32,0,none⟩))]) (fun (s2:Array Nat) W=>(QcW mg g32 (((n:Nat):Int)+1-1-64) es18 cl18 s2 W)∧(Qah [mg,g32] W8 W)∧(Qah [g,mg] w W)) (fun (s2:Array Nat)=>rmu es18 s2) #[] ⟨kj,kj,kj,kj,kj,kj,trivial⟩ ⟨hrg0,(Qah.refl [mg,g32] W8),x8⟩ fun s2 X2 V2 hI2=>?_
  obtain ⟨sn,hs2⟩:∃ z,z=s2:=⟨_,rfl⟩
  subst hs2
  obtain ⟨hrg,kk2,xx2⟩:=hI2
  replace hrg:QcW mg g32 (((n:Nat):Int)+1-1-64) es18 cl18 sn V2:=hrg
  replace kk2:Qah [mg,g32] W8 V2:=kk2
  replace xx2:Qah [g,mg] w V2:=xx2
  have q9:=kk2
  refine sgC fun K33 hK33=>QfZ (.tmp 79) hM18 rfl kj hrg 80 rfl kj (fun hmp=>?_) (fun e y WN hy pN hst hen=>?_)
  ·skip
   obtain ⟨es34,cl34,hes34,hM34⟩:=id hmp
   refine sg 1 kj <| sgN hK33 <| wp_seq_k fun K35 hK35=>cond_false kj <| wp_exit <| hK29 _ _ <| sgC fun K36 hK36=>Qab (.agg (cat [#[.int .i64 ((n:Nat):Int)],ints .u8 ((keyV (itV sec (n-pl))).take 32),#[.slice a10_ (((keyV (itV sec (n-pl))).drop 32).length) c10_]])) 96 rfl kj (Qaq 40 _ g11 40 _ _ (Qah.row q9 (Qac r11_7 e8) (Qax n_11_4 (Qax n_11_32 QaJ))) rfl kj kj (isz (n:=34) kj (by rw [Qaa,Qaa,Qaa]; simp only [qS,cat,((Qad _ _).trans (QaP (QaB _)))]; rfl))) ?_
   have r7_9:=(Qah.row q9 (Qac r7_7 e8) (Qax n_7_4 (Qax n_7_32 QaJ)))
   refine Qaj g7 _ (cat [#[.int .i64 ((n:Nat):Int)],ints .u8 ((keyV (itV sec (n-pl))).take 32),#[.slice a10_ (((keyV (itV sec (n-pl))).drop 32).length) c10_]]) 40 r7_9 rfl kj (Qal 40 _ _ g7 40 _ _ r7_9 rfl kj kj (isz (n:=34) kj (by rw [Qaa,Qaa,Qaa]; simp only [qS,cat,((Qad _ _).trans (QaP (QaB _)))]; rfl)) (eqsz (n:=34) (by rw [Qaa,Qaa,Qaa]; simp only [qS,cat,((Qad _ _).trans (List.length_replicate (n:=32)))]; rfl) (by rw [Qaa,Qaa,Qaa]; simp only [qS,cat,((Qad _ _).trans (QaP (QaB _)))]; rfl)) (QaD _ (by intro a ha; simp only [List.mem_cons,List.not_mem_nil,or_false] at ha; rcases ha with rfl | rfl | rfl; exact (Qan _ rfl); exact (Qau _ _); exact (Qan _ rfl)))) fun W10 p10 r7_10=>?_
   have x10:Qah [g,mg] w W10:=Qah.puts xx2 p10 (.inr b7)
   refine sg 1 kj <| sgN hK36 <| wp_ret ?_
   repeat (first | with_reducible refine goR1 ?_ | with_reducible refine goR2 ?_)
   have r1_8:=(Qac q1_1 e8)
   have r1_9:=(Qah.row q9 r1_8 (Qax hgm (Qax (Ne.symm n_32_1) QaJ)))
   have r1_10:=(Puts.row p10 r1_9 (Ne.symm n_7_1))
   have r4_10:=(Puts.row p10 hes34 (Ne.symm n_7_4))
   have f41_7:=(OwnN.keepsL ((Qhq ((hu10.ext e3).puts p4 (Qd0 hu10 l11)) q5 nbg).puts p6 nbm) q7 (nb_cons nbg (nb_cons nbm nb_nil)))
   exact (show bodyPost _ _ _ .ret _ _ from ret2 (.agg (cat [#[.int .i64 ((n:Nat):Int)],ints .u8 ((keyV (itV sec (n-pl))).take 32),#[.slice a10_ (((keyV (itV sec (n-pl))).drop 32).length) c10_]])) (.nilIface) rfl (QaE g7 40 _ r7_10 kj kj (isz (n:=34) kj (by rw [Qaa,Qaa,Qaa]; simp only [qS,cat,((Qad _ _).trans (QaP (QaB _)))]; rfl))) (Qa2 kj) ⟨_,rfl,x10,(by rw [←heq]; exact r1_10),(by have h9:MpAt mg _ _:=⟨_,_,r4_10,hM34⟩; rw [Qdv (fun x=>decide ((((n:Nat):Int)+1-1-64)≤x))] at h9; rw [←heq]; exact h9),_,rfl,OwnN.base x1.size ((OwnN.keepsL (f41_7.ext e8) q9 (nb_cons nbm (nb_cons (Qd0 f41_7 l32) nb_nil))).puts p10 (QcU hu10 (Qay r7_1)))⟩)
  ·skip
   have p10:=pN
   have x10:Qah [g,mg] w WN:=Qah.puts xx2 p10 (.inr b32)
   refine sg 1 kj <| sgN hK33 <| sgT kj <| wp_block <| sgC fun K46 hK46=>Qab (.tuple #[.int .i64 y,e.val]) 82 rfl kj (Qfj _ rfl kj hen) <| sg 2 kj <| sgN hK46 <| sgC fun K47 hK47=>sg 4 kj ?_
   have r1_8:=(Qac q1_1 e8)
   have r1_9:=(Qah.row q9 r1_8 (Qax hgm (Qax (Ne.symm n_32_1) QaJ)))
   have r1_10:=(Puts.row p10 r1_9 (Ne.symm n_32_1))
   refine Qar (.int .i64 (((n:Nat):Int)+1-1)) 47 #[.pointer (some ⟨g,0,none⟩)] 88 rfl kj kj (QhI g (((n:Nat):Int)+1) (B*2^a%18446744073709551616|||1*2^(a-1)%18446744073709551616) (by omega) (Qht _ _ (Nat.mod_lt _ (by decide)) (Nat.mod_lt _ (by decide))) _ _ mg (Qa5 hsec k) _ r1_10) fun W11 e11=>?_
   have x11:Qah [g,mg] w W11:=Qah.step x10 e11
   refine Qab (.int .i64 (((n:Nat):Int)+1-1-64)) 89 rfl kj (Qai (u:=.int .i64 (IntKind.i64.wrap ((((n:Nat):Int)+1-1)-64))) kj (congrArg (Value.int .i64) (Qbp _ (by omega)))) <| sg 1 kj <| sgN hK47 <| Qa3 (t:=decide (y<(((n:Nat):Int)+1-1-64))) kj (fun c48=>?_) (fun c48=>?_)
   ·skip
    have hcut:(y<(((n:Nat):Int)+1-1-64)):=of_decide_eq_true c48
    refine Qaf <| sg 3 kj ?_
    have r1_11:=(Qac r1_10 e11)
    refine Qab (.map (some mg)) 94 rfl kj (Qag 82 _ g 35 84 _ (.map (some mg)) _ r1_11 rfl kj (Qaw [#[.int .i64 (((n:Nat):Int)+1)],#[.int .u64 ((B*2^a%18446744073709551616|||1*2^(a-1)%18446744073709551616:Nat):Int)],ints .u8 (itV sec k),#[.int .i64 ((pl+k:Nat):Int)]] [#[.map (some mg)]] [] 35 (by rw [Qaa,Qaa,Qaa,Qaa]; simp only [qS,cat,((Qad _ _).trans (Qa5 hsec k))]; rfl) 0 _ rfl) kj) ?_
    refine sg 1 kj <| Qga (kt:=3) (et:=93) (.tmp 94) (.tmp 95) 82 hM18 rfl kj kj kj kj (Qf2 hst e11) hy hcut rfl kj fun W12 p12 hrg2=>?_
    have x12:Qah [g,mg] w W12:=Qah.puts x11 p12 (.inl (by simp))
    refine Qak ?_
    repeat (first | with_reducible refine goX1 ?_ | with_reducible refine goX2 ?_ | with_reducible refine goX3 ?_)
    exact Qa4 (sn.push e.born) ⟨kj,kj,kj,kj,kj,kj,trivial⟩ ⟨hrg2,(Qah.puts (Qah.step (Qah.puts q9 p10 (.inl (by simp))) e11) p12 (.inl (by simp))),x12⟩ (Qdm.mu hst)
   ·skip
    have hcut:¬ (y<(((n:Nat):Int)+1-1-64)):=of_decide_eq_false c48
    refine wp_skip ?_
    repeat (first | with_reducible refine goX1 ?_ | with_reducible refine goX2 ?_ | with_reducible refine goX3 ?_)
    exact Qa4 (sn.push e.born) ⟨kj,kj,kj,kj,kj,kj,trivial⟩ ⟨(Qdm.stay hM18 (Qf2 hst e11) (by rw [Qjb hy]; exact decide_eq_true (Int.not_lt.1 hcut))),(Qah.step (Qah.puts q9 p10 (.inl (by simp))) e11),x11⟩ (Qdm.mu hst)
end Go.Proofs.YtibegnjaphohaaaDoor.Cn
end
section
namespace Go.Proofs.YtibegnjaphohaaaDoor.Cn
open Go Go.RowKit
open Rely Auto Own Sha
def hiT (ts : List Int):Int:=ts.foldl (fun a x=>if x>a then x else a) (-1)
theorem Qdt (ts : List Int) (m:Int):hiT (ts++[m])=if m>hiT ts then m else hiT ts:=by unfold hiT; rw [List.foldl_append]; rfl
theorem Qfq (ts : List Int):∀ m∈ts,m≤hiT ts:=by
  suffices h:∀ (r:List Int),(∀ m∈r.reverse,m≤hiT r.reverse) by have:=h ts.reverse; rwa [List.reverse_reverse] at this
  intro r
  induction r with
  | nil=>intro m h; cases h
  | cons x r ih =>
    intro m h
    rw [List.reverse_cons] at h ⊢
    rw [Qdt]
    rcases List.mem_append.1 h with h | h
    · have:=ih m h; split <;> omega
    · have:m=x:=by simpa using h
      subst this; split <;> omega
theorem QeP (ts : List Int):hiT ts=-1∨hiT ts∈ts:=by
  suffices h:∀ (r:List Int),(hiT r.reverse=-1∨hiT r.reverse∈r.reverse) by have:=h ts.reverse; rwa [List.reverse_reverse] at this
  intro r
  induction r with
  | nil=>exact .inl rfl
  | cons x r ih =>
    rw [List.reverse_cons,Qdt]
    split
    · exact .inr (by simp)
    · rcases ih with h | h
      · exact .inl h
      · exact .inr (List.mem_append_left _ h)
def chkT (ts : List Int) (n:Int):Int:=if n<0∨4294967294<n then 8 else if n<hiT ts-64 then 11 else if n∈ts then 7 else 0
structure WInv (nx : Int) (B : Nat) (ts : List Int) : Prop where
  hnx:0≤nx∧nx≤4294967295
  hB:B<18446744073709551616
  hhi:hiT ts=nx-1
  hrng:∀ m∈ts,0≤m∧m<4294967295
  hbits:∀ k:Nat,k<64→0≤nx-2-k→(B.testBit k=true↔(nx-2-k)∈ts)
theorem Qjj : WInv 0 0 []:=⟨by omega,by decide,rfl,(fun m h=>by cases h),(fun k hk h=>by omega)⟩
theorem QkT (B k:Nat):B/2^k%2=1↔B.testBit k=true:=by rw [Nat.testBit_eq_decide_div_mod_eq]; simp
theorem QdO {nx : Int} {B:Nat} {ts:List Int} (h:WInv nx B ts) (n:Int):chkW nx B n=chkT ts n:=by
  have hh:=h.hhi
  unfold chkW chkT
  by_cases h1:n<0∨4294967295≤n
  · rw [if_pos h1,if_pos (by omega)]
  · rw [if_neg h1,if_neg (show ¬ (n<0∨4294967294<n) by omega),hh]
    by_cases h2:64<nx-1-n
    · rw [if_pos h2,if_pos (by omega)]
    · rw [if_neg h2,if_neg (show ¬ n<nx-1-64 by omega)]
      by_cases h3:n∈ts
      · have hle:=Qfq ts n h3
        rw [if_pos h3,if_pos ?_]
        by_cases h4:nx-1-n=0
        · exact .inl h4
        · refine .inr ⟨by omega,?_⟩
          obtain ⟨j,hj⟩:=Int.eq_ofNat_of_zero_le (show 0≤nx-1-n-1 by omega)
          rw [hj,Int.toNat_natCast,QkT,h.hbits j (by omega) (by omega),show nx-2-(j:Int)=n by omega]
          exact h3
      · rw [if_neg h3,if_neg ?_]
        rintro (h4 | ⟨h4,h5⟩)
        · rcases QeP ts with h6 | h6
          · omega
          · exact h3 (by rw [show n=hiT ts by omega]; exact h6)
        · obtain ⟨j,hj⟩:=Int.eq_ofNat_of_zero_le (show 0≤nx-1-n-1 by omega)
          rw [hj,Int.toNat_natCast,QkT,h.hbits j (by omega) (by omega),show nx-2-(j:Int)=n by omega] at h5
          exact h3 h5
theorem Qce {ts : List Int} {n:Int} (h:chkT ts n=0):0≤n∧n<4294967295∧hiT ts-64≤n∧n∉ts:=by
  unfold chkT at h
  split at h
  · omega
  · split at h
    · omega
    · split at h
      · omega
      · exact ⟨by omega,by omega,by omega,by assumption⟩
theorem QlH {nx : Int} {B:Nat} {ts:List Int} (h:WInv nx B ts) {n:Int} (hc:chkT ts n=0) (j:Nat) (hj:nx-1-n-1=(j:Int)) (hj2:j<64):WInv nx (B|||2^j) (ts++[n]):=by
  obtain ⟨h0,h1,h2,h3⟩:=Qce hc
  have hh:=h.hhi
  refine ⟨h.hnx,Qht _ _ h.hB (Qhn j hj2),by rw [Qdt,if_neg (by omega)]; exact hh,fun m hm=>?_,fun k hk hp=>?_⟩
  · rcases List.mem_append.1 hm with hm | hm
    · exact h.hrng m hm
    · have:m=n:=by simpa using hm
      omega
  · rw [Nat.testBit_or,Nat.testBit_two_pow,Bool.or_eq_true,h.hbits k hk hp,List.mem_append]
    constructor
    · rintro (e | e)
      · exact .inl e
      · have:j=k:=by simpa using e
        exact .inr (by simp; omega)
    · rintro (e | e)
      · exact .inl e
      · have:nx-2-(k:Int)=n:=by simpa using e
        exact .inr (by simp; omega)
theorem QlG {nx : Int} {B:Nat} {ts:List Int} (h:WInv nx B ts) {n:Int} (hc:chkT ts n=0) (a:Nat) (ha:n-(nx-1)=(a:Int)) (ha1:1≤a) :
    WInv (n+1) (B*2^a%18446744073709551616|||1*2^(a-1)%18446744073709551616) (ts++[n]):=by
  obtain ⟨h0,h1,h2,h3⟩:=Qce hc
  have hh:=h.hhi
  have hn:=h.hnx
  refine ⟨by omega,Qht _ _ (Nat.mod_lt _ (by decide)) (Nat.mod_lt _ (by decide)),by rw [Qdt,if_pos (by omega)]; omega,fun m hm=>?_,fun k hk hp=>?_⟩
  · rcases List.mem_append.1 hm with hm | hm
    · exact h.hrng m hm
    · have:m=n:=by simpa using hm
      omega
  · have e64:(18446744073709551616:Nat)=2^64:=by decide
    rw [Nat.testBit_or,e64,Nat.testBit_mod_two_pow,Nat.testBit_mod_two_pow,Nat.one_mul,Nat.testBit_two_pow,Nat.mul_comm B,Nat.testBit_two_pow_mul,List.mem_append]
    simp only [hk,decide_true,Bool.true_and,Bool.or_eq_true,Bool.and_eq_true,decide_eq_true_eq,List.mem_singleton,ge_iff_le]
    have hne:¬ (n+1-2-(k:Int)=n):=by omega
    constructor
    · rintro (⟨e1,e2⟩ | e)
      · left
        rw [h.hbits (k-a) (by omega) (by omega)] at e2
        rwa [show n+1-2-(k:Int)=nx-2-((k-a:Nat):Int) by omega]
      · left
        have:n+1-2-(k:Int)=hiT ts:=by omega
        rw [this]
        exact (QeP ts).resolve_left (by omega)
    · rintro (e | e)
      · have hle:=Qfq ts _ e
        by_cases hk2:a≤k
        · left
          refine ⟨hk2,?_⟩
          rw [h.hbits (k-a) (by omega) (by omega)]
          rwa [show nx-2-((k-a:Nat):Int)=n+1-2-(k:Int) by omega]
        · right; omega
      · exact absurd e hne
structure MsIs (s0 : List Int) (pl : Nat) (ts : List Int) (ms : List (Int × List Int)) : Prop where
  all:∀ p∈ms,∃ k:Nat,k<pl∧p=(((k:Nat):Int),keyV (itV s0 k))∧((k:Nat):Int)∉ts∧pl≤k+65
  each:∀ k:Nat,k<pl→((k:Nat):Int)∉ts→pl≤k+65→(((k:Nat):Int),keyV (itV s0 k))∈ms
structure ChSt (g mg : Nat) (s0 ts : List Int) (pl : Nat) (ms : List (Int × List Int)) (W : World) : Prop where
  len:s0.length=32
  byt:Qat s0
  row:∃ B,WInv ((pl:Nat):Int) B ts∧W.heap[g]? = some (.cells (cat [#[.int .i64 ((pl:Nat):Int)],#[.int .u64 ((B:Nat):Int)],ints .u8 (itV s0 pl),#[.int .i64 ((pl:Nat):Int)],#[.map (some mg)]]) 84)
  mp:MpAt mg (ms.map mpv) W
  is:MsIs s0 pl ts ms
theorem ChSt.keep {g mg:Nat} {s0 ts:List Int} {pl:Nat} {ms:List (Int×List Int)} {W W':World} (h:ChSt g mg s0 ts pl ms W) (e1:W'.heap[g]? = W.heap[g]?) (e2:W'.heap[mg]? = W.heap[mg]?):ChSt g mg s0 ts pl ms W':=by
  obtain ⟨B,h1,h2⟩:=h.row
  exact ⟨h.len,h.byt,⟨B,h1,e1.trans h2⟩,h.mp.keep e2,h.is⟩
theorem ChSt.glt {g mg:Nat} {s0 ts:List Int} {pl:Nat} {ms:List (Int×List Int)} {W:World} (h:ChSt g mg s0 ts pl ms W):g<W.heap.size:=by obtain ⟨B,h1,h2⟩:=h.row; exact Qay h2
theorem ChSt.ext {g mg:Nat} {s0 ts:List Int} {pl:Nat} {ms:List (Int×List Int)} {W W':World} (h:ChSt g mg s0 ts pl ms W) (e:Ext W W'):ChSt g mg s0 ts pl ms W':=h.keep (e.block g h.glt) (e.block mg h.mp.lt)
def Qhy (ms : List (Int×List Int)) (s0:List Int) (pl n:Nat):List (Int×List Int):=Qfe (msNo ms ((n:Nat):Int)++QbY (itV s0 pl) pl n (n+1-pl)) ((((max pl (n+1)):Nat):Int)-1-64)
def chkN (ts : List Int) (pl:Nat) (n:Int):Int:=if chkT ts n≠0 then chkT ts n else if ((pl:Nat):Int)+256<n then 12 else 0
theorem Qg6 {pl B:Nat} {ts:List Int} (h:WInv ((pl:Nat):Int) B ts) (n:Int):chkC ((pl:Nat):Int) B pl n=chkN ts pl n:=by unfold chkC chkN; rw [QdO h]
theorem Qc0 {pl : Nat} {ts:List Int} {n:Int} (h:chkN ts pl n=0):chkT ts n=0∧n≤((pl:Nat):Int)+256:=by
  unfold chkN at h
  split at h
  · rename_i h1; exact absurd h h1
  · rename_i h1
    split at h
    · cases h
    · exact ⟨by simpa using h1,by omega⟩
theorem MsIs.lt {s0 : List Int} {pl:Nat} {ts:List Int} {ms:List (Int×List Int)} (h:MsIs s0 pl ts ms):∀ p∈ms,p.1<((pl:Nat):Int):=fun p hp=>by
  obtain ⟨k,h1,h2,-⟩:=h.all p hp
  rw [h2]; show ((k:Nat):Int)<_; omega
theorem MsIs.ok {s0 : List Int} {pl:Nat} {ts:List Int} {ms:List (Int×List Int)} (h:MsIs s0 pl ts ms):MsOk ms:=fun p hp=>by
  obtain ⟨k,h1,h2,-⟩:=h.all p hp
  rw [h2]; show (keyV (itV s0 k)).length=44∧Qat (keyV (itV s0 k)); exact ⟨QaB _,QcI _⟩
theorem MsIs.get {s0 : List Int} {pl:Nat} {ts:List Int} {ms:List (Int×List Int)} (h:MsIs s0 pl ts ms) {k:Nat} (h1:k<pl) (h2:((k:Nat):Int)∉ts) (h3:pl≤k+65):lget ms ((k:Nat):Int)=keyV (itV s0 k):=by
  have hm:=h.each k h1 h2 h3
  unfold lget
  cases hf:ms.find? (fun p=>p.1==((k:Nat):Int)) with
  | none =>
    rw [List.find?_eq_none] at hf
    exact absurd (by simp) (hf _ hm)
  | some p =>
    obtain ⟨j,q1,q2,-⟩:=h.all p (List.mem_of_find?_eq_some hf)
    have hk:=List.find?_some hf
    rw [q2] at hk
    have hjk:((j:Nat):Int)=((k:Nat):Int):=by simpa using hk
    have:j=k:=by omega
    subst this
    rw [q2]; rfl
theorem QfH (sec : List Int) (pl n:Nat) (p:Int×List Int):∀ k,p∈QbY sec pl n k↔∃ j,j<k∧pl+j<n∧n≤pl+j+64∧p=(((pl+j:Nat):Int),keyV (itV sec j))
  | 0=>⟨fun h=>absurd h List.not_mem_nil,fun ⟨j,h,_⟩=>absurd h (Nat.not_lt_zero _)⟩
  | k+1=>by
    rw [QbY,List.mem_append,QfH sec pl n p k]
    constructor
    · rintro (⟨j,h1,h2⟩ | h)
      · exact ⟨j,by omega,h2⟩
      · split at h
        · rename_i hc; rw [List.mem_singleton] at h; exact ⟨k,by omega,hc.1,hc.2,h⟩
        · cases h
    · rintro ⟨j,h1,h2,h3,h4⟩
      rcases Nat.lt_or_ge j k with h | h
      · exact .inl ⟨j,h,h2,h3,h4⟩
      · obtain rfl:j=k:=by omega
        right; rw [if_pos ⟨h2,h3⟩,List.mem_singleton]; exact h4
theorem MsIs.take {s0 : List Int} {pl:Nat} {ts:List Int} {ms:List (Int×List Int)} (h:MsIs s0 pl ts ms) (n:Nat) (lim:Int) (hl:lim=(((max pl (n+1)):Nat):Int)-1-64) (hn:((n:Nat):Int)∉ts) (hts:∀ m∈ts,m<((pl:Nat):Int)):MsIs s0 (max pl (n+1)) (ts++[((n:Nat):Int)]) (Qfe (msNo ms ((n:Nat):Int)++QbY (itV s0 pl) pl n (n+1-pl)) lim):=by
  have key:∀ p,p∈Qfe (msNo ms ((n:Nat):Int)++QbY (itV s0 pl) pl n (n+1-pl)) lim↔((p∈ms∧p.1≠((n:Nat):Int))∨∃ j,j<n+1-pl∧pl+j<n∧n≤pl+j+64∧p=(((pl+j:Nat):Int),keyV (itV (itV s0 pl) j)))∧lim≤p.1:=fun p=>by
    unfold Qfe msNo
    rw [List.mem_filter,List.mem_append,List.mem_filter,QfH]
    simp only [bne_iff_ne,ne_eq,decide_eq_true_eq]
  refine ⟨fun p hp=>?_,fun k h1 h2 h3=>?_⟩
  · obtain ⟨hp1,hp2⟩:=(key p).1 hp
    rcases hp1 with ⟨q1,q2⟩ | ⟨j,q1,q2,q3,q4⟩
    · obtain ⟨k,r1,r2,r3,r4⟩:=h.all p q1
      have e1:p.1=((k:Nat):Int):=by rw [r2]
      refine ⟨k,by omega,r2,fun hm=>?_,by omega⟩
      rcases List.mem_append.1 hm with hm | hm
      · exact r3 hm
      · rw [List.mem_singleton] at hm; exact q2 (e1.trans hm)
    · have e1:p.1=((pl+j:Nat):Int):=by rw [q4]
      refine ⟨pl+j,by omega,by rw [q4,QeN],fun hm=>?_,by omega⟩
      rcases List.mem_append.1 hm with hm | hm
      · have:=hts _ hm; omega
      · rw [List.mem_singleton] at hm; omega
  · refine (key _).2 ⟨?_,show lim≤((k:Nat):Int) by omega⟩
    have hk1:((k:Nat):Int)∉ts:=fun hm=>h2 (List.mem_append.2 (.inl hm))
    have hk2:k≠n:=fun e=>h2 (List.mem_append.2 (.inr (by rw [e]; exact List.mem_singleton.2 rfl)))
    rcases Nat.lt_or_ge k pl with hkp | hkp
    · exact .inl ⟨h.each k hkp hk1 (by omega),show ((k:Nat):Int)≠_ by omega⟩
    · right
      refine ⟨k-pl,by omega,by omega,by omega,?_⟩
      rw [QeN,show pl+(k-pl)=k by omega]
theorem QmW {g mg:Nat} {s0 ts:List Int} {pl:Nat} {ms:List (Int×List Int)} {w:World} (h:ChSt g mg s0 ts pl ms w) (n:Int):Calls Tryd.prog 32 #[.pointer (some ⟨g,0,none⟩),.int .i64 n] w (Ret w (errV (chkN ts pl n))):=by
  obtain ⟨B,h1,h2⟩:=h.row
  have:=Qj0 g _ B n h1.hnx h1.hB (itV s0 pl) pl mg (Qa5 h.len pl) w h2 (by have:=h1.hnx; omega)
  rw [Qg6 h1] at this
  exact this
section
variable {g mg : Nat} {s0 ts : List Int} {pl : Nat} {ms : List (Int × List Int)} {w : World} (tc tq : TypeId)
theorem Qkn {B : Nat} (h1:WInv ((pl:Nat):Int) B ts):∀ m∈ts,m<((pl:Nat):Int):=fun m hm=>by
  have:=Qfq ts m hm
  have:=h1.hhi
  omega
theorem Qnk (hc : w.heap[2]? = some (.cells (ints .u64 QaN) tc)) (hq:w.heap[1]? = some (.cells (ints .u64 Qam) tq)) (h:ChSt g mg s0 ts pl ms w) (n:Nat) (hc0:chkN ts pl ((n:Nat):Int)=0) (hcg:2≠g) (hsg:1≠g):Calls Tryd.prog 33 #[.pointer (some ⟨g,0,none⟩),.int .i64 ((n:Nat):Int)] w (fun e W=>∃ v,e=.returned (.tuple #[v,.nilIface])∧Qah [g,mg] w W∧ChSt g mg s0 (ts++[((n:Nat):Int)]) (max pl (n+1)) (Qhy ms s0 pl n) W∧Qcs w.heap.size ((n:Nat):Int) (keyV (itV s0 n)) v W):=by
  obtain ⟨B,h1,h2⟩:=h.row
  obtain ⟨k1,k2⟩:=Qc0 hc0
  obtain ⟨k3,k4,k5,k6⟩:=Qce k1
  have hhi:=h1.hhi
  have hnx:=h1.hnx
  have hw0:chkW ((pl:Nat):Int) B ((n:Nat):Int)=0:=by rw [QdO h1]; exact k1
  rcases Nat.lt_or_ge n pl with hn | hn
  · have hne:((n:Nat):Int)≠((pl:Nat):Int)-1:=fun e=>by
      rcases QeP ts with q | q
      · omega
      · rw [hhi,←e] at q; exact k6 q
    obtain ⟨j,hj⟩:∃ j:Nat,((pl:Nat):Int)-1-((n:Nat):Int)-1=((j:Nat):Int):=⟨pl-1-n-1,by omega⟩
    refine (Qk6 g _ B h1.hnx h1.hB (itV s0 pl) pl mg (Qa5 h.len pl) w h2 ms h.is.ok h.mp tc tq hc hq (Qbu h.byt pl) n (by omega) (by omega) h.is.lt hcg hsg hw0 hn j hj (by omega)).mono ?_
    rintro e W ⟨v,rfl,q1,q2,q3,q4⟩
    have ek:n+1-pl=0:=by omega
    have em:max pl (n+1)=pl:=by omega
    have hI:=h.is.take n _ rfl k6 (Qkn h1)
    rw [h.is.get hn k6 (by omega)] at q4
    rw [ek] at q2
    rw [show ((pl:Nat):Int)-1-64=(((max pl (n+1)):Nat):Int)-1-64 by rw [em]] at q3
    refine ⟨v,rfl,q1,⟨h.len,h.byt,?_,q3,hI⟩,q4⟩
    rw [em]
    exact ⟨_,QlH h1 k1 j hj (by omega),q2⟩
  · obtain ⟨a,ha⟩:∃ a:Nat,((n:Nat):Int)-(((pl:Nat):Int)-1)=((a:Nat):Int):=⟨n+1-pl,by omega⟩
    refine (Qk5 g _ B h1.hnx h1.hB (itV s0 pl) pl mg (Qa5 h.len pl) w h2 ms h.is.ok h.mp tc tq hc hq (Qbu h.byt pl) n (by omega) (by omega) h.is.lt hcg hsg hw0 hn a ha (by omega)).mono ?_
    rintro e W ⟨v,rfl,q1,q2,q3,q4⟩
    have em:max pl (n+1)=n+1:=by omega
    have hI:=h.is.take n _ rfl k6 (Qkn h1)
    rw [QeN,show pl+(n-pl)=n by omega] at q4
    rw [QeN,show pl+(n+1-pl)=n+1 by omega] at q2
    have hW:=QlG h1 k1 a ha (by omega)
    rw [show ((n:Nat):Int)+1=((n+1:Nat):Int) by omega] at q2 hW
    rw [show ((n:Nat):Int)+1-1-64=(((max pl (n+1)):Nat):Int)-1-64 by rw [em]; omega] at q3
    refine ⟨v,rfl,q1,⟨h.len,h.byt,?_,q3,hI⟩,q4⟩
    rw [em]
    exact ⟨_,hW,q2⟩
end
end Go.Proofs.YtibegnjaphohaaaDoor.Cn
end
section
namespace Go.Proofs.YtibegnjaphohaaaDoor.Cn
open Go Go.RowKit
open Rely Auto Own Sha
theorem QgG {P : Program} {ρ:Operand→Value} {o:Oper} {w:World} (ty:TypeId) (x:Operand) (g off:Nat) (t:TypeId) (cs:Array Value) (v:Value) (hg:w.heap[g]? = some (.cells cs t)) (hv:cs[off]? = some v)
    (ho:o.op=.load ty x) (hx:ρ x=.pointer (some ⟨g,off,none⟩)) (hu:aggD P ty=some false):(execOp ρ o).run P w=.ok (.value v) w:=Qag ty x g off t cs v _ hg ho hx hv hu
theorem at_I (gc gl len cap:Nat) (lp:Array Value) (w:World) (hgc:w.heap[gc]? = some (.cells #[.slice (some ⟨gl,0,none⟩) len cap] 70)) (hgl:w.heap[gl]? = some (.cells lp 75)) (g i:Nat) (hi:i<len) (hli:lp[i]? = some (.pointer (some ⟨g,0,none⟩))):Calls Tryd.prog 31 #[.pointer (some ⟨gc,0,none⟩),.int .i64 ((i:Nat):Int)] w (Ret w (.pointer (some ⟨g,0,none⟩))):=by
  refine enter 27 [(0,.pointer (some ⟨gc,0,none⟩)),(1,.int .i64 ((i:Nat):Int))] Tryd.func31 rfl rfl kj rfl <| sgB kj <| wp_seq_k fun K4 hK4=>sgC fun K5 hK5=>sg 4 kj <| Qab (.bool false) 9 rfl kj (Qai (u:=.bool (decide (((i:Nat):Int)<0))) kj (congrArg Value.bool (decide_eq_false (by omega)))) <| sg 6 kj <| Qab (.slice (some ⟨gl,0,none⟩) len cap) 16 rfl kj (Qag 68 _ gc 0 70 _ (.slice (some ⟨gl,0,none⟩) len cap) _ hgc rfl kj kj kj) <| sg 1 kj <| Qab (.bool false) 18 rfl kj (Qai (u:=.bool (decide (((i:Nat):Int)≥((len:Nat):Int)))) kj (congrArg Value.bool (decide_eq_false (by omega)))) ?_
  refine sg 1 kj <| sgN hK5 <| cond_false kj <| wp_skip <| hK4 _ _ <| sgC fun K6 hK6=>sg 3 kj <| Qab (.slice (some ⟨gl,0,none⟩) len cap) 23 rfl kj (Qag 68 _ gc 0 70 _ (.slice (some ⟨gl,0,none⟩) len cap) _ hgc rfl kj kj kj) <| sg 1 kj <| Qab (.pointer (some ⟨gl,i,none⟩)) 25 rfl kj (Qbb 68 _ _ .i64 i gl len cap 75 rfl kj kj kj kj hi) ?_
  refine Qab (.pointer (some ⟨g,0,none⟩)) 26 rfl kj (QgG 75 _ gl i 75 lp (.pointer (some ⟨g,0,none⟩)) hgl hli rfl kj kj) <| sg 1 kj <| sgN hK6 <| wp_ret ?_
  repeat (first | with_reducible refine goR1 ?_ | with_reducible refine goR2 ?_)
  exact (show bodyPost _ _ _ .ret _ _ from ret1 (.pointer (some ⟨g,0,none⟩)) rfl (Qa2 kj) ⟨rfl,(Rely.Ext.refl w)⟩)
theorem at_L (gc gl len cap:Nat) (lp:Array Value) (w:World) (hgc:w.heap[gc]? = some (.cells #[.slice (some ⟨gl,0,none⟩) len cap] 70)) (hgl:w.heap[gl]? = some (.cells lp 75)) (n:Int) (hn:n<0):Calls Tryd.prog 31 #[.pointer (some ⟨gc,0,none⟩),.int .i64 n] w (Ret w (.pointer none)):=by
  refine enter 27 [(0,.pointer (some ⟨gc,0,none⟩)),(1,.int .i64 n)] Tryd.func31 rfl rfl kj rfl <| sgB kj <| wp_seq_k fun K4 hK4=>sgC fun K5 hK5=>sg 4 kj <| Qab (.bool true) 9 rfl kj (Qai (u:=.bool (decide (n<0))) kj (congrArg Value.bool (decide_eq_true (by omega)))) <| sg 10 kj <| sgN hK5 <| cond_true kj <| sgB kj ?_
  refine wp_ret ?_
  repeat (first | with_reducible refine goR1 ?_ | with_reducible refine goR2 ?_)
  exact (show bodyPost _ _ _ .ret _ _ from ret1 (.pointer none) rfl (Qa2 kj) ⟨rfl,(Rely.Ext.refl w)⟩)
theorem at_G (gc gl len cap:Nat) (lp:Array Value) (w:World) (hgc:w.heap[gc]? = some (.cells #[.slice (some ⟨gl,0,none⟩) len cap] 70)) (hgl:w.heap[gl]? = some (.cells lp 75)) (n:Int) (hn0:0≤n) (hn:((len:Nat):Int)≤n):Calls Tryd.prog 31 #[.pointer (some ⟨gc,0,none⟩),.int .i64 n] w (Ret w (.pointer none)):=by
  refine enter 27 [(0,.pointer (some ⟨gc,0,none⟩)),(1,.int .i64 n)] Tryd.func31 rfl rfl kj rfl <| sgB kj <| wp_seq_k fun K4 hK4=>sgC fun K5 hK5=>sg 4 kj <| Qab (.bool false) 9 rfl kj (Qai (u:=.bool (decide (n<0))) kj (congrArg Value.bool (decide_eq_false (by omega)))) <| sg 6 kj <| Qab (.slice (some ⟨gl,0,none⟩) len cap) 16 rfl kj (Qag 68 _ gc 0 70 _ (.slice (some ⟨gl,0,none⟩) len cap) _ hgc rfl kj kj kj) <| sg 1 kj <| Qab (.bool true) 18 rfl kj (Qai (u:=.bool (decide (n≥((len:Nat):Int)))) kj (congrArg Value.bool (decide_eq_true (by omega)))) ?_
  refine sg 1 kj <| sgN hK5 <| cond_true kj <| sgB kj <| wp_ret ?_
  repeat (first | with_reducible refine goR1 ?_ | with_reducible refine goR2 ?_)
  exact (show bodyPost _ _ _ .ret _ _ from ret1 (.pointer none) rfl (Qa2 kj) ⟨rfl,(Rely.Ext.refl w)⟩)
theorem at_O (gc gl len cap:Nat) (lp:Array Value) (w:World) (hgc:w.heap[gc]? = some (.cells #[.slice (some ⟨gl,0,none⟩) len cap] 70)) (hgl:w.heap[gl]? = some (.cells lp 75)) (n:Int) (hn:n<0∨((len:Nat):Int)≤n):Calls Tryd.prog 31 #[.pointer (some ⟨gc,0,none⟩),.int .i64 n] w (Ret w (.pointer none)):=by
  by_cases h:n<0
  · exact at_L gc gl len cap lp w hgc hgl n h
  · exact at_G gc gl len cap lp w hgc hgl n (by omega) (by omega)
theorem Qll (gc gl len cap:Nat) (lp:Array Value) (w:World) (hgc:w.heap[gc]? = some (.cells #[.slice (some ⟨gl,0,none⟩) len cap] 70)) (hgl:w.heap[gl]? = some (.cells lp 75)) (g i:Nat) (hi:i<len) (hli:lp[i]? = some (.pointer (some ⟨g,0,none⟩))) {mg pl:Nat} {s0 ts:List Int} {ms:List (Int×List Int)} (hch:ChSt g mg s0 ts pl ms w):Calls Tryd.prog 16 #[.pointer (some ⟨gc,0,none⟩),.int .i64 ((i:Nat):Int)] w (Ret w (.int .i64 ((pl:Nat):Int))):=by
  obtain ⟨B,hW,hrg⟩:=hch.row
  refine enter 15 [(0,.pointer (some ⟨gc,0,none⟩)),(1,.int .i64 ((i:Nat):Int))] Tryd.func16 rfl rfl kj rfl <| sgB kj <| sgC fun K5 hK5=>sg 2 kj <| Qar (.pointer (some ⟨g,0,none⟩)) 31 #[.pointer (some ⟨gc,0,none⟩),.int .i64 ((i:Nat):Int)] 8 rfl kj kj (at_I gc gl len cap lp _ hgc hgl g i hi hli) fun W1 e1=>sg 1 kj <| sgN hK5 <| wp_seq_k fun K6 hK6=>sgB kj <| cond_false kj ?_
  refine wp_skip <| hK6 _ _ <| sgC fun K8 hK8=>sg 3 kj <| Qab (.int .i64 ((pl:Nat):Int)) 14 rfl kj (Qag 3 _ g 34 84 _ (.int .i64 ((pl:Nat):Int)) _ (Qac hrg e1) rfl kj (Qaw [#[.int .i64 ((pl:Nat):Int)],#[.int .u64 ((B:Nat):Int)],ints .u8 (itV s0 pl)] [#[.int .i64 ((pl:Nat):Int)]] [#[.map (some mg)]] 34 (by rw [Qaa,Qaa,Qaa]; simp only [qS,cat,((Qad _ _).trans (Qa5 hch.len pl))]; rfl) 0 _ rfl) kj) ?_
  refine sg 1 kj <| sgN hK8 <| wp_ret ?_
  repeat (first | with_reducible refine goR1 ?_ | with_reducible refine goR2 ?_)
  exact (show bodyPost _ _ _ .ret _ _ from ret1 (.int .i64 ((pl:Nat):Int)) rfl (Qa2 kj) ⟨rfl,(Ext.tr (Rely.Ext.refl w) e1)⟩)
theorem Qlj (gc gl len cap:Nat) (lp:Array Value) (w:World) (hgc:w.heap[gc]? = some (.cells #[.slice (some ⟨gl,0,none⟩) len cap] 70)) (hgl:w.heap[gl]? = some (.cells lp 75)) (n:Int) (hn:n<0∨((len:Nat):Int)≤n):Calls Tryd.prog 16 #[.pointer (some ⟨gc,0,none⟩),.int .i64 n] w (Ret w (.int .i64 (-1))):=by
  refine enter 15 [(0,.pointer (some ⟨gc,0,none⟩)),(1,.int .i64 n)] Tryd.func16 rfl rfl kj rfl <| sgB kj <| sgC fun K4 hK4=>sg 2 kj <| Qar (.pointer none) 31 #[.pointer (some ⟨gc,0,none⟩),.int .i64 n] 8 rfl kj kj (at_O gc gl len cap lp _ hgc hgl n hn) fun W1 e1=>sg 1 kj <| sgN hK4 <| wp_seq_k fun K5 hK5=>sgB kj <| cond_true kj ?_
  refine sgB kj <| wp_ret ?_
  repeat (first | with_reducible refine goR1 ?_ | with_reducible refine goR2 ?_)
  exact (show bodyPost _ _ _ .ret _ _ from ret1 (.int .i64 (-1)) rfl (Qa2 kj) ⟨rfl,(Ext.tr (Rely.Ext.refl w) e1)⟩)
theorem QmM (gc gl len cap:Nat) (lp:Array Value) (w:World) (hgc:w.heap[gc]? = some (.cells #[.slice (some ⟨gl,0,none⟩) len cap] 70)) (hgl:w.heap[gl]? = some (.cells lp 75)) (g i:Nat) (hi:i<len) (hli:lp[i]? = some (.pointer (some ⟨g,0,none⟩))) {mg pl:Nat} {s0 ts:List Int} {ms:List (Int×List Int)} (hch:ChSt g mg s0 ts pl ms w):Calls Tryd.prog 17 #[.pointer (some ⟨gc,0,none⟩),.int .i64 ((i:Nat):Int)] w (Ret w (.int .i64 ((ms.length:Nat):Int))):=by
  obtain ⟨B,hW,hrg⟩:=hch.row
  refine enter 16 [(0,.pointer (some ⟨gc,0,none⟩)),(1,.int .i64 ((i:Nat):Int))] Tryd.func17 rfl rfl kj rfl <| sgB kj <| sgC fun K5 hK5=>sg 2 kj <| Qar (.pointer (some ⟨g,0,none⟩)) 31 #[.pointer (some ⟨gc,0,none⟩),.int .i64 ((i:Nat):Int)] 8 rfl kj kj (at_I gc gl len cap lp _ hgc hgl g i hi hli) fun W1 e1=>?_
  have x1:=Ext.tr (Rely.Ext.refl w) e1
  refine sg 1 kj <| sgN hK5 <| wp_seq_k fun K6 hK6=>sgB kj <| cond_false kj <| wp_skip <| hK6 _ _ <| sgC fun K8 hK8=>sg 3 kj <| Qab (.map (some mg)) 14 rfl kj (Qag 82 _ g 35 84 _ (.map (some mg)) _ (Qac hrg e1) rfl kj (Qaw [#[.int .i64 ((pl:Nat):Int)],#[.int .u64 ((B:Nat):Int)],ints .u8 (itV s0 pl),#[.int .i64 ((pl:Nat):Int)]] [#[.map (some mg)]] [] 35 (by rw [Qaa,Qaa,Qaa,Qaa]; simp only [qS,cat,((Qad _ _).trans (Qa5 hch.len pl))]; rfl) 0 _ rfl) kj) ?_
  refine Qab (.int .i64 ((ms.length:Nat):Int)) 15 rfl kj ((Qhi (ms:=ms.map mpv) _ 82 (kt:=3) (et:=93) rfl kj kj (MpAt.ext hch.mp x1)).trans (by rw [List.length_map])) <| sg 1 kj <| sgN hK8 <| wp_ret ?_
  repeat (first | with_reducible refine goR1 ?_ | with_reducible refine goR2 ?_)
  exact (show bodyPost _ _ _ .ret _ _ from ret1 (.int .i64 ((ms.length:Nat):Int)) rfl (Qa2 kj) ⟨rfl,x1⟩)
theorem Qmt (gc gl len cap:Nat) (lp:Array Value) (w:World) (hgc:w.heap[gc]? = some (.cells #[.slice (some ⟨gl,0,none⟩) len cap] 70)) (hgl:w.heap[gl]? = some (.cells lp 75)) (g i:Nat) (hi:i<len) (hli:lp[i]? = some (.pointer (some ⟨g,0,none⟩))) (tc tq:TypeId) (hc:w.heap[2]? = some (.cells (ints .u64 QaN) tc)) (hq:w.heap[1]? = some (.cells (ints .u64 Qam) tq)) {mg pl:Nat} {s0 ts:List Int} {ms:List (Int×List Int)} (hch:ChSt g mg s0 ts pl ms w) (m:Nat) (he:chkN ts pl ((m:Nat):Int)=0) (hcg:2≠g) (hsg:1≠g):Calls Tryd.prog 13 #[.pointer (some ⟨gc,0,none⟩),.int .i64 ((i:Nat):Int),.int .i64 ((m:Nat):Int)] w (fun e W=>∃ v,e=.returned (.tuple #[v,.nilIface])∧Qah [g,mg] w W∧ChSt g mg s0 (ts++[((m:Nat):Int)]) (max pl (m+1)) (Qhy ms s0 pl m) W∧Qcs w.heap.size ((m:Nat):Int) (keyV (itV s0 m)) v W):=by
  refine enter 29 [(0,.pointer (some ⟨gc,0,none⟩)),(1,.int .i64 ((i:Nat):Int)),(2,.int .i64 ((m:Nat):Int))] Tryd.func13 rfl rfl kj rfl <| sgC fun K7 hK7=>Qap (cat [#[.int .i64 0],ints .u8 (List.replicate 32 0),#[.slice none 0 0]]) 40 6 rfl kj kj fun g8 W1 l8 e1 r8_1=>?_
  have b8:=qT (Rely.Ext.refl w).size l8
  refine sg 1 kj <| sgN hK7 <| sgC fun K9 hK9=>sg 2 kj <| Qar (.pointer (some ⟨g,0,none⟩)) 31 #[.pointer (some ⟨gc,0,none⟩),.int .i64 ((i:Nat):Int)] 12 rfl kj kj (at_I gc gl len cap lp _ (Qac hgc e1) (Qac hgl e1) g i hi hli) fun W2 e2=>?_
  have x2:=Ext.tr (Ext.tr (Rely.Ext.refl w) e1) e2
  refine sg 1 kj <| sgN hK9 <| wp_seq_k fun K10 hK10=>sgB kj <| cond_false kj <| wp_skip <| hK10 _ _ <| wp_seq_k fun K12 hK12=>sgC fun K13 hK13=>sg 2 kj ?_
  refine Qar (.nilIface) 32 #[.pointer (some ⟨g,0,none⟩),.int .i64 ((m:Nat):Int)] 19 rfl kj kj (Qb9 he▸QmW (hch.ext x2) ((m:Nat):Int)) fun W3 e3=>?_
  have x3:=Ext.tr x2 e3
  refine sg 1 kj <| sgN hK13 <| sgB kj <| cond_false kj <| wp_skip <| hK12 _ _ <| sgC fun K15 hK15=>sg 2 kj <| Qa6 (fun v W'=>∃ u,v=.tuple #[u,.nilIface]∧Qah [g,mg] W3 W'∧ChSt g mg s0 (ts++[((m:Nat):Int)]) (max pl (m+1)) (Qhy ms s0 pl m) W'∧Qcs W3.heap.size ((m:Nat):Int) (keyV (itV s0 m)) u W') 33 #[.pointer (some ⟨g,0,none⟩),.int .i64 ((m:Nat):Int)] 26 rfl kj kj ((Qnk tc tq (Qac (Qac (Qac hc e1) e2) e3) (Qac (Qac (Qac hq e1) e2) e3) (hch.ext x3) m he hcg hsg).mono (by rintro e w' ⟨v,rfl,q1,q2,q3⟩; exact ⟨_,rfl,_,rfl,q1,q2,q3⟩)) fun vv16 W4 hh16=>?_
  obtain ⟨uu16,rfl,q4,hch2,u16,rfl,hu16⟩:=hh16
  obtain ⟨a16_,c16_,rfl,-⟩:=id (OwnN.rd hu16)
  have x4:Qah [g,mg] w W4:=Qah.keeps (Qah.step (Qah.refl [g,mg] w) x3) q4 (fun c hc=>.inl hc)
  refine sg 2 kj ?_
  have r8_3:=(Qac (Qac r8_1 e2) e3)
  have r8_4:=(Qah.row q4 r8_3 (Qax (Ne.symm (Nat.ne_of_lt (qL hch.glt b8))) (Qax (Ne.symm (Nat.ne_of_lt (qL hch.mp.lt b8))) QaJ)))
  refine Qaj g8 _ (cat [#[.int .i64 ((m:Nat):Int)],ints .u8 ((keyV (itV s0 m)).take 32),#[.slice a16_ (((keyV (itV s0 m)).drop 32).length) c16_]]) 40 r8_4 rfl kj (Qal 40 _ _ g8 40 _ _ r8_4 rfl kj kj (isz (n:=34) kj (by rw [Qaa,Qaa,Qaa]; simp only [qS,cat,((Qad _ _).trans (QaP (QaB _)))]; rfl)) (eqsz (n:=34) (by rw [Qaa,Qaa,Qaa]; simp only [qS,cat,((Qad _ _).trans (List.length_replicate (n:=32)))]; rfl) (by rw [Qaa,Qaa,Qaa]; simp only [qS,cat,((Qad _ _).trans (QaP (QaB _)))]; rfl)) (QaD _ (by intro a ha; simp only [List.mem_cons,List.not_mem_nil,or_false] at ha; rcases ha with rfl | rfl | rfl; exact (Qan _ rfl); exact (Qau _ _); exact (Qan _ rfl)))) fun W5 p5 r8_5=>?_
  have x5:Qah [g,mg] w W5:=Qah.puts x4 p5 (.inr b8)
  refine sg 1 kj <| sgN hK15 <| wp_ret ?_
  repeat (first | with_reducible refine goR1 ?_ | with_reducible refine goR2 ?_)
  exact (show bodyPost _ _ _ .ret _ _ from ret2 (.agg (cat [#[.int .i64 ((m:Nat):Int)],ints .u8 ((keyV (itV s0 m)).take 32),#[.slice a16_ (((keyV (itV s0 m)).drop 32).length) c16_]])) (.nilIface) rfl (QaE g8 40 _ r8_5 kj kj (isz (n:=34) kj (by rw [Qaa,Qaa,Qaa]; simp only [qS,cat,((Qad _ _).trans (QaP (QaB _)))]; rfl))) (Qa2 kj) ⟨_,rfl,x5,(hch2.keep (p5.2.2.2.2 g (Ne.symm (Ne.symm (Nat.ne_of_lt (qL hch.glt b8))))) (p5.2.2.2.2 mg (Ne.symm (Ne.symm (Nat.ne_of_lt (qL hch.mp.lt b8)))))),_,rfl,OwnN.base x3.size (hu16.puts p5 (QcU hu16 (Qay r8_3)))⟩)
end Go.Proofs.YtibegnjaphohaaaDoor.Cn
end
section
namespace Go.Proofs.YtibegnjaphohaaaDoor.Seat
open Go Go.RowKit
open Rely
def TabAt (w : World):Prop:=0<w.heap.size∧∀ j,j<64→w.cell? ⟨0,j,none⟩=some (.int .u8 (Lib.deBruijn64tab.getD j 0))
theorem TabAt.ext {w w':World} (h:TabAt w) (e:Ext w w'):TabAt w':=⟨qL h.1 e.size,fun j hj=>by rw [e.cell h.1]; exact h.2 j hj⟩
theorem Qiu (x k idx:Nat) (w:World) (hx0:((x:Int)==0)=false)
    (key:IntKind.u64.wrap (bits BinOp.and IntKind.u64 (x:Int) (IntKind.u64.wrap (-(x:Int)))*285870213051353865)/288230376151711744=(idx:Int))
    (hi:idx<64) (hk:k<64) (hcell:w.cell? ⟨0,idx,none⟩=some (.int .u8 k)) :
    Calls Tryd.prog 58 #[.int .u64 x] w fun e w'=>e=.returned (.int .i64 k)∧w=w':=by
  go_enter Tryd.func58,Tryd.ntmps58
  go_wp2_with (simp only [key])
  go_ret
  exact ⟨rfl,rfl⟩
theorem Qj8 (x a:Nat) (hx:x<18446744073709551616) (hx0:x≠0) (hlow:x&&&(18446744073709551616-x)=a) :
    IntKind.u64.wrap (bits BinOp.and IntKind.u64 (x:Int) (IntKind.u64.wrap (-(x:Int)))*285870213051353865)/288230376151711744=((a*285870213051353865%18446744073709551616/288230376151711744:Nat):Int):=by
  have e1:IntKind.u64.wrap (-(x:Int))=((18446744073709551616-x:Nat):Int):=by rw [IntKind.wrap_u64]; omega
  rw [e1,bits_and_u64_nat x _ hx (by omega),hlow,IntKind.wrap_u64]
  omega
theorem tz64 (x : Nat) (hx:x<18446744073709551616) (hx0:x≠0) (w:World) (hT:TabAt w) :
    Calls Tryd.prog 58 #[.int .u64 x] w fun e w'=>e=.returned (.int .i64 (Lib.ctz 64 x))∧w=w':=by
  obtain ⟨hlow,hk⟩:=Lib.lowest_bit 64 x hx0 hx
  obtain ⟨hi,htab⟩:=Lib.deBruijn64_at _ hk
  have hcell:=hT.2 _ hi
  rw [htab] at hcell
  exact Qiu x _ _ w (by simp; omega) (Qj8 x _ hx hx0 hlow) hi hk hcell
def isTree (n : Int):Bool:=n==1 || n==2 || n==4 || n==8 || n==16 || n==32
theorem isTree_cases {n : Int} (h:isTree n=true):n=1∨n=2∨n=4∨n=8∨n=16∨n=32:=by
  simp only [isTree,Bool.or_eq_true,beq_iff_eq] at h; omega
theorem QjA (n : Int) (h:n<1∨32<n) (w:World):Calls Tryd.prog 38 #[.int .i64 n] w fun e w'=>e=.returned (.bool (isTree n))∧w=w':=by
  have e:isTree n=false:=by
    rw [Bool.eq_false_iff]; intro h'; have:=isTree_cases h'; omega
  rw [e]
  rcases h with h | h
  · have h1:decide (1≤n)=false:=decide_eq_false (by omega)
    go_enter Tryd.func38,Tryd.ntmps38
    go_wp2
    all_goals first | omega | (go_ret; exact ⟨rfl,rfl⟩)
  · have h1:decide (1≤n)=true:=decide_eq_true (by omega)
    have h2:decide (n≤32)=false:=decide_eq_false (by omega)
    go_enter Tryd.func38,Tryd.ntmps38
    go_wp2
    all_goals first | omega | (go_ret; exact ⟨rfl,rfl⟩)
theorem Qmf : ∀ k:Fin 33,(bits .and .i64 (k.val:Int) ((k.val:Int)-1)==0)=(k.val==0 || isTree (k.val:Int)):=by decide +kernel
theorem QkX (n : Int) (h1:1≤n) (h2:n≤32) (w:World):Calls Tryd.prog 38 #[.int .i64 n] w fun e w'=>e=.returned (.bool (isTree n))∧w=w':=by
  have key:(bits .and .i64 n (n-1)==0)=isTree n:=by
    have:=Qmf ⟨n.toNat,by omega⟩
    have e:((n.toNat:Nat):Int)=n:=by omega
    simp only [e] at this
    rw [this]
    have:(n.toNat==0)=false:=by rw [beq_eq_false_iff_ne]; omega
    rw [this]; rfl
  have h3:decide (1≤n)=true:=decide_eq_true h1
  have h4:decide (n≤32)=true:=decide_eq_true h2
  go_enter Tryd.func38,Tryd.ntmps38
  go_wp2
  all_goals first | omega | (go_ret; exact ⟨rfl,rfl⟩)
theorem tree (n : Int) (w:World):Calls Tryd.prog 38 #[.int .i64 n] w fun e w'=>e=.returned (.bool (isTree n))∧w=w':=by
  by_cases h:1≤n∧n≤32
  · exact QkX n h.1 h.2 w
  · exact QjA n (by omega) w
def i64 (n : Int):Prop:=-9223372036854775808≤n∧n≤9223372036854775807
def lvN (x : Nat):Nat:=Lib.ctz 64 (18446744073709551615-x)
def lv (x : Int):Int:=if x<0 then -1 else lvN x.toNat
theorem QkF (x : Nat) (h:x≤9223372036854775807):lvN x<64:=(Lib.lowest_bit 64 _ (by omega) (by omega)).2
theorem Qlx (n : Nat) (h:n<18446744073709551616):bits .xor .u64 IntKind.u64.max (n:Int)=18446744073709551615-(n:Int):=by
  have e:IntKind.u64.max=((18446744073709551615:Nat):Int):=by decide
  rw [e,u64_xor_nat _ n (by omega) h]
  have e2:(18446744073709551615:Nat)^^^n=18446744073709551615-n:=by
    have:=BitVec.toNat_not (x:=BitVec.ofNat 64 n)
    have h1:(BitVec.allOnes 64^^^BitVec.ofNat 64 n) = ~~~ (BitVec.ofNat 64 n):=BitVec.allOnes_xor
    have h2:=congrArg BitVec.toNat h1
    rw [BitVec.toNat_xor,this,BitVec.toNat_allOnes,BitVec.toNat_ofNat,Nat.mod_eq_of_lt (by omega:n<2^64)] at h2
    exact h2
  rw [e2]
  omega
theorem level (x : Int) (hx:i64 x) (w:World) (hT:TabAt w):Calls Tryd.prog 50 #[.int .i64 x] w fun e w'=>e=.returned (.int .i64 (lv x))∧w=w':=by
  unfold i64 at hx
  by_cases h:x<0
  · have e:lv x=-1:=by simp [lv,h]
    rw [e]
    go_enter Tryd.func50,Tryd.ntmps50
    go_wp2
    go_ret
    exact ⟨rfl,rfl⟩
  · have e:lv x=(lvN x.toNat:Int):=by simp [lv,h]
    rw [e]
    obtain ⟨n,rfl⟩:=Int.eq_ofNat_of_zero_le (by omega:0≤x)
    have hz:=tz64 (18446744073709551615-n) (by omega) (by omega) w hT
    have e2:((18446744073709551615-n:Nat):Int)=18446744073709551615-(n:Int):=by omega
    rw [e2,←Qlx n (by omega)] at hz
    rw [Int.toNat_natCast]
    have e3:lvN n=Lib.ctz 64 (18446744073709551615-n):=rfl
    rw [←e3] at hz
    generalize lvN n=c at *
    clear e e2 e3
    go_enter Tryd.func50,Tryd.ntmps50
    go_wp2_with (go_at_call 58; refine hz.mono ?_; rintro e w' ⟨rfl,rfl⟩)
    go_ret
    exact ⟨rfl,rfl⟩
def half (k : Int):Int:=wrap64 (2^(k.toNat-1))
def kidL (x : Int):Int:=if lv x≤0 then -1 else wrap64 (x-half (lv x))
def kidR (x : Int):Int:=if lv x≤0 then -1 else wrap64 (x+half (lv x))
theorem Qm6 (x : Int) (hx:i64 x):-1≤lv x∧lv x≤63:=by
  unfold lv
  split
  · omega
  · have:=QkF x.toNat (by unfold i64 at hx; omega)
    omega
theorem children (x : Int) (hx:i64 x) (w:World) (hT:TabAt w):Calls Tryd.prog 39 #[.int .i64 x] w fun e w'=>e=.returned (.tuple #[.int .i64 (kidL x),.int .i64 (kidR x)])∧w=w':=by
  have hl:=level x hx w hT
  have hb:=Qm6 x hx
  by_cases h:lv x≤0
  · have e1:kidL x=-1:=by simp [kidL,h]
    have e2:kidR x=-1:=by simp [kidR,h]
    rw [e1,e2]
    generalize lv x=k at *
    clear e1 e2
    go_enter Tryd.func39,Tryd.ntmps39
    go_wp2_with (go_at_call 50; refine hl.mono ?_; rintro e w' ⟨rfl,rfl⟩)
    go_ret2
    exact ⟨rfl,rfl⟩
  · have e1:kidL x=wrap64 (x-half (lv x)):=by simp [kidL,h]
    have e2:kidR x=wrap64 (x+half (lv x)):=by simp [kidR,h]
    rw [e1,e2]
    generalize lv x=k at *
    clear e1 e2
    go_enter Tryd.func39,Tryd.ntmps39
    go_wp2_with (go_at_call 50; refine hl.mono ?_; rintro e w' ⟨rfl,rfl⟩)
    go_ret2
    exact ⟨rfl,rfl⟩
theorem root (n : Int) (w:World):Calls Tryd.prog 27 #[.int .i64 n] w fun e w'=>e=.returned (.int .i64 (if isTree n then n-1 else -1))∧w=w':=by
  have hn:=tree n w
  cases ht:isTree n with
  | false =>
    rw [ht] at hn
    clear ht
    go_enter Tryd.func27,Tryd.ntmps27
    go_wp2_with (go_at_call 38; refine hn.mono ?_; rintro e w' ⟨rfl,rfl⟩)
    go_ret
    exact ⟨rfl,rfl⟩
  | true =>
    rw [ht] at hn
    have hc:=isTree_cases ht
    have hb:1≤n∧n≤32:=by omega
    clear hc ht
    go_enter Tryd.func27,Tryd.ntmps27
    go_wp2_with (go_at_call 38; refine hn.mono ?_; rintro e w' ⟨rfl,rfl⟩)
    go_ret
    exact ⟨rfl,rfl⟩
end Go.Proofs.YtibegnjaphohaaaDoor.Seat
end
section
namespace Go.Proofs.YtibegnjaphohaaaDoor.Cn
open Go Go.RowKit
open Rely Auto Own Sha
open Go.Proofs.YtibegnjaphohaaaDoor
def OwnR (T : TypeId) (base:Nat) (vs:List Value) (v:Value) (W:World):Prop:=W.ownsRow base T 1 v vs.length vs∧vs.length≤maxLen
theorem OwnR.keep {T : TypeId} {base:Nat} {vs:List Value} {v:Value} {W W':World} (h:OwnR T base vs v W) (hk:∀ g,v.ownBlock=some g→W'.heap[g]? = W.heap[g]?):OwnR T base vs v W':=by
  obtain ⟨⟨h1,h2⟩,hm⟩:=h
  refine ⟨⟨h1,?_⟩,hm⟩
  rcases h2 with h2 | ⟨g,c,cur,rfl,q2,q3,q4,q5,q6,q7⟩
  · exact .inl h2
  · exact .inr ⟨g,c,cur,rfl,q2,(hk g rfl).trans q3,q4,q5,q6,q7⟩
theorem OwnR.at {T : TypeId} {base:Nat} {vs:List Value} {v:Value} {W:World} (h:OwnR T base vs v W) {g:Nat} (hg:v.ownBlock=some g):base≤g∧∃ cur,W.heap[g]? = some (.cells cur T):=by
  rcases h.1.2 with ⟨rfl,_⟩ | ⟨g',c,cur,rfl,q2,q3,_⟩
  · cases hg
  · obtain rfl:g'=g:=Option.some.inj hg
    exact ⟨q2,cur,q3⟩
theorem Qdx {W : World} {g:Nat} {c c':Array Value} {T T':TypeId} (h:W.heap[g]? = some (.cells c T)) (h':W.heap[g]? = some (.cells c' T')) (hne:T≠T'):False:=by
  rw [h] at h'
  simp only [Option.some.injEq,Obj.cells.injEq] at h'
  exact hne h'.2.1
theorem QnA {P : Program} {T:TypeId} {z:Value} {b:Nat} (hi:(P.info? T).map (fun i=>(i.zero,i.size,i.bytes))=some (some z,1,b)):∃ i,P.info? T=some i∧i.zero=some z∧i.size=1∧i.bytes=b:=by
  cases hq:P.info? T with
  | none=>rw [hq] at hi; cases hi
  | some i =>
    rw [hq] at hi
    simp only [Option.map_some,Option.some.injEq,Prod.mk.injEq] at hi
    exact ⟨i,rfl,hi.1,hi.2.1,hi.2.2⟩
theorem QjE {P : Program} {ρ:Operand→Value} {o:Oper} {W:World} {T:TypeId} (base b:Nat) (s x:Operand) (t:TypeId) (ho:o.op=.call { callee:=.builtin .append,args:=#[s,x],argTypes:=#[t,t] })
    (ht:P.underlying t=some (.slice T)) (z:Value) (hi:(P.info? T).map (fun i=>(i.zero,i.size,i.bytes))=some (some z,1,b)) (hz:z.cells.size=1) (hb:b≤100) {v y:Value} {vs:List Value} {gy c:Nat} {Ty:TypeId}
    (hs:ρ s=v) (hx:ρ x=.slice (some ⟨gy,0,none⟩) 1 c) (ry:W.heap[gy]? = some (.cells #[y] Ty)) (h1:y.oneCell'=true)
    (h:OwnR T base vs v W) (hn:vs.length≤100000) (hV:base≤W.heap.size) :
    ∃ u W',(execOp ρ o).run P W=.ok (.value u) W'∧OwnR T base (vs++[y]) u W'∧W.grownBy W' v.ownBlock:=by
  obtain ⟨i,hq,hi1,hi2,hi3⟩:=QnA hi
  obtain ⟨v',W',hr,h2,h3,_,h5⟩:=run_append_own_at (P:=P) W base t o.type T i z 1 b ht hq hi1 hi2 hi3 hz (by omega) v vs.length vs h.1 ⟨gy,0,none⟩ 1 c [y] (by simp)
    (fun j u hu=>by
      cases j with
      | zero =>
        simp only [List.getElem?_cons_zero,Option.some.injEq] at hu
        subst hu
        rw [WideShapes.add_plain]
        exact QcO ry rfl
      | succ j=>simp at hu) (fun u hu=>by rw [List.mem_singleton.1 hu]; exact h1) (by simp only [maxLen]; omega) (by
        have:(vs.length+1)*b≤100001*100:=Nat.mul_le_mul (by omega) hb
        omega) hV
  refine ⟨v',W',?_,⟨by rw [List.length_append]; exact h2,by rw [List.length_append]; simp only [maxLen]; show _+1≤_; omega⟩,h3⟩
  unfold execOp
  simp only [ho,resolve,invoke,builtin,Sem.run_bind,Sem.run_pure,Result.andThen_ok,List.map_toArray,List.map_cons,List.map_nil,hs,hx,hr]
structure GP (base gc : Nat) (w W : World) : Prop where
  os:W.os=w.os
  tape:W.tape=w.tape
  output:W.output=w.output
  size:w.heap.size≤W.heap.size
  block:∀ k,k<w.heap.size→k≠gc→(k<base∨∀ cs fr,w.heap[k]?≠some (.cells cs 75 fr))→W.heap[k]? = w.heap[k]?
theorem GP.refl (base gc:Nat) (w:World):GP base gc w w:=⟨rfl,rfl,rfl,qR _,fun _ _ _ _=>rfl⟩
theorem GP.trans {base gc:Nat} {u w W:World} (h:GP base gc u w) (k:GP base gc w W):GP base gc u W :=
  ⟨k.os.trans h.os,k.tape.trans h.tape,k.output.trans h.output,qT h.size k.size,fun i hi hn hc=>by
    have e:=h.block i hi hn hc
    refine (k.block i (qL hi h.size) hn ?_).trans e
    rcases hc with hc | hc
    · exact .inl hc
    · exact .inr fun cs fr=>by rw [e]; exact hc cs fr⟩
theorem GP.of_ext {base gc:Nat} {w W:World} (e:Ext w W):GP base gc w W:=⟨e.os,e.tape,e.output,e.size,fun k hk _ _=>e.block k hk⟩
theorem GP.ext {base gc:Nat} {u w W:World} (h:GP base gc u w) (e:Ext w W):GP base gc u W:=h.trans (GP.of_ext e)
theorem GP.put {base gc g:Nat} {u w W:World} (h:GP base gc u w) (p:Puts w g W) (hg:u.heap.size≤g):GP base gc u W :=
  ⟨p.1.trans h.os,p.2.1.trans h.tape,p.2.2.1.trans h.output,by have:=h.size; have:=p.2.2.2.1; omega,fun k hk hn hc=>(p.2.2.2.2 k (by omega)).trans (h.block k hk hn hc)⟩
theorem GP.putg {base gc:Nat} {u w W:World} (h:GP base gc u w) (p:Puts w gc W):GP base gc u W :=
  ⟨p.1.trans h.os,p.2.1.trans h.tape,p.2.2.1.trans h.output,by have:=h.size; have:=p.2.2.2.1; omega,fun k hk hn hc=>(p.2.2.2.2 k hn).trans (h.block k hk hn hc)⟩
theorem GP.row {base gc g:Nat} {w W:World} {c:Array Value} {T:TypeId} (h:GP base gc w W) (r:w.heap[g]? = some (.cells c T)) (hT:T≠75) (hn:g≠gc):W.heap[g]? = some (.cells c T) :=
  (h.block g (Qay r) hn (.inr fun cs fr e=>by rw [r] at e; simp only [Option.some.injEq,Obj.cells.injEq] at e; exact hT e.2.1)).trans r
theorem GP.low {base gc g:Nat} {w W:World} {ob:Obj} (h:GP base gc w W) (r:w.heap[g]? = some ob) (hb:g<base) (hn:g≠gc):W.heap[g]? = some ob:=(h.block g (Qay r) hn (.inl hb)).trans r
theorem GP.grown {base gc:Nat} {w W:World} {vs:List Value} {v:Value} (h:w.grownBy W v.ownBlock) (hv:OwnR 75 base vs v w):GP base gc w W :=
  ⟨h.os,h.tape,h.output,h.size,fun k hk hn hc=>h.block k hk fun e=>by
    obtain ⟨h1,cur,h2⟩:=hv.at e.symm
    rcases hc with hc | hc
    · omega
    · exact hc _ _ h2⟩
theorem ChSt.gp {base gc g mg:Nat} {s0 ts:List Int} {pl:Nat} {ms:List (Int×List Int)} {W W':World} (h:ChSt g mg s0 ts pl ms W) (q:GP base gc W W') (hg:g≠gc) (hm:mg≠gc):ChSt g mg s0 ts pl ms W':=by
  obtain ⟨B,h1,h2⟩:=h.row
  obtain ⟨es,c,h3,-⟩:=id h.mp
  exact h.keep ((q.row h2 (by decide) hg).trans h2.symm) (q.block mg (Qay h3) hm (.inr fun cs fr e=>by rw [h3] at e; cases e))
def GrS (base gc:Nat) (cs:List (Nat×Nat)) (W:World):Prop:=∃ v,W.heap[gc]? = some (.cells #[v] 70)∧OwnR 75 base (cs.map fun p=>Value.pointer (some ⟨p.1,0,none⟩)) v W
theorem GrS.ext {base gc:Nat} {cs:List (Nat×Nat)} {W W':World} (h:GrS base gc cs W) (e:Ext W W'):GrS base gc cs W':=by
  obtain ⟨v,h1,h2⟩:=h
  exact ⟨v,Qac h1 e,h2.keep fun g hg=>by obtain ⟨-,cur,hc⟩:=h2.at hg; exact e.block g (Qay hc)⟩
def lftV (sec : List Int):List Int:=Qbx sec (strB Qgc)
def rgtV (sec : List Int):List Int:=Qbx sec (strB Qeh)
attribute [irreducible] lftV rgtV
theorem Qc9 (sec : List Int):(lftV sec).length=32:=by unfold lftV; exact Qd7 _ _
theorem Qc5 (sec : List Int):(rgtV sec).length=32:=by unfold rgtV; exact Qd7 _ _
theorem Qea (sec : List Int):Qat (lftV sec):=by unfold lftV; exact QcS _ _
theorem QdX (sec : List Int):Qat (rgtV sec):=by unfold rgtV; exact QcS _ _
def Qbk (sec : List Int):Nat→Nat→List Int
  | 0,_=>sec
  | k+1,j=>if j<2^k then Qbk (lftV sec) k j else Qbk (rgtV sec) k (j-2^k)
def lvOk : Nat→Int→Bool
  | 0,x=>decide (0≤x)&&decide (x≤62)&&decide (Seat.kidL x<0)
  | k+1,x=>decide (0≤x)&&decide (x≤62)&&decide (0≤Seat.kidL x)&&lvOk k (Seat.kidL x)&&lvOk k (Seat.kidR x)
theorem QiZ : ∀ k:Fin 6,lvOk k.val (((2^k.val:Nat):Int)-1)=true:=by decide +kernel
theorem Qh0 {k : Nat} {x:Int} (h:lvOk k x=true):0≤x∧x≤62:=by
  cases k <;> (unfold lvOk at h; simp only [Bool.and_eq_true,decide_eq_true_eq] at h)
  · exact h.1
  · exact h.1.1.1
def GrR (base gc:Nat) (cs:List (Nat×Nat)) (sec:List Int) (k:Nat) (W W':World):Prop:=GP base gc W W'∧∃ ns:List (Nat×Nat),ns.length=2^k∧GrS base gc (cs++ns) W'∧(∀ j p,ns[j]? = some p→ChSt p.1 p.2 (Qbk sec k j) [] 0 [] W'∧W.heap.size≤p.1∧W.heap.size≤p.2)∧(ns.map Prod.fst).Nodup∧(ns.map Prod.snd).Nodup
theorem QgV (pl : Nat→Option (Nat×Nat)) (i off n:Nat) (v:Value) (pre:List (Array Value)) (mid:Array Value) (post:List (Array Value)) (ps:List (Nat×Value)) (h1:pl i=some (off,n)) (hoff:(cat pre).size=off) (hm:mid.size=n) (hv:v.cells.size=n) :
    Instr.fill pl (cat (pre++([mid]++post))) ((i,v)::ps)=Instr.fill pl (cat (pre++([v.cells]++post))) ps:=by
  have hz:(v.cells.zipIdx.foldl (fun cs (x:Value×Nat)=>cs.setIfInBounds (off+x.2) x.1) (cat (pre++([mid]++post))))=cat (pre++([v.cells]++post)):=by
    have e1:v.cells.zipIdx=(v.cells.toList.zipIdx 0).toArray:=by
      apply Array.ext'
      simp
    rw [e1,List.foldl_toArray',Qdf]
    · rw [Nat.add_zero]
      have:=Qee pre [mid] [v.cells] post off hoff (by show (cat [v.cells]).size=(cat [mid]).size; simp [cat,hm,hv])
      rw [show (cat [v.cells]).toList=v.cells.toList by simp [cat]] at this
      exact this
    · rfl
  rw [Instr.fill,h1]
  simp only
  have hs:(cat (pre++([mid]++post))).size=off+(n+(cat post).size):=by rw [QaT,qS,hoff]; show off+(cat (mid::post)).size=_; rw [Qaa,qS,hm]
  rw [if_neg (by rw [hv,hs]; simp)]
  show Instr.fill pl (v.cells.zipIdx.foldl (fun cs (x:Value×Nat)=>cs.setIfInBounds (off+x.2) x.1) (cat (pre++([mid]++post)))) ps=_
  rw [hz]
theorem Qfk {P : Program} {ρ:Operand→Value} {o:Oper} {w:World} (t:TypeId) (parts:Array (Nat×Operand)) (z:Value) (places:Array (Nat×Nat)) (r zc:Array Value) (ps:List (Nat×Value)) (ho:o.op=.build t parts) (hv:(parts.map fun (i,x)=>(i,ρ x)).toList=ps) (hzc:z=.agg zc) (hf:Instr.fill (fun i=>places[i]?) zc ps=some r)
    (hz:(zeroValue t).run P w=.ok z w) (hu:P.underlying t=some (.struct (P.fieldsOf t))) (hm:((P.fieldsOf t).mapM fun f=>do pure (f.offset,←sizeOf f.type):Sem (Array (Nat×Nat))).run P w=.ok places w) :
    (execOp ρ o).run P w=.ok (.value (.agg r)) w:=by
  subst hzc
  rw [←hv] at hf
  have hB:(Instr.build t (parts.map fun (i,x)=>(i,ρ x))).run P w=.ok (.agg r) w:=by
    unfold Instr.build
    rw [Sem.run_bind,hz,Result.andThen_ok,Sem.run_bind,run_underlying hu w,Result.andThen_ok]
    show (Sem.run P _ w)=_
    rw [Sem.run_bind,hm,Result.andThen_ok]
    simp only [show (Value.agg zc).cells=zc from rfl,hf]
    rfl
  unfold execOp
  simp only [ho,Sem.run_bind,hB,Result.andThen_ok,Sem.run_pure]
theorem Qg2 {base : Nat} {vs:List Value} {v:Value} {W W':World} {g:Nat} {c:Array Value} {T:TypeId} (h:W.grownBy W' v.ownBlock) (hv:OwnR 75 base vs v W) (r:W.heap[g]? = some (.cells c T)) (hT:T≠75):W'.heap[g]? = some (.cells c T) :=
  (h.block g (Qay r) fun e=>by obtain ⟨-,cur,h2⟩:=hv.at e.symm; exact Qdx r h2 hT).trans r
theorem Qkv {g gm:Nat} {sec:List Int} {W:World} (hl:sec.length=32) (hb:Qat sec) (r:W.heap[g]? = some (.cells (cat [#[.int .i64 0],#[.int .u64 0],ints .u8 (sec),#[.int .i64 0],#[.map (some gm)]]) 84)) (hm:W.heap[gm]? = some (.map #[] 0)):ChSt g gm sec [] 0 [] W :=
  ⟨hl,hb,⟨0,Qjj,r⟩,⟨_,_,hm,QiX 0⟩,⟨fun p hp=>absurd hp List.not_mem_nil,fun k hk _ _=>absurd hk (Nat.not_lt_zero _)⟩⟩
theorem QlU (pl : Nat→Option (Nat×Nat)) (h1:pl 1=some (2,32)) (h3:pl 3=some (35,1)) (sec:List Int) (hl:sec.length=32) (gm:Nat):Instr.fill pl (cat [#[.int .i64 0],#[.int .u64 0],ints .u8 (List.replicate 32 0),#[.int .i64 0],#[.map none]]) [(1,.agg (ints .u8 sec)),(3,.map (some gm))]=some (cat [#[.int .i64 0],#[.int .u64 0],ints .u8 sec,#[.int .i64 0],#[.map (some gm)]]):=by
  refine (QgV pl 1 2 32 (.agg (ints .u8 sec)) [#[.int .i64 0],#[.int .u64 0]] (ints .u8 (List.replicate 32 0)) [#[.int .i64 0],#[.map none]] [(3,.map (some gm))] h1 rfl (by rw [Qad]; rfl) ((Qad _ _).trans hl)).trans ?_
  refine (QgV pl 3 35 1 (.map (some gm)) [#[.int .i64 0],#[.int .u64 0],ints .u8 sec,#[.int .i64 0]] #[.map none] [] [] h3 (by rw [Qaa,Qaa,Qaa,Qaa]; simp only [qS,cat,(Qad _ _).trans hl]; rfl) rfl rfl).trans rfl
theorem OwnR.sl {T : TypeId} {base:Nat} {vs:List Value} {v:Value} {W:World} (h:OwnR T base vs v W):∃ a n c,v=.slice a n c:=by
  rcases h.1.2 with ⟨rfl,_⟩ | ⟨g,c,cur,rfl,_⟩
  · exact ⟨_,_,_,rfl⟩
  · exact ⟨_,_,_,rfl⟩
theorem appG {P : Program} {ρ:Operand→Value} {o:Oper} {W:World} {base gc:Nat} {s x:Operand} {t:TypeId} {v y:Value} {vs:List Value} {gy c g1 g2:Nat} {Ty T1 T2:TypeId} {c1 c2:Array Value} (ho:o.op=.call { callee:=.builtin .append,args:=#[s,x],argTypes:=#[t,t] })
    (ht:P.underlying t=some (.slice 75)) (hi:(P.info? 75).map (fun i=>(i.zero,i.size,i.bytes))=some (some (.pointer none),1,8))
    (hs:ρ s=v) (hx:ρ x=.slice (some ⟨gy,0,none⟩) 1 c) (ry:W.heap[gy]? = some (.cells #[y] Ty)) (h1:y.oneCell'=true)
    (h:OwnR 75 base vs v W) (hn:vs.length≤100000) (hV:base≤W.heap.size) (r1:W.heap[g1]? = some (.cells c1 T1)) (n1:T1≠75) (r2:W.heap[g2]? = some (.cells c2 T2)) (n2:T2≠75) :
    ∃ u W',(execOp ρ o).run P W=.ok (.value u) W'∧OwnR 75 base (vs++[y]) u W'∧GP base gc W W'∧W'.heap[g1]? = some (.cells c1 T1)∧W'.heap[g2]? = some (.cells c2 T2):=by
  obtain ⟨u,W',q1,q2,q3⟩:=QjE (P:=P) base 8 s x t ho ht (.pointer none) hi rfl (by decide) hs hx ry h1 h hn hV
  exact ⟨u,W',q1,q2,GP.grown q3 h,Qg2 q3 h r1 n1,Qg2 q3 h r2 n2⟩
theorem gr0 {base gc g gm:Nat} {cs:List (Nat×Nat)} {sec:List Int} {w W2 W3:World} {v0 u1:Value} (x:GP base gc w W2) (r0:W2.heap[gc]? = some (.cells #[v0] 70)) (hv:OwnR 75 base ((cs.map fun p=>Value.pointer (some ⟨p.1,0,none⟩))++[.pointer (some ⟨g,0,none⟩)]) u1 W2)
    (hc:ChSt g gm sec [] 0 [] W2) (p:Puts W2 gc W3) (r:W3.heap[gc]? = some (.cells #[u1] 70)) (lg:w.heap.size≤g) (lm:w.heap.size≤gm) (hl:gc<w.heap.size):GrR base gc cs sec 0 w W3:=by
  have hk:∀ k,k≠gc→W3.heap[k]? = W2.heap[k]?:=fun k hn=>p.2.2.2.2 k hn
  refine ⟨GP.putg x p,[(g,gm)],rfl,⟨u1,r,?_⟩,?_,by simp,by simp⟩
  · rw [List.map_append]
    exact hv.keep fun k hk'=>hk k fun e=>by obtain ⟨-,cur,h2⟩:=hv.at hk'; rw [e] at h2; exact Qdx r0 h2 (by decide)
  · intro j q hj
    cases j with
    | succ j=>cases hj
    | zero =>
      obtain rfl:(g,gm)=q:=Option.some.inj hj
      exact ⟨hc.keep (hk g (by show g≠gc; omega)) (hk gm (by show gm≠gc; omega)),lg,lm⟩
theorem Ql9 {sec : List Int} {k j:Nat} (h:j<2^k):Qbk sec (k+1) j=Qbk (lftV sec) k j:=by rw [Qbk,if_pos h]
theorem Ql8 {sec : List Int} {k j:Nat}:Qbk sec (k+1) (2^k+j)=Qbk (rgtV sec) k j:=by rw [Qbk,if_neg (by omega),Nat.add_sub_cancel_left]
theorem grS {base gc k:Nat} {cs n1:List (Nat×Nat)} {sec:List Int} {w W1 W2 W3 W4:World} (x:GP base gc w W1) (q1:GP base gc W1 W2) (l1:n1.length=2^k) (c1:∀ j p,n1[j]? = some p→ChSt p.1 p.2 (Qbk (lftV sec) k j) [] 0 [] W2∧W1.heap.size≤p.1∧W1.heap.size≤p.2) (d1:(n1.map Prod.fst).Nodup) (d2:(n1.map Prod.snd).Nodup) (e:GP base gc W2 W3) (h:GrR base gc (cs++n1) (rgtV sec) k W3 W4) (hl:gc<w.heap.size):GrR base gc cs sec (k+1) w W4:=by
  obtain ⟨q2,n2,l2,g2,c2,d3,d4⟩:=h
  refine ⟨(x.trans q1).trans (e.trans q2),n1++n2,by rw [List.length_append,l1,l2,Nat.pow_succ]; omega,by rw [←List.append_assoc]; exact g2,?_,?_,?_⟩
  · intro j p hj
    rcases Nat.lt_or_ge j (2^k) with hjk | hjk
    · rw [List.getElem?_append_left (by omega)] at hj
      obtain ⟨a1,a2,a3⟩:=c1 j p hj
      have:=x.size
      rw [Ql9 hjk]
      exact ⟨a1.gp (e.trans q2) (by omega) (by omega),by omega,by omega⟩
    · rw [List.getElem?_append_right (by omega),l1] at hj
      obtain ⟨a1,a2,a3⟩:=c2 _ p hj
      have:=x.size
      have:=q1.size
      have:=e.size
      rw [show j=2^k+(j-2^k) by omega,Ql8]
      exact ⟨a1,by omega,by omega⟩
  · rw [List.map_append]
    refine List.nodup_append.2 ⟨d1,d3,fun a ha b hb he=>?_⟩
    obtain ⟨p,hp,rfl⟩:=List.mem_map.1 ha
    obtain ⟨q,hq,rfl⟩:=List.mem_map.1 hb
    obtain ⟨i,hi⟩:=List.mem_iff_getElem?.1 hp
    obtain ⟨j,hj⟩:=List.mem_iff_getElem?.1 hq
    have h1:=(c1 i p hi).1.glt
    have h2:=(c2 j q hj).2.1
    have:=e.size
    omega
  · rw [List.map_append]
    refine List.nodup_append.2 ⟨d2,d4,fun a ha b hb he=>?_⟩
    obtain ⟨p,hp,rfl⟩:=List.mem_map.1 ha
    obtain ⟨q,hq,rfl⟩:=List.mem_map.1 hb
    obtain ⟨i,hi⟩:=List.mem_iff_getElem?.1 hp
    obtain ⟨j,hj⟩:=List.mem_iff_getElem?.1 hq
    have h1:=(c1 i p hi).1.mp.lt
    have h2:=(c2 j q hj).2.2
    have:=e.size
    omega
theorem Qmu {base gc:Nat} {w W:World} (h:Seat.TabAt w) (q:GP base gc w W) (hb:0<base) (hn:0≠gc):Seat.TabAt W :=
  ⟨qL h.1 q.size,fun j hj=>by rw [World.cell?_of_block (q.block _ h.1 hn (.inl hb))]; exact h.2 j hj⟩
theorem QkS (x : Int) (hx:0≤x∧x≤62) (W:World) (hT:Seat.TabAt W):Calls Tryd.prog 39 #[.int .i64 x] W (Ret W (.tuple #[.int .i64 (Seat.kidL x),.int .i64 (Seat.kidR x)])) :=
  (Seat.children x ⟨by omega,by omega⟩ W hT).mono fun e W' hh=>⟨hh.1,hh.2▸Rely.Ext.refl _⟩
theorem QmO (base gc:Nat) (cs:List (Nat×Nat)) (sec:List Int) (x:Int) (tc tq:TypeId) (w:World) (hc:w.heap[2]? = some (.cells (ints .u64 QaN) tc)) (hq:w.heap[1]? = some (.cells (ints .u64 Qam) tq)) (hT:Seat.TabAt w) (hsl:sec.length=32) (hsb:Qat sec) (hb:base≤w.heap.size) (hcn:cs.length≤1000) (hgs:GrS base gc cs w) (hlv:lvOk 0 x=true):Calls Tryd.prog 28 #[.pointer (some ⟨gc,0,none⟩),.agg (ints .u8 sec),.int .i64 x] w (fun e W=>e=.returned (.tuple #[])∧GrR base gc cs sec 0 w W):=by
  obtain ⟨v0,hgc,hv0⟩:=hgs
  have hgcl:=Qay hgc
  have hk0:Seat.kidL x<0:=by unfold lvOk at hlv; simp only [Bool.and_eq_true,decide_eq_true_eq] at hlv; exact hlv.2
  refine enter 38 [(0,.pointer (some ⟨gc,0,none⟩)),(1,.agg (ints .u8 (sec))),(2,.int .i64 x)] Tryd.func28 rfl rfl kj rfl ?_
  refine wp_seq_k fun K2 hK2=>?_
  refine Qaf ?_
  refine Qap (ints .u8 (sec)) 23 4 rfl kj kj fun g3 W1 l3 e1 r3_1=>?_
  have x1:GP base gc w W1:=GP.ext (GP.refl base gc w) e1
  have b3:w.heap.size≤g3:=qT (GP.refl base gc w).size l3
  refine Qak ?_
  refine hK2 _ _ ?_
  refine wp_seq_k fun K4 hK4=>?_
  refine Qaf ?_
  refine Qab (.int .i64 x) 9 rfl kj kj ?_
  have y0_1:Ext w W1:=(Rely.Ext.trans (Rely.Ext.refl w) e1)
  refine Qar (.tuple #[.int .i64 (Seat.kidL x),.int .i64 (Seat.kidR x)]) 39 #[.int .i64 x] 10 rfl kj kj (QkS x (Qh0 hlv) _ (hT.ext y0_1)) fun W2 e2=>?_
  have x2:GP base gc w W2:=GP.ext x1 e2
  refine Qab (.tuple #[.int .i64 (Seat.kidL x),.int .i64 (Seat.kidR x)]) 8 rfl kj kj ?_
  refine Qab (.int .i64 (Seat.kidL x)) 11 rfl kj kj ?_
  refine Qab (.int .i64 (Seat.kidR x)) 12 rfl kj kj ?_
  refine Qab (.int .i64 (Seat.kidL x)) 6 rfl kj kj ?_
  refine Qab (.int .i64 (Seat.kidR x)) 7 rfl kj kj ?_
  refine Qak ?_
  refine hK4 _ _ ?_
  refine wp_seq_k fun K5 hK5=>?_
  refine wp_seq_k fun K6 hK6=>?_
  refine Qaf ?_
  refine Qab (.int .i64 (Seat.kidL x)) 13 rfl kj kj ?_
  refine Qab (.bool true) 14 rfl kj (Qai (u:=.bool (decide ((Seat.kidL x)<0))) kj (congrArg Value.bool (decide_eq_true hk0))) ?_
  refine Qak ?_
  refine hK6 _ _ ?_
  refine cond_true kj ?_
  refine wp_seq_k fun K7 hK7=>?_
  have r1_1:=(Qac hgc e1)
  have r1_2:=(Qac r1_1 e2)
  have r3_2:=(Qac r3_1 e2)
  refine Wm.region_walkM (fun W=>W.heap[gc]? = some (.cells (#[v0]) 70)∧W.heap[g3]? = some (.cells (ints .u8 (sec)) 23)) 13 kj fun W3 e3=>⟨⟨Qac r1_2 e3,Qac r3_2 e3⟩,?_⟩
  have x3:GP base gc w W3:=GP.ext x2 e3
  refine Wm.wm_val 0 (.pointer (some ⟨gc,0,none⟩)) 15 rfl rfl kj kj (by decide) kj (fun _ _ _ h=>h) (fun W hR=>by kernel_rfl) ?_
  refine Wm.wm_val 1 (.pointer (some ⟨gc,0,none⟩)) 16 rfl rfl kj kj (by decide) kj (fun _ _ _ h=>h) (fun W hR=>by kernel_rfl) ?_
  refine Wm.wm_val 2 (.pointer (some ⟨gc,0,none⟩)) 17 rfl rfl kj kj (by decide) kj (fun _ _ _ h=>h) (fun W hR=>by kernel_rfl) ?_
  refine Wm.wm_val 3 (.pointer (some ⟨gc,0,none⟩)) 18 rfl rfl kj kj (by decide) kj (fun _ _ _ h=>h) (fun W hR=>by kernel_rfl) ?_
  refine Wm.wm_val 4 (v0) 19 rfl rfl kj kj (by decide) kj (fun _ _ _ h=>h) (fun W hR=>(Qag 68 _ gc 0 70 _ (v0) _ hR.1 rfl kj kj kj)) ?_
  refine Wm.wm_val 5 (.agg (ints .u8 (sec))) 20 rfl rfl kj kj (by decide) kj (fun _ _ _ h=>h) (fun W hR=>(Qaq 23 _ g3 23 _ _ hR.2 rfl kj kj (isz (n:=32) kj ((Qad _ _).trans hsl)))) ?_
  have r1_3:=(Qac r1_2 e3)
  have r3_3:=(Qac r3_2 e3)
  refine Wm.wm_run 6 kj rfl (fun v W'=>(∃ g,v=.map (some g)∧W3.heap.size≤g∧W'.heap[g]? = some (.map #[] 0))∧Ext W3 W') 21 rfl kj ⟨.map (some W3.heap.size),W3.alloc (.map #[] 0),kj,⟨_,rfl,qR _,heap_alloc_new _ _⟩,QbI _ _⟩ (fun v W h=>⟨Qac r1_3 h.2,Qac r3_3 h.2⟩) fun vv8 W4 hh8=>?_
  obtain ⟨⟨gm,rfl,lgm,hgm⟩,e4⟩:=hh8
  have x4:GP base gc w W4:=GP.ext x3 e4
  have lgm0:w.heap.size≤gm:=qT x3.size lgm
  refine Wm.wm_val 7 (.agg (cat [#[.int .i64 0],#[.int .u64 0],ints .u8 (sec),#[.int .i64 0],#[.map (some gm)]])) 22 rfl rfl kj kj (by decide) kj (fun _ _ _ h=>h) (fun W hR=>(Qfk 84 _ (.agg (cat [#[.int .i64 0],#[.int .u64 0],ints .u8 (List.replicate 32 0),#[.int .i64 0],#[.map none]])) #[(0,2),(2,32),(34,1),(35,1)] (cat [#[.int .i64 0],#[.int .u64 0],ints .u8 (sec),#[.int .i64 0],#[.map (some gm)]]) _ [(1,.agg (ints .u8 sec)),(3,.map (some gm))] rfl kj rfl (QlU (fun i=>(#[(0,2),(2,32),(34,1),(35,1)]:Array (Nat×Nat))[i]?) rfl rfl sec hsl gm) kj kj kj)) ?_
  have r1_4:=(Qac r1_3 e4)
  have r3_4:=(Qac r3_3 e4)
  refine Wm.wm_run 8 kj rfl (fun v W'=>(∃ g,v=.pointer (some ⟨g,0,none⟩)∧W4.heap.size≤g∧W'.heap[g]? = some (.cells (cat [#[.int .i64 0],#[.int .u64 0],ints .u8 (sec),#[.int .i64 0],#[.map (some gm)]]) 84))∧Ext W4 W') 23 rfl kj ⟨.pointer (some ⟨W4.heap.size,0,none⟩),W4.alloc (.cells (cat [#[.int .i64 0],#[.int .u64 0],ints .u8 (sec),#[.int .i64 0],#[.map (some gm)]]) 84),kj,⟨_,rfl,qR _,heap_alloc_new _ _⟩,QbI _ _⟩ (fun v W h=>⟨Qac r1_4 h.2,Qac r3_4 h.2⟩) fun vv10 W5 hh10=>?_
  obtain ⟨⟨g11,rfl,l11,r11_5⟩,e5⟩:=hh10
  have x5:GP base gc w W5:=GP.ext x4 e5
  have b11:w.heap.size≤g11:=qT x4.size l11
  have r1_5:=(Qac r1_4 e5)
  have r3_5:=(Qac r3_4 e5)
  refine Wm.wm_run 9 kj rfl (fun v W'=>(∃ g,v=.slice (some ⟨g,0,none⟩) 1 1∧W5.heap.size≤g∧W'.heap[g]? = some (.cells #[.pointer (some ⟨g11,0,none⟩)] 75))∧Ext W5 W') 24 rfl kj ⟨.slice (some ⟨W5.heap.size,0,none⟩) 1 1,W5.alloc (.cells #[.pointer (some ⟨g11,0,none⟩)] 75),kj,⟨_,rfl,qR _,heap_alloc_new _ _⟩,QbI _ _⟩ (fun v W h=>⟨Qac r1_5 h.2,Qac r3_5 h.2⟩) fun vv12 W6 hh12=>?_
  obtain ⟨⟨g13,rfl,l13,r13_6⟩,e6⟩:=hh12
  have x6:GP base gc w W6:=GP.ext x5 e6
  have r1_6:=(Qac r1_5 e6)
  have r3_6:=(Qac r3_5 e6)
  have r9_5:=(Qac hgm e5)
  have r9_6:=(Qac r9_5 e6)
  have r11_6:=(Qac r11_5 e6)
  have hv1:OwnR 75 base (cs.map fun p=>Value.pointer (some ⟨p.1,0,none⟩)) v0 W6:=OwnR.keep hv0 fun g hg=>by obtain ⟨-,cur,hc9⟩:=hv0.at hg; exact (Rely.Ext.trans (Rely.Ext.trans (Rely.Ext.trans (Rely.Ext.trans (Rely.Ext.trans (Rely.Ext.trans (Rely.Ext.refl w) e1) e2) e3) e4) e5) e6).block g (Qay hc9)
  have hch1:ChSt g11 gm sec [] 0 [] W6:=Qkv hsl hsb r11_6 r9_6
  refine Wm.wm_run 10 kj rfl (fun v W'=>OwnR 75 base ((cs.map fun p=>Value.pointer (some ⟨p.1,0,none⟩))++[.pointer (some ⟨g11,0,none⟩)]) v W'∧GP base gc W6 W'∧W'.heap[gc]? = some (.cells (#[v0]) 70)∧W'.heap[g3]? = some (.cells (ints .u8 (sec)) 23)) 25 rfl kj (appG (c:=1) (s:=.tmp 19) (x:=.tmp 24) (t:=68) rfl kj kj kj kj r13_6 rfl hv1 (by rw [List.length_map]; omega) (qT hb x6.size) r1_6 (by decide) r3_6 (by decide)) (fun v W h=>h.2.2) fun u1 W7 hh14=>?_
  obtain ⟨hv2,q7,r1_7,r3_7⟩:=hh14
  have x7:GP base gc w W7:=GP.trans x6 q7
  have hch2:=hch1.gp q7 (by omega) (by omega)
  obtain ⟨ua,un,uc,rfl⟩:=OwnR.sl hv2
  refine Wm.wm_run 11 kj rfl (fun v W'=>v=.pointer (some ⟨gc,0,none⟩)∧Ext W7 W') 26 rfl kj ⟨_,_,kj,rfl,Rely.Ext.refl _⟩ (fun v W h=>⟨Qac r1_7 h.2,Qac r3_7 h.2⟩) fun vv15 W8 hh15=>?_
  obtain ⟨rfl,e8⟩:=hh15
  have x8:GP base gc w W8:=GP.ext x7 e8
  have hv2_8:=OwnR.keep hv2 fun g hg=>by obtain ⟨-,cur,hc9⟩:=OwnR.at hv2 hg; exact e8.block g (Qay hc9)
  have hch2_8:=ChSt.ext hch2 e8
  refine Wm.wm_val 12 (.pointer (some ⟨gc,0,none⟩)) 27 rfl rfl kj kj (by decide) kj (fun _ _ _ h=>h) (fun W hR=>by kernel_rfl) ?_
  have r1_8:=(Qac r1_7 e8)
  have r3_8:=(Qac r3_7 e8)
  refine Wm.wm_store gc _ (#[.slice ua un uc]) 70 r1_8 kj kj rfl rfl kj (QbC 68 _ _ gc 0 70 _ (.slice ua un uc) r1_8 rfl kj kj kj kj kj rfl) fun W9 p9 r1_9=>?_
  have x9:GP base gc w W9:=GP.putg x8 p9
  refine hK7 _ _ ?_
  refine wp_ret ?_
  repeat (first | with_reducible refine goR1 ?_ | with_reducible refine goR2 ?_)
  exact (show bodyPost _ _ _ .ret _ _ from ret0 rfl ⟨rfl,gr0 x8 r1_8 hv2_8 hch2_8 p9 r1_9 b11 lgm0 hgcl⟩)
theorem Qn5 (sec : List Int) (tc tq:TypeId) (w:World) (hc:w.heap[2]? = some (.cells (ints .u64 QaN) tc)) (hq:w.heap[1]? = some (.cells (ints .u64 Qam) tq)) (hsl:sec.length=32) (hsb:Qat sec):Calls Tryd.prog 40 #[.agg (ints .u8 sec),.string Qgc] w (Ret w (.agg (ints .u8 (lftV sec)))):=by
  unfold lftV
  exact QgW sec Qgc tc tq w hc hq hsl hsb
theorem Qnv (sec : List Int) (tc tq:TypeId) (w:World) (hc:w.heap[2]? = some (.cells (ints .u64 QaN) tc)) (hq:w.heap[1]? = some (.cells (ints .u64 Qam) tq)) (hsl:sec.length=32) (hsb:Qat sec):Calls Tryd.prog 40 #[.agg (ints .u8 sec),.string Qeh] w (Ret w (.agg (ints .u8 (rgtV sec)))):=by
  unfold rgtV
  exact QgW sec Qeh tc tq w hc hq hsl hsb
theorem QmN (k : Nat) (base gc:Nat) (cs:List (Nat×Nat)) (sec:List Int) (x:Int) (tc tq:TypeId) (w:World) (hc:w.heap[2]? = some (.cells (ints .u64 QaN) tc)) (hq:w.heap[1]? = some (.cells (ints .u64 Qam) tq)) (hT:Seat.TabAt w) (hsl:sec.length=32) (hsb:Qat sec) (hb:base≤w.heap.size) (hcn:cs.length+2^(k+1)≤1000) (hgs:GrS base gc cs w) (hltc:2<base) (hlts:1<base) (hltt:0<base) (hnec:2≠gc) (hnes:1≠gc) (hnet:0≠gc) (ih:∀ (cs:List (Nat×Nat)) (sec:List Int) (x:Int) (w:World),w.heap[2]? = some (.cells (ints .u64 QaN) tc)→w.heap[1]? = some (.cells (ints .u64 Qam) tq)→Seat.TabAt w→sec.length=32→Qat sec→base≤w.heap.size→cs.length+2^k≤1000→GrS base gc cs w→lvOk k x=true→Calls Tryd.prog 28 #[.pointer (some ⟨gc,0,none⟩),.agg (ints .u8 sec),.int .i64 x] w (fun e W=>e=.returned (.tuple #[])∧GrR base gc cs sec k w W)) (hlv:lvOk (k+1) x=true):Calls Tryd.prog 28 #[.pointer (some ⟨gc,0,none⟩),.agg (ints .u8 sec),.int .i64 x] w (fun e W=>e=.returned (.tuple #[])∧GrR base gc cs sec (k+1) w W):=by
  have hgcl:gc<w.heap.size:=by obtain ⟨v0,hgc,-⟩:=hgs; exact Qay hgc
  have hk0:0≤Seat.kidL x:=by unfold lvOk at hlv; simp only [Bool.and_eq_true,decide_eq_true_eq] at hlv; exact hlv.1.1.2
  have hlv2:lvOk k (Seat.kidL x)=true∧lvOk k (Seat.kidR x)=true:=by rw [lvOk] at hlv; simp only [Bool.and_eq_true,decide_eq_true_eq] at hlv; exact ⟨hlv.1.2,hlv.2⟩
  rw [Nat.pow_succ] at hcn
  refine enter 38 [(0,.pointer (some ⟨gc,0,none⟩)),(1,.agg (ints .u8 (sec))),(2,.int .i64 x)] Tryd.func28 rfl rfl kj rfl ?_
  refine wp_seq_k fun K4 hK4=>?_
  refine Qaf ?_
  refine Qap (ints .u8 (sec)) 23 4 rfl kj kj fun g5 W1 l5 e1 r5_1=>?_
  have x1:GP base gc w W1:=GP.ext (GP.refl base gc w) e1
  have b5:w.heap.size≤g5:=qT (GP.refl base gc w).size l5
  refine Qak ?_
  refine hK4 _ _ ?_
  refine wp_seq_k fun K6 hK6=>?_
  refine Qaf ?_
  refine Qab (.int .i64 x) 9 rfl kj kj ?_
  have ht1_7:=(hT.ext e1)
  refine Qar (.tuple #[.int .i64 (Seat.kidL x),.int .i64 (Seat.kidR x)]) 39 #[.int .i64 x] 10 rfl kj kj (QkS x (Qh0 hlv) _ ht1_7) fun W2 e2=>?_
  have x2:GP base gc w W2:=GP.ext x1 e2
  refine Qab (.tuple #[.int .i64 (Seat.kidL x),.int .i64 (Seat.kidR x)]) 8 rfl kj kj ?_
  refine Qab (.int .i64 (Seat.kidL x)) 11 rfl kj kj ?_
  refine Qab (.int .i64 (Seat.kidR x)) 12 rfl kj kj ?_
  refine Qab (.int .i64 (Seat.kidL x)) 6 rfl kj kj ?_
  refine Qab (.int .i64 (Seat.kidR x)) 7 rfl kj kj ?_
  refine Qak ?_
  refine hK6 _ _ ?_
  refine wp_seq_k fun K8 hK8=>?_
  refine wp_seq_k fun K9 hK9=>?_
  refine Qaf ?_
  refine Qab (.int .i64 (Seat.kidL x)) 13 rfl kj kj ?_
  refine Qab (.bool false) 14 rfl kj (Qai (u:=.bool (decide ((Seat.kidL x)<0))) kj (congrArg Value.bool (decide_eq_false (by omega)))) ?_
  refine Qak ?_
  refine hK9 _ _ ?_
  refine cond_false kj ?_
  refine wp_skip ?_
  refine hK8 _ _ ?_
  refine wp_seq_k fun K10 hK10=>?_
  refine Qaf ?_
  refine Qab (.pointer (some ⟨gc,0,none⟩)) 28 rfl kj kj ?_
  have r5_2:=(Qac r5_1 e2)
  refine Qab (.agg (ints .u8 (sec))) 29 rfl kj (Qaq 23 _ g5 23 _ _ r5_2 rfl kj kj (isz (n:=32) kj ((Qad _ _).trans hsl))) ?_
  have r2_1:=(Qac hc e1)
  have r2_2:=(Qac r2_1 e2)
  have r3_1:=(Qac hq e1)
  have r3_2:=(Qac r3_1 e2)
  refine Qar (.agg (ints .u8 (lftV sec))) 40 #[.agg (ints .u8 (sec)),.string Qgc] 30 rfl kj kj (Qn5 sec tc tq _ r2_2 r3_2 hsl hsb) fun W3 e3=>?_
  have x3:GP base gc w W3:=GP.ext x2 e3
  refine Qab (.int .i64 (Seat.kidL x)) 31 rfl kj kj ?_
  have r2_3:=(Qac r2_2 e3)
  have r3_3:=(Qac r3_2 e3)
  have ht3_11:=((ht1_7.ext e2).ext e3)
  refine Qa6 (fun v W'=>v=.tuple #[]∧GrR base gc cs (lftV sec) k W3 W') 28 #[.pointer (some ⟨gc,0,none⟩),.agg (ints .u8 (lftV sec)),.int .i64 (Seat.kidL x)] 32 rfl kj kj ((ih cs (lftV sec) (Seat.kidL x) W3 r2_3 r3_3 ht3_11 (Qc9 _) (Qea _) (qT hb x3.size) (by omega) (GrS.ext (GrS.ext (GrS.ext hgs e1) e2) e3) hlv2.1).mono (by rintro e w' ⟨rfl,h⟩; exact ⟨_,rfl,rfl,h⟩)) fun vv12 W4 hh12=>?_
  obtain ⟨rfl,q4,n1,l1,hg1,c1,d1,d2⟩:=hh12
  have xa:=x3
  have x4:GP base gc w W4:=GP.trans x3 q4
  refine Qak ?_
  refine hK10 _ _ ?_
  refine Qaf ?_
  refine Qab (.pointer (some ⟨gc,0,none⟩)) 33 rfl kj kj ?_
  have r5_3:=(Qac r5_2 e3)
  have r5_4:=(GP.row q4 r5_3 (by decide) (Ne.symm (Nat.ne_of_lt (qL hgcl b5))))
  refine Qab (.agg (ints .u8 (sec))) 34 rfl kj (Qaq 23 _ g5 23 _ _ r5_4 rfl kj kj (isz (n:=32) kj ((Qad _ _).trans hsl))) ?_
  have r2_4:=(GP.low q4 r2_3 hltc hnec)
  have r3_4:=(GP.low q4 r3_3 hlts hnes)
  refine Qar (.agg (ints .u8 (rgtV sec))) 40 #[.agg (ints .u8 (sec)),.string Qeh] 35 rfl kj kj (Qnv sec tc tq _ r2_4 r3_4 hsl hsb) fun W5 e5=>?_
  have x5:GP base gc w W5:=GP.ext x4 e5
  refine Qab (.int .i64 (Seat.kidR x)) 36 rfl kj kj ?_
  have r2_5:=(Qac r2_4 e5)
  have r3_5:=(Qac r3_4 e5)
  have ht5_13:=((Qmu ht3_11 q4 hltt hnet).ext e5)
  refine Qa6 (fun v W'=>v=.tuple #[]∧GrR base gc (cs++n1) (rgtV sec) k W5 W') 28 #[.pointer (some ⟨gc,0,none⟩),.agg (ints .u8 (rgtV sec)),.int .i64 (Seat.kidR x)] 37 rfl kj kj ((ih (cs++n1) (rgtV sec) (Seat.kidR x) W5 r2_5 r3_5 ht5_13 (Qc5 _) (QdX _) (qT hb x5.size) (by rw [List.length_append,l1]; omega) (GrS.ext hg1 e5) hlv2.2).mono (by rintro e w' ⟨rfl,h⟩; exact ⟨_,rfl,rfl,h⟩)) fun vv14 W6 hh14=>?_
  obtain ⟨rfl,hr2⟩:=hh14
  have q6:=hr2.1
  have x6:GP base gc w W6:=GP.trans x5 q6
  refine Qak ?_
  repeat (first | with_reducible refine goX1 ?_ | with_reducible refine goX2 ?_ | with_reducible refine goX3 ?_)
  exact (show bodyPost _ _ _ .normal _ _ from end0 rfl ⟨rfl,grS xa q4 l1 c1 d1 d2 (GP.ext (GP.refl base gc W4) e5) hr2 hgcl⟩)
theorem QmP (base gc:Nat) (tc tq:TypeId) (hltc:2<base) (hlts:1<base) (hltt:0<base) (hnec:2≠gc) (hnes:1≠gc) (hnet:0≠gc):∀ (k:Nat) (cs:List (Nat×Nat)) (sec:List Int) (x:Int) (w:World),w.heap[2]? = some (.cells (ints .u64 QaN) tc)→w.heap[1]? = some (.cells (ints .u64 Qam) tq)→Seat.TabAt w→sec.length=32→Qat sec→base≤w.heap.size→cs.length+2^k≤1000→GrS base gc cs w→lvOk k x=true→Calls Tryd.prog 28 #[.pointer (some ⟨gc,0,none⟩),.agg (ints .u8 sec),.int .i64 x] w (fun e W=>e=.returned (.tuple #[])∧GrR base gc cs sec k w W)
  | 0,cs,sec,x,w,hc,hq,hT,hsl,hsb,hb,hcn,hgs,hlv=>QmO base gc cs sec x tc tq w hc hq hT hsl hsb hb (by omega) hgs hlv
  | k+1,cs,sec,x,w,hc,hq,hT,hsl,hsb,hb,hcn,hgs,hlv=>QmN k base gc cs sec x tc tq w hc hq hT hsl hsb hb hcn hgs hltc hlts hltt hnec hnes hnet (QmP base gc tc tq hltc hlts hltt hnec hnes hnet k) hlv
def NewR (sec : List Int) (k:Nat) (w:World) (v:Value) (W:World):Prop:=∃ (gc gl cap:Nat) (lp:Array Value) (ns:List (Nat×Nat)),v=.pointer (some ⟨gc,0,none⟩)∧w.heap.size≤gc∧ns.length=2^k∧W.heap[gc]? = some (.cells #[.slice (some ⟨gl,0,none⟩) (2^k) cap] 70)∧W.heap[gl]? = some (.cells lp 75)∧(∀ j p,ns[j]? = some p→lp[j]? = some (.pointer (some ⟨p.1,0,none⟩))∧ChSt p.1 p.2 (Qbk sec k j) [] 0 [] W∧w.heap.size≤p.1∧w.heap.size≤p.2)∧(ns.map Prod.fst).Nodup∧(ns.map Prod.snd).Nodup
theorem newR {sec : List Int} {k base gc:Nat} {w W1 W:World} (e:Ext w W1) (hb:base=W1.heap.size) (hl:w.heap.size≤gc) (h:GrR base gc [] sec k W1 W):NewR sec k w (.pointer (some ⟨gc,0,none⟩)) W:=by
  obtain ⟨q,ns,l,⟨v,h1,h2⟩,c,d1,d2⟩:=h
  rw [List.nil_append] at h2
  have hp:0<2^k:=Nat.pow_pos (by decide)
  rcases h2.1.2 with ⟨-,q2⟩ | ⟨gl,cap,cur,rfl,q2,q3,q4,q5,q6,q7⟩
  · rw [List.length_map,l] at q2; omega
  · rw [List.length_map,l] at h1 q7
    refine ⟨gc,gl,cap,cur,ns,rfl,hl,l,h1,q3,fun j p hj=>?_,d1,d2⟩
    obtain ⟨a1,a2,a3⟩:=c j p hj
    have:=e.size
    refine ⟨?_,a1,by omega,by omega⟩
    have hjl:j<ns.length:=(List.getElem?_eq_some_iff.1 hj).1
    rw [Nat.mul_one] at q7
    have e2:(cur.toList.take (2^k))[j]? = (ns.map fun p=>Value.pointer (some ⟨p.1,0,none⟩))[j]?:=by rw [q7]
    rw [List.getElem?_take_of_lt (by omega),List.getElem?_map,hj] at e2
    rw [←Array.getElem?_toList]
    exact e2
theorem QmQ {gc : Nat} {w W1 W:World} (e:Ext w W1) (q:GP W1.heap.size gc W1 W) (hg:w.heap.size≤gc):Ext w W:=⟨q.os.trans e.os,q.tape.trans e.tape,q.output.trans e.output,qT e.size q.size,fun k hk=>(q.block k (qL hk e.size) (by omega) (.inl (qL hk e.size))).trans (e.block k hk)⟩
theorem Qnu (k : Nat) (hk:k≤5) (W:World):Calls Tryd.prog 27 #[.int .i64 ((2^k:Nat):Int)] W (Ret W (.int .i64 (((2^k:Nat):Int)-1))) :=
  (Seat.root ((2^k:Nat):Int) W).mono fun e W' hh=>by
    have hh':e=.returned (.int .i64 (if Seat.isTree ((2^k:Nat):Int)=true then ((2^k:Nat):Int)-1 else -1))∧W=W':=hh
    rw [if_pos ((by decide +kernel:∀ k:Fin 6,Seat.isTree ((2^k.val:Nat):Int)=true) ⟨k,by omega⟩)] at hh'
    exact ⟨hh'.1,hh'.2▸Rely.Ext.refl _⟩
theorem newC (k : Nat) (hk:k≤5) (sec:List Int) (tc tq:TypeId) (w:World) (hc:w.heap[2]? = some (.cells (ints .u64 QaN) tc)) (hq:w.heap[1]? = some (.cells (ints .u64 Qam) tq)) (hT:Seat.TabAt w) (hsl:sec.length=32) (hsb:Qat sec):Calls Tryd.prog 9 #[.agg (ints .u8 sec),.int .i64 ((2^k:Nat):Int)] w (QbN w (NewR sec k w)):=by
  refine enter 18 [(0,.agg (ints .u8 (sec))),(1,.int .i64 ((2^k:Nat):Int))] Tryd.func9 rfl rfl kj rfl ?_
  refine wp_seq_k fun K3 hK3=>?_
  refine Qaf ?_
  refine Qap (ints .u8 (sec)) 23 2 rfl kj kj fun g4 W1 l4 e1 r4_1=>?_
  have x1:Ext w W1:=Ext.tr (Rely.Ext.refl w) e1
  have b4:w.heap.size≤g4:=qT (Rely.Ext.refl w).size l4
  refine Qab (.pointer none) 4 rfl kj kj ?_
  refine Qak ?_
  refine hK3 _ _ ?_
  refine wp_seq_k fun K5 hK5=>?_
  refine Qaf ?_
  refine Qab (.agg (#[.slice none 0 0])) 7 rfl kj kj ?_
  refine Qap (#[.slice none 0 0]) 70 8 rfl kj kj fun g6 W2 l6 e2 r6_2=>?_
  have x2:Ext w W2:=Ext.tr x1 e2
  have b6:w.heap.size≤g6:=qT x1.size l6
  refine Qab (.pointer (some ⟨g6,0,none⟩)) 5 rfl kj kj ?_
  refine Qak ?_
  refine hK5 _ _ ?_
  refine wp_seq_k fun K7 hK7=>?_
  refine wp_seq_k fun K8 hK8=>?_
  refine Qaf ?_
  refine Qab (.int .i64 ((2^k:Nat):Int)) 9 rfl kj kj ?_
  refine Qar (.int .i64 (((2^k:Nat):Int)-1)) 27 #[.int .i64 ((2^k:Nat):Int)] 10 rfl kj kj ((Qnu k hk) _) fun W3 e3=>?_
  have x3:Ext w W3:=Ext.tr x2 e3
  refine Qab (.int .i64 (((2^k:Nat):Int)-1)) 6 rfl kj kj ?_
  refine Qak ?_
  refine hK8 _ _ ?_
  refine wp_seq_k fun K9 hK9=>?_
  refine Qaf ?_
  refine Qab (.int .i64 (((2^k:Nat):Int)-1)) 11 rfl kj kj ?_
  refine Qab (.bool true) 12 rfl kj (Qai (u:=.bool (decide ((((2^k:Nat):Int)-1)≥0))) kj (congrArg Value.bool (decide_eq_true (by have:0<2^k:=Nat.pow_pos (by decide); omega)))) ?_
  refine Qak ?_
  refine hK9 _ _ ?_
  refine cond_true kj ?_
  refine Qaf ?_
  refine Qab (.pointer (some ⟨g6,0,none⟩)) 13 rfl kj kj ?_
  have r4_2:=(Qac r4_1 e2)
  have r4_3:=(Qac r4_2 e3)
  refine Qab (.agg (ints .u8 (sec))) 14 rfl kj (Qaq 23 _ g4 23 _ _ r4_3 rfl kj kj (isz (n:=32) kj ((Qad _ _).trans hsl))) ?_
  refine Qab (.int .i64 (((2^k:Nat):Int)-1)) 15 rfl kj kj ?_
  have r1_1:=(Qac hc e1)
  have r1_2:=(Qac r1_1 e2)
  have r1_3:=(Qac r1_2 e3)
  have r2_1:=(Qac hq e1)
  have r2_2:=(Qac r2_1 e2)
  have r2_3:=(Qac r2_2 e3)
  have r6_3:=(Qac r6_2 e3)
  refine Qa6 (fun v W'=>v=.tuple #[]∧GrR W3.heap.size g6 [] sec k W3 W') 28 #[.pointer (some ⟨g6,0,none⟩),.agg (ints .u8 (sec)),.int .i64 (((2^k:Nat):Int)-1)] 16 rfl kj kj ((QmP W3.heap.size g6 tc tq (Qay r1_3) (Qay r2_3) (hT.ext x3).1 (by have:=Qay hc; have:=b6; omega) (by have:=Qay hq; have:=b6; omega) (by have:=hT.1; have:=b6; omega) k [] sec (((2^k:Nat):Int)-1) W3 r1_3 r2_3 (hT.ext x3) hsl hsb (qR _) (by have:2^k≤2^5:=Nat.pow_le_pow_right (by decide) (by omega); simp only [List.length_nil]; omega) ⟨_,r6_3,⟨⟨rfl,.inl ⟨rfl,rfl⟩⟩,Nat.zero_le _⟩⟩ (QiZ ⟨k,by omega⟩)).mono (by rintro e w' ⟨rfl,h⟩; exact ⟨_,rfl,rfl,h⟩)) fun vv10 W4 hh10=>?_
  obtain ⟨rfl,hgr⟩:=hh10
  have x4:Ext w W4:=QmQ x3 hgr.1 b6
  refine Qak ?_
  refine hK7 _ _ ?_
  refine wp_seq_k fun K11 hK11=>?_
  refine Qaf ?_
  refine Qab (.pointer (some ⟨g6,0,none⟩)) 17 rfl kj kj ?_
  refine Qab (.pointer (some ⟨g6,0,none⟩)) 4 rfl kj kj ?_
  refine Qak ?_
  refine hK11 _ _ ?_
  refine wp_ret ?_
  repeat (first | with_reducible refine goR1 ?_ | with_reducible refine goR2 ?_)
  exact (show bodyPost _ _ _ .ret _ _ from ret1 (.pointer (some ⟨g6,0,none⟩)) rfl (Qa2 kj) ⟨_,rfl,x4,newR x3 rfl b6 hgr⟩)
end Go.Proofs.YtibegnjaphohaaaDoor.Cn
end
section
namespace Go.Proofs.YtibegnjaphohaaaDoor.Cn
open Go Go.RowKit
open Rely Auto Own Sha
open Go.Proofs.YtibegnjaphohaaaDoor
theorem QeM {g mg k:Nat} {s0 ts:List Int} {pl:Nat} {ms:List (Int×List Int)} {W W':World} {c:Array Value} {T:TypeId} (h:ChSt g mg s0 ts pl ms W) (q:Qah [g,mg] W W') (r:W.heap[k]? = some (.cells c T)) (hT:T≠84):W'.heap[k]? = some (.cells c T) :=
  Qah.row q r (fun hm=>by
    rcases List.mem_cons.1 hm with e | hm
    · obtain ⟨B,-,h2⟩:=h.row
      rw [←e] at h2; exact Qdx r h2 hT
    · rw [List.mem_singleton] at hm; exact MpAt.ne h.mp r hm)
theorem ChSt.other {g mg g2 mg2:Nat} {s0 ts s2 ts2:List Int} {pl pl2:Nat} {ms ms2:List (Int×List Int)} {W W':World} (h:ChSt g mg s0 ts pl ms W) (q:Qah [g,mg] W W') (h2:ChSt g2 mg2 s2 ts2 pl2 ms2 W) (n1:g2≠g) (n2:mg2≠mg):ChSt g2 mg2 s2 ts2 pl2 ms2 W':=by
  obtain ⟨B,-,r⟩:=h.row
  obtain ⟨B2,-,r2⟩:=h2.row
  obtain ⟨es,c,hm,-⟩:=id h.mp
  obtain ⟨es2,c2,hm2,-⟩:=id h2.mp
  have a1:g2≠mg:=MpAt.ne h.mp r2
  have a2:mg2≠g:=fun e=>by rw [e,r] at hm2; cases hm2
  exact h2.keep (q.block g2 (Qay r2) (fun hh=>by rcases List.mem_cons.1 hh with e | hh; exact n1 e; exact a1 (List.mem_singleton.1 hh))) (q.block mg2 (Qay hm2) (fun hh=>by rcases List.mem_cons.1 hh with e | hh; exact a2 e; exact n2 (List.mem_singleton.1 hh)))
theorem Qeu {g mg:Nat} {w W W':World} (e:Ext w W) (q:Qah [g,mg] W W') (h1:w.heap.size≤g) (h2:w.heap.size≤mg):Ext w W':=Qah.ext q e (fun c hc=>by
  rcases List.mem_cons.1 hc with rfl | hc
  · exact h1
  · rw [List.mem_singleton] at hc; rw [hc]; exact h2)
theorem NumZ (w : World):Calls Tryd.prog 22 #[.nilIface] w (Ret w (.int .i64 0)):=by
  refine enter 19 [(0,.nilIface)] Tryd.func22 rfl rfl kj rfl ?_
  refine wp_seq_k fun K1 hK1=>?_
  refine Qaf ?_
  refine Qab (.int .i64 0) 2 rfl kj kj ?_
  refine Qak ?_
  refine hK1 _ _ ?_
  refine wp_seq_k fun K2 hK2=>?_
  refine wp_seq_k fun K3 hK3=>?_
  refine Qaf ?_
  refine Qab (.nilIface) 5 rfl kj kj ?_
  refine Qab (.bool true) 6 rfl kj kj ?_
  refine Qak ?_
  refine hK3 _ _ ?_
  refine cond_true kj ?_
  refine wp_seq_k fun K4 hK4=>?_
  refine Qaf ?_
  refine Qab (.int .i64 0) 2 rfl kj kj ?_
  refine Qak ?_
  refine hK4 _ _ ?_
  refine wp_ret ?_
  repeat (first | with_reducible refine goR1 ?_ | with_reducible refine goR2 ?_)
  exact (show bodyPost _ _ _ .ret _ _ from ret1 (.int .i64 0) rfl (Qa2 kj) ⟨rfl,(Rely.Ext.refl w)⟩)
theorem NumE (e : Int) (h0:e≠0) (w:World):Calls Tryd.prog 22 #[.iface 47 (.int .i64 e)] w (Ret w (.int .i64 e)):=by
  refine enter 19 [(0,.iface 47 (.int .i64 e))] Tryd.func22 rfl rfl kj rfl ?_
  refine wp_seq_k fun K1 hK1=>?_
  refine Qaf ?_
  refine Qab (.int .i64 0) 2 rfl kj kj ?_
  refine Qak ?_
  refine hK1 _ _ ?_
  refine wp_seq_k fun K2 hK2=>?_
  refine wp_seq_k fun K3 hK3=>?_
  refine Qaf ?_
  refine Qab (.iface 47 (.int .i64 e)) 5 rfl kj kj ?_
  refine Qab (.bool false) 6 rfl kj kj ?_
  refine Qak ?_
  refine hK3 _ _ ?_
  refine cond_false kj ?_
  refine wp_skip ?_
  refine hK2 _ _ ?_
  refine wp_seq_k fun K4 hK4=>?_
  refine Qaf ?_
  refine Qab (.iface 47 (.int .i64 e)) 8 rfl kj kj ?_
  refine Qab (.tuple #[.int .i64 e,.bool true]) 9 rfl kj kj ?_
  refine Qab (.tuple #[.int .i64 e,.bool true]) 7 rfl kj kj ?_
  refine Qab (.int .i64 e) 10 rfl kj kj ?_
  refine Qab (.bool true) 11 rfl kj kj ?_
  refine Qab (.int .i64 e) 3 rfl kj kj ?_
  refine Qab (.bool true) 4 rfl kj kj ?_
  refine Qak ?_
  refine hK4 _ _ ?_
  refine wp_seq_k fun K5 hK5=>?_
  refine wp_seq_k fun K6 hK6=>?_
  refine Qaf ?_
  refine Qab (.bool true) 12 rfl kj kj ?_
  refine Qab (.bool false) 13 rfl kj kj ?_
  refine Qab (.bool false) 14 rfl kj kj ?_
  refine Qab (.int .i64 e) 15 rfl kj kj ?_
  refine Qab (.bool false) 16 rfl kj (Qai (u:=.bool ((e==0))) kj (congrArg Value.bool (by simpa using h0))) ?_
  refine Qab (.bool false) 17 rfl kj kj ?_
  refine Qak ?_
  refine hK6 _ _ ?_
  refine cond_false kj ?_
  refine wp_skip ?_
  refine hK5 _ _ ?_
  refine wp_seq_k fun K7 hK7=>?_
  refine Qaf ?_
  refine Qab (.int .i64 e) 18 rfl kj kj ?_
  refine Qab (.int .i64 e) 2 rfl kj kj ?_
  refine Qak ?_
  refine hK7 _ _ ?_
  refine wp_ret ?_
  repeat (first | with_reducible refine goR1 ?_ | with_reducible refine goR2 ?_)
  exact (show bodyPost _ _ _ .ret _ _ from ret1 (.int .i64 e) rfl (Qa2 kj) ⟨rfl,(Rely.Ext.refl w)⟩)
theorem NumV (e : Int) (w:World):Calls Tryd.prog 22 #[errV e] w (Ret w (.int .i64 e)):=by
  by_cases h:e=0
  · rw [Qb9 h,h]; exact NumZ w
  · rw [Qcj h]; exact NumE e h w
theorem IsV (e k:Int) (w:World):Calls Tryd.prog 15 #[errV e,.int .i64 k] w (Ret w (.bool (e==k))):=by
  refine enter 9 [(0,errV e),(1,.int .i64 k)] Tryd.func15 rfl rfl kj rfl ?_
  refine wp_seq_k fun K1 hK1=>?_
  refine Qaf ?_
  refine Qab (.bool false) 4 rfl kj kj ?_
  refine Qak ?_
  refine hK1 _ _ ?_
  refine wp_seq_k fun K2 hK2=>?_
  refine Qaf ?_
  refine Qab (errV e) 5 rfl kj kj ?_
  refine Qar (.int .i64 e) 22 #[errV e] 6 rfl kj kj ((NumV e) _) fun W1 e1=>?_
  have x1:Ext w W1:=Ext.tr (Rely.Ext.refl w) e1
  refine Qab (.int .i64 k) 7 rfl kj kj ?_
  refine Qab (.bool (e==k)) 8 rfl kj (Qai (u:=.bool ((e==k))) kj (congrArg Value.bool rfl)) ?_
  refine Qab (.bool (e==k)) 4 rfl kj kj ?_
  refine Qak ?_
  refine hK2 _ _ ?_
  refine wp_ret ?_
  repeat (first | with_reducible refine goR1 ?_ | with_reducible refine goR2 ?_)
  exact (show bodyPost _ _ _ .ret _ _ from ret1 (.bool (e==k)) rfl (Qa2 kj) ⟨rfl,x1⟩)
theorem IsT (e : Int) (v:Value) (hv:errV e=v) (w:World):Calls Tryd.prog 15 #[v,.int .i64 e] w (Ret w (.bool true)):=by
  have h:=IsV e e w
  rw [hv,beq_self_eq_true] at h
  exact h
theorem Qmg (tc tq:TypeId) (w:World) (hc:w.heap[2]? = some (.cells (ints .u64 QaN) tc)) (hq:w.heap[1]? = some (.cells (ints .u64 Qam) tq)) (hT:Seat.TabAt w):Calls Tryd.prog 8 #[] w (Ret w (.bool true)):=by
  refine enter 39 [] Tryd.func8 rfl rfl kj rfl ?_
  refine wp_seq_k fun K3 hK3=>?_
  refine Qaf ?_
  refine Qab (.bool false) 0 rfl kj kj ?_
  refine Qak ?_
  refine hK3 _ _ ?_
  refine wp_seq_k fun K4 hK4=>?_
  refine Qaf ?_
  refine Qab (.agg (ints .u8 ((1::List.replicate 31 0)))) 4 rfl kj kj ?_
  refine Qa6 (fun v W'=>(NewR ((1::List.replicate 31 0)) 1 w) v W'∧Ext w W') 9 #[.agg (ints .u8 ((1::List.replicate 31 0))),.int .i64 2] 5 rfl kj kj ((newC 1 (by decide) ((1::List.replicate 31 0)) tc tq _ hc hq (hT.ext (Rely.Ext.refl w)) (by decide) (fun x hx=>by rcases List.mem_cons.1 hx with rfl | hx; decide; rw [(List.mem_replicate.1 hx).2]; decide)).mono (by rintro e w' ⟨v,rfl,e1,hv⟩; exact ⟨v,rfl,hv,e1⟩)) fun vv5 W1 hh5=>?_
  obtain ⟨hv5,e1⟩:=hh5
  have x1:Ext w W1:=Ext.tr (Rely.Ext.refl w) e1
  obtain ⟨gc,gl,cap,lp,ns,rfl,lgc,hns,hgc,hgl,hea,dn1,dn2⟩:=hv5
  obtain ⟨pa,hpa⟩:∃ p,ns[0]? = some p:=⟨_,List.getElem?_eq_getElem (show 0<ns.length by rw [hns]; decide)⟩
  obtain ⟨hla,hsa,loa,lma⟩:=hea _ _ hpa
  obtain ⟨ga,ma⟩:=pa
  replace hsa:ChSt ga ma (Qbk (1::List.replicate 31 0) 1 0) [] 0 [] W1:=hsa
  have lo0a:w.heap.size≤ga:=qT (Rely.Ext.refl w).size loa
  have lm0a:w.heap.size≤ma:=qT (Rely.Ext.refl w).size lma
  refine Qab (.pointer (some ⟨gc,0,none⟩)) 1 rfl kj kj ?_
  refine Qak ?_
  refine hK4 _ _ ?_
  refine wp_seq_k fun K8 hK8=>?_
  refine Qaf ?_
  refine Qab (.pointer (some ⟨gc,0,none⟩)) 7 rfl kj kj ?_
  have r1_1:=(Qac hc e1)
  have r2_1:=(Qac hq e1)
  refine Qa6 (fun v W'=>∃ u,v=.tuple #[u,.nilIface]∧Qah [ga,ma] W1 W'∧ChSt ga ma (Qbk (1::List.replicate 31 0) 1 0) [2] 3 (Qhy [] (Qbk (1::List.replicate 31 0) 1 0) 0 2) W'∧Qcs W1.heap.size 2 (keyV (itV (Qbk (1::List.replicate 31 0) 1 0) 2)) u W') 13 #[.pointer (some ⟨gc,0,none⟩),.int .i64 0,.int .i64 2] 8 rfl kj kj ((Qmt gc gl (2^1) cap lp _ hgc hgl ga 0 (by decide) hla tc tq r1_1 r2_1 hsa 2 (by decide) (Nat.ne_of_lt (qL (Qay hc) lo0a)) (Nat.ne_of_lt (qL (Qay hq) lo0a))).mono (by rintro e w' ⟨v,rfl,q1,q2,q3⟩; exact ⟨_,rfl,_,rfl,q1,q2,q3⟩)) fun vv9 W2 hh9=>?_
  obtain ⟨uu9,rfl,q2,hb_a2,u9,rfl,hu9⟩:=hh9
  obtain ⟨a9_,c9_,rfl,-⟩:=id (OwnN.rd hu9)
  have x2:Ext w W2:=Qeu x1 q2 lo0a lm0a
  have hn12:((keyV (itV (Qbk (1::List.replicate 31 0) 1 0) 2)).drop 32).length=12:=by rw [List.length_drop,QaB]
  refine Qab (.tuple #[.agg (cat [#[.int .i64 2],ints .u8 ((keyV (itV (Qbk (1::List.replicate 31 0) 1 0) 2)).take 32),#[.slice a9_ ((keyV (itV (Qbk (1::List.replicate 31 0) 1 0) 2)).drop 32).length c9_]]),.nilIface]) 6 rfl kj kj ?_
  refine Qab (.agg (cat [#[.int .i64 2],ints .u8 ((keyV (itV (Qbk (1::List.replicate 31 0) 1 0) 2)).take 32),#[.slice a9_ ((keyV (itV (Qbk (1::List.replicate 31 0) 1 0) 2)).drop 32).length c9_]])) 9 rfl kj kj ?_
  refine Qab (.nilIface) 10 rfl kj kj ?_
  refine Qap (cat [#[.int .i64 0],ints .u8 (List.replicate 32 0),#[.slice none 0 0]]) 40 2 rfl kj kj fun g10 W3 l10 e3 r10_3=>?_
  have x3:Ext w W3:=Ext.tr x2 e3
  have b10:w.heap.size≤g10:=qT x2.size l10
  refine Qaj g10 _ (cat [#[.int .i64 2],ints .u8 ((keyV (itV (Qbk (1::List.replicate 31 0) 1 0) 2)).take 32),#[.slice a9_ ((keyV (itV (Qbk (1::List.replicate 31 0) 1 0) 2)).drop 32).length c9_]]) 40 r10_3 rfl kj (Qal 40 _ _ g10 40 _ _ r10_3 rfl kj kj (isz (n:=34) kj (by rw [Qaa,Qaa,Qaa]; simp only [qS,cat,((Qad _ _).trans (QaP (QaB _)))]; rfl)) (eqsz (n:=34) (by rw [Qaa,Qaa,Qaa]; simp only [qS,cat,((Qad _ _).trans (List.length_replicate (n:=32)))]; rfl) (by rw [Qaa,Qaa,Qaa]; simp only [qS,cat,((Qad _ _).trans (QaP (QaB _)))]; rfl)) (QaD _ (by intro a ha; simp only [List.mem_cons,List.not_mem_nil,or_false] at ha; rcases ha with rfl | rfl | rfl; exact (Qan _ rfl); exact (Qau _ _); exact (Qan _ rfl)))) fun W4 p4 r10_4=>?_
  have x4:Ext w W4:=Puts.ext p4 x3 b10
  refine Qab (.nilIface) 3 rfl kj kj ?_
  refine Qak ?_
  refine hK8 _ _ ?_
  refine wp_seq_k fun K11 hK11=>?_
  refine Qaf ?_
  refine Qab (.nilIface) 11 rfl kj kj ?_
  refine Qab (.bool true) 12 rfl kj kj ?_
  refine Qab (.bool true) 13 rfl kj kj ?_
  refine Qab (.pointer (some ⟨g10,0,none⟩)) 14 rfl kj kj ?_
  refine Qab (.int .i64 2) 15 rfl kj (Qag 3 _ g10 0 40 _ (.int .i64 2) _ r10_4 rfl kj (Qaw [] [#[.int .i64 2]] [ints .u8 ((keyV (itV (Qbk (1::List.replicate 31 0) 1 0) 2)).take 32),#[.slice a9_ ((keyV (itV (Qbk (1::List.replicate 31 0) 1 0) 2)).drop 32).length c9_]] 0 kj 0 _ rfl) kj) ?_
  refine Qab (.bool true) 16 rfl kj kj ?_
  refine Qab (.bool true) 17 rfl kj kj ?_
  refine Qab (.bool true) 18 rfl kj kj ?_
  refine Qab (.pointer (some ⟨g10,33,none⟩)) 19 rfl kj kj ?_
  refine Qab (.slice a9_ ((keyV (itV (Qbk (1::List.replicate 31 0) 1 0) 2)).drop 32).length c9_) 20 rfl kj (Qag 38 _ g10 33 40 _ (.slice a9_ ((keyV (itV (Qbk (1::List.replicate 31 0) 1 0) 2)).drop 32).length c9_) _ r10_4 rfl kj (Qaw [#[.int .i64 2],ints .u8 ((keyV (itV (Qbk (1::List.replicate 31 0) 1 0) 2)).take 32)] [#[.slice a9_ ((keyV (itV (Qbk (1::List.replicate 31 0) 1 0) 2)).drop 32).length c9_]] [] 33 (by rw [Qaa,Qaa]; simp only [qS,cat,((Qad _ _).trans (QaP (QaB _)))]; rfl) 0 _ rfl) kj) ?_
  refine Qab (.int .i64 ((((keyV (itV (Qbk (1::List.replicate 31 0) 1 0) 2)).drop 32).length:Nat):Int)) 21 rfl kj kj ?_
  refine Qab (.bool true) 22 rfl kj (Qai (u:=.bool ((((((keyV (itV (Qbk (1::List.replicate 31 0) 1 0) 2)).drop 32).length:Nat):Int)==12))) kj (congrArg Value.bool (by rw [hn12]; rfl))) ?_
  refine Qab (.bool true) 23 rfl kj kj ?_
  refine Qab (.bool true) 24 rfl kj kj ?_
  refine Qab (.pointer (some ⟨gc,0,none⟩)) 25 rfl kj kj ?_
  have r6_2:=(QeM hsa q2 hgc (by decide))
  have r6_3:=(Qac r6_2 e3)
  have r6_4:=(Puts.row p4 r6_3 (Qae r6_2 l10))
  have r7_2:=(QeM hsa q2 hgl (by decide))
  have r7_3:=(Qac r7_2 e3)
  have r7_4:=(Puts.row p4 r7_3 (Qae r7_2 l10))
  have ha_3:=(ChSt.ext hb_a2 e3)
  have ha_4:=(ChSt.keep ha_3 (p4.2.2.2.2 _ (Nat.ne_of_lt (qL (qL hb_a2.glt (qR _)) l10))) (p4.2.2.2.2 _ (Nat.ne_of_lt (qL (qL hb_a2.mp.lt (qR _)) l10))))
  refine Qar (.int .i64 2) 17 #[.pointer (some ⟨gc,0,none⟩),.int .i64 0] 26 rfl kj kj (QmM gc gl (2^1) cap lp _ r6_4 r7_4 ga 0 (by decide) hla ha_4) fun W5 e5=>?_
  have x5:Ext w W5:=Ext.tr x4 e5
  refine Qab (.bool true) 27 rfl kj kj ?_
  refine Qab (.bool true) 28 rfl kj kj ?_
  refine Qab (.bool true) 29 rfl kj kj ?_
  refine Qab (.pointer (some ⟨gc,0,none⟩)) 30 rfl kj kj ?_
  have r6_5:=(Qac r6_4 e5)
  have r7_5:=(Qac r7_4 e5)
  have ha_5:=(ChSt.ext ha_4 e5)
  refine Qar (.int .i64 3) 16 #[.pointer (some ⟨gc,0,none⟩),.int .i64 0] 31 rfl kj kj (Qll gc gl (2^1) cap lp _ r6_5 r7_5 ga 0 (by decide) hla ha_5) fun W6 e6=>?_
  have x6:Ext w W6:=Ext.tr x5 e6
  refine Qab (.bool true) 32 rfl kj kj ?_
  refine Qab (.bool true) 33 rfl kj kj ?_
  refine Qab (.bool true) 34 rfl kj kj ?_
  refine Qab (.pointer (some ⟨gc,0,none⟩)) 35 rfl kj kj ?_
  have r6_6:=(Qac r6_5 e6)
  have r7_6:=(Qac r7_5 e6)
  refine Qar (.int .i64 (-1)) 16 #[.pointer (some ⟨gc,0,none⟩),.int .i64 2] 36 rfl kj kj (Qlj gc gl (2^1) cap lp _ r6_6 r7_6 2 (.inr (by decide))) fun W7 e7=>?_
  have x7:Ext w W7:=Ext.tr x6 e7
  refine Qab (.bool true) 37 rfl kj kj ?_
  refine Qab (.bool true) 38 rfl kj kj ?_
  refine Qab (.bool true) 0 rfl kj kj ?_
  refine Qak ?_
  refine hK11 _ _ ?_
  refine wp_ret ?_
  repeat (first | with_reducible refine goR1 ?_ | with_reducible refine goR2 ?_)
  exact (show bodyPost _ _ _ .ret _ _ from ret1 (.bool true) rfl (Qa2 kj) ⟨rfl,x7⟩)
end Go.Proofs.YtibegnjaphohaaaDoor.Cn
end
section
namespace Go.Proofs.YtibegnjaphohaaaDoor.Cn
open Go Go.RowKit
open Rely Auto Own Sha
open Go.Proofs.YtibegnjaphohaaaDoor
theorem rdK_open {k : IntKind} {B:Nat} {ys:List Int} {a:Option Addr} {n c:Nat} {W:World} (h:RdK k B ys (.slice a n c) W) (h0:0<ys.length):∃ g o,a=some ⟨g,o,none⟩∧g<B∧∀ i,i<ys.length→W.cell? ⟨g,o+i,none⟩=some (.int k (nth ys i)):=by
  obtain ⟨a',cap',e,h2,h3,h4,h5⟩:=h
  simp only [Value.slice.injEq] at e
  obtain ⟨rfl,-,-⟩:=e
  rcases h5 with h5 | ⟨g,o,q1,q2,q3,q4⟩
  · rw [h5] at h0; simp at h0
  · exact ⟨g,o,q1,q2,q4⟩
section
variable {P : Program} {ρ : Operand → Value} {o : Oper} {w : World}
theorem run_indexA (t : TypeId) (x y:Operand) (k:IntKind) (n g off len cap:Nat) (e:TypeId) (a:Option Addr) (z:Int) (ha:a=some ⟨g,off,none⟩) (hz:z=(n:Int)) (ho:o.op=.indexAddr t x y) (hx:ρ x=.slice a len cap) (hy:ρ y=.int k z)
    (hu:P.underlying t=some (.slice e)) (hs:(P.info? e).map (·.size)=some 1) (hn:n<len):(execOp ρ o).run P w=.ok (.value (.pointer (some ⟨g,off+n,none⟩))) w:=by
  subst ha; subst hz
  exact Qdq t x y k n g off len cap e ho hx hy hu hs hn
end
theorem Qcc {k : IntKind} {T:TypeId} {base:Nat} {xs:List Int} {v:Value} {W:World} (h:OwnN k T base xs v W) {g:Nat} (hg:v.ownBlock=some g):∃ cur,W.heap[g]? = some (.cells cur T):=by
  rcases h.1.2 with ⟨rfl,_⟩ | ⟨g',c,cur,rfl,q2,q3,_⟩
  · cases hg
  · obtain rfl:g'=g:=Option.some.inj hg
    exact ⟨cur,q3⟩
theorem QjC {P : Program} {ρ:Operand→Value} {o:Oper} {w:World} (ts:Array TypeId) (x y:Operand) (k:IntKind) (a b c:Int) (ho:o.op=.call { callee:=.builtin .max,args:=#[x,y],argTypes:=ts }) (hx:ρ x=.int k a) (hy:ρ y=.int k b) (h:(if a<b then b else a)=c):(execOp ρ o).run P w=.ok (.value (.int k c)) w:=by
  subst h
  unfold execOp
  simp only [ho,resolve,invoke,builtin,Sem.run_bind,Sem.run_pure,Result.andThen_ok,List.map_toArray,List.map_cons,List.map_nil,hx,hy,run_max_int2]
def onV (s0 : List Int) (k:Nat) (u:Value):Value:=.agg (cat [#[.int .i64 ((k:Nat):Int)],ints .u8 ((keyV (itV s0 k)).take 32),#[u]])
def BySt (mB : Nat) (s0:List Int) (i:Nat) (W:World):Prop:=∃ es:List (Int×Value),MpAt mB es W∧(∀ p∈es,∃ (k:Nat) (u:Value),k<i∧p=(((k:Nat):Int),onV s0 k u)∧OwnN .u8 5 0 ((keyV (itV s0 k)).drop 32) u W)∧∀ k,k<i→∃ v,(((k:Nat):Int),v)∈es
theorem BySt.keepG {mB : Nat} {s0:List Int} {i:Nat} {W W':World} (h:BySt mB s0 i W) (hm:W'.heap[mB]? = W.heap[mB]?) (ho:∀ xs u,OwnN .u8 5 0 xs u W→OwnN .u8 5 0 xs u W'):BySt mB s0 i W':=by
  obtain ⟨es,h1,h2,h3⟩:=h
  exact ⟨es,h1.keep hm,fun p hp=>by obtain ⟨k,u,q1,q2,q3⟩:=h2 p hp; exact ⟨k,u,q1,q2,ho _ _ q3⟩,h3⟩
theorem BySt.lt {mB : Nat} {s0:List Int} {i:Nat} {W:World} (h:BySt mB s0 i W):mB<W.heap.size:=by obtain ⟨es,h1,-⟩:=h; exact h1.lt
theorem BySt.ext {mB : Nat} {s0:List Int} {i:Nat} {W W':World} (h:BySt mB s0 i W) (e:Ext W W'):BySt mB s0 i W':=h.keepG (e.block mB h.lt) fun _ _ k=>k.ext e
theorem BySt.get {mB : Nat} {s0:List Int} {i k:Nat} {W:World} (h:BySt mB s0 i W) (hk:k<i) (z:Value):∃ es a c,MpAt mB es W∧mget es ((k:Nat):Int) z=onV s0 k (.slice a ((keyV (itV s0 k)).drop 32).length c)∧OwnN .u8 5 0 ((keyV (itV s0 k)).drop 32) (.slice a ((keyV (itV s0 k)).drop 32).length c) W:=by
  obtain ⟨es,h1,h2,h3⟩:=h
  obtain ⟨v,hv⟩:=h3 k hk
  cases hf:es.find? (fun p=>p.1==((k:Nat):Int)) with
  | none =>
    rw [List.find?_eq_none] at hf
    exact absurd (by simp) (hf _ hv)
  | some p =>
    obtain ⟨j,u,q1,q2,q3⟩:=h2 p (List.mem_of_find?_eq_some hf)
    have hp:=List.find?_some hf
    rw [q2] at hp
    have hjk:((j:Nat):Int)=((k:Nat):Int):=by simpa using hp
    have hjk2:j=k:=by omega
    subst hjk2
    obtain ⟨a,c,rfl,-⟩:=id (OwnN.rd q3)
    refine ⟨es,a,c,h1,?_,q3⟩
    unfold mget
    rw [hf,q2]; rfl
section
variable {ds : List Deferred} {P : Program} {ops : Array Oper} {Q : Exit → Act → World → Prop} {rest : List Oper} {o : Oper} {N : Nat} {L : Env} {w : World}
end
namespace Wmn
open Wm
end Wmn
theorem Qnr (x y:Value) (xs ys:List Int) (w:World) (hx:Qc2 w x xs) (hy:Qc2 w y ys):Calls Tryd.prog 24 #[x,y] w (Ret w (.bool (decide (xs=ys)))):=by
  have hse:((QdD xs).toList==(QdD ys).toList)=decide (xs=ys):=by
    obtain ⟨_,_,_,_,bx,_⟩:=hx
    obtain ⟨_,_,_,_,by',_⟩:=hy
    exact Qi1 bx by'
  refine enter 10 [(0,x),(1,y)] Tryd.func24 rfl rfl kj rfl ?_
  refine wp_seq_k fun K1 hK1=>?_
  refine Qaf ?_
  refine Qab (.bool false) 4 rfl kj kj ?_
  refine Qak ?_
  refine hK1 _ _ ?_
  refine wp_seq_k fun K2 hK2=>?_
  refine Qaf ?_
  refine Qab (x) 5 rfl kj kj ?_
  refine Qab (.string (QdD xs)) 6 rfl kj (Qgi _ x rfl kj xs hx) ?_
  refine Qab (y) 7 rfl kj kj ?_
  refine Qab (.string (QdD ys)) 8 rfl kj (Qgi _ y rfl kj ys hy) ?_
  refine Qab (.bool (decide (xs=ys))) 9 rfl kj (Qai (u:=.bool ((QdD xs).toList==(QdD ys).toList)) kj (congrArg Value.bool hse)) ?_
  refine Qab (.bool (decide (xs=ys))) 4 rfl kj kj ?_
  refine Qak ?_
  refine hK2 _ _ ?_
  refine wp_ret ?_
  repeat (first | with_reducible refine goR1 ?_ | with_reducible refine goR2 ?_)
  exact (show bodyPost _ _ _ .ret _ _ from ret1 (.bool (decide (xs=ys))) rfl (Qa2 kj) ⟨rfl,(Rely.Ext.refl w)⟩)
theorem Qnp (x y:Value) (xs:List Int) (w:World) (hx:Qc2 w x xs) (hy:Qc2 w y xs):Calls Tryd.prog 24 #[x,y] w (Ret w (.bool true)):=by
  have h:=Qnr x y xs xs w hx hy
  rwa [decide_eq_true rfl] at h
end Go.Proofs.YtibegnjaphohaaaDoor.Cn
end
section
namespace Go.Proofs.YtibegnjaphohaaaDoor.Sha
open Go Go.RowKit
open Rely Auto Own
theorem QmA (w : World):Calls Tryd.prog 68 #[] w (QbN w (fun v W=>∃ g,v=.slice (some ⟨g,0,none⟩) 80 80∧w.heap.size≤g∧W.heap[g]? = some (.cells (ints .u64 QaN) 77))):=by
  refine enter 2 [] Tryd.func68 rfl rfl kj rfl <| sgB kj <| sgC fun K2 hK2=>QaL (ints .u64 QaN) 77 80 1 rfl kj kj fun g3 W1 l3 e1 r3_1=>sg 1 kj <| sgN hK2 <| wp_ret ?_
  repeat (first | with_reducible refine goR1 ?_ | with_reducible refine goR2 ?_)
  exact (show bodyPost _ _ _ .ret _ _ from ret1 (.slice (some ⟨g3,0,none⟩) 80 80) rfl (Qa2 kj) ⟨_,rfl,(Ext.tr (Rely.Ext.refl w) e1),_,rfl,(qT (Rely.Ext.refl w).size l3),r3_1⟩)
theorem QmX (w : World):Calls Tryd.prog 62 #[] w (QbN w (fun v W=>∃ g,v=.slice (some ⟨g,0,none⟩) 8 8∧w.heap.size≤g∧W.heap[g]? = some (.cells (ints .u64 Qam) 77))):=by
  refine enter 2 [] Tryd.func62 rfl rfl kj rfl <| sgB kj <| sgC fun K2 hK2=>QaL (ints .u64 Qam) 77 8 1 rfl kj kj fun g3 W1 l3 e1 r3_1=>sg 1 kj <| sgN hK2 <| wp_ret ?_
  repeat (first | with_reducible refine goR1 ?_ | with_reducible refine goR2 ?_)
  exact (show bodyPost _ _ _ .ret _ _ from ret1 (.slice (some ⟨g3,0,none⟩) 8 8) rfl (Qa2 kj) ⟨_,rfl,(Ext.tr (Rely.Ext.refl w) e1),_,rfl,(qT (Rely.Ext.refl w).size l3),r3_1⟩)
theorem QmU (i : Nat) (h:i<64):IntKind.u64.wrap (Int.tdiv (nth QaN i) 4294967296)=nth QaN i/4294967296:=by
  have:∀ i:Fin 64,IntKind.u64.wrap (Int.tdiv (nth QaN i.1) 4294967296)=nth QaN i.1/4294967296:=by decide +kernel
  exact this ⟨i,h⟩
theorem QkY {i : Nat} (h:i<64):(KK.take (i+1)).map wv=(KK.take i).map wv++[wv (wget KK i)]:=by
  have:∀ i:Fin 64,(KK.take (i.1+1)).map wv=(KK.take i.1).map wv++[wv (wget KK i.1)]:=by decide +kernel
  exact this ⟨i,h⟩
theorem Qld (w : World):Calls Tryd.prog 63 #[] w (QbN w (OwnN .u32 113 w.heap.size (KK.map wv))):=by
 refine enter 19 [] Tryd.func63 rfl rfl kj rfl <| sgB kj <| sgB kj <| sgC fun K3 hK3=>Qa6 (fun v W'=>(fun v W=>∃ g,v=.slice (some ⟨g,0,none⟩) 80 80∧w.heap.size≤g∧W.heap[g]? = some (.cells (ints .u64 QaN) 77)) v W'∧Ext w W') 68 #[] 4 rfl kj kj ((QmA _).mono (by rintro e w' ⟨v,rfl,e1,hv⟩; exact ⟨v,rfl,hv,e1⟩)) fun vv4 W1 hh4=>?_
 obtain ⟨hv4,e1⟩:=hh4
 have x1:=Ext.tr (Rely.Ext.refl w) e1
 obtain ⟨gd5,rfl,ld5,rd5_1⟩:=hv4
 have b5:=qT (Rely.Ext.refl w).size ld5
 refine sg 1 kj <| sgN hK3 <| wp_seq_k fun K6 hK6=>sgB kj <| wp_block <| QaC (fun (s1:Nat×Value)=>[(1,s1.2),(2,.slice (some ⟨gd5,0,none⟩) 80 80),(3,.int .i64 ((s1.1:Nat):Int))]) (fun (s1:Nat×Value) W=>(s1.1≤64)∧(OwnN .u32 113 W1.heap.size ((KK.take s1.1).map wv) s1.2 W)∧(Ext W1 W)∧(Ext w W)) (fun (s1:Nat×Value)=>64-s1.1) (0,(.slice none 0 0)) ⟨kj,kj,kj,trivial⟩ ⟨(Nat.zero_le _),(Qb7 _ _ _ _),(Rely.Ext.refl W1),x1⟩ fun s1 X1 V1 hI1=>?_
 obtain ⟨i,u⟩:=s1
 obtain ⟨hi,hu,kk1,xx1⟩:=hI1
 replace hi:i≤64:=hi
 replace hu:OwnN .u32 113 W1.heap.size ((KK.take i).map wv) u V1:=hu
 replace kk1:Ext W1 V1:=kk1
 replace xx1:Ext w V1:=xx1
 have e2:=kk1
 refine wp_seq_k fun K8 hK8=>sgB kj <| Qa3 (t:=decide (((i:Nat):Int)<64)) kj (fun c10=>?_) (fun c10=>?_)
 ·skip
  have hlt6:i<64:=by have:=of_decide_eq_true c10; omega
  refine wp_skip <| hK8 _ _ <| wp_seq_k fun K11 hK11=>wp_block <| Qaf <| sg 3 kj <| Qab (.pointer (some ⟨gd5,i,none⟩)) 12 rfl kj (Qbb 111 _ _ .i64 (i) gd5 80 80 77 rfl kj kj kj kj (by omega)) <| Qab (.int .u64 (nth (QaN) i)) 13 rfl kj (Qag 77 _ gd5 i 77 _ (.int .u64 (nth (QaN) i)) _ (Qac rd5_1 e2) rfl kj (Qbg _ _ _ (Nat.lt_of_lt_of_eq (by omega) (show QaN.length=80 from rfl).symm)) kj) <| Qab (.int .u64 (nth QaN i/4294967296)) 14 rfl kj (Qai (u:=.int .u64 (IntKind.u64.wrap (Int.tdiv ((nth (QaN) i)) (4294967296)))) kj (congrArg (Value.int .u64) (QmU i hlt6))) <| Qab (.int .u32 (wv (wget KK i))) 15 rfl kj (Qai (u:=.int .u32 (IntKind.u32.wrap (nth QaN i/4294967296))) kj (congrArg (Value.int .u32) (QkR i hlt6))) ?_
  refine QaL (ints .u32 ([(wv (wget KK i))])) 113 1 16 rfl kj kj fun g12 W3 l12 e3 r12_3=>?_
  have b12:=qT xx1.size l12
  refine QaM (k:=.u32) (T:=113) (xs:=(KK.take i).map wv) (ys:=[wv (wget KK i)]) (V:=W1) 4 (.tmp 9) (.tmp 16) 115 rfl kj kj (by decide) 17 rfl kj kj kj (hu.ext e3) (QaU (xs:=[(wv (wget KK i))]) (n:=1) rfl r12_3 (Qay r12_3) (show 1≤maxLen from by decide)) (by rw [List.length_map,List.length_take]; show _+1≤_; omega) (Rely.Ext.trans e2 e3) fun u2 W4 f14 y4 l4=>?_
  refine sg 1 kj <| Qak <| hK11 _ _ <| Qaf <| sg 1 kj <| Qab (.int .i64 ((i+1:Nat):Int)) 8 rfl kj (Qai (u:=.int .i64 (IntKind.i64.wrap (((i:Nat):Int)+1))) kj (congrArg (Value.int .i64) (i64n _ _ (by omega) (by omega)))) <| sg 1 kj <| Qak ?_
  repeat (first | with_reducible refine goX1 ?_ | with_reducible refine goX2 ?_ | with_reducible refine goX3 ?_)
  exact Qa4 ((i+1),u2) ⟨kj,kj,kj,trivial⟩ ⟨(by omega),(by rw [QkY hlt6]; exact f14),y4,(Ext.low (Ext.tr xx1 e3) l4 x1.size)⟩ (by show 64-(i+1)<64-i; omega)
 ·skip
  have heq6:i=64:=by have:=of_decide_eq_false c10; omega
  refine wp_exit <| hK6 _ _ <| sgB kj <| wp_ret ?_
  repeat (first | with_reducible refine goR1 ?_ | with_reducible refine goR2 ?_)
  exact (show bodyPost _ _ _ .ret _ _ from ret1 (u) rfl (Qa2 kj) ⟨u,rfl,xx1,OwnN.base x1.size (by rw [show KK.map wv=(KK.take i).map wv by rw [heq6,List.take_of_length_le (show KK.length≤64 by decide)]]; exact hu)⟩)
end Go.Proofs.YtibegnjaphohaaaDoor.Sha
end
section
namespace Go.Proofs.YtibegnjaphohaaaDoor.Sha
open Go Go.RowKit
open Rely Auto Own
theorem rdK_open {k : IntKind} {B:Nat} {ys:List Int} {a:Option Addr} {n c:Nat} {W:World} (h:RdK k B ys (.slice a n c) W) (h0:0<ys.length):∃ g o,a=some ⟨g,o,none⟩∧g<B∧∀ i,i<ys.length→W.cell? ⟨g,o+i,none⟩=some (.int k (nth ys i)):=by
  obtain ⟨a',cap',e,h2,h3,h4,h5⟩:=h
  simp only [Value.slice.injEq] at e
  obtain ⟨rfl,-,-⟩:=e
  rcases h5 with h5 | ⟨g,o,q1,q2,q3,q4⟩
  · rw [h5] at h0; simp at h0
  · exact ⟨g,o,q1,q2,q4⟩
section
variable {P : Program} {ρ : Operand → Value} {o : Oper} {w : World}
theorem run_indexA (t : TypeId) (x y:Operand) (k:IntKind) (n g off len cap:Nat) (e:TypeId) (a:Option Addr) (z:Int) (ha:a=some ⟨g,off,none⟩) (hz:z=(n:Int)) (ho:o.op=.indexAddr t x y) (hx:ρ x=.slice a len cap) (hy:ρ y=.int k z)
    (hu:P.underlying t=some (.slice e)) (hs:(P.info? e).map (·.size)=some 1) (hn:n<len):(execOp ρ o).run P w=.ok (.value (.pointer (some ⟨g,off+n,none⟩))) w:=by
  subst ha; subst hz
  exact Qdq t x y k n g off len cap e ho hx hy hu hs hn
end
section
variable {ds : List Deferred} {P : Program} {ops : Array Oper} {Q : Exit → Act → World → Prop} {rest : List Oper} {o : Oper} {N : Nat} {L : Env} {W : World}
theorem QgC {k : IntKind} {T:TypeId} (b:Nat) (s x:Operand) (t:TypeId) (ho:o.op=.call { callee:=.builtin .append,args:=#[s,x],argTypes:=#[t,t] })
    (ht:P.underlying t=some (.slice T)) (hi:(P.info? T).map (fun i=>(i.zero,i.size,i.bytes))=some (some (.int k 0),1,b)) (hb8:b≤8) (d:Nat) (hd:o.dst=some d) (hg:Qbr ops o N L=some true) {B:Nat} {v y:Value} {xs ys:List Int} {V:World}
    (hs:Rely.look (envN N L) s=v) (hx:Rely.look (envN N L) x=y)
    (h:OwnN k T V.heap.size xs v W) (hy:RdK k B ys y W) {g9:Nat} (hl:g9<W.heap.size) (hne:v.ownBlock≠some g9) (hn:xs.length+ys.length≤1000000000) (hV:Ext V W)
    (kk:∀ (u:Value) (W':World),OwnN k T V.heap.size (xs++ys) u W'→Ext V W'→Below V.heap.size W W'→(u.ownBlock≠some g9∧g9<W'.heap.size∧W'.heap[g9]? = W.heap[g9]?)→WL P ops Q rest (Qa0 ds N ((d,u)::L)) W'):WL P ops Q (o::rest) (Qa0 ds N L) W:=by
  obtain ⟨v',W',h1,h2,h3,h4⟩:=QdQ (ρ:=Rely.look (envN N L)) (o:=o) (W:=W) s x t ho ht hi hb8 hs hx h hy hn hV.size
  refine Qbt _ _ d hd hg h1 (kk v' W' h2 (QfR hV h h3) ⟨h3.os,h3.tape,h3.output,h3.size,fun i hi=>h3.block i (qL hi hV.size) (fun q=>by have:=h.ge q.symm; omega)⟩ ⟨?_,qL hl h3.size,h3.block g9 hl (fun q=>hne q.symm)⟩)
  rcases h4 with h4 | h4
  · rw [h4]; exact hne
  · rw [h4]; intro e; have:=Option.some.inj e; omega
end
def leP (n j:Nat):List Int:=(List.range j).map fun i=>((8*n/256^i%256:Nat):Int)
theorem QeJ (n j:Nat):(leP n j).length=j:=by simp [leP]
theorem QjZ (n j:Nat):leP n (j+1)=leP n j++[((8*n/256^j%256:Nat):Int)]:=by simp [leP,List.range_succ]
theorem Qn8 (n j:Nat) (h:j<8):nth (leP n 8) (7-j)=nth (be8 (8*n)) j:=by
  match j,h with
  | 0,_=>rfl
  | 1,_=>rfl
  | 2,_=>rfl
  | 3,_=>rfl
  | 4,_=>rfl
  | 5,_=>rfl
  | 6,_=>rfl
  | 7,_=>rfl
theorem Qme (m j:Nat) (h:j<8):(be8 m).take (j+1)=(be8 m).take j++[nth (be8 m) j]:=by
  match j,h with
  | 0,_=>rfl
  | 1,_=>rfl
  | 2,_=>rfl
  | 3,_=>rfl
  | 4,_=>rfl
  | 5,_=>rfl
  | 6,_=>rfl
  | 7,_=>rfl
theorem QjK (t : List Int) (i:Nat):t++128::List.replicate (i+1) (0:Int)=(t++128::List.replicate i 0)++[0]:=by
  rw [List.append_assoc,List.cons_append,List.replicate_succ']
theorem QjQ (t : List Int) (i:Nat) (h:i≤QaZ t.length):((((t++128::List.replicate i (0:Int)).length%64:Nat):Int) != 56)=decide (i<QaZ t.length):=by
  have hl:(t++128::List.replicate i (0:Int)).length=t.length+(i+1):=by simp
  rw [hl]
  unfold QaZ at *
  by_cases h2:i<(64-(t.length+9)%64)%64
  · rw [decide_eq_true h2,bne_iff_ne]; omega
  · rw [decide_eq_false h2,bne_eq_false_iff_eq]; omega
theorem QlA (n j:Nat):decide ((((leP n j).length:Nat):Int)<8)=decide (j<8):=by
  rw [QeJ]
  exact decide_eq_decide.2 (by omega)
theorem QlR (j : Nat) (h:j≤8):decide ((7:Int)-((j:Nat):Int)≥0)=decide (j<8):=decide_eq_decide.2 (by omega)
theorem QnB (j : Nat) (h:j≤8):IntKind.i64.wrap ((7:Int)-((j:Nat):Int)-1)=(7:Int)-((j+1:Nat):Int):=by
  rw [show (7:Int)-((j:Nat):Int)-1=(7:Int)-((j+1:Nat):Int) by omega]
  exact IntWalk.i64_in _ (by omega)
theorem le_0 (n : Nat):IntKind.u8.wrap ((n%32*8:Nat):Int)=((8*n/256^0%256:Nat):Int):=by
  rw [Qj1,Nat.pow_zero,Nat.div_one]; omega
theorem le_j (m : Nat):IntKind.u8.wrap ((m%256:Nat):Int)=((m%256:Nat):Int):=by rw [Qj1]; omega
theorem q_1 (n : Nat):8*n/256^1=n/32:=by rw [Nat.pow_one]; omega
theorem q_j (m j:Nat):m/256^j/256=m/256^(j+1):=by rw [Nat.div_div_eq_div_mul,Nat.pow_succ]
theorem Qln (t : List Int):(t++128::List.replicate (QaZ t.length) (0:Int))++(be8 (8*t.length)).take 8=padT t:=by
  rw [List.append_assoc,List.cons_append]
  rfl
theorem padC (t : List Int) (v:Value) (B:Nat) (w:World) (hlen:t.length≤900000000) (hr:RdK .u8 B t v w):Calls Tryd.prog 64 #[v,.int .i64 64,.int .i64 8] w (QbN w (OwnN .u8 5 w.heap.size (padT t))):=by
 obtain ⟨a_t,c_t,rfl,-⟩:=id hr
 have hF:QaZ t.length<64:=by unfold QaZ; omega
 refine enter 62 [(0,.slice a_t t.length c_t),(1,.int .i64 64),(2,.int .i64 8)] Tryd.func64 rfl rfl kj rfl <| sgB kj <| sgC fun K2 hK2=>QaL (ints .u8 ([])) 5 0 11 rfl kj kj fun g3 W1 l3 e1 r3_1=>?_
 have x1:=Ext.tr (Rely.Ext.refl w) e1
 have b3:=qT (Rely.Ext.refl w).size l3
 refine sg 1 kj <| QaM (k:=.u8) (T:=5) (xs:=[]) (ys:=t) (V:=w) 1 (.tmp 11) (.tmp 12) 38 rfl kj kj (by decide) 13 rfl kj kj kj (QbU (xs:=[]) rfl l3 r3_1 (by decide)) (RdK.ext hr x1) (by simp; omega) (Rely.Ext.trans (Rely.Ext.refl w) e1) fun z1 W2 f4 y2 l2=>?_
 have x2:=Ext.low x1 l2 (Rely.Ext.refl w).size
 refine QaL (ints .u8 ([128])) 5 1 14 rfl kj kj fun g6 W3 l6 e3 r6_3=>?_
 have b6:=qT x2.size l6
 refine QaM (k:=.u8) (T:=5) (xs:=[]++t) (ys:=[128]) (V:=w) 1 (.tmp 13) (.tmp 14) 38 rfl kj kj (by decide) 15 rfl kj kj kj (f4.ext e3) (QaU (xs:=[128]) (n:=1) rfl r6_3 (Qay r6_3) (show 1≤maxLen from by decide)) (by simp; omega) (Rely.Ext.trans y2 e3) fun z2 W4 f8 y4 l4=>?_
 refine sg 1 kj <| sgN hK2 <| wp_seq_k fun K10 hK10=>wp_block <| QaC (fun (s1:Nat×Value)=>[(0,.slice a_t t.length c_t),(1,.int .i64 64),(2,.int .i64 8),(7,s1.2)]) (fun (s1:Nat×Value) W=>(s1.1≤QaZ t.length)∧(OwnN .u8 5 w.heap.size (t++128::List.replicate s1.1 0) s1.2 W)∧(Ext w W)) (fun (s1:Nat×Value)=>QaZ t.length-s1.1) (0,z2) ⟨kj,kj,kj,kj,trivial⟩ ⟨(Nat.zero_le _),(by have h:=f8; simpa using h),(Ext.low (Ext.tr x2 e3) l4 (Rely.Ext.refl w).size)⟩ fun s1 X1 V1 hI1=>?_
 obtain ⟨i,u⟩:=s1
 obtain ⟨hi,hu,xx1⟩:=hI1
 replace hi:i≤QaZ t.length:=hi
 replace hu:OwnN .u8 5 w.heap.size (t++128::List.replicate i 0) u V1:=hu
 replace xx1:Ext w V1:=xx1
 obtain ⟨a7,c7,rfl,-⟩:=id (OwnN.rd hu)
 refine wp_seq_k fun K11 hK11=>sgC fun K12 hK12=>sg 3 kj <| Qab (.int .i64 ((((t++128::List.replicate i 0).length)%64:Nat):Int)) 19 rfl kj (Qai (u:=.int .i64 (Int.tmod ((((t++128::List.replicate i 0).length:Nat):Int)) (64))) kj (congrArg (Value.int .i64) (Qcz _ 64))) <| sg 3 kj <| Qab (.bool (decide (i<QaZ t.length))) 23 rfl kj (Qai (u:=.bool ((((((t++128::List.replicate i 0).length)%64:Nat):Int) != 56))) kj (congrArg Value.bool (QjQ t i hi))) <| sgN hK12 <| Qa3 (t:=decide (i<QaZ t.length)) kj (fun c13=>?_) (fun c13=>?_)
 ·skip
  have hlt23:i<QaZ t.length:=by have:=of_decide_eq_true c13; omega
  refine wp_skip <| hK11 _ _ <| wp_block <| Qaf <| sg 1 kj <| QaL (ints .u8 ([0])) 5 1 25 rfl kj kj fun g14 W6 l14 e6 r14_6=>?_
  have x6:=Ext.tr xx1 e6
  have b14:=qT xx1.size l14
  refine QaM (k:=.u8) (T:=5) (xs:=t++128::List.replicate i 0) (ys:=[0]) (V:=w) 1 (.tmp 24) (.tmp 25) 38 rfl kj kj (by decide) 26 rfl kj kj kj (hu.ext e6) (QaU (xs:=[0]) (n:=1) rfl r14_6 (Qay r14_6) (show 1≤maxLen from by decide)) (by simp; omega) (Rely.Ext.trans xx1 e6) fun z3 W7 f16 y7 l7=>?_
  refine sg 1 kj <| Qak ?_
  repeat (first | with_reducible refine goX1 ?_ | with_reducible refine goX2 ?_ | with_reducible refine goX3 ?_)
  exact Qa4 ((i+1),z3) ⟨kj,kj,kj,kj,trivial⟩ ⟨(by omega),(by rw [QjK]; exact f16),(Ext.low x6 l7 (Rely.Ext.refl w).size)⟩ (by show QaZ t.length-(i+1)<QaZ t.length-i; omega)
 ·skip
  have heq23:i=QaZ t.length:=by have:=of_decide_eq_false c13; omega
  subst heq23
  refine wp_exit <| hK10 _ _ <| sgB kj <| sgC fun K19 hK19=>sg 1 kj <| Qab (.int .i64 ((t.length%32:Nat):Int)) 30 rfl kj (Qai (u:=.int .i64 (Int.tmod (((t.length:Nat):Int)) (32))) kj (congrArg (Value.int .i64) (Qcz _ 32))) <| Qab (.int .i64 (((t.length%32)*8:Nat):Int)) 31 rfl kj (Qai (u:=.int .i64 (IntKind.i64.wrap (((t.length%32:Nat):Int)*8))) kj (congrArg (Value.int .i64) (i64n _ _ (by omega) (by omega)))) <| Qab (.int .u8 (((8*t.length/256^0%256:Nat):Int))) 32 rfl kj (Qai (u:=.int .u8 (IntKind.u8.wrap (((t.length%32)*8:Nat):Int))) kj (congrArg (Value.int .u8) (le_0 _))) <| QaL (ints .u8 ([(((8*t.length/256^0%256:Nat):Int))])) 5 1 33 rfl kj kj fun g20 W6 l20 e6 r20_6=>?_
  have x6:=Ext.tr xx1 e6
  have b20:=qT xx1.size l20
  refine sg 1 kj <| sgN hK19 <| sgC fun K21 hK21=>sg 1 kj <| Qab (.int .i64 ((t.length/32:Nat):Int)) 35 rfl kj (Qai (u:=.int .i64 (IntKind.i64.wrap (Int.tdiv (((t.length:Nat):Int)) (32)))) kj (congrArg (Value.int .i64) (Qed _ 32 (by omega)))) <| sg 1 kj <| sgN hK21 <| wp_seq_k fun K22 hK22=>wp_block <| QaC (fun (s2:Nat×Value)=>[(0,.slice a_t t.length c_t),(1,.int .i64 64),(2,.int .i64 8),(7,.slice a7 ((t++128::List.replicate (QaZ t.length) 0).length) c7),(8,.int .i64 ((8*t.length/256^s2.1:Nat):Int)),(9,s2.2)]) (fun (s2:Nat×Value) W=>(1≤s2.1)∧(s2.1≤8)∧(OwnN .u8 5 w.heap.size (t++128::List.replicate (QaZ t.length) 0) (.slice a7 ((t++128::List.replicate (QaZ t.length) 0).length) c7) W)∧(OwnN .u8 5 V1.heap.size (leP t.length s2.1) s2.2 W)∧(Ext V1 W)∧(Ext w W)) (fun (s2:Nat×Value)=>8-s2.1) (1,.slice (some ⟨g20,0,none⟩) 1 1) ⟨kj,kj,kj,kj,(congrArg (fun z:Nat=>Value.int .i64 (z:Int)) (q_1 _).symm),kj,trivial⟩ ⟨(qR _),(show (1:Nat)≤8 by decide),(hu.ext e6),(QbU (xs:=leP t.length 1) rfl l20 r20_6 (by decide)),(Rely.Ext.trans (Rely.Ext.refl V1) e6),x6⟩ fun s2 X2 V2 hI2=>?_
  obtain ⟨j,u⟩:=s2
  obtain ⟨hj1,hj,h7,hu9,hv9,xx2⟩:=hI2
  replace hj1:1≤j:=hj1
  replace hj:j≤8:=hj
  replace h7:OwnN .u8 5 w.heap.size (t++128::List.replicate (QaZ t.length) 0) (.slice a7 ((t++128::List.replicate (QaZ t.length) 0).length) c7) V2:=h7
  replace hu9:OwnN .u8 5 V1.heap.size (leP t.length j) u V2:=hu9
  replace hv9:Ext V1 V2:=hv9
  replace xx2:Ext w V2:=xx2
  obtain ⟨a9,c9,rfl,-⟩:=id (OwnN.rd hu9)
  have hq8:8*t.length/256^j≤8000000000:=qT (Nat.div_le_self _ _) (by omega)
  refine wp_seq_k fun K24 hK24=>sgC fun K25 hK25=>sg 3 kj <| Qab (.bool (decide (j<8))) 39 rfl kj (Qai (u:=.bool (decide ((((leP t.length j).length:Nat):Int)<8))) kj (congrArg Value.bool (QlA _ _))) <| sgN hK25 <| Qa3 (t:=decide (j<8)) kj (fun c26=>?_) (fun c26=>?_)
  ·skip
   have hlt39:j<8:=by have:=of_decide_eq_true c26; omega
   refine wp_skip <| hK24 _ _ <| wp_block <| sgC fun K27 hK27=>sg 2 kj <| Qab (.int .i64 (((8*t.length/256^j)%256:Nat):Int)) 42 rfl kj (Qai (u:=.int .i64 (Int.tmod (((8*t.length/256^j:Nat):Int)) (256))) kj (congrArg (Value.int .i64) (Qcz _ 256))) <| Qab (.int .u8 (((8*t.length/256^j%256:Nat):Int))) 43 rfl kj (Qai (u:=.int .u8 (IntKind.u8.wrap (((8*t.length/256^j)%256:Nat):Int))) kj (congrArg (Value.int .u8) (le_j _))) <| QaL (ints .u8 ([(((8*t.length/256^j%256:Nat):Int))])) 5 1 44 rfl kj kj fun g28 W8 l28 e8 r28_8=>?_
   have b28:=qT xx2.size l28
   refine QaM (k:=.u8) (T:=5) (xs:=leP t.length j) (ys:=[(((8*t.length/256^j%256:Nat):Int))]) (V:=V1) 1 (.tmp 40) (.tmp 44) 38 rfl kj kj (by decide) 45 rfl kj kj kj (hu9.ext e8) (QaU (xs:=[(((8*t.length/256^j%256:Nat):Int))]) (n:=1) rfl r28_8 (Qay r28_8) (show 1≤maxLen from by decide)) (by rw [QeJ]; show _+1≤_; omega) (Rely.Ext.trans hv9 e8) fun z4 W9 f30 y9 l9=>?_
   have x9:=Ext.low (Ext.tr xx2 e8) l9 xx1.size
   refine sg 1 kj <| sgN hK27 <| Qaf <| sg 1 kj <| Qab (.int .i64 (((8*t.length/256^j)/256:Nat):Int)) 47 rfl kj (Qai (u:=.int .i64 (IntKind.i64.wrap (Int.tdiv (((8*t.length/256^j:Nat):Int)) (256)))) kj (congrArg (Value.int .i64) (Qed _ 256 (by omega)))) <| sg 1 kj <| Qak ?_
   repeat (first | with_reducible refine goX1 ?_ | with_reducible refine goX2 ?_ | with_reducible refine goX3 ?_)
   exact Qa4 ((j+1),z4) ⟨kj,kj,kj,kj,(congrArg (fun z:Nat=>Value.int .i64 (z:Int)) (q_j _ _)),kj,trivial⟩ ⟨(by omega),(by omega),(OwnN.low (n:=0) (h7.ext e8) hu l9),(by rw [QjZ]; exact f30),y9,x9⟩ (by show 8-(j+1)<8-j; omega)
  ·skip
   have heq39:j=8:=by have:=of_decide_eq_false c26; omega
   subst heq39
   refine wp_exit <| hK22 _ _ <| wp_seq_k fun K34 hK34=>sgB kj <| wp_block ?_
   obtain ⟨g9,o9,ha9,hl0,hc0⟩:=rdK_open (OwnN.rd hu9) (by rw [QeJ]; decide)
   have hne0:(Value.slice a7 (t++128::List.replicate (QaZ t.length) 0).length c7).ownBlock≠some g9:=fun e=>by
    have h1:=OwnN.lt hu e
    have h2:=OwnN.ge hu9 (g:=g9) (by rw [ha9]; rfl)
    omega
   refine QaC (fun (s3:Nat×Value)=>[(7,s3.2),(9,.slice a9 ((leP t.length 8).length) c9),(10,.int .i64 ((7:Int)-((s3.1:Nat):Int)))]) (fun (s3:Nat×Value) W=>(s3.1≤8)∧(OwnN .u8 5 w.heap.size (t++128::List.replicate (QaZ t.length) 0++(be8 (8*t.length)).take s3.1) s3.2 W)∧(g9<W.heap.size)∧(s3.2.ownBlock≠some g9)∧(∀ i,i<(leP t.length 8).length→W.cell? ⟨g9,o9+i,none⟩=some (.int .u8 (nth (leP t.length 8) i)))∧(Ext w W)) (fun (s3:Nat×Value)=>8-s3.1) (0,.slice a7 ((t++128::List.replicate (QaZ t.length) 0).length) c7) ⟨kj,kj,kj,trivial⟩ ⟨(Nat.zero_le _),(by rw [List.take_zero,List.append_nil]; exact h7),hl0,hne0,hc0,xx2⟩ fun s3 X3 V3 hI3=>?_
   obtain ⟨j,u⟩:=s3
   obtain ⟨hj,hu,hl,hne,hcl,xx3⟩:=hI3
   replace hj:j≤8:=hj
   replace hu:OwnN .u8 5 w.heap.size (t++128::List.replicate (QaZ t.length) 0++(be8 (8*t.length)).take j) u V3:=hu
   replace hl:g9<V3.heap.size:=hl
   replace hne:u.ownBlock≠some g9:=hne
   replace hcl:∀ i,i<(leP t.length 8).length→V3.cell? ⟨g9,o9+i,none⟩=some (.int .u8 (nth (leP t.length 8) i)):=hcl
   replace xx3:Ext w V3:=xx3
   refine wp_seq_k fun K36 hK36=>sgC fun K37 hK37=>sg 1 kj <| Qab (.bool (decide (j<8))) 51 rfl kj (Qai (u:=.bool (decide (((7:Int)-((j:Nat):Int))≥0))) kj (congrArg Value.bool (QlR j hj))) <| sgN hK37 <| Qa3 (t:=decide (j<8)) kj (fun c38=>?_) (fun c38=>?_)
   ·skip
    have hlt51:j<8:=by have:=of_decide_eq_true c38; omega
    refine wp_skip <| hK36 _ _ <| wp_seq_k fun K39 hK39=>wp_block <| Qaf <| sg 3 kj <| Qab (.pointer (some ⟨g9,o9+(7-j),none⟩)) 57 rfl kj (run_indexA 38 _ _ .i64 (7-j) g9 o9 (leP t.length 8).length c9 5 a9 ((7:Int)-((j:Nat):Int)) ha9 (by omega) rfl kj kj kj kj (by rw [QeJ]; omega)) ?_
    refine Qab (.int .u8 (nth (be8 (8*t.length)) j)) 58 rfl kj (QaH 5 _ _ (.int .u8 (nth (be8 (8*t.length)) j)) ((hcl (7-j) (by rw [QeJ]; omega)).trans (congrArg (fun z=>some (Value.int .u8 z)) (Qn8 _ j hlt51))) rfl kj kj) ?_
    refine QaL (ints .u8 ([(nth (be8 (8*t.length)) j)])) 5 1 59 rfl kj kj fun g40 W9 l40 e9 r40_9=>?_
    have x9:=Ext.tr xx3 e9
    have b40:=qT xx3.size l40
    have hl4:=qL hl e9.size
    have hb4:=e9.block g9 hl
    refine QgC (k:=.u8) (T:=5) (xs:=t++128::List.replicate (QaZ t.length) 0++(be8 (8*t.length)).take j) (ys:=[(nth (be8 (8*t.length)) j)]) (V:=w) 1 (.tmp 54) (.tmp 59) 38 rfl kj kj (by decide) 60 rfl kj kj kj (hu.ext e9) (QaU (xs:=[(nth (be8 (8*t.length)) j)]) (n:=1) rfl r40_9 (Qay r40_9) (show 1≤maxLen from by decide)) hl4 hne (by simp [be8]; unfold QaZ; omega) (Rely.Ext.trans xx3 e9) fun z5 W10 f42 y10 l10 hP=>?_
    refine sg 1 kj <| Qak <| hK39 _ _ <| Qaf <| sg 1 kj <| Qab (.int .i64 ((7:Int)-((j+1:Nat):Int))) 53 rfl kj (Qai (u:=.int .i64 (IntKind.i64.wrap (((7:Int)-((j:Nat):Int))-1))) kj (congrArg (Value.int .i64) (QnB j (by omega)))) <| sg 1 kj <| Qak ?_
    repeat (first | with_reducible refine goX1 ?_ | with_reducible refine goX2 ?_ | with_reducible refine goX3 ?_)
    exact Qa4 ((j+1),z5) ⟨kj,kj,kj,trivial⟩ ⟨(by omega),(by rw [Qme _ _ hlt51,←List.append_assoc]; exact f42),hP.2.1,hP.1,(fun i hi=>(World.cell?_of_block (hP.2.2.trans hb4)).trans (hcl i hi)),(Ext.low x9 l10 (Rely.Ext.refl w).size)⟩ (by show 8-(j+1)<8-j; omega)
   ·skip
    have heq51:j=8:=by have:=of_decide_eq_false c38; omega
    subst heq51
    refine wp_exit <| hK34 _ _ <| sgB kj <| wp_ret ?_
    repeat (first | with_reducible refine goR1 ?_ | with_reducible refine goR2 ?_)
    exact (show bodyPost _ _ _ .ret _ _ from ret1 (u) rfl (Qa2 kj) ⟨_,rfl,xx3,Qln t▸hu⟩)
end Go.Proofs.YtibegnjaphohaaaDoor.Sha
end
