/- Texts of this claim, joined (M3). -/
import Derived.Test.YtbonglpnkoegoaaGreatDoorZM2
import Derived.Laws.BitsAll
import Derived.Test.YtbonglpnkoegoaaGreatDoorRows
import Derived.Lib.TrailingZeros
import Derived.Laws.Bits64b

set_option linter.unusedVariables false
set_option linter.unusedSimpArgs false
set_option maxHeartbeats 4000000
open Go.IntKind renaming i64 → zaa, u64 → zab, wrap_u64 → zad
open Int renaming natCast_pow → zac, toNat_natCast → zae, eq_ofNat_of_zero_le → zak
open Nat renaming lt_or_ge → zaf, lt_of_le_of_lt → zai, div_le_self → zaj, mod_lt → zal, mod_eq_of_lt → zam, zero_le → zaI, ne_of_lt → zaO, testBit_two_pow → zaR, testBit_mod_two_pow → zaS, not_lt_zero → zaT, pow_pos → zbc
open Go.Value renaming int → zag, bool → zah, pointer → zaY
open List renaming take_succ_cons → zan, take_zero → zao, drop_succ_cons → zap, drop_zero → zaq, nil_append → zar, cons_append → zas, map_cons → za2, foldl_toArray' → za4, append_assoc → za5, mem_replicate → za9, map_append → zaA, replicate → zaB, find?_cons_of_pos → zaC, find?_cons_of_neg → zaD, mem_of_find?_eq_some → zaE, mem_cons → zaF, not_mem_nil → zaG, length_take → zaH, mem_append → zaJ, mem_singleton → zaK, append_nil → zaL, mem_map → zaM, mem_filter → zaN, reverse_reverse → zaP, reverse_cons → zaQ, length_append → zaW, map_toArray → zaX, nodup_append → zaZ, mem_iff_getElem? → zba, length_map → zbb
open Go.Region renaming ready → zat, wanted → zau, binds → zav, noSelect → zaz, noSelect_spec → za0, free_spec → za1
open Array renaming getElem?_eq_none → zaw, setIfInBounds_comm → zax, replicate → zay, ext' → za3, getElem?_toList → zbd
open Go.Sem renaming run_bind → za6, run_pure → za8
open Go.Result renaming andThen_ok → za7
open BitVec renaming ofNat → zaU
open Option renaming map_some → zaV
namespace Go.Proofs.YtbonglpnkoegoaaGreatDoor
open Rely.Ext renaming refl → zbe, trans → zbf
open Auto.Puts renaming row → zbg, ext → zbh
open Auto.Ext renaming tr → zbi
open Own.ExtB renaming refl → zbj, ext → zbk, puts → zbl, row → zbm
open Auto.OwnN renaming base → zbn, rd → zbo
open Auto.Qai renaming refl → zbp, row → zbq, step → zbr, puts → zbs
section
namespace Cn
open Go Go.RowKit
open Rely Auto Own Sha
theorem QbM (v : Int) (h:-5000000000≤v∧v≤5000000000):zaa.wrap v=v:=IntWalk.i64_in _ oo
theorem shrB (B j:Nat) (hj:j<64):(B:Int).fdiv (2^min (j:Int).toNat zab.bits)=((B/2^j:Nat):Int):=by
  rw [show min ((j:Int).toNat) zab.bits=j by show min ((j:Int).toNat) 64=j; omega]
  rw [Int.fdiv_eq_ediv_of_nonneg _ (Int.le_of_lt (Int.pow_pos dd)),Int.natCast_ediv,zac]
  rfl
theorem andB (m : Nat) (h:m<18446744073709551616):bits .and .u64 (m:Int) 1=((m%2:Nat):Int):=by
  rw [show (1:Int)=((1:Nat):Int) from rfl,bits_and_u64_nat m 1 h oo,Nat.and_one_is_mod]
theorem orB (a b:Nat) (ha:a<18446744073709551616) (hb:b<18446744073709551616):bits .or .u64 (a:Int) (b:Int)=((a|||b:Nat):Int):=by
  have h:=u64_or (a:Int) b oo oo oo oo
  simpa using h
theorem wrapN (m : Nat):zab.wrap (m:Int)=((m%18446744073709551616:Nat):Int):=by rw [zad]; omega
theorem QjP (B a:Nat) (h:64≤a):B*2^a%18446744073709551616=0:=by
  obtain ⟨c,rfl⟩:∃ c,a=64+c:=⟨a-64,by omega⟩
  rw [Nat.pow_add,←Nat.mul_assoc,Nat.mul_comm B,Nat.mul_assoc]
  exact Nat.mul_mod_right _ _
theorem shlB (B a:Nat):zab.wrap ((B:Int)*2^min (a:Int).toNat zab.bits)=((B*2^a%18446744073709551616:Nat):Int):=by
  have e:∀ c:Nat,(B:Int)*2^c=((B*2^c:Nat):Int):=fun c=>by rw [Int.natCast_mul,zac]; rfl
  rw [e,wrapN]
  have hm:min ((a:Int).toNat) zab.bits=min a 64:=by show min ((a:Int).toNat) 64=min a 64; rw [zae]
  rw [hm]
  rcases zaf a 64 with h | h
  · rw [show min a 64=a by omega]
  · rw [show min a 64=64 by omega,QjP B 64 oo,QjP B a h]
def chkW (nx : Int) (B:Nat) (n:Int):Int:=if n<0∨4294967295≤n then 8 else if 64<nx-1-n then 11 else if nx-1-n=0∨(0<nx-1-n∧B/2^(nx-1-n-1).toNat%2=1) then 7 else 0
def errV (e : Int):Value:=if e=0 then .nilIface else .iface 49 (.int .i64 e)
theorem QcN (g : Nat) (nx:Int) (B:Nat) (hnx:0≤nx∧nx≤4294967295) (hB:B<18446744073709551616) (sec:List Int) (pl mg:Nat) (hsec:sec.length=32) (w:World) (hg:w.heap[g]? = some (.cells (cat [#[.int .i64 nx],#[.int .u64 (B:Int)],ints .u8 (sec),#[.int .i64 (pl:Int)],#[.map (some mg)]]) 100)):Calls Tryz.prog 82 #[pp g 0] w (Ret w (.int .i64 (nx-1))):=by
  refine enter 8 [(0,pp g 0)] Tryz.func82 rfl rfl kj rfl <| sgB kj <| sgC fun K3 hK3=>sg 3 kj <| sv (.int .i64 nx) 6 (Qab 3 _ g 0 100 _ (.int .i64 nx) _ hg rfl kj (Qap [] [#[.int .i64 nx]] [#[.int .u64 (B:Int)],ints .u8 (sec),#[.int .i64 (pl:Int)],#[.map (some mg)]] 0 kj 0 _ rfl) kj) <| sv (.int .i64 (nx-1)) 7 (Qac (u:=.int .i64 (zaa.wrap (nx-1))) kj (congrArg (zag .i64) (QbM _ oo))) <| sg 1 kj <| sgN hK3 <| wp_ret ?_
  with_reducible repeat first | refine goR1 ?_ | refine goR2 ?_
  exact (show bodyPost _ _ _ .ret _ _ from ret1 (.int .i64 (nx-1)) rfl (Qax kj) ⟨rfl,(zbe w)⟩)
theorem Qi9 (g : Nat) (nx:Int) (B:Nat) (hnx:0≤nx∧nx≤4294967295) (hB:B<18446744073709551616) (sec:List Int) (pl mg:Nat) (hsec:sec.length=32) (w:World) (hg:w.heap[g]? = some (.cells (cat [#[.int .i64 nx],#[.int .u64 (B:Int)],ints .u8 (sec),#[.int .i64 (pl:Int)],#[.map (some mg)]]) 100)):Calls Tryz.prog 66 #[pp g 0] w (Ret w (.int .i64 (nx-1))):=by
  refine enter 9 [(0,pp g 0)] Tryz.func66 rfl rfl kj rfl <| sgB kj <| wp_seq_k fun K3 hK3=>sgB kj <| cond_false kj <| wp_skip <| hK3 _ _ <| sgC fun K5 hK5=>sg 3 kj <| Qao (.int .i64 (nx-1)) 82 #[pp g 0] 8 rfl kj kj (QcN g nx B hnx hB sec pl mg hsec _ hg) fun W1 e1=>?_
  refine sg 1 kj <| sgN hK5 <| wp_ret ?_
  with_reducible repeat first | refine goR1 ?_ | refine goR2 ?_
  exact (show bodyPost _ _ _ .ret _ _ from ret1 (.int .i64 (nx-1)) rfl (Qax kj) ⟨rfl,(zbi (zbe w) e1)⟩)
theorem QnF (g : Nat) (nx:Int) (B:Nat) (n:Int) (hnx:0≤nx∧nx≤4294967295) (hB:B<18446744073709551616) (sec:List Int) (pl mg:Nat) (hsec:sec.length=32) (w:World) (hg:w.heap[g]? = some (.cells (cat [#[.int .i64 nx],#[.int .u64 (B:Int)],ints .u8 (sec),#[.int .i64 (pl:Int)],#[.map (some mg)]]) 100)) (hc:n<0):Calls Tryz.prog 79 #[pp g 0,.int .i64 n] w (Ret w (.iface 49 (.int .i64 8))):=by
  refine enter 38 [(0,pp g 0),(1,.int .i64 n)] Tryz.func79 rfl rfl kj rfl <| sgB kj <| wp_seq_k fun K3 hK3=>sgC fun K4 hK4=>sg 1 kj <| sv (.bool true) 7 (Qac (u:=.bool (decide (n<0))) kj (congrArg zah (decide_eq_true oo))) <| sg 4 kj <| sgN hK4 <| cond_true kj <| sgB kj ?_
  refine wp_ret ?_
  with_reducible repeat first | refine goR1 ?_ | refine goR2 ?_
  exact (show bodyPost _ _ _ .ret _ _ from ret1 (.iface 49 (.int .i64 8)) rfl (Qax kj) ⟨rfl,(zbe w)⟩)
theorem QnE (g : Nat) (nx:Int) (B:Nat) (n:Int) (hnx:0≤nx∧nx≤4294967295) (hB:B<18446744073709551616) (sec:List Int) (pl mg:Nat) (hsec:sec.length=32) (w:World) (hg:w.heap[g]? = some (.cells (cat [#[.int .i64 nx],#[.int .u64 (B:Int)],ints .u8 (sec),#[.int .i64 (pl:Int)],#[.map (some mg)]]) 100)) (hc:4294967295≤n):Calls Tryz.prog 79 #[pp g 0,.int .i64 n] w (Ret w (.iface 49 (.int .i64 8))):=by
  refine enter 38 [(0,pp g 0),(1,.int .i64 n)] Tryz.func79 rfl rfl kj rfl <| sgB kj <| wp_seq_k fun K3 hK3=>sgC fun K4 hK4=>sg 1 kj <| sv (.bool false) 7 (Qac (u:=.bool (decide (n<0))) kj (congrArg zah (decide_eq_false oo))) <| sg 2 kj <| sv (.bool true) 10 (Qac (u:=.bool (decide (n≥4294967295))) kj (congrArg zah (decide_eq_true oo))) <| sg 1 kj <| sgN hK4 ?_
  refine cond_true kj <| sgB kj <| wp_ret ?_
  with_reducible repeat first | refine goR1 ?_ | refine goR2 ?_
  exact (show bodyPost _ _ _ .ret _ _ from ret1 (.iface 49 (.int .i64 8)) rfl (Qax kj) ⟨rfl,(zbe w)⟩)
theorem QnD (g : Nat) (nx:Int) (B:Nat) (n:Int) (hnx:0≤nx∧nx≤4294967295) (hB:B<18446744073709551616) (sec:List Int) (pl mg:Nat) (hsec:sec.length=32) (w:World) (hg:w.heap[g]? = some (.cells (cat [#[.int .i64 nx],#[.int .u64 (B:Int)],ints .u8 (sec),#[.int .i64 (pl:Int)],#[.map (some mg)]]) 100)) (hn:0≤n∧n<4294967295) (hc:64<nx-1-n):Calls Tryz.prog 79 #[pp g 0,.int .i64 n] w (Ret w (.iface 49 (.int .i64 11))):=by
  refine enter 38 [(0,pp g 0),(1,.int .i64 n)] Tryz.func79 rfl rfl kj rfl <| sgB kj <| wp_seq_k fun K3 hK3=>sgC fun K4 hK4=>sg 1 kj <| sv (.bool false) 7 (Qac (u:=.bool (decide (n<0))) kj (congrArg zah (decide_eq_false oo))) <| sg 2 kj <| sv (.bool false) 10 (Qac (u:=.bool (decide (n≥4294967295))) kj (congrArg zah (decide_eq_false oo))) <| sg 1 kj <| sgN hK4 ?_
  refine cond_false kj <| wp_skip <| hK3 _ _ <| sgC fun K5 hK5=>sg 1 kj <| Qao (.int .i64 (nx-1)) 82 #[pp g 0] 14 rfl kj kj (QcN g nx B hnx hB sec pl mg hsec _ hg) fun W1 e1=>sg 1 kj <| sv (.int .i64 (nx-1-n)) 16 (Qac (u:=.int .i64 (zaa.wrap ((nx-1)-n))) kj (congrArg (zag .i64) (QbM _ oo))) <| sg 1 kj <| sgN hK5 ?_
  refine wp_seq_k fun K6 hK6=>sgC fun K7 hK7=>sg 1 kj <| sv (.bool true) 18 (Qac (u:=.bool (decide ((nx-1-n)>64))) kj (congrArg zah (decide_eq_true oo))) <| sgN hK7 <| cond_true kj <| sgB kj <| wp_ret ?_
  with_reducible repeat first | refine goR1 ?_ | refine goR2 ?_
  exact (show bodyPost _ _ _ .ret _ _ from ret1 (.iface 49 (.int .i64 11)) rfl (Qax kj) ⟨rfl,(zbi (zbe w) e1)⟩)
theorem check_D (g : Nat) (nx:Int) (B:Nat) (n:Int) (hnx:0≤nx∧nx≤4294967295) (hB:B<18446744073709551616) (sec:List Int) (pl mg:Nat) (hsec:sec.length=32) (w:World) (hg:w.heap[g]? = some (.cells (cat [#[.int .i64 nx],#[.int .u64 (B:Int)],ints .u8 (sec),#[.int .i64 (pl:Int)],#[.map (some mg)]]) 100)) (hn:0≤n∧n<4294967295) (hc:nx-1-n=0):Calls Tryz.prog 79 #[pp g 0,.int .i64 n] w (Ret w (.iface 49 (.int .i64 7))):=by
  refine enter 38 [(0,pp g 0),(1,.int .i64 n)] Tryz.func79 rfl rfl kj rfl <| sgB kj <| wp_seq_k fun K3 hK3=>sgC fun K4 hK4=>sg 1 kj <| sv (.bool false) 7 (Qac (u:=.bool (decide (n<0))) kj (congrArg zah (decide_eq_false oo))) <| sg 2 kj <| sv (.bool false) 10 (Qac (u:=.bool (decide (n≥4294967295))) kj (congrArg zah (decide_eq_false oo))) <| sg 1 kj <| sgN hK4 ?_
  refine cond_false kj <| wp_skip <| hK3 _ _ <| sgC fun K5 hK5=>sg 1 kj <| Qao (.int .i64 (nx-1)) 82 #[pp g 0] 14 rfl kj kj (QcN g nx B hnx hB sec pl mg hsec _ hg) fun W1 e1=>sg 1 kj <| sv (.int .i64 (nx-1-n)) 16 (Qac (u:=.int .i64 (zaa.wrap ((nx-1)-n))) kj (congrArg (zag .i64) (QbM _ oo))) <| sg 1 kj <| sgN hK5 ?_
  refine wp_seq_k fun K6 hK6=>sgC fun K7 hK7=>sg 1 kj <| sv (.bool false) 18 (Qac (u:=.bool (decide ((nx-1-n)>64))) kj (congrArg zah (decide_eq_false oo))) <| sgN hK7 <| cond_false kj <| wp_skip <| hK6 _ _ <| wp_seq_k fun K8 hK8=>sgC fun K9 hK9=>?_
  refine sg 1 kj <| sv (.bool true) 21 (Qac (u:=.bool (((nx-1-n)==0))) kj (congrArg zah (by simp; omega))) ?_
  refine sg 15 kj <| sgN hK9 <| cond_true kj <| sgB kj <| wp_ret ?_
  with_reducible repeat first | refine goR1 ?_ | refine goR2 ?_
  exact (show bodyPost _ _ _ .ret _ _ from ret1 (.iface 49 (.int .i64 7)) rfl (Qax kj) ⟨rfl,(zbi (zbe w) e1)⟩)
theorem QnC (g : Nat) (nx:Int) (B:Nat) (n:Int) (hnx:0≤nx∧nx≤4294967295) (hB:B<18446744073709551616) (sec:List Int) (pl mg:Nat) (hsec:sec.length=32) (w:World) (hg:w.heap[g]? = some (.cells (cat [#[.int .i64 nx],#[.int .u64 (B:Int)],ints .u8 (sec),#[.int .i64 (pl:Int)],#[.map (some mg)]]) 100)) (hn:0≤n∧n<4294967295) (j:Nat) (hj:nx-1-n-1=(j:Int)) (hj2:j<64) (hc:B/2^j%2=1):Calls Tryz.prog 79 #[pp g 0,.int .i64 n] w (Ret w (.iface 49 (.int .i64 7))):=by
  refine enter 38 [(0,pp g 0),(1,.int .i64 n)] Tryz.func79 rfl rfl kj rfl <| sgB kj <| wp_seq_k fun K3 hK3=>sgC fun K4 hK4=>sg 1 kj <| sv (.bool false) 7 (Qac (u:=.bool (decide (n<0))) kj (congrArg zah (decide_eq_false oo))) <| sg 2 kj <| sv (.bool false) 10 (Qac (u:=.bool (decide (n≥4294967295))) kj (congrArg zah (decide_eq_false oo))) <| sg 1 kj <| sgN hK4 ?_
  refine cond_false kj <| wp_skip <| hK3 _ _ <| sgC fun K5 hK5=>sg 1 kj <| Qao (.int .i64 (nx-1)) 82 #[pp g 0] 14 rfl kj kj (QcN g nx B hnx hB sec pl mg hsec _ hg) fun W1 e1=>sg 1 kj <| sv (.int .i64 (nx-1-n)) 16 (Qac (u:=.int .i64 (zaa.wrap ((nx-1)-n))) kj (congrArg (zag .i64) (QbM _ oo))) <| sg 1 kj <| sgN hK5 ?_
  refine wp_seq_k fun K6 hK6=>sgC fun K7 hK7=>sg 1 kj <| sv (.bool false) 18 (Qac (u:=.bool (decide ((nx-1-n)>64))) kj (congrArg zah (decide_eq_false oo))) <| sgN hK7 <| cond_false kj <| wp_skip <| hK6 _ _ <| wp_seq_k fun K8 hK8=>sgC fun K9 hK9=>?_
  refine sg 1 kj <| sv (.bool false) 21 (Qac (u:=.bool (((nx-1-n)==0))) kj (congrArg zah (by simp; omega))) ?_
  refine sg 2 kj <| sv (.bool true) 24 (Qac (u:=.bool (decide ((nx-1-n)>0))) kj (congrArg zah (decide_eq_true oo))) <| sg 4 kj <| sv (.int .u64 (B:Int)) 29 (Qab 93 _ g 1 100 _ (.int .u64 (B:Int)) _ (Qaa hg e1) rfl kj (Qap [#[.int .i64 nx]] [#[.int .u64 (B:Int)]] [ints .u8 (sec),#[.int .i64 (pl:Int)],#[.map (some mg)]] 1 kj 0 _ rfl) kj) <| sg 1 kj <| sv (.int .i64 ((j:Int))) 31 (Qac (u:=.int .i64 (zaa.wrap ((nx-1-n)-1))) kj (congrArg (zag .i64) (by rw [hj]; exact QbM _ oo))) ?_
  refine sv (.int .u64 ((B/2^j:Nat):Int)) 32 (QaO .shr _ _ _ _ .u64 .i64 _ _ _ rfl kj kj (Qcd _ _ _ _ _ _ oo (shrB B j hj2))) <| sv (.int .u64 ((B/2^j%2:Nat):Int)) 33 (Qac (u:=.int .u64 (bits .and .u64 ((B/2^j:Nat):Int) (1))) kj (congrArg (zag .u64) (andB _ (zai (zaj _ _) hB)))) <| sv (.bool true) 34 (Qac (u:=.bool ((((B/2^j%2:Nat):Int)==1))) kj (congrArg zah (by rw [hc]; rfl))) ?_
  refine sg 2 kj <| sgN hK9 <| cond_true kj <| sgB kj <| wp_ret ?_
  with_reducible repeat first | refine goR1 ?_ | refine goR2 ?_
  exact (show bodyPost _ _ _ .ret _ _ from ret1 (.iface 49 (.int .i64 7)) rfl (Qax kj) ⟨rfl,(zbi (zbe w) e1)⟩)
theorem QnB (g : Nat) (nx:Int) (B:Nat) (n:Int) (hnx:0≤nx∧nx≤4294967295) (hB:B<18446744073709551616) (sec:List Int) (pl mg:Nat) (hsec:sec.length=32) (w:World) (hg:w.heap[g]? = some (.cells (cat [#[.int .i64 nx],#[.int .u64 (B:Int)],ints .u8 (sec),#[.int .i64 (pl:Int)],#[.map (some mg)]]) 100)) (hn:0≤n∧n<4294967295) (j:Nat) (hj:nx-1-n-1=(j:Int)) (hj2:j<64) (hc:B/2^j%2=0):Calls Tryz.prog 79 #[pp g 0,.int .i64 n] w (Ret w (.nilIface)):=by
  refine enter 38 [(0,pp g 0),(1,.int .i64 n)] Tryz.func79 rfl rfl kj rfl <| sgB kj <| wp_seq_k fun K3 hK3=>sgC fun K4 hK4=>sg 1 kj <| sv (.bool false) 7 (Qac (u:=.bool (decide (n<0))) kj (congrArg zah (decide_eq_false oo))) <| sg 2 kj <| sv (.bool false) 10 (Qac (u:=.bool (decide (n≥4294967295))) kj (congrArg zah (decide_eq_false oo))) <| sg 1 kj <| sgN hK4 ?_
  refine cond_false kj <| wp_skip <| hK3 _ _ <| sgC fun K5 hK5=>sg 1 kj <| Qao (.int .i64 (nx-1)) 82 #[pp g 0] 14 rfl kj kj (QcN g nx B hnx hB sec pl mg hsec _ hg) fun W1 e1=>sg 1 kj <| sv (.int .i64 (nx-1-n)) 16 (Qac (u:=.int .i64 (zaa.wrap ((nx-1)-n))) kj (congrArg (zag .i64) (QbM _ oo))) <| sg 1 kj <| sgN hK5 ?_
  refine wp_seq_k fun K6 hK6=>sgC fun K7 hK7=>sg 1 kj <| sv (.bool false) 18 (Qac (u:=.bool (decide ((nx-1-n)>64))) kj (congrArg zah (decide_eq_false oo))) <| sgN hK7 <| cond_false kj <| wp_skip <| hK6 _ _ <| wp_seq_k fun K8 hK8=>sgC fun K9 hK9=>?_
  refine sg 1 kj <| sv (.bool false) 21 (Qac (u:=.bool (((nx-1-n)==0))) kj (congrArg zah (by simp; omega))) ?_
  refine sg 2 kj <| sv (.bool true) 24 (Qac (u:=.bool (decide ((nx-1-n)>0))) kj (congrArg zah (decide_eq_true oo))) <| sg 4 kj <| sv (.int .u64 (B:Int)) 29 (Qab 93 _ g 1 100 _ (.int .u64 (B:Int)) _ (Qaa hg e1) rfl kj (Qap [#[.int .i64 nx]] [#[.int .u64 (B:Int)]] [ints .u8 (sec),#[.int .i64 (pl:Int)],#[.map (some mg)]] 1 kj 0 _ rfl) kj) <| sg 1 kj <| sv (.int .i64 ((j:Int))) 31 (Qac (u:=.int .i64 (zaa.wrap ((nx-1-n)-1))) kj (congrArg (zag .i64) (by rw [hj]; exact QbM _ oo))) ?_
  refine sv (.int .u64 ((B/2^j:Nat):Int)) 32 (QaO .shr _ _ _ _ .u64 .i64 _ _ _ rfl kj kj (Qcd _ _ _ _ _ _ oo (shrB B j hj2))) <| sv (.int .u64 ((B/2^j%2:Nat):Int)) 33 (Qac (u:=.int .u64 (bits .and .u64 ((B/2^j:Nat):Int) (1))) kj (congrArg (zag .u64) (andB _ (zai (zaj _ _) hB)))) <| sv (.bool false) 34 (Qac (u:=.bool ((((B/2^j%2:Nat):Int)==1))) kj (congrArg zah (by rw [hc]; rfl))) ?_
  refine sg 2 kj <| sgN hK9 <| cond_false kj <| wp_skip <| hK8 _ _ <| sgB kj <| wp_ret ?_
  with_reducible repeat first | refine goR1 ?_ | refine goR2 ?_
  exact (show bodyPost _ _ _ .ret _ _ from ret1 (.nilIface) rfl (Qax kj) ⟨rfl,(zbi (zbe w) e1)⟩)
theorem QnA (g : Nat) (nx:Int) (B:Nat) (n:Int) (hnx:0≤nx∧nx≤4294967295) (hB:B<18446744073709551616) (sec:List Int) (pl mg:Nat) (hsec:sec.length=32) (w:World) (hg:w.heap[g]? = some (.cells (cat [#[.int .i64 nx],#[.int .u64 (B:Int)],ints .u8 (sec),#[.int .i64 (pl:Int)],#[.map (some mg)]]) 100)) (hn:0≤n∧n<4294967295) (hc:nx-1-n<0):Calls Tryz.prog 79 #[pp g 0,.int .i64 n] w (Ret w (.nilIface)):=by
  refine enter 38 [(0,pp g 0),(1,.int .i64 n)] Tryz.func79 rfl rfl kj rfl <| sgB kj <| wp_seq_k fun K3 hK3=>sgC fun K4 hK4=>sg 1 kj <| sv (.bool false) 7 (Qac (u:=.bool (decide (n<0))) kj (congrArg zah (decide_eq_false oo))) <| sg 2 kj <| sv (.bool false) 10 (Qac (u:=.bool (decide (n≥4294967295))) kj (congrArg zah (decide_eq_false oo))) <| sg 1 kj <| sgN hK4 ?_
  refine cond_false kj <| wp_skip <| hK3 _ _ <| sgC fun K5 hK5=>sg 1 kj <| Qao (.int .i64 (nx-1)) 82 #[pp g 0] 14 rfl kj kj (QcN g nx B hnx hB sec pl mg hsec _ hg) fun W1 e1=>sg 1 kj <| sv (.int .i64 (nx-1-n)) 16 (Qac (u:=.int .i64 (zaa.wrap ((nx-1)-n))) kj (congrArg (zag .i64) (QbM _ oo))) <| sg 1 kj <| sgN hK5 ?_
  refine wp_seq_k fun K6 hK6=>sgC fun K7 hK7=>sg 1 kj <| sv (.bool false) 18 (Qac (u:=.bool (decide ((nx-1-n)>64))) kj (congrArg zah (decide_eq_false oo))) <| sgN hK7 <| cond_false kj <| wp_skip <| hK6 _ _ <| wp_seq_k fun K8 hK8=>sgC fun K9 hK9=>?_
  refine sg 1 kj <| sv (.bool false) 21 (Qac (u:=.bool (((nx-1-n)==0))) kj (congrArg zah (by simp; omega))) ?_
  refine sg 2 kj <| sv (.bool false) 24 (Qac (u:=.bool (decide ((nx-1-n)>0))) kj (congrArg zah (decide_eq_false oo))) <| sg 12 kj <| sgN hK9 <| cond_false kj <| wp_skip <| hK8 _ _ <| sgB kj <| wp_ret ?_
  with_reducible repeat first | refine goR1 ?_ | refine goR2 ?_
  exact (show bodyPost _ _ _ .ret _ _ from ret1 (.nilIface) rfl (Qax kj) ⟨rfl,(zbi (zbe w) e1)⟩)
theorem QkL (g : Nat) (nx:Int) (B:Nat) (n:Int) (hnx:0≤nx∧nx≤4294967295) (hB:B<18446744073709551616) (sec:List Int) (pl mg:Nat) (hsec:sec.length=32) (w:World) (hg:w.heap[g]? = some (.cells (cat [#[.int .i64 nx],#[.int .u64 (B:Int)],ints .u8 (sec),#[.int .i64 (pl:Int)],#[.map (some mg)]]) 100)):Calls Tryz.prog 79 #[pp g 0,.int .i64 n] w (Ret w (errV (chkW nx B n))):=by
  unfold chkW
  by_cases h1:n<0
  · rw [if_pos (.inl h1)]; exact QnF g nx B n hnx hB sec pl mg hsec w hg h1
  by_cases h2:4294967295≤n
  · rw [if_pos (.inr h2)]; exact QnE g nx B n hnx hB sec pl mg hsec w hg h2
  rw [if_neg oo]
  have hn:0≤n∧n<4294967295:=by omega
  by_cases h3:64<nx-1-n
  · rw [if_pos h3]; exact QnD g nx B n hnx hB sec pl mg hsec w hg hn h3
  rw [if_neg h3]
  by_cases h4:nx-1-n=0
  · rw [if_pos (.inl h4)]; exact check_D g nx B n hnx hB sec pl mg hsec w hg hn h4
  by_cases h5:0<nx-1-n
  · obtain ⟨j,hj⟩:=zak (show 0≤nx-1-n-1 by omega)
    have hj2:j<64:=by omega
    rw [hj,zae]
    have hm:B/2^j%2<2:=zal _ dd
    by_cases h6:B/2^j%2=1
    · rw [if_pos (.inr ⟨h5,h6⟩)]; exact QnC g nx B n hnx hB sec pl mg hsec w hg hn j hj hj2 h6
    · rw [if_neg (by rintro (h | h); exact h4 h; exact h6 h.2)]; exact QnB g nx B n hnx hB sec pl mg hsec w hg hn j hj hj2 oo
  · rw [if_neg (by rintro (h | h); exact h4 h; exact h5 h.1)]; exact QnA g nx B n hnx hB sec pl mg hsec w hg hn oo
theorem QkW (g : Nat) (nx:Int) (B:Nat) (n:Int) (hnx:0≤nx∧nx≤4294967295) (hB:B<18446744073709551616) (sec:List Int) (pl mg:Nat) (hsec:sec.length=32) (w:World) (hg:w.heap[g]? = some (.cells (cat [#[.int .i64 nx],#[.int .u64 (B:Int)],ints .u8 (sec),#[.int .i64 (pl:Int)],#[.map (some mg)]]) 100)):Calls Tryz.prog 61 #[pp g 0,.int .i64 n] w (Ret w (errV (chkW nx B n))):=by
  refine enter 13 [(0,pp g 0),(1,.int .i64 n)] Tryz.func61 rfl rfl kj rfl <| sgB kj <| wp_seq_k fun K3 hK3=>sgB kj <| cond_false kj <| wp_skip <| hK3 _ _ <| sgC fun K5 hK5=>sg 4 kj <| Qao (errV (chkW nx B n)) 79 #[pp g 0,.int .i64 n] 12 rfl kj kj (QkL g nx B n hnx hB sec pl mg hsec _ hg) fun W1 e1=>?_
  refine sg 1 kj <| sgN hK5 <| wp_ret ?_
  with_reducible repeat first | refine goR1 ?_ | refine goR2 ?_
  exact (show bodyPost _ _ _ .ret _ _ from ret1 (errV (chkW nx B n)) rfl (Qax kj) ⟨rfl,(zbi (zbe w) e1)⟩)
theorem QhC {e : Int} (h:e≠0):errV e=.iface 49 (.int .i64 e):=by unfold errV; rw [if_neg h]
theorem Qd6 {e : Int} (h:e=0):errV e=.nilIface:=by unfold errV; rw [if_pos h]
theorem Qnz (a b:Int) (h:-5000000000≤a∧a≤5000000000) (e:0-a=b):zaa.wrap (0-a)=b:=by rw [e]; exact QbM _ oo
theorem Qia (j : Nat) (h:j<64):2^j<18446744073709551616:=Nat.pow_lt_pow_right dd h
theorem shl1 (j : Nat) (h:j<64):zab.wrap (1*2^min (j:Int).toNat zab.bits)=((2^j:Nat):Int):=by
  have:=shlB 1 j
  rw [Nat.one_mul,zam (Qia j h)] at this
  exact this
theorem QoA (g : Nat) (nx:Int) (B:Nat) (n:Int) (hnx:0≤nx∧nx≤4294967295) (hB:B<18446744073709551616) (sec:List Int) (pl mg:Nat) (hsec:sec.length=32) (w:World) (hg:w.heap[g]? = some (.cells (cat [#[.int .i64 nx],#[.int .u64 (B:Int)],ints .u8 (sec),#[.int .i64 (pl:Int)],#[.map (some mg)]]) 100)) (hc:chkW nx B n=0) (j:Nat) (hj:nx-1-n-1=(j:Int)) (hj2:j<64):Calls Tryz.prog 81 #[pp g 0,.int .i64 n] w (fun e w'=>e=.returned .nilIface∧ExtB g w w'∧w'.heap[g]? = some (.cells (cat [#[.int .i64 nx],#[.int .u64 ((B|||2^j:Nat):Int)],ints .u8 (sec),#[.int .i64 (pl:Int)],#[.map (some mg)]]) 100)):=by
  refine enter 48 [(0,pp g 0),(1,.int .i64 n)] Tryz.func81 rfl rfl kj rfl <| sgB kj <| wp_seq_k fun K3 hK3=>sgC fun K4 hK4=>sg 2 kj <| Qao (.nilIface) 79 #[pp g 0,.int .i64 n] 9 rfl kj kj (Qd6 hc▸QkL g nx B n hnx hB sec pl mg hsec _ hg) fun W1 e1=>sg 1 kj <| sgN hK4 <| sgB kj <| cond_false kj ?_
  refine wp_skip <| hK3 _ _ <| sgC fun K6 hK6=>sg 2 kj ?_
  have r1_1:=(Qaa hg e1)
  refine Qao (.int .i64 (nx-1)) 82 #[pp g 0] 15 rfl kj kj (QcN g nx B hnx hB sec pl mg hsec _ r1_1) fun W2 e2=>sv (.int .i64 (n-(nx-1))) 16 (Qac (u:=.int .i64 (zaa.wrap (n-(nx-1)))) kj (congrArg (zag .i64) (QbM _ oo))) <| sg 1 kj <| sgN hK6 <| wp_seq_k fun K7 hK7=>sgC fun K8 hK8=>sg 1 kj <| sv (.bool true) 18 (Qac (u:=.bool (decide ((n-(nx-1))<0))) kj (congrArg zah (decide_eq_true oo))) <| sgN hK8 <| cond_true kj ?_
  refine wp_seq_k fun K9 hK9=>Qba 11 [⟨none,[(0,none)]⟩,⟨none,[(19,some 0)]⟩,⟨none,[(20,some 1)]⟩,⟨none,[(21,some 2)]⟩,⟨none,[(6,none)]⟩,⟨none,[(23,some 4)]⟩,⟨none,[(24,some 5)]⟩,⟨none,[(25,some 6)]⟩,⟨none,[(22,some 3),(26,some 7)]⟩,⟨none,[(19,some 0)]⟩,⟨none,[(28,some 9)]⟩] kj kj fun F hF=>Qar (pp g 0) kj kj (fun _=>kj) <| Qar (pp g 0) kj kj (fun _=>kj) <| Qar (pp g 1) kj kj (fun _=>kj) ?_
  have r1_2:=(Qaa r1_1 e2)
  refine QaK (.int .u64 (B:Int)) kj kj (fun W hR=>(Qab 93 _ g 1 100 _ (.int .u64 (B:Int)) _ (Qaa (Qaa r1_2 (Qan _)) hR) rfl kj (Qap [#[.int .i64 nx]] [#[.int .u64 (B:Int)]] [ints .u8 (sec),#[.int .i64 (pl:Int)],#[.map (some mg)]] 1 kj 0 _ rfl) kj)) <| Qar (.int .i64 (n-(nx-1))) kj kj (fun _=>kj) <| Qar (.int .i64 (nx-1-n)) kj kj (fun W=>(Qac (u:=.int .i64 (zaa.wrap (0-(n-(nx-1))))) kj (congrArg (zag .i64) (Qnz _ _ oo oo)))) <| Qar (.int .i64 ((j:Int))) kj kj (fun W=>(Qac (u:=.int .i64 (zaa.wrap ((nx-1-n)-1))) kj (congrArg (zag .i64) (by rw [hj]; exact QbM _ oo)))) ?_
  refine Qar (.int .u64 ((2^j:Nat):Int)) kj kj (fun W=>(QaO .shl _ _ _ _ .u64 .i64 _ _ _ rfl kj kj (Qef _ _ _ _ _ _ oo (shl1 j hj2)))) <| Qar (.int .u64 ((B|||2^j:Nat):Int)) kj kj (fun W=>(Qac (u:=.int .u64 (bits .or .u64 ((B:Int)) ((2^j:Nat):Int))) kj (congrArg (zag .u64) (orB _ _ hB (Qia j hj2))))) <| Qar (pp g 0) kj kj (fun _=>kj) <| Qar (pp g 1) kj kj (fun _=>kj) <| Qbh (hF _ kj fun W3 e3=>?_)
  simp only [ups,up,Kn.val,zan,zao,zap,zaq,zar,zas]
  clear hF
  have r1_3:=(Qaa r1_2 e3)
  refine Qag g _ (cat [#[.int .i64 nx],#[.int .u64 ((B|||2^j:Nat):Int)],ints .u8 (sec),#[.int .i64 (pl:Int)],#[.map (some mg)]]) 100 r1_3 rfl kj (run_storeQ 93 _ _ g 1 100 [#[.int .i64 nx]] [ints .u8 (sec),#[.int .i64 (pl:Int)],#[.map (some mg)]] _ (.int .u64 ((B|||2^j:Nat):Int)) r1_3 rfl kj kj kj kj rfl rfl) fun W4 p4 r1_4=>sgN hK9 <| sgB kj <| wp_ret ?_
  with_reducible repeat first | refine goR1 ?_ | refine goR2 ?_
  exact (show bodyPost _ _ _ .ret _ _ from ret1 (.nilIface) rfl (Qax kj) ⟨rfl,(zbl (zbk (zbk (zbk (zbj g w) e1) e2) e3) p4),r1_4⟩)
theorem Qo9 (g : Nat) (nx:Int) (B:Nat) (n:Int) (hnx:0≤nx∧nx≤4294967295) (hB:B<18446744073709551616) (sec:List Int) (pl mg:Nat) (hsec:sec.length=32) (w:World) (hg:w.heap[g]? = some (.cells (cat [#[.int .i64 nx],#[.int .u64 (B:Int)],ints .u8 (sec),#[.int .i64 (pl:Int)],#[.map (some mg)]]) 100)) (hc:chkW nx B n=0) (hn:0≤n∧n<4294967295) (a:Nat) (ha:n-(nx-1)=(a:Int)) (ha1:1≤a):Calls Tryz.prog 81 #[pp g 0,.int .i64 n] w (fun e w'=>e=.returned .nilIface∧ExtB g w w'∧w'.heap[g]? = some (.cells (cat [#[.int .i64 (n+1)],#[.int .u64 ((B*2^a%18446744073709551616|||1*2^(a-1)%18446744073709551616:Nat):Int)],ints .u8 (sec),#[.int .i64 (pl:Int)],#[.map (some mg)]]) 100)):=by
  refine enter 48 [(0,pp g 0),(1,.int .i64 n)] Tryz.func81 rfl rfl kj rfl <| sgB kj <| wp_seq_k fun K3 hK3=>sgC fun K4 hK4=>sg 2 kj <| Qao (.nilIface) 79 #[pp g 0,.int .i64 n] 9 rfl kj kj (Qd6 hc▸QkL g nx B n hnx hB sec pl mg hsec _ hg) fun W1 e1=>sg 1 kj <| sgN hK4 <| sgB kj <| cond_false kj ?_
  refine wp_skip <| hK3 _ _ <| sgC fun K6 hK6=>sg 2 kj ?_
  have r1_1:=(Qaa hg e1)
  refine Qao (.int .i64 (nx-1)) 82 #[pp g 0] 15 rfl kj kj (QcN g nx B hnx hB sec pl mg hsec _ r1_1) fun W2 e2=>sv (.int .i64 ((a:Int))) 16 (Qac (u:=.int .i64 (zaa.wrap (n-(nx-1)))) kj (congrArg (zag .i64) (by rw [ha]; exact QbM _ oo))) ?_
  refine sg 1 kj <| sgN hK6 <| wp_seq_k fun K7 hK7=>sgC fun K8 hK8=>sg 1 kj <| sv (.bool false) 18 (Qac (u:=.bool (decide ((a:Int)<0))) kj (congrArg zah (decide_eq_false oo))) <| sgN hK8 <| cond_false kj <| wp_skip <| hK7 _ _ ?_
  refine wp_seq_k fun K9 hK9=>Qba 13 [⟨none,[(0,none)]⟩,⟨none,[(0,none)]⟩,⟨none,[(31,some 1)]⟩,⟨none,[(32,some 2)]⟩,⟨none,[(33,some 3)]⟩,⟨none,[(6,none)]⟩,⟨none,[(34,some 4),(35,some 5)]⟩,⟨none,[(6,none)]⟩,⟨none,[(37,some 7)]⟩,⟨none,[(38,some 8)]⟩,⟨none,[(36,some 6),(39,some 9)]⟩,⟨none,[(30,some 0)]⟩,⟨none,[(41,some 11)]⟩] kj kj fun F hF=>Qar (pp g 0) kj kj (fun _=>kj) <| Qar (pp g 0) kj kj (fun _=>kj) <| Qar (pp g 0) kj kj (fun _=>kj) <| Qar (pp g 1) kj kj (fun _=>kj) ?_
  have r1_2:=(Qaa r1_1 e2)
  refine QaK (.int .u64 (B:Int)) kj kj (fun W hR=>(Qab 93 _ g 1 100 _ (.int .u64 (B:Int)) _ (Qaa (Qaa r1_2 (Qan _)) hR) rfl kj (Qap [#[.int .i64 nx]] [#[.int .u64 (B:Int)]] [ints .u8 (sec),#[.int .i64 (pl:Int)],#[.map (some mg)]] 1 kj 0 _ rfl) kj)) <| Qar (.int .i64 ((a:Int))) kj kj (fun _=>kj) <| Qar (.int .u64 ((B*2^a%18446744073709551616:Nat):Int)) kj kj (fun W=>(QaO .shl _ _ _ _ .u64 .i64 _ _ _ rfl kj kj (Qef _ _ _ _ _ _ oo (shlB B a)))) <| Qar (.int .i64 ((a:Int))) kj kj (fun _=>kj) <| Qar (.int .i64 ((a-1:Nat):Int)) kj kj (fun W=>(Qac (u:=.int .i64 (zaa.wrap ((a:Int)-1))) kj (congrArg (zag .i64) (by rw [show ((a-1:Nat):Int)=(a:Int)-1 by omega]; exact QbM _ oo)))) ?_
  refine Qar (.int .u64 (((1*2^(a-1)%18446744073709551616:Nat):Int))) kj kj (fun W=>(QaO .shl _ _ _ _ .u64 .i64 _ _ _ rfl kj kj (Qef _ _ _ _ _ _ oo (shlB 1 (a-1))))) <| Qar (.int .u64 (((B*2^a%18446744073709551616|||1*2^(a-1)%18446744073709551616:Nat):Int))) kj kj (fun W=>(Qac (u:=.int .u64 (bits .or .u64 ((B*2^a%18446744073709551616:Nat):Int) (((1*2^(a-1)%18446744073709551616:Nat):Int)))) kj (congrArg (zag .u64) (orB _ _ (zal _ dd) (zal _ dd))))) <| Qar (pp g 0) kj kj (fun _=>kj) <| Qar (pp g 1) kj kj (fun _=>kj) <| Qbh (hF _ kj fun W3 e3=>?_)
  simp only [ups,up,Kn.val,zan,zao,zap,zaq,zar,zas]
  clear hF
  have r1_3:=(Qaa r1_2 e3)
  refine Qag g _ (cat [#[.int .i64 nx],#[.int .u64 (((B*2^a%18446744073709551616|||1*2^(a-1)%18446744073709551616:Nat):Int))],ints .u8 (sec),#[.int .i64 (pl:Int)],#[.map (some mg)]]) 100 r1_3 rfl kj (run_storeQ 93 _ _ g 1 100 [#[.int .i64 nx]] [ints .u8 (sec),#[.int .i64 (pl:Int)],#[.map (some mg)]] _ (.int .u64 (((B*2^a%18446744073709551616|||1*2^(a-1)%18446744073709551616:Nat):Int))) r1_3 rfl kj kj kj kj rfl rfl) fun W4 p4 r1_4=>sgN hK9 <| sgC fun K10 hK10=>sg 2 kj <| sv (.int .i64 (n+1)) 45 (Qac (u:=.int .i64 (zaa.wrap (n+1))) kj (congrArg (zag .i64) (QbM _ oo))) <| sg 2 kj <| Qag g _ (cat [#[.int .i64 (n+1)],#[.int .u64 (((B*2^a%18446744073709551616|||1*2^(a-1)%18446744073709551616:Nat):Int))],ints .u8 (sec),#[.int .i64 (pl:Int)],#[.map (some mg)]]) 100 r1_4 rfl kj (run_storeQ 3 _ _ g 0 100 [] [#[.int .u64 (((B*2^a%18446744073709551616|||1*2^(a-1)%18446744073709551616:Nat):Int))],ints .u8 (sec),#[.int .i64 (pl:Int)],#[.map (some mg)]] _ (.int .i64 (n+1)) r1_4 rfl kj kj kj kj rfl rfl) fun W5 p5 r1_5=>sgN hK10 <| sgB kj <| wp_ret ?_
  with_reducible repeat first | refine goR1 ?_ | refine goR2 ?_
  exact (show bodyPost _ _ _ .ret _ _ from ret1 (.nilIface) rfl (Qax kj) ⟨rfl,(zbl (zbl (zbk (zbk (zbk (zbj g w) e1) e2) e3) p4) p5),r1_5⟩)
theorem extB_trans {g : Nat} {a b c:World} (h:ExtB g a b) (k:ExtB g b c):ExtB g a c:=⟨k.1.trans h.1,k.2.1.trans h.2.1,k.2.2.1.trans h.2.2.1,qT h.2.2.2.1 k.2.2.2.1,fun i hi hn=>(k.2.2.2.2 i (qL hi h.2.2.2.1) hn).trans (h.2.2.2.2 i hi hn)⟩
theorem QpO (g : Nat) (nx:Int) (B:Nat) (n:Int) (hnx:0≤nx∧nx≤4294967295) (hB:B<18446744073709551616) (sec:List Int) (pl mg:Nat) (hsec:sec.length=32) (w:World) (hg:w.heap[g]? = some (.cells (cat [#[.int .i64 nx],#[.int .u64 (B:Int)],ints .u8 (sec),#[.int .i64 (pl:Int)],#[.map (some mg)]]) 100)) (hc:chkW nx B n=0) (j:Nat) (hj:nx-1-n-1=(j:Int)) (hj2:j<64):Calls Tryz.prog 65 #[pp g 0,.int .i64 n] w (fun e w'=>e=.returned .nilIface∧ExtB g w w'∧w'.heap[g]? = some (.cells (cat [#[.int .i64 nx],#[.int .u64 ((B|||2^j:Nat):Int)],ints .u8 (sec),#[.int .i64 (pl:Int)],#[.map (some mg)]]) 100)):=by
  refine enter 13 [(0,pp g 0),(1,.int .i64 n)] Tryz.func65 rfl rfl kj rfl <| sgB kj <| wp_seq_k fun K3 hK3=>sgB kj <| cond_false kj <| wp_skip <| hK3 _ _ <| sgC fun K5 hK5=>sg 4 kj <| Qau (fun v W'=>v=.nilIface∧ExtB g w W'∧W'.heap[g]? = some (.cells (cat [#[.int .i64 nx],#[.int .u64 ((B|||2^j:Nat):Int)],ints .u8 (sec),#[.int .i64 (pl:Int)],#[.map (some mg)]]) 100)) 81 #[pp g 0,.int .i64 n] 12 rfl kj kj ((QoA g nx B n hnx hB sec pl mg hsec _ hg hc j hj hj2).mono fun e w' ⟨h1,h2,h3⟩=>⟨_,h1,rfl,h2,h3⟩) fun v W1 h=>?_
  obtain ⟨rfl,q1,r1_1⟩:=h
  refine sg 1 kj <| sgN hK5 <| wp_ret ?_
  with_reducible repeat first | refine goR1 ?_ | refine goR2 ?_
  exact (show bodyPost _ _ _ .ret _ _ from ret1 (.nilIface) rfl (Qax kj) ⟨rfl,(extB_trans (zbj g w) q1),r1_1⟩)
theorem QpN (g : Nat) (nx:Int) (B:Nat) (n:Int) (hnx:0≤nx∧nx≤4294967295) (hB:B<18446744073709551616) (sec:List Int) (pl mg:Nat) (hsec:sec.length=32) (w:World) (hg:w.heap[g]? = some (.cells (cat [#[.int .i64 nx],#[.int .u64 (B:Int)],ints .u8 (sec),#[.int .i64 (pl:Int)],#[.map (some mg)]]) 100)) (hc:chkW nx B n=0) (hn:0≤n∧n<4294967295) (a:Nat) (ha:n-(nx-1)=(a:Int)) (ha1:1≤a):Calls Tryz.prog 65 #[pp g 0,.int .i64 n] w (fun e w'=>e=.returned .nilIface∧ExtB g w w'∧w'.heap[g]? = some (.cells (cat [#[.int .i64 (n+1)],#[.int .u64 ((B*2^a%18446744073709551616|||1*2^(a-1)%18446744073709551616:Nat):Int)],ints .u8 (sec),#[.int .i64 (pl:Int)],#[.map (some mg)]]) 100)):=by
  refine enter 13 [(0,pp g 0),(1,.int .i64 n)] Tryz.func65 rfl rfl kj rfl <| sgB kj <| wp_seq_k fun K3 hK3=>sgB kj <| cond_false kj <| wp_skip <| hK3 _ _ <| sgC fun K5 hK5=>sg 4 kj <| Qau (fun v W'=>v=.nilIface∧ExtB g w W'∧W'.heap[g]? = some (.cells (cat [#[.int .i64 (n+1)],#[.int .u64 ((B*2^a%18446744073709551616|||1*2^(a-1)%18446744073709551616:Nat):Int)],ints .u8 (sec),#[.int .i64 (pl:Int)],#[.map (some mg)]]) 100)) 81 #[pp g 0,.int .i64 n] 12 rfl kj kj ((Qo9 g nx B n hnx hB sec pl mg hsec _ hg hc hn a ha ha1).mono fun e w' ⟨h1,h2,h3⟩=>⟨_,h1,rfl,h2,h3⟩) fun v W1 h=>?_
  obtain ⟨rfl,q1,r1_1⟩:=h
  refine sg 1 kj <| sgN hK5 <| wp_ret ?_
  with_reducible repeat first | refine goR1 ?_ | refine goR2 ?_
  exact (show bodyPost _ _ _ .ret _ _ from ret1 (.nilIface) rfl (Qax kj) ⟨rfl,(extB_trans (zbj g w) q1),r1_1⟩)
end Cn
end
section
namespace Wm
open Go Go.RowKit
open Rely Auto
variable {P : Program} {ops : Array Oper} {Q : Exit → Act → World → Prop}
def allM (P : Program) (ops:Array Oper) (Q:Exit→Act→World→Prop) (Rd:World→Prop) (m:Nat):Nat→Array Bool→Act→World→Prop
  | 0,listed,a,w=>zat .any ops listed=[]∧Q .normal a w
  | fuel+1,listed,a,w=>(zat .any ops listed=[]→Q .normal a w)∧∀ i∈zat .any ops listed,wpOp P ops Q i (fun a' w'=>(i≠m→Rd w')∧allM P ops Q Rd m fuel (listed.setIfInBounds i true) a' w') a w
theorem Qi5 {Rd : World→Prop} {m:Nat}:∀ (fuel:Nat) (listed:Array Bool) (a:Act) (w:World),allM P ops Q Rd m fuel listed a w→wpAny P .any ops Q fuel listed a w
  | 0,_,_,_,h=>h
  | _+1,_,_,_,h=>⟨h.1,fun i hi=>wpOp_mono (fun a w h=>Qi5 _ _ a w h.2) (h.2 i hi)⟩
def Qc6 (P : Program) (ops:Array Oper) (Rd:World→Prop) (o:Oper) (v:Value) (a:Act):Prop :=
  (zau o (yielded ops a.tmps)=true∧∀ w,Rd w→(execOp a.eval o).run P w=.ok (.value v) w)∨(zau o (yielded ops a.tmps)=false∧v=undef)
theorem Qc6.wpOp {Rd : World→Prop} {i:Nat} {o:Oper} {v:Value} {a:Act} (hi:ops[i]? = some o) (hy:Qc6 P ops Rd o v a) {K:Act→World→Prop} {w:World} (hw:Rd w) (h:K (a.put o.dst v) w):wpOp P ops Q i K a w:=by
  unfold Go.wpOp
  simp only [hi]
  rcases hy with ⟨hw1,hv⟩ | ⟨hw1,rfl⟩
  · simp only [hw1,if_true,Oper.wp,hv w hw,Oper.upon]; exact .inl h
  · simp only [hw1,Bool.false_eq_true,if_false]; exact h
theorem Qc6.same {Rd : World→Prop} {o:Oper} {v:Value} {a a':Act} (hy:Qc6 P ops Rd o v a) (he:execOp a'.eval o=execOp a.eval o) (hw:zau o (yielded ops a'.tmps)=zau o (yielded ops a.tmps)):Qc6 P ops Rd o v a':=by
  unfold Qc6 at *
  rw [he,hw]
  exact hy
theorem Qnd {Rd : World→Prop} {j:Nat} {oi oj:Oper} {v:Value} (hj:ops[j]? = some oj) (hap:oi.apart ops oj=true) (hsi:∀ cs b,oi.op≠.select cs b) (hsj:∀ cs b,oj.op≠.select cs b)
    (hQ:∀ c a w,Q (.panic c) (a.put oi.dst v) w→Q (.panic c) a w) {K:Act→World→Prop} {a:Act} {w:World} (hy:Qc6 P ops Rd oi v a) (h:wpOp P ops Q j K (a.put oi.dst v) w) :
    wpOp P ops Q j (fun a' w'=>Qc6 P ops Rd oi v a'∧K (a'.put oi.dst v) w') a w:=by
  obtain ⟨h1,h2,h3⟩:=Oper.apart_spec hap
  have keep:∀ (a:Act),Qc6 P ops Rd oi v a→∀ u,Qc6 P ops Rd oi v (a.put oj.dst u):=fun a hy u=>hy.same (execOp_put oi hsi a oj.dst u h3) (wanted_put oi a oj.dst u h3)
  have keepD:∀ d,Qc6 P ops Rd oi v { a with defers:=d::a.defers }:=fun d=>hy.same rfl rfl
  unfold wpOp at *
  simp only [hj] at *
  rw [wanted_put oj a oi.dst v h1] at h
  split
  · rename_i hw
    simp only [hw,if_true] at h
    rcases h with h | ⟨hasks,hlets⟩
    case inr=>exact .inr ⟨by unfold Oper.asks at *; rw [execOp_put oj hsj a oi.dst v h1] at hasks; exact hasks,hlets⟩
    refine .inl ?_
    unfold Oper.wp at *
    rw [execOp_put oj hsj a oi.dst v h1] at h
    generalize (execOp a.eval oj).run P w=r at *
    cases r with
    | ok n w' =>
      cases n <;> simp only [Oper.upon] at h ⊢
      case value u=>exact ⟨keep a hy u,by rw [←Act.put_comm a v u h2]; exact h⟩
      case skip=>exact ⟨keep a hy _,by rw [←Act.put_comm a v undef h2]; exact h⟩
      case defer d =>
        refine ⟨keep _ (keepD d) _,?_⟩
        rw [←Act.put_comm _ v undef h2,←Act.put_defers]
        exact h
      case enter f args =>
        refine Calls.mono h fun e w'' he=>?_
        cases e with
        | returned u=>exact ⟨keep a hy u,by rw [←Act.put_comm a v u h2]; exact he⟩
        | panicked c=>exact hQ _ _ _ he
        | outgrown=>exact he
      case row row args=>exact Rows.mono h fun u w'' he=>⟨keep a hy u,by rw [←Act.put_comm a v u h2]; exact he⟩
    | halt x w' =>
      cases x <;> simp only [Oper.upon] at h ⊢
      case panic u=>exact hQ _ _ _ h
  · rename_i hw
    simp only [hw] at h
    exact ⟨keep a hy _,by rw [←Act.put_comm a v undef h2]; exact h⟩
theorem Qjq {Rd : World→Prop} {m:Nat} {i:Nat} {oi:Oper} {v:Value} (hi:ops[i]? = some oi) (hsel:∀ (j:Nat) (o:Oper) cs b,ops[j]? = some o→o.op≠.select cs b) (him:i≠m) (hwait:∃ om e,ops[m]? = some om∧e∈om.after∧zav .any e=true∧e.on=i) (hQ:∀ c a w,Q (.panic c) (a.put oi.dst v) w→Q (.panic c) a w) :
    ∀ (fuel:Nat) (listed:Array Bool) (a:Act) (w:World),Rd w →
      (∀ j oj,ops[j]? = some oj→j≠i→listed.getD j true=false→(∀ e∈oj.after,zav .any e=true→e.on≠i)→oi.apart ops oj=true) →
      i∈zat .any ops listed→Qc6 P ops Rd oi v a→allM P ops Q Rd m fuel (listed.setIfInBounds i true) (a.put oi.dst v) w→allM P ops Q Rd m (fuel+1) listed a w:=by
  intro fuel
  induction fuel with
  | zero =>
    intro listed a w hw _ hr hy H
    refine ⟨fun h=>(by rw [h] at hr; cases hr),fun j hj=>?_⟩
    by_cases hji:j=i
    · subst hji; exact hy.wpOp hi hw ⟨fun _=>hw,H⟩
    · have:=ready_mono hj hji
      rw [H.1] at this
      cases this
  | succ fuel ih =>
    intro listed a w hw hfree hr hy H
    refine ⟨fun h=>(by rw [h] at hr; cases hr),fun j hj=>?_⟩
    by_cases hji:j=i
    · subst hji; exact hy.wpOp hi hw ⟨fun _=>hw,H⟩
    · have h1:=H.2 j (ready_mono hj hji)
      obtain ⟨hjun,oj,hoj,hall⟩:=mem_ready.1 hj
      have hnot:∀ e∈oj.after,zav .any e=true→e.on≠i:=fun e he hb heq=>by
        have h1:=hall e he hb
        have h0:=(mem_ready.1 hr).1
        rw [heq] at h1
        rcases zaf i listed.size with h' | h'
        · simp [h'] at h0 h1; rw [h0] at h1; cases h1
        · simp [zaw h'] at h1
      have hjm:j≠m:=fun q=>by
        subst q
        obtain ⟨om,e,hom,he,hb,heq⟩:=hwait
        rw [hoj] at hom
        exact hnot e (Option.some.inj hom▸he) hb heq
      have h2:=Qnd hoj (hfree j oj hoj hji hjun hnot) (fun cs b=>hsel i oi cs b hi) (fun cs b=>hsel j oj cs b hoj) hQ hy h1
      have hfree':∀ k ok,ops[k]? = some ok→k≠i→(listed.setIfInBounds j true).getD k true=false→(∀ e∈ok.after,zav .any e=true→e.on≠i)→oi.apart ops ok=true:=fun k ok hk hki hun hno=>by
        refine hfree k ok hk hki ?_ hno
        by_cases hjk:j=k
        · subst hjk; exact hjun
        · rw [getD_set_ne true hjk] at hun; exact hun
      refine wpOp_mono (fun a' w' h3=>⟨fun _=>h3.2.1 hjm,ih (listed.setIfInBounds j true) a' w' (h3.2.1 hjm) hfree' (ready_mono hr (Ne.symm hji)) h3.1 ?_⟩) h2
      rw [zax _ _ hji]
      exact h3.2.2
structure WM (P : Program) (ops : Array Oper) (Q : Exit → Act → World → Prop) (Rd : World → Prop) (m fuel : Nat) (listed : Array Bool) (a : Act) (w : World) : Prop where
  out:Rd w→allM P ops Q Rd m fuel listed a w
variable {o : Oper} {N : Nat} {L : Env} {w V : World} {ds : List Deferred} {fuel : Nat} {listed : Array Bool} {k m : Nat} {a : Act} {Rd : World → Prop}
theorem region_walkM {id : Nat} {l:List Oper} (Rd:World→Prop) (m:Nat) (hm:P.follows .mixedOrders=true) (h:∀ W,Ext w W→Rd W∧WM P l.toArray Q Rd m l.length (zay l.length false) (Qav ds N L) W):(Code.region id l.toArray true).wp P Q (Qav ds N L) w:=by
  refine wp_region_any hm ?_
  obtain ⟨h1,h2⟩:=h w.drew (Qan w)
  have:=Qi5 _ _ _ _ (h2.out h1)
  simpa using this
def waits (ops : Array Oper) (m k:Nat):Bool:=match ops[m]? with | some om=>om.after.any (fun e=>zav .any e&&e.on==k) | none=>false
theorem QiD (h : waits ops m k=true):∃ om e,ops[m]? = some om∧e∈om.after∧zav .any e=true∧e.on=k:=by
  unfold waits at h
  split at h
  · rename_i om ho
    obtain ⟨i,hi,h1⟩:=Array.any_eq_true.1 h
    simp only [Bool.and_eq_true,beq_iff_eq] at h1
    exact ⟨om,_,ho,Array.getElem_mem hi,h1.1,h1.2⟩
  · cases h
theorem wm_val (k : Nat) (v:Value) (d:Nat) (ho:ops[k]? = some o) (hd:o.dst=some d) (hg:Qbp ops o N L=some true) (hc:(zaz ops&&Region.free .any ops listed k&&(zat .any ops listed).contains k)=true) (hkm:k≠m) (hwt:waits ops m k=true)
    (hQ:∀ c a w,Q (.panic c) (a.put o.dst v) w→Q (.panic c) a w) (h:∀ W,Rd W→(execOp (Rely.look (envN N L)) o).run P W=.ok (.value v) W) (kk:WM P ops Q Rd m fuel (listed.setIfInBounds k true) (Qav ds N ((d,v)::L)) w):WM P ops Q Rd m (fuel+1) listed (Qav ds N L) w:=by
  simp only [Bool.and_eq_true] at hc
  refine ⟨fun hw=>Qjq ho (za0 hc.1.1) hkm (QiD hwt) hQ fuel listed _ w hw (za1 ho hc.1.2) (by simpa using hc.2) (.inl ⟨Qb1 hg,fun W hW=>?_⟩) ?_⟩
  · rw [QaZ]; exact h W hW
  · rw [hd,QaS]; exact kk.out hw
theorem wm_call (k : Nat) (hr:zat .any ops listed=[k]) (ho:ops[k]? = some o) (R:Value→World→Prop) (f:FuncId) (args:Array Value) (d:Nat) (hd:o.dst=some d) (hg:Qbp ops o N L=some true)
    (h:(execOp (Rely.look (envN N L)) o).run P w=.ok (.enter f args) w) (hc:Calls P f args w fun e w'=>∃ v,e=.returned v∧R v w') (hR:∀ v W,R v W→Rd W) (kk:∀ (v:Value) (W:World),R v W→WM P ops Q Rd m fuel (listed.setIfInBounds k true) (Qav ds N ((d,v)::L)) W):WM P ops Q Rd m (fuel+1) listed (Qav ds N L) w:=by
  refine ⟨fun _=>⟨fun h0=>(by rw [hr] at h0; cases h0),fun i hi=>?_⟩⟩
  rw [hr] at hi
  obtain rfl:i=k:=by simpa using hi
  unfold wpOp
  rw [ho]
  simp only [Qb1 hg,if_true]
  refine .inl ?_
  unfold Oper.wp
  rw [QaZ,h]
  refine hc.mono ?_
  rintro e w' ⟨v,rfl,hw⟩
  show _∧allM _ _ _ _ _ _ _ _ _
  rw [hd,QaS]
  exact ⟨fun _=>hR v w' hw,(kk v w' hw).out (hR v w' hw)⟩
theorem wm_run (k : Nat) (hr:zat .any ops listed=[k]) (ho:ops[k]? = some o) (R:Value→World→Prop) (d:Nat) (hd:o.dst=some d) (hg:Qbp ops o N L=some true) (h:∃ v W,(execOp (Rely.look (envN N L)) o).run P w=.ok (.value v) W∧R v W) (hR:∀ v W,R v W→Rd W)
    (kk:∀ (v:Value) (W:World),R v W→WM P ops Q Rd m fuel (listed.setIfInBounds k true) (Qav ds N ((d,v)::L)) W):WM P ops Q Rd m (fuel+1) listed (Qav ds N L) w:=by
  obtain ⟨v,W,h1,h2⟩:=h
  refine ⟨fun _=>⟨fun h0=>(by rw [hr] at h0; cases h0),fun i hi=>?_⟩⟩
  rw [hr] at hi
  obtain rfl:i=k:=by simpa using hi
  unfold wpOp
  rw [ho]
  simp only [Qb1 hg,if_true]
  refine .inl ?_
  unfold Oper.wp
  rw [QaZ,h1]
  show _∧allM _ _ _ _ _ _ _ _ _
  rw [hd,QaS]
  exact ⟨fun _=>hR v W h2,(kk v W h2).out (hR v W h2)⟩
theorem wm_last (hr : zat .any ops listed=[m]) (hr2:zat .any ops (listed.setIfInBounds m true)=[]) (ho:ops[m]? = some o) (R:World→Prop) (hd:o.dst=none) (hg:Qbp ops o N L=some true) (h:∃ W,(execOp (Rely.look (envN N L)) o).run P w=.ok .skip W∧R W)
    (kk:∀ W,R W→Q .normal (Qav ds N L) W):WM P ops Q Rd m (fuel+1) listed (Qav ds N L) w:=by
  obtain ⟨W,h1,h2⟩:=h
  refine ⟨fun _=>⟨fun h0=>(by rw [hr] at h0; cases h0),fun i hi=>?_⟩⟩
  rw [hr] at hi
  obtain rfl:i=m:=by simpa using hi
  unfold wpOp
  rw [ho]
  simp only [Qb1 hg,if_true]
  refine .inl ?_
  unfold Oper.wp
  rw [QaZ,h1]
  show _∧allM _ _ _ _ _ _ _ _ _
  rw [hd,show (Qav ds N L).put none undef=Qav ds N L from rfl]
  refine ⟨fun q=>absurd rfl q,?_⟩
  cases fuel with
  | zero=>exact ⟨hr2,kk W h2⟩
  | succ n=>exact ⟨fun _=>kk W h2,by rw [hr2]; simp⟩
theorem wm_store (g : Nat) (old cs:Array Value) (t:TypeId) (hgr:w.heap[g]? = some (.cells old t)) (hr:zat .any ops listed=[m]) (hr2:zat .any ops (listed.setIfInBounds m true)=[]) (ho:ops[m]? = some o) (hd:o.dst=none) (hg:Qbp ops o N L=some true) (h:(execOp (Rely.look (envN N L)) o).run P w=.ok .skip (w.setRow g cs))
    (kk:∀ W,Puts w g W→W.heap[g]? = some (.cells cs t)→Q .normal (Qav ds N L) W):WM P ops Q Rd m (fuel+1) listed (Qav ds N L) w :=
  wm_last hr hr2 ho (fun W=>Puts w g W∧W.heap[g]? = some (.cells cs t)) hd hg ⟨_,h,Qbe _ _ _,setRow_heap _ _ _ _ _ _ hgr⟩ fun W hh=>kk W hh.1 hh.2
end Wm
end
section
namespace Cn
open Go Go.RowKit
open Rely Auto Own Sha
theorem Qgu (pl : Nat→Option (Nat×Nat)):∀ (ps:List (Nat×Nat×Value×Array Value)) (pre:List (Array Value)) (rest:Array Value) (off:Nat),(cat pre).size=off→okPl pl off ps→tot ps=rest.size →
    Instr.fill pl (cat pre++rest) (ps.map fun x=>(x.1,x.2.2.1))=some (cat (pre++ps.map fun x=>x.2.2.2))
  | [],pre,rest,off,_,_,ht=>by
    have:rest=#[]:=Array.eq_empty_of_size_eq_zero ht.symm
    subst this
    simp [Instr.fill]
  | (i,n,v,p)::r,pre,rest,off,hoff,⟨h1,h2,h3,h4⟩,ht=>by
    subst h2
    have hn:n≤rest.size:=by rw [←ht,tot]; omega
    simp only [za2,Instr.fill,h1,h3]
    rw [if_neg (by simp; omega)]
    have hz:(v.cells.zipIdx.foldl (fun cs (x:Value×Nat)=>cs.setIfInBounds (off+x.2) x.1) (cat pre++rest))=cat (pre++[v.cells])++rest.extract n rest.size:=by
      have e1:v.cells.zipIdx=(v.cells.toList.zipIdx 0).toArray:=by
        apply za3
        simp
      rw [e1,za4,QcO]
      · have e2:rest=rest.extract 0 n++rest.extract n rest.size:=by
          rw [Array.extract_append_extract,Nat.max_eq_right hn]
          simp
        have e3:(cat pre++rest)=cat (pre++([rest.extract 0 n]++[rest.extract n rest.size])):=by
          rw [QaG]
          congr 1
        rw [Nat.add_zero,e3]
        have:=Qd8 pre [rest.extract 0 n] [v.cells] [rest.extract n rest.size] off hoff (by show v.cells.size=(rest.extract 0 n).size; simp; omega)
        rw [show (cat [v.cells]).toList=v.cells.toList from rfl] at this
        rw [this,←za5,QaG (pre++[v.cells])]
        rfl
      · rfl
    have key:=Qgu pl r (pre++[v.cells]) (rest.extract n rest.size) (off+n) (by rw [QaG]; show (cat pre++v.cells).size=_; simp; omega) h4 (by simp; rw [←ht,tot]; omega)
    rw [←hz] at key
    rw [za5] at key
    exact key
theorem QfD {P : Program} {ρ:Operand→Value} {o:Oper} {w:World} (t:TypeId) (parts:Array (Nat×Operand)) (z:Value) (places:Array (Nat×Nat)) (ps:List (Nat×Nat×Value×Array Value))
    (ho:o.op=.build t parts) (hv:(parts.map fun (i,x)=>(i,ρ x)).toList=ps.map fun x=>(x.1,x.2.2.1)) (hp:okPl (fun i=>places[i]?) 0 ps) (ht:tot ps=z.cells.size)
    (hz:(zeroValue t).run P w=.ok z w) (hu:P.underlying t=some (.struct (P.fieldsOf t))) (hm:((P.fieldsOf t).mapM fun f=>do pure (f.offset,←sizeOf f.type):Sem (Array (Nat×Nat))).run P w=.ok places w) :
    (execOp ρ o).run P w=.ok (.value (.agg (cat (ps.map fun x=>x.2.2.2)))) w:=by
  have:=Qgu (fun i=>places[i]?) ps [] z.cells 0 rfl hp ht
  rw [show cat []++z.cells=z.cells by simp [cat],zar] at this
  rw [←hv] at this
  have hB:(Instr.build t (parts.map fun (i,x)=>(i,ρ x))).run P w=.ok (.agg (cat (ps.map fun x=>x.2.2.2))) w:=by
    unfold Instr.build
    rw [za6,hz,za7,za6,run_underlying hu w,za7]
    show (Sem.run P _ w)=_
    rw [za6,hm,za7]
    simp only [this]
    rfl
  unfold execOp
  simp only [ho,za6,hB,za7,za8]
def sKey : ByteArray:=⟨#[107,101,121]⟩
def Qlk : ByteArray:=⟨#[110,101,120,116]⟩
def Qg9 : ByteArray:=⟨#[108,101,102,116]⟩
def Qe2 : ByteArray:=⟨#[114,105,103,104,116]⟩
theorem strl (s : ByteArray) (h:s.size≤255):(strB s).length≤255:=by rw [Qch]; exact h
theorem Qll : (strB sKey).length≤255:=strl _ dd
@[irreducible] def keyV (sec : List Int) : List Int := kx sec (Qb8 (strB sKey) [] 44) 44
@[irreducible] def nxtV (sec : List Int) : List Int := Qb7 sec (strB Qlk)
theorem QaR (sec : List Int):(keyV sec).length=44:=by unfold keyV; exact QbR _ _ _
theorem Qjb (sec : List Int):Qak (keyV sec):=by unfold keyV; exact Qip _ _ _
theorem Qdj (sec lab:List Int):Qak (Qb7 sec lab):=by
  unfold Qb7
  split
  · exact Qip _ _ _
  · exact fun x hx=>by rw [(za9.1 hx).2]; decide
theorem QeJ (sec : List Int):(nxtV sec).length=32:=by unfold nxtV; exact QdJ _ _
theorem QiV (sec : List Int):Qak (nxtV sec):=by unfold nxtV; exact Qdj _ _
def itV (sec : List Int):Nat→List Int
  | 0=>sec
  | n+1=>nxtV (itV sec n)
theorem Qa6 {sec : List Int} (h:sec.length=32):∀ n,(itV sec n).length=32
  | 0=>h
  | n+1=>QeJ _
theorem Qb6 {sec : List Int} (h:Qak sec):∀ n,Qak (itV sec n)
  | 0=>h
  | n+1=>QiV _
theorem Qeu (sec : List Int) (a:Nat):∀ b,itV (itV sec a) b=itV sec (a+b)
  | 0=>rfl
  | b+1=>by show nxtV (itV (itV sec a) b)=nxtV (itV sec (a+b)); rw [Qeu sec a b]
def QbZ (base : Nat) (num:Int) (mv:List Int) (v:Value) (W:World):Prop:=∃ u,v=.agg (cat [#[.int .i64 num],ints .u8 (mv.take 32),#[u]])∧OwnN .u8 5 base (mv.drop 32) u W
theorem QlH (k : IntKind) (xs:List Int) (n:Nat):ints k xs=cat [ints k (xs.take n),ints k (xs.drop n)]:=by
  apply za3
  simp [cat,ints,←zaA]
def mpv (p : Int×List Int):Int×Value:=(p.1,.agg (ints .u8 p.2))
def lget (ms : List (Int×List Int)) (k:Int):List Int:=((ms.find? fun p=>p.1==k).map Prod.snd).getD (zaB 44 0)
theorem Qil : ∀ (ms:List (Int×List Int)) (k:Int),mget (ms.map mpv) k (.agg (ints .u8 (zaB 44 0)))=.agg (ints .u8 (lget ms k))
  | [],k=>rfl
  | p::ms,k=>by
    unfold mget lget
    rw [za2]
    by_cases h:(p.1==k)=true
    · rw [zaC (p:=fun q:Int×Value=>q.1==k) h,zaC (p:=fun q:Int×List Int=>q.1==k) h]; rfl
    · rw [zaD (p:=fun q:Int×Value=>q.1==k) h,zaD (p:=fun q:Int×List Int=>q.1==k) h]; exact Qil ms k
def MsOk (ms : List (Int×List Int)):Prop:=∀ p∈ms,p.2.length=44∧Qak p.2
theorem QcS {ms : List (Int×List Int)} (h:MsOk ms) (k:Int):(lget ms k).length=44∧Qak (lget ms k):=by
  unfold lget
  cases hf:ms.find? (fun p=>p.1==k) with
  | none=>exact ⟨qZ,fun x hx=>by rw [(za9.1 hx).2]; decide⟩
  | some p=>exact h p (zaE hf)
theorem Qkq (sec : List Int) (tc tq:TypeId) (w:World) (hc:w.heap[4]? = some (.cells (ints .u64 QaM) tc)) (hq:w.heap[3]? = some (.cells (ints .u64 Qa5) tq)) (hsl:sec.length=32) (hsb:Qak sec):Calls Tryz.prog 64 #[.agg (ints .u8 sec)] w (Ret w (.agg (ints .u8 (keyV sec)))):=by
  refine enter 16 [(0,.agg (ints .u8 (sec)))] Tryz.func64 rfl rfl kj rfl <| sgC fun K3 hK3=>Qah (ints .u8 (sec)) 23 1 rfl kj kj fun g4 W1 l4 e1 r4_1=>?_
  have x1:=zbi (zbe w) e1
  have b4:=qT (zbe w).size l4
  refine Qah (ints .u8 (zaB 44 0)) 132 2 rfl kj kj fun g5 W2 l5 e2 r5_2=>sgN hK3 <| sgC fun K6 hK6=>sv (.agg (ints .u8 (sec))) 6 (Qae 23 _ g4 23 _ _ (Qaa r4_1 e2) rfl kj kj (isz (n:=32) kj (izT hsl))) <| Qau (fun v W'=>(fun v W=>∃ u,v=.tuple #[u,.nilIface]∧OwnN .u8 5 W2.heap.size (kx sec (Qb8 (strB sKey) [] 44) 44) u W) v W'∧Ext W2 W') 68 #[.agg (ints .u8 (sec)),.string sKey,.slice none 0 0,.int .i64 44] 7 rfl kj kj ((Qm0 sec [] sKey (.slice none 0 0) _ tc tq _ (Qaa (Qaa hc e1) e2) (Qaa (Qaa hq e1) e2) hsl hsb (fun x hx=>by cases hx) (nilrd _) 44 dd Qll dd).mono mo1) fun vv7 W3 hh7=>?_
  obtain ⟨hv7,e3⟩:=hh7
  obtain ⟨uu,rfl,huu⟩:=hv7
  obtain ⟨gu,cu,curu,rfl,-,hru,-,-,-,htu⟩:=QdU huu (by rw [QbR]; decide)
  refine sg 5 kj <| sgN hK6 <| wp_seq_k fun K8 hK8=>sgB kj <| cond_false kj <| wp_skip <| hK8 _ _ <| sgC fun K10 hK10=>sg 1 kj <| sv (pp gu 0) 14 (run_sap 132 _ 44 5 (a:=some ⟨gu,0,none⟩) (len:=(kx sec (Qb8 (strB sKey) [] 44) 44).length) (cap:=cu) rfl kj kj (by rw [QbR]; exact qR _)) ?_
  refine sv (.agg (ints .u8 (kx sec (Qb8 (strB sKey) [] 44) 44))) 15 (Qa4 132 _ gu 0 5 _ _ _ (Qaa hru (zbe W3)) rfl kj (Qhb htu) kj (isz (n:=44) kj (izT (QbR _ _ _)))) ?_
  have r5_3:=(Qaa r5_2 e3)
  refine Qag g5 _ (ints .u8 (kx sec (Qb8 (strB sKey) [] 44) 44)) 132 r5_3 rfl kj (Qaf 132 _ _ g5 132 _ _ r5_3 rfl kj kj (isz (n:=44) kj (izT (QbR _ _ _))) (eqsz (n:=44) (izT (qZ (n:=44))) (izT (QbR _ _ _))) (Qat _ _)) fun W4 p4 r5_4=>sgN hK10 <| wp_ret ?_
  with_reducible repeat first | refine goR1 ?_ | refine goR2 ?_
  exact (show bodyPost _ _ _ .ret _ _ from ret1 (.agg (ints .u8 (kx sec (Qb8 (strB sKey) [] 44) 44))) rfl (QaJ g5 132 _ r5_4 kj kj (isz (n:=44) kj (izT (QbR _ _ _)))) ⟨congrArg (fun z=>Ending.returned (.agg (ints .u8 z))) (show _=keyV sec by unfold keyV; rfl),(zbh p4 (zbi (zbi x1 e2) e3) (qT x1.size l5))⟩)
theorem nxtC (sec : List Int) (tc tq:TypeId) (w:World) (hc:w.heap[4]? = some (.cells (ints .u64 QaM) tc)) (hq:w.heap[3]? = some (.cells (ints .u64 Qa5) tq)) (hsl:sec.length=32) (hsb:Qak sec):Calls Tryz.prog 47 #[.agg (ints .u8 sec),.string Qlk] w (Ret w (.agg (ints .u8 (nxtV sec)))):=by
  unfold nxtV
  exact QhE sec Qlk tc tq w hc hq hsl hsb
theorem Qfz (sec : List Int) (tc tq:TypeId) (w:World) (hc:w.heap[4]? = some (.cells (ints .u64 QaM) tc)) (hq:w.heap[3]? = some (.cells (ints .u64 Qa5) tq)) (hsl:sec.length=32) (hsb:Qak sec):Calls Tryz.prog 63 #[.agg (ints .u8 sec)] w (Ret w (.agg (ints .u8 (nxtV sec)))):=by
  refine enter 5 [(0,.agg (ints .u8 (sec)))] Tryz.func63 rfl rfl kj rfl <| sgC fun K3 hK3=>Qah (ints .u8 (sec)) 23 1 rfl kj kj fun g4 W1 l4 e1 r4_1=>?_
  have x1:=zbi (zbe w) e1
  have b4:=qT (zbe w).size l4
  refine Qah (ints .u8 (zaB 32 0)) 23 2 rfl kj kj fun g5 W2 l5 e2 r5_2=>sgN hK3 <| sgC fun K6 hK6=>sv (.agg (ints .u8 (sec))) 3 (Qae 23 _ g4 23 _ _ (Qaa r4_1 e2) rfl kj kj (isz (n:=32) kj (izT hsl))) <| Qao (.agg (ints .u8 (nxtV sec))) 47 #[.agg (ints .u8 (sec)),.string Qlk] 4 rfl kj kj (nxtC sec tc tq _ (Qaa (Qaa hc e1) e2) (Qaa (Qaa hq e1) e2) hsl hsb) fun W3 e3=>?_
  have r5_3:=(Qaa r5_2 e3)
  refine Qag g5 _ (ints .u8 (nxtV sec)) 23 r5_3 rfl kj (Qaf 23 _ _ g5 23 _ _ r5_3 rfl kj kj (isz (n:=32) kj (izT (QeJ _))) (eqsz (n:=32) (izT (qZ (n:=32))) (izT (QeJ _))) (Qat _ _)) fun W4 p4 r5_4=>sgN hK6 <| wp_ret ?_
  with_reducible repeat first | refine goR1 ?_ | refine goR2 ?_
  exact (show bodyPost _ _ _ .ret _ _ from ret1 (.agg (ints .u8 (nxtV sec))) rfl (QaJ g5 23 _ r5_4 kj kj (isz (n:=32) kj (izT (QeJ _)))) ⟨rfl,(zbh p4 (zbi (zbi x1 e2) e3) (qT x1.size l5))⟩)
theorem Qn8 (w : World):Calls Tryz.prog 80 #[.slice none 0 0] w (Qby w (OwnN .u8 5 w.heap.size [])):=by
  refine enter 8 [(0,.slice none 0 0)] Tryz.func80 rfl rfl kj rfl <| sgB kj <| wp_seq_k fun K2 hK2=>sgB kj <| cond_true kj <| sgB kj <| wp_ret ?_
  with_reducible repeat first | refine goR1 ?_ | refine goR2 ?_
  exact (show bodyPost _ _ _ .ret _ _ from ret1 (.slice none 0 0) rfl (Qax kj) ⟨_,rfl,(zbe w),Qb5 .u8 5 _ _⟩)
theorem Qn7 (text : List Int) (ad:Addr) (cp B:Nat) (w:World) (htl:text.length≤900000000) (ht:RdK .u8 B text (.slice (some ad) text.length cp) w):Calls Tryz.prog 80 #[.slice (some ad) text.length cp] w (Qby w (OwnN .u8 5 w.heap.size text)):=by
  refine enter 8 [(0,.slice (some ad) text.length cp)] Tryz.func80 rfl rfl kj rfl <| sgB kj <| wp_seq_k fun K2 hK2=>sgB kj <| cond_false kj <| wp_skip <| hK2 _ _ <| sgC fun K4 hK4=>QaA (ints .u8 ([])) 5 0 5 rfl kj kj fun g5 W1 l5 e1 r5_1=>?_
  have x1:=zbi (zbe w) e1
  have b5:=qT (zbe w).size l5
  refine sg 1 kj <| QaH (k:=.u8) (T:=5) (xs:=[]) (ys:=text) (V:=w) 1 (.tmp 5) (.tmp 6) 41 rfl kj kj dd 7 rfl kj kj kj (Qb3 (xs:=[]) rfl l5 r5_1 dd) (RdK.ext ht x1) (by simp; omega) (zbf (zbe w) e1) fun u1 W2 f6 y2 l2=>?_
  refine sg 1 kj <| sgN hK4 <| wp_ret ?_
  with_reducible repeat first | refine goR1 ?_ | refine goR2 ?_
  exact (show bodyPost _ _ _ .ret _ _ from ret1 (u1) rfl (Qax kj) ⟨_,rfl,(Ext.low x1 l2 (zbe w).size),f6⟩)
theorem QoU (text : List Int) (v:Value) (B:Nat) (w:World) (htl:text.length≤900000000) (ht:RdK .u8 B text v w):Calls Tryz.prog 80 #[v] w (Qby w (OwnN .u8 5 w.heap.size text)):=by
  obtain ⟨a,c,rfl,h1,h2,h3,h4⟩:=id ht
  cases a with
  | none =>
    obtain rfl:=h3 rfl
    obtain rfl:text=[]:=List.length_eq_zero_iff.1 oo
    exact Qn8 w
  | some ad=>exact Qn7 text ad c B w htl ht
theorem Qp0 (k1 k2:List Int) (num:Int) (w:World) (h1:k1.length=32) (h2:k2.length=12):Calls Tryz.prog 62 #[.agg (cat [ints .u8 (k1),ints .u8 (k2)]),.int .i64 num] w (Qby w (fun v W=>∃ u,v=.agg (cat [#[.int .i64 num],ints .u8 k1,#[u]])∧OwnN .u8 5 w.heap.size k2 u W)):=by
  refine enter 12 [(0,.agg (cat [ints .u8 (k1),ints .u8 (k2)])),(1,.int .i64 num)] Tryz.func62 rfl rfl kj rfl <| sgC fun K1 hK1=>Qah (cat [ints .u8 (k1),ints .u8 (k2)]) 132 2 rfl kj kj fun g2 W1 l2 e1 r2_1=>?_
  have x1:=zbi (zbe w) e1
  have b2:=qT (zbe w).size l2
  refine Qah (cat [#[.int .i64 0],ints .u8 (zaB 32 0),#[.slice none 0 0]]) 76 4 rfl kj kj fun g3 W2 l3 e2 r3_2=>sgN hK1 <| wp_seq_k fun K4 hK4=>?_
  have r2_2:=(Qaa r2_1 e2)
  refine Wm.region_walkM (fun W=>W.heap[g2]? = some (.cells (cat [ints .u8 (k1),ints .u8 (k2)]) 132)) 7 kj fun W3 e3=>⟨Qaa r2_2 e3,?_⟩
  have x3:=zbi (zbi x1 e2) e3
  refine Wm.wm_val 0 (.int .i64 num) 5 rfl rfl kj kj dd kj (fun _ _ _ h=>h) (fun W hR=>kj) <| Wm.wm_val 1 (.slice (some ⟨g2,0,none⟩) 32 44) 6 rfl rfl kj kj dd kj (fun _ _ _ h=>h) (fun W hR=>(QbA 132 _ _ _ 0 32 44 g2 0 5 rfl kj kj kj rfl ⟨.i64,by kernel_rfl⟩ dd dd dd)) <| Wm.wm_val 2 (pp g2 0) 7 rfl rfl kj kj dd kj (fun _ _ _ h=>h) (fun W hR=>(run_sap 74 _ 32 5 (a:=some ⟨g2,0,none⟩) (len:=32) (cap:=44) rfl kj kj (qR _))) <| Wm.wm_val 3 (.agg (ints .u8 (k1))) 8 rfl rfl kj kj dd kj (fun _ _ _ h=>h) (fun W hR=>(Qa4 74 _ g2 0 132 _ _ _ hR rfl kj (Qap [] [ints .u8 (k1)] [ints .u8 (k2)] 0 kj) kj (isz (n:=32) kj (izT h1)))) <| Wm.wm_val 4 (.slice (some ⟨g2,32,none⟩) 12 12) 9 rfl rfl kj kj dd kj (fun _ _ _ h=>h) (fun W hR=>(QbA 132 _ _ _ 32 44 44 g2 0 5 rfl kj kj kj ⟨.i64,by kernel_rfl⟩ rfl dd dd dd)) ?_
  have r2_3:=(Qaa r2_2 e3)
  refine Wm.wm_call 5 kj rfl (fun v W'=>(OwnN .u8 5 W3.heap.size k2) v W'∧Ext W3 W') 80 #[.slice (some ⟨g2,32,none⟩) 12 12] 10 rfl kj kj ((QoU k2 _ _ _ (by rw [h2]; decide) (Qeq 32 h2 r2_3 (fun i hi=>QdZ [ints .u8 (k1)] [] k2 32 i (32+i) (izT h1) rfl (by rw [h2]; exact hi)) (Qaq r2_3) (qR _) dd)).mono mo1) (fun v W h=>Qaa r2_3 h.2) fun vv5 W4 hh5=>?_
  obtain ⟨hv5,e4⟩:=hh5
  obtain ⟨au,cu,rfl,-⟩:=id (zbo hv5)
  refine Wm.wm_val 6 (.agg (cat [#[.int .i64 num],ints .u8 (k1),#[.slice au k2.length cu]])) 11 rfl rfl kj kj dd kj (fun _ _ _ h=>h) (fun W hR=>(QfD 76 _ (.agg (cat [#[.int .i64 0],ints .u8 (zaB 32 0),#[.slice none 0 0]])) #[(0,1),(1,32),(33,1)] [(0,1,.int .i64 num,#[.int .i64 num]),(1,32,.agg (ints .u8 (k1)),ints .u8 (k1)),(2,1,.slice au k2.length cu,#[.slice au k2.length cu])] rfl kj ⟨kj,rfl,kj,kj,rfl,(izT h1),kj,rfl,kj,trivial⟩ kj kj kj kj)) ?_
  have r3_3:=(Qaa r3_2 e3)
  have r3_4:=(Qaa r3_3 e4)
  refine Wm.wm_store g3 _ (cat [#[.int .i64 num],ints .u8 (k1),#[.slice au k2.length cu]]) 76 r3_4 kj kj rfl rfl kj (Qaf 76 _ _ g3 76 _ _ r3_4 rfl kj kj (isz (n:=34) kj (cz1 h1)) (eqsz (n:=34) czR (cz1 h1)) (QaQ _ (by intro a ha; simp only [zaF,zaG,or_false] at ha; rcases ha with rfl | rfl | rfl; exact (Qaz _ rfl); exact (Qat _ _); exact (Qaz _ rfl)))) fun W5 p5 r3_5=>?_
  refine hK4 _ _ <| wp_ret ?_
  with_reducible repeat first | refine goR1 ?_ | refine goR2 ?_
  exact (show bodyPost _ _ _ .ret _ _ from ret1 (.agg (cat [#[.int .i64 num],ints .u8 (k1),#[.slice au k2.length cu]])) rfl (QaJ g3 76 _ r3_5 kj kj (isz (n:=34) kj (cz1 h1))) ⟨_,rfl,(zbh p5 (zbi x3 e4) (qT x1.size l3)),_,rfl,(OwnN.puts hv5 p5 (fun e=>by have h8:=OwnN.ge hv5 e; have h9:=Qaq r3_3; omega)).base x3.size⟩)
theorem Qoz (mv : List Int) (num:Int) (w:World) (hl:mv.length=44):Calls Tryz.prog 62 #[.agg (ints .u8 mv),.int .i64 num] w (Qby w (QbZ w.heap.size num mv)):=by
  rw [QlH .u8 mv 32]
  exact Qp0 (mv.take 32) (mv.drop 32) num w (by rw [zaH]; omega) (by rw [List.length_drop]; omega)
end Cn
end
section
namespace Cn
open Go Go.RowKit
open Rely Auto Own Sha
theorem Qcp {k : IntKind} {T:TypeId} {base g:Nat} {xs:List Int} {v:Value} {W:World} (h:OwnN k T base xs v W) (hg:g<base):v.ownBlock≠some g:=fun e=>by
  have:=h.ge e
  omega
theorem ownN_but {k : IntKind} {T:TypeId} {b g:Nat} {xs:List Int} {v:Value} {W W':World} (h:OwnN k T b xs v W) (q:ExtB g W W') (hn:v.ownBlock≠some g):OwnN k T b xs v W':=h.keep fun k hk=>q.2.2.2.2 k (h.lt hk) (fun e=>hn (by rw [hk,e]))
theorem Qbm {l : List Int} (h:l.length=44):(l.take 32).length=32:=by rw [zaH,h]; rfl
def chkC (nx : Int) (B pl:Nat) (n:Int):Int:=if chkW nx B n≠0 then chkW nx B n else if (pl:Int)+256<n then 12 else 0
theorem Qma (g : Nat) (nx:Int) (B:Nat) (n:Int) (hnx:0≤nx∧nx≤4294967295) (hB:B<18446744073709551616) (sec:List Int) (pl mg:Nat) (hsec:sec.length=32) (w:World) (hg:w.heap[g]? = some (.cells (cat [#[.int .i64 nx],#[.int .u64 (B:Int)],ints .u8 (sec),#[.int .i64 (pl:Int)],#[.map (some mg)]]) 100)) (hc:chkW nx B n≠0):Calls Tryz.prog 42 #[pp g 0,.int .i64 n] w (Ret w (.iface 49 (.int .i64 (chkW nx B n)))):=by
  refine enter 22 [(0,pp g 0),(1,.int .i64 n)] Tryz.func42 rfl rfl kj rfl <| sgB kj <| wp_seq_k fun K3 hK3=>sgC fun K4 hK4=>sg 4 kj <| Qao (.iface 49 (.int .i64 (chkW nx B n))) 61 #[pp g 0,.int .i64 n] 10 rfl kj kj (QhC hc▸QkW g nx B n hnx hB sec pl mg hsec _ hg) fun W1 e1=>sg 1 kj <| sgN hK4 <| sgB kj <| cond_true kj ?_
  refine sgB kj <| wp_ret ?_
  with_reducible repeat first | refine goR1 ?_ | refine goR2 ?_
  exact (show bodyPost _ _ _ .ret _ _ from ret1 (.iface 49 (.int .i64 (chkW nx B n))) rfl (Qax kj) ⟨rfl,(zbi (zbe w) e1)⟩)
theorem QlZ (g : Nat) (nx:Int) (B:Nat) (n:Int) (hnx:0≤nx∧nx≤4294967295) (hB:B<18446744073709551616) (sec:List Int) (pl mg:Nat) (hsec:sec.length=32) (w:World) (hg:w.heap[g]? = some (.cells (cat [#[.int .i64 nx],#[.int .u64 (B:Int)],ints .u8 (sec),#[.int .i64 (pl:Int)],#[.map (some mg)]]) 100)) (hc:chkW nx B n=0) (hp:pl≤4294967295) (hf:(pl:Int)+256<n):Calls Tryz.prog 42 #[pp g 0,.int .i64 n] w (Ret w (.iface 49 (.int .i64 12))):=by
  refine enter 22 [(0,pp g 0),(1,.int .i64 n)] Tryz.func42 rfl rfl kj rfl <| sgB kj <| wp_seq_k fun K3 hK3=>sgC fun K4 hK4=>sg 4 kj <| Qao (.nilIface) 61 #[pp g 0,.int .i64 n] 10 rfl kj kj (Qd6 hc▸QkW g nx B n hnx hB sec pl mg hsec _ hg) fun W1 e1=>sg 1 kj <| sgN hK4 <| sgB kj <| cond_false kj ?_
  refine wp_skip <| hK3 _ _ <| wp_seq_k fun K6 hK6=>sgC fun K7 hK7=>sg 4 kj <| sv (.int .i64 (pl:Int)) 18 (Qab 3 _ g 34 100 _ (.int .i64 (pl:Int)) _ (Qaa hg e1) rfl kj (Qap [#[.int .i64 nx],#[.int .u64 (B:Int)],ints .u8 (sec)] [#[.int .i64 (pl:Int)]] [#[.map (some mg)]] 34 (cz1 hsec) 0 _ rfl) kj) ?_
  refine sv (.int .i64 ((pl:Int)+256)) 19 (Qac (u:=.int .i64 (zaa.wrap ((pl:Int)+256))) kj (congrArg (zag .i64) (QbM _ oo))) <| sv (.bool true) 20 (Qac (u:=.bool (decide (n>((pl:Int)+256)))) kj (congrArg zah (decide_eq_true oo))) <| sgN hK7 <| cond_true kj <| sgB kj <| wp_ret ?_
  with_reducible repeat first | refine goR1 ?_ | refine goR2 ?_
  exact (show bodyPost _ _ _ .ret _ _ from ret1 (.iface 49 (.int .i64 12)) rfl (Qax kj) ⟨rfl,(zbi (zbe w) e1)⟩)
theorem QlY (g : Nat) (nx:Int) (B:Nat) (n:Int) (hnx:0≤nx∧nx≤4294967295) (hB:B<18446744073709551616) (sec:List Int) (pl mg:Nat) (hsec:sec.length=32) (w:World) (hg:w.heap[g]? = some (.cells (cat [#[.int .i64 nx],#[.int .u64 (B:Int)],ints .u8 (sec),#[.int .i64 (pl:Int)],#[.map (some mg)]]) 100)) (hc:chkW nx B n=0) (hp:pl≤4294967295) (hf:¬ (pl:Int)+256<n):Calls Tryz.prog 42 #[pp g 0,.int .i64 n] w (Ret w (.nilIface)):=by
  refine enter 22 [(0,pp g 0),(1,.int .i64 n)] Tryz.func42 rfl rfl kj rfl <| sgB kj <| wp_seq_k fun K3 hK3=>sgC fun K4 hK4=>sg 4 kj <| Qao (.nilIface) 61 #[pp g 0,.int .i64 n] 10 rfl kj kj (Qd6 hc▸QkW g nx B n hnx hB sec pl mg hsec _ hg) fun W1 e1=>sg 1 kj <| sgN hK4 <| sgB kj <| cond_false kj ?_
  refine wp_skip <| hK3 _ _ <| wp_seq_k fun K6 hK6=>sgC fun K7 hK7=>sg 4 kj <| sv (.int .i64 (pl:Int)) 18 (Qab 3 _ g 34 100 _ (.int .i64 (pl:Int)) _ (Qaa hg e1) rfl kj (Qap [#[.int .i64 nx],#[.int .u64 (B:Int)],ints .u8 (sec)] [#[.int .i64 (pl:Int)]] [#[.map (some mg)]] 34 (cz1 hsec) 0 _ rfl) kj) ?_
  refine sv (.int .i64 ((pl:Int)+256)) 19 (Qac (u:=.int .i64 (zaa.wrap ((pl:Int)+256))) kj (congrArg (zag .i64) (QbM _ oo))) <| sv (.bool false) 20 (Qac (u:=.bool (decide (n>((pl:Int)+256)))) kj (congrArg zah (decide_eq_false oo))) <| sgN hK7 <| cond_false kj <| wp_skip <| hK6 _ _ <| sgB kj <| wp_ret ?_
  with_reducible repeat first | refine goR1 ?_ | refine goR2 ?_
  exact (show bodyPost _ _ _ .ret _ _ from ret1 (.nilIface) rfl (Qax kj) ⟨rfl,(zbi (zbe w) e1)⟩)
theorem Qn9 (g : Nat) (nx:Int) (B:Nat) (n:Int) (hnx:0≤nx∧nx≤4294967295) (hB:B<18446744073709551616) (sec:List Int) (pl mg:Nat) (hsec:sec.length=32) (w:World) (hg:w.heap[g]? = some (.cells (cat [#[.int .i64 nx],#[.int .u64 (B:Int)],ints .u8 (sec),#[.int .i64 (pl:Int)],#[.map (some mg)]]) 100)) (hp:pl≤4294967295):Calls Tryz.prog 42 #[pp g 0,.int .i64 n] w (Ret w (errV (chkC nx B pl n))):=by
  unfold chkC
  by_cases hc:chkW nx B n=0
  · rw [if_neg (fun h=>h hc)]
    by_cases hf:(pl:Int)+256<n
    · rw [if_pos hf]; exact QlZ g nx B n hnx hB sec pl mg hsec w hg hc hp hf
    · rw [if_neg hf]; exact QlY g nx B n hnx hB sec pl mg hsec w hg hc hp hf
  · rw [if_pos hc,QhC hc]; exact Qma g nx B n hnx hB sec pl mg hsec w hg hc
theorem Qmz (g : Nat) (nx:Int) (B:Nat) (hnx:0≤nx∧nx≤4294967295) (hB:B<18446744073709551616) (sec:List Int) (pl mg:Nat) (hsec:sec.length=32) (w:World) (hg:w.heap[g]? = some (.cells (cat [#[.int .i64 nx],#[.int .u64 (B:Int)],ints .u8 (sec),#[.int .i64 (pl:Int)],#[.map (some mg)]]) 100)) (ms:List (Int×List Int)) (hmo:MsOk ms) (hmp:MpAt mg (ms.map mpv) w) (tc tq:TypeId) (hc:w.heap[4]? = some (.cells (ints .u64 QaM) tc)) (hq:w.heap[3]? = some (.cells (ints .u64 Qa5) tq)) (hsb:Qak sec) (n:Int) (hn:n<(pl:Int)):Calls Tryz.prog 43 #[pp g 0,.int .i64 n] w (Qby w (QbZ w.heap.size n (lget ms n))):=by
  obtain ⟨es5,cl5,hes5,hM5⟩:=id hmp
  refine enter 39 [(0,pp g 0),(1,.int .i64 n)] Tryz.func43 rfl rfl kj rfl <| sgC fun K6 hK6=>Qah (cat [#[.int .i64 0],ints .u8 (zaB 32 0),#[.slice none 0 0]]) 76 4 rfl kj kj fun g7 W1 l7 e1 r7_1=>?_
  have x1:=zbi (zbe w) e1
  refine sgN hK6 <| wp_seq_k fun K8 hK8=>sgC fun K9 hK9=>sg 4 kj ?_
  have r1_1:=(Qaa hg e1)
  refine sv (.int .i64 (pl:Int)) 10 (Qab 3 _ g 34 100 _ (.int .i64 (pl:Int)) _ r1_1 rfl kj (Qap [#[.int .i64 nx],#[.int .u64 (B:Int)],ints .u8 (sec)] [#[.int .i64 (pl:Int)]] [#[.map (some mg)]] 34 (cz1 hsec) 0 _ rfl) kj) ?_
  refine sv (.bool true) 11 (Qac (u:=.bool (decide (n<(pl:Int)))) kj (congrArg zah (decide_eq_true oo))) <| sgN hK9 <| cond_true kj <| sgC fun K10 hK10=>sg 3 kj <| sv (.map (some mg)) 15 (Qab 98 _ g 35 100 _ (.map (some mg)) _ r1_1 rfl kj (Qap [#[.int .i64 nx],#[.int .u64 (B:Int)],ints .u8 (sec),#[.int .i64 (pl:Int)]] [#[.map (some mg)]] [] 35 (cz1 hsec) 0 _ rfl) kj) ?_
  refine sg 1 kj <| sv (.agg (ints .u8 (lget ms n))) 17 (Qil ms n▸QjC (kt:=3) (et:=132) (ms:=ms.map mpv) (n:=n) (z:=.agg (ints .u8 (zaB 44 0))) 98 _ _ rfl kj kj kj kj ⟨_,_,(Qaa hes5 e1),hM5⟩ kj) <| sg 1 kj <| Qau (fun v W'=>(QbZ W1.heap.size n (lget ms n)) v W'∧Ext W1 W') 62 #[.agg (ints .u8 (lget ms n)),.int .i64 n] 19 rfl kj kj ((Qoz (lget ms n) n _ (QcS hmo n).1).mono mo1) fun vv11 W2 hh11=>?_
  obtain ⟨hv11,e2⟩:=hh11
  obtain ⟨u12,rfl,hu12⟩:=hv11
  obtain ⟨a12_,c12_,rfl,-⟩:=id (zbo hu12)
  have r7_2:=(Qaa r7_1 e2)
  refine Qag g7 _ (cat [#[.int .i64 n],ints .u8 ((lget ms n).take 32),#[.slice a12_ (((lget ms n).drop 32).length) c12_]]) 76 r7_2 rfl kj (Qaf 76 _ _ g7 76 _ _ r7_2 rfl kj kj (isz (n:=34) kj (cz1 (Qbm (QcS hmo n).1))) (eqsz (n:=34) czR (cz1 (Qbm (QcS hmo n).1))) (QaQ _ (by intro a ha; simp only [zaF,zaG,or_false] at ha; rcases ha with rfl | rfl | rfl; exact (Qaz _ rfl); exact (Qat _ _); exact (Qaz _ rfl)))) fun W3 p3 r7_3=>?_
  refine sgN hK10 <| wp_ret ?_
  with_reducible repeat first | refine goR1 ?_ | refine goR2 ?_
  exact (show bodyPost _ _ _ .ret _ _ from ret1 (.agg (cat [#[.int .i64 n],ints .u8 ((lget ms n).take 32),#[.slice a12_ (((lget ms n).drop 32).length) c12_]])) rfl (QaJ g7 76 _ r7_3 kj kj (isz (n:=34) kj (cz1 (Qbm (QcS hmo n).1)))) ⟨_,rfl,(zbh p3 (zbi x1 e2) (qT (zbe w).size l7)),_,rfl,zbn x1.size (hu12.puts p3 (Qcp hu12 (Qaq r7_1)))⟩)
theorem Qmy (g : Nat) (nx:Int) (B:Nat) (hnx:0≤nx∧nx≤4294967295) (hB:B<18446744073709551616) (sec:List Int) (pl mg:Nat) (hsec:sec.length=32) (w:World) (hg:w.heap[g]? = some (.cells (cat [#[.int .i64 nx],#[.int .u64 (B:Int)],ints .u8 (sec),#[.int .i64 (pl:Int)],#[.map (some mg)]]) 100)) (ms:List (Int×List Int)) (hmo:MsOk ms) (hmp:MpAt mg (ms.map mpv) w) (tc tq:TypeId) (hc:w.heap[4]? = some (.cells (ints .u64 QaM) tc)) (hq:w.heap[3]? = some (.cells (ints .u64 Qa5) tq)) (hsb:Qak sec) (n:Nat) (hp:pl≤4294967295) (hm:n≤4294967294) (hn:pl≤n):Calls Tryz.prog 43 #[pp g 0,.int .i64 (n:Int)] w (Qby w (QbZ w.heap.size (n:Int) (keyV (itV sec (n-pl))))):=by
 obtain ⟨es5,cl5,hes5,hM5⟩:=id hmp
 refine enter 39 [(0,pp g 0),(1,.int .i64 (n:Int))] Tryz.func43 rfl rfl kj rfl <| sgC fun K6 hK6=>Qah (cat [#[.int .i64 0],ints .u8 (zaB 32 0),#[.slice none 0 0]]) 76 4 rfl kj kj fun g7 W1 l7 e1 r7_1=>?_
 have x1:=zbi (zbe w) e1
 refine sgN hK6 <| wp_seq_k fun K8 hK8=>sgC fun K9 hK9=>sg 4 kj ?_
 have r1_1:=(Qaa hg e1)
 refine sv (.int .i64 (pl:Int)) 10 (Qab 3 _ g 34 100 _ (.int .i64 (pl:Int)) _ r1_1 rfl kj (Qap [#[.int .i64 nx],#[.int .u64 (B:Int)],ints .u8 (sec)] [#[.int .i64 (pl:Int)]] [#[.map (some mg)]] 34 (cz1 hsec) 0 _ rfl) kj) ?_
 refine sv (.bool false) 11 (Qac (u:=.bool (decide ((n:Int)<(pl:Int)))) kj (congrArg zah (decide_eq_false oo))) <| sgN hK9 <| cond_false kj <| wp_skip <| hK8 _ _ <| sgC fun K10 hK10=>sg 3 kj <| sv (.agg (ints .u8 (sec))) 23 (Qa4 23 _ g 2 100 _ _ _ r1_1 rfl kj (Qap [#[.int .i64 nx],#[.int .u64 (B:Int)]] [ints .u8 (sec)] [#[.int .i64 (pl:Int)],#[.map (some mg)]] 2 kj) kj (isz (n:=32) kj (izT hsec))) <| Qah (ints .u8 (zaB 32 0)) 23 5 rfl kj kj fun g11 W2 l11 e2 r11_2=>?_
 have b11:=qT x1.size l11
 refine Qag g11 _ (ints .u8 (sec)) 23 r11_2 rfl kj (Qaf 23 _ _ g11 23 _ _ r11_2 rfl kj kj (isz (n:=32) kj (izT hsec)) (eqsz (n:=32) (izT (qZ (n:=32))) (izT hsec)) (Qat _ _)) fun W3 p3 r11_3=>sgN hK10 <| wp_seq_k fun K12 hK12=>sgC fun K13 hK13=>sg 4 kj <| sv (.int .i64 (pl:Int)) 28 (Qab 3 _ g 34 100 _ (.int .i64 (pl:Int)) _ (rpn p3 r1_1 e2 l11) rfl kj (Qap [#[.int .i64 nx],#[.int .u64 (B:Int)],ints .u8 (sec)] [#[.int .i64 (pl:Int)]] [#[.map (some mg)]] 34 (cz1 hsec) 0 _ rfl) kj) ?_
 refine sv (.int .i64 ((n-pl:Nat):Int)) 29 (Qac (u:=.int .i64 (zaa.wrap ((n:Int)-(pl:Int)))) kj (congrArg (zag .i64) ((QbM _ oo).trans oo))) <| sg 1 kj <| sgN hK13 <| wp_block <| Qa3 (fun (s1:Nat)=>[(0,pp g 0),(1,.int .i64 (n:Int)),(4,pp g7 0),(5,pp g11 0),(29,.int .i64 ((n-pl:Nat):Int)),(30,.int .i64 (s1:Int))]) (fun (s1:Nat) W=>(s1≤n-pl)∧(W.heap[g11]? = some (.cells (ints .u8 (itV sec s1)) 23))∧(Qai [g11] W3 W)∧(Ext w W)) (fun (s1:Nat)=>n-pl-s1) 0 ⟨kj,kj,kj,kj,kj,kj,trivial⟩ ⟨(zaI _),r11_3,(zbp [g11] W3),(zbh p3 (zbi x1 e2) b11)⟩ fun s1 X1 V1 hI1=>?_
 obtain ⟨i,hs1⟩:∃ z,z=s1:=⟨_,rfl⟩
 subst hs1
 obtain ⟨hi,q11_1,kk1,xx1⟩:=hI1
 replace hi:i≤n-pl:=hi
 replace q11_1:V1.heap[g11]? = some (.cells (ints .u8 (itV sec i)) 23):=q11_1
 replace kk1:Qai [g11] W3 V1:=kk1
 replace xx1:Ext w V1:=xx1
 have q4:=kk1
 refine sgB kj <| wp_seq_k fun K15 hK15=>Qay (t:=decide ((i:Int)<((n-pl:Nat):Int))) kj (fun c16=>?_) (fun c16=>?_)
 ·skip
  have hlt31:i<(n-pl):=by have:=of_decide_eq_true c16; omega
  refine wp_skip <| hK15 _ _ <| wp_seq_k fun K17 hK17=>wp_block <| Qaj <| sv (.agg (ints .u8 (itV sec i))) 32 (Qae 23 _ g11 23 _ _ q11_1 rfl kj kj (isz (n:=32) kj (izT (Qa6 hsec i)))) ?_
  have r2_1:=(Qaa hc e1)
  have r2_2:=(Qaa r2_1 e2)
  have r2_3:=(zbg p3 r2_2 (Qad r2_1 l11))
  have r2_4:=(zbq q4 r2_3 (Qaw (Qad r2_1 l11) QaF))
  have r3_1:=(Qaa hq e1)
  have r3_2:=(Qaa r3_1 e2)
  have r3_3:=(zbg p3 r3_2 (Qad r3_1 l11))
  have r3_4:=(zbq q4 r3_3 (Qaw (Qad r3_1 l11) QaF))
  refine Qao (.agg (ints .u8 (itV sec (i+1)))) 63 #[.agg (ints .u8 (itV sec i))] 33 rfl kj kj (Qfz (itV sec i) tc tq _ r2_4 r3_4 (Qa6 hsec _) (Qb6 hsb _)) fun W5 e5=>?_
  have x5:=zbi xx1 e5
  have r11_5:=(Qaa q11_1 e5)
  refine Qag g11 _ (ints .u8 (itV sec (i+1))) 23 r11_5 rfl kj (Qaf 23 _ _ g11 23 _ _ r11_5 rfl kj kj (isz (n:=32) kj (izT (Qa6 hsec (i+1)))) (eqsz (n:=32) (izT (Qa6 hsec i)) (izT (Qa6 hsec (i+1)))) (Qat _ _)) fun W6 p6 r11_6=>?_
  have x6:=zbh p6 x5 b11
  refine Qas <| hK17 _ _ <| Qaj <| sv (.int .i64 ((i+1:Nat):Int)) 34 (Qac (u:=.int .i64 (zaa.wrap ((i:Int)+1))) kj (congrArg (zag .i64) (i64n _ _ oo oo))) <| sg 1 kj <| Qas ?_
  with_reducible repeat first | refine goX1 ?_ | refine goX2 ?_ | refine goX3 ?_
  exact Qa1 (i+1) ⟨kj,kj,kj,kj,kj,kj,trivial⟩ ⟨oo,r11_6,(zbs (zbr q4 e5) p6 (.inl (by simp))),x6⟩ oo
 ·skip
  have heq31:i=(n-pl):=by have:=of_decide_eq_false c16; omega
  have r11_4_18:V1.heap[g11]? = some (.cells (ints .u8 (itV sec (n-pl))) 23):=Qa9 q11_1 (by rw [heq31])
  refine wp_exit <| hK12 _ _ <| sgC fun K19 hK19=>sv (.agg (ints .u8 (itV sec (n-pl)))) 35 (Qae 23 _ g11 23 _ _ r11_4_18 rfl kj kj (isz (n:=32) kj (izT (Qa6 hsec (n-pl))))) ?_
  have r2_1:=(Qaa hc e1)
  have r2_2:=(Qaa r2_1 e2)
  have r2_3:=(zbg p3 r2_2 (Qad r2_1 l11))
  have r2_4:=(zbq q4 r2_3 (Qaw (Qad r2_1 l11) QaF))
  have r3_1:=(Qaa hq e1)
  have r3_2:=(Qaa r3_1 e2)
  have r3_3:=(zbg p3 r3_2 (Qad r3_1 l11))
  have r3_4:=(zbq q4 r3_3 (Qaw (Qad r3_1 l11) QaF))
  refine Qao (.agg (ints .u8 (keyV (itV sec (n-pl))))) 64 #[.agg (ints .u8 (itV sec (n-pl)))] 36 rfl kj kj (Qkq (itV sec (n-pl)) tc tq _ r2_4 r3_4 (Qa6 hsec _) (Qb6 hsb _)) fun W5 e5=>?_
  have x5:=zbi xx1 e5
  refine sg 1 kj <| Qau (fun v W'=>(QbZ W5.heap.size (n:Int) (keyV (itV sec (n-pl)))) v W'∧Ext W5 W') 62 #[.agg (ints .u8 (keyV (itV sec (n-pl)))),.int .i64 (n:Int)] 38 rfl kj kj ((Qoz (keyV (itV sec (n-pl))) (n:Int) _ (QaR _)).mono mo1) fun vv20 W6 hh20=>?_
  obtain ⟨hv20,e6⟩:=hh20
  have x6:=zbi x5 e6
  obtain ⟨u21,rfl,hu21⟩:=hv20
  obtain ⟨a21_,c21_,rfl,-⟩:=id (zbo hu21)
  have r7_5:=(Qaa (zbq q4 (rpn p3 r7_1 e2 l11) (Qaw (Qad r7_1 l11) QaF)) e5)
  have r7_6:=(Qaa r7_5 e6)
  refine Qag g7 _ (cat [#[.int .i64 (n:Int)],ints .u8 ((keyV (itV sec (n-pl))).take 32),#[.slice a21_ (((keyV (itV sec (n-pl))).drop 32).length) c21_]]) 76 r7_6 rfl kj (Qaf 76 _ _ g7 76 _ _ r7_6 rfl kj kj (isz (n:=34) kj (by rw [Qal,Qal,Qal]; simp only [qS,cat,(izT (Qbm (QaR _)))]; rfl)) (eqsz (n:=34) czR (by rw [Qal,Qal,Qal]; simp only [qS,cat,(izT (Qbm (QaR _)))]; rfl)) (QaQ _ (by intro a ha; simp only [zaF,zaG,or_false] at ha; rcases ha with rfl | rfl | rfl; exact (Qaz _ rfl); exact (Qat _ _); exact (Qaz _ rfl)))) fun W7 p7 r7_7=>?_
  refine sgN hK19 <| wp_ret ?_
  with_reducible repeat first | refine goR1 ?_ | refine goR2 ?_
  exact (show bodyPost _ _ _ .ret _ _ from ret1 (.agg (cat [#[.int .i64 (n:Int)],ints .u8 ((keyV (itV sec (n-pl))).take 32),#[.slice a21_ (((keyV (itV sec (n-pl))).drop 32).length) c21_]])) rfl (QaJ g7 76 _ r7_7 kj kj (isz (n:=34) kj (by rw [Qal,Qal,Qal]; simp only [qS,cat,(izT (Qbm (QaR _)))]; rfl))) ⟨_,rfl,(zbh p7 x6 (qT (zbe w).size l7)),_,rfl,zbn x5.size (hu21.puts p7 (Qcp hu21 (Qaq r7_5)))⟩)
end Cn
end
section
namespace Cn
open Go Go.RowKit
open Rely Auto Own Sha
theorem nb_nil {v : Value}:∀ c∈([]:List Nat),v.ownBlock≠some c:=fun _ h=>by simp at h
theorem nb_cons {v : Value} {g:Nat} {gs:List Nat} (h:v.ownBlock≠some g) (h2:∀ c∈gs,v.ownBlock≠some c):∀ c∈g::gs,v.ownBlock≠some c:=fun c hc=>by
  rcases zaF.1 hc with e | e
  · rw [e]; exact h
  · exact h2 c e
theorem _root_.Go.Proofs.YtbonglpnkoegoaaGreatDoor.Auto.OwnN.keepsL {k : IntKind} {T:TypeId} {base:Nat} {gs:List Nat} {xs:List Int} {v:Value} {V W:World} (h:OwnN k T base xs v V) (q:Qai gs V W) (hn:∀ c∈gs,v.ownBlock≠some c):OwnN k T base xs v W :=
  h.keep fun g hg=>q.block g (h.lt hg) (fun hm=>hn g hm hg)
theorem run_extractT {P : Program} {ρ:Operand→Value} {o:Oper} {w:World} (x:Operand) (i:Nat) (vs:Array Value) (u:Value) (ho:o.op=.extract x i) (hx:ρ x=.tuple vs) (hi:vs[i]? = some u):(execOp ρ o).run P w=.ok (.value u) w:=by
  unfold execOp
  simp [ho,hx,Instr.extract,hi]
theorem nb_new {k : IntKind} {T:TypeId} {base g:Nat} {xs:List Int} {v:Value} {W:World} (h:OwnN k T base xs v W) (hg:W.heap.size≤g):v.ownBlock≠some g:=fun e=>by have:=h.lt e; omega
section
variable {P : Program} {ρ : Operand → Value} {o : Oper} {w : World}
theorem QfB (t : TypeId) (x:Operand) {kt et:TypeId} {g:Nat} {es:Array MapEntry} {clock:Nat} (ho:o.op=.range t x) (hx:ρ x=.map (some g)) (ht:P.underlying t=some (.map kt et)) (hg:w.heap[g]? = some (.map es clock)) :
    (execOp ρ o).run P w=.ok (.value (pp w.heap.size 0)) (w.alloc (.mapIter (some g) clock #[] clock)):=by
  have hgo:(getObj g).run P w=.ok (.map es clock) w:=by simp [getObj,Sem.run,hg]
  unfold execOp
  simp only [ho,hx,Instr.range,za6,run_underlying ht,hgo,za7,za8,run_newObj_alloc]
theorem QgC (x : Operand) {r:Nat} {v:Value} {w1:World} (ho:o.op=.next x false) (hx:ρ x=pp r 0) (h:(Instr.next (pp r 0) false o.type).run P w=.ok v w1):(execOp ρ o).run P w=.ok (.value v) w1:=by
  unfold execOp
  simp only [ho,hx,za6,h,za7,za8]
theorem QfC (x : Operand) {r:Nat} {v:Value} (ho:o.op=.entry x) (hx:ρ x=pp r 0) (h:(Instr.entry (pp r 0)).run P w=.ok v w):(execOp ρ o).run P w=.ok (.value v) w:=by
  unfold execOp
  simp only [ho,hx,za6,h,za7,za8]
end
section
variable {ds : List Deferred} {P : Program} {ops : Array Oper} {Q : Exit → Act → World → Prop} {rest : List Oper} {o : Oper} {N : Nat} {L : Env} {w : World}
theorem QhQ (ob : Obj) (mk:Nat→Value) (d:Nat) (hd:o.dst=some d) (hg:Qbp ops o N L=some true) (h:(execOp (Rely.look (envN N L)) o).run P w=.ok (.value (mk w.heap.size)) (w.alloc ob))
    (k:∀ (g:Nat) (W:World),w.heap.size≤g→Ext w W→W.heap[g]? = some ob→WL P ops Q rest (Qav ds N ((d,mk g)::L)) W):WL P ops Q (o::rest) (Qav ds N L) w :=
  Qbs _ _ d hd hg h (k _ _ (qR _) (Qbi _ _) (heap_alloc_new _ _))
theorem QfA (v : Value) (w':World) (hd:o.dst=none) (hg:Qbp ops o N L=some true) (h:(execOp (Rely.look (envN N L)) o).run P w=.ok (.value v) w') (k:WL P ops Q rest (Qav ds N L) w'):WL P ops Q (o::rest) (Qav ds N L) w :=
  Qf9 hg fun K hK=>by
    rw [h]
    show K _ _
    rw [hd,show (Qav ds N L).put none v=Qav ds N L from rfl]
    exact hK _ _ k
theorem QhR (m k:Operand) (t:TypeId) {kt et:TypeId} {g:Nat} {n:Int} {ms:List (Int×Value)} (ho:o.op=.call { callee:=.builtin .delete,args:=#[m,k],argTypes:=#[t,kt] }) (hm:Rely.look (envN N L) m=.map (some g)) (hk:Rely.look (envN N L) k=.int .i64 n)
    (ht:P.underlying t=some (.map kt et)) (hkt:P.underlying kt=some (.int .i64)) (h:MpAt g ms w) (hd:o.dst=none) (hg:Qbp ops o N L=some true)
    (kk:∀ W',Puts w g W'→MpAt g (ms.filter fun p=>p.1 != n) W'→WL P ops Q rest (Qav ds N L) W'):WL P ops Q (o::rest) (Qav ds N L) w:=by
  obtain ⟨W',h1,h2,h3⟩:=Qlm (ρ:=Rely.look (envN N L)) (o:=o) m k t ho hm hk ht hkt h
  exact QfA _ _ hd hg h1 (kk W' h2 h3)
theorem Qg5 (m k:Operand) (t:TypeId) {kt et:TypeId} {g r:Nat} {lim x:Int} {es0:Array MapEntry} {c:Nat} {sn:Array Nat} {e:MapEntry} {m0:List (Int×Value)} (hM:MpW es0 c m0) (ho:o.op=.call { callee:=.builtin .delete,args:=#[m,k],argTypes:=#[t,kt] }) (hm:Rely.look (envN N L) m=.map (some g)) (hk:Rely.look (envN N L) k=.int .i64 x)
    (ht:P.underlying t=some (.map kt et)) (hkt:P.underlying kt=some (.int .i64)) (h:Qd0 g r lim es0 c sn e w) (hx:e.key=.int .i64 x) (hl:x<lim) (hd:o.dst=none) (hg:Qbp ops o N L=some true)
    (kk:∀ W',Puts w g W'→Qdp g r lim es0 c (sn.push e.born) W'→WL P ops Q rest (Qav ds N L) W'):WL P ops Q (o::rest) (Qav ds N L) w:=by
  obtain ⟨W',h1,h2,h3⟩:=h.drop hM hx hl (P:=P) (ty:=o.type) ht hkt
  have hr:(execOp (Rely.look (envN N L)) o).run P w=.ok (.value (.tuple #[])) W':=QjD m k t kt ho hm hk h1
  exact QfA _ _ hd hg hr (kk W' h2 h3)
theorem Qg4 (x : Operand) {g r:Nat} {lim:Int} {es0:Array MapEntry} {c:Nat} {sn:Array Nat} {m0:List (Int×Value)} (hM:MpW es0 c m0) (ho:o.op=.next x false) (hx:Rely.look (envN N L) x=pp r 0) (h:Qdp g r lim es0 c sn w) (d:Nat) (hd:o.dst=some d) (hg:Qbp ops o N L=some true)
    (k0:MpAt g (m0.filter fun p=>decide (lim≤p.1)) w→WL P ops Q rest (Qav ds N ((d,.tuple #[.bool false])::L)) w)
    (k1:∀ (e:MapEntry) (y:Int) (W:World),e.key=.int .i64 y→Puts w r W→Qd0 g r lim es0 c sn e W→(Instr.entry (pp r 0)).run P W=.ok (.tuple #[.int .i64 y,e.val]) W→WL P ops Q rest (Qav ds N ((d,.tuple #[.bool true,.int .i64 y,e.val])::L)) W):WL P ops Q (o::rest) (Qav ds N L) w:=by
  rcases h.next hM (P:=P) o.type with ⟨h1,h2⟩ | ⟨e,y,W,h1,h2,h3,h4,h5⟩
  · exact Qbs _ _ d hd hg (QgC x ho hx h1) (k0 h2)
  · exact Qbs _ _ d hd hg (QgC x ho hx h2) (k1 e y W h1 h3 h4 h5)
end
theorem retG {P : Program} {f:FuncId} {a:Array Value} {w:World} {v:Value} (h:Calls P f a w (Ret w v)):Calls P f a w (Qby w fun u _=>u=v):=h.mono fun e W hh=>⟨v,hh.1,hh.2,rfl⟩
def msNo (ms : List (Int×List Int)) (n:Int):List (Int×List Int):=ms.filter fun p=>p.1 != n
def QiZ (ms : List (Int×List Int)) (lim:Int):List (Int×List Int):=ms.filter fun p=>decide (lim≤p.1)
def Qc4 (sec : List Int) (pl n:Nat):Nat→List (Int×List Int)
  | 0=>[]
  | k+1=>Qc4 sec pl n k++(if pl+k<n∧n≤pl+k+64 then [(((pl+k:Nat):Int),keyV (itV sec k))] else [])
theorem Qi7 (sec : List Int) (pl n:Nat):∀ k,∀ p∈Qc4 sec pl n k,(pl:Int)≤p.1∧p.1<((pl+k:Nat):Int)
  | 0,p,h=>by cases h
  | k+1,p,h=>by
    rw [Qc4,zaJ] at h
    rcases h with h | h
    · have:=Qi7 sec pl n k p h; omega
    · split at h
      · rw [zaK] at h; subst h; simp only; omega
      · cases h
theorem Qi6 {sec : List Int} {pl n k:Nat} (h:pl+k<n∧n≤pl+k+64):Qc4 sec pl n (k+1)=Qc4 sec pl n k++[(((pl+k:Nat):Int),keyV (itV sec k))]:=by rw [Qc4,if_pos h]
theorem Qgy {sec : List Int} {pl n k:Nat} (h:¬ (pl+k<n∧n≤pl+k+64)):Qc4 sec pl n (k+1)=Qc4 sec pl n k:=by rw [Qc4,if_neg h,zaL]
theorem Qd5 (q : Int→Bool) (ms:List (Int×List Int)):(ms.map mpv).filter (fun p=>q p.1)=(ms.filter fun p=>q p.1).map mpv:=QeL mpv (fun p=>q p.1) ms
theorem Qka {ms : List (Int×List Int)} {sec:List Int} {pl n k:Nat} (hlt:∀ p∈ms,p.1<(pl:Int)):((pl+k:Nat):Int)∉((ms++Qc4 sec pl n k).map mpv).map Prod.fst:=fun h=>by
  rw [List.map_map,zaM] at h
  obtain ⟨p,hp,he⟩:=h
  rw [zaJ] at hp
  have he':p.1=((pl+k:Nat):Int):=he
  rcases hp with hp | hp
  · have:=hlt p hp; omega
  · have:=(Qi7 sec pl n k p hp).2; omega
theorem QgV {ms : List (Int×List Int)} {pl:Nat} {n:Int} (hlt:∀ p∈ms,p.1<(pl:Int)):∀ p∈msNo ms n,p.1<(pl:Int):=fun p hp=>hlt p (zaN.1 hp).1
theorem QfX {g r:Nat} {lim:Int} {es0:Array MapEntry} {c:Nat} {sn:Array Nat} {e:MapEntry} {W W':World} (h:Qd0 g r lim es0 c sn e W) (x:Ext W W'):Qd0 g r lim es0 c sn e W':=by
  obtain ⟨es,h1,h2,h3,h4⟩:=h
  exact ⟨es,h1,Qaa h2 x,Qaa h3 x,h4⟩
theorem Qie (a b:Nat) (ha:a<18446744073709551616) (hb:b<18446744073709551616):a|||b<18446744073709551616:=Nat.or_lt_two_pow (n:=64) ha hb
theorem Qob (g : Nat) (nx:Int) (B:Nat) (hnx:0≤nx∧nx≤4294967295) (hB:B<18446744073709551616) (sec:List Int) (pl mg:Nat) (hsec:sec.length=32) (w:World) (hg:w.heap[g]? = some (.cells (cat [#[.int .i64 nx],#[.int .u64 (B:Int)],ints .u8 (sec),#[.int .i64 (pl:Int)],#[.map (some mg)]]) 100)) (ms:List (Int×List Int)) (hmo:MsOk ms) (hmp:MpAt mg (ms.map mpv) w) (tc tq:TypeId) (hc:w.heap[4]? = some (.cells (ints .u64 QaM) tc)) (hq:w.heap[3]? = some (.cells (ints .u64 Qa5) tq)) (hsb:Qak sec) (n:Nat) (hm:n≤4294967294) (hp:pl≤4294967295) (hlt0:∀ p∈ms,p.1<(pl:Int)) (hcg:4≠g) (hsg:3≠g) (hc0:chkW nx B (n:Int)=0) (hn:n<pl) (j:Nat) (hj:nx-1-(n:Int)-1=(j:Int)) (hj2:j<64):Calls Tryz.prog 45 #[pp g 0,.int .i64 (n:Int)] w (fun e W=>∃ v,e=.returned (.tuple #[v,.nilIface])∧Qai [g,mg] w W∧W.heap[g]? = some (.cells (cat [#[.int .i64 nx],#[.int .u64 ((B|||2^j:Nat):Int)],ints .u8 (itV sec (n+1-pl)),#[.int .i64 ((pl+(n+1-pl):Nat):Int)],#[.map (some mg)]]) 100)∧MpAt mg ((QiZ ((msNo ms (n:Int))++Qc4 sec pl n (n+1-pl)) (nx-1-64)).map mpv) W∧QbZ w.heap.size (n:Int) (lget ms (n:Int)) v W):=by
 have hcm:=MpAt.ne hmp hc
 have hsm:=MpAt.ne hmp hq
 have hgm:=MpAt.ne hmp hg
 have hl_g:=Qaq hg
 have hl_mg:=MpAt.lt hmp
 obtain ⟨es5,cl5,hes5,hM5⟩:=id hmp
 refine enter 97 [(0,pp g 0),(1,.int .i64 (n:Int))] Tryz.func45 rfl rfl kj rfl <| sgC fun K6 hK6=>Qah (cat [#[.int .i64 0],ints .u8 (zaB 32 0),#[.slice none 0 0]]) 76 4 rfl kj kj fun g7 W1 l7 e1 r7_1=>?_
 have x1:Qai [g,mg] w W1:=zbr (zbp [g,mg] w) e1
 have b7:=qT (zbp [g,mg] w).size l7
 refine sg 1 kj <| sgN hK6 <| sgC fun K8 hK8=>sg 2 kj ?_
 have r2_1:=(Qaa hc e1)
 have r3_1:=(Qaa hq e1)
 have r1_1:=(Qaa hg e1)
 have r4_1:=(Qaa hes5 e1)
 refine Qau (fun v W'=>(QbZ W1.heap.size (n:Int) (lget ms (n:Int))) v W'∧Ext W1 W') 43 #[pp g 0,.int .i64 (n:Int)] 11 rfl kj kj ((Qmz g nx B hnx hB sec pl mg hsec _ r1_1 ms hmo ⟨_,_,r4_1,hM5⟩ tc tq r2_1 r3_1 hsb (n:Int) oo).mono mo1) fun vv9 W2 hh9=>?_
 obtain ⟨hv9,e2⟩:=hh9
 have x2:Qai [g,mg] w W2:=zbr x1 e2
 obtain ⟨u10,rfl,hu10⟩:=hv9
 obtain ⟨a10_,c10_,rfl,-⟩:=id (zbo hu10)
 have nbg:=Qcp hu10 (Qaq r1_1)
 have nbm:=Qcp hu10 (Qaq r4_1)
 refine Qah (cat [#[.int .i64 0],ints .u8 (zaB 32 0),#[.slice none 0 0]]) 76 6 rfl kj kj fun g11 W3 l11 e3 r11_3=>?_
 have x3:Qai [g,mg] w W3:=zbr x2 e3
 have b11:=qT x2.size l11
 refine Qag g11 _ (cat [#[.int .i64 (n:Int)],ints .u8 ((lget ms (n:Int)).take 32),#[.slice a10_ (((lget ms (n:Int)).drop 32).length) c10_]]) 76 r11_3 rfl kj (Qaf 76 _ _ g11 76 _ _ r11_3 rfl kj kj (isz (n:=34) kj (by rw [Qal,Qal,Qal]; simp only [qS,cat,(izT (Qbm (QcS hmo _).1))]; rfl)) (eqsz (n:=34) czR (by rw [Qal,Qal,Qal]; simp only [qS,cat,(izT (Qbm (QcS hmo _).1))]; rfl)) (QaQ _ (by intro a ha; simp only [zaF,zaG,or_false] at ha; rcases ha with rfl | rfl | rfl; exact (Qaz _ rfl); exact (Qat _ _); exact (Qaz _ rfl)))) fun W4 p4 r11_4=>?_
 have x4:Qai [g,mg] w W4:=zbs x3 p4 (.inr b11)
 refine sgN hK8 <| wp_seq_k fun K12 hK12=>sgC fun K13 hK13=>sg 4 kj <| Qau (fun v W'=>v=.nilIface∧ExtB g W4 W'∧W'.heap[g]? = some (.cells (cat [#[.int .i64 nx],#[.int .u64 ((B|||2^j:Nat):Int)],ints .u8 (sec),#[.int .i64 (pl:Int)],#[.map (some mg)]]) 100)) 65 #[pp g 0,.int .i64 (n:Int)] 16 rfl kj kj ((QpO g nx B (n:Int) hnx hB sec pl mg hsec _ (zbg p4 (Qaa (Qaa r1_1 e2) e3) (zaO (qL hl_g b11))) hc0 j hj hj2).mono fun e w' ⟨h1,h2,h3⟩=>⟨_,h1,rfl,h2,h3⟩) fun v W5 h=>?_
 obtain ⟨rfl,q5,r1_5⟩:=h
 have x5:Qai [g,mg] w W5:=Qai.but x4 q5 (.inl (by simp))
 refine sg 1 kj <| sgN hK13 <| sgB kj <| cond_false kj <| wp_skip <| hK12 _ _ <| sgC fun K15 hK15=>sg 3 kj <| sv (.map (some mg)) 24 (Qab 98 _ g 35 100 _ (.map (some mg)) _ r1_5 rfl kj (Qap [#[.int .i64 nx],#[.int .u64 ((B|||2^j:Nat):Int)],ints .u8 (sec),#[.int .i64 (pl:Int)]] [#[.map (some mg)]] [] 35 (cz1 hsec) 0 _ rfl) kj) ?_
 refine sg 1 kj <| QhR (n:=(n:Int)) (.tmp 24) (.tmp 25) 98 (kt:=3) (et:=132) rfl kj kj kj kj ⟨_,_,(zbm q5 (zbg p4 (Qaa (Qaa r4_1 e2) e3) (zaO (qL hl_mg b11))) (Ne.symm hgm)),hM5⟩ rfl kj fun W6 p6 hmp=>?_
 have x6:Qai [g,mg] w W6:=zbs x5 p6 (.inl (by simp))
 replace hmp:MpAt mg ((msNo ms (n:Int)).map mpv) W6:=by have h9:=hmp; rw [Qd5 (fun x=>x != (n:Int))] at h9; exact h9
 obtain ⟨es16,cl16,hes16,hM16⟩:=id hmp
 refine sgN hK15 <| wp_seq_k fun K17 hK17=>wp_block ?_
 have n_7_1:g7≠g:=(Ne.symm (zaO (qL hl_g b7)))
 have n_7_4:g7≠mg:=(Ne.symm (zaO (qL hl_mg b7)))
 have n_11_1:g11≠g:=(Ne.symm (zaO (qL hl_g b11)))
 have n_11_4:g11≠mg:=(Ne.symm (zaO (qL hl_mg b11)))
 refine Qa3 (fun (s1:Nat)=>[(0,pp g 0),(1,.int .i64 (n:Int)),(4,pp g7 0),(5,.nilIface),(6,pp g11 0),(7,.nilIface)]) (fun (s1:Nat) W=>(s1≤n+1-pl)∧(MpAt mg (((msNo ms (n:Int))++Qc4 sec pl n s1).map mpv) W)∧(W.heap[g]? = some (.cells (cat [#[.int .i64 nx],#[.int .u64 ((B|||2^j:Nat):Int)],ints .u8 (itV sec s1),#[.int .i64 ((pl+s1:Nat):Int)],#[.map (some mg)]]) 100))∧(Qai [g,mg] W6 W)∧(Qai [g,mg] w W)) (fun (s1:Nat)=>n+1-pl-s1) 0 ⟨kj,kj,kj,kj,kj,kj,trivial⟩ ⟨(zaI _),(by show MpAt mg (((msNo ms (n:Int))++[]).map mpv) _; rw [zaL]; exact ⟨_,_,hes16,hM16⟩),(zbg p6 r1_5 hgm),(zbp [g,mg] W6),x6⟩ fun s1 X1 V1 hI1=>?_
 obtain ⟨k,hs1⟩:∃ z,z=s1:=⟨_,rfl⟩
 subst hs1
 obtain ⟨hk,hmp,q1_1,kk1,xx1⟩:=hI1
 replace hk:k≤n+1-pl:=hk
 replace hmp:MpAt mg (((msNo ms (n:Int))++Qc4 sec pl n k).map mpv) V1:=hmp
 replace q1_1:V1.heap[g]? = some (.cells (cat [#[.int .i64 nx],#[.int .u64 ((B|||2^j:Nat):Int)],ints .u8 (itV sec k),#[.int .i64 ((pl+k:Nat):Int)],#[.map (some mg)]]) 100):=q1_1
 replace kk1:Qai [g,mg] W6 V1:=kk1
 replace xx1:Qai [g,mg] w V1:=xx1
 have q7:=kk1
 obtain ⟨es18,cl18,hes18,hM18⟩:=id hmp
 have hkp:pl+k≤4294967295:=by omega
 refine wp_seq_k fun K19 hK19=>sgC fun K20 hK20=>sg 3 kj <| sv (.int .i64 ((pl+k:Nat):Int)) 29 (Qab 3 _ g 34 100 _ (.int .i64 ((pl+k:Nat):Int)) _ q1_1 rfl kj (Qap [#[.int .i64 nx],#[.int .u64 ((B|||2^j:Nat):Int)],ints .u8 (itV sec k)] [#[.int .i64 ((pl+k:Nat):Int)]] [#[.map (some mg)]] 34 (cz1 (Qa6 hsec k)) 0 _ rfl) kj) ?_
 refine sg 2 kj <| sgN hK20 <| Qay (t:=decide (((pl+k:Nat):Int)≤(n:Int))) kj (fun c21=>?_) (fun c21=>?_)
 ·skip
  have hlt:pl+k≤n:=by have:=of_decide_eq_true c21; omega
  refine wp_skip <| hK19 _ _ <| wp_block <| wp_seq_k fun K22 hK22=>wp_seq_k fun K23 hK23=>?_
  rcases (show (pl+k<n∧n≤pl+k+64)∨(pl+k<n∧pl+k+64<n)∨pl+k=n by omega) with hcc | hcc | hcc
  ·skip
   refine Qaj <| sg 3 kj <| sv (.int .i64 ((pl+k:Nat):Int)) 35 (Qab 3 _ g 34 100 _ (.int .i64 ((pl+k:Nat):Int)) _ q1_1 rfl kj (Qap [#[.int .i64 nx],#[.int .u64 ((B|||2^j:Nat):Int)],ints .u8 (itV sec k)] [#[.int .i64 ((pl+k:Nat):Int)]] [#[.map (some mg)]] 34 (cz1 (Qa6 hsec k)) 0 _ rfl) kj) ?_
   refine sg 1 kj <| sv (.bool true) 37 (Qac (u:=.bool (decide (((pl+k:Nat):Int)<(n:Int)))) kj (congrArg zah (decide_eq_true oo))) <| sg 4 kj <| sv (.int .i64 ((pl+k:Nat):Int)) 42 (Qab 3 _ g 34 100 _ (.int .i64 ((pl+k:Nat):Int)) _ q1_1 rfl kj (Qap [#[.int .i64 nx],#[.int .u64 ((B|||2^j:Nat):Int)],ints .u8 (itV sec k)] [#[.int .i64 ((pl+k:Nat):Int)]] [#[.map (some mg)]] 34 (cz1 (Qa6 hsec k)) 0 _ rfl) kj) ?_
   refine sg 1 kj <| sv (.int .i64 ((n:Int)-64)) 44 (Qac (u:=.int .i64 (zaa.wrap ((n:Int)-64))) kj (congrArg (zag .i64) (QbM _ oo))) <| sv (.bool true) 45 (Qac (u:=.bool (decide (((pl+k:Nat):Int)≥((n:Int)-64)))) kj (congrArg zah (decide_eq_true oo))) <| sg 1 kj <| sgN hK23 <| cond_true kj <| Wm.region_walkM (fun W=>W.heap[g]? = some (.cells (cat [#[.int .i64 nx],#[.int .u64 ((B|||2^j:Nat):Int)],ints .u8 (itV sec k),#[.int .i64 ((pl+k:Nat):Int)],#[.map (some mg)]]) 100)) 13 kj fun W8 e8=>⟨Qaa q1_1 e8,?_⟩
   have x8:Qai [g,mg] w W8:=zbr xx1 e8
   refine Wm.wm_val 0 (pp g 0) 47 rfl rfl kj kj dd kj (fun _ _ _ h=>h) (fun W hR=>kj) <| Wm.wm_val 1 (pp g 0) 48 rfl rfl kj kj dd kj (fun _ _ _ h=>h) (fun W hR=>kj) <| Wm.wm_val 2 (pp g 35) 49 rfl rfl kj kj dd kj (fun _ _ _ h=>h) (fun W hR=>kj) <| Wm.wm_val 3 (.map (some mg)) 50 rfl rfl kj kj dd kj (fun _ _ _ h=>h) (fun W hR=>(Qab 98 _ g 35 100 _ (.map (some mg)) _ hR rfl kj (Qap [#[.int .i64 nx],#[.int .u64 ((B|||2^j:Nat):Int)],ints .u8 (itV sec k),#[.int .i64 ((pl+k:Nat):Int)]] [#[.map (some mg)]] [] 35 (cz1 (Qa6 hsec k)) 0 _ rfl) kj)) ?_
   refine Wm.wm_val 4 (pp g 0) 51 rfl rfl kj kj dd kj (fun _ _ _ h=>h) (fun W hR=>kj) <| Wm.wm_val 5 (pp g 0) 52 rfl rfl kj kj dd kj (fun _ _ _ h=>h) (fun W hR=>kj) <| Wm.wm_val 6 (pp g 34) 53 rfl rfl kj kj dd kj (fun _ _ _ h=>h) (fun W hR=>kj) <| Wm.wm_val 7 (.int .i64 ((pl+k:Nat):Int)) 54 rfl rfl kj kj dd kj (fun _ _ _ h=>h) (fun W hR=>(Qab 3 _ g 34 100 _ (.int .i64 ((pl+k:Nat):Int)) _ hR rfl kj (Qap [#[.int .i64 nx],#[.int .u64 ((B|||2^j:Nat):Int)],ints .u8 (itV sec k)] [#[.int .i64 ((pl+k:Nat):Int)]] [#[.map (some mg)]] 34 (cz1 (Qa6 hsec k)) 0 _ rfl) kj)) ?_
   refine Wm.wm_val 8 (pp g 0) 55 rfl rfl kj kj dd kj (fun _ _ _ h=>h) (fun W hR=>kj) <| Wm.wm_val 9 (pp g 0) 56 rfl rfl kj kj dd kj (fun _ _ _ h=>h) (fun W hR=>kj) <| Wm.wm_val 10 (pp g 2) 57 rfl rfl kj kj dd kj (fun _ _ _ h=>h) (fun W hR=>kj) <| Wm.wm_val 11 (.agg (ints .u8 (itV sec k))) 58 rfl rfl kj kj dd kj (fun _ _ _ h=>h) (fun W hR=>(Qa4 23 _ g 2 100 _ _ _ hR rfl kj (Qap [#[.int .i64 nx],#[.int .u64 ((B|||2^j:Nat):Int)]] [ints .u8 (itV sec k)] [#[.int .i64 ((pl+k:Nat):Int)],#[.map (some mg)]] 2 kj) kj (isz (n:=32) kj (izT (Qa6 hsec k))))) ?_
   have r1_8:=(Qaa q1_1 e8)
   have r2_2:=(Qaa r2_1 e2)
   have r2_3:=(Qaa r2_2 e3)
   have r2_4:=(zbg p4 r2_3 (Qad r2_2 l11))
   have r2_5:=(zbm q5 r2_4 hcg)
   have r2_6:=(zbg p6 r2_5 hcm)
   have r2_7:=(zbq q7 r2_6 (Qaw hcg (Qaw hcm QaF)))
   have r2_8:=(Qaa r2_7 e8)
   have r3_2:=(Qaa r3_1 e2)
   have r3_3:=(Qaa r3_2 e3)
   have r3_4:=(zbg p4 r3_3 (Qad r3_2 l11))
   have r3_5:=(zbm q5 r3_4 hsg)
   have r3_6:=(zbg p6 r3_5 hsm)
   have r3_7:=(zbq q7 r3_6 (Qaw hsg (Qaw hsm QaF)))
   have r3_8:=(Qaa r3_7 e8)
   refine Wm.wm_call 12 kj rfl (fun v W'=>(fun v _=>v=.agg (ints .u8 (keyV (itV sec k)))) v W'∧Ext W8 W') 64 #[.agg (ints .u8 (itV sec k))] 59 rfl kj kj ((retG (Qkq (itV sec k) tc tq _ r2_8 r3_8 (Qa6 hsec k) (Qb6 hsb k))).mono mo1) (fun v W h=>Qaa r1_8 h.2) fun vv24 W9 hh24=>?_
   obtain ⟨hv24,e9⟩:=hh24
   have x9:Qai [g,mg] w W9:=zbr x8 e9
   subst hv24
   have r1_9:=(Qaa r1_8 e9)
   have r4_8:=(Qaa hes18 e8)
   have r4_9:=(Qaa r4_8 e9)
   refine Wm.wm_last kj kj rfl (fun W'=>Puts W9 mg W'∧MpAt mg ((((msNo ms (n:Int))++Qc4 sec pl n k).map mpv)++[(((pl+k:Nat):Int),.agg (ints .u8 (keyV (itV sec k))))]) W') rfl kj (QhT 98 _ _ _ (kt:=3) (et:=132) rfl kj kj kj kj kj ⟨_,_,r4_9,hM18⟩ (Qka (QgV hlt0))) fun W10 hh=>?_
   obtain ⟨p10,hmp⟩:=hh
   have x10:Qai [g,mg] w W10:=zbs x9 p10 (.inl (by simp))
   replace hmp:MpAt mg (((msNo ms (n:Int))++Qc4 sec pl n (k+1)).map mpv) W10:=by rw [Qi6 hcc,←za5,zaA]; exact hmp
   obtain ⟨es25,cl25,hes25,hM25⟩:=id hmp
   refine hK22 _ _ <| sgC fun K26 hK26=>sg 4 kj ?_
   have r1_10:=(zbg p10 r1_9 hgm)
   refine sv (.agg (ints .u8 (itV sec k))) 64 (Qa4 23 _ g 2 100 _ _ _ r1_10 rfl kj (Qap [#[.int .i64 nx],#[.int .u64 ((B|||2^j:Nat):Int)]] [ints .u8 (itV sec k)] [#[.int .i64 ((pl+k:Nat):Int)],#[.map (some mg)]] 2 kj) kj (isz (n:=32) kj (izT (Qa6 hsec k)))) <| Qao (.agg (ints .u8 (itV sec (k+1)))) 63 #[.agg (ints .u8 (itV sec k))] 65 rfl kj kj (Qfz (itV sec k) tc tq _ (zbg p10 (Qaa r2_8 e9) hcm) (zbg p10 (Qaa r3_8 e9) hsm) (Qa6 hsec k) (Qb6 hsb k)) fun W11 e11=>?_
   have x11:Qai [g,mg] w W11:=zbr x10 e11
   refine sg 2 kj ?_
   have r1_11:=(Qaa r1_10 e11)
   refine Qag g _ (cat [#[.int .i64 nx],#[.int .u64 ((B|||2^j:Nat):Int)],ints .u8 (itV sec (k+1)),#[.int .i64 ((pl+k:Nat):Int)],#[.map (some mg)]]) 100 r1_11 rfl kj (QbG 23 _ _ g 2 100 [#[.int .i64 nx],#[.int .u64 ((B|||2^j:Nat):Int)]] [ints .u8 (itV sec k)] [ints .u8 (itV sec (k+1))] [#[.int .i64 ((pl+k:Nat):Int)],#[.map (some mg)]] r1_11 rfl kj kj (isz (n:=32) kj (izT (Qa6 hsec (k+1)))) kj (eqsz (n:=32) (izT (Qa6 hsec (k+1))) (izT (Qa6 hsec k))) (Qat _ _)) fun W12 p12 r1_12=>?_
   have x12:Qai [g,mg] w W12:=zbs x11 p12 (.inl (by simp))
   refine sgN hK26 <| Qaj <| sg 3 kj <| sv (.int .i64 ((pl+k:Nat):Int)) 71 (Qab 3 _ g 34 100 _ (.int .i64 ((pl+k:Nat):Int)) _ r1_12 rfl kj (Qap [#[.int .i64 nx],#[.int .u64 ((B|||2^j:Nat):Int)],ints .u8 (itV sec (k+1))] [#[.int .i64 ((pl+k:Nat):Int)]] [#[.map (some mg)]] 34 (cz1 (Qa6 hsec (k+1))) 0 _ rfl) kj) ?_
   refine sv (.int .i64 (((pl+(k+1):Nat):Int))) 72 (Qac (u:=.int .i64 (zaa.wrap (((pl+k:Nat):Int)+1))) kj (congrArg (zag .i64) ((QbM _ oo).trans oo))) <| sg 2 kj <| Qag g _ (cat [#[.int .i64 nx],#[.int .u64 ((B|||2^j:Nat):Int)],ints .u8 (itV sec (k+1)),#[.int .i64 (((pl+(k+1):Nat):Int))],#[.map (some mg)]]) 100 r1_12 rfl kj (run_storeQ 3 _ _ g 34 100 [#[.int .i64 nx],#[.int .u64 ((B|||2^j:Nat):Int)],ints .u8 (itV sec (k+1))] [#[.map (some mg)]] _ (.int .i64 (((pl+(k+1):Nat):Int))) r1_12 rfl kj kj kj (cz1 (Qa6 hsec (k+1))) rfl rfl) fun W13 p13 r1_13=>?_
   have x13:Qai [g,mg] w W13:=zbs x12 p13 (.inl (by simp))
   refine Qas ?_
   with_reducible repeat first | refine goX1 ?_ | refine goX2 ?_ | refine goX3 ?_
   exact Qa1 (k+1) ⟨kj,kj,kj,kj,kj,kj,trivial⟩ ⟨oo,⟨_,_,(zbg p13 (zbg p12 (Qaa hes25 e11) (Ne.symm hgm)) (Ne.symm hgm)),hM25⟩,r1_13,(zbs (zbs (zbr (zbs (zbr (zbr q7 e8) e9) p10 (.inl (by simp))) e11) p12 (.inl (by simp))) p13 (.inl (by simp))),x13⟩ oo
  ·skip
   refine Qaj <| sg 3 kj <| sv (.int .i64 ((pl+k:Nat):Int)) 35 (Qab 3 _ g 34 100 _ (.int .i64 ((pl+k:Nat):Int)) _ q1_1 rfl kj (Qap [#[.int .i64 nx],#[.int .u64 ((B|||2^j:Nat):Int)],ints .u8 (itV sec k)] [#[.int .i64 ((pl+k:Nat):Int)]] [#[.map (some mg)]] 34 (cz1 (Qa6 hsec k)) 0 _ rfl) kj) ?_
   refine sg 1 kj <| sv (.bool true) 37 (Qac (u:=.bool (decide (((pl+k:Nat):Int)<(n:Int)))) kj (congrArg zah (decide_eq_true oo))) <| sg 4 kj <| sv (.int .i64 ((pl+k:Nat):Int)) 42 (Qab 3 _ g 34 100 _ (.int .i64 ((pl+k:Nat):Int)) _ q1_1 rfl kj (Qap [#[.int .i64 nx],#[.int .u64 ((B|||2^j:Nat):Int)],ints .u8 (itV sec k)] [#[.int .i64 ((pl+k:Nat):Int)]] [#[.map (some mg)]] 34 (cz1 (Qa6 hsec k)) 0 _ rfl) kj) ?_
   refine sg 1 kj <| sv (.int .i64 ((n:Int)-64)) 44 (Qac (u:=.int .i64 (zaa.wrap ((n:Int)-64))) kj (congrArg (zag .i64) (QbM _ oo))) <| sv (.bool false) 45 (Qac (u:=.bool (decide (((pl+k:Nat):Int)≥((n:Int)-64)))) kj (congrArg zah (decide_eq_false oo))) <| sg 1 kj <| sgN hK23 <| cond_false kj <| wp_skip <| hK22 _ _ <| sgC fun K27 hK27=>sg 4 kj ?_
   refine sv (.agg (ints .u8 (itV sec k))) 64 (Qa4 23 _ g 2 100 _ _ _ q1_1 rfl kj (Qap [#[.int .i64 nx],#[.int .u64 ((B|||2^j:Nat):Int)]] [ints .u8 (itV sec k)] [#[.int .i64 ((pl+k:Nat):Int)],#[.map (some mg)]] 2 kj) kj (isz (n:=32) kj (izT (Qa6 hsec k)))) ?_
   have r2_2:=(Qaa r2_1 e2)
   have r2_3:=(Qaa r2_2 e3)
   have r2_4:=(zbg p4 r2_3 (Qad r2_2 l11))
   have r2_5:=(zbm q5 r2_4 hcg)
   have r2_6:=(zbg p6 r2_5 hcm)
   have r2_7:=(zbq q7 r2_6 (Qaw hcg (Qaw hcm QaF)))
   have r3_2:=(Qaa r3_1 e2)
   have r3_3:=(Qaa r3_2 e3)
   have r3_4:=(zbg p4 r3_3 (Qad r3_2 l11))
   have r3_5:=(zbm q5 r3_4 hsg)
   have r3_6:=(zbg p6 r3_5 hsm)
   have r3_7:=(zbq q7 r3_6 (Qaw hsg (Qaw hsm QaF)))
   refine Qao (.agg (ints .u8 (itV sec (k+1)))) 63 #[.agg (ints .u8 (itV sec k))] 65 rfl kj kj (Qfz (itV sec k) tc tq _ r2_7 r3_7 (Qa6 hsec k) (Qb6 hsb k)) fun W8 e8=>?_
   have x8:Qai [g,mg] w W8:=zbr xx1 e8
   refine sg 2 kj ?_
   have r1_8:=(Qaa q1_1 e8)
   refine Qag g _ (cat [#[.int .i64 nx],#[.int .u64 ((B|||2^j:Nat):Int)],ints .u8 (itV sec (k+1)),#[.int .i64 ((pl+k:Nat):Int)],#[.map (some mg)]]) 100 r1_8 rfl kj (QbG 23 _ _ g 2 100 [#[.int .i64 nx],#[.int .u64 ((B|||2^j:Nat):Int)]] [ints .u8 (itV sec k)] [ints .u8 (itV sec (k+1))] [#[.int .i64 ((pl+k:Nat):Int)],#[.map (some mg)]] r1_8 rfl kj kj (isz (n:=32) kj (izT (Qa6 hsec (k+1)))) kj (eqsz (n:=32) (izT (Qa6 hsec (k+1))) (izT (Qa6 hsec k))) (Qat _ _)) fun W9 p9 r1_9=>?_
   have x9:Qai [g,mg] w W9:=zbs x8 p9 (.inl (by simp))
   refine sgN hK27 <| Qaj <| sg 3 kj <| sv (.int .i64 ((pl+k:Nat):Int)) 71 (Qab 3 _ g 34 100 _ (.int .i64 ((pl+k:Nat):Int)) _ r1_9 rfl kj (Qap [#[.int .i64 nx],#[.int .u64 ((B|||2^j:Nat):Int)],ints .u8 (itV sec (k+1))] [#[.int .i64 ((pl+k:Nat):Int)]] [#[.map (some mg)]] 34 (cz1 (Qa6 hsec (k+1))) 0 _ rfl) kj) ?_
   refine sv (.int .i64 (((pl+(k+1):Nat):Int))) 72 (Qac (u:=.int .i64 (zaa.wrap (((pl+k:Nat):Int)+1))) kj (congrArg (zag .i64) ((QbM _ oo).trans oo))) <| sg 2 kj <| Qag g _ (cat [#[.int .i64 nx],#[.int .u64 ((B|||2^j:Nat):Int)],ints .u8 (itV sec (k+1)),#[.int .i64 (((pl+(k+1):Nat):Int))],#[.map (some mg)]]) 100 r1_9 rfl kj (run_storeQ 3 _ _ g 34 100 [#[.int .i64 nx],#[.int .u64 ((B|||2^j:Nat):Int)],ints .u8 (itV sec (k+1))] [#[.map (some mg)]] _ (.int .i64 (((pl+(k+1):Nat):Int))) r1_9 rfl kj kj kj (cz1 (Qa6 hsec (k+1))) rfl rfl) fun W10 p10 r1_10=>?_
   have x10:Qai [g,mg] w W10:=zbs x9 p10 (.inl (by simp))
   refine Qas ?_
   have r4_8:=(Qaa hes18 e8)
   have r4_9:=(zbg p9 r4_8 (Ne.symm hgm))
   have r4_10:=(zbg p10 r4_9 (Ne.symm hgm))
   with_reducible repeat first | refine goX1 ?_ | refine goX2 ?_ | refine goX3 ?_
   exact Qa1 (k+1) ⟨kj,kj,kj,kj,kj,kj,trivial⟩ ⟨oo,(by rw [Qgy oo]; exact ⟨_,_,r4_10,hM18⟩),r1_10,(zbs (zbs (zbr q7 e8) p9 (.inl (by simp))) p10 (.inl (by simp))),x10⟩ oo
  ·skip
   refine Qaj <| sg 3 kj <| sv (.int .i64 ((pl+k:Nat):Int)) 35 (Qab 3 _ g 34 100 _ (.int .i64 ((pl+k:Nat):Int)) _ q1_1 rfl kj (Qap [#[.int .i64 nx],#[.int .u64 ((B|||2^j:Nat):Int)],ints .u8 (itV sec k)] [#[.int .i64 ((pl+k:Nat):Int)]] [#[.map (some mg)]] 34 (cz1 (Qa6 hsec k)) 0 _ rfl) kj) ?_
   refine sg 1 kj <| sv (.bool false) 37 (Qac (u:=.bool (decide (((pl+k:Nat):Int)<(n:Int)))) kj (congrArg zah (decide_eq_false oo))) <| sg 9 kj <| sgN hK23 <| cond_false kj <| wp_skip <| hK22 _ _ <| sgC fun K28 hK28=>sg 4 kj <| sv (.agg (ints .u8 (itV sec k))) 64 (Qa4 23 _ g 2 100 _ _ _ q1_1 rfl kj (Qap [#[.int .i64 nx],#[.int .u64 ((B|||2^j:Nat):Int)]] [ints .u8 (itV sec k)] [#[.int .i64 ((pl+k:Nat):Int)],#[.map (some mg)]] 2 kj) kj (isz (n:=32) kj (izT (Qa6 hsec k)))) ?_
   have r2_2:=(Qaa r2_1 e2)
   have r2_3:=(Qaa r2_2 e3)
   have r2_4:=(zbg p4 r2_3 (Qad r2_2 l11))
   have r2_5:=(zbm q5 r2_4 hcg)
   have r2_6:=(zbg p6 r2_5 hcm)
   have r2_7:=(zbq q7 r2_6 (Qaw hcg (Qaw hcm QaF)))
   have r3_2:=(Qaa r3_1 e2)
   have r3_3:=(Qaa r3_2 e3)
   have r3_4:=(zbg p4 r3_3 (Qad r3_2 l11))
   have r3_5:=(zbm q5 r3_4 hsg)
   have r3_6:=(zbg p6 r3_5 hsm)
   have r3_7:=(zbq q7 r3_6 (Qaw hsg (Qaw hsm QaF)))
   refine Qao (.agg (ints .u8 (itV sec (k+1)))) 63 #[.agg (ints .u8 (itV sec k))] 65 rfl kj kj (Qfz (itV sec k) tc tq _ r2_7 r3_7 (Qa6 hsec k) (Qb6 hsb k)) fun W8 e8=>?_
   have x8:Qai [g,mg] w W8:=zbr xx1 e8
   refine sg 2 kj ?_
   have r1_8:=(Qaa q1_1 e8)
   refine Qag g _ (cat [#[.int .i64 nx],#[.int .u64 ((B|||2^j:Nat):Int)],ints .u8 (itV sec (k+1)),#[.int .i64 ((pl+k:Nat):Int)],#[.map (some mg)]]) 100 r1_8 rfl kj (QbG 23 _ _ g 2 100 [#[.int .i64 nx],#[.int .u64 ((B|||2^j:Nat):Int)]] [ints .u8 (itV sec k)] [ints .u8 (itV sec (k+1))] [#[.int .i64 ((pl+k:Nat):Int)],#[.map (some mg)]] r1_8 rfl kj kj (isz (n:=32) kj (izT (Qa6 hsec (k+1)))) kj (eqsz (n:=32) (izT (Qa6 hsec (k+1))) (izT (Qa6 hsec k))) (Qat _ _)) fun W9 p9 r1_9=>?_
   have x9:Qai [g,mg] w W9:=zbs x8 p9 (.inl (by simp))
   refine sgN hK28 <| Qaj <| sg 3 kj <| sv (.int .i64 ((pl+k:Nat):Int)) 71 (Qab 3 _ g 34 100 _ (.int .i64 ((pl+k:Nat):Int)) _ r1_9 rfl kj (Qap [#[.int .i64 nx],#[.int .u64 ((B|||2^j:Nat):Int)],ints .u8 (itV sec (k+1))] [#[.int .i64 ((pl+k:Nat):Int)]] [#[.map (some mg)]] 34 (cz1 (Qa6 hsec (k+1))) 0 _ rfl) kj) ?_
   refine sv (.int .i64 (((pl+(k+1):Nat):Int))) 72 (Qac (u:=.int .i64 (zaa.wrap (((pl+k:Nat):Int)+1))) kj (congrArg (zag .i64) ((QbM _ oo).trans oo))) <| sg 2 kj <| Qag g _ (cat [#[.int .i64 nx],#[.int .u64 ((B|||2^j:Nat):Int)],ints .u8 (itV sec (k+1)),#[.int .i64 (((pl+(k+1):Nat):Int))],#[.map (some mg)]]) 100 r1_9 rfl kj (run_storeQ 3 _ _ g 34 100 [#[.int .i64 nx],#[.int .u64 ((B|||2^j:Nat):Int)],ints .u8 (itV sec (k+1))] [#[.map (some mg)]] _ (.int .i64 (((pl+(k+1):Nat):Int))) r1_9 rfl kj kj kj (cz1 (Qa6 hsec (k+1))) rfl rfl) fun W10 p10 r1_10=>?_
   have x10:Qai [g,mg] w W10:=zbs x9 p10 (.inl (by simp))
   refine Qas ?_
   have r4_8:=(Qaa hes18 e8)
   have r4_9:=(zbg p9 r4_8 (Ne.symm hgm))
   have r4_10:=(zbg p10 r4_9 (Ne.symm hgm))
   with_reducible repeat first | refine goX1 ?_ | refine goX2 ?_ | refine goX3 ?_
   exact Qa1 (k+1) ⟨kj,kj,kj,kj,kj,kj,trivial⟩ ⟨oo,(by rw [Qgy oo]; exact ⟨_,_,r4_10,hM18⟩),r1_10,(zbs (zbs (zbr q7 e8) p9 (.inl (by simp))) p10 (.inl (by simp))),x10⟩ oo
 ·skip
  have heq:k=n+1-pl:=by have:=of_decide_eq_false c21; omega
  refine wp_exit <| hK17 _ _ <| wp_seq_k fun K29 hK29=>sgC fun K30 hK30=>sg 3 kj <| sv (.map (some mg)) 78 (Qab 98 _ g 35 100 _ (.map (some mg)) _ q1_1 rfl kj (Qap [#[.int .i64 nx],#[.int .u64 ((B|||2^j:Nat):Int)],ints .u8 (itV sec k),#[.int .i64 ((pl+k:Nat):Int)]] [#[.map (some mg)]] [] 35 (cz1 (Qa6 hsec k)) 0 _ rfl) kj) ?_
  refine QhQ (.mapIter (some mg) cl18 #[] cl18) (fun g=>pp g 0) 79 rfl kj (QfB (kt:=3) (et:=132) 98 _ rfl kj kj hes18) fun g32 W8 l32 e8 r32_8=>?_
  have x8:Qai [g,mg] w W8:=zbr xx1 e8
  have b32:=qT xx1.size l32
  have r4_8:=(Qaa hes18 e8)
  have hrg0:Qdp mg g32 (nx-1-64) es18 cl18 #[] W8:=Qdp.start hM18 r4_8 r32_8
  refine sgN hK30 <| wp_block ?_
  have r2_2:=(Qaa r2_1 e2)
  have r2_3:=(Qaa r2_2 e3)
  have r2_4:=(zbg p4 r2_3 (Qad r2_2 l11))
  have r2_5:=(zbm q5 r2_4 hcg)
  have r2_6:=(zbg p6 r2_5 hcm)
  have r2_7:=(zbq q7 r2_6 (Qaw hcg (Qaw hcm QaF)))
  have n_2_32:4≠g32:=(Qad r2_7 l32)
  have r3_2:=(Qaa r3_1 e2)
  have r3_3:=(Qaa r3_2 e3)
  have r3_4:=(zbg p4 r3_3 (Qad r3_2 l11))
  have r3_5:=(zbm q5 r3_4 hsg)
  have r3_6:=(zbg p6 r3_5 hsm)
  have r3_7:=(zbq q7 r3_6 (Qaw hsg (Qaw hsm QaF)))
  have n_3_32:3≠g32:=(Qad r3_7 l32)
  have r7_2:=(Qaa r7_1 e2)
  have r7_7:=(zbq q7 (zbg p6 (zbm q5 (rpn p4 r7_2 e3 l11) n_7_1) n_7_4) (Qaw n_7_1 (Qaw n_7_4 QaF)))
  have n_7_32:g7≠g32:=(Qad r7_7 l32)
  have r11_7:=(zbq q7 (zbg p6 (zbm q5 r11_4 n_11_1) n_11_4) (Qaw n_11_1 (Qaw n_11_4 QaF)))
  have n_11_32:g11≠g32:=(Qad r11_7 l32)
  have n_32_1:g32≠g:=(Ne.symm (zaO (qL hl_g b32)))
  have n_32_4:g32≠mg:=(Ne.symm (zaO (qL hl_mg b32)))
  refine Qa3 (fun (s2:Array Nat)=>[(0,pp g 0),(1,.int .i64 (n:Int)),(4,pp g7 0),(5,.nilIface),(6,pp g11 0),(79,pp g32 0)]) (fun (s2:Array Nat) W=>(Qdp mg g32 (nx-1-64) es18 cl18 s2 W)∧(Qai [mg,g32] W8 W)∧(Qai [g,mg] w W)) (fun (s2:Array Nat)=>rmu es18 s2) #[] ⟨kj,kj,kj,kj,kj,kj,trivial⟩ ⟨hrg0,(zbp [mg,g32] W8),x8⟩ fun s2 X2 V2 hI2=>?_
  obtain ⟨sn,hs2⟩:∃ z,z=s2:=⟨_,rfl⟩
  subst hs2
  obtain ⟨hrg,kk2,xx2⟩:=hI2
  replace hrg:Qdp mg g32 (nx-1-64) es18 cl18 sn V2:=hrg
  replace kk2:Qai [mg,g32] W8 V2:=kk2
  replace xx2:Qai [g,mg] w V2:=xx2
  have q9:=kk2
  refine sgC fun K33 hK33=>Qg4 (.tmp 79) hM18 rfl kj hrg 80 rfl kj (fun hmp=>?_) (fun e y WN hy pN hst hen=>?_)
  ·skip
   obtain ⟨es34,cl34,hes34,hM34⟩:=id hmp
   refine sg 1 kj <| sgN hK33 <| wp_seq_k fun K35 hK35=>cond_false kj <| wp_exit <| hK29 _ _ <| sgC fun K36 hK36=>sv (.agg (cat [#[.int .i64 (n:Int)],ints .u8 ((lget ms (n:Int)).take 32),#[.slice a10_ (((lget ms (n:Int)).drop 32).length) c10_]])) 96 (Qae 76 _ g11 76 _ _ (zbq q9 (Qaa r11_7 e8) (Qaw n_11_4 (Qaw n_11_32 QaF))) rfl kj kj (isz (n:=34) kj (by rw [Qal,Qal,Qal]; simp only [qS,cat,(izT (Qbm (QcS hmo _).1))]; rfl))) ?_
   have r7_9:=(zbq q9 (Qaa r7_7 e8) (Qaw n_7_4 (Qaw n_7_32 QaF)))
   refine Qag g7 _ (cat [#[.int .i64 (n:Int)],ints .u8 ((lget ms (n:Int)).take 32),#[.slice a10_ (((lget ms (n:Int)).drop 32).length) c10_]]) 76 r7_9 rfl kj (Qaf 76 _ _ g7 76 _ _ r7_9 rfl kj kj (isz (n:=34) kj (by rw [Qal,Qal,Qal]; simp only [qS,cat,(izT (Qbm (QcS hmo _).1))]; rfl)) (eqsz (n:=34) czR (by rw [Qal,Qal,Qal]; simp only [qS,cat,(izT (Qbm (QcS hmo _).1))]; rfl)) (QaQ _ (by intro a ha; simp only [zaF,zaG,or_false] at ha; rcases ha with rfl | rfl | rfl; exact (Qaz _ rfl); exact (Qat _ _); exact (Qaz _ rfl)))) fun W10 p10 r7_10=>?_
   have x10:Qai [g,mg] w W10:=zbs xx2 p10 (.inr b7)
   refine sg 1 kj <| sgN hK36 <| wp_ret ?_
   with_reducible repeat first | refine goR1 ?_ | refine goR2 ?_
   have r1_8:=(Qaa q1_1 e8)
   have r1_9:=(zbq q9 r1_8 (Qaw hgm (Qaw (Ne.symm n_32_1) QaF)))
   have r1_10:=(zbg p10 r1_9 (Ne.symm n_7_1))
   have r4_10:=(zbg p10 hes34 (Ne.symm n_7_4))
   have f41_7:=(OwnN.keepsL ((ownN_but ((hu10.ext e3).puts p4 (nb_new hu10 l11)) q5 nbg).puts p6 nbm) q7 (nb_cons nbg (nb_cons nbm nb_nil)))
   exact (show bodyPost _ _ _ .ret _ _ from ret2 (.agg (cat [#[.int .i64 (n:Int)],ints .u8 ((lget ms (n:Int)).take 32),#[.slice a10_ (((lget ms (n:Int)).drop 32).length) c10_]])) (.nilIface) rfl (QaJ g7 76 _ r7_10 kj kj (isz (n:=34) kj (by rw [Qal,Qal,Qal]; simp only [qS,cat,(izT (Qbm (QcS hmo _).1))]; rfl))) (Qax kj) ⟨_,rfl,x10,(by rw [←heq]; exact r1_10),(by have h9:MpAt mg _ _:=⟨_,_,r4_10,hM34⟩; rw [Qd5 (fun x=>decide ((nx-1-64)≤x))] at h9; rw [←heq]; exact h9),_,rfl,zbn x1.size ((OwnN.keepsL (f41_7.ext e8) q9 (nb_cons nbm (nb_cons (nb_new f41_7 l32) nb_nil))).puts p10 (Qcp hu10 (Qaq r7_1)))⟩)
  ·skip
   have p10:=pN
   have x10:Qai [g,mg] w WN:=zbs xx2 p10 (.inr b32)
   refine sg 1 kj <| sgN hK33 <| sgT kj <| wp_block <| sgC fun K46 hK46=>sv (.tuple #[.int .i64 y,e.val]) 82 (QfC _ rfl kj hen) <| sg 2 kj <| sgN hK46 <| sgC fun K47 hK47=>sg 4 kj ?_
   have r1_8:=(Qaa q1_1 e8)
   have r1_9:=(zbq q9 r1_8 (Qaw hgm (Qaw (Ne.symm n_32_1) QaF)))
   have r1_10:=(zbg p10 r1_9 (Ne.symm n_32_1))
   refine Qao (.int .i64 (nx-1)) 66 #[pp g 0] 88 rfl kj kj (Qi9 g (nx) (B|||2^j) hnx (Qie _ _ hB (Qia j hj2)) _ _ mg (Qa6 hsec k) _ r1_10) fun W11 e11=>?_
   have x11:Qai [g,mg] w W11:=zbr x10 e11
   refine sv (.int .i64 (nx-1-64)) 89 (Qac (u:=.int .i64 (zaa.wrap ((nx-1)-64))) kj (congrArg (zag .i64) (QbM _ oo))) <| sg 1 kj <| sgN hK47 <| Qay (t:=decide (y<(nx-1-64))) kj (fun c48=>?_) (fun c48=>?_)
   ·skip
    have hcut:(y<(nx-1-64)):=of_decide_eq_true c48
    refine Qaj <| sg 3 kj ?_
    have r1_11:=(Qaa r1_10 e11)
    refine sv (.map (some mg)) 94 (Qab 98 _ g 35 100 _ (.map (some mg)) _ r1_11 rfl kj (Qap [#[.int .i64 nx],#[.int .u64 ((B|||2^j:Nat):Int)],ints .u8 (itV sec k),#[.int .i64 ((pl+k:Nat):Int)]] [#[.map (some mg)]] [] 35 (cz1 (Qa6 hsec k)) 0 _ rfl) kj) ?_
    refine sg 1 kj <| Qg5 (kt:=3) (et:=132) (.tmp 94) (.tmp 95) 98 hM18 rfl kj kj kj kj (QfX hst e11) hy hcut rfl kj fun W12 p12 hrg2=>?_
    have x12:Qai [g,mg] w W12:=zbs x11 p12 (.inl (by simp))
    refine Qas ?_
    with_reducible repeat first | refine goX1 ?_ | refine goX2 ?_ | refine goX3 ?_
    exact Qa1 (sn.push e.born) ⟨kj,kj,kj,kj,kj,kj,trivial⟩ ⟨hrg2,(zbs (zbr (zbs q9 p10 (.inl (by simp))) e11) p12 (.inl (by simp))),x12⟩ (Qd0.mu hst)
   ·skip
    have hcut:¬ (y<(nx-1-64)):=of_decide_eq_false c48
    refine wp_skip ?_
    with_reducible repeat first | refine goX1 ?_ | refine goX2 ?_ | refine goX3 ?_
    exact Qa1 (sn.push e.born) ⟨kj,kj,kj,kj,kj,kj,trivial⟩ ⟨(Qd0.stay hM18 (QfX hst e11) (by rw [Qkp hy]; exact decide_eq_true (Int.not_lt.1 hcut))),(zbr (zbs q9 p10 (.inl (by simp))) e11),x11⟩ (Qd0.mu hst)
theorem Qoa (g : Nat) (nx:Int) (B:Nat) (hnx:0≤nx∧nx≤4294967295) (hB:B<18446744073709551616) (sec:List Int) (pl mg:Nat) (hsec:sec.length=32) (w:World) (hg:w.heap[g]? = some (.cells (cat [#[.int .i64 nx],#[.int .u64 (B:Int)],ints .u8 (sec),#[.int .i64 (pl:Int)],#[.map (some mg)]]) 100)) (ms:List (Int×List Int)) (hmo:MsOk ms) (hmp:MpAt mg (ms.map mpv) w) (tc tq:TypeId) (hc:w.heap[4]? = some (.cells (ints .u64 QaM) tc)) (hq:w.heap[3]? = some (.cells (ints .u64 Qa5) tq)) (hsb:Qak sec) (n:Nat) (hm:n≤4294967294) (hp:pl≤4294967295) (hlt0:∀ p∈ms,p.1<(pl:Int)) (hcg:4≠g) (hsg:3≠g) (hc0:chkW nx B (n:Int)=0) (hn:pl≤n) (a:Nat) (ha:(n:Int)-(nx-1)=(a:Int)) (ha1:1≤a):Calls Tryz.prog 45 #[pp g 0,.int .i64 (n:Int)] w (fun e W=>∃ v,e=.returned (.tuple #[v,.nilIface])∧Qai [g,mg] w W∧W.heap[g]? = some (.cells (cat [#[.int .i64 ((n:Int)+1)],#[.int .u64 ((B*2^a%18446744073709551616|||1*2^(a-1)%18446744073709551616:Nat):Int)],ints .u8 (itV sec (n+1-pl)),#[.int .i64 ((pl+(n+1-pl):Nat):Int)],#[.map (some mg)]]) 100)∧MpAt mg ((QiZ ((msNo ms (n:Int))++Qc4 sec pl n (n+1-pl)) ((n:Int)+1-1-64)).map mpv) W∧QbZ w.heap.size (n:Int) (keyV (itV sec (n-pl))) v W):=by
 have hcm:=MpAt.ne hmp hc
 have hsm:=MpAt.ne hmp hq
 have hgm:=MpAt.ne hmp hg
 have hl_g:=Qaq hg
 have hl_mg:=MpAt.lt hmp
 obtain ⟨es5,cl5,hes5,hM5⟩:=id hmp
 refine enter 97 [(0,pp g 0),(1,.int .i64 (n:Int))] Tryz.func45 rfl rfl kj rfl <| sgC fun K6 hK6=>Qah (cat [#[.int .i64 0],ints .u8 (zaB 32 0),#[.slice none 0 0]]) 76 4 rfl kj kj fun g7 W1 l7 e1 r7_1=>?_
 have x1:Qai [g,mg] w W1:=zbr (zbp [g,mg] w) e1
 have b7:=qT (zbp [g,mg] w).size l7
 refine sg 1 kj <| sgN hK6 <| sgC fun K8 hK8=>sg 2 kj ?_
 have r2_1:=(Qaa hc e1)
 have r3_1:=(Qaa hq e1)
 have r1_1:=(Qaa hg e1)
 have r4_1:=(Qaa hes5 e1)
 refine Qau (fun v W'=>(QbZ W1.heap.size (n:Int) (keyV (itV sec (n-pl)))) v W'∧Ext W1 W') 43 #[pp g 0,.int .i64 (n:Int)] 11 rfl kj kj ((Qmy g nx B hnx hB sec pl mg hsec _ r1_1 ms hmo ⟨_,_,r4_1,hM5⟩ tc tq r2_1 r3_1 hsb n hp hm oo).mono mo1) fun vv9 W2 hh9=>?_
 obtain ⟨hv9,e2⟩:=hh9
 have x2:Qai [g,mg] w W2:=zbr x1 e2
 obtain ⟨u10,rfl,hu10⟩:=hv9
 obtain ⟨a10_,c10_,rfl,-⟩:=id (zbo hu10)
 have nbg:=Qcp hu10 (Qaq r1_1)
 have nbm:=Qcp hu10 (Qaq r4_1)
 refine Qah (cat [#[.int .i64 0],ints .u8 (zaB 32 0),#[.slice none 0 0]]) 76 6 rfl kj kj fun g11 W3 l11 e3 r11_3=>?_
 have x3:Qai [g,mg] w W3:=zbr x2 e3
 have b11:=qT x2.size l11
 refine Qag g11 _ (cat [#[.int .i64 (n:Int)],ints .u8 ((keyV (itV sec (n-pl))).take 32),#[.slice a10_ (((keyV (itV sec (n-pl))).drop 32).length) c10_]]) 76 r11_3 rfl kj (Qaf 76 _ _ g11 76 _ _ r11_3 rfl kj kj (isz (n:=34) kj (by rw [Qal,Qal,Qal]; simp only [qS,cat,(izT (Qbm (QaR _)))]; rfl)) (eqsz (n:=34) czR (by rw [Qal,Qal,Qal]; simp only [qS,cat,(izT (Qbm (QaR _)))]; rfl)) (QaQ _ (by intro a ha; simp only [zaF,zaG,or_false] at ha; rcases ha with rfl | rfl | rfl; exact (Qaz _ rfl); exact (Qat _ _); exact (Qaz _ rfl)))) fun W4 p4 r11_4=>?_
 have x4:Qai [g,mg] w W4:=zbs x3 p4 (.inr b11)
 refine sgN hK8 <| wp_seq_k fun K12 hK12=>sgC fun K13 hK13=>sg 4 kj <| Qau (fun v W'=>v=.nilIface∧ExtB g W4 W'∧W'.heap[g]? = some (.cells (cat [#[.int .i64 ((n:Int)+1)],#[.int .u64 ((B*2^a%18446744073709551616|||1*2^(a-1)%18446744073709551616:Nat):Int)],ints .u8 (sec),#[.int .i64 (pl:Int)],#[.map (some mg)]]) 100)) 65 #[pp g 0,.int .i64 (n:Int)] 16 rfl kj kj ((QpN g nx B (n:Int) hnx hB sec pl mg hsec _ (zbg p4 (Qaa (Qaa r1_1 e2) e3) (zaO (qL hl_g b11))) hc0 oo a ha ha1).mono fun e w' ⟨h1,h2,h3⟩=>⟨_,h1,rfl,h2,h3⟩) fun v W5 h=>?_
 obtain ⟨rfl,q5,r1_5⟩:=h
 have x5:Qai [g,mg] w W5:=Qai.but x4 q5 (.inl (by simp))
 refine sg 1 kj <| sgN hK13 <| sgB kj <| cond_false kj <| wp_skip <| hK12 _ _ <| sgC fun K15 hK15=>sg 3 kj <| sv (.map (some mg)) 24 (Qab 98 _ g 35 100 _ (.map (some mg)) _ r1_5 rfl kj (Qap [#[.int .i64 ((n:Int)+1)],#[.int .u64 ((B*2^a%18446744073709551616|||1*2^(a-1)%18446744073709551616:Nat):Int)],ints .u8 (sec),#[.int .i64 (pl:Int)]] [#[.map (some mg)]] [] 35 (cz1 hsec) 0 _ rfl) kj) ?_
 refine sg 1 kj <| QhR (n:=(n:Int)) (.tmp 24) (.tmp 25) 98 (kt:=3) (et:=132) rfl kj kj kj kj ⟨_,_,(zbm q5 (zbg p4 (Qaa (Qaa r4_1 e2) e3) (zaO (qL hl_mg b11))) (Ne.symm hgm)),hM5⟩ rfl kj fun W6 p6 hmp=>?_
 have x6:Qai [g,mg] w W6:=zbs x5 p6 (.inl (by simp))
 replace hmp:MpAt mg ((msNo ms (n:Int)).map mpv) W6:=by have h9:=hmp; rw [Qd5 (fun x=>x != (n:Int))] at h9; exact h9
 obtain ⟨es16,cl16,hes16,hM16⟩:=id hmp
 refine sgN hK15 <| wp_seq_k fun K17 hK17=>wp_block ?_
 have n_7_1:g7≠g:=(Ne.symm (zaO (qL hl_g b7)))
 have n_7_4:g7≠mg:=(Ne.symm (zaO (qL hl_mg b7)))
 have n_11_1:g11≠g:=(Ne.symm (zaO (qL hl_g b11)))
 have n_11_4:g11≠mg:=(Ne.symm (zaO (qL hl_mg b11)))
 refine Qa3 (fun (s1:Nat)=>[(0,pp g 0),(1,.int .i64 (n:Int)),(4,pp g7 0),(5,.nilIface),(6,pp g11 0),(7,.nilIface)]) (fun (s1:Nat) W=>(s1≤n+1-pl)∧(MpAt mg (((msNo ms (n:Int))++Qc4 sec pl n s1).map mpv) W)∧(W.heap[g]? = some (.cells (cat [#[.int .i64 ((n:Int)+1)],#[.int .u64 ((B*2^a%18446744073709551616|||1*2^(a-1)%18446744073709551616:Nat):Int)],ints .u8 (itV sec s1),#[.int .i64 ((pl+s1:Nat):Int)],#[.map (some mg)]]) 100))∧(Qai [g,mg] W6 W)∧(Qai [g,mg] w W)) (fun (s1:Nat)=>n+1-pl-s1) 0 ⟨kj,kj,kj,kj,kj,kj,trivial⟩ ⟨(zaI _),(by show MpAt mg (((msNo ms (n:Int))++[]).map mpv) _; rw [zaL]; exact ⟨_,_,hes16,hM16⟩),(zbg p6 r1_5 hgm),(zbp [g,mg] W6),x6⟩ fun s1 X1 V1 hI1=>?_
 obtain ⟨k,hs1⟩:∃ z,z=s1:=⟨_,rfl⟩
 subst hs1
 obtain ⟨hk,hmp,q1_1,kk1,xx1⟩:=hI1
 replace hk:k≤n+1-pl:=hk
 replace hmp:MpAt mg (((msNo ms (n:Int))++Qc4 sec pl n k).map mpv) V1:=hmp
 replace q1_1:V1.heap[g]? = some (.cells (cat [#[.int .i64 ((n:Int)+1)],#[.int .u64 ((B*2^a%18446744073709551616|||1*2^(a-1)%18446744073709551616:Nat):Int)],ints .u8 (itV sec k),#[.int .i64 ((pl+k:Nat):Int)],#[.map (some mg)]]) 100):=q1_1
 replace kk1:Qai [g,mg] W6 V1:=kk1
 replace xx1:Qai [g,mg] w V1:=xx1
 have q7:=kk1
 obtain ⟨es18,cl18,hes18,hM18⟩:=id hmp
 have hkp:pl+k≤4294967295:=by omega
 refine wp_seq_k fun K19 hK19=>sgC fun K20 hK20=>sg 3 kj <| sv (.int .i64 ((pl+k:Nat):Int)) 29 (Qab 3 _ g 34 100 _ (.int .i64 ((pl+k:Nat):Int)) _ q1_1 rfl kj (Qap [#[.int .i64 ((n:Int)+1)],#[.int .u64 ((B*2^a%18446744073709551616|||1*2^(a-1)%18446744073709551616:Nat):Int)],ints .u8 (itV sec k)] [#[.int .i64 ((pl+k:Nat):Int)]] [#[.map (some mg)]] 34 (cz1 (Qa6 hsec k)) 0 _ rfl) kj) ?_
 refine sg 2 kj <| sgN hK20 <| Qay (t:=decide (((pl+k:Nat):Int)≤(n:Int))) kj (fun c21=>?_) (fun c21=>?_)
 ·skip
  have hlt:pl+k≤n:=by have:=of_decide_eq_true c21; omega
  refine wp_skip <| hK19 _ _ <| wp_block <| wp_seq_k fun K22 hK22=>wp_seq_k fun K23 hK23=>?_
  rcases (show (pl+k<n∧n≤pl+k+64)∨(pl+k<n∧pl+k+64<n)∨pl+k=n by omega) with hcc | hcc | hcc
  ·skip
   refine Qaj <| sg 3 kj <| sv (.int .i64 ((pl+k:Nat):Int)) 35 (Qab 3 _ g 34 100 _ (.int .i64 ((pl+k:Nat):Int)) _ q1_1 rfl kj (Qap [#[.int .i64 ((n:Int)+1)],#[.int .u64 ((B*2^a%18446744073709551616|||1*2^(a-1)%18446744073709551616:Nat):Int)],ints .u8 (itV sec k)] [#[.int .i64 ((pl+k:Nat):Int)]] [#[.map (some mg)]] 34 (cz1 (Qa6 hsec k)) 0 _ rfl) kj) ?_
   refine sg 1 kj <| sv (.bool true) 37 (Qac (u:=.bool (decide (((pl+k:Nat):Int)<(n:Int)))) kj (congrArg zah (decide_eq_true oo))) <| sg 4 kj <| sv (.int .i64 ((pl+k:Nat):Int)) 42 (Qab 3 _ g 34 100 _ (.int .i64 ((pl+k:Nat):Int)) _ q1_1 rfl kj (Qap [#[.int .i64 ((n:Int)+1)],#[.int .u64 ((B*2^a%18446744073709551616|||1*2^(a-1)%18446744073709551616:Nat):Int)],ints .u8 (itV sec k)] [#[.int .i64 ((pl+k:Nat):Int)]] [#[.map (some mg)]] 34 (cz1 (Qa6 hsec k)) 0 _ rfl) kj) ?_
   refine sg 1 kj <| sv (.int .i64 ((n:Int)-64)) 44 (Qac (u:=.int .i64 (zaa.wrap ((n:Int)-64))) kj (congrArg (zag .i64) (QbM _ oo))) <| sv (.bool true) 45 (Qac (u:=.bool (decide (((pl+k:Nat):Int)≥((n:Int)-64)))) kj (congrArg zah (decide_eq_true oo))) <| sg 1 kj <| sgN hK23 <| cond_true kj <| Wm.region_walkM (fun W=>W.heap[g]? = some (.cells (cat [#[.int .i64 ((n:Int)+1)],#[.int .u64 ((B*2^a%18446744073709551616|||1*2^(a-1)%18446744073709551616:Nat):Int)],ints .u8 (itV sec k),#[.int .i64 ((pl+k:Nat):Int)],#[.map (some mg)]]) 100)) 13 kj fun W8 e8=>⟨Qaa q1_1 e8,?_⟩
   have x8:Qai [g,mg] w W8:=zbr xx1 e8
   refine Wm.wm_val 0 (pp g 0) 47 rfl rfl kj kj dd kj (fun _ _ _ h=>h) (fun W hR=>kj) <| Wm.wm_val 1 (pp g 0) 48 rfl rfl kj kj dd kj (fun _ _ _ h=>h) (fun W hR=>kj) <| Wm.wm_val 2 (pp g 35) 49 rfl rfl kj kj dd kj (fun _ _ _ h=>h) (fun W hR=>kj) <| Wm.wm_val 3 (.map (some mg)) 50 rfl rfl kj kj dd kj (fun _ _ _ h=>h) (fun W hR=>(Qab 98 _ g 35 100 _ (.map (some mg)) _ hR rfl kj (Qap [#[.int .i64 ((n:Int)+1)],#[.int .u64 ((B*2^a%18446744073709551616|||1*2^(a-1)%18446744073709551616:Nat):Int)],ints .u8 (itV sec k),#[.int .i64 ((pl+k:Nat):Int)]] [#[.map (some mg)]] [] 35 (cz1 (Qa6 hsec k)) 0 _ rfl) kj)) ?_
   refine Wm.wm_val 4 (pp g 0) 51 rfl rfl kj kj dd kj (fun _ _ _ h=>h) (fun W hR=>kj) <| Wm.wm_val 5 (pp g 0) 52 rfl rfl kj kj dd kj (fun _ _ _ h=>h) (fun W hR=>kj) <| Wm.wm_val 6 (pp g 34) 53 rfl rfl kj kj dd kj (fun _ _ _ h=>h) (fun W hR=>kj) <| Wm.wm_val 7 (.int .i64 ((pl+k:Nat):Int)) 54 rfl rfl kj kj dd kj (fun _ _ _ h=>h) (fun W hR=>(Qab 3 _ g 34 100 _ (.int .i64 ((pl+k:Nat):Int)) _ hR rfl kj (Qap [#[.int .i64 ((n:Int)+1)],#[.int .u64 ((B*2^a%18446744073709551616|||1*2^(a-1)%18446744073709551616:Nat):Int)],ints .u8 (itV sec k)] [#[.int .i64 ((pl+k:Nat):Int)]] [#[.map (some mg)]] 34 (cz1 (Qa6 hsec k)) 0 _ rfl) kj)) ?_
   refine Wm.wm_val 8 (pp g 0) 55 rfl rfl kj kj dd kj (fun _ _ _ h=>h) (fun W hR=>kj) <| Wm.wm_val 9 (pp g 0) 56 rfl rfl kj kj dd kj (fun _ _ _ h=>h) (fun W hR=>kj) <| Wm.wm_val 10 (pp g 2) 57 rfl rfl kj kj dd kj (fun _ _ _ h=>h) (fun W hR=>kj) <| Wm.wm_val 11 (.agg (ints .u8 (itV sec k))) 58 rfl rfl kj kj dd kj (fun _ _ _ h=>h) (fun W hR=>(Qa4 23 _ g 2 100 _ _ _ hR rfl kj (Qap [#[.int .i64 ((n:Int)+1)],#[.int .u64 ((B*2^a%18446744073709551616|||1*2^(a-1)%18446744073709551616:Nat):Int)]] [ints .u8 (itV sec k)] [#[.int .i64 ((pl+k:Nat):Int)],#[.map (some mg)]] 2 kj) kj (isz (n:=32) kj (izT (Qa6 hsec k))))) ?_
   have r1_8:=(Qaa q1_1 e8)
   have r2_2:=(Qaa r2_1 e2)
   have r2_3:=(Qaa r2_2 e3)
   have r2_4:=(zbg p4 r2_3 (Qad r2_2 l11))
   have r2_5:=(zbm q5 r2_4 hcg)
   have r2_6:=(zbg p6 r2_5 hcm)
   have r2_7:=(zbq q7 r2_6 (Qaw hcg (Qaw hcm QaF)))
   have r2_8:=(Qaa r2_7 e8)
   have r3_2:=(Qaa r3_1 e2)
   have r3_3:=(Qaa r3_2 e3)
   have r3_4:=(zbg p4 r3_3 (Qad r3_2 l11))
   have r3_5:=(zbm q5 r3_4 hsg)
   have r3_6:=(zbg p6 r3_5 hsm)
   have r3_7:=(zbq q7 r3_6 (Qaw hsg (Qaw hsm QaF)))
   have r3_8:=(Qaa r3_7 e8)
   refine Wm.wm_call 12 kj rfl (fun v W'=>(fun v _=>v=.agg (ints .u8 (keyV (itV sec k)))) v W'∧Ext W8 W') 64 #[.agg (ints .u8 (itV sec k))] 59 rfl kj kj ((retG (Qkq (itV sec k) tc tq _ r2_8 r3_8 (Qa6 hsec k) (Qb6 hsb k))).mono mo1) (fun v W h=>Qaa r1_8 h.2) fun vv24 W9 hh24=>?_
   obtain ⟨hv24,e9⟩:=hh24
   have x9:Qai [g,mg] w W9:=zbr x8 e9
   subst hv24
   have r1_9:=(Qaa r1_8 e9)
   have r4_8:=(Qaa hes18 e8)
   have r4_9:=(Qaa r4_8 e9)
   refine Wm.wm_last kj kj rfl (fun W'=>Puts W9 mg W'∧MpAt mg ((((msNo ms (n:Int))++Qc4 sec pl n k).map mpv)++[(((pl+k:Nat):Int),.agg (ints .u8 (keyV (itV sec k))))]) W') rfl kj (QhT 98 _ _ _ (kt:=3) (et:=132) rfl kj kj kj kj kj ⟨_,_,r4_9,hM18⟩ (Qka (QgV hlt0))) fun W10 hh=>?_
   obtain ⟨p10,hmp⟩:=hh
   have x10:Qai [g,mg] w W10:=zbs x9 p10 (.inl (by simp))
   replace hmp:MpAt mg (((msNo ms (n:Int))++Qc4 sec pl n (k+1)).map mpv) W10:=by rw [Qi6 hcc,←za5,zaA]; exact hmp
   obtain ⟨es25,cl25,hes25,hM25⟩:=id hmp
   refine hK22 _ _ <| sgC fun K26 hK26=>sg 4 kj ?_
   have r1_10:=(zbg p10 r1_9 hgm)
   refine sv (.agg (ints .u8 (itV sec k))) 64 (Qa4 23 _ g 2 100 _ _ _ r1_10 rfl kj (Qap [#[.int .i64 ((n:Int)+1)],#[.int .u64 ((B*2^a%18446744073709551616|||1*2^(a-1)%18446744073709551616:Nat):Int)]] [ints .u8 (itV sec k)] [#[.int .i64 ((pl+k:Nat):Int)],#[.map (some mg)]] 2 kj) kj (isz (n:=32) kj (izT (Qa6 hsec k)))) <| Qao (.agg (ints .u8 (itV sec (k+1)))) 63 #[.agg (ints .u8 (itV sec k))] 65 rfl kj kj (Qfz (itV sec k) tc tq _ (zbg p10 (Qaa r2_8 e9) hcm) (zbg p10 (Qaa r3_8 e9) hsm) (Qa6 hsec k) (Qb6 hsb k)) fun W11 e11=>?_
   have x11:Qai [g,mg] w W11:=zbr x10 e11
   refine sg 2 kj ?_
   have r1_11:=(Qaa r1_10 e11)
   refine Qag g _ (cat [#[.int .i64 ((n:Int)+1)],#[.int .u64 ((B*2^a%18446744073709551616|||1*2^(a-1)%18446744073709551616:Nat):Int)],ints .u8 (itV sec (k+1)),#[.int .i64 ((pl+k:Nat):Int)],#[.map (some mg)]]) 100 r1_11 rfl kj (QbG 23 _ _ g 2 100 [#[.int .i64 ((n:Int)+1)],#[.int .u64 ((B*2^a%18446744073709551616|||1*2^(a-1)%18446744073709551616:Nat):Int)]] [ints .u8 (itV sec k)] [ints .u8 (itV sec (k+1))] [#[.int .i64 ((pl+k:Nat):Int)],#[.map (some mg)]] r1_11 rfl kj kj (isz (n:=32) kj (izT (Qa6 hsec (k+1)))) kj (eqsz (n:=32) (izT (Qa6 hsec (k+1))) (izT (Qa6 hsec k))) (Qat _ _)) fun W12 p12 r1_12=>?_
   have x12:Qai [g,mg] w W12:=zbs x11 p12 (.inl (by simp))
   refine sgN hK26 <| Qaj <| sg 3 kj <| sv (.int .i64 ((pl+k:Nat):Int)) 71 (Qab 3 _ g 34 100 _ (.int .i64 ((pl+k:Nat):Int)) _ r1_12 rfl kj (Qap [#[.int .i64 ((n:Int)+1)],#[.int .u64 ((B*2^a%18446744073709551616|||1*2^(a-1)%18446744073709551616:Nat):Int)],ints .u8 (itV sec (k+1))] [#[.int .i64 ((pl+k:Nat):Int)]] [#[.map (some mg)]] 34 (cz1 (Qa6 hsec (k+1))) 0 _ rfl) kj) ?_
   refine sv (.int .i64 (((pl+(k+1):Nat):Int))) 72 (Qac (u:=.int .i64 (zaa.wrap (((pl+k:Nat):Int)+1))) kj (congrArg (zag .i64) ((QbM _ oo).trans oo))) <| sg 2 kj <| Qag g _ (cat [#[.int .i64 ((n:Int)+1)],#[.int .u64 ((B*2^a%18446744073709551616|||1*2^(a-1)%18446744073709551616:Nat):Int)],ints .u8 (itV sec (k+1)),#[.int .i64 (((pl+(k+1):Nat):Int))],#[.map (some mg)]]) 100 r1_12 rfl kj (run_storeQ 3 _ _ g 34 100 [#[.int .i64 ((n:Int)+1)],#[.int .u64 ((B*2^a%18446744073709551616|||1*2^(a-1)%18446744073709551616:Nat):Int)],ints .u8 (itV sec (k+1))] [#[.map (some mg)]] _ (.int .i64 (((pl+(k+1):Nat):Int))) r1_12 rfl kj kj kj (cz1 (Qa6 hsec (k+1))) rfl rfl) fun W13 p13 r1_13=>?_
   have x13:Qai [g,mg] w W13:=zbs x12 p13 (.inl (by simp))
   refine Qas ?_
   with_reducible repeat first | refine goX1 ?_ | refine goX2 ?_ | refine goX3 ?_
   exact Qa1 (k+1) ⟨kj,kj,kj,kj,kj,kj,trivial⟩ ⟨oo,⟨_,_,(zbg p13 (zbg p12 (Qaa hes25 e11) (Ne.symm hgm)) (Ne.symm hgm)),hM25⟩,r1_13,(zbs (zbs (zbr (zbs (zbr (zbr q7 e8) e9) p10 (.inl (by simp))) e11) p12 (.inl (by simp))) p13 (.inl (by simp))),x13⟩ oo
  ·skip
   refine Qaj <| sg 3 kj <| sv (.int .i64 ((pl+k:Nat):Int)) 35 (Qab 3 _ g 34 100 _ (.int .i64 ((pl+k:Nat):Int)) _ q1_1 rfl kj (Qap [#[.int .i64 ((n:Int)+1)],#[.int .u64 ((B*2^a%18446744073709551616|||1*2^(a-1)%18446744073709551616:Nat):Int)],ints .u8 (itV sec k)] [#[.int .i64 ((pl+k:Nat):Int)]] [#[.map (some mg)]] 34 (cz1 (Qa6 hsec k)) 0 _ rfl) kj) ?_
   refine sg 1 kj <| sv (.bool true) 37 (Qac (u:=.bool (decide (((pl+k:Nat):Int)<(n:Int)))) kj (congrArg zah (decide_eq_true oo))) <| sg 4 kj <| sv (.int .i64 ((pl+k:Nat):Int)) 42 (Qab 3 _ g 34 100 _ (.int .i64 ((pl+k:Nat):Int)) _ q1_1 rfl kj (Qap [#[.int .i64 ((n:Int)+1)],#[.int .u64 ((B*2^a%18446744073709551616|||1*2^(a-1)%18446744073709551616:Nat):Int)],ints .u8 (itV sec k)] [#[.int .i64 ((pl+k:Nat):Int)]] [#[.map (some mg)]] 34 (cz1 (Qa6 hsec k)) 0 _ rfl) kj) ?_
   refine sg 1 kj <| sv (.int .i64 ((n:Int)-64)) 44 (Qac (u:=.int .i64 (zaa.wrap ((n:Int)-64))) kj (congrArg (zag .i64) (QbM _ oo))) <| sv (.bool false) 45 (Qac (u:=.bool (decide (((pl+k:Nat):Int)≥((n:Int)-64)))) kj (congrArg zah (decide_eq_false oo))) <| sg 1 kj <| sgN hK23 <| cond_false kj <| wp_skip <| hK22 _ _ <| sgC fun K27 hK27=>sg 4 kj ?_
   refine sv (.agg (ints .u8 (itV sec k))) 64 (Qa4 23 _ g 2 100 _ _ _ q1_1 rfl kj (Qap [#[.int .i64 ((n:Int)+1)],#[.int .u64 ((B*2^a%18446744073709551616|||1*2^(a-1)%18446744073709551616:Nat):Int)]] [ints .u8 (itV sec k)] [#[.int .i64 ((pl+k:Nat):Int)],#[.map (some mg)]] 2 kj) kj (isz (n:=32) kj (izT (Qa6 hsec k)))) ?_
   have r2_2:=(Qaa r2_1 e2)
   have r2_3:=(Qaa r2_2 e3)
   have r2_4:=(zbg p4 r2_3 (Qad r2_2 l11))
   have r2_5:=(zbm q5 r2_4 hcg)
   have r2_6:=(zbg p6 r2_5 hcm)
   have r2_7:=(zbq q7 r2_6 (Qaw hcg (Qaw hcm QaF)))
   have r3_2:=(Qaa r3_1 e2)
   have r3_3:=(Qaa r3_2 e3)
   have r3_4:=(zbg p4 r3_3 (Qad r3_2 l11))
   have r3_5:=(zbm q5 r3_4 hsg)
   have r3_6:=(zbg p6 r3_5 hsm)
   have r3_7:=(zbq q7 r3_6 (Qaw hsg (Qaw hsm QaF)))
   refine Qao (.agg (ints .u8 (itV sec (k+1)))) 63 #[.agg (ints .u8 (itV sec k))] 65 rfl kj kj (Qfz (itV sec k) tc tq _ r2_7 r3_7 (Qa6 hsec k) (Qb6 hsb k)) fun W8 e8=>?_
   have x8:Qai [g,mg] w W8:=zbr xx1 e8
   refine sg 2 kj ?_
   have r1_8:=(Qaa q1_1 e8)
   refine Qag g _ (cat [#[.int .i64 ((n:Int)+1)],#[.int .u64 ((B*2^a%18446744073709551616|||1*2^(a-1)%18446744073709551616:Nat):Int)],ints .u8 (itV sec (k+1)),#[.int .i64 ((pl+k:Nat):Int)],#[.map (some mg)]]) 100 r1_8 rfl kj (QbG 23 _ _ g 2 100 [#[.int .i64 ((n:Int)+1)],#[.int .u64 ((B*2^a%18446744073709551616|||1*2^(a-1)%18446744073709551616:Nat):Int)]] [ints .u8 (itV sec k)] [ints .u8 (itV sec (k+1))] [#[.int .i64 ((pl+k:Nat):Int)],#[.map (some mg)]] r1_8 rfl kj kj (isz (n:=32) kj (izT (Qa6 hsec (k+1)))) kj (eqsz (n:=32) (izT (Qa6 hsec (k+1))) (izT (Qa6 hsec k))) (Qat _ _)) fun W9 p9 r1_9=>?_
   have x9:Qai [g,mg] w W9:=zbs x8 p9 (.inl (by simp))
   refine sgN hK27 <| Qaj <| sg 3 kj <| sv (.int .i64 ((pl+k:Nat):Int)) 71 (Qab 3 _ g 34 100 _ (.int .i64 ((pl+k:Nat):Int)) _ r1_9 rfl kj (Qap [#[.int .i64 ((n:Int)+1)],#[.int .u64 ((B*2^a%18446744073709551616|||1*2^(a-1)%18446744073709551616:Nat):Int)],ints .u8 (itV sec (k+1))] [#[.int .i64 ((pl+k:Nat):Int)]] [#[.map (some mg)]] 34 (cz1 (Qa6 hsec (k+1))) 0 _ rfl) kj) ?_
   refine sv (.int .i64 (((pl+(k+1):Nat):Int))) 72 (Qac (u:=.int .i64 (zaa.wrap (((pl+k:Nat):Int)+1))) kj (congrArg (zag .i64) ((QbM _ oo).trans oo))) <| sg 2 kj <| Qag g _ (cat [#[.int .i64 ((n:Int)+1)],#[.int .u64 ((B*2^a%18446744073709551616|||1*2^(a-1)%18446744073709551616:Nat):Int)],ints .u8 (itV sec (k+1)),#[.int .i64 (((pl+(k+1):Nat):Int))],#[.map (some mg)]]) 100 r1_9 rfl kj (run_storeQ 3 _ _ g 34 100 [#[.int .i64 ((n:Int)+1)],#[.int .u64 ((B*2^a%18446744073709551616|||1*2^(a-1)%18446744073709551616:Nat):Int)],ints .u8 (itV sec (k+1))] [#[.map (some mg)]] _ (.int .i64 (((pl+(k+1):Nat):Int))) r1_9 rfl kj kj kj (cz1 (Qa6 hsec (k+1))) rfl rfl) fun W10 p10 r1_10=>?_
   have x10:Qai [g,mg] w W10:=zbs x9 p10 (.inl (by simp))
   refine Qas ?_
   have r4_8:=(Qaa hes18 e8)
   have r4_9:=(zbg p9 r4_8 (Ne.symm hgm))
   have r4_10:=(zbg p10 r4_9 (Ne.symm hgm))
   with_reducible repeat first | refine goX1 ?_ | refine goX2 ?_ | refine goX3 ?_
   exact Qa1 (k+1) ⟨kj,kj,kj,kj,kj,kj,trivial⟩ ⟨oo,(by rw [Qgy oo]; exact ⟨_,_,r4_10,hM18⟩),r1_10,(zbs (zbs (zbr q7 e8) p9 (.inl (by simp))) p10 (.inl (by simp))),x10⟩ oo
  ·skip
   refine Qaj <| sg 3 kj <| sv (.int .i64 ((pl+k:Nat):Int)) 35 (Qab 3 _ g 34 100 _ (.int .i64 ((pl+k:Nat):Int)) _ q1_1 rfl kj (Qap [#[.int .i64 ((n:Int)+1)],#[.int .u64 ((B*2^a%18446744073709551616|||1*2^(a-1)%18446744073709551616:Nat):Int)],ints .u8 (itV sec k)] [#[.int .i64 ((pl+k:Nat):Int)]] [#[.map (some mg)]] 34 (cz1 (Qa6 hsec k)) 0 _ rfl) kj) ?_
   refine sg 1 kj <| sv (.bool false) 37 (Qac (u:=.bool (decide (((pl+k:Nat):Int)<(n:Int)))) kj (congrArg zah (decide_eq_false oo))) <| sg 9 kj <| sgN hK23 <| cond_false kj <| wp_skip <| hK22 _ _ <| sgC fun K28 hK28=>sg 4 kj <| sv (.agg (ints .u8 (itV sec k))) 64 (Qa4 23 _ g 2 100 _ _ _ q1_1 rfl kj (Qap [#[.int .i64 ((n:Int)+1)],#[.int .u64 ((B*2^a%18446744073709551616|||1*2^(a-1)%18446744073709551616:Nat):Int)]] [ints .u8 (itV sec k)] [#[.int .i64 ((pl+k:Nat):Int)],#[.map (some mg)]] 2 kj) kj (isz (n:=32) kj (izT (Qa6 hsec k)))) ?_
   have r2_2:=(Qaa r2_1 e2)
   have r2_3:=(Qaa r2_2 e3)
   have r2_4:=(zbg p4 r2_3 (Qad r2_2 l11))
   have r2_5:=(zbm q5 r2_4 hcg)
   have r2_6:=(zbg p6 r2_5 hcm)
   have r2_7:=(zbq q7 r2_6 (Qaw hcg (Qaw hcm QaF)))
   have r3_2:=(Qaa r3_1 e2)
   have r3_3:=(Qaa r3_2 e3)
   have r3_4:=(zbg p4 r3_3 (Qad r3_2 l11))
   have r3_5:=(zbm q5 r3_4 hsg)
   have r3_6:=(zbg p6 r3_5 hsm)
   have r3_7:=(zbq q7 r3_6 (Qaw hsg (Qaw hsm QaF)))
   refine Qao (.agg (ints .u8 (itV sec (k+1)))) 63 #[.agg (ints .u8 (itV sec k))] 65 rfl kj kj (Qfz (itV sec k) tc tq _ r2_7 r3_7 (Qa6 hsec k) (Qb6 hsb k)) fun W8 e8=>?_
   have x8:Qai [g,mg] w W8:=zbr xx1 e8
   refine sg 2 kj ?_
   have r1_8:=(Qaa q1_1 e8)
   refine Qag g _ (cat [#[.int .i64 ((n:Int)+1)],#[.int .u64 ((B*2^a%18446744073709551616|||1*2^(a-1)%18446744073709551616:Nat):Int)],ints .u8 (itV sec (k+1)),#[.int .i64 ((pl+k:Nat):Int)],#[.map (some mg)]]) 100 r1_8 rfl kj (QbG 23 _ _ g 2 100 [#[.int .i64 ((n:Int)+1)],#[.int .u64 ((B*2^a%18446744073709551616|||1*2^(a-1)%18446744073709551616:Nat):Int)]] [ints .u8 (itV sec k)] [ints .u8 (itV sec (k+1))] [#[.int .i64 ((pl+k:Nat):Int)],#[.map (some mg)]] r1_8 rfl kj kj (isz (n:=32) kj (izT (Qa6 hsec (k+1)))) kj (eqsz (n:=32) (izT (Qa6 hsec (k+1))) (izT (Qa6 hsec k))) (Qat _ _)) fun W9 p9 r1_9=>?_
   have x9:Qai [g,mg] w W9:=zbs x8 p9 (.inl (by simp))
   refine sgN hK28 <| Qaj <| sg 3 kj <| sv (.int .i64 ((pl+k:Nat):Int)) 71 (Qab 3 _ g 34 100 _ (.int .i64 ((pl+k:Nat):Int)) _ r1_9 rfl kj (Qap [#[.int .i64 ((n:Int)+1)],#[.int .u64 ((B*2^a%18446744073709551616|||1*2^(a-1)%18446744073709551616:Nat):Int)],ints .u8 (itV sec (k+1))] [#[.int .i64 ((pl+k:Nat):Int)]] [#[.map (some mg)]] 34 (cz1 (Qa6 hsec (k+1))) 0 _ rfl) kj) ?_
   refine sv (.int .i64 (((pl+(k+1):Nat):Int))) 72 (Qac (u:=.int .i64 (zaa.wrap (((pl+k:Nat):Int)+1))) kj (congrArg (zag .i64) ((QbM _ oo).trans oo))) <| sg 2 kj <| Qag g _ (cat [#[.int .i64 ((n:Int)+1)],#[.int .u64 ((B*2^a%18446744073709551616|||1*2^(a-1)%18446744073709551616:Nat):Int)],ints .u8 (itV sec (k+1)),#[.int .i64 (((pl+(k+1):Nat):Int))],#[.map (some mg)]]) 100 r1_9 rfl kj (run_storeQ 3 _ _ g 34 100 [#[.int .i64 ((n:Int)+1)],#[.int .u64 ((B*2^a%18446744073709551616|||1*2^(a-1)%18446744073709551616:Nat):Int)],ints .u8 (itV sec (k+1))] [#[.map (some mg)]] _ (.int .i64 (((pl+(k+1):Nat):Int))) r1_9 rfl kj kj kj (cz1 (Qa6 hsec (k+1))) rfl rfl) fun W10 p10 r1_10=>?_
   have x10:Qai [g,mg] w W10:=zbs x9 p10 (.inl (by simp))
   refine Qas ?_
   have r4_8:=(Qaa hes18 e8)
   have r4_9:=(zbg p9 r4_8 (Ne.symm hgm))
   have r4_10:=(zbg p10 r4_9 (Ne.symm hgm))
   with_reducible repeat first | refine goX1 ?_ | refine goX2 ?_ | refine goX3 ?_
   exact Qa1 (k+1) ⟨kj,kj,kj,kj,kj,kj,trivial⟩ ⟨oo,(by rw [Qgy oo]; exact ⟨_,_,r4_10,hM18⟩),r1_10,(zbs (zbs (zbr q7 e8) p9 (.inl (by simp))) p10 (.inl (by simp))),x10⟩ oo
 ·skip
  have heq:k=n+1-pl:=by have:=of_decide_eq_false c21; omega
  refine wp_exit <| hK17 _ _ <| wp_seq_k fun K29 hK29=>sgC fun K30 hK30=>sg 3 kj <| sv (.map (some mg)) 78 (Qab 98 _ g 35 100 _ (.map (some mg)) _ q1_1 rfl kj (Qap [#[.int .i64 ((n:Int)+1)],#[.int .u64 ((B*2^a%18446744073709551616|||1*2^(a-1)%18446744073709551616:Nat):Int)],ints .u8 (itV sec k),#[.int .i64 ((pl+k:Nat):Int)]] [#[.map (some mg)]] [] 35 (cz1 (Qa6 hsec k)) 0 _ rfl) kj) ?_
  refine QhQ (.mapIter (some mg) cl18 #[] cl18) (fun g=>pp g 0) 79 rfl kj (QfB (kt:=3) (et:=132) 98 _ rfl kj kj hes18) fun g32 W8 l32 e8 r32_8=>?_
  have x8:Qai [g,mg] w W8:=zbr xx1 e8
  have b32:=qT xx1.size l32
  have r4_8:=(Qaa hes18 e8)
  have hrg0:Qdp mg g32 ((n:Int)+1-1-64) es18 cl18 #[] W8:=Qdp.start hM18 r4_8 r32_8
  refine sgN hK30 <| wp_block ?_
  have r2_2:=(Qaa r2_1 e2)
  have r2_3:=(Qaa r2_2 e3)
  have r2_4:=(zbg p4 r2_3 (Qad r2_2 l11))
  have r2_5:=(zbm q5 r2_4 hcg)
  have r2_6:=(zbg p6 r2_5 hcm)
  have r2_7:=(zbq q7 r2_6 (Qaw hcg (Qaw hcm QaF)))
  have n_2_32:4≠g32:=(Qad r2_7 l32)
  have r3_2:=(Qaa r3_1 e2)
  have r3_3:=(Qaa r3_2 e3)
  have r3_4:=(zbg p4 r3_3 (Qad r3_2 l11))
  have r3_5:=(zbm q5 r3_4 hsg)
  have r3_6:=(zbg p6 r3_5 hsm)
  have r3_7:=(zbq q7 r3_6 (Qaw hsg (Qaw hsm QaF)))
  have n_3_32:3≠g32:=(Qad r3_7 l32)
  have r7_2:=(Qaa r7_1 e2)
  have r7_7:=(zbq q7 (zbg p6 (zbm q5 (rpn p4 r7_2 e3 l11) n_7_1) n_7_4) (Qaw n_7_1 (Qaw n_7_4 QaF)))
  have n_7_32:g7≠g32:=(Qad r7_7 l32)
  have r11_7:=(zbq q7 (zbg p6 (zbm q5 r11_4 n_11_1) n_11_4) (Qaw n_11_1 (Qaw n_11_4 QaF)))
  have n_11_32:g11≠g32:=(Qad r11_7 l32)
  have n_32_1:g32≠g:=(Ne.symm (zaO (qL hl_g b32)))
  have n_32_4:g32≠mg:=(Ne.symm (zaO (qL hl_mg b32)))
  refine Qa3 (fun (s2:Array Nat)=>[(0,pp g 0),(1,.int .i64 (n:Int)),(4,pp g7 0),(5,.nilIface),(6,pp g11 0),(79,pp g32 0)]) (fun (s2:Array Nat) W=>(Qdp mg g32 ((n:Int)+1-1-64) es18 cl18 s2 W)∧(Qai [mg,g32] W8 W)∧(Qai [g,mg] w W)) (fun (s2:Array Nat)=>rmu es18 s2) #[] ⟨kj,kj,kj,kj,kj,kj,trivial⟩ ⟨hrg0,(zbp [mg,g32] W8),x8⟩ fun s2 X2 V2 hI2=>?_
  obtain ⟨sn,hs2⟩:∃ z,z=s2:=⟨_,rfl⟩
  subst hs2
  obtain ⟨hrg,kk2,xx2⟩:=hI2
  replace hrg:Qdp mg g32 ((n:Int)+1-1-64) es18 cl18 sn V2:=hrg
  replace kk2:Qai [mg,g32] W8 V2:=kk2
  replace xx2:Qai [g,mg] w V2:=xx2
  have q9:=kk2
  refine sgC fun K33 hK33=>Qg4 (.tmp 79) hM18 rfl kj hrg 80 rfl kj (fun hmp=>?_) (fun e y WN hy pN hst hen=>?_)
  ·skip
   obtain ⟨es34,cl34,hes34,hM34⟩:=id hmp
   refine sg 1 kj <| sgN hK33 <| wp_seq_k fun K35 hK35=>cond_false kj <| wp_exit <| hK29 _ _ <| sgC fun K36 hK36=>sv (.agg (cat [#[.int .i64 (n:Int)],ints .u8 ((keyV (itV sec (n-pl))).take 32),#[.slice a10_ (((keyV (itV sec (n-pl))).drop 32).length) c10_]])) 96 (Qae 76 _ g11 76 _ _ (zbq q9 (Qaa r11_7 e8) (Qaw n_11_4 (Qaw n_11_32 QaF))) rfl kj kj (isz (n:=34) kj (by rw [Qal,Qal,Qal]; simp only [qS,cat,(izT (Qbm (QaR _)))]; rfl))) ?_
   have r7_9:=(zbq q9 (Qaa r7_7 e8) (Qaw n_7_4 (Qaw n_7_32 QaF)))
   refine Qag g7 _ (cat [#[.int .i64 (n:Int)],ints .u8 ((keyV (itV sec (n-pl))).take 32),#[.slice a10_ (((keyV (itV sec (n-pl))).drop 32).length) c10_]]) 76 r7_9 rfl kj (Qaf 76 _ _ g7 76 _ _ r7_9 rfl kj kj (isz (n:=34) kj (by rw [Qal,Qal,Qal]; simp only [qS,cat,(izT (Qbm (QaR _)))]; rfl)) (eqsz (n:=34) czR (by rw [Qal,Qal,Qal]; simp only [qS,cat,(izT (Qbm (QaR _)))]; rfl)) (QaQ _ (by intro a ha; simp only [zaF,zaG,or_false] at ha; rcases ha with rfl | rfl | rfl; exact (Qaz _ rfl); exact (Qat _ _); exact (Qaz _ rfl)))) fun W10 p10 r7_10=>?_
   have x10:Qai [g,mg] w W10:=zbs xx2 p10 (.inr b7)
   refine sg 1 kj <| sgN hK36 <| wp_ret ?_
   with_reducible repeat first | refine goR1 ?_ | refine goR2 ?_
   have r1_8:=(Qaa q1_1 e8)
   have r1_9:=(zbq q9 r1_8 (Qaw hgm (Qaw (Ne.symm n_32_1) QaF)))
   have r1_10:=(zbg p10 r1_9 (Ne.symm n_7_1))
   have r4_10:=(zbg p10 hes34 (Ne.symm n_7_4))
   have f41_7:=(OwnN.keepsL ((ownN_but ((hu10.ext e3).puts p4 (nb_new hu10 l11)) q5 nbg).puts p6 nbm) q7 (nb_cons nbg (nb_cons nbm nb_nil)))
   exact (show bodyPost _ _ _ .ret _ _ from ret2 (.agg (cat [#[.int .i64 (n:Int)],ints .u8 ((keyV (itV sec (n-pl))).take 32),#[.slice a10_ (((keyV (itV sec (n-pl))).drop 32).length) c10_]])) (.nilIface) rfl (QaJ g7 76 _ r7_10 kj kj (isz (n:=34) kj (by rw [Qal,Qal,Qal]; simp only [qS,cat,(izT (Qbm (QaR _)))]; rfl))) (Qax kj) ⟨_,rfl,x10,(by rw [←heq]; exact r1_10),(by have h9:MpAt mg _ _:=⟨_,_,r4_10,hM34⟩; rw [Qd5 (fun x=>decide (((n:Int)+1-1-64)≤x))] at h9; rw [←heq]; exact h9),_,rfl,zbn x1.size ((OwnN.keepsL (f41_7.ext e8) q9 (nb_cons nbm (nb_cons (nb_new f41_7 l32) nb_nil))).puts p10 (Qcp hu10 (Qaq r7_1)))⟩)
  ·skip
   have p10:=pN
   have x10:Qai [g,mg] w WN:=zbs xx2 p10 (.inr b32)
   refine sg 1 kj <| sgN hK33 <| sgT kj <| wp_block <| sgC fun K46 hK46=>sv (.tuple #[.int .i64 y,e.val]) 82 (QfC _ rfl kj hen) <| sg 2 kj <| sgN hK46 <| sgC fun K47 hK47=>sg 4 kj ?_
   have r1_8:=(Qaa q1_1 e8)
   have r1_9:=(zbq q9 r1_8 (Qaw hgm (Qaw (Ne.symm n_32_1) QaF)))
   have r1_10:=(zbg p10 r1_9 (Ne.symm n_32_1))
   refine Qao (.int .i64 ((n:Int)+1-1)) 66 #[pp g 0] 88 rfl kj kj (Qi9 g ((n:Int)+1) (B*2^a%18446744073709551616|||1*2^(a-1)%18446744073709551616) oo (Qie _ _ (zal _ dd) (zal _ dd)) _ _ mg (Qa6 hsec k) _ r1_10) fun W11 e11=>?_
   have x11:Qai [g,mg] w W11:=zbr x10 e11
   refine sv (.int .i64 ((n:Int)+1-1-64)) 89 (Qac (u:=.int .i64 (zaa.wrap (((n:Int)+1-1)-64))) kj (congrArg (zag .i64) (QbM _ oo))) <| sg 1 kj <| sgN hK47 <| Qay (t:=decide (y<((n:Int)+1-1-64))) kj (fun c48=>?_) (fun c48=>?_)
   ·skip
    have hcut:(y<((n:Int)+1-1-64)):=of_decide_eq_true c48
    refine Qaj <| sg 3 kj ?_
    have r1_11:=(Qaa r1_10 e11)
    refine sv (.map (some mg)) 94 (Qab 98 _ g 35 100 _ (.map (some mg)) _ r1_11 rfl kj (Qap [#[.int .i64 ((n:Int)+1)],#[.int .u64 ((B*2^a%18446744073709551616|||1*2^(a-1)%18446744073709551616:Nat):Int)],ints .u8 (itV sec k),#[.int .i64 ((pl+k:Nat):Int)]] [#[.map (some mg)]] [] 35 (cz1 (Qa6 hsec k)) 0 _ rfl) kj) ?_
    refine sg 1 kj <| Qg5 (kt:=3) (et:=132) (.tmp 94) (.tmp 95) 98 hM18 rfl kj kj kj kj (QfX hst e11) hy hcut rfl kj fun W12 p12 hrg2=>?_
    have x12:Qai [g,mg] w W12:=zbs x11 p12 (.inl (by simp))
    refine Qas ?_
    with_reducible repeat first | refine goX1 ?_ | refine goX2 ?_ | refine goX3 ?_
    exact Qa1 (sn.push e.born) ⟨kj,kj,kj,kj,kj,kj,trivial⟩ ⟨hrg2,(zbs (zbr (zbs q9 p10 (.inl (by simp))) e11) p12 (.inl (by simp))),x12⟩ (Qd0.mu hst)
   ·skip
    have hcut:¬ (y<((n:Int)+1-1-64)):=of_decide_eq_false c48
    refine wp_skip ?_
    with_reducible repeat first | refine goX1 ?_ | refine goX2 ?_ | refine goX3 ?_
    exact Qa1 (sn.push e.born) ⟨kj,kj,kj,kj,kj,kj,trivial⟩ ⟨(Qd0.stay hM18 (QfX hst e11) (by rw [Qkp hy]; exact decide_eq_true (Int.not_lt.1 hcut))),(zbr (zbs q9 p10 (.inl (by simp))) e11),x11⟩ (Qd0.mu hst)
end Cn
end
section
namespace Cn
open Go Go.RowKit
open Rely Auto Own Sha
def hiT (ts : List Int):Int:=ts.foldl (fun a x=>if x>a then x else a) (-1)
theorem QeP (ts : List Int) (m:Int):hiT (ts++[m])=if m>hiT ts then m else hiT ts:=by unfold hiT; rw [List.foldl_append]; rfl
theorem Qk1 (ts : List Int):∀ m∈ts,m≤hiT ts:=by
  suffices h:∀ (r:List Int),(∀ m∈r.reverse,m≤hiT r.reverse) by have:=h ts.reverse; rwa [zaP] at this
  intro r
  induction r with
  | nil=>intro m h; cases h
  | cons x r ih =>
    intro m h
    rw [zaQ] at h ⊢
    rw [QeP]
    rcases zaJ.1 h with h | h
    · have:=ih m h; split <;> omega
    · have:m=x:=by simpa using h
      subst this; split <;> omega
theorem Qk0 (ts : List Int):hiT ts=-1∨hiT ts∈ts:=by
  suffices h:∀ (r:List Int),(hiT r.reverse=-1∨hiT r.reverse∈r.reverse) by have:=h ts.reverse; rwa [zaP] at this
  intro r
  induction r with
  | nil=>exact .inl rfl
  | cons x r ih =>
    rw [zaQ,QeP]
    split
    · exact .inr (by simp)
    · rcases ih with h | h
      · exact .inl h
      · exact .inr (List.mem_append_left _ h)
def chkT (ts : List Int) (n:Int):Int:=if n<0∨4294967294<n then 8 else if n<hiT ts-64 then 11 else if n∈ts then 7 else 0
structure WInv (nx : Int) (B : Nat) (ts : List Int) : Prop where
  hnx:0≤nx∧nx≤4294967295
  hB:B<18446744073709551616
  hhi:hiT ts=nx-1
  hrng:∀ m∈ts,0≤m∧m<4294967295
  hbits:∀ k:Nat,k<64→0≤nx-2-k→(B.testBit k=true↔(nx-2-k)∈ts)
theorem Qku : WInv 0 0 []:=⟨by omega,by decide,rfl,(fun m h=>by cases h),(fun k hk h=>by omega)⟩
theorem Qm6 (B k:Nat):B/2^k%2=1↔B.testBit k=true:=by rw [Nat.testBit_eq_decide_div_mod_eq]; simp
theorem Qi1 {nx : Int} {B:Nat} {ts:List Int} (h:WInv nx B ts) (n:Int):chkW nx B n=chkT ts n:=by
  have hh:=h.hhi
  unfold chkW chkT
  by_cases h1:n<0∨4294967295≤n
  · rw [if_pos h1,if_pos oo]
  · rw [if_neg h1,if_neg (show ¬ (n<0∨4294967294<n) by omega),hh]
    by_cases h2:64<nx-1-n
    · rw [if_pos h2,if_pos oo]
    · rw [if_neg h2,if_neg (show ¬ n<nx-1-64 by omega)]
      by_cases h3:n∈ts
      · have hle:=Qk1 ts n h3
        rw [if_pos h3,if_pos ?_]
        by_cases h4:nx-1-n=0
        · exact .inl h4
        · refine .inr ⟨by omega,?_⟩
          obtain ⟨j,hj⟩:=zak (show 0≤nx-1-n-1 by omega)
          rw [hj,zae,Qm6,h.hbits j oo oo,show nx-2-(j:Int)=n by omega]
          exact h3
      · rw [if_neg h3,if_neg ?_]
        rintro (h4 | ⟨h4,h5⟩)
        · rcases Qk0 ts with h6 | h6
          · omega
          · exact h3 (by rw [show n=hiT ts by omega]; exact h6)
        · obtain ⟨j,hj⟩:=zak (show 0≤nx-1-n-1 by omega)
          rw [hj,zae,Qm6,h.hbits j oo oo,show nx-2-(j:Int)=n by omega] at h5
          exact h3 h5
theorem QeR {ts : List Int} {n:Int} (h:chkT ts n=0):0≤n∧n<4294967295∧hiT ts-64≤n∧n∉ts:=by
  unfold chkT at h
  split at h
  · omega
  · split at h
    · omega
    · split at h
      · omega
      · exact ⟨by omega,by omega,by omega,by assumption⟩
theorem QpD {nx : Int} {B:Nat} {ts:List Int} (h:WInv nx B ts) {n:Int} (hc:chkT ts n=0) (j:Nat) (hj:nx-1-n-1=(j:Int)) (hj2:j<64):WInv nx (B|||2^j) (ts++[n]):=by
  obtain ⟨h0,h1,h2,h3⟩:=QeR hc
  have hh:=h.hhi
  refine ⟨h.hnx,Qie _ _ h.hB (Qia j hj2),by rw [QeP,if_neg oo]; exact hh,fun m hm=>?_,fun k hk hp=>?_⟩
  · rcases zaJ.1 hm with hm | hm
    · exact h.hrng m hm
    · have:m=n:=by simpa using hm
      omega
  · rw [Nat.testBit_or,zaR,Bool.or_eq_true,h.hbits k hk hp,zaJ]
    constructor
    · rintro (e | e)
      · exact .inl e
      · have:j=k:=by simpa using e
        exact .inr (by simp; omega)
    · rintro (e | e)
      · exact .inl e
      · have:nx-2-(k:Int)=n:=by simpa using e
        exact .inr (by simp; omega)
theorem QpC {nx : Int} {B:Nat} {ts:List Int} (h:WInv nx B ts) {n:Int} (hc:chkT ts n=0) (a:Nat) (ha:n-(nx-1)=(a:Int)) (ha1:1≤a) :
    WInv (n+1) (B*2^a%18446744073709551616|||1*2^(a-1)%18446744073709551616) (ts++[n]):=by
  obtain ⟨h0,h1,h2,h3⟩:=QeR hc
  have hh:=h.hhi
  have hn:=h.hnx
  refine ⟨by omega,Qie _ _ (zal _ dd) (zal _ dd),by rw [QeP,if_pos oo]; omega,fun m hm=>?_,fun k hk hp=>?_⟩
  · rcases zaJ.1 hm with hm | hm
    · exact h.hrng m hm
    · have:m=n:=by simpa using hm
      omega
  · have e64:(18446744073709551616:Nat)=2^64:=by decide
    rw [Nat.testBit_or,e64,zaS,zaS,Nat.one_mul,zaR,Nat.mul_comm B,Nat.testBit_two_pow_mul,zaJ]
    simp only [hk,decide_true,Bool.true_and,Bool.or_eq_true,Bool.and_eq_true,decide_eq_true_eq,zaK,ge_iff_le]
    have hne:¬ (n+1-2-(k:Int)=n):=by omega
    constructor
    · rintro (⟨e1,e2⟩ | e)
      · left
        rw [h.hbits (k-a) oo oo] at e2
        rwa [show n+1-2-(k:Int)=nx-2-((k-a:Nat):Int) by omega]
      · left
        have:n+1-2-(k:Int)=hiT ts:=by omega
        rw [this]
        exact (Qk0 ts).resolve_left oo
    · rintro (e | e)
      · have hle:=Qk1 ts _ e
        by_cases hk2:a≤k
        · left
          refine ⟨hk2,?_⟩
          rw [h.hbits (k-a) oo oo]
          rwa [show nx-2-((k-a:Nat):Int)=n+1-2-(k:Int) by omega]
        · right; omega
      · exact absurd e hne
structure MsIs (s0 : List Int) (pl : Nat) (ts : List Int) (ms : List (Int × List Int)) : Prop where
  all:∀ p∈ms,∃ k:Nat,k<pl∧p=((k:Int),keyV (itV s0 k))∧(k:Int)∉ts∧pl≤k+65
  each:∀ k:Nat,k<pl→(k:Int)∉ts→pl≤k+65→((k:Int),keyV (itV s0 k))∈ms
structure ChSt (g mg : Nat) (s0 ts : List Int) (pl : Nat) (ms : List (Int × List Int)) (W : World) : Prop where
  len:s0.length=32
  byt:Qak s0
  row:∃ B,WInv (pl:Int) B ts∧W.heap[g]? = some (.cells (cat [#[.int .i64 (pl:Int)],#[.int .u64 (B:Int)],ints .u8 (itV s0 pl),#[.int .i64 (pl:Int)],#[.map (some mg)]]) 100)
  mp:MpAt mg (ms.map mpv) W
  is:MsIs s0 pl ts ms
theorem ChSt.keep {g mg:Nat} {s0 ts:List Int} {pl:Nat} {ms:List (Int×List Int)} {W W':World} (h:ChSt g mg s0 ts pl ms W) (e1:W'.heap[g]? = W.heap[g]?) (e2:W'.heap[mg]? = W.heap[mg]?):ChSt g mg s0 ts pl ms W':=by
  obtain ⟨B,h1,h2⟩:=h.row
  exact ⟨h.len,h.byt,⟨B,h1,e1.trans h2⟩,h.mp.keep e2,h.is⟩
theorem ChSt.glt {g mg:Nat} {s0 ts:List Int} {pl:Nat} {ms:List (Int×List Int)} {W:World} (h:ChSt g mg s0 ts pl ms W):g<W.heap.size:=by obtain ⟨B,h1,h2⟩:=h.row; exact Qaq h2
theorem ChSt.ext {g mg:Nat} {s0 ts:List Int} {pl:Nat} {ms:List (Int×List Int)} {W W':World} (h:ChSt g mg s0 ts pl ms W) (e:Ext W W'):ChSt g mg s0 ts pl ms W':=h.keep (e.block g h.glt) (e.block mg h.mp.lt)
def Qd9 (ms : List (Int×List Int)) (s0:List Int) (pl n:Nat):List (Int×List Int):=QiZ (msNo ms (n:Int)++Qc4 (itV s0 pl) pl n (n+1-pl)) ((((max pl (n+1)):Nat):Int)-1-64)
def chkN (ts : List Int) (pl:Nat) (n:Int):Int:=if chkT ts n≠0 then chkT ts n else if (pl:Int)+256<n then 12 else 0
theorem QkJ {pl B:Nat} {ts:List Int} (h:WInv (pl:Int) B ts) (n:Int):chkC (pl:Int) B pl n=chkN ts pl n:=by unfold chkC chkN; rw [Qi1 h]
theorem Qhi {pl : Nat} {ts:List Int} {n:Int} (h:chkN ts pl n=0):chkT ts n=0∧n≤(pl:Int)+256:=by
  unfold chkN at h
  split at h
  · rename_i h1; exact absurd h h1
  · rename_i h1
    split at h
    · cases h
    · exact ⟨by simpa using h1,by omega⟩
theorem MsIs.lt {s0 : List Int} {pl:Nat} {ts:List Int} {ms:List (Int×List Int)} (h:MsIs s0 pl ts ms):∀ p∈ms,p.1<(pl:Int):=fun p hp=>by
  obtain ⟨k,h1,h2,-⟩:=h.all p hp
  rw [h2]; show (k:Int)<_; omega
theorem MsIs.ok {s0 : List Int} {pl:Nat} {ts:List Int} {ms:List (Int×List Int)} (h:MsIs s0 pl ts ms):MsOk ms:=fun p hp=>by
  obtain ⟨k,h1,h2,-⟩:=h.all p hp
  rw [h2]; show (keyV (itV s0 k)).length=44∧Qak (keyV (itV s0 k)); exact ⟨QaR _,Qjb _⟩
theorem MsIs.get {s0 : List Int} {pl:Nat} {ts:List Int} {ms:List (Int×List Int)} (h:MsIs s0 pl ts ms) {k:Nat} (h1:k<pl) (h2:(k:Int)∉ts) (h3:pl≤k+65):lget ms (k:Int)=keyV (itV s0 k):=by
  have hm:=h.each k h1 h2 h3
  unfold lget
  cases hf:ms.find? (fun p=>p.1==(k:Int)) with
  | none =>
    rw [List.find?_eq_none] at hf
    exact absurd (by simp) (hf _ hm)
  | some p =>
    obtain ⟨j,q1,q2,-⟩:=h.all p (zaE hf)
    have hk:=List.find?_some hf
    rw [q2] at hk
    have hjk:(j:Int)=(k:Int):=by simpa using hk
    have:j=k:=by omega
    subst this
    rw [q2]; rfl
theorem Qim (sec : List Int) (pl n:Nat) (p:Int×List Int):∀ k,p∈Qc4 sec pl n k↔∃ j,j<k∧pl+j<n∧n≤pl+j+64∧p=(((pl+j:Nat):Int),keyV (itV sec j))
  | 0=>⟨fun h=>absurd h zaG,fun ⟨j,h,_⟩=>absurd h (zaT _)⟩
  | k+1=>by
    rw [Qc4,zaJ,Qim sec pl n p k]
    constructor
    · rintro (⟨j,h1,h2⟩ | h)
      · exact ⟨j,by omega,h2⟩
      · split at h
        · rename_i hc; rw [zaK] at h; exact ⟨k,by omega,hc.1,hc.2,h⟩
        · cases h
    · rintro ⟨j,h1,h2,h3,h4⟩
      rcases zaf j k with h | h
      · exact .inl ⟨j,h,h2,h3,h4⟩
      · obtain rfl:j=k:=by omega
        right; rw [if_pos ⟨h2,h3⟩,zaK]; exact h4
theorem MsIs.take {s0 : List Int} {pl:Nat} {ts:List Int} {ms:List (Int×List Int)} (h:MsIs s0 pl ts ms) (n:Nat) (lim:Int) (hl:lim=(((max pl (n+1)):Nat):Int)-1-64) (hn:(n:Int)∉ts) (hts:∀ m∈ts,m<(pl:Int)):MsIs s0 (max pl (n+1)) (ts++[(n:Int)]) (QiZ (msNo ms (n:Int)++Qc4 (itV s0 pl) pl n (n+1-pl)) lim):=by
  have key:∀ p,p∈QiZ (msNo ms (n:Int)++Qc4 (itV s0 pl) pl n (n+1-pl)) lim↔((p∈ms∧p.1≠(n:Int))∨∃ j,j<n+1-pl∧pl+j<n∧n≤pl+j+64∧p=(((pl+j:Nat):Int),keyV (itV (itV s0 pl) j)))∧lim≤p.1:=fun p=>by
    unfold QiZ msNo
    rw [zaN,zaJ,zaN,Qim]
    simp only [bne_iff_ne,ne_eq,decide_eq_true_eq]
  refine ⟨fun p hp=>?_,fun k h1 h2 h3=>?_⟩
  · obtain ⟨hp1,hp2⟩:=(key p).1 hp
    rcases hp1 with ⟨q1,q2⟩ | ⟨j,q1,q2,q3,q4⟩
    · obtain ⟨k,r1,r2,r3,r4⟩:=h.all p q1
      have e1:p.1=(k:Int):=by rw [r2]
      refine ⟨k,by omega,r2,fun hm=>?_,by omega⟩
      rcases zaJ.1 hm with hm | hm
      · exact r3 hm
      · rw [zaK] at hm; exact q2 (e1.trans hm)
    · have e1:p.1=((pl+j:Nat):Int):=by rw [q4]
      refine ⟨pl+j,by omega,by rw [q4,Qeu],fun hm=>?_,by omega⟩
      rcases zaJ.1 hm with hm | hm
      · have:=hts _ hm; omega
      · rw [zaK] at hm; omega
  · refine (key _).2 ⟨?_,show lim≤(k:Int) by omega⟩
    have hk1:(k:Int)∉ts:=fun hm=>h2 (zaJ.2 (.inl hm))
    have hk2:k≠n:=fun e=>h2 (zaJ.2 (.inr (by rw [e]; exact zaK.2 rfl)))
    rcases zaf k pl with hkp | hkp
    · exact .inl ⟨h.each k hkp hk1 oo,show (k:Int)≠_ by omega⟩
    · right
      refine ⟨k-pl,by omega,by omega,by omega,?_⟩
      rw [Qeu,show pl+(k-pl)=k by omega]
theorem QkK {g mg:Nat} {s0 ts:List Int} {pl:Nat} {ms:List (Int×List Int)} {w:World} (h:ChSt g mg s0 ts pl ms w) (n:Int):Calls Tryz.prog 42 #[pp g 0,.int .i64 n] w (Ret w (errV (chkN ts pl n))):=by
  obtain ⟨B,h1,h2⟩:=h.row
  have:=Qn9 g _ B n h1.hnx h1.hB (itV s0 pl) pl mg (Qa6 h.len pl) w h2 (by have:=h1.hnx; omega)
  rw [QkJ h1] at this
  exact this
section
variable {g mg : Nat} {s0 ts : List Int} {pl : Nat} {ms : List (Int × List Int)} {w : World} (tc tq : TypeId)
theorem QoL {B : Nat} (h1:WInv (pl:Int) B ts):∀ m∈ts,m<(pl:Int):=fun m hm=>by
  have:=Qk1 ts m hm
  have:=h1.hhi
  omega
theorem Qp6 (hc : w.heap[4]? = some (.cells (ints .u64 QaM) tc)) (hq:w.heap[3]? = some (.cells (ints .u64 Qa5) tq)) (h:ChSt g mg s0 ts pl ms w) (n:Nat) (hc0:chkN ts pl (n:Int)=0):Calls Tryz.prog 43 #[pp g 0,.int .i64 (n:Int)] w (Qby w (QbZ w.heap.size (n:Int) (keyV (itV s0 n)))):=by
  obtain ⟨B,h1,h2⟩:=h.row
  obtain ⟨k1,k2⟩:=Qhi hc0
  obtain ⟨k3,k4,k5,k6⟩:=QeR k1
  have hhi:=h1.hhi
  have hnx:=h1.hnx
  rcases zaf n pl with hn | hn
  · have:=Qmz g _ B h1.hnx h1.hB (itV s0 pl) pl mg (Qa6 h.len pl) w h2 ms h.is.ok h.mp tc tq hc hq (Qb6 h.byt pl) (n:Int) oo
    rw [h.is.get hn k6 oo] at this
    exact this
  · have:=Qmy g _ B h1.hnx h1.hB (itV s0 pl) pl mg (Qa6 h.len pl) w h2 ms h.is.ok h.mp tc tq hc hq (Qb6 h.byt pl) n oo oo hn
    rw [Qeu,show pl+(n-pl)=n by omega] at this
    exact this
theorem Qpi (hc : w.heap[4]? = some (.cells (ints .u64 QaM) tc)) (hq:w.heap[3]? = some (.cells (ints .u64 Qa5) tq)) (h:ChSt g mg s0 ts pl ms w) (n:Nat) (hc0:chkN ts pl (n:Int)=0) (hcg:4≠g) (hsg:3≠g):Calls Tryz.prog 45 #[pp g 0,.int .i64 (n:Int)] w (fun e W=>∃ v,e=.returned (.tuple #[v,.nilIface])∧Qai [g,mg] w W∧ChSt g mg s0 (ts++[(n:Int)]) (max pl (n+1)) (Qd9 ms s0 pl n) W∧QbZ w.heap.size (n:Int) (keyV (itV s0 n)) v W):=by
  obtain ⟨B,h1,h2⟩:=h.row
  obtain ⟨k1,k2⟩:=Qhi hc0
  obtain ⟨k3,k4,k5,k6⟩:=QeR k1
  have hhi:=h1.hhi
  have hnx:=h1.hnx
  have hw0:chkW (pl:Int) B (n:Int)=0:=by rw [Qi1 h1]; exact k1
  rcases zaf n pl with hn | hn
  · have hne:(n:Int)≠(pl:Int)-1:=fun e=>by
      rcases Qk0 ts with q | q
      · omega
      · rw [hhi,←e] at q; exact k6 q
    obtain ⟨j,hj⟩:∃ j:Nat,(pl:Int)-1-(n:Int)-1=(j:Int):=⟨pl-1-n-1,by omega⟩
    refine (Qob g _ B h1.hnx h1.hB (itV s0 pl) pl mg (Qa6 h.len pl) w h2 ms h.is.ok h.mp tc tq hc hq (Qb6 h.byt pl) n oo oo h.is.lt hcg hsg hw0 hn j hj oo).mono ?_
    rintro e W ⟨v,rfl,q1,q2,q3,q4⟩
    have ek:n+1-pl=0:=by omega
    have em:max pl (n+1)=pl:=by omega
    have hI:=h.is.take n _ rfl k6 (QoL h1)
    rw [h.is.get hn k6 oo] at q4
    rw [ek] at q2
    rw [show (pl:Int)-1-64=(((max pl (n+1)):Nat):Int)-1-64 by rw [em]] at q3
    refine ⟨v,rfl,q1,⟨h.len,h.byt,?_,q3,hI⟩,q4⟩
    rw [em]
    exact ⟨_,QpD h1 k1 j hj oo,q2⟩
  · obtain ⟨a,ha⟩:∃ a:Nat,(n:Int)-((pl:Int)-1)=(a:Int):=⟨n+1-pl,by omega⟩
    refine (Qoa g _ B h1.hnx h1.hB (itV s0 pl) pl mg (Qa6 h.len pl) w h2 ms h.is.ok h.mp tc tq hc hq (Qb6 h.byt pl) n oo oo h.is.lt hcg hsg hw0 hn a ha oo).mono ?_
    rintro e W ⟨v,rfl,q1,q2,q3,q4⟩
    have em:max pl (n+1)=n+1:=by omega
    have hI:=h.is.take n _ rfl k6 (QoL h1)
    rw [Qeu,show pl+(n-pl)=n by omega] at q4
    rw [Qeu,show pl+(n+1-pl)=n+1 by omega] at q2
    have hW:=QpC h1 k1 a ha oo
    rw [show (n:Int)+1=((n+1:Nat):Int) by omega] at q2 hW
    rw [show (n:Int)+1-1-64=(((max pl (n+1)):Nat):Int)-1-64 by rw [em]; omega] at q3
    refine ⟨v,rfl,q1,⟨h.len,h.byt,?_,q3,hI⟩,q4⟩
    rw [em]
    exact ⟨_,hW,q2⟩
end
end Cn
end
section
namespace Cn
open Go Go.RowKit
open Rely Auto Own Sha
theorem Qhv {P : Program} {ρ:Operand→Value} {o:Oper} {w:World} (ty:TypeId) (x:Operand) (g off:Nat) (t:TypeId) (cs:Array Value) (v:Value) (hg:w.heap[g]? = some (.cells cs t)) (hv:cs[off]? = some v)
    (ho:o.op=.load ty x) (hx:ρ x=pp g off) (hu:aggD P ty=some false):(execOp ρ o).run P w=.ok (.value v) w:=Qab ty x g off t cs v _ hg ho hx hv hu
theorem at_I (gc gl len cap:Nat) (lp:Array Value) (w:World) (hgc:w.heap[gc]? = some (.cells #[.slice (some ⟨gl,0,none⟩) len cap] 85)) (hgl:w.heap[gl]? = some (.cells lp 91)) (g i:Nat) (hi:i<len) (hli:lp[i]? = some (pp g 0)):Calls Tryz.prog 37 #[pp gc 0,.int .i64 (i:Int)] w (Ret w (pp g 0)):=by
  refine enter 27 [(0,pp gc 0),(1,.int .i64 (i:Int))] Tryz.func37 rfl rfl kj rfl <| sgB kj <| wp_seq_k fun K4 hK4=>sgC fun K5 hK5=>sg 4 kj <| sv (.bool false) 9 (Qac (u:=.bool (decide ((i:Int)<0))) kj (congrArg zah (decide_eq_false oo))) <| sg 6 kj <| sv (.slice (some ⟨gl,0,none⟩) len cap) 16 (Qab 83 _ gc 0 85 _ (.slice (some ⟨gl,0,none⟩) len cap) _ hgc rfl kj kj kj) <| sg 1 kj <| sv (.bool false) 18 (Qac (u:=.bool (decide ((i:Int)≥(len:Int)))) kj (congrArg zah (decide_eq_false oo))) ?_
  refine sg 1 kj <| sgN hK5 <| cond_false kj <| wp_skip <| hK4 _ _ <| sgC fun K6 hK6=>sg 3 kj <| sv (.slice (some ⟨gl,0,none⟩) len cap) 23 (Qab 83 _ gc 0 85 _ (.slice (some ⟨gl,0,none⟩) len cap) _ hgc rfl kj kj kj) <| sg 1 kj <| sv (pp gl i) 25 (Qbr 83 _ _ .i64 i gl len cap 91 rfl kj kj kj kj hi) ?_
  refine sv (pp g 0) 26 (Qhv 91 _ gl i 91 lp (pp g 0) hgl hli rfl kj kj) <| sg 1 kj <| sgN hK6 <| wp_ret ?_
  with_reducible repeat first | refine goR1 ?_ | refine goR2 ?_
  exact (show bodyPost _ _ _ .ret _ _ from ret1 (pp g 0) rfl (Qax kj) ⟨rfl,(zbe w)⟩)
theorem QmU (gc gl len cap:Nat) (lp:Array Value) (w:World) (hgc:w.heap[gc]? = some (.cells #[.slice (some ⟨gl,0,none⟩) len cap] 85)) (hgl:w.heap[gl]? = some (.cells lp 91)) (g i:Nat) (hi:i<len) (hli:lp[i]? = some (pp g 0)) {mg pl:Nat} {s0 ts:List Int} {ms:List (Int×List Int)} (hch:ChSt g mg s0 ts pl ms w):Calls Tryz.prog 36 #[pp gc 0,.int .i64 (i:Int)] w (Ret w (.int .i64 (pl:Int))):=by
  obtain ⟨B,hW,hrg⟩:=hch.row
  refine enter 15 [(0,pp gc 0),(1,.int .i64 (i:Int))] Tryz.func36 rfl rfl kj rfl <| sgB kj <| sgC fun K5 hK5=>sg 2 kj <| Qao (pp g 0) 37 #[pp gc 0,.int .i64 (i:Int)] 8 rfl kj kj (at_I gc gl len cap lp _ hgc hgl g i hi hli) fun W1 e1=>sg 1 kj <| sgN hK5 <| wp_seq_k fun K6 hK6=>sgB kj <| cond_false kj ?_
  refine wp_skip <| hK6 _ _ <| sgC fun K8 hK8=>sg 3 kj <| sv (.int .i64 (pl:Int)) 14 (Qab 3 _ g 34 100 _ (.int .i64 (pl:Int)) _ (Qaa hrg e1) rfl kj (Qap [#[.int .i64 (pl:Int)],#[.int .u64 (B:Int)],ints .u8 (itV s0 pl)] [#[.int .i64 (pl:Int)]] [#[.map (some mg)]] 34 (cz1 (Qa6 hch.len pl)) 0 _ rfl) kj) ?_
  refine sg 1 kj <| sgN hK8 <| wp_ret ?_
  with_reducible repeat first | refine goR1 ?_ | refine goR2 ?_
  exact (show bodyPost _ _ _ .ret _ _ from ret1 (.int .i64 (pl:Int)) rfl (Qax kj) ⟨rfl,(zbi (zbe w) e1)⟩)
theorem QoG (gc gl len cap:Nat) (lp:Array Value) (w:World) (hgc:w.heap[gc]? = some (.cells #[.slice (some ⟨gl,0,none⟩) len cap] 85)) (hgl:w.heap[gl]? = some (.cells lp 91)) (g i:Nat) (hi:i<len) (hli:lp[i]? = some (pp g 0)) (tc tq:TypeId) (hc:w.heap[4]? = some (.cells (ints .u64 QaM) tc)) (hq:w.heap[3]? = some (.cells (ints .u64 Qa5) tq)) {mg pl:Nat} {s0 ts:List Int} {ms:List (Int×List Int)} (hch:ChSt g mg s0 ts pl ms w) (m:Int) (he:chkN ts pl m≠0):Calls Tryz.prog 28 #[pp gc 0,.int .i64 (i:Int),.int .i64 m] w (Ret w (.tuple #[.agg (cat [#[.int .i64 0],ints .u8 (zaB 32 0),#[.slice none 0 0]]),.iface 49 (.int .i64 (chkN ts pl m))])):=by
  refine enter 27 [(0,pp gc 0),(1,.int .i64 (i:Int)),(2,.int .i64 m)] Tryz.func28 rfl rfl kj rfl <| sgC fun K5 hK5=>Qah (cat [#[.int .i64 0],ints .u8 (zaB 32 0),#[.slice none 0 0]]) 76 6 rfl kj kj fun g6 W1 l6 e1 r6_1=>sg 1 kj <| sgN hK5 <| sgC fun K7 hK7=>sg 2 kj <| Qao (pp g 0) 37 #[pp gc 0,.int .i64 (i:Int)] 12 rfl kj kj (at_I gc gl len cap lp _ (Qaa hgc e1) (Qaa hgl e1) g i hi hli) fun W2 e2=>?_
  have x2:=zbi (zbi (zbe w) e1) e2
  refine sg 1 kj <| sgN hK7 <| wp_seq_k fun K8 hK8=>sgB kj <| cond_false kj <| wp_skip <| hK8 _ _ <| wp_seq_k fun K10 hK10=>sgC fun K11 hK11=>sg 2 kj ?_
  refine Qao (.iface 49 (.int .i64 (chkN ts pl m))) 42 #[pp g 0,.int .i64 m] 19 rfl kj kj (QhC he▸QkK (hch.ext x2) m) fun W3 e3=>sg 1 kj <| sgN hK11 <| sgB kj <| cond_true kj <| sgC fun K13 hK13=>sg 2 kj ?_
  have r6_3:=(Qaa (Qaa r6_1 e2) e3)
  refine Qag g6 _ (cat [#[.int .i64 0],ints .u8 (zaB 32 0),#[.slice none 0 0]]) 76 r6_3 rfl kj (Qaf 76 _ _ g6 76 _ _ r6_3 rfl kj kj (isz (n:=34) kj czR) (eqsz (n:=34) czR czR) (QaQ _ (by intro a ha; simp only [zaF,zaG,or_false] at ha; rcases ha with rfl | rfl | rfl; exact (Qaz _ rfl); exact (Qat _ _); exact (Qaz _ rfl)))) fun W4 p4 r6_4=>?_
  refine sg 1 kj <| sgN hK13 <| wp_ret ?_
  with_reducible repeat first | refine goR1 ?_ | refine goR2 ?_
  exact (show bodyPost _ _ _ .ret _ _ from ret2 (.agg (cat [#[.int .i64 0],ints .u8 (zaB 32 0),#[.slice none 0 0]])) (.iface 49 (.int .i64 (chkN ts pl m))) rfl (QaJ g6 76 _ r6_4 kj kj (isz (n:=34) kj czR)) (Qax kj) ⟨rfl,(zbh p4 (zbi x2 e3) (qT (zbe w).size l6))⟩)
theorem QoF (gc gl len cap:Nat) (lp:Array Value) (w:World) (hgc:w.heap[gc]? = some (.cells #[.slice (some ⟨gl,0,none⟩) len cap] 85)) (hgl:w.heap[gl]? = some (.cells lp 91)) (g i:Nat) (hi:i<len) (hli:lp[i]? = some (pp g 0)) (tc tq:TypeId) (hc:w.heap[4]? = some (.cells (ints .u64 QaM) tc)) (hq:w.heap[3]? = some (.cells (ints .u64 Qa5) tq)) {mg pl:Nat} {s0 ts:List Int} {ms:List (Int×List Int)} (hch:ChSt g mg s0 ts pl ms w) (m:Nat) (he:chkN ts pl (m:Int)=0):Calls Tryz.prog 28 #[pp gc 0,.int .i64 (i:Int),.int .i64 (m:Int)] w (Qby w (fun v W=>∃ u,v=.tuple #[u,.nilIface]∧QbZ w.heap.size (m:Int) (keyV (itV s0 m)) u W)):=by
  refine enter 27 [(0,pp gc 0),(1,.int .i64 (i:Int)),(2,.int .i64 (m:Int))] Tryz.func28 rfl rfl kj rfl <| sgC fun K5 hK5=>Qah (cat [#[.int .i64 0],ints .u8 (zaB 32 0),#[.slice none 0 0]]) 76 6 rfl kj kj fun g6 W1 l6 e1 r6_1=>sg 1 kj <| sgN hK5 <| sgC fun K7 hK7=>sg 2 kj <| Qao (pp g 0) 37 #[pp gc 0,.int .i64 (i:Int)] 12 rfl kj kj (at_I gc gl len cap lp _ (Qaa hgc e1) (Qaa hgl e1) g i hi hli) fun W2 e2=>?_
  have x2:=zbi (zbi (zbe w) e1) e2
  refine sg 1 kj <| sgN hK7 <| wp_seq_k fun K8 hK8=>sgB kj <| cond_false kj <| wp_skip <| hK8 _ _ <| wp_seq_k fun K10 hK10=>sgC fun K11 hK11=>sg 2 kj ?_
  refine Qao (.nilIface) 42 #[pp g 0,.int .i64 (m:Int)] 19 rfl kj kj (Qd6 he▸QkK (hch.ext x2) (m:Int)) fun W3 e3=>?_
  have x3:=zbi x2 e3
  refine sg 1 kj <| sgN hK11 <| sgB kj <| cond_false kj <| wp_skip <| hK10 _ _ <| sgC fun K13 hK13=>sg 2 kj <| Qau (fun v W'=>(QbZ W3.heap.size (m:Int) (keyV (itV s0 m))) v W'∧Ext W3 W') 43 #[pp g 0,.int .i64 (m:Int)] 26 rfl kj kj ((Qp6 tc tq (Qaa (Qaa (Qaa hc e1) e2) e3) (Qaa (Qaa (Qaa hq e1) e2) e3) (hch.ext x3) m he).mono mo1) fun vv14 W4 hh14=>?_
  obtain ⟨hv14,e4⟩:=hh14
  obtain ⟨u15,rfl,hu15⟩:=hv14
  obtain ⟨a15_,c15_,rfl,-⟩:=id (zbo hu15)
  have r6_3:=(Qaa (Qaa r6_1 e2) e3)
  have r6_4:=(Qaa r6_3 e4)
  refine Qag g6 _ (cat [#[.int .i64 (m:Int)],ints .u8 ((keyV (itV s0 m)).take 32),#[.slice a15_ (((keyV (itV s0 m)).drop 32).length) c15_]]) 76 r6_4 rfl kj (Qaf 76 _ _ g6 76 _ _ r6_4 rfl kj kj (isz (n:=34) kj (by rw [Qal,Qal,Qal]; simp only [qS,cat,(izT (Qbm (QaR _)))]; rfl)) (eqsz (n:=34) czR (by rw [Qal,Qal,Qal]; simp only [qS,cat,(izT (Qbm (QaR _)))]; rfl)) (QaQ _ (by intro a ha; simp only [zaF,zaG,or_false] at ha; rcases ha with rfl | rfl | rfl; exact (Qaz _ rfl); exact (Qat _ _); exact (Qaz _ rfl)))) fun W5 p5 r6_5=>?_
  refine sg 1 kj <| sgN hK13 <| wp_ret ?_
  with_reducible repeat first | refine goR1 ?_ | refine goR2 ?_
  exact (show bodyPost _ _ _ .ret _ _ from ret2 (.agg (cat [#[.int .i64 (m:Int)],ints .u8 ((keyV (itV s0 m)).take 32),#[.slice a15_ (((keyV (itV s0 m)).drop 32).length) c15_]])) (.nilIface) rfl (QaJ g6 76 _ r6_5 kj kj (isz (n:=34) kj (by rw [Qal,Qal,Qal]; simp only [qS,cat,(izT (Qbm (QaR _)))]; rfl))) (Qax kj) ⟨_,rfl,(zbh p5 (zbi x3 e4) (qT (zbe w).size l6)),_,rfl,_,rfl,zbn x3.size (hu15.puts p5 (Qcp hu15 (Qaq r6_3)))⟩)
theorem Qmj (gc gl len cap:Nat) (lp:Array Value) (w:World) (hgc:w.heap[gc]? = some (.cells #[.slice (some ⟨gl,0,none⟩) len cap] 85)) (hgl:w.heap[gl]? = some (.cells lp 91)) (g i:Nat) (hi:i<len) (hli:lp[i]? = some (pp g 0)) (tc tq:TypeId) (hc:w.heap[4]? = some (.cells (ints .u64 QaM) tc)) (hq:w.heap[3]? = some (.cells (ints .u64 Qa5) tq)) {mg pl:Nat} {s0 ts:List Int} {ms:List (Int×List Int)} (hch:ChSt g mg s0 ts pl ms w) (m:Nat) (he:chkN ts pl (m:Int)=0) (hcg:4≠g) (hsg:3≠g):Calls Tryz.prog 30 #[pp gc 0,.int .i64 (i:Int),.int .i64 (m:Int)] w (fun e W=>∃ v,e=.returned (.tuple #[v,.nilIface])∧Qai [g,mg] w W∧ChSt g mg s0 (ts++[(m:Int)]) (max pl (m+1)) (Qd9 ms s0 pl m) W∧QbZ w.heap.size (m:Int) (keyV (itV s0 m)) v W):=by
  refine enter 29 [(0,pp gc 0),(1,.int .i64 (i:Int)),(2,.int .i64 (m:Int))] Tryz.func30 rfl rfl kj rfl <| sgC fun K7 hK7=>Qah (cat [#[.int .i64 0],ints .u8 (zaB 32 0),#[.slice none 0 0]]) 76 6 rfl kj kj fun g8 W1 l8 e1 r8_1=>?_
  have b8:=qT (zbe w).size l8
  refine sg 1 kj <| sgN hK7 <| sgC fun K9 hK9=>sg 2 kj <| Qao (pp g 0) 37 #[pp gc 0,.int .i64 (i:Int)] 12 rfl kj kj (at_I gc gl len cap lp _ (Qaa hgc e1) (Qaa hgl e1) g i hi hli) fun W2 e2=>?_
  have x2:=zbi (zbi (zbe w) e1) e2
  refine sg 1 kj <| sgN hK9 <| wp_seq_k fun K10 hK10=>sgB kj <| cond_false kj <| wp_skip <| hK10 _ _ <| wp_seq_k fun K12 hK12=>sgC fun K13 hK13=>sg 2 kj ?_
  refine Qao (.nilIface) 42 #[pp g 0,.int .i64 (m:Int)] 19 rfl kj kj (Qd6 he▸QkK (hch.ext x2) (m:Int)) fun W3 e3=>?_
  have x3:=zbi x2 e3
  refine sg 1 kj <| sgN hK13 <| sgB kj <| cond_false kj <| wp_skip <| hK12 _ _ <| sgC fun K15 hK15=>sg 2 kj <| Qau (fun v W'=>∃ u,v=.tuple #[u,.nilIface]∧Qai [g,mg] W3 W'∧ChSt g mg s0 (ts++[(m:Int)]) (max pl (m+1)) (Qd9 ms s0 pl m) W'∧QbZ W3.heap.size (m:Int) (keyV (itV s0 m)) u W') 45 #[pp g 0,.int .i64 (m:Int)] 26 rfl kj kj ((Qpi tc tq (Qaa (Qaa (Qaa hc e1) e2) e3) (Qaa (Qaa (Qaa hq e1) e2) e3) (hch.ext x3) m he hcg hsg).mono (by rintro e w' ⟨v,rfl,q1,q2,q3⟩; exact ⟨_,rfl,_,rfl,q1,q2,q3⟩)) fun vv16 W4 hh16=>?_
  obtain ⟨uu16,rfl,q4,hch2,u16,rfl,hu16⟩:=hh16
  obtain ⟨a16_,c16_,rfl,-⟩:=id (zbo hu16)
  have x4:Qai [g,mg] w W4:=Qai.keeps (zbr (zbp [g,mg] w) x3) q4 (fun c hc=>.inl hc)
  refine sg 2 kj ?_
  have r8_3:=(Qaa (Qaa r8_1 e2) e3)
  have r8_4:=(zbq q4 r8_3 (Qaw (Ne.symm (zaO (qL hch.glt b8))) (Qaw (Ne.symm (zaO (qL hch.mp.lt b8))) QaF)))
  refine Qag g8 _ (cat [#[.int .i64 (m:Int)],ints .u8 ((keyV (itV s0 m)).take 32),#[.slice a16_ (((keyV (itV s0 m)).drop 32).length) c16_]]) 76 r8_4 rfl kj (Qaf 76 _ _ g8 76 _ _ r8_4 rfl kj kj (isz (n:=34) kj (by rw [Qal,Qal,Qal]; simp only [qS,cat,(izT (Qbm (QaR _)))]; rfl)) (eqsz (n:=34) czR (by rw [Qal,Qal,Qal]; simp only [qS,cat,(izT (Qbm (QaR _)))]; rfl)) (QaQ _ (by intro a ha; simp only [zaF,zaG,or_false] at ha; rcases ha with rfl | rfl | rfl; exact (Qaz _ rfl); exact (Qat _ _); exact (Qaz _ rfl)))) fun W5 p5 r8_5=>?_
  have x5:Qai [g,mg] w W5:=zbs x4 p5 (.inr b8)
  refine sg 1 kj <| sgN hK15 <| wp_ret ?_
  with_reducible repeat first | refine goR1 ?_ | refine goR2 ?_
  exact (show bodyPost _ _ _ .ret _ _ from ret2 (.agg (cat [#[.int .i64 (m:Int)],ints .u8 ((keyV (itV s0 m)).take 32),#[.slice a16_ (((keyV (itV s0 m)).drop 32).length) c16_]])) (.nilIface) rfl (QaJ g8 76 _ r8_5 kj kj (isz (n:=34) kj (by rw [Qal,Qal,Qal]; simp only [qS,cat,(izT (Qbm (QaR _)))]; rfl))) (Qax kj) ⟨_,rfl,x5,(hch2.keep (p5.2.2.2.2 g (Ne.symm (Ne.symm (zaO (qL hch.glt b8))))) (p5.2.2.2.2 mg (Ne.symm (Ne.symm (zaO (qL hch.mp.lt b8)))))),_,rfl,zbn x3.size (hu16.puts p5 (Qcp hu16 (Qaq r8_3)))⟩)
end Cn
end
section
namespace Seat
open Go Go.RowKit
open Rely
def TabAt (w : World):Prop:=2<w.heap.size∧∀ j,j<64→w.cell? ⟨2,j,none⟩=some (.int .u8 (Lib.deBruijn64tab.getD j 0))
theorem TabAt.ext {w w':World} (h:TabAt w) (e:Ext w w'):TabAt w':=⟨qL h.1 e.size,fun j hj=>by rw [e.cell h.1]; exact h.2 j hj⟩
theorem Qj0 (x k idx:Nat) (w:World) (hx0:((x:Int)==0)=false)
    (key:zab.wrap (bits BinOp.and zab (x:Int) (zab.wrap (-(x:Int)))*285870213051353865)/288230376151711744=(idx:Int))
    (hi:idx<64) (hk:k<64) (hcell:w.cell? ⟨2,idx,none⟩=some (.int .u8 k)) :
    Calls Tryz.prog 83 #[.int .u64 x] w fun e w'=>e=.returned (.int .i64 k)∧w=w':=by
  go_enter Tryz.func83,Tryz.ntmps83
  go_wp2_with (simp only [key])
  go_ret
  exact ⟨rfl,rfl⟩
theorem Qlb (x a:Nat) (hx:x<18446744073709551616) (hx0:x≠0) (hlow:x&&&(18446744073709551616-x)=a) :
    zab.wrap (bits BinOp.and zab (x:Int) (zab.wrap (-(x:Int)))*285870213051353865)/288230376151711744=((a*285870213051353865%18446744073709551616/288230376151711744:Nat):Int):=by
  have e1:zab.wrap (-(x:Int))=((18446744073709551616-x:Nat):Int):=by rw [zad]; omega
  rw [e1,bits_and_u64_nat x _ hx oo,hlow,zad]
  omega
theorem tz64 (x : Nat) (hx:x<18446744073709551616) (hx0:x≠0) (w:World) (hT:TabAt w) :
    Calls Tryz.prog 83 #[.int .u64 x] w fun e w'=>e=.returned (.int .i64 (Lib.ctz 64 x))∧w=w':=by
  obtain ⟨hlow,hk⟩:=Lib.lowest_bit 64 x hx0 hx
  obtain ⟨hi,htab⟩:=Lib.deBruijn64_at _ hk
  have hcell:=hT.2 _ hi
  rw [htab] at hcell
  exact Qj0 x _ _ w (by simp; omega) (Qlb x _ hx hx0 hlow) hi hk hcell
def isTree (n : Int):Bool:=n==1 || n==2 || n==4 || n==8 || n==16 || n==32
theorem isTree_cases {n : Int} (h:isTree n=true):n=1∨n=2∨n=4∨n=8∨n=16∨n=32:=by
  simp only [isTree,Bool.or_eq_true,beq_iff_eq] at h; omega
theorem Qlc (n : Int) (h:n<1∨32<n) (w:World):Calls Tryz.prog 31 #[.int .i64 n] w fun e w'=>e=.returned (.bool (isTree n))∧w=w':=by
  have e:isTree n=false:=by
    rw [Bool.eq_false_iff]; intro h'; have:=isTree_cases h'; omega
  rw [e]
  rcases h with h | h
  · have h1:decide (1≤n)=false:=decide_eq_false oo
    go_enter Tryz.func31,Tryz.ntmps31
    go_wp2
    all_goals first | omega | (go_ret; exact ⟨rfl,rfl⟩)
  · have h1:decide (1≤n)=true:=decide_eq_true oo
    have h2:decide (n≤32)=false:=decide_eq_false oo
    go_enter Tryz.func31,Tryz.ntmps31
    go_wp2
    all_goals first | omega | (go_ret; exact ⟨rfl,rfl⟩)
theorem QnK : ∀ k:Fin 33,(bits .and .i64 (k.val:Int) ((k.val:Int)-1)==0)=(k.val==0 || isTree (k.val:Int)):=by decide +kernel
theorem QmC (n : Int) (h1:1≤n) (h2:n≤32) (w:World):Calls Tryz.prog 31 #[.int .i64 n] w fun e w'=>e=.returned (.bool (isTree n))∧w=w':=by
  have key:(bits .and .i64 n (n-1)==0)=isTree n:=by
    have:=QnK ⟨n.toNat,by omega⟩
    have e:(n.toNat:Int)=n:=by omega
    simp only [e] at this
    rw [this]
    have:(n.toNat==0)=false:=by rw [beq_eq_false_iff_ne]; omega
    rw [this]; rfl
  have h3:decide (1≤n)=true:=decide_eq_true h1
  have h4:decide (n≤32)=true:=decide_eq_true h2
  go_enter Tryz.func31,Tryz.ntmps31
  go_wp2
  all_goals first | omega | (go_ret; exact ⟨rfl,rfl⟩)
theorem tree (n : Int) (w:World):Calls Tryz.prog 31 #[.int .i64 n] w fun e w'=>e=.returned (.bool (isTree n))∧w=w':=by
  by_cases h:1≤n∧n≤32
  · exact QmC n h.1 h.2 w
  · exact Qlc n oo w
def i64 (n : Int):Prop:=-9223372036854775808≤n∧n≤9223372036854775807
def lvN (x : Nat):Nat:=Lib.ctz 64 (18446744073709551615-x)
def lv (x : Int):Int:=if x<0 then -1 else lvN x.toNat
theorem Qmx (x : Nat) (h:x≤9223372036854775807):lvN x<64:=(Lib.lowest_bit 64 _ oo oo).2
theorem Qnh (n : Nat) (h:n<18446744073709551616):bits .xor .u64 zab.max (n:Int)=18446744073709551615-(n:Int):=by
  have e:zab.max=((18446744073709551615:Nat):Int):=by decide
  rw [e,u64_xor_nat _ n oo h]
  have e2:(18446744073709551615:Nat)^^^n=18446744073709551615-n:=by
    have:=BitVec.toNat_not (x:=zaU 64 n)
    have h1:(BitVec.allOnes 64^^^zaU 64 n) = ~~~ (zaU 64 n):=BitVec.allOnes_xor
    have h2:=congrArg BitVec.toNat h1
    rw [BitVec.toNat_xor,this,BitVec.toNat_allOnes,BitVec.toNat_ofNat,zam (by omega:n<2^64)] at h2
    exact h2
  rw [e2]
  omega
theorem level (x : Int) (hx:i64 x) (w:World) (hT:TabAt w):Calls Tryz.prog 67 #[.int .i64 x] w fun e w'=>e=.returned (.int .i64 (lv x))∧w=w':=by
  unfold i64 at hx
  by_cases h:x<0
  · have e:lv x=-1:=by simp [lv,h]
    rw [e]
    go_enter Tryz.func67,Tryz.ntmps67
    go_wp2
    go_ret
    exact ⟨rfl,rfl⟩
  · have e:lv x=(lvN x.toNat:Int):=by simp [lv,h]
    rw [e]
    obtain ⟨n,rfl⟩:=zak (by omega:0≤x)
    have hz:=tz64 (18446744073709551615-n) oo oo w hT
    have e2:((18446744073709551615-n:Nat):Int)=18446744073709551615-(n:Int):=by omega
    rw [e2,←Qnh n oo] at hz
    rw [zae]
    have e3:lvN n=Lib.ctz 64 (18446744073709551615-n):=rfl
    rw [←e3] at hz
    generalize lvN n=c at *
    clear e e2 e3
    go_enter Tryz.func67,Tryz.ntmps67
    go_wp2_with (go_at_call 83; refine hz.mono ?_; rintro e w' ⟨rfl,rfl⟩)
    go_ret
    exact ⟨rfl,rfl⟩
def half (k : Int):Int:=wrap64 (2^(k.toNat-1))
def kidL (x : Int):Int:=if lv x≤0 then -1 else wrap64 (x-half (lv x))
def kidR (x : Int):Int:=if lv x≤0 then -1 else wrap64 (x+half (lv x))
theorem QoD (x : Int) (hx:i64 x):-1≤lv x∧lv x≤63:=by
  unfold lv
  split
  · omega
  · have:=Qmx x.toNat (by unfold i64 at hx; omega)
    omega
theorem children (x : Int) (hx:i64 x) (w:World) (hT:TabAt w):Calls Tryz.prog 46 #[.int .i64 x] w fun e w'=>e=.returned (.tuple #[.int .i64 (kidL x),.int .i64 (kidR x)])∧w=w':=by
  have hl:=level x hx w hT
  have hb:=QoD x hx
  by_cases h:lv x≤0
  · have e1:kidL x=-1:=by simp [kidL,h]
    have e2:kidR x=-1:=by simp [kidR,h]
    rw [e1,e2]
    generalize lv x=k at *
    clear e1 e2
    go_enter Tryz.func46,Tryz.ntmps46
    go_wp2_with (go_at_call 67; refine hl.mono ?_; rintro e w' ⟨rfl,rfl⟩)
    go_ret2
    exact ⟨rfl,rfl⟩
  · have e1:kidL x=wrap64 (x-half (lv x)):=by simp [kidL,h]
    have e2:kidR x=wrap64 (x+half (lv x)):=by simp [kidR,h]
    rw [e1,e2]
    generalize lv x=k at *
    clear e1 e2
    go_enter Tryz.func46,Tryz.ntmps46
    go_wp2_with (go_at_call 67; refine hl.mono ?_; rintro e w' ⟨rfl,rfl⟩)
    go_ret2
    exact ⟨rfl,rfl⟩
theorem root (n : Int) (w:World):Calls Tryz.prog 14 #[.int .i64 n] w fun e w'=>e=.returned (.int .i64 (if isTree n then n-1 else -1))∧w=w':=by
  have hn:=tree n w
  cases ht:isTree n with
  | false =>
    rw [ht] at hn
    clear ht
    go_enter Tryz.func14,Tryz.ntmps14
    go_wp2_with (go_at_call 31; refine hn.mono ?_; rintro e w' ⟨rfl,rfl⟩)
    go_ret
    exact ⟨rfl,rfl⟩
  | true =>
    rw [ht] at hn
    have hc:=isTree_cases ht
    have hb:1≤n∧n≤32:=by omega
    clear hc ht
    go_enter Tryz.func14,Tryz.ntmps14
    go_wp2_with (go_at_call 31; refine hn.mono ?_; rintro e w' ⟨rfl,rfl⟩)
    go_ret
    exact ⟨rfl,rfl⟩
end Seat
end
section
namespace Cn
open Go Go.RowKit
open Rely Auto Own Sha
open Go.Proofs.YtbonglpnkoegoaaGreatDoor
def OwnR (T : TypeId) (base:Nat) (vs:List Value) (v:Value) (W:World):Prop:=W.ownsRow base T 1 v vs.length vs∧vs.length≤maxLen
theorem OwnR.keep {T : TypeId} {base:Nat} {vs:List Value} {v:Value} {W W':World} (h:OwnR T base vs v W) (hk:∀ g,v.ownBlock=some g→W'.heap[g]? = W.heap[g]?):OwnR T base vs v W':=by
  obtain ⟨⟨h1,h2⟩,hm⟩:=h
  refine ⟨⟨h1,?_⟩,hm⟩
  rcases h2 with h2 | ⟨g,c,cur,rfl,q2,q3,q4,q5,q6,q7⟩
  · exact .inl h2
  · exact .inr ⟨g,c,cur,rfl,q2,(hk g rfl).trans q3,q4,q5,q6,q7⟩
theorem OwnR.at {T : TypeId} {base:Nat} {vs:List Value} {v:Value} {W:World} (h:OwnR T base vs v W) {g:Nat} (hg:v.ownBlock=some g):base≤g∧∃ cur,W.heap[g]? = some (.cells cur T):=by
  rcases h.1.2 with ⟨rfl,_⟩ | ⟨g',c,cur,rfl,q2,q3,_⟩
  · cases hg
  · obtain rfl:g'=g:=Option.some.inj hg
    exact ⟨q2,cur,q3⟩
theorem QhM {W : World} {g:Nat} {c c':Array Value} {T T':TypeId} (h:W.heap[g]? = some (.cells c T)) (h':W.heap[g]? = some (.cells c' T')) (hne:T≠T'):False:=by
  rw [h] at h'
  simp only [Option.some.injEq,Obj.cells.injEq] at h'
  exact hne h'.2.1
theorem QpE {P : Program} {T:TypeId} {z:Value} {b:Nat} (hi:(P.info? T).map (fun i=>(i.zero,i.size,i.bytes))=some (some z,1,b)):∃ i,P.info? T=some i∧i.zero=some z∧i.size=1∧i.bytes=b:=by
  cases hq:P.info? T with
  | none=>rw [hq] at hi; cases hi
  | some i =>
    rw [hq] at hi
    simp only [zaV,Option.some.injEq,Prod.mk.injEq] at hi
    exact ⟨i,rfl,hi.1,hi.2.1,hi.2.2⟩
theorem Qln {P : Program} {ρ:Operand→Value} {o:Oper} {W:World} {T:TypeId} (base b:Nat) (s x:Operand) (t:TypeId) (ho:o.op=.call { callee:=.builtin .append,args:=#[s,x],argTypes:=#[t,t] })
    (ht:P.underlying t=some (.slice T)) (z:Value) (hi:(P.info? T).map (fun i=>(i.zero,i.size,i.bytes))=some (some z,1,b)) (hz:z.cells.size=1) (hb:b≤100) {v y:Value} {vs:List Value} {gy c:Nat} {Ty:TypeId}
    (hs:ρ s=v) (hx:ρ x=.slice (some ⟨gy,0,none⟩) 1 c) (ry:W.heap[gy]? = some (.cells #[y] Ty)) (h1:y.oneCell'=true)
    (h:OwnR T base vs v W) (hn:vs.length≤100000) (hV:base≤W.heap.size) :
    ∃ u W',(execOp ρ o).run P W=.ok (.value u) W'∧OwnR T base (vs++[y]) u W'∧W.grownBy W' v.ownBlock:=by
  obtain ⟨i,hq,hi1,hi2,hi3⟩:=QpE hi
  obtain ⟨v',W',hr,h2,h3,_,h5⟩:=run_append_own_at (P:=P) W base t o.type T i z 1 b ht hq hi1 hi2 hi3 hz oo v vs.length vs h.1 ⟨gy,0,none⟩ 1 c [y] (by simp)
    (fun j u hu=>by
      cases j with
      | zero =>
        simp only [List.getElem?_cons_zero,Option.some.injEq] at hu
        subst hu
        rw [WideShapes.add_plain]
        exact Qdc ry rfl
      | succ j=>simp at hu) (fun u hu=>by rw [zaK.1 hu]; exact h1) (by simp only [maxLen]; omega) (by
        have:(vs.length+1)*b≤100001*100:=Nat.mul_le_mul oo hb
        omega) hV
  refine ⟨v',W',?_,⟨by rw [zaW]; exact h2,by rw [zaW]; simp only [maxLen]; show _+1≤_; omega⟩,h3⟩
  unfold execOp
  simp only [ho,resolve,invoke,builtin,za6,za8,za7,zaX,za2,List.map_nil,hs,hx,hr]
structure GP (base gc : Nat) (w W : World) : Prop where
  os:W.os=w.os
  tape:W.tape=w.tape
  output:W.output=w.output
  size:w.heap.size≤W.heap.size
  block:∀ k,k<w.heap.size→k≠gc→(k<base∨∀ cs fr,w.heap[k]?≠some (.cells cs 91 fr))→W.heap[k]? = w.heap[k]?
theorem GP.refl (base gc:Nat) (w:World):GP base gc w w:=⟨rfl,rfl,rfl,qR _,fun _ _ _ _=>rfl⟩
theorem GP.trans {base gc:Nat} {u w W:World} (h:GP base gc u w) (k:GP base gc w W):GP base gc u W :=
  ⟨k.os.trans h.os,k.tape.trans h.tape,k.output.trans h.output,qT h.size k.size,fun i hi hn hc=>by
    have e:=h.block i hi hn hc
    refine (k.block i (qL hi h.size) hn ?_).trans e
    rcases hc with hc | hc
    · exact .inl hc
    · exact .inr fun cs fr=>by rw [e]; exact hc cs fr⟩
theorem GP.of_ext {base gc:Nat} {w W:World} (e:Ext w W):GP base gc w W:=⟨e.os,e.tape,e.output,e.size,fun k hk _ _=>e.block k hk⟩
theorem GP.ext {base gc:Nat} {u w W:World} (h:GP base gc u w) (e:Ext w W):GP base gc u W:=h.trans (GP.of_ext e)
theorem GP.putg {base gc:Nat} {u w W:World} (h:GP base gc u w) (p:Puts w gc W):GP base gc u W :=
  ⟨p.1.trans h.os,p.2.1.trans h.tape,p.2.2.1.trans h.output,by have:=h.size; have:=p.2.2.2.1; omega,fun k hk hn hc=>(p.2.2.2.2 k hn).trans (h.block k hk hn hc)⟩
theorem GP.row {base gc g:Nat} {w W:World} {c:Array Value} {T:TypeId} (h:GP base gc w W) (r:w.heap[g]? = some (.cells c T)) (hT:T≠91) (hn:g≠gc):W.heap[g]? = some (.cells c T) :=
  (h.block g (Qaq r) hn (.inr fun cs fr e=>by rw [r] at e; simp only [Option.some.injEq,Obj.cells.injEq] at e; exact hT e.2.1)).trans r
theorem GP.low {base gc g:Nat} {w W:World} {ob:Obj} (h:GP base gc w W) (r:w.heap[g]? = some ob) (hb:g<base) (hn:g≠gc):W.heap[g]? = some ob:=(h.block g (Qaq r) hn (.inl hb)).trans r
theorem GP.grown {base gc:Nat} {w W:World} {vs:List Value} {v:Value} (h:w.grownBy W v.ownBlock) (hv:OwnR 91 base vs v w):GP base gc w W :=
  ⟨h.os,h.tape,h.output,h.size,fun k hk hn hc=>h.block k hk fun e=>by
    obtain ⟨h1,cur,h2⟩:=hv.at e.symm
    rcases hc with hc | hc
    · omega
    · exact hc _ _ h2⟩
theorem ChSt.gp {base gc g mg:Nat} {s0 ts:List Int} {pl:Nat} {ms:List (Int×List Int)} {W W':World} (h:ChSt g mg s0 ts pl ms W) (q:GP base gc W W') (hg:g≠gc) (hm:mg≠gc):ChSt g mg s0 ts pl ms W':=by
  obtain ⟨B,h1,h2⟩:=h.row
  obtain ⟨es,c,h3,-⟩:=id h.mp
  exact h.keep ((q.row h2 dd hg).trans h2.symm) (q.block mg (Qaq h3) hm (.inr fun cs fr e=>by rw [h3] at e; cases e))
def GrS (base gc:Nat) (cs:List (Nat×Nat)) (W:World):Prop:=∃ v,W.heap[gc]? = some (.cells #[v] 85)∧OwnR 91 base (cs.map fun p=>zaY (some ⟨p.1,0,none⟩)) v W
theorem GrS.ext {base gc:Nat} {cs:List (Nat×Nat)} {W W':World} (h:GrS base gc cs W) (e:Ext W W'):GrS base gc cs W':=by
  obtain ⟨v,h1,h2⟩:=h
  exact ⟨v,Qaa h1 e,h2.keep fun g hg=>by obtain ⟨-,cur,hc⟩:=h2.at hg; exact e.block g (Qaq hc)⟩
def lftV (sec : List Int):List Int:=Qb7 sec (strB Qg9)
def rgtV (sec : List Int):List Int:=Qb7 sec (strB Qe2)
attribute [irreducible] lftV rgtV
theorem QcL (sec : List Int):(lftV sec).length=32:=by unfold lftV; exact QdJ _ _
theorem QcH (sec : List Int):(rgtV sec).length=32:=by unfold rgtV; exact QdJ _ _
theorem Qes (sec : List Int):Qak (lftV sec):=by unfold lftV; exact Qdj _ _
theorem Qeo (sec : List Int):Qak (rgtV sec):=by unfold rgtV; exact Qdj _ _
def Qbw (sec : List Int):Nat→Nat→List Int
  | 0,_=>sec
  | k+1,j=>if j<2^k then Qbw (lftV sec) k j else Qbw (rgtV sec) k (j-2^k)
def lvOk : Nat→Int→Bool
  | 0,x=>decide (0≤x)&&decide (x≤62)&&decide (Seat.kidL x<0)
  | k+1,x=>decide (0≤x)&&decide (x≤62)&&decide (0≤Seat.kidL x)&&lvOk k (Seat.kidL x)&&lvOk k (Seat.kidR x)
theorem Qkl : ∀ k:Fin 6,lvOk k.val (((2^k.val:Nat):Int)-1)=true:=by decide +kernel
theorem Qin {k : Nat} {x:Int} (h:lvOk k x=true):0≤x∧x≤62:=by
  cases k <;> (unfold lvOk at h; simp only [Bool.and_eq_true,decide_eq_true_eq] at h)
  · exact h.1
  · exact h.1.1.1
def GrR (base gc:Nat) (cs:List (Nat×Nat)) (sec:List Int) (k:Nat) (W W':World):Prop:=GP base gc W W'∧∃ ns:List (Nat×Nat),ns.length=2^k∧GrS base gc (cs++ns) W'∧(∀ j p,ns[j]? = some p→ChSt p.1 p.2 (Qbw sec k j) [] 0 [] W'∧W.heap.size≤p.1∧W.heap.size≤p.2)∧(ns.map Prod.fst).Nodup∧(ns.map Prod.snd).Nodup
theorem QkB (pl : Nat→Option (Nat×Nat)) (i off n:Nat) (v:Value) (pre:List (Array Value)) (mid:Array Value) (post:List (Array Value)) (ps:List (Nat×Value)) (h1:pl i=some (off,n)) (hoff:(cat pre).size=off) (hm:mid.size=n) (hv:v.cells.size=n) :
    Instr.fill pl (cat (pre++([mid]++post))) ((i,v)::ps)=Instr.fill pl (cat (pre++([v.cells]++post))) ps:=by
  have hz:(v.cells.zipIdx.foldl (fun cs (x:Value×Nat)=>cs.setIfInBounds (off+x.2) x.1) (cat (pre++([mid]++post))))=cat (pre++([v.cells]++post)):=by
    have e1:v.cells.zipIdx=(v.cells.toList.zipIdx 0).toArray:=by
      apply za3
      simp
    rw [e1,za4,QcO]
    · rw [Nat.add_zero]
      have:=Qd8 pre [mid] [v.cells] post off hoff (by show (cat [v.cells]).size=(cat [mid]).size; simp [cat,hm,hv])
      rw [show (cat [v.cells]).toList=v.cells.toList by simp [cat]] at this
      exact this
    · rfl
  rw [Instr.fill,h1]
  simp only
  have hs:(cat (pre++([mid]++post))).size=off+(n+(cat post).size):=by rw [QaG,qS,hoff]; show off+(cat (mid::post)).size=_; rw [Qal,qS,hm]
  rw [if_neg (by rw [hv,hs]; simp)]
  show Instr.fill pl (v.cells.zipIdx.foldl (fun cs (x:Value×Nat)=>cs.setIfInBounds (off+x.2) x.1) (cat (pre++([mid]++post)))) ps=_
  rw [hz]
theorem QiR {P : Program} {ρ:Operand→Value} {o:Oper} {w:World} (t:TypeId) (parts:Array (Nat×Operand)) (z:Value) (places:Array (Nat×Nat)) (r zc:Array Value) (ps:List (Nat×Value)) (ho:o.op=.build t parts) (hv:(parts.map fun (i,x)=>(i,ρ x)).toList=ps) (hzc:z=.agg zc) (hf:Instr.fill (fun i=>places[i]?) zc ps=some r)
    (hz:(zeroValue t).run P w=.ok z w) (hu:P.underlying t=some (.struct (P.fieldsOf t))) (hm:((P.fieldsOf t).mapM fun f=>do pure (f.offset,←sizeOf f.type):Sem (Array (Nat×Nat))).run P w=.ok places w) :
    (execOp ρ o).run P w=.ok (.value (.agg r)) w:=by
  subst hzc
  rw [←hv] at hf
  have hB:(Instr.build t (parts.map fun (i,x)=>(i,ρ x))).run P w=.ok (.agg r) w:=by
    unfold Instr.build
    rw [za6,hz,za7,za6,run_underlying hu w,za7]
    show (Sem.run P _ w)=_
    rw [za6,hm,za7]
    simp only [show (Value.agg zc).cells=zc from rfl,hf]
    rfl
  unfold execOp
  simp only [ho,za6,hB,za7,za8]
theorem Qhe {base : Nat} {vs:List Value} {v:Value} {W W':World} {g:Nat} {c:Array Value} {T:TypeId} (h:W.grownBy W' v.ownBlock) (hv:OwnR 91 base vs v W) (r:W.heap[g]? = some (.cells c T)) (hT:T≠91):W'.heap[g]? = some (.cells c T) :=
  (h.block g (Qaq r) fun e=>by obtain ⟨-,cur,h2⟩:=hv.at e.symm; exact QhM r h2 hT).trans r
theorem QlX {g gm:Nat} {sec:List Int} {W:World} (hl:sec.length=32) (hb:Qak sec) (r:W.heap[g]? = some (.cells (cat [#[.int .i64 0],#[.int .u64 0],ints .u8 (sec),#[.int .i64 0],#[.map (some gm)]]) 100)) (hm:W.heap[gm]? = some (.map #[] 0)):ChSt g gm sec [] 0 [] W :=
  ⟨hl,hb,⟨0,Qku,r⟩,⟨_,_,hm,Qno 0⟩,⟨fun p hp=>absurd hp zaG,fun k hk _ _=>absurd hk (zaT _)⟩⟩
theorem Qn3 (pl : Nat→Option (Nat×Nat)) (h1:pl 1=some (2,32)) (h3:pl 3=some (35,1)) (sec:List Int) (hl:sec.length=32) (gm:Nat):Instr.fill pl (cat [#[.int .i64 0],#[.int .u64 0],ints .u8 (zaB 32 0),#[.int .i64 0],#[.map none]]) [(1,.agg (ints .u8 sec)),(3,.map (some gm))]=some (cat [#[.int .i64 0],#[.int .u64 0],ints .u8 sec,#[.int .i64 0],#[.map (some gm)]]):=by
  refine (QkB pl 1 2 32 (.agg (ints .u8 sec)) [#[.int .i64 0],#[.int .u64 0]] (ints .u8 (zaB 32 0)) [#[.int .i64 0],#[.map none]] [(3,.map (some gm))] h1 rfl (by rw [Qbq]; rfl) (izT hl)).trans ?_
  refine (QkB pl 3 35 1 (.map (some gm)) [#[.int .i64 0],#[.int .u64 0],ints .u8 sec,#[.int .i64 0]] #[.map none] [] [] h3 (by rw [Qal,Qal,Qal,Qal]; simp only [qS,cat,(Qbq _ _).trans hl]; rfl) rfl rfl).trans rfl
theorem OwnR.sl {T : TypeId} {base:Nat} {vs:List Value} {v:Value} {W:World} (h:OwnR T base vs v W):∃ a n c,v=.slice a n c:=by
  rcases h.1.2 with ⟨rfl,_⟩ | ⟨g,c,cur,rfl,_⟩
  · exact ⟨_,_,_,rfl⟩
  · exact ⟨_,_,_,rfl⟩
theorem appG {P : Program} {ρ:Operand→Value} {o:Oper} {W:World} {base gc:Nat} {s x:Operand} {t:TypeId} {v y:Value} {vs:List Value} {gy c g1 g2:Nat} {Ty T1 T2:TypeId} {c1 c2:Array Value} (ho:o.op=.call { callee:=.builtin .append,args:=#[s,x],argTypes:=#[t,t] })
    (ht:P.underlying t=some (.slice 91)) (hi:(P.info? 91).map (fun i=>(i.zero,i.size,i.bytes))=some (some (.pointer none),1,8))
    (hs:ρ s=v) (hx:ρ x=.slice (some ⟨gy,0,none⟩) 1 c) (ry:W.heap[gy]? = some (.cells #[y] Ty)) (h1:y.oneCell'=true)
    (h:OwnR 91 base vs v W) (hn:vs.length≤100000) (hV:base≤W.heap.size) (r1:W.heap[g1]? = some (.cells c1 T1)) (n1:T1≠91) (r2:W.heap[g2]? = some (.cells c2 T2)) (n2:T2≠91) :
    ∃ u W',(execOp ρ o).run P W=.ok (.value u) W'∧OwnR 91 base (vs++[y]) u W'∧GP base gc W W'∧W'.heap[g1]? = some (.cells c1 T1)∧W'.heap[g2]? = some (.cells c2 T2):=by
  obtain ⟨u,W',q1,q2,q3⟩:=Qln (P:=P) base 8 s x t ho ht (.pointer none) hi rfl dd hs hx ry h1 h hn hV
  exact ⟨u,W',q1,q2,GP.grown q3 h,Qhe q3 h r1 n1,Qhe q3 h r2 n2⟩
theorem gr0 {base gc g gm:Nat} {cs:List (Nat×Nat)} {sec:List Int} {w W2 W3:World} {v0 u1:Value} (x:GP base gc w W2) (r0:W2.heap[gc]? = some (.cells #[v0] 85)) (hv:OwnR 91 base ((cs.map fun p=>zaY (some ⟨p.1,0,none⟩))++[pp g 0]) u1 W2)
    (hc:ChSt g gm sec [] 0 [] W2) (p:Puts W2 gc W3) (r:W3.heap[gc]? = some (.cells #[u1] 85)) (lg:w.heap.size≤g) (lm:w.heap.size≤gm) (hl:gc<w.heap.size):GrR base gc cs sec 0 w W3:=by
  have hk:∀ k,k≠gc→W3.heap[k]? = W2.heap[k]?:=fun k hn=>p.2.2.2.2 k hn
  refine ⟨GP.putg x p,[(g,gm)],rfl,⟨u1,r,?_⟩,?_,by simp,by simp⟩
  · rw [zaA]
    exact hv.keep fun k hk'=>hk k fun e=>by obtain ⟨-,cur,h2⟩:=hv.at hk'; rw [e] at h2; exact QhM r0 h2 dd
  · intro j q hj
    cases j with
    | succ j=>cases hj
    | zero =>
      obtain rfl:(g,gm)=q:=Option.some.inj hj
      exact ⟨hc.keep (hk g (by show g≠gc; omega)) (hk gm (by show gm≠gc; omega)),lg,lm⟩
theorem Qnu {sec : List Int} {k j:Nat} (h:j<2^k):Qbw sec (k+1) j=Qbw (lftV sec) k j:=by rw [Qbw,if_pos h]
theorem Qnt {sec : List Int} {k j:Nat}:Qbw sec (k+1) (2^k+j)=Qbw (rgtV sec) k j:=by rw [Qbw,if_neg oo,Nat.add_sub_cancel_left]
theorem grS {base gc k:Nat} {cs n1:List (Nat×Nat)} {sec:List Int} {w W1 W2 W3 W4:World} (x:GP base gc w W1) (q1:GP base gc W1 W2) (l1:n1.length=2^k) (c1:∀ j p,n1[j]? = some p→ChSt p.1 p.2 (Qbw (lftV sec) k j) [] 0 [] W2∧W1.heap.size≤p.1∧W1.heap.size≤p.2) (d1:(n1.map Prod.fst).Nodup) (d2:(n1.map Prod.snd).Nodup) (e:GP base gc W2 W3) (h:GrR base gc (cs++n1) (rgtV sec) k W3 W4) (hl:gc<w.heap.size):GrR base gc cs sec (k+1) w W4:=by
  obtain ⟨q2,n2,l2,g2,c2,d3,d4⟩:=h
  refine ⟨(x.trans q1).trans (e.trans q2),n1++n2,by rw [zaW,l1,l2,Nat.pow_succ]; omega,by rw [←za5]; exact g2,?_,?_,?_⟩
  · intro j p hj
    rcases zaf j (2^k) with hjk | hjk
    · rw [List.getElem?_append_left oo] at hj
      obtain ⟨a1,a2,a3⟩:=c1 j p hj
      have:=x.size
      rw [Qnu hjk]
      exact ⟨a1.gp (e.trans q2) oo oo,by omega,by omega⟩
    · rw [List.getElem?_append_right oo,l1] at hj
      obtain ⟨a1,a2,a3⟩:=c2 _ p hj
      have:=x.size
      have:=q1.size
      have:=e.size
      rw [show j=2^k+(j-2^k) by omega,Qnt]
      exact ⟨a1,by omega,by omega⟩
  · rw [zaA]
    refine zaZ.2 ⟨d1,d3,fun a ha b hb he=>?_⟩
    obtain ⟨p,hp,rfl⟩:=zaM.1 ha
    obtain ⟨q,hq,rfl⟩:=zaM.1 hb
    obtain ⟨i,hi⟩:=zba.1 hp
    obtain ⟨j,hj⟩:=zba.1 hq
    have h1:=(c1 i p hi).1.glt
    have h2:=(c2 j q hj).2.1
    have:=e.size
    omega
  · rw [zaA]
    refine zaZ.2 ⟨d2,d4,fun a ha b hb he=>?_⟩
    obtain ⟨p,hp,rfl⟩:=zaM.1 ha
    obtain ⟨q,hq,rfl⟩:=zaM.1 hb
    obtain ⟨i,hi⟩:=zba.1 hp
    obtain ⟨j,hj⟩:=zba.1 hq
    have h1:=(c1 i p hi).1.mp.lt
    have h2:=(c2 j q hj).2.2
    have:=e.size
    omega
theorem Qoc {base gc:Nat} {w W:World} (h:Seat.TabAt w) (q:GP base gc w W) (hb:2<base) (hn:2≠gc):Seat.TabAt W :=
  ⟨qL h.1 q.size,fun j hj=>by rw [World.cell?_of_block (q.block _ h.1 hn (.inl hb))]; exact h.2 j hj⟩
theorem Qm5 (x : Int) (hx:0≤x∧x≤62) (W:World) (hT:Seat.TabAt W):Calls Tryz.prog 46 #[.int .i64 x] W (Ret W (.tuple #[.int .i64 (Seat.kidL x),.int .i64 (Seat.kidR x)])) :=
  (Seat.children x ⟨by omega,by omega⟩ W hT).mono fun e W' hh=>⟨hh.1,hh.2▸zbe _⟩
theorem QoO (base gc:Nat) (cs:List (Nat×Nat)) (sec:List Int) (x:Int) (tc tq:TypeId) (w:World) (hc:w.heap[4]? = some (.cells (ints .u64 QaM) tc)) (hq:w.heap[3]? = some (.cells (ints .u64 Qa5) tq)) (hT:Seat.TabAt w) (hsl:sec.length=32) (hsb:Qak sec) (hb:base≤w.heap.size) (hcn:cs.length≤1000) (hgs:GrS base gc cs w) (hlv:lvOk 0 x=true):Calls Tryz.prog 32 #[pp gc 0,.agg (ints .u8 sec),.int .i64 x] w (fun e W=>e=.returned (.tuple #[])∧GrR base gc cs sec 0 w W):=by
  obtain ⟨v0,hgc,hv0⟩:=hgs
  have hgcl:=Qaq hgc
  have hk0:Seat.kidL x<0:=by unfold lvOk at hlv; simp only [Bool.and_eq_true,decide_eq_true_eq] at hlv; exact hlv.2
  refine enter 38 [(0,pp gc 0),(1,.agg (ints .u8 (sec))),(2,.int .i64 x)] Tryz.func32 rfl rfl kj rfl <| sgC fun K2 hK2=>Qah (ints .u8 (sec)) 23 4 rfl kj kj fun g3 W1 l3 e1 r3_1=>?_
  have x1:GP base gc w W1:=GP.ext (GP.refl base gc w) e1
  have b3:=qT (GP.refl base gc w).size l3
  refine sgN hK2 <| sgC fun K4 hK4=>sg 1 kj <| Qao (.tuple #[.int .i64 (Seat.kidL x),.int .i64 (Seat.kidR x)]) 46 #[.int .i64 x] 10 rfl kj kj (Qm5 x (Qin hlv) _ (hT.ext (zbf (zbe w) e1))) fun W2 e2=>?_
  have x2:GP base gc w W2:=GP.ext x1 e2
  refine sg 5 kj <| sgN hK4 <| wp_seq_k fun K5 hK5=>sgC fun K6 hK6=>sg 1 kj <| sv (.bool true) 14 (Qac (u:=.bool (decide ((Seat.kidL x)<0))) kj (congrArg zah (decide_eq_true hk0))) <| sgN hK6 <| cond_true kj <| wp_seq_k fun K7 hK7=>?_
  have r1_2:=(Qaa (Qaa hgc e1) e2)
  have r3_2:=(Qaa r3_1 e2)
  refine Wm.region_walkM (fun W=>W.heap[gc]? = some (.cells (#[v0]) 85)∧W.heap[g3]? = some (.cells (ints .u8 (sec)) 23)) 13 kj fun W3 e3=>⟨⟨Qaa r1_2 e3,Qaa r3_2 e3⟩,?_⟩
  have x3:GP base gc w W3:=GP.ext x2 e3
  refine Wm.wm_val 0 (pp gc 0) 15 rfl rfl kj kj dd kj (fun _ _ _ h=>h) (fun W hR=>kj) <| Wm.wm_val 1 (pp gc 0) 16 rfl rfl kj kj dd kj (fun _ _ _ h=>h) (fun W hR=>kj) <| Wm.wm_val 2 (pp gc 0) 17 rfl rfl kj kj dd kj (fun _ _ _ h=>h) (fun W hR=>kj) <| Wm.wm_val 3 (pp gc 0) 18 rfl rfl kj kj dd kj (fun _ _ _ h=>h) (fun W hR=>kj) <| Wm.wm_val 4 (v0) 19 rfl rfl kj kj dd kj (fun _ _ _ h=>h) (fun W hR=>(Qab 83 _ gc 0 85 _ (v0) _ hR.1 rfl kj kj kj)) <| Wm.wm_val 5 (.agg (ints .u8 (sec))) 20 rfl rfl kj kj dd kj (fun _ _ _ h=>h) (fun W hR=>(Qae 23 _ g3 23 _ _ hR.2 rfl kj kj (isz (n:=32) kj (izT hsl)))) ?_
  have r1_3:=(Qaa r1_2 e3)
  have r3_3:=(Qaa r3_2 e3)
  refine Wm.wm_run 6 kj rfl (fun v W'=>(∃ g,v=.map (some g)∧W3.heap.size≤g∧W'.heap[g]? = some (.map #[] 0))∧Ext W3 W') 21 rfl kj ⟨.map (some W3.heap.size),W3.alloc (.map #[] 0),kj,⟨_,rfl,qR _,heap_alloc_new _ _⟩,Qbi _ _⟩ (fun v W h=>⟨Qaa r1_3 h.2,Qaa r3_3 h.2⟩) fun vv8 W4 hh8=>?_
  obtain ⟨⟨gm,rfl,lgm,hgm⟩,e4⟩:=hh8
  have x4:GP base gc w W4:=GP.ext x3 e4
  have lgm0:=qT x3.size lgm
  refine Wm.wm_val 7 (.agg (cat [#[.int .i64 0],#[.int .u64 0],ints .u8 (sec),#[.int .i64 0],#[.map (some gm)]])) 22 rfl rfl kj kj dd kj (fun _ _ _ h=>h) (fun W hR=>(QiR 100 _ (.agg (cat [#[.int .i64 0],#[.int .u64 0],ints .u8 (zaB 32 0),#[.int .i64 0],#[.map none]])) #[(0,2),(2,32),(34,1),(35,1)] (cat [#[.int .i64 0],#[.int .u64 0],ints .u8 (sec),#[.int .i64 0],#[.map (some gm)]]) _ [(1,.agg (ints .u8 sec)),(3,.map (some gm))] rfl kj rfl (Qn3 (fun i=>(#[(0,2),(2,32),(34,1),(35,1)]:Array (Nat×Nat))[i]?) rfl rfl sec hsl gm) kj kj kj)) ?_
  have r1_4:=(Qaa r1_3 e4)
  have r3_4:=(Qaa r3_3 e4)
  refine Wm.wm_run 8 kj rfl (fun v W'=>(∃ g,v=pp g 0∧W4.heap.size≤g∧W'.heap[g]? = some (.cells (cat [#[.int .i64 0],#[.int .u64 0],ints .u8 (sec),#[.int .i64 0],#[.map (some gm)]]) 100))∧Ext W4 W') 23 rfl kj ⟨pp W4.heap.size 0,W4.alloc (.cells (cat [#[.int .i64 0],#[.int .u64 0],ints .u8 (sec),#[.int .i64 0],#[.map (some gm)]]) 100),kj,⟨_,rfl,qR _,heap_alloc_new _ _⟩,Qbi _ _⟩ (fun v W h=>⟨Qaa r1_4 h.2,Qaa r3_4 h.2⟩) fun vv10 W5 hh10=>?_
  obtain ⟨⟨g11,rfl,l11,r11_5⟩,e5⟩:=hh10
  have x5:GP base gc w W5:=GP.ext x4 e5
  have b11:=qT x4.size l11
  have r1_5:=(Qaa r1_4 e5)
  have r3_5:=(Qaa r3_4 e5)
  refine Wm.wm_run 9 kj rfl (fun v W'=>(∃ g,v=.slice (some ⟨g,0,none⟩) 1 1∧W5.heap.size≤g∧W'.heap[g]? = some (.cells #[pp g11 0] 91))∧Ext W5 W') 24 rfl kj ⟨.slice (some ⟨W5.heap.size,0,none⟩) 1 1,W5.alloc (.cells #[pp g11 0] 91),kj,⟨_,rfl,qR _,heap_alloc_new _ _⟩,Qbi _ _⟩ (fun v W h=>⟨Qaa r1_5 h.2,Qaa r3_5 h.2⟩) fun vv12 W6 hh12=>?_
  obtain ⟨⟨g13,rfl,l13,r13_6⟩,e6⟩:=hh12
  have x6:GP base gc w W6:=GP.ext x5 e6
  have hv1:OwnR 91 base (cs.map fun p=>zaY (some ⟨p.1,0,none⟩)) v0 W6:=OwnR.keep hv0 fun g hg=>by obtain ⟨-,cur,hc9⟩:=hv0.at hg; exact (zbf (zbf (zbf (zbf (zbf (zbf (zbe w) e1) e2) e3) e4) e5) e6).block g (Qaq hc9)
  have hch1:ChSt g11 gm sec [] 0 [] W6:=QlX hsl hsb (Qaa r11_5 e6) (Qaa (Qaa hgm e5) e6)
  refine Wm.wm_run 10 kj rfl (fun v W'=>OwnR 91 base ((cs.map fun p=>zaY (some ⟨p.1,0,none⟩))++[pp g11 0]) v W'∧GP base gc W6 W'∧W'.heap[gc]? = some (.cells (#[v0]) 85)∧W'.heap[g3]? = some (.cells (ints .u8 (sec)) 23)) 25 rfl kj (appG (c:=1) (s:=.tmp 19) (x:=.tmp 24) (t:=83) rfl kj kj kj kj r13_6 rfl hv1 (by rw [zbb]; omega) (qT hb x6.size) (Qaa r1_5 e6) dd (Qaa r3_5 e6) dd) (fun v W h=>h.2.2) fun u1 W7 hh14=>?_
  obtain ⟨hv2,q7,r1_7,r3_7⟩:=hh14
  have x7:GP base gc w W7:=GP.trans x6 q7
  have hch2:=hch1.gp q7 oo oo
  obtain ⟨ua,un,uc,rfl⟩:=OwnR.sl hv2
  refine Wm.wm_run 11 kj rfl (fun v W'=>v=pp gc 0∧Ext W7 W') 26 rfl kj ⟨_,_,kj,rfl,zbe _⟩ (fun v W h=>⟨Qaa r1_7 h.2,Qaa r3_7 h.2⟩) fun vv15 W8 hh15=>?_
  obtain ⟨rfl,e8⟩:=hh15
  have x8:GP base gc w W8:=GP.ext x7 e8
  have hv2_8:=OwnR.keep hv2 fun g hg=>by obtain ⟨-,cur,hc9⟩:=OwnR.at hv2 hg; exact e8.block g (Qaq hc9)
  have hch2_8:=ChSt.ext hch2 e8
  refine Wm.wm_val 12 (pp gc 0) 27 rfl rfl kj kj dd kj (fun _ _ _ h=>h) (fun W hR=>kj) ?_
  have r1_8:=(Qaa r1_7 e8)
  refine Wm.wm_store gc _ (#[.slice ua un uc]) 85 r1_8 kj kj rfl rfl kj (Qbj 83 _ _ gc 0 85 _ (.slice ua un uc) r1_8 rfl kj kj kj kj kj rfl) fun W9 p9 r1_9=>?_
  have x9:GP base gc w W9:=GP.putg x8 p9
  refine hK7 _ _ <| wp_ret ?_
  with_reducible repeat first | refine goR1 ?_ | refine goR2 ?_
  exact (show bodyPost _ _ _ .ret _ _ from ret0 rfl ⟨rfl,gr0 x8 r1_8 hv2_8 hch2_8 p9 r1_9 b11 lgm0 hgcl⟩)
theorem Qp8 (sec : List Int) (tc tq:TypeId) (w:World) (hc:w.heap[4]? = some (.cells (ints .u64 QaM) tc)) (hq:w.heap[3]? = some (.cells (ints .u64 Qa5) tq)) (hsl:sec.length=32) (hsb:Qak sec):Calls Tryz.prog 47 #[.agg (ints .u8 sec),.string Qg9] w (Ret w (.agg (ints .u8 (lftV sec)))):=by
  unfold lftV
  exact QhE sec Qg9 tc tq w hc hq hsl hsb
theorem Qpt (sec : List Int) (tc tq:TypeId) (w:World) (hc:w.heap[4]? = some (.cells (ints .u64 QaM) tc)) (hq:w.heap[3]? = some (.cells (ints .u64 Qa5) tq)) (hsl:sec.length=32) (hsb:Qak sec):Calls Tryz.prog 47 #[.agg (ints .u8 sec),.string Qe2] w (Ret w (.agg (ints .u8 (rgtV sec)))):=by
  unfold rgtV
  exact QhE sec Qe2 tc tq w hc hq hsl hsb
theorem QoN (k : Nat) (base gc:Nat) (cs:List (Nat×Nat)) (sec:List Int) (x:Int) (tc tq:TypeId) (w:World) (hc:w.heap[4]? = some (.cells (ints .u64 QaM) tc)) (hq:w.heap[3]? = some (.cells (ints .u64 Qa5) tq)) (hT:Seat.TabAt w) (hsl:sec.length=32) (hsb:Qak sec) (hb:base≤w.heap.size) (hcn:cs.length+2^(k+1)≤1000) (hgs:GrS base gc cs w) (hltc:4<base) (hlts:3<base) (hltt:2<base) (hnec:4≠gc) (hnes:3≠gc) (hnet:2≠gc) (ih:∀ (cs:List (Nat×Nat)) (sec:List Int) (x:Int) (w:World),w.heap[4]? = some (.cells (ints .u64 QaM) tc)→w.heap[3]? = some (.cells (ints .u64 Qa5) tq)→Seat.TabAt w→sec.length=32→Qak sec→base≤w.heap.size→cs.length+2^k≤1000→GrS base gc cs w→lvOk k x=true→Calls Tryz.prog 32 #[pp gc 0,.agg (ints .u8 sec),.int .i64 x] w (fun e W=>e=.returned (.tuple #[])∧GrR base gc cs sec k w W)) (hlv:lvOk (k+1) x=true):Calls Tryz.prog 32 #[pp gc 0,.agg (ints .u8 sec),.int .i64 x] w (fun e W=>e=.returned (.tuple #[])∧GrR base gc cs sec (k+1) w W):=by
  have hgcl:gc<w.heap.size:=by obtain ⟨v0,hgc,-⟩:=hgs; exact Qaq hgc
  have hk0:0≤Seat.kidL x:=by unfold lvOk at hlv; simp only [Bool.and_eq_true,decide_eq_true_eq] at hlv; exact hlv.1.1.2
  have hlv2:lvOk k (Seat.kidL x)=true∧lvOk k (Seat.kidR x)=true:=by rw [lvOk] at hlv; simp only [Bool.and_eq_true,decide_eq_true_eq] at hlv; exact ⟨hlv.1.2,hlv.2⟩
  rw [Nat.pow_succ] at hcn
  refine enter 38 [(0,pp gc 0),(1,.agg (ints .u8 (sec))),(2,.int .i64 x)] Tryz.func32 rfl rfl kj rfl <| sgC fun K4 hK4=>Qah (ints .u8 (sec)) 23 4 rfl kj kj fun g5 W1 l5 e1 r5_1=>?_
  have x1:GP base gc w W1:=GP.ext (GP.refl base gc w) e1
  have b5:=qT (GP.refl base gc w).size l5
  refine sgN hK4 <| sgC fun K6 hK6=>sg 1 kj ?_
  have ht1_7:=(hT.ext e1)
  refine Qao (.tuple #[.int .i64 (Seat.kidL x),.int .i64 (Seat.kidR x)]) 46 #[.int .i64 x] 10 rfl kj kj (Qm5 x (Qin hlv) _ ht1_7) fun W2 e2=>?_
  have x2:GP base gc w W2:=GP.ext x1 e2
  refine sg 5 kj <| sgN hK6 <| wp_seq_k fun K8 hK8=>sgC fun K9 hK9=>sg 1 kj <| sv (.bool false) 14 (Qac (u:=.bool (decide ((Seat.kidL x)<0))) kj (congrArg zah (decide_eq_false oo))) <| sgN hK9 <| cond_false kj <| wp_skip <| hK8 _ _ ?_
  refine sgC fun K10 hK10=>sg 1 kj ?_
  have r5_2:=(Qaa r5_1 e2)
  refine sv (.agg (ints .u8 (sec))) 29 (Qae 23 _ g5 23 _ _ r5_2 rfl kj kj (isz (n:=32) kj (izT hsl))) ?_
  have r2_2:=(Qaa (Qaa hc e1) e2)
  have r3_2:=(Qaa (Qaa hq e1) e2)
  refine Qao (.agg (ints .u8 (lftV sec))) 47 #[.agg (ints .u8 (sec)),.string Qg9] 30 rfl kj kj (Qp8 sec tc tq _ r2_2 r3_2 hsl hsb) fun W3 e3=>?_
  have x3:GP base gc w W3:=GP.ext x2 e3
  refine sg 1 kj ?_
  have r2_3:=(Qaa r2_2 e3)
  have r3_3:=(Qaa r3_2 e3)
  have ht3_11:=((ht1_7.ext e2).ext e3)
  refine Qau (fun v W'=>v=.tuple #[]∧GrR base gc cs (lftV sec) k W3 W') 32 #[pp gc 0,.agg (ints .u8 (lftV sec)),.int .i64 (Seat.kidL x)] 32 rfl kj kj ((ih cs (lftV sec) (Seat.kidL x) W3 r2_3 r3_3 ht3_11 (QcL _) (Qes _) (qT hb x3.size) oo (GrS.ext (GrS.ext (GrS.ext hgs e1) e2) e3) hlv2.1).mono (by rintro e w' ⟨rfl,h⟩; exact ⟨_,rfl,rfl,h⟩)) fun vv12 W4 hh12=>?_
  obtain ⟨rfl,q4,n1,l1,hg1,c1,d1,d2⟩:=hh12
  have xa:=x3
  have x4:GP base gc w W4:=GP.trans x3 q4
  refine sgN hK10 <| Qaj <| sg 1 kj ?_
  have r5_4:=(GP.row q4 (Qaa r5_2 e3) dd (Ne.symm (zaO (qL hgcl b5))))
  refine sv (.agg (ints .u8 (sec))) 34 (Qae 23 _ g5 23 _ _ r5_4 rfl kj kj (isz (n:=32) kj (izT hsl))) ?_
  have r2_4:=(GP.low q4 r2_3 hltc hnec)
  have r3_4:=(GP.low q4 r3_3 hlts hnes)
  refine Qao (.agg (ints .u8 (rgtV sec))) 47 #[.agg (ints .u8 (sec)),.string Qe2] 35 rfl kj kj (Qpt sec tc tq _ r2_4 r3_4 hsl hsb) fun W5 e5=>?_
  have x5:GP base gc w W5:=GP.ext x4 e5
  refine sg 1 kj ?_
  have ht5_13:=((Qoc ht3_11 q4 hltt hnet).ext e5)
  refine Qau (fun v W'=>v=.tuple #[]∧GrR base gc (cs++n1) (rgtV sec) k W5 W') 32 #[pp gc 0,.agg (ints .u8 (rgtV sec)),.int .i64 (Seat.kidR x)] 37 rfl kj kj ((ih (cs++n1) (rgtV sec) (Seat.kidR x) W5 (Qaa r2_4 e5) (Qaa r3_4 e5) ht5_13 (QcH _) (Qeo _) (qT hb x5.size) (by rw [zaW,l1]; omega) (GrS.ext hg1 e5) hlv2.2).mono (by rintro e w' ⟨rfl,h⟩; exact ⟨_,rfl,rfl,h⟩)) fun vv14 W6 hh14=>?_
  obtain ⟨rfl,hr2⟩:=hh14
  have q6:=hr2.1
  have x6:GP base gc w W6:=GP.trans x5 q6
  refine Qas ?_
  with_reducible repeat first | refine goX1 ?_ | refine goX2 ?_ | refine goX3 ?_
  exact (show bodyPost _ _ _ .normal _ _ from end0 rfl ⟨rfl,grS xa q4 l1 c1 d1 d2 (GP.ext (GP.refl base gc W4) e5) hr2 hgcl⟩)
theorem QoP (base gc:Nat) (tc tq:TypeId) (hltc:4<base) (hlts:3<base) (hltt:2<base) (hnec:4≠gc) (hnes:3≠gc) (hnet:2≠gc):∀ (k:Nat) (cs:List (Nat×Nat)) (sec:List Int) (x:Int) (w:World),w.heap[4]? = some (.cells (ints .u64 QaM) tc)→w.heap[3]? = some (.cells (ints .u64 Qa5) tq)→Seat.TabAt w→sec.length=32→Qak sec→base≤w.heap.size→cs.length+2^k≤1000→GrS base gc cs w→lvOk k x=true→Calls Tryz.prog 32 #[pp gc 0,.agg (ints .u8 sec),.int .i64 x] w (fun e W=>e=.returned (.tuple #[])∧GrR base gc cs sec k w W)
  | 0,cs,sec,x,w,hc,hq,hT,hsl,hsb,hb,hcn,hgs,hlv=>QoO base gc cs sec x tc tq w hc hq hT hsl hsb hb oo hgs hlv
  | k+1,cs,sec,x,w,hc,hq,hT,hsl,hsb,hb,hcn,hgs,hlv=>QoN k base gc cs sec x tc tq w hc hq hT hsl hsb hb hcn hgs hltc hlts hltt hnec hnes hnet (QoP base gc tc tq hltc hlts hltt hnec hnes hnet k) hlv
def NewR (sec : List Int) (k:Nat) (w:World) (v:Value) (W:World):Prop:=∃ (gc gl cap:Nat) (lp:Array Value) (ns:List (Nat×Nat)),v=pp gc 0∧w.heap.size≤gc∧ns.length=2^k∧W.heap[gc]? = some (.cells #[.slice (some ⟨gl,0,none⟩) (2^k) cap] 85)∧W.heap[gl]? = some (.cells lp 91)∧(∀ j p,ns[j]? = some p→lp[j]? = some (pp p.1 0)∧ChSt p.1 p.2 (Qbw sec k j) [] 0 [] W∧w.heap.size≤p.1∧w.heap.size≤p.2)∧(ns.map Prod.fst).Nodup∧(ns.map Prod.snd).Nodup
theorem newR {sec : List Int} {k base gc:Nat} {w W1 W:World} (e:Ext w W1) (hb:base=W1.heap.size) (hl:w.heap.size≤gc) (h:GrR base gc [] sec k W1 W):NewR sec k w (pp gc 0) W:=by
  obtain ⟨q,ns,l,⟨v,h1,h2⟩,c,d1,d2⟩:=h
  rw [zar] at h2
  have hp:0<2^k:=zbc dd
  rcases h2.1.2 with ⟨-,q2⟩ | ⟨gl,cap,cur,rfl,q2,q3,q4,q5,q6,q7⟩
  · rw [zbb,l] at q2; omega
  · rw [zbb,l] at h1 q7
    refine ⟨gc,gl,cap,cur,ns,rfl,hl,l,h1,q3,fun j p hj=>?_,d1,d2⟩
    obtain ⟨a1,a2,a3⟩:=c j p hj
    have:=e.size
    refine ⟨?_,a1,by omega,by omega⟩
    have hjl:j<ns.length:=(List.getElem?_eq_some_iff.1 hj).1
    rw [Nat.mul_one] at q7
    have e2:(cur.toList.take (2^k))[j]? = (ns.map fun p=>zaY (some ⟨p.1,0,none⟩))[j]?:=by rw [q7]
    rw [List.getElem?_take_of_lt oo,List.getElem?_map,hj] at e2
    rw [←zbd]
    exact e2
theorem QoQ {gc : Nat} {w W1 W:World} (e:Ext w W1) (q:GP W1.heap.size gc W1 W) (hg:w.heap.size≤gc):Ext w W:=⟨q.os.trans e.os,q.tape.trans e.tape,q.output.trans e.output,qT e.size q.size,fun k hk=>(q.block k (qL hk e.size) oo (.inl (qL hk e.size))).trans (e.block k hk)⟩
theorem Qol (k : Nat) (hk:k≤5) (W:World):Calls Tryz.prog 14 #[.int .i64 ((2^k:Nat):Int)] W (Ret W (.int .i64 (((2^k:Nat):Int)-1))) :=
  (Seat.root ((2^k:Nat):Int) W).mono fun e W' hh=>by
    have hh':e=.returned (.int .i64 (if Seat.isTree ((2^k:Nat):Int)=true then ((2^k:Nat):Int)-1 else -1))∧W=W':=hh
    rw [if_pos ((by decide +kernel:∀ k:Fin 6,Seat.isTree ((2^k.val:Nat):Int)=true) ⟨k,by omega⟩)] at hh'
    exact ⟨hh'.1,hh'.2▸zbe _⟩
theorem newC (k : Nat) (hk:k≤5) (sec:List Int) (tc tq:TypeId) (w:World) (hc:w.heap[4]? = some (.cells (ints .u64 QaM) tc)) (hq:w.heap[3]? = some (.cells (ints .u64 Qa5) tq)) (hT:Seat.TabAt w) (hsl:sec.length=32) (hsb:Qak sec):Calls Tryz.prog 16 #[.agg (ints .u8 sec),.int .i64 ((2^k:Nat):Int)] w (Qby w (NewR sec k w)):=by
  refine enter 18 [(0,.agg (ints .u8 (sec))),(1,.int .i64 ((2^k:Nat):Int))] Tryz.func16 rfl rfl kj rfl <| sgC fun K3 hK3=>Qah (ints .u8 (sec)) 23 2 rfl kj kj fun g4 W1 l4 e1 r4_1=>?_
  have x1:=zbi (zbe w) e1
  have b4:=qT (zbe w).size l4
  refine sg 1 kj <| sgN hK3 <| sgC fun K5 hK5=>sg 1 kj <| Qah (#[.slice none 0 0]) 85 8 rfl kj kj fun g6 W2 l6 e2 r6_2=>?_
  have b6:=qT x1.size l6
  refine sg 1 kj <| sgN hK5 <| wp_seq_k fun K7 hK7=>sgC fun K8 hK8=>sg 1 kj <| Qao (.int .i64 (((2^k:Nat):Int)-1)) 14 #[.int .i64 ((2^k:Nat):Int)] 10 rfl kj kj ((Qol k hk) _) fun W3 e3=>?_
  have x3:=zbi (zbi x1 e2) e3
  refine sg 1 kj <| sgN hK8 <| sgC fun K9 hK9=>sg 1 kj <| sv (.bool true) 12 (Qac (u:=.bool (decide ((((2^k:Nat):Int)-1)≥0))) kj (congrArg zah (decide_eq_true (by have:0<2^k:=zbc dd; omega)))) ?_
  refine sgN hK9 <| cond_true kj <| Qaj <| sg 1 kj <| sv (.agg (ints .u8 (sec))) 14 (Qae 23 _ g4 23 _ _ (Qaa (Qaa r4_1 e2) e3) rfl kj kj (isz (n:=32) kj (izT hsl))) <| sg 1 kj ?_
  have r1_3:=(Qaa (Qaa (Qaa hc e1) e2) e3)
  have r2_3:=(Qaa (Qaa (Qaa hq e1) e2) e3)
  refine Qau (fun v W'=>v=.tuple #[]∧GrR W3.heap.size g6 [] sec k W3 W') 32 #[pp g6 0,.agg (ints .u8 (sec)),.int .i64 (((2^k:Nat):Int)-1)] 16 rfl kj kj ((QoP W3.heap.size g6 tc tq (Qaq r1_3) (Qaq r2_3) (hT.ext x3).1 (by have:=Qaq hc; have:=b6; omega) (by have:=Qaq hq; have:=b6; omega) (by have:=hT.1; have:=b6; omega) k [] sec (((2^k:Nat):Int)-1) W3 r1_3 r2_3 (hT.ext x3) hsl hsb (qR _) (by have:2^k≤2^5:=Nat.pow_le_pow_right dd oo; simp only [List.length_nil]; omega) ⟨_,(Qaa r6_2 e3),⟨⟨rfl,.inl ⟨rfl,rfl⟩⟩,zaI _⟩⟩ (Qkl ⟨k,by omega⟩)).mono (by rintro e w' ⟨rfl,h⟩; exact ⟨_,rfl,rfl,h⟩)) fun vv10 W4 hh10=>?_
  obtain ⟨rfl,hgr⟩:=hh10
  refine Qas <| hK7 _ _ <| sgB kj <| wp_ret ?_
  with_reducible repeat first | refine goR1 ?_ | refine goR2 ?_
  exact (show bodyPost _ _ _ .ret _ _ from ret1 (pp g6 0) rfl (Qax kj) ⟨_,rfl,(QoQ x3 hgr.1 b6),newR x3 rfl b6 hgr⟩)
end Cn
end
section
namespace Pk
open Go Go.RowKit
open Rely Auto Own Sha
open Cha
open Ae hiding run_storeQ
open Cn hiding nb_new run_extractT
theorem newB (w : World):Calls Tryz.prog 6 #[] w (Qby w (fun v W=>∃ g,v=pp g 0∧w.heap.size≤g∧W.heap[g]? = some (.cells (cat [#[.slice none 0 0],#[.bool false]]) 52))):=by
  refine enter 3 [] Tryz.func6 rfl rfl kj rfl <| sgB kj <| sgC fun K2 hK2=>sg 1 kj <| Qah (cat [#[.slice none 0 0],#[.bool false]]) 52 2 rfl kj kj fun g3 W1 l3 e1 r3_1=>?_
  have b3:=qT (zbe w).size l3
  refine sg 1 kj <| sgN hK2 <| wp_ret ?_
  exact (show bodyPost _ _ _ .ret _ _ from ret1 (pp g3 0) rfl (Qax kj) ⟨_,rfl,(zbi (zbe w) e1),g3,rfl,b3,r3_1⟩)
end Pk
end
section
namespace Pk
open Go Go.RowKit
open Rely Auto Own Sha
open Cha
open Ae hiding run_storeQ
open Cn hiding nb_new run_extractT
theorem Qhx {P : Program} {ρ:Operand→Value} {o:Oper} {w:World} (t e:TypeId) (sz:Nat) (x:Operand) (v:Value) (ho:o.op=.buildSlice t 1 #[(0,x)]) (hx:ρ x=v) (hu:P.underlying t=some (.slice e)) (hs:(P.info? e).map (·.size)=some sz) (hz:((P.info? e).bind (·.zero)).isSome=true) (hv:v.cells.size=sz) (h0:0<sz) (hl:sz≤2^24) :
    (execOp ρ o).run P w=.ok (.value (.slice (some ⟨w.heap.size,0,none⟩) 1 1)) (w.alloc (.cells v.cells e)):=by
  cases hie:P.info? e with
  | none=>simp [hie] at hs
  | some ie =>
    simp only [hie,zaV,Option.some.injEq,Option.bind_some] at hs hz
    obtain ⟨z,hzz⟩:=Option.isSome_iff_exists.1 hz
    subst hx
    have hf:Instr.fill (fun i=>some (i*ie.size,ie.size)) ((Array.range (1*ie.size)).map (z.cells[·%z.cells.size]!)) (Array.map (fun p:Nat×Operand=>(p.1,ρ p.2)) #[(0,x)]).toList=some (ρ x).cells:=by
      have:=Qgu (fun i=>some (i*ie.size,ie.size)) [(0,ie.size,ρ x,(ρ x).cells)] [] ((Array.range (1*ie.size)).map (z.cells[·%z.cells.size]!)) 0 rfl ⟨by simp,rfl,by rw [hv,hs],trivial⟩ (by simp [tot])
      simpa [cat] using this
    have hr:=run_buildSlice w t e 1 (Array.map (fun p:Nat×Operand=>(p.1,ρ p.2)) #[(0,x)]) (ρ x).cells ie z hu hie hzz (by rw [hs]; omega) (by rw [hs]; omega) hf
    unfold execOp
    simp only [ho,za6]
    rw [hr]
    rfl
structure Ep where
  gc:Nat
  grp:List Int
  num:Int
  leaf:Int
def epP (e : Ep):List (Array Value):=[#[pp e.gc 0],ints .u8 e.grp,#[.int .i64 e.num],#[.int .i64 e.leaf]]
theorem Qgv (e : Ep) (h:e.grp.length=32):(cat (epP e)).size=35:=by
  unfold epP
  rw [Qal,Qal,Qal,Qal]
  simp only [qS,cat,(Qbq _ _).trans h]
  rfl
theorem Qn4 (e : Ep):∀ u∈(cat (epP e)).toList,u.oneCell'=true:=by
  intro u hu
  unfold epP at hu
  simp only [cat,Array.toList_append,ints,zaJ,zaM,zaF,zaG,or_false] at hu
  rcases hu with rfl | ⟨x,-,rfl⟩ | rfl | rfl <;> rfl
theorem Qoi {ρ : Operand→Value} {o:Oper} {W:World} (a b c d:Operand) (e:Ep) (ho:o.op=.build 58 #[(0,a),(1,b),(2,c),(3,d)]) (ha:ρ a=pp e.gc 0) (hb:ρ b=.agg (ints .u8 e.grp)) (hc:ρ c=.int .i64 e.num) (hd:ρ d=.int .i64 e.leaf) (hl:e.grp.length=32) :
    (execOp ρ o).run Tryz.prog W=.ok (.value (.agg (cat (epP e)))) W :=
  QfD 58 _ (.agg (cat [#[.pointer none],ints .u8 (zaB 32 0),#[.int .i64 0],#[.int .i64 0]])) #[(0,1),(1,32),(33,1),(34,1)] [(0,1,pp e.gc 0,#[pp e.gc 0]),(1,32,.agg (ints .u8 (e.grp)),ints .u8 (e.grp)),(2,1,.int .i64 e.num,#[.int .i64 e.num]),(3,1,.int .i64 e.leaf,#[.int .i64 e.leaf])] ho (by simp [ha,hb,hc,hd]) ⟨kj,rfl,kj,kj,rfl,(izT hl),kj,rfl,kj,kj,rfl,kj,trivial⟩ kj kj kj kj
structure OwE (base : Nat) (es : List Ep) (v : Value) (W : World) : Prop where
  row:W.ownsRow base 58 35 v es.length (es.flatMap fun e=>(cat (epP e)).toList)
  len:∀ e∈es,e.grp.length=32
theorem OwE.nil (base : Nat) (W:World):OwE base [] (.slice none 0 0) W:=⟨World.ownsRow_nil W base 58 35,fun n hn=>by cases hn⟩
theorem OwE.ext {base : Nat} {es:List Ep} {v:Value} {W W':World} (h:OwE base es v W) (e:Ext W W'):OwE base es v W' :=
  ⟨h.row.kept (row:=none) ⟨e.os,e.tape,e.output,e.size,fun k hk _=>e.block k hk⟩ (by cases e:v.ownBlock with
    | none=>exact .inl rfl
    | some k=>exact .inr fun e2=>by cases e2),h.len⟩
theorem OwE.app {P : Program} {ρ:Operand→Value} {o:Oper} {W:World} (b:Nat) (s x:Operand) (t:TypeId) (ho:o.op=.call { callee:=.builtin .append,args:=#[s,x],argTypes:=#[t,t] }) (ht:P.underlying t=some (.slice 58))
    (hi:(P.info? 58).map (fun i=>(i.zero.map (·.cells.size),i.size,i.bytes))=some (some 35,35,b)) (hb8:b≤1000) {base g:Nat} {v:Value} {es:List Ep} {e:Ep} (hs:ρ s=v) (hx:ρ x=.slice (some ⟨g,0,none⟩) 1 1)
    (h:OwE base es v W) (he:e.grp.length=32) (hrow:W.heap[g]? = some (.cells (cat (epP e)) 58)) (hl:es.length≤1000) (hbase:base≤W.heap.size) :
    ∃ v' W',(execOp ρ o).run P W=.ok (.value v') W'∧OwE base (es++[e]) v' W'∧W.grownBy W' v.ownBlock∧(v'.ownBlock=v.ownBlock∨v'.ownBlock=some W.heap.size):=by
  obtain ⟨i,hq,z,hz,hzs,hi2,hi3⟩:∃ i,P.info? 58=some i∧∃ z,i.zero=some z∧z.cells.size=35∧i.size=35∧i.bytes=b:=by
    cases hq:P.info? 58 with
    | none=>rw [hq] at hi; cases hi
    | some i =>
      rw [hq] at hi
      simp only [zaV,Option.some.injEq,Prod.mk.injEq] at hi
      obtain ⟨z,hz,hzs⟩:=Option.map_eq_some_iff.1 hi.1
      exact ⟨i,rfl,z,hz,hzs,hi.2.1,hi.2.2⟩
  have hsz:=Qgv e he
  obtain ⟨v',W',hr,h2,h3,-,h4⟩:=run_append_own_at (P:=P) W base t o.type 58 i z 35 b ht hq hz hi2 hi3 hzs dd v es.length _ h.row ⟨g,0,none⟩ 1 1 (cat (epP e)).toList (by rw [Array.length_toList,hsz])
    (fun j u hu=>by
      rw [WideShapes.add_plain,Nat.zero_add]
      unfold World.cell?
      simp only [hrow]
      rw [zbd] at hu
      rw [←hu]; rfl) (Qn4 e) (by simp only [maxLen]; omega) (by
        have:(es.length+1)*b≤1001*1000:=Nat.mul_le_mul oo hb8
        omega) hbase
  refine ⟨v',W',?_,⟨?_,?_⟩,h3,h4⟩
  · unfold execOp
    simp only [ho,resolve,invoke,builtin,za6,za8,za7,zaX,za2,List.map_nil,hs,hx,hr]
  · rw [zaW,List.flatMap_append]
    simpa using h2
  · intro m hm
    rcases zaJ.1 hm with h1 | h1
    · exact h.len m h1
    · obtain rfl:m=e:=by simpa using h1
      exact he
theorem OwE.one {base : Nat} {e:Ep} {v:Value} {W:World} (h:OwE base [e] v W):∃ (g c:Nat) (cur:Array Value),v=.slice (some ⟨g,0,none⟩) 1 c∧base≤g∧W.heap[g]? = some (.cells cur 58)∧∀ (j:Nat) (u:Value),(cat (epP e))[j]? = some u→cur[j]? = some u:=by
  rcases h.row.2 with ⟨-,e2⟩ | ⟨g,cap,cur,q1,q2,q3,q4,q5,q6,q7⟩
  · cases e2
  · refine ⟨g,cap,cur,q1,q2,q3,fun j u hu=>?_⟩
    have hj:j<35:=by have:=(Array.getElem?_eq_some_iff.1 hu).1; rw [Qgv e (h.len e (by simp))] at this; exact this
    have:(cur.toList.take (1*35))[j]? = some u:=by
      show (cur.toList.take ([e].length*35))[j]? = some u
      rw [q7]; simpa using hu
    rw [List.getElem?_take] at this
    simpa [hj] using this
def ChN (base : Nat) (sec:List Int) (k:Nat):Fact:=fun v W=>∃ w0:World,base≤w0.heap.size∧NewR sec k w0 v W
theorem NewR.ext {sec : List Int} {k:Nat} {w W W':World} {v:Value} (h:NewR sec k w v W) (e:Ext W W'):NewR sec k w v W':=by
  obtain ⟨gc,gl,cap,lp,ns,h1,h2,h3,h4,h5,h6,h7,h8⟩:=h
  exact ⟨gc,gl,cap,lp,ns,h1,h2,h3,Qaa h4 e,Qaa h5 e,fun j p hp=>⟨(h6 j p hp).1,(h6 j p hp).2.1.ext e,(h6 j p hp).2.2⟩,h7,h8⟩
theorem ChN.stable (base : Nat) (sec:List Int) (k:Nat):Qb2 Ext (ChN base sec k):=fun _ _ _ hR ⟨w0,h1,h2⟩=>⟨w0,h1,NewR.ext h2 hR⟩
def EpIs (base : Nat) (sec:List Int) (k:Nat) (grp:List Int) (num leaf:Int) (e:Ep) (W:World):Prop:=e.grp=grp∧e.num=num∧e.leaf=leaf∧ChN base sec k (pp e.gc 0) W
theorem EpIs.ext {base : Nat} {sec:List Int} {k:Nat} {grp:List Int} {num leaf:Int} {e:Ep} {W W':World} (h:EpIs base sec k grp num leaf e W) (x:Ext W W'):EpIs base sec k grp num leaf e W':=⟨h.1,h.2.1,h.2.2.1,ChN.stable _ _ _ _ _ _ x h.2.2.2⟩
def EpF (base : Nat) (sec:List Int) (k:Nat) (grp:List Int) (num leaf:Int):Fact:=fun v W=>∃ e:Ep,v=.agg (cat (epP e))∧EpIs base sec k grp num leaf e W
theorem EpF.stable (base : Nat) (sec:List Int) (k:Nat) (grp:List Int) (num leaf:Int):Qb2 Ext (EpF base sec k grp num leaf):=fun _ _ _ hR ⟨e,h1,h2⟩=>⟨e,h1,h2.ext hR⟩
def SlF (base : Nat) (sec:List Int) (k:Nat) (grp:List Int) (num leaf:Int):Fact:=fun v W=>∃ (g:Nat) (e:Ep),v=.slice (some ⟨g,0,none⟩) 1 1∧W.heap[g]? = some (.cells (cat (epP e)) 58)∧EpIs base sec k grp num leaf e W
theorem SlF.stable (base : Nat) (sec:List Int) (k:Nat) (grp:List Int) (num leaf:Int):Qb2 Ext (SlF base sec k grp num leaf):=fun _ _ _ hR ⟨g,e,h1,h2,h3⟩=>⟨g,e,h1,Qaa h2 hR,h3.ext hR⟩
def OnF (base : Nat) (sec:List Int) (k:Nat) (grp:List Int) (num leaf:Int):Fact:=fun v W=>∃ e:Ep,OwE base [e] v W∧EpIs base sec k grp num leaf e W
theorem OnF.stable (base : Nat) (sec:List Int) (k:Nat) (grp:List Int) (num leaf:Int):Qb2 Ext (OnF base sec k grp num leaf):=fun _ _ _ hR ⟨e,h1,h2⟩=>⟨e,h1.ext hR,h2.ext hR⟩
theorem Qfu {W W':World} (h:W.grownBy W' none):Ext W W':=⟨h.os,h.tape,h.output,h.size,fun k hk=>h.block k hk (fun q=>by cases q)⟩
theorem QkH (gb : Nat) (w:World) (hgb:w.heap[gb]? = some (.cells (cat [#[.slice none 0 0],#[.bool false]]) 52)):Calls Tryz.prog 15 #[pp gb 0] w (Ret w (.pointer none)):=by
  refine enter 24 [(0,pp gb 0)] Tryz.func15 rfl rfl kj rfl <| sgB kj <| wp_seq_k fun K3 hK3=>sgC fun K4 hK4=>sg 6 kj <| sv (.slice none 0 0) 9 (Qab 50 _ gb 0 52 _ (.slice none 0 0) _ hgb rfl kj kj kj) <| sg 3 kj <| sgN hK4 <| cond_true kj <| sgB kj ?_
  refine wp_ret ?_
  exact (show bodyPost _ _ _ .ret _ _ from ret1 (.pointer none) rfl (Qax kj) ⟨rfl,(zbe w)⟩)
end Pk
end
section
namespace Pk
open Go Go.RowKit
open Rely Auto Own Sha
open Cha
open Ae hiding run_storeQ
open Cn hiding nb_new run_extractT
theorem QkQ {P : Program} {ρ:Operand→Value} {o:Oper} {W:World} (b:Nat) (s x:Operand) (t:TypeId) (ho:o.op=.call { callee:=.builtin .append,args:=#[s,x],argTypes:=#[t,t] }) (ht:P.underlying t=some (.slice 58))
    (hi:(P.info? 58).map (fun i=>(i.zero.map (·.cells.size),i.size,i.bytes))=some (some 35,35,b)) (hb8:b≤1000) {base:Nat} {sec:List Int} {k:Nat} {grp:List Int} {num leaf:Int} (hs:ρ s=.slice none 0 0) (hx:SlF base sec k grp num leaf (ρ x) W) (hgl:grp.length=32) (hbase:base≤W.heap.size) :
    ∃ v W',(execOp ρ o).run P W=.ok (.value v) W'∧Ext W W'∧OnF base sec k grp num leaf v W':=by
  obtain ⟨g0,e,eg,hr0,hE⟩:=hx
  have hel:e.grp.length=32:=by rw [hE.1]; exact hgl
  obtain ⟨v',W',h1,h2,h3,-⟩:=OwE.app (ρ:=ρ) b s x t ho ht hi hb8 hs eg (OwE.nil base W) hel hr0 (zaI _) hbase
  have hx:=Qfu h3
  exact ⟨v',W',h1,hx,e,h2,hE.ext hx⟩
theorem OwE.ge {base : Nat} {es:List Ep} {v:Value} {W:World} (h:OwE base es v W) {k:Nat} (e:v.ownBlock=some k):base≤k:=by
  rcases h.row.2 with ⟨rfl,_⟩ | ⟨g',c,cur,rfl,q2,q3,_⟩
  · cases e
  · obtain rfl:g'=k:=Option.some.inj e
    exact q2
theorem OwE.off {base g:Nat} {es:List Ep} {v:Value} {W:World} (h:OwE base es v W) (hg:g<base):v.ownBlock=none∨v.ownBlock≠some g:=by
  cases e:v.ownBlock with
  | none=>exact .inl rfl
  | some k =>
    refine .inr fun e2=>?_
    have:=h.ge e
    obtain rfl:=Option.some.inj e2
    omega
theorem OwE.extB {base g:Nat} {es:List Ep} {v:Value} {W W':World} (h:OwE base es v W) (q:ExtB g W W') (hg:g<base):OwE base es v W' :=
  ⟨h.row.kept (row:=some g) ⟨q.1,q.2.1,q.2.2.1,q.2.2.2.1,fun k hk hn=>q.2.2.2.2 k hk fun e=>hn (by rw [e])⟩ (h.off hg),h.len⟩
theorem ChN.extB {base g:Nat} {sec:List Int} {k:Nat} {v:Value} {W W':World} {c:Array Value} (h:ChN base sec k v W) (q:ExtB g W W') (hg:g<base) (r:W.heap[g]? = some (.cells c 52)):ChN base sec k v W':=by
  obtain ⟨w0,h0,gc,gl,cap,lp,ns,h1,h2,h3,h4,h5,h6,h7,h8⟩:=h
  refine ⟨w0,h0,gc,gl,cap,lp,ns,h1,h2,h3,zbm q h4 oo,zbm q h5 (fun e=>by subst e; exact QhM h5 r dd),fun j p hp=>?_,h7,h8⟩
  obtain ⟨a1,a2,a3,a4⟩:=h6 j p hp
  exact ⟨a1,a2.keep (q.2.2.2.2 _ a2.glt oo) (q.2.2.2.2 _ a2.mp.lt oo),a3,a4⟩
theorem EpIs.extB {base g:Nat} {sec:List Int} {k:Nat} {grp:List Int} {num leaf:Int} {e:Ep} {W W':World} {c:Array Value} (h:EpIs base sec k grp num leaf e W) (q:ExtB g W W') (hg:g<base) (r:W.heap[g]? = some (.cells c 52)):EpIs base sec k grp num leaf e W':=⟨h.1,h.2.1,h.2.2.1,h.2.2.2.extB q hg r⟩
theorem OwE.base {a b:Nat} {es:List Ep} {v:Value} {W:World} (hab:a≤b) (h:OwE b es v W):OwE a es v W:=⟨⟨h.row.1,h.row.2.imp id fun ⟨g,c,cur,q1,q2,q3⟩=>⟨g,c,cur,q1,qT hab q2,q3⟩⟩,h.len⟩
theorem EpIs.base {a b:Nat} {sec:List Int} {k:Nat} {grp:List Int} {num leaf:Int} {e:Ep} {W:World} (hab:a≤b) (h:EpIs b sec k grp num leaf e W):EpIs a sec k grp num leaf e W:=⟨h.1,h.2.1,h.2.2.1,by obtain ⟨w0,h1,h2⟩:=h.2.2.2; exact ⟨w0,qT hab h1,h2⟩⟩
theorem QhD (g : Nat) (grp sec:List Int) (num leaf:Int) (k:Nat) (hk:k≤5) (hgl:grp.length=32) (hsl:sec.length=32) (hsb:Qak sec) (hn0:0≤num) (hn1:num≤4294967295) (hl0:0≤leaf) (hl1:leaf<((2^k:Nat):Int)) (tc tq:TypeId) (w:World) (hg:w.heap[g]? = some (.cells (cat [#[.slice none 0 0],#[.bool false]]) 52)) (hc:w.heap[4]? = some (.cells (ints .u64 QaM) tc)) (hq:w.heap[3]? = some (.cells (ints .u64 Qa5) tq)) (hT:Seat.TabAt w) :
  Calls Tryz.prog 7 #[pp g 0,.agg (ints .u8 grp),.int .i64 num,.agg (ints .u8 sec),.int .i64 ((2^k:Nat):Int),.int .i64 leaf] w (fun x W=>x=.returned .nilIface∧ExtB g w W∧∃ (e:Ep) (v:Value),W.heap[g]? = some (.cells (cat [#[v],#[.bool false]]) 52)∧OwE w.heap.size [e] v W∧EpIs w.heap.size sec k grp num leaf e W):=by
 have h2k:0<2^k:=zbc dd
 refine enter 94 [(0,pp g 0),(1,.agg (ints .u8 (grp))),(2,.int .i64 num),(3,.agg (ints .u8 (sec))),(4,.int .i64 ((2^k:Nat):Int)),(5,.int .i64 leaf)] Tryz.func7 rfl rfl kj rfl <| sgC fun K4 hK4=>Qah (ints .u8 (grp)) 23 7 rfl kj kj fun g5 W1 l5 e1 r5_1=>?_
 have x1:=zbi (zbe w) e1
 have b5:=qT (zbe w).size l5
 refine Qah (ints .u8 (sec)) 23 9 rfl kj kj fun g6 W2 l6 e2 r6_2=>?_
 have b6:=qT x1.size l6
 refine sg 1 kj <| sgN hK4 <| wp_seq_k fun K7 hK7=>sgC fun K8 hK8=>sg 6 kj ?_
 have r1_2:=(Qaa (Qaa hg e1) e2)
 refine sv (.bool false) 20 (Qab 4 _ g 1 52 _ (.bool false) _ r1_2 rfl kj kj kj) <| sg 1 kj <| sgN hK8 <| cond_false kj <| wp_skip <| hK7 _ _ <| wp_seq_k fun K9 hK9=>sgC fun K10 hK10=>sg 1 kj <| Qao (.int .i64 (((2^k:Nat):Int)-1)) 14 #[.int .i64 ((2^k:Nat):Int)] 24 rfl kj kj ((Qol k hk) _) fun W3 e3=>?_
 refine sv (.bool false) 25 (Qac (u:=.bool (decide ((((2^k:Nat):Int)-1)<0))) kj (congrArg zah (decide_eq_false oo))) <| sg 2 kj <| sv (.bool false) 28 (Qac (u:=.bool (decide (leaf<0))) kj (congrArg zah (decide_eq_false oo))) <| sg 4 kj <| sv (.bool false) 33 (Qac (u:=.bool (decide (leaf≥((2^k:Nat):Int)))) kj (congrArg zah (decide_eq_false oo))) <| sg 1 kj <| sgN hK10 <| cond_false kj <| wp_skip <| hK9 _ _ ?_
 refine wp_seq_k fun K11 hK11=>sgC fun K12 hK12=>sg 1 kj <| sv (.bool false) 37 (Qac (u:=.bool (decide (num<0))) kj (congrArg zah (decide_eq_false oo))) <| sg 2 kj <| sv (.bool false) 40 (Qac (u:=.bool (decide (num>4294967295))) kj (congrArg zah (decide_eq_false oo))) <| sg 1 kj <| sgN hK12 <| cond_false kj <| wp_skip ?_
 refine hK11 _ _ <| wp_seq_k fun K13 hK13=>sgC fun K14 hK14=>sg 1 kj ?_
 have r1_3:=(Qaa r1_2 e3)
 refine Qao (.pointer none) 15 #[pp g 0] 44 rfl kj kj (QkH g _ r1_3) fun W4 e4=>sg 1 kj <| sgN hK14 <| wp_seq_k fun K15 hK15=>Qba 18 [⟨none,[(13,none)]⟩,⟨none,[(45,some 0)]⟩,⟨none,[(46,some 1)]⟩,⟨some (47,true),[(2,none),(47,some 2)]⟩,⟨some (47,true),[(13,none),(47,some 2)]⟩,⟨some (47,true),[(49,some 4),(47,some 2)]⟩,⟨some (47,true),[(50,some 5),(47,some 2)]⟩,⟨some (47,true),[(51,some 6),(47,some 2)]⟩,⟨some (47,true),[(48,some 3),(52,some 7),(47,some 2)]⟩,⟨some (47,true),[(53,some 8),(47,some 2)]⟩,⟨some (54,false),[(7,none),(54,some 9)]⟩,⟨some (54,false),[(13,none),(54,some 9)]⟩,⟨some (54,false),[(56,some 11),(54,some 9)]⟩,⟨some (54,false),[(57,some 12),(54,some 9)]⟩,⟨some (54,false),[(58,some 13),(54,some 9)]⟩,⟨some (54,false),[(55,some 10),(59,some 14),(54,some 9)]⟩,⟨some (47,true),[(54,some 9),(60,some 15),(47,some 2)]⟩,⟨none,[(47,some 2),(61,some 16)]⟩] kj kj fun F hF=>Qar (.pointer none) kj kj (fun _=>kj) <| Qar (.bool false) kj kj (fun _=>kj) <| Qar (.bool false) kj kj (fun _=>kj) <| Qbv kj kj <| Qbv kj kj ?_
 refine Qbv kj kj <| Qbv kj kj <| Qbv kj kj <| Qbv kj kj <| Qbv kj kj <| Qbv kj kj <| Qbv kj kj <| Qbv kj kj <| Qbv kj kj <| Qbv kj kj ?_
 refine Qbv kj kj <| Qbv kj kj <| Qar (.bool false) kj kj (fun _=>kj) <| Qbh (hF _ kj fun W5 e5=>?_)
 simp only [ups,up,Kn.val,zan,zao,zap,zaq,zar,zas]
 clear hF
 have x5:=zbi (zbi (zbi (zbi x1 e2) e3) e4) e5
 refine sgN hK15 <| cond_false kj <| wp_skip <| hK13 _ _ <| wp_seq_k fun K16 hK16=>QaT 14 [⟨none,[(0,none)]⟩,⟨none,[(0,none)]⟩,⟨none,[(65,some 1)]⟩,⟨none,[(66,some 2)]⟩,⟨none,[(67,some 3)]⟩,⟨none,[(9,none)]⟩,⟨none,[(4,none)]⟩,⟨none,[(69,some 5),(70,some 6)]⟩,⟨none,[(7,none)]⟩,⟨none,[(2,none)]⟩,⟨none,[(5,none)]⟩,⟨none,[(71,some 7),(72,some 8),(73,some 9),(74,some 10)]⟩,⟨none,[(75,some 11)]⟩,⟨none,[(68,some 4),(76,some 12)]⟩] kj kj fun F hF=>Qa2 (Qam _) (pp g 0) kj kj (fun _=>kj) <| Qa2 (Qam _) (pp g 0) kj kj (fun _=>kj) <| Qa2 (Qam _) (pp g 0) kj kj (fun _=>kj) <| Qa2 (Qam _) (pp g 0) kj kj (fun _=>kj) ?_
 have r1_5:=(Qaa (Qaa r1_3 e4) e5)
 refine QaN (Qam _) (.slice none 0 0) kj kj (fun W hR=>(Qab 50 _ g 0 52 _ (.slice none 0 0) _ (Qaa (Qaa r1_5 (Qan _)) hR) rfl kj kj kj)) <| QaN (Qam _) (.agg (ints .u8 (sec))) kj kj (fun W hR=>(Qae 23 _ g6 23 _ _ (Qaa (Qaa (Qaa (Qaa (Qaa r6_2 e3) e4) e5) (Qan _)) hR) rfl kj kj (isz (n:=32) kj (izT hsl)))) <| Qa2 (Qam _) (.int .i64 ((2^k:Nat):Int)) kj kj (fun _=>kj) <| Qfv (Qam _) (ChN W5.heap.size sec k) (ChN.stable _ _ _) 16 #[.agg (ints .u8 (sec)),.int .i64 ((2^k:Nat):Int)] kj kj (fun _=>kj) (fun W hR=>(fun _=>(newC k hk sec tc tq W (Qaa (Qaa (Qaa (Qaa (Qaa (Qaa (Qaa hc e1) e2) e3) e4) e5) (Qan _)) hR) (Qaa (Qaa (Qaa (Qaa (Qaa (Qaa (Qaa hq e1) e2) e3) e4) e5) (Qan _)) hR) (hT.ext (zbf (zbf x5 (Qan _)) hR)) hsl hsb).mono fun e W' ⟨v,h1,h2,h3⟩=>⟨v,h1,h2,W,hR.size,h3⟩) W) <| QaN (Qam _) (.agg (ints .u8 (grp))) kj kj (fun W hR=>(Qae 23 _ g5 23 _ _ (Qaa (Qaa (Qaa (Qaa (Qaa (Qaa r5_1 e2) e3) e4) e5) (Qan _)) hR) rfl kj kj (isz (n:=32) kj (izT hgl)))) <| Qa2 (Qam _) (.int .i64 num) kj kj (fun _=>kj) <| Qa2 (Qam _) (.int .i64 leaf) kj kj (fun _=>kj) <| Qhg (Qam _) (EpF W5.heap.size sec k grp num leaf) (EpF.stable _ _ _ _ _ _) (fun ρ W hR hh=>?_) ?_
 ·skip
  have hC:ChN W5.heap.size sec k (ρ 71) W:=hh.1
  have e72:ρ 72=.agg (ints .u8 grp):=hh.2.1
  have e73:ρ 73=.int .i64 num:=hh.2.2.1
  have e74:ρ 74=.int .i64 leaf:=hh.2.2.2.1
  obtain ⟨gc,egc⟩:∃ gc:Nat,ρ 71=pp gc 0:=by
   obtain ⟨w0,h0,gc,gl,cap,lp,ns,h1,-⟩:=hC
   exact ⟨gc,h1⟩
  rw [egc] at hC
  exact ⟨_,W,Qoi (.tmp 71) (.tmp 72) (.tmp 73) (.tmp 74) ⟨gc,grp,num,leaf⟩ rfl egc e72 e73 e74 hgl,zbe _,⟨gc,grp,num,leaf⟩,rfl,rfl,rfl,rfl,hC⟩
 refine Qhg (Qam _) (SlF W5.heap.size sec k grp num leaf) (SlF.stable _ _ _ _ _ _) (fun ρ W hR hh=>?_) ?_
 ·skip
  obtain ⟨e,ee,hE⟩:EpF W5.heap.size sec k grp num leaf (ρ 75) W:=hh.1
  have hel:e.grp.length=32:=by rw [hE.1]; exact hgl
  exact ⟨_,_,Qhx 50 58 35 (.tmp 75) (.agg (cat (epP e))) rfl ee kj kj kj (Qgv e hel) dd dd,Qbi _ _,W.heap.size,e,rfl,heap_alloc_new _ _,hE.ext (Qbi _ _)⟩
 refine Qhg (Qam _) (OnF W5.heap.size sec k grp num leaf) (OnF.stable _ _ _ _ _ _) (fun ρ W hR hh=>?_) ?_
 ·skip
  exact QkQ (P:=Tryz.prog) (ρ:=Rely.look ρ) 56 (.tmp 68) (.tmp 76) 50 rfl kj kj dd (show ρ 68=.slice none 0 0 from hh.1) (show SlF W5.heap.size sec k grp num leaf (ρ 76) W from hh.2.1) hgl hR.size
 refine Qc3 (hF _ fun W6 e6=>?_)
 simp only [zar,zas,zan,zao,zap,zaq,finE,up]
 intro vv17 hv17 vv18 hv18 vv19 hv19 vv20 hv20
 clear hF
 obtain ⟨ep,ho,hE⟩:=hv20
 obtain ⟨ge,ce,cur,rfl,lge,rge,hcur⟩:=OwE.one ho
 refine sg 2 kj ?_
 have r1_6:=(Qaa r1_5 e6)
 have xb6:=zbk (zbj g w) (zbi x5 e6)
 refine Qag g _ (cat [#[.slice (some ⟨ge,0,none⟩) 1 ce],#[.bool false]]) 52 r1_6 rfl kj (Qbj 50 _ _ g 0 52 _ (.slice (some ⟨ge,0,none⟩) 1 ce) r1_6 rfl kj kj kj kj kj rfl) fun W7 p7 r1_7=>?_
 have hlt:g<W5.heap.size:=qL (Qaq hg) x5.size
 have hqB:ExtB g W6 W7:=zbl (zbj g _) p7
 have hO2:=OwE.base x5.size (OwE.extB ho hqB hlt)
 have hE2:=EpIs.base x5.size (EpIs.extB hE hqB hlt r1_6)
 refine sgN hK16 <| wp_seq_k fun K21 hK21=>sgC fun K22 hK22=>sg 3 kj <| sv (.slice (some ⟨ge,0,none⟩) 1 ce) 83 (Qab 50 _ g 0 52 _ (.slice (some ⟨ge,0,none⟩) 1 ce) _ r1_7 rfl kj kj kj) <| sg 2 kj <| sgN hK22 <| cond_false kj <| wp_skip <| hK21 _ _ ?_
 refine sgB kj <| wp_ret ?_
 exact (show bodyPost _ _ _ .ret _ _ from ret1 (.nilIface) rfl (Qax kj) ⟨rfl,(zbl xb6 p7),_,_,r1_7,hO2,hE2⟩)
end Pk
end
section
namespace Pk
open Go Go.RowKit
open Rely Auto Own Sha
open Cha
open Ae hiding run_storeQ
open Cn hiding nb_new run_extractT
theorem Qhh (grp : List Int) (hgl:grp.length=32) (a_t:Option Addr) (n_t c_t:Nat) (w:World):Calls Tryz.prog 25 #[.agg (cat [ints .u8 grp,#[.int .i64 0],#[.int .i64 0],#[.int .i64 0],#[.slice a_t n_t c_t]])] w (Qby w (OwnN .u8 5 w.heap.size (grp++[0,0,0,0]++[0]++[0,0,0,0]))):=by
  refine enter 50 [(0,.agg (cat [ints .u8 (grp),#[.int .i64 0],#[.int .i64 0],#[.int .i64 0],#[.slice a_t n_t c_t]]))] Tryz.func25 rfl rfl kj rfl <| sgC fun K1 hK1=>Qah (cat [ints .u8 (grp),#[.int .i64 0],#[.int .i64 0],#[.int .i64 0],#[.slice a_t n_t c_t]]) 43 1 rfl kj kj fun g2 W1 l2 e1 r2_1=>?_
  have x1:=zbi (zbe w) e1
  have b2:=qT (zbe w).size l2
  refine sg 1 kj <| sgN hK1 <| sgC fun K3 hK3=>QaA (ints .u8 ([])) 5 0 4 rfl kj kj fun g4 W2 l4 e2 r4_2=>?_
  have b4:=qT x1.size l4
  refine sg 2 kj ?_
  have r2_2:=(Qaa r2_1 e2)
  refine QaH (k:=.u8) (T:=5) (xs:=[]) (ys:=grp) (V:=W1) 1 (.tmp 4) (.tmp 6) 41 rfl kj kj dd 7 rfl kj kj kj (Qb3 (xs:=[]) rfl l4 r4_2 dd) (Qeq 0 hgl r2_2 (fun i hi=>QdZ [] [#[.int .i64 0],#[.int .i64 0],#[.int .i64 0],#[.slice a_t n_t c_t]] grp 0 i (0+i) kj rfl (by rw [hgl]; exact hi)) (Qaq r2_2) (qR _) dd) (by simp [hgl]) (zbf (zbe W1) e2) fun u1 W3 f5 y3 l3=>?_
  have x3:=Ext.low (zbi x1 e2) l3 x1.size
  refine sg 1 kj <| sgN hK3 <| sgC fun K7 hK7=>sg 2 kj ?_
  have r2_3:=(Qbk l3 r2_2 (Qaq r2_1))
  refine sv (.int .i64 0) 10 (Qab 3 _ g2 32 43 _ (.int .i64 0) _ r2_3 rfl kj (Qap [ints .u8 (grp)] [#[.int .i64 0]] [#[.int .i64 0],#[.int .i64 0],#[.slice a_t n_t c_t]] 32 (izT hgl) 0 _ rfl) kj) <| sg 3 kj <| sv (.int .i64 0) 14 (Qab 3 _ g2 32 43 _ (.int .i64 0) _ r2_3 rfl kj (Qap [ints .u8 (grp)] [#[.int .i64 0]] [#[.int .i64 0],#[.int .i64 0],#[.slice a_t n_t c_t]] 32 (izT hgl) 0 _ rfl) kj) <| sg 3 kj <| sv (.int .i64 0) 18 (Qab 3 _ g2 32 43 _ (.int .i64 0) _ r2_3 rfl kj (Qap [ints .u8 (grp)] [#[.int .i64 0]] [#[.int .i64 0],#[.int .i64 0],#[.slice a_t n_t c_t]] 32 (izT hgl) 0 _ rfl) kj) <| sg 3 kj <| sv (.int .i64 0) 22 (Qab 3 _ g2 32 43 _ (.int .i64 0) _ r2_3 rfl kj (Qap [ints .u8 (grp)] [#[.int .i64 0]] [#[.int .i64 0],#[.int .i64 0],#[.slice a_t n_t c_t]] 32 (izT hgl) 0 _ rfl) kj) <| sg 1 kj <| QaA (ints .u8 ([0,0,0,0])) 5 4 24 rfl kj kj fun g8 W4 l8 e4 r8_4=>?_
  have b8:=qT x3.size l8
  have f9_4:=(f5.ext e4)
  refine QaH (k:=.u8) (T:=5) (xs:=[]++grp) (ys:=[0,0,0,0]) (V:=W1) 1 (.tmp 8) (.tmp 24) 41 rfl kj kj dd 25 rfl kj kj kj f9_4 (QaL (xs:=[0,0,0,0]) (n:=4) rfl r8_4 (Qaq r8_4) (show 4≤maxLen from by decide)) (by simp [hgl]) (zbf y3 e4) fun u2 W5 f10 y5 l5=>?_
  have x5:=Ext.low (zbi x3 e4) l5 x1.size
  refine sg 1 kj <| sgN hK7 <| sgC fun K12 hK12=>sg 2 kj ?_
  have r2_5:=(Qbk l5 (Qaa r2_3 e4) (Qaq r2_1))
  refine sv (.int .i64 0) 28 (Qab 3 _ g2 33 43 _ (.int .i64 0) _ r2_5 rfl kj (Qap [ints .u8 (grp),#[.int .i64 0]] [#[.int .i64 0]] [#[.int .i64 0],#[.slice a_t n_t c_t]] 33 (cz1 hgl) 0 _ rfl) kj) ?_
  refine sg 1 kj <| QaA (ints .u8 ([0])) 5 1 30 rfl kj kj fun g13 W6 l13 e6 r13_6=>?_
  have b13:=qT x5.size l13
  have f14_6:=(f10.ext e6)
  refine QaH (k:=.u8) (T:=5) (xs:=[]++grp++[0,0,0,0]) (ys:=[0]) (V:=W1) 1 (.tmp 26) (.tmp 30) 41 rfl kj kj dd 31 rfl kj kj kj f14_6 (QaL (xs:=[0]) (n:=1) rfl r13_6 (Qaq r13_6) (show 1≤maxLen from by decide)) (by simp [hgl]) (zbf y5 e6) fun u3 W7 f15 y7 l7=>?_
  have x7:=Ext.low (zbi x5 e6) l7 x1.size
  refine sg 1 kj <| sgN hK12 <| sgC fun K17 hK17=>sg 2 kj ?_
  have r2_7:=(Qbk l7 (Qaa r2_5 e6) (Qaq r2_1))
  refine sv (.int .i64 0) 34 (Qab 3 _ g2 34 43 _ (.int .i64 0) _ r2_7 rfl kj (Qap [ints .u8 (grp),#[.int .i64 0],#[.int .i64 0]] [#[.int .i64 0]] [#[.slice a_t n_t c_t]] 34 (cz1 hgl) 0 _ rfl) kj) ?_
  refine sg 3 kj <| sv (.int .i64 0) 38 (Qab 3 _ g2 34 43 _ (.int .i64 0) _ r2_7 rfl kj (Qap [ints .u8 (grp),#[.int .i64 0],#[.int .i64 0]] [#[.int .i64 0]] [#[.slice a_t n_t c_t]] 34 (cz1 hgl) 0 _ rfl) kj) ?_
  refine sg 3 kj <| sv (.int .i64 0) 42 (Qab 3 _ g2 34 43 _ (.int .i64 0) _ r2_7 rfl kj (Qap [ints .u8 (grp),#[.int .i64 0],#[.int .i64 0]] [#[.int .i64 0]] [#[.slice a_t n_t c_t]] 34 (cz1 hgl) 0 _ rfl) kj) ?_
  refine sg 3 kj <| sv (.int .i64 0) 46 (Qab 3 _ g2 34 43 _ (.int .i64 0) _ r2_7 rfl kj (Qap [ints .u8 (grp),#[.int .i64 0],#[.int .i64 0]] [#[.int .i64 0]] [#[.slice a_t n_t c_t]] 34 (cz1 hgl) 0 _ rfl) kj) ?_
  refine sg 1 kj <| QaA (ints .u8 ([0,0,0,0])) 5 4 48 rfl kj kj fun g18 W8 l18 e8 r18_8=>?_
  have b18:=qT x7.size l18
  have f19_8:=(f15.ext e8)
  refine QaH (k:=.u8) (T:=5) (xs:=[]++grp++[0,0,0,0]++[0]) (ys:=[0,0,0,0]) (V:=W1) 1 (.tmp 32) (.tmp 48) 41 rfl kj kj dd 49 rfl kj kj kj f19_8 (QaL (xs:=[0,0,0,0]) (n:=4) rfl r18_8 (Qaq r18_8) (show 4≤maxLen from by decide)) (by simp [hgl]) (zbf y7 e8) fun u4 W9 f20 y9 l9=>sg 1 kj <| sgN hK17 <| wp_ret ?_
  exact (show bodyPost _ _ _ .ret _ _ from ret1 (u4) rfl (Qax kj) ⟨_,rfl,(Ext.low (zbi x7 e8) l9 x1.size),zbn x1.size f20⟩)
end Pk
end
section
namespace Cn
open Go Go.RowKit
open Rely Auto Own Sha
theorem Qo3 (gc gl len cap:Nat) (lp:Array Value) (w:World) (hgc:w.heap[gc]? = some (.cells #[.slice (some ⟨gl,0,none⟩) len cap] 85)) (hgl:w.heap[gl]? = some (.cells lp 91)) (g i:Nat) (hi:i<len) (hli:lp[i]? = some (pp g 0)) (tc tq:TypeId) (hc:w.heap[4]? = some (.cells (ints .u64 QaM) tc)) (hq:w.heap[3]? = some (.cells (ints .u64 Qa5) tq)) {mg pl:Nat} {s0 ts:List Int} {ms:List (Int×List Int)} (hch:ChSt g mg s0 ts pl ms w) (he:chkN ts pl (pl:Int)=0) (hcg:4≠g) (hsg:3≠g):Calls Tryz.prog 23 #[pp gc 0,.int .i64 (i:Int)] w (fun e W=>∃ v,e=.returned (.tuple #[v,.nilIface])∧Qai [g,mg] w W∧ChSt g mg s0 (ts++[(pl:Int)]) (max pl (pl+1)) (Qd9 ms s0 pl pl) W∧QbZ w.heap.size (pl:Int) (keyV (itV s0 pl)) v W):=by
  obtain ⟨B,hW,hrg⟩:=hch.row
  refine enter 23 [(0,pp gc 0),(1,.int .i64 (i:Int))] Tryz.func23 rfl rfl kj rfl <| sgC fun K7 hK7=>Qah (cat [#[.int .i64 0],ints .u8 (zaB 32 0),#[.slice none 0 0]]) 76 4 rfl kj kj fun g8 W1 l8 e1 r8_1=>?_
  have b8:=qT (zbe w).size l8
  refine sg 1 kj <| sgN hK7 <| sgC fun K9 hK9=>sg 2 kj ?_
  have r1_1:=(Qaa hgc e1)
  have r2_1:=(Qaa hgl e1)
  refine Qao (pp g 0) 37 #[pp gc 0,.int .i64 (i:Int)] 9 rfl kj kj (at_I gc gl len cap lp _ r1_1 r2_1 g i hi hli) fun W2 e2=>?_
  have x2:=zbi (zbi (zbe w) e1) e2
  refine sg 1 kj <| sgN hK9 <| wp_seq_k fun K10 hK10=>sgB kj <| cond_false kj <| wp_skip <| hK10 _ _ <| sgC fun K12 hK12=>sg 5 kj <| sv (.int .i64 (pl:Int)) 19 (Qab 3 _ g 34 100 _ (.int .i64 (pl:Int)) _ (Qaa (Qaa hrg e1) e2) rfl kj (Qap [#[.int .i64 (pl:Int)],#[.int .u64 (B:Int)],ints .u8 (itV s0 pl)] [#[.int .i64 (pl:Int)]] [#[.map (some mg)]] 34 (cz1 (Qa6 hch.len pl)) 0 _ rfl) kj) ?_
  refine Qau (fun v W'=>∃ u,v=.tuple #[u,.nilIface]∧Qai [g,mg] W2 W'∧ChSt g mg s0 (ts++[(pl:Int)]) (max pl (pl+1)) (Qd9 ms s0 pl pl) W'∧QbZ W2.heap.size (pl:Int) (keyV (itV s0 pl)) u W') 30 #[pp gc 0,.int .i64 (i:Int),.int .i64 (pl:Int)] 20 rfl kj kj ((Qmj gc gl len cap lp _ (Qaa r1_1 e2) (Qaa r2_1 e2) g i hi hli tc tq (Qaa (Qaa hc e1) e2) (Qaa (Qaa hq e1) e2) (hch.ext x2) pl he hcg hsg).mono (by rintro e w' ⟨v,rfl,q1,q2,q3⟩; exact ⟨_,rfl,_,rfl,q1,q2,q3⟩)) fun vv13 W3 hh13=>?_
  obtain ⟨uu13,rfl,q3,hch2,u13,rfl,hu13⟩:=hh13
  obtain ⟨a13_,c13_,rfl,-⟩:=id (zbo hu13)
  have x3:Qai [g,mg] w W3:=Qai.keeps (zbr (zbp [g,mg] w) x2) q3 (fun c hc=>.inl hc)
  refine sg 2 kj ?_
  have r8_2:=(Qaa r8_1 e2)
  have r8_3:=(zbq q3 r8_2 (Qaw (Ne.symm (zaO (qL hch.glt b8))) (Qaw (Ne.symm (zaO (qL hch.mp.lt b8))) QaF)))
  refine Qag g8 _ (cat [#[.int .i64 (pl:Int)],ints .u8 ((keyV (itV s0 pl)).take 32),#[.slice a13_ (((keyV (itV s0 pl)).drop 32).length) c13_]]) 76 r8_3 rfl kj (Qaf 76 _ _ g8 76 _ _ r8_3 rfl kj kj (isz (n:=34) kj (by rw [Qal,Qal,Qal]; simp only [qS,cat,(izT (Qbm (QaR _)))]; rfl)) (eqsz (n:=34) czR (by rw [Qal,Qal,Qal]; simp only [qS,cat,(izT (Qbm (QaR _)))]; rfl)) (QaQ _ (by intro a ha; simp only [zaF,zaG,or_false] at ha; rcases ha with rfl | rfl | rfl; exact (Qaz _ rfl); exact (Qat _ _); exact (Qaz _ rfl)))) fun W4 p4 r8_4=>?_
  have x4:Qai [g,mg] w W4:=zbs x3 p4 (.inr b8)
  refine sg 1 kj <| sgN hK12 <| wp_ret ?_
  with_reducible repeat first | refine goR1 ?_ | refine goR2 ?_
  exact (show bodyPost _ _ _ .ret _ _ from ret2 (.agg (cat [#[.int .i64 (pl:Int)],ints .u8 ((keyV (itV s0 pl)).take 32),#[.slice a13_ (((keyV (itV s0 pl)).drop 32).length) c13_]])) (.nilIface) rfl (QaJ g8 76 _ r8_4 kj kj (isz (n:=34) kj (by rw [Qal,Qal,Qal]; simp only [qS,cat,(izT (Qbm (QaR _)))]; rfl))) (Qax kj) ⟨_,rfl,x4,(hch2.keep (p4.2.2.2.2 g (Ne.symm (Ne.symm (zaO (qL hch.glt b8))))) (p4.2.2.2.2 mg (Ne.symm (Ne.symm (zaO (qL hch.mp.lt b8)))))),_,rfl,zbn x2.size (hu13.puts p4 (Qcp hu13 (Qaq r8_2)))⟩)
end Cn
end
section
namespace Wk
open Go Go.RowKit
open Rely Auto Own Sha
variable {P : Program} {ops : Array Oper} {Q : Exit → Act → World → Prop}
def allR (P : Program) (ops:Array Oper) (Q:Exit→Act→World→Prop) (Rd:World→Prop):Nat→Array Bool→Act→World→Prop
  | 0,listed,a,w=>zat .any ops listed=[]∧Q .normal a w
  | fuel+1,listed,a,w=>(zat .any ops listed=[]→Q .normal a w)∧∀ i∈zat .any ops listed,wpOp P ops Q i (fun a' w'=>Rd w'∧allR P ops Q Rd fuel (listed.setIfInBounds i true) a' w') a w
theorem Qi4 {Rd : World→Prop}:∀ (fuel:Nat) (listed:Array Bool) (a:Act) (w:World),allR P ops Q Rd fuel listed a w→wpAny P .any ops Q fuel listed a w
  | 0,_,_,_,h=>h
  | _+1,_,_,_,h=>⟨h.1,fun i hi=>wpOp_mono (fun a w h=>Qi4 _ _ a w h.2) (h.2 i hi)⟩
def Qc5 (P : Program) (ops:Array Oper) (Rd:World→Prop) (o:Oper) (v:Value) (a:Act):Prop :=
  (zau o (yielded ops a.tmps)=true∧∀ w,Rd w→(execOp a.eval o).run P w=.ok (.value v) w)∨(zau o (yielded ops a.tmps)=false∧v=undef)
theorem Qc5.wpOp {Rd : World→Prop} {i:Nat} {o:Oper} {v:Value} {a:Act} (hi:ops[i]? = some o) (hy:Qc5 P ops Rd o v a) {K:Act→World→Prop} {w:World} (hw:Rd w) (h:K (a.put o.dst v) w):wpOp P ops Q i K a w:=by
  unfold Go.wpOp
  simp only [hi]
  rcases hy with ⟨hw1,hv⟩ | ⟨hw1,rfl⟩
  · simp only [hw1,if_true,Oper.wp,hv w hw,Oper.upon]; exact .inl h
  · simp only [hw1,Bool.false_eq_true,if_false]; exact h
theorem Qc5.same {Rd : World→Prop} {o:Oper} {v:Value} {a a':Act} (hy:Qc5 P ops Rd o v a) (he:execOp a'.eval o=execOp a.eval o) (hw:zau o (yielded ops a'.tmps)=zau o (yielded ops a.tmps)):Qc5 P ops Rd o v a':=by
  unfold Qc5 at *
  rw [he,hw]
  exact hy
theorem Qnc {Rd : World→Prop} {j:Nat} {oi oj:Oper} {v:Value} (hj:ops[j]? = some oj) (hap:oi.apart ops oj=true) (hsi:∀ cs b,oi.op≠.select cs b) (hsj:∀ cs b,oj.op≠.select cs b)
    (hQ:∀ c a w,Q (.panic c) (a.put oi.dst v) w→Q (.panic c) a w) {K:Act→World→Prop} {a:Act} {w:World} (hy:Qc5 P ops Rd oi v a) (h:wpOp P ops Q j K (a.put oi.dst v) w) :
    wpOp P ops Q j (fun a' w'=>Qc5 P ops Rd oi v a'∧K (a'.put oi.dst v) w') a w:=by
  obtain ⟨h1,h2,h3⟩:=Oper.apart_spec hap
  have keep:∀ (a:Act),Qc5 P ops Rd oi v a→∀ u,Qc5 P ops Rd oi v (a.put oj.dst u):=fun a hy u=>hy.same (execOp_put oi hsi a oj.dst u h3) (wanted_put oi a oj.dst u h3)
  have keepD:∀ d,Qc5 P ops Rd oi v { a with defers:=d::a.defers }:=fun d=>hy.same rfl rfl
  unfold wpOp at *
  simp only [hj] at *
  rw [wanted_put oj a oi.dst v h1] at h
  split
  · rename_i hw
    simp only [hw,if_true] at h
    rcases h with h | ⟨hasks,hlets⟩
    case inr=>exact .inr ⟨by unfold Oper.asks at *; rw [execOp_put oj hsj a oi.dst v h1] at hasks; exact hasks,hlets⟩
    refine .inl ?_
    unfold Oper.wp at *
    rw [execOp_put oj hsj a oi.dst v h1] at h
    generalize (execOp a.eval oj).run P w=r at *
    cases r with
    | ok n w' =>
      cases n <;> simp only [Oper.upon] at h ⊢
      case value u=>exact ⟨keep a hy u,by rw [←Act.put_comm a v u h2]; exact h⟩
      case skip=>exact ⟨keep a hy _,by rw [←Act.put_comm a v undef h2]; exact h⟩
      case defer d =>
        refine ⟨keep _ (keepD d) _,?_⟩
        rw [←Act.put_comm _ v undef h2,←Act.put_defers]
        exact h
      case enter f args =>
        refine Calls.mono h fun e w'' he=>?_
        cases e with
        | returned u=>exact ⟨keep a hy u,by rw [←Act.put_comm a v u h2]; exact he⟩
        | panicked c=>exact hQ _ _ _ he
        | outgrown=>exact he
      case row row args=>exact Rows.mono h fun u w'' he=>⟨keep a hy u,by rw [←Act.put_comm a v u h2]; exact he⟩
    | halt x w' =>
      cases x <;> simp only [Oper.upon] at h ⊢
      case panic u=>exact hQ _ _ _ h
  · rename_i hw
    simp only [hw] at h
    exact ⟨keep a hy _,by rw [←Act.put_comm a v undef h2]; exact h⟩
theorem Qjp {Rd : World→Prop} {i:Nat} {oi:Oper} {v:Value} (hi:ops[i]? = some oi) (hsel:∀ (j:Nat) (o:Oper) cs b,ops[j]? = some o→o.op≠.select cs b) (hQ:∀ c a w,Q (.panic c) (a.put oi.dst v) w→Q (.panic c) a w) :
    ∀ (fuel:Nat) (listed:Array Bool) (a:Act) (w:World),Rd w →
      (∀ j oj,ops[j]? = some oj→j≠i→listed.getD j true=false→(∀ e∈oj.after,zav .any e=true→e.on≠i)→oi.apart ops oj=true) →
      i∈zat .any ops listed→Qc5 P ops Rd oi v a→allR P ops Q Rd fuel (listed.setIfInBounds i true) (a.put oi.dst v) w→allR P ops Q Rd (fuel+1) listed a w:=by
  intro fuel
  induction fuel with
  | zero =>
    intro listed a w hw _ hr hy H
    refine ⟨fun h=>(by rw [h] at hr; cases hr),fun j hj=>?_⟩
    by_cases hji:j=i
    · subst hji; exact hy.wpOp hi hw ⟨hw,H⟩
    · have:=ready_mono hj hji
      rw [H.1] at this
      cases this
  | succ fuel ih =>
    intro listed a w hw hfree hr hy H
    refine ⟨fun h=>(by rw [h] at hr; cases hr),fun j hj=>?_⟩
    by_cases hji:j=i
    · subst hji; exact hy.wpOp hi hw ⟨hw,H⟩
    · have h1:=H.2 j (ready_mono hj hji)
      obtain ⟨hjun,oj,hoj,hall⟩:=mem_ready.1 hj
      have hnot:∀ e∈oj.after,zav .any e=true→e.on≠i:=fun e he hb heq=>by
        have h1:=hall e he hb
        have h0:=(mem_ready.1 hr).1
        rw [heq] at h1
        rcases zaf i listed.size with h' | h'
        · simp [h'] at h0 h1; rw [h0] at h1; cases h1
        · simp [zaw h'] at h1
      have h2:=Qnc hoj (hfree j oj hoj hji hjun hnot) (fun cs b=>hsel i oi cs b hi) (fun cs b=>hsel j oj cs b hoj) hQ hy h1
      have hfree':∀ k ok,ops[k]? = some ok→k≠i→(listed.setIfInBounds j true).getD k true=false→(∀ e∈ok.after,zav .any e=true→e.on≠i)→oi.apart ops ok=true:=fun k ok hk hki hun hno=>by
        refine hfree k ok hk hki ?_ hno
        by_cases hjk:j=k
        · subst hjk; exact hjun
        · rw [getD_set_ne true hjk] at hun; exact hun
      refine wpOp_mono (fun a' w' h3=>⟨h3.2.1,ih (listed.setIfInBounds j true) a' w' h3.2.1 hfree' (ready_mono hr (Ne.symm hji)) h3.1 ?_⟩) h2
      rw [zax _ _ hji]
      exact h3.2.2
structure WB (P : Program) (ops : Array Oper) (Q : Exit → Act → World → Prop) (Rd : World → Prop) (fuel : Nat) (listed : Array Bool) (a : Act) (w : World) : Prop where
  out:Rd w→allR P ops Q Rd fuel listed a w
structure WO (P : Program) (ops : Array Oper) (Q : Exit → Act → World → Prop) (Rd : World → Prop) (k fuel : Nat) (listed : Array Bool) (a : Act) (w : World) : Prop where
  out:wpOp P ops Q k (fun a' w'=>Rd w'∧allR P ops Q Rd fuel (listed.setIfInBounds k true) a' w') a w
variable {o : Oper} {N : Nat} {L : Env} {w V : World} {ds : List Deferred} {fuel : Nat} {listed : Array Bool} {k : Nat} {a : Act} {Rd : World → Prop}
theorem Qdt {id : Nat} {l:List Oper} (Rd:World→Prop) (hm:P.follows .mixedOrders=true) (h:∀ W,Ext w W→Rd W∧WB P l.toArray Q Rd l.length (zay l.length false) (Qav ds N L) W):(Code.region id l.toArray true).wp P Q (Qav ds N L) w:=by
  refine wp_region_any hm ?_
  obtain ⟨h1,h2⟩:=h w.drew (Qan w)
  have:=Qi4 _ _ _ _ (h2.out h1)
  simpa using this
theorem Qbd (k : Nat) (v:Value) (d:Nat) (ho:ops[k]? = some o) (hd:o.dst=some d) (hg:Qbp ops o N L=some true) (hc:(zaz ops&&Region.free .any ops listed k&&(zat .any ops listed).contains k)=true)
    (hQ:∀ c a w,Q (.panic c) (a.put o.dst v) w→Q (.panic c) a w) (h:∀ W,Rd W→(execOp (Rely.look (envN N L)) o).run P W=.ok (.value v) W) (kk:WB P ops Q Rd fuel (listed.setIfInBounds k true) (Qav ds N ((d,v)::L)) w):WB P ops Q Rd (fuel+1) listed (Qav ds N L) w:=by
  simp only [Bool.and_eq_true] at hc
  refine ⟨fun hw=>Qjp ho (za0 hc.1.1) hQ fuel listed _ w hw (za1 ho hc.1.2) (by simpa using hc.2) (.inl ⟨Qb1 hg,fun W hW=>?_⟩) ?_⟩
  · rw [QaZ]; exact h W hW
  · rw [hd,QaS]; exact kk.out hw
theorem Qf6 (k : Nat) (hr:zat .any ops listed=[k]) (h:WO P ops Q Rd k fuel listed a w):WB P ops Q Rd (fuel+1) listed a w :=
  ⟨fun _=>⟨fun h0=>(by rw [hr] at h0; cases h0),fun i hi=>by rw [hr] at hi; obtain rfl:i=k:=(by simpa using hi); exact h.out⟩⟩
def Ef (P : Program) (o:Oper) (ρ:Operand→Value) (W:World) (φ:Value→World→Prop):Prop :=
  (∃ v W',(execOp ρ o).run P W=.ok (.value v) W'∧Ext W W'∧φ v W')∨∃ f args,(execOp ρ o).run P W=.ok (.enter f args) W∧Calls P f args W fun e W'=>∃ v,e=.returned v∧Ext W W'∧φ v W'
theorem Qjv (hr : zat .any ops listed=[]) (h:Q .normal (Qav ds N L) w):WB P ops Q Rd fuel listed (Qav ds N L) w :=
  ⟨fun _=>by cases fuel with
    | zero=>exact ⟨hr,h⟩
    | succ n=>exact ⟨fun _=>h,by rw [hr]; simp⟩⟩
end Wk
end
section
namespace Wr
open Go Go.RowKit
open Rely Auto Own Sha
theorem typW {W : World} {a b:Nat} {c d:Array Value} {s t:TypeId} (h:W.heap[a]? = some (.cells c s)) (k:W.heap[b]? = some (.cells d t)) (hn:s≠t):a≠b:=fun e=>by
  subst e
  rw [h] at k
  simp only [Option.some.injEq,Obj.cells.injEq] at k
  exact hn k.2.1
theorem QjU {k : IntKind} {T:TypeId} {base:Nat} {xs:List Int} {v:Value} {W:World} (h:OwnN k T base xs v W) {g:Nat} (hg:v.ownBlock=some g):∃ cur,W.heap[g]? = some (.cells cur T):=by
  rcases h.1.2 with ⟨rfl,_⟩ | ⟨g',c,cur,rfl,q2,q3,_⟩
  · cases hg
  · obtain rfl:g'=g:=Option.some.inj hg
    exact ⟨cur,q3⟩
theorem nb_typ {k : IntKind} {T T':TypeId} {base g:Nat} {xs:List Int} {v:Value} {W:World} {c:Array Value} (h:OwnN k T base xs v W) (r:W.heap[g]? = some (.cells c T')) (hn:T≠T'):v.ownBlock≠some g:=fun e=>by
  obtain ⟨cur,q⟩:=QjU h e
  exact typW q r hn rfl
theorem ownN_but {k : IntKind} {T:TypeId} {b g:Nat} {xs:List Int} {v:Value} {W W':World} (h:OwnN k T b xs v W) (q:ExtB g W W') (hn:v.ownBlock≠some g):OwnN k T b xs v W':=h.keep fun k hk=>q.2.2.2.2 k (h.lt hk) (fun e=>hn (by rw [hk,e]))
theorem bytes_app {a b:List Int} (ha:Qak a) (hb:Qak b):Qak (a++b):=fun x hx=>(zaJ.1 hx).elim (ha x) (hb x)
structure GW (base gw : Nat) (w W : World) : Prop where
  os:W.os=w.os
  tape:W.tape=w.tape
  output:W.output=w.output
  size:w.heap.size≤W.heap.size
  block:∀ k,k<w.heap.size→k≠gw→(k<base∨∀ cs fr,w.heap[k]?≠some (.cells cs 5 fr))→W.heap[k]? = w.heap[k]?
theorem GW.refl (base gw:Nat) (w:World):GW base gw w w:=⟨rfl,rfl,rfl,qR _,fun _ _ _ _=>rfl⟩
theorem GW.trans {base gw:Nat} {u w W:World} (h:GW base gw u w) (k:GW base gw w W):GW base gw u W :=
  ⟨k.os.trans h.os,k.tape.trans h.tape,k.output.trans h.output,qT h.size k.size,fun i hi hn hc=>by
    have e:=h.block i hi hn hc
    refine (k.block i (qL hi h.size) hn ?_).trans e
    rcases hc with hc | hc
    · exact .inl hc
    · exact .inr fun cs fr=>by rw [e]; exact hc cs fr⟩
theorem GW.of_ext {base gw:Nat} {w W:World} (e:Ext w W):GW base gw w W:=⟨e.os,e.tape,e.output,e.size,fun k hk _ _=>e.block k hk⟩
theorem GW.ext {base gw:Nat} {u w W:World} (h:GW base gw u w) (e:Ext w W):GW base gw u W:=h.trans (GW.of_ext e)
theorem GW.of_but {base gw:Nat} {w W:World} (e:ExtB gw w W):GW base gw w W:=⟨e.1,e.2.1,e.2.2.1,e.2.2.2.1,fun k hk hn _=>e.2.2.2.2 k hk hn⟩
theorem GW.putg {base gw:Nat} {u w W:World} (h:GW base gw u w) (p:Puts w gw W):GW base gw u W :=
  ⟨p.1.trans h.os,p.2.1.trans h.tape,p.2.2.1.trans h.output,by have:=h.size; have:=p.2.2.2.1; omega,fun k hk hn hc=>(p.2.2.2.2 k hn).trans (h.block k hk hn hc)⟩
theorem GW.row {base gw g:Nat} {w W:World} {c:Array Value} {T:TypeId} (h:GW base gw w W) (r:w.heap[g]? = some (.cells c T)) (hT:T≠5) (hn:g≠gw):W.heap[g]? = some (.cells c T) :=
  (h.block g (Qaq r) hn (.inr fun cs fr e=>by rw [r] at e; simp only [Option.some.injEq,Obj.cells.injEq] at e; exact hT e.2.1)).trans r
theorem Qoq {base gw:Nat} {w W:World} {ys:List Int} {v:Value} (h:RdK .u8 base ys v w) (q:GW base gw w W) (hb:base≤gw):RdK .u8 base ys v W:=h.keep q.size fun g hg hl=>q.block g hl oo (.inl hg)
def WSt (base gw:Nat) (s:Option (List Int)) (W:World):Prop:=∃ (u:Value) (xs:List Int) (bad:Bool),W.heap[gw]? = some (.cells #[u,.bool bad] 127)∧OwnN .u8 5 base xs u W∧xs.length≤65536∧Qak xs∧s=bif bad then none else some xs
theorem WSt.lt {base gw:Nat} {s:Option (List Int)} {W:World} (h:WSt base gw s W):gw<W.heap.size:=by
  obtain ⟨u,xs,bad,h1,-⟩:=h
  exact Qaq h1
theorem WSt.ext {base gw:Nat} {s:Option (List Int)} {w W:World} (h:WSt base gw s w) (e:Ext w W):WSt base gw s W:=by
  obtain ⟨u,xs,bad,h1,h2,h3⟩:=h
  exact ⟨u,xs,bad,Qaa h1 e,h2.ext e,h3⟩
def rawS (s : Option (List Int)) (ys:List Int):Option (List Int):=s.bind fun xs=>if xs.length+ys.length≤65536 then some (xs++ys) else none
def byV (n : Int) (k:Nat):Int:=IntKind.u8.wrap (n.fdiv (2^(8*k)))
theorem Qhj (n : Int) (k:Nat):Qak [byV n k]:=fun x hx=>by
  simp only [zaF,zaG,or_false] at hx
  subst hx
  have h3:∀ z:Int,IntKind.u8.wrap z=z%256:=fun _=>rfl
  unfold byV
  rw [h3]; omega
def numR (n : Int):Nat→Option (List Int)→Option (List Int)
  | 0,s=>s
  | k+1,s=>numR n k (rawS s [byV n k])
def okN (n : Int) (size:Nat):Bool:=decide (0≤n)&&(n.fdiv (2^(8*size))==0)
def mustS (s : Option (List Int)) (ok:Bool):Option (List Int):=bif ok then s else none
def numS (s : Option (List Int)) (n:Int) (size:Nat):Option (List Int):=numR n size (mustS s (okN n size))
def leafS (s : Option (List Int)) (n:Int):Option (List Int):=numS (mustS s (decide (n<32))) n 1
def bytS (s : Option (List Int)) (ys:List Int):Option (List Int):=rawS (numS s (ys.length:Int) 2) ys
end Wr
end
section
namespace Wr
open Go Go.RowKit
open Rely Auto Own Sha
theorem Qo8 (gw : Nat) (u:Value) (ok:Bool) (w:World) (hg:w.heap[gw]? = some (.cells #[u,.bool true] 127)):Calls Tryz.prog 78 #[pp gw 0,.bool ok] w (fun e W=>e=.returned (.tuple #[])∧ExtB gw w W∧W.heap[gw]? = some (.cells (cat [#[u],#[.bool true]]) 127)):=by
  refine enter 15 [(0,pp gw 0),(1,.bool ok)] Tryz.func78 rfl rfl kj rfl <| Qaj <| sg 4 kj <| sv (.bool true) 8 (Qab 4 _ gw 1 127 _ (.bool true) _ hg rfl kj kj kj) <| sg 6 kj <| Qag gw _ (cat [#[u],#[.bool true]]) 127 hg rfl kj (Qbj 4 _ _ gw 1 127 _ (.bool true) hg rfl kj kj kj kj kj rfl) fun W1 p1 r1_1=>Qas ?_
  with_reducible repeat first | refine goX1 ?_ | refine goX2 ?_ | refine goX3 ?_
  exact (show bodyPost _ _ _ .normal _ _ from end0 rfl ⟨rfl,(zbl (zbj gw w) p1),r1_1⟩)
theorem Qo7 (gw : Nat) (u:Value) (ok:Bool) (w:World) (hg:w.heap[gw]? = some (.cells #[u,.bool false] 127)):Calls Tryz.prog 78 #[pp gw 0,.bool ok] w (fun e W=>e=.returned (.tuple #[])∧ExtB gw w W∧W.heap[gw]? = some (.cells (cat [#[u],#[.bool (!ok)]]) 127)):=by
  refine enter 15 [(0,pp gw 0),(1,.bool ok)] Tryz.func78 rfl rfl kj rfl <| Qaj <| sg 4 kj <| sv (.bool false) 8 (Qab 4 _ gw 1 127 _ (.bool false) _ hg rfl kj kj kj) <| sg 6 kj <| Qag gw _ (cat [#[u],#[.bool (!ok)]]) 127 hg rfl kj (Qbj 4 _ _ gw 1 127 _ (.bool (!ok)) hg rfl kj kj kj kj kj rfl) fun W1 p1 r1_1=>Qas ?_
  with_reducible repeat first | refine goX1 ?_ | refine goX2 ?_ | refine goX3 ?_
  exact (show bodyPost _ _ _ .normal _ _ from end0 rfl ⟨rfl,(zbl (zbj gw w) p1),r1_1⟩)
theorem Ql9 (gw : Nat) (u:Value) (bad ok:Bool) (w:World) (hg:w.heap[gw]? = some (.cells #[u,.bool bad] 127)):Calls Tryz.prog 78 #[pp gw 0,.bool ok] w (fun e W=>e=.returned (.tuple #[])∧ExtB gw w W∧W.heap[gw]? = some (.cells #[u,.bool (bad || !ok)] 127)):=by
  cases bad with
  | true=>exact Qo8 gw u ok w hg
  | false=>exact Qo7 gw u ok w hg
theorem Qnl (base gw:Nat) (s:Option (List Int)) (ok:Bool) (w:World) (h:WSt base gw s w):Calls Tryz.prog 78 #[pp gw 0,.bool ok] w (fun e W=>e=.returned (.tuple #[])∧GW base gw w W∧WSt base gw (mustS s ok) W):=by
  obtain ⟨u,xs,bad,h1,h2,h3,h4,rfl⟩:=h
  refine (Ql9 gw u bad ok w h1).mono fun e W hh=>⟨hh.1,GW.of_but hh.2.1,u,xs,_,hh.2.2,?_,h3,h4,?_⟩
  · exact h2.keep fun g hg=>hh.2.1.2.2.2.2 g (h2.lt hg) (fun e=>nb_typ h2 h1 dd (by rw [hg,e]))
  · cases bad <;> cases ok <;> rfl
end Wr
end
section
namespace Wr
open Go Go.RowKit
open Rely Auto Own Sha
section
variable {ds : List Deferred} {P : Program} {ops : Array Oper} {Q : Exit → Act → World → Prop} {rest : List Oper} {o : Oper} {N : Nat} {L : Env} {W : World}
theorem Qhr (base gw b:Nat) (s x:Operand) (t:TypeId) (ho:o.op=.call { callee:=.builtin .append,args:=#[s,x],argTypes:=#[t,t] })
    (ht:P.underlying t=some (.slice 5)) (hi:(P.info? 5).map (fun i=>(i.zero,i.size,i.bytes))=some (some (.int .u8 0),1,b)) (hb8:b≤8) (d:Nat) (hd:o.dst=some d) (hg:Qbp ops o N L=some true) {B:Nat} {v y:Value} {xs ys:List Int}
    (hs:Rely.look (envN N L) s=v) (hx:Rely.look (envN N L) x=y) (h:OwnN .u8 5 base xs v W) (hy:RdK .u8 B ys y W) (hn:xs.length+ys.length≤1000000000) (hV:base≤W.heap.size) {c:Array Value} (r:W.heap[gw]? = some (.cells c 127))
    (kk:∀ (u:Value) (W':World),OwnN .u8 5 base (xs++ys) u W'→GW base gw W W'→W'.heap[gw]? = some (.cells c 127)→WL P ops Q rest (Qav ds N ((d,u)::L)) W'):WL P ops Q (o::rest) (Qav ds N L) W:=by
  obtain ⟨v',W',h1,h2,h3,h4⟩:=Qdk (ρ:=Rely.look (envN N L)) (o:=o) (W:=W) s x t ho ht hi hb8 hs hx h hy hn hV
  refine Qbs _ _ d hd hg h1 (kk v' W' h2 ⟨h3.os,h3.tape,h3.output,h3.size,fun i hi hne hc=>h3.block i hi (fun q=>?_)⟩ ((h3.block gw (Qaq r) (fun q=>nb_typ h r dd q.symm)).trans r))
  rcases hc with hc | hc
  · have:=h.ge q.symm; omega
  · obtain ⟨cur,e⟩:=QjU h q.symm
    exact hc cur _ e
end
theorem Qpw (base gw:Nat) (u v:Value) (xs ys:List Int) (w:World) (hbw:base≤w.heap.size) (hg:w.heap[gw]? = some (.cells #[u,.bool true] 127)) (ho:OwnN .u8 5 base xs u w) (hxl:xs.length≤65536) (hyl:ys.length≤1000000) (hst:∀ W,ExtB gw w W→RdK .u8 W.heap.size ys v W) (ok:Bool) (hok:decide (((xs.length+ys.length:Nat):Int)≤65536)=ok) :
    Calls Tryz.prog 57 #[pp gw 0,v] w (fun e W=>e=.returned (.tuple #[])∧GW base gw w W∧∃ u',W.heap[gw]? = some (.cells (cat [#[u'],#[.bool true]]) 127)∧OwnN .u8 5 base (xs) u' W):=by
  obtain ⟨a_u,c_u,rfl,-⟩:=id (zbo ho)
  obtain ⟨a_y,c_y,rfl,-⟩:=id (hst _ (zbj gw w))
  refine enter 29 [(0,pp gw 0),(1,.slice a_y ys.length c_y)] Tryz.func57 rfl rfl kj rfl <| sgC fun K2 hK2=>sg 4 kj <| sv (.slice a_u xs.length c_u) 8 (Qab 41 _ gw 0 127 _ (.slice a_u xs.length c_u) _ hg rfl kj kj kj) <| sg 3 kj <| sv (.int .i64 ((xs.length+ys.length:Nat):Int)) 12 (Qac (u:=.int .i64 (zaa.wrap ((xs.length:Int)+(ys.length:Int)))) kj (congrArg (zag .i64) (i64n _ _ oo oo))) <| sv (.bool (ok)) 13 (Qac (u:=.bool (decide (((xs.length+ys.length:Nat):Int)≤65536))) kj (congrArg zah hok)) <| Qau (fun v W'=>v=.tuple #[]∧ExtB gw w W'∧W'.heap[gw]? = some (.cells (cat [#[.slice a_u xs.length c_u],#[.bool true]]) 127)) 78 #[pp gw 0,.bool (ok)] 14 rfl kj kj ((Ql9 gw _ _ _ _ hg).mono (by intro e w' h; exact ⟨_,h.1,rfl,h.2⟩)) fun v W1 h3=>?_
  obtain ⟨rfl,q1,r1_1⟩:=h3
  have x1:GW base gw w W1:=GW.trans (GW.refl base gw w) (GW.of_but q1)
  refine sgN hK2 <| sgC fun K4 hK4=>sg 3 kj <| sv (.bool true) 18 (Qab 4 _ gw 1 127 _ (.bool true) _ r1_1 rfl kj kj kj) <| sg 1 kj <| sgN hK4 <| cond_false kj <| wp_skip ?_
  with_reducible repeat first | refine goX1 ?_ | refine goX2 ?_ | refine goX3 ?_
  have f5_1:=(ownN_but ho q1 (nb_typ ho hg dd))
  exact (show bodyPost _ _ _ .normal _ _ from end0 rfl ⟨rfl,x1,_,r1_1,f5_1⟩)
theorem Qpv (base gw:Nat) (u v:Value) (xs ys:List Int) (w:World) (hbw:base≤w.heap.size) (hg:w.heap[gw]? = some (.cells #[u,.bool false] 127)) (ho:OwnN .u8 5 base xs u w) (hxl:xs.length≤65536) (hyl:ys.length≤1000000) (hst:∀ W,ExtB gw w W→RdK .u8 W.heap.size ys v W) (h:65536<xs.length+ys.length) :
    Calls Tryz.prog 57 #[pp gw 0,v] w (fun e W=>e=.returned (.tuple #[])∧GW base gw w W∧∃ u',W.heap[gw]? = some (.cells (cat [#[u'],#[.bool true]]) 127)∧OwnN .u8 5 base (xs) u' W):=by
  obtain ⟨a_u,c_u,rfl,-⟩:=id (zbo ho)
  obtain ⟨a_y,c_y,rfl,-⟩:=id (hst _ (zbj gw w))
  refine enter 29 [(0,pp gw 0),(1,.slice a_y ys.length c_y)] Tryz.func57 rfl rfl kj rfl <| sgC fun K2 hK2=>sg 4 kj <| sv (.slice a_u xs.length c_u) 8 (Qab 41 _ gw 0 127 _ (.slice a_u xs.length c_u) _ hg rfl kj kj kj) <| sg 3 kj <| sv (.int .i64 ((xs.length+ys.length:Nat):Int)) 12 (Qac (u:=.int .i64 (zaa.wrap ((xs.length:Int)+(ys.length:Int)))) kj (congrArg (zag .i64) (i64n _ _ oo oo))) <| sv (.bool false) 13 (Qac (u:=.bool (decide (((xs.length+ys.length:Nat):Int)≤65536))) kj (congrArg zah (decide_eq_false oo))) <| Qau (fun v W'=>v=.tuple #[]∧ExtB gw w W'∧W'.heap[gw]? = some (.cells (cat [#[.slice a_u xs.length c_u],#[.bool true]]) 127)) 78 #[pp gw 0,.bool false] 14 rfl kj kj ((Ql9 gw _ _ _ _ hg).mono (by intro e w' h; exact ⟨_,h.1,rfl,h.2⟩)) fun v W1 h3=>?_
  obtain ⟨rfl,q1,r1_1⟩:=h3
  have x1:GW base gw w W1:=GW.trans (GW.refl base gw w) (GW.of_but q1)
  refine sgN hK2 <| sgC fun K4 hK4=>sg 3 kj <| sv (.bool true) 18 (Qab 4 _ gw 1 127 _ (.bool true) _ r1_1 rfl kj kj kj) <| sg 1 kj <| sgN hK4 <| cond_false kj <| wp_skip ?_
  with_reducible repeat first | refine goX1 ?_ | refine goX2 ?_ | refine goX3 ?_
  have f5_1:=(ownN_but ho q1 (nb_typ ho hg dd))
  exact (show bodyPost _ _ _ .normal _ _ from end0 rfl ⟨rfl,x1,_,r1_1,f5_1⟩)
theorem Qpu (base gw:Nat) (u v:Value) (xs ys:List Int) (w:World) (hbw:base≤w.heap.size) (hg:w.heap[gw]? = some (.cells #[u,.bool false] 127)) (ho:OwnN .u8 5 base xs u w) (hxl:xs.length≤65536) (hyl:ys.length≤1000000) (hst:∀ W,ExtB gw w W→RdK .u8 W.heap.size ys v W) (h:xs.length+ys.length≤65536) :
    Calls Tryz.prog 57 #[pp gw 0,v] w (fun e W=>e=.returned (.tuple #[])∧GW base gw w W∧∃ u',W.heap[gw]? = some (.cells (cat [#[u'],#[.bool false]]) 127)∧OwnN .u8 5 base (xs++ys) u' W):=by
  obtain ⟨a_u,c_u,rfl,-⟩:=id (zbo ho)
  obtain ⟨a_y,c_y,rfl,-⟩:=id (hst _ (zbj gw w))
  refine enter 29 [(0,pp gw 0),(1,.slice a_y ys.length c_y)] Tryz.func57 rfl rfl kj rfl <| sgC fun K2 hK2=>sg 4 kj <| sv (.slice a_u xs.length c_u) 8 (Qab 41 _ gw 0 127 _ (.slice a_u xs.length c_u) _ hg rfl kj kj kj) <| sg 3 kj <| sv (.int .i64 ((xs.length+ys.length:Nat):Int)) 12 (Qac (u:=.int .i64 (zaa.wrap ((xs.length:Int)+(ys.length:Int)))) kj (congrArg (zag .i64) (i64n _ _ oo oo))) <| sv (.bool true) 13 (Qac (u:=.bool (decide (((xs.length+ys.length:Nat):Int)≤65536))) kj (congrArg zah (decide_eq_true oo))) <| Qau (fun v W'=>v=.tuple #[]∧ExtB gw w W'∧W'.heap[gw]? = some (.cells (cat [#[.slice a_u xs.length c_u],#[.bool false]]) 127)) 78 #[pp gw 0,.bool true] 14 rfl kj kj ((Ql9 gw _ _ _ _ hg).mono (by intro e w' h; exact ⟨_,h.1,rfl,h.2⟩)) fun v W1 h3=>?_
  obtain ⟨rfl,q1,r1_1⟩:=h3
  have x1:GW base gw w W1:=GW.trans (GW.refl base gw w) (GW.of_but q1)
  refine sgN hK2 <| sgC fun K4 hK4=>sg 3 kj <| sv (.bool false) 18 (Qab 4 _ gw 1 127 _ (.bool false) _ r1_1 rfl kj kj kj) <| sg 1 kj <| sgN hK4 <| cond_true kj <| Qaj <| sg 4 kj <| sv (.slice a_u xs.length c_u) 24 (Qab 41 _ gw 0 127 _ (.slice a_u xs.length c_u) _ r1_1 rfl kj kj kj) ?_
  refine sg 1 kj ?_
  have f5_1:=(ownN_but ho q1 (nb_typ ho hg dd))
  refine Qhr base gw 1 (.tmp 24) (.tmp 25) 41 rfl kj kj dd 26 rfl kj kj kj f5_1 (hst _ q1) oo (qT hbw x1.size) r1_1 fun u2 W2 ho2 q2 r1_2=>?_
  have x2:GW base gw w W2:=GW.trans x1 q2
  have hnb2:u2.ownBlock≠some gw:=nb_typ ho2 r1_2 dd
  obtain ⟨a2_,c2_,rfl,-⟩:=id (zbo ho2)
  refine sg 2 kj <| Qag gw _ (cat [#[.slice a2_ ((xs++ys).length) c2_],#[.bool false]]) 127 r1_2 rfl kj (Qbj 41 _ _ gw 0 127 _ (.slice a2_ ((xs++ys).length) c2_) r1_2 rfl kj kj kj kj kj rfl) fun W3 p3 r1_3=>?_
  have x3:GW base gw w W3:=GW.putg x2 p3
  refine Qas ?_
  with_reducible repeat first | refine goX1 ?_ | refine goX2 ?_ | refine goX3 ?_
  have f7_3:=(ho2.puts p3 hnb2)
  exact (show bodyPost _ _ _ .normal _ _ from end0 rfl ⟨rfl,x3,_,r1_3,f7_3⟩)
theorem rawW (base gw:Nat) (s:Option (List Int)) (ys:List Int) (v:Value) (w:World) (hbw:base≤w.heap.size) (h:WSt base gw s w) (hyl:ys.length≤1000000) (hyb:Qak ys) (hst:∀ W,ExtB gw w W→RdK .u8 W.heap.size ys v W):Calls Tryz.prog 57 #[pp gw 0,v] w (fun e W=>e=.returned (.tuple #[])∧GW base gw w W∧WSt base gw (rawS s ys) W):=by
  obtain ⟨u,xs,bad,h1,h2,h3,h4,rfl⟩:=h
  cases bad with
  | true =>
    refine (Qpw base gw u v xs ys w hbw h1 h2 h3 hyl hst _ rfl).mono fun e W ⟨a,b,u',c,d⟩=>⟨a,b,u',xs,true,c,d,h3,h4,rfl⟩
  | false =>
    by_cases hf:xs.length+ys.length≤65536
    · refine (Qpu base gw u v xs ys w hbw h1 h2 h3 hyl hst hf).mono fun e W ⟨a,b,u',c,d⟩=>⟨a,b,u',xs++ys,false,c,d,by rw [zaW]; omega,bytes_app h4 hyb,?_⟩
      show rawS (some xs) ys=some (xs++ys)
      exact if_pos hf
    · refine (Qpv base gw u v xs ys w hbw h1 h2 h3 hyl hst oo).mono fun e W ⟨a,b,u',c,d⟩=>⟨a,b,u',xs,true,c,d,h3,h4,?_⟩
      show rawS (some xs) ys=none
      exact if_neg hf
end Wr
end
end Go.Proofs.YtbonglpnkoegoaaGreatDoor
