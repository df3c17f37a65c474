/- Texts of this claim, joined (V3). -/
import Derived.Test.YtoiendjhplbjjaaDoorZV2
import Derived.Laws.BitsAll
import Derived.Laws.Externs
import Derived.Shelf.Spec.BitsCarry
import Derived.Shelf.Bits.Mul64
import Derived.Laws.Bits64b

set_option linter.unusedVariables false
set_option linter.unusedSimpArgs false
set_option maxHeartbeats 4000000
section
namespace Go.Proofs.YtoiendjhplbjjaaDoor.Ll
open Go Go.RowKit
open Rely Auto Own Sha Sha
open Cha Ae
theorem Qc9 {k : IntKind} {T:TypeId} {base g:Nat} {xs:List Int} {v:Value} {W:World} (h:OwnN k T base xs v W) (hg:g<base):v.ownBlock≠some g:=fun e=>by
  have:=h.ge e
  omega
theorem Qbs {k : IntKind} {T:TypeId} {b g:Nat} {xs:List Int} {v:Value} {W W':World} (h:OwnN k T b xs v W) (q:ExtB g W W') (hn:v.ownBlock≠some g):OwnN k T b xs v W':=h.keep fun k hk=>q.2.2.2.2 k (h.lt hk) (fun e=>hn (by rw [hk,e]))
theorem run_storeQ {P : Program} {ρ:Operand→Value} {o:Oper} {w:World} (ty:TypeId) (x y:Operand) (g off:Nat) (t:TypeId) (pre post:List (Array Value)) (u v:Value) (hg:w.heap[g]? = some (.cells (cat (pre++([#[u]]++post))) t))
    (ho:o.op=.store ty x y) (hx:ρ x=.pointer (some ⟨g,off,none⟩)) (hy:ρ y=v) (hi:(P.info? ty).map (·.size)=some 1) (hp:(cat pre).size=off) (h1:v.oneCell'=true) (hcs:v.cells=#[v]) :
    (execOp ρ o).run P w=.ok .skip (w.setRow g (cat (pre++([#[v]]++post)))):=by
  subst hp
  have hs:Nat.blt (cat pre).size (cat (pre++([#[u]]++post))).size=true:=by
    have:(cat pre).size<(cat (pre++([#[u]]++post))).size:=by
      rw [QaE,QaE,qS,qS]
      have e1:(cat [#[u]]).size=1:=rfl
      omega
    simpa using this
  have e:(cat (pre++([#[u]]++post))).setIfInBounds (cat pre).size v=cat (pre++([#[v]]++post)):=by
    rw [QaE,QaE,QaE,QaE]
    have e1:∀ z,cat [#[z]]=#[z]:=fun z=>rfl
    rw [e1,e1,Array.setIfInBounds_append_right (qR _),Nat.sub_self,Array.setIfInBounds_append_left (by simp)]
    rfl
  rw [←e]
  exact Qb9 ty x y g _ t _ v hg ho hx hy hi hs h1 hcs
theorem i64_w (v : Int) (h:-5000000000≤v∧v≤5000000000):IntKind.i64.wrap v=v:=IntWalk.i64_in _ (by omega)
theorem shrB (B j:Nat) (hj:j<64):((B:Nat):Int).fdiv (2^min ((j:Nat):Int).toNat IntKind.u64.bits)=((B/2^j:Nat):Int):=by
  rw [show min (((j:Nat):Int).toNat) IntKind.u64.bits=j by show min (((j:Nat):Int).toNat) 64=j; omega]
  rw [Int.fdiv_eq_ediv_of_nonneg _ (Int.le_of_lt (Int.pow_pos (by decide))),Int.natCast_ediv,Int.natCast_pow]
  rfl
theorem andB (m : Nat) (h:m<18446744073709551616):bits .and .u64 ((m:Nat):Int) 1=((m%2:Nat):Int):=by
  rw [show (1:Int)=((1:Nat):Int) from rfl,bits_and_u64_nat m 1 h (by omega),Nat.and_one_is_mod]
theorem orB (a b:Nat) (ha:a<18446744073709551616) (hb:b<18446744073709551616):bits .or .u64 ((a:Nat):Int) ((b:Nat):Int)=((a|||b:Nat):Int):=by
  have h:=u64_or (a:Int) b (by omega) (by omega) (by omega) (by omega)
  simpa using h
theorem wrapN (m : Nat):IntKind.u64.wrap ((m:Nat):Int)=((m%18446744073709551616:Nat):Int):=by rw [IntKind.wrap_u64]; omega
theorem pow_big (B a:Nat) (h:64≤a):B*2^a%18446744073709551616=0:=by
  obtain ⟨c,rfl⟩:∃ c,a=64+c:=⟨a-64,by omega⟩
  rw [Nat.pow_add,←Nat.mul_assoc,Nat.mul_comm B,Nat.mul_assoc]
  exact Nat.mul_mod_right _ _
theorem shlB (B a:Nat):IntKind.u64.wrap (((B:Nat):Int)*2^min ((a:Nat):Int).toNat IntKind.u64.bits)=((B*2^a%18446744073709551616:Nat):Int):=by
  have e:∀ c:Nat,((B:Nat):Int)*2^c=((B*2^c:Nat):Int):=fun c=>by rw [Int.natCast_mul,Int.natCast_pow]; rfl
  rw [e,wrapN]
  have hm:min (((a:Nat):Int).toNat) IntKind.u64.bits=min a 64:=by show min (((a:Nat):Int).toNat) 64=min a 64; rw [Int.toNat_natCast]
  rw [hm]
  rcases Nat.lt_or_ge a 64 with h | h
  · rw [show min a 64=a by omega]
  · rw [show min a 64=64 by omega,pow_big B 64 (by omega),pow_big B a h]
def chkW (nx : Int) (B:Nat) (n:Int):Int:=if n<0∨4294967295≤n then 8 else if 64<nx-1-n then 11 else if nx-1-n=0∨(0<nx-1-n∧B/2^(nx-1-n-1).toNat%2=1) then 7 else 0
def errV (e : Int):Value:=if e=0 then .nilIface else .iface 60 (.int .i64 e)
theorem highestC (g : Nat) (nx:Int) (B:Nat) (hnx:0≤nx∧nx≤4294967295) (hB:B<18446744073709551616) (sk rk:List Int) (next:Nat) (hsk:sk.length=32) (hrk:rk.length=32) (w:World) (hg:w.heap[g]? = some (.cells (cat [#[.int .i64 nx],#[.int .u64 ((B:Nat):Int)],ints .u8 (sk),ints .u8 (rk),#[.int .i64 ((next:Nat):Int)]]) 136)):Calls Tryd.prog 85 #[.pointer (some ⟨g,0,none⟩)] w (Ret w (.int .i64 (nx-1))):=by
  refine enter 8 [(0,.pointer (some ⟨g,0,none⟩))] Tryd.func85 rfl rfl kj rfl ?_
  refine wp_seq_k fun K2 hK2=>?_
  refine Qac ?_
  refine Qaa (.int .i64 0) 2 rfl kj kj ?_
  refine Qae ?_
  refine hK2 _ _ ?_
  refine wp_seq_k fun K3 hK3=>?_
  refine Qac ?_
  refine Qaa (.pointer (some ⟨g,0,none⟩)) 3 rfl kj kj ?_
  refine Qaa (.pointer (some ⟨g,0,none⟩)) 4 rfl kj kj ?_
  refine Qaa (.pointer (some ⟨g,0,none⟩)) 5 rfl kj kj ?_
  refine Qaa (.int .i64 nx) 6 rfl kj (Qah 3 _ g 0 136 _ (.int .i64 nx) _ hg rfl kj (QaQ [] [#[.int .i64 nx]] [#[.int .u64 ((B:Nat):Int)],ints .u8 (sk),ints .u8 (rk),#[.int .i64 ((next:Nat):Int)]] 0 kj 0 _ rfl) kj) ?_
  refine Qaa (.int .i64 (nx-1)) 7 rfl kj (Qad (u:=.int .i64 (IntKind.i64.wrap (nx-1))) kj (congrArg (Value.int .i64) (i64_w _ (by omega)))) ?_
  refine Qaa (.int .i64 (nx-1)) 2 rfl kj kj ?_
  refine Qae ?_
  refine hK3 _ _ ?_
  refine wp_ret ?_
  repeat (first | with_reducible refine goR1 ?_ | with_reducible refine goR2 ?_)
  exact (show bodyPost _ _ _ .ret _ _ from ret1 (.int .i64 (nx-1)) rfl (Qaq kj) ⟨rfl,(Rely.Ext.refl w)⟩)
theorem check_A (g : Nat) (nx:Int) (B:Nat) (n:Int) (hnx:0≤nx∧nx≤4294967295) (hB:B<18446744073709551616) (sk rk:List Int) (next:Nat) (hsk:sk.length=32) (hrk:rk.length=32) (w:World) (hg:w.heap[g]? = some (.cells (cat [#[.int .i64 nx],#[.int .u64 ((B:Nat):Int)],ints .u8 (sk),ints .u8 (rk),#[.int .i64 ((next:Nat):Int)]]) 136)) (hc:n<0):Calls Tryd.prog 88 #[.pointer (some ⟨g,0,none⟩),.int .i64 n] w (Ret w (.iface 60 (.int .i64 8))):=by
  refine enter 38 [(0,.pointer (some ⟨g,0,none⟩)),(1,.int .i64 n)] Tryd.func88 rfl rfl kj rfl ?_
  refine wp_seq_k fun K2 hK2=>?_
  refine Qac ?_
  refine Qaa (.nilIface) 4 rfl kj kj ?_
  refine Qae ?_
  refine hK2 _ _ ?_
  refine wp_seq_k fun K3 hK3=>?_
  refine wp_seq_k fun K4 hK4=>?_
  refine Qac ?_
  refine Qaa (.int .i64 n) 6 rfl kj kj ?_
  refine Qaa (.bool true) 7 rfl kj (Qad (u:=.bool (decide (n<0))) kj (congrArg Value.bool (decide_eq_true (by omega)))) ?_
  refine Qaa (.bool true) 8 rfl kj kj ?_
  refine Qa3 9 rfl kj ?_
  refine Qa3 10 rfl kj ?_
  refine Qaa (.bool true) 11 rfl kj kj ?_
  refine Qae ?_
  refine hK4 _ _ ?_
  refine cond_true kj ?_
  refine wp_seq_k fun K5 hK5=>?_
  refine Qac ?_
  refine Qaa (.iface 60 (.int .i64 8)) 12 rfl kj kj ?_
  refine Qaa (.iface 60 (.int .i64 8)) 4 rfl kj kj ?_
  refine Qae ?_
  refine hK5 _ _ ?_
  refine wp_ret ?_
  repeat (first | with_reducible refine goR1 ?_ | with_reducible refine goR2 ?_)
  exact (show bodyPost _ _ _ .ret _ _ from ret1 (.iface 60 (.int .i64 8)) rfl (Qaq kj) ⟨rfl,(Rely.Ext.refl w)⟩)
theorem check_B (g : Nat) (nx:Int) (B:Nat) (n:Int) (hnx:0≤nx∧nx≤4294967295) (hB:B<18446744073709551616) (sk rk:List Int) (next:Nat) (hsk:sk.length=32) (hrk:rk.length=32) (w:World) (hg:w.heap[g]? = some (.cells (cat [#[.int .i64 nx],#[.int .u64 ((B:Nat):Int)],ints .u8 (sk),ints .u8 (rk),#[.int .i64 ((next:Nat):Int)]]) 136)) (hc:4294967295≤n):Calls Tryd.prog 88 #[.pointer (some ⟨g,0,none⟩),.int .i64 n] w (Ret w (.iface 60 (.int .i64 8))):=by
  refine enter 38 [(0,.pointer (some ⟨g,0,none⟩)),(1,.int .i64 n)] Tryd.func88 rfl rfl kj rfl ?_
  refine wp_seq_k fun K2 hK2=>?_
  refine Qac ?_
  refine Qaa (.nilIface) 4 rfl kj kj ?_
  refine Qae ?_
  refine hK2 _ _ ?_
  refine wp_seq_k fun K3 hK3=>?_
  refine wp_seq_k fun K4 hK4=>?_
  refine Qac ?_
  refine Qaa (.int .i64 n) 6 rfl kj kj ?_
  refine Qaa (.bool false) 7 rfl kj (Qad (u:=.bool (decide (n<0))) kj (congrArg Value.bool (decide_eq_false (by omega)))) ?_
  refine Qaa (.bool false) 8 rfl kj kj ?_
  refine Qaa (.int .i64 n) 9 rfl kj kj ?_
  refine Qaa (.bool true) 10 rfl kj (Qad (u:=.bool (decide (n≥4294967295))) kj (congrArg Value.bool (decide_eq_true (by omega)))) ?_
  refine Qaa (.bool true) 11 rfl kj kj ?_
  refine Qae ?_
  refine hK4 _ _ ?_
  refine cond_true kj ?_
  refine wp_seq_k fun K5 hK5=>?_
  refine Qac ?_
  refine Qaa (.iface 60 (.int .i64 8)) 12 rfl kj kj ?_
  refine Qaa (.iface 60 (.int .i64 8)) 4 rfl kj kj ?_
  refine Qae ?_
  refine hK5 _ _ ?_
  refine wp_ret ?_
  repeat (first | with_reducible refine goR1 ?_ | with_reducible refine goR2 ?_)
  exact (show bodyPost _ _ _ .ret _ _ from ret1 (.iface 60 (.int .i64 8)) rfl (Qaq kj) ⟨rfl,(Rely.Ext.refl w)⟩)
theorem check_C (g : Nat) (nx:Int) (B:Nat) (n:Int) (hnx:0≤nx∧nx≤4294967295) (hB:B<18446744073709551616) (sk rk:List Int) (next:Nat) (hsk:sk.length=32) (hrk:rk.length=32) (w:World) (hg:w.heap[g]? = some (.cells (cat [#[.int .i64 nx],#[.int .u64 ((B:Nat):Int)],ints .u8 (sk),ints .u8 (rk),#[.int .i64 ((next:Nat):Int)]]) 136)) (hn:0≤n∧n<4294967295) (hc:64<nx-1-n):Calls Tryd.prog 88 #[.pointer (some ⟨g,0,none⟩),.int .i64 n] w (Ret w (.iface 60 (.int .i64 11))):=by
  refine enter 38 [(0,.pointer (some ⟨g,0,none⟩)),(1,.int .i64 n)] Tryd.func88 rfl rfl kj rfl ?_
  refine wp_seq_k fun K2 hK2=>?_
  refine Qac ?_
  refine Qaa (.nilIface) 4 rfl kj kj ?_
  refine Qae ?_
  refine hK2 _ _ ?_
  refine wp_seq_k fun K3 hK3=>?_
  refine wp_seq_k fun K4 hK4=>?_
  refine Qac ?_
  refine Qaa (.int .i64 n) 6 rfl kj kj ?_
  refine Qaa (.bool false) 7 rfl kj (Qad (u:=.bool (decide (n<0))) kj (congrArg Value.bool (decide_eq_false (by omega)))) ?_
  refine Qaa (.bool false) 8 rfl kj kj ?_
  refine Qaa (.int .i64 n) 9 rfl kj kj ?_
  refine Qaa (.bool false) 10 rfl kj (Qad (u:=.bool (decide (n≥4294967295))) kj (congrArg Value.bool (decide_eq_false (by omega)))) ?_
  refine Qaa (.bool false) 11 rfl kj kj ?_
  refine Qae ?_
  refine hK4 _ _ ?_
  refine cond_false kj ?_
  refine wp_skip ?_
  refine hK3 _ _ ?_
  refine wp_seq_k fun K5 hK5=>?_
  refine Qac ?_
  refine Qaa (.pointer (some ⟨g,0,none⟩)) 13 rfl kj kj ?_
  refine Qan (.int .i64 (nx-1)) 85 #[.pointer (some ⟨g,0,none⟩)] 14 rfl kj kj (highestC g nx B hnx hB sk rk next hsk hrk _ hg) fun W1 e1=>?_
  have x1:Ext w W1:=Ext.tr (Rely.Ext.refl w) e1
  refine Qaa (.int .i64 n) 15 rfl kj kj ?_
  refine Qaa (.int .i64 (nx-1-n)) 16 rfl kj (Qad (u:=.int .i64 (IntKind.i64.wrap ((nx-1)-n))) kj (congrArg (Value.int .i64) (i64_w _ (by omega)))) ?_
  refine Qaa (.int .i64 (nx-1-n)) 5 rfl kj kj ?_
  refine Qae ?_
  refine hK5 _ _ ?_
  refine wp_seq_k fun K6 hK6=>?_
  refine wp_seq_k fun K7 hK7=>?_
  refine Qac ?_
  refine Qaa (.int .i64 (nx-1-n)) 17 rfl kj kj ?_
  refine Qaa (.bool true) 18 rfl kj (Qad (u:=.bool (decide ((nx-1-n)>64))) kj (congrArg Value.bool (decide_eq_true (by omega)))) ?_
  refine Qae ?_
  refine hK7 _ _ ?_
  refine cond_true kj ?_
  refine wp_seq_k fun K8 hK8=>?_
  refine Qac ?_
  refine Qaa (.iface 60 (.int .i64 11)) 19 rfl kj kj ?_
  refine Qaa (.iface 60 (.int .i64 11)) 4 rfl kj kj ?_
  refine Qae ?_
  refine hK8 _ _ ?_
  refine wp_ret ?_
  repeat (first | with_reducible refine goR1 ?_ | with_reducible refine goR2 ?_)
  exact (show bodyPost _ _ _ .ret _ _ from ret1 (.iface 60 (.int .i64 11)) rfl (Qaq kj) ⟨rfl,x1⟩)
theorem check_D (g : Nat) (nx:Int) (B:Nat) (n:Int) (hnx:0≤nx∧nx≤4294967295) (hB:B<18446744073709551616) (sk rk:List Int) (next:Nat) (hsk:sk.length=32) (hrk:rk.length=32) (w:World) (hg:w.heap[g]? = some (.cells (cat [#[.int .i64 nx],#[.int .u64 ((B:Nat):Int)],ints .u8 (sk),ints .u8 (rk),#[.int .i64 ((next:Nat):Int)]]) 136)) (hn:0≤n∧n<4294967295) (hc:nx-1-n=0):Calls Tryd.prog 88 #[.pointer (some ⟨g,0,none⟩),.int .i64 n] w (Ret w (.iface 60 (.int .i64 7))):=by
  refine enter 38 [(0,.pointer (some ⟨g,0,none⟩)),(1,.int .i64 n)] Tryd.func88 rfl rfl kj rfl ?_
  refine wp_seq_k fun K2 hK2=>?_
  refine Qac ?_
  refine Qaa (.nilIface) 4 rfl kj kj ?_
  refine Qae ?_
  refine hK2 _ _ ?_
  refine wp_seq_k fun K3 hK3=>?_
  refine wp_seq_k fun K4 hK4=>?_
  refine Qac ?_
  refine Qaa (.int .i64 n) 6 rfl kj kj ?_
  refine Qaa (.bool false) 7 rfl kj (Qad (u:=.bool (decide (n<0))) kj (congrArg Value.bool (decide_eq_false (by omega)))) ?_
  refine Qaa (.bool false) 8 rfl kj kj ?_
  refine Qaa (.int .i64 n) 9 rfl kj kj ?_
  refine Qaa (.bool false) 10 rfl kj (Qad (u:=.bool (decide (n≥4294967295))) kj (congrArg Value.bool (decide_eq_false (by omega)))) ?_
  refine Qaa (.bool false) 11 rfl kj kj ?_
  refine Qae ?_
  refine hK4 _ _ ?_
  refine cond_false kj ?_
  refine wp_skip ?_
  refine hK3 _ _ ?_
  refine wp_seq_k fun K5 hK5=>?_
  refine Qac ?_
  refine Qaa (.pointer (some ⟨g,0,none⟩)) 13 rfl kj kj ?_
  refine Qan (.int .i64 (nx-1)) 85 #[.pointer (some ⟨g,0,none⟩)] 14 rfl kj kj (highestC g nx B hnx hB sk rk next hsk hrk _ hg) fun W1 e1=>?_
  have x1:Ext w W1:=Ext.tr (Rely.Ext.refl w) e1
  refine Qaa (.int .i64 n) 15 rfl kj kj ?_
  refine Qaa (.int .i64 (nx-1-n)) 16 rfl kj (Qad (u:=.int .i64 (IntKind.i64.wrap ((nx-1)-n))) kj (congrArg (Value.int .i64) (i64_w _ (by omega)))) ?_
  refine Qaa (.int .i64 (nx-1-n)) 5 rfl kj kj ?_
  refine Qae ?_
  refine hK5 _ _ ?_
  refine wp_seq_k fun K6 hK6=>?_
  refine wp_seq_k fun K7 hK7=>?_
  refine Qac ?_
  refine Qaa (.int .i64 (nx-1-n)) 17 rfl kj kj ?_
  refine Qaa (.bool false) 18 rfl kj (Qad (u:=.bool (decide ((nx-1-n)>64))) kj (congrArg Value.bool (decide_eq_false (by omega)))) ?_
  refine Qae ?_
  refine hK7 _ _ ?_
  refine cond_false kj ?_
  refine wp_skip ?_
  refine hK6 _ _ ?_
  refine wp_seq_k fun K8 hK8=>?_
  refine wp_seq_k fun K9 hK9=>?_
  refine Qac ?_
  refine Qaa (.int .i64 (nx-1-n)) 20 rfl kj kj ?_
  refine Qaa (.bool true) 21 rfl kj (Qad (u:=.bool (((nx-1-n)==0))) kj (congrArg Value.bool (by simp; omega))) ?_
  refine Qaa (.bool true) 22 rfl kj kj ?_
  refine Qa3 23 rfl kj ?_
  refine Qa3 24 rfl kj ?_
  refine Qa3 25 rfl kj ?_
  refine Qa3 26 rfl kj ?_
  refine Qa3 27 rfl kj ?_
  refine Qa3 28 rfl kj ?_
  refine Qa3 29 rfl kj ?_
  refine Qa3 30 rfl kj ?_
  refine Qa3 31 rfl kj ?_
  refine Qa3 32 rfl kj ?_
  refine Qa3 33 rfl kj ?_
  refine Qa3 34 rfl kj ?_
  refine Qa3 35 rfl kj ?_
  refine Qaa (.bool true) 36 rfl kj kj ?_
  refine Qae ?_
  refine hK9 _ _ ?_
  refine cond_true kj ?_
  refine wp_seq_k fun K10 hK10=>?_
  refine Qac ?_
  refine Qaa (.iface 60 (.int .i64 7)) 37 rfl kj kj ?_
  refine Qaa (.iface 60 (.int .i64 7)) 4 rfl kj kj ?_
  refine Qae ?_
  refine hK10 _ _ ?_
  refine wp_ret ?_
  repeat (first | with_reducible refine goR1 ?_ | with_reducible refine goR2 ?_)
  exact (show bodyPost _ _ _ .ret _ _ from ret1 (.iface 60 (.int .i64 7)) rfl (Qaq kj) ⟨rfl,x1⟩)
theorem check_E (g : Nat) (nx:Int) (B:Nat) (n:Int) (hnx:0≤nx∧nx≤4294967295) (hB:B<18446744073709551616) (sk rk:List Int) (next:Nat) (hsk:sk.length=32) (hrk:rk.length=32) (w:World) (hg:w.heap[g]? = some (.cells (cat [#[.int .i64 nx],#[.int .u64 ((B:Nat):Int)],ints .u8 (sk),ints .u8 (rk),#[.int .i64 ((next:Nat):Int)]]) 136)) (hn:0≤n∧n<4294967295) (j:Nat) (hj:nx-1-n-1=(j:Int)) (hj2:j<64) (hc:B/2^j%2=1):Calls Tryd.prog 88 #[.pointer (some ⟨g,0,none⟩),.int .i64 n] w (Ret w (.iface 60 (.int .i64 7))):=by
  refine enter 38 [(0,.pointer (some ⟨g,0,none⟩)),(1,.int .i64 n)] Tryd.func88 rfl rfl kj rfl ?_
  refine wp_seq_k fun K2 hK2=>?_
  refine Qac ?_
  refine Qaa (.nilIface) 4 rfl kj kj ?_
  refine Qae ?_
  refine hK2 _ _ ?_
  refine wp_seq_k fun K3 hK3=>?_
  refine wp_seq_k fun K4 hK4=>?_
  refine Qac ?_
  refine Qaa (.int .i64 n) 6 rfl kj kj ?_
  refine Qaa (.bool false) 7 rfl kj (Qad (u:=.bool (decide (n<0))) kj (congrArg Value.bool (decide_eq_false (by omega)))) ?_
  refine Qaa (.bool false) 8 rfl kj kj ?_
  refine Qaa (.int .i64 n) 9 rfl kj kj ?_
  refine Qaa (.bool false) 10 rfl kj (Qad (u:=.bool (decide (n≥4294967295))) kj (congrArg Value.bool (decide_eq_false (by omega)))) ?_
  refine Qaa (.bool false) 11 rfl kj kj ?_
  refine Qae ?_
  refine hK4 _ _ ?_
  refine cond_false kj ?_
  refine wp_skip ?_
  refine hK3 _ _ ?_
  refine wp_seq_k fun K5 hK5=>?_
  refine Qac ?_
  refine Qaa (.pointer (some ⟨g,0,none⟩)) 13 rfl kj kj ?_
  refine Qan (.int .i64 (nx-1)) 85 #[.pointer (some ⟨g,0,none⟩)] 14 rfl kj kj (highestC g nx B hnx hB sk rk next hsk hrk _ hg) fun W1 e1=>?_
  have x1:Ext w W1:=Ext.tr (Rely.Ext.refl w) e1
  refine Qaa (.int .i64 n) 15 rfl kj kj ?_
  refine Qaa (.int .i64 (nx-1-n)) 16 rfl kj (Qad (u:=.int .i64 (IntKind.i64.wrap ((nx-1)-n))) kj (congrArg (Value.int .i64) (i64_w _ (by omega)))) ?_
  refine Qaa (.int .i64 (nx-1-n)) 5 rfl kj kj ?_
  refine Qae ?_
  refine hK5 _ _ ?_
  refine wp_seq_k fun K6 hK6=>?_
  refine wp_seq_k fun K7 hK7=>?_
  refine Qac ?_
  refine Qaa (.int .i64 (nx-1-n)) 17 rfl kj kj ?_
  refine Qaa (.bool false) 18 rfl kj (Qad (u:=.bool (decide ((nx-1-n)>64))) kj (congrArg Value.bool (decide_eq_false (by omega)))) ?_
  refine Qae ?_
  refine hK7 _ _ ?_
  refine cond_false kj ?_
  refine wp_skip ?_
  refine hK6 _ _ ?_
  refine wp_seq_k fun K8 hK8=>?_
  refine wp_seq_k fun K9 hK9=>?_
  refine Qac ?_
  refine Qaa (.int .i64 (nx-1-n)) 20 rfl kj kj ?_
  refine Qaa (.bool false) 21 rfl kj (Qad (u:=.bool (((nx-1-n)==0))) kj (congrArg Value.bool (by simp; omega))) ?_
  refine Qaa (.bool false) 22 rfl kj kj ?_
  refine Qaa (.int .i64 (nx-1-n)) 23 rfl kj kj ?_
  refine Qaa (.bool true) 24 rfl kj (Qad (u:=.bool (decide ((nx-1-n)>0))) kj (congrArg Value.bool (decide_eq_true (by omega)))) ?_
  refine Qaa (.bool true) 25 rfl kj kj ?_
  refine Qaa (.pointer (some ⟨g,0,none⟩)) 26 rfl kj kj ?_
  refine Qaa (.pointer (some ⟨g,0,none⟩)) 27 rfl kj kj ?_
  refine Qaa (.pointer (some ⟨g,1,none⟩)) 28 rfl kj kj ?_
  have r1_1:=(Qab hg e1)
  refine Qaa (.int .u64 ((B:Nat):Int)) 29 rfl kj (Qah 129 _ g 1 136 _ (.int .u64 ((B:Nat):Int)) _ r1_1 rfl kj (QaQ [#[.int .i64 nx]] [#[.int .u64 ((B:Nat):Int)]] [ints .u8 (sk),ints .u8 (rk),#[.int .i64 ((next:Nat):Int)]] 1 kj 0 _ rfl) kj) ?_
  refine Qaa (.int .i64 (nx-1-n)) 30 rfl kj kj ?_
  refine Qaa (.int .i64 (((j:Nat):Int))) 31 rfl kj (Qad (u:=.int .i64 (IntKind.i64.wrap ((nx-1-n)-1))) kj (congrArg (Value.int .i64) (by rw [hj]; exact i64_w _ (by omega)))) ?_
  refine Qaa (.int .u64 (((B/2^j:Nat):Int))) 32 rfl kj (QaP .shr _ _ _ _ .u64 .i64 _ _ _ rfl kj kj (Qdk _ _ _ _ _ _ (by omega) (shrB B j hj2))) ?_
  refine Qaa (.int .u64 (((B/2^j%2:Nat):Int))) 33 rfl kj (Qad (u:=.int .u64 (bits .and .u64 (((B/2^j:Nat):Int)) (1))) kj (congrArg (Value.int .u64) (andB _ (Nat.lt_of_le_of_lt (Nat.div_le_self _ _) hB)))) ?_
  refine Qaa (.bool true) 34 rfl kj (Qad (u:=.bool ((((B/2^j%2:Nat):Int)==1))) kj (congrArg Value.bool (by rw [hc]; rfl))) ?_
  refine Qaa (.bool true) 35 rfl kj kj ?_
  refine Qaa (.bool true) 36 rfl kj kj ?_
  refine Qae ?_
  refine hK9 _ _ ?_
  refine cond_true kj ?_
  refine wp_seq_k fun K10 hK10=>?_
  refine Qac ?_
  refine Qaa (.iface 60 (.int .i64 7)) 37 rfl kj kj ?_
  refine Qaa (.iface 60 (.int .i64 7)) 4 rfl kj kj ?_
  refine Qae ?_
  refine hK10 _ _ ?_
  refine wp_ret ?_
  repeat (first | with_reducible refine goR1 ?_ | with_reducible refine goR2 ?_)
  exact (show bodyPost _ _ _ .ret _ _ from ret1 (.iface 60 (.int .i64 7)) rfl (Qaq kj) ⟨rfl,x1⟩)
theorem check_F (g : Nat) (nx:Int) (B:Nat) (n:Int) (hnx:0≤nx∧nx≤4294967295) (hB:B<18446744073709551616) (sk rk:List Int) (next:Nat) (hsk:sk.length=32) (hrk:rk.length=32) (w:World) (hg:w.heap[g]? = some (.cells (cat [#[.int .i64 nx],#[.int .u64 ((B:Nat):Int)],ints .u8 (sk),ints .u8 (rk),#[.int .i64 ((next:Nat):Int)]]) 136)) (hn:0≤n∧n<4294967295) (j:Nat) (hj:nx-1-n-1=(j:Int)) (hj2:j<64) (hc:B/2^j%2=0):Calls Tryd.prog 88 #[.pointer (some ⟨g,0,none⟩),.int .i64 n] w (Ret w (.nilIface)):=by
  refine enter 38 [(0,.pointer (some ⟨g,0,none⟩)),(1,.int .i64 n)] Tryd.func88 rfl rfl kj rfl ?_
  refine wp_seq_k fun K2 hK2=>?_
  refine Qac ?_
  refine Qaa (.nilIface) 4 rfl kj kj ?_
  refine Qae ?_
  refine hK2 _ _ ?_
  refine wp_seq_k fun K3 hK3=>?_
  refine wp_seq_k fun K4 hK4=>?_
  refine Qac ?_
  refine Qaa (.int .i64 n) 6 rfl kj kj ?_
  refine Qaa (.bool false) 7 rfl kj (Qad (u:=.bool (decide (n<0))) kj (congrArg Value.bool (decide_eq_false (by omega)))) ?_
  refine Qaa (.bool false) 8 rfl kj kj ?_
  refine Qaa (.int .i64 n) 9 rfl kj kj ?_
  refine Qaa (.bool false) 10 rfl kj (Qad (u:=.bool (decide (n≥4294967295))) kj (congrArg Value.bool (decide_eq_false (by omega)))) ?_
  refine Qaa (.bool false) 11 rfl kj kj ?_
  refine Qae ?_
  refine hK4 _ _ ?_
  refine cond_false kj ?_
  refine wp_skip ?_
  refine hK3 _ _ ?_
  refine wp_seq_k fun K5 hK5=>?_
  refine Qac ?_
  refine Qaa (.pointer (some ⟨g,0,none⟩)) 13 rfl kj kj ?_
  refine Qan (.int .i64 (nx-1)) 85 #[.pointer (some ⟨g,0,none⟩)] 14 rfl kj kj (highestC g nx B hnx hB sk rk next hsk hrk _ hg) fun W1 e1=>?_
  have x1:Ext w W1:=Ext.tr (Rely.Ext.refl w) e1
  refine Qaa (.int .i64 n) 15 rfl kj kj ?_
  refine Qaa (.int .i64 (nx-1-n)) 16 rfl kj (Qad (u:=.int .i64 (IntKind.i64.wrap ((nx-1)-n))) kj (congrArg (Value.int .i64) (i64_w _ (by omega)))) ?_
  refine Qaa (.int .i64 (nx-1-n)) 5 rfl kj kj ?_
  refine Qae ?_
  refine hK5 _ _ ?_
  refine wp_seq_k fun K6 hK6=>?_
  refine wp_seq_k fun K7 hK7=>?_
  refine Qac ?_
  refine Qaa (.int .i64 (nx-1-n)) 17 rfl kj kj ?_
  refine Qaa (.bool false) 18 rfl kj (Qad (u:=.bool (decide ((nx-1-n)>64))) kj (congrArg Value.bool (decide_eq_false (by omega)))) ?_
  refine Qae ?_
  refine hK7 _ _ ?_
  refine cond_false kj ?_
  refine wp_skip ?_
  refine hK6 _ _ ?_
  refine wp_seq_k fun K8 hK8=>?_
  refine wp_seq_k fun K9 hK9=>?_
  refine Qac ?_
  refine Qaa (.int .i64 (nx-1-n)) 20 rfl kj kj ?_
  refine Qaa (.bool false) 21 rfl kj (Qad (u:=.bool (((nx-1-n)==0))) kj (congrArg Value.bool (by simp; omega))) ?_
  refine Qaa (.bool false) 22 rfl kj kj ?_
  refine Qaa (.int .i64 (nx-1-n)) 23 rfl kj kj ?_
  refine Qaa (.bool true) 24 rfl kj (Qad (u:=.bool (decide ((nx-1-n)>0))) kj (congrArg Value.bool (decide_eq_true (by omega)))) ?_
  refine Qaa (.bool true) 25 rfl kj kj ?_
  refine Qaa (.pointer (some ⟨g,0,none⟩)) 26 rfl kj kj ?_
  refine Qaa (.pointer (some ⟨g,0,none⟩)) 27 rfl kj kj ?_
  refine Qaa (.pointer (some ⟨g,1,none⟩)) 28 rfl kj kj ?_
  have r1_1:=(Qab hg e1)
  refine Qaa (.int .u64 ((B:Nat):Int)) 29 rfl kj (Qah 129 _ g 1 136 _ (.int .u64 ((B:Nat):Int)) _ r1_1 rfl kj (QaQ [#[.int .i64 nx]] [#[.int .u64 ((B:Nat):Int)]] [ints .u8 (sk),ints .u8 (rk),#[.int .i64 ((next:Nat):Int)]] 1 kj 0 _ rfl) kj) ?_
  refine Qaa (.int .i64 (nx-1-n)) 30 rfl kj kj ?_
  refine Qaa (.int .i64 (((j:Nat):Int))) 31 rfl kj (Qad (u:=.int .i64 (IntKind.i64.wrap ((nx-1-n)-1))) kj (congrArg (Value.int .i64) (by rw [hj]; exact i64_w _ (by omega)))) ?_
  refine Qaa (.int .u64 (((B/2^j:Nat):Int))) 32 rfl kj (QaP .shr _ _ _ _ .u64 .i64 _ _ _ rfl kj kj (Qdk _ _ _ _ _ _ (by omega) (shrB B j hj2))) ?_
  refine Qaa (.int .u64 (((B/2^j%2:Nat):Int))) 33 rfl kj (Qad (u:=.int .u64 (bits .and .u64 (((B/2^j:Nat):Int)) (1))) kj (congrArg (Value.int .u64) (andB _ (Nat.lt_of_le_of_lt (Nat.div_le_self _ _) hB)))) ?_
  refine Qaa (.bool false) 34 rfl kj (Qad (u:=.bool ((((B/2^j%2:Nat):Int)==1))) kj (congrArg Value.bool (by rw [hc]; rfl))) ?_
  refine Qaa (.bool false) 35 rfl kj kj ?_
  refine Qaa (.bool false) 36 rfl kj kj ?_
  refine Qae ?_
  refine hK9 _ _ ?_
  refine cond_false kj ?_
  refine wp_skip ?_
  refine hK8 _ _ ?_
  refine wp_seq_k fun K10 hK10=>?_
  refine Qac ?_
  refine Qaa (.nilIface) 4 rfl kj kj ?_
  refine Qae ?_
  refine hK10 _ _ ?_
  refine wp_ret ?_
  repeat (first | with_reducible refine goR1 ?_ | with_reducible refine goR2 ?_)
  exact (show bodyPost _ _ _ .ret _ _ from ret1 (.nilIface) rfl (Qaq kj) ⟨rfl,x1⟩)
theorem check_G (g : Nat) (nx:Int) (B:Nat) (n:Int) (hnx:0≤nx∧nx≤4294967295) (hB:B<18446744073709551616) (sk rk:List Int) (next:Nat) (hsk:sk.length=32) (hrk:rk.length=32) (w:World) (hg:w.heap[g]? = some (.cells (cat [#[.int .i64 nx],#[.int .u64 ((B:Nat):Int)],ints .u8 (sk),ints .u8 (rk),#[.int .i64 ((next:Nat):Int)]]) 136)) (hn:0≤n∧n<4294967295) (hc:nx-1-n<0):Calls Tryd.prog 88 #[.pointer (some ⟨g,0,none⟩),.int .i64 n] w (Ret w (.nilIface)):=by
  refine enter 38 [(0,.pointer (some ⟨g,0,none⟩)),(1,.int .i64 n)] Tryd.func88 rfl rfl kj rfl ?_
  refine wp_seq_k fun K2 hK2=>?_
  refine Qac ?_
  refine Qaa (.nilIface) 4 rfl kj kj ?_
  refine Qae ?_
  refine hK2 _ _ ?_
  refine wp_seq_k fun K3 hK3=>?_
  refine wp_seq_k fun K4 hK4=>?_
  refine Qac ?_
  refine Qaa (.int .i64 n) 6 rfl kj kj ?_
  refine Qaa (.bool false) 7 rfl kj (Qad (u:=.bool (decide (n<0))) kj (congrArg Value.bool (decide_eq_false (by omega)))) ?_
  refine Qaa (.bool false) 8 rfl kj kj ?_
  refine Qaa (.int .i64 n) 9 rfl kj kj ?_
  refine Qaa (.bool false) 10 rfl kj (Qad (u:=.bool (decide (n≥4294967295))) kj (congrArg Value.bool (decide_eq_false (by omega)))) ?_
  refine Qaa (.bool false) 11 rfl kj kj ?_
  refine Qae ?_
  refine hK4 _ _ ?_
  refine cond_false kj ?_
  refine wp_skip ?_
  refine hK3 _ _ ?_
  refine wp_seq_k fun K5 hK5=>?_
  refine Qac ?_
  refine Qaa (.pointer (some ⟨g,0,none⟩)) 13 rfl kj kj ?_
  refine Qan (.int .i64 (nx-1)) 85 #[.pointer (some ⟨g,0,none⟩)] 14 rfl kj kj (highestC g nx B hnx hB sk rk next hsk hrk _ hg) fun W1 e1=>?_
  have x1:Ext w W1:=Ext.tr (Rely.Ext.refl w) e1
  refine Qaa (.int .i64 n) 15 rfl kj kj ?_
  refine Qaa (.int .i64 (nx-1-n)) 16 rfl kj (Qad (u:=.int .i64 (IntKind.i64.wrap ((nx-1)-n))) kj (congrArg (Value.int .i64) (i64_w _ (by omega)))) ?_
  refine Qaa (.int .i64 (nx-1-n)) 5 rfl kj kj ?_
  refine Qae ?_
  refine hK5 _ _ ?_
  refine wp_seq_k fun K6 hK6=>?_
  refine wp_seq_k fun K7 hK7=>?_
  refine Qac ?_
  refine Qaa (.int .i64 (nx-1-n)) 17 rfl kj kj ?_
  refine Qaa (.bool false) 18 rfl kj (Qad (u:=.bool (decide ((nx-1-n)>64))) kj (congrArg Value.bool (decide_eq_false (by omega)))) ?_
  refine Qae ?_
  refine hK7 _ _ ?_
  refine cond_false kj ?_
  refine wp_skip ?_
  refine hK6 _ _ ?_
  refine wp_seq_k fun K8 hK8=>?_
  refine wp_seq_k fun K9 hK9=>?_
  refine Qac ?_
  refine Qaa (.int .i64 (nx-1-n)) 20 rfl kj kj ?_
  refine Qaa (.bool false) 21 rfl kj (Qad (u:=.bool (((nx-1-n)==0))) kj (congrArg Value.bool (by simp; omega))) ?_
  refine Qaa (.bool false) 22 rfl kj kj ?_
  refine Qaa (.int .i64 (nx-1-n)) 23 rfl kj kj ?_
  refine Qaa (.bool false) 24 rfl kj (Qad (u:=.bool (decide ((nx-1-n)>0))) kj (congrArg Value.bool (decide_eq_false (by omega)))) ?_
  refine Qaa (.bool false) 25 rfl kj kj ?_
  refine Qa3 26 rfl kj ?_
  refine Qa3 27 rfl kj ?_
  refine Qa3 28 rfl kj ?_
  refine Qa3 29 rfl kj ?_
  refine Qa3 30 rfl kj ?_
  refine Qa3 31 rfl kj ?_
  refine Qa3 32 rfl kj ?_
  refine Qa3 33 rfl kj ?_
  refine Qa3 34 rfl kj ?_
  refine Qaa (.bool false) 35 rfl kj kj ?_
  refine Qaa (.bool false) 36 rfl kj kj ?_
  refine Qae ?_
  refine hK9 _ _ ?_
  refine cond_false kj ?_
  refine wp_skip ?_
  refine hK8 _ _ ?_
  refine wp_seq_k fun K10 hK10=>?_
  refine Qac ?_
  refine Qaa (.nilIface) 4 rfl kj kj ?_
  refine Qae ?_
  refine hK10 _ _ ?_
  refine wp_ret ?_
  repeat (first | with_reducible refine goR1 ?_ | with_reducible refine goR2 ?_)
  exact (show bodyPost _ _ _ .ret _ _ from ret1 (.nilIface) rfl (Qaq kj) ⟨rfl,x1⟩)
theorem checkC (g : Nat) (nx:Int) (B:Nat) (n:Int) (hnx:0≤nx∧nx≤4294967295) (hB:B<18446744073709551616) (sk rk:List Int) (next:Nat) (hsk:sk.length=32) (hrk:rk.length=32) (w:World) (hg:w.heap[g]? = some (.cells (cat [#[.int .i64 nx],#[.int .u64 ((B:Nat):Int)],ints .u8 (sk),ints .u8 (rk),#[.int .i64 ((next:Nat):Int)]]) 136)):Calls Tryd.prog 88 #[.pointer (some ⟨g,0,none⟩),.int .i64 n] w (Ret w (errV (chkW nx B n))):=by
  unfold chkW
  by_cases h1:n<0
  · rw [if_pos (.inl h1)]; exact check_A g nx B n hnx hB sk rk next hsk hrk w hg h1
  by_cases h2:4294967295≤n
  · rw [if_pos (.inr h2)]; exact check_B g nx B n hnx hB sk rk next hsk hrk w hg h2
  rw [if_neg (by omega)]
  have hn:0≤n∧n<4294967295:=by omega
  by_cases h3:64<nx-1-n
  · rw [if_pos h3]; exact check_C g nx B n hnx hB sk rk next hsk hrk w hg hn h3
  rw [if_neg h3]
  by_cases h4:nx-1-n=0
  · rw [if_pos (.inl h4)]; exact check_D g nx B n hnx hB sk rk next hsk hrk w hg hn h4
  by_cases h5:0<nx-1-n
  · obtain ⟨j,hj⟩:=Int.eq_ofNat_of_zero_le (show 0≤nx-1-n-1 by omega)
    have hj2:j<64:=by omega
    rw [hj,Int.toNat_natCast]
    have hm:B/2^j%2<2:=Nat.mod_lt _ (by decide)
    by_cases h6:B/2^j%2=1
    · rw [if_pos (.inr ⟨h5,h6⟩)]; exact check_E g nx B n hnx hB sk rk next hsk hrk w hg hn j hj hj2 h6
    · rw [if_neg (by rintro (h | h); exact h4 h; exact h6 h.2)]; exact check_F g nx B n hnx hB sk rk next hsk hrk w hg hn j hj hj2 (by omega)
  · rw [if_neg (by rintro (h | h); exact h4 h; exact h5 h.1)]; exact check_G g nx B n hnx hB sk rk next hsk hrk w hg hn (by omega)
theorem errV_ne {e : Int} (h:e≠0):errV e=.iface 60 (.int .i64 e):=by unfold errV; rw [if_neg h]
theorem errV_nil {e : Int} (h:e=0):errV e=.nilIface:=by unfold errV; rw [if_pos h]
theorem i64_neg (a b:Int) (h:-5000000000≤a∧a≤5000000000) (e:0-a=b):IntKind.i64.wrap (0-a)=b:=by rw [e]; exact i64_w _ (by omega)
theorem pow_lt (j : Nat) (h:j<64):2^j<18446744073709551616:=Nat.pow_lt_pow_right (by decide) h
theorem shl1 (j : Nat) (h:j<64):IntKind.u64.wrap (1*2^min ((j:Nat):Int).toNat IntKind.u64.bits)=((2^j:Nat):Int):=by
  have:=shlB 1 j
  rw [Nat.one_mul,Nat.mod_eq_of_lt (pow_lt j h)] at this
  exact this
theorem mark_F (g : Nat) (nx:Int) (B:Nat) (n:Int) (hnx:0≤nx∧nx≤4294967295) (hB:B<18446744073709551616) (sk rk:List Int) (next:Nat) (hsk:sk.length=32) (hrk:rk.length=32) (w:World) (hg:w.heap[g]? = some (.cells (cat [#[.int .i64 nx],#[.int .u64 ((B:Nat):Int)],ints .u8 (sk),ints .u8 (rk),#[.int .i64 ((next:Nat):Int)]]) 136)) (hc:chkW nx B n=0) (j:Nat) (hj:nx-1-n-1=(j:Int)) (hj2:j<64):Calls Tryd.prog 89 #[.pointer (some ⟨g,0,none⟩),.int .i64 n] w (fun e w'=>e=.returned .nilIface∧ExtB g w w'∧w'.heap[g]? = some (.cells (cat [#[.int .i64 nx],#[.int .u64 ((B|||2^j:Nat):Int)],ints .u8 (sk),ints .u8 (rk),#[.int .i64 ((next:Nat):Int)]]) 136)):=by
  refine enter 48 [(0,.pointer (some ⟨g,0,none⟩)),(1,.int .i64 n)] Tryd.func89 rfl rfl kj rfl ?_
  refine wp_seq_k fun K2 hK2=>?_
  refine Qac ?_
  refine Qaa (.nilIface) 4 rfl kj kj ?_
  refine Qae ?_
  refine hK2 _ _ ?_
  refine wp_seq_k fun K3 hK3=>?_
  refine wp_seq_k fun K4 hK4=>?_
  refine Qac ?_
  refine Qaa (.pointer (some ⟨g,0,none⟩)) 7 rfl kj kj ?_
  refine Qaa (.int .i64 n) 8 rfl kj kj ?_
  refine Qan (.nilIface) 88 #[.pointer (some ⟨g,0,none⟩),.int .i64 n] 9 rfl kj kj (errV_nil hc▸checkC g nx B n hnx hB sk rk next hsk hrk _ hg) fun W1 e1=>?_
  have x1:ExtB g w W1:=ExtB.ext (ExtB.refl g w) e1
  refine Qaa (.nilIface) 5 rfl kj kj ?_
  refine Qae ?_
  refine hK4 _ _ ?_
  refine wp_seq_k fun K5 hK5=>?_
  refine Qac ?_
  refine Qaa (.nilIface) 10 rfl kj kj ?_
  refine Qaa (.bool false) 11 rfl kj kj ?_
  refine Qae ?_
  refine hK5 _ _ ?_
  refine cond_false kj ?_
  refine wp_skip ?_
  refine hK3 _ _ ?_
  refine wp_seq_k fun K6 hK6=>?_
  refine Qac ?_
  refine Qaa (.int .i64 n) 13 rfl kj kj ?_
  refine Qaa (.pointer (some ⟨g,0,none⟩)) 14 rfl kj kj ?_
  have r1_1:=(Qab hg e1)
  refine Qan (.int .i64 (nx-1)) 85 #[.pointer (some ⟨g,0,none⟩)] 15 rfl kj kj (highestC g nx B hnx hB sk rk next hsk hrk _ r1_1) fun W2 e2=>?_
  have x2:ExtB g w W2:=ExtB.ext x1 e2
  refine Qaa (.int .i64 (n-(nx-1))) 16 rfl kj (Qad (u:=.int .i64 (IntKind.i64.wrap (n-(nx-1)))) kj (congrArg (Value.int .i64) (i64_w _ (by omega)))) ?_
  refine Qaa (.int .i64 (n-(nx-1))) 6 rfl kj kj ?_
  refine Qae ?_
  refine hK6 _ _ ?_
  refine wp_seq_k fun K7 hK7=>?_
  refine wp_seq_k fun K8 hK8=>?_
  refine Qac ?_
  refine Qaa (.int .i64 (n-(nx-1))) 17 rfl kj kj ?_
  refine Qaa (.bool true) 18 rfl kj (Qad (u:=.bool (decide ((n-(nx-1))<0))) kj (congrArg Value.bool (decide_eq_true (by omega)))) ?_
  refine Qae ?_
  refine hK8 _ _ ?_
  refine cond_true kj ?_
  refine wp_seq_k fun K9 hK9=>?_
  refine QaX 11 [⟨none,[(0,none)]⟩,⟨none,[(19,some 0)]⟩,⟨none,[(20,some 1)]⟩,⟨none,[(21,some 2)]⟩,⟨none,[(6,none)]⟩,⟨none,[(23,some 4)]⟩,⟨none,[(24,some 5)]⟩,⟨none,[(25,some 6)]⟩,⟨none,[(22,some 3),(26,some 7)]⟩,⟨none,[(19,some 0)]⟩,⟨none,[(28,some 9)]⟩] kj kj fun F hF=>?_
  refine Qam (.pointer (some ⟨g,0,none⟩)) kj kj (fun W=>by kernel_rfl) ?_
  refine Qam (.pointer (some ⟨g,0,none⟩)) kj kj (fun W=>by kernel_rfl) ?_
  refine Qam (.pointer (some ⟨g,1,none⟩)) kj kj (fun W=>by kernel_rfl) ?_
  have r1_2:=(Qab r1_1 e2)
  refine QaN (.int .u64 ((B:Nat):Int)) kj kj (fun W hR=>(Qah 129 _ g 1 136 _ (.int .u64 ((B:Nat):Int)) _ (Qab (Qab r1_2 (Qak _)) hR) rfl kj (QaQ [#[.int .i64 nx]] [#[.int .u64 ((B:Nat):Int)]] [ints .u8 (sk),ints .u8 (rk),#[.int .i64 ((next:Nat):Int)]] 1 kj 0 _ rfl) kj)) ?_
  refine Qam (.int .i64 (n-(nx-1))) kj kj (fun W=>by kernel_rfl) ?_
  refine Qam (.int .i64 (nx-1-n)) kj kj (fun W=>(Qad (u:=.int .i64 (IntKind.i64.wrap (0-(n-(nx-1))))) kj (congrArg (Value.int .i64) (i64_neg _ _ (by omega) (by omega))))) ?_
  refine Qam (.int .i64 (((j:Nat):Int))) kj kj (fun W=>(Qad (u:=.int .i64 (IntKind.i64.wrap ((nx-1-n)-1))) kj (congrArg (Value.int .i64) (by rw [hj]; exact i64_w _ (by omega))))) ?_
  refine Qam (.int .u64 (((2^j:Nat):Int))) kj kj (fun W=>(QaP .shl _ _ _ _ .u64 .i64 _ _ _ rfl kj kj (Qcv _ _ _ _ _ _ (by omega) (shl1 j hj2)))) ?_
  refine Qam (.int .u64 (((B|||2^j:Nat):Int))) kj kj (fun W=>(Qad (u:=.int .u64 (bits .or .u64 (((B:Nat):Int)) (((2^j:Nat):Int)))) kj (congrArg (Value.int .u64) (orB _ _ hB (pow_lt j hj2))))) ?_
  refine Qam (.pointer (some ⟨g,0,none⟩)) kj kj (fun W=>by kernel_rfl) ?_
  refine Qam (.pointer (some ⟨g,1,none⟩)) kj kj (fun W=>by kernel_rfl) ?_
  refine Qbf (hF _ kj fun W3 e3=>?_)
  simp only [ups,up,Kn.val,List.take_succ_cons,List.take_zero,List.drop_succ_cons,List.drop_zero,List.nil_append,List.cons_append]
  clear hF
  have x3:ExtB g w W3:=ExtB.ext x2 e3
  have r1_3:=(Qab r1_2 e3)
  refine Qal g _ (cat [#[.int .i64 nx],#[.int .u64 (((B|||2^j:Nat):Int))],ints .u8 (sk),ints .u8 (rk),#[.int .i64 ((next:Nat):Int)]]) 136 r1_3 rfl kj (run_storeQ 129 _ _ g 1 136 [#[.int .i64 nx]] [ints .u8 (sk),ints .u8 (rk),#[.int .i64 ((next:Nat):Int)]] _ (.int .u64 (((B|||2^j:Nat):Int))) r1_3 rfl kj kj kj kj rfl rfl) fun W4 p4 r1_4=>?_
  have x4:ExtB g w W4:=ExtB.puts x3 p4
  refine Qae ?_
  refine hK9 _ _ ?_
  refine wp_seq_k fun K10 hK10=>?_
  refine Qac ?_
  refine Qaa (.nilIface) 4 rfl kj kj ?_
  refine Qae ?_
  refine hK10 _ _ ?_
  refine wp_ret ?_
  repeat (first | with_reducible refine goR1 ?_ | with_reducible refine goR2 ?_)
  exact (show bodyPost _ _ _ .ret _ _ from ret1 (.nilIface) rfl (Qaq kj) ⟨rfl,x4,r1_4⟩)
theorem mark_G (g : Nat) (nx:Int) (B:Nat) (n:Int) (hnx:0≤nx∧nx≤4294967295) (hB:B<18446744073709551616) (sk rk:List Int) (next:Nat) (hsk:sk.length=32) (hrk:rk.length=32) (w:World) (hg:w.heap[g]? = some (.cells (cat [#[.int .i64 nx],#[.int .u64 ((B:Nat):Int)],ints .u8 (sk),ints .u8 (rk),#[.int .i64 ((next:Nat):Int)]]) 136)) (hc:chkW nx B n=0) (hn:0≤n∧n<4294967295) (a:Nat) (ha:n-(nx-1)=(a:Int)) (ha1:1≤a):Calls Tryd.prog 89 #[.pointer (some ⟨g,0,none⟩),.int .i64 n] w (fun e w'=>e=.returned .nilIface∧ExtB g w w'∧w'.heap[g]? = some (.cells (cat [#[.int .i64 (n+1)],#[.int .u64 ((B*2^a%18446744073709551616|||1*2^(a-1)%18446744073709551616:Nat):Int)],ints .u8 (sk),ints .u8 (rk),#[.int .i64 ((next:Nat):Int)]]) 136)):=by
  refine enter 48 [(0,.pointer (some ⟨g,0,none⟩)),(1,.int .i64 n)] Tryd.func89 rfl rfl kj rfl ?_
  refine wp_seq_k fun K2 hK2=>?_
  refine Qac ?_
  refine Qaa (.nilIface) 4 rfl kj kj ?_
  refine Qae ?_
  refine hK2 _ _ ?_
  refine wp_seq_k fun K3 hK3=>?_
  refine wp_seq_k fun K4 hK4=>?_
  refine Qac ?_
  refine Qaa (.pointer (some ⟨g,0,none⟩)) 7 rfl kj kj ?_
  refine Qaa (.int .i64 n) 8 rfl kj kj ?_
  refine Qan (.nilIface) 88 #[.pointer (some ⟨g,0,none⟩),.int .i64 n] 9 rfl kj kj (errV_nil hc▸checkC g nx B n hnx hB sk rk next hsk hrk _ hg) fun W1 e1=>?_
  have x1:ExtB g w W1:=ExtB.ext (ExtB.refl g w) e1
  refine Qaa (.nilIface) 5 rfl kj kj ?_
  refine Qae ?_
  refine hK4 _ _ ?_
  refine wp_seq_k fun K5 hK5=>?_
  refine Qac ?_
  refine Qaa (.nilIface) 10 rfl kj kj ?_
  refine Qaa (.bool false) 11 rfl kj kj ?_
  refine Qae ?_
  refine hK5 _ _ ?_
  refine cond_false kj ?_
  refine wp_skip ?_
  refine hK3 _ _ ?_
  refine wp_seq_k fun K6 hK6=>?_
  refine Qac ?_
  refine Qaa (.int .i64 n) 13 rfl kj kj ?_
  refine Qaa (.pointer (some ⟨g,0,none⟩)) 14 rfl kj kj ?_
  have r1_1:=(Qab hg e1)
  refine Qan (.int .i64 (nx-1)) 85 #[.pointer (some ⟨g,0,none⟩)] 15 rfl kj kj (highestC g nx B hnx hB sk rk next hsk hrk _ r1_1) fun W2 e2=>?_
  have x2:ExtB g w W2:=ExtB.ext x1 e2
  refine Qaa (.int .i64 (((a:Nat):Int))) 16 rfl kj (Qad (u:=.int .i64 (IntKind.i64.wrap (n-(nx-1)))) kj (congrArg (Value.int .i64) (by rw [ha]; exact i64_w _ (by omega)))) ?_
  refine Qaa (.int .i64 (((a:Nat):Int))) 6 rfl kj kj ?_
  refine Qae ?_
  refine hK6 _ _ ?_
  refine wp_seq_k fun K7 hK7=>?_
  refine wp_seq_k fun K8 hK8=>?_
  refine Qac ?_
  refine Qaa (.int .i64 (((a:Nat):Int))) 17 rfl kj kj ?_
  refine Qaa (.bool false) 18 rfl kj (Qad (u:=.bool (decide (((a:Nat):Int)<0))) kj (congrArg Value.bool (decide_eq_false (by omega)))) ?_
  refine Qae ?_
  refine hK8 _ _ ?_
  refine cond_false kj ?_
  refine wp_skip ?_
  refine hK7 _ _ ?_
  refine wp_seq_k fun K9 hK9=>?_
  refine QaX 13 [⟨none,[(0,none)]⟩,⟨none,[(0,none)]⟩,⟨none,[(31,some 1)]⟩,⟨none,[(32,some 2)]⟩,⟨none,[(33,some 3)]⟩,⟨none,[(6,none)]⟩,⟨none,[(34,some 4),(35,some 5)]⟩,⟨none,[(6,none)]⟩,⟨none,[(37,some 7)]⟩,⟨none,[(38,some 8)]⟩,⟨none,[(36,some 6),(39,some 9)]⟩,⟨none,[(30,some 0)]⟩,⟨none,[(41,some 11)]⟩] kj kj fun F hF=>?_
  refine Qam (.pointer (some ⟨g,0,none⟩)) kj kj (fun W=>by kernel_rfl) ?_
  refine Qam (.pointer (some ⟨g,0,none⟩)) kj kj (fun W=>by kernel_rfl) ?_
  refine Qam (.pointer (some ⟨g,0,none⟩)) kj kj (fun W=>by kernel_rfl) ?_
  refine Qam (.pointer (some ⟨g,1,none⟩)) kj kj (fun W=>by kernel_rfl) ?_
  have r1_2:=(Qab r1_1 e2)
  refine QaN (.int .u64 ((B:Nat):Int)) kj kj (fun W hR=>(Qah 129 _ g 1 136 _ (.int .u64 ((B:Nat):Int)) _ (Qab (Qab r1_2 (Qak _)) hR) rfl kj (QaQ [#[.int .i64 nx]] [#[.int .u64 ((B:Nat):Int)]] [ints .u8 (sk),ints .u8 (rk),#[.int .i64 ((next:Nat):Int)]] 1 kj 0 _ rfl) kj)) ?_
  refine Qam (.int .i64 (((a:Nat):Int))) kj kj (fun W=>by kernel_rfl) ?_
  refine Qam (.int .u64 (((B*2^a%18446744073709551616:Nat):Int))) kj kj (fun W=>(QaP .shl _ _ _ _ .u64 .i64 _ _ _ rfl kj kj (Qcv _ _ _ _ _ _ (by omega) (shlB B a)))) ?_
  refine Qam (.int .i64 (((a:Nat):Int))) kj kj (fun W=>by kernel_rfl) ?_
  refine Qam (.int .i64 (((a-1:Nat):Int))) kj kj (fun W=>(Qad (u:=.int .i64 (IntKind.i64.wrap (((a:Nat):Int)-1))) kj (congrArg (Value.int .i64) (by rw [show ((a-1:Nat):Int)=(a:Int)-1 by omega]; exact i64_w _ (by omega))))) ?_
  refine Qam (.int .u64 (((1*2^(a-1)%18446744073709551616:Nat):Int))) kj kj (fun W=>(QaP .shl _ _ _ _ .u64 .i64 _ _ _ rfl kj kj (Qcv _ _ _ _ _ _ (by omega) (shlB 1 (a-1))))) ?_
  refine Qam (.int .u64 (((B*2^a%18446744073709551616|||1*2^(a-1)%18446744073709551616:Nat):Int))) kj kj (fun W=>(Qad (u:=.int .u64 (bits .or .u64 (((B*2^a%18446744073709551616:Nat):Int)) (((1*2^(a-1)%18446744073709551616:Nat):Int)))) kj (congrArg (Value.int .u64) (orB _ _ (Nat.mod_lt _ (by decide)) (Nat.mod_lt _ (by decide)))))) ?_
  refine Qam (.pointer (some ⟨g,0,none⟩)) kj kj (fun W=>by kernel_rfl) ?_
  refine Qam (.pointer (some ⟨g,1,none⟩)) kj kj (fun W=>by kernel_rfl) ?_
  refine Qbf (hF _ kj fun W3 e3=>?_)
  simp only [ups,up,Kn.val,List.take_succ_cons,List.take_zero,List.drop_succ_cons,List.drop_zero,List.nil_append,List.cons_append]
  clear hF
  have x3:ExtB g w W3:=ExtB.ext x2 e3
  have r1_3:=(Qab r1_2 e3)
  refine Qal g _ (cat [#[.int .i64 nx],#[.int .u64 (((B*2^a%18446744073709551616|||1*2^(a-1)%18446744073709551616:Nat):Int))],ints .u8 (sk),ints .u8 (rk),#[.int .i64 ((next:Nat):Int)]]) 136 r1_3 rfl kj (run_storeQ 129 _ _ g 1 136 [#[.int .i64 nx]] [ints .u8 (sk),ints .u8 (rk),#[.int .i64 ((next:Nat):Int)]] _ (.int .u64 (((B*2^a%18446744073709551616|||1*2^(a-1)%18446744073709551616:Nat):Int))) r1_3 rfl kj kj kj kj rfl rfl) fun W4 p4 r1_4=>?_
  have x4:ExtB g w W4:=ExtB.puts x3 p4
  refine Qae ?_
  refine hK9 _ _ ?_
  refine wp_seq_k fun K10 hK10=>?_
  refine Qac ?_
  refine Qaa (.pointer (some ⟨g,0,none⟩)) 43 rfl kj kj ?_
  refine Qaa (.int .i64 n) 44 rfl kj kj ?_
  refine Qaa (.int .i64 (n+1)) 45 rfl kj (Qad (u:=.int .i64 (IntKind.i64.wrap (n+1))) kj (congrArg (Value.int .i64) (i64_w _ (by omega)))) ?_
  refine Qaa (.pointer (some ⟨g,0,none⟩)) 46 rfl kj kj ?_
  refine Qaa (.pointer (some ⟨g,0,none⟩)) 47 rfl kj kj ?_
  refine Qal g _ (cat [#[.int .i64 (n+1)],#[.int .u64 (((B*2^a%18446744073709551616|||1*2^(a-1)%18446744073709551616:Nat):Int))],ints .u8 (sk),ints .u8 (rk),#[.int .i64 ((next:Nat):Int)]]) 136 r1_4 rfl kj (run_storeQ 3 _ _ g 0 136 [] [#[.int .u64 (((B*2^a%18446744073709551616|||1*2^(a-1)%18446744073709551616:Nat):Int))],ints .u8 (sk),ints .u8 (rk),#[.int .i64 ((next:Nat):Int)]] _ (.int .i64 (n+1)) r1_4 rfl kj kj kj kj rfl rfl) fun W5 p5 r1_5=>?_
  have x5:ExtB g w W5:=ExtB.puts x4 p5
  refine Qae ?_
  refine hK10 _ _ ?_
  refine wp_seq_k fun K11 hK11=>?_
  refine Qac ?_
  refine Qaa (.nilIface) 4 rfl kj kj ?_
  refine Qae ?_
  refine hK11 _ _ ?_
  refine wp_ret ?_
  repeat (first | with_reducible refine goR1 ?_ | with_reducible refine goR2 ?_)
  exact (show bodyPost _ _ _ .ret _ _ from ret1 (.nilIface) rfl (Qaq kj) ⟨rfl,x5,r1_5⟩)
end Go.Proofs.YtoiendjhplbjjaaDoor.Ll
end
section
namespace Go.Proofs.YtoiendjhplbjjaaDoor.Ll
open Go Go.RowKit
open Rely Auto Own Sha Sha
def hiT (ts : List Int):Int:=ts.foldl (fun a x=>if x>a then x else a) (-1)
theorem Qew (ts : List Int) (m:Int):hiT (ts++[m])=if m>hiT ts then m else hiT ts:=by unfold hiT; rw [List.foldl_append]; rfl
theorem Qj3 (ts : List Int):∀ m∈ts,m≤hiT ts:=by
  suffices h:∀ (r:List Int),(∀ m∈r.reverse,m≤hiT r.reverse) by have:=h ts.reverse; rwa [List.reverse_reverse] at this
  intro r
  induction r with
  | nil=>intro m h; cases h
  | cons x r ih =>
    intro m h
    rw [List.reverse_cons] at h ⊢
    rw [Qew]
    rcases List.mem_append.1 h with h | h
    · have:=ih m h; split <;> omega
    · have:m=x:=by simpa using h
      subst this; split <;> omega
theorem QgN (ts : List Int):hiT ts=-1∨hiT ts∈ts:=by
  suffices h:∀ (r:List Int),(hiT r.reverse=-1∨hiT r.reverse∈r.reverse) by have:=h ts.reverse; rwa [List.reverse_reverse] at this
  intro r
  induction r with
  | nil=>exact .inl rfl
  | cons x r ih =>
    rw [List.reverse_cons,Qew]
    split
    · exact .inr (by simp)
    · rcases ih with h | h
      · exact .inl h
      · exact .inr (List.mem_append_left _ h)
def chkT (ts : List Int) (n:Int):Int:=if n<0∨4294967294<n then 8 else if n<hiT ts-64 then 11 else if n∈ts then 7 else 0
structure WInv (nx : Int) (B : Nat) (ts : List Int) : Prop where
  hnx:0≤nx∧nx≤4294967295
  hB:B<18446744073709551616
  hhi:hiT ts=nx-1
  hrng:∀ m∈ts,0≤m∧m<4294967295
  hbits:∀ k:Nat,k<64→0≤nx-2-k→(B.testBit k=true↔(nx-2-k)∈ts)
theorem Qik : WInv 0 0 []:=⟨by omega,by decide,rfl,(fun m h=>by cases h),(fun k hk h=>by omega)⟩
theorem Qj8 (B k:Nat):B/2^k%2=1↔B.testBit k=true:=by rw [Nat.testBit_eq_decide_div_mod_eq]; simp
theorem QgU {nx : Int} {B:Nat} {ts:List Int} (h:WInv nx B ts) (n:Int):chkW nx B n=chkT ts n:=by
  have hh:=h.hhi
  unfold chkW chkT
  by_cases h1:n<0∨4294967295≤n
  · rw [if_pos h1,if_pos (by omega)]
  · rw [if_neg h1,if_neg (show ¬ (n<0∨4294967294<n) by omega),hh]
    by_cases h2:64<nx-1-n
    · rw [if_pos h2,if_pos (by omega)]
    · rw [if_neg h2,if_neg (show ¬ n<nx-1-64 by omega)]
      by_cases h3:n∈ts
      · have hle:=Qj3 ts n h3
        rw [if_pos h3,if_pos ?_]
        by_cases h4:nx-1-n=0
        · exact .inl h4
        · refine .inr ⟨by omega,?_⟩
          obtain ⟨j,hj⟩:=Int.eq_ofNat_of_zero_le (show 0≤nx-1-n-1 by omega)
          rw [hj,Int.toNat_natCast,Qj8,h.hbits j (by omega) (by omega),show nx-2-(j:Int)=n by omega]
          exact h3
      · rw [if_neg h3,if_neg ?_]
        rintro (h4 | ⟨h4,h5⟩)
        · rcases QgN ts with h6 | h6
          · omega
          · exact h3 (by rw [show n=hiT ts by omega]; exact h6)
        · obtain ⟨j,hj⟩:=Int.eq_ofNat_of_zero_le (show 0≤nx-1-n-1 by omega)
          rw [hj,Int.toNat_natCast,Qj8,h.hbits j (by omega) (by omega),show nx-2-(j:Int)=n by omega] at h5
          exact h3 h5
theorem Qex {ts : List Int} {n:Int} (h:chkT ts n=0):0≤n∧n<4294967295∧hiT ts-64≤n∧n∉ts:=by
  unfold chkT at h
  split at h
  · omega
  · split at h
    · omega
    · split at h
      · omega
      · exact ⟨by omega,by omega,by omega,by assumption⟩
theorem QkE (a b:Nat) (ha:a<18446744073709551616) (hb:b<18446744073709551616):a|||b<18446744073709551616:=Nat.or_lt_two_pow (n:=64) ha hb
theorem Qll {nx : Int} {B:Nat} {ts:List Int} (h:WInv nx B ts) {n:Int} (hc:chkT ts n=0) (j:Nat) (hj:nx-1-n-1=(j:Int)) (hj2:j<64):WInv nx (B|||2^j) (ts++[n]):=by
  obtain ⟨h0,h1,h2,h3⟩:=Qex hc
  have hh:=h.hhi
  refine ⟨h.hnx,QkE _ _ h.hB (pow_lt j hj2),by rw [Qew,if_neg (by omega)]; exact hh,fun m hm=>?_,fun k hk hp=>?_⟩
  · rcases List.mem_append.1 hm with hm | hm
    · exact h.hrng m hm
    · have:m=n:=by simpa using hm
      omega
  · rw [Nat.testBit_or,Nat.testBit_two_pow,Bool.or_eq_true,h.hbits k hk hp,List.mem_append]
    constructor
    · rintro (e | e)
      · exact .inl e
      · have:j=k:=by simpa using e
        exact .inr (by simp; omega)
    · rintro (e | e)
      · exact .inl e
      · have:nx-2-(k:Int)=n:=by simpa using e
        exact .inr (by simp; omega)
theorem Qlk {nx : Int} {B:Nat} {ts:List Int} (h:WInv nx B ts) {n:Int} (hc:chkT ts n=0) (a:Nat) (ha:n-(nx-1)=(a:Int)) (ha1:1≤a) :
    WInv (n+1) (B*2^a%18446744073709551616|||1*2^(a-1)%18446744073709551616) (ts++[n]):=by
  obtain ⟨h0,h1,h2,h3⟩:=Qex hc
  have hh:=h.hhi
  have hn:=h.hnx
  refine ⟨by omega,QkE _ _ (Nat.mod_lt _ (by decide)) (Nat.mod_lt _ (by decide)),by rw [Qew,if_pos (by omega)]; omega,fun m hm=>?_,fun k hk hp=>?_⟩
  · rcases List.mem_append.1 hm with hm | hm
    · exact h.hrng m hm
    · have:m=n:=by simpa using hm
      omega
  · have e64:(18446744073709551616:Nat)=2^64:=by decide
    rw [Nat.testBit_or,e64,Nat.testBit_mod_two_pow,Nat.testBit_mod_two_pow,Nat.one_mul,Nat.testBit_two_pow,Nat.mul_comm B,Nat.testBit_two_pow_mul,List.mem_append]
    simp only [hk,decide_true,Bool.true_and,Bool.or_eq_true,Bool.and_eq_true,decide_eq_true_eq,List.mem_singleton,ge_iff_le]
    have hne:¬ (n+1-2-(k:Int)=n):=by omega
    constructor
    · rintro (⟨e1,e2⟩ | e)
      · left
        rw [h.hbits (k-a) (by omega) (by omega)] at e2
        rwa [show n+1-2-(k:Int)=nx-2-((k-a:Nat):Int) by omega]
      · left
        have:n+1-2-(k:Int)=hiT ts:=by omega
        rw [this]
        exact (QgN ts).resolve_left (by omega)
    · rintro (e | e)
      · have hle:=Qj3 ts _ e
        by_cases hk2:a≤k
        · left
          refine ⟨hk2,?_⟩
          rw [h.hbits (k-a) (by omega) (by omega)]
          rwa [show nx-2-((k-a:Nat):Int)=n+1-2-(k:Int) by omega]
        · right; omega
      · exact absurd e hne
end Go.Proofs.YtoiendjhplbjjaaDoor.Ll
end
section
namespace Go.Proofs.YtoiendjhplbjjaaDoor.Ll
open Go Go.RowKit
open Rely Auto Own Sha Sha
open Cha Ae
theorem QgS (pl : Nat→Option (Nat×Nat)):∀ (ps:List (Nat×Nat×Value×Array Value)) (pre:List (Array Value)) (rest:Array Value) (off:Nat),(cat pre).size=off→okPl pl off ps→tot ps≤rest.size →
    Instr.fill pl (cat pre++rest) (ps.map fun x=>(x.1,x.2.2.1))=some (cat (pre++ps.map fun x=>x.2.2.2)++rest.extract (tot ps) rest.size)
  | [],pre,rest,off,_,_,ht=>by
    simp [Instr.fill,tot]
  | (i,n,v,p)::r,pre,rest,off,hoff,⟨h1,h2,h3,h4⟩,ht=>by
    subst h2
    have hn:n≤rest.size:=by rw [tot] at ht; omega
    simp only [List.map_cons,Instr.fill,h1,h3]
    rw [if_neg (by simp; omega)]
    have hz:(v.cells.zipIdx.foldl (fun cs (x:Value×Nat)=>cs.setIfInBounds (off+x.2) x.1) (cat pre++rest))=cat (pre++[v.cells])++rest.extract n rest.size:=by
      have e1:v.cells.zipIdx=(v.cells.toList.zipIdx 0).toArray:=by
        apply Array.ext'
        simp
      rw [e1,List.foldl_toArray',Qeo]
      · have e2:rest=rest.extract 0 n++rest.extract n rest.size:=by
          rw [Array.extract_append_extract,Nat.max_eq_right hn]
          simp
        have e3:(cat pre++rest)=cat (pre++([rest.extract 0 n]++[rest.extract n rest.size])):=by
          rw [QaE]
          congr 1
        rw [Nat.add_zero,e3]
        have:=QeY pre [rest.extract 0 n] [v.cells] [rest.extract n rest.size] off hoff (by show v.cells.size=(rest.extract 0 n).size; simp; omega)
        rw [show (cat [v.cells]).toList=v.cells.toList from rfl] at this
        rw [this,←List.append_assoc,QaE (pre++[v.cells])]
        rfl
      · rfl
    have key:=QgS pl r (pre++[v.cells]) (rest.extract n rest.size) (off+n) (by rw [QaE]; show (cat pre++v.cells).size=_; simp; omega) h4 (by rw [tot] at ht; simp; omega)
    rw [←hz] at key
    rw [List.append_assoc] at key
    rw [key,tot]
    congr 2
    rw [Array.extract_extract]
    simp
    congr 1
    rw [tot] at ht
    omega
theorem Qhr {P : Program} {ρ:Operand→Value} {o:Oper} {w:World} (t:TypeId) (parts:Array (Nat×Operand)) (z:Value) (places:Array (Nat×Nat)) (off:Nat) (pre:List (Array Value)) (rest0:Array Value) (ps:List (Nat×Nat×Value×Array Value)) (rest:List (Array Value))
    (ho:o.op=.build t parts) (hv:(parts.map fun (i,x)=>(i,ρ x)).toList=ps.map fun x=>(x.1,x.2.2.1)) (hoff:(cat pre).size=off) (hp:okPl (fun i=>places[i]?) off ps) (hz0:z.cells=cat pre++rest0) (ht:tot ps≤rest0.size) (hr:rest0.extract (tot ps) rest0.size=cat rest)
    (hz:(zeroValue t).run P w=.ok z w) (hu:P.underlying t=some (.struct (P.fieldsOf t))) (hm:((P.fieldsOf t).mapM fun f=>do pure (f.offset,←sizeOf f.type):Sem (Array (Nat×Nat))).run P w=.ok places w) :
    (execOp ρ o).run P w=.ok (.value (.agg (cat (pre++(ps.map fun x=>x.2.2.2)++rest)))) w:=by
  have:=QgS (fun i=>places[i]?) ps pre rest0 off hoff hp ht
  rw [←hz0,hr,←QaE] at this
  rw [←hv] at this
  have hB:(Instr.build t (parts.map fun (i,x)=>(i,ρ x))).run P w=.ok (.agg (cat (pre++(ps.map fun x=>x.2.2.2)++rest))) w:=by
    unfold Instr.build
    rw [Sem.run_bind,hz,Result.andThen_ok,Sem.run_bind,run_underlying hu w,Result.andThen_ok]
    show (Sem.run P _ w)=_
    rw [Sem.run_bind,hm,Result.andThen_ok]
    simp only [this]
    rfl
  unfold execOp
  simp only [ho,Sem.run_bind,hB,Result.andThen_ok,Sem.run_pure]
theorem shrN (a : Nat) (s:Int) (c:Nat) (h:(2:Int)^min s.toNat IntKind.i64.bits=(c:Int)):((a:Nat):Int).fdiv (2^min s.toNat IntKind.i64.bits)=((a/c:Nat):Int):=by
  rw [h,Int.fdiv_eq_ediv_of_nonneg _ (Int.natCast_nonneg _),Int.natCast_ediv]
theorem Qiz (a : Nat):IntKind.u8.wrap ((a:Nat):Int)=((a%256:Nat):Int):=by
  have h3:∀ z:Int,IntKind.u8.wrap z=z%256:=fun _=>rfl
  rw [h3]; omega
def hdV (n : Nat):List Int:=[((n/16777216%256:Nat):Int),((n/65536%256:Nat):Int),((n/256%256:Nat):Int),((n%256:Nat):Int)]
theorem QbZ (n : Nat):(hdV n).length=4:=rfl
theorem QcC (n : Nat):Qai (hdV n):=fun x hx=>by
  unfold hdV at hx
  simp only [List.mem_cons,List.not_mem_nil,or_false] at hx
  rcases hx with rfl | rfl | rfl | rfl <;> omega
def nonV (n : Nat):List Int:=[0,0,0,0]++by8 ((n:Nat):Int)
theorem Qd1 (n : Nat):(nonV n).length=12:=by unfold nonV; rw [List.length_append,QbB]; rfl
def msgV (k : List Int) (n:Nat) (text:List Int):List Int:=hdV n++QeG k (nonV n) (hdV n) text
theorem QgF (k : List Int) (n:Nat) (text:List Int):(msgV k n text).length=text.length+20:=by unfold msgV; rw [List.length_append,Qe2,QbZ]; omega
theorem QeW (k : List Int) (n:Nat) (text:List Int):Qai (msgV k n text):=QaR (QcC _) (QfZ _ _ _ _)
theorem QhY (n0 n:Nat) (w:World) (h0:n0≤w.heap.size):Calls Tryd.prog 86 #[.int .i64 ((n:Nat):Int)] w (QbD w (OwnN .u8 5 n0 (nonV n))) :=
  (QkH n w).mono fun e W' hg=>by
    obtain ⟨v',e1,e2,e3⟩:=hg
    exact ⟨v',e1,e2,e3.base h0⟩
theorem Qct (a b c:Nat) (hb:b<256) (hc:a*256+b=c) (hs:c<4611686018427387904):bits .or .i64 ((a*256:Nat):Int) ((b:Nat):Int)=((c:Nat):Int):=by
  have h:bits .or .i64 ((a*256:Nat):Int) ((b:Nat):Int)=IntKind.i64.wrap (((BitVec.ofInt 64 ((a*256:Nat):Int))|||(BitVec.ofInt 64 ((b:Nat):Int))).toNat:Int):=rfl
  rw [h,BitVec.toNat_or,BitVec.toNat_ofInt,BitVec.toNat_ofInt]
  have e1:(((a*256:Nat):Int)%((2^64:Nat):Int)).toNat=2^8*a:=by omega
  have e2:(((b:Nat):Int)%((2^64:Nat):Int)).toNat=b:=by omega
  rw [e1,e2,←Nat.two_pow_add_eq_or_of_lt (i:=8) (by omega) a,show 2^8*a+b=c by omega]
  exact IntWalk.i64_in _ (by omega)
theorem QbE (a : Nat) (h:a*256<4611686018427387904):IntKind.i64.wrap (((a:Nat):Int)*2^min (8:Int).toNat IntKind.i64.bits)=((a*256:Nat):Int):=by
  rw [show (2:Int)^min (8:Int).toNat IntKind.i64.bits=256 by decide]
  exact (IntWalk.i64_in _ (by omega)).trans (by omega)
theorem rdKT {k : IntKind} {B n c l:Nat} {ys tk:List Int} {a:Option Addr} {W:World} (et:ys.take l=tk) (h:RdK k B ys (.slice a n c) W) (hl:l≤ys.length):RdK k B tk (.slice a l c) W:=et▸QbC h l hl
theorem rdKD {k : IntKind} {B n c l:Nat} {ys tk:List Int} {a:Option Addr} {W:World} (et:ys.drop l=tk) (h:RdK k B ys (.slice a n c) W) (hl:l≤ys.length):RdK k B tk (.slice (QbN a c l) (n-l) (c-l)) W:=et▸Qc1 h l hl
section
variable {ds : List Deferred} {P : Program} {ops : Array Oper} {Q : Exit → Act → World → Prop} {rest : List Oper} {o : Oper} {N : Nat} {L : Env} {W : World}
theorem QfY {k : IntKind} {T:TypeId} (base b:Nat) (s x:Operand) (t:TypeId) (ho:o.op=.call { callee:=.builtin .append,args:=#[s,x],argTypes:=#[t,t] })
    (ht:P.underlying t=some (.slice T)) (hi:(P.info? T).map (fun i=>(i.zero,i.size,i.bytes))=some (some (.int k 0),1,b)) (hb8:b≤8) (d:Nat) (hd:o.dst=some d) (hg:QbT ops o N L=some true) {B:Nat} {v y:Value} {xs ys:List Int}
    (hs:Rely.look (envN N L) s=v) (hx:Rely.look (envN N L) x=y)
    (h:OwnN k T base xs v W) (hy:RdK k B ys y W) (hn:xs.length+ys.length≤1000000000) (hV:base≤W.heap.size)
    (kk:∀ (u:Value) (W':World),OwnN k T base (xs++ys) u W'→Below base W W'→WL P ops Q rest (Qaz ds N ((d,u)::L)) W'):WL P ops Q (o::rest) (Qaz ds N L) W:=by
  obtain ⟨v',W',h1,h2,h3,h4⟩:=QdX (ρ:=Rely.look (envN N L)) (o:=o) (W:=W) s x t ho ht hi hb8 hs hx h hy hn hV
  exact Qcn _ _ d hd hg h1 (kk v' W' h2 ⟨h3.os,h3.tape,h3.output,h3.size,fun i hi=>h3.block i (qL hi hV) (fun q=>by have:=h.ge q.symm; omega)⟩)
end
def NewL (base : Nat) (sk rk:List Int):Value→World→Prop:=fun v W=>∃ g,v=.pointer (some ⟨g,0,none⟩)∧base≤g∧W.heap[g]? = some (.cells (cat [#[.int .i64 0],#[.int .u64 0],ints .u8 (sk),ints .u8 (rk),#[.int .i64 0]]) 136)
theorem newC (sk rk:List Int) (w:World) (hsk:sk.length=32) (hrk:rk.length=32):Calls Tryd.prog 43 #[.agg (ints .u8 sk),.agg (ints .u8 rk)] w (QbD w (NewL w.heap.size sk rk)):=by
  refine enter 9 [(0,.agg (ints .u8 (sk))),(1,.agg (ints .u8 (rk)))] Tryd.func43 rfl rfl kj rfl ?_
  refine wp_seq_k fun K1 hK1=>?_
  refine Qac ?_
  refine Qas (ints .u8 (sk)) 23 2 rfl kj kj fun g2 W1 l2 e1 r2_1=>?_
  have x1:Ext w W1:=Ext.tr (Rely.Ext.refl w) e1
  have b2:w.heap.size≤g2:=qT (Rely.Ext.refl w).size l2
  refine Qas (ints .u8 (rk)) 23 3 rfl kj kj fun g3 W2 l3 e2 r3_2=>?_
  have x2:Ext w W2:=Ext.tr x1 e2
  have b3:w.heap.size≤g3:=qT x1.size l3
  refine Qaa (.pointer none) 4 rfl kj kj ?_
  refine Qae ?_
  refine hK1 _ _ ?_
  refine wp_seq_k fun K4 hK4=>?_
  refine Qac ?_
  have r2_2:=(Qab r2_1 e2)
  refine Qaa (.agg (ints .u8 (sk))) 5 rfl kj (Qao 23 _ g2 23 _ _ r2_2 rfl kj kj (isz (n:=32) kj ((Qaf _ _).trans hsk))) ?_
  refine Qaa (.agg (ints .u8 (rk))) 6 rfl kj (Qao 23 _ g3 23 _ _ r3_2 rfl kj kj (isz (n:=32) kj ((Qaf _ _).trans hrk))) ?_
  refine Qaa (.agg (cat [#[.int .i64 0],#[.int .u64 0],ints .u8 (sk),ints .u8 (rk),#[.int .i64 0]])) 7 rfl kj (Qhr 136 _ (.agg (cat [#[.int .i64 0],#[.int .u64 0],ints .u8 (List.replicate 32 0),ints .u8 (List.replicate 32 0),#[.int .i64 0]])) #[(0,2),(2,32),(34,32),(66,1)] 2 [#[.int .i64 0],#[.int .u64 0]] (cat [ints .u8 (List.replicate 32 0),ints .u8 (List.replicate 32 0),#[.int .i64 0]]) [(1,32,.agg (ints .u8 (sk)),ints .u8 (sk)),(2,32,.agg (ints .u8 (rk)),ints .u8 (rk))] [#[.int .i64 0]] rfl kj rfl ⟨kj,rfl,((Qaf _ _).trans hsk),kj,rfl,((Qaf _ _).trans hrk),trivial⟩ kj (Nat.le_of_ble_eq_true kj) kj kj kj kj) ?_
  refine Qas (cat [#[.int .i64 0],#[.int .u64 0],ints .u8 (sk),ints .u8 (rk),#[.int .i64 0]]) 136 8 rfl kj kj fun g5 W3 l5 e3 r5_3=>?_
  have x3:Ext w W3:=Ext.tr x2 e3
  have b5:w.heap.size≤g5:=qT x2.size l5
  refine Qaa (.pointer (some ⟨g5,0,none⟩)) 4 rfl kj kj ?_
  refine Qae ?_
  refine hK4 _ _ ?_
  refine wp_ret ?_
  repeat (first | with_reducible refine goR1 ?_ | with_reducible refine goR2 ?_)
  exact (show bodyPost _ _ _ .ret _ _ from ret1 (.pointer (some ⟨g5,0,none⟩)) rfl (Qaq kj) ⟨_,rfl,x3,g5,rfl,b5,r5_3⟩)
set_option maxRecDepth 100000 in
theorem Qlf (text : List Int) (v:Value) (th tq:TypeId) (g:Nat) (nx:Int) (B:Nat) (hnx:0≤nx∧nx≤4294967295) (hB:B<18446744073709551616) (sk rk:List Int) (next:Nat) (hsk:sk.length=32) (hrk:rk.length=32) (w:World) (hg:w.heap[g]? = some (.cells (cat [#[.int .i64 nx],#[.int .u64 ((B:Nat):Int)],ints .u8 (sk),ints .u8 (rk),#[.int .i64 ((next:Nat):Int)]]) 136)) (hh:w.heap[2]? = some (.cells (ints .u32 [1634760805,857760878,2036477234,1797285236]) th)) (hq:w.heap[3]? = some (.cells (ints .i64 [0,4,8,12,1,5,9,13,2,6,10,14,3,7,11,15,0,5,10,15,1,6,11,12,2,7,8,13,3,4,9,14]) tq)) (hnh:2≠g) (hnq:3≠g) (hst:∀ W,ExtB g w W→RdK .u8 W.heap.size text v W) (hnx2:next<4294967295) (htl:text.length≤65536) :
  Calls Tryd.prog 46 #[.pointer (some ⟨g,0,none⟩),v] w (fun e W=>∃ u,e=.returned (.tuple #[u,.nilIface])∧OwnN .u8 5 w.heap.size (msgV sk next text) u W∧ExtB g w W∧W.heap[g]? = some (.cells (cat [#[.int .i64 nx],#[.int .u64 ((B:Nat):Int)],ints .u8 (sk),ints .u8 (rk),#[.int .i64 ((next+1:Nat):Int)]]) 136)):=by
 obtain ⟨a_t,c_t,rfl,-⟩:=id (hst _ (ExtB.refl g w))
 have lfs0:=Qe2 sk (nonV next) (hdV next) text
 obtain ⟨fs,es⟩:∃ z:List Int,QeG sk (nonV next) (hdV next) text=z:=⟨_,rfl⟩
 have lfs:fs.length=text.length+16:=es▸lfs0
 refine enter 64 [(0,.pointer (some ⟨g,0,none⟩)),(1,.slice a_t text.length c_t)] Tryd.func46 rfl rfl kj rfl ?_
 refine wp_seq_k fun K4 hK4=>?_
 refine Qac ?_
 refine Qaa (.slice none 0 0) 4 rfl kj kj ?_
 refine Qaa (.nilIface) 5 rfl kj kj ?_
 refine Qae ?_
 refine hK4 _ _ ?_
 refine wp_seq_k fun K5 hK5=>?_
 refine wp_seq_k fun K6 hK6=>?_
 refine Qac ?_
 refine Qaa (.pointer (some ⟨g,0,none⟩)) 10 rfl kj kj ?_
 refine Qaa (.bool false) 11 rfl kj kj ?_
 refine Qae ?_
 refine hK6 _ _ ?_
 refine cond_false kj ?_
 refine wp_skip ?_
 refine hK5 _ _ ?_
 refine wp_seq_k fun K7 hK7=>?_
 refine wp_seq_k fun K8 hK8=>?_
 refine Qac ?_
 refine Qaa (.slice a_t text.length c_t) 13 rfl kj kj ?_
 refine Qaa (.int .i64 ((text.length:Nat):Int)) 14 rfl kj kj ?_
 refine Qaa (.bool false) 15 rfl kj (Qad (u:=.bool (decide (((text.length:Nat):Int)>65536))) kj (congrArg Value.bool (decide_eq_false (by omega)))) ?_
 refine Qae ?_
 refine hK8 _ _ ?_
 refine cond_false kj ?_
 refine wp_skip ?_
 refine hK7 _ _ ?_
 refine wp_seq_k fun K9 hK9=>?_
 refine wp_seq_k fun K10 hK10=>?_
 refine Qac ?_
 refine Qaa (.pointer (some ⟨g,0,none⟩)) 17 rfl kj kj ?_
 refine Qaa (.pointer (some ⟨g,0,none⟩)) 18 rfl kj kj ?_
 refine Qaa (.pointer (some ⟨g,66,none⟩)) 19 rfl kj kj ?_
 refine Qaa (.int .i64 ((next:Nat):Int)) 20 rfl kj (Qah 3 _ g 66 136 _ (.int .i64 ((next:Nat):Int)) _ hg rfl kj (QaQ [#[.int .i64 nx],#[.int .u64 ((B:Nat):Int)],ints .u8 (sk),ints .u8 (rk)] [#[.int .i64 ((next:Nat):Int)]] [] 66 (by rw [Qar,Qar,Qar,Qar]; simp only [qS,cat,((Qaf _ _).trans hrk),((Qaf _ _).trans hsk)]; rfl) 0 _ rfl) kj) ?_
 refine Qaa (.bool false) 21 rfl kj (Qad (u:=.bool ((((next:Nat):Int)==4294967295))) kj (congrArg Value.bool (beq_eq_false_iff_ne.2 (by omega)))) ?_
 refine Qae ?_
 refine hK10 _ _ ?_
 refine cond_false kj ?_
 refine wp_skip ?_
 refine hK9 _ _ ?_
 refine wp_seq_k fun K11 hK11=>?_
 refine Qac ?_
 refine Qaa (.pointer (some ⟨g,0,none⟩)) 23 rfl kj kj ?_
 refine Qaa (.pointer (some ⟨g,0,none⟩)) 24 rfl kj kj ?_
 refine Qaa (.pointer (some ⟨g,66,none⟩)) 25 rfl kj kj ?_
 refine Qaa (.int .i64 ((next:Nat):Int)) 26 rfl kj (Qah 3 _ g 66 136 _ (.int .i64 ((next:Nat):Int)) _ hg rfl kj (QaQ [#[.int .i64 nx],#[.int .u64 ((B:Nat):Int)],ints .u8 (sk),ints .u8 (rk)] [#[.int .i64 ((next:Nat):Int)]] [] 66 (by rw [Qar,Qar,Qar,Qar]; simp only [qS,cat,((Qaf _ _).trans hrk),((Qaf _ _).trans hsk)]; rfl) 0 _ rfl) kj) ?_
 refine Qaa (.int .i64 ((next:Nat):Int)) 6 rfl kj kj ?_
 refine Qae ?_
 refine hK11 _ _ ?_
 refine wp_seq_k fun K12 hK12=>?_
 refine Qac ?_
 refine Qaa (.int .i64 ((next:Nat):Int)) 27 rfl kj kj ?_
 refine Qaa (.int .i64 (((next/16777216:Nat):Int))) 28 rfl kj (QaP .shr _ _ _ _ .i64 .u64 _ _ _ rfl kj kj (Qdk _ _ _ _ _ _ (by omega) (shrN next 24 16777216 (by decide)))) ?_
 refine Qaa (.int .u8 (((next/16777216%256:Nat):Int))) 29 rfl kj (Qad (u:=.int .u8 (IntKind.u8.wrap (((next/16777216:Nat):Int)))) kj (congrArg (Value.int .u8) (Qiz _))) ?_
 refine Qaa (.int .i64 ((next:Nat):Int)) 30 rfl kj kj ?_
 refine Qaa (.int .i64 (((next/65536:Nat):Int))) 31 rfl kj (QaP .shr _ _ _ _ .i64 .u64 _ _ _ rfl kj kj (Qdk _ _ _ _ _ _ (by omega) (shrN next 16 65536 (by decide)))) ?_
 refine Qaa (.int .u8 (((next/65536%256:Nat):Int))) 32 rfl kj (Qad (u:=.int .u8 (IntKind.u8.wrap (((next/65536:Nat):Int)))) kj (congrArg (Value.int .u8) (Qiz _))) ?_
 refine Qaa (.int .i64 ((next:Nat):Int)) 33 rfl kj kj ?_
 refine Qaa (.int .i64 (((next/256:Nat):Int))) 34 rfl kj (QaP .shr _ _ _ _ .i64 .u64 _ _ _ rfl kj kj (Qdk _ _ _ _ _ _ (by omega) (shrN next 8 256 (by decide)))) ?_
 refine Qaa (.int .u8 (((next/256%256:Nat):Int))) 35 rfl kj (Qad (u:=.int .u8 (IntKind.u8.wrap (((next/256:Nat):Int)))) kj (congrArg (Value.int .u8) (Qiz _))) ?_
 refine Qaa (.int .i64 ((next:Nat):Int)) 36 rfl kj kj ?_
 refine Qaa (.int .u8 (((next%256:Nat):Int))) 37 rfl kj (Qad (u:=.int .u8 (IntKind.u8.wrap ((next:Nat):Int))) kj (congrArg (Value.int .u8) (Qiz _))) ?_
 refine QaD (ints .u8 ([(((next/16777216%256:Nat):Int)),(((next/65536%256:Nat):Int)),(((next/256%256:Nat):Int)),(((next%256:Nat):Int))])) 5 4 38 rfl kj kj fun g13 W1 l13 e1 r13_1=>?_
 have x1:ExtB g w W1:=ExtB.ext (ExtB.refl g w) e1
 have b13:w.heap.size≤g13:=qT (ExtB.refl g w).size l13
 refine Qaa (.slice (some ⟨g13,0,none⟩) 4 4) 7 rfl kj kj ?_
 have r13_1_14:W1.heap[g13]? = some (.cells (ints .u8 (hdV next)) 5):=QaI r13_1 rfl
 refine Qae ?_
 refine hK12 _ _ ?_
 refine wp_seq_k fun K15 hK15=>?_
 refine QaL 13 [⟨none,[(0,none)]⟩,⟨none,[(40,some 0)]⟩,⟨none,[(41,some 1)]⟩,⟨none,[(42,some 2)]⟩,⟨none,[(6,none)]⟩,⟨none,[(44,some 4)]⟩,⟨none,[(7,none)]⟩,⟨none,[(1,none)]⟩,⟨none,[(43,some 3),(45,some 5),(46,some 6),(47,some 7)]⟩,⟨none,[(48,some 8)]⟩,⟨none,[(39,some 9)]⟩,⟨none,[(39,some 9)]⟩,⟨none,[(49,some 10)]⟩] kj kj fun F hF=>?_
 refine Qay (Qaj _) (.pointer (some ⟨g,0,none⟩)) kj kj (fun W=>by kernel_rfl) ?_
 refine Qay (Qaj _) (.pointer (some ⟨g,0,none⟩)) kj kj (fun W=>by kernel_rfl) ?_
 refine Qay (Qaj _) (.pointer (some ⟨g,2,none⟩)) kj kj (fun W=>by kernel_rfl) ?_
 have r1_1:=(Qab hg e1)
 refine Qbi (Qaj _) (.agg (ints .u8 (sk))) kj kj (fun W hR=>(QaS 23 _ g 2 136 _ _ _ (Qab (Qab r1_1 (Qak _)) hR) rfl kj (QaQ [#[.int .i64 nx],#[.int .u64 ((B:Nat):Int)]] [ints .u8 (sk)] [ints .u8 (rk),#[.int .i64 ((next:Nat):Int)]] 2 kj) kj (isz (n:=32) kj ((Qaf _ _).trans hsk)))) ?_
 refine Qay (Qaj _) (.int .i64 ((next:Nat):Int)) kj kj (fun W=>by kernel_rfl) ?_
 refine QcM (Qaj _) (OwnN .u8 5 W1.heap.size (nonV next)) (OwnN.stable _ _ _ _) 86 #[.int .i64 ((next:Nat):Int)] kj kj (fun W=>by kernel_rfl) (fun W hR=>(QhY W1.heap.size next _ (Rely.Ext.trans (Qak _) hR).size)) ?_
 refine Qay (Qaj _) (.slice (some ⟨g13,0,none⟩) 4 4) kj kj (fun W=>by kernel_rfl) ?_
 refine Qay (Qaj _) (.slice a_t text.length c_t) kj kj (fun W=>by kernel_rfl) ?_
 have r3_1:=(Qab hh e1)
 have r2_1:=(Qab hq e1)
 refine Qd5 (Qaj _) (MixR W1.heap.size fs) (Qdd _ _) 71 (fun ρ W hR hX=>?_) ?_
 ·skip
  have e43_:ρ 43=.agg (ints .u8 (sk)):=hX.1
  have q45_:(OwnN .u8 5 W1.heap.size (nonV next)) (ρ 45) W:=hX.2.1
  obtain ⟨ar45,cr45,e45_,-⟩:=id (OwnN.rd q45_)
  have rd45_:=OwnN.rd q45_
  rw [e45_] at rd45_
  have e46_:ρ 46=.slice (some ⟨g13,0,none⟩) 4 4:=hX.2.2.1
  have e47_:ρ 47=.slice a_t text.length c_t:=hX.2.2.2.1
  refine ⟨#[.agg (ints .u8 (sk)),.slice ar45 ((nonV next).length) cr45,.slice (some ⟨g13,0,none⟩) 4 4,.slice a_t text.length c_t],Eq.trans (b:=Result.ok (Next.enter 71 #[ρ 43,ρ 45,ρ 46,ρ 47]) W) kj (by rw [e43_,e45_,e46_,e47_]),?_⟩
  exact ((QkV sk (nonV next) (hdV next) text _ _ _ _ _ _ th tq W (Qab (Qab r3_1 (Qak _)) hR) (Qab (Qab r2_1 (Qak _)) hR) hsk rd45_ (RdK.ext (QaM (xs:=hdV next) (n:=4) (QbZ _) r13_1_14 (Qa0 r13_1_14) (show 4≤maxLen from by decide)) (Rely.Ext.trans (Qak _) hR)) (RdK.ext (hst _ x1) (Rely.Ext.trans (Qak _) hR)) (QcC _) (Qd1 _) (by rw [QbZ]; decide) (by omega)).mono fun e W2 hg=>by obtain ⟨v2,e1,e2,u,e3,e4⟩:=hg; rw [es] at e4; exact ⟨v2,e1,e2,u,e3,e4.base (Rely.Ext.trans (Qak _) hR).size⟩)
 refine Qb6 (Qaj _) (MixR W1.heap.size fs) (Qdd _ _) (fun ρ W hR hh=>⟨ρ 48,W,by kernel_rfl,Rely.Ext.refl _,(show (MixR W1.heap.size fs) (ρ 48) W from hh.1)⟩) ?_
 refine Qb6 (Qaj _) (OwnN .u8 5 W1.heap.size fs) (OwnN.stable _ _ _ _) (fun ρ W hR hh=>?_) ?_
 ·obtain ⟨u,e,h⟩:=(show (MixR W1.heap.size fs) (ρ 39) W from hh.1)
  exact ⟨_,W,Qba (.tmp 39) 0 #[u,.nilIface] _ rfl e rfl,Rely.Ext.refl _,h⟩
 refine Qb6 (Qaj _) (fun v W=>v=.nilIface) (fun _ _ _ _ h=>h) (fun ρ W hR hh=>?_) ?_
 ·obtain ⟨u,e,h⟩:=(show (MixR W1.heap.size fs) (ρ 39) W from hh.1)
  exact ⟨_,W,Qba (.tmp 39) 1 #[u,.nilIface] _ rfl e rfl,Rely.Ext.refl _,rfl⟩
 refine Qb6 (Qaj _) (OwnN .u8 5 W1.heap.size fs) (OwnN.stable _ _ _ _) (fun ρ W hR hh=>⟨ρ 49,W,by kernel_rfl,Rely.Ext.refl _,(show (OwnN .u8 5 W1.heap.size fs) (ρ 49) W from hh.1)⟩) ?_
 refine Qck (hF _ fun W2 e2=>?_)
 simp only [List.nil_append,List.cons_append,List.take_succ_cons,List.take_zero,List.drop_succ_cons,List.drop_zero,finE,up]
 intro vv16 hv16 vv17 hv17 vv18 hv18 vv19 hv19 vv20 hv20 vv21 hv21
 clear hF
 have x2:ExtB g w W2:=ExtB.ext x1 e2
 obtain ⟨a22_,c22_,rfl,-⟩:=id (OwnN.rd hv16)
 obtain ⟨a23_,c23_,rfl,-⟩:=id (OwnN.rd hv19)
 subst hv20
 obtain ⟨a24_,c24_,rfl,-⟩:=id (OwnN.rd hv21)
 refine Qaa (.nilIface) 9 rfl kj kj ?_
 refine Qae ?_
 refine hK15 _ _ ?_
 refine wp_seq_k fun K25 hK25=>?_
 refine wp_seq_k fun K26 hK26=>?_
 refine Qac ?_
 refine Qaa (.nilIface) 51 rfl kj kj ?_
 refine Qaa (.bool false) 52 rfl kj kj ?_
 refine Qae ?_
 refine hK26 _ _ ?_
 refine cond_false kj ?_
 refine wp_skip ?_
 refine hK25 _ _ ?_
 refine wp_seq_k fun K27 hK27=>?_
 refine Qac ?_
 refine Qaa (.pointer (some ⟨g,0,none⟩)) 54 rfl kj kj ?_
 refine Qaa (.pointer (some ⟨g,0,none⟩)) 55 rfl kj kj ?_
 refine Qaa (.pointer (some ⟨g,66,none⟩)) 56 rfl kj kj ?_
 have r1_2:=(Qab r1_1 e2)
 refine Qaa (.int .i64 ((next:Nat):Int)) 57 rfl kj (Qah 3 _ g 66 136 _ (.int .i64 ((next:Nat):Int)) _ r1_2 rfl kj (QaQ [#[.int .i64 nx],#[.int .u64 ((B:Nat):Int)],ints .u8 (sk),ints .u8 (rk)] [#[.int .i64 ((next:Nat):Int)]] [] 66 (by rw [Qar,Qar,Qar,Qar]; simp only [qS,cat,((Qaf _ _).trans hrk),((Qaf _ _).trans hsk)]; rfl) 0 _ rfl) kj) ?_
 refine Qaa (.int .i64 ((next+1:Nat):Int)) 58 rfl kj (Qad (u:=.int .i64 (IntKind.i64.wrap (((next:Nat):Int)+1))) kj (congrArg (Value.int .i64) (i64n _ _ (by omega) (by omega)))) ?_
 refine Qaa (.pointer (some ⟨g,0,none⟩)) 59 rfl kj kj ?_
 refine Qaa (.pointer (some ⟨g,66,none⟩)) 60 rfl kj kj ?_
 refine Qal g _ (cat [#[.int .i64 nx],#[.int .u64 ((B:Nat):Int)],ints .u8 (sk),ints .u8 (rk),#[.int .i64 ((next+1:Nat):Int)]]) 136 r1_2 rfl kj (run_storeQ 3 _ _ g 66 136 [#[.int .i64 nx],#[.int .u64 ((B:Nat):Int)],ints .u8 (sk),ints .u8 (rk)] [] _ (.int .i64 ((next+1:Nat):Int)) r1_2 rfl kj kj kj (by rw [Qar,Qar,Qar,Qar]; simp only [qS,cat,((Qaf _ _).trans hrk),((Qaf _ _).trans hsk)]; rfl) rfl rfl) fun W3 p3 r1_3=>?_
 have x3:ExtB g w W3:=ExtB.puts x2 p3
 refine Qae ?_
 refine hK27 _ _ ?_
 refine wp_seq_k fun K28 hK28=>?_
 refine Qac ?_
 refine Qaa (.slice (some ⟨g13,0,none⟩) 4 4) 61 rfl kj kj ?_
 refine Qaa (.slice a24_ ((fs).length) c24_) 62 rfl kj kj ?_
 have f29_3:=(hv21.puts p3 (Qc9 hv21 (Qa0 r1_1)))
 have r13_2:=(Qab r13_1_14 e2)
 have r13_3:=(Puts.row p3 r13_2 (QaA hg l13))
 refine QfY (k:=.u8) (T:=5) (xs:=hdV next) (ys:=fs) (w.heap.size) 1 (.tmp 61) (.tmp 62) 33 rfl kj kj (by decide) 63 rfl kj kj kj (QbW (xs:=hdV next) (QbZ _) l13 r13_3 (by decide)) (OwnN.rd f29_3) (by rw [QbZ,lfs]; omega) (qT (qT (qT (qR _) e1.size) e2.size) (qE p3.2.2.2.1.symm)) fun zs W4 f30 l4=>?_
 have x4:ExtB g w W4:=ExtB.low x3 l4 (ExtB.refl g w).2.2.2.1
 refine Qaa (zs) 4 rfl kj kj ?_
 refine Qaa (.nilIface) 5 rfl kj kj ?_
 refine Qae ?_
 refine hK28 _ _ ?_
 refine wp_ret ?_
 repeat (first | with_reducible refine goR1 ?_ | with_reducible refine goR2 ?_)
 have r1_4:=(Qbw l4 r1_3 (Qa0 hg))
 exact (show bodyPost _ _ _ .ret _ _ from ret2 (zs) (.nilIface) rfl (Qaq kj) (Qaq kj) ⟨zs,rfl,by unfold msgV; rw [es]; exact OwnN.base (ExtB.refl g w).2.2.2.1 f30,x4,r1_4⟩)
end Go.Proofs.YtoiendjhplbjjaaDoor.Ll
end
section
namespace Go.Proofs.YtoiendjhplbjjaaDoor.Ll
open Go Go.RowKit
open Rely Auto Own Sha Sha
open Cha Ae
set_option maxRecDepth 100000 in
theorem QjJ (sl : List Int) (v:Value) (th tq:TypeId) (g:Nat) (nx:Int) (B:Nat) (hnx:0≤nx∧nx≤4294967295) (hB:B<18446744073709551616) (sk rk:List Int) (next:Nat) (hsk:sk.length=32) (hrk:rk.length=32) (w:World) (hg:w.heap[g]? = some (.cells (cat [#[.int .i64 nx],#[.int .u64 ((B:Nat):Int)],ints .u8 (sk),ints .u8 (rk),#[.int .i64 ((next:Nat):Int)]]) 136)) (hh:w.heap[2]? = some (.cells (ints .u32 [1634760805,857760878,2036477234,1797285236]) th)) (hq:w.heap[3]? = some (.cells (ints .i64 [0,4,8,12,1,5,9,13,2,6,10,14,3,7,11,15,0,5,10,15,1,6,11,12,2,7,8,13,3,4,9,14]) tq)) (hnh:2≠g) (hnq:3≠g) (ht:RdK .u8 w.heap.size sl v w) (h20:sl.length<20) :
    Calls Tryd.prog 49 #[.pointer (some ⟨g,0,none⟩),v] w (Ret w (.tuple #[.slice none 0 0,.iface 60 (.int .i64 1)])):=by
  obtain ⟨a_t,c_t,rfl,-⟩:=id (ht)
  have ctk:sl.length≤c_t:=by
    obtain ⟨_,_,e,q2,_⟩:=id (ht)
    simp only [Value.slice.injEq] at e
    obtain ⟨-,-,rfl⟩:=e
    exact q2
  refine enter 72 [(0,.pointer (some ⟨g,0,none⟩)),(1,.slice a_t sl.length c_t)] Tryd.func49 rfl rfl kj rfl <| sgB kj <| wp_seq_k fun K5 hK5=>sgB kj <| cond_false kj <| wp_skip <| hK5 _ _ <| wp_seq_k fun K7 hK7=>sgC fun K8 hK8=>sg 2 kj ?_
  refine Qaa (.bool true) 18 rfl kj (Qad (u:=.bool (decide (((sl.length:Nat):Int)<20))) kj (congrArg Value.bool (decide_eq_true (by omega)))) <| sg 5 kj <| sgN hK8 <| cond_true kj <| sgB kj <| wp_ret ?_
  repeat (first | with_reducible refine goR1 ?_ | with_reducible refine goR2 ?_)
  exact (show bodyPost _ _ _ .ret _ _ from ret2 (.slice none 0 0) (.iface 60 (.int .i64 1)) rfl (Qaq kj) (Qaq kj) ⟨rfl,(Rely.Ext.refl w)⟩)
set_option maxRecDepth 100000 in
theorem QjI (sl : List Int) (v:Value) (th tq:TypeId) (g:Nat) (nx:Int) (B:Nat) (hnx:0≤nx∧nx≤4294967295) (hB:B<18446744073709551616) (sk rk:List Int) (next:Nat) (hsk:sk.length=32) (hrk:rk.length=32) (w:World) (hg:w.heap[g]? = some (.cells (cat [#[.int .i64 nx],#[.int .u64 ((B:Nat):Int)],ints .u8 (sk),ints .u8 (rk),#[.int .i64 ((next:Nat):Int)]]) 136)) (hh:w.heap[2]? = some (.cells (ints .u32 [1634760805,857760878,2036477234,1797285236]) th)) (hq:w.heap[3]? = some (.cells (ints .i64 [0,4,8,12,1,5,9,13,2,6,10,14,3,7,11,15,0,5,10,15,1,6,11,12,2,7,8,13,3,4,9,14]) tq)) (hnh:2≠g) (hnq:3≠g) (ht:RdK .u8 w.heap.size sl v w) (h20:65556<sl.length) :
    Calls Tryd.prog 49 #[.pointer (some ⟨g,0,none⟩),v] w (Ret w (.tuple #[.slice none 0 0,.iface 60 (.int .i64 1)])):=by
  obtain ⟨a_t,c_t,rfl,-⟩:=id (ht)
  have ctk:sl.length≤c_t:=by
    obtain ⟨_,_,e,q2,_⟩:=id (ht)
    simp only [Value.slice.injEq] at e
    obtain ⟨-,-,rfl⟩:=e
    exact q2
  refine enter 72 [(0,.pointer (some ⟨g,0,none⟩)),(1,.slice a_t sl.length c_t)] Tryd.func49 rfl rfl kj rfl <| sgB kj <| wp_seq_k fun K5 hK5=>sgB kj <| cond_false kj <| wp_skip <| hK5 _ _ <| wp_seq_k fun K7 hK7=>sgC fun K8 hK8=>sg 2 kj ?_
  refine Qaa (.bool false) 18 rfl kj (Qad (u:=.bool (decide (((sl.length:Nat):Int)<20))) kj (congrArg Value.bool (decide_eq_false (by omega)))) <| sg 3 kj <| Qaa (.bool true) 22 rfl kj (Qad (u:=.bool (decide (((sl.length:Nat):Int)>65556))) kj (congrArg Value.bool (decide_eq_true (by omega)))) <| sg 1 kj <| sgN hK8 <| cond_true kj <| sgB kj <| wp_ret ?_
  repeat (first | with_reducible refine goR1 ?_ | with_reducible refine goR2 ?_)
  exact (show bodyPost _ _ _ .ret _ _ from ret2 (.slice none 0 0) (.iface 60 (.int .i64 1)) rfl (Qaq kj) (Qaq kj) ⟨rfl,(Rely.Ext.refl w)⟩)
set_option maxRecDepth 100000 in
theorem QjL (sl : List Int) (v:Value) (th tq:TypeId) (g:Nat) (nx:Int) (B:Nat) (hnx:0≤nx∧nx≤4294967295) (hB:B<18446744073709551616) (sk rk:List Int) (next:Nat) (hsk:sk.length=32) (hrk:rk.length=32) (w:World) (hg:w.heap[g]? = some (.cells (cat [#[.int .i64 nx],#[.int .u64 ((B:Nat):Int)],ints .u8 (sk),ints .u8 (rk),#[.int .i64 ((next:Nat):Int)]]) 136)) (hh:w.heap[2]? = some (.cells (ints .u32 [1634760805,857760878,2036477234,1797285236]) th)) (hq:w.heap[3]? = some (.cells (ints .i64 [0,4,8,12,1,5,9,13,2,6,10,14,3,7,11,15,0,5,10,15,1,6,11,12,2,7,8,13,3,4,9,14]) tq)) (hnh:2≠g) (hnq:3≠g) (ht:RdK .u8 w.heap.size sl v w) (m:Nat) (fs:List Int) (e4:sl.take 4=hdV m) (e5:sl.drop 4=fs) (hm:m<4294967296) (h20:20≤sl.length) (hmx:sl.length≤65556) (hc:chkW nx B ((m:Nat):Int)≠0) :
    Calls Tryd.prog 49 #[.pointer (some ⟨g,0,none⟩),v] w (Ret w (.tuple #[.slice none 0 0,.iface 60 (.int .i64 (chkW nx B ((m:Nat):Int)))])):=by
  obtain ⟨a_t,c_t,rfl,-⟩:=id (ht)
  have ctk:sl.length≤c_t:=by
    obtain ⟨_,_,e,q2,_⟩:=id (ht)
    simp only [Value.slice.injEq] at e
    obtain ⟨-,-,rfl⟩:=e
    exact q2
  have h4:4≤sl.length:=by omega
  refine enter 72 [(0,.pointer (some ⟨g,0,none⟩)),(1,.slice a_t sl.length c_t)] Tryd.func49 rfl rfl kj rfl <| sgB kj <| wp_seq_k fun K5 hK5=>sgB kj <| cond_false kj <| wp_skip <| hK5 _ _ <| wp_seq_k fun K7 hK7=>sgC fun K8 hK8=>sg 2 kj ?_
  refine Qaa (.bool false) 18 rfl kj (Qad (u:=.bool (decide (((sl.length:Nat):Int)<20))) kj (congrArg Value.bool (decide_eq_false (by omega)))) <| sg 3 kj <| Qaa (.bool false) 22 rfl kj (Qad (u:=.bool (decide (((sl.length:Nat):Int)>65556))) kj (congrArg Value.bool (decide_eq_false (by omega)))) <| sg 1 kj <| sgN hK8 <| cond_false kj <| wp_skip <| hK7 _ _ <| sgB kj <| wp_seq_k fun K10 hK10=>?_
  refine sgC fun K11 hK11=>sg 1 kj <| Qaa (.slice a_t 4 c_t) 26 rfl kj (Qbl (len:=sl.length) 33 _ _ 4 5 rfl kj kj kj .i64 kj (qT h4 ctk)) <| sg 2 kj <| sgN hK11 <| wp_block ?_
  have hnh_12:(hdV m).length=4:=(QbZ m)
  obtain ⟨gch_12,och_12,hah_12,hlh_12,hch_12⟩:=Qbr (rdKT e4 (RdK.ext ht (Rely.Ext.refl w)) h4) (by rw [hnh_12]; omega)
  refine wp_loop_rounds 5 ?_
  show Code.wp _ _ (Exit.then (Code.rounds _ _ _ 4) _) _ _
  refine sgB kj <| sgT kj <| wp_seq_k fun K15 hK15=>wp_block <| sgC fun K16 hK16=>Qaa (.pointer (some ⟨gch_12,och_12+0,none⟩)) 30 rfl kj (Qaw 33 _ _ .i64 0 gch_12 och_12 4 c_t 5 a_t _ hah_12 rfl rfl kj kj kj kj (Nat.lt_of_lt_of_eq (show 0<4 by omega) hnh_12.symm)) <| Qaa (.int .u8 ((((m/16777216%256):Nat):Int))) 31 rfl kj (Qap 5 _ _ (.int .u8 ((((m/16777216%256):Nat):Int))) ((hch_12 0 (Nat.lt_of_lt_of_eq (show 0<4 by omega) hnh_12.symm)).trans (congrArg (fun z=>some (Value.int .u8 z)) rfl)) rfl kj kj) <| sg 1 kj <| sgN hK16 <| Qac ?_
  refine sg 1 kj <| Qaa (.int .i64 (((0*256:Nat):Int))) 33 rfl kj (QaP .shl _ _ _ _ .i64 .u64 _ _ _ rfl kj kj (Qcv _ _ _ _ _ _ (by decide) (QbE _ (by omega)))) <| sg 1 kj <| Qaa (.int .i64 ((((m/16777216%256):Nat):Int))) 35 rfl kj (Qad (u:=.int .i64 (IntKind.i64.wrap ((((m/16777216%256):Nat):Int)))) kj (congrArg (Value.int .i64) (IntWalk.i64_in _ (by omega)))) <| Qaa (.int .i64 ((((m/16777216):Nat):Int))) 36 rfl kj (Qad (u:=.int .i64 (bits .or .i64 (((0*256:Nat):Int)) ((((m/16777216%256):Nat):Int)))) kj (congrArg (Value.int .i64) (Qct 0 (m/16777216%256) (m/16777216) (by omega) (by omega) (by omega)))) <| sg 1 kj <| Qae <| hK15 _ _ <| sgA kj ?_
  show Code.rounds _ _ _ 4 _ _
  show Code.wp _ _ (Exit.then (Code.rounds _ _ _ 3) _) _ _
  refine sgB kj <| sgT kj <| wp_seq_k fun K19 hK19=>wp_block <| sgC fun K20 hK20=>Qaa (.pointer (some ⟨gch_12,och_12+1,none⟩)) 30 rfl kj (Qaw 33 _ _ .i64 1 gch_12 och_12 4 c_t 5 a_t _ hah_12 rfl rfl kj kj kj kj (Nat.lt_of_lt_of_eq (show 1<4 by omega) hnh_12.symm)) <| Qaa (.int .u8 ((((m/65536%256):Nat):Int))) 31 rfl kj (Qap 5 _ _ (.int .u8 ((((m/65536%256):Nat):Int))) ((hch_12 1 (Nat.lt_of_lt_of_eq (show 1<4 by omega) hnh_12.symm)).trans (congrArg (fun z=>some (Value.int .u8 z)) rfl)) rfl kj kj) <| sg 1 kj <| sgN hK20 <| Qac ?_
  refine sg 1 kj <| Qaa (.int .i64 ((((m/16777216)*256:Nat):Int))) 33 rfl kj (QaP .shl _ _ _ _ .i64 .u64 _ _ _ rfl kj kj (Qcv _ _ _ _ _ _ (by decide) (QbE _ (by omega)))) <| sg 1 kj <| Qaa (.int .i64 ((((m/65536%256):Nat):Int))) 35 rfl kj (Qad (u:=.int .i64 (IntKind.i64.wrap ((((m/65536%256):Nat):Int)))) kj (congrArg (Value.int .i64) (IntWalk.i64_in _ (by omega)))) <| Qaa (.int .i64 ((((m/65536):Nat):Int))) 36 rfl kj (Qad (u:=.int .i64 (bits .or .i64 ((((m/16777216)*256:Nat):Int)) ((((m/65536%256):Nat):Int)))) kj (congrArg (Value.int .i64) (Qct (m/16777216) (m/65536%256) (m/65536) (by omega) (by omega) (by omega)))) <| sg 1 kj <| Qae <| hK19 _ _ <| sgA kj ?_
  show Code.rounds _ _ _ 3 _ _
  show Code.wp _ _ (Exit.then (Code.rounds _ _ _ 2) _) _ _
  refine sgB kj <| sgT kj <| wp_seq_k fun K23 hK23=>wp_block <| sgC fun K24 hK24=>Qaa (.pointer (some ⟨gch_12,och_12+2,none⟩)) 30 rfl kj (Qaw 33 _ _ .i64 2 gch_12 och_12 4 c_t 5 a_t _ hah_12 rfl rfl kj kj kj kj (Nat.lt_of_lt_of_eq (show 2<4 by omega) hnh_12.symm)) <| Qaa (.int .u8 ((((m/256%256):Nat):Int))) 31 rfl kj (Qap 5 _ _ (.int .u8 ((((m/256%256):Nat):Int))) ((hch_12 2 (Nat.lt_of_lt_of_eq (show 2<4 by omega) hnh_12.symm)).trans (congrArg (fun z=>some (Value.int .u8 z)) rfl)) rfl kj kj) <| sg 1 kj <| sgN hK24 <| Qac ?_
  refine sg 1 kj <| Qaa (.int .i64 ((((m/65536)*256:Nat):Int))) 33 rfl kj (QaP .shl _ _ _ _ .i64 .u64 _ _ _ rfl kj kj (Qcv _ _ _ _ _ _ (by decide) (QbE _ (by omega)))) <| sg 1 kj <| Qaa (.int .i64 ((((m/256%256):Nat):Int))) 35 rfl kj (Qad (u:=.int .i64 (IntKind.i64.wrap ((((m/256%256):Nat):Int)))) kj (congrArg (Value.int .i64) (IntWalk.i64_in _ (by omega)))) <| Qaa (.int .i64 ((((m/256):Nat):Int))) 36 rfl kj (Qad (u:=.int .i64 (bits .or .i64 ((((m/65536)*256:Nat):Int)) ((((m/256%256):Nat):Int)))) kj (congrArg (Value.int .i64) (Qct (m/65536) (m/256%256) (m/256) (by omega) (by omega) (by omega)))) <| sg 1 kj <| Qae <| hK23 _ _ <| sgA kj ?_
  show Code.rounds _ _ _ 2 _ _
  show Code.wp _ _ (Exit.then (Code.rounds _ _ _ 1) _) _ _
  refine sgB kj <| sgT kj <| wp_seq_k fun K27 hK27=>wp_block <| sgC fun K28 hK28=>Qaa (.pointer (some ⟨gch_12,och_12+3,none⟩)) 30 rfl kj (Qaw 33 _ _ .i64 3 gch_12 och_12 4 c_t 5 a_t _ hah_12 rfl rfl kj kj kj kj (Nat.lt_of_lt_of_eq (show 3<4 by omega) hnh_12.symm)) <| Qaa (.int .u8 ((((m%256):Nat):Int))) 31 rfl kj (Qap 5 _ _ (.int .u8 ((((m%256):Nat):Int))) ((hch_12 3 (Nat.lt_of_lt_of_eq (show 3<4 by omega) hnh_12.symm)).trans (congrArg (fun z=>some (Value.int .u8 z)) rfl)) rfl kj kj) <| sg 1 kj <| sgN hK28 <| Qac ?_
  refine sg 1 kj <| Qaa (.int .i64 ((((m/256)*256:Nat):Int))) 33 rfl kj (QaP .shl _ _ _ _ .i64 .u64 _ _ _ rfl kj kj (Qcv _ _ _ _ _ _ (by decide) (QbE _ (by omega)))) <| sg 1 kj <| Qaa (.int .i64 ((((m%256):Nat):Int))) 35 rfl kj (Qad (u:=.int .i64 (IntKind.i64.wrap ((((m%256):Nat):Int)))) kj (congrArg (Value.int .i64) (IntWalk.i64_in _ (by omega)))) <| Qaa (.int .i64 (((m:Nat):Int))) 36 rfl kj (Qad (u:=.int .i64 (bits .or .i64 ((((m/256)*256:Nat):Int)) ((((m%256):Nat):Int)))) kj (congrArg (Value.int .i64) (Qct (m/256) (m%256) m (by omega) (by omega) (by omega)))) <| sg 1 kj <| Qae <| hK27 _ _ <| sgA kj ?_
  show Code.rounds _ _ _ 1 _ _
  show Code.wp _ _ (Exit.then (Code.rounds _ _ _ 0) _) _ _
  refine sgB kj <| wp_seq_k fun K30 hK30=>cond_false kj <| wp_exit <| hK10 _ _ <| wp_seq_k fun K31 hK31=>sgC fun K32 hK32=>sg 4 kj <| Qan (.iface 60 (.int .i64 (chkW nx B ((m:Nat):Int)))) 88 #[.pointer (some ⟨g,0,none⟩),.int .i64 (((m:Nat):Int))] 42 rfl kj kj (errV_ne hc▸checkC g nx B ((m:Nat):Int) hnx hB sk rk next hsk hrk _ hg) fun W1 e1=>sg 1 kj ?_
  refine sgN hK32 <| sgB kj <| cond_true kj <| sgB kj <| wp_ret ?_
  repeat (first | with_reducible refine goR1 ?_ | with_reducible refine goR2 ?_)
  exact (show bodyPost _ _ _ .ret _ _ from ret2 (.slice none 0 0) (.iface 60 (.int .i64 (chkW nx B ((m:Nat):Int)))) rfl (Qaq kj) (Qaq kj) ⟨rfl,(Ext.tr (Rely.Ext.refl w) e1)⟩)
set_option maxRecDepth 100000 in
theorem QjK (sl : List Int) (v:Value) (th tq:TypeId) (g:Nat) (nx:Int) (B:Nat) (hnx:0≤nx∧nx≤4294967295) (hB:B<18446744073709551616) (sk rk:List Int) (next:Nat) (hsk:sk.length=32) (hrk:rk.length=32) (w:World) (hg:w.heap[g]? = some (.cells (cat [#[.int .i64 nx],#[.int .u64 ((B:Nat):Int)],ints .u8 (sk),ints .u8 (rk),#[.int .i64 ((next:Nat):Int)]]) 136)) (hh:w.heap[2]? = some (.cells (ints .u32 [1634760805,857760878,2036477234,1797285236]) th)) (hq:w.heap[3]? = some (.cells (ints .i64 [0,4,8,12,1,5,9,13,2,6,10,14,3,7,11,15,0,5,10,15,1,6,11,12,2,7,8,13,3,4,9,14]) tq)) (hnh:2≠g) (hnq:3≠g) (ht:RdK .u8 w.heap.size sl v w) (m:Nat) (fs:List Int) (e4:sl.take 4=hdV m) (e5:sl.drop 4=fs) (hm:m<4294967296) (h20:20≤sl.length) (hmx:sl.length≤65556) (hsb:Qai sl) (hc:chkW nx B ((m:Nat):Int)=0) (hne:Qbx rk (nonV m) (hdV m) (fs.take (fs.length-16))≠fs.drop (fs.length-16)) :
  Calls Tryd.prog 49 #[.pointer (some ⟨g,0,none⟩),v] w (Ret w (.tuple #[.slice none 0 0,.iface 60 (.int .i64 2)])):=by
 obtain ⟨a_t,c_t,rfl,-⟩:=id (ht)
 have ctk:sl.length≤c_t:=by
  obtain ⟨_,_,e,q2,_⟩:=id (ht)
  simp only [Value.slice.injEq] at e
  obtain ⟨-,-,rfl⟩:=e
  exact q2
 have h4:4≤sl.length:=by omega
 have lfs:fs.length=sl.length-4:=by rw [←e5,List.length_drop]
 have hfb:Qai fs:=fun x hx=>hsb x (List.mem_of_mem_drop (e5▸hx))
 refine enter 72 [(0,.pointer (some ⟨g,0,none⟩)),(1,.slice a_t sl.length c_t)] Tryd.func49 rfl rfl kj rfl <| sgB kj <| wp_seq_k fun K5 hK5=>sgB kj <| cond_false kj <| wp_skip <| hK5 _ _ <| wp_seq_k fun K7 hK7=>sgC fun K8 hK8=>sg 2 kj ?_
 refine Qaa (.bool false) 18 rfl kj (Qad (u:=.bool (decide (((sl.length:Nat):Int)<20))) kj (congrArg Value.bool (decide_eq_false (by omega)))) <| sg 3 kj <| Qaa (.bool false) 22 rfl kj (Qad (u:=.bool (decide (((sl.length:Nat):Int)>65556))) kj (congrArg Value.bool (decide_eq_false (by omega)))) <| sg 1 kj <| sgN hK8 <| cond_false kj <| wp_skip <| hK7 _ _ <| sgB kj <| wp_seq_k fun K10 hK10=>?_
 refine sgC fun K11 hK11=>sg 1 kj <| Qaa (.slice a_t 4 c_t) 26 rfl kj (Qbl (len:=sl.length) 33 _ _ 4 5 rfl kj kj kj .i64 kj (qT h4 ctk)) <| sg 2 kj <| sgN hK11 <| wp_block ?_
 have hnh_12:(hdV m).length=4:=(QbZ m)
 obtain ⟨gch_12,och_12,hah_12,hlh_12,hch_12⟩:=Qbr (rdKT e4 (RdK.ext ht (Rely.Ext.refl w)) h4) (by rw [hnh_12]; omega)
 refine wp_loop_rounds 5 ?_
 show Code.wp _ _ (Exit.then (Code.rounds _ _ _ 4) _) _ _
 refine sgB kj <| sgT kj <| wp_seq_k fun K15 hK15=>wp_block <| sgC fun K16 hK16=>Qaa (.pointer (some ⟨gch_12,och_12+0,none⟩)) 30 rfl kj (Qaw 33 _ _ .i64 0 gch_12 och_12 4 c_t 5 a_t _ hah_12 rfl rfl kj kj kj kj (Nat.lt_of_lt_of_eq (show 0<4 by omega) hnh_12.symm)) <| Qaa (.int .u8 ((((m/16777216%256):Nat):Int))) 31 rfl kj (Qap 5 _ _ (.int .u8 ((((m/16777216%256):Nat):Int))) ((hch_12 0 (Nat.lt_of_lt_of_eq (show 0<4 by omega) hnh_12.symm)).trans (congrArg (fun z=>some (Value.int .u8 z)) rfl)) rfl kj kj) <| sg 1 kj <| sgN hK16 <| Qac ?_
 refine sg 1 kj <| Qaa (.int .i64 (((0*256:Nat):Int))) 33 rfl kj (QaP .shl _ _ _ _ .i64 .u64 _ _ _ rfl kj kj (Qcv _ _ _ _ _ _ (by decide) (QbE _ (by omega)))) <| sg 1 kj <| Qaa (.int .i64 ((((m/16777216%256):Nat):Int))) 35 rfl kj (Qad (u:=.int .i64 (IntKind.i64.wrap ((((m/16777216%256):Nat):Int)))) kj (congrArg (Value.int .i64) (IntWalk.i64_in _ (by omega)))) <| Qaa (.int .i64 ((((m/16777216):Nat):Int))) 36 rfl kj (Qad (u:=.int .i64 (bits .or .i64 (((0*256:Nat):Int)) ((((m/16777216%256):Nat):Int)))) kj (congrArg (Value.int .i64) (Qct 0 (m/16777216%256) (m/16777216) (by omega) (by omega) (by omega)))) <| sg 1 kj <| Qae <| hK15 _ _ <| sgA kj ?_
 show Code.rounds _ _ _ 4 _ _
 show Code.wp _ _ (Exit.then (Code.rounds _ _ _ 3) _) _ _
 refine sgB kj <| sgT kj <| wp_seq_k fun K19 hK19=>wp_block <| sgC fun K20 hK20=>Qaa (.pointer (some ⟨gch_12,och_12+1,none⟩)) 30 rfl kj (Qaw 33 _ _ .i64 1 gch_12 och_12 4 c_t 5 a_t _ hah_12 rfl rfl kj kj kj kj (Nat.lt_of_lt_of_eq (show 1<4 by omega) hnh_12.symm)) <| Qaa (.int .u8 ((((m/65536%256):Nat):Int))) 31 rfl kj (Qap 5 _ _ (.int .u8 ((((m/65536%256):Nat):Int))) ((hch_12 1 (Nat.lt_of_lt_of_eq (show 1<4 by omega) hnh_12.symm)).trans (congrArg (fun z=>some (Value.int .u8 z)) rfl)) rfl kj kj) <| sg 1 kj <| sgN hK20 <| Qac ?_
 refine sg 1 kj <| Qaa (.int .i64 ((((m/16777216)*256:Nat):Int))) 33 rfl kj (QaP .shl _ _ _ _ .i64 .u64 _ _ _ rfl kj kj (Qcv _ _ _ _ _ _ (by decide) (QbE _ (by omega)))) <| sg 1 kj <| Qaa (.int .i64 ((((m/65536%256):Nat):Int))) 35 rfl kj (Qad (u:=.int .i64 (IntKind.i64.wrap ((((m/65536%256):Nat):Int)))) kj (congrArg (Value.int .i64) (IntWalk.i64_in _ (by omega)))) <| Qaa (.int .i64 ((((m/65536):Nat):Int))) 36 rfl kj (Qad (u:=.int .i64 (bits .or .i64 ((((m/16777216)*256:Nat):Int)) ((((m/65536%256):Nat):Int)))) kj (congrArg (Value.int .i64) (Qct (m/16777216) (m/65536%256) (m/65536) (by omega) (by omega) (by omega)))) <| sg 1 kj <| Qae <| hK19 _ _ <| sgA kj ?_
 show Code.rounds _ _ _ 3 _ _
 show Code.wp _ _ (Exit.then (Code.rounds _ _ _ 2) _) _ _
 refine sgB kj <| sgT kj <| wp_seq_k fun K23 hK23=>wp_block <| sgC fun K24 hK24=>Qaa (.pointer (some ⟨gch_12,och_12+2,none⟩)) 30 rfl kj (Qaw 33 _ _ .i64 2 gch_12 och_12 4 c_t 5 a_t _ hah_12 rfl rfl kj kj kj kj (Nat.lt_of_lt_of_eq (show 2<4 by omega) hnh_12.symm)) <| Qaa (.int .u8 ((((m/256%256):Nat):Int))) 31 rfl kj (Qap 5 _ _ (.int .u8 ((((m/256%256):Nat):Int))) ((hch_12 2 (Nat.lt_of_lt_of_eq (show 2<4 by omega) hnh_12.symm)).trans (congrArg (fun z=>some (Value.int .u8 z)) rfl)) rfl kj kj) <| sg 1 kj <| sgN hK24 <| Qac ?_
 refine sg 1 kj <| Qaa (.int .i64 ((((m/65536)*256:Nat):Int))) 33 rfl kj (QaP .shl _ _ _ _ .i64 .u64 _ _ _ rfl kj kj (Qcv _ _ _ _ _ _ (by decide) (QbE _ (by omega)))) <| sg 1 kj <| Qaa (.int .i64 ((((m/256%256):Nat):Int))) 35 rfl kj (Qad (u:=.int .i64 (IntKind.i64.wrap ((((m/256%256):Nat):Int)))) kj (congrArg (Value.int .i64) (IntWalk.i64_in _ (by omega)))) <| Qaa (.int .i64 ((((m/256):Nat):Int))) 36 rfl kj (Qad (u:=.int .i64 (bits .or .i64 ((((m/65536)*256:Nat):Int)) ((((m/256%256):Nat):Int)))) kj (congrArg (Value.int .i64) (Qct (m/65536) (m/256%256) (m/256) (by omega) (by omega) (by omega)))) <| sg 1 kj <| Qae <| hK23 _ _ <| sgA kj ?_
 show Code.rounds _ _ _ 2 _ _
 show Code.wp _ _ (Exit.then (Code.rounds _ _ _ 1) _) _ _
 refine sgB kj <| sgT kj <| wp_seq_k fun K27 hK27=>wp_block <| sgC fun K28 hK28=>Qaa (.pointer (some ⟨gch_12,och_12+3,none⟩)) 30 rfl kj (Qaw 33 _ _ .i64 3 gch_12 och_12 4 c_t 5 a_t _ hah_12 rfl rfl kj kj kj kj (Nat.lt_of_lt_of_eq (show 3<4 by omega) hnh_12.symm)) <| Qaa (.int .u8 ((((m%256):Nat):Int))) 31 rfl kj (Qap 5 _ _ (.int .u8 ((((m%256):Nat):Int))) ((hch_12 3 (Nat.lt_of_lt_of_eq (show 3<4 by omega) hnh_12.symm)).trans (congrArg (fun z=>some (Value.int .u8 z)) rfl)) rfl kj kj) <| sg 1 kj <| sgN hK28 <| Qac ?_
 refine sg 1 kj <| Qaa (.int .i64 ((((m/256)*256:Nat):Int))) 33 rfl kj (QaP .shl _ _ _ _ .i64 .u64 _ _ _ rfl kj kj (Qcv _ _ _ _ _ _ (by decide) (QbE _ (by omega)))) <| sg 1 kj <| Qaa (.int .i64 ((((m%256):Nat):Int))) 35 rfl kj (Qad (u:=.int .i64 (IntKind.i64.wrap ((((m%256):Nat):Int)))) kj (congrArg (Value.int .i64) (IntWalk.i64_in _ (by omega)))) <| Qaa (.int .i64 (((m:Nat):Int))) 36 rfl kj (Qad (u:=.int .i64 (bits .or .i64 ((((m/256)*256:Nat):Int)) ((((m%256):Nat):Int)))) kj (congrArg (Value.int .i64) (Qct (m/256) (m%256) m (by omega) (by omega) (by omega)))) <| sg 1 kj <| Qae <| hK27 _ _ <| sgA kj ?_
 show Code.rounds _ _ _ 1 _ _
 show Code.wp _ _ (Exit.then (Code.rounds _ _ _ 0) _) _ _
 refine sgB kj <| wp_seq_k fun K30 hK30=>cond_false kj <| wp_exit <| hK10 _ _ <| wp_seq_k fun K31 hK31=>sgC fun K32 hK32=>sg 4 kj <| Qan (.nilIface) 88 #[.pointer (some ⟨g,0,none⟩),.int .i64 (((m:Nat):Int))] 42 rfl kj kj (errV_nil hc▸checkC g nx B ((m:Nat):Int) hnx hB sk rk next hsk hrk _ hg) fun W1 e1=>?_
 have x1:=Ext.tr (Rely.Ext.refl w) e1
 refine sg 1 kj <| sgN hK32 <| sgB kj <| cond_false kj <| wp_skip <| hK31 _ _ <| wp_seq_k fun K34 hK34=>QaL 15 [⟨none,[(0,none)]⟩,⟨none,[(47,some 0)]⟩,⟨none,[(48,some 1)]⟩,⟨none,[(49,some 2)]⟩,⟨none,[(6,none)]⟩,⟨none,[(51,some 4)]⟩,⟨none,[(1,none)]⟩,⟨none,[(53,some 6)]⟩,⟨none,[(1,none)]⟩,⟨none,[(55,some 8)]⟩,⟨none,[(50,some 3),(52,some 5),(54,some 7),(56,some 9)]⟩,⟨none,[(57,some 10)]⟩,⟨none,[(46,some 11)]⟩,⟨none,[(46,some 11)]⟩,⟨none,[(58,some 12)]⟩] kj kj fun F hF=>Qay (Qaj _) (.pointer (some ⟨g,0,none⟩)) kj kj (fun W=>by kernel_rfl) <| Qay (Qaj _) (.pointer (some ⟨g,0,none⟩)) kj kj (fun W=>by kernel_rfl) ?_
 refine Qay (Qaj _) (.pointer (some ⟨g,34,none⟩)) kj kj (fun W=>by kernel_rfl) <| Qbi (Qaj _) (.agg (ints .u8 (rk))) kj kj (fun W hR=>(QaS 23 _ g 34 136 _ _ _ (Qab (Qab (Qab hg e1) (Qak _)) hR) rfl kj (QaQ [#[.int .i64 nx],#[.int .u64 ((B:Nat):Int)],ints .u8 (sk)] [ints .u8 (rk)] [#[.int .i64 ((next:Nat):Int)]] 34 (by rw [Qar,Qar,Qar]; simp only [qS,cat,((Qaf _ _).trans hsk)]; rfl)) kj (isz (n:=32) kj ((Qaf _ _).trans hrk)))) ?_
 refine Qay (Qaj _) (.int .i64 (((m:Nat):Int))) kj kj (fun W=>by kernel_rfl) <| QcM (Qaj _) (OwnN .u8 5 W1.heap.size (nonV m)) (OwnN.stable _ _ _ _) 86 #[.int .i64 (((m:Nat):Int))] kj kj (fun W=>by kernel_rfl) (fun W hR=>(QhY W1.heap.size m _ (Rely.Ext.trans (Qak _) hR).size)) <| Qay (Qaj _) (.slice a_t sl.length c_t) kj kj (fun W=>by kernel_rfl) <| Qay (Qaj _) (.slice a_t 4 c_t) kj kj (fun W=>(Qbl (len:=sl.length) 33 _ _ 4 5 rfl kj kj kj .i64 kj (qT h4 ctk))) <| Qay (Qaj _) (.slice a_t sl.length c_t) kj kj (fun W=>by kernel_rfl) <| Qay (Qaj _) (.slice (QbN a_t c_t 4) (sl.length-4) (c_t-4)) kj kj (fun W=>(QbH 33 _ _ 4 5 rfl kj kj kj .i64 kj h4 ctk)) <| Qd5 (Qaj _) (fun v W=>∃ u,v=.tuple #[u,.iface 60 (.int .i64 2)]∧u=.slice none 0 0) (fun _ _ _ _ h=>h) 74 (fun ρ W hR hX=>?_) ?_
 ·skip
  have e50_:ρ 50=.agg (ints .u8 (rk)):=hX.1
  have q52_:(OwnN .u8 5 W1.heap.size (nonV m)) (ρ 52) W:=hX.2.1
  obtain ⟨ar52,cr52,e52_,-⟩:=id (OwnN.rd q52_)
  have rd52_:=OwnN.rd q52_
  rw [e52_] at rd52_
  have e54_:ρ 54=.slice a_t 4 c_t:=hX.2.2.1
  have e56_:ρ 56=.slice (QbN a_t c_t 4) (sl.length-4) (c_t-4):=hX.2.2.2.1
  refine ⟨#[.agg (ints .u8 (rk)),.slice ar52 ((nonV m).length) cr52,.slice a_t 4 c_t,.slice (QbN a_t c_t 4) (sl.length-4) (c_t-4)],Eq.trans (b:=Result.ok (Next.enter 74 #[ρ 50,ρ 52,ρ 54,ρ 56]) W) kj (by rw [e50_,e52_,e54_,e56_]),?_⟩
  exact ((QkW rk (nonV m) (hdV m) fs _ _ _ _ _ _ th tq W (Qab (Qab (Qab hh e1) (Qak _)) hR) (Qab (Qab (Qab hq e1) (Qak _)) hR) hrk rd52_ (RdK.ext (rdKT e4 (RdK.ext ht x1) h4) (Rely.Ext.trans (Qak _) hR)) (RdK.ext (rdKD e5 (RdK.ext ht x1) h4) (Rely.Ext.trans (Qak _) hR)) (QcC _) hfb (Qd1 _) (by rw [QbZ]; decide) (by omega) (by omega) hne).mono fun e W2 hg=>⟨_,hg.1,hg.2,_,rfl,rfl⟩)
 refine Qb6 (Qaj _) (fun v W=>∃ u,v=.tuple #[u,.iface 60 (.int .i64 2)]∧u=.slice none 0 0) (fun _ _ _ _ h=>h) (fun ρ W hR hh=>⟨ρ 57,W,by kernel_rfl,Rely.Ext.refl _,(show (fun v W=>∃ u,v=.tuple #[u,.iface 60 (.int .i64 2)]∧u=.slice none 0 0) (ρ 57) W from hh.1)⟩) <| Qb6 (Qaj _) (fun v W=>v=.slice none 0 0) (fun _ _ _ _ h=>h) (fun ρ W hR hh=>?_) ?_
 ·obtain ⟨u,e,h⟩:=(show (fun v W=>∃ u,v=.tuple #[u,.iface 60 (.int .i64 2)]∧u=.slice none 0 0) (ρ 46) W from hh.1)
  exact ⟨_,W,Qba (.tmp 46) 0 #[u,.iface 60 (.int .i64 2)] _ rfl e rfl,Rely.Ext.refl _,h⟩
 refine Qb6 (Qaj _) (fun v W=>v=.iface 60 (.int .i64 2)) (fun _ _ _ _ h=>h) (fun ρ W hR hh=>?_) ?_
 ·obtain ⟨u,e,h⟩:=(show (fun v W=>∃ u,v=.tuple #[u,.iface 60 (.int .i64 2)]∧u=.slice none 0 0) (ρ 46) W from hh.1)
  exact ⟨_,W,Qba (.tmp 46) 1 #[u,.iface 60 (.int .i64 2)] _ rfl e rfl,Rely.Ext.refl _,rfl⟩
 refine Qb6 (Qaj _) (fun v W=>v=.slice none 0 0) (fun _ _ _ _ h=>h) (fun ρ W hR hh=>⟨ρ 58,W,by kernel_rfl,Rely.Ext.refl _,(show (fun v W=>v=.slice none 0 0) (ρ 58) W from hh.1)⟩) <| Qck (hF _ fun W2 e2=>?_)
 simp only [List.nil_append,List.cons_append,List.take_succ_cons,List.take_zero,List.drop_succ_cons,List.drop_zero,finE,up]
 intro vv35 hv35 vv36 hv36 vv37 hv37 vv38 hv38 vv39 hv39 vv40 hv40
 clear hF
 obtain ⟨a41_,c41_,rfl,-⟩:=id (OwnN.rd hv35)
 subst hv38
 subst hv39
 subst hv40
 refine sg 1 kj <| sgN hK34 <| wp_seq_k fun K42 hK42=>sgB kj <| cond_true kj <| sgB kj <| wp_ret ?_
 repeat (first | with_reducible refine goR1 ?_ | with_reducible refine goR2 ?_)
 exact (show bodyPost _ _ _ .ret _ _ from ret2 (.slice none 0 0) (.iface 60 (.int .i64 2)) rfl (Qaq kj) (Qaq kj) ⟨rfl,(Ext.tr x1 e2)⟩)
set_option maxRecDepth 100000 in
theorem QjM (sl : List Int) (v:Value) (th tq:TypeId) (g:Nat) (nx:Int) (B:Nat) (hnx:0≤nx∧nx≤4294967295) (hB:B<18446744073709551616) (sk rk:List Int) (next:Nat) (hsk:sk.length=32) (hrk:rk.length=32) (w:World) (hg:w.heap[g]? = some (.cells (cat [#[.int .i64 nx],#[.int .u64 ((B:Nat):Int)],ints .u8 (sk),ints .u8 (rk),#[.int .i64 ((next:Nat):Int)]]) 136)) (hh:w.heap[2]? = some (.cells (ints .u32 [1634760805,857760878,2036477234,1797285236]) th)) (hq:w.heap[3]? = some (.cells (ints .i64 [0,4,8,12,1,5,9,13,2,6,10,14,3,7,11,15,0,5,10,15,1,6,11,12,2,7,8,13,3,4,9,14]) tq)) (hnh:2≠g) (hnq:3≠g) (hst:∀ W,ExtB g w W→RdK .u8 W.heap.size sl v W) (m:Nat) (fs:List Int) (e4:sl.take 4=hdV m) (e5:sl.drop 4=fs) (hm:m<4294967296) (h20:20≤sl.length) (hmx:sl.length≤65556) (hsb:Qai sl) (hc:chkW nx B ((m:Nat):Int)=0) (hne:Qbx rk (nonV m) (hdV m) (fs.take (fs.length-16))=fs.drop (fs.length-16)) (text:List Int) (es:mixV (QaF rk (nonV m)) 1 (fs.take (fs.length-16))=text) (nx2:Int) (B2:Nat) (hmk:∀ W:World,W.heap[g]? = some (.cells (cat [#[.int .i64 nx],#[.int .u64 ((B:Nat):Int)],ints .u8 (sk),ints .u8 (rk),#[.int .i64 ((next:Nat):Int)]]) 136)→Calls Tryd.prog 89 #[.pointer (some ⟨g,0,none⟩),.int .i64 ((m:Nat):Int)] W (fun e W2=>e=.returned .nilIface∧ExtB g W W2∧W2.heap[g]? = some (.cells (cat [#[.int .i64 nx2],#[.int .u64 ((B2:Nat):Int)],ints .u8 (sk),ints .u8 (rk),#[.int .i64 ((next:Nat):Int)]]) 136))) :
  Calls Tryd.prog 49 #[.pointer (some ⟨g,0,none⟩),v] w (fun e W=>∃ u,e=.returned (.tuple #[u,.nilIface])∧OwnN .u8 5 w.heap.size text u W∧ExtB g w W∧W.heap[g]? = some (.cells (cat [#[.int .i64 nx2],#[.int .u64 ((B2:Nat):Int)],ints .u8 (sk),ints .u8 (rk),#[.int .i64 ((next:Nat):Int)]]) 136)):=by
 obtain ⟨a_t,c_t,rfl,-⟩:=id (hst _ (ExtB.refl g w))
 have ctk:sl.length≤c_t:=by
  obtain ⟨_,_,e,q2,_⟩:=id (hst _ (ExtB.refl g w))
  simp only [Value.slice.injEq] at e
  obtain ⟨-,-,rfl⟩:=e
  exact q2
 have h4:4≤sl.length:=by omega
 have lfs:fs.length=sl.length-4:=by rw [←e5,List.length_drop]
 have hfb:Qai fs:=fun x hx=>hsb x (List.mem_of_mem_drop (e5▸hx))
 refine enter 72 [(0,.pointer (some ⟨g,0,none⟩)),(1,.slice a_t sl.length c_t)] Tryd.func49 rfl rfl kj rfl <| sgB kj <| wp_seq_k fun K5 hK5=>sgB kj <| cond_false kj <| wp_skip <| hK5 _ _ <| wp_seq_k fun K7 hK7=>sgC fun K8 hK8=>sg 2 kj ?_
 refine Qaa (.bool false) 18 rfl kj (Qad (u:=.bool (decide (((sl.length:Nat):Int)<20))) kj (congrArg Value.bool (decide_eq_false (by omega)))) <| sg 3 kj <| Qaa (.bool false) 22 rfl kj (Qad (u:=.bool (decide (((sl.length:Nat):Int)>65556))) kj (congrArg Value.bool (decide_eq_false (by omega)))) <| sg 1 kj <| sgN hK8 <| cond_false kj <| wp_skip <| hK7 _ _ <| sgB kj <| wp_seq_k fun K10 hK10=>?_
 refine sgC fun K11 hK11=>sg 1 kj <| Qaa (.slice a_t 4 c_t) 26 rfl kj (Qbl (len:=sl.length) 33 _ _ 4 5 rfl kj kj kj .i64 kj (qT h4 ctk)) <| sg 2 kj <| sgN hK11 <| wp_block ?_
 have hnh_12:(hdV m).length=4:=(QbZ m)
 obtain ⟨gch_12,och_12,hah_12,hlh_12,hch_12⟩:=Qbr (rdKT e4 (hst _ (ExtB.refl g w)) h4) (by rw [hnh_12]; omega)
 refine wp_loop_rounds 5 ?_
 show Code.wp _ _ (Exit.then (Code.rounds _ _ _ 4) _) _ _
 refine sgB kj <| sgT kj <| wp_seq_k fun K15 hK15=>wp_block <| sgC fun K16 hK16=>Qaa (.pointer (some ⟨gch_12,och_12+0,none⟩)) 30 rfl kj (Qaw 33 _ _ .i64 0 gch_12 och_12 4 c_t 5 a_t _ hah_12 rfl rfl kj kj kj kj (Nat.lt_of_lt_of_eq (show 0<4 by omega) hnh_12.symm)) <| Qaa (.int .u8 ((((m/16777216%256):Nat):Int))) 31 rfl kj (Qap 5 _ _ (.int .u8 ((((m/16777216%256):Nat):Int))) ((hch_12 0 (Nat.lt_of_lt_of_eq (show 0<4 by omega) hnh_12.symm)).trans (congrArg (fun z=>some (Value.int .u8 z)) rfl)) rfl kj kj) <| sg 1 kj <| sgN hK16 <| Qac ?_
 refine sg 1 kj <| Qaa (.int .i64 (((0*256:Nat):Int))) 33 rfl kj (QaP .shl _ _ _ _ .i64 .u64 _ _ _ rfl kj kj (Qcv _ _ _ _ _ _ (by decide) (QbE _ (by omega)))) <| sg 1 kj <| Qaa (.int .i64 ((((m/16777216%256):Nat):Int))) 35 rfl kj (Qad (u:=.int .i64 (IntKind.i64.wrap ((((m/16777216%256):Nat):Int)))) kj (congrArg (Value.int .i64) (IntWalk.i64_in _ (by omega)))) <| Qaa (.int .i64 ((((m/16777216):Nat):Int))) 36 rfl kj (Qad (u:=.int .i64 (bits .or .i64 (((0*256:Nat):Int)) ((((m/16777216%256):Nat):Int)))) kj (congrArg (Value.int .i64) (Qct 0 (m/16777216%256) (m/16777216) (by omega) (by omega) (by omega)))) <| sg 1 kj <| Qae <| hK15 _ _ <| sgA kj ?_
 show Code.rounds _ _ _ 4 _ _
 show Code.wp _ _ (Exit.then (Code.rounds _ _ _ 3) _) _ _
 refine sgB kj <| sgT kj <| wp_seq_k fun K19 hK19=>wp_block <| sgC fun K20 hK20=>Qaa (.pointer (some ⟨gch_12,och_12+1,none⟩)) 30 rfl kj (Qaw 33 _ _ .i64 1 gch_12 och_12 4 c_t 5 a_t _ hah_12 rfl rfl kj kj kj kj (Nat.lt_of_lt_of_eq (show 1<4 by omega) hnh_12.symm)) <| Qaa (.int .u8 ((((m/65536%256):Nat):Int))) 31 rfl kj (Qap 5 _ _ (.int .u8 ((((m/65536%256):Nat):Int))) ((hch_12 1 (Nat.lt_of_lt_of_eq (show 1<4 by omega) hnh_12.symm)).trans (congrArg (fun z=>some (Value.int .u8 z)) rfl)) rfl kj kj) <| sg 1 kj <| sgN hK20 <| Qac ?_
 refine sg 1 kj <| Qaa (.int .i64 ((((m/16777216)*256:Nat):Int))) 33 rfl kj (QaP .shl _ _ _ _ .i64 .u64 _ _ _ rfl kj kj (Qcv _ _ _ _ _ _ (by decide) (QbE _ (by omega)))) <| sg 1 kj <| Qaa (.int .i64 ((((m/65536%256):Nat):Int))) 35 rfl kj (Qad (u:=.int .i64 (IntKind.i64.wrap ((((m/65536%256):Nat):Int)))) kj (congrArg (Value.int .i64) (IntWalk.i64_in _ (by omega)))) <| Qaa (.int .i64 ((((m/65536):Nat):Int))) 36 rfl kj (Qad (u:=.int .i64 (bits .or .i64 ((((m/16777216)*256:Nat):Int)) ((((m/65536%256):Nat):Int)))) kj (congrArg (Value.int .i64) (Qct (m/16777216) (m/65536%256) (m/65536) (by omega) (by omega) (by omega)))) <| sg 1 kj <| Qae <| hK19 _ _ <| sgA kj ?_
 show Code.rounds _ _ _ 3 _ _
 show Code.wp _ _ (Exit.then (Code.rounds _ _ _ 2) _) _ _
 refine sgB kj <| sgT kj <| wp_seq_k fun K23 hK23=>wp_block <| sgC fun K24 hK24=>Qaa (.pointer (some ⟨gch_12,och_12+2,none⟩)) 30 rfl kj (Qaw 33 _ _ .i64 2 gch_12 och_12 4 c_t 5 a_t _ hah_12 rfl rfl kj kj kj kj (Nat.lt_of_lt_of_eq (show 2<4 by omega) hnh_12.symm)) <| Qaa (.int .u8 ((((m/256%256):Nat):Int))) 31 rfl kj (Qap 5 _ _ (.int .u8 ((((m/256%256):Nat):Int))) ((hch_12 2 (Nat.lt_of_lt_of_eq (show 2<4 by omega) hnh_12.symm)).trans (congrArg (fun z=>some (Value.int .u8 z)) rfl)) rfl kj kj) <| sg 1 kj <| sgN hK24 <| Qac ?_
 refine sg 1 kj <| Qaa (.int .i64 ((((m/65536)*256:Nat):Int))) 33 rfl kj (QaP .shl _ _ _ _ .i64 .u64 _ _ _ rfl kj kj (Qcv _ _ _ _ _ _ (by decide) (QbE _ (by omega)))) <| sg 1 kj <| Qaa (.int .i64 ((((m/256%256):Nat):Int))) 35 rfl kj (Qad (u:=.int .i64 (IntKind.i64.wrap ((((m/256%256):Nat):Int)))) kj (congrArg (Value.int .i64) (IntWalk.i64_in _ (by omega)))) <| Qaa (.int .i64 ((((m/256):Nat):Int))) 36 rfl kj (Qad (u:=.int .i64 (bits .or .i64 ((((m/65536)*256:Nat):Int)) ((((m/256%256):Nat):Int)))) kj (congrArg (Value.int .i64) (Qct (m/65536) (m/256%256) (m/256) (by omega) (by omega) (by omega)))) <| sg 1 kj <| Qae <| hK23 _ _ <| sgA kj ?_
 show Code.rounds _ _ _ 2 _ _
 show Code.wp _ _ (Exit.then (Code.rounds _ _ _ 1) _) _ _
 refine sgB kj <| sgT kj <| wp_seq_k fun K27 hK27=>wp_block <| sgC fun K28 hK28=>Qaa (.pointer (some ⟨gch_12,och_12+3,none⟩)) 30 rfl kj (Qaw 33 _ _ .i64 3 gch_12 och_12 4 c_t 5 a_t _ hah_12 rfl rfl kj kj kj kj (Nat.lt_of_lt_of_eq (show 3<4 by omega) hnh_12.symm)) <| Qaa (.int .u8 ((((m%256):Nat):Int))) 31 rfl kj (Qap 5 _ _ (.int .u8 ((((m%256):Nat):Int))) ((hch_12 3 (Nat.lt_of_lt_of_eq (show 3<4 by omega) hnh_12.symm)).trans (congrArg (fun z=>some (Value.int .u8 z)) rfl)) rfl kj kj) <| sg 1 kj <| sgN hK28 <| Qac ?_
 refine sg 1 kj <| Qaa (.int .i64 ((((m/256)*256:Nat):Int))) 33 rfl kj (QaP .shl _ _ _ _ .i64 .u64 _ _ _ rfl kj kj (Qcv _ _ _ _ _ _ (by decide) (QbE _ (by omega)))) <| sg 1 kj <| Qaa (.int .i64 ((((m%256):Nat):Int))) 35 rfl kj (Qad (u:=.int .i64 (IntKind.i64.wrap ((((m%256):Nat):Int)))) kj (congrArg (Value.int .i64) (IntWalk.i64_in _ (by omega)))) <| Qaa (.int .i64 (((m:Nat):Int))) 36 rfl kj (Qad (u:=.int .i64 (bits .or .i64 ((((m/256)*256:Nat):Int)) ((((m%256):Nat):Int)))) kj (congrArg (Value.int .i64) (Qct (m/256) (m%256) m (by omega) (by omega) (by omega)))) <| sg 1 kj <| Qae <| hK27 _ _ <| sgA kj ?_
 show Code.rounds _ _ _ 1 _ _
 show Code.wp _ _ (Exit.then (Code.rounds _ _ _ 0) _) _ _
 refine sgB kj <| wp_seq_k fun K30 hK30=>cond_false kj <| wp_exit <| hK10 _ _ <| wp_seq_k fun K31 hK31=>sgC fun K32 hK32=>sg 4 kj <| Qan (.nilIface) 88 #[.pointer (some ⟨g,0,none⟩),.int .i64 (((m:Nat):Int))] 42 rfl kj kj (errV_nil hc▸checkC g nx B ((m:Nat):Int) hnx hB sk rk next hsk hrk _ hg) fun W1 e1=>?_
 have x1:=ExtB.ext (ExtB.refl g w) e1
 refine sg 1 kj <| sgN hK32 <| sgB kj <| cond_false kj <| wp_skip <| hK31 _ _ <| wp_seq_k fun K34 hK34=>QaL 15 [⟨none,[(0,none)]⟩,⟨none,[(47,some 0)]⟩,⟨none,[(48,some 1)]⟩,⟨none,[(49,some 2)]⟩,⟨none,[(6,none)]⟩,⟨none,[(51,some 4)]⟩,⟨none,[(1,none)]⟩,⟨none,[(53,some 6)]⟩,⟨none,[(1,none)]⟩,⟨none,[(55,some 8)]⟩,⟨none,[(50,some 3),(52,some 5),(54,some 7),(56,some 9)]⟩,⟨none,[(57,some 10)]⟩,⟨none,[(46,some 11)]⟩,⟨none,[(46,some 11)]⟩,⟨none,[(58,some 12)]⟩] kj kj fun F hF=>Qay (Qaj _) (.pointer (some ⟨g,0,none⟩)) kj kj (fun W=>by kernel_rfl) <| Qay (Qaj _) (.pointer (some ⟨g,0,none⟩)) kj kj (fun W=>by kernel_rfl) ?_
 refine Qay (Qaj _) (.pointer (some ⟨g,34,none⟩)) kj kj (fun W=>by kernel_rfl) ?_
 have r1_1:=(Qab hg e1)
 refine Qbi (Qaj _) (.agg (ints .u8 (rk))) kj kj (fun W hR=>(QaS 23 _ g 34 136 _ _ _ (Qab (Qab r1_1 (Qak _)) hR) rfl kj (QaQ [#[.int .i64 nx],#[.int .u64 ((B:Nat):Int)],ints .u8 (sk)] [ints .u8 (rk)] [#[.int .i64 ((next:Nat):Int)]] 34 (by rw [Qar,Qar,Qar]; simp only [qS,cat,((Qaf _ _).trans hsk)]; rfl)) kj (isz (n:=32) kj ((Qaf _ _).trans hrk)))) ?_
 refine Qay (Qaj _) (.int .i64 (((m:Nat):Int))) kj kj (fun W=>by kernel_rfl) <| QcM (Qaj _) (OwnN .u8 5 W1.heap.size (nonV m)) (OwnN.stable _ _ _ _) 86 #[.int .i64 (((m:Nat):Int))] kj kj (fun W=>by kernel_rfl) (fun W hR=>(QhY W1.heap.size m _ (Rely.Ext.trans (Qak _) hR).size)) <| Qay (Qaj _) (.slice a_t sl.length c_t) kj kj (fun W=>by kernel_rfl) <| Qay (Qaj _) (.slice a_t 4 c_t) kj kj (fun W=>(Qbl (len:=sl.length) 33 _ _ 4 5 rfl kj kj kj .i64 kj (qT h4 ctk))) <| Qay (Qaj _) (.slice a_t sl.length c_t) kj kj (fun W=>by kernel_rfl) <| Qay (Qaj _) (.slice (QbN a_t c_t 4) (sl.length-4) (c_t-4)) kj kj (fun W=>(QbH 33 _ _ 4 5 rfl kj kj kj .i64 kj h4 ctk)) <| Qd5 (Qaj _) (MixR W1.heap.size text) (Qdd _ _) 74 (fun ρ W hR hX=>?_) ?_
 ·skip
  have e50_:ρ 50=.agg (ints .u8 (rk)):=hX.1
  have q52_:(OwnN .u8 5 W1.heap.size (nonV m)) (ρ 52) W:=hX.2.1
  obtain ⟨ar52,cr52,e52_,-⟩:=id (OwnN.rd q52_)
  have rd52_:=OwnN.rd q52_
  rw [e52_] at rd52_
  have e54_:ρ 54=.slice a_t 4 c_t:=hX.2.2.1
  have e56_:ρ 56=.slice (QbN a_t c_t 4) (sl.length-4) (c_t-4):=hX.2.2.2.1
  refine ⟨#[.agg (ints .u8 (rk)),.slice ar52 ((nonV m).length) cr52,.slice a_t 4 c_t,.slice (QbN a_t c_t 4) (sl.length-4) (c_t-4)],Eq.trans (b:=Result.ok (Next.enter 74 #[ρ 50,ρ 52,ρ 54,ρ 56]) W) kj (by rw [e50_,e52_,e54_,e56_]),?_⟩
  exact ((QkX rk (nonV m) (hdV m) fs _ _ _ _ _ _ th tq W (Qab (Qab (Qab hh e1) (Qak _)) hR) (Qab (Qab (Qab hq e1) (Qak _)) hR) hrk rd52_ (RdK.ext (rdKT e4 (hst _ x1) h4) (Rely.Ext.trans (Qak _) hR)) (RdK.ext (rdKD e5 (hst _ x1) h4) (Rely.Ext.trans (Qak _) hR)) (QcC _) hfb (Qd1 _) (by rw [QbZ]; decide) (by omega) (by omega) hne).mono fun e W2 hg=>by obtain ⟨v2,e1,e2,u,e3,e4⟩:=hg; rw [es] at e4; exact ⟨v2,e1,e2,u,e3,e4.base (Rely.Ext.trans (Qak _) hR).size⟩)
 refine Qb6 (Qaj _) (MixR W1.heap.size text) (Qdd _ _) (fun ρ W hR hh=>⟨ρ 57,W,by kernel_rfl,Rely.Ext.refl _,(show (MixR W1.heap.size text) (ρ 57) W from hh.1)⟩) <| Qb6 (Qaj _) (OwnN .u8 5 W1.heap.size text) (OwnN.stable _ _ _ _) (fun ρ W hR hh=>?_) ?_
 ·obtain ⟨u,e,h⟩:=(show (MixR W1.heap.size text) (ρ 46) W from hh.1)
  exact ⟨_,W,Qba (.tmp 46) 0 #[u,.nilIface] _ rfl e rfl,Rely.Ext.refl _,h⟩
 refine Qb6 (Qaj _) (fun v W=>v=.nilIface) (fun _ _ _ _ h=>h) (fun ρ W hR hh=>?_) ?_
 ·obtain ⟨u,e,h⟩:=(show (MixR W1.heap.size text) (ρ 46) W from hh.1)
  exact ⟨_,W,Qba (.tmp 46) 1 #[u,.nilIface] _ rfl e rfl,Rely.Ext.refl _,rfl⟩
 refine Qb6 (Qaj _) (OwnN .u8 5 W1.heap.size text) (OwnN.stable _ _ _ _) (fun ρ W hR hh=>⟨ρ 58,W,by kernel_rfl,Rely.Ext.refl _,(show (OwnN .u8 5 W1.heap.size text) (ρ 58) W from hh.1)⟩) <| Qck (hF _ fun W2 e2=>?_)
 simp only [List.nil_append,List.cons_append,List.take_succ_cons,List.take_zero,List.drop_succ_cons,List.drop_zero,finE,up]
 intro vv35 hv35 vv36 hv36 vv37 hv37 vv38 hv38 vv39 hv39 vv40 hv40
 clear hF
 obtain ⟨a41_,c41_,rfl,-⟩:=id (OwnN.rd hv35)
 obtain ⟨a42_,c42_,rfl,-⟩:=id (OwnN.rd hv38)
 subst hv39
 obtain ⟨a43_,c43_,rfl,-⟩:=id (OwnN.rd hv40)
 refine sg 1 kj <| sgN hK34 <| wp_seq_k fun K44 hK44=>sgB kj <| cond_false kj <| wp_skip <| hK44 _ _ <| wp_seq_k fun K46 hK46=>sgC fun K47 hK47=>sg 4 kj ?_
 refine Qat (fun v W'=>v=.nilIface∧ExtB g W2 W'∧W'.heap[g]? = some (.cells (cat [#[.int .i64 nx2],#[.int .u64 ((B2:Nat):Int)],ints .u8 (sk),ints .u8 (rk),#[.int .i64 ((next:Nat):Int)]]) 136)) 89 #[.pointer (some ⟨g,0,none⟩),.int .i64 (((m:Nat):Int))] 67 rfl kj kj ((hmk _ (Qab r1_1 e2)).mono fun e w' ⟨h1,h2,h3⟩=>⟨_,h1,rfl,h2,h3⟩) fun v W3 h=>?_
 obtain ⟨rfl,q3,r1_3⟩:=h
 refine sg 1 kj <| sgN hK47 <| sgB kj <| cond_false kj <| wp_skip <| hK46 _ _ <| sgB kj <| wp_ret ?_
 repeat (first | with_reducible refine goR1 ?_ | with_reducible refine goR2 ?_)
 exact (show bodyPost _ _ _ .ret _ _ from ret2 (.slice a43_ ((text).length) c43_) (.nilIface) rfl (Qaq kj) (Qaq kj) ⟨_,rfl,OwnN.base x1.2.2.2.1 (Qbs hv40 q3 (Qc9 hv40 (Qa0 r1_1))),(ExtB.trans (ExtB.ext x1 e2) q3),r1_3⟩)
end Go.Proofs.YtoiendjhplbjjaaDoor.Ll
end
section
namespace Go.Proofs.YtoiendjhplbjjaaDoor.Ll
open Go Go.RowKit
open Rely Auto Own Sha Sha
open Cha Ae
theorem QjP (text : List Int) (v:Value) (B0:Nat) (g:Nat) (nx:Int) (B:Nat) (hnx:0≤nx∧nx≤4294967295) (hB:B<18446744073709551616) (sk rk:List Int) (next:Nat) (hsk:sk.length=32) (hrk:rk.length=32) (w:World) (hg:w.heap[g]? = some (.cells (cat [#[.int .i64 nx],#[.int .u64 ((B:Nat):Int)],ints .u8 (sk),ints .u8 (rk),#[.int .i64 ((next:Nat):Int)]]) 136)) (ht:RdK .u8 B0 text v w) (h:65536<text.length) :
    Calls Tryd.prog 46 #[.pointer (some ⟨g,0,none⟩),v] w (Ret w (.tuple #[.slice none 0 0,.iface 60 (.int .i64 1)])):=by
  obtain ⟨a_t,c_t,rfl,-⟩:=id ht
  refine enter 64 [(0,.pointer (some ⟨g,0,none⟩)),(1,.slice a_t text.length c_t)] Tryd.func46 rfl rfl kj rfl <| sgB kj <| wp_seq_k fun K3 hK3=>sgB kj <| cond_false kj <| wp_skip <| hK3 _ _ <| wp_seq_k fun K5 hK5=>sgC fun K6 hK6=>sg 2 kj ?_
  refine Qaa (.bool true) 15 rfl kj (Qad (u:=.bool (decide (((text.length:Nat):Int)>65536))) kj (congrArg Value.bool (decide_eq_true (by omega)))) <| sgN hK6 <| cond_true kj <| sgB kj <| wp_ret ?_
  repeat (first | with_reducible refine goR1 ?_ | with_reducible refine goR2 ?_)
  exact (show bodyPost _ _ _ .ret _ _ from ret2 (.slice none 0 0) (.iface 60 (.int .i64 1)) rfl (Qaq kj) (Qaq kj) ⟨rfl,(Rely.Ext.refl w)⟩)
theorem QjO (text : List Int) (v:Value) (B0:Nat) (g:Nat) (nx:Int) (B:Nat) (hnx:0≤nx∧nx≤4294967295) (hB:B<18446744073709551616) (sk rk:List Int) (next:Nat) (hsk:sk.length=32) (hrk:rk.length=32) (w:World) (hg:w.heap[g]? = some (.cells (cat [#[.int .i64 nx],#[.int .u64 ((B:Nat):Int)],ints .u8 (sk),ints .u8 (rk),#[.int .i64 ((next:Nat):Int)]]) 136)) (ht:RdK .u8 B0 text v w) (htl:text.length≤65536) (hu:next=4294967295) :
    Calls Tryd.prog 46 #[.pointer (some ⟨g,0,none⟩),v] w (Ret w (.tuple #[.slice none 0 0,.iface 60 (.int .i64 8)])):=by
  obtain ⟨a_t,c_t,rfl,-⟩:=id ht
  refine enter 64 [(0,.pointer (some ⟨g,0,none⟩)),(1,.slice a_t text.length c_t)] Tryd.func46 rfl rfl kj rfl <| sgB kj <| wp_seq_k fun K3 hK3=>sgB kj <| cond_false kj <| wp_skip <| hK3 _ _ <| wp_seq_k fun K5 hK5=>sgC fun K6 hK6=>sg 2 kj ?_
  refine Qaa (.bool false) 15 rfl kj (Qad (u:=.bool (decide (((text.length:Nat):Int)>65536))) kj (congrArg Value.bool (decide_eq_false (by omega)))) <| sgN hK6 <| cond_false kj <| wp_skip <| hK5 _ _ <| wp_seq_k fun K7 hK7=>sgC fun K8 hK8=>sg 3 kj <| Qaa (.int .i64 ((next:Nat):Int)) 20 rfl kj (Qah 3 _ g 66 136 _ (.int .i64 ((next:Nat):Int)) _ hg rfl kj (QaQ [#[.int .i64 nx],#[.int .u64 ((B:Nat):Int)],ints .u8 (sk),ints .u8 (rk)] [#[.int .i64 ((next:Nat):Int)]] [] 66 (by rw [Qar,Qar,Qar,Qar]; simp only [qS,cat,((Qaf _ _).trans hrk),((Qaf _ _).trans hsk)]; rfl) 0 _ rfl) kj) ?_
  refine Qaa (.bool true) 21 rfl kj (Qad (u:=.bool ((((next:Nat):Int)==4294967295))) kj (congrArg Value.bool (beq_iff_eq.2 (by omega)))) <| sgN hK8 <| cond_true kj <| sgB kj <| wp_ret ?_
  repeat (first | with_reducible refine goR1 ?_ | with_reducible refine goR2 ?_)
  exact (show bodyPost _ _ _ .ret _ _ from ret2 (.slice none 0 0) (.iface 60 (.int .i64 8)) rfl (Qaq kj) (Qaq kj) ⟨rfl,(Rely.Ext.refl w)⟩)
theorem Qkj (g : Nat) (nx:Int) (B:Nat) (hnx:0≤nx∧nx≤4294967295) (hB:B<18446744073709551616) (sk rk:List Int) (next:Nat) (hsk:sk.length=32) (hrk:rk.length=32) (w:World) (hg:w.heap[g]? = some (.cells (cat [#[.int .i64 nx],#[.int .u64 ((B:Nat):Int)],ints .u8 (sk),ints .u8 (rk),#[.int .i64 ((next:Nat):Int)]]) 136)) (n:Int) (h:n<((next:Nat):Int)):Calls Tryd.prog 48 #[.pointer (some ⟨g,0,none⟩),.int .i64 n] w (Ret w (.bool false)):=by
  refine enter 23 [(0,.pointer (some ⟨g,0,none⟩)),(1,.int .i64 n)] Tryd.func48 rfl rfl kj rfl <| sgB kj <| wp_seq_k fun K3 hK3=>sgC fun K4 hK4=>sg 7 kj <| Qaa (.int .i64 ((next:Nat):Int)) 12 rfl kj (Qah 3 _ g 66 136 _ (.int .i64 ((next:Nat):Int)) _ hg rfl kj (QaQ [#[.int .i64 nx],#[.int .u64 ((B:Nat):Int)],ints .u8 (sk),ints .u8 (rk)] [#[.int .i64 ((next:Nat):Int)]] [] 66 (by rw [Qar,Qar,Qar,Qar]; simp only [qS,cat,((Qaf _ _).trans hrk),((Qaf _ _).trans hsk)]; rfl) 0 _ rfl) kj) ?_
  refine Qaa (.bool true) 13 rfl kj (Qad (u:=.bool (decide (n<((next:Nat):Int)))) kj (congrArg Value.bool (decide_eq_true (by omega)))) <| sg 5 kj <| sgN hK4 <| cond_true kj <| sgB kj <| wp_ret ?_
  repeat (first | with_reducible refine goR1 ?_ | with_reducible refine goR2 ?_)
  exact (show bodyPost _ _ _ .ret _ _ from ret1 (.bool false) rfl (Qaq kj) ⟨rfl,(Rely.Ext.refl w)⟩)
theorem Qkk (g : Nat) (nx:Int) (B:Nat) (hnx:0≤nx∧nx≤4294967295) (hB:B<18446744073709551616) (sk rk:List Int) (next:Nat) (hsk:sk.length=32) (hrk:rk.length=32) (w:World) (hg:w.heap[g]? = some (.cells (cat [#[.int .i64 nx],#[.int .u64 ((B:Nat):Int)],ints .u8 (sk),ints .u8 (rk),#[.int .i64 ((next:Nat):Int)]]) 136)) (n:Int) (h0:((next:Nat):Int)≤n) (h:4294967295<n):Calls Tryd.prog 48 #[.pointer (some ⟨g,0,none⟩),.int .i64 n] w (Ret w (.bool false)):=by
  refine enter 23 [(0,.pointer (some ⟨g,0,none⟩)),(1,.int .i64 n)] Tryd.func48 rfl rfl kj rfl <| sgB kj <| wp_seq_k fun K3 hK3=>sgC fun K4 hK4=>sg 7 kj <| Qaa (.int .i64 ((next:Nat):Int)) 12 rfl kj (Qah 3 _ g 66 136 _ (.int .i64 ((next:Nat):Int)) _ hg rfl kj (QaQ [#[.int .i64 nx],#[.int .u64 ((B:Nat):Int)],ints .u8 (sk),ints .u8 (rk)] [#[.int .i64 ((next:Nat):Int)]] [] 66 (by rw [Qar,Qar,Qar,Qar]; simp only [qS,cat,((Qaf _ _).trans hrk),((Qaf _ _).trans hsk)]; rfl) 0 _ rfl) kj) ?_
  refine Qaa (.bool false) 13 rfl kj (Qad (u:=.bool (decide (n<((next:Nat):Int)))) kj (congrArg Value.bool (decide_eq_false (by omega)))) <| sg 3 kj <| Qaa (.bool true) 17 rfl kj (Qad (u:=.bool (decide (n>4294967295))) kj (congrArg Value.bool (decide_eq_true (by omega)))) <| sg 1 kj <| sgN hK4 <| cond_true kj <| sgB kj <| wp_ret ?_
  repeat (first | with_reducible refine goR1 ?_ | with_reducible refine goR2 ?_)
  exact (show bodyPost _ _ _ .ret _ _ from ret1 (.bool false) rfl (Qaq kj) ⟨rfl,(Rely.Ext.refl w)⟩)
theorem Qkl (g : Nat) (nx:Int) (B:Nat) (hnx:0≤nx∧nx≤4294967295) (hB:B<18446744073709551616) (sk rk:List Int) (next:Nat) (hsk:sk.length=32) (hrk:rk.length=32) (w:World) (hg:w.heap[g]? = some (.cells (cat [#[.int .i64 nx],#[.int .u64 ((B:Nat):Int)],ints .u8 (sk),ints .u8 (rk),#[.int .i64 ((next:Nat):Int)]]) 136)) (m:Nat) (h0:next≤m) (h:m≤4294967295):Calls Tryd.prog 48 #[.pointer (some ⟨g,0,none⟩),.int .i64 ((m:Nat):Int)] w (fun e W=>e=.returned (.bool true)∧ExtB g w W∧W.heap[g]? = some (.cells (cat [#[.int .i64 nx],#[.int .u64 ((B:Nat):Int)],ints .u8 (sk),ints .u8 (rk),#[.int .i64 ((m:Nat):Int)]]) 136)):=by
  refine enter 23 [(0,.pointer (some ⟨g,0,none⟩)),(1,.int .i64 ((m:Nat):Int))] Tryd.func48 rfl rfl kj rfl <| sgB kj <| wp_seq_k fun K3 hK3=>sgC fun K4 hK4=>sg 7 kj <| Qaa (.int .i64 ((next:Nat):Int)) 12 rfl kj (Qah 3 _ g 66 136 _ (.int .i64 ((next:Nat):Int)) _ hg rfl kj (QaQ [#[.int .i64 nx],#[.int .u64 ((B:Nat):Int)],ints .u8 (sk),ints .u8 (rk)] [#[.int .i64 ((next:Nat):Int)]] [] 66 (by rw [Qar,Qar,Qar,Qar]; simp only [qS,cat,((Qaf _ _).trans hrk),((Qaf _ _).trans hsk)]; rfl) 0 _ rfl) kj) ?_
  refine Qaa (.bool false) 13 rfl kj (Qad (u:=.bool (decide (((m:Nat):Int)<((next:Nat):Int)))) kj (congrArg Value.bool (decide_eq_false (by omega)))) <| sg 3 kj <| Qaa (.bool false) 17 rfl kj (Qad (u:=.bool (decide (((m:Nat):Int)>4294967295))) kj (congrArg Value.bool (decide_eq_false (by omega)))) <| sg 1 kj <| sgN hK4 <| cond_false kj <| wp_skip <| hK3 _ _ <| sgC fun K5 hK5=>sg 4 kj ?_
  refine Qal g _ (cat [#[.int .i64 nx],#[.int .u64 ((B:Nat):Int)],ints .u8 (sk),ints .u8 (rk),#[.int .i64 ((m:Nat):Int)]]) 136 hg rfl kj (run_storeQ 3 _ _ g 66 136 [#[.int .i64 nx],#[.int .u64 ((B:Nat):Int)],ints .u8 (sk),ints .u8 (rk)] [] _ (.int .i64 ((m:Nat):Int)) hg rfl kj kj kj (by rw [Qar,Qar,Qar,Qar]; simp only [qS,cat,((Qaf _ _).trans hrk),((Qaf _ _).trans hsk)]; rfl) rfl rfl) fun W1 p1 r1_1=>?_
  refine sgN hK5 <| sgB kj <| wp_ret ?_
  repeat (first | with_reducible refine goR1 ?_ | with_reducible refine goR2 ?_)
  exact (show bodyPost _ _ _ .ret _ _ from ret1 (.bool true) rfl (Qaq kj) ⟨rfl,(ExtB.puts (ExtB.refl g w) p1),r1_1⟩)
end Go.Proofs.YtoiendjhplbjjaaDoor.Ll
end
section
namespace Go.Proofs.YtoiendjhplbjjaaDoor.Ll
open Go Go.RowKit
open Rely Auto Own Sha Sha
open Cha Ae
def hiF (a : Int) (ts:List Int):Int:=ts.foldl (fun a x=>if x>a then x else a) a
theorem QgO (a : Int) (ts:List Int) (k:Nat) (hk:k<ts.length):hiF a (ts.take (k+1))=if nth ts k>hiF a (ts.take k) then nth ts k else hiF a (ts.take k):=by
  have h:ts.take (k+1)=ts.take k++[nth ts k]:=by
    rw [List.take_add_one]
    congr 1
    simp [nth,List.getElem?_eq_getElem hk]
  rw [h]
  unfold hiF
  rw [List.foldl_append]
  rfl
theorem Qkq (a : Int) (ts:List Int):hiF a (ts.take ts.length)=hiF a ts:=by rw [List.take_length]
theorem Qkt (a : Nat):IntKind.u8.wrap ((a%256:Nat):Int)=((a%256:Nat):Int):=by
  have h3:∀ z:Int,IntKind.u8.wrap z=z%256:=fun _=>rfl
  rw [h3]; omega
theorem Qev {ts : List Int} (h:∀ m∈ts,0≤m∧m≤4294967294):-1≤hiT ts∧hiT ts≤4294967294:=by
  rcases QgN ts with h4 | h4
  · omega
  · have:=h _ h4; omega
theorem QkG {ts : List Int} {i:Nat} (h:i<ts.length):nth ts i∈ts:=by
  rw [show nth ts i=ts[i] by simp [nth,List.getElem?_eq_getElem h]]
  exact List.getElem_mem h
theorem QkO {ts : List Int} {n:Int} (h:n∈ts):∃ i,i<ts.length∧nth ts i=n:=by
  obtain ⟨i,hi,e⟩:=List.getElem_of_mem h
  exact ⟨i,hi,by rw [show nth ts i=ts[i] by simp [nth,List.getElem?_eq_getElem hi]]; exact e⟩
theorem QkI {ts : List Int} {n:Int} {i:Nat} (hi:i=ts.length) (h:∀ j,j<i→nth ts j≠n):n∉ts:=fun hm=>by
  obtain ⟨j,hj,e⟩:=QkO hm
  exact h j (hi▸hj) e
theorem chk8 {ts : List Int} {n:Int} (h:n<0∨4294967294<n):chkT ts n=8:=if_pos h
theorem Qlo {ts : List Int} {n:Int} (h0:0≤n) (h1:n≤4294967294) (h:n<hiT ts-64):chkT ts n=11:=by unfold chkT; rw [if_neg (by omega),if_pos h]
theorem chk7 {ts : List Int} {n:Int} (h0:0≤n) (h1:n≤4294967294) (h:hiT ts-64≤n) (hm:n∈ts):chkT ts n=7:=by unfold chkT; rw [if_neg (by omega),if_neg (by omega),if_pos hm]
theorem chk0 {ts : List Int} {n:Int} (h0:0≤n) (h1:n≤4294967294) (h:hiT ts-64≤n) (hm:n∉ts):chkT ts n=0:=by unfold chkT; rw [if_neg (by omega),if_neg (by omega),if_neg hm]
theorem Qlm (n : Nat) (w:World) (hn:n≤4294967294):Calls Tryd.prog 87 #[.int .i64 ((n:Nat):Int)] w (QbD w (OwnN .u8 5 w.heap.size (hdV n))):=by
  refine enter 18 [(0,.int .i64 ((n:Nat):Int))] Tryd.func87 rfl rfl kj rfl ?_
  refine wp_seq_k fun K1 hK1=>?_
  refine Qac ?_
  refine Qaa (.slice none 0 0) 2 rfl kj kj ?_
  refine Qae ?_
  refine hK1 _ _ ?_
  refine wp_seq_k fun K2 hK2=>?_
  refine Qac ?_
  refine Qaa (.int .i64 ((n:Nat):Int)) 3 rfl kj kj ?_
  refine Qaa (.int .i64 ((n/16777216:Nat):Int)) 4 rfl kj (Qad (u:=.int .i64 (IntKind.i64.wrap (Int.tdiv (((n:Nat):Int)) (16777216)))) kj (congrArg (Value.int .i64) (Qcu _ 16777216 (by omega)))) ?_
  refine Qaa (.int .u8 (((n/16777216%256:Nat):Int))) 5 rfl kj (Qad (u:=.int .u8 (IntKind.u8.wrap ((n/16777216:Nat):Int))) kj (congrArg (Value.int .u8) (Qiz _))) ?_
  refine Qaa (.int .i64 ((n:Nat):Int)) 6 rfl kj kj ?_
  refine Qaa (.int .i64 ((n/65536:Nat):Int)) 7 rfl kj (Qad (u:=.int .i64 (IntKind.i64.wrap (Int.tdiv (((n:Nat):Int)) (65536)))) kj (congrArg (Value.int .i64) (Qcu _ 65536 (by omega)))) ?_
  refine Qaa (.int .i64 (((n/65536)%256:Nat):Int)) 8 rfl kj (Qad (u:=.int .i64 (Int.tmod (((n/65536:Nat):Int)) (256))) kj (congrArg (Value.int .i64) (Qcg _ 256))) ?_
  refine Qaa (.int .u8 (((n/65536%256:Nat):Int))) 9 rfl kj (Qad (u:=.int .u8 (IntKind.u8.wrap (((n/65536)%256:Nat):Int))) kj (congrArg (Value.int .u8) (Qkt _))) ?_
  refine Qaa (.int .i64 ((n:Nat):Int)) 10 rfl kj kj ?_
  refine Qaa (.int .i64 ((n/256:Nat):Int)) 11 rfl kj (Qad (u:=.int .i64 (IntKind.i64.wrap (Int.tdiv (((n:Nat):Int)) (256)))) kj (congrArg (Value.int .i64) (Qcu _ 256 (by omega)))) ?_
  refine Qaa (.int .i64 (((n/256)%256:Nat):Int)) 12 rfl kj (Qad (u:=.int .i64 (Int.tmod (((n/256:Nat):Int)) (256))) kj (congrArg (Value.int .i64) (Qcg _ 256))) ?_
  refine Qaa (.int .u8 (((n/256%256:Nat):Int))) 13 rfl kj (Qad (u:=.int .u8 (IntKind.u8.wrap (((n/256)%256:Nat):Int))) kj (congrArg (Value.int .u8) (Qkt _))) ?_
  refine Qaa (.int .i64 ((n:Nat):Int)) 14 rfl kj kj ?_
  refine Qaa (.int .i64 ((n%256:Nat):Int)) 15 rfl kj (Qad (u:=.int .i64 (Int.tmod (((n:Nat):Int)) (256))) kj (congrArg (Value.int .i64) (Qcg _ 256))) ?_
  refine Qaa (.int .u8 (((n%256:Nat):Int))) 16 rfl kj (Qad (u:=.int .u8 (IntKind.u8.wrap ((n%256:Nat):Int))) kj (congrArg (Value.int .u8) (Qkt _))) ?_
  refine QaD (ints .u8 ([(((n/16777216%256:Nat):Int)),(((n/65536%256:Nat):Int)),(((n/256%256:Nat):Int)),(((n%256:Nat):Int))])) 5 4 17 rfl kj kj fun g3 W1 l3 e1 r3_1=>?_
  have x1:Ext w W1:=Ext.tr (Rely.Ext.refl w) e1
  have b3:w.heap.size≤g3:=qT (Rely.Ext.refl w).size l3
  refine Qaa (.slice (some ⟨g3,0,none⟩) 4 4) 2 rfl kj kj ?_
  refine Qae ?_
  refine hK2 _ _ ?_
  refine wp_ret ?_
  repeat (first | with_reducible refine goR1 ?_ | with_reducible refine goR2 ?_)
  have r3_1_4:W1.heap[g3]? = some (.cells (ints .u8 (hdV n)) 5):=QaI r3_1 rfl
  exact (show bodyPost _ _ _ .ret _ _ from ret1 (.slice (some ⟨g3,0,none⟩) 4 4) rfl (Qaq kj) ⟨_,rfl,x1,QbW (xs:=hdV n) (QbZ _) b3 r3_1_4 (by decide)⟩)
theorem QcI (zs : List Int) (hzl:zs.length≤1000000) (a_z:Option Addr) (c_z:Nat) (B9:Nat) (w:World) (hz:RdK .i64 B9 zs (.slice a_z zs.length c_z) w):Calls Tryd.prog 51 #[.slice a_z zs.length c_z] w (Ret w (.int .i64 (hiT zs))):=by
 refine enter 22 [(0,.slice a_z zs.length c_z)] Tryd.func51 rfl rfl kj rfl ?_
 refine wp_seq_k fun K1 hK1=>?_
 refine Qac ?_
 refine Qaa (.int .i64 0) 2 rfl kj kj ?_
 refine Qae ?_
 refine hK1 _ _ ?_
 refine wp_seq_k fun K2 hK2=>?_
 refine Qac ?_
 refine Qaa (.int .i64 (-1)) 3 rfl kj kj ?_
 refine Qae ?_
 refine hK2 _ _ ?_
 refine wp_seq_k fun K3 hK3=>?_
 refine wp_seq_k fun K4 hK4=>?_
 refine Qac ?_
 refine Qaa (.int .i64 0) 4 rfl kj kj ?_
 refine Qae ?_
 refine hK4 _ _ ?_
 refine wp_block ?_
 refine QaB (fun (s1:Nat)=>[(0,.slice a_z zs.length c_z),(3,.int .i64 (hiF (-1) (zs.take s1))),(4,.int .i64 ((s1:Nat):Int))]) (fun (s1:Nat) W=>(s1≤zs.length)∧(Ext w W)∧(Ext w W)) (fun (s1:Nat)=>zs.length-s1) 0 ⟨rfl,rfl,rfl,trivial⟩ ⟨(Nat.zero_le _),(Rely.Ext.refl w),(Rely.Ext.refl w)⟩ fun s1 X1 V1 hI1=>?_
 obtain ⟨i,hs1⟩:∃ z,z=s1:=⟨_,rfl⟩
 subst hs1
 obtain ⟨hi,kk1,xx1⟩:=hI1
 replace hi:i≤zs.length:=hi
 replace kk1:Ext w V1:=kk1
 replace xx1:Ext w V1:=xx1
 have e1:=kk1
 refine wp_seq_k fun K5 hK5=>?_
 refine wp_seq_k fun K6 hK6=>?_
 refine Qac ?_
 refine Qaa (.int .i64 ((i:Nat):Int)) 5 rfl kj kj ?_
 refine Qaa (.slice a_z zs.length c_z) 6 rfl kj kj ?_
 refine Qaa (.int .i64 ((zs.length:Nat):Int)) 7 rfl kj kj ?_
 refine Qaa (.bool (decide (((i:Nat):Int)<((zs.length:Nat):Int)))) 8 rfl kj kj ?_
 refine Qae ?_
 refine hK6 _ _ ?_
 refine Qa7 (t:=decide (((i:Nat):Int)<((zs.length:Nat):Int))) kj (fun c7=>?_) (fun c7=>?_)
 ·skip
  have hlt8:i<zs.length:=by have:=of_decide_eq_true c7; omega
  refine wp_skip ?_
  refine hK5 _ _ ?_
  refine wp_seq_k fun K8 hK8=>?_
  refine wp_block ?_
  refine wp_seq_k fun K9 hK9=>?_
  refine Qac ?_
  refine Qaa (.slice a_z zs.length c_z) 11 rfl kj kj ?_
  refine Qaa (.int .i64 ((i:Nat):Int)) 12 rfl kj kj ?_
  have hnz_10:(zs).length=zs.length:=rfl
  obtain ⟨gcz_10,ocz_10,haz_10,hlz_10,hcz_10⟩:=Qbr (RdK.ext hz xx1) (by rw [hnz_10]; omega)
  refine Qaa (.pointer (some ⟨gcz_10,ocz_10+i,none⟩)) 13 rfl kj (Qaw 66 _ _ .i64 i gcz_10 ocz_10 zs.length c_z 3 a_z _ haz_10 rfl rfl kj kj kj kj (Nat.lt_of_lt_of_eq (show i<zs.length by omega) hnz_10.symm)) ?_
  refine Qaa (.int .i64 (nth (zs) (i))) 14 rfl kj (Qap 3 _ _ (.int .i64 (nth (zs) (i))) (hcz_10 i (Nat.lt_of_lt_of_eq (show i<zs.length by omega) hnz_10.symm)) rfl kj kj) ?_
  refine Qaa (.int .i64 (hiF (-1) (zs.take i))) 15 rfl kj kj ?_
  refine Qaa (.bool (decide ((nth (zs) (i))>(hiF (-1) (zs.take i))))) 16 rfl kj kj ?_
  refine Qae ?_
  refine hK9 _ _ ?_
  refine Qa7 (t:=decide ((nth (zs) (i))>(hiF (-1) (zs.take i)))) kj (fun c11=>?_) (fun c11=>?_)
  ·skip
   have hcn:nth zs i>hiF (-1) (zs.take i):=of_decide_eq_true c11
   refine Qac ?_
   refine Qaa (.slice a_z zs.length c_z) 17 rfl kj kj ?_
   refine Qaa (.int .i64 ((i:Nat):Int)) 18 rfl kj kj ?_
   have hnz_12:(zs).length=zs.length:=rfl
   obtain ⟨gcz_12,ocz_12,haz_12,hlz_12,hcz_12⟩:=Qbr (RdK.ext hz xx1) (by rw [hnz_12]; omega)
   refine Qaa (.pointer (some ⟨gcz_12,ocz_12+i,none⟩)) 19 rfl kj (Qaw 66 _ _ .i64 i gcz_12 ocz_12 zs.length c_z 3 a_z _ haz_12 rfl rfl kj kj kj kj (Nat.lt_of_lt_of_eq (show i<zs.length by omega) hnz_12.symm)) ?_
   refine Qaa (.int .i64 (nth (zs) (i))) 20 rfl kj (Qap 3 _ _ (.int .i64 (nth (zs) (i))) (hcz_12 i (Nat.lt_of_lt_of_eq (show i<zs.length by omega) hnz_12.symm)) rfl kj kj) ?_
   refine Qaa (.int .i64 (nth (zs) (i))) 3 rfl kj kj ?_
   refine Qae ?_
   refine hK8 _ _ ?_
   refine Qac ?_
   refine Qaa (.int .i64 ((i:Nat):Int)) 9 rfl kj kj ?_
   refine Qaa (.int .i64 ((i+1:Nat):Int)) 10 rfl kj (Qad (u:=.int .i64 (IntKind.i64.wrap (((i:Nat):Int)+1))) kj (congrArg (Value.int .i64) (i64n _ _ (by omega) (by omega)))) ?_
   refine Qaa (.int .i64 ((i+1:Nat):Int)) 4 rfl kj kj ?_
   refine Qae ?_
   repeat (first | with_reducible refine goX1 ?_ | with_reducible refine goX2 ?_ | with_reducible refine goX3 ?_)
   exact Qax (i+1) ⟨rfl,(congrArg (Value.int .i64) ((QgO (-1) zs i hlt8).trans (if_pos hcn)).symm),rfl,trivial⟩ ⟨(by omega),e1,xx1⟩ (by show zs.length-(i+1)<zs.length-i; omega)
  ·skip
   have hcn:¬ nth zs i>hiF (-1) (zs.take i):=of_decide_eq_false c11
   refine wp_skip ?_
   refine hK8 _ _ ?_
   refine Qac ?_
   refine Qaa (.int .i64 ((i:Nat):Int)) 9 rfl kj kj ?_
   refine Qaa (.int .i64 ((i+1:Nat):Int)) 10 rfl kj (Qad (u:=.int .i64 (IntKind.i64.wrap (((i:Nat):Int)+1))) kj (congrArg (Value.int .i64) (i64n _ _ (by omega) (by omega)))) ?_
   refine Qaa (.int .i64 ((i+1:Nat):Int)) 4 rfl kj kj ?_
   refine Qae ?_
   repeat (first | with_reducible refine goX1 ?_ | with_reducible refine goX2 ?_ | with_reducible refine goX3 ?_)
   exact Qax (i+1) ⟨rfl,(congrArg (Value.int .i64) ((QgO (-1) zs i hlt8).trans (if_neg hcn)).symm),rfl,trivial⟩ ⟨(by omega),e1,xx1⟩ (by show zs.length-(i+1)<zs.length-i; omega)
 ·skip
  have heq8:i=zs.length:=by have:=of_decide_eq_false c7; omega
  refine wp_exit ?_
  refine hK3 _ _ ?_
  refine wp_seq_k fun K13 hK13=>?_
  refine Qac ?_
  refine Qaa (.int .i64 (hiF (-1) (zs.take i))) 21 rfl kj kj ?_
  refine Qaa (.int .i64 (hiF (-1) (zs.take i))) 2 rfl kj kj ?_
  refine Qae ?_
  refine hK13 _ _ ?_
  refine wp_ret ?_
  repeat (first | with_reducible refine goR1 ?_ | with_reducible refine goR2 ?_)
  exact (show bodyPost _ _ _ .ret _ _ from ret1 (.int .i64 (hiF (-1) (zs.take i))) rfl (Qaq kj) ⟨congrArg (fun z=>Ending.returned (.int .i64 z)) (by rw [heq8]; exact Qkq _ _),xx1⟩)
theorem Qji (zs : List Int) (hzl:zs.length≤1000000) (a_z:Option Addr) (c_z:Nat) (B9:Nat) (n:Int) (w:World) (hz:RdK .i64 B9 zs (.slice a_z zs.length c_z) w) (hzb:∀ m∈zs,0≤m∧m≤4294967294) (h0:n<0):Calls Tryd.prog 90 #[.slice a_z zs.length c_z,.int .i64 n] w (Ret w (.int .i64 (chkT zs n))):=by
  have hhb:=Qev hzb
  refine enter 29 [(0,.slice a_z zs.length c_z),(1,.int .i64 n)] Tryd.func90 rfl rfl kj rfl ?_
  refine wp_seq_k fun K1 hK1=>?_
  refine Qac ?_
  refine Qaa (.int .i64 0) 4 rfl kj kj ?_
  refine Qae ?_
  refine hK1 _ _ ?_
  refine wp_seq_k fun K2 hK2=>?_
  refine wp_seq_k fun K3 hK3=>?_
  refine Qac ?_
  refine Qaa (.int .i64 n) 6 rfl kj kj ?_
  refine Qaa (.bool true) 7 rfl kj (Qad (u:=.bool (decide (n<0))) kj (congrArg Value.bool (decide_eq_true (by omega)))) ?_
  refine Qaa (.bool true) 8 rfl kj kj ?_
  refine Qa3 9 rfl kj ?_
  refine Qa3 10 rfl kj ?_
  refine Qaa (.bool true) 11 rfl kj kj ?_
  refine Qae ?_
  refine hK3 _ _ ?_
  refine cond_true kj ?_
  refine wp_seq_k fun K4 hK4=>?_
  refine Qac ?_
  refine Qaa (.int .i64 8) 4 rfl kj kj ?_
  refine Qae ?_
  refine hK4 _ _ ?_
  refine wp_ret ?_
  repeat (first | with_reducible refine goR1 ?_ | with_reducible refine goR2 ?_)
  exact (show bodyPost _ _ _ .ret _ _ from ret1 (.int .i64 8) rfl (Qaq kj) ⟨congrArg (fun z=>Ending.returned (.int .i64 z)) (chk8 (by omega)).symm,(Rely.Ext.refl w)⟩)
theorem Qjh (zs : List Int) (hzl:zs.length≤1000000) (a_z:Option Addr) (c_z:Nat) (B9:Nat) (n:Int) (w:World) (hz:RdK .i64 B9 zs (.slice a_z zs.length c_z) w) (hzb:∀ m∈zs,0≤m∧m≤4294967294) (h0:0≤n) (h1:4294967294<n):Calls Tryd.prog 90 #[.slice a_z zs.length c_z,.int .i64 n] w (Ret w (.int .i64 (chkT zs n))):=by
  have hhb:=Qev hzb
  refine enter 29 [(0,.slice a_z zs.length c_z),(1,.int .i64 n)] Tryd.func90 rfl rfl kj rfl ?_
  refine wp_seq_k fun K1 hK1=>?_
  refine Qac ?_
  refine Qaa (.int .i64 0) 4 rfl kj kj ?_
  refine Qae ?_
  refine hK1 _ _ ?_
  refine wp_seq_k fun K2 hK2=>?_
  refine wp_seq_k fun K3 hK3=>?_
  refine Qac ?_
  refine Qaa (.int .i64 n) 6 rfl kj kj ?_
  refine Qaa (.bool false) 7 rfl kj (Qad (u:=.bool (decide (n<0))) kj (congrArg Value.bool (decide_eq_false (by omega)))) ?_
  refine Qaa (.bool false) 8 rfl kj kj ?_
  refine Qaa (.int .i64 n) 9 rfl kj kj ?_
  refine Qaa (.bool true) 10 rfl kj (Qad (u:=.bool (decide (n>4294967294))) kj (congrArg Value.bool (decide_eq_true (by omega)))) ?_
  refine Qaa (.bool true) 11 rfl kj kj ?_
  refine Qae ?_
  refine hK3 _ _ ?_
  refine cond_true kj ?_
  refine wp_seq_k fun K4 hK4=>?_
  refine Qac ?_
  refine Qaa (.int .i64 8) 4 rfl kj kj ?_
  refine Qae ?_
  refine hK4 _ _ ?_
  refine wp_ret ?_
  repeat (first | with_reducible refine goR1 ?_ | with_reducible refine goR2 ?_)
  exact (show bodyPost _ _ _ .ret _ _ from ret1 (.int .i64 8) rfl (Qaq kj) ⟨congrArg (fun z=>Ending.returned (.int .i64 z)) (chk8 (by omega)).symm,(Rely.Ext.refl w)⟩)
theorem Qjg (zs : List Int) (hzl:zs.length≤1000000) (a_z:Option Addr) (c_z:Nat) (B9:Nat) (n:Int) (w:World) (hz:RdK .i64 B9 zs (.slice a_z zs.length c_z) w) (hzb:∀ m∈zs,0≤m∧m≤4294967294) (h0:0≤n) (h1:n≤4294967294) (h:n<hiT zs-64):Calls Tryd.prog 90 #[.slice a_z zs.length c_z,.int .i64 n] w (Ret w (.int .i64 (chkT zs n))):=by
  have hhb:=Qev hzb
  refine enter 29 [(0,.slice a_z zs.length c_z),(1,.int .i64 n)] Tryd.func90 rfl rfl kj rfl ?_
  refine wp_seq_k fun K1 hK1=>?_
  refine Qac ?_
  refine Qaa (.int .i64 0) 4 rfl kj kj ?_
  refine Qae ?_
  refine hK1 _ _ ?_
  refine wp_seq_k fun K2 hK2=>?_
  refine wp_seq_k fun K3 hK3=>?_
  refine Qac ?_
  refine Qaa (.int .i64 n) 6 rfl kj kj ?_
  refine Qaa (.bool false) 7 rfl kj (Qad (u:=.bool (decide (n<0))) kj (congrArg Value.bool (decide_eq_false (by omega)))) ?_
  refine Qaa (.bool false) 8 rfl kj kj ?_
  refine Qaa (.int .i64 n) 9 rfl kj kj ?_
  refine Qaa (.bool false) 10 rfl kj (Qad (u:=.bool (decide (n>4294967294))) kj (congrArg Value.bool (decide_eq_false (by omega)))) ?_
  refine Qaa (.bool false) 11 rfl kj kj ?_
  refine Qae ?_
  refine hK3 _ _ ?_
  refine cond_false kj ?_
  refine wp_skip ?_
  refine hK2 _ _ ?_
  refine wp_seq_k fun K4 hK4=>?_
  refine wp_seq_k fun K5 hK5=>?_
  refine Qac ?_
  refine Qaa (.int .i64 n) 12 rfl kj kj ?_
  refine Qaa (.slice a_z zs.length c_z) 13 rfl kj kj ?_
  refine Qan (.int .i64 (hiT zs)) 51 #[.slice a_z zs.length c_z] 14 rfl kj kj (QcI zs hzl a_z c_z B9 _ (RdK.ext hz (Rely.Ext.refl w))) fun W1 e1=>?_
  have x1:Ext w W1:=Ext.tr (Rely.Ext.refl w) e1
  refine Qaa (.int .i64 (hiT zs-64)) 15 rfl kj (Qad (u:=.int .i64 (IntKind.i64.wrap ((hiT zs)-64))) kj (congrArg (Value.int .i64) (i64_w _ (by omega)))) ?_
  refine Qaa (.bool true) 16 rfl kj (Qad (u:=.bool (decide (n<(hiT zs-64)))) kj (congrArg Value.bool (decide_eq_true (by omega)))) ?_
  refine Qae ?_
  refine hK5 _ _ ?_
  refine cond_true kj ?_
  refine wp_seq_k fun K6 hK6=>?_
  refine Qac ?_
  refine Qaa (.int .i64 11) 4 rfl kj kj ?_
  refine Qae ?_
  refine hK6 _ _ ?_
  refine wp_ret ?_
  repeat (first | with_reducible refine goR1 ?_ | with_reducible refine goR2 ?_)
  exact (show bodyPost _ _ _ .ret _ _ from ret1 (.int .i64 11) rfl (Qaq kj) ⟨congrArg (fun z=>Ending.returned (.int .i64 z)) (Qlo h0 h1 h).symm,x1⟩)
theorem Qjf (zs : List Int) (hzl:zs.length≤1000000) (a_z:Option Addr) (c_z:Nat) (B9:Nat) (n:Int) (w:World) (hz:RdK .i64 B9 zs (.slice a_z zs.length c_z) w) (hzb:∀ m∈zs,0≤m∧m≤4294967294) (h0:0≤n) (h1:n≤4294967294) (h:hiT zs-64≤n):Calls Tryd.prog 90 #[.slice a_z zs.length c_z,.int .i64 n] w (Ret w (.int .i64 (chkT zs n))):=by
 have hhb:=Qev hzb
 refine enter 29 [(0,.slice a_z zs.length c_z),(1,.int .i64 n)] Tryd.func90 rfl rfl kj rfl ?_
 refine wp_seq_k fun K1 hK1=>?_
 refine Qac ?_
 refine Qaa (.int .i64 0) 4 rfl kj kj ?_
 refine Qae ?_
 refine hK1 _ _ ?_
 refine wp_seq_k fun K2 hK2=>?_
 refine wp_seq_k fun K3 hK3=>?_
 refine Qac ?_
 refine Qaa (.int .i64 n) 6 rfl kj kj ?_
 refine Qaa (.bool false) 7 rfl kj (Qad (u:=.bool (decide (n<0))) kj (congrArg Value.bool (decide_eq_false (by omega)))) ?_
 refine Qaa (.bool false) 8 rfl kj kj ?_
 refine Qaa (.int .i64 n) 9 rfl kj kj ?_
 refine Qaa (.bool false) 10 rfl kj (Qad (u:=.bool (decide (n>4294967294))) kj (congrArg Value.bool (decide_eq_false (by omega)))) ?_
 refine Qaa (.bool false) 11 rfl kj kj ?_
 refine Qae ?_
 refine hK3 _ _ ?_
 refine cond_false kj ?_
 refine wp_skip ?_
 refine hK2 _ _ ?_
 refine wp_seq_k fun K4 hK4=>?_
 refine wp_seq_k fun K5 hK5=>?_
 refine Qac ?_
 refine Qaa (.int .i64 n) 12 rfl kj kj ?_
 refine Qaa (.slice a_z zs.length c_z) 13 rfl kj kj ?_
 refine Qan (.int .i64 (hiT zs)) 51 #[.slice a_z zs.length c_z] 14 rfl kj kj (QcI zs hzl a_z c_z B9 _ (RdK.ext hz (Rely.Ext.refl w))) fun W1 e1=>?_
 have x1:Ext w W1:=Ext.tr (Rely.Ext.refl w) e1
 refine Qaa (.int .i64 (hiT zs-64)) 15 rfl kj (Qad (u:=.int .i64 (IntKind.i64.wrap ((hiT zs)-64))) kj (congrArg (Value.int .i64) (i64_w _ (by omega)))) ?_
 refine Qaa (.bool false) 16 rfl kj (Qad (u:=.bool (decide (n<(hiT zs-64)))) kj (congrArg Value.bool (decide_eq_false (by omega)))) ?_
 refine Qae ?_
 refine hK5 _ _ ?_
 refine cond_false kj ?_
 refine wp_skip ?_
 refine hK4 _ _ ?_
 refine wp_seq_k fun K6 hK6=>?_
 refine wp_seq_k fun K7 hK7=>?_
 refine Qac ?_
 refine Qaa (.int .i64 0) 5 rfl kj kj ?_
 refine Qae ?_
 refine hK7 _ _ ?_
 refine wp_block ?_
 refine QaB (fun (s1:Nat)=>[(0,.slice a_z zs.length c_z),(1,.int .i64 n),(5,.int .i64 ((s1:Nat):Int))]) (fun (s1:Nat) W=>(s1≤zs.length)∧(∀ j,j<s1→nth zs j≠n)∧(Ext W1 W)∧(Ext w W)) (fun (s1:Nat)=>zs.length-s1) 0 ⟨rfl,rfl,rfl,trivial⟩ ⟨(Nat.zero_le _),(fun j h=>absurd h (Nat.not_lt_zero j)),(Rely.Ext.refl W1),x1⟩ fun s1 X1 V1 hI1=>?_
 obtain ⟨i,hs1⟩:∃ z,z=s1:=⟨_,rfl⟩
 subst hs1
 obtain ⟨hi,hno,kk1,xx1⟩:=hI1
 replace hi:i≤zs.length:=hi
 replace hno:∀ j,j<i→nth zs j≠n:=hno
 replace kk1:Ext W1 V1:=kk1
 replace xx1:Ext w V1:=xx1
 have e2:=kk1
 refine wp_seq_k fun K8 hK8=>?_
 refine wp_seq_k fun K9 hK9=>?_
 refine Qac ?_
 refine Qaa (.int .i64 ((i:Nat):Int)) 17 rfl kj kj ?_
 refine Qaa (.slice a_z zs.length c_z) 18 rfl kj kj ?_
 refine Qaa (.int .i64 ((zs.length:Nat):Int)) 19 rfl kj kj ?_
 refine Qaa (.bool (decide (((i:Nat):Int)<((zs.length:Nat):Int)))) 20 rfl kj kj ?_
 refine Qae ?_
 refine hK9 _ _ ?_
 refine Qa7 (t:=decide (((i:Nat):Int)<((zs.length:Nat):Int))) kj (fun c10=>?_) (fun c10=>?_)
 ·skip
  have hlt20:i<zs.length:=by have:=of_decide_eq_true c10; omega
  refine wp_skip ?_
  refine hK8 _ _ ?_
  refine wp_seq_k fun K11 hK11=>?_
  refine wp_block ?_
  refine wp_seq_k fun K12 hK12=>?_
  refine Qac ?_
  refine Qaa (.slice a_z zs.length c_z) 23 rfl kj kj ?_
  refine Qaa (.int .i64 ((i:Nat):Int)) 24 rfl kj kj ?_
  have hnz_13:(zs).length=zs.length:=rfl
  obtain ⟨gcz_13,ocz_13,haz_13,hlz_13,hcz_13⟩:=Qbr (RdK.ext hz xx1) (by rw [hnz_13]; omega)
  refine Qaa (.pointer (some ⟨gcz_13,ocz_13+i,none⟩)) 25 rfl kj (Qaw 66 _ _ .i64 i gcz_13 ocz_13 zs.length c_z 3 a_z _ haz_13 rfl rfl kj kj kj kj (Nat.lt_of_lt_of_eq (show i<zs.length by omega) hnz_13.symm)) ?_
  refine Qaa (.int .i64 (nth (zs) (i))) 26 rfl kj (Qap 3 _ _ (.int .i64 (nth (zs) (i))) (hcz_13 i (Nat.lt_of_lt_of_eq (show i<zs.length by omega) hnz_13.symm)) rfl kj kj) ?_
  refine Qaa (.int .i64 n) 27 rfl kj kj ?_
  refine Qaa (.bool (((nth (zs) (i))==n))) 28 rfl kj kj ?_
  refine Qae ?_
  refine hK12 _ _ ?_
  refine Qa7 (t:=((nth (zs) (i))==n)) kj (fun c14=>?_) (fun c14=>?_)
  ·skip
   have hcn:nth zs i=n:=of_decide_eq_true c14
   refine wp_seq_k fun K15 hK15=>?_
   refine Qac ?_
   refine Qaa (.int .i64 7) 4 rfl kj kj ?_
   refine Qae ?_
   refine hK15 _ _ ?_
   refine wp_ret ?_
   repeat (first | with_reducible refine goR1 ?_ | with_reducible refine goR2 ?_)
   exact (show bodyPost _ _ _ .ret _ _ from ret1 (.int .i64 7) rfl (Qaq kj) ⟨congrArg (fun z=>Ending.returned (.int .i64 z)) (chk7 h0 h1 h (hcn▸QkG hlt20)).symm,xx1⟩)
  ·skip
   have hcn:nth zs i≠n:=of_decide_eq_false c14
   refine wp_skip ?_
   refine hK11 _ _ ?_
   refine Qac ?_
   refine Qaa (.int .i64 ((i:Nat):Int)) 21 rfl kj kj ?_
   refine Qaa (.int .i64 ((i+1:Nat):Int)) 22 rfl kj (Qad (u:=.int .i64 (IntKind.i64.wrap (((i:Nat):Int)+1))) kj (congrArg (Value.int .i64) (i64n _ _ (by omega) (by omega)))) ?_
   refine Qaa (.int .i64 ((i+1:Nat):Int)) 5 rfl kj kj ?_
   refine Qae ?_
   repeat (first | with_reducible refine goX1 ?_ | with_reducible refine goX2 ?_ | with_reducible refine goX3 ?_)
   exact Qax (i+1) ⟨rfl,rfl,rfl,trivial⟩ ⟨(by omega),(fun j hj=>by by_cases hji:j=i; exact hji▸hcn; exact hno j (by omega)),e2,xx1⟩ (by show zs.length-(i+1)<zs.length-i; omega)
 ·skip
  have heq20:i=zs.length:=by have:=of_decide_eq_false c10; omega
  refine wp_exit ?_
  refine hK6 _ _ ?_
  refine wp_seq_k fun K16 hK16=>?_
  refine Qac ?_
  refine Qaa (.int .i64 0) 4 rfl kj kj ?_
  refine Qae ?_
  refine hK16 _ _ ?_
  refine wp_ret ?_
  repeat (first | with_reducible refine goR1 ?_ | with_reducible refine goR2 ?_)
  exact (show bodyPost _ _ _ .ret _ _ from ret1 (.int .i64 0) rfl (Qaq kj) ⟨congrArg (fun z=>Ending.returned (.int .i64 z)) (chk0 h0 h1 h (QkI heq20 hno)).symm,xx1⟩)
theorem Qiy (zs : List Int) (hzl:zs.length≤1000000) (a_z:Option Addr) (c_z:Nat) (B9:Nat) (n:Int) (w:World) (hz:RdK .i64 B9 zs (.slice a_z zs.length c_z) w) (hzb:∀ m∈zs,0≤m∧m≤4294967294):Calls Tryd.prog 90 #[.slice a_z zs.length c_z,.int .i64 n] w (Ret w (.int .i64 (chkT zs n))):=by
  by_cases h0:n<0
  · exact Qji zs hzl a_z c_z B9 n w hz hzb h0
  by_cases h1:4294967294<n
  · exact Qjh zs hzl a_z c_z B9 n w hz hzb (by omega) h1
  by_cases h:n<hiT zs-64
  · exact Qjg zs hzl a_z c_z B9 n w hz hzb (by omega) (by omega) h
  · exact Qjf zs hzl a_z c_z B9 n w hz hzb (by omega) (by omega) (by omega)
end Go.Proofs.YtoiendjhplbjjaaDoor.Ll
end
section
namespace Go.Proofs.YtoiendjhplbjjaaDoor.Ae
open Go Go.RowKit
open Rely Auto Own Sha
open Sha Cha
structure Once (base n : Nat) (ys : List Int) (W W' : World) : Prop where
  os:W'.os=W.os
  tape:W'.tape=W.tape
  output:W'.output=W.output
  size:W.heap.size≤W'.heap.size
  block:∀ g,g<W.heap.size→W'.heap[g]? = W.heap[g]?∨(base≤g∧∃ cs cs' T,W.heap[g]? = some (.cells cs T)∧W'.heap[g]? = some (.cells cs' T)∧cs'.size=cs.size∧∀ i,cs'[i]? = cs[i]?∨(n≤i∧cs'[i]? = some (.int .u8 (nth ys (i-n)))))
theorem Once.refl (base n:Nat) (ys:List Int) (W:World):Once base n ys W W:=⟨rfl,rfl,rfl,qR _,fun _ _=>.inl rfl⟩
theorem Once.trans {base n:Nat} {ys:List Int} {a b c:World} (h:Once base n ys a b) (k:Once base n ys b c):Once base n ys a c:=by
  refine ⟨k.os.trans h.os,k.tape.trans h.tape,k.output.trans h.output,qT h.size k.size,fun g hg=>?_⟩
  rcases k.block g (qL hg h.size) with h2 | ⟨hb,cs,cs',T,r1,r2,r3,r4⟩
  · rw [h2]; exact h.block g hg
  · rcases h.block g hg with h1 | ⟨_,ds,ds',T',s1,s2,s3,s4⟩
    · exact .inr ⟨hb,cs,cs',T,h1▸r1,r2,r3,r4⟩
    · rw [s2] at r1
      simp only [Option.some.injEq,Obj.cells.injEq] at r1
      obtain ⟨rfl,rfl,-⟩:=r1
      refine .inr ⟨hb,ds,cs',T',s1,r2,r3.trans s3,fun i=>?_⟩
      rcases r4 i with r | ⟨r,r'⟩
      · rw [r]; exact s4 i
      · exact .inr ⟨r,r'⟩
theorem Once.ext {base n:Nat} {ys:List Int} {a b:World} (e:Ext a b):Once base n ys a b:=⟨e.os,e.tape,e.output,e.size,fun g hg=>.inl (e.block g hg)⟩
theorem Once.low {n : Nat} {ys:List Int} {w0 W:World} (h:Once w0.heap.size n ys w0 W):Ext w0 W :=
  ⟨h.os,h.tape,h.output,h.size,fun g hg=>by
    rcases h.block g hg with h | ⟨hb,_⟩
    · exact h
    · omega⟩
theorem Qhi {cs : Array Value} {xs:List Int} {k:IntKind} (h:∀ i,i<xs.length→cs[i]? = some (.int k (nth xs i))):cs.toList.take xs.length=xs.map (Value.int k):=by
  apply List.ext_getElem?
  intro i
  rw [List.getElem?_take]
  by_cases hi:i<xs.length
  · rw [if_pos hi,Array.getElem?_toList,h i hi,List.getElem?_map,List.getElem?_eq_getElem hi]
    simp [nth,hi]
  · rw [if_neg hi,List.getElem?_map,List.getElem?_eq_none (by omega)]; rfl
theorem QiR {base n:Nat} {ys xs:List Int} {T:TypeId} (hx:∀ i,i<xs.length→n≤i→nth xs i=nth ys (i-n)):Qb8 (Once base n ys) (OwnN .u8 T base xs):=fun v W W' hR h=>by
  rcases Nat.eq_zero_or_pos xs.length with h0 | h0
  · obtain ⟨⟨h1,h2⟩,hm⟩:=h
    refine ⟨⟨h1,?_⟩,hm⟩
    rcases h2 with h2 | ⟨g,c,cur,rfl,q2,q3,q4,q5,q6,q7⟩
    · exact .inl h2
    · rcases hR.block g (Qa0 q3) with h | ⟨hb,cs,cs',T',r1,r2,r3,r4⟩
      · exact .inr ⟨g,c,cur,rfl,q2,h.trans q3,q4,q5,q6,q7⟩
      · rw [q3] at r1
        simp only [Option.some.injEq,Obj.cells.injEq] at r1
        obtain ⟨rfl,rfl,-⟩:=r1
        refine .inr ⟨g,c,cs',rfl,q2,r2,q4,q5,r3.trans q6,?_⟩
        obtain rfl:=List.length_eq_zero_iff.1 h0
        rfl
  · obtain ⟨g,c,cur,rfl,q2,q3,q4,q5,q6,q7⟩:=QdL h h0
    rcases hR.block g (Qa0 q3) with h2 | ⟨hb,cs,cs',T',r1,r2,r3,r4⟩
    · exact h.keep fun g' hg=>by
        obtain rfl:g=g':=Option.some.inj hg
        exact h2
    · rw [q3] at r1
      simp only [Option.some.injEq,Obj.cells.injEq] at r1
      obtain ⟨rfl,rfl,-⟩:=r1
      refine Qgh rfl q2 r2 (r3.trans q4) q5 q6 (Qhi fun i hi=>?_)
      rcases r4 i with r | ⟨r,r'⟩
      · rw [r]; exact Qe6 q7 hi
      · rw [r',hx i hi r]
theorem Qjl {P : Program} {T:TypeId} {b:Nat} {ρ:Operand→Value} {o:Oper} {W:World} (s x:Operand) (t:TypeId) (ho:o.op=.call { callee:=.builtin .append,args:=#[s,x],argTypes:=#[t,t] })
    (ht:P.underlying t=some (.slice T)) (hi:(P.info? T).map (fun i=>(i.zero,i.size,i.bytes))=some (some (.int .u8 0),1,b)) (hb8:b≤8) {base B n:Nat} {v y:Value} {xs ys Y:List Int} (hs:ρ s=v) (hx:ρ x=y)
    (h:OwnN .u8 T base xs v W) (hy:RdK .u8 B ys y W) (hn:xs.length+ys.length≤1000000000) (hbase:base≤W.heap.size) (hY:(∃ g,v=.slice (some ⟨g,0,none⟩) 0 0)∨(xs.length=n∧ys=Y)) :
    ∃ v' W',(execOp ρ o).run P W=.ok (.value v') W'∧Once base n Y W W'∧OwnN .u8 T base (xs++ys) v' W':=by
  obtain ⟨i,hq,hi1,hi2,hi3⟩:=Qkm hi
  obtain ⟨v2,W2,r2,o2,g2,-⟩:=QdX (ρ:=ρ) (o:=o) (W:=W) s x t ho ht hi hb8 hs hx h hy hn hbase
  refine ⟨v2,W2,r2,?_,o2⟩
  rcases h.1.2 with ⟨h0,h0'⟩ | ⟨g,c,cur,rfl,q2,q3,q4,q5,q6,q7⟩
  · exact ⟨g2.os,g2.tape,g2.output,g2.size,fun k hk=>.inl (g2.block k hk (by rw [h0]; intro e; cases e))⟩
  · have hc0:(∃ g',(Value.slice (some ⟨g,0,none⟩) xs.length c)=.slice (some ⟨g',0,none⟩) 0 0)→c=0:=fun ⟨g',e'⟩=>by
      simp only [Value.slice.injEq] at e'
      exact e'.2.2
    obtain ⟨a,cap,rfl,y2,y3,y4,y5⟩:=hy
    have hgo:∀ (v':Value) (W':World),(Builtin.append_ #[t,t] o.type #[.slice (some ⟨g,0,none⟩) xs.length c,.slice a ys.length cap]).run P W=.ok v' W'→(execOp ρ o).run P W=.ok (.value v') W':=fun v' W' hr=>by
      unfold execOp
      simp only [ho,resolve,invoke,builtin,Sem.run_bind,Sem.run_pure,Result.andThen_ok,List.map_toArray,List.map_cons,List.map_nil,hs,hx,hr]
    have same:∀ (v':Value) (W':World),(execOp ρ o).run P W=.ok (.value v') W'→W2=W':=fun v' W' hr=>by
      rw [r2] at hr
      injection hr
    refine ⟨g2.os,g2.tape,g2.output,g2.size,fun k hk=>?_⟩
    by_cases hkg:k=g
    · subst hkg
      cases a with
      | none =>
        have hc0:=y4 rfl
        have hy0:ys=[]:=List.length_eq_zero_iff.1 (by omega)
        subst hy0
        subst hc0
        exact .inl (by rw [same _ _ (hgo _ _ (run_append_owned_none (P:=P) W base t o.type T i 1 ht hq _ xs.length _ h.1))])
      | some a =>
        have hnews:∀ j u,(ys.map (Value.int .u8))[j]? = some u→W.cell? (a.add j)=some u:=by
          rcases y5 with rfl | ⟨g',o',e1,e2,e3,e4⟩
          · intro j u hu; simp at hu
          · obtain rfl:=Option.some.inj e1
            exact QiS e4
        by_cases hroom:xs.length+ys.length≤c
        · have hr:=run_append_room (P:=P) W t o.type T i ht hq k xs.length c cur q3 a ys.length cap (ys.map (Value.int .u8)) (by simp [hi2]) hnews (QiQ _ ys) hroom (by rw [hi2]; simp; omega)
          have hW:=same _ _ (hgo _ _ hr)
          rw [hW]
          refine .inr ⟨q2,_,_,_,q3,setRow_heap W k cur _ T _ q3,?_,fun j=>?_⟩
          · simp only [List.size_toArray,List.length_append,List.length_take,List.length_drop,List.length_map,Array.length_toList,hi2]; omega
          · simp only [List.getElem?_toArray,hi2,Nat.mul_one]
            have hl1:(List.take xs.length cur.toList).length=xs.length:=by
              have e:cur.toList.length=cur.size:=Array.length_toList
              rw [List.length_take,e]; omega
            rw [List.append_assoc]
            rcases Nat.lt_or_ge j xs.length with hj | hj
            · left
              rw [List.getElem?_append_left (by omega),List.getElem?_take,if_pos hj,Array.getElem?_toList]
            · rw [List.getElem?_append_right (by omega),hl1]
              rcases Nat.lt_or_ge (j-xs.length) ys.length with hj2 | hj2
              · right
                rcases hY with hY | ⟨rfl,rfl⟩
                · have:=hc0 hY; omega
                · refine ⟨hj,?_⟩
                  rw [List.getElem?_append_left (by rw [List.length_map]; exact hj2),List.getElem?_map,List.getElem?_eq_getElem hj2]
                  simp [nth,hj2]
              · left
                rw [List.getElem?_append_right (by rw [List.length_map]; exact hj2),List.length_map,List.getElem?_drop,Array.getElem?_toList]
                congr 1; omega
        · have holds:=h.1.cells (g:=k) rfl
          have hr:=run_append_grow (P:=P) W t o.type T i (.int .u8 0) ht hq hi1 ⟨k,0,none⟩ xs.length c (xs.map (Value.int .u8)) (by simp [hi2]) (by simpa using holds) a ys.length cap (ys.map (Value.int .u8)) (by simp [hi2]) hnews (by omega) (by omega) (growslice_fits (by omega) (by
            rw [hi3]
            have:(xs.length+ys.length)*b≤1000000000*8:=Nat.mul_le_mul hn hb8
            omega))
          have hW:=same _ _ (hgo _ _ hr)
          rw [hW]
          exact .inl (heap_alloc_old W.drew _ hk)
    · exact .inl (g2.block k hk (fun e=>hkg (Option.some.inj e)))
theorem Qgt {P : Program} {ds:List Deferred} {id:Nat} {Q:Exit→Act→World→Prop} {N:Nat} {L:Env} {w:World} {l:List Oper} (R:World→World→Prop) (hrf:∀ W,R W W) (htr:∀ {a b c:World},R a b→R b c→R a c) (n:Nat) (S:List Src) (hm:P.follows .mixedOrders=true) (hok:ok l n N S=true)
    (h:∀ F:List KE→Prop,(∀ C,(∀ W,R w.drew W→finE (fun L W=>WL P l.toArray Q (l.drop n) (Qaz ds N L) W) (l.take n) C L W)→F C)→Qbm P R w.drew N L F (l.take n) S []) :
    (Code.region id l.toArray true).wp P Q (Qaz ds N L) w:=by
  refine QcJ R n N S hm hok (QcP N L) hrf (fun a b=>htr a b) fun F r0 hr hF=>?_
  rw [QbL] at hr
  subst hr
  have:=h (fun C=>∀ W,R w.drew W→finE (fun L W=>WL P l.toArray Q (l.drop n) (Qaz ds N L) W) (l.take n) C L W) (fun C h=>h)
  exact Qc0 (G:=F) (fun C h=>hF.out fun W hR=>Qir (Q:=fun a W=>wpList P l.toArray Q (l.drop n) a W) _ _ _ (Qdq (fun L W h=>h.out) _ _ _ _ (h W hR))) _ _ [] this
theorem Once.below {base n:Nat} {ys:List Int} {W W':World} (h:Once base n ys W W') (hb:base≤W.heap.size):Below base W W' :=
  ⟨h.os,h.tape,h.output,h.size,fun g hg=>by
    rcases h.block g (by omega) with h | ⟨hb,_⟩
    · exact h
    · omega⟩
theorem Once.rd {base n B:Nat} {k:IntKind} {ys zs:List Int} {v:Value} {W W':World} (h:Once base n ys W W') (hr:RdK k B zs v W) (hB:B≤base):RdK k B zs v W':=hr.keep h.size fun g hg hl=>by
  rcases h.block g hl with h | ⟨hb,_⟩
  · exact h
  · omega
structure QcN (g base n : Nat) (ys : List Int) (W W' : World) : Prop where
  once:Once base n ys W W'
  other:∀ k,k<W.heap.size→k≠g→W'.heap[k]? = W.heap[k]?
theorem QcN.refl (g base n:Nat) (ys:List Int) (W:World):QcN g base n ys W W:=⟨Once.refl _ _ _ _,fun _ _ _=>rfl⟩
theorem QcN.trans {g base n:Nat} {ys:List Int} {a b c:World} (h:QcN g base n ys a b) (k:QcN g base n ys b c):QcN g base n ys a c:=⟨h.once.trans k.once,fun i hi hn=>(k.other i (qL hi h.once.size) hn).trans (h.other i hi hn)⟩
theorem QcN.ext {g base n:Nat} {ys:List Int} {a b:World} (e:Ext a b):QcN g base n ys a b:=⟨Once.ext e,fun i hi _=>e.block i hi⟩
theorem QcN.row {g base n:Nat} {ys:List Int} {a b:World} {k:Nat} {ob:Obj} (h:QcN g base n ys a b) (r:a.heap[k]? = some ob) (hn:k≠g):b.heap[k]? = some ob:=(h.other k (Qa0 r) hn).trans r
theorem Qe5 {g base n:Nat} {ys xs:List Int} {T:TypeId} (hx:∀ i,i<xs.length→n≤i→nth xs i=nth ys (i-n)):Qb8 (QcN g base n ys) (OwnN .u8 T base xs):=fun v W W' hR h=>QiR hx v W W' hR.once h
theorem Qi3 {P : Program} {T:TypeId} {ρ:Operand→Value} {o:Oper} {W:World} (s x:Operand) (t:TypeId) (ho:o.op=.call { callee:=.builtin .append,args:=#[s,x],argTypes:=#[t,t] })
    (ht:P.underlying t=some (.slice T)) (hi:(P.info? T).map (fun i=>(i.zero,i.size,i.bytes))=some (some (.int .u8 0),1,1)) {g c base B:Nat} {y:Value} {xs ys:List Int} (hs:ρ s=.slice (some ⟨g,0,none⟩) xs.length c) (hx:ρ x=y)
    (h:OwnN .u8 T base xs (.slice (some ⟨g,0,none⟩) xs.length c) W) (hy:RdK .u8 B ys y W) (hn:xs.length+ys.length≤1000000000) (hbase:base≤W.heap.size) :
    ∃ v' W',(execOp ρ o).run P W=.ok (.value v') W'∧QcN g base xs.length ys W W'∧OwnN .u8 T base (xs++ys) v' W':=by
  obtain ⟨v',W',r,q,p⟩:=Qjl (ρ:=ρ) (o:=o) (W:=W) (n:=xs.length) (Y:=ys) (b:=1) s x t ho ht hi (by decide) hs hx h hy hn hbase (.inr ⟨rfl,rfl⟩)
  obtain ⟨v2,W2,r2,o2,g2,-⟩:=QdX (ρ:=ρ) (o:=o) (W:=W) (b:=1) s x t ho ht hi (by decide) hs hx h hy hn hbase
  rw [r] at r2
  injection r2 with _ r3
  subst r3
  exact ⟨v',W',r,⟨q,fun k hk hn=>g2.block k hk (fun e=>hn (Option.some.inj e))⟩,p⟩
section
variable {P : Program} {R : World → World → Prop} {w0 : World} {N : Nat} {L : Env} {F : List KE → Prop} {o : Oper} {os : List Oper} {s : Src} {ss : List Src} {C : List KE}
theorem Qk0 (φ : Fact) (hφ:Qb8 R φ) {rd:List (Tmp×Option Nat)}
    (h:∀ (ρ:Tmp→Value) (W:World),R w0 W→Qcy (envN N L) (C.map KE.fact) ρ W rd→∃ v W',(execOp (Rely.look ρ) o).run P W=.ok (.value v) W'∧R W W'∧φ v W')
    (hk:Qbm P R w0 N L F os ss (C++[.ex φ])):Qbm P R w0 N L F (o::os) (⟨none,rd⟩::ss) C :=
  ⟨.ex φ,hφ,fun ρ W hR hh=>by
    obtain ⟨v,W',h1,h2,h3⟩:=h ρ W hR hh
    show QbV _ _ _ _ _
    rw [h1]
    exact ⟨h2,h3⟩,hk⟩
theorem Qi8 (hrf : ∀ W,R W W) (hre:∀ {A B:World},Ext A B→R A B) (φ:Fact) (hφ:Qb8 R φ) (f:FuncId) {rd:List (Tmp×Option Nat)}
    (h:∀ (ρ:Tmp→Value) (W:World),R w0 W→Qcy (envN N L) (C.map KE.fact) ρ W rd→∃ args,(execOp (Rely.look ρ) o).run P W=.ok (.enter f args) W∧Calls P f args W (QbD W φ))
    (hk:Qbm P R w0 N L F os ss (C++[.ex φ])):Qbm P R w0 N L F (o::os) (⟨none,rd⟩::ss) C :=
  ⟨.ex φ,hφ,fun ρ W hR hh=>by
    obtain ⟨args,h1,h2⟩:=h ρ W hR hh
    show QbV _ _ _ _ _
    rw [h1]
    exact ⟨hrf _,h2.mono fun _ _ h=>Qg5 h.fact (fun e=>hre e)⟩,hk⟩
end
theorem Qh5 {n : Nat} {W W':World} (h:Below n W.drew W') (hn:n≤W.heap.size):Below n W W':=Below.trans ((Qak W).mono hn) h
end Go.Proofs.YtoiendjhplbjjaaDoor.Ae
end
section
namespace Go.Proofs.YtoiendjhplbjjaaDoor.Cha
open Go Go.RowKit
open Rely Auto Own Sha
open Sha
theorem Qk9 (x : Wd) (n:Nat) (h:0<n) (hn:n<32):x<<<n+x>>>(32-n)=rl x n:=by
  have h2:=Qk2 x (32-n) (by omega) (by omega)
  rw [show 32-(32-n)=n by omega] at h2
  rw [BitVec.add_comm,h2]
  unfold rr rl
  rw [show 32-(32-n)=n by omega]
def rs1 (x : List Wd) (a b:Nat):List Wd:=x.set a (wget x a+wget x b)
def rs2 (x : List Wd) (d a n:Nat):List Wd:=x.set d (rl (wget x d^^^wget x a) n)
def rqrt (x : List Wd) (a b c d:Nat):List Wd:=rs2 (rs1 (rs2 (rs1 (rs2 (rs1 (rs2 (rs1 x a b) d a 16) c d) b c 12) a b) d a 8) c d) b c 7
theorem Qfm (x : List Wd) (a b:Nat):(rs1 x a b).length=x.length:=List.length_set ..
theorem Qfl (x : List Wd) (d a n:Nat):(rs2 x d a n).length=x.length:=List.length_set ..
theorem mulW (x : Wd) (m:Int) (k:Nat) (hm:m=2^k) (hk:k≤32):IntKind.u32.wrap (m*wv x)=wv (x<<<k):=by
  subst hm
  have h:=Qhf x (k:Int) k rfl hk
  have e:min ((k:Int)).toNat IntKind.u32.bits=k:=by show min ((k:Int)).toNat 32=k; omega
  rw [e] at h
  rw [Int.mul_comm]
  exact h
def rw4 (b : List Int) (i:Nat):Wd:=(BitVec.ofInt 32 (nth b (4*i))+BitVec.ofInt 32 (nth b (4*i+1))<<<8)+BitVec.ofInt 32 (nth b (4*i+2))<<<16+BitVec.ofInt 32 (nth b (4*i+3))<<<24
def rws (b : List Int) (n:Nat):List Wd:=(List.range n).map (rw4 b)
def rwords (b : List Int):List Wd:=rws b (b.length/4)
theorem QhI (b : List Int) (n:Nat):(rws b n).length=n:=by simp [rws]
theorem QiG (b : List Int) (n:Nat):(rws b (n+1)).map wv=(rws b n).map wv++[wv (rw4 b n)]:=by simp [rws,List.range_succ]
theorem QeT (n : Int) (h:0≤n∧n<256):(BitVec.ofInt 32 n).toNat=n.toNat:=by
  rw [BitVec.toNat_ofInt]
  omega
theorem or4 (x y z t:Nat) (hx:x<256) (hy:y<256) (hz:z<256):x|||y<<<8|||z<<<16|||t<<<24=x+y<<<8+z<<<16+t<<<24:=by
  have h1:x|||y<<<8=x+y<<<8:=by
    rw [Nat.or_comm,←Nat.shiftLeft_add_eq_or_of_lt (show x<2^8 by omega),Nat.add_comm]
  have l1:x+y<<<8<2^16:=by rw [Nat.shiftLeft_eq]; omega
  have h2:(x+y<<<8)|||z<<<16=x+y<<<8+z<<<16:=by
    rw [Nat.or_comm,←Nat.shiftLeft_add_eq_or_of_lt l1,Nat.add_comm]
  have l2:x+y<<<8+z<<<16<2^24:=by rw [Nat.shiftLeft_eq,Nat.shiftLeft_eq]; omega
  rw [h1,h2,Nat.or_comm,←Nat.shiftLeft_add_eq_or_of_lt l2,Nat.add_comm]
theorem Qfi (n : Int) (k:Nat) (h:0≤n∧n<256) (hk:k≤24):(BitVec.ofInt 32 n<<<k).toNat=n.toNat<<<k:=by
  rw [BitVec.toNat_shiftLeft,QeT n h,Nat.mod_eq_of_lt]
  rw [Nat.shiftLeft_eq]
  have h1:n.toNat<256:=by omega
  have h2:2^k≤2^24:=Nat.pow_le_pow_right (by decide) hk
  exact Nat.lt_of_le_of_lt (Nat.mul_le_mul (Nat.le_of_lt_succ h1) h2) (by decide)
theorem Qjw (b : List Int) (i:Nat) (hb:∀ j,0≤nth b j∧nth b j<256):rw4 b i=le4 (sub4 b i):=by
  unfold rw4 le4
  rw [QdG b i 0 (by decide),QdG b i 1 (by decide),QdG b i 2 (by decide),QdG b i 3 (by decide)]
  simp only [Nat.add_zero]
  have h0:=hb (4*i)
  have h1:=hb (4*i+1)
  have h2:=hb (4*i+2)
  have h3:=hb (4*i+3)
  apply BitVec.eq_of_toNat_eq
  simp only [BitVec.toNat_add,BitVec.toNat_or,QeT _ h0,Qfi _ 8 h1 (by decide),Qfi _ 16 h2 (by decide),Qfi _ 24 h3 (by decide)]
  rw [or4 _ _ _ _ (by omega) (by omega) (by omega)]
  simp only [Nat.shiftLeft_eq]
  omega
theorem QfF : ∀ x:List Wd,x.length=16→rqrt x 0 4 8 12=qrt x 0 4 8 12∧rqrt x 1 5 9 13=qrt x 1 5 9 13∧rqrt x 2 6 10 14=qrt x 2 6 10 14∧rqrt x 3 7 11 15=qrt x 3 7 11 15∧rqrt x 0 5 10 15=qrt x 0 5 10 15∧rqrt x 1 6 11 12=qrt x 1 6 11 12∧rqrt x 2 7 8 13=qrt x 2 7 8 13∧rqrt x 3 4 9 14=qrt x 3 4 9 14
  | [x0,x1,x2,x3,x4,x5,x6,x7,x8,x9,x10,x11,x12,x13,x14,x15],_=>⟨by kernel_rfl,by kernel_rfl,by kernel_rfl,by kernel_rfl,by kernel_rfl,by kernel_rfl,by kernel_rfl,by kernel_rfl⟩
theorem Qg4 (x : Wd) (n:Nat) (m:Int) (hm:m=(n:Int)) (h0:0<n) (hn:n<32) (w:World):Calls Tryd.prog 160 #[.int .u32 (wv x),.int .u64 m] w (Ret w (.int .u32 (wv (rl x n)))):=by
  subst hm
  refine enter 13 [(0,.int .u32 (wv x)),(1,.int .u64 ((n:Nat):Int))] Tryd.func160 rfl rfl kj rfl <| sgB kj <| sgC fun K2 hK2=>sg 2 kj <| Qaa (.int .u32 (wv (x<<<n))) 7 rfl kj (QaP .shl _ _ _ _ .u32 .u64 _ _ _ rfl kj kj (Qcv _ _ _ _ _ _ (by omega) (Qhf x _ n rfl (by omega)))) <| sg 2 kj <| Qaa (.int .u64 (((32-n:Nat):Int))) 10 rfl kj (Qad (u:=.int .u64 (IntKind.u64.wrap (32-((n:Nat):Int)))) kj (congrArg (Value.int .u64) (Qgw n hn))) <| Qaa (.int .u32 (wv (x>>>(32-n)))) 11 rfl kj (QaP .shr _ _ _ _ .u32 .u64 _ _ _ rfl kj kj (Qdk _ _ _ _ _ _ (by omega) (Qi9 x _ (32-n) rfl (by omega)))) <| Qaa (.int .u32 (wv (rl x n))) 12 rfl kj (Qad (u:=.int .u32 (IntKind.u32.wrap ((wv (x<<<n))+(wv (x>>>(32-n)))))) kj (congrArg (Value.int .u32) ((QdF _ _).trans (congrArg wv (Qk9 x n h0 hn))))) <| sg 1 kj ?_
  refine sgN hK2 <| wp_ret ?_
  repeat (first | with_reducible refine goR1 ?_ | with_reducible refine goR2 ?_)
  exact (show bodyPost _ _ _ .ret _ _ from ret1 (.int .u32 (wv (rl x n))) rfl (Qaq kj) ⟨rfl,(Rely.Ext.refl w)⟩)
set_option maxRecDepth 100000 in
theorem Qcr (g cc:Nat) (rest:Array Value) (x:List Wd) (a b c d:Nat) (ma mb mc md:Int) (w:World) (ea:ma=(a:Int)) (eb:mb=(b:Int)) (ec:mc=(c:Int)) (ed:md=(d:Int)) (hx:x.length=16) (ha:a<16) (hb:b<16) (hc:c<16) (hd:d<16) (hg:w.heap[g]? = some (.cells (ints .u32 (x.map wv)++rest) 162)) :
    Calls Tryd.prog 146 #[.slice (some ⟨g,0,none⟩) 16 cc,.int .i64 ma,.int .i64 mb,.int .i64 mc,.int .i64 md] w (fun e W=>e=.returned (.tuple #[])∧ExtB g w W∧W.heap[g]? = some (.cells (ints .u32 ((rqrt x a b c d).map wv)++rest) 162)):=by
  subst ea eb ec ed
  refine enter 76 [(0,.slice (some ⟨g,0,none⟩) 16 cc),(1,.int .i64 ((a:Nat):Int)),(2,.int .i64 ((b:Nat):Int)),(3,.int .i64 ((c:Nat):Int)),(4,.int .i64 ((d:Nat):Int))] Tryd.func146 rfl rfl kj rfl <| sgC fun K2 hK2=>QaD (ints .u64 ([16,12,8,7])) 104 4 12 rfl kj kj fun g3 W1 l3 e1 r3_1=>?_
  have b3:=qT (ExtB.refl g w).size l3
  refine sg 1 kj <| sgN hK2 <| sgB kj <| wp_block <| wp_loop_rounds 3 ?_
  show Code.wp _ _ (Exit.then (Code.rounds _ _ _ 2) _) _ _
  refine wp_seq_k fun K5 hK5=>sgB kj <| cond_true kj <| wp_skip <| hK5 _ _ <| wp_seq_k fun K7 hK7=>wp_block <| wp_seq_k fun K8 hK8=>QaX 12 [⟨none,[(0,none)]⟩,⟨none,[(1,none)]⟩,⟨none,[(0,none)]⟩,⟨none,[(1,none)]⟩,⟨none,[(19,some 2),(20,some 3)]⟩,⟨none,[(21,some 4)]⟩,⟨none,[(0,none)]⟩,⟨none,[(2,none)]⟩,⟨none,[(23,some 6),(24,some 7)]⟩,⟨none,[(25,some 8)]⟩,⟨none,[(22,some 5),(26,some 9)]⟩,⟨none,[(17,some 0),(18,some 1)]⟩] kj kj fun F hF=>Qam (.slice (some ⟨g,0,none⟩) 16 cc) kj kj (fun W=>by kernel_rfl) ?_
  refine Qam (.int .i64 ((a:Nat):Int)) kj kj (fun W=>by kernel_rfl) <| Qam (.slice (some ⟨g,0,none⟩) 16 cc) kj kj (fun W=>by kernel_rfl) <| Qam (.int .i64 ((a:Nat):Int)) kj kj (fun W=>by kernel_rfl) <| Qam (.pointer (some ⟨g,a,none⟩)) kj kj (fun W=>(Qau 205 _ _ .i64 (a) g 16 cc 162 rfl kj kj kj kj (by omega))) ?_
  have r1_1:=(Qab hg e1)
  refine QaN (.int .u32 (wv (wget x a))) kj kj (fun W hR=>(Qah 162 _ g a 162 _ (.int .u32 (wv (wget x a))) _ (Qab (Qab r1_1 (Qak _)) hR) rfl kj ((QaT (Nat.lt_of_lt_of_eq (by omega) (QaZ hx).symm)).trans (congrArg (fun z=>some (Value.int .u32 z)) (Qbv x a))) kj)) <| Qam (.slice (some ⟨g,0,none⟩) 16 cc) kj kj (fun W=>by kernel_rfl) <| Qam (.int .i64 ((b:Nat):Int)) kj kj (fun W=>by kernel_rfl) <| Qam (.pointer (some ⟨g,b,none⟩)) kj kj (fun W=>(Qau 205 _ _ .i64 (b) g 16 cc 162 rfl kj kj kj kj (by omega))) <| QaN (.int .u32 (wv (wget x b))) kj kj (fun W hR=>(Qah 162 _ g b 162 _ (.int .u32 (wv (wget x b))) _ (Qab (Qab r1_1 (Qak _)) hR) rfl kj ((QaT (Nat.lt_of_lt_of_eq (by omega) (QaZ hx).symm)).trans (congrArg (fun z=>some (Value.int .u32 z)) (Qbv x b))) kj)) <| Qam (.int .u32 (wv (((wget x a))+((wget x b))))) kj kj (fun W=>(Qad kj (congrArg (Value.int .u32) (QdF _ _)))) <| Qam (.pointer (some ⟨g,a,none⟩)) kj kj (fun W=>(Qau 205 _ _ .i64 (a) g 16 cc 162 rfl kj kj kj kj (by omega))) <| Qbf (hF _ kj fun W2 e2=>?_)
  simp only [ups,up,Kn.val,List.take_succ_cons,List.take_zero,List.drop_succ_cons,List.drop_zero,List.nil_append,List.cons_append]
  clear hF
  have r1_2:=(Qab r1_1 e2)
  refine Qal g _ (ints .u32 (((x).set a ((((wget x a))+((wget x b))))).map wv)++rest) 162 r1_2 rfl kj (Qby 162 _ _ g a 162 _ x ((((wget x a))+((wget x b)))) r1_2 rfl kj kj kj (Nat.lt_of_lt_of_eq (by omega) (QaZ hx).symm)) fun W3 p3 r1_3=>?_
  obtain ⟨xq1,ex1⟩:∃ z:List Wd,z=rs1 x a b:=⟨_,rfl⟩
  have hx1:xq1.length=16:=by rw [ex1,Qfm,hx]
  have r1_3_9:W3.heap[g]? = some (.cells (ints .u32 ((xq1).map wv)++rest) 162):=Qbk r1_3 (by rw [ex1]; rfl)
  refine sgN hK8 <| wp_seq_k fun K10 hK10=>QaX 17 [⟨none,[(0,none)]⟩,⟨none,[(4,none)]⟩,⟨none,[(0,none)]⟩,⟨none,[(4,none)]⟩,⟨none,[(31,some 2),(32,some 3)]⟩,⟨none,[(33,some 4)]⟩,⟨none,[(0,none)]⟩,⟨none,[(1,none)]⟩,⟨none,[(35,some 6),(36,some 7)]⟩,⟨none,[(37,some 8)]⟩,⟨none,[(34,some 5),(38,some 9)]⟩,⟨none,[(10,none)]⟩,⟨none,[(11,none)]⟩,⟨none,[(40,some 11),(41,some 12)]⟩,⟨none,[(42,some 13)]⟩,⟨none,[(39,some 10),(43,some 14)]⟩,⟨none,[(29,some 0),(30,some 1)]⟩] kj kj fun F hF=>Qam (.slice (some ⟨g,0,none⟩) 16 cc) kj kj (fun W=>by kernel_rfl) <| Qam (.int .i64 ((d:Nat):Int)) kj kj (fun W=>by kernel_rfl) <| Qam (.slice (some ⟨g,0,none⟩) 16 cc) kj kj (fun W=>by kernel_rfl) <| Qam (.int .i64 ((d:Nat):Int)) kj kj (fun W=>by kernel_rfl) <| Qam (.pointer (some ⟨g,d,none⟩)) kj kj (fun W=>(Qau 205 _ _ .i64 (d) g 16 cc 162 rfl kj kj kj kj (by omega))) <| QaN (.int .u32 (wv (wget xq1 d))) kj kj (fun W hR=>(Qah 162 _ g d 162 _ (.int .u32 (wv (wget xq1 d))) _ (Qab (Qab r1_3_9 (Qak _)) hR) rfl kj ((QaT (Nat.lt_of_lt_of_eq (by omega) (QaZ hx1).symm)).trans (congrArg (fun z=>some (Value.int .u32 z)) (Qbv xq1 d))) kj)) <| Qam (.slice (some ⟨g,0,none⟩) 16 cc) kj kj (fun W=>by kernel_rfl) ?_
  refine Qam (.int .i64 ((a:Nat):Int)) kj kj (fun W=>by kernel_rfl) <| Qam (.pointer (some ⟨g,a,none⟩)) kj kj (fun W=>(Qau 205 _ _ .i64 (a) g 16 cc 162 rfl kj kj kj kj (by omega))) <| QaN (.int .u32 (wv (wget xq1 a))) kj kj (fun W hR=>(Qah 162 _ g a 162 _ (.int .u32 (wv (wget xq1 a))) _ (Qab (Qab r1_3_9 (Qak _)) hR) rfl kj ((QaT (Nat.lt_of_lt_of_eq (by omega) (QaZ hx1).symm)).trans (congrArg (fun z=>some (Value.int .u32 z)) (Qbv xq1 a))) kj)) <| Qam (.int .u32 (wv (((wget xq1 d))^^^((wget xq1 a))))) kj kj (fun W=>(Qad kj (congrArg (Value.int .u32) (Qf1 _ _)))) <| Qam (.slice (some ⟨g3,0,none⟩) 4 4) kj kj (fun W=>by kernel_rfl) <| Qam (.int .i64 0) kj kj (fun W=>by kernel_rfl) <| Qam (.pointer (some ⟨g3,0,none⟩)) kj kj (fun W=>(Qau 228 _ _ .i64 (0) g3 4 4 104 rfl kj kj kj kj (by decide))) ?_
  have r3_3:=(Puts.row p3 (Qab r3_1 e2) (QaA hg l3))
  refine QaN (.int .u64 16) kj kj (fun W hR=>(Qah 104 _ g3 0 104 _ (.int .u64 16) _ (Qab (Qab r3_3 (Qak _)) hR) rfl kj kj kj)) <| Qch (.int .u32 (wv (rl (((wget xq1 d))^^^((wget xq1 a))) 16))) 160 #[.int .u32 (wv (((wget xq1 d))^^^((wget xq1 a)))),.int .u64 16] kj kj (fun W=>by kernel_rfl) (fun W hR=>(Qg4 (((wget xq1 d))^^^((wget xq1 a))) 16 16 rfl (by decide) (by decide)) W) <| Qam (.pointer (some ⟨g,d,none⟩)) kj kj (fun W=>(Qau 205 _ _ .i64 (d) g 16 cc 162 rfl kj kj kj kj (by omega))) <| Qbf (hF _ kj fun W4 e4=>?_)
  simp only [ups,up,Kn.val,List.take_succ_cons,List.take_zero,List.drop_succ_cons,List.drop_zero,List.nil_append,List.cons_append]
  clear hF
  have r1_4:=(Qab r1_3_9 e4)
  refine Qal g _ (ints .u32 (((xq1).set d ((rl (((wget xq1 d))^^^((wget xq1 a))) 16))).map wv)++rest) 162 r1_4 rfl kj (Qby 162 _ _ g d 162 _ xq1 ((rl (((wget xq1 d))^^^((wget xq1 a))) 16)) r1_4 rfl kj kj kj (Nat.lt_of_lt_of_eq (by omega) (QaZ hx1).symm)) fun W5 p5 r1_5=>?_
  obtain ⟨xq2,ex2⟩:∃ z:List Wd,z=rs2 xq1 d a 16:=⟨_,rfl⟩
  have hx2:xq2.length=16:=by rw [ex2,Qfl,hx1]
  have r1_5_11:W5.heap[g]? = some (.cells (ints .u32 ((xq2).map wv)++rest) 162):=Qbk r1_5 (by rw [ex2]; rfl)
  refine sgN hK10 <| wp_seq_k fun K12 hK12=>QaX 12 [⟨none,[(0,none)]⟩,⟨none,[(3,none)]⟩,⟨none,[(0,none)]⟩,⟨none,[(3,none)]⟩,⟨none,[(48,some 2),(49,some 3)]⟩,⟨none,[(50,some 4)]⟩,⟨none,[(0,none)]⟩,⟨none,[(4,none)]⟩,⟨none,[(52,some 6),(53,some 7)]⟩,⟨none,[(54,some 8)]⟩,⟨none,[(51,some 5),(55,some 9)]⟩,⟨none,[(46,some 0),(47,some 1)]⟩] kj kj fun F hF=>Qam (.slice (some ⟨g,0,none⟩) 16 cc) kj kj (fun W=>by kernel_rfl) <| Qam (.int .i64 ((c:Nat):Int)) kj kj (fun W=>by kernel_rfl) <| Qam (.slice (some ⟨g,0,none⟩) 16 cc) kj kj (fun W=>by kernel_rfl) <| Qam (.int .i64 ((c:Nat):Int)) kj kj (fun W=>by kernel_rfl) <| Qam (.pointer (some ⟨g,c,none⟩)) kj kj (fun W=>(Qau 205 _ _ .i64 (c) g 16 cc 162 rfl kj kj kj kj (by omega))) <| QaN (.int .u32 (wv (wget xq2 c))) kj kj (fun W hR=>(Qah 162 _ g c 162 _ (.int .u32 (wv (wget xq2 c))) _ (Qab (Qab r1_5_11 (Qak _)) hR) rfl kj ((QaT (Nat.lt_of_lt_of_eq (by omega) (QaZ hx2).symm)).trans (congrArg (fun z=>some (Value.int .u32 z)) (Qbv xq2 c))) kj)) <| Qam (.slice (some ⟨g,0,none⟩) 16 cc) kj kj (fun W=>by kernel_rfl) ?_
  refine Qam (.int .i64 ((d:Nat):Int)) kj kj (fun W=>by kernel_rfl) <| Qam (.pointer (some ⟨g,d,none⟩)) kj kj (fun W=>(Qau 205 _ _ .i64 (d) g 16 cc 162 rfl kj kj kj kj (by omega))) <| QaN (.int .u32 (wv (wget xq2 d))) kj kj (fun W hR=>(Qah 162 _ g d 162 _ (.int .u32 (wv (wget xq2 d))) _ (Qab (Qab r1_5_11 (Qak _)) hR) rfl kj ((QaT (Nat.lt_of_lt_of_eq (by omega) (QaZ hx2).symm)).trans (congrArg (fun z=>some (Value.int .u32 z)) (Qbv xq2 d))) kj)) <| Qam (.int .u32 (wv (((wget xq2 c))+((wget xq2 d))))) kj kj (fun W=>(Qad kj (congrArg (Value.int .u32) (QdF _ _)))) <| Qam (.pointer (some ⟨g,c,none⟩)) kj kj (fun W=>(Qau 205 _ _ .i64 (c) g 16 cc 162 rfl kj kj kj kj (by omega))) <| Qbf (hF _ kj fun W6 e6=>?_)
  simp only [ups,up,Kn.val,List.take_succ_cons,List.take_zero,List.drop_succ_cons,List.drop_zero,List.nil_append,List.cons_append]
  clear hF
  have r1_6:=(Qab r1_5_11 e6)
  refine Qal g _ (ints .u32 (((xq2).set c ((((wget xq2 c))+((wget xq2 d))))).map wv)++rest) 162 r1_6 rfl kj (Qby 162 _ _ g c 162 _ xq2 ((((wget xq2 c))+((wget xq2 d)))) r1_6 rfl kj kj kj (Nat.lt_of_lt_of_eq (by omega) (QaZ hx2).symm)) fun W7 p7 r1_7=>?_
  obtain ⟨xq3,ex3⟩:∃ z:List Wd,z=rs1 xq2 c d:=⟨_,rfl⟩
  have hx3:xq3.length=16:=by rw [ex3,Qfm,hx2]
  have r1_7_13:W7.heap[g]? = some (.cells (ints .u32 ((xq3).map wv)++rest) 162):=Qbk r1_7 (by rw [ex3]; rfl)
  refine sgN hK12 <| QaX 18 [⟨none,[(0,none)]⟩,⟨none,[(2,none)]⟩,⟨none,[(0,none)]⟩,⟨none,[(2,none)]⟩,⟨none,[(60,some 2),(61,some 3)]⟩,⟨none,[(62,some 4)]⟩,⟨none,[(0,none)]⟩,⟨none,[(3,none)]⟩,⟨none,[(64,some 6),(65,some 7)]⟩,⟨none,[(66,some 8)]⟩,⟨none,[(63,some 5),(67,some 9)]⟩,⟨none,[(10,none)]⟩,⟨none,[(11,none)]⟩,⟨none,[(70,some 12)]⟩,⟨none,[(69,some 11),(71,some 13)]⟩,⟨none,[(72,some 14)]⟩,⟨none,[(68,some 10),(73,some 15)]⟩,⟨none,[(58,some 0),(59,some 1)]⟩] kj kj fun F hF=>Qam (.slice (some ⟨g,0,none⟩) 16 cc) kj kj (fun W=>by kernel_rfl) <| Qam (.int .i64 ((b:Nat):Int)) kj kj (fun W=>by kernel_rfl) <| Qam (.slice (some ⟨g,0,none⟩) 16 cc) kj kj (fun W=>by kernel_rfl) <| Qam (.int .i64 ((b:Nat):Int)) kj kj (fun W=>by kernel_rfl) <| Qam (.pointer (some ⟨g,b,none⟩)) kj kj (fun W=>(Qau 205 _ _ .i64 (b) g 16 cc 162 rfl kj kj kj kj (by omega))) <| QaN (.int .u32 (wv (wget xq3 b))) kj kj (fun W hR=>(Qah 162 _ g b 162 _ (.int .u32 (wv (wget xq3 b))) _ (Qab (Qab r1_7_13 (Qak _)) hR) rfl kj ((QaT (Nat.lt_of_lt_of_eq (by omega) (QaZ hx3).symm)).trans (congrArg (fun z=>some (Value.int .u32 z)) (Qbv xq3 b))) kj)) <| Qam (.slice (some ⟨g,0,none⟩) 16 cc) kj kj (fun W=>by kernel_rfl) <| Qam (.int .i64 ((c:Nat):Int)) kj kj (fun W=>by kernel_rfl) ?_
  refine Qam (.pointer (some ⟨g,c,none⟩)) kj kj (fun W=>(Qau 205 _ _ .i64 (c) g 16 cc 162 rfl kj kj kj kj (by omega))) <| QaN (.int .u32 (wv (wget xq3 c))) kj kj (fun W hR=>(Qah 162 _ g c 162 _ (.int .u32 (wv (wget xq3 c))) _ (Qab (Qab r1_7_13 (Qak _)) hR) rfl kj ((QaT (Nat.lt_of_lt_of_eq (by omega) (QaZ hx3).symm)).trans (congrArg (fun z=>some (Value.int .u32 z)) (Qbv xq3 c))) kj)) <| Qam (.int .u32 (wv (((wget xq3 b))^^^((wget xq3 c))))) kj kj (fun W=>(Qad kj (congrArg (Value.int .u32) (Qf1 _ _)))) <| Qam (.slice (some ⟨g3,0,none⟩) 4 4) kj kj (fun W=>by kernel_rfl) <| Qam (.int .i64 0) kj kj (fun W=>by kernel_rfl) <| Qam (.int .i64 1) kj kj (fun W=>by kernel_rfl) <| Qam (.pointer (some ⟨g3,1,none⟩)) kj kj (fun W=>(Qau 228 _ _ .i64 (1) g3 4 4 104 rfl kj kj kj kj (by decide))) ?_
  have r3_7:=(Puts.row p7 (Qab (Puts.row p5 (Qab r3_3 e4) (QaA hg l3)) e6) (QaA hg l3))
  refine QaN (.int .u64 12) kj kj (fun W hR=>(Qah 104 _ g3 1 104 _ (.int .u64 12) _ (Qab (Qab r3_7 (Qak _)) hR) rfl kj kj kj)) <| Qch (.int .u32 (wv (rl (((wget xq3 b))^^^((wget xq3 c))) 12))) 160 #[.int .u32 (wv (((wget xq3 b))^^^((wget xq3 c)))),.int .u64 12] kj kj (fun W=>by kernel_rfl) (fun W hR=>(Qg4 (((wget xq3 b))^^^((wget xq3 c))) 12 12 rfl (by decide) (by decide)) W) <| Qam (.pointer (some ⟨g,b,none⟩)) kj kj (fun W=>(Qau 205 _ _ .i64 (b) g 16 cc 162 rfl kj kj kj kj (by omega))) <| Qbf (hF _ kj fun W8 e8=>?_)
  simp only [ups,up,Kn.val,List.take_succ_cons,List.take_zero,List.drop_succ_cons,List.drop_zero,List.nil_append,List.cons_append]
  clear hF
  have r1_8:=(Qab r1_7_13 e8)
  refine Qal g _ (ints .u32 (((xq3).set b ((rl (((wget xq3 b))^^^((wget xq3 c))) 12))).map wv)++rest) 162 r1_8 rfl kj (Qby 162 _ _ g b 162 _ xq3 ((rl (((wget xq3 b))^^^((wget xq3 c))) 12)) r1_8 rfl kj kj kj (Nat.lt_of_lt_of_eq (by omega) (QaZ hx3).symm)) fun W9 p9 r1_9=>?_
  obtain ⟨xq4,ex4⟩:∃ z:List Wd,z=rs2 xq3 b c 12:=⟨_,rfl⟩
  have hx4:xq4.length=16:=by rw [ex4,Qfl,hx3]
  have r1_9_14:W9.heap[g]? = some (.cells (ints .u32 ((xq4).map wv)++rest) 162):=Qbk r1_9 (by rw [ex4]; rfl)
  refine Qae <| hK7 _ _ <| sgA kj ?_
  show Code.rounds _ _ _ 2 _ _
  show Code.wp _ _ (Exit.then (Code.rounds _ _ _ 1) _) _ _
  refine wp_seq_k fun K15 hK15=>sgB kj <| cond_true kj <| wp_skip <| hK15 _ _ <| wp_seq_k fun K17 hK17=>wp_block <| wp_seq_k fun K18 hK18=>QaX 12 [⟨none,[(0,none)]⟩,⟨none,[(1,none)]⟩,⟨none,[(0,none)]⟩,⟨none,[(1,none)]⟩,⟨none,[(19,some 2),(20,some 3)]⟩,⟨none,[(21,some 4)]⟩,⟨none,[(0,none)]⟩,⟨none,[(2,none)]⟩,⟨none,[(23,some 6),(24,some 7)]⟩,⟨none,[(25,some 8)]⟩,⟨none,[(22,some 5),(26,some 9)]⟩,⟨none,[(17,some 0),(18,some 1)]⟩] kj kj fun F hF=>Qam (.slice (some ⟨g,0,none⟩) 16 cc) kj kj (fun W=>by kernel_rfl) ?_
  refine Qam (.int .i64 ((a:Nat):Int)) kj kj (fun W=>by kernel_rfl) <| Qam (.slice (some ⟨g,0,none⟩) 16 cc) kj kj (fun W=>by kernel_rfl) <| Qam (.int .i64 ((a:Nat):Int)) kj kj (fun W=>by kernel_rfl) <| Qam (.pointer (some ⟨g,a,none⟩)) kj kj (fun W=>(Qau 205 _ _ .i64 (a) g 16 cc 162 rfl kj kj kj kj (by omega))) <| QaN (.int .u32 (wv (wget xq4 a))) kj kj (fun W hR=>(Qah 162 _ g a 162 _ (.int .u32 (wv (wget xq4 a))) _ (Qab (Qab r1_9_14 (Qak _)) hR) rfl kj ((QaT (Nat.lt_of_lt_of_eq (by omega) (QaZ hx4).symm)).trans (congrArg (fun z=>some (Value.int .u32 z)) (Qbv xq4 a))) kj)) <| Qam (.slice (some ⟨g,0,none⟩) 16 cc) kj kj (fun W=>by kernel_rfl) <| Qam (.int .i64 ((b:Nat):Int)) kj kj (fun W=>by kernel_rfl) <| Qam (.pointer (some ⟨g,b,none⟩)) kj kj (fun W=>(Qau 205 _ _ .i64 (b) g 16 cc 162 rfl kj kj kj kj (by omega))) <| QaN (.int .u32 (wv (wget xq4 b))) kj kj (fun W hR=>(Qah 162 _ g b 162 _ (.int .u32 (wv (wget xq4 b))) _ (Qab (Qab r1_9_14 (Qak _)) hR) rfl kj ((QaT (Nat.lt_of_lt_of_eq (by omega) (QaZ hx4).symm)).trans (congrArg (fun z=>some (Value.int .u32 z)) (Qbv xq4 b))) kj)) <| Qam (.int .u32 (wv (((wget xq4 a))+((wget xq4 b))))) kj kj (fun W=>(Qad kj (congrArg (Value.int .u32) (QdF _ _)))) ?_
  refine Qam (.pointer (some ⟨g,a,none⟩)) kj kj (fun W=>(Qau 205 _ _ .i64 (a) g 16 cc 162 rfl kj kj kj kj (by omega))) <| Qbf (hF _ kj fun W10 e10=>?_)
  simp only [ups,up,Kn.val,List.take_succ_cons,List.take_zero,List.drop_succ_cons,List.drop_zero,List.nil_append,List.cons_append]
  clear hF
  have r1_10:=(Qab r1_9_14 e10)
  refine Qal g _ (ints .u32 (((xq4).set a ((((wget xq4 a))+((wget xq4 b))))).map wv)++rest) 162 r1_10 rfl kj (Qby 162 _ _ g a 162 _ xq4 ((((wget xq4 a))+((wget xq4 b)))) r1_10 rfl kj kj kj (Nat.lt_of_lt_of_eq (by omega) (QaZ hx4).symm)) fun W11 p11 r1_11=>?_
  obtain ⟨xq5,ex5⟩:∃ z:List Wd,z=rs1 xq4 a b:=⟨_,rfl⟩
  have hx5:xq5.length=16:=by rw [ex5,Qfm,hx4]
  have r1_11_19:W11.heap[g]? = some (.cells (ints .u32 ((xq5).map wv)++rest) 162):=Qbk r1_11 (by rw [ex5]; rfl)
  refine sgN hK18 <| wp_seq_k fun K20 hK20=>QaX 17 [⟨none,[(0,none)]⟩,⟨none,[(4,none)]⟩,⟨none,[(0,none)]⟩,⟨none,[(4,none)]⟩,⟨none,[(31,some 2),(32,some 3)]⟩,⟨none,[(33,some 4)]⟩,⟨none,[(0,none)]⟩,⟨none,[(1,none)]⟩,⟨none,[(35,some 6),(36,some 7)]⟩,⟨none,[(37,some 8)]⟩,⟨none,[(34,some 5),(38,some 9)]⟩,⟨none,[(10,none)]⟩,⟨none,[(11,none)]⟩,⟨none,[(40,some 11),(41,some 12)]⟩,⟨none,[(42,some 13)]⟩,⟨none,[(39,some 10),(43,some 14)]⟩,⟨none,[(29,some 0),(30,some 1)]⟩] kj kj fun F hF=>Qam (.slice (some ⟨g,0,none⟩) 16 cc) kj kj (fun W=>by kernel_rfl) <| Qam (.int .i64 ((d:Nat):Int)) kj kj (fun W=>by kernel_rfl) <| Qam (.slice (some ⟨g,0,none⟩) 16 cc) kj kj (fun W=>by kernel_rfl) <| Qam (.int .i64 ((d:Nat):Int)) kj kj (fun W=>by kernel_rfl) <| Qam (.pointer (some ⟨g,d,none⟩)) kj kj (fun W=>(Qau 205 _ _ .i64 (d) g 16 cc 162 rfl kj kj kj kj (by omega))) <| QaN (.int .u32 (wv (wget xq5 d))) kj kj (fun W hR=>(Qah 162 _ g d 162 _ (.int .u32 (wv (wget xq5 d))) _ (Qab (Qab r1_11_19 (Qak _)) hR) rfl kj ((QaT (Nat.lt_of_lt_of_eq (by omega) (QaZ hx5).symm)).trans (congrArg (fun z=>some (Value.int .u32 z)) (Qbv xq5 d))) kj)) <| Qam (.slice (some ⟨g,0,none⟩) 16 cc) kj kj (fun W=>by kernel_rfl) ?_
  refine Qam (.int .i64 ((a:Nat):Int)) kj kj (fun W=>by kernel_rfl) <| Qam (.pointer (some ⟨g,a,none⟩)) kj kj (fun W=>(Qau 205 _ _ .i64 (a) g 16 cc 162 rfl kj kj kj kj (by omega))) <| QaN (.int .u32 (wv (wget xq5 a))) kj kj (fun W hR=>(Qah 162 _ g a 162 _ (.int .u32 (wv (wget xq5 a))) _ (Qab (Qab r1_11_19 (Qak _)) hR) rfl kj ((QaT (Nat.lt_of_lt_of_eq (by omega) (QaZ hx5).symm)).trans (congrArg (fun z=>some (Value.int .u32 z)) (Qbv xq5 a))) kj)) <| Qam (.int .u32 (wv (((wget xq5 d))^^^((wget xq5 a))))) kj kj (fun W=>(Qad kj (congrArg (Value.int .u32) (Qf1 _ _)))) <| Qam (.slice (some ⟨g3,0,none⟩) 4 4) kj kj (fun W=>by kernel_rfl) <| Qam (.int .i64 2) kj kj (fun W=>by kernel_rfl) <| Qam (.pointer (some ⟨g3,2,none⟩)) kj kj (fun W=>(Qau 228 _ _ .i64 (2) g3 4 4 104 rfl kj kj kj kj (by decide))) ?_
  have r3_11:=(Puts.row p11 (Qab (Puts.row p9 (Qab r3_7 e8) (QaA hg l3)) e10) (QaA hg l3))
  refine QaN (.int .u64 8) kj kj (fun W hR=>(Qah 104 _ g3 2 104 _ (.int .u64 8) _ (Qab (Qab r3_11 (Qak _)) hR) rfl kj kj kj)) <| Qch (.int .u32 (wv (rl (((wget xq5 d))^^^((wget xq5 a))) 8))) 160 #[.int .u32 (wv (((wget xq5 d))^^^((wget xq5 a)))),.int .u64 8] kj kj (fun W=>by kernel_rfl) (fun W hR=>(Qg4 (((wget xq5 d))^^^((wget xq5 a))) 8 8 rfl (by decide) (by decide)) W) <| Qam (.pointer (some ⟨g,d,none⟩)) kj kj (fun W=>(Qau 205 _ _ .i64 (d) g 16 cc 162 rfl kj kj kj kj (by omega))) <| Qbf (hF _ kj fun W12 e12=>?_)
  simp only [ups,up,Kn.val,List.take_succ_cons,List.take_zero,List.drop_succ_cons,List.drop_zero,List.nil_append,List.cons_append]
  clear hF
  have r1_12:=(Qab r1_11_19 e12)
  refine Qal g _ (ints .u32 (((xq5).set d ((rl (((wget xq5 d))^^^((wget xq5 a))) 8))).map wv)++rest) 162 r1_12 rfl kj (Qby 162 _ _ g d 162 _ xq5 ((rl (((wget xq5 d))^^^((wget xq5 a))) 8)) r1_12 rfl kj kj kj (Nat.lt_of_lt_of_eq (by omega) (QaZ hx5).symm)) fun W13 p13 r1_13=>?_
  obtain ⟨xq6,ex6⟩:∃ z:List Wd,z=rs2 xq5 d a 8:=⟨_,rfl⟩
  have hx6:xq6.length=16:=by rw [ex6,Qfl,hx5]
  have r1_13_21:W13.heap[g]? = some (.cells (ints .u32 ((xq6).map wv)++rest) 162):=Qbk r1_13 (by rw [ex6]; rfl)
  refine sgN hK20 <| wp_seq_k fun K22 hK22=>QaX 12 [⟨none,[(0,none)]⟩,⟨none,[(3,none)]⟩,⟨none,[(0,none)]⟩,⟨none,[(3,none)]⟩,⟨none,[(48,some 2),(49,some 3)]⟩,⟨none,[(50,some 4)]⟩,⟨none,[(0,none)]⟩,⟨none,[(4,none)]⟩,⟨none,[(52,some 6),(53,some 7)]⟩,⟨none,[(54,some 8)]⟩,⟨none,[(51,some 5),(55,some 9)]⟩,⟨none,[(46,some 0),(47,some 1)]⟩] kj kj fun F hF=>Qam (.slice (some ⟨g,0,none⟩) 16 cc) kj kj (fun W=>by kernel_rfl) <| Qam (.int .i64 ((c:Nat):Int)) kj kj (fun W=>by kernel_rfl) <| Qam (.slice (some ⟨g,0,none⟩) 16 cc) kj kj (fun W=>by kernel_rfl) <| Qam (.int .i64 ((c:Nat):Int)) kj kj (fun W=>by kernel_rfl) <| Qam (.pointer (some ⟨g,c,none⟩)) kj kj (fun W=>(Qau 205 _ _ .i64 (c) g 16 cc 162 rfl kj kj kj kj (by omega))) <| QaN (.int .u32 (wv (wget xq6 c))) kj kj (fun W hR=>(Qah 162 _ g c 162 _ (.int .u32 (wv (wget xq6 c))) _ (Qab (Qab r1_13_21 (Qak _)) hR) rfl kj ((QaT (Nat.lt_of_lt_of_eq (by omega) (QaZ hx6).symm)).trans (congrArg (fun z=>some (Value.int .u32 z)) (Qbv xq6 c))) kj)) <| Qam (.slice (some ⟨g,0,none⟩) 16 cc) kj kj (fun W=>by kernel_rfl) ?_
  refine Qam (.int .i64 ((d:Nat):Int)) kj kj (fun W=>by kernel_rfl) <| Qam (.pointer (some ⟨g,d,none⟩)) kj kj (fun W=>(Qau 205 _ _ .i64 (d) g 16 cc 162 rfl kj kj kj kj (by omega))) <| QaN (.int .u32 (wv (wget xq6 d))) kj kj (fun W hR=>(Qah 162 _ g d 162 _ (.int .u32 (wv (wget xq6 d))) _ (Qab (Qab r1_13_21 (Qak _)) hR) rfl kj ((QaT (Nat.lt_of_lt_of_eq (by omega) (QaZ hx6).symm)).trans (congrArg (fun z=>some (Value.int .u32 z)) (Qbv xq6 d))) kj)) <| Qam (.int .u32 (wv (((wget xq6 c))+((wget xq6 d))))) kj kj (fun W=>(Qad kj (congrArg (Value.int .u32) (QdF _ _)))) <| Qam (.pointer (some ⟨g,c,none⟩)) kj kj (fun W=>(Qau 205 _ _ .i64 (c) g 16 cc 162 rfl kj kj kj kj (by omega))) <| Qbf (hF _ kj fun W14 e14=>?_)
  simp only [ups,up,Kn.val,List.take_succ_cons,List.take_zero,List.drop_succ_cons,List.drop_zero,List.nil_append,List.cons_append]
  clear hF
  have r1_14:=(Qab r1_13_21 e14)
  refine Qal g _ (ints .u32 (((xq6).set c ((((wget xq6 c))+((wget xq6 d))))).map wv)++rest) 162 r1_14 rfl kj (Qby 162 _ _ g c 162 _ xq6 ((((wget xq6 c))+((wget xq6 d)))) r1_14 rfl kj kj kj (Nat.lt_of_lt_of_eq (by omega) (QaZ hx6).symm)) fun W15 p15 r1_15=>?_
  obtain ⟨xq7,ex7⟩:∃ z:List Wd,z=rs1 xq6 c d:=⟨_,rfl⟩
  have hx7:xq7.length=16:=by rw [ex7,Qfm,hx6]
  have r1_15_23:W15.heap[g]? = some (.cells (ints .u32 ((xq7).map wv)++rest) 162):=Qbk r1_15 (by rw [ex7]; rfl)
  refine sgN hK22 <| QaX 18 [⟨none,[(0,none)]⟩,⟨none,[(2,none)]⟩,⟨none,[(0,none)]⟩,⟨none,[(2,none)]⟩,⟨none,[(60,some 2),(61,some 3)]⟩,⟨none,[(62,some 4)]⟩,⟨none,[(0,none)]⟩,⟨none,[(3,none)]⟩,⟨none,[(64,some 6),(65,some 7)]⟩,⟨none,[(66,some 8)]⟩,⟨none,[(63,some 5),(67,some 9)]⟩,⟨none,[(10,none)]⟩,⟨none,[(11,none)]⟩,⟨none,[(70,some 12)]⟩,⟨none,[(69,some 11),(71,some 13)]⟩,⟨none,[(72,some 14)]⟩,⟨none,[(68,some 10),(73,some 15)]⟩,⟨none,[(58,some 0),(59,some 1)]⟩] kj kj fun F hF=>Qam (.slice (some ⟨g,0,none⟩) 16 cc) kj kj (fun W=>by kernel_rfl) <| Qam (.int .i64 ((b:Nat):Int)) kj kj (fun W=>by kernel_rfl) <| Qam (.slice (some ⟨g,0,none⟩) 16 cc) kj kj (fun W=>by kernel_rfl) <| Qam (.int .i64 ((b:Nat):Int)) kj kj (fun W=>by kernel_rfl) <| Qam (.pointer (some ⟨g,b,none⟩)) kj kj (fun W=>(Qau 205 _ _ .i64 (b) g 16 cc 162 rfl kj kj kj kj (by omega))) <| QaN (.int .u32 (wv (wget xq7 b))) kj kj (fun W hR=>(Qah 162 _ g b 162 _ (.int .u32 (wv (wget xq7 b))) _ (Qab (Qab r1_15_23 (Qak _)) hR) rfl kj ((QaT (Nat.lt_of_lt_of_eq (by omega) (QaZ hx7).symm)).trans (congrArg (fun z=>some (Value.int .u32 z)) (Qbv xq7 b))) kj)) <| Qam (.slice (some ⟨g,0,none⟩) 16 cc) kj kj (fun W=>by kernel_rfl) <| Qam (.int .i64 ((c:Nat):Int)) kj kj (fun W=>by kernel_rfl) ?_
  refine Qam (.pointer (some ⟨g,c,none⟩)) kj kj (fun W=>(Qau 205 _ _ .i64 (c) g 16 cc 162 rfl kj kj kj kj (by omega))) <| QaN (.int .u32 (wv (wget xq7 c))) kj kj (fun W hR=>(Qah 162 _ g c 162 _ (.int .u32 (wv (wget xq7 c))) _ (Qab (Qab r1_15_23 (Qak _)) hR) rfl kj ((QaT (Nat.lt_of_lt_of_eq (by omega) (QaZ hx7).symm)).trans (congrArg (fun z=>some (Value.int .u32 z)) (Qbv xq7 c))) kj)) <| Qam (.int .u32 (wv (((wget xq7 b))^^^((wget xq7 c))))) kj kj (fun W=>(Qad kj (congrArg (Value.int .u32) (Qf1 _ _)))) <| Qam (.slice (some ⟨g3,0,none⟩) 4 4) kj kj (fun W=>by kernel_rfl) <| Qam (.int .i64 2) kj kj (fun W=>by kernel_rfl) <| Qam (.int .i64 3) kj kj (fun W=>by kernel_rfl) <| Qam (.pointer (some ⟨g3,3,none⟩)) kj kj (fun W=>(Qau 228 _ _ .i64 (3) g3 4 4 104 rfl kj kj kj kj (by decide))) <| QaN (.int .u64 7) kj kj (fun W hR=>(Qah 104 _ g3 3 104 _ (.int .u64 7) _ (Qab (Qab (Puts.row p15 (Qab (Puts.row p13 (Qab r3_11 e12) (QaA hg l3)) e14) (QaA hg l3)) (Qak _)) hR) rfl kj kj kj)) <| Qch (.int .u32 (wv (rl (((wget xq7 b))^^^((wget xq7 c))) 7))) 160 #[.int .u32 (wv (((wget xq7 b))^^^((wget xq7 c)))),.int .u64 7] kj kj (fun W=>by kernel_rfl) (fun W hR=>(Qg4 (((wget xq7 b))^^^((wget xq7 c))) 7 7 rfl (by decide) (by decide)) W) <| Qam (.pointer (some ⟨g,b,none⟩)) kj kj (fun W=>(Qau 205 _ _ .i64 (b) g 16 cc 162 rfl kj kj kj kj (by omega))) ?_
  refine Qbf (hF _ kj fun W16 e16=>?_)
  simp only [ups,up,Kn.val,List.take_succ_cons,List.take_zero,List.drop_succ_cons,List.drop_zero,List.nil_append,List.cons_append]
  clear hF
  have r1_16:=(Qab r1_15_23 e16)
  refine Qal g _ (ints .u32 (((xq7).set b ((rl (((wget xq7 b))^^^((wget xq7 c))) 7))).map wv)++rest) 162 r1_16 rfl kj (Qby 162 _ _ g b 162 _ xq7 ((rl (((wget xq7 b))^^^((wget xq7 c))) 7)) r1_16 rfl kj kj kj (Nat.lt_of_lt_of_eq (by omega) (QaZ hx7).symm)) fun W17 p17 r1_17=>?_
  obtain ⟨xq8,ex8⟩:∃ z:List Wd,z=rs2 xq7 b c 7:=⟨_,rfl⟩
  have hx8:xq8.length=16:=by rw [ex8,Qfl,hx7]
  have r1_17_24:W17.heap[g]? = some (.cells (ints .u32 ((xq8).map wv)++rest) 162):=Qbk r1_17 (by rw [ex8]; rfl)
  refine Qae <| hK17 _ _ <| sgA kj ?_
  show Code.rounds _ _ _ 1 _ _
  show Code.wp _ _ (Exit.then (Code.rounds _ _ _ 0) _) _ _
  refine wp_seq_k fun K25 hK25=>sgB kj <| cond_false kj <| wp_exit ?_
  repeat (first | with_reducible refine goX1 ?_ | with_reducible refine goX2 ?_ | with_reducible refine goX3 ?_)
  exact (show bodyPost _ _ _ .normal _ _ from end0 rfl ⟨rfl,(ExtB.puts (ExtB.ext (ExtB.puts (ExtB.ext (ExtB.puts (ExtB.ext (ExtB.puts (ExtB.ext (ExtB.puts (ExtB.ext (ExtB.puts (ExtB.ext (ExtB.puts (ExtB.ext (ExtB.puts (ExtB.ext (ExtB.ext (ExtB.refl g w) e1) e2) p3) e4) p5) e6) p7) e8) p9) e10) p11) e12) p13) e14) p15) e16) p17),by rw [show rqrt x a b c d=xq8 by rw [ex8,ex7,ex6,ex5,ex4,ex3,ex2,ex1]; rfl]; exact r1_17_24⟩)
theorem Qga (b : List Int) (v:Value) (B:Nat) (w:World) (hb:RdK .u8 B b v w) (hl:b.length≤1000000):Calls Tryd.prog 145 #[v] w (QbD w (OwnN .u32 162 w.heap.size ((rwords b).map wv))):=by
 obtain ⟨a_b,c_b,rfl,-⟩:=id hb
 refine enter 45 [(0,.slice a_b b.length c_b)] Tryd.func145 rfl rfl kj rfl <| sgB kj <| sgB kj <| wp_seq_k fun K3 hK3=>sgB kj <| wp_block <| QaB (fun (s1:Nat×Value)=>[(0,.slice a_b b.length c_b),(3,s1.2),(4,.int .i64 ((4*s1.1:Nat):Int))]) (fun (s1:Nat×Value) W=>(4*s1.1≤b.length)∧(OwnN .u32 162 w.heap.size ((rws b s1.1).map wv) s1.2 W)∧(Ext w W)) (fun (s1:Nat×Value)=>b.length-4*s1.1) (0,(.slice none 0 0)) ⟨kj,kj,kj,trivial⟩ ⟨(Nat.zero_le _),(Qbb _ _ _ _),(Rely.Ext.refl w)⟩ fun s1 X1 V1 hI1=>?_
 obtain ⟨j,u⟩:=s1
 obtain ⟨hj,hu,xx1⟩:=hI1
 replace hj:4*j≤b.length:=hj
 replace hu:OwnN .u32 162 w.heap.size ((rws b j).map wv) u V1:=hu
 replace xx1:Ext w V1:=xx1
 refine wp_seq_k fun K5 hK5=>sgC fun K6 hK6=>sg 1 kj <| Qaa (.int .i64 (((4*j)+4:Nat):Int)) 6 rfl kj (Qad (u:=.int .i64 (IntKind.i64.wrap (((4*j:Nat):Int)+4))) kj (congrArg (Value.int .i64) (i64n _ _ (by omega) (by omega)))) <| sg 3 kj <| sgN hK6 <| Qa7 (t:=decide ((((4*j)+4:Nat):Int)≤((b.length:Nat):Int))) kj (fun c7=>?_) (fun c7=>?_)
 ·skip
  have hlt:4*j+4≤b.length:=by have:=of_decide_eq_true c7; omega
  obtain ⟨gb,ob,hab,-,hlb,hcb⟩:=Qb0 (RdK.ext hb xx1) (by omega)
  refine wp_skip <| hK5 _ _ <| wp_seq_k fun K9 hK9=>wp_block <| QaL 31 [⟨none,[(3,none)]⟩,⟨none,[(0,none)]⟩,⟨none,[(4,none)]⟩,⟨none,[(13,some 1),(14,some 2)]⟩,⟨none,[(15,some 3)]⟩,⟨none,[(16,some 4)]⟩,⟨none,[(0,none)]⟩,⟨none,[(4,none)]⟩,⟨none,[(19,some 7)]⟩,⟨none,[(18,some 6),(20,some 8)]⟩,⟨none,[(21,some 9)]⟩,⟨none,[(22,some 10)]⟩,⟨none,[(23,some 11)]⟩,⟨none,[(17,some 5),(24,some 12)]⟩,⟨none,[(0,none)]⟩,⟨none,[(4,none)]⟩,⟨none,[(27,some 15)]⟩,⟨none,[(26,some 14),(28,some 16)]⟩,⟨none,[(29,some 17)]⟩,⟨none,[(30,some 18)]⟩,⟨none,[(31,some 19)]⟩,⟨none,[(25,some 13),(32,some 20)]⟩,⟨none,[(0,none)]⟩,⟨none,[(4,none)]⟩,⟨none,[(35,some 23)]⟩,⟨none,[(34,some 22),(36,some 24)]⟩,⟨none,[(37,some 25)]⟩,⟨none,[(38,some 26)]⟩,⟨none,[(39,some 27)]⟩,⟨none,[(33,some 21),(40,some 28)]⟩,⟨none,[(41,some 29)]⟩] kj kj fun F hF=>Qay (Qaj _) (u) kj kj (fun W=>by kernel_rfl) <| Qay (Qaj _) (.slice a_b b.length c_b) kj kj (fun W=>by kernel_rfl) <| Qay (Qaj _) (.int .i64 ((4*j:Nat):Int)) kj kj (fun W=>by kernel_rfl) <| Qay (Qaj _) (.pointer (some ⟨gb,ob+(4*j),none⟩)) kj kj (fun W=>(Qaw 33 _ _ .i64 (4*j) gb ob b.length c_b 5 a_b _ hab rfl rfl kj kj kj kj (Nat.lt_of_lt_of_eq (show 4*j<b.length by omega) (rfl:b.length=b.length).symm))) <| Qbi (Qaj _) (.int .u8 (nth (b) ((4*j)))) kj kj (fun W hR=>(Qap 5 _ _ (.int .u8 (nth (b) ((4*j)))) ((Below.cell (Rely.Ext.trans (Qak _) hR) hlb).trans (hcb (4*j) (Nat.lt_of_lt_of_eq (show 4*j<b.length by omega) (rfl:b.length=b.length).symm))) rfl kj kj)) ?_
  refine Qay (Qaj _) (.int .u32 (wv (BitVec.ofInt 32 (nth b (4*j))))) kj kj (fun W=>(Qad (u:=.int .u32 (IntKind.u32.wrap (nth (b) ((4*j))))) kj (congrArg (Value.int .u32) (QfT b (4*j))))) <| Qay (Qaj _) (.slice a_b b.length c_b) kj kj (fun W=>by kernel_rfl) <| Qay (Qaj _) (.int .i64 ((4*j:Nat):Int)) kj kj (fun W=>by kernel_rfl) <| Qay (Qaj _) (.int .i64 (((4*j)+1:Nat):Int)) kj kj (fun W=>(Qad (u:=.int .i64 (IntKind.i64.wrap (((4*j:Nat):Int)+1))) kj (congrArg (Value.int .i64) (i64n _ _ (by omega) (by omega))))) <| Qay (Qaj _) (.pointer (some ⟨gb,ob+((4*j)+1),none⟩)) kj kj (fun W=>(Qaw 33 _ _ .i64 ((4*j)+1) gb ob b.length c_b 5 a_b _ hab rfl rfl kj kj kj kj (Nat.lt_of_lt_of_eq (show (4*j)+1<b.length by omega) (rfl:b.length=b.length).symm))) <| Qbi (Qaj _) (.int .u8 (nth (b) (((4*j)+1)))) kj kj (fun W hR=>(Qap 5 _ _ (.int .u8 (nth (b) (((4*j)+1)))) ((Below.cell (Rely.Ext.trans (Qak _) hR) hlb).trans (hcb ((4*j)+1) (Nat.lt_of_lt_of_eq (show (4*j)+1<b.length by omega) (rfl:b.length=b.length).symm))) rfl kj kj)) <| Qay (Qaj _) (.int .u32 (wv (BitVec.ofInt 32 (nth b (4*j+1))))) kj kj (fun W=>(Qad (u:=.int .u32 (IntKind.u32.wrap (nth (b) (((4*j)+1))))) kj (congrArg (Value.int .u32) (QfT b (4*j+1))))) <| Qay (Qaj _) (.int .u32 (wv (BitVec.ofInt 32 (nth b (4*j+1))<<<8))) kj kj (fun W=>(Qad (u:=.int .u32 (IntKind.u32.wrap (256*(wv (BitVec.ofInt 32 (nth b (4*j+1))))))) kj (congrArg (Value.int .u32) (mulW _ 256 8 rfl (by decide))))) <| Qay (Qaj _) (.int .u32 (wv (((BitVec.ofInt 32 (nth b (4*j))))+((BitVec.ofInt 32 (nth b (4*j+1))<<<8))))) kj kj (fun W=>(Qad kj (congrArg (Value.int .u32) (QdF _ _)))) <| Qay (Qaj _) (.slice a_b b.length c_b) kj kj (fun W=>by kernel_rfl) ?_
  refine Qay (Qaj _) (.int .i64 ((4*j:Nat):Int)) kj kj (fun W=>by kernel_rfl) <| Qay (Qaj _) (.int .i64 (((4*j)+2:Nat):Int)) kj kj (fun W=>(Qad (u:=.int .i64 (IntKind.i64.wrap (((4*j:Nat):Int)+2))) kj (congrArg (Value.int .i64) (i64n _ _ (by omega) (by omega))))) <| Qay (Qaj _) (.pointer (some ⟨gb,ob+((4*j)+2),none⟩)) kj kj (fun W=>(Qaw 33 _ _ .i64 ((4*j)+2) gb ob b.length c_b 5 a_b _ hab rfl rfl kj kj kj kj (Nat.lt_of_lt_of_eq (show (4*j)+2<b.length by omega) (rfl:b.length=b.length).symm))) <| Qbi (Qaj _) (.int .u8 (nth (b) (((4*j)+2)))) kj kj (fun W hR=>(Qap 5 _ _ (.int .u8 (nth (b) (((4*j)+2)))) ((Below.cell (Rely.Ext.trans (Qak _) hR) hlb).trans (hcb ((4*j)+2) (Nat.lt_of_lt_of_eq (show (4*j)+2<b.length by omega) (rfl:b.length=b.length).symm))) rfl kj kj)) <| Qay (Qaj _) (.int .u32 (wv (BitVec.ofInt 32 (nth b (4*j+2))))) kj kj (fun W=>(Qad (u:=.int .u32 (IntKind.u32.wrap (nth (b) (((4*j)+2))))) kj (congrArg (Value.int .u32) (QfT b (4*j+2))))) <| Qay (Qaj _) (.int .u32 (wv (BitVec.ofInt 32 (nth b (4*j+2))<<<16))) kj kj (fun W=>(Qad (u:=.int .u32 (IntKind.u32.wrap (65536*(wv (BitVec.ofInt 32 (nth b (4*j+2))))))) kj (congrArg (Value.int .u32) (mulW _ 65536 16 rfl (by decide))))) <| Qay (Qaj _) (.int .u32 (wv (((((BitVec.ofInt 32 (nth b (4*j))))+((BitVec.ofInt 32 (nth b (4*j+1))<<<8))))+((BitVec.ofInt 32 (nth b (4*j+2))<<<16))))) kj kj (fun W=>(Qad kj (congrArg (Value.int .u32) (QdF _ _)))) <| Qay (Qaj _) (.slice a_b b.length c_b) kj kj (fun W=>by kernel_rfl) <| Qay (Qaj _) (.int .i64 ((4*j:Nat):Int)) kj kj (fun W=>by kernel_rfl) <| Qay (Qaj _) (.int .i64 (((4*j)+3:Nat):Int)) kj kj (fun W=>(Qad (u:=.int .i64 (IntKind.i64.wrap (((4*j:Nat):Int)+3))) kj (congrArg (Value.int .i64) (i64n _ _ (by omega) (by omega))))) ?_
  refine Qay (Qaj _) (.pointer (some ⟨gb,ob+((4*j)+3),none⟩)) kj kj (fun W=>(Qaw 33 _ _ .i64 ((4*j)+3) gb ob b.length c_b 5 a_b _ hab rfl rfl kj kj kj kj (Nat.lt_of_lt_of_eq (show (4*j)+3<b.length by omega) (rfl:b.length=b.length).symm))) <| Qbi (Qaj _) (.int .u8 (nth (b) (((4*j)+3)))) kj kj (fun W hR=>(Qap 5 _ _ (.int .u8 (nth (b) (((4*j)+3)))) ((Below.cell (Rely.Ext.trans (Qak _) hR) hlb).trans (hcb ((4*j)+3) (Nat.lt_of_lt_of_eq (show (4*j)+3<b.length by omega) (rfl:b.length=b.length).symm))) rfl kj kj)) <| Qay (Qaj _) (.int .u32 (wv (BitVec.ofInt 32 (nth b (4*j+3))))) kj kj (fun W=>(Qad (u:=.int .u32 (IntKind.u32.wrap (nth (b) (((4*j)+3))))) kj (congrArg (Value.int .u32) (QfT b (4*j+3))))) <| Qay (Qaj _) (.int .u32 (wv (BitVec.ofInt 32 (nth b (4*j+3))<<<24))) kj kj (fun W=>(Qad (u:=.int .u32 (IntKind.u32.wrap (16777216*(wv (BitVec.ofInt 32 (nth b (4*j+3))))))) kj (congrArg (Value.int .u32) (mulW _ 16777216 24 rfl (by decide))))) <| Qay (Qaj _) (.int .u32 (wv (rw4 b j))) kj kj (fun W=>(Qad kj (congrArg (Value.int .u32) (QdF _ _)))) <| QgT (Qaj _) (ints .u32 ([(wv (rw4 b j))])) 162 1 (NewS.stable _ _ _ _) kj kj (fun W=>by kernel_rfl) <| Qck (hF _ fun W2 e2=>?_)
  simp only [List.nil_append,List.cons_append,List.take_succ_cons,List.take_zero,List.drop_succ_cons,List.drop_zero,finE,up]
  intro vv10 hv10
  clear hF
  obtain ⟨g10,rfl,l10,r10_2⟩:=hv10
  have b10:=qT xx1.size l10
  refine Qa9 (k:=.u32) (T:=162) (xs:=(rws b j).map wv) (ys:=[(wv (rw4 b j))]) (V:=w) 4 (.tmp 12) (.tmp 42) 205 rfl kj kj (by decide) 43 rfl kj kj kj (hu.ext e2) (QaM (xs:=[(wv (rw4 b j))]) (n:=1) rfl r10_2 (Qa0 r10_2) (show 1≤maxLen from by decide)) (by simp only [List.length_map,QhI,List.length_cons,List.length_nil]; omega) (Rely.Ext.trans xx1 e2) fun z1 W3 f12 y3 l3=>?_
  refine sg 1 kj <| Qae <| hK9 _ _ <| Qac <| sg 1 kj <| Qaa (.int .i64 (((4*j)+4:Nat):Int)) 11 rfl kj (Qad (u:=.int .i64 (IntKind.i64.wrap (((4*j:Nat):Int)+4))) kj (congrArg (Value.int .i64) (i64n _ _ (by omega) (by omega)))) <| sg 1 kj <| Qae ?_
  repeat (first | with_reducible refine goX1 ?_ | with_reducible refine goX2 ?_ | with_reducible refine goX3 ?_)
  exact Qax ((j+1),z1) ⟨kj,kj,kj,trivial⟩ ⟨(by omega),(by rw [QiG]; exact f12),(Ext.low (Ext.tr xx1 e2) l3 (Rely.Ext.refl w).size)⟩ (by show b.length-4*(j+1)<b.length-4*j; omega)
 ·skip
  have hge:b.length/4=j:=by have:=of_decide_eq_false c7; omega
  refine wp_exit <| hK3 _ _ <| sgB kj <| wp_ret ?_
  repeat (first | with_reducible refine goR1 ?_ | with_reducible refine goR2 ?_)
  exact (show bodyPost _ _ _ .ret _ _ from ret1 (u) rfl (Qaq kj) ⟨u,rfl,xx1,by unfold rwords; rw [hge]; exact hu⟩)
end Go.Proofs.YtoiendjhplbjjaaDoor.Cha
end
section
namespace Go.Proofs.YtoiendjhplbjjaaDoor.Cha
open Go Go.RowKit
open Rely Auto Own Sha
open Sha
theorem QeN (b : List Int) (n:Nat) (h:b.length=4*n):(rwords b).length=n:=by unfold rwords; rw [QhI]; omega
theorem Qhn : rwords [101,120,112,97,110,100,32,51,50,45,98,121,116,101,32,107]=[1634760805,857760878,2036477234,1797285236]:=by decide +kernel
theorem QiH (b : List Int) (h:b.length=32) (hb:Qai b):rwords b=[le4 (sub4 b 0),le4 (sub4 b 1),le4 (sub4 b 2),le4 (sub4 b 3),le4 (sub4 b 4),le4 (sub4 b 5),le4 (sub4 b 6),le4 (sub4 b 7)]:=by
  have e:rwords b=[rw4 b 0,rw4 b 1,rw4 b 2,rw4 b 3,rw4 b 4,rw4 b 5,rw4 b 6,rw4 b 7]:=by unfold rwords; rw [h]; rfl
  rw [e]; simp only [Qjw b _ (Qa5 hb)]
theorem QiI (b : List Int) (h:b.length=12) (hb:Qai b):rwords b=[le4 (sub4 b 0),le4 (sub4 b 1),le4 (sub4 b 2)]:=by
  have e:rwords b=[rw4 b 0,rw4 b 1,rw4 b 2]:=by unfold rwords; rw [h]; rfl
  rw [e]; simp only [Qjw b _ (Qa5 hb)]
theorem rstart (key nonce:List Int) (number:Int) (hk:key.length=32) (hkb:Qai key) (hn:nonce.length=12) (hnb:Qai nonce) :
    rwords [101,120,112,97,110,100,32,51,50,45,98,121,116,101,32,107]++rwords key++[BitVec.ofInt 32 number]++rwords nonce=(QaF key nonce).set 12 (BitVec.ofInt 32 number):=by
  rw [Qhn,QiH key hk hkb,QiI nonce hn hnb]; rfl
theorem QkR (x s:List Wd) (i:Nat) (hi:i<64):IntKind.u8.wrap (wv ((wget x (i/4)+wget s (i/4))>>>(8*(i%4))))=nth (Qb4 x s) i:=by
  have h:=QkS x s (i/4) (i%4) (by omega) (by omega)
  rw [show 4*(i/4)+i%4=i by omega] at h
  exact h
set_option maxRecDepth 100000 in
theorem Qfp (key nonce:List Int) (v:Value) (B:Nat) (number:Int) (w:World) (hkl:key.length=32) (hn:RdK .u8 B nonce v w) (h:nonce.length=12) (h1:0≤number) (h2:number≤4294967295) (hkb:Qai key) (hnb:Qai nonce):Calls Tryd.prog 127 #[.agg (ints .u8 key),v,.int .i64 number] w (Ret w (.tuple #[.agg (ints .u8 (QaV (QaF key nonce) number)),.int .i64 0])):=by
 obtain ⟨a_n,c_n,rfl,-⟩:=id hn
 have hlE:(rwords [101,120,112,97,110,100,32,51,50,45,98,121,116,101,32,107]).length=4:=rfl
 have hlK:(rwords key).length=8:=QeN key 8 hkl
 have hlN:(rwords nonce).length=3:=QeN nonce 3 h
 refine enter 105 [(0,.agg (ints .u8 (key))),(1,.slice a_n nonce.length c_n),(2,.int .i64 number)] Tryd.func127 rfl rfl kj rfl <| sgC fun K1 hK1=>Qas (ints .u8 (key)) 23 3 rfl kj kj fun g2 W1 l2 e1 r2_1=>?_
 have x1:=Ext.tr (Rely.Ext.refl w) e1
 have b2:=qT (Rely.Ext.refl w).size l2
 refine Qas (ints .u8 (List.replicate 64 0)) 164 6 rfl kj kj fun g3 W2 l3 e2 r3_2=>?_
 have x2:=Ext.tr x1 e2
 refine sg 1 kj <| sgN hK1 <| sgC fun K4 hK4=>Qas (ints .u8 (List.replicate 64 0)) 164 8 rfl kj kj fun g5 W3 l5 e3 r5_3=>?_
 have x3:=Ext.tr x2 e3
 refine sgN hK4 <| wp_seq_k fun K6 hK6=>sgC fun K7 hK7=>sg 2 kj <| Qaa (.bool false) 17 rfl kj (Qad (u:=.bool ((((nonce.length:Nat):Int) != 12))) kj (congrArg Value.bool (by simp; omega))) ?_
 refine sgN hK7 <| cond_false kj <| wp_skip <| hK6 _ _ <| wp_seq_k fun K8 hK8=>sgC fun K9 hK9=>sg 1 kj <| Qaa (.bool false) 20 rfl kj (Qad (u:=.bool (decide (number<0))) kj (congrArg Value.bool (decide_eq_false (by omega)))) <| sg 2 kj <| Qaa (.bool false) 23 rfl kj (Qad (u:=.bool (decide (number>4294967295))) kj (congrArg Value.bool (decide_eq_false (by omega)))) ?_
 refine sg 1 kj <| sgN hK9 <| cond_false kj <| wp_skip <| hK8 _ _ <| sgC fun K10 hK10=>QaD (ints .u8 ([101,120,112,97,110,100,32,51,50,45,98,121,116,101,32,107])) 5 16 26 rfl kj kj fun g11 W4 l11 e4 r11_4=>QhG (xs:=[101,120,112,97,110,100,32,51,50,45,98,121,116,101,32,107]) 33 5 (.tmp 26) 27 rfl rfl kj kj kj kj rfl (show 16≤maxLen by decide) r11_4 fun W5 p5 r11_5 rd12=>?_
 have x5:=Puts.ext p5 (Ext.tr x3 e4) (qT x3.size l11)
 refine Qat (fun v W'=>(OwnN .u32 162 W5.heap.size ((rwords ([101,120,112,97,110,100,32,51,50,45,98,121,116,101,32,107])).map wv)) v W'∧Ext W5 W') 145 #[.slice (some ⟨g11,0,none⟩) 16 16] 28 rfl kj kj ((Qga ([101,120,112,97,110,100,32,51,50,45,98,121,116,101,32,107]) _ _ _ rd12 (by decide)).mono (by rintro e w' ⟨v,rfl,e1,hv⟩; exact ⟨v,rfl,hv,e1⟩)) fun vv13 W6 hh13=>?_
 obtain ⟨hv13,e6⟩:=hh13
 refine sg 1 kj <| sgN hK10 <| sgC fun K14 hK14=>sg 2 kj ?_
 have r2_3:=(Qab (Qab r2_1 e2) e3)
 have r2_6:=(Qab (Puts.row p5 (Qab r2_3 e4) (Qag r2_3 l11)) e6)
 refine Qat (fun v W'=>(OwnN .u32 162 W6.heap.size ((rwords key).map wv)) v W'∧Ext W6 W') 145 #[.slice (some ⟨g2,0,none⟩) 32 32] 31 rfl kj kj ((Qga key _ _ _ (QaM (xs:=key) (n:=32) hkl r2_6 (Qa0 r2_6) (show 32≤maxLen from by decide)) (by omega)).mono (by rintro e w' ⟨v,rfl,e1,hv⟩; exact ⟨v,rfl,hv,e1⟩)) fun vv15 W7 hh15=>?_
 obtain ⟨hv15,e7⟩:=hh15
 have y5_6:=(Rely.Ext.trans (Rely.Ext.refl W5) e6)
 refine Qa9 (k:=.u32) (T:=162) (xs:=(rwords ([101,120,112,97,110,100,32,51,50,45,98,121,116,101,32,107])).map wv) (ys:=(rwords key).map wv) (V:=W5) 4 (.tmp 29) (.tmp 31) 205 rfl kj kj (by decide) 32 rfl kj kj kj (hv13.ext e7) (OwnN.rd (OwnN.base y5_6.size hv15)) (by simp only [List.length_append,List.length_map,hlE,hlK,hlN,List.length_cons,List.length_nil]; omega) (Rely.Ext.trans y5_6 e7) fun z1 W8 f17 y8 l8=>?_
 have x8:=Ext.low (Ext.tr (Ext.tr x5 e6) e7) l8 x5.size
 refine sg 1 kj <| sgN hK14 <| sgC fun K19 hK19=>sg 2 kj <| Qaa (.int .u32 (wv (BitVec.ofInt 32 number))) 35 rfl kj (Qad (u:=.int .u32 (IntKind.u32.wrap (number))) kj (congrArg (Value.int .u32) (by rw [Sha.wrap32,Qfc]))) <| QaD (ints .u32 ([(wv (BitVec.ofInt 32 number))])) 162 1 36 rfl kj kj fun g20 W9 l20 e9 r20_9=>?_
 have b20:=qT x8.size l20
 refine Qa9 (k:=.u32) (T:=162) (xs:=(rwords ([101,120,112,97,110,100,32,51,50,45,98,121,116,101,32,107])).map wv++(rwords key).map wv) (ys:=[(wv (BitVec.ofInt 32 number))]) (V:=W5) 4 (.tmp 33) (.tmp 36) 205 rfl kj kj (by decide) 37 rfl kj kj kj (f17.ext e9) (QaM (xs:=[(wv (BitVec.ofInt 32 number))]) (n:=1) rfl r20_9 (Qa0 r20_9) (show 1≤maxLen from by decide)) (by simp only [List.length_append,List.length_map,hlE,hlK,hlN,List.length_cons,List.length_nil]; omega) (Rely.Ext.trans y8 e9) fun z2 W10 f22 y10 l10=>?_
 have x10:=Ext.low (Ext.tr x8 e9) l10 x5.size
 refine sg 1 kj <| sgN hK19 <| sgC fun K24 hK24=>sg 2 kj <| Qat (fun v W'=>(OwnN .u32 162 W10.heap.size ((rwords nonce).map wv)) v W'∧Ext W10 W') 145 #[.slice a_n nonce.length c_n] 40 rfl kj kj ((Qga nonce _ _ _ (RdK.ext hn x10) (by omega)).mono (by rintro e w' ⟨v,rfl,e1,hv⟩; exact ⟨v,rfl,hv,e1⟩)) fun vv25 W11 hh25=>?_
 obtain ⟨hv25,e11⟩:=hh25
 refine Qa9 (k:=.u32) (T:=162) (xs:=(rwords ([101,120,112,97,110,100,32,51,50,45,98,121,116,101,32,107])).map wv++(rwords key).map wv++[(wv (BitVec.ofInt 32 number))]) (ys:=(rwords nonce).map wv) (V:=W5) 4 (.tmp 38) (.tmp 40) 205 rfl kj kj (by decide) 41 rfl kj kj kj (f22.ext e11) (OwnN.rd (OwnN.base y10.size hv25)) (by simp only [List.length_append,List.length_map,hlE,hlK,hlN,List.length_cons,List.length_nil]; omega) (Rely.Ext.trans y10 e11) fun z3 W12 f27 y12 l12=>?_
 have x12:=Ext.low (Ext.tr x10 e11) l12 x5.size
 refine sg 1 kj <| sgN hK24 <| sgC fun K29 hK29=>QaD (ints .u32 ([])) 162 0 42 rfl kj kj fun g30 W13 l30 e13 r30_13=>?_
 have b30:=qT x12.size l30
 refine sg 1 kj <| Qa9 (k:=.u32) (T:=162) (xs:=[]) (ys:=(rwords ([101,120,112,97,110,100,32,51,50,45,98,121,116,101,32,107])).map wv++(rwords key).map wv++[(wv (BitVec.ofInt 32 number))]++(rwords nonce).map wv) (V:=W12) 4 (.tmp 42) (.tmp 43) 205 rfl kj kj (by decide) 44 rfl kj kj kj (QbW (xs:=[]) rfl l30 r30_13 (by decide)) (OwnN.rd (f27.ext e13)) (by simp only [List.length_append,List.length_map,hlE,hlK,hlN,List.length_cons,List.length_nil]; omega) (Rely.Ext.trans (Rely.Ext.refl W12) e13) fun z4 W14 f32 y14 l14=>?_
 refine sg 1 kj ?_
 obtain ⟨s,es⟩:∃ z:List Wd,z=(QaF key nonce).set 12 (BitVec.ofInt 32 number):=⟨_,rfl⟩
 have hs:s.length=16:=by rw [es,List.length_set]; rfl
 have hsE:(rwords ([101,120,112,97,110,100,32,51,50,45,98,121,116,101,32,107])).map wv++(rwords key).map wv++[(wv (BitVec.ofInt 32 number))]++(rwords nonce).map wv=s.map wv:=by rw [es,←rstart key nonce number hkl hkb h hnb]; simp only [List.map_append]; rfl
 have hF9:OwnN .u32 162 W5.heap.size (s.map wv) z3 W12:=hsE▸f27
 have hFx:OwnN .u32 162 W12.heap.size (s.map wv) z4 W14:=by have h1:=f32; rw [List.nil_append,hsE] at h1; exact h1
 obtain ⟨gx,cx,rx,rfl,lx,rowx,hcx⟩:=Qdo hFx (QaZ hs) (by decide)
 have nb9:(z3).ownBlock≠some gx:=fun e=>by have h1:=OwnN.lt hF9 e; omega
 have r5_5:=(Puts.row p5 (Qab r5_3 e4) (Qag r5_3 l11))
 have nb9b:(z3).ownBlock≠some g5:=fun e=>by have h1:=OwnN.ge hF9 e; have h2:=Qa0 r5_5; omega
 have r5_12:=(Qbw l12 (Qab (Qbw l10 (Qab (Qbw l8 (Qab (Qab r5_5 e6) e7) (Qa0 r5_5)) e9) (Qa0 r5_5)) e11) (Qa0 r5_5))
 have nx8:gx≠g5:=(QaA r5_12 lx)
 obtain ⟨a9,c9,rfl,-⟩:=id (OwnN.rd hF9)
 refine sgN hK29 <| wp_seq_k fun K35 hK35=>sgB kj <| wp_block <| QaB (fun (s1:Nat)=>[(6,.pointer (some ⟨g3,0,none⟩)),(8,.pointer (some ⟨g5,0,none⟩)),(9,.slice a9 ((s.map wv).length) c9),(10,.slice (some ⟨gx,0,none⟩) 16 cx),(11,.int .i64 ((s1:Nat):Int))]) (fun (s1:Nat) W=>(s1≤10)∧(W.heap[gx]? = some (.cells (ints .u32 ((rounds s s1).map wv)++rx) 162))∧(Qa2 [gx] W14 W)∧(Ext w W)) (fun (s1:Nat)=>10-s1) 0 ⟨kj,kj,kj,kj,kj,trivial⟩ ⟨(Nat.zero_le _),rowx,(Qa2.refl [gx] W14),(Ext.low (Ext.tr x12 e13) l14 x12.size)⟩ fun s1 X1 V1 hI1=>?_
 obtain ⟨i,hs1⟩:∃ z,z=s1:=⟨_,rfl⟩
 subst hs1
 obtain ⟨hi,q34_1,kk1,xx1⟩:=hI1
 replace hi:i≤10:=hi
 replace q34_1:V1.heap[gx]? = some (.cells (ints .u32 ((rounds s i).map wv)++rx) 162):=q34_1
 replace kk1:Qa2 [gx] W14 V1:=kk1
 replace xx1:Ext w V1:=xx1
 have q15:=kk1
 refine wp_seq_k fun K37 hK37=>sgB kj <| Qa7 (t:=decide (((i:Nat):Int)<10)) kj (fun c39=>?_) (fun c39=>?_)
 ·skip
  have hlt46:i<10:=by have:=of_decide_eq_true c39; omega
  obtain ⟨x0_,ex0⟩:∃ z:List Wd,z=rounds s i:=⟨_,rfl⟩
  have h0:x0_.length=16:=by rw [ex0,QcR,hs]
  have r34_15_40:V1.heap[gx]? = some (.cells (ints .u32 ((x0_).map wv)++rx) 162):=Qbk q34_1 (by rw [ex0])
  refine wp_skip <| hK37 _ _ <| wp_seq_k fun K41 hK41=>wp_block <| wp_seq_k fun K42 hK42=>sgB kj <| wp_block <| wp_loop_rounds 5 ?_
  show Code.wp _ _ (Exit.then (Code.rounds _ _ _ 4) _) _ _
  refine wp_seq_k fun K44 hK44=>sgB kj <| cond_true kj <| wp_skip <| hK44 _ _ <| wp_seq_k fun K46 hK46=>wp_block <| Qac <| sg 8 kj <| Qat (fun v W'=>v=.tuple #[]∧ExtB gx V1 W'∧W'.heap[gx]? = some (.cells (ints .u32 ((rqrt x0_ 0 4 8 12).map wv)++rx) 162)) 146 #[.slice (some ⟨gx,0,none⟩) 16 cx,.int .i64 0,.int .i64 4,.int .i64 8,.int .i64 12] 61 rfl kj kj ((Qcr gx cx rx x0_ 0 4 8 12 0 4 8 12 _ rfl rfl rfl rfl h0 (by decide) (by decide) (by decide) (by decide) r34_15_40).mono fun e w' h=>⟨_,h.1,rfl,h.2⟩) fun v W16 h=>?_
  obtain ⟨rfl,q16,r34_16⟩:=h
  obtain ⟨x1_,ex1⟩:∃ z:List Wd,z=qrt x0_ 0 4 8 12:=⟨_,rfl⟩
  have h1:x1_.length=16:=by rw [ex1,QcL,h0]
  have r34_16_47:W16.heap[gx]? = some (.cells (ints .u32 ((x1_).map wv)++rx) 162):=Qbk r34_16 (by rw [ex1,(QfF x0_ h0).1])
  refine Qae <| hK46 _ _ <| sgA kj ?_
  show Code.rounds _ _ _ 4 _ _
  show Code.wp _ _ (Exit.then (Code.rounds _ _ _ 3) _) _ _
  refine wp_seq_k fun K48 hK48=>sgB kj <| cond_true kj <| wp_skip <| hK48 _ _ <| wp_seq_k fun K50 hK50=>wp_block <| Qac <| sg 8 kj <| Qat (fun v W'=>v=.tuple #[]∧ExtB gx W16 W'∧W'.heap[gx]? = some (.cells (ints .u32 ((rqrt x1_ 1 5 9 13).map wv)++rx) 162)) 146 #[.slice (some ⟨gx,0,none⟩) 16 cx,.int .i64 1,.int .i64 5,.int .i64 9,.int .i64 13] 61 rfl kj kj ((Qcr gx cx rx x1_ 1 5 9 13 1 5 9 13 _ rfl rfl rfl rfl h1 (by decide) (by decide) (by decide) (by decide) r34_16_47).mono fun e w' h=>⟨_,h.1,rfl,h.2⟩) fun v W17 h=>?_
  obtain ⟨rfl,q17,r34_17⟩:=h
  have x17:=ExtB.up (ExtB.up xx1 q16 (qT x12.size lx)) q17 (qT x12.size lx)
  obtain ⟨x2_,ex2⟩:∃ z:List Wd,z=qrt x1_ 1 5 9 13:=⟨_,rfl⟩
  have h2:x2_.length=16:=by rw [ex2,QcL,h1]
  have r34_17_51:W17.heap[gx]? = some (.cells (ints .u32 ((x2_).map wv)++rx) 162):=Qbk r34_17 (by rw [ex2,(QfF x1_ h1).2.1])
  refine Qae <| hK50 _ _ <| sgA kj ?_
  show Code.rounds _ _ _ 3 _ _
  show Code.wp _ _ (Exit.then (Code.rounds _ _ _ 2) _) _ _
  refine wp_seq_k fun K52 hK52=>sgB kj <| cond_true kj <| wp_skip <| hK52 _ _ <| wp_seq_k fun K54 hK54=>wp_block <| Qac <| sg 8 kj <| Qat (fun v W'=>v=.tuple #[]∧ExtB gx W17 W'∧W'.heap[gx]? = some (.cells (ints .u32 ((rqrt x2_ 2 6 10 14).map wv)++rx) 162)) 146 #[.slice (some ⟨gx,0,none⟩) 16 cx,.int .i64 2,.int .i64 6,.int .i64 10,.int .i64 14] 61 rfl kj kj ((Qcr gx cx rx x2_ 2 6 10 14 2 6 10 14 _ rfl rfl rfl rfl h2 (by decide) (by decide) (by decide) (by decide) r34_17_51).mono fun e w' h=>⟨_,h.1,rfl,h.2⟩) fun v W18 h=>?_
  obtain ⟨rfl,q18,r34_18⟩:=h
  have x18:=ExtB.up x17 q18 (qT x12.size lx)
  obtain ⟨x3_,ex3⟩:∃ z:List Wd,z=qrt x2_ 2 6 10 14:=⟨_,rfl⟩
  have h3:x3_.length=16:=by rw [ex3,QcL,h2]
  have r34_18_55:W18.heap[gx]? = some (.cells (ints .u32 ((x3_).map wv)++rx) 162):=Qbk r34_18 (by rw [ex3,(QfF x2_ h2).2.2.1])
  refine Qae <| hK54 _ _ <| sgA kj ?_
  show Code.rounds _ _ _ 2 _ _
  show Code.wp _ _ (Exit.then (Code.rounds _ _ _ 1) _) _ _
  refine wp_seq_k fun K56 hK56=>sgB kj <| cond_true kj <| wp_skip <| hK56 _ _ <| wp_seq_k fun K58 hK58=>wp_block <| Qac <| sg 8 kj <| Qat (fun v W'=>v=.tuple #[]∧ExtB gx W18 W'∧W'.heap[gx]? = some (.cells (ints .u32 ((rqrt x3_ 3 7 11 15).map wv)++rx) 162)) 146 #[.slice (some ⟨gx,0,none⟩) 16 cx,.int .i64 3,.int .i64 7,.int .i64 11,.int .i64 15] 61 rfl kj kj ((Qcr gx cx rx x3_ 3 7 11 15 3 7 11 15 _ rfl rfl rfl rfl h3 (by decide) (by decide) (by decide) (by decide) r34_18_55).mono fun e w' h=>⟨_,h.1,rfl,h.2⟩) fun v W19 h=>?_
  obtain ⟨rfl,q19,r34_19⟩:=h
  obtain ⟨x4_,ex4⟩:∃ z:List Wd,z=qrt x3_ 3 7 11 15:=⟨_,rfl⟩
  have h4:x4_.length=16:=by rw [ex4,QcL,h3]
  have r34_19_59:W19.heap[gx]? = some (.cells (ints .u32 ((x4_).map wv)++rx) 162):=Qbk r34_19 (by rw [ex4,(QfF x3_ h3).2.2.2.1])
  refine Qae <| hK58 _ _ <| sgA kj ?_
  show Code.rounds _ _ _ 1 _ _
  show Code.wp _ _ (Exit.then (Code.rounds _ _ _ 0) _) _ _
  refine wp_seq_k fun K60 hK60=>sgB kj <| cond_false kj <| wp_exit <| hK42 _ _ <| sgB kj <| wp_block <| wp_loop_rounds 5 ?_
  show Code.wp _ _ (Exit.then (Code.rounds _ _ _ 4) _) _ _
  refine wp_seq_k fun K63 hK63=>sgB kj <| cond_true kj <| wp_skip <| hK63 _ _ <| wp_seq_k fun K65 hK65=>wp_block <| Qac <| sg 14 kj <| Qat (fun v W'=>v=.tuple #[]∧ExtB gx W19 W'∧W'.heap[gx]? = some (.cells (ints .u32 ((rqrt x4_ 0 5 10 15).map wv)++rx) 162)) 146 #[.slice (some ⟨gx,0,none⟩) 16 cx,.int .i64 0,.int .i64 5,.int .i64 10,.int .i64 15] 80 rfl kj kj ((Qcr gx cx rx x4_ 0 5 10 15 0 5 10 15 _ rfl rfl rfl rfl h4 (by decide) (by decide) (by decide) (by decide) r34_19_59).mono fun e w' h=>⟨_,h.1,rfl,h.2⟩) fun v W20 h=>?_
  obtain ⟨rfl,q20,r34_20⟩:=h
  obtain ⟨x5_,ex5⟩:∃ z:List Wd,z=qrt x4_ 0 5 10 15:=⟨_,rfl⟩
  have h5:x5_.length=16:=by rw [ex5,QcL,h4]
  have r34_20_66:W20.heap[gx]? = some (.cells (ints .u32 ((x5_).map wv)++rx) 162):=Qbk r34_20 (by rw [ex5,(QfF x4_ h4).2.2.2.2.1])
  refine Qae <| hK65 _ _ <| sgA kj ?_
  show Code.rounds _ _ _ 4 _ _
  show Code.wp _ _ (Exit.then (Code.rounds _ _ _ 3) _) _ _
  refine wp_seq_k fun K67 hK67=>sgB kj <| cond_true kj <| wp_skip <| hK67 _ _ <| wp_seq_k fun K69 hK69=>wp_block <| Qac <| sg 14 kj <| Qat (fun v W'=>v=.tuple #[]∧ExtB gx W20 W'∧W'.heap[gx]? = some (.cells (ints .u32 ((rqrt x5_ 1 6 11 12).map wv)++rx) 162)) 146 #[.slice (some ⟨gx,0,none⟩) 16 cx,.int .i64 1,.int .i64 6,.int .i64 11,.int .i64 12] 80 rfl kj kj ((Qcr gx cx rx x5_ 1 6 11 12 1 6 11 12 _ rfl rfl rfl rfl h5 (by decide) (by decide) (by decide) (by decide) r34_20_66).mono fun e w' h=>⟨_,h.1,rfl,h.2⟩) fun v W21 h=>?_
  obtain ⟨rfl,q21,r34_21⟩:=h
  obtain ⟨x6_,ex6⟩:∃ z:List Wd,z=qrt x5_ 1 6 11 12:=⟨_,rfl⟩
  have h6:x6_.length=16:=by rw [ex6,QcL,h5]
  have r34_21_70:W21.heap[gx]? = some (.cells (ints .u32 ((x6_).map wv)++rx) 162):=Qbk r34_21 (by rw [ex6,(QfF x5_ h5).2.2.2.2.2.1])
  refine Qae <| hK69 _ _ <| sgA kj ?_
  show Code.rounds _ _ _ 3 _ _
  show Code.wp _ _ (Exit.then (Code.rounds _ _ _ 2) _) _ _
  refine wp_seq_k fun K71 hK71=>sgB kj <| cond_true kj <| wp_skip <| hK71 _ _ <| wp_seq_k fun K73 hK73=>wp_block <| Qac <| sg 14 kj <| Qat (fun v W'=>v=.tuple #[]∧ExtB gx W21 W'∧W'.heap[gx]? = some (.cells (ints .u32 ((rqrt x6_ 2 7 8 13).map wv)++rx) 162)) 146 #[.slice (some ⟨gx,0,none⟩) 16 cx,.int .i64 2,.int .i64 7,.int .i64 8,.int .i64 13] 80 rfl kj kj ((Qcr gx cx rx x6_ 2 7 8 13 2 7 8 13 _ rfl rfl rfl rfl h6 (by decide) (by decide) (by decide) (by decide) r34_21_70).mono fun e w' h=>⟨_,h.1,rfl,h.2⟩) fun v W22 h=>?_
  obtain ⟨rfl,q22,r34_22⟩:=h
  obtain ⟨x7_,ex7⟩:∃ z:List Wd,z=qrt x6_ 2 7 8 13:=⟨_,rfl⟩
  have h7:x7_.length=16:=by rw [ex7,QcL,h6]
  have r34_22_74:W22.heap[gx]? = some (.cells (ints .u32 ((x7_).map wv)++rx) 162):=Qbk r34_22 (by rw [ex7,(QfF x6_ h6).2.2.2.2.2.2.1])
  refine Qae <| hK73 _ _ <| sgA kj ?_
  show Code.rounds _ _ _ 2 _ _
  show Code.wp _ _ (Exit.then (Code.rounds _ _ _ 1) _) _ _
  refine wp_seq_k fun K75 hK75=>sgB kj <| cond_true kj <| wp_skip <| hK75 _ _ <| wp_seq_k fun K77 hK77=>wp_block <| Qac <| sg 14 kj <| Qat (fun v W'=>v=.tuple #[]∧ExtB gx W22 W'∧W'.heap[gx]? = some (.cells (ints .u32 ((rqrt x7_ 3 4 9 14).map wv)++rx) 162)) 146 #[.slice (some ⟨gx,0,none⟩) 16 cx,.int .i64 3,.int .i64 4,.int .i64 9,.int .i64 14] 80 rfl kj kj ((Qcr gx cx rx x7_ 3 4 9 14 3 4 9 14 _ rfl rfl rfl rfl h7 (by decide) (by decide) (by decide) (by decide) r34_22_74).mono fun e w' h=>⟨_,h.1,rfl,h.2⟩) fun v W23 h=>?_
  obtain ⟨rfl,q23,r34_23⟩:=h
  obtain ⟨x8_,ex8⟩:∃ z:List Wd,z=qrt x7_ 3 4 9 14:=⟨_,rfl⟩
  have h8:x8_.length=16:=by rw [ex8,QcL,h7]
  have r34_23_78:W23.heap[gx]? = some (.cells (ints .u32 ((x8_).map wv)++rx) 162):=Qbk r34_23 (by rw [ex8,(QfF x7_ h7).2.2.2.2.2.2.2])
  refine Qae <| hK77 _ _ <| sgA kj ?_
  show Code.rounds _ _ _ 1 _ _
  show Code.wp _ _ (Exit.then (Code.rounds _ _ _ 0) _) _ _
  refine wp_seq_k fun K79 hK79=>sgB kj <| cond_false kj <| wp_exit <| hK41 _ _ <| Qac <| sg 1 kj <| Qaa (.int .i64 ((i+1:Nat):Int)) 48 rfl kj (Qad (u:=.int .i64 (IntKind.i64.wrap (((i:Nat):Int)+1))) kj (congrArg (Value.int .i64) (i64n _ _ (by omega) (by omega)))) <| sg 1 kj <| Qae ?_
  have r34_23_81:W23.heap[gx]? = some (.cells (ints .u32 ((rounds s (i+1)).map wv)++rx) 162):=Qbk r34_23_78 (by rw [ex8,ex7,ex6,ex5,ex4,ex3,ex2,ex1,ex0]; rfl)
  repeat (first | with_reducible refine goX1 ?_ | with_reducible refine goX2 ?_ | with_reducible refine goX3 ?_)
  exact Qax (i+1) ⟨kj,kj,kj,kj,kj,trivial⟩ ⟨(by omega),r34_23_81,(Qa2.but (Qa2.but (Qa2.but (Qa2.but (Qa2.but (Qa2.but (Qa2.but (Qa2.but q15 q16 (.inl (by simp))) q17 (.inl (by simp))) q18 (.inl (by simp))) q19 (.inl (by simp))) q20 (.inl (by simp))) q21 (.inl (by simp))) q22 (.inl (by simp))) q23 (.inl (by simp))),(ExtB.up (ExtB.up (ExtB.up (ExtB.up (ExtB.up x18 q19 (qT x12.size lx)) q20 (qT x12.size lx)) q21 (qT x12.size lx)) q22 (qT x12.size lx)) q23 (qT x12.size lx))⟩ (by omega)
 ·skip
  have heq46:i=10:=by have:=of_decide_eq_false c39; omega
  obtain ⟨xF,exF⟩:∃ z:List Wd,z=rounds s 10:=⟨_,rfl⟩
  have hxF:xF.length=16:=by rw [exF,QcR,hs]
  subst heq46
  have r34_15_82:V1.heap[gx]? = some (.cells (ints .u32 ((xF).map wv)++rx) 162):=Qbk q34_1 (by rw [exF])
  refine wp_exit <| hK35 _ _ <| wp_seq_k fun K83 hK83=>sgB kj <| wp_block ?_
  have hP:(Qb4 xF s).length=64:=Qeb _ _
  refine QaB (fun (s2:Nat)=>[(6,.pointer (some ⟨g3,0,none⟩)),(8,.pointer (some ⟨g5,0,none⟩)),(9,.slice a9 ((s.map wv).length) c9),(10,.slice (some ⟨gx,0,none⟩) 16 cx),(14,.int .i64 ((s2:Nat):Int))]) (fun (s2:Nat) W=>(s2≤64)∧(W.heap[g5]? = some (.cells (ints .u8 (Qbo (Qb4 xF s) 64 (s2))) 164))∧(Qa2 [g5] V1 W)∧(Ext w W)) (fun (s2:Nat)=>64-s2) 0 ⟨kj,kj,kj,kj,kj,trivial⟩ ⟨(Nat.zero_le _),(QaI (Qa2.row q15 (Qbw l14 (Qab r5_12 e13) (Qa0 r5_12)) (QaU (Ne.symm nx8) Qbt)) (Qb1 _ 64)),(Qa2.refl [g5] V1),xx1⟩ fun s2 X2 V2 hI2=>?_
  obtain ⟨i,hs2⟩:∃ z,z=s2:=⟨_,rfl⟩
  subst hs2
  obtain ⟨hi,q5_2,kk2,xx2⟩:=hI2
  replace hi:i≤64:=hi
  replace q5_2:V2.heap[g5]? = some (.cells (ints .u8 (Qbo (Qb4 xF s) 64 (i))) 164):=q5_2
  replace kk2:Qa2 [g5] V1 V2:=kk2
  replace xx2:Ext w V2:=xx2
  have q16:=kk2
  refine wp_seq_k fun K85 hK85=>sgB kj <| Qa7 (t:=decide (((i:Nat):Int)<64)) kj (fun c87=>?_) (fun c87=>?_)
  ·skip
   have hlt82:i<64:=by have:=of_decide_eq_true c87; omega
   have hns_88:(s.map wv).length=16:=(QaZ hs)
   obtain ⟨gcs_88,ocs_88,has_88,hls_88,hcs_88⟩:=Qbr (OwnN.rd (OwnN.keepsL (OwnN.keepsL (OwnN.low (n:=0) (hF9.ext e13) hF9 l14) q15 (Qe9 nb9 QfM)) q16 (Qe9 nb9b QfM))) (by rw [hns_88]; omega)
   refine wp_skip <| hK85 _ _ <| wp_seq_k fun K93 hK93=>wp_block <| QaL 18 [⟨none,[(14,none)]⟩,⟨none,[(10,none)]⟩,⟨none,[(14,none)]⟩,⟨none,[(87,some 2)]⟩,⟨none,[(86,some 1),(88,some 3)]⟩,⟨none,[(89,some 4)]⟩,⟨none,[(9,none)]⟩,⟨none,[(14,none)]⟩,⟨none,[(92,some 7)]⟩,⟨none,[(91,some 6),(93,some 8)]⟩,⟨none,[(94,some 9)]⟩,⟨none,[(90,some 5),(95,some 10)]⟩,⟨none,[(14,none)]⟩,⟨none,[(97,some 12)]⟩,⟨none,[(98,some 13)]⟩,⟨none,[(99,some 14)]⟩,⟨none,[(96,some 11),(100,some 15)]⟩,⟨none,[(101,some 16)]⟩] kj kj fun F hF=>Qay (Qaj _) (.int .i64 ((i:Nat):Int)) kj kj (fun W=>by kernel_rfl) <| Qay (Qaj _) (.slice (some ⟨gx,0,none⟩) 16 cx) kj kj (fun W=>by kernel_rfl) <| Qay (Qaj _) (.int .i64 ((i:Nat):Int)) kj kj (fun W=>by kernel_rfl) <| Qay (Qaj _) (.int .i64 ((i/4:Nat):Int)) kj kj (fun W=>(Qad (u:=.int .i64 (IntKind.i64.wrap (Int.tdiv (((i:Nat):Int)) (4)))) kj (congrArg (Value.int .i64) (Qcu _ 4 (by omega))))) <| Qay (Qaj _) (.pointer (some ⟨gx,(i/4),none⟩)) kj kj (fun W=>(Qau 205 _ _ .i64 (i/4) gx 16 cx 162 rfl kj kj kj kj (by omega))) ?_
   have r34_16:=(Qa2.row q16 r34_15_82 (QaU nx8 Qbt))
   refine Qbi (Qaj _) (.int .u32 (wv (wget xF (i/4)))) kj kj (fun W hR=>(Qah 162 _ gx (i/4) 162 _ (.int .u32 (wv (wget xF (i/4)))) _ (Qab (Qab r34_16 (Qak _)) hR) rfl kj ((QaT (Nat.lt_of_lt_of_eq (by omega) (QaZ hxF).symm)).trans (congrArg (fun z=>some (Value.int .u32 z)) (Qbv xF (i/4)))) kj)) <| Qay (Qaj _) (.slice a9 ((s.map wv).length) c9) kj kj (fun W=>by kernel_rfl) <| Qay (Qaj _) (.int .i64 ((i:Nat):Int)) kj kj (fun W=>by kernel_rfl) <| Qay (Qaj _) (.int .i64 ((i/4:Nat):Int)) kj kj (fun W=>(Qad (u:=.int .i64 (IntKind.i64.wrap (Int.tdiv (((i:Nat):Int)) (4)))) kj (congrArg (Value.int .i64) (Qcu _ 4 (by omega))))) <| Qay (Qaj _) (.pointer (some ⟨gcs_88,ocs_88+(i/4),none⟩)) kj kj (fun W=>(Qaw 205 _ _ .i64 (i/4) gcs_88 ocs_88 ((s.map wv).length) c9 162 a9 _ has_88 rfl rfl kj kj kj kj (Nat.lt_of_lt_of_eq (show i/4<16 by omega) hns_88.symm))) <| Qbi (Qaj _) (.int .u32 (wv (wget s (i/4)))) kj kj (fun W hR=>(Qap 162 _ _ (.int .u32 (wv (wget s (i/4)))) (((Below.cell (Rely.Ext.trans (Qak _) hR) hls_88).trans (hcs_88 (i/4) (Nat.lt_of_lt_of_eq (show i/4<16 by omega) hns_88.symm))).trans (congrArg (fun z=>some (Value.int .u32 z)) (Qbv s (i/4)))) rfl kj kj)) <| Qay (Qaj _) (.int .u32 (wv (((wget xF (i/4)))+((wget s (i/4)))))) kj kj (fun W=>(Qad kj (congrArg (Value.int .u32) (QdF _ _)))) <| Qay (Qaj _) (.int .i64 ((i:Nat):Int)) kj kj (fun W=>by kernel_rfl) <| Qay (Qaj _) (.int .i64 ((i%4:Nat):Int)) kj kj (fun W=>(Qad (u:=.int .i64 (Int.tmod (((i:Nat):Int)) (4))) kj (congrArg (Value.int .i64) (Qcg _ 4)))) <| Qay (Qaj _) (.int .i64 ((8*(i%4):Nat):Int)) kj kj (fun W=>(Qad (u:=.int .i64 (IntKind.i64.wrap (8*((i%4:Nat):Int)))) kj (congrArg (Value.int .i64) (i64n _ _ (by omega) (by omega))))) ?_
   refine Qay (Qaj _) (.int .u64 (((8*(i%4):Nat):Int))) kj kj (fun W=>(Qad (u:=.int .u64 (IntKind.u64.wrap ((8*(i%4):Nat):Int))) kj (congrArg (Value.int .u64) (Qjs _ (by omega))))) <| Qay (Qaj _) (.int .u32 (wv ((wget xF (i/4)+wget s (i/4))>>>(8*(i%4))))) kj kj (fun W=>(QaP .shr _ _ _ _ .u32 .u64 _ _ _ rfl kj kj (Qdk _ _ _ _ _ _ (by omega) (Qi9 _ _ (8*(i%4)) rfl (by omega))))) <| Qay (Qaj _) (.int .u8 (nth (Qb4 xF s) i)) kj kj (fun W=>(Qad (u:=.int .u8 (IntKind.u8.wrap (wv ((wget xF (i/4)+wget s (i/4))>>>(8*(i%4)))))) kj (congrArg (Value.int .u8) (QkR xF s i hlt82)))) <| Qck (hF _ fun W17 e17=>?_)
   simp only [List.nil_append,List.cons_append,List.take_succ_cons,List.take_zero,List.drop_succ_cons,List.drop_zero,finE,up]
   clear hF
   have x17:=Ext.tr xx2 e17
   refine Qaa (.pointer (some ⟨g5,i,none⟩)) 103 rfl kj (QaG _ _ _ .i64 (i) _ 64 5 rfl kj kj kj kj (by omega)) ?_
   have r5_17:=(Qab q5_2 e17)
   refine Qal g5 _ (ints .u8 ((Qbo (Qb4 xF s) 64 (i)).set i (nth (Qb4 xF s) i))) 164 r5_17 rfl kj (Qa1 5 _ _ g5 i 164 _ _ r5_17 rfl kj kj kj (Nat.lt_of_lt_of_eq (by omega) (Qb5 _ 64 _ hP (by omega)).symm)) fun W18 p18 r5_18=>?_
   have x18:=Puts.ext p18 x17 (qT x2.size l5)
   refine Qae <| hK93 _ _ <| Qac <| sg 1 kj <| Qaa (.int .i64 ((i+1:Nat):Int)) 84 rfl kj (Qad (u:=.int .i64 (IntKind.i64.wrap (((i:Nat):Int)+1))) kj (congrArg (Value.int .i64) (i64n _ _ (by omega) (by omega)))) <| sg 1 kj <| Qae ?_
   repeat (first | with_reducible refine goX1 ?_ | with_reducible refine goX2 ?_ | with_reducible refine goX3 ?_)
   exact Qax (i+1) ⟨kj,kj,kj,kj,kj,trivial⟩ ⟨(by omega),(QaI r5_18 (Qb2 _ 64 i hP (by omega))),(Qa2.puts (Qa2.step q16 e17) p18 (.inl (by simp))),x18⟩ (by omega)
  ·skip
   have heq82:i=64:=by have:=of_decide_eq_false c87; omega
   subst heq82
   have r5_16_94:V2.heap[g5]? = some (.cells (ints .u8 (Qb4 xF s)) 164):=QaI q5_2 (QbJ _ 64 hP)
   refine wp_exit <| hK83 _ _ <| sgC fun K95 hK95=>Qaa (.agg (ints .u8 (Qb4 xF s))) 104 rfl kj (Qao 164 _ g5 164 _ _ r5_16_94 rfl kj kj (isz (n:=64) kj ((Qaf _ _).trans hP))) ?_
   have r3_3:=(Qab r3_2 e3)
   have r3_5:=(Puts.row p5 (Qab r3_3 e4) (Qag r3_3 l11))
   have r3_12:=(Qbw l12 (Qab (Qbw l10 (Qab (Qbw l8 (Qab (Qab r3_5 e6) e7) (Qa0 r3_5)) e9) (Qa0 r3_5)) e11) (Qa0 r3_5))
   have r3_16:=(Qa2.row q16 (Qa2.row q15 (Qbw l14 (Qab r3_12 e13) (Qa0 r3_12)) (QaU (Qag r3_12 lx) Qbt)) (QaU (Qag r3_2 l5) Qbt))
   refine Qal g3 _ (ints .u8 (Qb4 xF s)) 164 r3_16 rfl kj (Qav 164 _ _ g3 164 _ _ r3_16 rfl kj kj (isz (n:=64) kj ((Qaf _ _).trans hP)) (eqsz (n:=64) ((Qaf _ _).trans (List.length_replicate (n:=64))) ((Qaf _ _).trans hP)) (QaC _ _)) fun W17 p17 r3_17=>?_
   have x17:=Puts.ext p17 xx2 (qT x1.size l3)
   refine sg 1 kj <| sgN hK95 <| wp_ret ?_
   repeat (first | with_reducible refine goR1 ?_ | with_reducible refine goR2 ?_)
   exact (show bodyPost _ _ _ .ret _ _ from ret2 (.agg (ints .u8 (Qb4 xF s))) (.int .i64 0) rfl (Qbq g3 164 _ r3_17 kj kj (isz (n:=64) kj ((Qaf _ _).trans hP))) (Qaq kj) ⟨by unfold QaV; rw [exF,es],x17⟩)
end Go.Proofs.YtoiendjhplbjjaaDoor.Cha
end
section
namespace Go.Proofs.YtoiendjhplbjjaaDoor.Cha
open Go Go.RowKit
open Rely Auto Own Sha
open Sha
set_option maxRecDepth 100000 in
theorem QkC (key nonce text:List Int) (v v2:Value) (B B2:Nat) (number:Int) (w:World) (hkl:key.length=32) (hkb:Qai key) (hnb:Qai nonce) (hn:RdK .u8 B nonce v w) (ht:RdK .u8 B2 text v2 w) (h:nonce.length=12) (r:Nat) (hr:number+(r:Int)=4294967296) (h1:0≤number) (h2:number≤4294967295) (hfit:text.length≤64*r) (htl:text.length≤2000000):Calls Tryd.prog 105 #[.agg (ints .u8 key),v,.int .i64 number,v2] w (QbD w (fun v W=>∃ u,v=.tuple #[u,.int .i64 0]∧OwnN .u8 5 w.heap.size (mixV (QaF key nonce) number text) u W)):=by
 obtain ⟨a_n,c_n,rfl,-⟩:=id hn
 obtain ⟨a_t,c_t,rfl,-⟩:=id ht
 refine enter 58 [(0,.agg (ints .u8 (key))),(1,.slice a_n nonce.length c_n),(2,.int .i64 number),(3,.slice a_t text.length c_t)] Tryd.func105 rfl rfl kj rfl <| sgC fun K1 hK1=>Qas (ints .u8 (key)) 23 4 rfl kj kj fun g2 W1 l2 e1 r2_1=>?_
 have x1:=Ext.tr (Rely.Ext.refl w) e1
 have b2:=qT (Rely.Ext.refl w).size l2
 refine sg 2 kj <| sgN hK1 <| wp_seq_k fun K3 hK3=>sgC fun K4 hK4=>Qaa (.agg (ints .u8 (key))) 17 rfl kj (Qao 23 _ g2 23 _ _ r2_1 rfl kj kj (isz (n:=32) kj ((Qaf _ _).trans hkl))) <| sg 2 kj <| Qan (.tuple #[.agg (ints .u8 (QaV (QaF key nonce) (number))),.int .i64 0]) 127 #[.agg (ints .u8 (key)),.slice a_n nonce.length c_n,.int .i64 number] 20 rfl kj kj ((Qfp key nonce _ _ number _ hkl (RdK.ext hn x1) h (by omega) (by omega) hkb hnb)) fun W2 e2=>?_
 have x2:=Ext.tr x1 e2
 refine sg 3 kj <| Qas (ints .u8 (List.replicate 64 0)) 164 10 rfl kj kj fun g5 W3 l5 e3 r5_3=>Qal g5 _ (ints .u8 (QaV (QaF key nonce) (number))) 164 r5_3 rfl kj (Qav 164 _ _ g5 164 _ _ r5_3 rfl kj kj (isz (n:=64) kj ((Qaf _ _).trans (Qbd _ _))) (eqsz (n:=64) ((Qaf _ _).trans (List.length_replicate (n:=64))) ((Qaf _ _).trans (Qbd _ _))) (QaC _ _)) fun W4 p4 r5_4=>?_
 have x4:=Puts.ext p4 (Ext.tr x2 e3) (qT x2.size l5)
 refine sg 1 kj <| sgN hK4 <| sgB kj <| cond_false kj <| wp_skip <| hK3 _ _ <| sgB kj <| wp_seq_k fun K8 hK8=>sgB kj <| wp_block ?_
 refine QaB (fun (s1:Nat×Value)=>[(1,.slice a_n nonce.length c_n),(2,.int .i64 number),(3,.slice a_t text.length c_t),(4,.pointer (some ⟨g2,0,none⟩)),(12,s1.2),(13,.int .i64 ((s1.1:Nat):Int))]) (fun (s1:Nat×Value) W=>(s1.1≤text.length)∧(OwnN .u8 5 W4.heap.size (mxv text (QaF key nonce) number id s1.1) s1.2 W)∧(Ext W4 W)∧(Ext w W)) (fun (s1:Nat×Value)=>text.length-s1.1) (0,(.slice none 0 0)) ⟨kj,kj,kj,kj,kj,kj,trivial⟩ ⟨(Nat.zero_le _),(Qbb _ _ _ _),(Rely.Ext.refl W4),x4⟩ fun s1 X1 V1 hI1=>?_
 obtain ⟨i,u⟩:=s1
 obtain ⟨hi,hu,kk1,xx1⟩:=hI1
 replace hi:i≤text.length:=hi
 replace hu:OwnN .u8 5 W4.heap.size (mxv text (QaF key nonce) number id i) u V1:=hu
 replace kk1:Ext W4 V1:=kk1
 replace xx1:Ext w V1:=xx1
 have e5:=kk1
 refine wp_seq_k fun K10 hK10=>sgB kj <| Qa7 (t:=decide (((i:Nat):Int)<((text.length:Nat):Int))) kj (fun c12=>?_) (fun c12=>?_)
 ·skip
  have hlt:i<text.length:=by have:=of_decide_eq_true c12; omega
  obtain ⟨gt,ot,hat,-,hlt_,hct⟩:=Qb0 (RdK.ext ht xx1) (by omega)
  refine wp_skip <| hK10 _ _ <| wp_seq_k fun K13 hK13=>wp_block <| sgC fun K14 hK14=>?_
  have r2_2:=(Qab r2_1 e2)
  refine Qaa (.agg (ints .u8 (key))) 33 rfl kj (Qao 23 _ g2 23 _ _ (Qab (Puts.row p4 (Qab r2_2 e3) (Qag r2_2 l5)) e5) rfl kj kj (isz (n:=32) kj ((Qaf _ _).trans hkl))) <| sg 3 kj <| Qaa (.int .i64 ((i/64:Nat):Int)) 37 rfl kj (Qad (u:=.int .i64 (IntKind.i64.wrap (Int.tdiv (((i:Nat):Int)) (64)))) kj (congrArg (Value.int .i64) (Qcu _ 64 (by omega)))) <| Qaa (.int .i64 (number+((i/64:Nat):Int))) 38 rfl kj (Qad (u:=.int .i64 (IntKind.i64.wrap (number+((i/64:Nat):Int)))) kj (congrArg (Value.int .i64) (IntWalk.i64_in _ (by omega)))) <| Qan (.tuple #[.agg (ints .u8 (QaV (QaF key nonce) (number+((i/64:Nat):Int)))),.int .i64 0]) 127 #[.agg (ints .u8 (key)),.slice a_n nonce.length c_n,.int .i64 (number+((i/64:Nat):Int))] 39 rfl kj kj ((Qfp key nonce _ _ (number+((i/64:Nat):Int)) _ hkl (RdK.ext hn xx1) h (by omega) (by omega) hkb hnb)) fun W6 e6=>?_
  have x6:=Ext.tr xx1 e6
  refine sg 3 kj <| Qas (ints .u8 (List.replicate 64 0)) 164 14 rfl kj kj fun g15 W7 l15 e7 r15_7=>Qal g15 _ (ints .u8 (QaV (QaF key nonce) (number+((i/64:Nat):Int)))) 164 r15_7 rfl kj (Qav 164 _ _ g15 164 _ _ r15_7 rfl kj kj (isz (n:=64) kj ((Qaf _ _).trans (Qbd _ _))) (eqsz (n:=64) ((Qaf _ _).trans (List.length_replicate (n:=64))) ((Qaf _ _).trans (Qbd _ _))) (QaC _ _)) fun W8 p8 r15_8=>?_
  have x8:=Puts.ext p8 (Ext.tr x6 e7) (qT x6.size l15)
  refine sg 1 kj <| sgN hK14 <| wp_seq_k fun K16 hK16=>sgB kj <| cond_false kj <| wp_skip <| hK16 _ _ <| QaL 11 [⟨none,[(12,none)]⟩,⟨none,[(3,none)]⟩,⟨none,[(13,none)]⟩,⟨none,[(46,some 1),(47,some 2)]⟩,⟨none,[(48,some 3)]⟩,⟨none,[(13,none)]⟩,⟨none,[(50,some 5)]⟩,⟨none,[(14,none),(51,some 6)]⟩,⟨none,[(52,some 7)]⟩,⟨none,[(49,some 4),(53,some 8)]⟩,⟨none,[(54,some 9)]⟩] kj kj fun F hF=>Qay (Qaj _) (u) kj kj (fun W=>by kernel_rfl) <| Qay (Qaj _) (.slice a_t text.length c_t) kj kj (fun W=>by kernel_rfl) ?_
  refine Qay (Qaj _) (.int .i64 ((i:Nat):Int)) kj kj (fun W=>by kernel_rfl) <| Qay (Qaj _) (.pointer (some ⟨gt,ot+i,none⟩)) kj kj (fun W=>(Qaw 33 _ _ .i64 i gt ot text.length c_t 5 a_t _ hat rfl rfl kj kj kj kj (Nat.lt_of_lt_of_eq (show i<text.length by omega) (rfl:text.length=text.length).symm))) ?_
  have y5_6:=(Rely.Ext.trans (Rely.Ext.refl V1) e6)
  refine Qbi (Qaj _) (.int .u8 (nth (text) (i))) kj kj (fun W hR=>(Qap 5 _ _ (.int .u8 (nth (text) (i))) ((Below.cell (Rely.Ext.trans (Rely.Ext.trans (Puts.ext p8 (Rely.Ext.trans y5_6 e7) (qT y5_6.size l15)) (Qak _)) hR) hlt_).trans (hct i (Nat.lt_of_lt_of_eq (show i<text.length by omega) (rfl:text.length=text.length).symm))) rfl kj kj)) <| Qay (Qaj _) (.int .i64 ((i:Nat):Int)) kj kj (fun W=>by kernel_rfl) <| Qay (Qaj _) (.int .i64 ((i%64:Nat):Int)) kj kj (fun W=>(Qad (u:=.int .i64 (Int.tmod (((i:Nat):Int)) (64))) kj (congrArg (Value.int .i64) (Qcg _ 64)))) <| Qay (Qaj _) (.pointer (some ⟨g15,i%64,none⟩)) kj kj (fun W=>(QaG _ _ _ .i64 (i%64) _ 64 5 rfl kj kj kj kj (by omega))) <| Qbi (Qaj _) (.int .u8 (nth (QaV (QaF key nonce) (number+((i/64:Nat):Int))) (i%64))) kj kj (fun W hR=>(Qah 5 _ g15 (i%64) 164 _ (.int .u8 (nth (QaV (QaF key nonce) (number+((i/64:Nat):Int))) (i%64))) _ (Qab (Qab r15_8 (Qak _)) hR) rfl kj (QaJ _ _ _ (Nat.lt_of_lt_of_eq (by omega) (Qbd _ _).symm)) kj)) <| Qay (Qaj _) (.int .u8 (bits .xor .u8 ((nth (text) (i))) ((nth (QaV (QaF key nonce) (number+((i/64:Nat):Int))) (i%64))))) kj kj (fun W=>by kernel_rfl) <| QgT (Qaj _) (ints .u8 ([(bits .xor .u8 ((nth (text) (i))) ((nth (QaV (QaF key nonce) (number+((i/64:Nat):Int))) (i%64))))])) 5 1 (NewS.stable _ _ _ _) kj kj (fun W=>by kernel_rfl) <| Qck (hF _ fun W9 e9=>?_)
  simp only [List.nil_append,List.cons_append,List.take_succ_cons,List.take_zero,List.drop_succ_cons,List.drop_zero,finE,up]
  intro vv18 hv18
  clear hF
  obtain ⟨g18,rfl,l18,r18_9⟩:=hv18
  have b18:=qT x8.size l18
  have f19_6:=(hu.ext e6)
  have y4_6:=(Rely.Ext.trans e5 e6)
  refine Qa9 (k:=.u8) (T:=5) (xs:=mxv text (QaF key nonce) number id i) (ys:=[(bits .xor .u8 ((nth (text) (i))) ((nth (QaV (QaF key nonce) (number+((i/64:Nat):Int))) (i%64))))]) (V:=W4) 1 (.tmp 45) (.tmp 55) 33 rfl kj kj (by decide) 56 rfl kj kj kj (((f19_6.ext e7).puts p8 (QeV f19_6 l15)).ext e9) (QaM (xs:=[(bits .xor .u8 ((nth (text) (i))) ((nth (QaV (QaF key nonce) (number+((i/64:Nat):Int))) (i%64))))]) (n:=1) rfl r18_9 (Qa0 r18_9) (show 1≤maxLen from by decide)) (by rw [Qdp]; show _+1≤_; omega) (Rely.Ext.trans (Puts.ext p8 (Rely.Ext.trans y4_6 e7) (qT y4_6.size l15)) e9) fun z1 W10 f23 y10 l10=>?_
  refine sg 1 kj <| Qae <| hK13 _ _ <| Qac <| sg 1 kj <| Qaa (.int .i64 ((i+1:Nat):Int)) 31 rfl kj (Qad (u:=.int .i64 (IntKind.i64.wrap (((i:Nat):Int)+1))) kj (congrArg (Value.int .i64) (i64n _ _ (by omega) (by omega)))) <| sg 1 kj <| Qae ?_
  repeat (first | with_reducible refine goX1 ?_ | with_reducible refine goX2 ?_ | with_reducible refine goX3 ?_)
  exact Qax ((i+1),z1) ⟨kj,kj,kj,kj,kj,kj,trivial⟩ ⟨(by omega),(by rw [QiU]; exact f23),y10,(Ext.low (Ext.tr x8 e9) l10 x4.size)⟩ (by show text.length-(i+1)<text.length-i; omega)
 ·skip
  have hge:text.length=i:=by have:=of_decide_eq_false c12; omega
  refine wp_exit <| hK8 _ _ <| sgB kj <| wp_ret ?_
  repeat (first | with_reducible refine goR1 ?_ | with_reducible refine goR2 ?_)
  exact (show bodyPost _ _ _ .ret _ _ from ret2 (u) (.int .i64 0) rfl (Qaq kj) (Qaq kj) ⟨_,rfl,xx1,u,rfl,by unfold mixV; rw [hge]; exact OwnN.base x4.size hu⟩)
end Go.Proofs.YtoiendjhplbjjaaDoor.Cha
end
section
namespace Go.Proofs.YtoiendjhplbjjaaDoor.Ae
open Go Go.RowKit
open Rely Auto Own Sha
open Sha Cha
theorem QgV (n : Int) (i:Nat) (h:i<8):(by8 n).take (i+1)=(by8 n).take i++[nth (by8 n) i]:=QcO (by8 n) i (by rw [QbB]; exact h)
theorem Qi0 (n : Int) (i:Nat):n/p256 i/256=n/p256 (i+1):=by
  rw [QbF,Int.mul_comm,Int.ediv_ediv_of_nonneg (by have:=QbQ i; omega)]
theorem QdW (n : Int) (i:Nat) (h:0≤n) (hn:n≤5000000000):0≤n/p256 i∧n/p256 i≤5000000000:=by
  have h1:=Int.ediv_nonneg h (Int.le_of_lt (QbQ i))
  have h2:=Int.ediv_le_self (p256 i) h
  omega
theorem QgW (n : Int) (i:Nat) (h:i<8):IntKind.u8.wrap (n/p256 i%256)=nth (by8 n) i:=by
  have h3:∀ z:Int,IntKind.u8.wrap z=z%256:=fun _=>rfl
  rw [h3,Qi1 n i h]; omega
theorem QhR (n j:Nat) (h:j≤(16-n%16)%16) (h0:(n+j)%16=0):j=(16-n%16)%16:=by omega
theorem Qg9 (n j:Nat) (h:j≤(16-n%16)%16) (h0:(n+j)%16≠0):j+1≤(16-n%16)%16:=by omega
theorem Qg6 (j : Nat):List.replicate j (0:Int)++[0]=List.replicate (j+1) 0:=(List.replicate_succ' ..).symm
theorem Qj6 (n : Nat) (w:World) (hn:n≤5000000000):Calls Tryd.prog 128 #[.int .i64 ((n:Nat):Int)] w (QbD w (OwnN .u8 5 w.heap.size (by8 ((n:Nat):Int)))):=by
 refine enter 18 [(0,.int .i64 ((n:Nat):Int))] Tryd.func128 rfl rfl kj rfl <| sgB kj <| sgB kj <| wp_seq_k fun K3 hK3=>sgB kj <| wp_block <| QaB (fun (s1:Nat×Value)=>[(0,.int .i64 (((n:Nat):Int)/p256 s1.1)),(2,.slice none 0 0),(3,s1.2),(4,.int .i64 ((s1.1:Nat):Int))]) (fun (s1:Nat×Value) W=>(s1.1≤8)∧(OwnN .u8 5 w.heap.size ((by8 ((n:Nat):Int)).take s1.1) s1.2 W)∧(Ext w W)∧(Ext w W)) (fun (s1:Nat×Value)=>8-s1.1) (0,(.slice none 0 0)) ⟨(show Value.int .i64 ((n:Nat):Int)=Value.int .i64 (((n:Nat):Int)/p256 0) from by rw [QeS,Int.ediv_one]),kj,kj,kj,trivial⟩ ⟨(Nat.zero_le _),(by rw [List.take_zero]; exact Qbb _ _ _ _),(Rely.Ext.refl w),(Rely.Ext.refl w)⟩ fun s1 X1 V1 hI1=>?_
 obtain ⟨i,u⟩:=s1
 obtain ⟨hi,hu,kk1,xx1⟩:=hI1
 replace hi:i≤8:=hi
 replace hu:OwnN .u8 5 w.heap.size ((by8 ((n:Nat):Int)).take i) u V1:=hu
 replace kk1:Ext w V1:=kk1
 replace xx1:Ext w V1:=xx1
 have e1:=kk1
 refine wp_seq_k fun K5 hK5=>sgB kj <| Qa7 (t:=decide (((i:Nat):Int)<8)) kj (fun c7=>?_) (fun c7=>?_)
 ·skip
  have hlt6:i<8:=by have:=of_decide_eq_true c7; omega
  have hrg:=QdW ((n:Nat):Int) i (by omega) (by omega)
  refine wp_skip <| hK5 _ _ <| wp_seq_k fun K8 hK8=>wp_block <| sgC fun K9 hK9=>sg 2 kj <| Qaa (.int .i64 (((n:Nat):Int)/p256 i%256)) 11 rfl kj (Qad (u:=.int .i64 (Int.tmod ((((n:Nat):Int)/p256 i)) (256))) kj (congrArg (Value.int .i64) (show Int.tmod (((n:Nat):Int)/p256 i) 256=((n:Nat):Int)/p256 i%256 from Int.tmod_eq_emod_of_nonneg hrg.1))) <| Qaa (.int .u8 (nth (by8 ((n:Nat):Int)) i)) 12 rfl kj (Qad (u:=.int .u8 (IntKind.u8.wrap (((n:Nat):Int)/p256 i%256))) kj (congrArg (Value.int .u8) (QgW _ i hlt6))) <| QaD (ints .u8 ([(nth (by8 ((n:Nat):Int)) i)])) 5 1 13 rfl kj kj fun g10 W2 l10 e2 r10_2=>?_
  have b10:=qT xx1.size l10
  refine Qa9 (k:=.u8) (T:=5) (xs:=(by8 ((n:Nat):Int)).take i) (ys:=[(nth (by8 ((n:Nat):Int)) i)]) (V:=w) 1 (.tmp 9) (.tmp 13) 33 rfl kj kj (by decide) 14 rfl kj kj kj (hu.ext e2) (QaM (xs:=[(nth (by8 ((n:Nat):Int)) i)]) (n:=1) rfl r10_2 (Qa0 r10_2) (show 1≤maxLen from by decide)) (by rw [List.length_take,QbB]; show _+1≤_; omega) (Rely.Ext.trans e1 e2) fun z1 W3 f12 y3 l3=>?_
  refine sg 1 kj <| sgN hK9 <| Qac <| sg 1 kj <| Qaa (.int .i64 (((n:Nat):Int)/p256 (i+1))) 16 rfl kj (Qad (u:=.int .i64 (IntKind.i64.wrap (Int.tdiv ((((n:Nat):Int)/p256 i)) (256)))) kj (congrArg (Value.int .i64) (by rw [show Int.tdiv (((n:Nat):Int)/p256 i) 256=((n:Nat):Int)/p256 i/256 from Int.tdiv_eq_ediv_of_nonneg hrg.1,Qi0]; exact IntWalk.i64_in _ (by have:=QdW ((n:Nat):Int) (i+1) (by omega) (by omega); omega)))) ?_
  refine sg 1 kj <| Qae <| hK8 _ _ <| Qac <| sg 1 kj <| Qaa (.int .i64 ((i+1:Nat):Int)) 8 rfl kj (Qad (u:=.int .i64 (IntKind.i64.wrap (((i:Nat):Int)+1))) kj (congrArg (Value.int .i64) (i64n _ _ (by omega) (by omega)))) <| sg 1 kj <| Qae ?_
  repeat (first | with_reducible refine goX1 ?_ | with_reducible refine goX2 ?_ | with_reducible refine goX3 ?_)
  exact Qax ((i+1),z1) ⟨kj,kj,kj,kj,trivial⟩ ⟨(show i+1≤8 by omega),(by rw [QgV _ i hlt6]; exact f12),y3,(Ext.low (Ext.tr xx1 e2) l3 (Rely.Ext.refl w).size)⟩ (by show 8-(i+1)<8-i; omega)
 ·skip
  have heq6:i=8:=by have:=of_decide_eq_false c7; omega
  refine wp_exit <| hK3 _ _ <| sgB kj <| wp_ret ?_
  repeat (first | with_reducible refine goR1 ?_ | with_reducible refine goR2 ?_)
  exact (show bodyPost _ _ _ .ret _ _ from ret1 (u) rfl (Qaq kj) ⟨u,rfl,xx1,OwnN.base (Rely.Ext.refl w).size (by have h9:=hu; rw [heq6,List.take_of_length_le (by rw [QbB]; decide)] at h9; exact h9)⟩)
set_option maxRecDepth 100000 in
theorem Qfn (key nonce ctx mixed:List Int) (v v2 v3:Value) (B B2 B3:Nat) (w:World) (hkl:key.length=32) (hkb:Qai key) (hnb:Qai nonce) (hn:RdK .u8 B nonce v w) (hc:RdK .u8 B2 ctx v2 w) (hm:RdK .u8 B3 mixed v3 w) (h:nonce.length=12) (hcb:Qai ctx) (hmb:Qai mixed) (hcl:ctx.length≤1200000) (hml:mixed.length≤1200000) :
  Calls Tryd.prog 106 #[.agg (ints .u8 key),v,v2,v3] w (Ret w (.agg (ints .u8 (Qbx key nonce ctx mixed)))):=by
 obtain ⟨a_n,c_n,rfl,-⟩:=id hn
 obtain ⟨a_c,c_c,rfl,-⟩:=id hc
 obtain ⟨a_m,c_m,rfl,-⟩:=id hm
 refine enter 61 [(0,.agg (ints .u8 (key))),(1,.slice a_n nonce.length c_n),(2,.slice a_c ctx.length c_c),(3,.slice a_m mixed.length c_m)] Tryd.func106 rfl rfl kj rfl <| sgC fun K1 hK1=>Qas (ints .u8 (key)) 23 4 rfl kj kj fun g2 W1 l2 e1 r2_1=>?_
 have x1:=Ext.tr (Rely.Ext.refl w) e1
 have b2:=qT (Rely.Ext.refl w).size l2
 refine Qas (ints .u8 (List.replicate 16 0)) 157 8 rfl kj kj fun g3 W2 l3 e2 r3_2=>?_
 have x2:=Ext.tr x1 e2
 refine sgN hK1 <| sgC fun K4 hK4=>Qaa (.agg (ints .u8 (key))) 15 rfl kj (Qao 23 _ g2 23 _ _ (Qab r2_1 e2) rfl kj kj (isz (n:=32) kj ((Qaf _ _).trans hkl))) <| sg 1 kj <| Qan (.tuple #[.agg (ints .u8 (QaV (QaF key nonce) (0))),.int .i64 0]) 127 #[.agg (ints .u8 (key)),.slice a_n nonce.length c_n,.int .i64 0] 17 rfl kj kj ((Qfp key nonce _ _ 0 _ hkl (RdK.ext hn x2) h (by decide) (by decide) hkb hnb)) fun W3 e3=>?_
 have x3:=Ext.tr x2 e3
 refine sg 3 kj <| Qas (ints .u8 (List.replicate 64 0)) 164 9 rfl kj kj fun g5 W4 l5 e4 r5_4=>Qal g5 _ (ints .u8 (QaV (QaF key nonce) (0))) 164 r5_4 rfl kj (Qav 164 _ _ g5 164 _ _ r5_4 rfl kj kj (isz (n:=64) kj ((Qaf _ _).trans (Qbd _ _))) (eqsz (n:=64) ((Qaf _ _).trans (List.length_replicate (n:=64))) ((Qaf _ _).trans (Qbd _ _))) (QaC _ _)) fun W5 p5 r5_5=>?_
 have x5:=Puts.ext p5 (Ext.tr x3 e4) (qT x3.size l5)
 refine sg 1 kj <| sgN hK4 <| sgC fun K6 hK6=>Qas (ints .u8 (List.replicate 32 0)) 23 11 rfl kj kj fun g7 W6 l7 e6 r7_6=>sgN hK6 <| wp_seq_k fun K8 hK8=>sgB kj <| wp_block <| QaB (fun (s1:Nat)=>[(1,.slice a_n nonce.length c_n),(2,.slice a_c ctx.length c_c),(3,.slice a_m mixed.length c_m),(8,.pointer (some ⟨g3,0,none⟩)),(9,.pointer (some ⟨g5,0,none⟩)),(11,.pointer (some ⟨g7,0,none⟩)),(12,.int .i64 ((s1:Nat):Int))]) (fun (s1:Nat) W=>(s1≤32)∧(W.heap[g7]? = some (.cells (ints .u8 (Qbo (otk key nonce) 32 s1)) 23))∧(Qa2 [g7] W6 W)∧(Ext w W)) (fun (s1:Nat)=>32-s1) 0 ⟨kj,kj,kj,kj,kj,kj,kj,trivial⟩ ⟨(Nat.zero_le _),(QaI r7_6 (Qb1 _ 32)),(Qa2.refl [g7] W6),(Ext.tr x5 e6)⟩ fun s1 X1 V1 hI1=>?_
 obtain ⟨i,hs1⟩:∃ z,z=s1:=⟨_,rfl⟩
 subst hs1
 obtain ⟨hi,q7_1,kk1,xx1⟩:=hI1
 replace hi:i≤32:=hi
 replace q7_1:V1.heap[g7]? = some (.cells (ints .u8 (Qbo (otk key nonce) 32 i)) 23):=q7_1
 replace kk1:Qa2 [g7] W6 V1:=kk1
 replace xx1:Ext w V1:=xx1
 have q7:=kk1
 refine wp_seq_k fun K10 hK10=>sgB kj <| Qa7 (t:=decide (((i:Nat):Int)<32)) kj (fun c12=>?_) (fun c12=>?_)
 ·skip
  have hlt21:i<32:=by have:=of_decide_eq_true c12; omega
  refine wp_skip <| hK10 _ _ <| wp_seq_k fun K13 hK13=>wp_block <| Qac <| sg 2 kj <| Qaa (.pointer (some ⟨g5,i,none⟩)) 26 rfl kj (QaG _ _ _ .i64 (i) _ 64 5 rfl kj kj kj kj (by omega)) <| Qaa (.int .u8 (nth (otk key nonce) i)) 27 rfl kj (Qah 5 _ g5 i 164 _ (.int .u8 (nth (otk key nonce) i)) _ (Qa2.row q7 (Qab r5_5 e6) (QaU (Qag r5_5 l7) Qbt)) rfl kj ((QaJ _ _ _ (Nat.lt_of_lt_of_eq (by omega) (Qbd _ _).symm)).trans (congrArg (fun z=>some (Value.int .u8 z)) (by unfold otk; exact (Qd0 _ _ _ hlt21).symm))) kj) ?_
  refine Qaa (.pointer (some ⟨g7,i,none⟩)) 28 rfl kj (QaG _ _ _ .i64 (i) _ 32 5 rfl kj kj kj kj (by omega)) <| Qal g7 _ (ints .u8 ((Qbo (otk key nonce) 32 i).set i (nth (otk key nonce) i))) 23 q7_1 rfl kj (Qa1 5 _ _ g7 i 23 _ _ q7_1 rfl kj kj kj (Nat.lt_of_lt_of_eq (by omega) (Qb5 _ 32 _ (QdB _ _) hi).symm)) fun W8 p8 r7_8=>?_
  have x8:=Puts.ext p8 xx1 (qT x5.size l7)
  refine Qae <| hK13 _ _ <| Qac <| sg 1 kj <| Qaa (.int .i64 ((i+1:Nat):Int)) 23 rfl kj (Qad (u:=.int .i64 (IntKind.i64.wrap (((i:Nat):Int)+1))) kj (congrArg (Value.int .i64) (i64n _ _ (by omega) (by omega)))) <| sg 1 kj <| Qae ?_
  repeat (first | with_reducible refine goX1 ?_ | with_reducible refine goX2 ?_ | with_reducible refine goX3 ?_)
  exact Qax (i+1) ⟨kj,kj,kj,kj,kj,kj,kj,trivial⟩ ⟨(show i+1≤32 by omega),(QaI r7_8 (Qb2 _ 32 i (QdB _ _) hlt21)),(Qa2.puts q7 p8 (.inl (by simp))),x8⟩ (by show 32-(i+1)<32-i; omega)
 ·skip
  have heq21:i=32:=by have:=of_decide_eq_false c12; omega
  subst heq21
  have r7_7_14:V1.heap[g7]? = some (.cells (ints .u8 (otk key nonce)) 23):=QaI q7_1 (QbJ _ 32 (QdB _ _))
  refine wp_exit <| hK8 _ _ <| sgC fun K15 hK15=>QaD (ints .u8 ([])) 5 0 29 rfl kj kj fun g16 W8 l16 e8 r16_8=>?_
  have x8:=Ext.tr xx1 e8
  have b16:=qT xx1.size l16
  refine sg 1 kj <| Qa9 (k:=.u8) (T:=5) (xs:=[]) (ys:=ctx) (V:=V1) 1 (.tmp 29) (.tmp 30) 33 rfl kj kj (by decide) 31 rfl kj kj kj (QbW (xs:=[]) rfl l16 r16_8 (by decide)) (RdK.ext hc x8) (by show 0+_≤_; omega) (Rely.Ext.trans (Rely.Ext.refl V1) e8) fun z1 W9 f17 y9 l9=>?_
  refine sg 1 kj <| Qae ?_
  have ho_0:OwnN .u8 5 V1.heap.size ctx (z1) W9:=by have h9:=f17; rw [List.nil_append] at h9; exact h9
  refine hK15 _ _ <| wp_seq_k fun K19 hK19=>wp_block <| QaB (fun (s2:Nat×Value)=>[(2,.slice a_c ctx.length c_c),(3,.slice a_m mixed.length c_m),(8,.pointer (some ⟨g3,0,none⟩)),(11,.pointer (some ⟨g7,0,none⟩)),(13,s2.2)]) (fun (s2:Nat×Value) W=>(s2.1≤((16-ctx.length%16)%16))∧(OwnN .u8 5 V1.heap.size (ctx++List.replicate s2.1 0) s2.2 W)∧(Below V1.heap.size W9 W)∧(Ext w W)) (fun (s2:Nat×Value)=>((16-ctx.length%16)%16)-s2.1) (0,z1) ⟨kj,kj,kj,kj,kj,trivial⟩ ⟨(Nat.zero_le _),(by rw [List.replicate_zero,List.append_nil]; exact ho_0),(RowKit.Below.refl _ W9),(Ext.low x8 l9 xx1.size)⟩ fun s2 X2 V2 hI2=>?_
  obtain ⟨j35,u35⟩:=s2
  obtain ⟨hj35,hu35,kk2,xx2⟩:=hI2
  replace hj35:j35≤((16-ctx.length%16)%16):=hj35
  replace hu35:OwnN .u8 5 V1.heap.size (ctx++List.replicate j35 0) u35 V2:=hu35
  replace kk2:Below V1.heap.size W9 V2:=kk2
  replace xx2:Ext w V2:=xx2
  have l10:=kk2
  obtain ⟨aj35,cj35,hvj35,-⟩:=id (OwnN.rd hu35)
  subst hvj35
  have hlj35:(ctx++List.replicate j35 0).length=ctx.length+j35:=by rw [List.length_append,List.length_replicate]
  refine wp_seq_k fun K20 hK20=>sgC fun K21 hK21=>sg 2 kj <| Qaa (.int .i64 ((((ctx.length+j35)%16:Nat):Int))) 34 rfl kj (Qad (u:=.int .i64 (Int.tmod ((((ctx++List.replicate j35 0).length:Nat):Int)) (16))) kj (congrArg (Value.int .i64) (by rw [hlj35]; exact Qcg _ 16))) ?_
  refine sg 1 kj <| sgN hK21 <| Qa7 (t:=((((ctx.length+j35)%16:Nat):Int) != 0)) kj (fun c22=>?_) (fun c22=>?_)
  ·skip
   have hne35:(ctx.length+j35)%16≠0:=by have h9:=bne_iff_ne.1 c22; omega
   have hmo35:=Qg9 _ _ hj35 hne35
   refine wp_skip <| hK20 _ _ <| wp_block <| Qac <| sg 1 kj <| QaD (ints .u8 ([0])) 5 1 37 rfl kj kj fun g23 W11 l23 e11 r23_11=>?_
   have x11:=Ext.tr xx2 e11
   have b23:=qT xx2.size l23
   have y7_10:=(Ext.low y9 l10 (Rely.Ext.refl V1).size)
   refine Qa9 (k:=.u8) (T:=5) (xs:=ctx++List.replicate j35 0) (ys:=[0]) (V:=V1) 1 (.tmp 36) (.tmp 37) 33 rfl kj kj (by decide) 38 rfl kj kj kj (hu35.ext e11) (QaM (xs:=[0]) (n:=1) rfl r23_11 (Qa0 r23_11) (show 1≤maxLen from by decide)) (by rw [hlj35]; show _+1≤_; omega) (Rely.Ext.trans y7_10 e11) fun z2 W12 f25 y12 l12=>?_
   refine sg 1 kj <| Qae ?_
   repeat (first | with_reducible refine goX1 ?_ | with_reducible refine goX2 ?_ | with_reducible refine goX3 ?_)
   exact Qax ((j35+1),z2) ⟨kj,kj,kj,kj,kj,trivial⟩ ⟨hmo35,(by have h9:=f25; rw [List.append_assoc,Qg6] at h9; exact h9),(RowKit.Below.trans (RowKit.Below.trans l10 (RowKit.Below.mono e11 y7_10.size)) l12),(Ext.low x11 l12 xx1.size)⟩ (by show ((16-ctx.length%16)%16)-(j35+1)<((16-ctx.length%16)%16)-j35; omega)
  ·skip
   have hen35:j35=((16-ctx.length%16)%16):=QhR _ _ hj35 (by have h9:=bne_eq_false_iff_eq.1 c22; omega)
   obtain ⟨t1,et1⟩:∃ z:List Int,z=ctx++padV ctx:=⟨_,rfl⟩
   have ho_t1:OwnN .u8 5 V1.heap.size t1 (.slice aj35 ((ctx++List.replicate j35 0).length) cj35) V2:=by rw [et1]; have h9:=hu35; generalize (.slice aj35 ((ctx++List.replicate j35 0).length) cj35:Value)=gv at h9 ⊢; rw [hen35] at h9; exact h9
   have lt1:t1.length=ctx.length+(16-ctx.length%16)%16:=by rw [et1,List.length_append,Qet]
   refine wp_exit <| hK19 _ _ <| sgC fun K27 hK27=>sg 2 kj ?_
   have y7_10:=(Ext.low y9 l10 (Rely.Ext.refl V1).size)
   refine Qa9 (k:=.u8) (T:=5) (xs:=t1) (ys:=mixed) (V:=V1) 1 (.tmp 39) (.tmp 40) 33 rfl kj kj (by decide) 41 rfl kj kj kj ho_t1 (RdK.ext hm xx2) (by omega) y7_10 fun z3 W11 f28 y11 l11=>?_
   have x11:=Ext.low xx2 l11 xx1.size
   refine sg 1 kj <| Qae ?_
   obtain ⟨t2,et2⟩:∃ z:List Int,z=t1++mixed:=⟨_,rfl⟩
   have ho_t2:OwnN .u8 5 V1.heap.size t2 (z3) W11:=by rw [et2]; have h9:=f28; generalize (z3:Value)=gv at h9 ⊢; skip; exact h9
   have lt2:t2.length=t1.length+mixed.length:=by rw [et2,List.length_append]
   have hx2:t2.length%16=mixed.length%16:=by omega
   have lt2b:t2.length≤2450000:=by omega
   refine hK27 _ _ <| wp_seq_k fun K30 hK30=>wp_block <| QaB (fun (s3:Nat×Value)=>[(2,.slice a_c ctx.length c_c),(3,.slice a_m mixed.length c_m),(8,.pointer (some ⟨g3,0,none⟩)),(11,.pointer (some ⟨g7,0,none⟩)),(13,s3.2)]) (fun (s3:Nat×Value) W=>(s3.1≤((16-t2.length%16)%16))∧(OwnN .u8 5 V1.heap.size (t2++List.replicate s3.1 0) s3.2 W)∧(Below V1.heap.size W11 W)∧(Ext w W)) (fun (s3:Nat×Value)=>((16-t2.length%16)%16)-s3.1) (0,z3) ⟨kj,kj,kj,kj,kj,trivial⟩ ⟨(Nat.zero_le _),(by rw [List.replicate_zero,List.append_nil]; exact ho_t2),(RowKit.Below.refl _ W11),x11⟩ fun s3 X3 V3 hI3=>?_
   obtain ⟨j45,u45⟩:=s3
   obtain ⟨hj45,hu45,kk3,xx3⟩:=hI3
   replace hj45:j45≤((16-t2.length%16)%16):=hj45
   replace hu45:OwnN .u8 5 V1.heap.size (t2++List.replicate j45 0) u45 V3:=hu45
   replace kk3:Below V1.heap.size W11 V3:=kk3
   replace xx3:Ext w V3:=xx3
   have l12:=kk3
   obtain ⟨aj45,cj45,hvj45,-⟩:=id (OwnN.rd hu45)
   subst hvj45
   have hlj45:(t2++List.replicate j45 0).length=t2.length+j45:=by rw [List.length_append,List.length_replicate]
   refine wp_seq_k fun K31 hK31=>sgC fun K32 hK32=>sg 2 kj <| Qaa (.int .i64 ((((t2.length+j45)%16:Nat):Int))) 44 rfl kj (Qad (u:=.int .i64 (Int.tmod ((((t2++List.replicate j45 0).length:Nat):Int)) (16))) kj (congrArg (Value.int .i64) (by rw [hlj45]; exact Qcg _ 16))) ?_
   refine sg 1 kj <| sgN hK32 <| Qa7 (t:=((((t2.length+j45)%16:Nat):Int) != 0)) kj (fun c33=>?_) (fun c33=>?_)
   ·skip
    have hne45:(t2.length+j45)%16≠0:=by have h9:=bne_iff_ne.1 c33; omega
    have hmo45:=Qg9 _ _ hj45 hne45
    refine wp_skip <| hK31 _ _ <| wp_block <| Qac <| sg 1 kj <| QaD (ints .u8 ([0])) 5 1 47 rfl kj kj fun g34 W13 l34 e13 r34_13=>?_
    have x13:=Ext.tr xx3 e13
    have b34:=qT xx3.size l34
    have y7_12:=(Ext.low y11 l12 (Rely.Ext.refl V1).size)
    have y7_13:=(Rely.Ext.trans y7_12 e13)
    refine Qa9 (k:=.u8) (T:=5) (xs:=t2++List.replicate j45 0) (ys:=[0]) (V:=V1) 1 (.tmp 46) (.tmp 47) 33 rfl kj kj (by decide) 48 rfl kj kj kj (hu45.ext e13) (QaM (xs:=[0]) (n:=1) rfl r34_13 (Qa0 r34_13) (show 1≤maxLen from by decide)) (by rw [hlj45]; show _+1≤_; omega) y7_13 fun z4 W14 f36 y14 l14=>?_
    have x14:=Ext.low x13 l14 xx1.size
    refine sg 1 kj <| Qae ?_
    repeat (first | with_reducible refine goX1 ?_ | with_reducible refine goX2 ?_ | with_reducible refine goX3 ?_)
    exact Qax ((j45+1),z4) ⟨kj,kj,kj,kj,kj,trivial⟩ ⟨hmo45,(by have h9:=f36; rw [List.append_assoc,Qg6] at h9; exact h9),(RowKit.Below.trans (RowKit.Below.trans l12 (RowKit.Below.mono e13 y7_12.size)) l14),x14⟩ (by show ((16-t2.length%16)%16)-(j45+1)<((16-t2.length%16)%16)-j45; omega)
   ·skip
    have hen45:j45=((16-t2.length%16)%16):=QhR _ _ hj45 (by have h9:=bne_eq_false_iff_eq.1 c33; omega)
    obtain ⟨t3,et3⟩:∃ z:List Int,z=ctx++padV ctx++mixed++padV mixed:=⟨_,rfl⟩
    have ho_t3:OwnN .u8 5 V1.heap.size t3 (.slice aj45 ((t2++List.replicate j45 0).length) cj45) V3:=by rw [et3]; have h9:=hu45; generalize (.slice aj45 ((t2++List.replicate j45 0).length) cj45:Value)=gv at h9 ⊢; rw [hen45,et2,et1] at h9; rw [show (16-(ctx++padV ctx++mixed).length%16)%16=(16-mixed.length%16)%16 by rw [←et1,←et2,hx2]] at h9; exact h9
    have lt3:t3.length≤2500000:=by rw [et3,List.length_append,List.length_append,←et1,Qet,lt1]; omega
    refine wp_exit <| hK30 _ _ <| sgC fun K38 hK38=>sg 3 kj <| Qat (fun v W'=>(OwnN .u8 5 V3.heap.size (by8 ((ctx.length:Nat):Int))) v W'∧Ext V3 W') 128 #[.int .i64 ((ctx.length:Nat):Int)] 52 rfl kj kj ((Qj6 (ctx.length) _ (by omega)).mono (by rintro e w' ⟨v,rfl,e1,hv⟩; exact ⟨v,rfl,hv,e1⟩)) fun vv39 W13 hh39=>?_
    obtain ⟨hv39,e13⟩:=hh39
    have x13:=Ext.tr xx3 e13
    obtain ⟨a52_,c52_,rfl,-⟩:=id (OwnN.rd hv39)
    have y7_12:=(Ext.low y11 l12 (Rely.Ext.refl V1).size)
    have y7_13:=(Rely.Ext.trans y7_12 e13)
    refine Qa9 (k:=.u8) (T:=5) (xs:=t3) (ys:=by8 ((ctx.length:Nat):Int)) (V:=V1) 1 (.tmp 49) (.tmp 52) 33 rfl kj kj (by decide) 53 rfl kj kj kj (ho_t3.ext e13) (OwnN.rd hv39) (by rw [QbB]; omega) y7_13 fun z5 W14 f41 y14 l14=>?_
    have x14:=Ext.low x13 l14 xx1.size
    refine sg 1 kj <| Qae ?_
    obtain ⟨t4,et4⟩:∃ z:List Int,z=t3++by8 ((ctx.length:Nat):Int):=⟨_,rfl⟩
    have ho_t4:OwnN .u8 5 V1.heap.size t4 (z5) W14:=by rw [et4]; have h9:=f41; generalize (z5:Value)=gv at h9 ⊢; skip; exact h9
    have lt4:t4.length=t3.length+8:=by rw [et4,List.length_append,QbB]
    refine hK38 _ _ <| wp_seq_k fun K43 hK43=>?_
    have r7_8:=(Qab r7_7_14 e8)
    have hbW:V1.heap.size≤W14.heap.size:=y14.size
    obtain ⟨gz,cz,curz,hze,hz1,hz2,-,-,-,-⟩:=QdL ho_t4 (by omega)
    have hgz:=Qa0 hz2
    have hv4:OwnN .u8 5 V1.heap.size t4 (.slice (some ⟨gz,0,none⟩) t4.length cz) W14:=hze▸ho_t4
    have hn11:g7≠gz:=by have h1:=Qa0 r7_7_14; omega
    refine Qgt (QcN gz V1.heap.size t4.length (by8 ((mixed.length:Nat):Int))) (QcN.refl _ _ _ _) (fun h k=>QcN.trans h k) 6 [⟨none,[(11,none)]⟩,⟨none,[(13,none)]⟩,⟨none,[(3,none)]⟩,⟨none,[(56,some 2)]⟩,⟨none,[(57,some 3)]⟩,⟨none,[(55,some 1),(58,some 4)]⟩] kj kj fun F hF=>Qi7 (QcN.refl _ _ _ _) (.agg (ints .u8 (otk key nonce))) kj kj (fun W hR=>(Qao 23 _ g7 23 _ _ (hR.row (Qab (Qbw l14 (Qab (Qbw l12 (Qbw l11 (Qbw l10 (Qbw l9 r7_8 (Qa0 r7_7_14)) (Qa0 r7_7_14)) (Qa0 r7_7_14)) (Qa0 r7_7_14)) e13) (Qa0 r7_7_14)) (Qak _)) hn11) rfl kj kj (isz (n:=32) kj ((Qaf _ _).trans (QdB _ _))))) <| Qi7 (QcN.refl _ _ _ _) (z5) kj kj (fun W hR=>by kernel_rfl) <| Qi7 (QcN.refl _ _ _ _) (.slice a_m mixed.length c_m) kj kj (fun W hR=>by kernel_rfl) <| Qi7 (QcN.refl _ _ _ _) (.int .i64 ((mixed.length:Nat):Int)) kj kj (fun W hR=>by kernel_rfl) <| Qi8 (fun W=>QcN.refl _ _ _ _ W) (fun e=>QcN.ext e) (OwnN .u8 5 V1.heap.size (by8 ((mixed.length:Nat):Int))) (Qe5 (fun i hi h=>absurd hi (by rw [QbB]; omega))) 128 (fun ρ W hR hh=>?_) ?_
    ·skip
     have e57:ρ 57=.int .i64 ((mixed.length:Nat):Int):=hh.1
     refine ⟨#[.int .i64 ((mixed.length:Nat):Int)],Eq.trans (b:=Result.ok (Next.enter 128 #[ρ 57]) W) kj (by rw [e57]),?_⟩
     exact (Qj6 mixed.length W (by omega)).mono fun e W2 h=>by
      obtain ⟨u,h1,h2,h3⟩:=h
      exact ⟨u,h1,h2,h3.base (qT hbW (qT (Qak W14).size hR.once.size))⟩
    refine Qk0 (OwnN .u8 5 V1.heap.size (t4++by8 ((mixed.length:Nat):Int))) (Qe5 (fun i hi h=>by unfold nth; rw [List.getD_eq_getElem?_getD,List.getD_eq_getElem?_getD,List.getElem?_append_right h])) (fun ρ W hR hh=>?_) ?_
    ·skip
     have e55:ρ 55=.slice (some ⟨gz,0,none⟩) t4.length cz:=(show ρ 55=z5 from hh.1).trans hze
     have h58:OwnN .u8 5 V1.heap.size (by8 ((mixed.length:Nat):Int)) (ρ 58) W:=hh.2.1
     exact Qi3 (ρ:=Rely.look ρ) (.tmp 55) (.tmp 58) 33 rfl kj kj e55 rfl (Qe5 (fun i hi h=>absurd hi (by omega)) _ _ _ hR (hv4.ext (Qak _))) (OwnN.rd h58) (by rw [QbB]; omega) (qT hbW (qT (Qak W14).size hR.once.size))
    refine Qck (hF _ fun W15 hR=>?_)
    simp only [List.nil_append,List.cons_append,List.take_succ_cons,List.take_zero,List.drop_succ_cons,List.drop_zero,finE,up]
    intro z58 hz58 z59 hz59
    clear hF
    have l15:Below V1.heap.size W14 W15:=Qh5 (hR.once.below (qT hbW (Qak _).size)) hbW
    obtain ⟨t5,et5⟩:∃ z:List Int,z=QkT ctx mixed:=⟨_,rfl⟩
    have eq5:t4++by8 ((mixed.length:Nat):Int)=t5:=by rw [et5,et4,et3,List.append_assoc]; rfl
    have hz5:OwnN .u8 5 V1.heap.size t5 z59 W15:=eq5▸hz59
    obtain ⟨a59,c59,rfl,-⟩:=id (OwnN.rd hz5)
    have lt5:t5.length≤3000000:=by rw [←eq5,List.length_append,QbB]; omega
    have bt5:Qai t5:=by rw [et5]; exact QaR (QaR (QaR (QaR hcb (Qdy _)) hmb) (Qdy _)) (QaR (Qds _) (Qds _))
    refine Qan (.agg (ints .u8 (Qbx key nonce ctx mixed))) 129 #[.agg (ints .u8 (otk key nonce)),.slice a59 t5.length c59] 60 rfl kj kj ((by unfold Qbx; rw [←et5]; exact Qk8 (otk key nonce) t5 _ _ _ (QdB _ _) (QfL _ _) bt5 (OwnN.rd hz5) lt5)) fun W16 e16=>?_
    have r3_3:=(Qab r3_2 e3)
    have r3_5:=(Puts.row p5 (Qab r3_3 e4) (Qag r3_3 l5))
    have r3_7:=(Qa2.row q7 (Qab r3_5 e6) (QaU (Qag r3_5 l7) Qbt))
    have r3_16:=(Qab (Qbw l15 (Qbw l14 (Qab (Qbw l12 (Qbw l11 (Qbw l10 (Qbw l9 (Qab r3_7 e8) (Qa0 r3_7)) (Qa0 r3_7)) (Qa0 r3_7)) (Qa0 r3_7)) e13) (Qa0 r3_7)) (Qa0 r3_7)) e16)
    refine Qal g3 _ (ints .u8 (Qbx key nonce ctx mixed)) 157 r3_16 rfl kj (Qav 157 _ _ g3 157 _ _ r3_16 rfl kj kj (isz (n:=16) kj ((Qaf _ _).trans (QaO _ _ _ _))) (eqsz (n:=16) ((Qaf _ _).trans (List.length_replicate (n:=16))) ((Qaf _ _).trans (QaO _ _ _ _))) (QaC _ _)) fun W17 p17 r3_17=>sgN hK43 <| wp_ret ?_
    repeat (first | with_reducible refine goR1 ?_ | with_reducible refine goR2 ?_)
    exact (show bodyPost _ _ _ .ret _ _ from ret1 (.agg (ints .u8 (Qbx key nonce ctx mixed))) rfl (Qbq g3 157 _ r3_17 kj kj (isz (n:=16) kj ((Qaf _ _).trans (QaO _ _ _ _)))) ⟨rfl,(Puts.ext p17 (Ext.tr (Ext.low x14 l15 xx1.size) e16) (qT x1.size l3))⟩)
end Go.Proofs.YtoiendjhplbjjaaDoor.Ae
end
section
namespace Go.Proofs.YtoiendjhplbjjaaDoor.Ae
open Go Go.RowKit
open Rely Auto Own Sha
open Sha Cha
def QcY (base : Nat) (xs:List Int):Value→World→Prop:=fun v W=>∃ u,v=.tuple #[u,.int .i64 0]∧OwnN .u8 5 base xs u W
theorem Qcd (base : Nat) (xs:List Int):Qb8 Ext (QcY base xs):=fun _ _ _ hR ⟨u,e,h⟩=>⟨u,e,h.ext hR⟩
theorem QkD (n0 : Nat) (key nonce text fm:List Int) (v v2:Value) (B B2:Nat) (w:World) (hkl:key.length=32) (hkb:Qai key) (hnb:Qai nonce) (hn:RdK .u8 B nonce v w) (ht:RdK .u8 B2 text v2 w) (h:nonce.length=12) (hl:text.length≤2000000) (em:mixV (QaF key nonce) 1 text=fm) (hn0:n0≤w.heap.size) :
    Calls Tryd.prog 105 #[.agg (ints .u8 key),v,.int .i64 1,v2] w (QbD w (QcY n0 fm)):=by
  subst em
  exact (QkC key nonce text v v2 B B2 1 w hkl hkb hnb hn ht h 4294967295 (by decide) (by decide) (by decide) (by omega) hl).mono fun e W' hg=>by
    obtain ⟨v',e1,e2,u,e3,e4⟩:=hg
    exact ⟨v',e1,e2,u,e3,e4.base hn0⟩
set_option maxRecDepth 100000 in
theorem QjU (key nonce ctx text:List Int) (v v2 v3:Value) (B B2 B3:Nat) (w:World) (hkl:key.length=32) (hkb:Qai key) (hnb:Qai nonce) (hn:RdK .u8 B nonce v w) (hc:RdK .u8 B2 ctx v2 w) (ht:RdK .u8 B3 text v3 w) (hcb:Qai ctx) (h:nonce.length=12) (hcl:ctx.length≤1048576) (hxl:text.length≤1048576) :
    Calls Tryd.prog 72 #[.agg (ints .u8 key),v,v2,v3] w (QbD w (QcY w.heap.size (QeG key nonce ctx text))):=by
  obtain ⟨a_n,c_n,rfl,-⟩:=id hn
  obtain ⟨a_c,c_c,rfl,-⟩:=id hc
  obtain ⟨a_t,c_t,rfl,-⟩:=id ht
  obtain ⟨fm,em⟩:∃ z:List Int,mixV (QaF key nonce) 1 text=z:=⟨_,rfl⟩
  have lfm:fm.length=text.length:=by rw [←em,Qd2]
  have hfb:Qai fm:=by rw [←em]; exact Qd3 _ _ _
  refine enter 41 [(0,.agg (ints .u8 (key))),(1,.slice a_n nonce.length c_n),(2,.slice a_c ctx.length c_c),(3,.slice a_t text.length c_t)] Tryd.func72 rfl rfl kj rfl <| sgC fun K1 hK1=>Qas (ints .u8 (key)) 23 4 rfl kj kj fun g2 W1 l2 e1 r2_1=>?_
  have x1:=Ext.tr (Rely.Ext.refl w) e1
  have b2:=qT (Rely.Ext.refl w).size l2
  refine sg 2 kj <| sgN hK1 <| wp_seq_k fun K3 hK3=>sgC fun K4 hK4=>sg 2 kj <| Qaa (.bool false) 15 rfl kj (Qad (u:=.bool ((((nonce.length:Nat):Int) != 12))) kj (congrArg Value.bool (by rw [h]; rfl))) ?_
  refine sg 3 kj <| Qaa (.bool false) 19 rfl kj (Qad (u:=.bool (decide (((ctx.length:Nat):Int)>1048576))) kj (congrArg Value.bool (decide_eq_false (by omega)))) <| sg 4 kj <| Qaa (.bool false) 24 rfl kj (Qad (u:=.bool (decide (((text.length:Nat):Int)>1048576))) kj (congrArg Value.bool (decide_eq_false (by omega)))) <| sg 1 kj <| sgN hK4 <| cond_false kj <| wp_skip <| hK3 _ _ <| sgC fun K5 hK5=>?_
  refine Qaa (.agg (ints .u8 (key))) 27 rfl kj (Qao 23 _ g2 23 _ _ r2_1 rfl kj kj (isz (n:=32) kj ((Qaf _ _).trans hkl))) <| sg 2 kj <| Qat (fun v W'=>(QcY W1.heap.size fm) v W'∧Ext W1 W') 105 #[.agg (ints .u8 (key)),.slice a_n nonce.length c_n,.int .i64 1,.slice a_t text.length c_t] 30 rfl kj kj ((QkD W1.heap.size key nonce text fm _ _ _ _ _ hkl hkb hnb (RdK.ext hn x1) (RdK.ext ht x1) h (by omega) em (qR _)).mono (by rintro e w' ⟨v,rfl,e1,hv⟩; exact ⟨v,rfl,hv,e1⟩)) fun vv6 W2 hh6=>?_
  obtain ⟨hv6,e2⟩:=hh6
  have x2:=Ext.tr x1 e2
  obtain ⟨u30_,rfl,hu30_⟩:=hv6
  obtain ⟨a30_,c30_,rfl,-⟩:=id (OwnN.rd hu30_)
  refine sg 5 kj <| sgN hK5 <| sgC fun K7 hK7=>Qaa (.agg (ints .u8 (key))) 33 rfl kj (Qao 23 _ g2 23 _ _ (Qab r2_1 e2) rfl kj kj (isz (n:=32) kj ((Qaf _ _).trans hkl))) <| sg 3 kj <| Qan (.agg (ints .u8 (Qbx key nonce ctx fm))) 106 #[.agg (ints .u8 (key)),.slice a_n nonce.length c_n,.slice a_c ctx.length c_c,.slice a30_ ((fm).length) c30_] 37 rfl kj kj ((Qfn key nonce ctx fm _ _ _ _ _ _ _ hkl hkb hnb (RdK.ext hn x2) (RdK.ext hc x2) (OwnN.rd hu30_) h hcb hfb (by omega) (by omega))) fun W3 e3=>?_
  have x3:=Ext.tr x2 e3
  refine Qas (ints .u8 (List.replicate 16 0)) 157 12 rfl kj kj fun g8 W4 l8 e4 r8_4=>Qal g8 _ (ints .u8 (Qbx key nonce ctx fm)) 157 r8_4 rfl kj (Qav 157 _ _ g8 157 _ _ r8_4 rfl kj kj (isz (n:=16) kj ((Qaf _ _).trans (QaO _ _ _ _))) (eqsz (n:=16) ((Qaf _ _).trans (List.length_replicate (n:=16))) ((Qaf _ _).trans (QaO _ _ _ _))) (QaC _ _)) fun W5 p5 r8_5=>sgN hK7 <| sgC fun K9 hK9=>sg 2 kj ?_
  have f10_3:=(hu30_.ext e3)
  have y1_3:=(Rely.Ext.trans (Rely.Ext.trans (Rely.Ext.refl W1) e2) e3)
  refine Qa9 (k:=.u8) (T:=5) (xs:=fm) (ys:=Qbx key nonce ctx fm) (V:=W1) 1 (.tmp 38) (.tmp 39) 33 rfl kj kj (by decide) 40 rfl kj kj kj ((f10_3.ext e4).puts p5 (QeV f10_3 l8)) (QaM (xs:=Qbx key nonce ctx fm) (n:=16) (QaO _ _ _ _) r8_5 (Qa0 r8_5) (show 16≤maxLen from by decide)) (by rw [QaO]; omega) (Puts.ext p5 (Rely.Ext.trans y1_3 e4) (qT y1_3.size l8)) fun zs W6 f13 y6 l6=>?_
  refine sg 2 kj <| sgN hK9 <| wp_ret ?_
  repeat (first | with_reducible refine goR1 ?_ | with_reducible refine goR2 ?_)
  exact (show bodyPost _ _ _ .ret _ _ from ret2 (zs) (.int .i64 0) rfl (Qaq kj) (Qaq kj) ⟨_,rfl,(Ext.low (Puts.ext p5 (Ext.tr x3 e4) (qT x3.size l8)) l6 x1.size),zs,rfl,by unfold QeG; rw [em]; exact OwnN.base x1.size f13⟩)
end Go.Proofs.YtoiendjhplbjjaaDoor.Ae
end
section
namespace Go.Proofs.YtoiendjhplbjjaaDoor.Ae
open Go Go.RowKit
open Rely Auto Own Sha
open Sha Cha
set_option maxRecDepth 100000 in
theorem QjV (key nonce ctx sl:List Int) (v v2 v3:Value) (B B2 B3:Nat) (w:World) (hkl:key.length=32) (hkb:Qai key) (hnb:Qai nonce) (hn:RdK .u8 B nonce v w) (hc:RdK .u8 B2 ctx v2 w) (ht:RdK .u8 B3 sl v3 w) (hcb:Qai ctx) (htb:Qai sl) (h:nonce.length=12) (hcl:ctx.length≤1048592) (hxl:sl.length≤1048592) (hsh:16≤sl.length) (hne:Qbx key nonce ctx (sl.take (sl.length-16))≠sl.drop (sl.length-16)) :
    Calls Tryd.prog 75 #[.agg (ints .u8 key),v,v2,v3] w (Ret w (.tuple #[.slice none 0 0,.int .i64 2])):=by
  obtain ⟨a_n,c_n,rfl,-⟩:=id hn
  obtain ⟨a_c,c_c,rfl,-⟩:=id hc
  obtain ⟨a_t,c_t,rfl,-⟩:=id ht
  have ctk:sl.length≤c_t:=by
    obtain ⟨_,_,e,q2,_⟩:=id ht
    simp only [Value.slice.injEq] at e
    obtain ⟨-,-,rfl⟩:=e
    exact q2
  have htm:sl.length≤maxLen:=RdK.len ht
  have hlt_:(sl.take (sl.length-16)).length=sl.length-16:=by rw [List.length_take]; omega
  refine enter 56 [(0,.agg (ints .u8 (key))),(1,.slice a_n nonce.length c_n),(2,.slice a_c ctx.length c_c),(3,.slice a_t sl.length c_t)] Tryd.func75 rfl rfl kj rfl <| sgC fun K1 hK1=>Qas (ints .u8 (key)) 23 4 rfl kj kj fun g2 W1 l2 e1 r2_1=>?_
  have x1:=Ext.tr (Rely.Ext.refl w) e1
  have b2:=qT (Rely.Ext.refl w).size l2
  refine sg 2 kj <| sgN hK1 <| wp_seq_k fun K3 hK3=>sgC fun K4 hK4=>sg 2 kj <| Qaa (.bool false) 16 rfl kj (Qad (u:=.bool ((((nonce.length:Nat):Int) != 12))) kj (congrArg Value.bool (by rw [h]; rfl))) ?_
  refine sg 3 kj <| Qaa (.bool false) 20 rfl kj (Qad (u:=.bool (decide (((ctx.length:Nat):Int)>1048592))) kj (congrArg Value.bool (decide_eq_false (by omega)))) <| sg 4 kj <| Qaa (.bool false) 25 rfl kj (Qad (u:=.bool (decide (((sl.length:Nat):Int)>1048592))) kj (congrArg Value.bool (decide_eq_false (by omega)))) <| sg 1 kj <| sgN hK4 <| cond_false kj <| wp_skip <| hK3 _ _ <| sgC fun K5 hK5=>?_
  refine sg 2 kj <| Qaa (.int .i64 (((sl.length-16:Nat):Int))) 29 rfl kj (Qad (u:=.int .i64 (IntKind.i64.wrap (((sl.length:Nat):Int)-16))) kj (congrArg (Value.int .i64) (QcW _ hsh htm))) <| sg 1 kj <| sgN hK5 <| wp_seq_k fun K6 hK6=>sgC fun K7 hK7=>sg 1 kj <| Qaa (.bool false) 31 rfl kj (Qad (u:=.bool (decide (((sl.length-16:Nat):Int)<0))) kj (congrArg Value.bool (decide_eq_false (by omega)))) <| sgN hK7 <| cond_false kj ?_
  refine wp_skip <| hK6 _ _ <| wp_seq_k fun K8 hK8=>QaL 8 [⟨none,[(4,none)]⟩,⟨none,[(1,none)]⟩,⟨none,[(2,none)]⟩,⟨none,[(3,none)]⟩,⟨none,[(10,none)]⟩,⟨none,[(35,some 3),(36,some 4)]⟩,⟨none,[(32,some 0),(33,some 1),(34,some 2),(37,some 5)]⟩,⟨none,[]⟩] kj kj fun F hF=>Qbi (Qaj _) (.agg (ints .u8 (key))) kj kj (fun W hR=>(Qao 23 _ g2 23 _ _ (Qab (Qab r2_1 (Qak _)) hR) rfl kj kj (isz (n:=32) kj ((Qaf _ _).trans hkl)))) <| Qay (Qaj _) (.slice a_n nonce.length c_n) kj kj (fun W=>by kernel_rfl) <| Qay (Qaj _) (.slice a_c ctx.length c_c) kj kj (fun W=>by kernel_rfl) <| Qay (Qaj _) (.slice a_t sl.length c_t) kj kj (fun W=>by kernel_rfl) <| Qay (Qaj _) (.int .i64 (((sl.length-16:Nat):Int))) kj kj (fun W=>by kernel_rfl) <| Qay (Qaj _) (.slice a_t (sl.length-16) c_t) kj kj (fun W=>(Qbl (len:=sl.length) 33 _ _ (sl.length-16) 5 rfl kj kj kj .i64 kj (qT (Nat.sub_le _ _) ctk))) ?_
  refine Qiw (Qaj _) (.agg (ints .u8 (Qbx key nonce ctx (sl.take (sl.length-16))))) 106 #[.agg (ints .u8 (key)),.slice a_n nonce.length c_n,.slice a_c ctx.length c_c,.slice a_t (sl.length-16) c_t] kj kj (fun W=>by kernel_rfl) (fun W hR=>(Qfn key nonce ctx (sl.take (sl.length-16)) _ _ _ _ _ _ W hkl hkb hnb (RdK.ext (RdK.ext hn x1) (Rely.Ext.trans (Qak _) hR)) (RdK.ext (RdK.ext hc x1) (Rely.Ext.trans (Qak _) hR)) (RdK.ext (QbC (RdK.ext ht x1) (sl.length-16) (Nat.sub_le _ _)) (Rely.Ext.trans (Qak _) hR)) h hcb (Qa4 htb _) (by omega) (by omega))) <| Qj7 (Qaj _) (ints .u8 (List.replicate 16 0)) 157 (NewP.stable _ _ _) kj kj (fun W=>by kernel_rfl) <| Qck (hF _ fun W2 e2=>?_)
  simp only [List.nil_append,List.cons_append,List.take_succ_cons,List.take_zero,List.drop_succ_cons,List.drop_zero,finE,up]
  intro vv9 hv9
  clear hF
  obtain ⟨g9,rfl,l9,r9_2⟩:=hv9
  refine Qal g9 _ (ints .u8 (Qbx key nonce ctx (sl.take (sl.length-16)))) 157 r9_2 rfl kj (Qav 157 _ _ g9 157 _ _ r9_2 rfl kj kj (isz (n:=16) kj ((Qaf _ _).trans (QaO _ _ _ _))) (eqsz (n:=16) ((Qaf _ _).trans (List.length_replicate (n:=16))) ((Qaf _ _).trans (QaO _ _ _ _))) (QaC _ _)) fun W3 p3 r9_3=>?_
  have x3:=Puts.ext p3 (Ext.tr x1 e2) (qT x1.size l9)
  refine sgN hK8 <| wp_seq_k fun K10 hK10=>wp_seq_k fun K11 hK11=>QaL 6 [⟨none,[(11,none)]⟩,⟨none,[(39,some 0)]⟩,⟨none,[(3,none)]⟩,⟨none,[(10,none)]⟩,⟨none,[(41,some 2),(42,some 3)]⟩,⟨none,[(43,some 4)]⟩] kj kj fun F hF=>Qay (Qaj _) (.slice (some ⟨g9,0,none⟩) 16 16) kj kj (fun W=>by kernel_rfl) <| Qbi (Qaj _) (.string (Qcp (Qbx key nonce ctx (sl.take (sl.length-16))))) kj kj (fun W hR=>(Qcq _ _ rfl kj (Qbx key nonce ctx (sl.take (sl.length-16))) (RdK.bytes (RdK.ext (QaM (xs:=Qbx key nonce ctx (sl.take (sl.length-16))) (n:=16) (QaO _ _ _ _) r9_3 (Qa0 r9_3) (show 16≤maxLen from by decide)) (Rely.Ext.trans (Qak _) hR)) (Qcb _ _ _ _)))) <| Qay (Qaj _) (.slice a_t sl.length c_t) kj kj (fun W=>by kernel_rfl) <| Qay (Qaj _) (.int .i64 (((sl.length-16:Nat):Int))) kj kj (fun W=>by kernel_rfl) <| Qay (Qaj _) (.slice (QbN a_t c_t (sl.length-16)) (sl.length-(sl.length-16)) (c_t-(sl.length-16))) kj kj (fun W=>(QbH 33 _ _ (sl.length-16) 5 rfl kj kj kj .i64 kj (Nat.sub_le _ _) ctk)) <| Qbi (Qaj _) (.string (Qcp (sl.drop (sl.length-16)))) kj kj (fun W hR=>(Qcq _ _ rfl kj (sl.drop (sl.length-16)) (RdK.bytes (RdK.ext (Qc1 (RdK.ext ht x3) (sl.length-16) (Nat.sub_le _ _)) (Rely.Ext.trans (Qak _) hR)) (QaK htb _)))) ?_
  refine Qck (hF _ fun W4 e4=>?_)
  simp only [List.nil_append,List.cons_append,List.take_succ_cons,List.take_zero,List.drop_succ_cons,List.drop_zero,finE,up]
  clear hF
  refine Qaa (.bool true) 45 rfl kj (Qad (u:=.bool (!((Qcp (Qbx key nonce ctx (sl.take (sl.length-16)))).toList==(Qcp (sl.drop (sl.length-16))).toList))) kj (congrArg Value.bool (by rw [Qe0 (Qcb _ _ _ _) (QaK htb _),decide_eq_false hne]; rfl))) ?_
  refine sgN hK11 <| cond_true kj <| sgB kj <| wp_ret ?_
  repeat (first | with_reducible refine goR1 ?_ | with_reducible refine goR2 ?_)
  exact (show bodyPost _ _ _ .ret _ _ from ret2 (.slice none 0 0) (.int .i64 2) rfl (Qaq kj) (Qaq kj) ⟨rfl,(Ext.tr x3 e4)⟩)
set_option maxRecDepth 100000 in
theorem QjW (key nonce ctx sl:List Int) (v v2 v3:Value) (B B2 B3:Nat) (w:World) (hkl:key.length=32) (hkb:Qai key) (hnb:Qai nonce) (hn:RdK .u8 B nonce v w) (hc:RdK .u8 B2 ctx v2 w) (ht:RdK .u8 B3 sl v3 w) (hcb:Qai ctx) (htb:Qai sl) (h:nonce.length=12) (hcl:ctx.length≤1048592) (hxl:sl.length≤1048592) (hsh:16≤sl.length) (hne:Qbx key nonce ctx (sl.take (sl.length-16))=sl.drop (sl.length-16)) :
    Calls Tryd.prog 75 #[.agg (ints .u8 key),v,v2,v3] w (QbD w (QcY w.heap.size (mixV (QaF key nonce) 1 (sl.take (sl.length-16))))):=by
  obtain ⟨a_n,c_n,rfl,-⟩:=id hn
  obtain ⟨a_c,c_c,rfl,-⟩:=id hc
  obtain ⟨a_t,c_t,rfl,-⟩:=id ht
  have ctk:sl.length≤c_t:=by
    obtain ⟨_,_,e,q2,_⟩:=id ht
    simp only [Value.slice.injEq] at e
    obtain ⟨-,-,rfl⟩:=e
    exact q2
  have htm:sl.length≤maxLen:=RdK.len ht
  have hlt_:(sl.take (sl.length-16)).length=sl.length-16:=by rw [List.length_take]; omega
  obtain ⟨fm,em⟩:∃ z:List Int,mixV (QaF key nonce) 1 (sl.take (sl.length-16))=z:=⟨_,rfl⟩
  refine enter 56 [(0,.agg (ints .u8 (key))),(1,.slice a_n nonce.length c_n),(2,.slice a_c ctx.length c_c),(3,.slice a_t sl.length c_t)] Tryd.func75 rfl rfl kj rfl <| sgC fun K1 hK1=>Qas (ints .u8 (key)) 23 4 rfl kj kj fun g2 W1 l2 e1 r2_1=>?_
  have x1:=Ext.tr (Rely.Ext.refl w) e1
  have b2:=qT (Rely.Ext.refl w).size l2
  refine sg 2 kj <| sgN hK1 <| wp_seq_k fun K3 hK3=>sgC fun K4 hK4=>sg 2 kj <| Qaa (.bool false) 16 rfl kj (Qad (u:=.bool ((((nonce.length:Nat):Int) != 12))) kj (congrArg Value.bool (by rw [h]; rfl))) ?_
  refine sg 3 kj <| Qaa (.bool false) 20 rfl kj (Qad (u:=.bool (decide (((ctx.length:Nat):Int)>1048592))) kj (congrArg Value.bool (decide_eq_false (by omega)))) <| sg 4 kj <| Qaa (.bool false) 25 rfl kj (Qad (u:=.bool (decide (((sl.length:Nat):Int)>1048592))) kj (congrArg Value.bool (decide_eq_false (by omega)))) <| sg 1 kj <| sgN hK4 <| cond_false kj <| wp_skip <| hK3 _ _ <| sgC fun K5 hK5=>?_
  refine sg 2 kj <| Qaa (.int .i64 (((sl.length-16:Nat):Int))) 29 rfl kj (Qad (u:=.int .i64 (IntKind.i64.wrap (((sl.length:Nat):Int)-16))) kj (congrArg (Value.int .i64) (QcW _ hsh htm))) <| sg 1 kj <| sgN hK5 <| wp_seq_k fun K6 hK6=>sgC fun K7 hK7=>sg 1 kj <| Qaa (.bool false) 31 rfl kj (Qad (u:=.bool (decide (((sl.length-16:Nat):Int)<0))) kj (congrArg Value.bool (decide_eq_false (by omega)))) <| sgN hK7 <| cond_false kj ?_
  refine wp_skip <| hK6 _ _ <| wp_seq_k fun K8 hK8=>QaL 8 [⟨none,[(4,none)]⟩,⟨none,[(1,none)]⟩,⟨none,[(2,none)]⟩,⟨none,[(3,none)]⟩,⟨none,[(10,none)]⟩,⟨none,[(35,some 3),(36,some 4)]⟩,⟨none,[(32,some 0),(33,some 1),(34,some 2),(37,some 5)]⟩,⟨none,[]⟩] kj kj fun F hF=>Qbi (Qaj _) (.agg (ints .u8 (key))) kj kj (fun W hR=>(Qao 23 _ g2 23 _ _ (Qab (Qab r2_1 (Qak _)) hR) rfl kj kj (isz (n:=32) kj ((Qaf _ _).trans hkl)))) <| Qay (Qaj _) (.slice a_n nonce.length c_n) kj kj (fun W=>by kernel_rfl) <| Qay (Qaj _) (.slice a_c ctx.length c_c) kj kj (fun W=>by kernel_rfl) <| Qay (Qaj _) (.slice a_t sl.length c_t) kj kj (fun W=>by kernel_rfl) <| Qay (Qaj _) (.int .i64 (((sl.length-16:Nat):Int))) kj kj (fun W=>by kernel_rfl) <| Qay (Qaj _) (.slice a_t (sl.length-16) c_t) kj kj (fun W=>(Qbl (len:=sl.length) 33 _ _ (sl.length-16) 5 rfl kj kj kj .i64 kj (qT (Nat.sub_le _ _) ctk))) ?_
  refine Qiw (Qaj _) (.agg (ints .u8 (Qbx key nonce ctx (sl.take (sl.length-16))))) 106 #[.agg (ints .u8 (key)),.slice a_n nonce.length c_n,.slice a_c ctx.length c_c,.slice a_t (sl.length-16) c_t] kj kj (fun W=>by kernel_rfl) (fun W hR=>(Qfn key nonce ctx (sl.take (sl.length-16)) _ _ _ _ _ _ W hkl hkb hnb (RdK.ext (RdK.ext hn x1) (Rely.Ext.trans (Qak _) hR)) (RdK.ext (RdK.ext hc x1) (Rely.Ext.trans (Qak _) hR)) (RdK.ext (QbC (RdK.ext ht x1) (sl.length-16) (Nat.sub_le _ _)) (Rely.Ext.trans (Qak _) hR)) h hcb (Qa4 htb _) (by omega) (by omega))) <| Qj7 (Qaj _) (ints .u8 (List.replicate 16 0)) 157 (NewP.stable _ _ _) kj kj (fun W=>by kernel_rfl) <| Qck (hF _ fun W2 e2=>?_)
  simp only [List.nil_append,List.cons_append,List.take_succ_cons,List.take_zero,List.drop_succ_cons,List.drop_zero,finE,up]
  intro vv9 hv9
  clear hF
  obtain ⟨g9,rfl,l9,r9_2⟩:=hv9
  refine Qal g9 _ (ints .u8 (Qbx key nonce ctx (sl.take (sl.length-16)))) 157 r9_2 rfl kj (Qav 157 _ _ g9 157 _ _ r9_2 rfl kj kj (isz (n:=16) kj ((Qaf _ _).trans (QaO _ _ _ _))) (eqsz (n:=16) ((Qaf _ _).trans (List.length_replicate (n:=16))) ((Qaf _ _).trans (QaO _ _ _ _))) (QaC _ _)) fun W3 p3 r9_3=>?_
  have x3:=Puts.ext p3 (Ext.tr x1 e2) (qT x1.size l9)
  refine sgN hK8 <| wp_seq_k fun K10 hK10=>wp_seq_k fun K11 hK11=>QaL 6 [⟨none,[(11,none)]⟩,⟨none,[(39,some 0)]⟩,⟨none,[(3,none)]⟩,⟨none,[(10,none)]⟩,⟨none,[(41,some 2),(42,some 3)]⟩,⟨none,[(43,some 4)]⟩] kj kj fun F hF=>Qay (Qaj _) (.slice (some ⟨g9,0,none⟩) 16 16) kj kj (fun W=>by kernel_rfl) <| Qbi (Qaj _) (.string (Qcp (Qbx key nonce ctx (sl.take (sl.length-16))))) kj kj (fun W hR=>(Qcq _ _ rfl kj (Qbx key nonce ctx (sl.take (sl.length-16))) (RdK.bytes (RdK.ext (QaM (xs:=Qbx key nonce ctx (sl.take (sl.length-16))) (n:=16) (QaO _ _ _ _) r9_3 (Qa0 r9_3) (show 16≤maxLen from by decide)) (Rely.Ext.trans (Qak _) hR)) (Qcb _ _ _ _)))) <| Qay (Qaj _) (.slice a_t sl.length c_t) kj kj (fun W=>by kernel_rfl) <| Qay (Qaj _) (.int .i64 (((sl.length-16:Nat):Int))) kj kj (fun W=>by kernel_rfl) <| Qay (Qaj _) (.slice (QbN a_t c_t (sl.length-16)) (sl.length-(sl.length-16)) (c_t-(sl.length-16))) kj kj (fun W=>(QbH 33 _ _ (sl.length-16) 5 rfl kj kj kj .i64 kj (Nat.sub_le _ _) ctk)) <| Qbi (Qaj _) (.string (Qcp (sl.drop (sl.length-16)))) kj kj (fun W hR=>(Qcq _ _ rfl kj (sl.drop (sl.length-16)) (RdK.bytes (RdK.ext (Qc1 (RdK.ext ht x3) (sl.length-16) (Nat.sub_le _ _)) (Rely.Ext.trans (Qak _) hR)) (QaK htb _)))) ?_
  refine Qck (hF _ fun W4 e4=>?_)
  simp only [List.nil_append,List.cons_append,List.take_succ_cons,List.take_zero,List.drop_succ_cons,List.drop_zero,finE,up]
  clear hF
  have x4:=Ext.tr x3 e4
  refine Qaa (.bool false) 45 rfl kj (Qad (u:=.bool (!((Qcp (Qbx key nonce ctx (sl.take (sl.length-16)))).toList==(Qcp (sl.drop (sl.length-16))).toList))) kj (congrArg Value.bool (by rw [Qe0 (Qcb _ _ _ _) (QaK htb _),decide_eq_true hne]; rfl))) ?_
  refine sgN hK11 <| cond_false kj <| wp_skip <| hK10 _ _ <| wp_seq_k fun K12 hK12=>QaL 10 [⟨none,[(4,none)]⟩,⟨none,[(1,none)]⟩,⟨none,[(3,none)]⟩,⟨none,[(10,none)]⟩,⟨none,[(49,some 2),(50,some 3)]⟩,⟨none,[(47,some 0),(48,some 1),(51,some 4)]⟩,⟨none,[(52,some 5)]⟩,⟨none,[(46,some 6)]⟩,⟨none,[(46,some 6)]⟩,⟨none,[(53,some 7)]⟩] kj kj fun F hF=>Qbi (Qaj _) (.agg (ints .u8 (key))) kj kj (fun W hR=>(Qao 23 _ g2 23 _ _ (Qab (Qab (Qab (Puts.row p3 (Qab r2_1 e2) (Qag r2_1 l9)) e4) (Qak _)) hR) rfl kj kj (isz (n:=32) kj ((Qaf _ _).trans hkl)))) <| Qay (Qaj _) (.slice a_n nonce.length c_n) kj kj (fun W=>by kernel_rfl) <| Qay (Qaj _) (.slice a_t sl.length c_t) kj kj (fun W=>by kernel_rfl) <| Qay (Qaj _) (.int .i64 (((sl.length-16:Nat):Int))) kj kj (fun W=>by kernel_rfl) ?_
  refine Qay (Qaj _) (.slice a_t (sl.length-16) c_t) kj kj (fun W=>(Qbl (len:=sl.length) 33 _ _ (sl.length-16) 5 rfl kj kj kj .i64 kj (qT (Nat.sub_le _ _) ctk))) <| QcM (Qaj _) (QcY W4.heap.size fm) (Qcd _ _) 105 #[.agg (ints .u8 (key)),.slice a_n nonce.length c_n,.int .i64 1,.slice a_t (sl.length-16) c_t] kj kj (fun W=>by kernel_rfl) (fun W hR=>(QkD W4.heap.size key nonce (sl.take (sl.length-16)) fm _ _ _ _ W hkl hkb hnb (RdK.ext (RdK.ext hn x4) (Rely.Ext.trans (Qak _) hR)) (RdK.ext (QbC (RdK.ext ht x4) (sl.length-16) (Nat.sub_le _ _)) (Rely.Ext.trans (Qak _) hR)) h (by omega) em (Rely.Ext.trans (Qak _) hR).size)) <| Qb6 (Qaj _) (QcY W4.heap.size fm) (Qcd _ _) (fun ρ W hR hh=>⟨ρ 52,W,by kernel_rfl,Rely.Ext.refl _,(show (QcY W4.heap.size fm) (ρ 52) W from hh.1)⟩) <| Qb6 (Qaj _) (OwnN .u8 5 W4.heap.size fm) (OwnN.stable _ _ _ _) (fun ρ W hR hh=>?_) ?_
  · obtain ⟨u,e,h⟩:=(show (QcY W4.heap.size fm) (ρ 46) W from hh.1)
    exact ⟨_,W,Qba (.tmp 46) 0 #[u,.int .i64 0] _ rfl e rfl,Rely.Ext.refl _,h⟩
  refine Qb6 (Qaj _) (fun v W=>v=.int .i64 0) (fun _ _ _ _ h=>h) (fun ρ W hR hh=>?_) ?_
  · obtain ⟨u,e,h⟩:=(show (QcY W4.heap.size fm) (ρ 46) W from hh.1)
    exact ⟨_,W,Qba (.tmp 46) 1 #[u,.int .i64 0] _ rfl e rfl,Rely.Ext.refl _,rfl⟩
  refine Qb6 (Qaj _) (OwnN .u8 5 W4.heap.size fm) (OwnN.stable _ _ _ _) (fun ρ W hR hh=>⟨ρ 53,W,by kernel_rfl,Rely.Ext.refl _,(show (OwnN .u8 5 W4.heap.size fm) (ρ 53) W from hh.1)⟩) <| Qck (hF _ fun W5 e5=>?_)
  simp only [List.nil_append,List.cons_append,List.take_succ_cons,List.take_zero,List.drop_succ_cons,List.drop_zero,finE,up]
  intro vv13 hv13 vv14 hv14 vv15 hv15 vv16 hv16 vv17 hv17
  clear hF
  subst hv16
  refine sg 1 kj <| sgN hK12 <| sgB kj <| wp_ret ?_
  repeat (first | with_reducible refine goR1 ?_ | with_reducible refine goR2 ?_)
  exact (show bodyPost _ _ _ .ret _ _ from ret2 (vv17) (.int .i64 0) rfl (Qaq kj) (Qaq kj) ⟨_,rfl,(Ext.tr x4 e5),_,rfl,by rw [em]; exact OwnN.base x4.size hv17⟩)
end Go.Proofs.YtoiendjhplbjjaaDoor.Ae
end
