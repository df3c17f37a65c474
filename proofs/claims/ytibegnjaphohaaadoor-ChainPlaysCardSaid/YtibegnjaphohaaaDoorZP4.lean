/- Texts of this claim, joined (P4). -/
import Derived.Test.YtibegnjaphohaaaDoorZP3

set_option linter.unusedVariables false
set_option linter.unusedSimpArgs false
set_option maxHeartbeats 4000000
section
namespace Go.Proofs.YtibegnjaphohaaaDoor.Cn
open Go Go.RowKit
open Rely Auto Own Sha
structure MsLn (L : Nat → List Int) (pl : Nat) (ts : List Int) (ms : List (Int × List Int)) : Prop where
  all:∀ p∈ms,∃ k:Nat,k<pl∧p=(((k:Nat):Int),keyV (L k))∧((k:Nat):Int)∉ts∧pl≤k+65
  each:∀ k:Nat,k<pl→((k:Nat):Int)∉ts→pl≤k+65→(((k:Nat):Int),keyV (L k))∈ms
structure ChLn (g mg : Nat) (L : Nat → List Int) (ts : List Int) (pl : Nat) (ms : List (Int × List Int)) (W : World) : Prop where
  len:∀ k,(L k).length=32
  byt:∀ k,Qat (L k)
  nxt:∀ k,pl≤k→L (k+1)=nxtV (L k)
  row:∃ B,WInv ((pl:Nat):Int) B ts∧W.heap[g]? = some (.cells (cat [#[.int .i64 ((pl:Nat):Int)],#[.int .u64 ((B:Nat):Int)],ints .u8 (L pl),#[.int .i64 ((pl:Nat):Int)],#[.map (some mg)]]) 84)
  mp:MpAt mg (ms.map mpv) W
  is:MsLn L pl ts ms
theorem ChLn.add {g mg:Nat} {L:Nat→List Int} {ts:List Int} {pl:Nat} {ms:List (Int×List Int)} {W:World} (h:ChLn g mg L ts pl ms W):∀ j,itV (L pl) j=L (pl+j)
  | 0=>rfl
  | j+1=>by
    show nxtV (itV (L pl) j)=L (pl+j+1)
    rw [h.add j,h.nxt _ (by omega)]
theorem ChLn.keep {g mg:Nat} {L:Nat→List Int} {ts:List Int} {pl:Nat} {ms:List (Int×List Int)} {W W':World} (h:ChLn g mg L ts pl ms W) (e1:W'.heap[g]? = W.heap[g]?) (e2:W'.heap[mg]? = W.heap[mg]?):ChLn g mg L ts pl ms W':=by
  obtain ⟨B,h1,h2⟩:=h.row
  exact ⟨h.len,h.byt,h.nxt,⟨B,h1,e1.trans h2⟩,h.mp.keep e2,h.is⟩
theorem ChLn.glt {g mg:Nat} {L:Nat→List Int} {ts:List Int} {pl:Nat} {ms:List (Int×List Int)} {W:World} (h:ChLn g mg L ts pl ms W):g<W.heap.size:=by obtain ⟨B,h1,h2⟩:=h.row; exact Qay h2
theorem ChLn.ext {g mg:Nat} {L:Nat→List Int} {ts:List Int} {pl:Nat} {ms:List (Int×List Int)} {W W':World} (h:ChLn g mg L ts pl ms W) (e:Ext W W'):ChLn g mg L ts pl ms W':=h.keep (e.block g h.glt) (e.block mg h.mp.lt)
def Qdd (ms : List (Int×List Int)) (sec:List Int) (pl n:Nat):List (Int×List Int):=Qfe (msNo ms ((n:Nat):Int)++QbY sec pl n (n+1-pl)) ((((max pl (n+1)):Nat):Int)-1-64)
theorem MsLn.lt {L : Nat→List Int} {pl:Nat} {ts:List Int} {ms:List (Int×List Int)} (h:MsLn L pl ts ms):∀ p∈ms,p.1<((pl:Nat):Int):=fun p hp=>by
  obtain ⟨k,h1,h2,-⟩:=h.all p hp
  rw [h2]; show ((k:Nat):Int)<_; omega
theorem MsLn.ok {L : Nat→List Int} {pl:Nat} {ts:List Int} {ms:List (Int×List Int)} (h:MsLn L pl ts ms):MsOk ms:=fun p hp=>by
  obtain ⟨k,h1,h2,-⟩:=h.all p hp
  rw [h2]; show (keyV (L k)).length=44∧Qat (keyV (L k)); exact ⟨QaB _,QcI _⟩
theorem MsLn.get {L : Nat→List Int} {pl:Nat} {ts:List Int} {ms:List (Int×List Int)} (h:MsLn L pl ts ms) {k:Nat} (h1:k<pl) (h2:((k:Nat):Int)∉ts) (h3:pl≤k+65):lget ms ((k:Nat):Int)=keyV (L k):=by
  have hm:=h.each k h1 h2 h3
  unfold lget
  cases hf:ms.find? (fun p=>p.1==((k:Nat):Int)) with
  | none =>
    rw [List.find?_eq_none] at hf
    exact absurd (by simp) (hf _ hm)
  | some p =>
    obtain ⟨j,q1,q2,-⟩:=h.all p (List.mem_of_find?_eq_some hf)
    have hk:=List.find?_some hf
    rw [q2] at hk
    have hjk:((j:Nat):Int)=((k:Nat):Int):=by simpa using hk
    have:j=k:=by omega
    subst this
    rw [q2]; rfl
theorem MsLn.take {L : Nat→List Int} {pl:Nat} {ts:List Int} {ms:List (Int×List Int)} (hA:∀ j,itV (L pl) j=L (pl+j)) (h:MsLn L pl ts ms) (n:Nat) (lim:Int) (hl:lim=(((max pl (n+1)):Nat):Int)-1-64) (hn:((n:Nat):Int)∉ts) (hts:∀ m∈ts,m<((pl:Nat):Int)):MsLn L (max pl (n+1)) (ts++[((n:Nat):Int)]) (Qfe (msNo ms ((n:Nat):Int)++QbY (L pl) pl n (n+1-pl)) lim):=by
  have key:∀ p,p∈Qfe (msNo ms ((n:Nat):Int)++QbY (L pl) pl n (n+1-pl)) lim↔((p∈ms∧p.1≠((n:Nat):Int))∨∃ j,j<n+1-pl∧pl+j<n∧n≤pl+j+64∧p=(((pl+j:Nat):Int),keyV (itV (L pl) j)))∧lim≤p.1:=fun p=>by
    unfold Qfe msNo
    rw [List.mem_filter,List.mem_append,List.mem_filter,QfH]
    simp only [bne_iff_ne,ne_eq,decide_eq_true_eq]
  refine ⟨fun p hp=>?_,fun k h1 h2 h3=>?_⟩
  · obtain ⟨hp1,hp2⟩:=(key p).1 hp
    rcases hp1 with ⟨q1,q2⟩ | ⟨j,q1,q2,q3,q4⟩
    · obtain ⟨k,r1,r2,r3,r4⟩:=h.all p q1
      have e1:p.1=((k:Nat):Int):=by rw [r2]
      refine ⟨k,by omega,r2,fun hm=>?_,by omega⟩
      rcases List.mem_append.1 hm with hm | hm
      · exact r3 hm
      · rw [List.mem_singleton] at hm; exact q2 (e1.trans hm)
    · have e1:p.1=((pl+j:Nat):Int):=by rw [q4]
      refine ⟨pl+j,by omega,by rw [q4,hA],fun hm=>?_,by omega⟩
      rcases List.mem_append.1 hm with hm | hm
      · have:=hts _ hm; omega
      · rw [List.mem_singleton] at hm; omega
  · refine (key _).2 ⟨?_,show lim≤((k:Nat):Int) by omega⟩
    have hk1:((k:Nat):Int)∉ts:=fun hm=>h2 (List.mem_append.2 (.inl hm))
    have hk2:k≠n:=fun e=>h2 (List.mem_append.2 (.inr (by rw [e]; exact List.mem_singleton.2 rfl)))
    rcases Nat.lt_or_ge k pl with hkp | hkp
    · exact .inl ⟨h.each k hkp hk1 (by omega),show ((k:Nat):Int)≠_ by omega⟩
    · right
      refine ⟨k-pl,by omega,by omega,by omega,?_⟩
      rw [hA,show pl+(k-pl)=k by omega]
theorem QhC {g mg:Nat} {L:Nat→List Int} {ts:List Int} {pl:Nat} {ms:List (Int×List Int)} {w:World} (h:ChLn g mg L ts pl ms w) (n:Int):Calls Tryd.prog 32 #[.pointer (some ⟨g,0,none⟩),.int .i64 n] w (Ret w (errV (chkN ts pl n))):=by
  obtain ⟨B,h1,h2⟩:=h.row
  have:=Qj0 g _ B n h1.hnx h1.hB (L pl) pl mg (h.len pl) w h2 (by have:=h1.hnx; omega)
  rw [Qg6 h1] at this
  exact this
section
variable {g mg : Nat} {L : Nat → List Int} {ts : List Int} {pl : Nat} {ms : List (Int × List Int)} {w : World} (tc tq : TypeId)
theorem Qn3 (hc : w.heap[2]? = some (.cells (ints .u64 QaN) tc)) (hq:w.heap[1]? = some (.cells (ints .u64 Qam) tq)) (h:ChLn g mg L ts pl ms w) (n:Nat) (hc0:chkN ts pl ((n:Nat):Int)=0):Calls Tryd.prog 34 #[.pointer (some ⟨g,0,none⟩),.int .i64 ((n:Nat):Int)] w (QbN w (Qcs w.heap.size ((n:Nat):Int) (keyV (L n)))):=by
  obtain ⟨B,h1,h2⟩:=h.row
  obtain ⟨k1,k2⟩:=Qc0 hc0
  obtain ⟨k3,k4,k5,k6⟩:=Qce k1
  have hhi:=h1.hhi
  have hnx:=h1.hnx
  rcases Nat.lt_or_ge n pl with hn | hn
  · have:=QkH g _ B h1.hnx h1.hB (L pl) pl mg (h.len pl) w h2 ms h.is.ok h.mp tc tq hc hq (h.byt pl) ((n:Nat):Int) (by omega)
    rw [h.is.get hn k6 (by omega)] at this
    exact this
  · have:=QkG g _ B h1.hnx h1.hB (L pl) pl mg (h.len pl) w h2 ms h.is.ok h.mp tc tq hc hq (h.byt pl) n (by omega) (by omega) hn
    rw [h.add,show pl+(n-pl)=n by omega] at this
    exact this
theorem Qnl (hc : w.heap[2]? = some (.cells (ints .u64 QaN) tc)) (hq:w.heap[1]? = some (.cells (ints .u64 Qam) tq)) (h:ChLn g mg L ts pl ms w) (n:Nat) (hc0:chkN ts pl ((n:Nat):Int)=0) (hcg:2≠g) (hsg:1≠g):Calls Tryd.prog 33 #[.pointer (some ⟨g,0,none⟩),.int .i64 ((n:Nat):Int)] w (fun e W=>∃ v,e=.returned (.tuple #[v,.nilIface])∧Qah [g,mg] w W∧ChLn g mg L (ts++[((n:Nat):Int)]) (max pl (n+1)) (Qdd ms (L pl) pl n) W∧Qcs w.heap.size ((n:Nat):Int) (keyV (L n)) v W):=by
  obtain ⟨B,h1,h2⟩:=h.row
  obtain ⟨k1,k2⟩:=Qc0 hc0
  obtain ⟨k3,k4,k5,k6⟩:=Qce k1
  have hhi:=h1.hhi
  have hnx:=h1.hnx
  have hw0:chkW ((pl:Nat):Int) B ((n:Nat):Int)=0:=by rw [QdO h1]; exact k1
  rcases Nat.lt_or_ge n pl with hn | hn
  · have hne:((n:Nat):Int)≠((pl:Nat):Int)-1:=fun e=>by
      rcases QeP ts with q | q
      · omega
      · rw [hhi,←e] at q; exact k6 q
    obtain ⟨j,hj⟩:∃ j:Nat,((pl:Nat):Int)-1-((n:Nat):Int)-1=((j:Nat):Int):=⟨pl-1-n-1,by omega⟩
    refine (Qk6 g _ B h1.hnx h1.hB (L pl) pl mg (h.len pl) w h2 ms h.is.ok h.mp tc tq hc hq (h.byt pl) n (by omega) (by omega) h.is.lt hcg hsg hw0 hn j hj (by omega)).mono ?_
    rintro e W ⟨v,rfl,q1,q2,q3,q4⟩
    have ek:n+1-pl=0:=by omega
    have em:max pl (n+1)=pl:=by omega
    have hI:=h.is.take h.add n _ rfl k6 (Qkn h1)
    rw [h.is.get hn k6 (by omega)] at q4
    rw [ek] at q2
    rw [show ((pl:Nat):Int)-1-64=(((max pl (n+1)):Nat):Int)-1-64 by rw [em]] at q3
    refine ⟨v,rfl,q1,⟨h.len,h.byt,fun k hk=>h.nxt k (by omega),?_,q3,hI⟩,q4⟩
    rw [em]
    exact ⟨_,QlH h1 k1 j hj (by omega),q2⟩
  · obtain ⟨a,ha⟩:∃ a:Nat,((n:Nat):Int)-(((pl:Nat):Int)-1)=((a:Nat):Int):=⟨n+1-pl,by omega⟩
    refine (Qk5 g _ B h1.hnx h1.hB (L pl) pl mg (h.len pl) w h2 ms h.is.ok h.mp tc tq hc hq (h.byt pl) n (by omega) (by omega) h.is.lt hcg hsg hw0 hn a ha (by omega)).mono ?_
    rintro e W ⟨v,rfl,q1,q2,q3,q4⟩
    have em:max pl (n+1)=n+1:=by omega
    have hI:=h.is.take h.add n _ rfl k6 (Qkn h1)
    rw [h.add,show pl+(n-pl)=n by omega] at q4
    rw [h.add,show pl+(n+1-pl)=n+1 by omega] at q2
    have hW:=QlG h1 k1 a ha (by omega)
    rw [show ((n:Nat):Int)+1=((n+1:Nat):Int) by omega] at q2 hW
    rw [show ((n:Nat):Int)+1-1-64=(((max pl (n+1)):Nat):Int)-1-64 by rw [em]; omega] at q3
    refine ⟨v,rfl,q1,⟨h.len,h.byt,fun k hk=>h.nxt k (by omega),?_,q3,hI⟩,q4⟩
    rw [em]
    exact ⟨_,hW,q2⟩
end
theorem ChSt.ln {g mg:Nat} {s0 ts:List Int} {pl:Nat} {ms:List (Int×List Int)} {W:World} (h:ChSt g mg s0 ts pl ms W):ChLn g mg (itV s0) ts pl ms W:=⟨fun k=>Qa5 h.len k,fun k=>Qbu h.byt k,fun k _=>rfl,h.row,h.mp,⟨h.is.all,h.is.each⟩⟩
end Go.Proofs.YtibegnjaphohaaaDoor.Cn
end
section
namespace Go.Proofs.YtibegnjaphohaaaDoor.Cn
open Go Go.RowKit
open Rely Auto Own Sha
section
variable {P : Program} {ρ : Operand → Value} {o : Oper} {w : World}
theorem QhW (m : Operand) (t:TypeId) {kt et:TypeId} {g:Nat} {ms:List (Int×Value)} (ho:o.op=.call { callee:=.builtin .clear,args:=#[m],argTypes:=#[t] }) (hm:ρ m=.map (some g))
    (ht:P.underlying t=some (.map kt et)) (h:MpAt g ms w):∃ W',(execOp ρ o).run P w=.ok (.value (.tuple #[])) W'∧Puts w g W'∧MpAt g [] W':=by
  obtain ⟨es,c,hg,hM⟩:=h
  have hr:(Builtin.clear_ #[t] o.type #[.map (some g)]).run P w=.ok (.tuple #[]) { w with heap:=w.heap.setIfInBounds g (.map #[] c) }:=by
    simp [Builtin.clear_,run_underlying ht,MapKept.run_getObj_map hg,MapKept.run_setObj_map _ hg,Result.andThen]
  have hh:=MapKept.heap_set (o':=.map #[] c) hg
  refine ⟨{ w with heap:=w.heap.setIfInBounds g (.map #[] c) },?_,⟨rfl,rfl,rfl,by simp,fun i hi=>hh.2 i hi⟩,#[],c,hh.1,QiX c⟩
  unfold execOp
  simp only [ho,resolve,invoke,builtin,Sem.run_bind,Sem.run_pure,Result.andThen_ok,List.map_toArray,List.map_cons,List.map_nil,hm,hr]
end
def jmpT (ts : List Int) (a:Nat):Nat→List Int
  | 0=>ts
  | k+1=>if chkT (jmpT ts a k) (((a+k:Nat):Nat):Int)=0 then jmpT ts a k++[((a+k:Nat):Int)] else jmpT ts a k
theorem Qji {ts : List Int} {a:Nat}:∀ k,hiT (jmpT ts a k)≤max (hiT ts) (((a+k:Nat):Int)-1)
  | 0=>by rw [jmpT]; omega
  | k+1=>by
    have h:=Qji (ts:=ts) (a:=a) k
    rw [jmpT]
    split
    · rw [Qdt]; split <;> omega
    · omega
theorem QgS {ts : List Int} {a b:Nat} (hb:b≤a+65) (hm:b≤4294967295) (hh:hiT ts≤((b:Nat):Int)-1):∀ k,a+k≤b→∀ n,a≤n→n<a+k→((n:Nat):Int)∈jmpT ts a k
  | 0,_,n,h1,h2=>by omega
  | k+1,hk,n,h1,h2=>by
    have hi:=Qji (ts:=ts) (a:=a) k
    rw [jmpT]
    rcases Nat.lt_or_ge n (a+k) with h | h
    · have:=QgS hb hm hh k (by omega) n h1 h
      split
      · exact List.mem_append.2 (.inl this)
      · exact this
    · obtain rfl:n=a+k:=by omega
      split
      · exact List.mem_append.2 (.inr (List.mem_singleton.2 rfl))
      · rename_i hc
        unfold chkT at hc
        rw [if_neg (by omega),if_neg (by omega)] at hc
        split at hc
        · assumption
        · exact absurd rfl hc
end Go.Proofs.YtibegnjaphohaaaDoor.Cn
end
section
namespace Go.Proofs.YtibegnjaphohaaaDoor.Cn
open Go Go.RowKit
open Rely Auto Own Sha
open Go.Proofs.YtibegnjaphohaaaDoor
theorem QnH (g : Nat) (nx:Int) (B:Nat) (n:Int) (hnx:0≤nx∧nx≤4294967295) (hB:B<18446744073709551616) (sec:List Int) (pl mg:Nat) (hsec:sec.length=32) (w:World) (hg:w.heap[g]? = some (.cells (cat [#[.int .i64 nx],#[.int .u64 ((B:Nat):Int)],ints .u8 (sec),#[.int .i64 ((pl:Nat):Int)],#[.map (some mg)]]) 84)) (hc:chkW nx B n≠0):Calls Tryd.prog 44 #[.pointer (some ⟨g,0,none⟩),.int .i64 n] w (Ret w (.iface 47 (.int .i64 (chkW nx B n)))):=by
  refine enter 13 [(0,.pointer (some ⟨g,0,none⟩)),(1,.int .i64 n)] Tryd.func44 rfl rfl kj rfl <| sgB kj <| wp_seq_k fun K3 hK3=>sgB kj <| cond_false kj <| wp_skip <| hK3 _ _ <| sgC fun K5 hK5=>sg 4 kj <| Qar (.iface 47 (.int .i64 (chkW nx B n))) 54 #[.pointer (some ⟨g,0,none⟩),.int .i64 n] 12 rfl kj kj (Ql0 g nx B n hnx hB sec pl mg hsec _ hg hc) fun W1 e1=>?_
  refine sg 1 kj <| sgN hK5 <| wp_ret ?_
  repeat (first | with_reducible refine goR1 ?_ | with_reducible refine goR2 ?_)
  exact (show bodyPost _ _ _ .ret _ _ from ret1 (.iface 47 (.int .i64 (chkW nx B n))) rfl (Qa2 kj) ⟨rfl,(Ext.tr (Rely.Ext.refl w) e1)⟩)
theorem Qn2 (g : Nat) {nx:Int} {B:Nat} {ts:List Int} (h:WInv nx B ts) (n:Int):∃ (nx2:Int) (B2:Nat),WInv nx2 B2 (if chkT ts n=0 then ts++[n] else ts)∧∀ (sec:List Int) (pl mg:Nat) (hsec:sec.length=32) (w:World),w.heap[g]? = some (.cells (cat [#[.int .i64 nx],#[.int .u64 ((B:Nat):Int)],ints .u8 (sec),#[.int .i64 ((pl:Nat):Int)],#[.map (some mg)]]) 84) →
    Calls Tryd.prog 44 #[.pointer (some ⟨g,0,none⟩),.int .i64 n] w (fun e w'=>(∃ v,e=.returned v)∧ExtB g w w'∧w'.heap[g]? = some (.cells (cat [#[.int .i64 nx2],#[.int .u64 ((B2:Nat):Int)],ints .u8 (sec),#[.int .i64 ((pl:Nat):Int)],#[.map (some mg)]]) 84)):=by
  by_cases k1:chkT ts n=0
  · rw [if_pos k1]
    obtain ⟨k3,k4,k5,k6⟩:=Qce k1
    have hw0:chkW nx B n=0:=by rw [QdO h]; exact k1
    have hhi:=h.hhi
    rcases Int.lt_or_le n nx with hn | hn
    · have hne:n≠nx-1:=fun e=>by
        rcases QeP ts with q | q
        · omega
        · rw [hhi,←e] at q; exact k6 q
      obtain ⟨j,hj⟩:∃ j:Nat,nx-1-n-1=((j:Nat):Int):=⟨(nx-1-n-1).toNat,by omega⟩
      refine ⟨nx,B|||2^j,QlH h k1 j hj (by omega),fun sec pl mg hsec w hg=>?_⟩
      exact (Qnb g nx B n h.hnx h.hB sec pl mg hsec w hg hw0 j hj (by omega)).mono fun e W q=>⟨⟨_,q.1⟩,q.2⟩
    · obtain ⟨a,ha⟩:∃ a:Nat,n-(nx-1)=((a:Nat):Int):=⟨(n-(nx-1)).toNat,by omega⟩
      refine ⟨n+1,_,QlG h k1 a ha (by omega),fun sec pl mg hsec w hg=>?_⟩
      exact (Qna g nx B n h.hnx h.hB sec pl mg hsec w hg hw0 ⟨k3,k4⟩ a ha (by omega)).mono fun e W q=>⟨⟨_,q.1⟩,q.2⟩
  · rw [if_neg k1]
    refine ⟨nx,B,h,fun sec pl mg hsec w hg=>?_⟩
    exact (QnH g nx B n h.hnx h.hB sec pl mg hsec w hg (by rw [QdO h]; exact k1)).mono fun e W q=>⟨⟨_,q.1⟩,⟨q.2.os,q.2.tape,q.2.output,q.2.size,fun k hk _=>q.2.block k hk⟩,Qac hg q.2⟩
end Go.Proofs.YtibegnjaphohaaaDoor.Cn
end
section
namespace Go.Proofs.YtibegnjaphohaaaDoor.Cn
open Go Go.RowKit
open Rely Auto Own Sha
open Go.Proofs.YtibegnjaphohaaaDoor
section
variable {ds : List Deferred} {P : Program} {ops : Array Oper} {Q : Exit → Act → World → Prop} {rest : List Oper} {o : Oper} {N : Nat} {L : Env} {w : World}
theorem QhS (m : Operand) (t:TypeId) {kt et:TypeId} {g:Nat} {ms:List (Int×Value)} (ho:o.op=.call { callee:=.builtin .clear,args:=#[m],argTypes:=#[t] }) (hm:Rely.look (envN N L) m=.map (some g)) (ht:P.underlying t=some (.map kt et)) (h:MpAt g ms w) (hd:o.dst=none) (hg:Qbr ops o N L=some true)
    (kk:∀ W',Puts w g W'→MpAt g [] W'→WL P ops Q rest (Qa0 ds N L) W'):WL P ops Q (o::rest) (Qa0 ds N L) w:=by
  obtain ⟨W',h1,h2,h3⟩:=QhW (ρ:=Rely.look (envN N L)) (o:=o) m t ho hm ht h
  exact QdV _ _ hd hg h1 (kk W' h2 h3)
end
theorem QmH (g : Nat) (nx:Int) (B:Nat) (hnx:0≤nx∧nx≤4294967295) (hB:B<18446744073709551616) (sec:List Int) (pl mg:Nat) (hsec:sec.length=32) (w:World) (hg:w.heap[g]? = some (.cells (cat [#[.int .i64 nx],#[.int .u64 ((B:Nat):Int)],ints .u8 (sec),#[.int .i64 ((pl:Nat):Int)],#[.map (some mg)]]) 84)) (ts:List Int) (hW:WInv nx B ts) (hnp:nx=((pl:Nat):Int)) (ms:List (Int×Value)) (hmp:MpAt mg ms w) (m:Nat) (h0:pl≤m) (h1:m≤4294967295):Calls Tryd.prog 35 #[.pointer (some ⟨g,0,none⟩),.int .i64 ((m:Nat):Int)] w (fun e W=>e=.returned (.bool true)∧Qah [g,mg] w W∧∃ (k:Nat) (nx2:Int) (B2:Nat),m-65+k=m∧WInv nx2 B2 (jmpT ts (m-65) k)∧W.heap[g]? = some (.cells (cat [#[.int .i64 nx2],#[.int .u64 ((B2:Nat):Int)],ints .u8 (sec),#[.int .i64 ((m:Nat):Int)],#[.map (some mg)]]) 84)∧MpAt mg [] W):=by
 have hgm:g≠mg:=MpAt.ne hmp hg
 have hl_g:=Qay hg
 have hl_mg:=hmp.lt
 obtain ⟨es3,cl3,hes3,hM3⟩:=id hmp
 refine enter 38 [(0,.pointer (some ⟨g,0,none⟩)),(1,.int .i64 ((m:Nat):Int))] Tryd.func35 rfl rfl kj rfl <| sgB kj <| wp_seq_k fun K5 hK5=>sgC fun K6 hK6=>sg 4 kj <| Qab (.int .i64 ((pl:Nat):Int)) 10 rfl kj (Qag 3 _ g 34 84 _ (.int .i64 ((pl:Nat):Int)) _ hg rfl kj (Qaw [#[.int .i64 nx],#[.int .u64 ((B:Nat):Int)],ints .u8 (sec)] [#[.int .i64 ((pl:Nat):Int)]] [#[.map (some mg)]] 34 (by rw [Qaa,Qaa,Qaa]; simp only [qS,cat,((Qad _ _).trans hsec)]; rfl) 0 _ rfl) kj) ?_
 refine Qab (.bool false) 11 rfl kj (Qai (u:=.bool (decide (((m:Nat):Int)<((pl:Nat):Int)))) kj (congrArg Value.bool (decide_eq_false (by omega)))) <| sg 2 kj <| Qab (.bool false) 14 rfl kj (Qai (u:=.bool (decide (((m:Nat):Int)>4294967295))) kj (congrArg Value.bool (decide_eq_false (by omega)))) <| sg 1 kj <| sgN hK6 <| cond_false kj <| wp_skip <| hK5 _ _ <| sgC fun K7 hK7=>sg 3 kj ?_
 refine Qab (.map (some mg)) 19 rfl kj (Qag 82 _ g 35 84 _ (.map (some mg)) _ hg rfl kj (Qaw [#[.int .i64 nx],#[.int .u64 ((B:Nat):Int)],ints .u8 (sec),#[.int .i64 ((pl:Nat):Int)]] [#[.map (some mg)]] [] 35 (by rw [Qaa,Qaa,Qaa,Qaa]; simp only [qS,cat,((Qad _ _).trans hsec)]; rfl) 0 _ rfl) kj) ?_
 refine QhS (.tmp 19) 82 (kt:=3) (et:=93) rfl kj kj ⟨_,_,hes3,hM3⟩ rfl kj fun W1 p1 hmp=>?_
 have x1:Qah [g,mg] w W1:=Qah.puts (Qah.refl [g,mg] w) p1 (.inl (by simp))
 obtain ⟨es8,cl8,hes8,hM8⟩:=id hmp
 refine sgN hK7 <| wp_seq_k fun K9 hK9=>sgC fun K10 hK10=>sg 1 kj <| Qab (.int .i64 (((m:Nat):Int)-1)) 21 rfl kj (Qai (u:=.int .i64 (IntKind.i64.wrap (((m:Nat):Int)-1))) kj (congrArg (Value.int .i64) (Qbp _ (by omega)))) <| Qab (.int .i64 (((m:Nat):Int)-1-64)) 22 rfl kj (Qai (u:=.int .i64 (IntKind.i64.wrap ((((m:Nat):Int)-1)-64))) kj (congrArg (Value.int .i64) (Qbp _ (by omega)))) <| Qab (.int .i64 ((m-65:Nat):Int)) 23 rfl kj (QjC #[3,3] _ (.tmp 22) .i64 0 (((m:Nat):Int)-1-64) _ rfl kj kj (by split <;> omega)) ?_
 refine sg 1 kj <| sgN hK10 <| wp_block <| QaC (fun (s1:Nat×Int×Nat)=>[(0,.pointer (some ⟨g,0,none⟩)),(1,.int .i64 ((m:Nat):Int)),(5,.int .i64 ((m-65+s1.1:Nat):Int))]) (fun (s1:Nat×Int×Nat) W=>(m-65+s1.1≤m)∧(WInv s1.2.1 s1.2.2 (jmpT ts (m-65) s1.1))∧(W.heap[g]? = some (.cells (cat [#[.int .i64 s1.2.1],#[.int .u64 ((s1.2.2:Nat):Int)],ints .u8 (sec),#[.int .i64 ((pl:Nat):Int)],#[.map (some mg)]]) 84))∧(Qah [g] W1 W)∧(Qah [g,mg] w W)) (fun (s1:Nat×Int×Nat)=>m-(m-65+s1.1)) (0,nx,B) ⟨kj,kj,kj,trivial⟩ ⟨(by omega),hW,(Puts.row p1 hg hgm),(Qah.refl [g] W1),x1⟩ fun s1 X1 V1 hI1=>?_
 obtain ⟨k,nx2,B2⟩:=s1
 obtain ⟨hk,hWk,q1_1,kk1,xx1⟩:=hI1
 replace hk:m-65+k≤m:=hk
 replace hWk:WInv nx2 B2 (jmpT ts (m-65) k):=hWk
 replace q1_1:V1.heap[g]? = some (.cells (cat [#[.int .i64 nx2],#[.int .u64 ((B2:Nat):Int)],ints .u8 (sec),#[.int .i64 ((pl:Nat):Int)],#[.map (some mg)]]) 84):=q1_1
 replace kk1:Qah [g] W1 V1:=kk1
 replace xx1:Qah [g,mg] w V1:=xx1
 have q2:=kk1
 refine wp_seq_k fun K11 hK11=>sgB kj <| Qa3 (t:=decide (((m-65+k:Nat):Int)<((m:Nat):Int))) kj (fun c13=>?_) (fun c13=>?_)
 ·skip
  have hlt:m-65+k<m:=by have:=of_decide_eq_true c13; omega
  refine wp_skip <| hK11 _ _ <| wp_seq_k fun K14 hK14=>wp_block <| Qaf <| sg 4 kj ?_
  obtain ⟨nx3,B3,hW3,hmk⟩:=Qn2 g hWk ((m-65+k:Nat):Int)
  refine Qa6 (fun v W'=>ExtB g V1 W'∧W'.heap[g]? = some (.cells (cat [#[.int .i64 nx3],#[.int .u64 ((B3:Nat):Int)],ints .u8 (sec),#[.int .i64 ((pl:Nat):Int)],#[.map (some mg)]]) 84)) 44 #[.pointer (some ⟨g,0,none⟩),.int .i64 ((m-65+k:Nat):Int)] 33 rfl kj kj ((hmk sec pl mg hsec _ q1_1).mono fun e w' ⟨⟨v,h1⟩,h2,h3⟩=>⟨v,h1,h2,h3⟩) fun vv15 W3 h15=>?_
  obtain ⟨q3,r1_3⟩:=h15
  have x3:Qah [g,mg] w W3:=Qah.but xx1 q3 (.inl (by simp))
  refine Qak <| hK14 _ _ <| Qaf <| sg 1 kj <| Qab (.int .i64 (((m-65+(k+1):Nat):Int))) 28 rfl kj (Qai (u:=.int .i64 (IntKind.i64.wrap (((m-65+k:Nat):Int)+1))) kj (congrArg (Value.int .i64) ((Qbp _ (by omega)).trans (by omega)))) <| sg 1 kj <| Qak ?_
  repeat (first | with_reducible refine goX1 ?_ | with_reducible refine goX2 ?_ | with_reducible refine goX3 ?_)
  exact Qa4 ((k+1),nx3,B3) ⟨kj,kj,kj,trivial⟩ ⟨(by omega),hW3,r1_3,(Qah.but q2 q3 (.inl (by simp))),x3⟩ (by show m-(m-65+(k+1))<m-(m-65+k); omega)
 ·skip
  have heq:m-65+k=m∨m-65+k>m:=by have:=of_decide_eq_false c13; omega
  refine wp_exit <| hK9 _ _ <| sgC fun K16 hK16=>sg 4 kj <| Qaj g _ (cat [#[.int .i64 nx2],#[.int .u64 ((B2:Nat):Int)],ints .u8 (sec),#[.int .i64 ((m:Nat):Int)],#[.map (some mg)]]) 84 q1_1 rfl kj (Qbf 3 _ _ g 34 84 [#[.int .i64 nx2],#[.int .u64 ((B2:Nat):Int)],ints .u8 (sec)] [#[.map (some mg)]] _ (.int .i64 ((m:Nat):Int)) q1_1 rfl kj kj kj (by rw [Qaa,Qaa,Qaa]; simp only [qS,cat,((Qad _ _).trans hsec)]; rfl) rfl rfl) fun W3 p3 r1_3=>?_
  have x3:Qah [g,mg] w W3:=Qah.puts xx1 p3 (.inl (by simp))
  refine sgN hK16 <| sgB kj <| wp_ret ?_
  repeat (first | with_reducible refine goR1 ?_ | with_reducible refine goR2 ?_)
  exact (show bodyPost _ _ _ .ret _ _ from ret1 (.bool true) rfl (Qa2 kj) ⟨rfl,x3,k,nx2,B2,by omega,hWk,r1_3,⟨_,_,(Puts.row p3 (Qah.row q2 hes8 (Qax (Ne.symm hgm) QaJ)) (Ne.symm hgm)),hM8⟩⟩)
theorem QmJ (g : Nat) (nx:Int) (B:Nat) (hnx:0≤nx∧nx≤4294967295) (hB:B<18446744073709551616) (sec:List Int) (pl mg:Nat) (hsec:sec.length=32) (w:World) (hg:w.heap[g]? = some (.cells (cat [#[.int .i64 nx],#[.int .u64 ((B:Nat):Int)],ints .u8 (sec),#[.int .i64 ((pl:Nat):Int)],#[.map (some mg)]]) 84)) (m:Int) (h:m<((pl:Nat):Int)):Calls Tryd.prog 35 #[.pointer (some ⟨g,0,none⟩),.int .i64 m] w (Ret w (.bool false)):=by
  refine enter 38 [(0,.pointer (some ⟨g,0,none⟩)),(1,.int .i64 m)] Tryd.func35 rfl rfl kj rfl <| sgB kj <| wp_seq_k fun K3 hK3=>sgC fun K4 hK4=>sg 4 kj <| Qab (.int .i64 ((pl:Nat):Int)) 10 rfl kj (Qag 3 _ g 34 84 _ (.int .i64 ((pl:Nat):Int)) _ hg rfl kj (Qaw [#[.int .i64 nx],#[.int .u64 ((B:Nat):Int)],ints .u8 (sec)] [#[.int .i64 ((pl:Nat):Int)]] [#[.map (some mg)]] 34 (by rw [Qaa,Qaa,Qaa]; simp only [qS,cat,((Qad _ _).trans hsec)]; rfl) 0 _ rfl) kj) ?_
  refine Qab (.bool true) 11 rfl kj (Qai (u:=.bool (decide (m<((pl:Nat):Int)))) kj (congrArg Value.bool (decide_eq_true (by omega)))) <| sg 4 kj <| sgN hK4 <| cond_true kj <| sgB kj <| wp_ret ?_
  repeat (first | with_reducible refine goR1 ?_ | with_reducible refine goR2 ?_)
  exact (show bodyPost _ _ _ .ret _ _ from ret1 (.bool false) rfl (Qa2 kj) ⟨rfl,(Rely.Ext.refl w)⟩)
theorem QmI (g : Nat) (nx:Int) (B:Nat) (hnx:0≤nx∧nx≤4294967295) (hB:B<18446744073709551616) (sec:List Int) (pl mg:Nat) (hsec:sec.length=32) (w:World) (hg:w.heap[g]? = some (.cells (cat [#[.int .i64 nx],#[.int .u64 ((B:Nat):Int)],ints .u8 (sec),#[.int .i64 ((pl:Nat):Int)],#[.map (some mg)]]) 84)) (m:Int) (h0:((pl:Nat):Int)≤m) (h:4294967295<m):Calls Tryd.prog 35 #[.pointer (some ⟨g,0,none⟩),.int .i64 m] w (Ret w (.bool false)):=by
  refine enter 38 [(0,.pointer (some ⟨g,0,none⟩)),(1,.int .i64 m)] Tryd.func35 rfl rfl kj rfl <| sgB kj <| wp_seq_k fun K3 hK3=>sgC fun K4 hK4=>sg 4 kj <| Qab (.int .i64 ((pl:Nat):Int)) 10 rfl kj (Qag 3 _ g 34 84 _ (.int .i64 ((pl:Nat):Int)) _ hg rfl kj (Qaw [#[.int .i64 nx],#[.int .u64 ((B:Nat):Int)],ints .u8 (sec)] [#[.int .i64 ((pl:Nat):Int)]] [#[.map (some mg)]] 34 (by rw [Qaa,Qaa,Qaa]; simp only [qS,cat,((Qad _ _).trans hsec)]; rfl) 0 _ rfl) kj) ?_
  refine Qab (.bool false) 11 rfl kj (Qai (u:=.bool (decide (m<((pl:Nat):Int)))) kj (congrArg Value.bool (decide_eq_false (by omega)))) <| sg 2 kj <| Qab (.bool true) 14 rfl kj (Qai (u:=.bool (decide (m>4294967295))) kj (congrArg Value.bool (decide_eq_true (by omega)))) <| sg 1 kj <| sgN hK4 <| cond_true kj <| sgB kj <| wp_ret ?_
  repeat (first | with_reducible refine goR1 ?_ | with_reducible refine goR2 ?_)
  exact (show bodyPost _ _ _ .ret _ _ from ret1 (.bool false) rfl (Qa2 kj) ⟨rfl,(Rely.Ext.refl w)⟩)
end Go.Proofs.YtibegnjaphohaaaDoor.Cn
end
section
namespace Go.Proofs.YtibegnjaphohaaaDoor.Cn
open Go Go.RowKit
open Rely Auto Own Sha
def lkJ (L : Nat→List Int) (pl m:Nat):Nat→List Int:=fun k=>itV (L pl) (k-m)
theorem Qn9 {g mg:Nat} {L:Nat→List Int} {ts:List Int} {pl:Nat} {ms:List (Int×List Int)} {w:World} (h:ChLn g mg L ts pl ms w) (m:Nat) (h0:pl≤m) (h1:m≤4294967295) :
    Calls Tryd.prog 35 #[.pointer (some ⟨g,0,none⟩),.int .i64 ((m:Nat):Int)] w (fun e W=>e=.returned (.bool true)∧Qah [g,mg] w W∧∃ k,m-65+k=m∧ChLn g mg (lkJ L pl m) (jmpT ts (m-65) k) m [] W):=by
  obtain ⟨B,hW,hr⟩:=h.row
  refine (QmH g _ B hW.hnx hW.hB (L pl) pl mg (h.len pl) w hr ts hW rfl _ h.mp m h0 h1).mono ?_
  rintro e W ⟨he,hK,k,nx2,B2,hk,hW2,hr2,hm2⟩
  have hhi:=hW.hhi
  have hhi2:=hW2.hhi
  have hjh:=Qji (ts:=ts) (a:=m-65) k
  have hmem:∀ n,m-65≤n→n<m→((n:Nat):Int)∈jmpT ts (m-65) k:=fun n a1 a2=>QgS (b:=m) (by omega) h1 (by omega) k (by omega) n a1 (by omega)
  have hnx:nx2=((m:Nat):Int):=by
    rcases Nat.eq_zero_or_pos m with hz | hz
    · have:=QeP (jmpT ts (m-65) k)
      have hlo:-1≤hiT (jmpT ts (m-65) k):=by have:=hW2.hnx; omega
      omega
    · have:=Qfq _ _ (hmem (m-1) (by omega) (by omega))
      omega
  subst hnx
  have hl0:lkJ L pl m m=L pl:=by unfold lkJ; rw [Nat.sub_self]; rfl
  refine ⟨he,hK,k,hk,⟨fun j=>Qa5 (h.len pl) _,fun j=>Qbu (h.byt pl) _,fun j hj=>?_,⟨B2,hW2,by rw [hl0]; exact hr2⟩,hm2,⟨fun p hp=>absurd hp List.not_mem_nil,fun j a1 a2 a3=>absurd (hmem j (by omega) a1) a2⟩⟩⟩
  show itV (L pl) (j+1-m)=nxtV (itV (L pl) (j-m))
  rw [show j+1-m=(j-m)+1 by omega]; rfl
theorem Qkg {g mg:Nat} {L:Nat→List Int} {ts:List Int} {pl:Nat} {ms:List (Int×List Int)} {w:World} (h:ChLn g mg L ts pl ms w) (m:Int) (h0:m<((pl:Nat):Int)∨4294967295<m):Calls Tryd.prog 35 #[.pointer (some ⟨g,0,none⟩),.int .i64 m] w (Ret w (.bool false)):=by
  obtain ⟨B,hW,hr⟩:=h.row
  by_cases h1:m<((pl:Nat):Int)
  · exact QmJ g _ B hW.hnx hW.hB (L pl) pl mg (h.len pl) w hr m h1
  · exact QmI g _ B hW.hnx hW.hB (L pl) pl mg (h.len pl) w hr m (by omega) (by omega)
end Go.Proofs.YtibegnjaphohaaaDoor.Cn
end
section
namespace Go.Proofs.YtibegnjaphohaaaDoor.Cn
open Go Go.RowKit
open Rely Auto Own Sha
open Go.Proofs.YtibegnjaphohaaaDoor
theorem Qlk (gc gl len cap:Nat) (lp:Array Value) (w:World) (hgc:w.heap[gc]? = some (.cells #[.slice (some ⟨gl,0,none⟩) len cap] 70)) (hgl:w.heap[gl]? = some (.cells lp 75)) (g i:Nat) (hi:i<len) (hli:lp[i]? = some (.pointer (some ⟨g,0,none⟩))) {mg pl:Nat} {L:Nat→List Int} {ts:List Int} {ms:List (Int×List Int)} (hch:ChLn g mg L ts pl ms w):Calls Tryd.prog 16 #[.pointer (some ⟨gc,0,none⟩),.int .i64 ((i:Nat):Int)] w (Ret w (.int .i64 ((pl:Nat):Int))):=by
  obtain ⟨B,hW,hrg⟩:=hch.row
  refine enter 15 [(0,.pointer (some ⟨gc,0,none⟩)),(1,.int .i64 ((i:Nat):Int))] Tryd.func16 rfl rfl kj rfl <| sgB kj <| sgC fun K5 hK5=>sg 2 kj <| Qar (.pointer (some ⟨g,0,none⟩)) 31 #[.pointer (some ⟨gc,0,none⟩),.int .i64 ((i:Nat):Int)] 8 rfl kj kj (at_I gc gl len cap lp _ hgc hgl g i hi hli) fun W1 e1=>sg 1 kj <| sgN hK5 <| wp_seq_k fun K6 hK6=>sgB kj <| cond_false kj ?_
  refine wp_skip <| hK6 _ _ <| sgC fun K8 hK8=>sg 3 kj <| Qab (.int .i64 ((pl:Nat):Int)) 14 rfl kj (Qag 3 _ g 34 84 _ (.int .i64 ((pl:Nat):Int)) _ (Qac hrg e1) rfl kj (Qaw [#[.int .i64 ((pl:Nat):Int)],#[.int .u64 ((B:Nat):Int)],ints .u8 (L pl)] [#[.int .i64 ((pl:Nat):Int)]] [#[.map (some mg)]] 34 (by rw [Qaa,Qaa,Qaa]; simp only [qS,cat,((Qad _ _).trans (hch.len pl))]; rfl) 0 _ rfl) kj) ?_
  refine sg 1 kj <| sgN hK8 <| wp_ret ?_
  repeat (first | with_reducible refine goR1 ?_ | with_reducible refine goR2 ?_)
  exact (show bodyPost _ _ _ .ret _ _ from ret1 (.int .i64 ((pl:Nat):Int)) rfl (Qa2 kj) ⟨rfl,(Ext.tr (Rely.Ext.refl w) e1)⟩)
theorem QkM (gc gl len cap:Nat) (lp:Array Value) (w:World) (hgc:w.heap[gc]? = some (.cells #[.slice (some ⟨gl,0,none⟩) len cap] 70)) (hgl:w.heap[gl]? = some (.cells lp 75)) (g i:Nat) (hi:i<len) (hli:lp[i]? = some (.pointer (some ⟨g,0,none⟩))) {mg pl:Nat} {L:Nat→List Int} {ts:List Int} {ms:List (Int×List Int)} (hch:ChLn g mg L ts pl ms w):Calls Tryd.prog 17 #[.pointer (some ⟨gc,0,none⟩),.int .i64 ((i:Nat):Int)] w (Ret w (.int .i64 ((ms.length:Nat):Int))):=by
  obtain ⟨B,hW,hrg⟩:=hch.row
  refine enter 16 [(0,.pointer (some ⟨gc,0,none⟩)),(1,.int .i64 ((i:Nat):Int))] Tryd.func17 rfl rfl kj rfl <| sgB kj <| sgC fun K5 hK5=>sg 2 kj <| Qar (.pointer (some ⟨g,0,none⟩)) 31 #[.pointer (some ⟨gc,0,none⟩),.int .i64 ((i:Nat):Int)] 8 rfl kj kj (at_I gc gl len cap lp _ hgc hgl g i hi hli) fun W1 e1=>?_
  have x1:=Ext.tr (Rely.Ext.refl w) e1
  refine sg 1 kj <| sgN hK5 <| wp_seq_k fun K6 hK6=>sgB kj <| cond_false kj <| wp_skip <| hK6 _ _ <| sgC fun K8 hK8=>sg 3 kj <| Qab (.map (some mg)) 14 rfl kj (Qag 82 _ g 35 84 _ (.map (some mg)) _ (Qac hrg e1) rfl kj (Qaw [#[.int .i64 ((pl:Nat):Int)],#[.int .u64 ((B:Nat):Int)],ints .u8 (L pl),#[.int .i64 ((pl:Nat):Int)]] [#[.map (some mg)]] [] 35 (by rw [Qaa,Qaa,Qaa,Qaa]; simp only [qS,cat,((Qad _ _).trans (hch.len pl))]; rfl) 0 _ rfl) kj) ?_
  refine Qab (.int .i64 ((ms.length:Nat):Int)) 15 rfl kj ((Qhi (ms:=ms.map mpv) _ 82 (kt:=3) (et:=93) rfl kj kj (MpAt.ext hch.mp x1)).trans (by rw [List.length_map])) <| sg 1 kj <| sgN hK8 <| wp_ret ?_
  repeat (first | with_reducible refine goR1 ?_ | with_reducible refine goR2 ?_)
  exact (show bodyPost _ _ _ .ret _ _ from ret1 (.int .i64 ((ms.length:Nat):Int)) rfl (Qa2 kj) ⟨rfl,x1⟩)
theorem Ql3 (gc gl len cap:Nat) (lp:Array Value) (w:World) (hgc:w.heap[gc]? = some (.cells #[.slice (some ⟨gl,0,none⟩) len cap] 70)) (hgl:w.heap[gl]? = some (.cells lp 75)) (g i:Nat) (hi:i<len) (hli:lp[i]? = some (.pointer (some ⟨g,0,none⟩))) (tc tq:TypeId) (hc:w.heap[2]? = some (.cells (ints .u64 QaN) tc)) (hq:w.heap[1]? = some (.cells (ints .u64 Qam) tq)) {mg pl:Nat} {L:Nat→List Int} {ts:List Int} {ms:List (Int×List Int)} (hch:ChLn g mg L ts pl ms w) (m:Int) (he:chkN ts pl m≠0):Calls Tryd.prog 14 #[.pointer (some ⟨gc,0,none⟩),.int .i64 ((i:Nat):Int),.int .i64 m] w (Ret w (.tuple #[.agg (cat [#[.int .i64 0],ints .u8 (List.replicate 32 0),#[.slice none 0 0]]),.iface 47 (.int .i64 (chkN ts pl m))])):=by
  refine enter 27 [(0,.pointer (some ⟨gc,0,none⟩)),(1,.int .i64 ((i:Nat):Int)),(2,.int .i64 m)] Tryd.func14 rfl rfl kj rfl <| sgC fun K5 hK5=>Qap (cat [#[.int .i64 0],ints .u8 (List.replicate 32 0),#[.slice none 0 0]]) 40 6 rfl kj kj fun g6 W1 l6 e1 r6_1=>sg 1 kj <| sgN hK5 <| sgC fun K7 hK7=>sg 2 kj <| Qar (.pointer (some ⟨g,0,none⟩)) 31 #[.pointer (some ⟨gc,0,none⟩),.int .i64 ((i:Nat):Int)] 12 rfl kj kj (at_I gc gl len cap lp _ (Qac hgc e1) (Qac hgl e1) g i hi hli) fun W2 e2=>?_
  have x2:=Ext.tr (Ext.tr (Rely.Ext.refl w) e1) e2
  refine sg 1 kj <| sgN hK7 <| wp_seq_k fun K8 hK8=>sgB kj <| cond_false kj <| wp_skip <| hK8 _ _ <| wp_seq_k fun K10 hK10=>sgC fun K11 hK11=>sg 2 kj ?_
  refine Qar (.iface 47 (.int .i64 (chkN ts pl m))) 32 #[.pointer (some ⟨g,0,none⟩),.int .i64 m] 19 rfl kj kj (Qcj he▸QhC (hch.ext x2) m) fun W3 e3=>sg 1 kj <| sgN hK11 <| sgB kj <| cond_true kj <| sgC fun K13 hK13=>sg 2 kj ?_
  have r6_3:=(Qac (Qac r6_1 e2) e3)
  refine Qaj g6 _ (cat [#[.int .i64 0],ints .u8 (List.replicate 32 0),#[.slice none 0 0]]) 40 r6_3 rfl kj (Qal 40 _ _ g6 40 _ _ r6_3 rfl kj kj (isz (n:=34) kj (by rw [Qaa,Qaa,Qaa]; simp only [qS,cat,((Qad _ _).trans (List.length_replicate (n:=32)))]; rfl)) (eqsz (n:=34) (by rw [Qaa,Qaa,Qaa]; simp only [qS,cat,((Qad _ _).trans (List.length_replicate (n:=32)))]; rfl) (by rw [Qaa,Qaa,Qaa]; simp only [qS,cat,((Qad _ _).trans (List.length_replicate (n:=32)))]; rfl)) (QaD _ (by intro a ha; simp only [List.mem_cons,List.not_mem_nil,or_false] at ha; rcases ha with rfl | rfl | rfl; exact (Qan _ rfl); exact (Qau _ _); exact (Qan _ rfl)))) fun W4 p4 r6_4=>?_
  refine sg 1 kj <| sgN hK13 <| wp_ret ?_
  repeat (first | with_reducible refine goR1 ?_ | with_reducible refine goR2 ?_)
  exact (show bodyPost _ _ _ .ret _ _ from ret2 (.agg (cat [#[.int .i64 0],ints .u8 (List.replicate 32 0),#[.slice none 0 0]])) (.iface 47 (.int .i64 (chkN ts pl m))) rfl (QaE g6 40 _ r6_4 kj kj (isz (n:=34) kj (by rw [Qaa,Qaa,Qaa]; simp only [qS,cat,((Qad _ _).trans (List.length_replicate (n:=32)))]; rfl))) (Qa2 kj) ⟨rfl,(Puts.ext p4 (Ext.tr x2 e3) (qT (Rely.Ext.refl w).size l6))⟩)
theorem Qm9 (gc gl len cap:Nat) (lp:Array Value) (w:World) (hgc:w.heap[gc]? = some (.cells #[.slice (some ⟨gl,0,none⟩) len cap] 70)) (hgl:w.heap[gl]? = some (.cells lp 75)) (g i:Nat) (hi:i<len) (hli:lp[i]? = some (.pointer (some ⟨g,0,none⟩))) (tc tq:TypeId) (hc:w.heap[2]? = some (.cells (ints .u64 QaN) tc)) (hq:w.heap[1]? = some (.cells (ints .u64 Qam) tq)) {mg pl:Nat} {L:Nat→List Int} {ts:List Int} {ms:List (Int×List Int)} (hch:ChLn g mg L ts pl ms w) (m:Nat) (he:chkN ts pl ((m:Nat):Int)=0):Calls Tryd.prog 14 #[.pointer (some ⟨gc,0,none⟩),.int .i64 ((i:Nat):Int),.int .i64 ((m:Nat):Int)] w (QbN w (fun v W=>∃ u,v=.tuple #[u,.nilIface]∧Qcs w.heap.size ((m:Nat):Int) (keyV (L m)) u W)):=by
  refine enter 27 [(0,.pointer (some ⟨gc,0,none⟩)),(1,.int .i64 ((i:Nat):Int)),(2,.int .i64 ((m:Nat):Int))] Tryd.func14 rfl rfl kj rfl <| sgC fun K5 hK5=>Qap (cat [#[.int .i64 0],ints .u8 (List.replicate 32 0),#[.slice none 0 0]]) 40 6 rfl kj kj fun g6 W1 l6 e1 r6_1=>sg 1 kj <| sgN hK5 <| sgC fun K7 hK7=>sg 2 kj <| Qar (.pointer (some ⟨g,0,none⟩)) 31 #[.pointer (some ⟨gc,0,none⟩),.int .i64 ((i:Nat):Int)] 12 rfl kj kj (at_I gc gl len cap lp _ (Qac hgc e1) (Qac hgl e1) g i hi hli) fun W2 e2=>?_
  have x2:=Ext.tr (Ext.tr (Rely.Ext.refl w) e1) e2
  refine sg 1 kj <| sgN hK7 <| wp_seq_k fun K8 hK8=>sgB kj <| cond_false kj <| wp_skip <| hK8 _ _ <| wp_seq_k fun K10 hK10=>sgC fun K11 hK11=>sg 2 kj ?_
  refine Qar (.nilIface) 32 #[.pointer (some ⟨g,0,none⟩),.int .i64 ((m:Nat):Int)] 19 rfl kj kj (Qb9 he▸QhC (hch.ext x2) ((m:Nat):Int)) fun W3 e3=>?_
  have x3:=Ext.tr x2 e3
  refine sg 1 kj <| sgN hK11 <| sgB kj <| cond_false kj <| wp_skip <| hK10 _ _ <| sgC fun K13 hK13=>sg 2 kj <| Qa6 (fun v W'=>(Qcs W3.heap.size ((m:Nat):Int) (keyV (L m))) v W'∧Ext W3 W') 34 #[.pointer (some ⟨g,0,none⟩),.int .i64 ((m:Nat):Int)] 26 rfl kj kj ((Qn3 tc tq (Qac (Qac (Qac hc e1) e2) e3) (Qac (Qac (Qac hq e1) e2) e3) (hch.ext x3) m he).mono (by rintro e w' ⟨v,rfl,e1,hv⟩; exact ⟨v,rfl,hv,e1⟩)) fun vv14 W4 hh14=>?_
  obtain ⟨hv14,e4⟩:=hh14
  obtain ⟨u15,rfl,hu15⟩:=hv14
  obtain ⟨a15_,c15_,rfl,-⟩:=id (OwnN.rd hu15)
  have r6_3:=(Qac (Qac r6_1 e2) e3)
  have r6_4:=(Qac r6_3 e4)
  refine Qaj g6 _ (cat [#[.int .i64 ((m:Nat):Int)],ints .u8 ((keyV (L m)).take 32),#[.slice a15_ (((keyV (L m)).drop 32).length) c15_]]) 40 r6_4 rfl kj (Qal 40 _ _ g6 40 _ _ r6_4 rfl kj kj (isz (n:=34) kj (by rw [Qaa,Qaa,Qaa]; simp only [qS,cat,((Qad _ _).trans (QaP (QaB _)))]; rfl)) (eqsz (n:=34) (by rw [Qaa,Qaa,Qaa]; simp only [qS,cat,((Qad _ _).trans (List.length_replicate (n:=32)))]; rfl) (by rw [Qaa,Qaa,Qaa]; simp only [qS,cat,((Qad _ _).trans (QaP (QaB _)))]; rfl)) (QaD _ (by intro a ha; simp only [List.mem_cons,List.not_mem_nil,or_false] at ha; rcases ha with rfl | rfl | rfl; exact (Qan _ rfl); exact (Qau _ _); exact (Qan _ rfl)))) fun W5 p5 r6_5=>?_
  refine sg 1 kj <| sgN hK13 <| wp_ret ?_
  repeat (first | with_reducible refine goR1 ?_ | with_reducible refine goR2 ?_)
  exact (show bodyPost _ _ _ .ret _ _ from ret2 (.agg (cat [#[.int .i64 ((m:Nat):Int)],ints .u8 ((keyV (L m)).take 32),#[.slice a15_ (((keyV (L m)).drop 32).length) c15_]])) (.nilIface) rfl (QaE g6 40 _ r6_5 kj kj (isz (n:=34) kj (by rw [Qaa,Qaa,Qaa]; simp only [qS,cat,((Qad _ _).trans (QaP (QaB _)))]; rfl))) (Qa2 kj) ⟨_,rfl,(Puts.ext p5 (Ext.tr x3 e4) (qT (Rely.Ext.refl w).size l6)),_,rfl,_,rfl,OwnN.base x3.size (hu15.puts p5 (QcU hu15 (Qay r6_3)))⟩)
theorem Qix (gc gl len cap:Nat) (lp:Array Value) (w:World) (hgc:w.heap[gc]? = some (.cells #[.slice (some ⟨gl,0,none⟩) len cap] 70)) (hgl:w.heap[gl]? = some (.cells lp 75)) (g i:Nat) (hi:i<len) (hli:lp[i]? = some (.pointer (some ⟨g,0,none⟩))) (tc tq:TypeId) (hc:w.heap[2]? = some (.cells (ints .u64 QaN) tc)) (hq:w.heap[1]? = some (.cells (ints .u64 Qam) tq)) {mg pl:Nat} {L:Nat→List Int} {ts:List Int} {ms:List (Int×List Int)} (hch:ChLn g mg L ts pl ms w) (m:Int) (he:chkN ts pl m≠0):Calls Tryd.prog 13 #[.pointer (some ⟨gc,0,none⟩),.int .i64 ((i:Nat):Int),.int .i64 m] w (Ret w (.tuple #[.agg (cat [#[.int .i64 0],ints .u8 (List.replicate 32 0),#[.slice none 0 0]]),.iface 47 (.int .i64 (chkN ts pl m))])):=by
  refine enter 29 [(0,.pointer (some ⟨gc,0,none⟩)),(1,.int .i64 ((i:Nat):Int)),(2,.int .i64 m)] Tryd.func13 rfl rfl kj rfl <| sgC fun K5 hK5=>Qap (cat [#[.int .i64 0],ints .u8 (List.replicate 32 0),#[.slice none 0 0]]) 40 6 rfl kj kj fun g6 W1 l6 e1 r6_1=>sg 1 kj <| sgN hK5 <| sgC fun K7 hK7=>sg 2 kj <| Qar (.pointer (some ⟨g,0,none⟩)) 31 #[.pointer (some ⟨gc,0,none⟩),.int .i64 ((i:Nat):Int)] 12 rfl kj kj (at_I gc gl len cap lp _ (Qac hgc e1) (Qac hgl e1) g i hi hli) fun W2 e2=>?_
  have x2:=Ext.tr (Ext.tr (Rely.Ext.refl w) e1) e2
  refine sg 1 kj <| sgN hK7 <| wp_seq_k fun K8 hK8=>sgB kj <| cond_false kj <| wp_skip <| hK8 _ _ <| wp_seq_k fun K10 hK10=>sgC fun K11 hK11=>sg 2 kj ?_
  refine Qar (.iface 47 (.int .i64 (chkN ts pl m))) 32 #[.pointer (some ⟨g,0,none⟩),.int .i64 m] 19 rfl kj kj (Qcj he▸QhC (hch.ext x2) m) fun W3 e3=>sg 1 kj <| sgN hK11 <| sgB kj <| cond_true kj <| sgC fun K13 hK13=>sg 2 kj ?_
  have r6_3:=(Qac (Qac r6_1 e2) e3)
  refine Qaj g6 _ (cat [#[.int .i64 0],ints .u8 (List.replicate 32 0),#[.slice none 0 0]]) 40 r6_3 rfl kj (Qal 40 _ _ g6 40 _ _ r6_3 rfl kj kj (isz (n:=34) kj (by rw [Qaa,Qaa,Qaa]; simp only [qS,cat,((Qad _ _).trans (List.length_replicate (n:=32)))]; rfl)) (eqsz (n:=34) (by rw [Qaa,Qaa,Qaa]; simp only [qS,cat,((Qad _ _).trans (List.length_replicate (n:=32)))]; rfl) (by rw [Qaa,Qaa,Qaa]; simp only [qS,cat,((Qad _ _).trans (List.length_replicate (n:=32)))]; rfl)) (QaD _ (by intro a ha; simp only [List.mem_cons,List.not_mem_nil,or_false] at ha; rcases ha with rfl | rfl | rfl; exact (Qan _ rfl); exact (Qau _ _); exact (Qan _ rfl)))) fun W4 p4 r6_4=>?_
  refine sg 1 kj <| sgN hK13 <| wp_ret ?_
  repeat (first | with_reducible refine goR1 ?_ | with_reducible refine goR2 ?_)
  exact (show bodyPost _ _ _ .ret _ _ from ret2 (.agg (cat [#[.int .i64 0],ints .u8 (List.replicate 32 0),#[.slice none 0 0]])) (.iface 47 (.int .i64 (chkN ts pl m))) rfl (QaE g6 40 _ r6_4 kj kj (isz (n:=34) kj (by rw [Qaa,Qaa,Qaa]; simp only [qS,cat,((Qad _ _).trans (List.length_replicate (n:=32)))]; rfl))) (Qa2 kj) ⟨rfl,(Puts.ext p4 (Ext.tr x2 e3) (qT (Rely.Ext.refl w).size l6))⟩)
theorem Qk4 (gc gl len cap:Nat) (lp:Array Value) (w:World) (hgc:w.heap[gc]? = some (.cells #[.slice (some ⟨gl,0,none⟩) len cap] 70)) (hgl:w.heap[gl]? = some (.cells lp 75)) (g i:Nat) (hi:i<len) (hli:lp[i]? = some (.pointer (some ⟨g,0,none⟩))) (tc tq:TypeId) (hc:w.heap[2]? = some (.cells (ints .u64 QaN) tc)) (hq:w.heap[1]? = some (.cells (ints .u64 Qam) tq)) {mg pl:Nat} {L:Nat→List Int} {ts:List Int} {ms:List (Int×List Int)} (hch:ChLn g mg L ts pl ms w) (m:Nat) (he:chkN ts pl ((m:Nat):Int)=0) (hcg:2≠g) (hsg:1≠g):Calls Tryd.prog 13 #[.pointer (some ⟨gc,0,none⟩),.int .i64 ((i:Nat):Int),.int .i64 ((m:Nat):Int)] w (fun e W=>∃ v,e=.returned (.tuple #[v,.nilIface])∧Qah [g,mg] w W∧ChLn g mg L (ts++[((m:Nat):Int)]) (max pl (m+1)) (Qdd ms (L pl) pl m) W∧Qcs w.heap.size ((m:Nat):Int) (keyV (L m)) v W):=by
  refine enter 29 [(0,.pointer (some ⟨gc,0,none⟩)),(1,.int .i64 ((i:Nat):Int)),(2,.int .i64 ((m:Nat):Int))] Tryd.func13 rfl rfl kj rfl <| sgC fun K7 hK7=>Qap (cat [#[.int .i64 0],ints .u8 (List.replicate 32 0),#[.slice none 0 0]]) 40 6 rfl kj kj fun g8 W1 l8 e1 r8_1=>?_
  have b8:=qT (Rely.Ext.refl w).size l8
  refine sg 1 kj <| sgN hK7 <| sgC fun K9 hK9=>sg 2 kj <| Qar (.pointer (some ⟨g,0,none⟩)) 31 #[.pointer (some ⟨gc,0,none⟩),.int .i64 ((i:Nat):Int)] 12 rfl kj kj (at_I gc gl len cap lp _ (Qac hgc e1) (Qac hgl e1) g i hi hli) fun W2 e2=>?_
  have x2:=Ext.tr (Ext.tr (Rely.Ext.refl w) e1) e2
  refine sg 1 kj <| sgN hK9 <| wp_seq_k fun K10 hK10=>sgB kj <| cond_false kj <| wp_skip <| hK10 _ _ <| wp_seq_k fun K12 hK12=>sgC fun K13 hK13=>sg 2 kj ?_
  refine Qar (.nilIface) 32 #[.pointer (some ⟨g,0,none⟩),.int .i64 ((m:Nat):Int)] 19 rfl kj kj (Qb9 he▸QhC (hch.ext x2) ((m:Nat):Int)) fun W3 e3=>?_
  have x3:=Ext.tr x2 e3
  refine sg 1 kj <| sgN hK13 <| sgB kj <| cond_false kj <| wp_skip <| hK12 _ _ <| sgC fun K15 hK15=>sg 2 kj <| Qa6 (fun v W'=>∃ u,v=.tuple #[u,.nilIface]∧Qah [g,mg] W3 W'∧ChLn g mg L (ts++[((m:Nat):Int)]) (max pl (m+1)) (Qdd ms (L pl) pl m) W'∧Qcs W3.heap.size ((m:Nat):Int) (keyV (L m)) u W') 33 #[.pointer (some ⟨g,0,none⟩),.int .i64 ((m:Nat):Int)] 26 rfl kj kj ((Qnl tc tq (Qac (Qac (Qac hc e1) e2) e3) (Qac (Qac (Qac hq e1) e2) e3) (hch.ext x3) m he hcg hsg).mono (by rintro e w' ⟨v,rfl,q1,q2,q3⟩; exact ⟨_,rfl,_,rfl,q1,q2,q3⟩)) fun vv16 W4 hh16=>?_
  obtain ⟨uu16,rfl,q4,hch2,u16,rfl,hu16⟩:=hh16
  obtain ⟨a16_,c16_,rfl,-⟩:=id (OwnN.rd hu16)
  have x4:Qah [g,mg] w W4:=Qah.keeps (Qah.step (Qah.refl [g,mg] w) x3) q4 (fun c hc=>.inl hc)
  refine sg 2 kj ?_
  have r8_3:=(Qac (Qac r8_1 e2) e3)
  have r8_4:=(Qah.row q4 r8_3 (Qax (Ne.symm (Nat.ne_of_lt (qL hch.glt b8))) (Qax (Ne.symm (Nat.ne_of_lt (qL hch.mp.lt b8))) QaJ)))
  refine Qaj g8 _ (cat [#[.int .i64 ((m:Nat):Int)],ints .u8 ((keyV (L m)).take 32),#[.slice a16_ (((keyV (L m)).drop 32).length) c16_]]) 40 r8_4 rfl kj (Qal 40 _ _ g8 40 _ _ r8_4 rfl kj kj (isz (n:=34) kj (by rw [Qaa,Qaa,Qaa]; simp only [qS,cat,((Qad _ _).trans (QaP (QaB _)))]; rfl)) (eqsz (n:=34) (by rw [Qaa,Qaa,Qaa]; simp only [qS,cat,((Qad _ _).trans (List.length_replicate (n:=32)))]; rfl) (by rw [Qaa,Qaa,Qaa]; simp only [qS,cat,((Qad _ _).trans (QaP (QaB _)))]; rfl)) (QaD _ (by intro a ha; simp only [List.mem_cons,List.not_mem_nil,or_false] at ha; rcases ha with rfl | rfl | rfl; exact (Qan _ rfl); exact (Qau _ _); exact (Qan _ rfl)))) fun W5 p5 r8_5=>?_
  have x5:Qah [g,mg] w W5:=Qah.puts x4 p5 (.inr b8)
  refine sg 1 kj <| sgN hK15 <| wp_ret ?_
  repeat (first | with_reducible refine goR1 ?_ | with_reducible refine goR2 ?_)
  exact (show bodyPost _ _ _ .ret _ _ from ret2 (.agg (cat [#[.int .i64 ((m:Nat):Int)],ints .u8 ((keyV (L m)).take 32),#[.slice a16_ (((keyV (L m)).drop 32).length) c16_]])) (.nilIface) rfl (QaE g8 40 _ r8_5 kj kj (isz (n:=34) kj (by rw [Qaa,Qaa,Qaa]; simp only [qS,cat,((Qad _ _).trans (QaP (QaB _)))]; rfl))) (Qa2 kj) ⟨_,rfl,x5,(hch2.keep (p5.2.2.2.2 g (Ne.symm (Ne.symm (Nat.ne_of_lt (qL hch.glt b8))))) (p5.2.2.2.2 mg (Ne.symm (Ne.symm (Nat.ne_of_lt (qL hch.mp.lt b8)))))),_,rfl,OwnN.base x3.size (hu16.puts p5 (QcU hu16 (Qay r8_3)))⟩)
theorem Qm3 (gc gl len cap:Nat) (lp:Array Value) (w:World) (hgc:w.heap[gc]? = some (.cells #[.slice (some ⟨gl,0,none⟩) len cap] 70)) (hgl:w.heap[gl]? = some (.cells lp 75)) (g i:Nat) (hi:i<len) (hli:lp[i]? = some (.pointer (some ⟨g,0,none⟩))) (tc tq:TypeId) (hc:w.heap[2]? = some (.cells (ints .u64 QaN) tc)) (hq:w.heap[1]? = some (.cells (ints .u64 Qam) tq)) {mg pl:Nat} {L:Nat→List Int} {ts:List Int} {ms:List (Int×List Int)} (hch:ChLn g mg L ts pl ms w) (he:chkN ts pl ((pl:Nat):Int)=0) (hcg:2≠g) (hsg:1≠g):Calls Tryd.prog 12 #[.pointer (some ⟨gc,0,none⟩),.int .i64 ((i:Nat):Int)] w (fun e W=>∃ v,e=.returned (.tuple #[v,.nilIface])∧Qah [g,mg] w W∧ChLn g mg L (ts++[((pl:Nat):Int)]) (max pl (pl+1)) (Qdd ms (L pl) pl pl) W∧Qcs w.heap.size ((pl:Nat):Int) (keyV (L pl)) v W):=by
  obtain ⟨B,hW,hrg⟩:=hch.row
  refine enter 23 [(0,.pointer (some ⟨gc,0,none⟩)),(1,.int .i64 ((i:Nat):Int))] Tryd.func12 rfl rfl kj rfl <| sgC fun K7 hK7=>Qap (cat [#[.int .i64 0],ints .u8 (List.replicate 32 0),#[.slice none 0 0]]) 40 4 rfl kj kj fun g8 W1 l8 e1 r8_1=>?_
  have b8:=qT (Rely.Ext.refl w).size l8
  refine sg 1 kj <| sgN hK7 <| sgC fun K9 hK9=>sg 2 kj ?_
  have r1_1:=(Qac hgc e1)
  have r2_1:=(Qac hgl e1)
  refine Qar (.pointer (some ⟨g,0,none⟩)) 31 #[.pointer (some ⟨gc,0,none⟩),.int .i64 ((i:Nat):Int)] 9 rfl kj kj (at_I gc gl len cap lp _ r1_1 r2_1 g i hi hli) fun W2 e2=>?_
  have x2:=Ext.tr (Ext.tr (Rely.Ext.refl w) e1) e2
  refine sg 1 kj <| sgN hK9 <| wp_seq_k fun K10 hK10=>sgB kj <| cond_false kj <| wp_skip <| hK10 _ _ <| sgC fun K12 hK12=>sg 5 kj <| Qab (.int .i64 ((pl:Nat):Int)) 19 rfl kj (Qag 3 _ g 34 84 _ (.int .i64 ((pl:Nat):Int)) _ (Qac (Qac hrg e1) e2) rfl kj (Qaw [#[.int .i64 ((pl:Nat):Int)],#[.int .u64 ((B:Nat):Int)],ints .u8 (L pl)] [#[.int .i64 ((pl:Nat):Int)]] [#[.map (some mg)]] 34 (by rw [Qaa,Qaa,Qaa]; simp only [qS,cat,((Qad _ _).trans (hch.len pl))]; rfl) 0 _ rfl) kj) ?_
  refine Qa6 (fun v W'=>∃ u,v=.tuple #[u,.nilIface]∧Qah [g,mg] W2 W'∧ChLn g mg L (ts++[((pl:Nat):Int)]) (max pl (pl+1)) (Qdd ms (L pl) pl pl) W'∧Qcs W2.heap.size ((pl:Nat):Int) (keyV (L pl)) u W') 13 #[.pointer (some ⟨gc,0,none⟩),.int .i64 ((i:Nat):Int),.int .i64 ((pl:Nat):Int)] 20 rfl kj kj ((Qk4 gc gl len cap lp _ (Qac r1_1 e2) (Qac r2_1 e2) g i hi hli tc tq (Qac (Qac hc e1) e2) (Qac (Qac hq e1) e2) (hch.ext x2) pl he hcg hsg).mono (by rintro e w' ⟨v,rfl,q1,q2,q3⟩; exact ⟨_,rfl,_,rfl,q1,q2,q3⟩)) fun vv13 W3 hh13=>?_
  obtain ⟨uu13,rfl,q3,hch2,u13,rfl,hu13⟩:=hh13
  obtain ⟨a13_,c13_,rfl,-⟩:=id (OwnN.rd hu13)
  have x3:Qah [g,mg] w W3:=Qah.keeps (Qah.step (Qah.refl [g,mg] w) x2) q3 (fun c hc=>.inl hc)
  refine sg 2 kj ?_
  have r8_2:=(Qac r8_1 e2)
  have r8_3:=(Qah.row q3 r8_2 (Qax (Ne.symm (Nat.ne_of_lt (qL hch.glt b8))) (Qax (Ne.symm (Nat.ne_of_lt (qL hch.mp.lt b8))) QaJ)))
  refine Qaj g8 _ (cat [#[.int .i64 ((pl:Nat):Int)],ints .u8 ((keyV (L pl)).take 32),#[.slice a13_ (((keyV (L pl)).drop 32).length) c13_]]) 40 r8_3 rfl kj (Qal 40 _ _ g8 40 _ _ r8_3 rfl kj kj (isz (n:=34) kj (by rw [Qaa,Qaa,Qaa]; simp only [qS,cat,((Qad _ _).trans (QaP (QaB _)))]; rfl)) (eqsz (n:=34) (by rw [Qaa,Qaa,Qaa]; simp only [qS,cat,((Qad _ _).trans (List.length_replicate (n:=32)))]; rfl) (by rw [Qaa,Qaa,Qaa]; simp only [qS,cat,((Qad _ _).trans (QaP (QaB _)))]; rfl)) (QaD _ (by intro a ha; simp only [List.mem_cons,List.not_mem_nil,or_false] at ha; rcases ha with rfl | rfl | rfl; exact (Qan _ rfl); exact (Qau _ _); exact (Qan _ rfl)))) fun W4 p4 r8_4=>?_
  have x4:Qah [g,mg] w W4:=Qah.puts x3 p4 (.inr b8)
  refine sg 1 kj <| sgN hK12 <| wp_ret ?_
  repeat (first | with_reducible refine goR1 ?_ | with_reducible refine goR2 ?_)
  exact (show bodyPost _ _ _ .ret _ _ from ret2 (.agg (cat [#[.int .i64 ((pl:Nat):Int)],ints .u8 ((keyV (L pl)).take 32),#[.slice a13_ (((keyV (L pl)).drop 32).length) c13_]])) (.nilIface) rfl (QaE g8 40 _ r8_4 kj kj (isz (n:=34) kj (by rw [Qaa,Qaa,Qaa]; simp only [qS,cat,((Qad _ _).trans (QaP (QaB _)))]; rfl))) (Qa2 kj) ⟨_,rfl,x4,(hch2.keep (p4.2.2.2.2 g (Ne.symm (Ne.symm (Nat.ne_of_lt (qL hch.glt b8))))) (p4.2.2.2.2 mg (Ne.symm (Ne.symm (Nat.ne_of_lt (qL hch.mp.lt b8)))))),_,rfl,OwnN.base x2.size (hu13.puts p4 (QcU hu13 (Qay r8_2)))⟩)
end Go.Proofs.YtibegnjaphohaaaDoor.Cn
end
section
namespace Go.Proofs.YtibegnjaphohaaaDoor.Cn
open Go Go.RowKit
open Rely Auto Own Sha
open Go.Proofs.YtibegnjaphohaaaDoor
theorem QlC (gc gl len cap:Nat) (lp:Array Value) (w:World) (hgc:w.heap[gc]? = some (.cells #[.slice (some ⟨gl,0,none⟩) len cap] 70)) (hgl:w.heap[gl]? = some (.cells lp 75)) (g i:Nat) (hi:i<len) (hli:lp[i]? = some (.pointer (some ⟨g,0,none⟩))) {mg pl:Nat} {L:Nat→List Int} {ts:List Int} {ms:List (Int×List Int)} (hch:ChLn g mg L ts pl ms w) (m:Nat) (h0:pl≤m) (h1:m≤4294967295):Calls Tryd.prog 18 #[.pointer (some ⟨gc,0,none⟩),.int .i64 ((i:Nat):Int),.int .i64 ((m:Nat):Int)] w (fun e W'=>e=.returned (.bool true)∧Qah [g,mg] w W'∧∃ k,m-65+k=m∧ChLn g mg (lkJ L pl m) (jmpT ts (m-65) k) m [] W'):=by
  refine enter 18 [(0,.pointer (some ⟨gc,0,none⟩)),(1,.int .i64 ((i:Nat):Int)),(2,.int .i64 ((m:Nat):Int))] Tryd.func18 rfl rfl kj rfl <| sgB kj <| sgC fun K6 hK6=>sg 2 kj <| Qar (.pointer (some ⟨g,0,none⟩)) 31 #[.pointer (some ⟨gc,0,none⟩),.int .i64 ((i:Nat):Int)] 10 rfl kj kj (at_I gc gl len cap lp _ hgc hgl g i hi hli) fun W1 e1=>?_
  have x1:=Ext.tr (Rely.Ext.refl w) e1
  refine sg 1 kj <| sgN hK6 <| sgC fun K7 hK7=>sg 5 kj <| Qa6 (fun v W'=>v=.bool true∧Qah [g,mg] W1 W'∧∃ k,m-65+k=m∧ChLn g mg (lkJ L pl m) (jmpT ts (m-65) k) m [] W') 35 #[.pointer (some ⟨g,0,none⟩),.int .i64 ((m:Nat):Int)] 16 rfl kj kj ((Qn9 (hch.ext x1) m h0 h1).mono (by rintro e w' ⟨rfl,q⟩; exact ⟨_,rfl,rfl,q⟩)) fun vv8 W2 hh8=>?_
  obtain ⟨rfl,q2,kj_,hkj,hch2⟩:=hh8
  have x2:Qah [g,mg] w W2:=Qah.keeps (Qah.step (Qah.refl [g,mg] w) x1) q2 (fun c hc=>.inl hc)
  refine sg 2 kj <| sgN hK7 <| wp_ret ?_
  repeat (first | with_reducible refine goR1 ?_ | with_reducible refine goR2 ?_)
  exact (show bodyPost _ _ _ .ret _ _ from ret1 (.bool true) rfl (Qa2 kj) ⟨rfl,x2,kj_,hkj,hch2⟩)
theorem Qjh (gc gl len cap:Nat) (lp:Array Value) (w:World) (hgc:w.heap[gc]? = some (.cells #[.slice (some ⟨gl,0,none⟩) len cap] 70)) (hgl:w.heap[gl]? = some (.cells lp 75)) (g i:Nat) (hi:i<len) (hli:lp[i]? = some (.pointer (some ⟨g,0,none⟩))) {mg pl:Nat} {L:Nat→List Int} {ts:List Int} {ms:List (Int×List Int)} (hch:ChLn g mg L ts pl ms w) (m:Int) (hm:m<((pl:Nat):Int)∨4294967295<m):Calls Tryd.prog 18 #[.pointer (some ⟨gc,0,none⟩),.int .i64 ((i:Nat):Int),.int .i64 m] w (Ret w (.bool false)):=by
  refine enter 18 [(0,.pointer (some ⟨gc,0,none⟩)),(1,.int .i64 ((i:Nat):Int)),(2,.int .i64 m)] Tryd.func18 rfl rfl kj rfl <| sgB kj <| sgC fun K4 hK4=>sg 2 kj <| Qar (.pointer (some ⟨g,0,none⟩)) 31 #[.pointer (some ⟨gc,0,none⟩),.int .i64 ((i:Nat):Int)] 10 rfl kj kj (at_I gc gl len cap lp _ hgc hgl g i hi hli) fun W1 e1=>?_
  have x1:=Ext.tr (Rely.Ext.refl w) e1
  refine sg 1 kj <| sgN hK4 <| sgC fun K5 hK5=>sg 5 kj <| Qar (.bool false) 35 #[.pointer (some ⟨g,0,none⟩),.int .i64 m] 16 rfl kj kj (Qkg (hch.ext x1) m hm) fun W2 e2=>sg 2 kj <| sgN hK5 <| wp_ret ?_
  repeat (first | with_reducible refine goR1 ?_ | with_reducible refine goR2 ?_)
  exact (show bodyPost _ _ _ .ret _ _ from ret1 (.bool false) rfl (Qa2 kj) ⟨rfl,(Ext.tr x1 e2)⟩)
end Go.Proofs.YtibegnjaphohaaaDoor.Cn
end
section
namespace Go.Proofs.YtibegnjaphohaaaDoor.Cn
open Go Go.RowKit
open Rely Auto Own Sha
theorem Qe0 (a : Int) (ts:List Int) (m:Int):hiF a (ts++[m])=if m>hiF a ts then m else hiF a ts:=by unfold hiF; rw [List.foldl_append]; rfl
theorem QmK (a b:Int) (h0:a≤b):∀ (ts:List Int),(∀ m∈ts,m≤b)→hiF a ts≤b:=by
  intro ts hts
  suffices h:∀ (r:List Int),(∀ m∈r.reverse,m≤b)→hiF a r.reverse≤b by have:=h ts.reverse; rw [List.reverse_reverse] at this; exact this hts
  intro r
  induction r with
  | nil=>intro _; exact h0
  | cons x r ih =>
    intro h
    rw [List.reverse_cons] at h ⊢
    rw [Qe0]
    have h1:=ih fun m hm=>h m (List.mem_append.2 (.inl hm))
    have h2:=h x (List.mem_append.2 (.inr (List.mem_singleton.2 rfl)))
    split <;> omega
theorem QkL (a : Int):∀ (ts:List Int),a≤hiF a ts∧∀ m∈ts,m≤hiF a ts:=by
  intro ts
  suffices h:∀ (r:List Int),a≤hiF a r.reverse∧∀ m∈r.reverse,m≤hiF a r.reverse by have:=h ts.reverse; rwa [List.reverse_reverse] at this
  intro r
  induction r with
  | nil=>exact ⟨Int.le_refl _,fun m hm=>by cases hm⟩
  | cons x r ih =>
    rw [List.reverse_cons,Qe0]
    refine ⟨by have:=ih.1; split <;> omega,fun m hm=>?_⟩
    rcases List.mem_append.1 hm with hm | hm
    · have:=ih.2 m hm; split <;> omega
    · rw [List.mem_singleton] at hm; split <;> omega
theorem Qhx : ∀ (l l2:List Nat),l.Nodup→(∀ x∈l,x∈l2)→l.length≤l2.length
  | [],_,_,_=>Nat.zero_le _
  | x::r,l2,hn,hs=>by
    rw [List.nodup_cons] at hn
    have hx:=hs x List.mem_cons_self
    have h1:=Qhx r (l2.erase x) hn.2 fun y hy=>(List.mem_erase_of_ne (fun e=>hn.1 (by rw [←e]; exact hy))).2 (hs y (List.mem_cons_of_mem _ hy))
    have h2:=List.length_erase_of_mem hx
    have h3:=List.length_pos_of_mem hx
    rw [List.length_cons]
    omega
def refN (lo : Nat) (zs:List Int) (pl:Nat) (n:Int):Int:=if n<0∨4294967294<n then 8 else if n<hiF (((lo:Nat):Int)-1) zs-64 then 11 else if n<((lo:Nat):Int) then 7 else if n∈zs then 7 else if ((pl:Nat):Int)+256<n then 12 else 0
structure Rf (ts : List Int) (pl lo : Nat) (zs : List Int) (hs : List Nat) : Prop where
  low:lo≤pl
  top:pl≤4294967295
  hi:hiF (((lo:Nat):Int)-1) zs=((pl:Nat):Int)-1
  ht:hiT ts=((pl:Nat):Int)-1
  ask:∀ n:Int,0≤n→((pl:Nat):Int)≤n+65→(n∈ts↔n<((lo:Nat):Int)∨n∈zs)
  nd:hs.Nodup
  is:∀ k:Nat,k∈hs↔k<pl∧((k:Nat):Int)∉ts∧pl≤k+65
theorem Qmv : Rf [] 0 0 [] []:=⟨qR _,by decide,rfl,rfl,fun n h0 _=>⟨fun h=>(by cases h),fun h=>(by rcases h with h | h; omega; cases h)⟩,List.nodup_nil,fun k=>⟨fun h=>(by cases h),fun h=>absurd h.1 (Nat.not_lt_zero _)⟩⟩
theorem Rf.num {ts : List Int} {pl lo:Nat} {zs:List Int} {hs:List Nat} (h:Rf ts pl lo zs hs) (n:Int):refN lo zs pl n=chkN ts pl n:=by
  have h1:=h.hi
  have h2:=h.ht
  have h3:=h.ask n
  unfold refN chkN chkT
  rw [h1,h2]
  by_cases a1:n<0∨4294967294<n
  · rw [if_pos a1,if_pos (by rw [if_pos a1]; decide),if_pos a1]
  · simp only [if_neg a1]
    by_cases a2:n<((pl:Nat):Int)-1-64
    · simp [if_pos a2]
    · simp only [if_neg a2]
      by_cases a3:n<((lo:Nat):Int)
      · have a5:=(h3 (by omega) (by omega)).2 (.inl a3)
        simp [if_pos a3,if_pos a5]
      · by_cases a4:n∈zs
        · have a5:=(h3 (by omega) (by omega)).2 (.inr a4)
          simp [if_neg a3,if_pos a4,if_pos a5]
        · have a5:n∉ts:=fun q=>by rcases (h3 (by omega) (by omega)).1 q with r | r; exact a3 r; exact a4 r
          simp [if_neg a3,if_neg a4,if_neg a5]
def Qg1 (hs : List Nat) (pl n:Nat):List Nat:=(hs++List.range' pl (n+1-pl)).filter fun k=>decide (k≠n∧max pl (n+1)≤k+65)
theorem Rf.take {ts : List Int} {pl lo:Nat} {zs:List Int} {hs:List Nat} (h:Rf ts pl lo zs hs) (n:Nat) (hc:chkN ts pl ((n:Nat):Int)=0):Rf (ts++[((n:Nat):Int)]) (max pl (n+1)) lo (zs++[((n:Nat):Int)]) (Qg1 hs pl n):=by
  have h1:=h.hi
  have h2:=h.ht
  have h3:=h.low
  have h9:=h.top
  obtain ⟨k1,k2⟩:=Qc0 hc
  obtain ⟨k3,k4,k5,k6⟩:=Qce k1
  refine ⟨by omega,by omega,?_,?_,fun m m0 m1=>?_,?_,fun k=>?_⟩
  · rw [Qe0,h1]; split <;> omega
  · rw [Qdt,h2]; split <;> omega
  · rw [List.mem_append,List.mem_append,List.mem_singleton,h.ask m m0 (by omega),or_assoc]
  · unfold Qg1
    refine List.Nodup.sublist List.filter_sublist (List.nodup_append.2 ⟨h.nd,List.nodup_range',fun a ha b hb=>?_⟩)
    have:=(h.is a).1 ha
    have:=List.mem_range'_1.1 hb
    omega
  · unfold Qg1
    rw [List.mem_filter,List.mem_append,h.is k,List.mem_range'_1,List.mem_append,List.mem_singleton,decide_eq_true_eq]
    have h4:((k:Nat):Int)∈ts→k<pl:=fun q=>by have:=Qfq ts _ q; omega
    constructor
    · rintro ⟨h5 | h5,h6,h7⟩
      · exact ⟨by omega,fun q=>by rcases q with q | q; exact h5.2.1 q; omega,h7⟩
      · exact ⟨by omega,fun q=>by rcases q with q | q; (have:=h4 q; omega); omega,h7⟩
    · rintro ⟨h5,h6,h7⟩
      refine ⟨?_,fun q=>h6 (.inr (by rw [q])),h7⟩
      rcases Nat.lt_or_ge k pl with q | q
      · exact .inl ⟨q,fun r=>h6 (.inl r),by omega⟩
      · exact .inr ⟨q,by omega⟩
theorem Rf.jump {ts : List Int} {pl lo:Nat} {zs:List Int} {hs:List Nat} (h:Rf ts pl lo zs hs) (m k:Nat) (h0:pl≤m) (hm:m≤4294967295) (hk:m-65+k=m) (ht:hiT (jmpT ts (m-65) k)=((m:Nat):Int)-1):Rf (jmpT ts (m-65) k) m m zs []:=by
  have h1:=h.hi
  have h2:=h.ht
  have hz:=QkL (((lo:Nat):Int)-1) zs
  have hmem:∀ n,m-65≤n→n<m→((n:Nat):Int)∈jmpT ts (m-65) k:=fun n a1 a2=>QgS (b:=m) (by omega) hm (by omega) k (by omega) n a1 (by omega)
  refine ⟨qR _,hm,?_,ht,fun n n0 n1=>?_,List.nodup_nil,fun j=>⟨fun q=>(by cases q),fun q=>absurd (hmem j (by omega) q.1) q.2.1⟩⟩
  · have h4:=QmK (((m:Nat):Int)-1) (((m:Nat):Int)-1) (Int.le_refl _) zs fun x hx=>by have:=hz.2 x hx; omega
    have h5:=(QkL (((m:Nat):Int)-1) zs).1
    omega
  · obtain ⟨j,rfl⟩:=Int.eq_ofNat_of_zero_le n0
    constructor
    · intro q
      have:=Qfq _ _ q
      exact .inl (by omega)
    · rintro (q | q)
      · exact hmem j (by omega) (by omega)
      · have:=hz.2 _ q
        exact hmem j (by omega) (by omega)
theorem Rf.len {ts : List Int} {pl lo:Nat} {zs:List Int} {hs:List Nat} (h:Rf ts pl lo zs hs) {g mg:Nat} {L:Nat→List Int} {ms:List (Int×List Int)} {W:World} (hc:ChLn g mg L ts pl ms W):ms.length=hs.length∧hs.length≤64:=by
  obtain ⟨es,c,-,hM⟩:=hc.mp
  have hnd:(ms.map fun p=>p.1.toNat).Nodup:=by
    have h0:=hM.nod
    rw [List.map_map] at h0
    unfold List.Nodup at h0 ⊢
    rw [List.pairwise_map] at h0 ⊢
    refine List.Pairwise.imp_of_mem (fun {a b} ha hb hab=>?_) h0
    obtain ⟨k1,-,e1,-⟩:=hc.is.all a ha
    obtain ⟨k2,-,e2,-⟩:=hc.is.all b hb
    intro q
    refine hab ?_
    show (mpv a).1=(mpv b).1
    rw [e1,e2] at q ⊢
    have q2:k1=k2:=by simpa using q
    rw [q2]
  have h1:=Qhx _ hs hnd fun x hx=>by
    obtain ⟨p,hp,rfl⟩:=List.mem_map.1 hx
    obtain ⟨k,k1,e,k2,k3⟩:=hc.is.all p hp
    rw [e]
    show k∈hs
    exact (h.is k).2 ⟨k1,k2,k3⟩
  have h2:=Qhx hs (ms.map fun p=>p.1.toNat) h.nd fun x hx=>by
    obtain ⟨k1,k2,k3⟩:=(h.is x).1 hx
    exact List.mem_map.2 ⟨_,hc.is.each x k1 k2 k3,rfl⟩
  have h3:=Qhx hs (List.range' (pl-65) 64) h.nd fun x hx=>by
    obtain ⟨k1,k2,k3⟩:=(h.is x).1 hx
    have h4:=h.ht
    have h5:x≠pl-1:=fun e=>by
      rcases QeP ts with q | q
      · omega
      · rw [h4,show ((pl:Nat):Int)-1=((x:Nat):Int) by omega] at q; exact k2 q
    rw [List.mem_range'_1]
    omega
  rw [List.length_map] at h1 h2
  rw [List.length_range'] at h3
  exact ⟨by omega,h3⟩
end Go.Proofs.YtibegnjaphohaaaDoor.Cn
end
section
namespace Go.Proofs.YtibegnjaphohaaaDoor.Cn
open Go Go.RowKit
open Rely Auto Own Sha
open Go.Proofs.YtibegnjaphohaaaDoor
theorem Qgd {P : Program} {fn:Func} {N:Nat} {L:Env} {w:World} {r s t:ResultVar} {u v x:Value} (hr:fn.results=#[r,s,t]) (h:Qdn P w N L r u) (k:Qdn P w N L s v) (l:Qdn P w N L t x):(results fn (Qa0 [] N L).tmps).run P w=.ok (.tuple #[u,v,x]) w:=by
  rw [Qdr,hr]
  simp [Qcv h,Qcv k,Qcv l,Sem.run_bind]
theorem ret3 {P : Program} {fn:Func} {R:Ending→World→Prop} {N:Nat} {L:Env} {w:World} {r s t:ResultVar} (u v x:Value) (hr:fn.results=#[r,s,t]) (h:Qdn P w N L r u) (k:Qdn P w N L s v) (l:Qdn P w N L t x) (z:R (.returned (.tuple #[u,v,x])) w):bodyPost P fn R .ret (Qa0 [] N L) w:=bodyPost_ret (Qgd hr h k l) rfl z
theorem QeD {w : World} {g k:Nat} {v:Value} (h:w.cell? ⟨g,k,none⟩=some v):∃ cs t fr,w.heap[g]? = some (.cells cs t fr):=by
  unfold World.cell? at h
  split at h
  · next c t f e=>exact ⟨c,t,f,e⟩
  · cases h
theorem QgI {P : Program} {ρ:Operand→Value} {o:Oper} {w:World} (t:TypeId) (x y:Operand) (k:IntKind) (n g off len cap:Nat) (e:TypeId) (sz:Nat) (ho:o.op=.indexAddr t x y) (hx:ρ x=.slice (some ⟨g,off,none⟩) len cap) (hy:ρ y=.int k n)
    (hu:P.underlying t=some (.slice e)) (hs:(P.info? e).map (·.size)=some sz) (hn:n<len):(execOp ρ o).run P w=.ok (.value (.pointer (some ⟨g,off+n*sz,none⟩))) w:=by
  cases hq:P.info? e with
  | none=>simp [hq] at hs
  | some i =>
    have hs':i.size=sz:=by simpa [hq] using hs
    have hadd:(⟨g,off,none⟩:Addr).add (n*sz)=⟨g,off+n*sz,none⟩:=by unfold Addr.add; split <;> simp_all
    have h0:(0:Int)≤(n:Int):=by omega
    have h1:(n:Int)<(len:Int):=by omega
    unfold execOp
    simp only [ho,hx,hy]
    simp [Instr.indexAt,asIntOf,run_underlying hu,sizeOf,typeInfo,hq,hs',h0,hn,hadd]
theorem Qb4 {P : Program} {ρ:Operand→Value} {o:Oper} {w:World} (t:TypeId) (x y:Operand) (k:IntKind) (n g off len cap:Nat) (e:TypeId) (sz:Nat) (ad:Option Addr) (ha:ad=some ⟨g,off,none⟩) (ho:o.op=.indexAddr t x y) (hx:ρ x=.slice ad len cap) (hy:ρ y=.int k n)
    (hu:P.underlying t=some (.slice e)) (hs:(P.info? e).map (·.size)=some sz) (hn:n<len):(execOp ρ o).run P w=.ok (.value (.pointer (some ⟨g,off+n*sz,none⟩))) w:=by
  subst ha
  exact QgI t x y k n g off len cap e sz ho hx hy hu hs hn
theorem Qe7 {α : Type} (ts:List α) (d:α) (i:Nat) (h:i<ts.length):ts.take (i+1)=ts.take i++[ts.getD i d]:=by
  rw [List.take_add_one,List.getElem?_eq_getElem h,List.getD_eq_getElem?_getD,List.getElem?_eq_getElem h]
  rfl
theorem Qcd {α : Type} (ts:List α) (d:α) (i:Nat) (h:i<ts.length):ts.getD i d∈ts:=by
  rw [List.getD_eq_getElem?_getD,List.getElem?_eq_getElem h]
  exact List.getElem_mem h
theorem QgH {P : Program} {ρ:Operand→Value} {o:Oper} {w:World} (ty:TypeId) (x:Operand) (g off:Nat) (v:Value) (h:w.cell? ⟨g,off,none⟩=some v) (ho:o.op=.load ty x) (hx:ρ x=.pointer (some ⟨g,off,none⟩)) (hu:aggD P ty=some false):(execOp ρ o).run P w=.ok (.value v) w:=by
  obtain ⟨cs,t,fr,hg⟩:=QeD h
  refine Qag ty x g off t cs v fr hg ho hx ?_ hu
  unfold World.cell? at h
  simp only [hg] at h
  rw [←h]; rfl
theorem Qd2 {P : Program} {ρ:Operand→Value} {o:Oper} {w:World} (ty:TypeId) (x:Operand) (g off sz:Nat) (cs:Array Value) (u:Value) (h0:cs[0]? = some u) (hsz:cs.size=sz) (h:∀ j v,cs[j]? = some v→w.cell? ⟨g,off+j,none⟩=some v)
    (ho:o.op=.load ty x) (hx:ρ x=.pointer (some ⟨g,off,none⟩)) (hu:aggD P ty=some true) (hi:(P.info? ty).map (·.size)=some sz):(execOp ρ o).run P w=.ok (.value (.agg cs)) w:=by
  obtain ⟨ds,t,fr,hg⟩:=QeD (h 0 _ h0)
  refine QaK ty x g off t ds cs fr hg ho hx (fun j v hv=>?_) hu (by rw [hi,hsz])
  have h1:=h j v hv
  unfold World.cell? at h1
  simp only [hg] at h1
  rw [←h1]; rfl
theorem QgK {P : Program} {ρ:Operand→Value} {o:Oper} {w:World} (t e:TypeId) (sz:Nat) (x:Operand) (v:Value) (ho:o.op=.buildSlice t 1 #[(0,x)]) (hx:ρ x=v) (hu:P.underlying t=some (.slice e)) (hs:(P.info? e).map (·.size)=some sz) (hz:((P.info? e).bind (·.zero)).isSome=true) (hv:v.cells.size=sz) (h0:0<sz) (hl:sz≤2^24) :
    (execOp ρ o).run P w=.ok (.value (.slice (some ⟨w.heap.size,0,none⟩) 1 1)) (w.alloc (.cells v.cells e)):=by
  cases hie:P.info? e with
  | none=>simp [hie] at hs
  | some ie =>
    simp only [hie,Option.map_some,Option.some.injEq,Option.bind_some] at hs hz
    obtain ⟨z,hzz⟩:=Option.isSome_iff_exists.1 hz
    subst hx
    have hf:Instr.fill (fun i=>some (i*ie.size,ie.size)) ((Array.range (1*ie.size)).map (z.cells[·%z.cells.size]!)) (Array.map (fun p:Nat×Operand=>(p.1,ρ p.2)) #[(0,x)]).toList=some (ρ x).cells:=by
      have:=QfQ (fun i=>some (i*ie.size,ie.size)) [(0,ie.size,ρ x,(ρ x).cells)] [] ((Array.range (1*ie.size)).map (z.cells[·%z.cells.size]!)) 0 rfl ⟨by simp,rfl,by rw [hv,hs],trivial⟩ (by simp [tot])
      simpa [cat] using this
    have hr:=run_buildSlice w t e 1 (Array.map (fun p:Nat×Operand=>(p.1,ρ p.2)) #[(0,x)]) (ρ x).cells ie z hu hie hzz (by rw [hs]; omega) (by rw [hs]; omega) hf
    unfold execOp
    simp only [ho,Sem.run_bind]
    rw [hr]
    rfl
def Qfa (T : TypeId) (W W':World):Prop:=∀ (k:Nat) (cur:Array Value) (T':TypeId),T'≠T→W.heap[k]? = some (.cells cur T')→W'.heap[k]? = some (.cells cur T')
theorem QaG {W W':World} (T:TypeId) (e:Ext W W'):Qfa T W W':=fun k cur T' _ r=>Qac r e
theorem QaA {W W':World} {g:Nat} {c:Array Value} {T:TypeId} (p:Puts W g W') (r0:W.heap[g]? = some (.cells c T)):Qfa T W W':=fun k cur T' hT r=>(p.2.2.2.2 k (fun e=>by subst e; exact Qdx r r0 hT)).trans r
section
variable {T : TypeId} {base sz n : Nat} {xs : List Value} {v : Value} {W W' : World}
theorem Qcp (h : W.ownsRow base T sz v n xs) (hk:∀ g,v.ownBlock=some g→W'.heap[g]? = W.heap[g]?):W'.ownsRow base T sz v n xs :=
  ⟨h.1,h.2.imp id fun ⟨g,c,cur,q1,q2,q3,q4⟩=>⟨g,c,cur,q1,q2,by subst q1; exact (hk g rfl).trans q3,q4⟩⟩
theorem Qch (h : W.ownsRow base T sz v n xs) {g:Nat} (hg:v.ownBlock=some g):base≤g∧∃ cur,W.heap[g]? = some (.cells cur T):=by
  rcases h.2 with ⟨rfl,-⟩ | ⟨g',c,cur,rfl,q2,q3,-⟩
  · cases hg
  · obtain rfl:g'=g:=Option.some.inj hg
    exact ⟨q2,cur,q3⟩
theorem QaR (h : W.ownsRow base T sz v n xs) (e:Ext W W'):W'.ownsRow base T sz v n xs:=Qcp h fun g hg=>by obtain ⟨-,cur,r⟩:=Qch h hg; exact e.block g (Qay r)
theorem QbV {b : Nat} (h:W.ownsRow base T sz v n xs) (p:Puts W b W') (hb:b<base):W'.ownsRow base T sz v n xs:=Qcp h fun g hg=>p.2.2.2.2 g (by have:=(Qch h hg).1; omega)
theorem QfC {T0 : TypeId} (h:W.ownsRow base T sz v n xs) (q:Qfa T0 W W') (hT:T0≠T):W'.ownsRow base T sz v n xs:=Qcp h fun g hg=>by obtain ⟨-,cur,r⟩:=Qch h hg; exact (q g cur T (Ne.symm hT) r).trans r.symm
theorem Qhs (h : W.ownsRow base T sz v n xs):∃ a c,v=.slice a n c:=by
  rcases h.2 with ⟨e,e2⟩ | ⟨g,cap,cur,e,-⟩
  · exact ⟨none,0,by rw [e,e2]⟩
  · exact ⟨_,_,e⟩
theorem Qex {b : Nat} (h:W.ownsRow b T sz v n xs) (hb:base≤b):W.ownsRow base T sz v n xs:=⟨h.1,h.2.imp id fun ⟨g,c,cur,q1,q2,q3⟩=>⟨g,c,cur,q1,qT hb q2,q3⟩⟩
theorem Qhr {a : Option Addr} {c:Nat} (h:W.ownsRow base T sz (.slice a n c) n xs) (h0:0<n):∃ g,a=some ⟨g,0,none⟩:=by
  rcases h.2 with ⟨-,e2⟩ | ⟨g,cap,cur,e,-⟩
  · omega
  · simp only [Value.slice.injEq] at e; exact ⟨g,e.1⟩
theorem Qlr (h : W.ownsRow base T sz v n xs):n≤maxLen:=by
  rcases h.2 with ⟨-,e2⟩ | ⟨g,cap,cur,e,q2,q3,q4,q5,-⟩
  · subst e2; exact Nat.zero_le _
  · exact qT q4 q5
theorem QgO {g : Nat} (hb:base≤g) (r:W.heap[g]? = some (.cells #[] T)):W.ownsRow base T sz (.slice (some ⟨g,0,none⟩) 0 0) 0 []:=⟨by simp,.inr ⟨g,0,_,rfl,hb,r,qR _,Nat.zero_le _,by simp,by simp⟩⟩
theorem QfD {g : Nat} {cells:Array Value} (hb:base≤g) (r:W.heap[g]? = some (.cells cells T)) (hs:cells.size=sz):W.ownsRow base T sz (.slice (some ⟨g,0,none⟩) 1 1) 1 cells.toList:=⟨by simpa using hs,.inr ⟨g,1,cells,rfl,hb,r,qR _,by decide,by simpa using hs,List.take_of_length_le (by rw [Array.length_toList,hs]; omega)⟩⟩
theorem Qls {P : Program} {ρ:Operand→Value} {o:Oper} (b:Nat) (s x:Operand) (t:TypeId) (ho:o.op=.call { callee:=.builtin .append,args:=#[s,x],argTypes:=#[t,t] }) (ht:P.underlying t=some (.slice T))
    (hi:(P.info? T).map (fun i=>(i.zero.map (·.cells.size),i.size,i.bytes))=some (some sz,sz,b)) (hb8:b≤1000) (h0:0<sz) {base2 m:Nat} {u:Value} {news:List Value} (hs:ρ s=v) (hx:ρ x=u)
    (h:W.ownsRow base T sz v n xs) (h2:W.ownsRow base2 T sz u m news) (h1:∀ z∈news,z.oneCell'=true) (hl:n+m≤1000000) (hbase:base≤W.heap.size) :
    ∃ v' W',(execOp ρ o).run P W=.ok (.value v') W'∧W'.ownsRow base T sz v' (n+m) (xs++news)∧RowKit.Below base W W'∧Qfa T W W':=by
  obtain ⟨i,hq,z,hz,hzs,hi2,hi3⟩:∃ i,P.info? T=some i∧∃ z,i.zero=some z∧z.cells.size=sz∧i.size=sz∧i.bytes=b:=by
    cases hq:P.info? T with
    | none=>rw [hq] at hi; cases hi
    | some i =>
      rw [hq] at hi
      simp only [Option.map_some,Option.some.injEq,Prod.mk.injEq] at hi
      obtain ⟨z,hz,hzs⟩:=Option.map_eq_some_iff.1 hi.1
      exact ⟨i,rfl,z,hz,hzs,hi.2.1,hi.2.2⟩
  have hgo:∀ (v':Value) (W':World),(Builtin.append_ #[t,t] o.type #[v,u]).run P W=.ok v' W'→(execOp ρ o).run P W=.ok (.value v') W':=fun v' W' hr=>by
    unfold execOp
    simp only [ho,resolve,invoke,builtin,Sem.run_bind,Sem.run_pure,Result.andThen_ok,List.map_toArray,List.map_cons,List.map_nil,hs,hx,hr]
  rcases id h2.2 with ⟨rfl,rfl⟩ | ⟨g,cap,cur,rfl,q2,q3,q4,q5,q6,q7⟩
  · obtain rfl:news=[]:=List.length_eq_zero_iff.1 (by rw [h2.1,Nat.zero_mul])
    refine ⟨v,W,hgo _ _ (run_append_owned_none (P:=P) W base t o.type T i sz ht hq v n _ h),by rw [List.append_nil]; exact h,RowKit.Below.refl _ W,fun k cur T' _ r=>r⟩
  · obtain ⟨v',W',hr,r2,r3,-,-⟩:=run_append_own_at (P:=P) W base t o.type T i z sz b ht hq hz hi2 hi3 hzs h0 v n _ h ⟨g,0,none⟩ m cap news h2.1
      (fun j y hy=>by
        rw [WideShapes.add_plain,Nat.zero_add,h2.cellAt j (by have:=(List.getElem?_eq_some_iff.1 hy).1; rw [h2.1] at this; exact this)]; exact hy) h1 (by simp only [maxLen]; omega) (by
        have:(n+m)*b≤1000000*1000:=Nat.mul_le_mul hl hb8
        omega) hbase
    exact ⟨v',W',hgo _ _ hr,r2,⟨r3.os,r3.tape,r3.output,r3.size,fun k hk=>r3.block k (qL hk hbase) fun q=>by have:=(Qch h q.symm).1; omega⟩,fun k cu T' hT r=>(r3.block k (Qay r) fun q=>by
      obtain ⟨-,cur2,r9⟩:=Qch h q.symm
      exact Qdx r r9 hT).trans r⟩
end
theorem QdJ {α : Type} (cs:α→List Value) (sz:Nat) (d:α):∀ (ts:List α),(∀ x∈ts,(cs x).length=sz)→∀ i,i<ts.length→∀ j,j<sz→(ts.flatMap cs)[i*sz+j]? = (cs (ts.getD i d))[j]?
  | [],_,i,hi,_,_=>absurd hi (Nat.not_lt_zero _)
  | x::r,ho,i,hi,j,hj=>by
    have hsz:=ho x List.mem_cons_self
    rw [List.flatMap_cons]
    cases i with
    | zero=>rw [List.getElem?_append_left (by omega),Nat.zero_mul,Nat.zero_add]; rfl
    | succ i =>
      have e1:(i+1)*sz=i*sz+sz:=by rw [Nat.add_mul,Nat.one_mul]
      rw [List.getElem?_append_right (by omega),hsz,show (i+1)*sz+j-sz=i*sz+j by omega]
      exact QdJ cs sz d r (fun y hy=>ho y (List.mem_cons_of_mem _ hy)) i (by simpa using hi) j hj
theorem QeR {α : Type} {cs:α→List Value} {sz:Nat} (d:α) {ts:List α} (ho:∀ x∈ts,(cs x).length=sz) {T:TypeId} {base g c:Nat} {W:World} (h:W.ownsRow base T sz (.slice (some ⟨g,0,none⟩) ts.length c) ts.length (ts.flatMap cs)) (i:Nat) (hi:i<ts.length) (j:Nat) (u:Value) (hu:(cs (ts.getD i d))[j]? = some u):W.cell? ⟨g,0+i*sz+j,none⟩=some u:=by
  have hj:j<sz:=by have:=(List.getElem?_eq_some_iff.1 hu).1; rwa [ho _ (Qcd ts d i hi)] at this
  have h2:i*sz+j<ts.length*sz:=by
    have:(i+1)*sz≤ts.length*sz:=Nat.mul_le_mul_right _ hi
    rw [Nat.add_mul,Nat.one_mul] at this
    omega
  rw [Nat.zero_add,h.cellAt _ h2,QdJ cs sz d ts ho i hi j hj,hu]
section
variable {ds : List Deferred} {P : Program} {ops : Array Oper} {Q : Exit → Act → World → Prop} {rest : List Oper} {o : Oper} {N : Nat} {L : Env} {W : World}
theorem QcN (ob : Obj) (mk:Nat→Value) (d:Nat) (hd:o.dst=some d) (hg:Qbr ops o N L=some true) (h:(execOp (Rely.look (envN N L)) o).run P W=.ok (.value (mk W.heap.size)) (W.alloc ob))
    (k:∀ (g:Nat) (W':World),W.heap.size≤g→Ext W W'→W'.heap[g]? = some ob→WL P ops Q rest (Qa0 ds N ((d,mk g)::L)) W'):WL P ops Q (o::rest) (Qa0 ds N L) W :=
  Qbt _ _ d hd hg h (k _ _ (qR _) (QbI _ _) (heap_alloc_new _ _))
theorem Qdo {T : TypeId} {sz base n:Nat} {xs:List Value} {v:Value} (b:Nat) (s x:Operand) (t:TypeId) (ho:o.op=.call { callee:=.builtin .append,args:=#[s,x],argTypes:=#[t,t] }) (ht:P.underlying t=some (.slice T))
    (hi:(P.info? T).map (fun i=>(i.zero.map (·.cells.size),i.size,i.bytes))=some (some sz,sz,b)) (hb8:b≤1000) (h0:0<sz) (d:Nat) (hd:o.dst=some d) (hg:Qbr ops o N L=some true) {base2 m:Nat} {u:Value} {news:List Value} (hs:Rely.look (envN N L) s=v) (hx:Rely.look (envN N L) x=u)
    (h:W.ownsRow base T sz v n xs) (h2:W.ownsRow base2 T sz u m news) (h1:∀ z∈news,z.oneCell'=true) (hl:n+m≤1000000) (hbase:base≤W.heap.size)
    (kk:∀ (v':Value) (W':World),W'.ownsRow base T sz v' (n+m) (xs++news)→RowKit.Below base W W'→Qfa T W W'→WL P ops Q rest (Qa0 ds N ((d,v')::L)) W'):WL P ops Q (o::rest) (Qa0 ds N L) W:=by
  obtain ⟨v',W',h1',h2',h3,h4⟩:=Qls (ρ:=Rely.look (envN N L)) b s x t ho ht hi hb8 h0 hs hx h h2 h1 hl hbase
  exact Qbt _ _ d hd hg h1' (kk v' W' h2' h3 h4)
end
structure Hd where
  n:Nat
  m:List Int
  a:Option Addr
  c:Nat
def hd0 : Hd:=⟨0,[],none,0⟩
def hdU (x : Hd):Value:=.slice (Qer x.a x.c 32) 12 (x.c-32)
def hdP (x : Hd):List (Array Value):=[#[.int .i64 ((x.n:Nat):Int)],ints .u8 (x.m.take 32),#[hdU x]]
def hdC (x : Hd):List Value:=(cat (hdP x)).toList
structure InHd (x : Hd) (W : World) : Prop where
  len:x.m.length=44
  own:OwnN .u8 5 0 x.m (.slice x.a x.m.length x.c) W
theorem Qdu (x : Hd) (h:x.m.length=44):(cat (hdP x)).size=34:=by
  unfold hdP
  simp only [cat,qS,Qad,List.length_take,h]
  rfl
theorem Qjo {x : Hd} (h:x.m.length=44):(hdC x).length=34:=by unfold hdC; rw [Array.length_toList,Qdu x h]
theorem QgT (x : Hd):∀ z∈hdC x,z.oneCell'=true:=by
  unfold hdC hdP
  have h9:=QaD [#[.int .i64 ((x.n:Nat):Int)],ints .u8 (x.m.take 32),#[hdU x]] ?_
  · rw [Array.all_eq_true_iff_forall_mem] at h9; exact fun z hz=>h9 z (Array.mem_toList_iff.1 hz)
  intro a ha; simp only [List.mem_cons,List.not_mem_nil,or_false] at ha; rcases ha with rfl | rfl | rfl; exact (Qan _ rfl); exact (Qau _ _); exact (Qan _ rfl)
theorem Qcf {x : Hd} {W W':World} {T:TypeId} (h:InHd x W) (q:Qfa T W W') (hT:T≠5):InHd x W':=⟨h.len,h.own.keep fun g hg=>by obtain ⟨cur,r⟩:=Qcc h.own hg; exact (q g cur _ (Ne.symm hT) r).trans r.symm⟩
theorem QfO {x : Hd} {W W':World} (h:InHd x W) (e:Ext W W'):InHd x W':=⟨h.len,h.own.ext e⟩
theorem QlK {x : Hd} {W:World} (h:InHd x W):RdK .u8 W.heap.size (x.m.drop 32) (hdU x) W:=by
  have:=QjL (OwnN.rd h.own) 32 (by rw [h.len]; decide)
  rw [h.len] at this
  exact this
abbrev HdO (base : Nat) (ts : List Hd) (v : Value) (W : World) : Prop := W.ownsRow base 50 34 v ts.length (ts.flatMap hdC)
end Go.Proofs.YtibegnjaphohaaaDoor.Cn
end
section
namespace Go.Proofs.YtibegnjaphohaaaDoor.Auto
open Go Go.RowKit
open Rely
section
variable {P : Program} {Rd : World → Prop} {w0 : World} {base N : Nat} {L : Env} {U : List Nat} {F : List Kn → Prop} {o : Oper} {os : List Oper} {s : Src} {ss : List Src} {C : List Kn}
theorem QdU (v : Value) (hs:seen C o s=true) (hg:gOk s.guard (get (envS N L (C.map Kn.val) s.reads))=true) (hd:o.dst.isNone=false)
    (h:∀ W,(execOp (Rely.look (get (envS N L (C.map Kn.val) s.reads))) o).run P W=.ok (.value v) W)
    (hk:Qc3 P Rd w0 base N L U F os ss (C++[.is v])):Qc3 P Rd w0 base N L U F (o::os) (s::ss) C :=
  ⟨.is v,(fun hn=>by rw [hd] at hn; cases hn),(fun _=>by
    split
    · exact ⟨hs,v,rfl,fun W _=>QbL hg (h W)⟩
    · intro ρ W hR hh
      rw [Qcu hs hh]
      refine QbL hg ?_
      unfold Qc6
      rw [QcF hs hh,h W]
      exact ⟨Ext.refl _,rfl⟩),hk⟩
end
end Go.Proofs.YtibegnjaphohaaaDoor.Auto
end
section
namespace Go.Proofs.YtibegnjaphohaaaDoor.Cn
open Go Go.RowKit
open Rely Auto Own Sha
open Go.Proofs.YtibegnjaphohaaaDoor
theorem QiU (zs : List Int) (i:Nat) (h:i<zs.length):nth zs i∈zs:=by
  rw [show nth zs i=zs[i] by simp [nth,List.getElem?_eq_getElem h]]
  exact List.getElem_mem h
theorem QeH {a b:Int} (h:(a==b)=false):a≠b:=fun e=>by subst e; simp at h
theorem Qla (sec : List Int) (hsl:sec.length=32) (pl lo:Nat) (hpl:pl≤4294967295) (hlo:lo≤pl) (zs:List Int) (hzl:zs.length≤1000) (a_z:Option Addr) (c_z:Nat) (h_a:Option Addr) (h_n h_c:Nat) (n:Int) (w:World) (hz:RdK .i64 w.heap.size zs (.slice a_z zs.length c_z) w) (hhi:hiF (((lo:Nat):Int)-1) zs=((pl:Nat):Int)-1) (hne:refN lo zs pl n≠0):Calls Tryd.prog 19 #[.agg (cat [ints .u8 (sec),#[.int .i64 ((pl:Nat):Int)],#[.slice h_a h_n h_c],#[.slice a_z zs.length c_z],#[.int .i64 ((lo:Nat):Int)]]),.int .i64 n] w (Ret w (.tuple #[.agg (cat [#[.int .i64 0],ints .u8 (List.replicate 32 0),#[.slice none 0 0]]),.agg (cat [ints .u8 (sec),#[.int .i64 ((pl:Nat):Int)],#[.slice h_a h_n h_c],#[.slice a_z zs.length c_z],#[.int .i64 ((lo:Nat):Int)]]),.int .i64 (refN lo zs pl n)])):=by
 refine enter 131 [(0,.agg (cat [ints .u8 (sec),#[.int .i64 ((pl:Nat):Int)],#[.slice h_a h_n h_c],#[.slice a_z zs.length c_z],#[.int .i64 ((lo:Nat):Int)]])),(1,.int .i64 n)] Tryd.func19 rfl rfl kj rfl <| sgC fun K1 hK1=>Qap (cat [ints .u8 (sec),#[.int .i64 ((pl:Nat):Int)],#[.slice h_a h_n h_c],#[.slice a_z zs.length c_z],#[.int .i64 ((lo:Nat):Int)]]) 34 2 rfl kj kj fun g2 W1 l2 e1 r2_1=>?_
 have x1:=Ext.tr (Rely.Ext.refl w) e1
 have b2:=qT (Rely.Ext.refl w).size l2
 refine Qap (cat [#[.int .i64 0],ints .u8 (List.replicate 32 0),#[.slice none 0 0]]) 50 4 rfl kj kj fun g3 W2 l3 e2 r3_2=>?_
 have x2:=Ext.tr x1 e2
 have b3:=qT x1.size l3
 refine Qap (cat [ints .u8 (List.replicate 32 0),#[.int .i64 0],#[.slice none 0 0],#[.slice none 0 0],#[.int .i64 0]]) 34 5 rfl kj kj fun g4 W3 l4 e3 r4_3=>?_
 have x3:=Ext.tr x2 e3
 have b4:=qT x2.size l4
 refine sg 1 kj <| sgN hK1 <| wp_seq_k fun K5 hK5=>wp_seq_k fun K6 hK6=>?_
 rcases (show n<0∨(0≤n∧4294967294<n)∨(0≤n∧n≤4294967294) by omega) with hq | hq | hq
 ·skip
  refine Qaf <| sg 1 kj <| Qab (.bool true) 13 rfl kj (Qai (u:=.bool (decide (n<0))) kj (congrArg Value.bool (decide_eq_true (by omega)))) <| sg 4 kj <| sgN hK6 <| cond_true kj <| wp_seq_k fun K7 hK7=>?_
  have r2_2:=(Qac r2_1 e2)
  have r2_3:=(Qac r2_2 e3)
  refine Qb3 (fun W=>W.heap[g2]? = some (.cells (cat [ints .u8 (sec),#[.int .i64 ((pl:Nat):Int)],#[.slice h_a h_n h_c],#[.slice a_z zs.length c_z],#[.int .i64 ((lo:Nat):Int)]]) 34)) [⟨none,[]⟩,⟨none,[(2,none)]⟩,⟨none,[(4,none),(18,some 0)]⟩,⟨none,[(5,none),(19,some 1)]⟩,⟨none,[]⟩] [] [1,4] kj kj kj (fun W hR=>Qac r2_3 hR) fun F hF=>QdU (.agg (cat [#[.int .i64 0],ints .u8 (List.replicate 32 0),#[.slice none 0 0]])) kj kj rfl (fun W=>by kernel_rfl) <| QcM (.agg (cat [ints .u8 (sec),#[.int .i64 ((pl:Nat):Int)],#[.slice h_a h_n h_c],#[.slice a_z zs.length c_z],#[.int .i64 ((lo:Nat):Int)]])) kj kj kj rfl (fun W hW=>(Qaq 34 _ g2 34 _ _ hW rfl kj kj (isz (n:=36) kj (by rw [Qaa,Qaa,Qaa,Qaa,Qaa]; simp only [qS,cat,((Qad _ _).trans hsl)]; rfl)))) ?_
  refine Qb6 rfl <| Qb6 rfl <| QdU (.int .i64 8) kj kj rfl (fun W=>by kernel_rfl) <| Qf1 (hF _ kj fun W4 e4=>?_)
  simp only [List.nil_append,List.cons_append,fins,up]
  clear hF
  have x4:=Ext.tr x3 e4
  have r3_3:=(Qac r3_2 e3)
  have r3_4:=(Qac r3_3 e4)
  have r2_4:=(Qac r2_3 e4)
  refine Qby _ g3 _ (cat [#[.int .i64 0],ints .u8 (List.replicate 32 0),#[.slice none 0 0]]) 50 r3_4 rfl (Qal 50 _ _ g3 50 _ _ r3_4 rfl kj kj (isz (n:=34) kj (by rw [Qaa,Qaa,Qaa]; simp only [qS,cat,((Qad _ _).trans (List.length_replicate (n:=32)))]; rfl)) (eqsz (n:=34) (by rw [Qaa,Qaa,Qaa]; simp only [qS,cat,((Qad _ _).trans (List.length_replicate (n:=32)))]; rfl) (by rw [Qaa,Qaa,Qaa]; simp only [qS,cat,((Qad _ _).trans (List.length_replicate (n:=32)))]; rfl)) (QaD _ (by intro a ha; simp only [List.mem_cons,List.not_mem_nil,or_false] at ha; rcases ha with rfl | rfl | rfl; exact (Qan _ rfl); exact (Qau _ _); exact (Qan _ rfl)))) (fun W hp=>Puts.row hp r2_4 (Qae r2_1 l3)) fun W5 p5 r3_5=>?_
  have x5:=Puts.ext p5 x4 b3
  have r4_4:=(Qac r4_3 e4)
  have r4_5:=(Puts.row p5 r4_4 (Qa8 r3_2 l4))
  have r2_5:=(Puts.row p5 r2_4 (Qae r2_1 l3))
  refine Qby _ g4 _ (cat [ints .u8 (sec),#[.int .i64 ((pl:Nat):Int)],#[.slice h_a h_n h_c],#[.slice a_z zs.length c_z],#[.int .i64 ((lo:Nat):Int)]]) 34 r4_5 rfl (Qal 34 _ _ g4 34 _ _ r4_5 rfl kj kj (isz (n:=36) kj (by rw [Qaa,Qaa,Qaa,Qaa,Qaa]; simp only [qS,cat,((Qad _ _).trans hsl)]; rfl)) (eqsz (n:=36) (by rw [Qaa,Qaa,Qaa,Qaa,Qaa]; simp only [qS,cat,((Qad _ _).trans (List.length_replicate (n:=32)))]; rfl) (by rw [Qaa,Qaa,Qaa,Qaa,Qaa]; simp only [qS,cat,((Qad _ _).trans hsl)]; rfl)) (QaD _ (by intro a ha; simp only [List.mem_cons,List.not_mem_nil,or_false] at ha; rcases ha with rfl | rfl | rfl | rfl | rfl; exact (Qau _ _); exact (Qan _ rfl); exact (Qan _ rfl); exact (Qan _ rfl); exact (Qan _ rfl)))) (fun W hp=>Puts.row hp r2_5 (Qae r2_2 l4)) fun W6 p6 r4_6=>?_
  have x6:=Puts.ext p6 x5 b4
  refine QdA <| hK7 _ _ <| wp_ret ?_
  repeat (first | with_reducible refine goR1 ?_ | with_reducible refine goR2 ?_)
  have r3_6:=(Puts.row p6 r3_5 (Qae r3_2 l4))
  exact (show bodyPost _ _ _ .ret _ _ from ret3 (.agg (cat [#[.int .i64 0],ints .u8 (List.replicate 32 0),#[.slice none 0 0]])) (.agg (cat [ints .u8 (sec),#[.int .i64 ((pl:Nat):Int)],#[.slice h_a h_n h_c],#[.slice a_z zs.length c_z],#[.int .i64 ((lo:Nat):Int)]])) (.int .i64 8) rfl (QaE g3 50 _ r3_6 kj kj (isz (n:=34) kj (by rw [Qaa,Qaa,Qaa]; simp only [qS,cat,((Qad _ _).trans (List.length_replicate (n:=32)))]; rfl))) (QaE g4 34 _ r4_6 kj kj (isz (n:=36) kj (by rw [Qaa,Qaa,Qaa,Qaa,Qaa]; simp only [qS,cat,((Qad _ _).trans hsl)]; rfl))) (Qa2 kj) ⟨by rw [show refN lo zs pl n=8 from by unfold refN; exact if_pos (by omega)],x6⟩)
 ·skip
  refine Qaf <| sg 1 kj <| Qab (.bool false) 13 rfl kj (Qai (u:=.bool (decide (n<0))) kj (congrArg Value.bool (decide_eq_false (by omega)))) <| sg 2 kj <| Qab (.bool true) 16 rfl kj (Qai (u:=.bool (decide (n>4294967294))) kj (congrArg Value.bool (decide_eq_true (by omega)))) <| sg 1 kj <| sgN hK6 <| cond_true kj <| wp_seq_k fun K8 hK8=>?_
  have r2_2:=(Qac r2_1 e2)
  have r2_3:=(Qac r2_2 e3)
  refine Qb3 (fun W=>W.heap[g2]? = some (.cells (cat [ints .u8 (sec),#[.int .i64 ((pl:Nat):Int)],#[.slice h_a h_n h_c],#[.slice a_z zs.length c_z],#[.int .i64 ((lo:Nat):Int)]]) 34)) [⟨none,[]⟩,⟨none,[(2,none)]⟩,⟨none,[(4,none),(18,some 0)]⟩,⟨none,[(5,none),(19,some 1)]⟩,⟨none,[]⟩] [] [1,4] kj kj kj (fun W hR=>Qac r2_3 hR) fun F hF=>QdU (.agg (cat [#[.int .i64 0],ints .u8 (List.replicate 32 0),#[.slice none 0 0]])) kj kj rfl (fun W=>by kernel_rfl) <| QcM (.agg (cat [ints .u8 (sec),#[.int .i64 ((pl:Nat):Int)],#[.slice h_a h_n h_c],#[.slice a_z zs.length c_z],#[.int .i64 ((lo:Nat):Int)]])) kj kj kj rfl (fun W hW=>(Qaq 34 _ g2 34 _ _ hW rfl kj kj (isz (n:=36) kj (by rw [Qaa,Qaa,Qaa,Qaa,Qaa]; simp only [qS,cat,((Qad _ _).trans hsl)]; rfl)))) ?_
  refine Qb6 rfl <| Qb6 rfl <| QdU (.int .i64 8) kj kj rfl (fun W=>by kernel_rfl) <| Qf1 (hF _ kj fun W4 e4=>?_)
  simp only [List.nil_append,List.cons_append,fins,up]
  clear hF
  have x4:=Ext.tr x3 e4
  have r3_3:=(Qac r3_2 e3)
  have r3_4:=(Qac r3_3 e4)
  have r2_4:=(Qac r2_3 e4)
  refine Qby _ g3 _ (cat [#[.int .i64 0],ints .u8 (List.replicate 32 0),#[.slice none 0 0]]) 50 r3_4 rfl (Qal 50 _ _ g3 50 _ _ r3_4 rfl kj kj (isz (n:=34) kj (by rw [Qaa,Qaa,Qaa]; simp only [qS,cat,((Qad _ _).trans (List.length_replicate (n:=32)))]; rfl)) (eqsz (n:=34) (by rw [Qaa,Qaa,Qaa]; simp only [qS,cat,((Qad _ _).trans (List.length_replicate (n:=32)))]; rfl) (by rw [Qaa,Qaa,Qaa]; simp only [qS,cat,((Qad _ _).trans (List.length_replicate (n:=32)))]; rfl)) (QaD _ (by intro a ha; simp only [List.mem_cons,List.not_mem_nil,or_false] at ha; rcases ha with rfl | rfl | rfl; exact (Qan _ rfl); exact (Qau _ _); exact (Qan _ rfl)))) (fun W hp=>Puts.row hp r2_4 (Qae r2_1 l3)) fun W5 p5 r3_5=>?_
  have x5:=Puts.ext p5 x4 b3
  have r4_4:=(Qac r4_3 e4)
  have r4_5:=(Puts.row p5 r4_4 (Qa8 r3_2 l4))
  have r2_5:=(Puts.row p5 r2_4 (Qae r2_1 l3))
  refine Qby _ g4 _ (cat [ints .u8 (sec),#[.int .i64 ((pl:Nat):Int)],#[.slice h_a h_n h_c],#[.slice a_z zs.length c_z],#[.int .i64 ((lo:Nat):Int)]]) 34 r4_5 rfl (Qal 34 _ _ g4 34 _ _ r4_5 rfl kj kj (isz (n:=36) kj (by rw [Qaa,Qaa,Qaa,Qaa,Qaa]; simp only [qS,cat,((Qad _ _).trans hsl)]; rfl)) (eqsz (n:=36) (by rw [Qaa,Qaa,Qaa,Qaa,Qaa]; simp only [qS,cat,((Qad _ _).trans (List.length_replicate (n:=32)))]; rfl) (by rw [Qaa,Qaa,Qaa,Qaa,Qaa]; simp only [qS,cat,((Qad _ _).trans hsl)]; rfl)) (QaD _ (by intro a ha; simp only [List.mem_cons,List.not_mem_nil,or_false] at ha; rcases ha with rfl | rfl | rfl | rfl | rfl; exact (Qau _ _); exact (Qan _ rfl); exact (Qan _ rfl); exact (Qan _ rfl); exact (Qan _ rfl)))) (fun W hp=>Puts.row hp r2_5 (Qae r2_2 l4)) fun W6 p6 r4_6=>?_
  have x6:=Puts.ext p6 x5 b4
  refine QdA <| hK8 _ _ <| wp_ret ?_
  repeat (first | with_reducible refine goR1 ?_ | with_reducible refine goR2 ?_)
  have r3_6:=(Puts.row p6 r3_5 (Qae r3_2 l4))
  exact (show bodyPost _ _ _ .ret _ _ from ret3 (.agg (cat [#[.int .i64 0],ints .u8 (List.replicate 32 0),#[.slice none 0 0]])) (.agg (cat [ints .u8 (sec),#[.int .i64 ((pl:Nat):Int)],#[.slice h_a h_n h_c],#[.slice a_z zs.length c_z],#[.int .i64 ((lo:Nat):Int)]])) (.int .i64 8) rfl (QaE g3 50 _ r3_6 kj kj (isz (n:=34) kj (by rw [Qaa,Qaa,Qaa]; simp only [qS,cat,((Qad _ _).trans (List.length_replicate (n:=32)))]; rfl))) (QaE g4 34 _ r4_6 kj kj (isz (n:=36) kj (by rw [Qaa,Qaa,Qaa,Qaa,Qaa]; simp only [qS,cat,((Qad _ _).trans hsl)]; rfl))) (Qa2 kj) ⟨by rw [show refN lo zs pl n=8 from by unfold refN; exact if_pos (by omega)],x6⟩)
 ·skip
  have hn0:¬ (n<0∨4294967294<n):=by omega
  refine Qaf <| sg 1 kj <| Qab (.bool false) 13 rfl kj (Qai (u:=.bool (decide (n<0))) kj (congrArg Value.bool (decide_eq_false (by omega)))) <| sg 2 kj <| Qab (.bool false) 16 rfl kj (Qai (u:=.bool (decide (n>4294967294))) kj (congrArg Value.bool (decide_eq_false (by omega)))) <| sg 1 kj <| sgN hK6 <| cond_false kj <| wp_skip <| hK5 _ _ ?_
  refine wp_seq_k fun K9 hK9=>sgC fun K10 hK10=>sg 1 kj ?_
  have r2_2:=(Qac r2_1 e2)
  have r2_3:=(Qac r2_2 e3)
  refine Qab (.agg (cat [ints .u8 (sec),#[.int .i64 ((pl:Nat):Int)],#[.slice h_a h_n h_c],#[.slice a_z zs.length c_z],#[.int .i64 ((lo:Nat):Int)]])) 21 rfl kj (Qaq 34 _ g2 34 _ _ r2_3 rfl kj kj (isz (n:=36) kj (by rw [Qaa,Qaa,Qaa,Qaa,Qaa]; simp only [qS,cat,((Qad _ _).trans hsl)]; rfl))) ?_
  refine Qar (.int .i64 (hiF (((lo:Nat):Int)-1) zs)) 36 #[.agg (cat [ints .u8 (sec),#[.int .i64 ((pl:Nat):Int)],#[.slice h_a h_n h_c],#[.slice a_z zs.length c_z],#[.int .i64 ((lo:Nat):Int)]])] 22 rfl kj kj (QlN sec hsl pl h_a h_n h_c zs (by omega) a_z c_z ((lo:Nat):Int) _ (by omega) (RdK.more (RdK.ext hz x3) x3.size)) fun W4 e4=>?_
  have x4:=Ext.tr x3 e4
  refine Qab (.int .i64 (hiF (((lo:Nat):Int)-1) zs-64)) 23 rfl kj (Qai (u:=.int .i64 (IntKind.i64.wrap ((hiF (((lo:Nat):Int)-1) zs)-64))) kj (congrArg (Value.int .i64) (Qbp _ (by omega)))) <| sg 1 kj <| sgN hK10 <| Qa3 (t:=decide (n<(hiF (((lo:Nat):Int)-1) zs-64))) kj (fun c11=>?_) (fun c11=>?_)
  ·skip
   have hn1:n<hiF (((lo:Nat):Int)-1) zs-64:=of_decide_eq_true c11
   refine wp_seq_k fun K12 hK12=>?_
   have r2_4:=(Qac r2_3 e4)
   refine Qb3 (fun W=>W.heap[g2]? = some (.cells (cat [ints .u8 (sec),#[.int .i64 ((pl:Nat):Int)],#[.slice h_a h_n h_c],#[.slice a_z zs.length c_z],#[.int .i64 ((lo:Nat):Int)]]) 34)) [⟨none,[]⟩,⟨none,[(2,none)]⟩,⟨none,[(4,none),(25,some 0)]⟩,⟨none,[(5,none),(26,some 1)]⟩,⟨none,[]⟩] [] [1,4] kj kj kj (fun W hR=>Qac r2_4 hR) fun F hF=>QdU (.agg (cat [#[.int .i64 0],ints .u8 (List.replicate 32 0),#[.slice none 0 0]])) kj kj rfl (fun W=>by kernel_rfl) <| QcM (.agg (cat [ints .u8 (sec),#[.int .i64 ((pl:Nat):Int)],#[.slice h_a h_n h_c],#[.slice a_z zs.length c_z],#[.int .i64 ((lo:Nat):Int)]])) kj kj kj rfl (fun W hW=>(Qaq 34 _ g2 34 _ _ hW rfl kj kj (isz (n:=36) kj (by rw [Qaa,Qaa,Qaa,Qaa,Qaa]; simp only [qS,cat,((Qad _ _).trans hsl)]; rfl)))) ?_
   refine Qb6 rfl <| Qb6 rfl <| QdU (.int .i64 11) kj kj rfl (fun W=>by kernel_rfl) <| Qf1 (hF _ kj fun W5 e5=>?_)
   simp only [List.nil_append,List.cons_append,fins,up]
   clear hF
   have x5:=Ext.tr x4 e5
   have r3_3:=(Qac r3_2 e3)
   have r3_4:=(Qac r3_3 e4)
   have r3_5:=(Qac r3_4 e5)
   have r2_5:=(Qac r2_4 e5)
   refine Qby _ g3 _ (cat [#[.int .i64 0],ints .u8 (List.replicate 32 0),#[.slice none 0 0]]) 50 r3_5 rfl (Qal 50 _ _ g3 50 _ _ r3_5 rfl kj kj (isz (n:=34) kj (by rw [Qaa,Qaa,Qaa]; simp only [qS,cat,((Qad _ _).trans (List.length_replicate (n:=32)))]; rfl)) (eqsz (n:=34) (by rw [Qaa,Qaa,Qaa]; simp only [qS,cat,((Qad _ _).trans (List.length_replicate (n:=32)))]; rfl) (by rw [Qaa,Qaa,Qaa]; simp only [qS,cat,((Qad _ _).trans (List.length_replicate (n:=32)))]; rfl)) (QaD _ (by intro a ha; simp only [List.mem_cons,List.not_mem_nil,or_false] at ha; rcases ha with rfl | rfl | rfl; exact (Qan _ rfl); exact (Qau _ _); exact (Qan _ rfl)))) (fun W hp=>Puts.row hp r2_5 (Qae r2_1 l3)) fun W6 p6 r3_6=>?_
   have x6:=Puts.ext p6 x5 b3
   have r4_4:=(Qac r4_3 e4)
   have r4_5:=(Qac r4_4 e5)
   have r4_6:=(Puts.row p6 r4_5 (Qa8 r3_2 l4))
   have r2_6:=(Puts.row p6 r2_5 (Qae r2_1 l3))
   refine Qby _ g4 _ (cat [ints .u8 (sec),#[.int .i64 ((pl:Nat):Int)],#[.slice h_a h_n h_c],#[.slice a_z zs.length c_z],#[.int .i64 ((lo:Nat):Int)]]) 34 r4_6 rfl (Qal 34 _ _ g4 34 _ _ r4_6 rfl kj kj (isz (n:=36) kj (by rw [Qaa,Qaa,Qaa,Qaa,Qaa]; simp only [qS,cat,((Qad _ _).trans hsl)]; rfl)) (eqsz (n:=36) (by rw [Qaa,Qaa,Qaa,Qaa,Qaa]; simp only [qS,cat,((Qad _ _).trans (List.length_replicate (n:=32)))]; rfl) (by rw [Qaa,Qaa,Qaa,Qaa,Qaa]; simp only [qS,cat,((Qad _ _).trans hsl)]; rfl)) (QaD _ (by intro a ha; simp only [List.mem_cons,List.not_mem_nil,or_false] at ha; rcases ha with rfl | rfl | rfl | rfl | rfl; exact (Qau _ _); exact (Qan _ rfl); exact (Qan _ rfl); exact (Qan _ rfl); exact (Qan _ rfl)))) (fun W hp=>Puts.row hp r2_6 (Qae r2_2 l4)) fun W7 p7 r4_7=>?_
   have x7:=Puts.ext p7 x6 b4
   refine QdA <| hK12 _ _ <| wp_ret ?_
   repeat (first | with_reducible refine goR1 ?_ | with_reducible refine goR2 ?_)
   have r3_7:=(Puts.row p7 r3_6 (Qae r3_2 l4))
   exact (show bodyPost _ _ _ .ret _ _ from ret3 (.agg (cat [#[.int .i64 0],ints .u8 (List.replicate 32 0),#[.slice none 0 0]])) (.agg (cat [ints .u8 (sec),#[.int .i64 ((pl:Nat):Int)],#[.slice h_a h_n h_c],#[.slice a_z zs.length c_z],#[.int .i64 ((lo:Nat):Int)]])) (.int .i64 11) rfl (QaE g3 50 _ r3_7 kj kj (isz (n:=34) kj (by rw [Qaa,Qaa,Qaa]; simp only [qS,cat,((Qad _ _).trans (List.length_replicate (n:=32)))]; rfl))) (QaE g4 34 _ r4_7 kj kj (isz (n:=36) kj (by rw [Qaa,Qaa,Qaa,Qaa,Qaa]; simp only [qS,cat,((Qad _ _).trans hsl)]; rfl))) (Qa2 kj) ⟨by rw [show refN lo zs pl n=11 from by unfold refN; rw [if_neg hn0]; exact if_pos hn1],x7⟩)
  ·skip
   have hn1:¬ n<hiF (((lo:Nat):Int)-1) zs-64:=of_decide_eq_false c11
   refine wp_skip <| hK9 _ _ <| wp_seq_k fun K13 hK13=>sgC fun K14 hK14=>sg 2 kj ?_
   have r2_4:=(Qac r2_3 e4)
   refine Qab (.int .i64 ((lo:Nat):Int)) 29 rfl kj (Qag 3 _ g2 35 34 _ (.int .i64 ((lo:Nat):Int)) _ r2_4 rfl kj (Qaw [ints .u8 (sec),#[.int .i64 ((pl:Nat):Int)],#[.slice h_a h_n h_c],#[.slice a_z zs.length c_z]] [#[.int .i64 ((lo:Nat):Int)]] [] 35 (by rw [Qaa,Qaa,Qaa,Qaa]; simp only [qS,cat,((Qad _ _).trans hsl)]; rfl) 0 _ rfl) kj) ?_
   refine sg 1 kj <| sgN hK14 <| Qa3 (t:=decide (n<((lo:Nat):Int))) kj (fun c15=>?_) (fun c15=>?_)
   ·skip
    have hn2:n<((lo:Nat):Int):=of_decide_eq_true c15
    refine wp_seq_k fun K16 hK16=>Qb3 (fun W=>W.heap[g2]? = some (.cells (cat [ints .u8 (sec),#[.int .i64 ((pl:Nat):Int)],#[.slice h_a h_n h_c],#[.slice a_z zs.length c_z],#[.int .i64 ((lo:Nat):Int)]]) 34)) [⟨none,[]⟩,⟨none,[(2,none)]⟩,⟨none,[(4,none),(31,some 0)]⟩,⟨none,[(5,none),(32,some 1)]⟩,⟨none,[]⟩] [] [1,4] kj kj kj (fun W hR=>Qac r2_4 hR) fun F hF=>QdU (.agg (cat [#[.int .i64 0],ints .u8 (List.replicate 32 0),#[.slice none 0 0]])) kj kj rfl (fun W=>by kernel_rfl) <| QcM (.agg (cat [ints .u8 (sec),#[.int .i64 ((pl:Nat):Int)],#[.slice h_a h_n h_c],#[.slice a_z zs.length c_z],#[.int .i64 ((lo:Nat):Int)]])) kj kj kj rfl (fun W hW=>(Qaq 34 _ g2 34 _ _ hW rfl kj kj (isz (n:=36) kj (by rw [Qaa,Qaa,Qaa,Qaa,Qaa]; simp only [qS,cat,((Qad _ _).trans hsl)]; rfl)))) ?_
    refine Qb6 rfl <| Qb6 rfl <| QdU (.int .i64 7) kj kj rfl (fun W=>by kernel_rfl) <| Qf1 (hF _ kj fun W5 e5=>?_)
    simp only [List.nil_append,List.cons_append,fins,up]
    clear hF
    have x5:=Ext.tr x4 e5
    have r3_3:=(Qac r3_2 e3)
    have r3_4:=(Qac r3_3 e4)
    have r3_5:=(Qac r3_4 e5)
    have r2_5:=(Qac r2_4 e5)
    refine Qby _ g3 _ (cat [#[.int .i64 0],ints .u8 (List.replicate 32 0),#[.slice none 0 0]]) 50 r3_5 rfl (Qal 50 _ _ g3 50 _ _ r3_5 rfl kj kj (isz (n:=34) kj (by rw [Qaa,Qaa,Qaa]; simp only [qS,cat,((Qad _ _).trans (List.length_replicate (n:=32)))]; rfl)) (eqsz (n:=34) (by rw [Qaa,Qaa,Qaa]; simp only [qS,cat,((Qad _ _).trans (List.length_replicate (n:=32)))]; rfl) (by rw [Qaa,Qaa,Qaa]; simp only [qS,cat,((Qad _ _).trans (List.length_replicate (n:=32)))]; rfl)) (QaD _ (by intro a ha; simp only [List.mem_cons,List.not_mem_nil,or_false] at ha; rcases ha with rfl | rfl | rfl; exact (Qan _ rfl); exact (Qau _ _); exact (Qan _ rfl)))) (fun W hp=>Puts.row hp r2_5 (Qae r2_1 l3)) fun W6 p6 r3_6=>?_
    have x6:=Puts.ext p6 x5 b3
    have r4_4:=(Qac r4_3 e4)
    have r4_5:=(Qac r4_4 e5)
    have r4_6:=(Puts.row p6 r4_5 (Qa8 r3_2 l4))
    have r2_6:=(Puts.row p6 r2_5 (Qae r2_1 l3))
    refine Qby _ g4 _ (cat [ints .u8 (sec),#[.int .i64 ((pl:Nat):Int)],#[.slice h_a h_n h_c],#[.slice a_z zs.length c_z],#[.int .i64 ((lo:Nat):Int)]]) 34 r4_6 rfl (Qal 34 _ _ g4 34 _ _ r4_6 rfl kj kj (isz (n:=36) kj (by rw [Qaa,Qaa,Qaa,Qaa,Qaa]; simp only [qS,cat,((Qad _ _).trans hsl)]; rfl)) (eqsz (n:=36) (by rw [Qaa,Qaa,Qaa,Qaa,Qaa]; simp only [qS,cat,((Qad _ _).trans (List.length_replicate (n:=32)))]; rfl) (by rw [Qaa,Qaa,Qaa,Qaa,Qaa]; simp only [qS,cat,((Qad _ _).trans hsl)]; rfl)) (QaD _ (by intro a ha; simp only [List.mem_cons,List.not_mem_nil,or_false] at ha; rcases ha with rfl | rfl | rfl | rfl | rfl; exact (Qau _ _); exact (Qan _ rfl); exact (Qan _ rfl); exact (Qan _ rfl); exact (Qan _ rfl)))) (fun W hp=>Puts.row hp r2_6 (Qae r2_2 l4)) fun W7 p7 r4_7=>?_
    have x7:=Puts.ext p7 x6 b4
    refine QdA <| hK16 _ _ <| wp_ret ?_
    repeat (first | with_reducible refine goR1 ?_ | with_reducible refine goR2 ?_)
    have r3_7:=(Puts.row p7 r3_6 (Qae r3_2 l4))
    exact (show bodyPost _ _ _ .ret _ _ from ret3 (.agg (cat [#[.int .i64 0],ints .u8 (List.replicate 32 0),#[.slice none 0 0]])) (.agg (cat [ints .u8 (sec),#[.int .i64 ((pl:Nat):Int)],#[.slice h_a h_n h_c],#[.slice a_z zs.length c_z],#[.int .i64 ((lo:Nat):Int)]])) (.int .i64 7) rfl (QaE g3 50 _ r3_7 kj kj (isz (n:=34) kj (by rw [Qaa,Qaa,Qaa]; simp only [qS,cat,((Qad _ _).trans (List.length_replicate (n:=32)))]; rfl))) (QaE g4 34 _ r4_7 kj kj (isz (n:=36) kj (by rw [Qaa,Qaa,Qaa,Qaa,Qaa]; simp only [qS,cat,((Qad _ _).trans hsl)]; rfl))) (Qa2 kj) ⟨by rw [show refN lo zs pl n=7 from by unfold refN; rw [if_neg hn0,if_neg hn1]; exact if_pos hn2],x7⟩)
   ·skip
    have hn2:¬ n<((lo:Nat):Int):=of_decide_eq_false c15
    refine wp_skip <| hK13 _ _ <| wp_seq_k fun K17 hK17=>sgB kj <| wp_block <| QaC (fun (s1:Nat)=>[(1,.int .i64 n),(2,.pointer (some ⟨g2,0,none⟩)),(4,.pointer (some ⟨g3,0,none⟩)),(5,.pointer (some ⟨g4,0,none⟩)),(6,.int .i64 0),(7,.int .i64 ((s1:Nat):Int))]) (fun (s1:Nat) W=>(s1≤zs.length)∧(∀ j,j<s1→nth zs j≠n)∧(Ext W4 W)∧(Ext w W)) (fun (s1:Nat)=>zs.length-s1) 0 ⟨kj,kj,kj,kj,kj,kj,trivial⟩ ⟨(Nat.zero_le _),(fun j hj=>absurd hj (Nat.not_lt_zero _)),(Rely.Ext.refl W4),x4⟩ fun s1 X1 V1 hI1=>?_
    obtain ⟨i,hs1⟩:∃ z,z=s1:=⟨_,rfl⟩
    subst hs1
    obtain ⟨hi,hnz,kk1,xx1⟩:=hI1
    replace hi:i≤zs.length:=hi
    replace hnz:∀ j,j<i→nth zs j≠n:=hnz
    replace kk1:Ext W4 V1:=kk1
    replace xx1:Ext w V1:=xx1
    have e5:=kk1
    refine wp_seq_k fun K19 hK19=>sgC fun K20 hK20=>sg 2 kj ?_
    have r2_5:=(Qac r2_4 e5)
    refine Qab (.slice a_z zs.length c_z) 35 rfl kj (Qag 32 _ g2 34 34 _ (.slice a_z zs.length c_z) _ r2_5 rfl kj (Qaw [ints .u8 (sec),#[.int .i64 ((pl:Nat):Int)],#[.slice h_a h_n h_c]] [#[.slice a_z zs.length c_z]] [#[.int .i64 ((lo:Nat):Int)]] 34 (by rw [Qaa,Qaa,Qaa]; simp only [qS,cat,((Qad _ _).trans hsl)]; rfl) 0 _ rfl) kj) ?_
    refine sg 2 kj <| sgN hK20 <| Qa3 (t:=decide (((i:Nat):Int)<((zs.length:Nat):Int))) kj (fun c21=>?_) (fun c21=>?_)
    ·skip
     have hlt37:i<zs.length:=by have:=of_decide_eq_true c21; omega
     refine wp_skip <| hK19 _ _ <| wp_seq_k fun K22 hK22=>wp_block <| sgC fun K23 hK23=>sg 1 kj <| Qab (.slice a_z zs.length c_z) 41 rfl kj (Qag 32 _ g2 34 34 _ (.slice a_z zs.length c_z) _ r2_5 rfl kj (Qaw [ints .u8 (sec),#[.int .i64 ((pl:Nat):Int)],#[.slice h_a h_n h_c]] [#[.slice a_z zs.length c_z]] [#[.int .i64 ((lo:Nat):Int)]] 34 (by rw [Qaa,Qaa,Qaa]; simp only [qS,cat,((Qad _ _).trans hsl)]; rfl) 0 _ rfl) kj) ?_
     refine sg 1 kj ?_
     have hnz_24:(zs).length=zs.length:=rfl
     obtain ⟨gcz_24,ocz_24,haz_24,hlz_24,hcz_24⟩:=rdK_open (RdK.ext hz xx1) (by rw [hnz_24]; omega)
     refine Qab (.pointer (some ⟨gcz_24,ocz_24+i,none⟩)) 43 rfl kj (run_indexA 32 _ _ .i64 i gcz_24 ocz_24 zs.length c_z 3 a_z _ haz_24 rfl rfl kj kj kj kj (Nat.lt_of_lt_of_eq (show i<zs.length by omega) hnz_24.symm)) <| Qab (.int .i64 (nth (zs) (i))) 44 rfl kj (QaH 3 _ _ (.int .i64 (nth (zs) (i))) (hcz_24 i (Nat.lt_of_lt_of_eq (show i<zs.length by omega) hnz_24.symm)) rfl kj kj) <| sg 2 kj <| sgN hK23 <| Qa3 (t:=((nth (zs) (i))==n)) kj (fun c25=>?_) (fun c25=>?_)
     ·skip
      have hn3:nth zs i=n:=eq_of_beq c25
      have hn4:n∈zs:=by rw [←hn3]; exact QiU zs i hlt37
      refine wp_seq_k fun K26 hK26=>Qb3 (fun W=>W.heap[g2]? = some (.cells (cat [ints .u8 (sec),#[.int .i64 ((pl:Nat):Int)],#[.slice h_a h_n h_c],#[.slice a_z zs.length c_z],#[.int .i64 ((lo:Nat):Int)]]) 34)) [⟨none,[]⟩,⟨none,[(2,none)]⟩,⟨none,[(4,none),(47,some 0)]⟩,⟨none,[(5,none),(48,some 1)]⟩,⟨none,[]⟩] [] [1,4] kj kj kj (fun W hR=>Qac r2_5 hR) fun F hF=>QdU (.agg (cat [#[.int .i64 0],ints .u8 (List.replicate 32 0),#[.slice none 0 0]])) kj kj rfl (fun W=>by kernel_rfl) <| QcM (.agg (cat [ints .u8 (sec),#[.int .i64 ((pl:Nat):Int)],#[.slice h_a h_n h_c],#[.slice a_z zs.length c_z],#[.int .i64 ((lo:Nat):Int)]])) kj kj kj rfl (fun W hW=>(Qaq 34 _ g2 34 _ _ hW rfl kj kj (isz (n:=36) kj (by rw [Qaa,Qaa,Qaa,Qaa,Qaa]; simp only [qS,cat,((Qad _ _).trans hsl)]; rfl)))) ?_
      refine Qb6 rfl <| Qb6 rfl <| QdU (.int .i64 7) kj kj rfl (fun W=>by kernel_rfl) <| Qf1 (hF _ kj fun W6 e6=>?_)
      simp only [List.nil_append,List.cons_append,fins,up]
      clear hF
      have x6:=Ext.tr xx1 e6
      have r3_3:=(Qac r3_2 e3)
      have r3_4:=(Qac r3_3 e4)
      have r3_5:=(Qac r3_4 e5)
      have r3_6:=(Qac r3_5 e6)
      have r2_6:=(Qac r2_5 e6)
      refine Qby _ g3 _ (cat [#[.int .i64 0],ints .u8 (List.replicate 32 0),#[.slice none 0 0]]) 50 r3_6 rfl (Qal 50 _ _ g3 50 _ _ r3_6 rfl kj kj (isz (n:=34) kj (by rw [Qaa,Qaa,Qaa]; simp only [qS,cat,((Qad _ _).trans (List.length_replicate (n:=32)))]; rfl)) (eqsz (n:=34) (by rw [Qaa,Qaa,Qaa]; simp only [qS,cat,((Qad _ _).trans (List.length_replicate (n:=32)))]; rfl) (by rw [Qaa,Qaa,Qaa]; simp only [qS,cat,((Qad _ _).trans (List.length_replicate (n:=32)))]; rfl)) (QaD _ (by intro a ha; simp only [List.mem_cons,List.not_mem_nil,or_false] at ha; rcases ha with rfl | rfl | rfl; exact (Qan _ rfl); exact (Qau _ _); exact (Qan _ rfl)))) (fun W hp=>Puts.row hp r2_6 (Qae r2_1 l3)) fun W7 p7 r3_7=>?_
      have x7:=Puts.ext p7 x6 b3
      have r4_4:=(Qac r4_3 e4)
      have r4_5:=(Qac r4_4 e5)
      have r4_6:=(Qac r4_5 e6)
      have r4_7:=(Puts.row p7 r4_6 (Qa8 r3_2 l4))
      have r2_7:=(Puts.row p7 r2_6 (Qae r2_1 l3))
      refine Qby _ g4 _ (cat [ints .u8 (sec),#[.int .i64 ((pl:Nat):Int)],#[.slice h_a h_n h_c],#[.slice a_z zs.length c_z],#[.int .i64 ((lo:Nat):Int)]]) 34 r4_7 rfl (Qal 34 _ _ g4 34 _ _ r4_7 rfl kj kj (isz (n:=36) kj (by rw [Qaa,Qaa,Qaa,Qaa,Qaa]; simp only [qS,cat,((Qad _ _).trans hsl)]; rfl)) (eqsz (n:=36) (by rw [Qaa,Qaa,Qaa,Qaa,Qaa]; simp only [qS,cat,((Qad _ _).trans (List.length_replicate (n:=32)))]; rfl) (by rw [Qaa,Qaa,Qaa,Qaa,Qaa]; simp only [qS,cat,((Qad _ _).trans hsl)]; rfl)) (QaD _ (by intro a ha; simp only [List.mem_cons,List.not_mem_nil,or_false] at ha; rcases ha with rfl | rfl | rfl | rfl | rfl; exact (Qau _ _); exact (Qan _ rfl); exact (Qan _ rfl); exact (Qan _ rfl); exact (Qan _ rfl)))) (fun W hp=>Puts.row hp r2_7 (Qae r2_2 l4)) fun W8 p8 r4_8=>?_
      have x8:=Puts.ext p8 x7 b4
      refine QdA <| hK26 _ _ <| wp_ret ?_
      repeat (first | with_reducible refine goR1 ?_ | with_reducible refine goR2 ?_)
      have r3_8:=(Puts.row p8 r3_7 (Qae r3_2 l4))
      exact (show bodyPost _ _ _ .ret _ _ from ret3 (.agg (cat [#[.int .i64 0],ints .u8 (List.replicate 32 0),#[.slice none 0 0]])) (.agg (cat [ints .u8 (sec),#[.int .i64 ((pl:Nat):Int)],#[.slice h_a h_n h_c],#[.slice a_z zs.length c_z],#[.int .i64 ((lo:Nat):Int)]])) (.int .i64 7) rfl (QaE g3 50 _ r3_8 kj kj (isz (n:=34) kj (by rw [Qaa,Qaa,Qaa]; simp only [qS,cat,((Qad _ _).trans (List.length_replicate (n:=32)))]; rfl))) (QaE g4 34 _ r4_8 kj kj (isz (n:=36) kj (by rw [Qaa,Qaa,Qaa,Qaa,Qaa]; simp only [qS,cat,((Qad _ _).trans hsl)]; rfl))) (Qa2 kj) ⟨by rw [show refN lo zs pl n=7 from by unfold refN; rw [if_neg hn0,if_neg hn1,if_neg hn2]; exact if_pos hn4],x8⟩)
     ·skip
      have hn3:nth zs i≠n:=QeH c25
      have hnz2:∀ j,j<i+1→nth zs j≠n:=fun j hj=>by rcases Nat.lt_or_ge j i with q | q; exact hnz j q; exact (show j=i by omega)▸hn3
      refine wp_skip <| hK22 _ _ <| Qaf <| sg 1 kj <| Qab (.int .i64 ((i+1:Nat):Int)) 39 rfl kj (Qai (u:=.int .i64 (IntKind.i64.wrap (((i:Nat):Int)+1))) kj (congrArg (Value.int .i64) (i64n _ _ (by omega) (by omega)))) <| sg 1 kj <| Qak ?_
      repeat (first | with_reducible refine goX1 ?_ | with_reducible refine goX2 ?_ | with_reducible refine goX3 ?_)
      exact Qa4 (i+1) ⟨kj,kj,kj,kj,kj,kj,trivial⟩ ⟨(by omega),hnz2,e5,xx1⟩ (by show zs.length-(i+1)<zs.length-i; omega)
    ·skip
     have heq37:i=zs.length:=by have:=of_decide_eq_false c21; omega
     have hn3:n∉zs:=fun hm=>by
      obtain ⟨j,hj,e⟩:=List.getElem_of_mem hm
      exact hnz j (by omega) (by rw [←e]; simp [nth,List.getElem?_eq_getElem hj])
     refine wp_exit <| hK17 _ _ <| wp_seq_k fun K27 hK27=>wp_seq_k fun K28 hK28=>?_
     have hn4:((pl:Nat):Int)+256<n:=by
      rcases Int.lt_or_le (((pl:Nat):Int)+256) n with q | q
      ·exact q
      ·exact absurd (show refN lo zs pl n=0 by unfold refN; rw [if_neg hn0,if_neg hn1,if_neg hn2,if_neg hn3]; exact if_neg (by omega)) hne
     ·skip
      refine Qaf <| sg 2 kj <| Qab (.int .i64 ((pl:Nat):Int)) 51 rfl kj (Qag 3 _ g2 32 34 _ (.int .i64 ((pl:Nat):Int)) _ r2_5 rfl kj (Qaw [ints .u8 (sec)] [#[.int .i64 ((pl:Nat):Int)]] [#[.slice h_a h_n h_c],#[.slice a_z zs.length c_z],#[.int .i64 ((lo:Nat):Int)]] 32 ((Qad _ _).trans hsl) 0 _ rfl) kj) <| Qab (.bool true) 52 rfl kj (Qai (u:=.bool (decide (n>((pl:Nat):Int)))) kj (congrArg Value.bool (decide_eq_true (by omega)))) <| sg 3 kj <| Qab (.int .i64 ((pl:Nat):Int)) 56 rfl kj (Qag 3 _ g2 32 34 _ (.int .i64 ((pl:Nat):Int)) _ r2_5 rfl kj (Qaw [ints .u8 (sec)] [#[.int .i64 ((pl:Nat):Int)]] [#[.slice h_a h_n h_c],#[.slice a_z zs.length c_z],#[.int .i64 ((lo:Nat):Int)]] 32 ((Qad _ _).trans hsl) 0 _ rfl) kj) <| Qab (.int .i64 (n-((pl:Nat):Int))) 57 rfl kj (Qai (u:=.int .i64 (IntKind.i64.wrap (n-((pl:Nat):Int)))) kj (congrArg (Value.int .i64) (Qbp _ (by omega)))) <| Qab (.bool true) 58 rfl kj (Qai (u:=.bool (decide ((n-((pl:Nat):Int))>256))) kj (congrArg Value.bool (decide_eq_true (by omega)))) <| sg 1 kj <| sgN hK28 ?_
      refine cond_true kj <| wp_seq_k fun K29 hK29=>Qb3 (fun W=>W.heap[g2]? = some (.cells (cat [ints .u8 (sec),#[.int .i64 ((pl:Nat):Int)],#[.slice h_a h_n h_c],#[.slice a_z zs.length c_z],#[.int .i64 ((lo:Nat):Int)]]) 34)) [⟨none,[]⟩,⟨none,[(2,none)]⟩,⟨none,[(4,none),(60,some 0)]⟩,⟨none,[(5,none),(61,some 1)]⟩,⟨none,[]⟩] [] [1,4] kj kj kj (fun W hR=>Qac r2_5 hR) fun F hF=>QdU (.agg (cat [#[.int .i64 0],ints .u8 (List.replicate 32 0),#[.slice none 0 0]])) kj kj rfl (fun W=>by kernel_rfl) <| QcM (.agg (cat [ints .u8 (sec),#[.int .i64 ((pl:Nat):Int)],#[.slice h_a h_n h_c],#[.slice a_z zs.length c_z],#[.int .i64 ((lo:Nat):Int)]])) kj kj kj rfl (fun W hW=>(Qaq 34 _ g2 34 _ _ hW rfl kj kj (isz (n:=36) kj (by rw [Qaa,Qaa,Qaa,Qaa,Qaa]; simp only [qS,cat,((Qad _ _).trans hsl)]; rfl)))) ?_
      refine Qb6 rfl <| Qb6 rfl <| QdU (.int .i64 12) kj kj rfl (fun W=>by kernel_rfl) <| Qf1 (hF _ kj fun W6 e6=>?_)
      simp only [List.nil_append,List.cons_append,fins,up]
      clear hF
      have x6:=Ext.tr xx1 e6
      have r3_3:=(Qac r3_2 e3)
      have r3_4:=(Qac r3_3 e4)
      have r3_5:=(Qac r3_4 e5)
      have r3_6:=(Qac r3_5 e6)
      have r2_6:=(Qac r2_5 e6)
      refine Qby _ g3 _ (cat [#[.int .i64 0],ints .u8 (List.replicate 32 0),#[.slice none 0 0]]) 50 r3_6 rfl (Qal 50 _ _ g3 50 _ _ r3_6 rfl kj kj (isz (n:=34) kj (by rw [Qaa,Qaa,Qaa]; simp only [qS,cat,((Qad _ _).trans (List.length_replicate (n:=32)))]; rfl)) (eqsz (n:=34) (by rw [Qaa,Qaa,Qaa]; simp only [qS,cat,((Qad _ _).trans (List.length_replicate (n:=32)))]; rfl) (by rw [Qaa,Qaa,Qaa]; simp only [qS,cat,((Qad _ _).trans (List.length_replicate (n:=32)))]; rfl)) (QaD _ (by intro a ha; simp only [List.mem_cons,List.not_mem_nil,or_false] at ha; rcases ha with rfl | rfl | rfl; exact (Qan _ rfl); exact (Qau _ _); exact (Qan _ rfl)))) (fun W hp=>Puts.row hp r2_6 (Qae r2_1 l3)) fun W7 p7 r3_7=>?_
      have x7:=Puts.ext p7 x6 b3
      have r4_4:=(Qac r4_3 e4)
      have r4_5:=(Qac r4_4 e5)
      have r4_6:=(Qac r4_5 e6)
      have r4_7:=(Puts.row p7 r4_6 (Qa8 r3_2 l4))
      have r2_7:=(Puts.row p7 r2_6 (Qae r2_1 l3))
      refine Qby _ g4 _ (cat [ints .u8 (sec),#[.int .i64 ((pl:Nat):Int)],#[.slice h_a h_n h_c],#[.slice a_z zs.length c_z],#[.int .i64 ((lo:Nat):Int)]]) 34 r4_7 rfl (Qal 34 _ _ g4 34 _ _ r4_7 rfl kj kj (isz (n:=36) kj (by rw [Qaa,Qaa,Qaa,Qaa,Qaa]; simp only [qS,cat,((Qad _ _).trans hsl)]; rfl)) (eqsz (n:=36) (by rw [Qaa,Qaa,Qaa,Qaa,Qaa]; simp only [qS,cat,((Qad _ _).trans (List.length_replicate (n:=32)))]; rfl) (by rw [Qaa,Qaa,Qaa,Qaa,Qaa]; simp only [qS,cat,((Qad _ _).trans hsl)]; rfl)) (QaD _ (by intro a ha; simp only [List.mem_cons,List.not_mem_nil,or_false] at ha; rcases ha with rfl | rfl | rfl | rfl | rfl; exact (Qau _ _); exact (Qan _ rfl); exact (Qan _ rfl); exact (Qan _ rfl); exact (Qan _ rfl)))) (fun W hp=>Puts.row hp r2_7 (Qae r2_2 l4)) fun W8 p8 r4_8=>?_
      have x8:=Puts.ext p8 x7 b4
      refine QdA <| hK29 _ _ <| wp_ret ?_
      repeat (first | with_reducible refine goR1 ?_ | with_reducible refine goR2 ?_)
      have r3_8:=(Puts.row p8 r3_7 (Qae r3_2 l4))
      exact (show bodyPost _ _ _ .ret _ _ from ret3 (.agg (cat [#[.int .i64 0],ints .u8 (List.replicate 32 0),#[.slice none 0 0]])) (.agg (cat [ints .u8 (sec),#[.int .i64 ((pl:Nat):Int)],#[.slice h_a h_n h_c],#[.slice a_z zs.length c_z],#[.int .i64 ((lo:Nat):Int)]])) (.int .i64 12) rfl (QaE g3 50 _ r3_8 kj kj (isz (n:=34) kj (by rw [Qaa,Qaa,Qaa]; simp only [qS,cat,((Qad _ _).trans (List.length_replicate (n:=32)))]; rfl))) (QaE g4 34 _ r4_8 kj kj (isz (n:=36) kj (by rw [Qaa,Qaa,Qaa,Qaa,Qaa]; simp only [qS,cat,((Qad _ _).trans hsl)]; rfl))) (Qa2 kj) ⟨by rw [show refN lo zs pl n=12 from by unfold refN; rw [if_neg hn0,if_neg hn1,if_neg hn2,if_neg hn3]; exact if_pos hn4],x8⟩)
end Go.Proofs.YtibegnjaphohaaaDoor.Cn
end
section
namespace Go.Proofs.YtibegnjaphohaaaDoor.Wk
open Go Go.RowKit
open Rely Auto Own Sha
variable {P : Program} {ops : Array Oper} {Q : Exit → Act → World → Prop}
def allR (P : Program) (ops:Array Oper) (Q:Exit→Act→World→Prop) (Rd:World→Prop):Nat→Array Bool→Act→World→Prop
  | 0,listed,a,w=>Region.ready .any ops listed=[]∧Q .normal a w
  | fuel+1,listed,a,w=>(Region.ready .any ops listed=[]→Q .normal a w)∧∀ i∈Region.ready .any ops listed,wpOp P ops Q i (fun a' w'=>Rd w'∧allR P ops Q Rd fuel (listed.setIfInBounds i true) a' w') a w
theorem QhE {Rd : World→Prop}:∀ (fuel:Nat) (listed:Array Bool) (a:Act) (w:World),allR P ops Q Rd fuel listed a w→wpAny P .any ops Q fuel listed a w
  | 0,_,_,_,h=>h
  | _+1,_,_,_,h=>⟨h.1,fun i hi=>wpOp_mono (fun a w h=>QhE _ _ a w h.2) (h.2 i hi)⟩
def Qck (P : Program) (ops:Array Oper) (Rd:World→Prop) (o:Oper) (v:Value) (a:Act):Prop :=
  (Region.wanted o (yielded ops a.tmps)=true∧∀ w,Rd w→(execOp a.eval o).run P w=.ok (.value v) w)∨(Region.wanted o (yielded ops a.tmps)=false∧v=undef)
theorem Qck.wpOp {Rd : World→Prop} {i:Nat} {o:Oper} {v:Value} {a:Act} (hi:ops[i]? = some o) (hy:Qck P ops Rd o v a) {K:Act→World→Prop} {w:World} (hw:Rd w) (h:K (a.put o.dst v) w):wpOp P ops Q i K a w:=by
  unfold Go.wpOp
  simp only [hi]
  rcases hy with ⟨hw1,hv⟩ | ⟨hw1,rfl⟩
  · simp only [hw1,if_true,Oper.wp,hv w hw,Oper.upon]; exact .inl h
  · simp only [hw1,Bool.false_eq_true,if_false]; exact h
theorem Qck.same {Rd : World→Prop} {o:Oper} {v:Value} {a a':Act} (hy:Qck P ops Rd o v a) (he:execOp a'.eval o=execOp a.eval o) (hw:Region.wanted o (yielded ops a'.tmps)=Region.wanted o (yielded ops a.tmps)):Qck P ops Rd o v a':=by
  unfold Qck at *
  rw [he,hw]
  exact hy
theorem Qlv {Rd : World→Prop} {j:Nat} {oi oj:Oper} {v:Value} (hj:ops[j]? = some oj) (hap:oi.apart ops oj=true) (hsi:∀ cs b,oi.op≠.select cs b) (hsj:∀ cs b,oj.op≠.select cs b)
    (hQ:∀ c a w,Q (.panic c) (a.put oi.dst v) w→Q (.panic c) a w) {K:Act→World→Prop} {a:Act} {w:World} (hy:Qck P ops Rd oi v a) (h:wpOp P ops Q j K (a.put oi.dst v) w) :
    wpOp P ops Q j (fun a' w'=>Qck P ops Rd oi v a'∧K (a'.put oi.dst v) w') a w:=by
  obtain ⟨h1,h2,h3⟩:=Oper.apart_spec hap
  have keep:∀ (a:Act),Qck P ops Rd oi v a→∀ u,Qck P ops Rd oi v (a.put oj.dst u):=fun a hy u=>hy.same (execOp_put oi hsi a oj.dst u h3) (wanted_put oi a oj.dst u h3)
  have keepD:∀ d,Qck P ops Rd oi v { a with defers:=d::a.defers }:=fun d=>hy.same rfl rfl
  unfold wpOp at *
  simp only [hj] at *
  rw [wanted_put oj a oi.dst v h1] at h
  split
  · rename_i hw
    simp only [hw,if_true] at h
    rcases h with h | ⟨hasks,hlets⟩
    case inr=>exact .inr ⟨by unfold Oper.asks at *; rw [execOp_put oj hsj a oi.dst v h1] at hasks; exact hasks,hlets⟩
    refine .inl ?_
    unfold Oper.wp at *
    rw [execOp_put oj hsj a oi.dst v h1] at h
    generalize (execOp a.eval oj).run P w=r at *
    cases r with
    | ok n w' =>
      cases n <;> simp only [Oper.upon] at h ⊢
      case value u=>exact ⟨keep a hy u,by rw [←Act.put_comm a v u h2]; exact h⟩
      case skip=>exact ⟨keep a hy _,by rw [←Act.put_comm a v undef h2]; exact h⟩
      case defer d =>
        refine ⟨keep _ (keepD d) _,?_⟩
        rw [←Act.put_comm _ v undef h2,←Act.put_defers]
        exact h
      case enter f args =>
        refine Calls.mono h fun e w'' he=>?_
        cases e with
        | returned u=>exact ⟨keep a hy u,by rw [←Act.put_comm a v u h2]; exact he⟩
        | panicked c=>exact hQ _ _ _ he
        | outgrown=>exact he
      case row row args=>exact Rows.mono h fun u w'' he=>⟨keep a hy u,by rw [←Act.put_comm a v u h2]; exact he⟩
    | halt x w' =>
      cases x <;> simp only [Oper.upon] at h ⊢
      case panic u=>exact hQ _ _ _ h
  · rename_i hw
    simp only [hw] at h
    exact ⟨keep a hy _,by rw [←Act.put_comm a v undef h2]; exact h⟩
theorem Qim {Rd : World→Prop} {i:Nat} {oi:Oper} {v:Value} (hi:ops[i]? = some oi) (hsel:∀ (j:Nat) (o:Oper) cs b,ops[j]? = some o→o.op≠.select cs b) (hQ:∀ c a w,Q (.panic c) (a.put oi.dst v) w→Q (.panic c) a w) :
    ∀ (fuel:Nat) (listed:Array Bool) (a:Act) (w:World),Rd w →
      (∀ j oj,ops[j]? = some oj→j≠i→listed.getD j true=false→(∀ e∈oj.after,Region.binds .any e=true→e.on≠i)→oi.apart ops oj=true) →
      i∈Region.ready .any ops listed→Qck P ops Rd oi v a→allR P ops Q Rd fuel (listed.setIfInBounds i true) (a.put oi.dst v) w→allR P ops Q Rd (fuel+1) listed a w:=by
  intro fuel
  induction fuel with
  | zero =>
    intro listed a w hw _ hr hy H
    refine ⟨fun h=>(by rw [h] at hr; cases hr),fun j hj=>?_⟩
    by_cases hji:j=i
    · subst hji; exact hy.wpOp hi hw ⟨hw,H⟩
    · have:=ready_mono hj hji
      rw [H.1] at this
      cases this
  | succ fuel ih =>
    intro listed a w hw hfree hr hy H
    refine ⟨fun h=>(by rw [h] at hr; cases hr),fun j hj=>?_⟩
    by_cases hji:j=i
    · subst hji; exact hy.wpOp hi hw ⟨hw,H⟩
    · have h1:=H.2 j (ready_mono hj hji)
      obtain ⟨hjun,oj,hoj,hall⟩:=mem_ready.1 hj
      have hnot:∀ e∈oj.after,Region.binds .any e=true→e.on≠i:=fun e he hb heq=>by
        have h1:=hall e he hb
        have h0:=(mem_ready.1 hr).1
        rw [heq] at h1
        rcases Nat.lt_or_ge i listed.size with h' | h'
        · simp [h'] at h0 h1; rw [h0] at h1; cases h1
        · simp [Array.getElem?_eq_none h'] at h1
      have h2:=Qlv hoj (hfree j oj hoj hji hjun hnot) (fun cs b=>hsel i oi cs b hi) (fun cs b=>hsel j oj cs b hoj) hQ hy h1
      have hfree':∀ k ok,ops[k]? = some ok→k≠i→(listed.setIfInBounds j true).getD k true=false→(∀ e∈ok.after,Region.binds .any e=true→e.on≠i)→oi.apart ops ok=true:=fun k ok hk hki hun hno=>by
        refine hfree k ok hk hki ?_ hno
        by_cases hjk:j=k
        · subst hjk; exact hjun
        · rw [getD_set_ne true hjk] at hun; exact hun
      refine wpOp_mono (fun a' w' h3=>⟨h3.2.1,ih (listed.setIfInBounds j true) a' w' h3.2.1 hfree' (ready_mono hr (Ne.symm hji)) h3.1 ?_⟩) h2
      rw [Array.setIfInBounds_comm _ _ hji]
      exact h3.2.2
structure WB (P : Program) (ops : Array Oper) (Q : Exit → Act → World → Prop) (Rd : World → Prop) (fuel : Nat) (listed : Array Bool) (a : Act) (w : World) : Prop where
  out:Rd w→allR P ops Q Rd fuel listed a w
structure WO (P : Program) (ops : Array Oper) (Q : Exit → Act → World → Prop) (Rd : World → Prop) (k fuel : Nat) (listed : Array Bool) (a : Act) (w : World) : Prop where
  out:wpOp P ops Q k (fun a' w'=>Rd w'∧allR P ops Q Rd fuel (listed.setIfInBounds k true) a' w') a w
variable {o : Oper} {N : Nat} {L : Env} {w V : World} {ds : List Deferred} {fuel : Nat} {listed : Array Bool} {k : Nat} {a : Act} {Rd : World → Prop}
theorem Qda {id : Nat} {l:List Oper} (hm:P.follows .mixedOrders=true) (h:∀ W,Ext w W→WB P l.toArray Q (Ext W) l.length (Array.replicate l.length false) (Qa0 ds N L) W):(Code.region id l.toArray true).wp P Q (Qa0 ds N L) w:=by
  refine wp_region_any hm ?_
  have:=QhE _ _ _ _ ((h w.drew (Qaz w)).out (Ext.refl _))
  simpa using this
theorem QaY (k : Nat) (v:Value) (d:Nat) (ho:ops[k]? = some o) (hd:o.dst=some d) (hg:Qbr ops o N L=some true) (hc:(Region.noSelect ops&&Region.free .any ops listed k&&(Region.ready .any ops listed).contains k)=true)
    (hQ:∀ c a w,Q (.panic c) (a.put o.dst v) w→Q (.panic c) a w) (h:∀ W,Rd W→(execOp (Rely.look (envN N L)) o).run P W=.ok (.value v) W) (kk:WB P ops Q Rd fuel (listed.setIfInBounds k true) (Qa0 ds N ((d,v)::L)) w):WB P ops Q Rd (fuel+1) listed (Qa0 ds N L) w:=by
  simp only [Bool.and_eq_true] at hc
  refine ⟨fun hw=>Qim ho (Region.noSelect_spec hc.1.1) hQ fuel listed _ w hw (Region.free_spec ho hc.1.2) (by simpa using hc.2) (.inl ⟨QbP hg,fun W hW=>?_⟩) ?_⟩
  · rw [Qbm]; exact h W hW
  · rw [hd,Qbo]; exact kk.out hw
theorem Qe6 (k : Nat) (hr:Region.ready .any ops listed=[k]) (h:WO P ops Q Rd k fuel listed a w):WB P ops Q Rd (fuel+1) listed a w :=
  ⟨fun _=>⟨fun h0=>(by rw [hr] at h0; cases h0),fun i hi=>by rw [hr] at hi; obtain rfl:i=k:=(by simpa using hi); exact h.out⟩⟩
theorem QcL (ho : ops[k]? = some o) (R:Value→World→Prop) (f:FuncId) (args:Array Value) (d:Nat) (hd:o.dst=some d) (hg:Qbr ops o N L=some true)
    (h:(execOp (Rely.look (envN N L)) o).run P w=.ok (.enter f args) w) (hc:Calls P f args w fun e w'=>∃ v,e=.returned v∧R v w') (hR:∀ v W,R v W→Rd W) (kk:∀ (v:Value) (W:World),R v W→WB P ops Q Rd fuel (listed.setIfInBounds k true) (Qa0 ds N ((d,v)::L)) W):WO P ops Q Rd k fuel listed (Qa0 ds N L) w:=by
  refine ⟨?_⟩
  unfold wpOp
  rw [ho]
  simp only [QbP hg,if_true]
  refine .inl ?_
  unfold Oper.wp
  rw [Qbm,h]
  refine hc.mono ?_
  rintro e w' ⟨v,rfl,hw⟩
  show _∧allR _ _ _ _ _ _ _ _
  rw [hd,Qbo]
  exact ⟨hR v w' hw,(kk v w' hw).out (hR v w' hw)⟩
def Ef (P : Program) (o:Oper) (ρ:Operand→Value) (W:World) (φ:Value→World→Prop):Prop :=
  (∃ v W',(execOp ρ o).run P W=.ok (.value v) W'∧Ext W W'∧φ v W')∨∃ f args,(execOp ρ o).run P W=.ok (.enter f args) W∧Calls P f args W fun e W'=>∃ v,e=.returned v∧Ext W W'∧φ v W'
theorem Ef.put {φ : Value→World→Prop} {d:Nat} {v:Value} (h:Ef P o a.eval w φ) (hs:∀ cs b,o.op≠.select cs b) (hd:∀ e,some d=some e→e∉o.looksAt ops):Ef P o (a.put (some d) v).eval w φ:=by
  unfold Ef
  rw [execOp_put (ops:=ops) o hs a (some d) v hd]
  exact h
theorem Qir (hr : Region.ready .any ops listed=[]) (h:Q .normal (Qa0 ds N L) w):WB P ops Q Rd fuel listed (Qa0 ds N L) w :=
  ⟨fun _=>by cases fuel with
    | zero=>exact ⟨hr,h⟩
    | succ n=>exact ⟨fun _=>h,by rw [hr]; simp⟩⟩
end Go.Proofs.YtibegnjaphohaaaDoor.Wk
end
section
namespace Go.Proofs.YtibegnjaphohaaaDoor.Cn
open Go Go.RowKit
open Rely Auto Own Sha
open Go.Proofs.YtibegnjaphohaaaDoor
open Wk
theorem QkN (x : Hd):(hdC x)[0]? = some (.int .i64 ((x.n:Nat):Int)):=by unfold hdC hdP; simp [cat]
theorem QiQ {T : TypeId} {base sz n B b:Nat} {xs:List Value} {v:Value} {W W':World} (h:W.ownsRow base T sz v n xs) (hl:∀ g,v.ownBlock=some g→g<B) (p:Puts W b W') (hb:B≤b):W'.ownsRow base T sz v n xs:=Qcp h fun g hg=>p.2.2.2.2 g (by have:=hl g hg; omega)
theorem Qlq {T : TypeId} {base sz n B b:Nat} {xs:List Value} {v:Value} {W W':World} (h:W.ownsRow base T sz v n xs) (hl:∀ g,v.ownBlock=some g→g<B) (l:RowKit.Below b W W') (hb:B≤b):W'.ownsRow base T sz v n xs:=Qcp h fun g hg=>l.block g (by have:=hl g hg; omega)
theorem Qm0 {T : TypeId} {base sz n:Nat} {xs:List Value} {v:Value} {W:World} (h:W.ownsRow base T sz v n xs):∀ g,v.ownBlock=some g→g<W.heap.size:=fun g hg=>by obtain ⟨-,cur,r⟩:=Qch h hg; exact Qay r
theorem QaI {k : IntKind} {T T0:TypeId} {base:Nat} {xs:List Int} {v:Value} {W W':World} (h:OwnN k T base xs v W) (q:Qfa T0 W W') (hT:T0≠T):OwnN k T base xs v W':=h.keep fun g hg=>by obtain ⟨cur,r⟩:=Qcc h hg; exact (q g cur _ (Ne.symm hT) r).trans r.symm
theorem Qlp {T : TypeId} {base:Nat} {xs:List Int} {v:Value} {W:World} (h:W.ownsRow base T 1 v xs.length (xs.map (Value.int .i64))):OwnN .i64 T base xs v W:=⟨h,Qlr h⟩
section
variable {P : Program} {ρ : Operand → Value} {o : Oper} {w : World}
theorem QeB (ty : TypeId) (x:Operand) {base g c i:Nat} {ts:List Hd} (hm:∀ x∈ts,x.m.length=44) (h:HdO base ts (.slice (some ⟨g,0,none⟩) ts.length c) w) (hi:i<ts.length) (ho:o.op=.load ty x) (hx:ρ x=.pointer (some ⟨g,0+i*34+0,none⟩)) (hu:aggD P ty=some false):(execOp ρ o).run P w=.ok (.value (.int .i64 (((ts.getD i hd0).n:Nat):Int))) w :=
  QgH ty x g _ _ (QeR hd0 (fun x hx=>Qjo (hm x hx)) h i hi 0 _ (QkN _)) ho hx hu
theorem Qi7 (ty : TypeId) (x:Operand) {base g c i:Nat} {ts:List Hd} (hm:∀ x∈ts,x.m.length=44) (h:HdO base ts (.slice (some ⟨g,0,none⟩) ts.length c) w) (hi:i<ts.length) (ho:o.op=.load ty x) (hx:ρ x=.pointer (some ⟨g,0+i*34,none⟩)) (hu:aggD P ty=some true) (hz:(P.info? ty).map (·.size)=some 34):(execOp ρ o).run P w=.ok (.value (.agg (cat (hdP (ts.getD i hd0))))) w :=
  Qd2 ty x g _ 34 _ (.int .i64 (((ts.getD i hd0).n:Nat):Int)) (by rw [←Array.getElem?_toList]; exact QkN _) (Qdu _ (hm _ (Qcd ts hd0 i hi))) (fun j v hv=>QeR hd0 (fun x hx=>Qjo (hm x hx)) h i hi j v (by unfold hdC; rw [Array.getElem?_toList]; exact hv)) ho hx hu hz
end
structure HdK (L : Nat → List Int) (t0 : List Hd) (b0 : Nat) (x : Hd) (W : World) : Prop where
  inn:InHd x W
  of:x.m=keyV (L x.n)
  new:x∈t0∨OwnN .u8 5 b0 x.m (.slice x.a x.m.length x.c) W
theorem QfP {L : Nat→List Int} {t0:List Hd} {b0:Nat} {x:Hd} {W W':World} {T:TypeId} (h:HdK L t0 b0 x W) (q:Qfa T W W') (hT:T≠5):HdK L t0 b0 x W':=⟨Qcf h.inn q hT,h.of,h.new.imp id fun h=>h.keep fun g hg=>by obtain ⟨cur,r⟩:=Qcc h hg; exact (q g cur _ (Ne.symm hT) r).trans r.symm⟩
theorem QaV {L : Nat→List Int} {t0 ts:List Hd} {b0:Nat} {W W':World} {T:TypeId} (h:∀ x∈ts,HdK L t0 b0 x W) (q:Qfa T W W') (hT:T≠5):∀ x∈ts,HdK L t0 b0 x W':=fun x hx=>QfP (h x hx) q hT
theorem Qd6 {L : Nat→List Int} {t0 ts:List Hd} {b0:Nat} {W:World} (h:∀ x∈ts,HdK L t0 b0 x W):∀ x∈ts,x.m.length=44:=fun x hx=>(h x hx).inn.len
theorem QlQ {ts : List Hd}:∀ z∈ts.flatMap hdC,z.oneCell'=true:=fun z hz=>by
  obtain ⟨x,-,h⟩:=List.mem_flatMap.1 hz
  exact QgT x z h
theorem QkO {base : Nat} {ts:List Hd} {x:Hd} {v:Value} {W:World} (h:W.ownsRow base 50 34 v (ts.length+1) (ts.flatMap hdC++hdC x)):HdO base (ts++[x]) v W:=by
  show W.ownsRow base 50 34 v (ts++[x]).length ((ts++[x]).flatMap hdC)
  rw [List.length_append,List.flatMap_append]
  simpa using h
def hdP? (n mx:Nat) (x:Hd):Bool:=decide (x.n≠n∧mx≤x.n+65)
theorem Qjn (n mx:Nat) (ts:List Hd):(ts.filter (hdP? n mx)).map (·.n)=(ts.map (·.n)).filter fun k=>decide (k≠n∧mx≤k+65):=by
  rw [List.filter_map]; rfl
theorem QlP (q : Hd→Bool) (ts:List Hd) (i:Nat) (h:i<ts.length):(ts.take (i+1)).filter q=(ts.take i).filter q++(if q (ts.getD i hd0) then [ts.getD i hd0] else []):=by
  rw [Qe7 ts hd0 i h,List.filter_append]
  congr 1
  by_cases hq:q (ts.getD i hd0)=true
  · rw [if_pos hq,List.filter_cons_of_pos hq,List.filter_nil]
  · rw [if_neg hq,List.filter_cons_of_neg hq,List.filter_nil]
theorem QkK (sec : List Int) (hsl:sec.length=32) (pl:Nat) (h_a:Option Addr) (h_n h_c:Nat) (zs:List Int) (hzl:zs.length≤1000000) (a_z:Option Addr) (c_z:Nat) (low:Int) (w:World) (hlo:0≤low∧low≤4294967295) (hz:RdK .i64 w.heap.size zs (.slice a_z zs.length c_z) w) {v:Int} (hv:hiF (low-1) zs=v):Calls Tryd.prog 36 #[.agg (cat [ints .u8 (sec),#[.int .i64 ((pl:Nat):Int)],#[.slice h_a h_n h_c],#[.slice a_z zs.length c_z],#[.int .i64 low]])] w (Ret w (.int .i64 v)):=hv▸QlN sec hsl pl h_a h_n h_c zs hzl a_z c_z low w hlo hz
theorem QiC {lo pl:Nat} {zs:List Int} {n:Int} (h:refN lo zs pl n=0):(0≤n∧n≤4294967294)∧hiF (((lo:Nat):Int)-1) zs-64≤n∧((lo:Nat):Int)≤n∧n∉zs∧n≤((pl:Nat):Int)+256:=by
  unfold refN at h
  split at h
  · cases h
  · split at h
    · cases h
    · split at h
      · cases h
      · split at h
        · cases h
        · split at h
          · cases h
          · rename_i a b c d e
            exact ⟨by omega,by omega,by omega,d,by omega⟩
theorem ofH (sec : List Int) (hsl:sec.length=32) (hsb:Qat sec) (num:Nat) (w:World):Calls Tryd.prog 25 #[.agg (ints .u8 sec),.int .i64 ((num:Nat):Int)] w (QbN w (fun v W=>∃ x:Hd,v=.agg (cat (hdP x))∧x.n=num∧x.m=keyV sec∧InHd x W∧OwnN .u8 5 w.heap.size x.m (.slice x.a x.m.length x.c) W)):=by
 have hkv:keyV sec=kx sec (Qbn (strB sKey) [] 44) 44:=by unfold keyV; rfl
 refine enter 29 [(0,.agg (ints .u8 (sec))),(1,.int .i64 ((num:Nat):Int))] Tryd.func25 rfl rfl kj rfl <| sgC fun K1 hK1=>Qap (ints .u8 (sec)) 23 2 rfl kj kj fun g2 W1 l2 e1 r2_1=>?_
 have x1:=Ext.tr (Rely.Ext.refl w) e1
 have b2:=qT (Rely.Ext.refl w).size l2
 refine Qap (cat [#[.int .i64 0],ints .u8 (List.replicate 32 0),#[.slice none 0 0]]) 50 4 rfl kj kj fun g3 W2 l3 e2 r3_2=>?_
 have x2:=Ext.tr x1 e2
 refine sgN hK1 <| sgC fun K4 hK4=>Qab (.agg (ints .u8 (sec))) 10 rfl kj (Qaq 23 _ g2 23 _ _ (Qac r2_1 e2) rfl kj kj (isz (n:=32) kj ((Qad _ _).trans hsl))) <| Qa6 (fun v W'=>(fun v W=>∃ u,v=.tuple #[u,.bool true]∧OwnN .u8 5 W2.heap.size (kx sec (Qbn (strB sKey) [] 44) 44) u W) v W'∧Ext W2 W') 37 #[.agg (ints .u8 (sec)),.string sKey,.slice none 0 0,.int .i64 44] 11 rfl kj kj ((QiA sec [] sKey (.slice none 0 0) _ _ hsl hsb (fun x hx=>by cases hx) (nilrd _) 44 (by decide) Qhh (by decide)).mono (by rintro e w' ⟨v,rfl,e1,hv⟩; exact ⟨v,rfl,hv,e1⟩)) fun vv5 W3 hh5=>?_
 obtain ⟨hv5,e3⟩:=hh5
 have x3:=Ext.tr x2 e3
 obtain ⟨uu,rfl,huu0⟩:=hv5
 have huu:=huu0
 rw [←hkv] at huu
 obtain ⟨au,cu,rfl,hcu,-⟩:=id (OwnN.rd huu)
 have nb4:(Value.slice au (keyV sec).length cu).ownBlock≠some g3:=fun e=>by have h1:=OwnN.ge huu e; have h2:=Qay r3_2; omega
 refine sg 5 kj <| sgN hK4 <| sgC fun K6 hK6=>Qap (ints .u8 (List.replicate 32 0)) 37 7 rfl kj kj fun g7 W4 l7 e4 r7_4=>sgN hK6 <| wp_seq_k fun K8 hK8=>sgB kj <| wp_block <| QaC (fun (s1:Nat)=>[(1,.int .i64 ((num:Nat):Int)),(2,.pointer (some ⟨g2,0,none⟩)),(4,.pointer (some ⟨g3,0,none⟩)),(5,.slice au ((keyV sec).length) cu),(7,.pointer (some ⟨g7,0,none⟩)),(8,.int .i64 ((s1:Nat):Int))]) (fun (s1:Nat) W=>(s1≤32)∧(W.heap[g7]? = some (.cells (ints .u8 (Qdh ((keyV sec).take 32) 32 s1)) 37))∧(Qah [g7] W4 W)∧(Ext w W)) (fun (s1:Nat)=>32-s1) 0 ⟨kj,kj,kj,kj,kj,kj,trivial⟩ ⟨(by decide),(Qbi r7_4 (Qfs ((keyV sec).take 32) 32)),(Qah.refl [g7] W4),(Ext.tr x3 e4)⟩ fun s1 X1 V1 hI1=>?_
 obtain ⟨i,hs1⟩:∃ z,z=s1:=⟨_,rfl⟩
 subst hs1
 obtain ⟨hi,q7_1,kk1,xx1⟩:=hI1
 replace hi:i≤32:=hi
 replace q7_1:V1.heap[g7]? = some (.cells (ints .u8 (Qdh ((keyV sec).take 32) 32 i)) 37):=q7_1
 replace kk1:Qah [g7] W4 V1:=kk1
 replace xx1:Ext w V1:=xx1
 have q5:=kk1
 refine wp_seq_k fun K10 hK10=>sgB kj <| Qa3 (t:=decide (((i:Nat):Int)<32)) kj (fun c12=>?_) (fun c12=>?_)
 ·skip
  have hlt:i<32:=by have:=of_decide_eq_true c12; omega
  refine wp_skip <| hK10 _ _ <| wp_seq_k fun K13 hK13=>wp_block <| Qaf <| sg 3 kj ?_
  have hnu_14:(keyV sec).length=44:=(QaB _)
  obtain ⟨gcu_14,ocu_14,hau_14,hlu_14,hcu_14⟩:=rdK_open (OwnN.rd (Auto.OwnN.keepsL (huu.ext e4) q5 (nb_cons (Qd0 huu l7) nb_nil))) (by rw [hnu_14]; omega)
  refine Qab (.pointer (some ⟨gcu_14,ocu_14+i,none⟩)) 21 rfl kj (run_indexA 38 _ _ .i64 i gcu_14 ocu_14 ((keyV sec).length) cu 5 au _ hau_14 rfl rfl kj kj kj kj (Nat.lt_of_lt_of_eq (show i<44 by omega) hnu_14.symm)) <| Qab (.int .u8 (nth (keyV sec) (i))) 22 rfl kj (QaH 5 _ _ (.int .u8 (nth (keyV sec) (i))) (hcu_14 i (Nat.lt_of_lt_of_eq (show i<44 by omega) hnu_14.symm)) rfl kj kj) <| Qab (.pointer (some ⟨g7,i,none⟩)) 23 rfl kj (Qbl _ _ _ .i64 (i) _ 32 5 rfl kj kj kj kj (by omega)) <| Qaj g7 _ (ints .u8 ((Qdh ((keyV sec).take 32) 32 i).set i (nth (keyV sec) (i)))) 37 q7_1 rfl kj (Qao 5 _ _ g7 i 37 _ _ q7_1 rfl kj kj kj (Nat.lt_of_lt_of_eq (by omega) (Qg4 _ 32 i (QaP (QaB _)) hi).symm)) fun W6 p6 r7_6=>?_
  have x6:=Puts.ext p6 xx1 (qT x3.size l7)
  refine Qak <| hK13 _ _ <| Qaf <| sg 1 kj <| Qab (.int .i64 ((i+1:Nat):Int)) 17 rfl kj (Qai (u:=.int .i64 (IntKind.i64.wrap (((i:Nat):Int)+1))) kj (congrArg (Value.int .i64) (i64n _ _ (by omega) (by omega)))) <| sg 1 kj <| Qak ?_
  repeat (first | with_reducible refine goX1 ?_ | with_reducible refine goX2 ?_ | with_reducible refine goX3 ?_)
  exact Qa4 (i+1) ⟨kj,kj,kj,kj,kj,kj,trivial⟩ ⟨(by omega),(Qbi r7_6 (Qij _ (QaB _) i hlt)),(Qah.puts q5 p6 (.inl (by simp))),x6⟩ (by show 32-(i+1)<32-i; omega)
 ·skip
  have hie:i=32:=by have:=of_decide_eq_false c12; omega
  subst hie
  have r7_5_17:V1.heap[g7]? = some (.cells (ints .u8 ((keyV sec).take 32)) 37):=Qbi q7_1 (Qfu _ 32 (QaP (QaB _)))
  refine wp_exit <| hK8 _ _ <| wp_seq_k fun K18 hK18=>Wm.region_walkM (fun W=>W.heap[g7]? = some (.cells (ints .u8 ((keyV sec).take 32)) 37)) 5 kj fun W6 e6=>⟨Qac r7_5_17 e6,?_⟩
  have x6:=Ext.tr xx1 e6
  refine Wm.wm_val 0 (.int .i64 ((num:Nat):Int)) 24 rfl rfl kj kj (by decide) kj (fun _ _ _ h=>h) (fun W hR=>by kernel_rfl) <| Wm.wm_val 1 (.agg (ints .u8 ((keyV sec).take 32))) 25 rfl rfl kj kj (by decide) kj (fun _ _ _ h=>h) (fun W hR=>(Qaq 37 _ g7 37 _ _ hR rfl kj kj (isz (n:=32) kj ((Qad _ _).trans (QaP (QaB _)))))) <| Wm.wm_val 2 (.slice au ((keyV sec).length) cu) 26 rfl rfl kj kj (by decide) kj (fun _ _ _ h=>h) (fun W hR=>by kernel_rfl) <| Wm.wm_val 3 (.slice (Qer au cu 32) ((keyV sec).length-32) (cu-32)) 27 rfl rfl kj kj (by decide) kj (fun _ _ _ h=>h) (fun W hR=>(QhV 38 _ _ 32 5 rfl kj kj kj .i64 kj (by rw [QaB]; decide) hcu)) ?_
  refine Wm.wm_val 4 (.agg (cat [#[.int .i64 ((num:Nat):Int)],ints .u8 ((keyV sec).take 32),#[.slice (Qer au cu 32) ((keyV sec).length-32) (cu-32)]])) 28 rfl rfl kj kj (by decide) kj (fun _ _ _ h=>h) (fun W hR=>(Qfl 50 _ (.agg (cat [#[.int .i64 0],ints .u8 (List.replicate 32 0),#[.slice none 0 0]])) #[(0,1),(1,32),(33,1)] [(0,1,.int .i64 ((num:Nat):Int),#[.int .i64 ((num:Nat):Int)]),(1,32,.agg (ints .u8 ((keyV sec).take 32)),ints .u8 ((keyV sec).take 32)),(2,1,.slice (Qer au cu 32) ((keyV sec).length-32) (cu-32),#[.slice (Qer au cu 32) ((keyV sec).length-32) (cu-32)])] rfl kj ⟨kj,rfl,kj,kj,rfl,((Qad _ _).trans (QaP (QaB _))),kj,rfl,kj,trivial⟩ kj kj kj kj)) ?_
  have r7_6:=(Qac r7_5_17 e6)
  have r3_3:=(Qac r3_2 e3)
  have r3_6:=(Qac (Qah.row q5 (Qac r3_3 e4) (Qax (Qae r3_3 l7) QaJ)) e6)
  refine Wm.wm_store g3 _ (cat [#[.int .i64 ((num:Nat):Int)],ints .u8 ((keyV sec).take 32),#[.slice (Qer au cu 32) ((keyV sec).length-32) (cu-32)]]) 50 r3_6 kj kj rfl rfl kj (Qal 50 _ _ g3 50 _ _ r3_6 rfl kj kj (isz (n:=34) kj (by rw [Qaa,Qaa,Qaa]; simp only [qS,cat,((Qad _ _).trans (QaP (QaB _)))]; rfl)) (eqsz (n:=34) (by rw [Qaa,Qaa,Qaa]; simp only [qS,cat,((Qad _ _).trans (List.length_replicate (n:=32)))]; rfl) (by rw [Qaa,Qaa,Qaa]; simp only [qS,cat,((Qad _ _).trans (QaP (QaB _)))]; rfl)) (QaD _ (by intro a ha; simp only [List.mem_cons,List.not_mem_nil,or_false] at ha; rcases ha with rfl | rfl | rfl; exact (Qan _ rfl); exact (Qau _ _); exact (Qan _ rfl)))) fun W7 p7 r3_7=>?_
  refine hK18 _ _ <| wp_ret ?_
  repeat (first | with_reducible refine goR1 ?_ | with_reducible refine goR2 ?_)
  have f22_7:=(((Auto.OwnN.keepsL (huu.ext e4) q5 (nb_cons (Qd0 huu l7) nb_nil)).ext e6).puts p7 nb4)
  exact (show bodyPost _ _ _ .ret _ _ from ret1 (.agg (cat [#[.int .i64 ((num:Nat):Int)],ints .u8 ((keyV sec).take 32),#[.slice (Qer au cu 32) ((keyV sec).length-32) (cu-32)]])) rfl (QaE g3 50 _ r3_7 kj kj (isz (n:=34) kj (by rw [Qaa,Qaa,Qaa]; simp only [qS,cat,((Qad _ _).trans (QaP (QaB _)))]; rfl))) ⟨_,rfl,(Puts.ext p7 x6 (qT x1.size l3)),⟨num,keyV sec,au,cu⟩,(by unfold hdP hdU; rw [QaB]),rfl,rfl,⟨QaB _,OwnN.base (Nat.zero_le _) f22_7⟩,OwnN.base x2.size f22_7⟩)
theorem QkZ (L : Nat→List Int) (hLl:∀ k,(L k).length=32) (hLb:∀ k,Qat (L k)) (pl lo:Nat) (hLn:∀ k,pl≤k→L (k+1)=nxtV (L k)) (hpl:pl≤4294967295) (hlo:lo≤pl) (zs:List Int) (hzl:zs.length≤1000) (a_z:Option Addr) (c_z:Nat) (t0:List Hd) (ht0:t0.length≤1000) (h_a:Option Addr) (h_c:Nat) (n:Nat) (w:World) (hz:OwnN .i64 3 0 zs (.slice a_z zs.length c_z) w) (hhi:hiF (((lo:Nat):Int)-1) zs=((pl:Nat):Int)-1) (h0h:HdO 0 t0 (.slice h_a t0.length h_c) w) (hin0:∀ x∈t0,InHd x w) (hof0:∀ x∈t0,x.m=keyV (L x.n)) (hmem:n<pl→n∈t0.map (·.n)) (h0:refN lo zs pl ((n:Nat):Int)=0):Calls Tryd.prog 19 #[.agg (cat [ints .u8 (L pl),#[.int .i64 ((pl:Nat):Int)],#[.slice h_a t0.length h_c],#[.slice a_z zs.length c_z],#[.int .i64 ((lo:Nat):Int)]]),.int .i64 ((n:Nat):Int)] w (fun e W=>∃ (x:Hd) (rs:List Hd) (ar:Option Addr) (cr:Nat) (za:Option Addr) (zc:Nat),e=.returned (.tuple #[.agg (cat (hdP x)),.agg (cat [ints .u8 (L (max pl (n+1))),#[.int .i64 ((max pl (n+1):Nat):Int)],#[.slice ar rs.length cr],#[.slice za (zs++[((n:Nat):Int)]).length zc],#[.int .i64 ((lo:Nat):Int)]]),.int .i64 0])∧Ext w W∧x.n=n∧x.m=keyV (L n)∧InHd x W∧HdO w.heap.size rs (.slice ar rs.length cr) W∧rs.map (·.n)=Qg1 (t0.map (·.n)) pl n∧(∀ y∈rs,HdK L t0 w.heap.size y W)∧OwnN .i64 3 w.heap.size (zs++[((n:Nat):Int)]) (.slice za (zs++[((n:Nat):Int)]).length zc) W):=by
 obtain ⟨h0a,h0b,h0c,h0z,h0d⟩:=QiC h0
 have hhi2:hiF (((lo:Nat):Int)-1) (zs++[((n:Nat):Int)])=((max pl (n+1):Nat):Int)-1:=by rw [Qe0,hhi]; split <;> omega
 refine enter 131 [(0,.agg (cat [ints .u8 (L pl),#[.int .i64 ((pl:Nat):Int)],#[.slice h_a t0.length h_c],#[.slice a_z zs.length c_z],#[.int .i64 ((lo:Nat):Int)]])),(1,.int .i64 ((n:Nat):Int))] Tryd.func19 rfl rfl kj rfl <| sgC fun K1 hK1=>Qap (cat [ints .u8 (L pl),#[.int .i64 ((pl:Nat):Int)],#[.slice h_a t0.length h_c],#[.slice a_z zs.length c_z],#[.int .i64 ((lo:Nat):Int)]]) 34 2 rfl kj kj fun g2 W1 l2 e1 r2_1=>?_
 have x1:=Ext.tr (Rely.Ext.refl w) e1
 have b2:=qT (Rely.Ext.refl w).size l2
 refine Qap (cat [#[.int .i64 0],ints .u8 (List.replicate 32 0),#[.slice none 0 0]]) 50 4 rfl kj kj fun g3 W2 l3 e2 r3_2=>?_
 have x2:=Ext.tr x1 e2
 refine Qap (cat [ints .u8 (List.replicate 32 0),#[.int .i64 0],#[.slice none 0 0],#[.slice none 0 0],#[.int .i64 0]]) 34 5 rfl kj kj fun g4 W3 l4 e3 r4_3=>?_
 have x3:=Ext.tr x2 e3
 refine sg 1 kj <| sgN hK1 <| wp_seq_k fun K5 hK5=>sgC fun K6 hK6=>sg 1 kj <| Qab (.bool false) 13 rfl kj (Qai (u:=.bool (decide (((n:Nat):Int)<0))) kj (congrArg Value.bool (decide_eq_false (by omega)))) <| sg 2 kj <| Qab (.bool false) 16 rfl kj (Qai (u:=.bool (decide (((n:Nat):Int)>4294967294))) kj (congrArg Value.bool (decide_eq_false (by omega)))) <| sg 1 kj <| sgN hK6 ?_
 refine cond_false kj <| wp_skip <| hK5 _ _ <| wp_seq_k fun K7 hK7=>sgC fun K8 hK8=>sg 1 kj ?_
 have r2_2:=(Qac r2_1 e2)
 have r2_3:=(Qac r2_2 e3)
 refine Qab (.agg (cat [ints .u8 (L pl),#[.int .i64 ((pl:Nat):Int)],#[.slice h_a t0.length h_c],#[.slice a_z zs.length c_z],#[.int .i64 ((lo:Nat):Int)]])) 21 rfl kj (Qaq 34 _ g2 34 _ _ r2_3 rfl kj kj (isz (n:=36) kj (by rw [Qaa,Qaa,Qaa,Qaa,Qaa]; simp only [qS,cat,((Qad _ _).trans (hLl pl))]; rfl))) ?_
 refine Qar (.int .i64 (hiF (((lo:Nat):Int)-1) zs)) 36 #[.agg (cat [ints .u8 (L pl),#[.int .i64 ((pl:Nat):Int)],#[.slice h_a t0.length h_c],#[.slice a_z zs.length c_z],#[.int .i64 ((lo:Nat):Int)]])] 22 rfl kj kj (QlN (L pl) (hLl pl) pl h_a t0.length h_c zs (by omega) a_z c_z ((lo:Nat):Int) _ (by omega) (OwnN.rd (OwnN.ext hz x3))) fun W4 e4=>Qab (.int .i64 (hiF (((lo:Nat):Int)-1) zs-64)) 23 rfl kj (Qai (u:=.int .i64 (IntKind.i64.wrap ((hiF (((lo:Nat):Int)-1) zs)-64))) kj (congrArg (Value.int .i64) (Qbp _ (by omega)))) <| Qab (.bool false) 24 rfl kj (Qai (u:=.bool (decide (((n:Nat):Int)<(hiF (((lo:Nat):Int)-1) zs-64)))) kj (congrArg Value.bool (decide_eq_false (by omega)))) <| sgN hK8 <| cond_false kj <| wp_skip <| hK7 _ _ <| wp_seq_k fun K9 hK9=>sgC fun K10 hK10=>sg 2 kj ?_
 have r2_4:=(Qac r2_3 e4)
 refine Qab (.int .i64 ((lo:Nat):Int)) 29 rfl kj (Qag 3 _ g2 35 34 _ (.int .i64 ((lo:Nat):Int)) _ r2_4 rfl kj (Qaw [ints .u8 (L pl),#[.int .i64 ((pl:Nat):Int)],#[.slice h_a t0.length h_c],#[.slice a_z zs.length c_z]] [#[.int .i64 ((lo:Nat):Int)]] [] 35 (by rw [Qaa,Qaa,Qaa,Qaa]; simp only [qS,cat,((Qad _ _).trans (hLl pl))]; rfl) 0 _ rfl) kj) ?_
 refine Qab (.bool false) 30 rfl kj (Qai (u:=.bool (decide (((n:Nat):Int)<((lo:Nat):Int)))) kj (congrArg Value.bool (decide_eq_false (by omega)))) <| sgN hK10 <| cond_false kj <| wp_skip <| hK9 _ _ <| wp_seq_k fun K11 hK11=>sgB kj <| wp_block <| QaC (fun (s1:Nat)=>[(1,.int .i64 ((n:Nat):Int)),(2,.pointer (some ⟨g2,0,none⟩)),(4,.pointer (some ⟨g3,0,none⟩)),(5,.pointer (some ⟨g4,0,none⟩)),(6,.int .i64 0),(7,.int .i64 ((s1:Nat):Int))]) (fun (s1:Nat) W=>(s1≤zs.length)∧(Ext W4 W)∧(Ext w W)) (fun (s1:Nat)=>zs.length-s1) 0 ⟨kj,kj,kj,kj,kj,kj,trivial⟩ ⟨(Nat.zero_le _),(Rely.Ext.refl W4),(Ext.tr x3 e4)⟩ fun s1 X1 V1 hI1=>?_
 obtain ⟨i,hs1⟩:∃ z,z=s1:=⟨_,rfl⟩
 subst hs1
 obtain ⟨hi,kk1,xx1⟩:=hI1
 replace hi:i≤zs.length:=hi
 replace kk1:Ext W4 V1:=kk1
 replace xx1:Ext w V1:=xx1
 have e5:=kk1
 refine wp_seq_k fun K13 hK13=>sgC fun K14 hK14=>sg 2 kj ?_
 have r2_5:=(Qac r2_4 e5)
 refine Qab (.slice a_z zs.length c_z) 35 rfl kj (Qag 32 _ g2 34 34 _ (.slice a_z zs.length c_z) _ r2_5 rfl kj (Qaw [ints .u8 (L pl),#[.int .i64 ((pl:Nat):Int)],#[.slice h_a t0.length h_c]] [#[.slice a_z zs.length c_z]] [#[.int .i64 ((lo:Nat):Int)]] 34 (by rw [Qaa,Qaa,Qaa]; simp only [qS,cat,((Qad _ _).trans (hLl pl))]; rfl) 0 _ rfl) kj) ?_
 refine sg 2 kj <| sgN hK14 <| Qa3 (t:=decide (((i:Nat):Int)<((zs.length:Nat):Int))) kj (fun c15=>?_) (fun c15=>?_)
 ·skip
  have hlt37:i<zs.length:=by have:=of_decide_eq_true c15; omega
  refine wp_skip <| hK13 _ _ <| wp_seq_k fun K16 hK16=>wp_block <| sgC fun K17 hK17=>sg 1 kj <| Qab (.slice a_z zs.length c_z) 41 rfl kj (Qag 32 _ g2 34 34 _ (.slice a_z zs.length c_z) _ r2_5 rfl kj (Qaw [ints .u8 (L pl),#[.int .i64 ((pl:Nat):Int)],#[.slice h_a t0.length h_c]] [#[.slice a_z zs.length c_z]] [#[.int .i64 ((lo:Nat):Int)]] 34 (by rw [Qaa,Qaa,Qaa]; simp only [qS,cat,((Qad _ _).trans (hLl pl))]; rfl) 0 _ rfl) kj) ?_
  refine sg 1 kj ?_
  have hnz_18:(zs).length=zs.length:=rfl
  obtain ⟨gcz_18,ocz_18,haz_18,hlz_18,hcz_18⟩:=rdK_open (OwnN.rd (OwnN.ext hz xx1)) (by rw [hnz_18]; omega)
  refine Qab (.pointer (some ⟨gcz_18,ocz_18+i,none⟩)) 43 rfl kj (run_indexA 32 _ _ .i64 i gcz_18 ocz_18 zs.length c_z 3 a_z _ haz_18 rfl rfl kj kj kj kj (Nat.lt_of_lt_of_eq (show i<zs.length by omega) hnz_18.symm)) <| Qab (.int .i64 (nth (zs) (i))) 44 rfl kj (QaH 3 _ _ (.int .i64 (nth (zs) (i))) (hcz_18 i (Nat.lt_of_lt_of_eq (show i<zs.length by omega) hnz_18.symm)) rfl kj kj) <| sg 1 kj <| Qab (.bool false) 46 rfl kj (Qai (u:=.bool (((nth (zs) (i))==((n:Nat):Int)))) kj (congrArg Value.bool (beq_eq_false_iff_ne.2 (fun e=>h0z (by rw [←e]; exact QiU zs i hlt37))))) ?_
  refine sgN hK17 <| cond_false kj <| wp_skip <| hK16 _ _ <| Qaf <| sg 1 kj <| Qab (.int .i64 ((i+1:Nat):Int)) 39 rfl kj (Qai (u:=.int .i64 (IntKind.i64.wrap (((i:Nat):Int)+1))) kj (congrArg (Value.int .i64) (i64n _ _ (by omega) (by omega)))) <| sg 1 kj <| Qak ?_
  repeat (first | with_reducible refine goX1 ?_ | with_reducible refine goX2 ?_ | with_reducible refine goX3 ?_)
  exact Qa4 (i+1) ⟨kj,kj,kj,kj,kj,kj,trivial⟩ ⟨(by omega),e5,xx1⟩ (by show zs.length-(i+1)<zs.length-i; omega)
 ·skip
  have heq37:i=zs.length:=by have:=of_decide_eq_false c15; omega
  refine wp_exit <| hK11 _ _ <| wp_seq_k fun K19 hK19=>wp_seq_k fun K20 hK20=>?_
  have hJ20:∀ X:Env,K20 (Qa0 [] 131 ([(1,.int .i64 ((n:Nat):Int)),(2,.pointer (some ⟨g2,0,none⟩)),(4,.pointer (some ⟨g3,0,none⟩)),(5,.pointer (some ⟨g4,0,none⟩)),(6,.int .i64 0),(59,.bool false)]++X)) V1:=by
   intro X20
   refine hK20 _ _ <| cond_false kj <| wp_skip <| hK19 _ _ <| wp_seq_k fun K21 hK21=>?_
   skip
   ·skip
    have hb_g2:g2<V1.heap.size:=Qay r2_5
    have r3_5:=(Qac (Qac (Qac r3_2 e3) e4) e5)
    have hb_g3:g3<V1.heap.size:=Qay r3_5
    have r4_5:=(Qac (Qac r4_3 e4) e5)
    have hb_g4:g4<V1.heap.size:=Qay r4_5
    refine Qaf <| QcN (.cells #[] 50) (fun g=>.slice (some ⟨g,0,none⟩) 0 0) 62 rfl kj kj fun gn62 W6 ln62 e6 rn62=>?_
    have x6:=Ext.tr xx1 e6
    refine sg 1 kj ?_
    have r2_6:=(Qac r2_5 e6)
    refine Qab (.slice h_a t0.length h_c) 64 rfl kj (Qag 31 _ g2 33 34 _ (.slice h_a t0.length h_c) _ r2_6 rfl kj (Qaw [ints .u8 (L pl),#[.int .i64 ((pl:Nat):Int)]] [#[.slice h_a t0.length h_c]] [#[.slice a_z zs.length c_z],#[.int .i64 ((lo:Nat):Int)]] 33 (by rw [Qaa,Qaa]; simp only [qS,cat,((Qad _ _).trans (hLl pl))]; rfl) 0 _ rfl) kj) ?_
    refine Qdo 64 (.tmp 62) (.tmp 64) 31 rfl kj kj (by decide) (by decide) 65 rfl kj kj kj (QgO ln62 rn62) (QaR h0h x6) QlQ (by omega) (Rely.Ext.trans (Rely.Ext.refl V1) e6).size fun u65 W7 hu65 l7 rt7=>?_
    have x7:=Ext.low x6 l7 xx1.size
    have hu0:W7.ownsRow V1.heap.size 50 34 u65 t0.length (t0.flatMap hdC):=by have h9:=hu65; rw [Nat.zero_add,List.nil_append] at h9; exact h9
    have ha0:∀ x∈t0,HdK L t0 w.heap.size x W7:=fun x hx=>⟨QfO (hin0 x hx) x7,hof0 x hx,.inl hx⟩
    refine sg 1 kj <| sgN hK21 <| wp_seq_k fun K22 hK22=>wp_block ?_
    have n_2_3:g2≠g3:=(Qae r2_1 l3)
    have n_2_4:g2≠g4:=(Qae r2_2 l4)
    have n_3_2:g3≠g2:=(Qa8 r2_1 l3)
    have n_3_4:g3≠g4:=(Qae r3_2 l4)
    have n_4_2:g4≠g2:=(Qa8 r2_2 l4)
    have n_4_3:g4≠g3:=(Qa8 r3_2 l4)
    refine QaC (fun (s2:Nat×Value×List Hd)=>[(1,.int .i64 ((n:Nat):Int)),(2,.pointer (some ⟨g2,0,none⟩)),(4,.pointer (some ⟨g3,0,none⟩)),(5,.pointer (some ⟨g4,0,none⟩)),(6,.int .i64 0),(8,s2.2.1)]) (fun (s2:Nat×Value×List Hd) W=>(s2.1≤n+1-pl)∧(HdO V1.heap.size s2.2.2 s2.2.1 W)∧(s2.2.2.map (·.n)=t0.map (·.n)++List.range' pl s2.1)∧(s2.2.2.length=t0.length+s2.1)∧(∀ x∈s2.2.2,HdK L t0 w.heap.size x W)∧(V1.heap.size≤W.heap.size)∧(W.heap[g2]? = some (.cells (cat [ints .u8 (L (pl+s2.1)),#[.int .i64 ((pl+s2.1:Nat):Int)],#[.slice h_a t0.length h_c],#[.slice a_z zs.length c_z],#[.int .i64 ((lo:Nat):Int)]]) 34))∧(W.heap[g3]? = some (.cells (cat [#[.int .i64 0],ints .u8 (List.replicate 32 0),#[.slice none 0 0]]) 50))∧(W.heap[g4]? = some (.cells (cat [ints .u8 (List.replicate 32 0),#[.int .i64 0],#[.slice none 0 0],#[.slice none 0 0],#[.int .i64 0]]) 34))∧(Ext w W)) (fun (s2:Nat×Value×List Hd)=>n+1-pl-s2.1) (0,u65,t0) ⟨kj,kj,kj,kj,kj,kj,trivial⟩ ⟨(Nat.zero_le _),hu0,(by rw [show List.range' pl 0=[] from rfl,List.append_nil]),rfl,ha0,(qT (qT (qR _) e6.size) l7.size),(QaS l7 r2_6 hb_g2),(QaS l7 (Qac r3_5 e6) hb_g3),(QaS l7 (Qac r4_5 e6) hb_g4),x7⟩ fun s2 X2 V2 hI2=>?_
    obtain ⟨j,u,ts⟩:=s2
    obtain ⟨hj,hu,htn,htl,ha,hbs,q2_2,q3_2,q4_2,xx2⟩:=hI2
    replace hj:j≤n+1-pl:=hj
    replace hu:HdO V1.heap.size ts u V2:=hu
    replace htn:ts.map (·.n)=t0.map (·.n)++List.range' pl j:=htn
    replace htl:ts.length=t0.length+j:=htl
    replace ha:∀ x∈ts,HdK L t0 w.heap.size x V2:=ha
    replace hbs:V1.heap.size≤V2.heap.size:=hbs
    replace q2_2:V2.heap[g2]? = some (.cells (cat [ints .u8 (L (pl+j)),#[.int .i64 ((pl+j:Nat):Int)],#[.slice h_a t0.length h_c],#[.slice a_z zs.length c_z],#[.int .i64 ((lo:Nat):Int)]]) 34):=q2_2
    replace q3_2:V2.heap[g3]? = some (.cells (cat [#[.int .i64 0],ints .u8 (List.replicate 32 0),#[.slice none 0 0]]) 50):=q3_2
    replace q4_2:V2.heap[g4]? = some (.cells (cat [ints .u8 (List.replicate 32 0),#[.int .i64 0],#[.slice none 0 0],#[.slice none 0 0],#[.int .i64 0]]) 34):=q4_2
    replace xx2:Ext w V2:=xx2
    refine wp_seq_k fun K23 hK23=>sgC fun K24 hK24=>sg 1 kj <| Qab (.int .i64 ((pl+j:Nat):Int)) 67 rfl kj (Qag 3 _ g2 32 34 _ (.int .i64 ((pl+j:Nat):Int)) _ q2_2 rfl kj (Qaw [ints .u8 (L (pl+j))] [#[.int .i64 ((pl+j:Nat):Int)]] [#[.slice h_a t0.length h_c],#[.slice a_z zs.length c_z],#[.int .i64 ((lo:Nat):Int)]] 32 ((Qad _ _).trans (hLl _)) 0 _ rfl) kj) <| sg 2 kj <| sgN hK24 <| Qa3 (t:=decide (((pl+j:Nat):Int)≤((n:Nat):Int))) kj (fun c25=>?_) (fun c25=>?_)
    ·skip
     have hle:pl+j≤n:=by have:=of_decide_eq_true c25; omega
     refine wp_skip <| hK23 _ _ <| wp_block <| sgC fun K26 hK26=>sg 2 kj <| Qab (.agg (ints .u8 (L (pl+j)))) 72 rfl kj (QaK 23 _ g2 0 34 _ _ _ q2_2 rfl kj (Qaw [] [ints .u8 (L (pl+j))] [#[.int .i64 ((pl+j:Nat):Int)],#[.slice h_a t0.length h_c],#[.slice a_z zs.length c_z],#[.int .i64 ((lo:Nat):Int)]] 0 kj) kj (isz (n:=32) kj ((Qad _ _).trans (hLl _)))) <| sg 1 kj <| Qab (.int .i64 ((pl+j:Nat):Int)) 74 rfl kj (Qag 3 _ g2 32 34 _ (.int .i64 ((pl+j:Nat):Int)) _ q2_2 rfl kj (Qaw [ints .u8 (L (pl+j))] [#[.int .i64 ((pl+j:Nat):Int)]] [#[.slice h_a t0.length h_c],#[.slice a_z zs.length c_z],#[.int .i64 ((lo:Nat):Int)]] 32 ((Qad _ _).trans (hLl _)) 0 _ rfl) kj) <| Qa6 (fun v W'=>(fun (v:Value) (W:World)=>∃ x:Hd,v=.agg (cat (hdP x))∧x.n=pl+j∧x.m=keyV (L (pl+j))∧InHd x W∧OwnN .u8 5 V2.heap.size x.m (.slice x.a x.m.length x.c) W) v W'∧Ext V2 W') 25 #[.agg (ints .u8 (L (pl+j))),.int .i64 ((pl+j:Nat):Int)] 75 rfl kj kj ((ofH (L (pl+j)) (hLl _) (hLb _) (pl+j) _).mono (by rintro e w' ⟨v,rfl,e1,hv⟩; exact ⟨v,rfl,hv,e1⟩)) fun vv27 W9 hh27=>?_
     obtain ⟨hv27,e9⟩:=hh27
     have x9:=Ext.tr xx2 e9
     obtain ⟨x,rfl,hxn,hxm,hxi,hxo⟩:=hv27
     have hxl:=hxi.len
     refine QcN (.cells (cat (hdP x)) 50) (fun g=>.slice (some ⟨g,0,none⟩) 1 1) 76 rfl kj (QgK 31 50 34 _ (.agg (cat (hdP x))) rfl kj kj kj kj (Qdu x hxl) (by decide) (by decide)) fun gn76 W10 ln76 e10 rn76=>?_
     have x10:=Ext.tr x9 e10
     refine Qdo 64 (.tmp 70) (.tmp 76) 31 rfl kj kj (by decide) (by decide) 77 rfl kj kj kj (QaR (QaR hu e9) e10) (QfD (Nat.zero_le _) rn76 (Qdu x hxl)) (QgT x) (by omega) (qT hbs (qT (qT (qR _) e9.size) e10.size)) fun u77 W11 hu77 l11 rt11=>?_
     have x11:=Ext.low x10 l11 xx1.size
     have hu2:=QkO hu77
     have ha2:∀ y∈ts++[x],HdK L t0 w.heap.size y W11:=fun y hy=>by
      rcases List.mem_append.1 hy with hy | hy
      ·exact (QaV (QaV (QaV ha (QaG 0 e9) (by decide)) (QaG 0 e10) (by decide)) rt11 (by decide)) y hy
      ·obtain rfl:y=x:=List.mem_singleton.1 hy
       exact QfP (QfP (W:=W9) ⟨hxi,(by rw [hxm,hxn]),.inr (OwnN.base xx2.size hxo)⟩ (QaG 0 e10) (by decide)) rt11 (by decide)
     refine sg 1 kj <| sgN hK26 <| sgC fun K28 hK28=>sg 1 kj ?_
     have r2_9:=(Qac q2_2 e9)
     have r2_10:=(Qac r2_9 e10)
     have r2_11:=(QaS l11 r2_10 hb_g2)
     refine Qab (.agg (ints .u8 (L (pl+j)))) 79 rfl kj (QaK 23 _ g2 0 34 _ _ _ r2_11 rfl kj (Qaw [] [ints .u8 (L (pl+j))] [#[.int .i64 ((pl+j:Nat):Int)],#[.slice h_a t0.length h_c],#[.slice a_z zs.length c_z],#[.int .i64 ((lo:Nat):Int)]] 0 kj) kj (isz (n:=32) kj ((Qad _ _).trans (hLl _)))) <| Qar (.agg (ints .u8 (nxtV (L (pl+j))))) 26 #[.agg (ints .u8 (L (pl+j))),.string QgD] 80 rfl kj kj ((fun W=>nxtR (L (pl+j)) W (hLl _) (hLb _)) _) fun W12 e12=>?_
     have x12:=Ext.tr x11 e12
     refine sg 1 kj ?_
     have r2_12:=(Qac r2_11 e12)
     refine Qaj g2 _ (cat [ints .u8 (nxtV (L (pl+j))),#[.int .i64 ((pl+j:Nat):Int)],#[.slice h_a t0.length h_c],#[.slice a_z zs.length c_z],#[.int .i64 ((lo:Nat):Int)]]) 34 r2_12 rfl kj (Qb1 23 _ _ g2 0 34 [] [ints .u8 (L (pl+j))] [ints .u8 (nxtV (L (pl+j)))] [#[.int .i64 ((pl+j:Nat):Int)],#[.slice h_a t0.length h_c],#[.slice a_z zs.length c_z],#[.int .i64 ((lo:Nat):Int)]] r2_12 rfl kj kj (isz (n:=32) kj ((Qad _ _).trans (Qc7 _))) kj (eqsz (n:=32) ((Qad _ _).trans (Qc7 _)) ((Qad _ _).trans (hLl _))) (Qau _ _)) fun W13 p13 r2_13=>?_
     have x13:=Puts.ext p13 x12 b2
     refine sgN hK28 <| Qaf <| sg 1 kj <| Qab (.int .i64 ((pl+j:Nat):Int)) 83 rfl kj (Qag 3 _ g2 32 34 _ (.int .i64 ((pl+j:Nat):Int)) _ r2_13 rfl kj (Qaw [ints .u8 (nxtV (L (pl+j)))] [#[.int .i64 ((pl+j:Nat):Int)]] [#[.slice h_a t0.length h_c],#[.slice a_z zs.length c_z],#[.int .i64 ((lo:Nat):Int)]] 32 ((Qad _ _).trans (Qc7 _)) 0 _ rfl) kj) <| Qab (.int .i64 (((pl+(j+1):Nat):Int))) 84 rfl kj (Qai (u:=.int .i64 (IntKind.i64.wrap (((pl+j:Nat):Int)+1))) kj (congrArg (Value.int .i64) ((Qbp _ (by omega)).trans (by omega)))) <| sg 1 kj <| Qaj g2 _ (cat [ints .u8 (nxtV (L (pl+j))),#[.int .i64 (((pl+(j+1):Nat):Int))],#[.slice h_a t0.length h_c],#[.slice a_z zs.length c_z],#[.int .i64 ((lo:Nat):Int)]]) 34 r2_13 rfl kj (Qbf 3 _ _ g2 32 34 [ints .u8 (nxtV (L (pl+j)))] [#[.slice h_a t0.length h_c],#[.slice a_z zs.length c_z],#[.int .i64 ((lo:Nat):Int)]] _ (.int .i64 (((pl+(j+1):Nat):Int))) r2_13 rfl kj kj kj ((Qad _ _).trans (Qc7 _)) rfl rfl) fun W14 p14 r2_14=>?_
     have x14:=Puts.ext p14 x13 b2
     refine Qak ?_
     have htn2:(ts++[x]).map (·.n)=t0.map (·.n)++List.range' pl (j+1):=by
      rw [List.map_append,htn,List.append_assoc,List.range'_concat]; simp [hxn]
     have htl2:(ts++[x]).length=t0.length+(j+1):=by rw [List.length_append,htl]; rfl
     have r2b:W14.heap[g2]? = some (.cells (cat [ints .u8 (L (pl+(j+1))),#[.int .i64 (((pl+(j+1):Nat):Int))],#[.slice h_a t0.length h_c],#[.slice a_z zs.length c_z],#[.int .i64 ((lo:Nat):Int)]]) 34):=by rw [show L (pl+(j+1))=nxtV (L (pl+j)) from hLn (pl+j) (by omega)]; exact r2_14
     have r3_9:=(Qac q3_2 e9)
     have r3_10:=(Qac r3_9 e10)
     have r3_11:=(QaS l11 r3_10 hb_g3)
     have r3_12:=(Qac r3_11 e12)
     have r3_13:=(Puts.row p13 r3_12 n_3_2)
     have r3_14:=(Puts.row p14 r3_13 n_3_2)
     have r4_9:=(Qac q4_2 e9)
     have r4_10:=(Qac r4_9 e10)
     have r4_11:=(QaS l11 r4_10 hb_g4)
     have r4_12:=(Qac r4_11 e12)
     have r4_13:=(Puts.row p13 r4_12 n_4_2)
     have r4_14:=(Puts.row p14 r4_13 n_4_2)
     repeat (first | with_reducible refine goX1 ?_ | with_reducible refine goX2 ?_ | with_reducible refine goX3 ?_)
     exact Qa4 ((j+1),u77,(ts++[x])) ⟨kj,kj,kj,kj,kj,kj,trivial⟩ ⟨(by omega),(QbV (QbV (QaR hu2 e12) p13 hb_g2) p14 hb_g2),htn2,htl2,(QaV (QaV (QaV ha2 (QaG 0 e12) (by decide)) (QaA p13 r2_12) (by decide)) (QaA p14 r2_13) (by decide)),(qT hbs (qT (qT (qT (qT (qT (qT (qR _) e9.size) e10.size) l11.size) e12.size) (qE p13.2.2.2.1.symm)) (qE p14.2.2.2.1.symm))),r2b,r3_14,r4_14,x14⟩ (by show n+1-pl-(j+1)<n+1-pl-j; omega)
    ·skip
     have hje:j=n+1-pl:=by have:=of_decide_eq_false c25; omega
     subst hje
     have hmx:pl+(n+1-pl)=max pl (n+1):=by omega
     obtain ⟨a8,c8,rfl⟩:=Qhs hu
     have rq69:V2.heap[g2]? = some (.cells (cat [ints .u8 (L (max pl (n+1))),#[.int .i64 ((max pl (n+1):Nat):Int)],#[.slice h_a t0.length h_c],#[.slice a_z zs.length c_z],#[.int .i64 ((lo:Nat):Int)]]) 34):=by have h9:=q2_2; rw [hmx] at h9; exact h9
     refine wp_exit <| hK22 _ _ <| sgC fun K29 hK29=>QcN (.cells #[] 3) (fun g=>.slice (some ⟨g,0,none⟩) 0 0) 86 rfl kj kj fun gn86 W9 ln86 e9 rn86=>?_
     have x9:=Ext.tr xx2 e9
     refine sg 1 kj ?_
     have r2_9:=(Qac rq69 e9)
     refine Qab (.slice a_z zs.length c_z) 88 rfl kj (Qag 32 _ g2 34 34 _ (.slice a_z zs.length c_z) _ r2_9 rfl kj (Qaw [ints .u8 (L (max pl (n+1))),#[.int .i64 ((max pl (n+1):Nat):Int)],#[.slice h_a t0.length h_c]] [#[.slice a_z zs.length c_z]] [#[.int .i64 ((lo:Nat):Int)]] 34 (by rw [Qaa,Qaa,Qaa]; simp only [qS,cat,((Qad _ _).trans (hLl _))]; rfl) 0 _ rfl) kj) ?_
     refine Qdo 8 (.tmp 86) (.tmp 88) 32 rfl kj kj (by decide) (by decide) 89 rfl kj kj kj (QgO (base:=V1.heap.size) (qT (qT hbs (qR _)) ln86) rn86) (OwnN.ext hz x9).1 (fun z hz=>by obtain ⟨q,-,rfl⟩:=List.mem_map.1 hz; rfl) (by omega) (qT hbs (qT (qR _) e9.size)) fun u89 W10 hu89 l10 rt10=>?_
     have x10:=Ext.low x9 l10 xx1.size
     refine sg 1 kj <| QcN (.cells #[.int .i64 ((n:Nat):Int)] 3) (fun g=>.slice (some ⟨g,0,none⟩) 1 1) 91 rfl kj kj fun gn91 W11 ln91 e11 rn91=>?_
     have x11:=Ext.tr x10 e11
     refine Qdo 8 (.tmp 89) (.tmp 91) 32 rfl kj kj (by decide) (by decide) 92 rfl kj kj kj (QaR hu89 e11) (QfD (Nat.zero_le _) rn91 rfl) (fun z hz=>by rcases List.mem_cons.1 hz with rfl | h; rfl; cases h) (by omega) (qT hbs (qT (qT (qT (qR _) e9.size) l10.size) e11.size)) fun u92 W12 hu92 l12 rt12=>?_
     have x12:=Ext.low x11 l12 xx1.size
     have hzo0:W12.ownsRow V1.heap.size 3 1 u92 (zs++[((n:Nat):Int)]).length ((zs++[((n:Nat):Int)]).map (Value.int .i64)):=by
      have h9:=hu92
      rw [List.length_append,List.map_append]
      simpa using h9
     obtain ⟨za,zc,rfl⟩:=Qhs hzo0
     have hzo1:=Qlp hzo0
     refine sg 1 kj ?_
     have r2_10:=(QaS l10 r2_9 hb_g2)
     have r2_11:=(Qac r2_10 e11)
     have r2_12:=(QaS l12 r2_11 hb_g2)
     refine Qaj g2 _ (cat [ints .u8 (L (max pl (n+1))),#[.int .i64 ((max pl (n+1):Nat):Int)],#[.slice h_a t0.length h_c],#[.slice za (zs++[((n:Nat):Int)]).length zc],#[.int .i64 ((lo:Nat):Int)]]) 34 r2_12 rfl kj (Qbf 32 _ _ g2 34 34 [ints .u8 (L (max pl (n+1))),#[.int .i64 ((max pl (n+1):Nat):Int)],#[.slice h_a t0.length h_c]] [#[.int .i64 ((lo:Nat):Int)]] _ (.slice za (zs++[((n:Nat):Int)]).length zc) r2_12 rfl kj kj kj (by rw [Qaa,Qaa,Qaa]; simp only [qS,cat,((Qad _ _).trans (hLl _))]; rfl) rfl rfl) fun W13 p13 r2_13=>?_
     have x13:=Puts.ext p13 x12 b2
     refine sgN hK29 <| sgC fun K30 hK30=>Qap (cat [#[.int .i64 0],ints .u8 (List.replicate 32 0),#[.slice none 0 0]]) 50 9 rfl kj kj fun g31 W14 l31 e14 r31_14=>?_
     have x14:=Ext.tr x13 e14
     refine sgN hK30 <| sgB kj <| wp_seq_k fun K33 hK33=>sgB kj <| wp_block ?_
     have r2_14:=(Qac r2_13 e14)
     have hc_g2:g2<W14.heap.size:=Qay r2_14
     have r3_9:=(Qac q3_2 e9)
     have r3_10:=(QaS l10 r3_9 hb_g3)
     have r3_11:=(Qac r3_10 e11)
     have r3_12:=(QaS l12 r3_11 hb_g3)
     have r3_13:=(Puts.row p13 r3_12 n_3_2)
     have r3_14:=(Qac r3_13 e14)
     have hc_g3:g3<W14.heap.size:=Qay r3_14
     have r4_9:=(Qac q4_2 e9)
     have r4_10:=(QaS l10 r4_9 hb_g4)
     have r4_11:=(Qac r4_10 e11)
     have r4_12:=(QaS l12 r4_11 hb_g4)
     have r4_13:=(Puts.row p13 r4_12 n_4_2)
     have r4_14:=(Qac r4_13 e14)
     have hc_g4:g4<W14.heap.size:=Qay r4_14
     have hc_g31:g31<W14.heap.size:=Qay r31_14
     have hu8k:=(QbV (QfC (QaR (QfC (QaR hu e9) rt10 (by decide)) e11) rt12 (by decide)) p13 hb_g2)
     have hlt8:∀ g,(Value.slice a8 ts.length c8).ownBlock=some g→g<W13.heap.size:=Qm0 hu8k
     have n_2_31:g2≠g31:=(Qae r2_13 l31)
     have n_3_31:g3≠g31:=(Qae r3_13 l31)
     have n_4_31:g4≠g31:=(Qae r4_13 l31)
     have n_31_2:g31≠g2:=(Qa8 r2_13 l31)
     have n_31_3:g31≠g3:=(Qa8 r3_13 l31)
     have n_31_4:g31≠g4:=(Qa8 r4_13 l31)
     refine QaC (fun (s3:Nat×Value×List Hd×Int×List Int×Value)=>[(1,.int .i64 ((n:Nat):Int)),(2,.pointer (some ⟨g2,0,none⟩)),(4,.pointer (some ⟨g3,0,none⟩)),(5,.pointer (some ⟨g4,0,none⟩)),(6,.int .i64 0),(8,.slice a8 ts.length c8),(9,.pointer (some ⟨g31,0,none⟩)),(10,s3.2.1),(11,.int .i64 ((s3.1:Nat):Int))]) (fun (s3:Nat×Value×List Hd×Int×List Int×Value) W=>(s3.1≤ts.length)∧(HdO V1.heap.size ts (.slice a8 ts.length c8) W)∧(HdO W14.heap.size s3.2.2.1 s3.2.1 W)∧(s3.2.2.1=(ts.take s3.1).filter (hdP? n (max pl (n+1))))∧(∀ x∈ts,HdK L t0 w.heap.size x W)∧(s3.2.2.2.2.1.length=32)∧((∀ x∈ts.take s3.1,x.n≠n)∨∃ x∈ts,x.n=n∧s3.2.2.2.1=((x.n:Nat):Int)∧s3.2.2.2.2.1=x.m.take 32∧s3.2.2.2.2.2=hdU x)∧(OwnN .i64 3 V1.heap.size (zs++[((n:Nat):Int)]) (.slice za (zs++[((n:Nat):Int)]).length zc) W)∧(W14.heap.size≤W.heap.size)∧(W.heap[g2]? = some (.cells (cat [ints .u8 (L (max pl (n+1))),#[.int .i64 ((max pl (n+1):Nat):Int)],#[.slice h_a t0.length h_c],#[.slice za (zs++[((n:Nat):Int)]).length zc],#[.int .i64 ((lo:Nat):Int)]]) 34))∧(W.heap[g3]? = some (.cells (cat [#[.int .i64 0],ints .u8 (List.replicate 32 0),#[.slice none 0 0]]) 50))∧(W.heap[g4]? = some (.cells (cat [ints .u8 (List.replicate 32 0),#[.int .i64 0],#[.slice none 0 0],#[.slice none 0 0],#[.int .i64 0]]) 34))∧(W.heap[g31]? = some (.cells (cat [#[.int .i64 s3.2.2.2.1],ints .u8 (s3.2.2.2.2.1),#[s3.2.2.2.2.2]]) 50))∧(Ext w W)) (fun (s3:Nat×Value×List Hd×Int×List Int×Value)=>ts.length-s3.1) (0,(.slice none 0 0),[],0,(List.replicate 32 0),(.slice none 0 0)) ⟨kj,kj,kj,kj,kj,kj,kj,kj,kj,trivial⟩ ⟨(Nat.zero_le _),(QaR hu8k e14),(World.ownsRow_nil _ _ _ _),rfl,(QaV (QaV (QaV (QaV (QaV (QaV ha (QaG 0 e9) (by decide)) rt10 (by decide)) (QaG 0 e11) (by decide)) rt12 (by decide)) (QaA p13 r2_12) (by decide)) (QaG 0 e14) (by decide)),(List.length_replicate (n:=32)),(.inl (fun y hy=>by cases hy)),(QaI (QaI hzo1 (QaA p13 r2_12) (by decide)) (QaG 0 e14) (by decide)),(qR _),r2_14,r3_14,r4_14,r31_14,x14⟩ fun s3 X3 V3 hI3=>?_
     obtain ⟨i,r,rs,on,om,ou⟩:=s3
     obtain ⟨hi,hu8,hr,hrs,ha,hom,hou,hzo,hbr,q2_3,q3_3,q4_3,q31_3,xx3⟩:=hI3
     replace hi:i≤ts.length:=hi
     replace hu8:HdO V1.heap.size ts (.slice a8 ts.length c8) V3:=hu8
     replace hr:HdO W14.heap.size rs r V3:=hr
     replace hrs:rs=(ts.take i).filter (hdP? n (max pl (n+1))):=hrs
     replace ha:∀ x∈ts,HdK L t0 w.heap.size x V3:=ha
     replace hom:om.length=32:=hom
     replace hou:(∀ x∈ts.take i,x.n≠n)∨∃ x∈ts,x.n=n∧on=((x.n:Nat):Int)∧om=x.m.take 32∧ou=hdU x:=hou
     replace hzo:OwnN .i64 3 V1.heap.size (zs++[((n:Nat):Int)]) (.slice za (zs++[((n:Nat):Int)]).length zc) V3:=hzo
     replace hbr:W14.heap.size≤V3.heap.size:=hbr
     replace q2_3:V3.heap[g2]? = some (.cells (cat [ints .u8 (L (max pl (n+1))),#[.int .i64 ((max pl (n+1):Nat):Int)],#[.slice h_a t0.length h_c],#[.slice za (zs++[((n:Nat):Int)]).length zc],#[.int .i64 ((lo:Nat):Int)]]) 34):=q2_3
     replace q3_3:V3.heap[g3]? = some (.cells (cat [#[.int .i64 0],ints .u8 (List.replicate 32 0),#[.slice none 0 0]]) 50):=q3_3
     replace q4_3:V3.heap[g4]? = some (.cells (cat [ints .u8 (List.replicate 32 0),#[.int .i64 0],#[.slice none 0 0],#[.slice none 0 0],#[.int .i64 0]]) 34):=q4_3
     replace q31_3:V3.heap[g31]? = some (.cells (cat [#[.int .i64 on],ints .u8 (om),#[ou]]) 50):=q31_3
     replace xx3:Ext w V3:=xx3
     refine wp_seq_k fun K35 hK35=>sgB kj <| Qa3 (t:=decide (((i:Nat):Int)<((ts.length:Nat):Int))) kj (fun c37=>?_) (fun c37=>?_)
     ·skip
      have hlt97:i<ts.length:=by have:=of_decide_eq_true c37; omega
      obtain ⟨x,hx⟩:∃ x,x=ts.getD i hd0:=⟨_,rfl⟩
      have hxm:x∈ts:=by rw [hx]; exact Qcd ts hd0 i hlt97
      have hxk:=ha x hxm
      have hxl:=hxk.inn.len
      obtain ⟨g8,ha8⟩:=Qhr hu8 (by omega)
      have hst:=QlP (hdP? n (max pl (n+1))) ts i hlt97
      rw [←hrs,←hx] at hst
      have htk:=Qe7 ts hd0 i hlt97
      rw [←hx] at htk
      refine wp_skip <| hK35 _ _ <| wp_seq_k fun K38 hK38=>wp_block <| wp_seq_k fun K39 hK39=>?_
      rcases (show x.n=n∨(x.n≠n∧max pl (n+1)≤x.n+65)∨(x.n≠n∧x.n+65<max pl (n+1)) by omega) with hq | hq | hq
      ·skip
       refine Qaf <| sg 2 kj <| Qab (.pointer (some ⟨g8,0+i*34,none⟩)) 102 rfl kj (Qb4 31 _ _ .i64 i g8 0 ts.length c8 50 34 a8 ha8 rfl kj kj kj kj hlt97) <| sg 1 kj <| Qab (.int .i64 ((x.n:Nat):Int)) 104 rfl kj (by rw [hx]; have h8:=hu8; rw [ha8] at h8; exact QeB 3 _ (Qd6 ha) h8 hlt97 rfl kj kj) ?_
       refine sg 1 kj <| Qab (.bool true) 106 rfl kj (Qai (u:=.bool ((((x.n:Nat):Int)==((n:Nat):Int)))) kj (congrArg Value.bool (beq_iff_eq.2 (by omega)))) <| sgN hK39 <| cond_true kj <| Qaf <| sg 2 kj <| Qab (.pointer (some ⟨g8,0+i*34,none⟩)) 109 rfl kj (Qb4 31 _ _ .i64 i g8 0 ts.length c8 50 34 a8 ha8 rfl kj kj kj kj hlt97) <| Qab (.agg (cat (hdP x))) 110 rfl kj (by rw [hx]; have h8:=hu8; rw [ha8] at h8; exact Qi7 50 _ (Qd6 ha) h8 hlt97 rfl kj kj kj) ?_
       refine Qaj g31 _ (cat [#[.int .i64 ((x.n:Nat):Int)],ints .u8 (x.m.take 32),#[hdU x]]) 50 q31_3 rfl kj (Qal 50 _ _ g31 50 _ _ q31_3 rfl kj kj (isz (n:=34) kj (by rw [Qaa,Qaa,Qaa]; simp only [qS,cat,((Qad _ _).trans (QaP hxl))]; rfl)) (eqsz (n:=34) (by rw [Qaa,Qaa,Qaa]; simp only [qS,cat,((Qad _ _).trans hom)]; rfl) (by rw [Qaa,Qaa,Qaa]; simp only [qS,cat,((Qad _ _).trans (QaP hxl))]; rfl)) (QaD _ (by intro a ha; simp only [List.mem_cons,List.not_mem_nil,or_false] at ha; rcases ha with rfl | rfl | rfl; exact (Qan _ rfl); exact (Qau _ _); exact (Qan _ rfl)))) fun W16 p16 r31_16=>?_
       have x16:=Puts.ext p16 xx3 (qT x13.size l31)
       refine Qak <| hK38 _ _ <| Qaf <| sg 1 kj <| Qab (.int .i64 ((i+1:Nat):Int)) 99 rfl kj (Qai (u:=.int .i64 (IntKind.i64.wrap (((i:Nat):Int)+1))) kj (congrArg (Value.int .i64) (i64n _ _ (by omega) (by omega)))) <| sg 1 kj <| Qak ?_
       have hpq:hdP? n (max pl (n+1)) x=false:=by unfold hdP?; rw [decide_eq_false (by omega)]
       rw [hpq] at hst
       rw [if_neg (by decide),List.append_nil] at hst
       have r2_16:=(Puts.row p16 q2_3 n_2_31)
       have r3_16:=(Puts.row p16 q3_3 n_3_31)
       have r4_16:=(Puts.row p16 q4_3 n_4_31)
       repeat (first | with_reducible refine goX1 ?_ | with_reducible refine goX2 ?_ | with_reducible refine goX3 ?_)
       exact Qa4 ((i+1),r,rs,((x.n:Nat):Int),(x.m.take 32),(hdU x)) ⟨kj,kj,kj,kj,kj,kj,kj,kj,kj,trivial⟩ ⟨(by omega),(QiQ hu8 hlt8 p16 l31),(QbV hr p16 hc_g31),hst.symm,(QaV ha (QaA p16 q31_3) (by decide)),(QaP hxl),(.inr ⟨x,hxm,hq,rfl,rfl,rfl⟩),(QaI hzo (QaA p16 q31_3) (by decide)),(qT hbr (qT (qR _) (qE p16.2.2.2.1.symm))),r2_16,r3_16,r4_16,r31_16,x16⟩ (by omega)
      ·skip
       refine Qaf <| sg 2 kj <| Qab (.pointer (some ⟨g8,0+i*34,none⟩)) 102 rfl kj (Qb4 31 _ _ .i64 i g8 0 ts.length c8 50 34 a8 ha8 rfl kj kj kj kj hlt97) <| sg 1 kj <| Qab (.int .i64 ((x.n:Nat):Int)) 104 rfl kj (by rw [hx]; have h8:=hu8; rw [ha8] at h8; exact QeB 3 _ (Qd6 ha) h8 hlt97 rfl kj kj) ?_
       refine sg 1 kj <| Qab (.bool false) 106 rfl kj (Qai (u:=.bool ((((x.n:Nat):Int)==((n:Nat):Int)))) kj (congrArg Value.bool (beq_eq_false_iff_ne.2 (by omega)))) <| sgN hK39 <| cond_false kj <| wp_seq_k fun K40 hK40=>Qda kj fun W16 e16=>?_
       have x16:=Ext.tr xx3 e16
       refine QaY 0 (.slice a8 ts.length c8) 111 rfl rfl kj kj (fun _ _ _ h=>h) (fun W hR=>by kernel_rfl) <| QaY 1 (.int .i64 ((i:Nat):Int)) 112 rfl rfl kj kj (fun _ _ _ h=>h) (fun W hR=>by kernel_rfl) <| QaY 2 (.pointer (some ⟨g8,0+i*34,none⟩)) 113 rfl rfl kj kj (fun _ _ _ h=>h) (fun W hR=>(Qb4 31 _ _ .i64 i g8 0 ts.length c8 50 34 a8 ha8 rfl kj kj kj kj hlt97)) <| QaY 3 (.pointer (some ⟨g8,0+i*34+0,none⟩)) 114 rfl rfl kj kj (fun _ _ _ h=>h) (fun W hR=>by kernel_rfl) <| QaY 4 (.int .i64 ((x.n:Nat):Int)) 115 rfl rfl kj kj (fun _ _ _ h=>h) (fun W hR=>(by rw [hx]; have h8:=QaR (QaR hu8 e16) hR; rw [ha8] at h8; exact QeB 3 _ (Qd6 ha) h8 hlt97 rfl kj kj)) ?_
       have r2_16:=(Qac q2_3 e16)
       refine QaY 5 (.agg (cat [ints .u8 (L (max pl (n+1))),#[.int .i64 ((max pl (n+1):Nat):Int)],#[.slice h_a t0.length h_c],#[.slice za (zs++[((n:Nat):Int)]).length zc],#[.int .i64 ((lo:Nat):Int)]])) 116 rfl rfl kj kj (fun _ _ _ h=>h) (fun W hR=>(Qaq 34 _ g2 34 _ _ (Qac r2_16 hR) rfl kj kj (isz (n:=36) kj (by rw [Qaa,Qaa,Qaa,Qaa,Qaa]; simp only [qS,cat,((Qad _ _).trans (hLl _))]; rfl)))) ?_
       refine Qe6 6 kj <| QcL rfl (fun v W'=>v=(.int .i64 (((max pl (n+1):Nat):Int)-1))∧Ext W16 W') 36 #[.agg (cat [ints .u8 (L (max pl (n+1))),#[.int .i64 ((max pl (n+1):Nat):Int)],#[.slice h_a t0.length h_c],#[.slice za (zs++[((n:Nat):Int)]).length zc],#[.int .i64 ((lo:Nat):Int)]])] 117 rfl kj kj ((QkK (L (max pl (n+1))) (hLl _) (max pl (n+1)) h_a t0.length h_c (zs++[((n:Nat):Int)]) (by rw [List.length_append]; show zs.length+1≤_; omega) za zc ((lo:Nat):Int) _ (by omega) (OwnN.rd (QaI hzo (QaG 0 e16) (by decide))) hhi2).mono fun e w' h=>⟨_,h.1,rfl,h.2⟩) (fun _ _ h=>Rely.Ext.trans (Rely.Ext.refl W16) h.2) fun vv41 W17 hh41=>?_
       obtain ⟨rfl,e17⟩:=hh41
       have x17:=Ext.tr x16 e17
       refine QaY 7 (.int .i64 (((max pl (n+1):Nat):Int)-1-64)) 118 rfl rfl kj kj (fun _ _ _ h=>h) (fun W hR=>(Qai (u:=.int .i64 (IntKind.i64.wrap ((((max pl (n+1):Nat):Int)-1)-64))) kj (congrArg (Value.int .i64) (Qbp _ (by omega))))) <| QaY 8 (.bool true) 119 rfl rfl kj kj (fun _ _ _ h=>h) (fun W hR=>(Qai (u:=.bool (decide (((x.n:Nat):Int)≥(((max pl (n+1):Nat):Int)-1-64)))) kj (congrArg Value.bool (decide_eq_true (by omega))))) <| Qir kj <| hK40 _ _ <| cond_true kj <| Qaf <| sg 3 kj <| Qab (.pointer (some ⟨g8,0+i*34,none⟩)) 123 rfl kj (Qb4 31 _ _ .i64 i g8 0 ts.length c8 50 34 a8 ha8 rfl kj kj kj kj hlt97) <| Qab (.agg (cat (hdP x))) 124 rfl kj (by rw [hx]; have h8:=(QaR (QaR hu8 e16) e17); rw [ha8] at h8; exact Qi7 50 _ (Qd6 ha) h8 hlt97 rfl kj kj kj) ?_
       refine QcN (.cells (cat (hdP x)) 50) (fun g=>.slice (some ⟨g,0,none⟩) 1 1) 125 rfl kj (QgK 31 50 34 _ (.agg (cat (hdP x))) rfl kj kj kj kj (Qdu x hxl) (by decide) (by decide)) fun gn125 W18 ln125 e18 rn125=>?_
       have x18:=Ext.tr x17 e18
       refine Qdo 64 (.tmp 120) (.tmp 125) 31 rfl kj kj (by decide) (by decide) 126 rfl kj kj kj (QaR (QaR (QaR hr e16) e17) e18) (QfD (Nat.zero_le _) rn125 (Qdu x hxl)) (QgT x) (by have h9:=List.length_filter_le (hdP? n (max pl (n+1))) (ts.take i); rw [←hrs,List.length_take] at h9; omega) (qT hbr (qT (qT (qT (qR _) e16.size) e17.size) e18.size)) fun u126 W19 hu126 l19 rt19=>?_
       have x19:=Ext.low x18 l19 x14.size
       have hr2:=QkO hu126
       refine sg 1 kj <| Qak <| hK38 _ _ <| Qaf <| sg 1 kj <| Qab (.int .i64 ((i+1:Nat):Int)) 99 rfl kj (Qai (u:=.int .i64 (IntKind.i64.wrap (((i:Nat):Int)+1))) kj (congrArg (Value.int .i64) (i64n _ _ (by omega) (by omega)))) <| sg 1 kj <| Qak ?_
       have hpq:hdP? n (max pl (n+1)) x=true:=by unfold hdP?; rw [decide_eq_true hq]
       rw [hpq] at hst
       rw [if_pos rfl] at hst
       have r2_17:=(Qac r2_16 e17)
       have r2_18:=(Qac r2_17 e18)
       have r3_16:=(Qac q3_3 e16)
       have r3_17:=(Qac r3_16 e17)
       have r3_18:=(Qac r3_17 e18)
       have r3_19:=(QaS l19 r3_18 hc_g3)
       have r4_16:=(Qac q4_3 e16)
       have r4_17:=(Qac r4_16 e17)
       have r4_18:=(Qac r4_17 e18)
       have r4_19:=(QaS l19 r4_18 hc_g4)
       have r31_16:=(Qac q31_3 e16)
       have r31_17:=(Qac r31_16 e17)
       repeat (first | with_reducible refine goX1 ?_ | with_reducible refine goX2 ?_ | with_reducible refine goX3 ?_)
       exact Qa4 ((i+1),u126,(rs++[x]),on,om,ou) ⟨kj,kj,kj,kj,kj,kj,kj,kj,kj,trivial⟩ ⟨(by omega),(Qlq (QaR (QaR (QaR hu8 e16) e17) e18) hlt8 l19 (show W13.heap.size≤W14.heap.size from (qT (qR _) e14.size))),hr2,hst.symm,(QaV (QaV (QaV (QaV ha (QaG 0 e16) (by decide)) (QaG 0 e17) (by decide)) (QaG 0 e18) (by decide)) rt19 (by decide)),hom,(hou.imp (fun h9 y hy=>by rw [htk] at hy; rcases List.mem_append.1 hy with hy | hy; exact h9 y hy; (rw [List.mem_singleton] at hy; rw [hy]; exact hq.1)) id),(QaI (QaI (QaI (QaI hzo (QaG 0 e16) (by decide)) (QaG 0 e17) (by decide)) (QaG 0 e18) (by decide)) rt19 (by decide)),(qT hbr (qT (qT (qT (qT (qR _) e16.size) e17.size) e18.size) l19.size)),(QaS l19 r2_18 hc_g2),r3_19,r4_19,(QaS l19 (Qac r31_17 e18) hc_g31),x19⟩ (by omega)
      ·skip
       refine Qaf <| sg 2 kj <| Qab (.pointer (some ⟨g8,0+i*34,none⟩)) 102 rfl kj (Qb4 31 _ _ .i64 i g8 0 ts.length c8 50 34 a8 ha8 rfl kj kj kj kj hlt97) <| sg 1 kj <| Qab (.int .i64 ((x.n:Nat):Int)) 104 rfl kj (by rw [hx]; have h8:=hu8; rw [ha8] at h8; exact QeB 3 _ (Qd6 ha) h8 hlt97 rfl kj kj) ?_
       refine sg 1 kj <| Qab (.bool false) 106 rfl kj (Qai (u:=.bool ((((x.n:Nat):Int)==((n:Nat):Int)))) kj (congrArg Value.bool (beq_eq_false_iff_ne.2 (by omega)))) <| sgN hK39 <| cond_false kj <| wp_seq_k fun K42 hK42=>Qda kj fun W16 e16=>?_
       have x16:=Ext.tr xx3 e16
       refine QaY 0 (.slice a8 ts.length c8) 111 rfl rfl kj kj (fun _ _ _ h=>h) (fun W hR=>by kernel_rfl) <| QaY 1 (.int .i64 ((i:Nat):Int)) 112 rfl rfl kj kj (fun _ _ _ h=>h) (fun W hR=>by kernel_rfl) <| QaY 2 (.pointer (some ⟨g8,0+i*34,none⟩)) 113 rfl rfl kj kj (fun _ _ _ h=>h) (fun W hR=>(Qb4 31 _ _ .i64 i g8 0 ts.length c8 50 34 a8 ha8 rfl kj kj kj kj hlt97)) <| QaY 3 (.pointer (some ⟨g8,0+i*34+0,none⟩)) 114 rfl rfl kj kj (fun _ _ _ h=>h) (fun W hR=>by kernel_rfl) <| QaY 4 (.int .i64 ((x.n:Nat):Int)) 115 rfl rfl kj kj (fun _ _ _ h=>h) (fun W hR=>(by rw [hx]; have h8:=QaR (QaR hu8 e16) hR; rw [ha8] at h8; exact QeB 3 _ (Qd6 ha) h8 hlt97 rfl kj kj)) ?_
       have r2_16:=(Qac q2_3 e16)
       refine QaY 5 (.agg (cat [ints .u8 (L (max pl (n+1))),#[.int .i64 ((max pl (n+1):Nat):Int)],#[.slice h_a t0.length h_c],#[.slice za (zs++[((n:Nat):Int)]).length zc],#[.int .i64 ((lo:Nat):Int)]])) 116 rfl rfl kj kj (fun _ _ _ h=>h) (fun W hR=>(Qaq 34 _ g2 34 _ _ (Qac r2_16 hR) rfl kj kj (isz (n:=36) kj (by rw [Qaa,Qaa,Qaa,Qaa,Qaa]; simp only [qS,cat,((Qad _ _).trans (hLl _))]; rfl)))) ?_
       refine Qe6 6 kj <| QcL rfl (fun v W'=>v=(.int .i64 (((max pl (n+1):Nat):Int)-1))∧Ext W16 W') 36 #[.agg (cat [ints .u8 (L (max pl (n+1))),#[.int .i64 ((max pl (n+1):Nat):Int)],#[.slice h_a t0.length h_c],#[.slice za (zs++[((n:Nat):Int)]).length zc],#[.int .i64 ((lo:Nat):Int)]])] 117 rfl kj kj ((QkK (L (max pl (n+1))) (hLl _) (max pl (n+1)) h_a t0.length h_c (zs++[((n:Nat):Int)]) (by rw [List.length_append]; show zs.length+1≤_; omega) za zc ((lo:Nat):Int) _ (by omega) (OwnN.rd (QaI hzo (QaG 0 e16) (by decide))) hhi2).mono fun e w' h=>⟨_,h.1,rfl,h.2⟩) (fun _ _ h=>Rely.Ext.trans (Rely.Ext.refl W16) h.2) fun vv43 W17 hh43=>?_
       obtain ⟨rfl,e17⟩:=hh43
       have x17:=Ext.tr x16 e17
       refine QaY 7 (.int .i64 (((max pl (n+1):Nat):Int)-1-64)) 118 rfl rfl kj kj (fun _ _ _ h=>h) (fun W hR=>(Qai (u:=.int .i64 (IntKind.i64.wrap ((((max pl (n+1):Nat):Int)-1)-64))) kj (congrArg (Value.int .i64) (Qbp _ (by omega))))) <| QaY 8 (.bool false) 119 rfl rfl kj kj (fun _ _ _ h=>h) (fun W hR=>(Qai (u:=.bool (decide (((x.n:Nat):Int)≥(((max pl (n+1):Nat):Int)-1-64)))) kj (congrArg Value.bool (decide_eq_false (by omega))))) <| Qir kj <| hK42 _ _ <| cond_false kj <| wp_skip <| hK38 _ _ <| Qaf <| sg 1 kj <| Qab (.int .i64 ((i+1:Nat):Int)) 99 rfl kj (Qai (u:=.int .i64 (IntKind.i64.wrap (((i:Nat):Int)+1))) kj (congrArg (Value.int .i64) (i64n _ _ (by omega) (by omega)))) ?_
       refine sg 1 kj <| Qak ?_
       have hpq:hdP? n (max pl (n+1)) x=false:=by unfold hdP?; rw [decide_eq_false (by omega)]
       rw [hpq] at hst
       rw [if_neg (by decide),List.append_nil] at hst
       have r2_17:=(Qac r2_16 e17)
       have r3_16:=(Qac q3_3 e16)
       have r3_17:=(Qac r3_16 e17)
       have r4_16:=(Qac q4_3 e16)
       have r4_17:=(Qac r4_16 e17)
       have r31_16:=(Qac q31_3 e16)
       have r31_17:=(Qac r31_16 e17)
       repeat (first | with_reducible refine goX1 ?_ | with_reducible refine goX2 ?_ | with_reducible refine goX3 ?_)
       exact Qa4 ((i+1),r,rs,on,om,ou) ⟨kj,kj,kj,kj,kj,kj,kj,kj,kj,trivial⟩ ⟨(by omega),(QaR (QaR hu8 e16) e17),(QaR (QaR hr e16) e17),hst.symm,(QaV (QaV ha (QaG 0 e16) (by decide)) (QaG 0 e17) (by decide)),hom,(hou.imp (fun h9 y hy=>by rw [htk] at hy; rcases List.mem_append.1 hy with hy | hy; exact h9 y hy; (rw [List.mem_singleton] at hy; rw [hy]; exact hq.1)) id),(QaI (QaI hzo (QaG 0 e16) (by decide)) (QaG 0 e17) (by decide)),(qT hbr (qT (qT (qR _) e16.size) e17.size)),r2_17,r3_17,r4_17,r31_17,x17⟩ (by omega)
     ·skip
      have heq97:i=ts.length:=by have:=of_decide_eq_false c37; omega
      obtain ⟨x,hxm,hxn,rfl,rfl,rfl⟩:∃ x∈ts,x.n=n∧on=((x.n:Nat):Int)∧om=x.m.take 32∧ou=hdU x:=by
       rcases hou with h9 | h9
       ·exfalso
        rw [heq97,List.take_length] at h9
        have h8:n∈ts.map (·.n):=by
         rw [htn,List.mem_append]
         rcases Nat.lt_or_ge n pl with q | q
         ·exact .inl (hmem q)
         ·exact .inr (List.mem_range'_1.2 (by omega))
        obtain ⟨y,hy,hyn⟩:=List.mem_map.1 h8
        exact h9 y hy hyn
       ·exact h9
      have hxk:=ha x hxm
      have hxl:=hxk.inn.len
      obtain ⟨ar,cr,rfl⟩:=Qhs hr
      refine wp_exit <| hK33 _ _ <| sgC fun K44 hK44=>sg 2 kj <| Qaj g2 _ (cat [ints .u8 (L (max pl (n+1))),#[.int .i64 ((max pl (n+1):Nat):Int)],#[.slice ar rs.length cr],#[.slice za (zs++[((n:Nat):Int)]).length zc],#[.int .i64 ((lo:Nat):Int)]]) 34 q2_3 rfl kj (Qbf 31 _ _ g2 33 34 [ints .u8 (L (max pl (n+1))),#[.int .i64 ((max pl (n+1):Nat):Int)]] [#[.slice za (zs++[((n:Nat):Int)]).length zc],#[.int .i64 ((lo:Nat):Int)]] _ (.slice ar rs.length cr) q2_3 rfl kj kj kj (by rw [Qaa,Qaa]; simp only [qS,cat,((Qad _ _).trans (hLl _))]; rfl) rfl rfl) fun W16 p16 r2_16=>?_
      have x16:=Puts.ext p16 xx3 b2
      refine sgN hK44 <| wp_seq_k fun K45 hK45=>Qb3 (fun W=>W.heap[g2]? = some (.cells (cat [ints .u8 (L (max pl (n+1))),#[.int .i64 ((max pl (n+1):Nat):Int)],#[.slice ar rs.length cr],#[.slice za (zs++[((n:Nat):Int)]).length zc],#[.int .i64 ((lo:Nat):Int)]]) 34)) [⟨none,[(9,none)]⟩,⟨none,[(2,none)]⟩,⟨none,[(4,none),(129,some 0)]⟩,⟨none,[(5,none),(130,some 1)]⟩,⟨none,[]⟩] [] [1,4] kj kj kj (fun W hR=>Qac r2_16 hR) fun F hF=>?_
      have r31_16:=(Puts.row p16 q31_3 n_31_2)
      refine Qiz (.agg (cat [#[.int .i64 ((x.n:Nat):Int)],ints .u8 (x.m.take 32),#[hdU x]])) kj kj kj rfl (fun W hR=>(Qaq 50 _ g31 50 _ _ (Qac (Qac r31_16 (Qaz _)) hR) rfl kj kj (isz (n:=34) kj (by rw [Qaa,Qaa,Qaa]; simp only [qS,cat,((Qad _ _).trans (QaP hxl))]; rfl)))) ?_
      refine QcM (.agg (cat [ints .u8 (L (max pl (n+1))),#[.int .i64 ((max pl (n+1):Nat):Int)],#[.slice ar rs.length cr],#[.slice za (zs++[((n:Nat):Int)]).length zc],#[.int .i64 ((lo:Nat):Int)]])) kj kj kj rfl (fun W hW=>(Qaq 34 _ g2 34 _ _ hW rfl kj kj (isz (n:=36) kj (by rw [Qaa,Qaa,Qaa,Qaa,Qaa]; simp only [qS,cat,((Qad _ _).trans (hLl _))]; rfl)))) ?_
      refine Qb6 rfl <| Qb6 rfl <| QdU (.int .i64 0) kj kj rfl (fun W=>by kernel_rfl) <| Qf1 (hF _ kj fun W17 e17=>?_)
      simp only [List.nil_append,List.cons_append,fins,up]
      clear hF
      have x17:=Ext.tr x16 e17
      have r3_16:=(Puts.row p16 q3_3 n_3_2)
      have r3_17:=(Qac r3_16 e17)
      have r2_17:=(Qac r2_16 e17)
      refine Qby _ g3 _ (cat [#[.int .i64 ((x.n:Nat):Int)],ints .u8 (x.m.take 32),#[hdU x]]) 50 r3_17 rfl (Qal 50 _ _ g3 50 _ _ r3_17 rfl kj kj (isz (n:=34) kj (by rw [Qaa,Qaa,Qaa]; simp only [qS,cat,((Qad _ _).trans (QaP hxl))]; rfl)) (eqsz (n:=34) (by rw [Qaa,Qaa,Qaa]; simp only [qS,cat,((Qad _ _).trans (List.length_replicate (n:=32)))]; rfl) (by rw [Qaa,Qaa,Qaa]; simp only [qS,cat,((Qad _ _).trans (QaP hxl))]; rfl)) (QaD _ (by intro a ha; simp only [List.mem_cons,List.not_mem_nil,or_false] at ha; rcases ha with rfl | rfl | rfl; exact (Qan _ rfl); exact (Qau _ _); exact (Qan _ rfl)))) (fun W hp=>Puts.row hp r2_17 n_2_3) fun W18 p18 r3_18=>?_
      have x18:=Puts.ext p18 x17 (qT x1.size l3)
      have r4_16:=(Puts.row p16 q4_3 n_4_2)
      have r4_17:=(Qac r4_16 e17)
      have r4_18:=(Puts.row p18 r4_17 n_4_3)
      have r2_18:=(Puts.row p18 r2_17 n_2_3)
      refine Qby _ g4 _ (cat [ints .u8 (L (max pl (n+1))),#[.int .i64 ((max pl (n+1):Nat):Int)],#[.slice ar rs.length cr],#[.slice za (zs++[((n:Nat):Int)]).length zc],#[.int .i64 ((lo:Nat):Int)]]) 34 r4_18 rfl (Qal 34 _ _ g4 34 _ _ r4_18 rfl kj kj (isz (n:=36) kj (by rw [Qaa,Qaa,Qaa,Qaa,Qaa]; simp only [qS,cat,((Qad _ _).trans (hLl _))]; rfl)) (eqsz (n:=36) (by rw [Qaa,Qaa,Qaa,Qaa,Qaa]; simp only [qS,cat,((Qad _ _).trans (List.length_replicate (n:=32)))]; rfl) (by rw [Qaa,Qaa,Qaa,Qaa,Qaa]; simp only [qS,cat,((Qad _ _).trans (hLl _))]; rfl)) (QaD _ (by intro a ha; simp only [List.mem_cons,List.not_mem_nil,or_false] at ha; rcases ha with rfl | rfl | rfl | rfl | rfl; exact (Qau _ _); exact (Qan _ rfl); exact (Qan _ rfl); exact (Qan _ rfl); exact (Qan _ rfl)))) (fun W hp=>Puts.row hp r2_18 n_2_4) fun W19 p19 r4_19=>?_
      have x19:=Puts.ext p19 x18 (qT x2.size l4)
      refine QdA <| hK45 _ _ <| wp_ret ?_
      repeat (first | with_reducible refine goR1 ?_ | with_reducible refine goR2 ?_)
      have r3_19:=(Puts.row p19 r3_18 n_3_4)
      exact (show bodyPost _ _ _ .ret _ _ from ret3 (.agg (cat [#[.int .i64 ((x.n:Nat):Int)],ints .u8 (x.m.take 32),#[hdU x]])) (.agg (cat [ints .u8 (L (max pl (n+1))),#[.int .i64 ((max pl (n+1):Nat):Int)],#[.slice ar rs.length cr],#[.slice za (zs++[((n:Nat):Int)]).length zc],#[.int .i64 ((lo:Nat):Int)]])) (.int .i64 0) rfl (QaE g3 50 _ r3_19 kj kj (isz (n:=34) kj (by rw [Qaa,Qaa,Qaa]; simp only [qS,cat,((Qad _ _).trans (QaP hxl))]; rfl))) (QaE g4 34 _ r4_19 kj kj (isz (n:=36) kj (by rw [Qaa,Qaa,Qaa,Qaa,Qaa]; simp only [qS,cat,((Qad _ _).trans (hLl _))]; rfl))) (Qa2 kj) ⟨x,rs,ar,cr,za,zc,rfl,x19,hxn,(by rw [hxk.of,hxn]),((QaV (QaV (QaV (QaV ha (QaA p16 q2_3) (by decide)) (QaG 0 e17) (by decide)) (QaA p18 r3_17) (by decide)) (QaA p19 r4_18) (by decide)) x hxm).inn,Qex (QbV (QbV (QaR (QbV hr p16 hc_g2) e17) p18 hc_g3) p19 hc_g4) x14.size,(by rw [hrs,heq97,List.take_length,Qjn,htn]; rfl),(fun y hy=>(QaV (QaV (QaV (QaV ha (QaA p16 q2_3) (by decide)) (QaG 0 e17) (by decide)) (QaA p18 r3_17) (by decide)) (QaA p19 r4_18) (by decide)) y (List.mem_filter.1 (by rw [hrs,heq97,List.take_length] at hy; exact hy)).1),OwnN.base xx1.size (QaI (QaI (QaI (QaI hzo (QaA p16 q2_3) (by decide)) (QaG 0 e17) (by decide)) (QaA p18 r3_17) (by decide)) (QaA p19 r4_18) (by decide))⟩)
  rcases (show ((pl:Nat):Int)<((n:Nat):Int)∨((n:Nat):Int)≤((pl:Nat):Int) by omega) with hq | hq
  ·skip
   refine Qaf <| sg 2 kj <| Qab (.int .i64 ((pl:Nat):Int)) 51 rfl kj (Qag 3 _ g2 32 34 _ (.int .i64 ((pl:Nat):Int)) _ r2_5 rfl kj (Qaw [ints .u8 (L pl)] [#[.int .i64 ((pl:Nat):Int)]] [#[.slice h_a t0.length h_c],#[.slice a_z zs.length c_z],#[.int .i64 ((lo:Nat):Int)]] 32 ((Qad _ _).trans (hLl pl)) 0 _ rfl) kj) <| Qab (.bool true) 52 rfl kj (Qai (u:=.bool (decide (((n:Nat):Int)>((pl:Nat):Int)))) kj (congrArg Value.bool (decide_eq_true (by omega)))) <| sg 3 kj <| Qab (.int .i64 ((pl:Nat):Int)) 56 rfl kj (Qag 3 _ g2 32 34 _ (.int .i64 ((pl:Nat):Int)) _ r2_5 rfl kj (Qaw [ints .u8 (L pl)] [#[.int .i64 ((pl:Nat):Int)]] [#[.slice h_a t0.length h_c],#[.slice a_z zs.length c_z],#[.int .i64 ((lo:Nat):Int)]] 32 ((Qad _ _).trans (hLl pl)) 0 _ rfl) kj) <| Qab (.int .i64 (((n:Nat):Int)-((pl:Nat):Int))) 57 rfl kj (Qai (u:=.int .i64 (IntKind.i64.wrap (((n:Nat):Int)-((pl:Nat):Int)))) kj (congrArg (Value.int .i64) (Qbp _ (by omega)))) <| Qab (.bool false) 58 rfl kj (Qai (u:=.bool (decide ((((n:Nat):Int)-((pl:Nat):Int))>256))) kj (congrArg Value.bool (decide_eq_false (by omega)))) <| sg 1 kj <| Qak ?_
   rw [←QbX (M:=[(1,.int .i64 ((n:Nat):Int)),(2,.pointer (some ⟨g2,0,none⟩)),(4,.pointer (some ⟨g3,0,none⟩)),(5,.pointer (some ⟨g4,0,none⟩)),(6,.int .i64 0),(59,.bool false)]) ⟨rfl,rfl,rfl,rfl,rfl,rfl,trivial⟩]
   exact hJ20 _
  ·skip
   refine Qaf <| sg 2 kj <| Qab (.int .i64 ((pl:Nat):Int)) 51 rfl kj (Qag 3 _ g2 32 34 _ (.int .i64 ((pl:Nat):Int)) _ r2_5 rfl kj (Qaw [ints .u8 (L pl)] [#[.int .i64 ((pl:Nat):Int)]] [#[.slice h_a t0.length h_c],#[.slice a_z zs.length c_z],#[.int .i64 ((lo:Nat):Int)]] 32 ((Qad _ _).trans (hLl pl)) 0 _ rfl) kj) <| Qab (.bool false) 52 rfl kj (Qai (u:=.bool (decide (((n:Nat):Int)>((pl:Nat):Int)))) kj (congrArg Value.bool (decide_eq_false (by omega)))) <| sg 7 kj <| Qak ?_
   rw [←QbX (M:=[(1,.int .i64 ((n:Nat):Int)),(2,.pointer (some ⟨g2,0,none⟩)),(4,.pointer (some ⟨g3,0,none⟩)),(5,.pointer (some ⟨g4,0,none⟩)),(6,.int .i64 0),(59,.bool false)]) ⟨rfl,rfl,rfl,rfl,rfl,rfl,trivial⟩]
   exact hJ20 _
end Go.Proofs.YtibegnjaphohaaaDoor.Cn
end
section
namespace Go.Proofs.YtibegnjaphohaaaDoor.Cn
open Go Go.RowKit
open Rely Auto Own Sha
open Go.Proofs.YtibegnjaphohaaaDoor
theorem Qlh {z j:Nat} (hz:z≤5) (hj:j<2^z)  : Seat.upn ((2*j:Nat):Int) ((2^z:Nat):Int) z<0:=by
  have h32:j<32:=qL hj (Nat.pow_le_pow_right (by decide) hz:2^z≤2^5)
  exact (by decide +kernel:∀ (z:Fin 6) (j:Fin 32),j.val<2^z.val→Seat.upn ((2*j.val:Nat):Int) ((2^z.val:Nat):Int) z.val<0) ⟨z,by omega⟩ ⟨j,h32⟩ hj 
theorem Qlg {z j:Nat} (hz:z≤5) (hj:j<2^z) (i:Nat) (hi:i<z):0≤Seat.upn ((2*j:Nat):Int) ((2^z:Nat):Int) i:=by
  have h32:j<32:=qL hj (Nat.pow_le_pow_right (by decide) hz:2^z≤2^5)
  exact (by decide +kernel:∀ (z:Fin 6) (j:Fin 32),j.val<2^z.val→∀ i:Fin 5,i.val<z.val→0≤Seat.upn ((2*j.val:Nat):Int) ((2^z.val:Nat):Int) i.val) ⟨z,by omega⟩ ⟨j,h32⟩ hj ⟨i,by omega⟩ hi
theorem Qmx {z j:Nat} (hz:z≤5) (hj:j<2^z) {i:Nat} (hi:i<z):0≤nth (Seat.upL ((2*j:Nat):Int) ((2^z:Nat):Int) z) i∧nth (Seat.upL ((2*j:Nat):Int) ((2^z:Nat):Int) z) i≤62:=by
  have h32:j<32:=qL hj (Nat.pow_le_pow_right (by decide) hz:2^z≤2^5)
  exact (by decide +kernel:∀ (z:Fin 6) (j:Fin 32),j.val<2^z.val→∀ i:Fin 5,i.val<z.val→0≤nth (Seat.upL ((2*j.val:Nat):Int) ((2^z.val:Nat):Int) z.val) i.val∧nth (Seat.upL ((2*j.val:Nat):Int) ((2^z.val:Nat):Int) z.val) i.val≤62) ⟨z,by omega⟩ ⟨j,h32⟩ hj ⟨i,by omega⟩ hi
theorem QiJ {z j:Nat} (hz:z≤5) (hj:j<2^z) {i:Nat} (hi:i<z):Seat.i64 (nth (Seat.upL ((2*j:Nat):Int) ((2^z:Nat):Int) z) i):=by
  have h:=Qmx hz hj hi
  unfold Seat.i64; omega
theorem QkC {z j:Nat} (hz:z≤5) (hj:j<2^z) {r:Nat} (hr:r+1<z):(nth (Seat.upL ((2*j:Nat):Int) ((2^z:Nat):Int) z) r=Seat.kidL (nth (Seat.upL ((2*j:Nat):Int) ((2^z:Nat):Int) z) (r+1))↔j%2^(r+2)<2^(r+1)):=by
  have h32:j<32:=qL hj (Nat.pow_le_pow_right (by decide) hz:2^z≤2^5)
  exact (by decide +kernel:∀ (z:Fin 6) (j:Fin 32),j.val<2^z.val→∀ r:Fin 4,r.val+1<z.val→(nth (Seat.upL ((2*j.val:Nat):Int) ((2^z.val:Nat):Int) z.val) r.val=Seat.kidL (nth (Seat.upL ((2*j.val:Nat):Int) ((2^z.val:Nat):Int) z.val) (r.val+1))↔j.val%2^(r.val+2)<2^(r.val+1))) ⟨z,by omega⟩ ⟨j,h32⟩ hj ⟨r,by omega⟩ hr
theorem QiK {z j:Nat} (hz:z≤5) (hj:j<2^z) (h0:0<z):(((2*j:Nat):Int)=Seat.kidL (nth (Seat.upL ((2*j:Nat):Int) ((2^z:Nat):Int) z) 0)↔j%2^1<2^0):=by
  have h32:j<32:=qL hj (Nat.pow_le_pow_right (by decide) hz:2^z≤2^5)
  exact (by decide +kernel:∀ (z:Fin 6) (j:Fin 32),j.val<2^z.val→0<z.val→(((2*j.val:Nat):Int)=Seat.kidL (nth (Seat.upL ((2*j.val:Nat):Int) ((2^z.val:Nat):Int) z.val) 0)↔j.val%2^1<2^0)) ⟨z,by omega⟩ ⟨j,h32⟩ hj h0
theorem QmC {j p:Nat} (hp:p≤4) (h:j%2^(p+1)<2^p) (s:List Int):Qbk s (p+1) (j%2^(p+1))=Qbk (lftV s) p (j%2^p):=by
  rw [Qbk,if_pos h]
  congr 1
  rcases (show p=0∨p=1∨p=2∨p=3∨p=4 by omega) with rfl | rfl | rfl | rfl | rfl <;> omega
theorem QmB {j p:Nat} (hp:p≤4) (h:2^p≤j%2^(p+1)) (s:List Int):Qbk s (p+1) (j%2^(p+1))=Qbk (rgtV s) p (j%2^p):=by
  rw [Qbk,if_neg (by omega)]
  congr 1
  rcases (show p=0∨p=1∨p=2∨p=3∨p=4 by omega) with rfl | rfl | rfl | rfl | rfl <;> omega
theorem Qn6 (sec : List Int) (hsl:sec.length=32) (hsb:Qat sec) (z:Nat) (hz:z≤5) (j:Nat) (hj:j<2^z) (w:World):Calls Tryd.prog 11 #[.agg (ints .u8 sec),.int .i64 ((2^z:Nat):Int),.int .i64 ((j:Nat):Int)] w (Ret w (.agg (ints .u8 (Qbk sec z j)))):=by
 have hj32:j<32:=qL hj (Nat.pow_le_pow_right (by decide) hz:2^z≤2^5)
 refine enter 57 [(0,.agg (ints .u8 (sec))),(1,.int .i64 ((2^z:Nat):Int)),(2,.int .i64 ((j:Nat):Int))] Tryd.func11 rfl rfl kj rfl <| sgC fun K1 hK1=>Qap (ints .u8 (sec)) 23 3 rfl kj kj fun g2 W1 l2 e1 r2_1=>?_
 have x1:=Ext.tr (Rely.Ext.refl w) e1
 have b2:=qT (Rely.Ext.refl w).size l2
 refine Qap (ints .u8 (List.replicate 32 0)) 23 6 rfl kj kj fun g3 W2 l3 e2 r3_2=>?_
 have x2:=Ext.tr x1 e2
 refine sgN hK1 <| sgC fun K4 hK4=>sg 1 kj <| Qab (.int .i64 (((2*j:Nat):Int))) 14 rfl kj (Qai (u:=.int .i64 (IntKind.i64.wrap (2*((j:Nat):Int)))) kj (congrArg (Value.int .i64) ((Qbp _ (by omega)).trans (by omega)))) <| sg 1 kj <| Qa6 (fun v W'=>(OwnN .i64 3 W2.heap.size (Seat.upL ((2*j:Nat):Int) ((2^z:Nat):Int) z)) v W'∧Ext W2 W') 29 #[.int .i64 (((2*j:Nat):Int)),.int .i64 ((2^z:Nat):Int)] 16 rfl kj kj ((Seat.rpathC _ _ z (by omega) (Qlh hz hj) (fun i hi=>Qlg hz hj i hi) _).mono (by rintro e w' ⟨v,rfl,e1,hv⟩; exact ⟨v,rfl,hv,e1⟩)) fun vv5 W3 hh5=>?_
 obtain ⟨hv5,e3⟩:=hh5
 have x3:=Ext.tr x2 e3
 obtain ⟨a1,c1,rfl,-⟩:=id (OwnN.rd hv5)
 refine QaL (ints .i64 ([0])) 3 1 17 rfl kj kj fun g6 W4 l6 e4 r6_4=>?_
 have b6:=qT x3.size l6
 refine QaM (k:=.i64) (T:=3) (xs:=Seat.upL ((2*j:Nat):Int) ((2^z:Nat):Int) z) (ys:=[0]) (V:=W2) 8 (.tmp 16) (.tmp 17) 32 rfl kj kj (by decide) 18 rfl kj kj kj (hv5.ext e4) (QaU (xs:=[0]) (n:=1) rfl r6_4 (Qay r6_4) (show 1≤maxLen from by decide)) (by rw [Seat.upL_len]; show z+1≤1000000000; omega) (Rely.Ext.trans (Rely.Ext.trans (Rely.Ext.refl W2) e3) e4) fun u2 W5 f8 y5 l5=>?_
 have x5:=Ext.low (Ext.tr x3 e4) l5 x2.size
 obtain ⟨a2,c2,rfl,hcap2,-⟩:=id (OwnN.rd f8)
 have hl4:(Seat.upL ((2*j:Nat):Int) ((2^z:Nat):Int) z++[0]).length=z+1:=by rw [List.length_append,Seat.upL_len]; rfl
 have htk:(Seat.upL ((2*j:Nat):Int) ((2^z:Nat):Int) z++[0]).take z=Seat.upL ((2*j:Nat):Int) ((2^z:Nat):Int) z:=List.take_left' (Seat.upL_len _ _ _)
 have hcap:z≤c2:=by omega
 have hpl:=QiN f8 (show z≤(Seat.upL ((2*j:Nat):Int) ((2^z:Nat):Int) z++[0]).length by omega)
 rw [htk] at hpl
 refine sg 1 kj <| sgN hK4 <| sgC fun K9 hK9=>sg 3 kj <| Qab (.int .i64 (((z:Nat):Int))) 22 rfl kj (Qai (u:=.int .i64 (IntKind.i64.wrap ((((Seat.upL ((2*j:Nat):Int) ((2^z:Nat):Int) z++[0]).length:Nat):Int)-1))) kj (congrArg (Value.int .i64) ((Qbp _ (by omega)).trans (by omega)))) <| Qab (.slice a2 z c2) 23 rfl kj (QhU (len:=(Seat.upL ((2*j:Nat):Int) ((2^z:Nat):Int) z++[0]).length) 32 _ _ z 3 rfl kj kj kj .i64 kj hcap) <| sg 1 kj <| sgN hK9 <| sgC fun K10 hK10=>?_
 have r2_2:=(Qac r2_1 e2)
 refine Qab (.agg (ints .u8 (sec))) 24 rfl kj (Qaq 23 _ g2 23 _ _ (QaS l5 (Qac (Qac r2_2 e3) e4) (Qay r2_2)) rfl kj kj (isz (n:=32) kj ((Qad _ _).trans hsl))) <| Qap (ints .u8 (List.replicate 32 0)) 23 8 rfl kj kj fun g11 W6 l11 e6 r11_6=>?_
 have b11:=qT x5.size l11
 refine Qaj g11 _ (ints .u8 (sec)) 23 r11_6 rfl kj (Qal 23 _ _ g11 23 _ _ r11_6 rfl kj kj (isz (n:=32) kj ((Qad _ _).trans hsl)) (eqsz (n:=32) ((Qad _ _).trans (List.length_replicate (n:=32))) ((Qad _ _).trans hsl)) (Qau _ _)) fun W7 p7 r11_7=>sgN hK10 <| wp_seq_k fun K12 hK12=>sgC fun K13 hK13=>sg 2 kj <| Qab (.int .i64 (((z:Nat):Int)-1)) 27 rfl kj (Qai (u:=.int .i64 (IntKind.i64.wrap (((z:Nat):Int)-1))) kj (congrArg (Value.int .i64) (Qbp _ (by omega)))) <| sg 1 kj <| sgN hK13 <| wp_block <| QaC (fun (s1:Nat×List Int)=>[(2,.int .i64 ((j:Nat):Int)),(6,.pointer (some ⟨g3,0,none⟩)),(7,.slice a2 z c2),(8,.pointer (some ⟨g11,0,none⟩)),(9,.int .i64 (((s1.1:Nat):Int)-1))]) (fun (s1:Nat×List Int) W=>(s1.1≤z)∧(s1.2.length=32)∧(Qat s1.2)∧(Qbk sec z j=Qbk s1.2 s1.1 (j%2^s1.1))∧(W.heap[g11]? = some (.cells (ints .u8 (s1.2)) 23))∧(Qah [g11] W7 W)∧(Ext w W)) (fun (s1:Nat×List Int)=>s1.1) (z,sec) ⟨kj,kj,kj,kj,kj,trivial⟩ ⟨(qR _),hsl,hsb,(by rw [Nat.mod_eq_of_lt (show j<2^z from hj)]),r11_7,(Qah.refl [g11] W7),(Puts.ext p7 (Ext.tr x5 e6) b11)⟩ fun s1 X1 V1 hI1=>?_
 obtain ⟨q,s⟩:=s1
 obtain ⟨hq,hsl2,hsb2,hlf,q11_1,kk1,xx1⟩:=hI1
 replace hq:q≤z:=hq
 replace hsl2:s.length=32:=hsl2
 replace hsb2:Qat s:=hsb2
 replace hlf:Qbk sec z j=Qbk s q (j%2^q):=hlf
 replace q11_1:V1.heap[g11]? = some (.cells (ints .u8 (s)) 23):=q11_1
 replace kk1:Qah [g11] W7 V1:=kk1
 replace xx1:Ext w V1:=xx1
 have q8:=kk1
 refine wp_seq_k fun K14 hK14=>sgB kj <| Qa3 (t:=decide ((((q:Nat):Int)-1)≥0)) kj (fun c16=>?_) (fun c16=>?_)
 ·skip
  obtain ⟨p,rfl⟩:∃ p,q=p+1:=⟨q-1,by have:=of_decide_eq_true c16; omega⟩
  rw [show (((p+1:Nat):Int)-1)=((p:Nat):Int) by omega]
  refine wp_skip <| hK14 _ _ <| wp_seq_k fun K17 hK17=>wp_block <| sgC fun K18 hK18=>sg 1 kj <| Qab (.int .i64 (((2*j:Nat):Int))) 33 rfl kj (Qai (u:=.int .i64 (IntKind.i64.wrap (2*((j:Nat):Int)))) kj (congrArg (Value.int .i64) ((Qbp _ (by omega)).trans (by omega)))) <| sg 1 kj <| sgN hK18 <| wp_seq_k fun K19 hK19=>?_
  refine wp_seq_k fun K20 hK20=>?_
  rcases (show p=0∨∃ r,p=r+1 by cases p with | zero=>exact .inl rfl | succ r=>exact .inr ⟨r,rfl⟩) with hr | ⟨r,hr⟩
  ·skip
   refine Qaf <| sg 1 kj <| Qab (.bool false) 35 rfl kj (Qai (u:=.bool (decide (((p:Nat):Int)>0))) kj (congrArg Value.bool (decide_eq_false (by omega)))) <| sgN hK20 <| cond_false kj <| wp_skip <| hK19 _ _ <| sgC fun K21 hK21=>sg 2 kj ?_
   have hnp_22:(Seat.upL ((2*j:Nat):Int) ((2^z:Nat):Int) z).length=z:=(Seat.upL_len _ _ _)
   obtain ⟨gcp_22,ocp_22,hap_22,hlp_22,hcp_22⟩:=rdK_open (OwnN.rd (Auto.OwnN.keepsL ((hpl.ext e6).puts p7 (Qd0 hpl l11)) q8 (nb_cons (Qd0 hpl l11) nb_nil))) (by rw [hnp_22]; omega)
   refine Qab (.pointer (some ⟨gcp_22,ocp_22+p,none⟩)) 44 rfl kj (run_indexA 32 _ _ .i64 p gcp_22 ocp_22 z c2 3 a2 _ hap_22 rfl rfl kj kj kj kj (Nat.lt_of_lt_of_eq (show p<z by omega) (rfl:z=z).symm)) <| Qab (.int .i64 (nth (Seat.upL ((2*j:Nat):Int) ((2^z:Nat):Int) z) (p))) 45 rfl kj (QaH 3 _ _ (.int .i64 (nth (Seat.upL ((2*j:Nat):Int) ((2^z:Nat):Int) z) (p))) (hcp_22 p (Nat.lt_of_lt_of_eq (show p<z by omega) hnp_22.symm)) rfl kj kj) <| Qar (.tuple #[.int .i64 (Seat.kidL (nth (Seat.upL ((2*j:Nat):Int) ((2^z:Nat):Int) z) (p))),.int .i64 (Seat.kidR (nth (Seat.upL ((2*j:Nat):Int) ((2^z:Nat):Int) z) (p)))]) 30 #[.int .i64 (nth (Seat.upL ((2*j:Nat):Int) ((2^z:Nat):Int) z) (p))] 46 rfl kj kj ((QiG _ (QiJ hz hj (by omega))) _) fun W9 e9=>?_
   have x9:=Ext.tr xx1 e9
   refine sg 5 kj <| sgN hK21 <| wp_seq_k fun K26 hK26=>?_
   rcases Nat.lt_or_ge (j%2^(p+1)) (2^p) with hlr | hlr
   ·skip
    refine Qaf <| sg 2 kj <| Qab (.bool true) 51 rfl kj (Qai (u:=.bool ((((2*j:Nat):Int)==(Seat.kidL (nth (Seat.upL ((2*j:Nat):Int) ((2^z:Nat):Int) z) (p)))))) kj (congrArg Value.bool (beq_iff_eq.2 (by subst hr; exact (QiK hz hj (by omega)).2 hlr)))) ?_
    refine sgN hK26 <| cond_true kj <| Qaf ?_
    have r11_9:=(Qac q11_1 e9)
    refine Qab (.agg (ints .u8 (s))) 52 rfl kj (Qaq 23 _ g11 23 _ _ r11_9 rfl kj kj (isz (n:=32) kj ((Qad _ _).trans hsl2))) <| Qar (.agg (ints .u8 (lftV s))) 26 #[.agg (ints .u8 (s)),.string Qgc] 53 rfl kj kj ((fun W=>lftR s W hsl2 hsb2) _) fun W10 e10=>?_
    have x10:=Ext.tr x9 e10
    have r11_10:=(Qac r11_9 e10)
    refine Qaj g11 _ (ints .u8 (lftV s)) 23 r11_10 rfl kj (Qal 23 _ _ g11 23 _ _ r11_10 rfl kj kj (isz (n:=32) kj ((Qad _ _).trans (Qc9 _))) (eqsz (n:=32) ((Qad _ _).trans hsl2) ((Qad _ _).trans (Qc9 _))) (Qau _ _)) fun W11 p11 r11_11=>?_
    have x11:=Puts.ext p11 x10 b11
    refine Qak <| hK17 _ _ <| Qaf <| sg 1 kj <| Qab (.int .i64 (((p:Nat):Int)-1)) 31 rfl kj (Qai (u:=.int .i64 (IntKind.i64.wrap (((p:Nat):Int)-1))) kj (congrArg (Value.int .i64) (Qbp _ (by omega)))) <| sg 1 kj <| Qak ?_
    repeat (first | with_reducible refine goX1 ?_ | with_reducible refine goX2 ?_ | with_reducible refine goX3 ?_)
    exact Qa4 (p,(lftV s)) ⟨kj,kj,kj,kj,kj,trivial⟩ ⟨(by omega),(Qc9 _),(Qea _),(hlf.trans (QmC (by omega) hlr s)),r11_11,(Qah.puts (Qah.step (Qah.step q8 e9) e10) p11 (.inl (by simp))),x11⟩ (by omega)
   ·skip
    refine Qaf <| sg 2 kj <| Qab (.bool false) 51 rfl kj (Qai (u:=.bool ((((2*j:Nat):Int)==(Seat.kidL (nth (Seat.upL ((2*j:Nat):Int) ((2^z:Nat):Int) z) (p)))))) kj (congrArg Value.bool (beq_eq_false_iff_ne.2 (fun e=>absurd (by subst hr; exact (QiK hz hj (by omega)).1 e) (Nat.not_lt.2 hlr))))) ?_
    refine sgN hK26 <| cond_false kj <| Qaf ?_
    have r11_9:=(Qac q11_1 e9)
    refine Qab (.agg (ints .u8 (s))) 54 rfl kj (Qaq 23 _ g11 23 _ _ r11_9 rfl kj kj (isz (n:=32) kj ((Qad _ _).trans hsl2))) <| Qar (.agg (ints .u8 (rgtV s))) 26 #[.agg (ints .u8 (s)),.string Qeh] 55 rfl kj kj ((fun W=>rgtR s W hsl2 hsb2) _) fun W10 e10=>?_
    have x10:=Ext.tr x9 e10
    have r11_10:=(Qac r11_9 e10)
    refine Qaj g11 _ (ints .u8 (rgtV s)) 23 r11_10 rfl kj (Qal 23 _ _ g11 23 _ _ r11_10 rfl kj kj (isz (n:=32) kj ((Qad _ _).trans (Qc5 _))) (eqsz (n:=32) ((Qad _ _).trans hsl2) ((Qad _ _).trans (Qc5 _))) (Qau _ _)) fun W11 p11 r11_11=>?_
    have x11:=Puts.ext p11 x10 b11
    refine Qak <| hK17 _ _ <| Qaf <| sg 1 kj <| Qab (.int .i64 (((p:Nat):Int)-1)) 31 rfl kj (Qai (u:=.int .i64 (IntKind.i64.wrap (((p:Nat):Int)-1))) kj (congrArg (Value.int .i64) (Qbp _ (by omega)))) <| sg 1 kj <| Qak ?_
    repeat (first | with_reducible refine goX1 ?_ | with_reducible refine goX2 ?_ | with_reducible refine goX3 ?_)
    exact Qa4 (p,(rgtV s)) ⟨kj,kj,kj,kj,kj,trivial⟩ ⟨(by omega),(Qc5 _),(QdX _),(hlf.trans (QmB (by omega) hlr s)),r11_11,(Qah.puts (Qah.step (Qah.step q8 e9) e10) p11 (.inl (by simp))),x11⟩ (by omega)
  ·skip
   refine Qaf <| sg 1 kj <| Qab (.bool true) 35 rfl kj (Qai (u:=.bool (decide (((p:Nat):Int)>0))) kj (congrArg Value.bool (decide_eq_true (by omega)))) <| sgN hK20 <| cond_true kj <| Qaf <| sg 2 kj <| Qab (.int .i64 (((r:Nat):Int))) 38 rfl kj (Qai (u:=.int .i64 (IntKind.i64.wrap (((p:Nat):Int)-1))) kj (congrArg (Value.int .i64) ((Qbp _ (by omega)).trans (by omega)))) ?_
   have f30_8:=(Auto.OwnN.keepsL ((hpl.ext e6).puts p7 (Qd0 hpl l11)) q8 (nb_cons (Qd0 hpl l11) nb_nil))
   have hnp_27:(Seat.upL ((2*j:Nat):Int) ((2^z:Nat):Int) z).length=z:=(Seat.upL_len _ _ _)
   obtain ⟨gcp_27,ocp_27,hap_27,hlp_27,hcp_27⟩:=rdK_open (OwnN.rd f30_8) (by rw [hnp_27]; omega)
   refine Qab (.pointer (some ⟨gcp_27,ocp_27+r,none⟩)) 39 rfl kj (run_indexA 32 _ _ .i64 r gcp_27 ocp_27 z c2 3 a2 _ hap_27 rfl rfl kj kj kj kj (Nat.lt_of_lt_of_eq (show r<z by omega) (rfl:z=z).symm)) <| Qab (.int .i64 (nth (Seat.upL ((2*j:Nat):Int) ((2^z:Nat):Int) z) (r))) 40 rfl kj (QaH 3 _ _ (.int .i64 (nth (Seat.upL ((2*j:Nat):Int) ((2^z:Nat):Int) z) (r))) (hcp_27 r (Nat.lt_of_lt_of_eq (show r<z by omega) hnp_27.symm)) rfl kj kj) <| sg 1 kj <| Qak <| hK19 _ _ <| sgC fun K31 hK31=>sg 2 kj ?_
   have hnp_32:(Seat.upL ((2*j:Nat):Int) ((2^z:Nat):Int) z).length=z:=(Seat.upL_len _ _ _)
   obtain ⟨gcp_32,ocp_32,hap_32,hlp_32,hcp_32⟩:=rdK_open (OwnN.rd f30_8) (by rw [hnp_32]; omega)
   refine Qab (.pointer (some ⟨gcp_32,ocp_32+p,none⟩)) 44 rfl kj (run_indexA 32 _ _ .i64 p gcp_32 ocp_32 z c2 3 a2 _ hap_32 rfl rfl kj kj kj kj (Nat.lt_of_lt_of_eq (show p<z by omega) (rfl:z=z).symm)) <| Qab (.int .i64 (nth (Seat.upL ((2*j:Nat):Int) ((2^z:Nat):Int) z) (p))) 45 rfl kj (QaH 3 _ _ (.int .i64 (nth (Seat.upL ((2*j:Nat):Int) ((2^z:Nat):Int) z) (p))) (hcp_32 p (Nat.lt_of_lt_of_eq (show p<z by omega) hnp_32.symm)) rfl kj kj) <| Qar (.tuple #[.int .i64 (Seat.kidL (nth (Seat.upL ((2*j:Nat):Int) ((2^z:Nat):Int) z) (p))),.int .i64 (Seat.kidR (nth (Seat.upL ((2*j:Nat):Int) ((2^z:Nat):Int) z) (p)))]) 30 #[.int .i64 (nth (Seat.upL ((2*j:Nat):Int) ((2^z:Nat):Int) z) (p))] 46 rfl kj kj ((QiG _ (QiJ hz hj (by omega))) _) fun W9 e9=>?_
   have x9:=Ext.tr xx1 e9
   refine sg 5 kj <| sgN hK31 <| wp_seq_k fun K33 hK33=>?_
   rcases Nat.lt_or_ge (j%2^(p+1)) (2^p) with hlr | hlr
   ·skip
    refine Qaf <| sg 2 kj <| Qab (.bool true) 51 rfl kj (Qai (u:=.bool (((nth (Seat.upL ((2*j:Nat):Int) ((2^z:Nat):Int) z) (r))==(Seat.kidL (nth (Seat.upL ((2*j:Nat):Int) ((2^z:Nat):Int) z) (p)))))) kj (congrArg Value.bool (beq_iff_eq.2 (by subst hr; exact (QkC hz hj (by omega)).2 hlr)))) ?_
    refine sgN hK33 <| cond_true kj <| Qaf ?_
    have r11_9:=(Qac q11_1 e9)
    refine Qab (.agg (ints .u8 (s))) 52 rfl kj (Qaq 23 _ g11 23 _ _ r11_9 rfl kj kj (isz (n:=32) kj ((Qad _ _).trans hsl2))) <| Qar (.agg (ints .u8 (lftV s))) 26 #[.agg (ints .u8 (s)),.string Qgc] 53 rfl kj kj ((fun W=>lftR s W hsl2 hsb2) _) fun W10 e10=>?_
    have x10:=Ext.tr x9 e10
    have r11_10:=(Qac r11_9 e10)
    refine Qaj g11 _ (ints .u8 (lftV s)) 23 r11_10 rfl kj (Qal 23 _ _ g11 23 _ _ r11_10 rfl kj kj (isz (n:=32) kj ((Qad _ _).trans (Qc9 _))) (eqsz (n:=32) ((Qad _ _).trans hsl2) ((Qad _ _).trans (Qc9 _))) (Qau _ _)) fun W11 p11 r11_11=>?_
    have x11:=Puts.ext p11 x10 b11
    refine Qak <| hK17 _ _ <| Qaf <| sg 1 kj <| Qab (.int .i64 (((p:Nat):Int)-1)) 31 rfl kj (Qai (u:=.int .i64 (IntKind.i64.wrap (((p:Nat):Int)-1))) kj (congrArg (Value.int .i64) (Qbp _ (by omega)))) <| sg 1 kj <| Qak ?_
    repeat (first | with_reducible refine goX1 ?_ | with_reducible refine goX2 ?_ | with_reducible refine goX3 ?_)
    exact Qa4 (p,(lftV s)) ⟨kj,kj,kj,kj,kj,trivial⟩ ⟨(by omega),(Qc9 _),(Qea _),(hlf.trans (QmC (by omega) hlr s)),r11_11,(Qah.puts (Qah.step (Qah.step q8 e9) e10) p11 (.inl (by simp))),x11⟩ (by omega)
   ·skip
    refine Qaf <| sg 2 kj <| Qab (.bool false) 51 rfl kj (Qai (u:=.bool (((nth (Seat.upL ((2*j:Nat):Int) ((2^z:Nat):Int) z) (r))==(Seat.kidL (nth (Seat.upL ((2*j:Nat):Int) ((2^z:Nat):Int) z) (p)))))) kj (congrArg Value.bool (beq_eq_false_iff_ne.2 (fun e=>absurd (by subst hr; exact (QkC hz hj (by omega)).1 e) (Nat.not_lt.2 hlr))))) ?_
    refine sgN hK33 <| cond_false kj <| Qaf ?_
    have r11_9:=(Qac q11_1 e9)
    refine Qab (.agg (ints .u8 (s))) 54 rfl kj (Qaq 23 _ g11 23 _ _ r11_9 rfl kj kj (isz (n:=32) kj ((Qad _ _).trans hsl2))) <| Qar (.agg (ints .u8 (rgtV s))) 26 #[.agg (ints .u8 (s)),.string Qeh] 55 rfl kj kj ((fun W=>rgtR s W hsl2 hsb2) _) fun W10 e10=>?_
    have x10:=Ext.tr x9 e10
    have r11_10:=(Qac r11_9 e10)
    refine Qaj g11 _ (ints .u8 (rgtV s)) 23 r11_10 rfl kj (Qal 23 _ _ g11 23 _ _ r11_10 rfl kj kj (isz (n:=32) kj ((Qad _ _).trans (Qc5 _))) (eqsz (n:=32) ((Qad _ _).trans hsl2) ((Qad _ _).trans (Qc5 _))) (Qau _ _)) fun W11 p11 r11_11=>?_
    have x11:=Puts.ext p11 x10 b11
    refine Qak <| hK17 _ _ <| Qaf <| sg 1 kj <| Qab (.int .i64 (((p:Nat):Int)-1)) 31 rfl kj (Qai (u:=.int .i64 (IntKind.i64.wrap (((p:Nat):Int)-1))) kj (congrArg (Value.int .i64) (Qbp _ (by omega)))) <| sg 1 kj <| Qak ?_
    repeat (first | with_reducible refine goX1 ?_ | with_reducible refine goX2 ?_ | with_reducible refine goX3 ?_)
    exact Qa4 (p,(rgtV s)) ⟨kj,kj,kj,kj,kj,trivial⟩ ⟨(by omega),(Qc5 _),(QdX _),(hlf.trans (QmB (by omega) hlr s)),r11_11,(Qah.puts (Qah.step (Qah.step q8 e9) e10) p11 (.inl (by simp))),x11⟩ (by omega)
 ·skip
  obtain rfl:q=0:=by have:=of_decide_eq_false c16; omega
  refine wp_exit <| hK12 _ _ <| sgC fun K34 hK34=>Qab (.agg (ints .u8 (s))) 56 rfl kj (Qaq 23 _ g11 23 _ _ q11_1 rfl kj kj (isz (n:=32) kj ((Qad _ _).trans hsl2))) ?_
  have r3_5:=(QaS l5 (Qac (Qac r3_2 e3) e4) (Qay r3_2))
  have r3_8:=(Qah.row q8 (Puts.row p7 (Qac r3_5 e6) (Qae r3_5 l11)) (Qax (Qae r3_5 l11) QaJ))
  refine Qaj g3 _ (ints .u8 (s)) 23 r3_8 rfl kj (Qal 23 _ _ g3 23 _ _ r3_8 rfl kj kj (isz (n:=32) kj ((Qad _ _).trans hsl2)) (eqsz (n:=32) ((Qad _ _).trans (List.length_replicate (n:=32))) ((Qad _ _).trans hsl2)) (Qau _ _)) fun W9 p9 r3_9=>?_
  have x9:=Puts.ext p9 xx1 (qT x1.size l3)
  refine sgN hK34 <| wp_ret ?_
  repeat (first | with_reducible refine goR1 ?_ | with_reducible refine goR2 ?_)
  exact (show bodyPost _ _ _ .ret _ _ from ret1 (.agg (ints .u8 (s))) rfl (QaE g3 23 _ r3_9 kj kj (isz (n:=32) kj ((Qad _ _).trans hsl2))) ⟨congrArg (fun z=>Ending.returned (.agg (ints .u8 z))) (show s=Qbk sec z j from hlf.symm),x9⟩)
end Go.Proofs.YtibegnjaphohaaaDoor.Cn
end
section
namespace Go.Proofs.YtibegnjaphohaaaDoor.Cn
open Go Go.RowKit
open Rely Auto Own Sha
open Go.Proofs.YtibegnjaphohaaaDoor
theorem Qnq (n : Int) (kk xs:List Int) (u1 u2:Value) (B1 B2:Nat) (w:World) (hkk:kk.length=32) (hxb:Qat xs) (h1:RdK .u8 B1 xs u1 w) (h2:RdK .u8 B2 xs u2 w):Calls Tryd.prog 21 #[.agg (cat [#[.int .i64 n],ints .u8 (kk),#[u1]]),.agg (cat [#[.int .i64 n],ints .u8 (kk),#[u2]])] w (Ret w (.bool true)):=by
  refine enter 24 [(0,.agg (cat [#[.int .i64 n],ints .u8 (kk),#[u1]])),(1,.agg (cat [#[.int .i64 n],ints .u8 (kk),#[u2]]))] Tryd.func21 rfl rfl kj rfl ?_
  refine wp_seq_k fun K1 hK1=>?_
  refine Qaf ?_
  refine Qap (cat [#[.int .i64 n],ints .u8 (kk),#[u1]]) 40 2 rfl kj kj fun g2 W1 l2 e1 r2_1=>?_
  have x1:Ext w W1:=Ext.tr (Rely.Ext.refl w) e1
  have b2:w.heap.size≤g2:=qT (Rely.Ext.refl w).size l2
  refine Qap (cat [#[.int .i64 n],ints .u8 (kk),#[u2]]) 50 3 rfl kj kj fun g3 W2 l3 e2 r3_2=>?_
  have x2:Ext w W2:=Ext.tr x1 e2
  have b3:w.heap.size≤g3:=qT x1.size l3
  refine Qab (.bool false) 4 rfl kj kj ?_
  refine Qak ?_
  refine hK1 _ _ ?_
  refine wp_seq_k fun K4 hK4=>?_
  refine Qaf ?_
  refine Qab (.pointer (some ⟨g2,0,none⟩)) 5 rfl kj kj ?_
  have r2_2:=(Qac r2_1 e2)
  refine Qab (.int .i64 n) 6 rfl kj (Qag 3 _ g2 0 40 _ (.int .i64 n) _ r2_2 rfl kj (Qaw [] [#[.int .i64 n]] [ints .u8 (kk),#[u1]] 0 kj 0 _ rfl) kj) ?_
  refine Qab (.pointer (some ⟨g3,0,none⟩)) 7 rfl kj kj ?_
  refine Qab (.int .i64 n) 8 rfl kj (Qag 3 _ g3 0 50 _ (.int .i64 n) _ r3_2 rfl kj (Qaw [] [#[.int .i64 n]] [ints .u8 (kk),#[u2]] 0 kj 0 _ rfl) kj) ?_
  refine Qab (.bool true) 9 rfl kj (Qai (u:=.bool ((n==n))) kj (congrArg Value.bool (by simp))) ?_
  refine Qab (.bool true) 10 rfl kj kj ?_
  refine Qab (.pointer (some ⟨g2,1,none⟩)) 11 rfl kj kj ?_
  refine Qab (.agg (ints .u8 (kk))) 12 rfl kj (QaK 37 _ g2 1 40 _ _ _ r2_2 rfl kj (Qaw [#[.int .i64 n]] [ints .u8 (kk)] [#[u1]] 1 kj) kj (isz (n:=32) kj ((Qad _ _).trans hkk))) ?_
  refine Qab (.pointer (some ⟨g3,1,none⟩)) 13 rfl kj kj ?_
  refine Qab (.agg (ints .u8 (kk))) 14 rfl kj (QaK 37 _ g3 1 50 _ _ _ r3_2 rfl kj (Qaw [#[.int .i64 n]] [ints .u8 (kk)] [#[u2]] 1 kj) kj (isz (n:=32) kj ((Qad _ _).trans hkk))) ?_
  refine Qab (.bool true) 15 rfl kj (QgJ 37 _ _ _ _ _ (.bool true) rfl kj kj kj (Qjz 37 (e:=5) (k:=.u8) (kk) (kk) (decide_eq_true rfl) hkk hkk kj kj kj _)) ?_
  refine Qab (.bool true) 16 rfl kj kj ?_
  refine Qab (.bool true) 17 rfl kj kj ?_
  refine Qab (.pointer (some ⟨g2,33,none⟩)) 18 rfl kj kj ?_
  refine Qab (u1) 19 rfl kj (Qag 38 _ g2 33 40 _ (u1) _ r2_2 rfl kj (Qaw [#[.int .i64 n],ints .u8 (kk)] [#[u1]] [] 33 (by rw [Qaa,Qaa]; simp only [qS,cat,((Qad _ _).trans hkk)]; rfl) 0 _ rfl) kj) ?_
  refine Qab (.pointer (some ⟨g3,33,none⟩)) 20 rfl kj kj ?_
  refine Qab (u2) 21 rfl kj (Qag 38 _ g3 33 50 _ (u2) _ r3_2 rfl kj (Qaw [#[.int .i64 n],ints .u8 (kk)] [#[u2]] [] 33 (by rw [Qaa,Qaa]; simp only [qS,cat,((Qad _ _).trans hkk)]; rfl) 0 _ rfl) kj) ?_
  refine Qar (.bool true) 24 #[u1,u2] 22 rfl kj kj (Qnp u1 u2 xs _ (RdK.bytes (RdK.ext h1 x2) hxb) (RdK.bytes (RdK.ext h2 x2) hxb)) fun W3 e3=>?_
  have x3:Ext w W3:=Ext.tr x2 e3
  refine Qab (.bool true) 23 rfl kj kj ?_
  refine Qab (.bool true) 4 rfl kj kj ?_
  refine Qak ?_
  refine hK4 _ _ ?_
  refine wp_ret ?_
  repeat (first | with_reducible refine goR1 ?_ | with_reducible refine goR2 ?_)
  exact (show bodyPost _ _ _ .ret _ _ from ret1 (.bool true) rfl (Qa2 kj) ⟨rfl,x3⟩)
end Go.Proofs.YtibegnjaphohaaaDoor.Cn
end
section
namespace Go.Proofs.YtibegnjaphohaaaDoor.Cn
open Go Go.RowKit
open Rely Auto Own Sha
open Go.Proofs.YtibegnjaphohaaaDoor
theorem QjJ {k : IntKind} {xs:List Int} {rest:Array Value} {i:Nat} (h:i<xs.length):(ints k xs++rest)[i]? = some (.int k (nth xs i)):=by
  rw [Array.getElem?_append_left (by rw [Qad]; exact h)]
  exact Qbg k xs i h
theorem QjI (k : IntKind) (xs:List Int) (rest:Array Value) (i:Nat) (v:Int) (h:i<xs.length):(ints k xs++rest).setIfInBounds i (.int k v)=ints k (xs.set i v)++rest:=by
  apply Array.ext'
  simp [ints,List.set_append_left,h]
theorem Qf6 {P : Program} {ρ:Operand→Value} {o:Oper} {w:World} {k:IntKind} (ty:TypeId) (x y:Operand) (g off:Nat) (t:TypeId) (rest:Array Value) (xs:List Int) (v:Int) (hg:w.heap[g]? = some (.cells (ints k xs++rest) t))
    (ho:o.op=.store ty x y) (hx:ρ x=.pointer (some ⟨g,off,none⟩)) (hy:ρ y=.int k v) (hi:(P.info? ty).map (·.size)=some 1) (hs:off<xs.length) :
    (execOp ρ o).run P w=.ok .skip (w.setRow g (ints k (xs.set off v)++rest)):=by
  rw [←QjI k xs rest off v hs]
  exact QbC ty x y g off t _ _ hg ho hx hy hi (by rw [qS,Qad]; simp; omega) rfl rfl
theorem QiO {k : IntKind} {T:TypeId} {base n:Nat} {xs:List Int} {v:Value} {W:World} (h:OwnN k T base xs v W) (hn:xs.length=n) (h0:0<n) :
    ∃ g c rest,v=.slice (some ⟨g,0,none⟩) n c∧base≤g∧W.heap[g]? = some (.cells (ints k xs++rest) T)∧n+rest.size=c∧c≤maxLen:=by
  subst hn
  obtain ⟨g,c,cur,h1,h2,h3,h4,h5,h6,h7⟩:=Qdc h h0
  have e:cur=ints k xs++(cur.toList.drop xs.length).toArray:=by
    apply Array.ext'
    rw [Array.toList_append]
    show cur.toList=xs.map (Value.int k)++cur.toList.drop xs.length
    rw [←h7,List.take_append_drop]
  refine ⟨g,c,(cur.toList.drop xs.length).toArray,h1,h2,e▸h3,?_,h6⟩
  have h8:((cur.toList.drop xs.length).toArray).size=cur.size-xs.length:=by simp
  omega
theorem QnD (gc : Nat) (la:Option Addr) (len cap:Nat) (w:World) (hgc:w.heap[gc]? = some (.cells #[.slice la len cap] 70)) (n:Int) (hn:n<0):Calls Tryd.prog 31 #[.pointer (some ⟨gc,0,none⟩),.int .i64 n] w (Ret w (.pointer none)):=by
  refine enter 27 [(0,.pointer (some ⟨gc,0,none⟩)),(1,.int .i64 n)] Tryd.func31 rfl rfl kj rfl <| sgB kj <| wp_seq_k fun K4 hK4=>sgC fun K5 hK5=>sg 4 kj <| Qab (.bool true) 9 rfl kj (Qai (u:=.bool (decide (n<0))) kj (congrArg Value.bool (decide_eq_true (by omega)))) <| sg 10 kj <| sgN hK5 <| cond_true kj <| sgB kj ?_
  refine wp_ret ?_
  repeat (first | with_reducible refine goR1 ?_ | with_reducible refine goR2 ?_)
  exact (show bodyPost _ _ _ .ret _ _ from ret1 (.pointer none) rfl (Qa2 kj) ⟨rfl,(Rely.Ext.refl w)⟩)
theorem QnE (gc : Nat) (la:Option Addr) (len cap:Nat) (w:World) (hgc:w.heap[gc]? = some (.cells #[.slice la len cap] 70)) (n:Int) (hn0:0≤n) (hn:((len:Nat):Int)≤n):Calls Tryd.prog 31 #[.pointer (some ⟨gc,0,none⟩),.int .i64 n] w (Ret w (.pointer none)):=by
  refine enter 27 [(0,.pointer (some ⟨gc,0,none⟩)),(1,.int .i64 n)] Tryd.func31 rfl rfl kj rfl <| sgB kj <| wp_seq_k fun K4 hK4=>sgC fun K5 hK5=>sg 4 kj <| Qab (.bool false) 9 rfl kj (Qai (u:=.bool (decide (n<0))) kj (congrArg Value.bool (decide_eq_false (by omega)))) <| sg 6 kj <| Qab (.slice la len cap) 16 rfl kj (Qag 68 _ gc 0 70 _ (.slice la len cap) _ hgc rfl kj kj kj) <| sg 1 kj <| Qab (.bool true) 18 rfl kj (Qai (u:=.bool (decide (n≥((len:Nat):Int)))) kj (congrArg Value.bool (decide_eq_true (by omega)))) ?_
  refine sg 1 kj <| sgN hK5 <| cond_true kj <| sgB kj <| wp_ret ?_
  repeat (first | with_reducible refine goR1 ?_ | with_reducible refine goR2 ?_)
  exact (show bodyPost _ _ _ .ret _ _ from ret1 (.pointer none) rfl (Qa2 kj) ⟨rfl,(Rely.Ext.refl w)⟩)
theorem at_Q (gc : Nat) (la:Option Addr) (len cap:Nat) (w:World) (hgc:w.heap[gc]? = some (.cells #[.slice la len cap] 70)) (n:Int) (hn:n<0∨((len:Nat):Int)≤n):Calls Tryd.prog 31 #[.pointer (some ⟨gc,0,none⟩),.int .i64 n] w (Ret w (.pointer none)):=by
  by_cases h:n<0
  · exact QnD gc la len cap w hgc n h
  · exact QnE gc la len cap w hgc n (by omega) (by omega)
theorem Qli (gc : Nat) (la:Option Addr) (len cap:Nat) (w:World) (hgc:w.heap[gc]? = some (.cells #[.slice la len cap] 70)) (n:Int) (hn:n<0∨((len:Nat):Int)≤n):Calls Tryd.prog 16 #[.pointer (some ⟨gc,0,none⟩),.int .i64 n] w (Ret w (.int .i64 (-1))):=by
  refine enter 15 [(0,.pointer (some ⟨gc,0,none⟩)),(1,.int .i64 n)] Tryd.func16 rfl rfl kj rfl <| sgB kj <| sgC fun K4 hK4=>sg 2 kj <| Qar (.pointer none) 31 #[.pointer (some ⟨gc,0,none⟩),.int .i64 n] 8 rfl kj kj (at_Q gc la len cap _ hgc n hn) fun W1 e1=>sg 1 kj <| sgN hK4 <| wp_seq_k fun K5 hK5=>sgB kj <| cond_true kj ?_
  refine sgB kj <| wp_ret ?_
  repeat (first | with_reducible refine goR1 ?_ | with_reducible refine goR2 ?_)
  exact (show bodyPost _ _ _ .ret _ _ from ret1 (.int .i64 (-1)) rfl (Qa2 kj) ⟨rfl,(Ext.tr (Rely.Ext.refl w) e1)⟩)
theorem QmL (gc : Nat) (la:Option Addr) (len cap:Nat) (w:World) (hgc:w.heap[gc]? = some (.cells #[.slice la len cap] 70)) (n:Int) (hn:n<0∨((len:Nat):Int)≤n):Calls Tryd.prog 17 #[.pointer (some ⟨gc,0,none⟩),.int .i64 n] w (Ret w (.int .i64 0)):=by
  refine enter 16 [(0,.pointer (some ⟨gc,0,none⟩)),(1,.int .i64 n)] Tryd.func17 rfl rfl kj rfl <| sgB kj <| sgC fun K4 hK4=>sg 2 kj <| Qar (.pointer none) 31 #[.pointer (some ⟨gc,0,none⟩),.int .i64 n] 8 rfl kj kj (at_Q gc la len cap _ hgc n hn) fun W1 e1=>sg 1 kj <| sgN hK4 <| wp_seq_k fun K5 hK5=>sgB kj <| cond_true kj ?_
  refine sgB kj <| wp_ret ?_
  repeat (first | with_reducible refine goR1 ?_ | with_reducible refine goR2 ?_)
  exact (show bodyPost _ _ _ .ret _ _ from ret1 (.int .i64 0) rfl (Qa2 kj) ⟨rfl,(Ext.tr (Rely.Ext.refl w) e1)⟩)
theorem Qm8 (gc : Nat) (la:Option Addr) (len cap:Nat) (w:World) (hgc:w.heap[gc]? = some (.cells #[.slice la len cap] 70)) (n:Int) (hn:n<0∨((len:Nat):Int)≤n) (m:Int):Calls Tryd.prog 14 #[.pointer (some ⟨gc,0,none⟩),.int .i64 n,.int .i64 m] w (Ret w (.tuple #[.agg (cat [#[.int .i64 0],ints .u8 (List.replicate 32 0),#[.slice none 0 0]]),.iface 47 (.int .i64 9)])):=by
  refine enter 27 [(0,.pointer (some ⟨gc,0,none⟩)),(1,.int .i64 n),(2,.int .i64 m)] Tryd.func14 rfl rfl kj rfl <| sgC fun K3 hK3=>Qap (cat [#[.int .i64 0],ints .u8 (List.replicate 32 0),#[.slice none 0 0]]) 40 6 rfl kj kj fun g4 W1 l4 e1 r4_1=>sg 1 kj <| sgN hK3 <| sgC fun K5 hK5=>sg 2 kj <| Qar (.pointer none) 31 #[.pointer (some ⟨gc,0,none⟩),.int .i64 n] 12 rfl kj kj (at_Q gc la len cap _ (Qac hgc e1) n hn) fun W2 e2=>sg 1 kj <| sgN hK5 ?_
  refine wp_seq_k fun K6 hK6=>sgB kj <| cond_true kj <| sgC fun K8 hK8=>sg 2 kj ?_
  have r4_2:=(Qac r4_1 e2)
  refine Qaj g4 _ (cat [#[.int .i64 0],ints .u8 (List.replicate 32 0),#[.slice none 0 0]]) 40 r4_2 rfl kj (Qal 40 _ _ g4 40 _ _ r4_2 rfl kj kj (isz (n:=34) kj (by rw [Qaa,Qaa,Qaa]; simp only [qS,cat,((Qad _ _).trans (List.length_replicate (n:=32)))]; rfl)) (eqsz (n:=34) (by rw [Qaa,Qaa,Qaa]; simp only [qS,cat,((Qad _ _).trans (List.length_replicate (n:=32)))]; rfl) (by rw [Qaa,Qaa,Qaa]; simp only [qS,cat,((Qad _ _).trans (List.length_replicate (n:=32)))]; rfl)) (QaD _ (by intro a ha; simp only [List.mem_cons,List.not_mem_nil,or_false] at ha; rcases ha with rfl | rfl | rfl; exact (Qan _ rfl); exact (Qau _ _); exact (Qan _ rfl)))) fun W3 p3 r4_3=>?_
  refine sg 1 kj <| sgN hK8 <| wp_ret ?_
  repeat (first | with_reducible refine goR1 ?_ | with_reducible refine goR2 ?_)
  exact (show bodyPost _ _ _ .ret _ _ from ret2 (.agg (cat [#[.int .i64 0],ints .u8 (List.replicate 32 0),#[.slice none 0 0]])) (.iface 47 (.int .i64 9)) rfl (QaE g4 40 _ r4_3 kj kj (isz (n:=34) kj (by rw [Qaa,Qaa,Qaa]; simp only [qS,cat,((Qad _ _).trans (List.length_replicate (n:=32)))]; rfl))) (Qa2 kj) ⟨rfl,(Puts.ext p3 (Ext.tr (Ext.tr (Rely.Ext.refl w) e1) e2) (qT (Rely.Ext.refl w).size l4))⟩)
theorem Qms (gc : Nat) (la:Option Addr) (len cap:Nat) (w:World) (hgc:w.heap[gc]? = some (.cells #[.slice la len cap] 70)) (n:Int) (hn:n<0∨((len:Nat):Int)≤n) (m:Int):Calls Tryd.prog 13 #[.pointer (some ⟨gc,0,none⟩),.int .i64 n,.int .i64 m] w (Ret w (.tuple #[.agg (cat [#[.int .i64 0],ints .u8 (List.replicate 32 0),#[.slice none 0 0]]),.iface 47 (.int .i64 9)])):=by
  refine enter 29 [(0,.pointer (some ⟨gc,0,none⟩)),(1,.int .i64 n),(2,.int .i64 m)] Tryd.func13 rfl rfl kj rfl <| sgC fun K3 hK3=>Qap (cat [#[.int .i64 0],ints .u8 (List.replicate 32 0),#[.slice none 0 0]]) 40 6 rfl kj kj fun g4 W1 l4 e1 r4_1=>sg 1 kj <| sgN hK3 <| sgC fun K5 hK5=>sg 2 kj <| Qar (.pointer none) 31 #[.pointer (some ⟨gc,0,none⟩),.int .i64 n] 12 rfl kj kj (at_Q gc la len cap _ (Qac hgc e1) n hn) fun W2 e2=>sg 1 kj <| sgN hK5 ?_
  refine wp_seq_k fun K6 hK6=>sgB kj <| cond_true kj <| sgC fun K8 hK8=>sg 2 kj ?_
  have r4_2:=(Qac r4_1 e2)
  refine Qaj g4 _ (cat [#[.int .i64 0],ints .u8 (List.replicate 32 0),#[.slice none 0 0]]) 40 r4_2 rfl kj (Qal 40 _ _ g4 40 _ _ r4_2 rfl kj kj (isz (n:=34) kj (by rw [Qaa,Qaa,Qaa]; simp only [qS,cat,((Qad _ _).trans (List.length_replicate (n:=32)))]; rfl)) (eqsz (n:=34) (by rw [Qaa,Qaa,Qaa]; simp only [qS,cat,((Qad _ _).trans (List.length_replicate (n:=32)))]; rfl) (by rw [Qaa,Qaa,Qaa]; simp only [qS,cat,((Qad _ _).trans (List.length_replicate (n:=32)))]; rfl)) (QaD _ (by intro a ha; simp only [List.mem_cons,List.not_mem_nil,or_false] at ha; rcases ha with rfl | rfl | rfl; exact (Qan _ rfl); exact (Qau _ _); exact (Qan _ rfl)))) fun W3 p3 r4_3=>?_
  refine sg 1 kj <| sgN hK8 <| wp_ret ?_
  repeat (first | with_reducible refine goR1 ?_ | with_reducible refine goR2 ?_)
  exact (show bodyPost _ _ _ .ret _ _ from ret2 (.agg (cat [#[.int .i64 0],ints .u8 (List.replicate 32 0),#[.slice none 0 0]])) (.iface 47 (.int .i64 9)) rfl (QaE g4 40 _ r4_3 kj kj (isz (n:=34) kj (by rw [Qaa,Qaa,Qaa]; simp only [qS,cat,((Qad _ _).trans (List.length_replicate (n:=32)))]; rfl))) (Qa2 kj) ⟨rfl,(Puts.ext p3 (Ext.tr (Ext.tr (Rely.Ext.refl w) e1) e2) (qT (Rely.Ext.refl w).size l4))⟩)
theorem Qm2 (gc : Nat) (la:Option Addr) (len cap:Nat) (w:World) (hgc:w.heap[gc]? = some (.cells #[.slice la len cap] 70)) (n:Int) (hn:n<0∨((len:Nat):Int)≤n):Calls Tryd.prog 12 #[.pointer (some ⟨gc,0,none⟩),.int .i64 n] w (Ret w (.tuple #[.agg (cat [#[.int .i64 0],ints .u8 (List.replicate 32 0),#[.slice none 0 0]]),.iface 47 (.int .i64 9)])):=by
  refine enter 23 [(0,.pointer (some ⟨gc,0,none⟩)),(1,.int .i64 n)] Tryd.func12 rfl rfl kj rfl <| sgC fun K3 hK3=>Qap (cat [#[.int .i64 0],ints .u8 (List.replicate 32 0),#[.slice none 0 0]]) 40 4 rfl kj kj fun g4 W1 l4 e1 r4_1=>sg 1 kj <| sgN hK3 <| sgC fun K5 hK5=>sg 2 kj <| Qar (.pointer none) 31 #[.pointer (some ⟨gc,0,none⟩),.int .i64 n] 9 rfl kj kj (at_Q gc la len cap _ (Qac hgc e1) n hn) fun W2 e2=>sg 1 kj <| sgN hK5 ?_
  refine wp_seq_k fun K6 hK6=>sgB kj <| cond_true kj <| sgC fun K8 hK8=>sg 2 kj ?_
  have r4_2:=(Qac r4_1 e2)
  refine Qaj g4 _ (cat [#[.int .i64 0],ints .u8 (List.replicate 32 0),#[.slice none 0 0]]) 40 r4_2 rfl kj (Qal 40 _ _ g4 40 _ _ r4_2 rfl kj kj (isz (n:=34) kj (by rw [Qaa,Qaa,Qaa]; simp only [qS,cat,((Qad _ _).trans (List.length_replicate (n:=32)))]; rfl)) (eqsz (n:=34) (by rw [Qaa,Qaa,Qaa]; simp only [qS,cat,((Qad _ _).trans (List.length_replicate (n:=32)))]; rfl) (by rw [Qaa,Qaa,Qaa]; simp only [qS,cat,((Qad _ _).trans (List.length_replicate (n:=32)))]; rfl)) (QaD _ (by intro a ha; simp only [List.mem_cons,List.not_mem_nil,or_false] at ha; rcases ha with rfl | rfl | rfl; exact (Qan _ rfl); exact (Qau _ _); exact (Qan _ rfl)))) fun W3 p3 r4_3=>?_
  refine sg 1 kj <| sgN hK8 <| wp_ret ?_
  repeat (first | with_reducible refine goR1 ?_ | with_reducible refine goR2 ?_)
  exact (show bodyPost _ _ _ .ret _ _ from ret2 (.agg (cat [#[.int .i64 0],ints .u8 (List.replicate 32 0),#[.slice none 0 0]])) (.iface 47 (.int .i64 9)) rfl (QaE g4 40 _ r4_3 kj kj (isz (n:=34) kj (by rw [Qaa,Qaa,Qaa]; simp only [qS,cat,((Qad _ _).trans (List.length_replicate (n:=32)))]; rfl))) (Qa2 kj) ⟨rfl,(Puts.ext p3 (Ext.tr (Ext.tr (Rely.Ext.refl w) e1) e2) (qT (Rely.Ext.refl w).size l4))⟩)
theorem QmG (gc : Nat) (la:Option Addr) (len cap:Nat) (w:World) (hgc:w.heap[gc]? = some (.cells #[.slice la len cap] 70)) (n:Int) (hn:n<0∨((len:Nat):Int)≤n) (m:Int):Calls Tryd.prog 18 #[.pointer (some ⟨gc,0,none⟩),.int .i64 n,.int .i64 m] w (Ret w (.bool false)):=by
  refine enter 18 [(0,.pointer (some ⟨gc,0,none⟩)),(1,.int .i64 n),(2,.int .i64 m)] Tryd.func18 rfl rfl kj rfl <| sgB kj <| sgC fun K4 hK4=>sg 2 kj <| Qar (.pointer none) 31 #[.pointer (some ⟨gc,0,none⟩),.int .i64 n] 10 rfl kj kj (at_Q gc la len cap _ hgc n hn) fun W1 e1=>sg 1 kj <| sgN hK4 <| sgB kj <| wp_ret ?_
  repeat (first | with_reducible refine goR1 ?_ | with_reducible refine goR2 ?_)
  exact (show bodyPost _ _ _ .ret _ _ from ret1 (.bool false) rfl (Qa2 kj) ⟨rfl,(Ext.tr (Rely.Ext.refl w) e1)⟩)
theorem Qlz (gc gl len cap:Nat) (lp:Array Value) (w:World) (hgc:w.heap[gc]? = some (.cells #[.slice (some ⟨gl,0,none⟩) len cap] 70)) (hgl:w.heap[gl]? = some (.cells lp 75)) (g i:Nat) (hi:i<len) (hli:lp[i]? = some (.pointer (some ⟨g,0,none⟩))) (tc tq:TypeId) (hc:w.heap[2]? = some (.cells (ints .u64 QaN) tc)) (hq:w.heap[1]? = some (.cells (ints .u64 Qam) tq)) {mg pl:Nat} {L:Nat→List Int} {ts:List Int} {ms:List (Int×List Int)} (hch:ChLn g mg L ts pl ms w) (he:chkN ts pl ((pl:Nat):Int)≠0):Calls Tryd.prog 12 #[.pointer (some ⟨gc,0,none⟩),.int .i64 ((i:Nat):Int)] w (Ret w (.tuple #[.agg (cat [#[.int .i64 0],ints .u8 (List.replicate 32 0),#[.slice none 0 0]]),.iface 47 (.int .i64 (chkN ts pl ((pl:Nat):Int)))])):=by
  obtain ⟨B,hW,hrg⟩:=hch.row
  refine enter 23 [(0,.pointer (some ⟨gc,0,none⟩)),(1,.int .i64 ((i:Nat):Int))] Tryd.func12 rfl rfl kj rfl <| sgC fun K6 hK6=>Qap (cat [#[.int .i64 0],ints .u8 (List.replicate 32 0),#[.slice none 0 0]]) 40 4 rfl kj kj fun g7 W1 l7 e1 r7_1=>sg 1 kj <| sgN hK6 <| sgC fun K8 hK8=>sg 2 kj ?_
  have r1_1:=(Qac hgc e1)
  have r2_1:=(Qac hgl e1)
  refine Qar (.pointer (some ⟨g,0,none⟩)) 31 #[.pointer (some ⟨gc,0,none⟩),.int .i64 ((i:Nat):Int)] 9 rfl kj kj (at_I gc gl len cap lp _ r1_1 r2_1 g i hi hli) fun W2 e2=>?_
  have x2:=Ext.tr (Ext.tr (Rely.Ext.refl w) e1) e2
  refine sg 1 kj <| sgN hK8 <| wp_seq_k fun K9 hK9=>sgB kj <| cond_false kj <| wp_skip <| hK9 _ _ <| sgC fun K11 hK11=>sg 5 kj <| Qab (.int .i64 ((pl:Nat):Int)) 19 rfl kj (Qag 3 _ g 34 84 _ (.int .i64 ((pl:Nat):Int)) _ (Qac (Qac hrg e1) e2) rfl kj (Qaw [#[.int .i64 ((pl:Nat):Int)],#[.int .u64 ((B:Nat):Int)],ints .u8 (L pl)] [#[.int .i64 ((pl:Nat):Int)]] [#[.map (some mg)]] 34 (by rw [Qaa,Qaa,Qaa]; simp only [qS,cat,((Qad _ _).trans (hch.len pl))]; rfl) 0 _ rfl) kj) ?_
  refine Qar (.tuple #[.agg (cat [#[.int .i64 0],ints .u8 (List.replicate 32 0),#[.slice none 0 0]]),.iface 47 (.int .i64 (chkN ts pl ((pl:Nat):Int)))]) 13 #[.pointer (some ⟨gc,0,none⟩),.int .i64 ((i:Nat):Int),.int .i64 ((pl:Nat):Int)] 20 rfl kj kj (Qix gc gl len cap lp _ (Qac r1_1 e2) (Qac r2_1 e2) g i hi hli tc tq (Qac (Qac hc e1) e2) (Qac (Qac hq e1) e2) (hch.ext x2) ((pl:Nat):Int) he) fun W3 e3=>sg 2 kj ?_
  have r7_3:=(Qac (Qac r7_1 e2) e3)
  refine Qaj g7 _ (cat [#[.int .i64 0],ints .u8 (List.replicate 32 0),#[.slice none 0 0]]) 40 r7_3 rfl kj (Qal 40 _ _ g7 40 _ _ r7_3 rfl kj kj (isz (n:=34) kj (by rw [Qaa,Qaa,Qaa]; simp only [qS,cat,((Qad _ _).trans (List.length_replicate (n:=32)))]; rfl)) (eqsz (n:=34) (by rw [Qaa,Qaa,Qaa]; simp only [qS,cat,((Qad _ _).trans (List.length_replicate (n:=32)))]; rfl) (by rw [Qaa,Qaa,Qaa]; simp only [qS,cat,((Qad _ _).trans (List.length_replicate (n:=32)))]; rfl)) (QaD _ (by intro a ha; simp only [List.mem_cons,List.not_mem_nil,or_false] at ha; rcases ha with rfl | rfl | rfl; exact (Qan _ rfl); exact (Qau _ _); exact (Qan _ rfl)))) fun W4 p4 r7_4=>?_
  refine sg 1 kj <| sgN hK11 <| wp_ret ?_
  repeat (first | with_reducible refine goR1 ?_ | with_reducible refine goR2 ?_)
  exact (show bodyPost _ _ _ .ret _ _ from ret2 (.agg (cat [#[.int .i64 0],ints .u8 (List.replicate 32 0),#[.slice none 0 0]])) (.iface 47 (.int .i64 (chkN ts pl ((pl:Nat):Int)))) rfl (QaE g7 40 _ r7_4 kj kj (isz (n:=34) kj (by rw [Qaa,Qaa,Qaa]; simp only [qS,cat,((Qad _ _).trans (List.length_replicate (n:=32)))]; rfl))) (Qa2 kj) ⟨rfl,(Puts.ext p4 (Ext.tr x2 e3) (qT (Rely.Ext.refl w).size l7))⟩)
theorem Qn0 (g n c:Nat) (xs:List Int) (rest:Array Value) (w:World) (hnl:n≤1000000) (hn:xs.length=n) (hg:w.heap[g]? = some (.cells (ints .u8 xs++rest) 5)):Calls Tryd.prog 23 #[.slice (some ⟨g,0,none⟩) n c] w (fun e W=>e=.returned (.tuple #[])∧ExtB g w W):=by
 refine enter 15 [(0,.slice (some ⟨g,0,none⟩) n c)] Tryd.func23 rfl rfl kj rfl <| sgB kj <| wp_block <| QaC (fun (s1:Nat×List Int)=>[(0,.slice (some ⟨g,0,none⟩) n c),(4,.int .i64 ((n:Nat):Int)),(5,.int .i64 ((s1.1:Nat):Int))]) (fun (s1:Nat×List Int) W=>(s1.1≤n)∧(s1.2.length=n)∧(W.heap[g]? = some (.cells (ints .u8 (s1.2)++rest) 5))∧(Qah [g] w W)∧(ExtB g w W)) (fun (s1:Nat×List Int)=>n-s1.1) (0,xs) ⟨kj,kj,kj,trivial⟩ ⟨(Nat.zero_le _),hn,hg,(Qah.refl [g] w),(ExtB.refl g w)⟩ fun s1 X1 V1 hI1=>?_
 obtain ⟨i,zs⟩:=s1
 obtain ⟨hi,hz,q1_1,kk1,xx1⟩:=hI1
 replace hi:i≤n:=hi
 replace hz:zs.length=n:=hz
 replace q1_1:V1.heap[g]? = some (.cells (ints .u8 (zs)++rest) 5):=q1_1
 replace kk1:Qah [g] w V1:=kk1
 replace xx1:ExtB g w V1:=xx1
 have q1:=kk1
 refine sgB kj <| wp_seq_k fun K4 hK4=>Qa3 (t:=decide (((i:Nat):Int)<((n:Nat):Int))) kj (fun c5=>?_) (fun c5=>?_)
 ·skip
  have hlt6:i<n:=by have:=of_decide_eq_true c5; omega
  refine wp_skip <| hK4 _ _ <| wp_seq_k fun K6 hK6=>wp_block <| sgB kj <| Qaf <| sg 2 kj <| Qab (.pointer (some ⟨g,i,none⟩)) 10 rfl kj (Qbb 38 _ _ .i64 (i) g n c 5 rfl kj kj kj kj (by omega)) <| Qab (.int .u8 (nth (zs) i)) 11 rfl kj (Qag 5 _ g i 5 _ (.int .u8 (nth (zs) i)) _ q1_1 rfl kj (QjJ (Nat.lt_of_lt_of_eq (by omega) hz.symm)) kj) <| sg 1 kj ?_
  refine Qab (.pointer (some ⟨g,i,none⟩)) 13 rfl kj (Qbb 38 _ _ .i64 (i) g n c 5 rfl kj kj kj kj (by omega)) <| Qaj g _ (ints .u8 ((zs).set i (bits .xor .u8 ((nth (zs) i)) (255)))++rest) 5 q1_1 rfl kj (Qf6 5 _ _ g i 5 _ _ _ q1_1 rfl kj kj kj (Nat.lt_of_lt_of_eq (by omega) hz.symm)) fun W2 p2 r1_2=>Qak <| hK6 _ _ <| Qaf <| Qab (.int .i64 ((i+1:Nat):Int)) 14 rfl kj (Qai (u:=.int .i64 (IntKind.i64.wrap (((i:Nat):Int)+1))) kj (congrArg (Value.int .i64) (i64n _ _ (by omega) (by omega)))) <| sg 1 kj <| Qak ?_
  repeat (first | with_reducible refine goX1 ?_ | with_reducible refine goX2 ?_ | with_reducible refine goX3 ?_)
  exact Qa4 ((i+1),(zs).set i (bits .xor .u8 ((nth (zs) i)) (255))) ⟨kj,kj,kj,trivial⟩ ⟨(by omega),(by rw [List.length_set]; exact hz),r1_2,(Qah.puts q1 p2 (.inl (by simp))),(ExtB.puts xx1 p2)⟩ (by omega)
 ·skip
  have heq6:i=n:=by have:=of_decide_eq_false c5; omega
  refine wp_exit ?_
  repeat (first | with_reducible refine goX1 ?_ | with_reducible refine goX2 ?_ | with_reducible refine goX3 ?_)
  exact (show bodyPost _ _ _ .normal _ _ from end0 rfl ⟨rfl,xx1⟩)
theorem Qnt (x : Int) (hx:Seat.isTree x=false) (W:World):Calls Tryd.prog 27 #[.int .i64 x] W (Ret W (.int .i64 (-1))) :=
  (Seat.root x W).mono fun e W' hh=>by
    have hh':e=.returned (.int .i64 (if Seat.isTree x=true then x-1 else -1))∧W=W':=hh
    rw [if_neg (by rw [hx]; decide)] at hh'
    exact ⟨hh'.1,hh'.2▸Rely.Ext.refl _⟩
theorem newN (sec : List Int) (hsl:sec.length=32) (hsb:Qat sec) (x:Int) (hx:Seat.isTree x=false) (w:World):Calls Tryd.prog 9 #[.agg (ints .u8 sec),.int .i64 x] w (QbN w (fun v W=>∃ gc,v=.pointer (some ⟨gc,0,none⟩)∧w.heap.size≤gc∧W.heap[gc]? = some (.cells #[.slice none 0 0] 70))):=by
  refine enter 18 [(0,.agg (ints .u8 (sec))),(1,.int .i64 x)] Tryd.func9 rfl rfl kj rfl <| sgC fun K1 hK1=>Qap (ints .u8 (sec)) 23 2 rfl kj kj fun g2 W1 l2 e1 r2_1=>?_
  have x1:=Ext.tr (Rely.Ext.refl w) e1
  have b2:=qT (Rely.Ext.refl w).size l2
  refine sg 1 kj <| sgN hK1 <| sgC fun K3 hK3=>sg 1 kj <| Qap (#[.slice none 0 0]) 70 8 rfl kj kj fun g4 W2 l4 e2 r4_2=>sg 1 kj <| sgN hK3 <| wp_seq_k fun K5 hK5=>sgC fun K6 hK6=>sg 1 kj ?_
  refine Qar (.int .i64 (-1)) 27 #[.int .i64 x] 10 rfl kj kj ((Qnt x hx) _) fun W3 e3=>sg 1 kj <| sgN hK6 <| sgB kj <| cond_false kj <| wp_skip <| hK5 _ _ <| sgB kj <| wp_ret ?_
  repeat (first | with_reducible refine goR1 ?_ | with_reducible refine goR2 ?_)
  exact (show bodyPost _ _ _ .ret _ _ from ret1 (.pointer (some ⟨g4,0,none⟩)) rfl (Qa2 kj) ⟨_,rfl,(Ext.tr (Ext.tr x1 e2) e3),g4,rfl,(qT x1.size l4),(Qac r4_2 e3)⟩)
theorem Qj9 {n : Int} (h:Seat.isTree n=true):∃ k,k≤5∧n=((2^k:Nat):Int):=by
  rcases Seat.isTree_cases h with rfl | rfl | rfl | rfl | rfl | rfl
  · exact ⟨0,by decide,rfl⟩
  · exact ⟨1,by decide,rfl⟩
  · exact ⟨2,by decide,rfl⟩
  · exact ⟨3,by decide,rfl⟩
  · exact ⟨4,by decide,rfl⟩
  · exact ⟨5,by decide,rfl⟩
theorem Qn7 (sec : List Int) (hsl:sec.length=32) (hsb:Qat sec) (x:Int) (z:Nat) (hz:z≤5) (hx:x=((2^z:Nat):Int)) (j:Nat) (hj:j<2^z) (w:World):Calls Tryd.prog 11 #[.agg (ints .u8 sec),.int .i64 x,.int .i64 ((j:Nat):Int)] w (Ret w (.agg (ints .u8 (Qbk sec z j)))):=by
  subst hx; exact Qn6 sec hsl hsb z hz j hj w
end Go.Proofs.YtibegnjaphohaaaDoor.Cn
end
section
namespace Go.Proofs.YtibegnjaphohaaaDoor.Cn
open Go Go.RowKit
open Rely Auto Own Sha
open Go.Proofs.YtibegnjaphohaaaDoor
structure Lf where
  g:Nat
  mg:Nat
  L:Nat→List Int
  ts:List Int
  pl:Nat
  ms:List (Int×List Int)
  lo:Nat
  zs:List Int
  t0:List Hd
  ha:Option Addr
  hc:Nat
  za:Option Addr
  zc:Nat
def lf0 : Lf:=⟨0,0,fun _=>[],[],0,[],0,[],[],none,0,none,0⟩
def lnP (x : Lf):List (Array Value):=[ints .u8 (x.L x.pl),#[.int .i64 ((x.pl:Nat):Int)],#[.slice x.ha x.t0.length x.hc],#[.slice x.za x.zs.length x.zc],#[.int .i64 ((x.lo:Nat):Int)]]
def lnC (x : Lf):List Value:=(cat (lnP x)).toList
structure LfOk (x : Lf) (W : World) : Prop where
  ch:ChLn x.g x.mg x.L x.ts x.pl x.ms W
  rf:Rf x.ts x.pl x.lo x.zs (x.t0.map (·.n))
  hd:HdO 0 x.t0 (.slice x.ha x.t0.length x.hc) W
  el:∀ y∈x.t0,InHd y W
  of:∀ y∈x.t0,y.m=keyV (x.L y.n)
  zo:OwnN .i64 3 0 x.zs (.slice x.za x.zs.length x.zc) W
structure FsOk (b0 : Nat) (lp : Array Value) (fs : List Lf) (r : Nat) (W : World) : Prop where
  ptr:∀ i,i<fs.length→lp[i]? = some (.pointer (some ⟨(fs.getD i lf0).g,0,none⟩))
  ok:∀ x∈fs,LfOk x W
  low:∀ x∈fs,b0≤x.g∧b0≤x.mg
  zl:∀ x∈fs,x.zs.length≤r
  dg:(fs.map (·.g)).Nodup
  dm:(fs.map (·.mg)).Nodup
theorem QdF (x : Lf) (h:(x.L x.pl).length=32):(cat (lnP x)).size=36:=by
  unfold lnP
  simp only [cat,qS,Qad,h]
  rfl
theorem QfJ {x : Lf} (h:(x.L x.pl).length=32):(lnC x).length=36:=by unfold lnC; rw [Array.length_toList,QdF x h]
theorem Qja (x : Lf):(cat (lnP x)).all (·.oneCell')=true:=by
  unfold lnP
  refine QaD _ ?_
  intro a ha; simp only [List.mem_cons,List.not_mem_nil,or_false] at ha; rcases ha with rfl | rfl | rfl | rfl | rfl; exact (Qau _ _); exact (Qan _ rfl); exact (Qan _ rfl); exact (Qan _ rfl); exact (Qan _ rfl)
theorem Ql4 (x : Lf):∀ z∈lnC x,z.oneCell'=true:=fun z hz=>by
  have h9:=Qja x
  rw [Array.all_eq_true_iff_forall_mem] at h9; exact h9 z (Array.mem_toList_iff.1 hz)
theorem Qe9 : ∀ (vs:List Value) (cur:Array Value) (k:Nat),(splice cur k vs).size=cur.size
  | [],_,_=>rfl
  | v::r,cur,k=>by rw [splice,Qe9 r]; simp
theorem Qhe {α : Type} (fs:List α) (i j:Nat) (y d:α) (hi:i<fs.length):(fs.set i y).getD j d=if j=i then y else fs.getD j d:=by
  rw [List.getD_eq_getElem?_getD,List.getD_eq_getElem?_getD,List.getElem?_set]
  by_cases h:i=j
  · subst h; rw [if_pos rfl,if_pos hi,if_pos rfl]; rfl
  · rw [if_neg h,if_neg (Ne.symm h)]
theorem QgA {α : Type} {fs:List α} {i:Nat} {x y:α} (h:x∈fs.set i y):x∈fs∨x=y:=List.mem_or_eq_of_mem_set h
theorem QfY {α : Type} {β:Type} (f:α→β) {fs:List α} {i:Nat} {y d:α} (hi:i<fs.length) (hn:(fs.map f).Nodup) {x:α} (hx:x∈fs.set i y):x=y∨(x∈fs∧f x≠f (fs.getD i d)):=by
  obtain ⟨j,hj,rfl⟩:=List.getElem_of_mem hx
  rw [List.length_set] at hj
  rw [List.getElem_set]
  by_cases h:i=j
  · exact .inl (if_pos h)
  · right
    rw [if_neg h]
    refine ⟨List.getElem_mem _,fun e=>h ?_⟩
    have e2:(fs.map f)[j]? = (fs.map f)[i]?:=by
      rw [List.getElem?_map,List.getElem?_map,List.getElem?_eq_getElem hj,List.getElem?_eq_getElem hi]
      rw [List.getD_eq_getElem?_getD,List.getElem?_eq_getElem hi] at e
      exact congrArg some e
    exact ((List.getElem?_inj (by rw [List.length_map]; exact hj) hn).1 e2).symm
section
variable {P : Program} {ρ : Operand → Value} {o : Oper} {w : World}
theorem Qlf (ty : TypeId) (x:Operand) {base g c i:Nat} {fs:List Lf} (hm:∀ x∈fs,(x.L x.pl).length=32) (h:w.ownsRow base 34 36 (.slice (some ⟨g,0,none⟩) fs.length c) fs.length (fs.flatMap lnC)) (hi:i<fs.length) (ho:o.op=.load ty x) (hx:ρ x=.pointer (some ⟨g,0+i*36,none⟩)) (hu:aggD P ty=some true) (hz:(P.info? ty).map (·.size)=some 36):(execOp ρ o).run P w=.ok (.value (.agg (cat (lnP (fs.getD i lf0))))) w:=by
  have hl:=QfJ (hm _ (Qcd fs lf0 i hi))
  have h0:(lnC (fs.getD i lf0))[0]? = some ((lnC (fs.getD i lf0))[0]):=List.getElem?_eq_getElem (by omega)
  exact Qd2 ty x g _ 36 _ _ (by rw [←Array.getElem?_toList]; exact h0) (QdF _ (hm _ (Qcd fs lf0 i hi))) (fun j v hv=>QeR lf0 (fun x hx=>QfJ (hm x hx)) h i hi j v (by unfold lnC; rw [Array.getElem?_toList]; exact hv)) ho hx hu hz
end
section
variable {ds : List Deferred} {P : Program} {ops : Array Oper} {Q : Exit → Act → World → Prop} {rest : List Oper} {o : Oper} {N : Nat} {L : Env} {W : World}
theorem Qle (ty : TypeId) (x y:Operand) {base ul uc i:Nat} {fs:List Lf} {z:Lf} (hm:∀ x∈fs,(x.L x.pl).length=32) (h:W.ownsRow base 34 36 (.slice (some ⟨ul,0,none⟩) fs.length uc) fs.length (fs.flatMap lnC)) (hi:i<fs.length) (hzl:(z.L z.pl).length=32) (ho:o.op=.store ty x y) (hx:Rely.look (envN N L) x=.pointer (some ⟨ul,0+i*36,none⟩)) (hv:Rely.look (envN N L) y=.agg (cat (lnP z))) (hz:(P.info? ty).map (·.size)=some 36) (hd:o.dst=none) (hg:Qbr ops o N L=some true)
    (kk:∀ W',Puts W ul W'→W'.ownsRow base 34 36 (.slice (some ⟨ul,0,none⟩) fs.length uc) fs.length ((fs.set i z).flatMap lnC)→WL P ops Q rest (Qa0 ds N L) W'):WL P ops Q (o::rest) (Qa0 ds N L) W:=by
  have hcl:∀ x∈fs,(lnC x).length=36:=fun x hx=>QfJ (hm x hx)
  have hsz:(cat (lnP z)).size=36:=QdF z hzl
  have hcl2:∀ x∈fs.set i z,(lnC x).length=36:=fun x hx=>by rcases QgA hx with q | rfl; exact hcl x q; exact QfJ hzl
  rcases id h.2 with ⟨-,e2⟩ | ⟨g,cap,cur,e,q2,q3,q4,q5,q6,q7⟩
  · omega
  simp only [Value.slice.injEq,Option.some.injEq,Addr.mk.injEq,and_true,true_and] at e
  obtain ⟨rfl,rfl⟩:=e
  have hb:i*36+36≤fs.length*36:=by omega
  have hb2:fs.length*36≤uc*36:=Nat.mul_le_mul_right _ q4
  have hrun:=Qdy (ρ:=Rely.look (envN N L)) ty x y ul (0+i*36) 34 cur (cat (lnP z)) q3 ho hx hv (by rw [hz,hsz]) (by rw [hsz,q6,Nat.ble_eq]; omega) (Qja z)
  refine Qaj ul _ _ _ q3 hd hg hrun fun W9 p9 r9=>kk W9 p9 ⟨?_,.inr ⟨ul,uc,_,rfl,q2,r9,q4,q5,?_,?_⟩⟩
  · rw [List.length_flatMap]
    rw [show (fs.set i z).map (fun x=>(lnC x).length)=List.replicate fs.length 36 from List.eq_replicate_iff.2 ⟨by simp,fun b hb=>by obtain ⟨x,hx,rfl⟩:=List.mem_map.1 hb; exact hcl2 x hx⟩]
    simp
  · rw [Qe9,q6]
  · have hl3:(cat (lnP z)).toList.length=36:=by rw [Array.length_toList,hsz]
    refine List.ext_getElem? fun j=>?_
    rw [List.getElem?_take]
    split
    · rename_i hj
      have h1:j/36<fs.length:=by omega
      have h2:j%36<36:=Nat.mod_lt _ (by decide)
      have h3:j/36*36+j%36=j:=by omega
      have h4:=QdJ lnC 36 lf0 (fs.set i z) hcl2 (j/36) (by rw [List.length_set]; exact h1) (j%36) h2
      rw [h3,Qhe fs i (j/36) z lf0 hi] at h4
      rw [h4,Array.getElem?_toList,Qfg _ _ _ (by rw [hl3,q6]; omega),hl3]
      by_cases hji:j/36=i
      · rw [if_pos (by omega),if_pos hji,show j-(0+i*36)=j%36 by omega]; rfl
      · rw [if_neg (by omega),if_neg hji]
        have h5:=QdJ lnC 36 lf0 fs hcl (j/36) h1 (j%36) h2
        rw [h3,←q7,List.getElem?_take,if_pos hj,Array.getElem?_toList] at h5
        exact h5
    · rename_i hj
      refine (List.getElem?_eq_none ?_).symm
      rw [List.length_flatMap]
      rw [show (fs.set i z).map (fun x=>(lnC x).length)=List.replicate fs.length 36 from List.eq_replicate_iff.2 ⟨by simp,fun b hb=>by obtain ⟨x,hx,rfl⟩:=List.mem_map.1 hb; exact hcl2 x hx⟩]
      simp; omega
end
section
variable {V W : World} {g mg ul : Nat} {L : Nat → List Int} {ts : List Int} {pl : Nat} {ms : List (Int × List Int)} {c : Array Value}
theorem Qka (hch : ChLn g mg L ts pl ms V) (hul:V.heap[ul]? = some (.cells c 34)) {k:Nat} {cur:Array Value} {T:TypeId} (r:V.heap[k]? = some (.cells cur T)) (h1:T≠84) (h2:T≠34):k∉[g,mg,ul]:=by
  refine Qax (fun e=>?_) (Qax (MpAt.ne hch.mp r) (Qax (fun e=>?_) QaJ))
  · obtain ⟨B,-,r2⟩:=hch.row
    rw [←e] at r2; exact Qdx r r2 h1
  · rw [←e] at hul; exact Qdx r hul h2
theorem Qde (hch : ChLn g mg L ts pl ms V) (hul:V.heap[ul]? = some (.cells c 34)) (q:Qah [g,mg,ul] V W) {k:Nat} {cur:Array Value} {T:TypeId} (r:V.heap[k]? = some (.cells cur T)) (h1:T≠84) (h2:T≠34):W.heap[k]? = some (.cells cur T):=Qah.row q r (Qka hch hul r h1 h2)
theorem Ql7 {x : Lf} (hch:ChLn g mg L ts pl ms V) (hul:V.heap[ul]? = some (.cells c 34)) (q:Qah [g,mg,ul] V W) (h:LfOk x V) (hg:x.g≠g) (hm:x.mg≠mg):LfOk x W:=by
  have hg2:x.g∉[g,mg,ul]:=by
    obtain ⟨B,-,r2⟩:=h.ch.row
    refine Qax hg (Qax (MpAt.ne hch.mp r2) (Qax (fun e=>?_) QaJ))
    rw [←e] at hul; exact Qdx r2 hul (by decide)
  have hm2:x.mg∉[g,mg,ul]:=by
    obtain ⟨B,-,r2⟩:=hch.row
    exact Qax (Ne.symm (MpAt.ne h.ch.mp r2)) (Qax hm (Qax (Ne.symm (MpAt.ne h.ch.mp hul)) QaJ))
  exact ⟨h.ch.keep (q.block _ h.ch.glt hg2) (q.block _ h.ch.mp.lt hm2),h.rf,Qcp h.hd fun k hk=>by obtain ⟨-,cur,r⟩:=Qch h.hd hk; exact (Qde hch hul q r (by decide) (by decide)).trans r.symm,
    fun y hy=>⟨(h.el y hy).len,(h.el y hy).own.keep fun k hk=>by obtain ⟨cur,r⟩:=Qcc (h.el y hy).own hk; exact (Qde hch hul q r (by decide) (by decide)).trans r.symm⟩,h.of,
    h.zo.keep fun k hk=>by obtain ⟨cur,r⟩:=Qcc h.zo hk; exact (Qde hch hul q r (by decide) (by decide)).trans r.symm⟩
end
theorem QmR {V W:World} {ul b0 r i:Nat} {lp c:Array Value} {fs:List Lf} {x y:Lf} (h:FsOk b0 lp fs r V) (hi:i<fs.length) (hx:x=fs.getD i lf0) (hul:V.heap[ul]? = some (.cells c 34)) (q:Qah [x.g,x.mg,ul] V W) (hy:LfOk y W) (e1:y.g=x.g) (e2:y.mg=x.mg) (hz:y.zs.length≤r+1):FsOk b0 lp (fs.set i y) (r+1) W:=by
  have hxm:x∈fs:=by rw [hx]; exact Qcd fs lf0 i hi
  have hxo:=h.ok x hxm
  have hmap:∀ f:Lf→Nat,f y=f x→(fs.set i y).map f=fs.map f:=fun f e=>by
    rw [List.map_set]
    refine List.ext_getElem? fun j=>?_
    rw [List.getElem?_set]
    split
    · rename_i e3
      subst e3
      rw [if_pos (by rw [List.length_map]; exact hi),List.getElem?_map,List.getElem?_eq_getElem hi,e,hx,List.getD_eq_getElem?_getD,List.getElem?_eq_getElem hi]
      rfl
    · rfl
  refine ⟨fun j hj=>?_,fun z hz2=>?_,fun z hz2=>?_,fun z hz2=>?_,by rw [hmap _ e1]; exact h.dg,by rw [hmap _ e2]; exact h.dm⟩
  · rw [List.length_set] at hj
    rw [Qhe fs i j y lf0 hi]
    split
    · rename_i e3; subst e3; rw [e1,hx]; exact h.ptr j hj
    · exact h.ptr j hj
  · rcases QfY (d:=lf0) (·.g) hi h.dg hz2 with rfl | ⟨z1,z2⟩
    · exact hy
    rcases QfY (d:=lf0) (·.mg) hi h.dm hz2 with rfl | ⟨-,z3⟩
    · exact hy
    exact Ql7 hxo.ch hul q (h.ok z z1) (by rw [hx]; exact z2) (by rw [hx]; exact z3)
  · rcases QgA hz2 with z1 | rfl
    · exact h.low z z1
    · rw [e1,e2]; exact h.low x hxm
  · rcases QgA hz2 with z1 | rfl
    · exact qT (h.zl z z1) (by omega)
    · exact hz
theorem QmS {V W:World} {b0 r r2:Nat} {lp:Array Value} {fs:List Lf} (h:FsOk b0 lp fs r V) (e:Ext V W) (hr:r≤r2):FsOk b0 lp fs r2 W :=
  ⟨h.ptr,fun x hx=>(fun h:LfOk x V=>⟨h.ch.ext e,h.rf,QaR h.hd e,fun y hy=>QfO (h.el y hy) e,h.of,h.zo.ext e⟩) (h.ok x hx),h.low,fun x hx=>qT (h.zl x hx) hr,h.dg,h.dm⟩
theorem Qh9 {V : World} {b0 r:Nat} {lp:Array Value} {fs:List Lf} (h:FsOk b0 lp fs r V):∀ x∈fs,(x.L x.pl).length=32:=fun x hx=>(h.ok x hx).ch.len x.pl
def NewF (sec : List Int) (x:Int) (w:World) (v:Value) (W:World):Prop:=∃ (gc gl:Nat) (la:Option Addr) (cap:Nat) (lp:Array Value) (fs:List Lf),v=.pointer (some ⟨gc,0,none⟩)∧w.heap.size≤gc∧W.heap[gc]? = some (.cells #[.slice la fs.length cap] 70)∧(0<fs.length→la=some ⟨gl,0,none⟩∧W.heap[gl]? = some (.cells lp 75))∧FsOk w.heap.size lp fs 0 W∧fs.length≤32∧((Seat.isTree x=false∧fs.length=0)∨(Seat.isTree x=true∧∃ z,z≤5∧x=((2^z:Nat):Int)∧fs.length=2^z∧∀ i,i<2^z→lnP (fs.getD i lf0)=[ints .u8 (Qbk sec z i),#[.int .i64 0],#[.slice none 0 0],#[.slice none 0 0],#[.int .i64 0]]))
def mkLf (sec : List Int) (z:Nat) (ns:List (Nat×Nat)) (i:Nat):Lf:=⟨(ns.getD i (0,0)).1,(ns.getD i (0,0)).2,itV (Qbk sec z i),[],0,[],0,[],[],none,0,none,0⟩
theorem newG (sec : List Int) (hsl:sec.length=32) (hsb:Qat sec) (x:Int) (tc tq:TypeId) (w:World) (hc:w.heap[2]? = some (.cells (ints .u64 QaN) tc)) (hq:w.heap[1]? = some (.cells (ints .u64 Qam) tq)) (hT:Seat.TabAt w):Calls Tryd.prog 9 #[.agg (ints .u8 sec),.int .i64 x] w (QbN w (NewF sec x w)):=by
  cases ht:Seat.isTree x with
  | false =>
    refine (newN sec hsl hsb x ht w).mono ?_
    rintro e W ⟨v,rfl,h1,gc,rfl,h2,h3⟩
    exact ⟨_,rfl,h1,gc,0,none,0,#[],[],rfl,h2,h3,fun h=>absurd h (Nat.lt_irrefl _),⟨fun i hi=>absurd hi (Nat.not_lt_zero _),(fun x hx=>by cases hx),(fun x hx=>by cases hx),(fun x hx=>by cases hx),List.nodup_nil,List.nodup_nil⟩,by decide,.inl ⟨ht,rfl⟩⟩
  | true =>
    obtain ⟨z,hz,rfl⟩:=Qj9 ht
    refine (newC z hz sec tc tq w hc hq hT hsl hsb).mono ?_
    rintro e W ⟨v,rfl,h1,gc,gl,cap,lp,ns,rfl,h2,h3,h4,h5,h6,h7,h8⟩
    have hp:2^z≤2^5:=Nat.pow_le_pow_right (by decide) hz
    have hget:∀ i,i<2^z→ns[i]? = some (ns.getD i (0,0)):=fun i hi=>by rw [List.getD_eq_getElem?_getD,List.getElem?_eq_getElem (by omega)]; rfl
    have hfl:((List.range (2^z)).map (mkLf sec z ns)).length=2^z:=by rw [List.length_map,List.length_range]
    have hfd:∀ i,i<2^z→((List.range (2^z)).map (mkLf sec z ns)).getD i lf0=mkLf sec z ns i:=fun i hi=>by
      rw [List.getD_eq_getElem?_getD,List.getElem?_map,List.getElem?_range hi]; rfl
    have hmem:∀ y∈(List.range (2^z)).map (mkLf sec z ns),∃ i,i<2^z∧y=mkLf sec z ns i:=fun y hy=>by
      obtain ⟨i,hi,rfl⟩:=List.mem_map.1 hy
      exact ⟨i,List.mem_range.1 hi,rfl⟩
    have hmap:∀ f:Nat×Nat→Nat,(List.range (2^z)).map (fun i=>f (ns.getD i (0,0)))=ns.map f:=fun f=>by
      refine List.ext_getElem? fun j=>?_
      rw [List.getElem?_map,List.getElem?_map]
      by_cases hj:j<2^z
      · rw [List.getElem?_range hj,hget j hj]; rfl
      · rw [List.getElem?_eq_none (by rw [List.length_range]; omega),List.getElem?_eq_none (by omega)]; rfl
    refine ⟨_,rfl,h1,gc,gl,some ⟨gl,0,none⟩,cap,lp,(List.range (2^z)).map (mkLf sec z ns),rfl,h2,by rw [hfl]; exact h4,fun _=>⟨rfl,h5⟩,⟨fun i hi=>?_,fun y hy=>?_,fun y hy=>?_,fun y hy=>?_,?_,?_⟩,by rw [hfl]; omega,.inr ⟨ht,z,hz,rfl,hfl,fun i hi=>by rw [hfd i hi]; rfl⟩⟩
    · rw [hfl] at hi
      rw [hfd i hi]
      exact (h6 i _ (hget i hi)).1
    · obtain ⟨i,hi,rfl⟩:=hmem y hy
      obtain ⟨-,k1,-,-⟩:=h6 i _ (hget i hi)
      exact ⟨k1.ln,Qmv,World.ownsRow_nil _ _ _ _,(fun y hy=>by cases hy),(fun y hy=>by cases hy),⟨World.ownsRow_nil _ _ _ _,Nat.zero_le _⟩⟩
    · obtain ⟨i,hi,rfl⟩:=hmem y hy
      obtain ⟨-,-,k2,k3⟩:=h6 i _ (hget i hi)
      exact ⟨k2,k3⟩
    · obtain ⟨i,hi,rfl⟩:=hmem y hy
      exact qR _
    · rw [List.map_map]; show ((List.range (2^z)).map (fun i=>(ns.getD i (0,0)).1)).Nodup; rw [hmap Prod.fst]; exact h7
    · rw [List.map_map]; show ((List.range (2^z)).map (fun i=>(ns.getD i (0,0)).2)).Nodup; rw [hmap Prod.snd]; exact h8
end Go.Proofs.YtibegnjaphohaaaDoor.Cn
end
section
namespace Go.Proofs.YtibegnjaphohaaaDoor.Cn
open Go Go.RowKit
open Rely Auto Own Sha
open Go.Proofs.YtibegnjaphohaaaDoor
theorem Qnz (w : World):Calls Tryd.prog 23 #[.slice none 0 0] w (Ret w (.tuple #[])):=by
  refine enter 15 [(0,.slice none 0 0)] Tryd.func23 rfl rfl kj rfl <| sgB kj <| wp_block <| QaC (fun (s1:Nat)=>[(0,.slice none 0 0),(4,.int .i64 0),(5,.int .i64 0)]) (fun (s1:Nat) W=>(True)∧(Ext w W)∧(Ext w W)) (fun (s1:Nat)=>0) 0 ⟨kj,kj,kj,trivial⟩ ⟨trivial,(Rely.Ext.refl w),(Rely.Ext.refl w)⟩ fun s1 X1 V1 hI1=>?_
  obtain ⟨i,hs1⟩:∃ z,z=s1:=⟨_,rfl⟩
  subst hs1
  obtain ⟨ht,kk1,xx1⟩:=hI1
  replace ht:True:=ht
  replace kk1:Ext w V1:=kk1
  replace xx1:Ext w V1:=xx1
  have e1:=kk1
  refine sgB kj <| wp_seq_k fun K3 hK3=>cond_false kj <| wp_exit ?_
  repeat (first | with_reducible refine goX1 ?_ | with_reducible refine goX2 ?_ | with_reducible refine goX3 ?_)
  exact (show bodyPost _ _ _ .normal _ _ from end0 rfl ⟨rfl,xx1⟩)
structure LrOk (x : Lf) (W : World) : Prop where
  rf:Rf x.ts x.pl x.lo x.zs (x.t0.map (·.n))
  hd:HdO 0 x.t0 (.slice x.ha x.t0.length x.hc) W
  el:∀ y∈x.t0,InHd y W
  of:∀ y∈x.t0,y.m=keyV (x.L y.n)
  zo:OwnN .i64 3 0 x.zs (.slice x.za x.zs.length x.zc) W
  t64:x.t0.length≤64
  len:∀ k,(x.L k).length=32
  byt:∀ k,Qat (x.L k)
  nxt:∀ k,x.pl≤k→x.L (k+1)=nxtV (x.L k)
theorem LfOk.lr {x : Lf} {W:World} (h:LfOk x W):LrOk x W:=⟨h.rf,h.hd,h.el,h.of,h.zo,by have:=(h.rf.len h.ch).2; rwa [List.length_map] at this,h.ch.len,h.ch.byt,h.ch.nxt⟩
section
variable {V W : World} {g mg : Nat} {L : Nat → List Int} {ts : List Int} {pl : Nat} {ms : List (Int × List Int)}
theorem Qkf (hch : ChLn g mg L ts pl ms V) {k:Nat} {cur:Array Value} {T:TypeId} (r:V.heap[k]? = some (.cells cur T)) (h1:T≠84):k∉[g,mg]:=by
  refine Qax (fun e=>?_) (Qax (MpAt.ne hch.mp r) QaJ)
  obtain ⟨B,-,r2⟩:=hch.row
  rw [←e] at r2; exact Qdx r r2 h1
theorem QbG (hch : ChLn g mg L ts pl ms V) (q:Qah [g,mg] V W) {k:Nat} {cur:Array Value} {T:TypeId} (r:V.heap[k]? = some (.cells cur T)) (h1:T≠84):W.heap[k]? = some (.cells cur T):=Qah.row q r (Qkf hch r h1)
theorem QkJ (hch : ChLn g mg L ts pl ms V) (q:Qah [g,mg] V W) {T:TypeId} {base sz n:Nat} {xs:List Value} {v:Value} (h:V.ownsRow base T sz v n xs) (hT:T≠84):W.ownsRow base T sz v n xs:=Qcp h fun k hk=>by obtain ⟨-,cur,r⟩:=Qch h hk; exact (QbG hch q r hT).trans r.symm
theorem QgR {x : Lf} (hch:ChLn g mg L ts pl ms V) (q:Qah [g,mg] V W) (h:LrOk x V):LrOk x W :=
  ⟨h.rf,QkJ hch q h.hd (by decide),fun y hy=>⟨(h.el y hy).len,(h.el y hy).own.keep fun k hk=>by obtain ⟨cur,r⟩:=Qcc (h.el y hy).own hk; exact (QbG hch q r (by decide)).trans r.symm⟩,h.of,h.zo.keep fun k hk=>by obtain ⟨cur,r⟩:=Qcc h.zo hk; exact (QbG hch q r (by decide)).trans r.symm,h.t64,h.len,h.byt,h.nxt⟩
end
theorem tkE (x : Lf) (W:World) (h:LrOk x W) (hz:x.zs.length≤1000) (n:Int) (hne:chkN x.ts x.pl n≠0):Calls Tryd.prog 19 #[.agg (cat (lnP x)),.int .i64 n] W (Ret W (.tuple #[.agg (cat [#[.int .i64 0],ints .u8 (List.replicate 32 0),#[.slice none 0 0]]),.agg (cat (lnP x)),.int .i64 (chkN x.ts x.pl n)])):=by
  have h1:=h.rf.num n
  have h2:=Qla (x.L x.pl) (h.len _) x.pl x.lo h.rf.top h.rf.low x.zs hz x.za x.zc x.ha x.t0.length x.hc n W (RdK.more (OwnN.rd h.zo) (qR _)) h.rf.hi (by rw [h1]; exact hne)
  rw [h1] at h2
  exact h2
def lfT (x : Lf) (n:Nat) (rs:List Hd) (ar:Option Addr) (cr:Nat) (za:Option Addr) (zc:Nat):Lf:=⟨x.g,x.mg,x.L,x.ts++[((n:Nat):Int)],max x.pl (n+1),Qdd x.ms (x.L x.pl) x.pl n,x.lo,x.zs++[((n:Nat):Int)],rs,ar,cr,za,zc⟩
structure TkR (x : Lf) (n : Nat) (q : Hd) (y : Lf) (w W : World) : Prop where
  ext:Ext w W
  qn:q.n=n
  qm:q.m=keyV (x.L n)
  qi:InHd q W
  hd:HdO w.heap.size y.t0 (.slice y.ha y.t0.length y.hc) W
  hn:y.t0.map (·.n)=Qg1 (x.t0.map (·.n)) x.pl n
  el:∀ e∈y.t0,HdK x.L x.t0 w.heap.size e W
  zo:OwnN .i64 3 w.heap.size y.zs (.slice y.za y.zs.length y.zc) W
  eq:∃ rs ar cr za zc,y=lfT x n rs ar cr za zc
theorem tkI (x : Lf) (W:World) (h:LrOk x W) (hz:x.zs.length≤1000) (n:Nat) (h0:chkN x.ts x.pl ((n:Nat):Int)=0):Calls Tryd.prog 19 #[.agg (cat (lnP x)),.int .i64 ((n:Nat):Int)] W (fun e W'=>∃ v,e=.returned v∧∃ (q:Hd) (y:Lf),v=.tuple #[.agg (cat (hdP q)),.agg (cat (lnP y)),.int .i64 0]∧TkR x n q y W W'):=by
  have h1:=h.rf.num ((n:Nat):Int)
  obtain ⟨k1,k2⟩:=Qc0 h0
  obtain ⟨k3,k4,k5,k6⟩:=Qce k1
  have hm:n<x.pl→n∈x.t0.map (·.n):=fun hn=>(h.rf.is n).2 ⟨hn,k6,by have:=h.rf.ht; omega⟩
  refine (QkZ x.L h.len h.byt x.pl x.lo h.nxt h.rf.top h.rf.low x.zs hz x.za x.zc x.t0 (qT h.t64 (by decide)) x.ha x.hc n W h.zo h.rf.hi h.hd h.el h.of hm (by rw [h1]; exact h0)).mono ?_
  rintro e W' ⟨q,rs,ar,cr,za,zc,rfl,e1,e2,e3,e4,e5,e6,e7,e8⟩
  exact ⟨_,rfl,q,lfT x n rs ar cr za zc,rfl,e1,e2,e3,e4,e5,e6,e7,e8,_,_,_,_,_,rfl⟩
theorem Qmr {x y:Lf} {n:Nat} {q:Hd} {w W W2 w0:World} (h:LrOk x w0) (h0:chkN x.ts x.pl ((n:Nat):Int)=0) (t:TkR x n q y w W) (hch:ChLn y.g y.mg y.L y.ts y.pl y.ms W2) (hd:HdO 0 y.t0 (.slice y.ha y.t0.length y.hc) W2) (el:∀ e∈y.t0,InHd e W2) (zo:OwnN .i64 3 0 y.zs (.slice y.za y.zs.length y.zc) W2):LfOk y W2:=by
  refine ⟨hch,?_,hd,el,fun e he=>?_,zo⟩
  · rw [t.hn]
    obtain ⟨rs,ar,cr,za,zc,rfl⟩:=t.eq
    exact h.rf.take n h0
  · have:=(t.el e he).of
    obtain ⟨rs,ar,cr,za,zc,rfl⟩:=t.eq
    exact this
def lfJ (x : Lf) (m k:Nat):Lf:=⟨x.g,x.mg,lkJ x.L x.pl m,jmpT x.ts (m-65) k,m,[],m,x.zs,[],none,0,x.za,x.zc⟩
theorem QmD {x : Lf} {m k:Nat} {W:World} (h:LrOk x W) (h0:x.pl≤m) (hm:m≤4294967295) (hk:m-65+k=m) (hch:ChLn x.g x.mg (lkJ x.L x.pl m) (jmpT x.ts (m-65) k) m [] W):LfOk (lfJ x m k) W :=
  ⟨hch,by obtain ⟨B,hW,-⟩:=hch.row; exact h.rf.jump m k h0 hm hk hW.hhi,World.ownsRow_nil _ _ _ _,(fun y hy=>by cases hy),(fun y hy=>by cases hy),h.zo⟩
theorem Qn4 (L : Nat→List Int) (pl m:Nat):lkJ L pl m m=L pl:=by unfold lkJ; rw [Nat.sub_self]; rfl
def obs (v : Value):List Nat:=match v.ownBlock with | some g=>[g] | none=>[]
theorem QiS {v : Value} {c:Nat} (h:c∈obs v):v.ownBlock=some c:=by
  unfold obs at h
  split at h
  · rename_i g e; rw [List.mem_singleton] at h; rw [e,h]
  · cases h
def GuIs (b : Nat) (xs:List Int) (gu:Value) (W:World):Prop:=(gu=.slice none 0 0∧xs=[])∨(OwnN .u8 5 b xs gu W∧0<xs.length∧xs.length≤100)
theorem GuIs.rd {b : Nat} {xs:List Int} {gu:Value} {W:World} (h:GuIs b xs gu W):RdK .u8 W.heap.size xs gu W:=by
  rcases h with ⟨rfl,rfl⟩ | h
  · exact nilrd W
  · exact OwnN.rd h.1
theorem GuIs.rows {b : Nat} {xs:List Int} {gu:Value} {W W':World} {T:TypeId} (h:GuIs b xs gu W) (q:Qfa T W W') (hT:T≠5):GuIs b xs gu W':=h.imp id fun h=>⟨QaI h.1 q hT,h.2⟩
theorem GuIs.ge {b : Nat} {xs:List Int} {gu:Value} {W:World} (h:GuIs b xs gu W):∀ c∈obs gu,b≤c∧∃ cur,W.heap[c]? = some (.cells cur 5):=fun c hc=>by
  have hc2:=QiS hc
  rcases h with ⟨rfl,rfl⟩ | ⟨h,-⟩
  · cases hc2
  · exact ⟨h.ge hc2,Qcc h hc2⟩
def WuIs (xs : List Int) (wu:Value) (W:World):Prop:=(wu=.slice none 0 0∧xs=[])∨∃ q:Hd,wu=hdU q∧xs=q.m.drop 32∧InHd q W
theorem WuIs.rd {xs : List Int} {wu:Value} {W:World} (h:WuIs xs wu W):RdK .u8 W.heap.size xs wu W:=by
  rcases h with ⟨rfl,rfl⟩ | ⟨q,rfl,rfl,h⟩
  · exact nilrd W
  · exact QlK h
theorem WuIs.rows {xs : List Int} {wu:Value} {W W':World} {T:TypeId} (h:WuIs xs wu W) (q:Qfa T W W') (hT:T≠5):WuIs xs wu W':=h.imp id fun ⟨z,a,b,h⟩=>⟨z,a,b,Qcf h q hT⟩
theorem Qny {b : Nat} {xs:List Int} {gu:Value} {W:World} (h:GuIs b xs gu W):Calls Tryd.prog 23 #[gu] W (fun e W'=>e=.returned (.tuple #[])∧Qah (obs gu) W W'):=by
  rcases h with ⟨rfl,rfl⟩ | ⟨h,h1,h2⟩
  · exact (Qnz W).mono fun e W' h=>⟨h.1,⟨h.2.os,h.2.tape,h.2.output,h.2.size,fun k hk _=>h.2.block k hk⟩⟩
  · obtain ⟨g,c,rest,rfl,-,r,-,-⟩:=QiO h rfl h1
    exact (Qn0 g xs.length c xs rest W (by omega) rfl r).mono fun e W' h=>⟨h.1,(show Qah [g] W W' from Qah.but (Qah.refl [g] W) h.2 (.inl (List.mem_singleton.2 rfl)))⟩
theorem Qhw {b : Nat} {xs:List Int} {gu:Value} {V W W':World} (h:GuIs b xs gu W) (q:Qah (obs gu) W W') {k:Nat} {cur:Array Value} {T:TypeId} (r:W.heap[k]? = some (.cells cur T)) (hT:T≠5):W'.heap[k]? = some (.cells cur T):=Qah.row q r fun hc=>by
  obtain ⟨-,c2,r2⟩:=h.ge k hc
  exact Qdx r r2 hT
theorem Ql6 {b : Nat} {xs:List Int} {gu:Value} {y:Lf} {W W':World} (h:LfOk y W) (hg:GuIs b xs gu W) (q:Qah (obs gu) W W') (hs:∀ e∈y.t0,∀ b,(Value.slice e.a e.m.length e.c).ownBlock=some b→gu.ownBlock≠some b):LfOk y W':=by
  have hmg:y.mg∉obs gu:=fun hc=>by obtain ⟨-,c2,r2⟩:=hg.ge _ hc; exact MpAt.ne h.ch.mp r2 rfl
  obtain ⟨B,-,r0⟩:=h.ch.row
  exact ⟨h.ch.keep ((Qhw (V:=W) hg q r0 (by decide)).trans r0.symm) (q.block _ h.ch.mp.lt hmg),h.rf,Qcp h.hd fun k hk=>by obtain ⟨-,cur,r⟩:=Qch h.hd hk; exact (Qhw (V:=W) hg q r (by decide)).trans r.symm,
    fun e he=>⟨(h.el e he).len,(h.el e he).own.keep fun k hk=>by obtain ⟨cur,r⟩:=Qcc (h.el e he).own hk; exact q.block k (Qay r) fun hc=>hs e he k hk (QiS hc)⟩,h.of,h.zo.keep fun k hk=>by obtain ⟨cur,r⟩:=Qcc h.zo hk; exact (Qhw (V:=W) hg q r (by decide)).trans r.symm⟩
theorem Ql5 {x : Lf} {W W':World} {b:Nat} {c:Array Value} {T:TypeId} (h:LfOk x W) (p:Puts W b W') (r:W.heap[b]? = some (.cells c T)) (h1:T≠84) (h2:T≠50) (h3:T≠5) (h4:T≠3):LfOk x W':=by
  obtain ⟨B,-,r0⟩:=h.ch.row
  have q:=QaA p r
  exact ⟨h.ch.keep ((q _ _ _ (Ne.symm h1) r0).trans r0.symm) (p.2.2.2.2 _ (Ne.symm (MpAt.ne h.ch.mp r))),h.rf,QfC h.hd q h2,fun e he=>Qcf (h.el e he) q h3,h.of,QaI h.zo q h4⟩
theorem Qb8 {x : Lf} {W W':World} (h:LfOk x W) (e:Ext W W'):LfOk x W':=⟨h.ch.ext e,h.rf,QaR h.hd e,fun y hy=>QfO (h.el y hy) e,h.of,h.zo.ext e⟩
structure ChAt (b0 gc gl : Nat) (la : Option Addr) (cap nl : Nat) (lp : Array Value) (fs : List Lf) (r : Nat) (W : World) : Prop where
  row:W.heap[gc]? = some (.cells #[.slice la nl cap] 70)
  sub:0<nl→la=some ⟨gl,0,none⟩∧W.heap[gl]? = some (.cells lp 75)
  ok:FsOk b0 lp fs r W
  len:fs.length=nl
theorem ChAt.ext {b0 gc gl:Nat} {la:Option Addr} {cap nl:Nat} {lp:Array Value} {fs:List Lf} {r r2:Nat} {V W:World} (h:ChAt b0 gc gl la cap nl lp fs r V) (e:Ext V W) (hr:r≤r2):ChAt b0 gc gl la cap nl lp fs r2 W:=⟨Qac h.row e,fun h0=>⟨(h.sub h0).1,Qac (h.sub h0).2 e⟩,QmS h.ok e hr,h.len⟩
theorem ChAt.turn {b0 b1 gc gl nl ul i:Nat} {la:Option Addr} {cap:Nat} {lp c:Array Value} {fs:List Lf} {x y:Lf} {r:Nat} {V W:World} (h:ChAt b0 gc gl la cap nl lp fs r V) (hi:i<fs.length) (hx:x=fs.getD i lf0) (hul:V.heap[ul]? = some (.cells c 34)) (q:Qah [x.g,x.mg,ul] V W) (hy:LfOk y W) (e1:y.g=x.g) (e2:y.mg=x.mg) (hz:y.zs.length≤r+1):ChAt b0 gc gl la cap nl lp (fs.set i y) (r+1) W:=by
  have hxo:=h.ok.ok x (by rw [hx]; exact Qcd fs lf0 i hi)
  exact ⟨Qde hxo.ch hul q h.row (by decide) (by decide),fun h0=>⟨(h.sub h0).1,Qde hxo.ch hul q (h.sub h0).2 (by decide) (by decide)⟩,QmR h.ok hi hx hul q hy e1 e2 hz,by rw [List.length_set]; exact h.len⟩
theorem QmF {g mg ul:Nat} {V W:World} (q:Qah [g,mg] V W):Qah [g,mg,ul] V W:=⟨q.os,q.tape,q.output,q.size,fun k hk hn=>q.block k hk (fun h=>hn (by simp only [List.mem_cons,List.not_mem_nil,or_false] at h ⊢; rcases h with h | h; exact .inl h; exact .inr (.inl h)))⟩
theorem QlS (pl : Nat→Option (Nat×Nat)) (h0:pl 0=some (0,32)) (sec:List Int) (hl:sec.length=32):Instr.fill pl (cat [ints .u8 (List.replicate 32 0),#[.int .i64 0],#[.slice none 0 0],#[.slice none 0 0],#[.int .i64 0]]) [(0,.agg (ints .u8 sec))]=some (cat [ints .u8 sec,#[.int .i64 0],#[.slice none 0 0],#[.slice none 0 0],#[.int .i64 0]]) :=
  (QgV pl 0 0 32 (.agg (ints .u8 sec)) [] (ints .u8 (List.replicate 32 0)) [#[.int .i64 0],#[.slice none 0 0],#[.slice none 0 0],#[.int .i64 0]] [] h0 rfl (by rw [Qad]; rfl) ((Qad _ _).trans hl)).trans rfl
def QmZ (os : List Int) (m:Nat) (ao:Option Addr) (w:World):Prop:=∃ g o,(0<m→ao=some ⟨g,o,none⟩∧g<w.heap.size)∧∀ i,i<m→∀ j,j<3→w.cell? ⟨g,o+i*3+j,none⟩=some (.int .i64 (nth os (i*3+j)))
theorem Qlu {os : List Int} {m go oo r:Nat} {w W:World} (e:Ext w W) (hg:go<w.heap.size) (h:∀ i,i<m→∀ j,j<3→w.cell? ⟨go,oo+i*3+j,none⟩=some (.int .i64 (nth os (i*3+j)))) (hr:r<m):∀ (j:Nat) (v:Value),(#[.int .i64 (nth os (r*3+0)),.int .i64 (nth os (r*3+1)),.int .i64 (nth os (r*3+2))]:Array Value)[j]? = some v→W.cell? ⟨go,oo+r*3+j,none⟩=some v:=fun j v hv=>by
  have hj:j<3:=(Array.getElem?_eq_some_iff.1 hv).1
  rw [e.cell hg,h r hr j hj]
  rcases (show j=0∨j=1∨j=2 by omega) with rfl | rfl | rfl <;> exact hv
theorem QeI : ∀ {sec:List Int} (h:sec.length=32) (k j:Nat),(Qbk sec k j).length=32
  | _,h,0,_=>h
  | sec,h,k+1,j=>by
    rw [Qbk]
    split
    · exact QeI (Qc9 _) k _
    · exact QeI (Qc5 _) k _
theorem Qcq {K : Act→World→Prop} {ds:List Deferred} {N:Nat} {L:Env} {W:World} (M:Env) (h:K (Qa0 ds N (M++L)) W) (ha:Qha L M):K (Qa0 ds N L) W:=QbX (ds:=ds) (N:=N) ha▸h
theorem Qk7 {n : Int} {b:Bool} (h:Seat.isTree n=b) (W:World):Calls Tryd.prog 10 #[.int .i64 n] W (fun e W'=>e=.returned (.bool b)∧W=W'):=h▸Seat.sound n W
theorem QiP {xs ys:List Int} {v gu:Value} {V W:World} {n b m:Nat} (h:OwnN .u8 5 m xs v V) (hs:V.heap.size≤n) (hb:v.ownBlock=some b) (hu:OwnN .u8 5 n ys gu W) (hn:gu.ownBlock=some b):False:=by have:=h.lt hb; have:=hu.ge hn; omega
theorem QkD {xs ys:List Int} {v gu:Value} {W W':World} {n b m:Nat} (h:OwnN .u8 5 n xs v W') (hs:W.heap.size≤n) (hb:v.ownBlock=some b) (hu:OwnN .u8 5 m ys gu W) (hn:gu.ownBlock=some b):False:=by have:=h.ge hb; have:=hu.lt hn; omega
end Go.Proofs.YtibegnjaphohaaaDoor.Cn
end
