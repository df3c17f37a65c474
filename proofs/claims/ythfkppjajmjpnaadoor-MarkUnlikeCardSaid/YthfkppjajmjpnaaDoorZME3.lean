/- Texts of this claim, joined (ME3). -/
import Derived.Test.YthfkppjajmjpnaaDoorZME2

set_option linter.unusedVariables false
set_option linter.unusedSimpArgs false
set_option maxHeartbeats 4000000
section
namespace Go.Proofs.YthfkppjajmjpnaaDoor.Te
open Go Go.RowKit
open Rely Auto Own Seat Sha
end Go.Proofs.YthfkppjajmjpnaaDoor.Te
end
section
namespace Go.Proofs.YthfkppjajmjpnaaDoor.Te
open Go Go.RowKit
open Rely Auto Own Seat Sha
end Go.Proofs.YthfkppjajmjpnaaDoor.Te
end
section
namespace Go.Proofs.YthfkppjajmjpnaaDoor.Te
open Go Go.RowKit
open Rely Auto Own Seat Sha
def named (ts : List NdV) (x:Int):Prop:=∃ j,2*j<ts.length∧(ndi ts (2*j)).n.us=true∧(ndi ts (2*j)).n.nm=x
theorem QkG {us ts:List NdV} (h:AsC us ts) (x:Int):named us x↔named ts x:=by
  unfold named
  simp only [h.1,h.all]
def QmI (ts : List NdV) (nd:NdV) (m:Nat) (R:List NdV):Prop:=(∀ x,named R x↔named ts x∨x=nd.n.nm)∧¬ named ts nd.n.nm∧2*m<R.length∧(ndi R (2*m)).n.us=true∧(ndi R (2*m)).n.nm=nd.n.nm
def Nms (ts : List NdV) (ks:List Int):Prop:=ks.Nodup∧∀ x,x∈ks↔named ts x
theorem Nms.start {ts : List NdV} {L:Nat} (f:Form ts L):Nms ts (Qbc ts L):=by
  have hlen:=f.len
  refine ⟨Qcn.2 f.nms,fun x=>Qc9.trans ⟨?_,?_⟩⟩
  · rintro ⟨j,h1,h2,h3⟩; exact ⟨j,by omega,h2,h3⟩
  · rintro ⟨j,h1,h2,h3⟩; exact ⟨j,by omega,h2,h3⟩
theorem Nms.add {ts R:List NdV} {ks:List Int} {nd:NdV} {m:Nat} (h:Nms ts ks) (a:QmI ts nd m R):Nms R (ks++[nd.n.nm]):=by
  refine ⟨QcI h.1 fun q=>a.2.1 ((h.2 _).1 q),fun x=>?_⟩
  rw [List.mem_append,List.mem_singleton,h.2,a.1]
theorem Nms.c {us ts:List NdV} {ks:List Int} (h:Nms ts ks) (e:AsC us ts):Nms us ks:=⟨h.1,fun x=>(h.2 x).trans (QkG e x).symm⟩
theorem QeY : ∀ {xs ys:List Int},xs.Nodup→(∀ x∈xs,x∈ys)→xs.length≤ys.length
  | [],_,_,_=>Nat.zero_le _
  | x::r,ys,h,hs=>by
    have hx:x∈ys:=hs x (by simp)
    have hn:=List.nodup_cons.1 h
    have:=QeY (ys:=ys.erase x) hn.2 fun z hz=>(List.mem_erase_of_ne (fun e=>by rw [e] at hz; exact hn.1 hz)).2 (hs z (List.mem_cons_of_mem _ hz))
    rw [List.length_erase_of_mem hx] at this
    have:=List.length_pos_of_mem hx
    rw [List.length_cons]; omega
theorem Qeb (ts : List NdV):∀ k,(Qbc ts k).length=(Qhn ts k).length
  | 0=>rfl
  | k+1=>by
    unfold Qbc Qhn
    split
    · rw [List.length_append,List.length_append,Qeb ts k]; rfl
    · exact Qeb ts k
theorem Nms.len {ts : List NdV} {ks:List Int} {L:Nat} (f:Form ts L) (h:Nms ts ks):(Qhn ts L).length=ks.length:=by
  have s:=Nms.start f
  rw [←Qeb]
  exact Nat.le_antisymm (QeY s.1 fun x hx=>(h.2 x).2 ((s.2 x).1 hx)) (QeY h.1 fun x hx=>(s.2 x).2 ((h.2 x).1 hx))
def IntV (ms : List (Int×Value)):Prop:=∀ p∈ms,∃ v:Int,p.2=.int .i64 v
theorem IntV.get {ms : List (Int×Value)} (h:IntV ms) (n:Int):∃ v:Int,mget ms n (.int .i64 0)=.int .i64 v:=by
  unfold mget
  cases hf:ms.find? (fun p=>p.1==n) with
  | none=>exact ⟨0,rfl⟩
  | some p=>exact h p (List.mem_of_find?_eq_some hf)
theorem IntV.snoc {ms : List (Int×Value)} (h:IntV ms) (n v:Int):IntV (ms++[(n,.int .i64 v)]):=fun p hp=>by
  rcases List.mem_append.1 hp with q | q
  · exact h p q
  · rw [List.mem_singleton.1 q]; exact ⟨v,rfl⟩
theorem IntV.set {ms : List (Int×Value)} (h:IntV ms) (n v:Int):IntV (mset ms n (.int .i64 v)):=fun p hp=>by
  obtain ⟨q,hq,rfl⟩:=List.mem_map.1 hp
  split
  · exact ⟨v,rfl⟩
  · exact h q hq
def Cnt (nm : Nat→Int) (g:Nat) (pre:List Nat) (W:World):Prop:=∃ ms,MpAt g ms W∧IntV ms∧((pre.map nm).Nodup→ms=(pre.map nm).map tmv)
theorem Cnt.keep {nm : Nat→Int} {g:Nat} {pre:List Nat} {W W':World} (h:Cnt nm g pre W) (e:W'.heap[g]? = W.heap[g]?):Cnt nm g pre W':=by
  obtain ⟨ms,h1,h2⟩:=h
  exact ⟨ms,h1.keep e,h2⟩
theorem Cnt.lt {nm : Nat→Int} {g:Nat} {pre:List Nat} {W:World} (h:Cnt nm g pre W):g<W.heap.size:=by
  obtain ⟨ms,h1,-⟩:=h
  exact h1.lt
theorem Cnt.ne {nm : Nat→Int} {g k:Nat} {pre:List Nat} {W:World} {cs:Array Value} {T:TypeId} (h:Cnt nm g pre W) (r:W.heap[k]? = some (.cells cs T)):k≠g:=by
  obtain ⟨ms,h1,-⟩:=h
  exact h1.ne r
theorem Cnt.step {nm : Nat→Int} {g:Nat} {pre:List Nat} {W:World} (h:Cnt nm g pre W) (z:Nat):∃ ms,MpAt g ms W∧∃ v:Int,mget ms (nm z) (.int .i64 0)=.int .i64 v ∧
    ((nm z∉ms.map Prod.fst∧∀ W',MpAt g (ms++[(nm z,.int .i64 (IntKind.i64.wrap (v+1)))]) W'→Cnt nm g (pre++[z]) W')∨(nm z∈ms.map Prod.fst∧∀ W',MpAt g (mset ms (nm z) (.int .i64 (IntKind.i64.wrap (v+1)))) W'→Cnt nm g (pre++[z]) W')):=by
  obtain ⟨ms,h1,h2,h3⟩:=h
  obtain ⟨v,hv⟩:=h2.get (nm z)
  refine ⟨ms,h1,v,hv,?_⟩
  by_cases q:nm z∈ms.map Prod.fst
  · refine .inr ⟨q,fun W' hW=>⟨_,hW,h2.set _ _,fun hd=>?_⟩⟩
    rw [List.map_append] at hd
    have hd:=List.nodup_append.1 hd
    have e:=h3 hd.1
    rw [e,Qee] at q
    exact absurd rfl (hd.2.2 _ q _ (by simp))
  · refine .inl ⟨q,fun W' hW=>⟨_,hW,h2.snoc _ _,fun hd=>?_⟩⟩
    rw [List.map_append] at hd ⊢
    have e:=h3 (List.nodup_append.1 hd).1
    rw [e] at hv q ⊢
    rw [Qee] at q
    rw [Qj7 q] at hv
    simp only [Value.int.injEq,true_and] at hv
    subst hv
    rw [List.map_append]; rfl
end Go.Proofs.YthfkppjajmjpnaaDoor.Te
end
section
namespace Go.Proofs.YthfkppjajmjpnaaDoor.Te
open Go Go.RowKit
open Rely Auto Own Seat Sha
theorem QjF {xs : List Int} (h:xs.Pairwise (· < ·)) (hb:∀ j∈xs,0≤j∧j<32):xs.length≤32:=by
  have key:∀ k:Nat,k<xs.length→((k:Nat):Int)≤nth xs k:=by
    intro k
    induction k with
    | zero=>intro hk; have:=hb _ (Qf8 hk); omega
    | succ k ih=>intro hk; have:=ih (by omega); have:=QkC h (k+1) hk k (by omega); omega
  rcases Nat.lt_or_ge 32 xs.length with q | q
  · have h1:=key 32 q
    have h2:=hb _ (Qf8 q)
    omega
  · exact q
theorem Form.small {ts : List NdV} {L:Nat} (f:Form ts L):ts.length≤63∧Rise 32 ts:=by
  have hlen:=f.len
  have hT:=Qa9 f.tr
  refine ⟨by omega,fun j hj=>?_⟩
  have nil:(ndi ts j).n.ms=[]→(ndi ts j).n.ms.Pairwise (·≤·)∧(ndi ts j).n.ms.length≤32:=fun e=>by rw [e]; exact ⟨List.Pairwise.nil,by decide⟩
  cases hu:(ndi ts j).n.us with
  | false=>exact nil (by rw [f.zero j hj hu]; rfl)
  | true =>
    by_cases ho:j%2=1
    · have h:=f.ms_lt hj ho hu
      exact ⟨h.1.imp fun q=>Int.le_of_lt q,QjF h.1 fun x hx=>⟨(h.2 x hx).1,(h.2 x hx).2.1⟩⟩
    · have e:j=2*(j/2):=by omega
      have h:=f.leaf (j/2) (by omega) (by rw [←e]; exact hu)
      rw [←e] at h
      unfold QbJ at h
      simp only [Bool.and_eq_true,beq_iff_eq] at h
      exact nil (List.length_eq_zero_iff.1 h.1.1.2)
end Go.Proofs.YthfkppjajmjpnaaDoor.Te
end
section
namespace Go.Proofs.YthfkppjajmjpnaaDoor.Te
open Go Go.RowKit
open Rely Auto Own Seat Sha
structure QmJ (nd : NdV) (w : World) : Prop where
  rd:∃ B,RdK .i64 B nd.n.ms (.slice nd.a nd.n.ms.length nd.c) w
end Go.Proofs.YthfkppjajmjpnaaDoor.Te
end
section
namespace Go.Proofs.YthfkppjajmjpnaaDoor.Te
open Go Go.RowKit
open Rely Auto Own Seat Sha
end Go.Proofs.YthfkppjajmjpnaaDoor.Te
end
section
namespace Go.Proofs.YthfkppjajmjpnaaDoor.Te
open Go Go.RowKit
open Rely Auto Own Seat Sha
theorem FrT.parts {base : Nat} {us:List NdV} {v:Value} {W:World} (h:FrT base us v W):∃ a c,v=.slice a us.length c∧TrAt W.heap.size W a us∧AvT (fun g=>base≤g) a us:=by
  obtain ⟨a,c,e,h1,h2,-⟩:=h
  exact ⟨a,c,e,h1,h2⟩
end Go.Proofs.YthfkppjajmjpnaaDoor.Te
end
section
namespace Go.Proofs.YthfkppjajmjpnaaDoor.Sha
open Go Go.RowKit
open Rely Auto Own
theorem Qi3 (n : Nat) (h0:0<n) (hn:n<32):IntKind.u64.wrap (-(n:Int))=18446744073709551616-(n:Int):=by
  have:IntKind.u64.wrap (-(n:Int))=(-(n:Int))%2^64:=rfl
  rw [this]; omega
theorem QmG : ∀ n:Nat,0<n→n<32→bits .and .u64 (18446744073709551616-(n:Int)) 31=((32-n:Nat):Int):=by
  have h:∀ n:Fin 32,0<n.1→bits .and .u64 (18446744073709551616-(n.1:Int)) 31=((32-n.1:Nat):Int):=by decide
  intro n h0 hn
  exact h ⟨n,hn⟩ h0
theorem QlB (n : Nat) (hn:n<32):IntKind.u64.wrap (32-((32-n:Nat):Int))=((n:Nat):Int):=by
  have:∀ z:Int,IntKind.u64.wrap z=z%2^64:=fun _=>rfl
  rw [this]; omega
theorem rotC (x : Wd) (n:Nat) (m:Int) (hm:m=-(n:Int)) (h0:0<n) (hn:n<32) (w:World):Calls Tryd.prog 83 #[.int .u32 (wv x),.int .i64 m] w (Ret w (.int .u32 (wv (rr x n)))):=by
  refine enter 17 [(0,.int .u32 (wv x)),(1,.int .i64 m)] Tryd.func83 rfl rfl kj rfl ?_
  refine wp_seq_k fun K1 hK1=>?_
  refine Qab ?_
  refine Qaa (.int .u32 0) 4 rfl kj kj ?_
  refine Qaf ?_
  refine hK1 _ _ ?_
  refine wp_seq_k fun K2 hK2=>?_
  refine Qab ?_
  refine Qaa (.int .i64 m) 6 rfl kj kj ?_
  refine Qaa (.int .u64 (18446744073709551616-(n:Int))) 7 rfl kj (Qai (u:=.int .u64 (IntKind.u64.wrap (m))) kj (congrArg (Value.int .u64) (by rw [hm]; exact Qi3 n h0 hn))) ?_
  refine Qaa (.int .u64 (((32-n:Nat):Int))) 8 rfl kj (Qai (u:=.int .u64 (bits .and .u64 ((18446744073709551616-(n:Int))) (31))) kj (congrArg (Value.int .u64) (QmG n h0 hn))) ?_
  refine Qaa (.int .u64 (((32-n:Nat):Int))) 5 rfl kj kj ?_
  refine Qaf ?_
  refine hK2 _ _ ?_
  refine wp_seq_k fun K3 hK3=>?_
  refine Qab ?_
  refine Qaa (.int .u32 (wv x)) 9 rfl kj kj ?_
  refine Qaa (.int .u64 (((32-n:Nat):Int))) 10 rfl kj kj ?_
  refine Qaa (.int .u32 (wv (x<<<(32-n)))) 11 rfl kj (Qbf .shl _ _ _ _ .u32 .u64 _ _ _ rfl kj kj (Qiw _ _ _ _ _ _ (by omega) (QjW x _ (32-n) rfl (by omega)))) ?_
  refine Qaa (.int .u32 (wv x)) 12 rfl kj kj ?_
  refine Qaa (.int .u64 (((32-n:Nat):Int))) 13 rfl kj kj ?_
  refine Qaa (.int .u64 (((n:Nat):Int))) 14 rfl kj (Qai (u:=.int .u64 (IntKind.u64.wrap (32-((32-n:Nat):Int)))) kj (congrArg (Value.int .u64) (QlB n hn))) ?_
  refine Qaa (.int .u32 (wv (x>>>n))) 15 rfl kj (Qbf .shr _ _ _ _ .u32 .u64 _ _ _ rfl kj kj (QcN _ _ _ _ _ _ (by omega) (Qfs x _ n rfl (by omega)))) ?_
  refine Qaa (.int .u32 (wv (((x<<<(32-n)))|||((x>>>n))))) 16 rfl kj (Qai (u:=.int .u32 (bits .or .u32 (wv (x<<<(32-n))) (wv (x>>>n)))) kj (congrArg (Value.int .u32) (w_or _ _))) ?_
  refine Qaa (.int .u32 (wv (((x<<<(32-n)))|||((x>>>n))))) 4 rfl kj kj ?_
  refine Qaf ?_
  refine hK3 _ _ ?_
  refine wp_ret ?_
  repeat (first | with_reducible refine goR1 ?_ | with_reducible refine goR2 ?_)
  exact (show bodyPost _ _ _ .ret _ _ from ret1 (.int .u32 (wv (((x<<<(32-n)))|||((x>>>n))))) rfl (Qaq kj) ⟨rfl,(Rely.Ext.refl w)⟩)
theorem Qkf (n : Nat) (hn:n<32):IntKind.u64.wrap (32-((n:Nat):Int))=((32-n:Nat):Int):=by
  have:∀ z:Int,IntKind.u64.wrap z=z%2^64:=fun _=>rfl
  rw [this]; omega
theorem Qe1 (x : Wd) (n:Nat) (m:Int) (hm:m=(n:Int)) (h0:0<n) (hn:n<32) (w:World):Calls Tryd.prog 56 #[.int .u32 (wv x),.int .u64 m] w (Ret w (.int .u32 (wv (rr x n)))):=by
  subst hm
  refine enter 13 [(0,.int .u32 (wv x)),(1,.int .u64 ((n:Nat):Int))] Tryd.func56 rfl rfl kj rfl ?_
  refine wp_seq_k fun K1 hK1=>?_
  refine Qab ?_
  refine Qaa (.int .u32 0) 4 rfl kj kj ?_
  refine Qaf ?_
  refine hK1 _ _ ?_
  refine wp_seq_k fun K2 hK2=>?_
  refine Qab ?_
  refine Qaa (.int .u32 (wv x)) 5 rfl kj kj ?_
  refine Qaa (.int .u64 ((n:Nat):Int)) 6 rfl kj kj ?_
  refine Qaa (.int .u32 (wv (x>>>n))) 7 rfl kj (Qbf .shr _ _ _ _ .u32 .u64 _ _ _ rfl kj kj (QcN _ _ _ _ _ _ (by omega) (Qfs x _ n rfl (by omega)))) ?_
  refine Qaa (.int .u32 (wv x)) 8 rfl kj kj ?_
  refine Qaa (.int .u64 ((n:Nat):Int)) 9 rfl kj kj ?_
  refine Qaa (.int .u64 (((32-n:Nat):Int))) 10 rfl kj (Qai (u:=.int .u64 (IntKind.u64.wrap (32-((n:Nat):Int)))) kj (congrArg (Value.int .u64) (Qkf n hn))) ?_
  refine Qaa (.int .u32 (wv (x<<<(32-n)))) 11 rfl kj (Qbf .shl _ _ _ _ .u32 .u64 _ _ _ rfl kj kj (Qiw _ _ _ _ _ _ (by omega) (QjW x _ (32-n) rfl (by omega)))) ?_
  refine Qaa (.int .u32 (wv (((x>>>n))+((x<<<(32-n)))))) 12 rfl kj (Qai (u:=.int .u32 (IntKind.u32.wrap (wv (x>>>n)+wv (x<<<(32-n))))) kj (congrArg (Value.int .u32) (QbT _ _))) ?_
  refine Qaa (.int .u32 (wv (((x>>>n))+((x<<<(32-n)))))) 4 rfl kj kj ?_
  refine Qaf ?_
  refine hK2 _ _ ?_
  refine wp_ret ?_
  repeat (first | with_reducible refine goR1 ?_ | with_reducible refine goR2 ?_)
  exact (show bodyPost _ _ _ .ret _ _ from ret1 (.int .u32 (wv (((x>>>n))+((x<<<(32-n)))))) rfl (Qaq kj) ⟨congrArg (fun z=>Ending.returned (.int .u32 (wv z))) (Ql2 x n h0 hn),(Rely.Ext.refl w)⟩)
theorem Qc5 (ws : List Wd) (n:Nat):(wmore ws n).length=ws.length+n:=by
  induction n with
  | zero=>rfl
  | succ n ih=>simp [wmore,ih]; omega
theorem QfO (b : List Int):(w16 b).length=16:=by simp [w16]
theorem QbC (b : List Int):(w64 b).length=64:=by rw [w64,Qc5,QfO]
theorem QdX (ws : List Wd) (n m j:Nat) (hj:j<ws.length+n) (hm:n≤m):wget (wmore ws m) j=wget (wmore ws n) j:=by
  induction m with
  | zero =>
    obtain rfl:n=0:=by omega
    rfl
  | succ m ih =>
    rcases Nat.lt_or_ge m n with h | h
    · obtain rfl:n=m+1:=by omega
      rfl
    · rw [←ih h]
      show wget (wmore ws m++_) j=_
      unfold wget
      rw [List.getD_eq_getElem?_getD,List.getElem?_append_left (by rw [Qc5]; omega),←List.getD_eq_getElem?_getD]
theorem QgL (ws : List Wd) (n:Nat):wget (wmore ws (n+1)) (ws.length+n)=wnext (wmore ws n):=by
  show wget (wmore ws n++[_]) _=_
  unfold wget
  rw [List.getD_eq_getElem?_getD,List.getElem?_append_right (by rw [Qc5]; omega),Qc5,Nat.sub_self]
  rfl
theorem Qgk (b : List Int) (i:Nat) (h:16≤i) (hi:i<64):wget (w64 b) i=sig1 (wget (w64 b) (i-2))+wget (w64 b) (i-7)+sig0 (wget (w64 b) (i-15))+wget (w64 b) (i-16):=by
  obtain ⟨n,rfl⟩:∃ n,i=16+n:=⟨i-16,by omega⟩
  have hl:=QfO b
  have g:∀ j,j<16+n→wget (w64 b) j=wget (wmore (w16 b) n) j:=fun j hj=>QdX (w16 b) n 48 j (by omega) (by omega)
  have g1:wget (w64 b) (16+n)=wget (wmore (w16 b) (n+1)) (16+n):=QdX (w16 b) (n+1) 48 _ (by omega) (by omega)
  rw [g1,g _ (by omega),g _ (by omega),g _ (by omega),g _ (by omega)]
  have h2:=QgL (w16 b) n
  rw [hl] at h2
  rw [h2]
  unfold wnext
  rw [Qc5,hl]
theorem Qhm (b : List Int) (i:Nat) (hi:i<16):wget (w64 b) i=be4 (nth b (4*i)) (nth b (4*i+1)) (nth b (4*i+2)) (nth b (4*i+3)):=by
  have g1:wget (w64 b) i=wget (w16 b) i:=QdX (w16 b) 0 48 i (by rw [QfO]; omega) (by omega)
  rw [g1]
  unfold wget w16
  rw [List.getD_eq_getElem?_getD,List.getElem?_map,List.getElem?_range hi]
  rfl
def hor (b : List Int) (i:Nat):Nat→Wd
  | 0=>0
  | j+1=>hor b i j<<<8|||BitVec.ofInt 32 (nth b (4*i+j))
theorem Qjn {b : List Int} (hb:Qav b) (i j:Nat):hor b i j<<<8|||BitVec.ofInt 32 (nth b (4*i+j))=hor b i (j+1):=rfl
theorem or_byte (x : Wd) (n:Int) (h:0≤n∧n≤255):x<<<8|||BitVec.ofInt 32 n=BitVec.ofInt 32 (wv x*256+n):=by
  have e:x<<<8|||BitVec.ofInt 32 n=x<<<8+BitVec.ofInt 32 n:=by
    refine (BitVec.add_eq_or_of_and_eq_zero _ _ ?_).symm
    apply BitVec.eq_of_getLsbD_eq
    intro i hi
    simp only [BitVec.getLsbD_and,BitVec.getLsbD_shiftLeft,BitVec.getLsbD_zero]
    rcases Nat.lt_or_ge i 8 with h1 | h1
    · simp [h1]
    · have:(BitVec.ofInt 32 n).getLsbD i=false:=by
        have hn:(BitVec.ofInt 32 n).toNat<2^i:=by
          have e:(BitVec.ofInt 32 n).toNat=n.toNat:=by rw [BitVec.toNat_ofInt]; omega
          rw [e]
          have:2^8≤2^i:=Nat.pow_le_pow_right (by decide) h1
          omega
        exact BitVec.testBit_toNat _▸Nat.testBit_lt_two_pow hn
      rw [this,Bool.and_false]
  rw [e]
  apply BitVec.eq_of_toNat_eq
  rw [BitVec.toNat_add,BitVec.toNat_shiftLeft,Nat.shiftLeft_eq,BitVec.toNat_ofInt,BitVec.toNat_ofInt]
  unfold wv
  have:=x.isLt
  omega
theorem hor4 {b : List Int} (hb:Qav b) (i:Nat):hor b i 4=be4 (nth b (4*i)) (nth b (4*i+1)) (nth b (4*i+2)) (nth b (4*i+3)):=by
  have h0:=hb.nth (4*i)
  have h1:=hb.nth (4*i+1)
  have h2:=hb.nth (4*i+2)
  have h3:=hb.nth (4*i+3)
  show ((((0:Wd)<<<8|||BitVec.ofInt 32 (nth b (4*i+0)))<<<8|||BitVec.ofInt 32 (nth b (4*i+1)))<<<8|||BitVec.ofInt 32 (nth b (4*i+2)))<<<8|||BitVec.ofInt 32 (nth b (4*i+3))=_
  rw [Nat.add_zero,or_byte _ _ h3,or_byte _ _ h2,or_byte _ _ h1,or_byte _ _ h0]
  unfold be4
  apply BitVec.eq_of_toNat_eq
  rw [BitVec.toNat_ofInt,BitVec.toNat_ofInt]
  simp only [QeJ]
  have:wv 0=0:=rfl
  rw [this]
  omega
theorem QmC {b : List Int} (hb:Qav b) (i:Nat):IntKind.u32.wrap (nth b i)=wv (BitVec.ofInt 32 (nth b i)):=by rw [QdV,QeJ]
theorem Qim {b : List Int} {i:Nat} (h:((w64 b).map wv).length=64) (hi:i<64):fill ((w64 b).map wv) 64 i=(fill ((w64 b).map wv) 64 i).set i (wv (hor b i 0)):=by
  have e:nth (fill ((w64 b).map wv) 64 i) i=0:=Qik h (qR _)
  have h0:wv (hor b i 0)=nth (fill ((w64 b).map wv) 64 i) i:=by rw [e]; rfl
  rw [h0]
  have hl:i<(fill ((w64 b).map wv) 64 i).length:=by rw [Qbx h (by omega)]; exact hi
  rw [show nth (fill ((w64 b).map wv) 64 i) i=(fill ((w64 b).map wv) 64 i)[i] by simp [nth,hl],List.set_getElem_self]
theorem Qil {b : List Int} {i:Nat} (h:((w64 b).map wv).length=64) (hi:i<16) (hb:Qav b):(fill ((w64 b).map wv) 64 i).set i (wv (hor b i 4))=fill ((w64 b).map wv) 64 (i+1):=by
  rw [←QcJ h (by omega),QbG,hor4 hb,Qhm b i hi]
theorem Qki (b : List Int) (hbl:b.length=64) (hbb:Qav b) (w:World):Calls Tryd.prog 82 #[.agg (ints .u8 b)] w (Ret w (.agg (ints .u32 ((w64 b).map wv)))):=by
 refine enter 81 [(0,.agg (ints .u8 (b)))] Tryd.func82 rfl rfl kj rfl ?_
 refine wp_seq_k fun K1 hK1=>?_
 refine Qab ?_
 refine Qan (ints .u8 (b)) 97 1 rfl kj kj fun g2 W1 l2 e1 r2_1=>?_
 have x1:Ext w W1:=Ext.tr (Rely.Ext.refl w) e1
 have b2:w.heap.size≤g2:=qT (Rely.Ext.refl w).size l2
 refine Qan (ints .u32 (List.replicate 64 0)) 106 2 rfl kj kj fun g3 W2 l3 e2 r3_2=>?_
 have x2:Ext w W2:=Ext.tr x1 e2
 have b3:w.heap.size≤g3:=qT x1.size l3
 refine Qaf ?_
 refine hK1 _ _ ?_
 refine wp_seq_k fun K4 hK4=>?_
 refine Qab ?_
 refine Qan (ints .u32 (List.replicate 64 0)) 106 3 rfl kj kj fun g5 W3 l5 e3 r5_3=>?_
 have x3:Ext w W3:=Ext.tr x2 e3
 have b5:w.heap.size≤g5:=qT x2.size l5
 refine Qaf ?_
 refine hK4 _ _ ?_
 refine wp_seq_k fun K6 hK6=>?_
 refine wp_seq_k fun K7 hK7=>?_
 refine Qab ?_
 refine Qaa (.int .i64 0) 12 rfl kj kj ?_
 refine Qaf ?_
 refine hK7 _ _ ?_
 refine wp_block ?_
 have hl64:((w64 b).map wv).length=64:=by rw [List.length_map,QbC]
 refine Qa0 (fun (s1:Nat)=>[(12,.int .i64 ((s1:Nat):Int)),(1,.pointer (some ⟨g2,0,none⟩)),(2,.pointer (some ⟨g3,0,none⟩)),(3,.pointer (some ⟨g5,0,none⟩))]) (fun (s1:Nat) W=>(s1≤16)∧(W.heap[g5]? = some (.cells (ints .u32 (fill ((w64 b).map wv) 64 s1)) 106))∧(Qa8 [g5] W3 W)∧(Ext w W)) (fun (s1:Nat)=>16-s1) 0 ⟨rfl,rfl,rfl,rfl,trivial⟩ ⟨(Nat.zero_le _),(Qba r5_3 (Qdo _ 64).symm),(Qa8.refl [g5] W3),x3⟩ fun s1 X1 V1 hI1=>?_
 obtain ⟨i,hs1⟩:∃ z,z=s1:=⟨_,rfl⟩
 subst hs1
 obtain ⟨hi,q5_1,kk1,xx1⟩:=hI1
 replace hi:i≤16:=hi
 replace q5_1:V1.heap[g5]? = some (.cells (ints .u32 (fill ((w64 b).map wv) 64 i)) 106):=q5_1
 replace kk1:Qa8 [g5] W3 V1:=kk1
 replace xx1:Ext w V1:=xx1
 have q4:=kk1
 refine wp_seq_k fun K8 hK8=>?_
 refine Qab ?_
 refine Qaa (.bool (decide (((i:Nat):Int)<16))) 13 rfl kj kj ?_
 refine Qaf ?_
 refine hK8 _ _ ?_
 refine wp_seq_k fun K9 hK9=>?_
 refine Qar (t:=decide (((i:Nat):Int)<16)) kj (fun c10=>?_) (fun c10=>?_)
 ·skip
  have hlt13:i<16:=by have:=of_decide_eq_true c10; omega
  refine wp_skip ?_
  refine hK9 _ _ ?_
  refine wp_seq_k fun K11 hK11=>?_
  refine wp_block ?_
  refine wp_seq_k fun K12 hK12=>?_
  refine Qab ?_
  refine Qaa (.int .i64 ((i:Nat):Int)) 14 rfl kj kj ?_
  refine Qaa (.int .i64 ((i:Nat):Int)) 4 rfl kj kj ?_
  refine Qaf ?_
  refine hK12 _ _ ?_
  refine wp_seq_k fun K13 hK13=>?_
  refine Qab ?_
  refine Qaa (.int .i64 ((i:Nat):Int)) 15 rfl kj kj ?_
  refine Qaa (.int .i64 ((4*i:Nat):Int)) 16 rfl kj (Qai (u:=.int .i64 (IntKind.i64.wrap (4*((i:Nat):Int)))) kj (congrArg (Value.int .i64) (i64n _ _ (by omega) (by omega)))) ?_
  refine Qaa (.int .i64 ((i:Nat):Int)) 17 rfl kj kj ?_
  refine Qaa (.int .i64 ((4*i:Nat):Int)) 18 rfl kj (Qai (u:=.int .i64 (IntKind.i64.wrap (4*((i:Nat):Int)))) kj (congrArg (Value.int .i64) (i64n _ _ (by omega) (by omega)))) ?_
  refine Qaa (.int .i64 (((4*i)+4:Nat):Int)) 19 rfl kj (Qai (u:=.int .i64 (IntKind.i64.wrap (((4*i:Nat):Int)+4))) kj (congrArg (Value.int .i64) (i64n _ _ (by omega) (by omega)))) ?_
  refine Qaa (.slice (some ⟨g2,0+(4*i),none⟩) (((4*i)+4)-(4*i)) (64-(4*i))) 20 rfl kj (Qe9 97 _ _ _ (4*i) ((4*i)+4) 64 g2 0 5 rfl kj kj kj ⟨.i64,by kernel_rfl⟩ ⟨.i64,by kernel_rfl⟩ (by omega) (by omega) (by omega)) ?_
  refine Qaa (.int .i64 ((((4*i)+4)-(4*i):Nat):Int)) 21 rfl kj kj ?_
  refine Qaa (.int .i64 0) 22 rfl kj kj ?_
  refine Qaf ?_
  refine hK13 _ _ ?_
  refine wp_block ?_
  refine Qa0 (fun (s2:Nat)=>[(4,.int .i64 ((i:Nat):Int)),(12,.int .i64 ((i:Nat):Int)),(20,.slice (some ⟨g2,0+(4*i),none⟩) (((4*i)+4)-(4*i)) (64-(4*i))),(21,.int .i64 ((((4*i)+4)-(4*i):Nat):Int)),(22,.int .i64 ((s2:Nat):Int)),(1,.pointer (some ⟨g2,0,none⟩)),(2,.pointer (some ⟨g3,0,none⟩)),(3,.pointer (some ⟨g5,0,none⟩))]) (fun (s2:Nat) W=>(s2≤4)∧(W.heap[g5]? = some (.cells (ints .u32 ((fill ((w64 b).map wv) 64 i).set i (wv (hor b i s2)))) 106))∧(Qa8 [g5] V1 W)∧(Ext w W)) (fun (s2:Nat)=>4-s2) 0 ⟨rfl,rfl,rfl,rfl,rfl,rfl,rfl,rfl,trivial⟩ ⟨(Nat.zero_le _),(Qba q5_1 (Qim hl64 (by omega))),(Qa8.refl [g5] V1),xx1⟩ fun s2 X2 V2 hI2=>?_
  obtain ⟨j,hs2⟩:∃ z,z=s2:=⟨_,rfl⟩
  subst hs2
  obtain ⟨hj,q5_2,kk2,xx2⟩:=hI2
  replace hj:j≤4:=hj
  replace q5_2:V2.heap[g5]? = some (.cells (ints .u32 ((fill ((w64 b).map wv) 64 i).set i (wv (hor b i j)))) 106):=q5_2
  replace kk2:Qa8 [g5] V1 V2:=kk2
  replace xx2:Ext w V2:=xx2
  have q5:=kk2
  refine wp_seq_k fun K14 hK14=>?_
  refine Qab ?_
  refine Qaa (.bool (decide (((j:Nat):Int)<((((4*i)+4)-(4*i):Nat):Int)))) 23 rfl kj kj ?_
  refine Qaf ?_
  refine hK14 _ _ ?_
  refine wp_seq_k fun K15 hK15=>?_
  refine Qar (t:=decide (((j:Nat):Int)<((((4*i)+4)-(4*i):Nat):Int))) kj (fun c16=>?_) (fun c16=>?_)
  ·skip
   have hlt23:j<4:=by have:=of_decide_eq_true c16; omega
   refine wp_skip ?_
   refine hK15 _ _ ?_
   refine wp_seq_k fun K17 hK17=>?_
   refine wp_block ?_
   refine wp_seq_k fun K18 hK18=>?_
   refine Qab ?_
   refine Qaa (.pointer (some ⟨g2,0+(4*i)+j,none⟩)) 24 rfl kj (Qdv 59 _ _ .i64 j g2 (0+(4*i)) (((4*i)+4)-(4*i)) (64-(4*i)) 5 rfl kj kj kj kj (by omega)) ?_
   have r2_2:=(Qah r2_1 e2)
   have r2_3:=(Qah r2_2 e3)
   have r2_4:=(Qa8.row q4 r2_3 (Qbz (Qay r2_2 l5) Qb9))
   have r2_5:=(Qa8.row q5 r2_4 (Qbz (Qay r2_2 l5) Qb9))
   refine Qaa (.int .u8 (nth b (4*i+j))) 25 rfl kj (Qag 5 _ g2 (0+(4*i)+j) 97 _ (.int .u8 (nth b (4*i+j))) _ r2_5 rfl kj ((QaU _ _ _ (Nat.lt_of_lt_of_eq (by omega) hbl.symm)).trans (congrArg (fun z=>some (Value.int .u8 z)) (by rw [Nat.zero_add]))) kj) ?_
   refine Qaa (.int .u8 (nth b (4*i+j))) 6 rfl kj kj ?_
   refine Qaf ?_
   refine hK18 _ _ ?_
   refine Qab ?_
   refine Qaa (.int .i64 ((i:Nat):Int)) 26 rfl kj kj ?_
   refine Qaa (.int .i64 ((i:Nat):Int)) 27 rfl kj kj ?_
   refine Qaa (.pointer (some ⟨g5,i,none⟩)) 28 rfl kj (QaR _ _ _ .i64 (i) _ 64 76 rfl kj kj kj kj (by omega)) ?_
   refine Qaa (.int .u32 (wv (hor b i j))) 29 rfl kj (Qag 76 _ g5 i 106 _ (.int .u32 (wv (hor b i j))) _ q5_2 rfl kj ((QaU _ _ _ (Nat.lt_of_lt_of_eq (by omega) ((List.length_set ..).trans (Qbx hl64 (by omega))).symm)).trans (congrArg (fun z=>some (Value.int .u32 z)) (Qf7 (by rw [Qbx hl64 (by omega)]; omega)))) kj) ?_
   refine Qaa (.int .u32 (wv (hor b i j<<<8))) 30 rfl kj (Qbf .shl _ _ _ _ .u32 .u64 _ _ _ rfl kj kj (Qiw _ _ _ _ _ _ (by decide) (QjW _ _ 8 rfl (by decide)))) ?_
   refine Qaa (.int .u8 (nth b (4*i+j))) 31 rfl kj kj ?_
   refine Qaa (.int .u32 (wv (BitVec.ofInt 32 (nth b (4*i+j))))) 32 rfl kj (Qai (u:=.int .u32 (IntKind.u32.wrap (nth b (4*i+j)))) kj (congrArg (Value.int .u32) (QmC hbb _))) ?_
   refine Qaa (.int .u32 (wv (((hor b i j<<<8))|||((BitVec.ofInt 32 (nth b (4*i+j))))))) 33 rfl kj (Qai (u:=.int .u32 (bits .or .u32 (wv (hor b i j<<<8)) (wv (BitVec.ofInt 32 (nth b (4*i+j)))))) kj (congrArg (Value.int .u32) (w_or _ _))) ?_
   refine Qaa (.pointer (some ⟨g5,i,none⟩)) 34 rfl kj (QaR _ _ _ .i64 (i) _ 64 76 rfl kj kj kj kj (by omega)) ?_
   refine Qau g5 _ (ints .u32 (((fill ((w64 b).map wv) 64 i).set i (wv (hor b i j))).set i (wv (((hor b i j<<<8))|||((BitVec.ofInt 32 (nth b (4*i+j)))))))) 106 q5_2 rfl kj (Qbe 76 _ _ g5 i 106 _ _ q5_2 rfl kj kj kj (Nat.lt_of_lt_of_eq (by omega) ((List.length_set ..).trans (Qbx hl64 (by omega))).symm)) fun W6 p6 r5_6=>?_
   have x6:Ext w W6:=Puts.ext p6 xx2 b5
   refine Qaf ?_
   refine hK17 _ _ ?_
   refine Qab ?_
   refine Qaa (.int .i64 ((j+1:Nat):Int)) 35 rfl kj (Qai (u:=.int .i64 (IntKind.i64.wrap (((j:Nat):Int)+1))) kj (congrArg (Value.int .i64) (i64n _ _ (by omega) (by omega)))) ?_
   refine Qaa (.int .i64 ((j+1:Nat):Int)) 22 rfl kj kj ?_
   refine Qaf ?_
   repeat (first | with_reducible refine goX1 ?_ | with_reducible refine goX2 ?_ | with_reducible refine goX3 ?_)
   exact Qat (j+1) ⟨rfl,rfl,rfl,rfl,rfl,rfl,rfl,rfl,trivial⟩ ⟨(by omega),(Qba r5_6 (by rw [List.set_set]; exact congrArg (fun z=>(fill ((w64 b).map wv) 64 i).set i (wv z)) (Qjn hbb i j))),(Qa8.puts q5 p6 (.inl (by simp))),x6⟩ (by omega)
  ·skip
   have heq23:j=4:=by have:=of_decide_eq_false c16; omega
   refine wp_exit ?_
   refine hK11 _ _ ?_
   refine Qab ?_
   refine Qaa (.int .i64 ((i+1:Nat):Int)) 36 rfl kj (Qai (u:=.int .i64 (IntKind.i64.wrap (((i:Nat):Int)+1))) kj (congrArg (Value.int .i64) (i64n _ _ (by omega) (by omega)))) ?_
   refine Qaa (.int .i64 ((i+1:Nat):Int)) 12 rfl kj kj ?_
   refine Qaf ?_
   repeat (first | with_reducible refine goX1 ?_ | with_reducible refine goX2 ?_ | with_reducible refine goX3 ?_)
   exact Qat (i+1) ⟨rfl,rfl,rfl,rfl,trivial⟩ ⟨(by omega),(Qba q5_2 (by rw [heq23]; exact Qil hl64 hlt13 hbb)),(Qa8.keeps q4 q5 (Qek (.inl (by simp)) Qf5)),xx2⟩ (by omega)
 ·skip
  have heq13:i=16:=by have:=of_decide_eq_false c10; omega
  refine wp_exit ?_
  refine hK6 _ _ ?_
  refine wp_seq_k fun K19 hK19=>?_
  refine wp_seq_k fun K20 hK20=>?_
  refine Qab ?_
  refine Qaa (.int .i64 16) 7 rfl kj kj ?_
  refine Qaf ?_
  refine hK20 _ _ ?_
  refine wp_block ?_
  refine Qa0 (fun (s3:Nat)=>[(7,.int .i64 ((s3:Nat):Int)),(1,.pointer (some ⟨g2,0,none⟩)),(2,.pointer (some ⟨g3,0,none⟩)),(3,.pointer (some ⟨g5,0,none⟩))]) (fun (s3:Nat) W=>(16≤s3)∧(s3≤64)∧(W.heap[g5]? = some (.cells (ints .u32 (fill ((w64 b).map wv) 64 s3)) 106))∧(Qa8 [g5] V1 W)∧(Ext w W)) (fun (s3:Nat)=>64-s3) 16 ⟨rfl,rfl,rfl,rfl,trivial⟩ ⟨(qR _),(by omega),(Qba q5_1 (by rw [heq13])),(Qa8.refl [g5] V1),xx1⟩ fun s3 X3 V3 hI3=>?_
  obtain ⟨i,hs3⟩:∃ z,z=s3:=⟨_,rfl⟩
  subst hs3
  obtain ⟨h16,hi,q5_3,kk3,xx3⟩:=hI3
  replace h16:16≤i:=h16
  replace hi:i≤64:=hi
  replace q5_3:V3.heap[g5]? = some (.cells (ints .u32 (fill ((w64 b).map wv) 64 i)) 106):=q5_3
  replace kk3:Qa8 [g5] V1 V3:=kk3
  replace xx3:Ext w V3:=xx3
  have q5:=kk3
  refine wp_seq_k fun K21 hK21=>?_
  refine wp_seq_k fun K22 hK22=>?_
  refine Qab ?_
  refine Qaa (.int .i64 ((i:Nat):Int)) 37 rfl kj kj ?_
  refine Qaa (.bool (decide (((i:Nat):Int)<64))) 38 rfl kj kj ?_
  refine Qaf ?_
  refine hK22 _ _ ?_
  refine Qar (t:=decide (((i:Nat):Int)<64)) kj (fun c23=>?_) (fun c23=>?_)
  ·skip
   have hlt38:i<64:=by have:=of_decide_eq_true c23; omega
   refine wp_skip ?_
   refine hK21 _ _ ?_
   refine wp_seq_k fun K24 hK24=>?_
   refine wp_block ?_
   refine wp_seq_k fun K25 hK25=>?_
   refine QcM 9 [⟨none,[(7,none)]⟩,⟨none,[(41,some 0)]⟩,⟨none,[(3,none),(42,some 1)]⟩,⟨none,[(43,some 2)]⟩,⟨none,[(7,none)]⟩,⟨none,[(45,some 4)]⟩,⟨none,[(3,none),(46,some 5)]⟩,⟨none,[(47,some 6)]⟩,⟨none,[(44,some 3)]⟩] kj kj fun F hF=>?_
   refine QaC (.int .i64 ((i:Nat):Int)) kj kj (fun W=>by kernel_rfl) ?_
   refine QaC (.int .i64 ((i-2:Nat):Int)) kj kj (fun W=>(Qai (u:=.int .i64 (IntKind.i64.wrap (((i:Nat):Int)-2))) kj (congrArg (Value.int .i64) (i64n _ _ (by omega) (by omega))))) ?_
   refine QaC (.pointer (some ⟨g5,i-2,none⟩)) kj kj (fun W=>(QaR _ _ _ .i64 (i-2) _ 64 76 rfl kj kj kj kj (by omega))) ?_
   refine Qby (.int .u32 (wv (wget (w64 b) (i-2)))) kj kj (fun W hR=>(Qag 76 _ g5 (i-2) 106 _ (.int .u32 (wv (wget (w64 b) (i-2)))) _ (Qah (Qah q5_3 (Qax _)) hR) rfl kj ((QaU _ _ _ (Nat.lt_of_lt_of_eq (by omega) (Qbx (show ((w64 b).map wv).length=64 by rw [List.length_map,QbC]) (by omega)).symm)).trans (congrArg (fun z=>some (Value.int .u32 z)) ((QdT hl64 (by omega) (by omega)).trans (QbG _ _)))) kj)) ?_
   refine QaC (.int .i64 ((i:Nat):Int)) kj kj (fun W=>by kernel_rfl) ?_
   refine QaC (.int .i64 ((i-15:Nat):Int)) kj kj (fun W=>(Qai (u:=.int .i64 (IntKind.i64.wrap (((i:Nat):Int)-15))) kj (congrArg (Value.int .i64) (i64n _ _ (by omega) (by omega))))) ?_
   refine QaC (.pointer (some ⟨g5,i-15,none⟩)) kj kj (fun W=>(QaR _ _ _ .i64 (i-15) _ 64 76 rfl kj kj kj kj (by omega))) ?_
   refine Qby (.int .u32 (wv (wget (w64 b) (i-15)))) kj kj (fun W hR=>(Qag 76 _ g5 (i-15) 106 _ (.int .u32 (wv (wget (w64 b) (i-15)))) _ (Qah (Qah q5_3 (Qax _)) hR) rfl kj ((QaU _ _ _ (Nat.lt_of_lt_of_eq (by omega) (Qbx (show ((w64 b).map wv).length=64 by rw [List.length_map,QbC]) (by omega)).symm)).trans (congrArg (fun z=>some (Value.int .u32 z)) ((QdT hl64 (by omega) (by omega)).trans (QbG _ _)))) kj)) ?_
   refine QaC (.int .u32 (wv (wget (w64 b) (i-2)))) kj kj (fun W=>by kernel_rfl) ?_
   refine Qdf (hF _ kj fun W6 e6=>?_)
   simp only [ups,up,Kn.val,List.take_succ_cons,List.take_zero,List.drop_succ_cons,List.drop_zero,List.nil_append,List.cons_append]
   clear hF
   have x6:Ext w W6:=Ext.tr xx3 e6
   refine Qaa (.int .u32 (wv (wget (w64 b) (i-15)))) 9 rfl kj kj ?_
   refine Qaf ?_
   refine hK25 _ _ ?_
   refine wp_seq_k fun K26 hK26=>?_
   refine Qab ?_
   refine Qaa (.int .u32 (wv (wget (w64 b) (i-2)))) 49 rfl kj kj ?_
   refine Qal (.int .u32 (wv (rr (wget (w64 b) (i-2)) 17))) 83 #[.int .u32 (wv (wget (w64 b) (i-2))),.int .i64 (-17)] 50 rfl kj kj ((rotC (wget (w64 b) (i-2)) 17 (-17) (by decide) (by decide) (by decide)) _) fun W7 e7=>?_
   have x7:Ext w W7:=Ext.tr x6 e7
   refine Qaa (.int .u32 (wv (wget (w64 b) (i-2)))) 51 rfl kj kj ?_
   refine Qal (.int .u32 (wv (rr (wget (w64 b) (i-2)) 19))) 83 #[.int .u32 (wv (wget (w64 b) (i-2))),.int .i64 (-19)] 52 rfl kj kj ((rotC (wget (w64 b) (i-2)) 19 (-19) (by decide) (by decide) (by decide)) _) fun W8 e8=>?_
   have x8:Ext w W8:=Ext.tr x7 e8
   refine Qaa (.int .u32 (wv (((rr (wget (w64 b) (i-2)) 17))^^^((rr (wget (w64 b) (i-2)) 19))))) 53 rfl kj (Qai (u:=.int .u32 (bits .xor .u32 (wv (rr (wget (w64 b) (i-2)) 17)) (wv (rr (wget (w64 b) (i-2)) 19)))) kj (congrArg (Value.int .u32) (w_xor _ _))) ?_
   refine Qaa (.int .u32 (wv (wget (w64 b) (i-2)))) 54 rfl kj kj ?_
   refine Qaa (.int .u32 (wv (((wget (w64 b) (i-2)))>>>10))) 55 rfl kj (Qbf .shr _ _ _ _ .u32 .u64 _ _ _ rfl kj kj (QcN _ _ _ _ _ _ (by decide) (Qfs _ _ 10 rfl (by decide)))) ?_
   refine Qaa (.int .u32 (wv (((((rr (wget (w64 b) (i-2)) 17))^^^((rr (wget (w64 b) (i-2)) 19))))^^^((((wget (w64 b) (i-2)))>>>10))))) 56 rfl kj (Qai (u:=.int .u32 (bits .xor .u32 (wv (((rr (wget (w64 b) (i-2)) 17))^^^((rr (wget (w64 b) (i-2)) 19)))) (wv (((wget (w64 b) (i-2)))>>>10)))) kj (congrArg (Value.int .u32) (w_xor _ _))) ?_
   refine Qaa (.int .u32 (wv (((((rr (wget (w64 b) (i-2)) 17))^^^((rr (wget (w64 b) (i-2)) 19))))^^^((((wget (w64 b) (i-2)))>>>10))))) 10 rfl kj kj ?_
   refine Qaf ?_
   refine hK26 _ _ ?_
   refine wp_seq_k fun K27 hK27=>?_
   refine Qab ?_
   refine Qaa (.int .u32 (wv (wget (w64 b) (i-15)))) 57 rfl kj kj ?_
   refine Qal (.int .u32 (wv (rr (wget (w64 b) (i-15)) 7))) 83 #[.int .u32 (wv (wget (w64 b) (i-15))),.int .i64 (-7)] 58 rfl kj kj ((rotC (wget (w64 b) (i-15)) 7 (-7) (by decide) (by decide) (by decide)) _) fun W9 e9=>?_
   have x9:Ext w W9:=Ext.tr x8 e9
   refine Qaa (.int .u32 (wv (wget (w64 b) (i-15)))) 59 rfl kj kj ?_
   refine Qal (.int .u32 (wv (rr (wget (w64 b) (i-15)) 18))) 83 #[.int .u32 (wv (wget (w64 b) (i-15))),.int .i64 (-18)] 60 rfl kj kj ((rotC (wget (w64 b) (i-15)) 18 (-18) (by decide) (by decide) (by decide)) _) fun W10 e10=>?_
   have x10:Ext w W10:=Ext.tr x9 e10
   refine Qaa (.int .u32 (wv (((rr (wget (w64 b) (i-15)) 7))^^^((rr (wget (w64 b) (i-15)) 18))))) 61 rfl kj (Qai (u:=.int .u32 (bits .xor .u32 (wv (rr (wget (w64 b) (i-15)) 7)) (wv (rr (wget (w64 b) (i-15)) 18)))) kj (congrArg (Value.int .u32) (w_xor _ _))) ?_
   refine Qaa (.int .u32 (wv (wget (w64 b) (i-15)))) 62 rfl kj kj ?_
   refine Qaa (.int .u32 (wv (((wget (w64 b) (i-15)))>>>3))) 63 rfl kj (Qbf .shr _ _ _ _ .u32 .u64 _ _ _ rfl kj kj (QcN _ _ _ _ _ _ (by decide) (Qfs _ _ 3 rfl (by decide)))) ?_
   refine Qaa (.int .u32 (wv (((((rr (wget (w64 b) (i-15)) 7))^^^((rr (wget (w64 b) (i-15)) 18))))^^^((((wget (w64 b) (i-15)))>>>3))))) 64 rfl kj (Qai (u:=.int .u32 (bits .xor .u32 (wv (((rr (wget (w64 b) (i-15)) 7))^^^((rr (wget (w64 b) (i-15)) 18)))) (wv (((wget (w64 b) (i-15)))>>>3)))) kj (congrArg (Value.int .u32) (w_xor _ _))) ?_
   refine Qaa (.int .u32 (wv (((((rr (wget (w64 b) (i-15)) 7))^^^((rr (wget (w64 b) (i-15)) 18))))^^^((((wget (w64 b) (i-15)))>>>3))))) 11 rfl kj kj ?_
   refine Qaf ?_
   refine hK27 _ _ ?_
   refine QcM 15 [⟨none,[(7,none)]⟩,⟨none,[(10,none)]⟩,⟨none,[(7,none)]⟩,⟨none,[(67,some 2)]⟩,⟨none,[(3,none),(68,some 3)]⟩,⟨none,[(69,some 4)]⟩,⟨none,[(66,some 1),(70,some 5)]⟩,⟨none,[(11,none)]⟩,⟨none,[(71,some 6),(72,some 7)]⟩,⟨none,[(7,none)]⟩,⟨none,[(74,some 9)]⟩,⟨none,[(3,none),(75,some 10)]⟩,⟨none,[(76,some 11)]⟩,⟨none,[(73,some 8),(77,some 12)]⟩,⟨none,[(3,none),(65,some 0)]⟩] kj kj fun F hF=>?_
   refine QaC (.int .i64 ((i:Nat):Int)) kj kj (fun W=>by kernel_rfl) ?_
   refine QaC (.int .u32 (wv (((((rr (wget (w64 b) (i-2)) 17))^^^((rr (wget (w64 b) (i-2)) 19))))^^^((((wget (w64 b) (i-2)))>>>10))))) kj kj (fun W=>by kernel_rfl) ?_
   refine QaC (.int .i64 ((i:Nat):Int)) kj kj (fun W=>by kernel_rfl) ?_
   refine QaC (.int .i64 ((i-7:Nat):Int)) kj kj (fun W=>(Qai (u:=.int .i64 (IntKind.i64.wrap (((i:Nat):Int)-7))) kj (congrArg (Value.int .i64) (i64n _ _ (by omega) (by omega))))) ?_
   refine QaC (.pointer (some ⟨g5,i-7,none⟩)) kj kj (fun W=>(QaR _ _ _ .i64 (i-7) _ 64 76 rfl kj kj kj kj (by omega))) ?_
   have r5_6:=(Qah q5_3 e6)
   have r5_7:=(Qah r5_6 e7)
   have r5_8:=(Qah r5_7 e8)
   have r5_9:=(Qah r5_8 e9)
   have r5_10:=(Qah r5_9 e10)
   refine Qby (.int .u32 (wv (wget (w64 b) (i-7)))) kj kj (fun W hR=>(Qag 76 _ g5 (i-7) 106 _ (.int .u32 (wv (wget (w64 b) (i-7)))) _ (Qah (Qah r5_10 (Qax _)) hR) rfl kj ((QaU _ _ _ (Nat.lt_of_lt_of_eq (by omega) (Qbx (show ((w64 b).map wv).length=64 by rw [List.length_map,QbC]) (by omega)).symm)).trans (congrArg (fun z=>some (Value.int .u32 z)) ((QdT hl64 (by omega) (by omega)).trans (QbG _ _)))) kj)) ?_
   refine QaC (.int .u32 (wv (((((((rr (wget (w64 b) (i-2)) 17))^^^((rr (wget (w64 b) (i-2)) 19))))^^^((((wget (w64 b) (i-2)))>>>10))))+((wget (w64 b) (i-7)))))) kj kj (fun W=>(Qai (u:=.int .u32 (IntKind.u32.wrap (wv (((((rr (wget (w64 b) (i-2)) 17))^^^((rr (wget (w64 b) (i-2)) 19))))^^^((((wget (w64 b) (i-2)))>>>10)))+wv (wget (w64 b) (i-7))))) kj (congrArg (Value.int .u32) (QbT _ _)))) ?_
   refine QaC (.int .u32 (wv (((((rr (wget (w64 b) (i-15)) 7))^^^((rr (wget (w64 b) (i-15)) 18))))^^^((((wget (w64 b) (i-15)))>>>3))))) kj kj (fun W=>by kernel_rfl) ?_
   refine QaC (.int .u32 (wv (((((((((rr (wget (w64 b) (i-2)) 17))^^^((rr (wget (w64 b) (i-2)) 19))))^^^((((wget (w64 b) (i-2)))>>>10))))+((wget (w64 b) (i-7)))))+((((((rr (wget (w64 b) (i-15)) 7))^^^((rr (wget (w64 b) (i-15)) 18))))^^^((((wget (w64 b) (i-15)))>>>3))))))) kj kj (fun W=>(Qai (u:=.int .u32 (IntKind.u32.wrap (wv (((((((rr (wget (w64 b) (i-2)) 17))^^^((rr (wget (w64 b) (i-2)) 19))))^^^((((wget (w64 b) (i-2)))>>>10))))+((wget (w64 b) (i-7))))+wv (((((rr (wget (w64 b) (i-15)) 7))^^^((rr (wget (w64 b) (i-15)) 18))))^^^((((wget (w64 b) (i-15)))>>>3)))))) kj (congrArg (Value.int .u32) (QbT _ _)))) ?_
   refine QaC (.int .i64 ((i:Nat):Int)) kj kj (fun W=>by kernel_rfl) ?_
   refine QaC (.int .i64 ((i-16:Nat):Int)) kj kj (fun W=>(Qai (u:=.int .i64 (IntKind.i64.wrap (((i:Nat):Int)-16))) kj (congrArg (Value.int .i64) (i64n _ _ (by omega) (by omega))))) ?_
   refine QaC (.pointer (some ⟨g5,i-16,none⟩)) kj kj (fun W=>(QaR _ _ _ .i64 (i-16) _ 64 76 rfl kj kj kj kj (by omega))) ?_
   refine Qby (.int .u32 (wv (wget (w64 b) (i-16)))) kj kj (fun W hR=>(Qag 76 _ g5 (i-16) 106 _ (.int .u32 (wv (wget (w64 b) (i-16)))) _ (Qah (Qah r5_10 (Qax _)) hR) rfl kj ((QaU _ _ _ (Nat.lt_of_lt_of_eq (by omega) (Qbx (show ((w64 b).map wv).length=64 by rw [List.length_map,QbC]) (by omega)).symm)).trans (congrArg (fun z=>some (Value.int .u32 z)) ((QdT hl64 (by omega) (by omega)).trans (QbG _ _)))) kj)) ?_
   refine QaC (.int .u32 (wv (((((((((((rr (wget (w64 b) (i-2)) 17))^^^((rr (wget (w64 b) (i-2)) 19))))^^^((((wget (w64 b) (i-2)))>>>10))))+((wget (w64 b) (i-7)))))+((((((rr (wget (w64 b) (i-15)) 7))^^^((rr (wget (w64 b) (i-15)) 18))))^^^((((wget (w64 b) (i-15)))>>>3))))))+((wget (w64 b) (i-16)))))) kj kj (fun W=>(Qai (u:=.int .u32 (IntKind.u32.wrap (wv (((((((((rr (wget (w64 b) (i-2)) 17))^^^((rr (wget (w64 b) (i-2)) 19))))^^^((((wget (w64 b) (i-2)))>>>10))))+((wget (w64 b) (i-7)))))+((((((rr (wget (w64 b) (i-15)) 7))^^^((rr (wget (w64 b) (i-15)) 18))))^^^((((wget (w64 b) (i-15)))>>>3)))))+wv (wget (w64 b) (i-16))))) kj (congrArg (Value.int .u32) (QbT _ _)))) ?_
   refine QaC (.pointer (some ⟨g5,i,none⟩)) kj kj (fun W=>(QaR _ _ _ .i64 (i) _ 64 76 rfl kj kj kj kj (by omega))) ?_
   refine Qdf (hF _ kj fun W11 e11=>?_)
   simp only [ups,up,Kn.val,List.take_succ_cons,List.take_zero,List.drop_succ_cons,List.drop_zero,List.nil_append,List.cons_append]
   clear hF
   have x11:Ext w W11:=Ext.tr x10 e11
   have r5_11:=(Qah r5_10 e11)
   refine Qau g5 _ (ints .u32 ((fill ((w64 b).map wv) 64 i).set i (wv (((((((((((rr (wget (w64 b) (i-2)) 17))^^^((rr (wget (w64 b) (i-2)) 19))))^^^((((wget (w64 b) (i-2)))>>>10))))+((wget (w64 b) (i-7)))))+((((((rr (wget (w64 b) (i-15)) 7))^^^((rr (wget (w64 b) (i-15)) 18))))^^^((((wget (w64 b) (i-15)))>>>3))))))+((wget (w64 b) (i-16))))))) 106 r5_11 rfl kj (Qbe 76 _ _ g5 i 106 _ _ r5_11 rfl kj kj kj (Nat.lt_of_lt_of_eq (by omega) (Qbx (show ((w64 b).map wv).length=64 by rw [List.length_map,QbC]) (by omega)).symm)) fun W12 p12 r5_12=>?_
   have x12:Ext w W12:=Puts.ext p12 x11 b5
   refine Qaf ?_
   refine hK24 _ _ ?_
   refine Qab ?_
   refine Qaa (.int .i64 ((i:Nat):Int)) 39 rfl kj kj ?_
   refine Qaa (.int .i64 ((i+1:Nat):Int)) 40 rfl kj (Qai (u:=.int .i64 (IntKind.i64.wrap (((i:Nat):Int)+1))) kj (congrArg (Value.int .i64) (i64n _ _ (by omega) (by omega)))) ?_
   refine Qaa (.int .i64 ((i+1:Nat):Int)) 7 rfl kj kj ?_
   refine Qaf ?_
   repeat (first | with_reducible refine goX1 ?_ | with_reducible refine goX2 ?_ | with_reducible refine goX3 ?_)
   exact Qat (i+1) ⟨rfl,rfl,rfl,rfl,trivial⟩ ⟨(by omega),(by omega),(Qba r5_12 (by rw [←QcJ hl64 hlt38,QbG,Qgk b i h16 hlt38]; rfl)),(Qa8.puts (Qa8.step (Qa8.step (Qa8.step (Qa8.step (Qa8.step (Qa8.step q5 e6) e7) e8) e9) e10) e11) p12 (.inl (by simp))),x12⟩ (by omega)
  ·skip
   have heq38:i=64:=by have:=of_decide_eq_false c23; omega
   have r5_5_28:V3.heap[g5]? = some (.cells (ints .u32 ((w64 b).map wv)) 106):=Qba q5_3 (by rw [heq38]; exact Qdp hl64)
   refine wp_exit ?_
   refine hK19 _ _ ?_
   refine wp_seq_k fun K29 hK29=>?_
   refine Qab ?_
   refine Qaa (.agg (ints .u32 ((w64 b).map wv))) 80 rfl kj (Qa4 106 _ g5 106 _ _ r5_5_28 rfl kj kj (isz (n:=64) kj ((Qae _ _).trans hl64))) ?_
   have r3_3:=(Qah r3_2 e3)
   have r3_4:=(Qa8.row q4 r3_3 (Qbz (Qay r3_2 l5) Qb9))
   have r3_5:=(Qa8.row q5 r3_4 (Qbz (Qay r3_2 l5) Qb9))
   refine Qau g3 _ (ints .u32 ((w64 b).map wv)) 106 r3_5 rfl kj (Qas 106 _ _ g3 106 _ _ r3_5 rfl kj kj (isz (n:=64) kj ((Qae _ _).trans hl64)) (eqsz (n:=64) ((Qae _ _).trans (qZ (n:=64))) ((Qae _ _).trans hl64)) (Qaw _ _)) fun W6 p6 r3_6=>?_
   have x6:Ext w W6:=Puts.ext p6 xx3 b3
   refine Qaf ?_
   refine hK29 _ _ ?_
   refine wp_ret ?_
   repeat (first | with_reducible refine goR1 ?_ | with_reducible refine goR2 ?_)
   exact (show bodyPost _ _ _ .ret _ _ from ret1 (.agg (ints .u32 ((w64 b).map wv))) rfl (Qb8 g3 106 _ r3_6 kj kj (isz (n:=64) kj ((Qae _ _).trans hl64))) ⟨rfl,x6⟩)
end Go.Proofs.YthfkppjajmjpnaaDoor.Sha
end
section
namespace Go.Proofs.YthfkppjajmjpnaaDoor.Sha
open Go Go.RowKit
open Rely Auto Own
def Qbk : List Int:=QjK.map Int.ofNat
def QaN : List Int:=[0x6a09e667f3bcc908,0xbb67ae8584caa73b,0x3c6ef372fe94f82b,0xa54ff53a5f1d36f1,0x510e527fade682d1,0x9b05688c2b3e6c1f,0x1f83d9abfb41bd6b,0x5be0cd19137e2179]
theorem QjL (i : Nat) (h:i<64):IntKind.u32.wrap (nth Qbk i/4294967296)=wv (wget KK i):=by
  have:∀ i:Fin 64,IntKind.u32.wrap (nth Qbk i.1/4294967296)=wv (wget KK i.1):=by decide +kernel
  exact this ⟨i,h⟩
theorem QlF (n : Int):n.fdiv (2^min (32:Int).toNat IntKind.u64.bits)=n/4294967296:=Int.fdiv_eq_ediv_of_nonneg n (by decide)
def mixW (p q:List Wd) (i:Nat):List Wd:=(List.zipWith (· + ·) p q).take i++p.drop i
theorem Qfb (s r:S8) {i:Nat} (hi:i≤8):((mixW s.l r.l i).map wv).length=8:=by
  rcases (show i=0∨i=1∨i=2∨i=3∨i=4∨i=5∨i=6∨i=7∨i=8 by omega) with rfl | rfl | rfl | rfl | rfl | rfl | rfl | rfl | rfl <;> rfl
theorem QhT (s r:S8) {i:Nat} (hi:i<8):nth ((mixW s.l r.l i).map wv) i=wv (wget s.l i):=by
  rcases (show i=0∨i=1∨i=2∨i=3∨i=4∨i=5∨i=6∨i=7 by omega) with rfl | rfl | rfl | rfl | rfl | rfl | rfl | rfl <;> rfl
theorem QhS (s r:S8) {i:Nat} (hi:i<8):((mixW s.l r.l i).map wv).set i (wv (wget s.l i+wget r.l i))=(mixW s.l r.l (i+1)).map wv:=by
  rcases (show i=0∨i=1∨i=2∨i=3∨i=4∨i=5∨i=6∨i=7 by omega) with rfl | rfl | rfl | rfl | rfl | rfl | rfl | rfl <;> rfl
theorem Qmx (g : Nat) (s:S8) (b:List Int) (hbl:b.length=64) (hbb:Qav b) (m:Int) (tc:TypeId) (w:World) (hc:w.heap[2]? = some (.cells (ints .u64 Qbk) tc)) (hg:w.heap[g]? = some (.cells (cat [ints .u32 ([wv s.a,wv s.b,wv s.c,wv s.d,wv s.e,wv s.f,wv s.g,wv s.h]),ints .u8 (b),#[.int .i64 m]]) 99)) :
  Calls Tryd.prog 76 #[.pointer (some ⟨g,0,none⟩)] w (fun e W=>e=.returned (.tuple #[])∧ExtB g w W∧W.heap[g]? = some (.cells (cat [ints .u32 ((blk s b).l.map wv),ints .u8 b,#[.int .i64 m]]) 99)):=by
 have hl64:((w64 b).map wv).length=64:=by rw [List.length_map,QbC]
 refine enter 137 [(0,.pointer (some ⟨g,0,none⟩))] Tryd.func76 rfl rfl kj rfl ?_
 refine wp_seq_k fun K3 hK3=>?_
 refine Qab ?_
 refine Qaa (.pointer (some ⟨g,0,none⟩)) 20 rfl kj kj ?_
 refine Qaa (.pointer (some ⟨g,0,none⟩)) 21 rfl kj kj ?_
 refine Qaa (.pointer (some ⟨g,8,none⟩)) 22 rfl kj kj ?_
 refine Qaa (.agg (ints .u8 (b))) 23 rfl kj (Qao 97 _ g 8 99 _ _ _ hg rfl kj (Qaj [ints .u32 ([wv s.a,wv s.b,wv s.c,wv s.d,wv s.e,wv s.f,wv s.g,wv s.h])] [ints .u8 (b)] [#[.int .i64 m]] 8 kj) kj (isz (n:=64) kj ((Qae _ _).trans hbl))) ?_
 refine Qal (.agg (ints .u32 ((w64 b).map wv))) 82 #[.agg (ints .u8 (b))] 24 rfl kj kj ((Qki b hbl hbb) _) fun W1 e1=>?_
 have x1:ExtB g w W1:=ExtB.ext (ExtB.refl g w) e1
 refine Qan (ints .u32 (List.replicate 64 0)) 106 2 rfl kj kj fun g4 W2 l4 e2 r4_2=>?_
 have x2:ExtB g w W2:=ExtB.ext x1 e2
 have b4:w.heap.size≤g4:=qT x1.size l4
 refine Qau g4 _ (ints .u32 ((w64 b).map wv)) 106 r4_2 rfl kj (Qas 106 _ _ g4 106 _ _ r4_2 rfl kj kj (isz (n:=64) kj ((Qae _ _).trans hl64)) (eqsz (n:=64) ((Qae _ _).trans (qZ (n:=64))) ((Qae _ _).trans hl64)) (Qaw _ _)) fun W3 p3 r4_3=>?_
 have x3:ExtB g w W3:=ExtB.putsN x2 p3 b4
 refine Qaf ?_
 refine hK3 _ _ ?_
 refine wp_seq_k fun K5 hK5=>?_
 refine Qab ?_
 refine Qaa (.pointer (some ⟨g,0,none⟩)) 25 rfl kj kj ?_
 refine Qaa (.pointer (some ⟨g,0,none⟩)) 26 rfl kj kj ?_
 refine Qaa (.pointer (some ⟨g,0,none⟩)) 27 rfl kj kj ?_
 have r2_1:=(Qah hg e1)
 have r2_2:=(Qah r2_1 e2)
 have r2_3:=(Puts.row p3 r2_2 (Qay r2_1 l4))
 refine Qaa (.agg (ints .u32 ([wv s.a,wv s.b,wv s.c,wv s.d,wv s.e,wv s.f,wv s.g,wv s.h]))) 28 rfl kj (Qao 77 _ g 0 99 _ _ _ r2_3 rfl kj (Qaj [] [ints .u32 ([wv s.a,wv s.b,wv s.c,wv s.d,wv s.e,wv s.f,wv s.g,wv s.h])] [ints .u8 (b),#[.int .i64 m]] 0 kj) kj (isz (n:=8) kj kj)) ?_
 refine Qan (ints .u32 ([0,0,0,0,0,0,0,0])) 77 3 rfl kj kj fun g6 W4 l6 e4 r6_4=>?_
 have x4:ExtB g w W4:=ExtB.ext x3 e4
 have b6:w.heap.size≤g6:=qT x3.size l6
 refine Qau g6 _ (ints .u32 ([wv s.a,wv s.b,wv s.c,wv s.d,wv s.e,wv s.f,wv s.g,wv s.h])) 77 r6_4 rfl kj (Qas 77 _ _ g6 77 _ _ r6_4 rfl kj kj (isz (n:=8) kj kj) (eqsz (n:=8) kj kj) (Qaw _ _)) fun W5 p5 r6_5=>?_
 have x5:ExtB g w W5:=ExtB.putsN x4 p5 b6
 refine Qaf ?_
 refine hK5 _ _ ?_
 refine wp_seq_k fun K7 hK7=>?_
 refine QcM 23 [⟨none,[(3,none)]⟩,⟨none,[(29,some 0)]⟩,⟨none,[(3,none)]⟩,⟨none,[(31,some 2)]⟩,⟨none,[(3,none)]⟩,⟨none,[(33,some 4)]⟩,⟨none,[(3,none)]⟩,⟨none,[(35,some 6)]⟩,⟨none,[(3,none)]⟩,⟨none,[(37,some 8)]⟩,⟨none,[(3,none)]⟩,⟨none,[(39,some 10)]⟩,⟨none,[(3,none)]⟩,⟨none,[(41,some 12)]⟩,⟨none,[(3,none)]⟩,⟨none,[(43,some 14)]⟩,⟨none,[(30,some 1)]⟩,⟨none,[(32,some 3)]⟩,⟨none,[(34,some 5)]⟩,⟨none,[(36,some 7)]⟩,⟨none,[(38,some 9)]⟩,⟨none,[(40,some 11)]⟩,⟨none,[(42,some 13)]⟩] kj kj fun F hF=>?_
 refine QaC (.pointer (some ⟨g6,0,none⟩)) kj kj (fun W=>by kernel_rfl) ?_
 refine Qby (.int .u32 (wv s.a)) kj kj (fun W hR=>(Qag 76 _ g6 0 77 _ (.int .u32 (wv s.a)) _ (Qah (Qah r6_5 (Qax _)) hR) rfl kj kj kj)) ?_
 refine QaC (.pointer (some ⟨g6,1,none⟩)) kj kj (fun W=>by kernel_rfl) ?_
 refine Qby (.int .u32 (wv s.b)) kj kj (fun W hR=>(Qag 76 _ g6 1 77 _ (.int .u32 (wv s.b)) _ (Qah (Qah r6_5 (Qax _)) hR) rfl kj kj kj)) ?_
 refine QaC (.pointer (some ⟨g6,2,none⟩)) kj kj (fun W=>by kernel_rfl) ?_
 refine Qby (.int .u32 (wv s.c)) kj kj (fun W hR=>(Qag 76 _ g6 2 77 _ (.int .u32 (wv s.c)) _ (Qah (Qah r6_5 (Qax _)) hR) rfl kj kj kj)) ?_
 refine QaC (.pointer (some ⟨g6,3,none⟩)) kj kj (fun W=>by kernel_rfl) ?_
 refine Qby (.int .u32 (wv s.d)) kj kj (fun W hR=>(Qag 76 _ g6 3 77 _ (.int .u32 (wv s.d)) _ (Qah (Qah r6_5 (Qax _)) hR) rfl kj kj kj)) ?_
 refine QaC (.pointer (some ⟨g6,4,none⟩)) kj kj (fun W=>by kernel_rfl) ?_
 refine Qby (.int .u32 (wv s.e)) kj kj (fun W hR=>(Qag 76 _ g6 4 77 _ (.int .u32 (wv s.e)) _ (Qah (Qah r6_5 (Qax _)) hR) rfl kj kj kj)) ?_
 refine QaC (.pointer (some ⟨g6,5,none⟩)) kj kj (fun W=>by kernel_rfl) ?_
 refine Qby (.int .u32 (wv s.f)) kj kj (fun W hR=>(Qag 76 _ g6 5 77 _ (.int .u32 (wv s.f)) _ (Qah (Qah r6_5 (Qax _)) hR) rfl kj kj kj)) ?_
 refine QaC (.pointer (some ⟨g6,6,none⟩)) kj kj (fun W=>by kernel_rfl) ?_
 refine Qby (.int .u32 (wv s.g)) kj kj (fun W hR=>(Qag 76 _ g6 6 77 _ (.int .u32 (wv s.g)) _ (Qah (Qah r6_5 (Qax _)) hR) rfl kj kj kj)) ?_
 refine QaC (.pointer (some ⟨g6,7,none⟩)) kj kj (fun W=>by kernel_rfl) ?_
 refine Qby (.int .u32 (wv s.h)) kj kj (fun W hR=>(Qag 76 _ g6 7 77 _ (.int .u32 (wv s.h)) _ (Qah (Qah r6_5 (Qax _)) hR) rfl kj kj kj)) ?_
 refine QaC (.int .u32 (wv s.a)) kj kj (fun W=>by kernel_rfl) ?_
 refine QaC (.int .u32 (wv s.b)) kj kj (fun W=>by kernel_rfl) ?_
 refine QaC (.int .u32 (wv s.c)) kj kj (fun W=>by kernel_rfl) ?_
 refine QaC (.int .u32 (wv s.d)) kj kj (fun W=>by kernel_rfl) ?_
 refine QaC (.int .u32 (wv s.e)) kj kj (fun W=>by kernel_rfl) ?_
 refine QaC (.int .u32 (wv s.f)) kj kj (fun W=>by kernel_rfl) ?_
 refine QaC (.int .u32 (wv s.g)) kj kj (fun W=>by kernel_rfl) ?_
 refine Qdf (hF _ kj fun W6 e6=>?_)
 simp only [ups,up,Kn.val,List.take_succ_cons,List.take_zero,List.drop_succ_cons,List.drop_zero,List.nil_append,List.cons_append]
 clear hF
 have x6:ExtB g w W6:=ExtB.ext x5 e6
 refine Qaa (.int .u32 (wv s.h)) 11 rfl kj kj ?_
 refine Qaf ?_
 refine hK7 _ _ ?_
 refine wp_seq_k fun K8 hK8=>?_
 refine wp_seq_k fun K9 hK9=>?_
 refine Qab ?_
 have r4_4:=(Qah r4_3 e4)
 have r4_5:=(Puts.row p5 r4_4 (Qay r4_3 l6))
 have r4_6:=(Qah r4_5 e6)
 refine Qaa (.agg (ints .u32 ((w64 b).map wv))) 45 rfl kj (Qa4 106 _ g4 106 _ _ r4_6 rfl kj kj (isz (n:=64) kj ((Qae _ _).trans hl64))) ?_
 refine Qaa (.int .i64 0) 46 rfl kj kj ?_
 refine Qaf ?_
 refine hK9 _ _ ?_
 refine wp_block ?_
 refine Qa0 (fun (s1:Nat)=>[(0,.pointer (some ⟨g,0,none⟩)),(45,.agg (ints .u32 ((w64 b).map wv))),(46,.int .i64 ((s1:Nat):Int)),(4,.int .u32 (wv ((rnds KK (w64 b) s s1).a))),(5,.int .u32 (wv ((rnds KK (w64 b) s s1).b))),(6,.int .u32 (wv ((rnds KK (w64 b) s s1).c))),(7,.int .u32 (wv ((rnds KK (w64 b) s s1).d))),(8,.int .u32 (wv ((rnds KK (w64 b) s s1).e))),(9,.int .u32 (wv ((rnds KK (w64 b) s s1).f))),(10,.int .u32 (wv ((rnds KK (w64 b) s s1).g))),(11,.int .u32 (wv ((rnds KK (w64 b) s s1).h)))]) (fun (s1:Nat) W=>(s1≤64)∧(Ext W6 W)∧(ExtB g w W)) (fun (s1:Nat)=>64-s1) 0 ⟨rfl,rfl,rfl,rfl,rfl,rfl,rfl,rfl,rfl,rfl,rfl,trivial⟩ ⟨(Nat.zero_le _),(Rely.Ext.refl W6),x6⟩ fun s1 X1 V1 hI1=>?_
 obtain ⟨i,hs1⟩:∃ z,z=s1:=⟨_,rfl⟩
 subst hs1
 obtain ⟨hi,kk1,xx1⟩:=hI1
 replace hi:i≤64:=hi
 replace kk1:Ext W6 V1:=kk1
 replace xx1:ExtB g w V1:=xx1
 have e7:=kk1
 refine wp_seq_k fun K10 hK10=>?_
 refine Qab ?_
 refine Qaa (.bool (decide (((i:Nat):Int)<64))) 47 rfl kj kj ?_
 refine Qaf ?_
 refine hK10 _ _ ?_
 refine wp_seq_k fun K11 hK11=>?_
 refine Qar (t:=decide (((i:Nat):Int)<64)) kj (fun c12=>?_) (fun c12=>?_)
 ·skip
  have hlt47:i<64:=by have:=of_decide_eq_true c12; omega
  refine wp_skip ?_
  refine hK11 _ _ ?_
  refine wp_seq_k fun K13 hK13=>?_
  refine wp_block ?_
  refine wp_seq_k fun K14 hK14=>?_
  refine Qab ?_
  refine Qaa (.int .i64 ((i:Nat):Int)) 48 rfl kj kj ?_
  refine Qaa (.int .u32 (wv (wget (w64 b) i))) 49 rfl kj (QbW 106 _ _ .i64 .u32 ((w64 b).map wv) i 64 76 (wv (wget (w64 b) i)) rfl kj kj kj kj kj hl64 (by omega) (QbG _ _)) ?_
  refine Qaa (.int .i64 ((i:Nat):Int)) 12 rfl kj kj ?_
  refine Qaa (.int .u32 (wv (wget (w64 b) i))) 13 rfl kj kj ?_
  refine Qaf ?_
  refine hK14 _ _ ?_
  refine wp_seq_k fun K15 hK15=>?_
  refine Qab ?_
  refine Qaa (.int .u32 (wv ((rnds KK (w64 b) s i).e))) 50 rfl kj kj ?_
  refine Qal (.int .u32 (wv (rr ((rnds KK (w64 b) s i).e) 6))) 83 #[.int .u32 (wv ((rnds KK (w64 b) s i).e)),.int .i64 (-6)] 51 rfl kj kj ((rotC ((rnds KK (w64 b) s i).e) 6 (-6) (by decide) (by decide) (by decide)) _) fun W8 e8=>?_
  have x8:ExtB g w W8:=ExtB.ext xx1 e8
  refine Qaa (.int .u32 (wv ((rnds KK (w64 b) s i).e))) 52 rfl kj kj ?_
  refine Qal (.int .u32 (wv (rr ((rnds KK (w64 b) s i).e) 11))) 83 #[.int .u32 (wv ((rnds KK (w64 b) s i).e)),.int .i64 (-11)] 53 rfl kj kj ((rotC ((rnds KK (w64 b) s i).e) 11 (-11) (by decide) (by decide) (by decide)) _) fun W9 e9=>?_
  have x9:ExtB g w W9:=ExtB.ext x8 e9
  refine Qaa (.int .u32 (wv (((rr ((rnds KK (w64 b) s i).e) 6))^^^((rr ((rnds KK (w64 b) s i).e) 11))))) 54 rfl kj (Qai (u:=.int .u32 (bits .xor .u32 (wv (rr ((rnds KK (w64 b) s i).e) 6)) (wv (rr ((rnds KK (w64 b) s i).e) 11)))) kj (congrArg (Value.int .u32) (w_xor _ _))) ?_
  refine Qaa (.int .u32 (wv ((rnds KK (w64 b) s i).e))) 55 rfl kj kj ?_
  refine Qal (.int .u32 (wv (rr ((rnds KK (w64 b) s i).e) 25))) 83 #[.int .u32 (wv ((rnds KK (w64 b) s i).e)),.int .i64 (-25)] 56 rfl kj kj ((rotC ((rnds KK (w64 b) s i).e) 25 (-25) (by decide) (by decide) (by decide)) _) fun W10 e10=>?_
  have x10:ExtB g w W10:=ExtB.ext x9 e10
  refine Qaa (.int .u32 (wv (((((rr ((rnds KK (w64 b) s i).e) 6))^^^((rr ((rnds KK (w64 b) s i).e) 11))))^^^((rr ((rnds KK (w64 b) s i).e) 25))))) 57 rfl kj (Qai (u:=.int .u32 (bits .xor .u32 (wv (((rr ((rnds KK (w64 b) s i).e) 6))^^^((rr ((rnds KK (w64 b) s i).e) 11)))) (wv (rr ((rnds KK (w64 b) s i).e) 25)))) kj (congrArg (Value.int .u32) (w_xor _ _))) ?_
  refine Qaa (.int .u32 (wv (((((rr ((rnds KK (w64 b) s i).e) 6))^^^((rr ((rnds KK (w64 b) s i).e) 11))))^^^((rr ((rnds KK (w64 b) s i).e) 25))))) 14 rfl kj kj ?_
  refine Qaf ?_
  refine hK15 _ _ ?_
  refine wp_seq_k fun K16 hK16=>?_
  refine Qab ?_
  refine Qaa (.int .u32 (wv ((rnds KK (w64 b) s i).a))) 58 rfl kj kj ?_
  refine Qal (.int .u32 (wv (rr ((rnds KK (w64 b) s i).a) 2))) 83 #[.int .u32 (wv ((rnds KK (w64 b) s i).a)),.int .i64 (-2)] 59 rfl kj kj ((rotC ((rnds KK (w64 b) s i).a) 2 (-2) (by decide) (by decide) (by decide)) _) fun W11 e11=>?_
  have x11:ExtB g w W11:=ExtB.ext x10 e11
  refine Qaa (.int .u32 (wv ((rnds KK (w64 b) s i).a))) 60 rfl kj kj ?_
  refine Qal (.int .u32 (wv (rr ((rnds KK (w64 b) s i).a) 13))) 83 #[.int .u32 (wv ((rnds KK (w64 b) s i).a)),.int .i64 (-13)] 61 rfl kj kj ((rotC ((rnds KK (w64 b) s i).a) 13 (-13) (by decide) (by decide) (by decide)) _) fun W12 e12=>?_
  have x12:ExtB g w W12:=ExtB.ext x11 e12
  refine Qaa (.int .u32 (wv (((rr ((rnds KK (w64 b) s i).a) 2))^^^((rr ((rnds KK (w64 b) s i).a) 13))))) 62 rfl kj (Qai (u:=.int .u32 (bits .xor .u32 (wv (rr ((rnds KK (w64 b) s i).a) 2)) (wv (rr ((rnds KK (w64 b) s i).a) 13)))) kj (congrArg (Value.int .u32) (w_xor _ _))) ?_
  refine Qaa (.int .u32 (wv ((rnds KK (w64 b) s i).a))) 63 rfl kj kj ?_
  refine Qal (.int .u32 (wv (rr ((rnds KK (w64 b) s i).a) 22))) 83 #[.int .u32 (wv ((rnds KK (w64 b) s i).a)),.int .i64 (-22)] 64 rfl kj kj ((rotC ((rnds KK (w64 b) s i).a) 22 (-22) (by decide) (by decide) (by decide)) _) fun W13 e13=>?_
  have x13:ExtB g w W13:=ExtB.ext x12 e13
  refine Qaa (.int .u32 (wv (((((rr ((rnds KK (w64 b) s i).a) 2))^^^((rr ((rnds KK (w64 b) s i).a) 13))))^^^((rr ((rnds KK (w64 b) s i).a) 22))))) 65 rfl kj (Qai (u:=.int .u32 (bits .xor .u32 (wv (((rr ((rnds KK (w64 b) s i).a) 2))^^^((rr ((rnds KK (w64 b) s i).a) 13)))) (wv (rr ((rnds KK (w64 b) s i).a) 22)))) kj (congrArg (Value.int .u32) (w_xor _ _))) ?_
  refine Qaa (.int .u32 (wv (((((rr ((rnds KK (w64 b) s i).a) 2))^^^((rr ((rnds KK (w64 b) s i).a) 13))))^^^((rr ((rnds KK (w64 b) s i).a) 22))))) 15 rfl kj kj ?_
  refine Qaf ?_
  refine hK16 _ _ ?_
  refine wp_seq_k fun K17 hK17=>?_
  refine Qab ?_
  refine Qaa (.int .u32 (wv ((rnds KK (w64 b) s i).h))) 66 rfl kj kj ?_
  refine Qaa (.int .u32 (wv (((((rr ((rnds KK (w64 b) s i).e) 6))^^^((rr ((rnds KK (w64 b) s i).e) 11))))^^^((rr ((rnds KK (w64 b) s i).e) 25))))) 67 rfl kj kj ?_
  refine Qaa (.int .u32 (wv ((((rnds KK (w64 b) s i).h))+((((((rr ((rnds KK (w64 b) s i).e) 6))^^^((rr ((rnds KK (w64 b) s i).e) 11))))^^^((rr ((rnds KK (w64 b) s i).e) 25))))))) 68 rfl kj (Qai (u:=.int .u32 (IntKind.u32.wrap (wv ((rnds KK (w64 b) s i).h)+wv (((((rr ((rnds KK (w64 b) s i).e) 6))^^^((rr ((rnds KK (w64 b) s i).e) 11))))^^^((rr ((rnds KK (w64 b) s i).e) 25)))))) kj (congrArg (Value.int .u32) (QbT _ _))) ?_
  refine Qaa (.int .u32 (wv ((rnds KK (w64 b) s i).e))) 69 rfl kj kj ?_
  refine Qaa (.int .u32 (wv ((rnds KK (w64 b) s i).f))) 70 rfl kj kj ?_
  refine Qaa (.int .u32 (wv ((((rnds KK (w64 b) s i).e))&&&(((rnds KK (w64 b) s i).f))))) 71 rfl kj (Qai (u:=.int .u32 (bits .and .u32 (wv ((rnds KK (w64 b) s i).e)) (wv ((rnds KK (w64 b) s i).f)))) kj (congrArg (Value.int .u32) (Qe0 _ _))) ?_
  refine Qaa (.int .u32 (wv ((rnds KK (w64 b) s i).e))) 72 rfl kj kj ?_
  refine Qaa (.int .u32 (wv (~~~(((rnds KK (w64 b) s i).e))))) 73 rfl kj (Qai (u:=.int .u32 (bits .xor .u32 4294967295 (wv ((rnds KK (w64 b) s i).e)))) kj (congrArg (Value.int .u32) (Qmu _))) ?_
  refine Qaa (.int .u32 (wv ((rnds KK (w64 b) s i).g))) 74 rfl kj kj ?_
  refine Qaa (.int .u32 (wv (((~~~(((rnds KK (w64 b) s i).e))))&&&(((rnds KK (w64 b) s i).g))))) 75 rfl kj (Qai (u:=.int .u32 (bits .and .u32 (wv (~~~(((rnds KK (w64 b) s i).e)))) (wv ((rnds KK (w64 b) s i).g)))) kj (congrArg (Value.int .u32) (Qe0 _ _))) ?_
  refine Qaa (.int .u32 (wv ((((((rnds KK (w64 b) s i).e))&&&(((rnds KK (w64 b) s i).f))))^^^((((~~~(((rnds KK (w64 b) s i).e))))&&&(((rnds KK (w64 b) s i).g))))))) 76 rfl kj (Qai (u:=.int .u32 (bits .xor .u32 (wv ((((rnds KK (w64 b) s i).e))&&&(((rnds KK (w64 b) s i).f)))) (wv (((~~~(((rnds KK (w64 b) s i).e))))&&&(((rnds KK (w64 b) s i).g)))))) kj (congrArg (Value.int .u32) (w_xor _ _))) ?_
  refine Qaa (.int .u32 (wv ((((((rnds KK (w64 b) s i).h))+((((((rr ((rnds KK (w64 b) s i).e) 6))^^^((rr ((rnds KK (w64 b) s i).e) 11))))^^^((rr ((rnds KK (w64 b) s i).e) 25))))))+(((((((rnds KK (w64 b) s i).e))&&&(((rnds KK (w64 b) s i).f))))^^^((((~~~(((rnds KK (w64 b) s i).e))))&&&(((rnds KK (w64 b) s i).g))))))))) 77 rfl kj (Qai (u:=.int .u32 (IntKind.u32.wrap (wv ((((rnds KK (w64 b) s i).h))+((((((rr ((rnds KK (w64 b) s i).e) 6))^^^((rr ((rnds KK (w64 b) s i).e) 11))))^^^((rr ((rnds KK (w64 b) s i).e) 25)))))+wv ((((((rnds KK (w64 b) s i).e))&&&(((rnds KK (w64 b) s i).f))))^^^((((~~~(((rnds KK (w64 b) s i).e))))&&&(((rnds KK (w64 b) s i).g)))))))) kj (congrArg (Value.int .u32) (QbT _ _))) ?_
  refine Qaa (.int .i64 ((i:Nat):Int)) 78 rfl kj kj ?_
  refine Qaa (.pointer (some ⟨2,i,none⟩)) 79 rfl kj (QaR _ _ _ .i64 (i) _ 80 78 rfl kj kj kj kj (by omega)) ?_
  have r1_1:=(Qah hc e1)
  have r1_2:=(Qah r1_1 e2)
  have r1_3:=(Puts.row p3 r1_2 (Qay r1_1 l4))
  have r1_4:=(Qah r1_3 e4)
  have r1_5:=(Puts.row p5 r1_4 (Qay r1_3 l6))
  have r1_6:=(Qah r1_5 e6)
  have r1_7:=(Qah r1_6 e7)
  have r1_8:=(Qah r1_7 e8)
  have r1_9:=(Qah r1_8 e9)
  have r1_10:=(Qah r1_9 e10)
  have r1_11:=(Qah r1_10 e11)
  have r1_12:=(Qah r1_11 e12)
  have r1_13:=(Qah r1_12 e13)
  refine Qaa (.int .u64 (nth (Qbk) i)) 80 rfl kj (Qag 78 _ 2 i tc _ (.int .u64 (nth (Qbk) i)) _ r1_13 rfl kj (QaU _ _ _ (Nat.lt_of_lt_of_eq (by omega) (show Qbk.length=80 from rfl).symm)) kj) ?_
  refine Qaa (.int .u64 (nth Qbk i/4294967296)) 81 rfl kj (Qbf .shr _ _ _ _ .u64 .u64 _ _ _ rfl kj kj (QcN _ _ _ _ _ _ (by decide) (QlF _))) ?_
  refine Qaa (.int .u32 (wv (wget KK i))) 82 rfl kj (Qai (u:=.int .u32 (IntKind.u32.wrap (nth Qbk i/4294967296))) kj (congrArg (Value.int .u32) (QjL i hlt47))) ?_
  refine Qaa (.int .u32 (wv ((((((((rnds KK (w64 b) s i).h))+((((((rr ((rnds KK (w64 b) s i).e) 6))^^^((rr ((rnds KK (w64 b) s i).e) 11))))^^^((rr ((rnds KK (w64 b) s i).e) 25))))))+(((((((rnds KK (w64 b) s i).e))&&&(((rnds KK (w64 b) s i).f))))^^^((((~~~(((rnds KK (w64 b) s i).e))))&&&(((rnds KK (w64 b) s i).g))))))))+((wget KK i))))) 83 rfl kj (Qai (u:=.int .u32 (IntKind.u32.wrap (wv ((((((rnds KK (w64 b) s i).h))+((((((rr ((rnds KK (w64 b) s i).e) 6))^^^((rr ((rnds KK (w64 b) s i).e) 11))))^^^((rr ((rnds KK (w64 b) s i).e) 25))))))+(((((((rnds KK (w64 b) s i).e))&&&(((rnds KK (w64 b) s i).f))))^^^((((~~~(((rnds KK (w64 b) s i).e))))&&&(((rnds KK (w64 b) s i).g)))))))+wv (wget KK i)))) kj (congrArg (Value.int .u32) (QbT _ _))) ?_
  refine Qaa (.int .u32 (wv (wget (w64 b) i))) 84 rfl kj kj ?_
  refine Qaa (.int .u32 (wv ((((((((((rnds KK (w64 b) s i).h))+((((((rr ((rnds KK (w64 b) s i).e) 6))^^^((rr ((rnds KK (w64 b) s i).e) 11))))^^^((rr ((rnds KK (w64 b) s i).e) 25))))))+(((((((rnds KK (w64 b) s i).e))&&&(((rnds KK (w64 b) s i).f))))^^^((((~~~(((rnds KK (w64 b) s i).e))))&&&(((rnds KK (w64 b) s i).g))))))))+((wget KK i))))+((wget (w64 b) i))))) 85 rfl kj (Qai (u:=.int .u32 (IntKind.u32.wrap (wv ((((((((rnds KK (w64 b) s i).h))+((((((rr ((rnds KK (w64 b) s i).e) 6))^^^((rr ((rnds KK (w64 b) s i).e) 11))))^^^((rr ((rnds KK (w64 b) s i).e) 25))))))+(((((((rnds KK (w64 b) s i).e))&&&(((rnds KK (w64 b) s i).f))))^^^((((~~~(((rnds KK (w64 b) s i).e))))&&&(((rnds KK (w64 b) s i).g))))))))+((wget KK i)))+wv (wget (w64 b) i)))) kj (congrArg (Value.int .u32) (QbT _ _))) ?_
  refine Qaa (.int .u32 (wv ((((((((((rnds KK (w64 b) s i).h))+((((((rr ((rnds KK (w64 b) s i).e) 6))^^^((rr ((rnds KK (w64 b) s i).e) 11))))^^^((rr ((rnds KK (w64 b) s i).e) 25))))))+(((((((rnds KK (w64 b) s i).e))&&&(((rnds KK (w64 b) s i).f))))^^^((((~~~(((rnds KK (w64 b) s i).e))))&&&(((rnds KK (w64 b) s i).g))))))))+((wget KK i))))+((wget (w64 b) i))))) 16 rfl kj kj ?_
  refine Qaf ?_
  refine hK17 _ _ ?_
  refine wp_seq_k fun K18 hK18=>?_
  refine Qab ?_
  refine Qaa (.int .u32 (wv (((((rr ((rnds KK (w64 b) s i).a) 2))^^^((rr ((rnds KK (w64 b) s i).a) 13))))^^^((rr ((rnds KK (w64 b) s i).a) 22))))) 86 rfl kj kj ?_
  refine Qaa (.int .u32 (wv ((rnds KK (w64 b) s i).a))) 87 rfl kj kj ?_
  refine Qaa (.int .u32 (wv ((rnds KK (w64 b) s i).b))) 88 rfl kj kj ?_
  refine Qaa (.int .u32 (wv ((((rnds KK (w64 b) s i).a))&&&(((rnds KK (w64 b) s i).b))))) 89 rfl kj (Qai (u:=.int .u32 (bits .and .u32 (wv ((rnds KK (w64 b) s i).a)) (wv ((rnds KK (w64 b) s i).b)))) kj (congrArg (Value.int .u32) (Qe0 _ _))) ?_
  refine Qaa (.int .u32 (wv ((rnds KK (w64 b) s i).a))) 90 rfl kj kj ?_
  refine Qaa (.int .u32 (wv ((rnds KK (w64 b) s i).c))) 91 rfl kj kj ?_
  refine Qaa (.int .u32 (wv ((((rnds KK (w64 b) s i).a))&&&(((rnds KK (w64 b) s i).c))))) 92 rfl kj (Qai (u:=.int .u32 (bits .and .u32 (wv ((rnds KK (w64 b) s i).a)) (wv ((rnds KK (w64 b) s i).c)))) kj (congrArg (Value.int .u32) (Qe0 _ _))) ?_
  refine Qaa (.int .u32 (wv ((((((rnds KK (w64 b) s i).a))&&&(((rnds KK (w64 b) s i).b))))^^^(((((rnds KK (w64 b) s i).a))&&&(((rnds KK (w64 b) s i).c))))))) 93 rfl kj (Qai (u:=.int .u32 (bits .xor .u32 (wv ((((rnds KK (w64 b) s i).a))&&&(((rnds KK (w64 b) s i).b)))) (wv ((((rnds KK (w64 b) s i).a))&&&(((rnds KK (w64 b) s i).c)))))) kj (congrArg (Value.int .u32) (w_xor _ _))) ?_
  refine Qaa (.int .u32 (wv ((rnds KK (w64 b) s i).b))) 94 rfl kj kj ?_
  refine Qaa (.int .u32 (wv ((rnds KK (w64 b) s i).c))) 95 rfl kj kj ?_
  refine Qaa (.int .u32 (wv ((((rnds KK (w64 b) s i).b))&&&(((rnds KK (w64 b) s i).c))))) 96 rfl kj (Qai (u:=.int .u32 (bits .and .u32 (wv ((rnds KK (w64 b) s i).b)) (wv ((rnds KK (w64 b) s i).c)))) kj (congrArg (Value.int .u32) (Qe0 _ _))) ?_
  refine Qaa (.int .u32 (wv ((((((((rnds KK (w64 b) s i).a))&&&(((rnds KK (w64 b) s i).b))))^^^(((((rnds KK (w64 b) s i).a))&&&(((rnds KK (w64 b) s i).c))))))^^^(((((rnds KK (w64 b) s i).b))&&&(((rnds KK (w64 b) s i).c))))))) 97 rfl kj (Qai (u:=.int .u32 (bits .xor .u32 (wv ((((((rnds KK (w64 b) s i).a))&&&(((rnds KK (w64 b) s i).b))))^^^(((((rnds KK (w64 b) s i).a))&&&(((rnds KK (w64 b) s i).c)))))) (wv ((((rnds KK (w64 b) s i).b))&&&(((rnds KK (w64 b) s i).c)))))) kj (congrArg (Value.int .u32) (w_xor _ _))) ?_
  refine Qaa (.int .u32 (wv (((((((rr ((rnds KK (w64 b) s i).a) 2))^^^((rr ((rnds KK (w64 b) s i).a) 13))))^^^((rr ((rnds KK (w64 b) s i).a) 22))))+(((((((((rnds KK (w64 b) s i).a))&&&(((rnds KK (w64 b) s i).b))))^^^(((((rnds KK (w64 b) s i).a))&&&(((rnds KK (w64 b) s i).c))))))^^^(((((rnds KK (w64 b) s i).b))&&&(((rnds KK (w64 b) s i).c))))))))) 98 rfl kj (Qai (u:=.int .u32 (IntKind.u32.wrap (wv (((((rr ((rnds KK (w64 b) s i).a) 2))^^^((rr ((rnds KK (w64 b) s i).a) 13))))^^^((rr ((rnds KK (w64 b) s i).a) 22)))+wv ((((((((rnds KK (w64 b) s i).a))&&&(((rnds KK (w64 b) s i).b))))^^^(((((rnds KK (w64 b) s i).a))&&&(((rnds KK (w64 b) s i).c))))))^^^(((((rnds KK (w64 b) s i).b))&&&(((rnds KK (w64 b) s i).c)))))))) kj (congrArg (Value.int .u32) (QbT _ _))) ?_
  refine Qaa (.int .u32 (wv (((((((rr ((rnds KK (w64 b) s i).a) 2))^^^((rr ((rnds KK (w64 b) s i).a) 13))))^^^((rr ((rnds KK (w64 b) s i).a) 22))))+(((((((((rnds KK (w64 b) s i).a))&&&(((rnds KK (w64 b) s i).b))))^^^(((((rnds KK (w64 b) s i).a))&&&(((rnds KK (w64 b) s i).c))))))^^^(((((rnds KK (w64 b) s i).b))&&&(((rnds KK (w64 b) s i).c))))))))) 17 rfl kj kj ?_
  refine Qaf ?_
  refine hK18 _ _ ?_
  refine Qab ?_
  refine Qaa (.int .u32 (wv ((rnds KK (w64 b) s i).g))) 99 rfl kj kj ?_
  refine Qaa (.int .u32 (wv ((rnds KK (w64 b) s i).f))) 100 rfl kj kj ?_
  refine Qaa (.int .u32 (wv ((rnds KK (w64 b) s i).e))) 101 rfl kj kj ?_
  refine Qaa (.int .u32 (wv ((rnds KK (w64 b) s i).d))) 102 rfl kj kj ?_
  refine Qaa (.int .u32 (wv ((((((((((rnds KK (w64 b) s i).h))+((((((rr ((rnds KK (w64 b) s i).e) 6))^^^((rr ((rnds KK (w64 b) s i).e) 11))))^^^((rr ((rnds KK (w64 b) s i).e) 25))))))+(((((((rnds KK (w64 b) s i).e))&&&(((rnds KK (w64 b) s i).f))))^^^((((~~~(((rnds KK (w64 b) s i).e))))&&&(((rnds KK (w64 b) s i).g))))))))+((wget KK i))))+((wget (w64 b) i))))) 103 rfl kj kj ?_
  refine Qaa (.int .u32 (wv ((((rnds KK (w64 b) s i).d))+(((((((((((rnds KK (w64 b) s i).h))+((((((rr ((rnds KK (w64 b) s i).e) 6))^^^((rr ((rnds KK (w64 b) s i).e) 11))))^^^((rr ((rnds KK (w64 b) s i).e) 25))))))+(((((((rnds KK (w64 b) s i).e))&&&(((rnds KK (w64 b) s i).f))))^^^((((~~~(((rnds KK (w64 b) s i).e))))&&&(((rnds KK (w64 b) s i).g))))))))+((wget KK i))))+((wget (w64 b) i))))))) 104 rfl kj (Qai (u:=.int .u32 (IntKind.u32.wrap (wv ((rnds KK (w64 b) s i).d)+wv ((((((((((rnds KK (w64 b) s i).h))+((((((rr ((rnds KK (w64 b) s i).e) 6))^^^((rr ((rnds KK (w64 b) s i).e) 11))))^^^((rr ((rnds KK (w64 b) s i).e) 25))))))+(((((((rnds KK (w64 b) s i).e))&&&(((rnds KK (w64 b) s i).f))))^^^((((~~~(((rnds KK (w64 b) s i).e))))&&&(((rnds KK (w64 b) s i).g))))))))+((wget KK i))))+((wget (w64 b) i)))))) kj (congrArg (Value.int .u32) (QbT _ _))) ?_
  refine Qaa (.int .u32 (wv ((rnds KK (w64 b) s i).c))) 105 rfl kj kj ?_
  refine Qaa (.int .u32 (wv ((rnds KK (w64 b) s i).b))) 106 rfl kj kj ?_
  refine Qaa (.int .u32 (wv ((rnds KK (w64 b) s i).a))) 107 rfl kj kj ?_
  refine Qaa (.int .u32 (wv ((((((((((rnds KK (w64 b) s i).h))+((((((rr ((rnds KK (w64 b) s i).e) 6))^^^((rr ((rnds KK (w64 b) s i).e) 11))))^^^((rr ((rnds KK (w64 b) s i).e) 25))))))+(((((((rnds KK (w64 b) s i).e))&&&(((rnds KK (w64 b) s i).f))))^^^((((~~~(((rnds KK (w64 b) s i).e))))&&&(((rnds KK (w64 b) s i).g))))))))+((wget KK i))))+((wget (w64 b) i))))) 108 rfl kj kj ?_
  refine Qaa (.int .u32 (wv (((((((rr ((rnds KK (w64 b) s i).a) 2))^^^((rr ((rnds KK (w64 b) s i).a) 13))))^^^((rr ((rnds KK (w64 b) s i).a) 22))))+(((((((((rnds KK (w64 b) s i).a))&&&(((rnds KK (w64 b) s i).b))))^^^(((((rnds KK (w64 b) s i).a))&&&(((rnds KK (w64 b) s i).c))))))^^^(((((rnds KK (w64 b) s i).b))&&&(((rnds KK (w64 b) s i).c))))))))) 109 rfl kj kj ?_
  refine Qaa (.int .u32 (wv ((((((((((((rnds KK (w64 b) s i).h))+((((((rr ((rnds KK (w64 b) s i).e) 6))^^^((rr ((rnds KK (w64 b) s i).e) 11))))^^^((rr ((rnds KK (w64 b) s i).e) 25))))))+(((((((rnds KK (w64 b) s i).e))&&&(((rnds KK (w64 b) s i).f))))^^^((((~~~(((rnds KK (w64 b) s i).e))))&&&(((rnds KK (w64 b) s i).g))))))))+((wget KK i))))+((wget (w64 b) i))))+((((((((rr ((rnds KK (w64 b) s i).a) 2))^^^((rr ((rnds KK (w64 b) s i).a) 13))))^^^((rr ((rnds KK (w64 b) s i).a) 22))))+(((((((((rnds KK (w64 b) s i).a))&&&(((rnds KK (w64 b) s i).b))))^^^(((((rnds KK (w64 b) s i).a))&&&(((rnds KK (w64 b) s i).c))))))^^^(((((rnds KK (w64 b) s i).b))&&&(((rnds KK (w64 b) s i).c))))))))))) 110 rfl kj (Qai (u:=.int .u32 (IntKind.u32.wrap (wv ((((((((((rnds KK (w64 b) s i).h))+((((((rr ((rnds KK (w64 b) s i).e) 6))^^^((rr ((rnds KK (w64 b) s i).e) 11))))^^^((rr ((rnds KK (w64 b) s i).e) 25))))))+(((((((rnds KK (w64 b) s i).e))&&&(((rnds KK (w64 b) s i).f))))^^^((((~~~(((rnds KK (w64 b) s i).e))))&&&(((rnds KK (w64 b) s i).g))))))))+((wget KK i))))+((wget (w64 b) i)))+wv (((((((rr ((rnds KK (w64 b) s i).a) 2))^^^((rr ((rnds KK (w64 b) s i).a) 13))))^^^((rr ((rnds KK (w64 b) s i).a) 22))))+(((((((((rnds KK (w64 b) s i).a))&&&(((rnds KK (w64 b) s i).b))))^^^(((((rnds KK (w64 b) s i).a))&&&(((rnds KK (w64 b) s i).c))))))^^^(((((rnds KK (w64 b) s i).b))&&&(((rnds KK (w64 b) s i).c)))))))))) kj (congrArg (Value.int .u32) (QbT _ _))) ?_
  refine Qaa (.int .u32 (wv ((rnds KK (w64 b) s i).g))) 11 rfl kj kj ?_
  refine Qaa (.int .u32 (wv ((rnds KK (w64 b) s i).f))) 10 rfl kj kj ?_
  refine Qaa (.int .u32 (wv ((rnds KK (w64 b) s i).e))) 9 rfl kj kj ?_
  refine Qaa (.int .u32 (wv ((((rnds KK (w64 b) s i).d))+(((((((((((rnds KK (w64 b) s i).h))+((((((rr ((rnds KK (w64 b) s i).e) 6))^^^((rr ((rnds KK (w64 b) s i).e) 11))))^^^((rr ((rnds KK (w64 b) s i).e) 25))))))+(((((((rnds KK (w64 b) s i).e))&&&(((rnds KK (w64 b) s i).f))))^^^((((~~~(((rnds KK (w64 b) s i).e))))&&&(((rnds KK (w64 b) s i).g))))))))+((wget KK i))))+((wget (w64 b) i))))))) 8 rfl kj kj ?_
  refine Qaa (.int .u32 (wv ((rnds KK (w64 b) s i).c))) 7 rfl kj kj ?_
  refine Qaa (.int .u32 (wv ((rnds KK (w64 b) s i).b))) 6 rfl kj kj ?_
  refine Qaa (.int .u32 (wv ((rnds KK (w64 b) s i).a))) 5 rfl kj kj ?_
  refine Qaa (.int .u32 (wv ((((((((((((rnds KK (w64 b) s i).h))+((((((rr ((rnds KK (w64 b) s i).e) 6))^^^((rr ((rnds KK (w64 b) s i).e) 11))))^^^((rr ((rnds KK (w64 b) s i).e) 25))))))+(((((((rnds KK (w64 b) s i).e))&&&(((rnds KK (w64 b) s i).f))))^^^((((~~~(((rnds KK (w64 b) s i).e))))&&&(((rnds KK (w64 b) s i).g))))))))+((wget KK i))))+((wget (w64 b) i))))+((((((((rr ((rnds KK (w64 b) s i).a) 2))^^^((rr ((rnds KK (w64 b) s i).a) 13))))^^^((rr ((rnds KK (w64 b) s i).a) 22))))+(((((((((rnds KK (w64 b) s i).a))&&&(((rnds KK (w64 b) s i).b))))^^^(((((rnds KK (w64 b) s i).a))&&&(((rnds KK (w64 b) s i).c))))))^^^(((((rnds KK (w64 b) s i).b))&&&(((rnds KK (w64 b) s i).c))))))))))) 4 rfl kj kj ?_
  refine Qaf ?_
  refine hK13 _ _ ?_
  refine Qab ?_
  refine Qaa (.int .i64 ((i+1:Nat):Int)) 111 rfl kj (Qai (u:=.int .i64 (IntKind.i64.wrap (((i:Nat):Int)+1))) kj (congrArg (Value.int .i64) (i64n _ _ (by omega) (by omega)))) ?_
  refine Qaa (.int .i64 ((i+1:Nat):Int)) 46 rfl kj kj ?_
  refine Qaf ?_
  have y6_8:Ext W6 W8:=(Rely.Ext.trans e7 e8)
  have y6_9:Ext W6 W9:=(Rely.Ext.trans y6_8 e9)
  have y6_10:Ext W6 W10:=(Rely.Ext.trans y6_9 e10)
  have y6_11:Ext W6 W11:=(Rely.Ext.trans y6_10 e11)
  have y6_12:Ext W6 W12:=(Rely.Ext.trans y6_11 e12)
  have y6_13:Ext W6 W13:=(Rely.Ext.trans y6_12 e13)
  repeat (first | with_reducible refine goX1 ?_ | with_reducible refine goX2 ?_ | with_reducible refine goX3 ?_)
  exact Qat (i+1) ⟨rfl,rfl,rfl,rfl,rfl,rfl,rfl,rfl,rfl,rfl,rfl,trivial⟩ ⟨(by omega),y6_13,x13⟩ (by omega)
 ·skip
  have heq47:i=64:=by have:=of_decide_eq_false c12; omega
  refine wp_exit ?_
  refine hK8 _ _ ?_
  refine wp_seq_k fun K19 hK19=>?_
  refine Qab ?_
  refine Qaa (.int .u32 (wv ((rnds KK (w64 b) s i).a))) 112 rfl kj kj ?_
  refine Qaa (.int .u32 (wv ((rnds KK (w64 b) s i).b))) 113 rfl kj kj ?_
  refine Qaa (.int .u32 (wv ((rnds KK (w64 b) s i).c))) 114 rfl kj kj ?_
  refine Qaa (.int .u32 (wv ((rnds KK (w64 b) s i).d))) 115 rfl kj kj ?_
  refine Qaa (.int .u32 (wv ((rnds KK (w64 b) s i).e))) 116 rfl kj kj ?_
  refine Qaa (.int .u32 (wv ((rnds KK (w64 b) s i).f))) 117 rfl kj kj ?_
  refine Qaa (.int .u32 (wv ((rnds KK (w64 b) s i).g))) 118 rfl kj kj ?_
  refine Qaa (.int .u32 (wv ((rnds KK (w64 b) s i).h))) 119 rfl kj kj ?_
  refine Qaa (.agg (ints .u32 ([wv (rnds KK (w64 b) s i).a,wv (rnds KK (w64 b) s i).b,wv (rnds KK (w64 b) s i).c,wv (rnds KK (w64 b) s i).d,wv (rnds KK (w64 b) s i).e,wv (rnds KK (w64 b) s i).f,wv (rnds KK (w64 b) s i).g,wv (rnds KK (w64 b) s i).h]))) 120 rfl kj kj ?_
  refine Qaa (.int .i64 0) 121 rfl kj kj ?_
  refine Qaf ?_
  refine hK19 _ _ ?_
  refine wp_block ?_
  obtain ⟨r,hr9⟩:∃ z,z=rnds KK (w64 b) s i:=⟨_,rfl⟩
  have r2_4:=(Qah r2_3 e4)
  have r2_5:=(Puts.row p5 r2_4 (Qay r2_3 l6))
  have r2_6:=(Qah r2_5 e6)
  have r2_7:=(Qah r2_6 e7)
  have rg_:V1.heap[g]? = some (.cells (cat [ints .u32 (s.l.map wv),ints .u8 (b),#[.int .i64 m]]) 99):=r2_7
  refine Qa0 (fun (s2:Nat)=>[(0,.pointer (some ⟨g,0,none⟩)),(120,.agg (ints .u32 ([wv (rnds KK (w64 b) s i).a,wv (rnds KK (w64 b) s i).b,wv (rnds KK (w64 b) s i).c,wv (rnds KK (w64 b) s i).d,wv (rnds KK (w64 b) s i).e,wv (rnds KK (w64 b) s i).f,wv (rnds KK (w64 b) s i).g,wv (rnds KK (w64 b) s i).h]))),(121,.int .i64 ((s2:Nat):Int))]) (fun (s2:Nat) W=>(s2≤8)∧(W.heap[g]? = some (.cells (cat [ints .u32 ((mixW s.l r.l s2).map wv),ints .u8 (b),#[.int .i64 m]]) 99))∧(Qa8 [g] V1 W)∧(ExtB g w W)) (fun (s2:Nat)=>8-s2) 0 ⟨rfl,rfl,rfl,trivial⟩ ⟨(Nat.zero_le _),rg_,(Qa8.refl [g] V1),xx1⟩ fun s2 X2 V2 hI2=>?_
  obtain ⟨p,hs2⟩:∃ z,z=s2:=⟨_,rfl⟩
  subst hs2
  obtain ⟨hp,q2_2,kk2,xx2⟩:=hI2
  replace hp:p≤8:=hp
  replace q2_2:V2.heap[g]? = some (.cells (cat [ints .u32 ((mixW s.l r.l p).map wv),ints .u8 (b),#[.int .i64 m]]) 99):=q2_2
  replace kk2:Qa8 [g] V1 V2:=kk2
  replace xx2:ExtB g w V2:=xx2
  have q8:=kk2
  refine wp_seq_k fun K20 hK20=>?_
  refine Qab ?_
  refine Qaa (.bool (decide (((p:Nat):Int)<8))) 122 rfl kj kj ?_
  refine Qaf ?_
  refine hK20 _ _ ?_
  refine wp_seq_k fun K21 hK21=>?_
  refine Qar (t:=decide (((p:Nat):Int)<8)) kj (fun c22=>?_) (fun c22=>?_)
  ·skip
   have hlt122:p<8:=by have:=of_decide_eq_true c22; omega
   refine wp_skip ?_
   refine hK21 _ _ ?_
   refine wp_seq_k fun K23 hK23=>?_
   refine wp_block ?_
   refine wp_seq_k fun K24 hK24=>?_
   refine Qab ?_
   refine Qaa (.int .i64 ((p:Nat):Int)) 123 rfl kj kj ?_
   refine Qaa (.int .u32 (wv (wget r.l p))) 124 rfl kj (QbW 77 _ _ .i64 .u32 ([wv (rnds KK (w64 b) s i).a,wv (rnds KK (w64 b) s i).b,wv (rnds KK (w64 b) s i).c,wv (rnds KK (w64 b) s i).d,wv (rnds KK (w64 b) s i).e,wv (rnds KK (w64 b) s i).f,wv (rnds KK (w64 b) s i).g,wv (rnds KK (w64 b) s i).h]) p 8 76 (wv (wget r.l p)) rfl kj kj kj kj kj rfl (by omega) (by rw [hr9]; exact QbG (rnds KK (w64 b) s i).l p)) ?_
   refine Qaa (.int .i64 ((p:Nat):Int)) 18 rfl kj kj ?_
   refine Qaa (.int .u32 (wv (wget r.l p))) 19 rfl kj kj ?_
   refine Qaf ?_
   refine hK24 _ _ ?_
   refine QcM 11 [⟨none,[(0,none)]⟩,⟨none,[(18,none)]⟩,⟨none,[(125,some 0)]⟩,⟨none,[(127,some 2)]⟩,⟨none,[(128,some 3),(126,some 1)]⟩,⟨none,[(129,some 4)]⟩,⟨none,[(19,none)]⟩,⟨none,[(130,some 5),(131,some 6)]⟩,⟨none,[(125,some 0)]⟩,⟨none,[(133,some 8)]⟩,⟨none,[(134,some 9),(126,some 1)]⟩] kj kj fun F hF=>?_
   refine QaC (.pointer (some ⟨g,0,none⟩)) kj kj (fun W=>by kernel_rfl) ?_
   refine QaC (.int .i64 ((p:Nat):Int)) kj kj (fun W=>by kernel_rfl) ?_
   refine QaC (.pointer (some ⟨g,0,none⟩)) kj kj (fun W=>by kernel_rfl) ?_
   refine QaC (.pointer (some ⟨g,0,none⟩)) kj kj (fun W=>by kernel_rfl) ?_
   refine QaC (.pointer (some ⟨g,0+p*1,none⟩)) kj kj (fun W=>(QbO 77 _ _ .i64 p g 0 8 76 1 rfl kj kj kj kj (show p<8 by omega))) ?_
   refine Qby (.int .u32 (wv (wget s.l p))) kj kj (fun W hR=>(Qag 76 _ g (0+p*1) 99 _ (.int .u32 (wv (wget s.l p))) _ (Qah (Qah q2_2 (Qax _)) hR) rfl kj ((Qbw [] [ints .u8 (b),#[.int .i64 m]] ((mixW s.l r.l p).map wv) 0 p (0+p*1) kj (by omega) (Nat.lt_of_lt_of_eq (show p<8 by omega) (Qfb s r hp).symm)).trans (congrArg (fun z=>some (Value.int .u32 z)) (QhT s r hlt122))) kj)) ?_
   refine QaC (.int .u32 (wv (wget r.l p))) kj kj (fun W=>by kernel_rfl) ?_
   refine QaC (.int .u32 (wv (((wget s.l p))+((wget r.l p))))) kj kj (fun W=>(Qai (u:=.int .u32 (IntKind.u32.wrap (wv (wget s.l p)+wv (wget r.l p)))) kj (congrArg (Value.int .u32) (QbT _ _)))) ?_
   refine QaC (.pointer (some ⟨g,0,none⟩)) kj kj (fun W=>by kernel_rfl) ?_
   refine QaC (.pointer (some ⟨g,0,none⟩)) kj kj (fun W=>by kernel_rfl) ?_
   refine QaC (.pointer (some ⟨g,0+p*1,none⟩)) kj kj (fun W=>(QbO 77 _ _ .i64 p g 0 8 76 1 rfl kj kj kj kj (show p<8 by omega))) ?_
   refine Qdf (hF _ kj fun W9 e9=>?_)
   simp only [ups,up,Kn.val,List.take_succ_cons,List.take_zero,List.drop_succ_cons,List.drop_zero,List.nil_append,List.cons_append]
   clear hF
   have x9:ExtB g w W9:=ExtB.ext xx2 e9
   have r2_9:=(Qah q2_2 e9)
   refine Qau g _ (cat [ints .u32 (((mixW s.l r.l p).map wv).set p (wv (((wget s.l p))+((wget r.l p))))),ints .u8 (b),#[.int .i64 m]]) 99 r2_9 rfl kj (Qe8 76 _ _ g (0+p*1) 99 [] [ints .u8 (b),#[.int .i64 m]] ((mixW s.l r.l p).map wv) 0 p _ r2_9 rfl kj kj kj kj (by omega) (Nat.lt_of_lt_of_eq (show p<8 by omega) (Qfb s r hp).symm)) fun W10 p10 r2_10=>?_
   have x10:ExtB g w W10:=ExtB.puts x9 p10
   refine Qaf ?_
   refine hK23 _ _ ?_
   refine Qab ?_
   refine Qaa (.int .i64 ((p+1:Nat):Int)) 136 rfl kj (Qai (u:=.int .i64 (IntKind.i64.wrap (((p:Nat):Int)+1))) kj (congrArg (Value.int .i64) (i64n _ _ (by omega) (by omega)))) ?_
   refine Qaa (.int .i64 ((p+1:Nat):Int)) 121 rfl kj kj ?_
   refine Qaf ?_
   have rh_:W10.heap[g]? = some (.cells (cat [ints .u32 ((mixW s.l r.l (p+1)).map wv),ints .u8 (b),#[.int .i64 m]]) 99):=by have h9:=r2_10; rw [QhS s r hlt122] at h9; exact h9
   repeat (first | with_reducible refine goX1 ?_ | with_reducible refine goX2 ?_ | with_reducible refine goX3 ?_)
   exact Qat (p+1) ⟨rfl,rfl,rfl,trivial⟩ ⟨(by omega),rh_,(Qa8.puts (Qa8.step q8 e9) p10 (.inl (by simp))),x10⟩ (by show 8-(p+1)<8-p; omega)
  ·skip
   have heq122:p=8:=by have:=of_decide_eq_false c22; omega
   refine wp_exit ?_
   repeat (first | with_reducible refine goX1 ?_ | with_reducible refine goX2 ?_ | with_reducible refine goX3 ?_)
   exact (show bodyPost _ _ _ .normal _ _ from end0 rfl ⟨rfl,xx2,by have h9:=q2_2; rw [heq122,hr9,heq47] at h9; exact h9⟩)
end Go.Proofs.YthfkppjajmjpnaaDoor.Sha
end
section
namespace Go.Proofs.YthfkppjajmjpnaaDoor.Sha
open Go Go.RowKit
open Rely Auto Own
theorem Qdc (s : S8) (t u:List Int):∀ n:Nat,64*n≤t.length→absorb s (t++u) n=absorb s t n
  | 0,_=>rfl
  | n+1,h=>by
    show blk (absorb s (t++u) n) _=blk (absorb s t n) _
    rw [Qdc s t u n (by omega)]
    congr 1
    rw [List.drop_append_of_le_length (by omega),List.take_append_of_le_length (by rw [List.length_drop]; omega)]
def HasD (g : Nat) (t:List Int) (W:World):Prop:=∃ b:List Int,b.length=64∧Qav b∧b.take (t.length%64)=t.drop (64*(t.length/64))∧t.length≤1000000000 ∧
  W.heap[g]? = some (.cells (cat [ints .u32 ((absorb S0 t (t.length/64)).l.map wv),ints .u8 b,#[.int .i64 ((t.length:Nat):Int)]]) 99)
theorem HasD.row {g : Nat} {t:List Int} {W W':World} (h:HasD g t W) (e:W'.heap[g]? = W.heap[g]?):HasD g t W':=by
  obtain ⟨b,h1,h2,h3,h4,h5⟩:=h
  exact ⟨b,h1,h2,h3,h4,e.trans h5⟩
theorem HasD.lt {g : Nat} {t:List Int} {W:World} (h:HasD g t W):g<W.heap.size:=by
  obtain ⟨b,h1,h2,h3,h4,h5⟩:=h
  exact Qa5 h5
theorem HasD.ext {g : Nat} {t:List Int} {W W':World} (h:HasD g t W) (e:Ext W W'):HasD g t W':=h.row (e.block g h.lt)
theorem HasD.stable (g : Nat) (t:List Int):Qb6 Ext (fun _=>HasD g t):=fun _ _ _ hR h=>h.ext hR
def into (b z:List Int) (q n:Nat):List Int:=b.take q++z.take n++b.drop (q+n)
theorem Qg7 {b z:List Int} {q n:Nat} (hb:b.length=64) (hz:n≤z.length) (hq:q+n≤64):(into b z q n).length=64:=by
  simp only [into,List.length_append,List.length_take,List.length_drop]; omega
theorem Qd3 {b z:List Int} {q n:Nat} (hb:Qav b) (hz:Qav z):Qav (into b z q n):=fun x hx=>by
  rcases List.mem_append.1 hx with hx | hx
  · rcases List.mem_append.1 hx with hx | hx
    · exact hb x (List.mem_of_mem_take hx)
    · exact hz x (List.mem_of_mem_take hx)
  · exact hb x (List.mem_of_mem_drop hx)
theorem QfE {b z t:List Int} {n:Nat} (hb:b.length=64) (hz:n≤z.length) (hp:b.take (t.length%64)=t.drop (64*(t.length/64))):(into b z (t.length%64) n).take (t.length%64+n)=(t++z.take n).drop (64*(t.length/64)):=by
  have e1:(b.take (t.length%64)++z.take n).length=t.length%64+n:=by
    rw [List.length_append,List.length_take,List.length_take]; omega
  unfold into
  rw [←e1,List.take_left,hp,List.drop_append_of_le_length (by omega)]
theorem Qib {b z t:List Int} {n:Nat} (hb:b.length=64) (hz:n≤z.length) (hp:b.take (t.length%64)=t.drop (64*(t.length/64))) (hn:t.length%64+n<64) :
    (into b z (t.length%64) n).take ((t++z.take n).length%64)=(t++z.take n).drop (64*((t++z.take n).length/64)):=by
  have hl:(t++z.take n).length=t.length+n:=by rw [List.length_append,List.length_take]; omega
  rw [hl,show (t.length+n)%64=t.length%64+n by omega,show (t.length+n)/64=t.length/64 by omega]
  exact QfE hb hz hp
theorem Qia {b z t:List Int} {n:Nat} (hb:b.length=64) (hz:n≤z.length) (hp:b.take (t.length%64)=t.drop (64*(t.length/64))) (hn:t.length%64+n=64) :
    blk (absorb S0 t (t.length/64)) (into b z (t.length%64) n)=absorb S0 (t++z.take n) ((t++z.take n).length/64):=by
  have hl:(t++z.take n).length=t.length+n:=by rw [List.length_append,List.length_take]; omega
  rw [hl,show (t.length+n)/64=t.length/64+1 by omega]
  show _=blk (absorb S0 (t++z.take n) (t.length/64)) _
  rw [Qdc S0 t _ _ (by omega)]
  have h1:=QfE hb hz hp
  rw [hn,List.take_of_length_le (by rw [Qg7 hb hz (by omega)]; omega)] at h1
  rw [h1,List.take_of_length_le (l:=(t++z.take n).drop (64*(t.length/64))) (by rw [List.length_drop,hl]; omega)]
theorem QgQ {z t:List Int} {n:Nat} (hz:n≤z.length) (hn:t.length%64+n<64):absorb S0 (t++z.take n) ((t++z.take n).length/64)=absorb S0 t (t.length/64):=by
  have hl:(t++z.take n).length=t.length+n:=by rw [List.length_append,List.length_take]; omega
  rw [hl,show (t.length+n)/64=t.length/64 by omega,Qdc S0 t _ _ (by omega)]
section
variable {ds : List Deferred} {ops : Array Oper} {Q : Exit → Act → World → Prop} {rest : List Oper} {o : Oper} {N : Nat} {L : Env} {W : World}
theorem cat3 (a b c:Array Value):(cat [a,b,c]).toList=a.toList++(b.toList++c.toList):=by
  show (a++(b++c)).toList=_
  simp
theorem Qjv {st b z:List Int} {u:Value} {q n:Nat} (hst:st.length=8) (hb:b.length=64) (hz:n≤z.length) (hq:q+n≤64) :
    ((cat [ints .u32 st,ints .u8 b,#[u]]).toList.take (8+q)++(z.take n).map (Value.int .u8)++(cat [ints .u32 st,ints .u8 b,#[u]]).toList.drop (8+q+n)).toArray=cat [ints .u32 st,ints .u8 (into b z q n),#[u]]:=by
  apply Array.ext'
  rw [cat3,cat3]
  have e1:(ints .u32 st).toList=st.map (Value.int .u32):=rfl
  have e2:∀ b,(ints .u8 b).toList=b.map (Value.int .u8):=fun _=>rfl
  rw [e1,e2,e2]
  have l1:(st.map (Value.int .u32)).length=8:=by simpa using hst
  have l2:(b.map (Value.int .u8)).length=64:=by simpa using hb
  show (st.map (Value.int .u32)++(b.map (Value.int .u8)++[u])).take (8+q)++(z.take n).map (Value.int .u8)++(st.map (Value.int .u32)++(b.map (Value.int .u8)++[u])).drop (8+q+n)=_
  rw [show 8+q+n=8+(q+n) by omega]
  rw [←l1,List.take_length_add_append,List.drop_length_add_append,List.take_append_of_le_length (by omega)]
  rw [List.drop_append_of_le_length (by omega)]
  unfold into
  simp only [List.map_append,List.map_take,List.map_drop,List.append_assoc]
theorem Qh4 (x y:Operand) (tx ty:TypeId) (d:Nat) (ho:o.op=.call { callee:=.builtin .copy,args:=#[x,y],argTypes:=#[tx,ty] }) (hu:Tryd.prog.underlying tx=some (.slice 5)) (hd:o.dst=some d) (hgd:Qbu ops o N L=some true)
    {g q n B:Nat} {st b z:List Int} {u v:Value} {T:TypeId} (hst:st.length=8) (hb:b.length=64) (hx:Rely.look (envN N L) x=.slice (some ⟨g,8+q,none⟩) (64-q) (64-q)) (hy:Rely.look (envN N L) y=v) (hr:RdK .u8 B z v W)
    (hg:W.heap[g]? = some (.cells (cat [ints .u32 st,ints .u8 b,#[u]]) T)) (hq:q<64) (hn:n=min z.length (64-q)) (h0:0<z.length)
    (k:∀ W':World,Puts W g W'→W'.heap[g]? = some (.cells (cat [ints .u32 st,ints .u8 (into b z q n),#[u]]) T)→WL Tryd.prog ops Q rest (Qa3 ds N ((d,.int .i64 ((n:Nat):Int))::L)) W'):WL Tryd.prog ops Q (o::rest) (Qa3 ds N L) W:=by
  obtain ⟨a,cap,rfl,y2,y3,y4,y5⟩:=hr
  obtain ⟨gz,oz,rfl,z2,z3,z4⟩:=y5.resolve_left (fun e=>by rw [e] at h0; simp at h0)
  have hlen:((z.take n).map (Value.int .u8)).length=n:=by simp; omega
  have hsz:(cat [ints .u32 st,ints .u8 b,#[u]]).size=73:=by
    rw [←Array.length_toList,cat3]; simp [ints]; omega
  have h:=run_copy_row (P:=Tryd.prog) W tx ty o.type 5 g (8+q) (64-q) (64-q) ⟨gz,oz,none⟩ z.length cap (cat [ints .u32 st,ints .u8 b,#[u]]) T ((z.take n).map (Value.int .u8)) hu kj hg (by rw [hlen]; exact hn)
    (QlQ (k:=.u8) (ys:=z.take n) fun i hi=>by
      rw [List.length_take] at hi
      rw [z4 i (by omega)]
      simp [nth,show i<n by omega]) (by rw [hlen,hsz]; omega) (QlO .u8 _)
  rw [hlen,Qjv hst hb (by omega) (by omega)] at h
  refine QbI (.int .i64 ((n:Nat):Int)) _ d hd hgd ?_ (k _ (QcQ _ _ _) (setRow_heap _ _ _ _ _ _ hg))
  unfold execOp
  simp only [ho,resolve,invoke,builtin,Sem.run_bind,Sem.run_pure,Result.andThen_ok,List.map_toArray,List.map_cons,List.map_nil,hx,hy,h,goInt]
theorem QgR {P : Program} {ρ:Operand→Value} {k:IntKind} {B:Nat} {ys:List Int} {v:Value} (t:TypeId) (x z:Operand) (l n:Nat) (e:TypeId) (ho:o.op=.slice t x (some z) none none) (hx:ρ x=v) (hv:RdK k B ys v W)
    (hu:P.underlying t=some (.slice e)) (hs:(P.info? e).map (·.size)=some 1) (kz:IntKind) (hz:ρ z=.int kz (l:Int)) (h1:l≤ys.length) (hn:ys.length-l=n) :
    ∃ a c,(execOp ρ o).run P W=.ok (.value (.slice a n c)) W∧RdK k B (ys.drop l) (.slice a n c) W∧(Value.slice a n c).ownBlock=v.ownBlock:=by
  obtain ⟨u,h2,h3,h5⟩:=QeU t x z l e ho hx hv hu hs kz hz h1
  obtain ⟨a,c,rfl,h4⟩:=id h3
  rw [List.length_drop,hn] at h2 h3 h5
  exact ⟨a,c,h2,h3,h5⟩
end
section
variable {ds : List Deferred} {ops : Array Oper} {Q : Exit → Act → World → Prop} {rest : List Oper} {o : Oper} {N : Nat} {L : Env} {W : World}
theorem QeT {P : Program} {k:IntKind} {B:Nat} {ys:List Int} {v:Value} (t:TypeId) (x z:Operand) (l n:Nat) (e:TypeId) (d:Nat) (ho:o.op=.slice t x (some z) none none) (hd:o.dst=some d) (hg:Qbu ops o N L=some true) (hx:Rely.look (envN N L) x=v) (hv:RdK k B ys v W)
    (hu:P.underlying t=some (.slice e)) (hs:(P.info? e).map (·.size)=some 1) (kz:IntKind) (hz:Rely.look (envN N L) z=.int kz (l:Int)) (h1:l≤ys.length) (hn:ys.length-l=n)
    (kk:∀ a c,RdK k B (ys.drop l) (.slice a n c) W→(Value.slice a n c).ownBlock=v.ownBlock→WL P ops Q rest (Qa3 ds N ((d,.slice a n c)::L)) W):WL P ops Q (o::rest) (Qa3 ds N L) W:=by
  obtain ⟨a,c,h2,h3,h4⟩:=QgR (ρ:=Rely.look (envN N L)) t x z l n e ho hx hv hu hs kz hz h1 hn
  exact QbI _ _ d hd hg h2 (kk a c h3 h4)
end
theorem run_storeQ {P : Program} {ρ:Operand→Value} {o:Oper} {w:World} (ty:TypeId) (x y:Operand) (g off:Nat) (t:TypeId) (pre post:List (Array Value)) (u v:Value) (hg:w.heap[g]? = some (.cells (cat (pre++([#[u]]++post))) t))
    (ho:o.op=.store ty x y) (hx:ρ x=.pointer (some ⟨g,off,none⟩)) (hy:ρ y=v) (hi:(P.info? ty).map (·.size)=some 1) (hp:(cat pre).size=off) (h1:v.oneCell'=true) (hcs:v.cells=#[v]) :
    (execOp ρ o).run P w=.ok .skip (w.setRow g (cat (pre++([#[v]]++post)))):=by
  subst hp
  have hs:Nat.blt (cat pre).size (cat (pre++([#[u]]++post))).size=true:=by
    have:(cat pre).size<(cat (pre++([#[u]]++post))).size:=by
      rw [QaA,QaA,qS,qS]
      have e1:(cat [#[u]]).size=1:=rfl
      omega
    simpa using this
  have e:(cat (pre++([#[u]]++post))).setIfInBounds (cat pre).size v=cat (pre++([#[v]]++post)):=by
    rw [QaA,QaA,QaA,QaA]
    have e1:∀ z,cat [#[z]]=#[z]:=fun z=>rfl
    rw [e1,e1,Array.setIfInBounds_append_right (qR _),Nat.sub_self,Array.setIfInBounds_append_left (by simp)]
    rfl
  rw [←e]
  exact QaW ty x y g _ t _ v hg ho hx hy hi hs h1 hcs
end Go.Proofs.YthfkppjajmjpnaaDoor.Sha
end
section
namespace Go.Proofs.YthfkppjajmjpnaaDoor.Sha
open Go Go.RowKit
open Rely Auto Own
theorem addC (g B:Nat) (t ys:List Int) (v:Value) (tc:TypeId) (w:World) (hc:w.heap[2]? = some (.cells (ints .u64 Qbk) tc)) (hcg:2≠g) (hB:ys=[]∨v.ownBlock≠some g) (hyb:Qav ys) (hlen:t.length+ys.length≤1000000000) (hd:HasD g t w) (hy:RdK .u8 B ys v w) :
  Calls Tryd.prog 68 #[.pointer (some ⟨g,0,none⟩),v] w (fun e W=>e=.returned (.tuple #[])∧ExtB g w W∧HasD g (t++ys) W):=by
 obtain ⟨a0,c0,rfl,-⟩:=id hy
 refine enter 40 [(0,.pointer (some ⟨g,0,none⟩)),(1,.slice a0 ys.length c0)] Tryd.func68 rfl rfl kj rfl ?_
 refine wp_seq_k fun K3 hK3=>?_
 refine wp_seq_k fun K4 hK4=>?_
 refine Qab ?_
 refine Qaa (.pointer (some ⟨g,0,none⟩)) 5 rfl kj kj ?_
 refine Qaa (.bool false) 6 rfl kj kj ?_
 refine Qaf ?_
 refine hK4 _ _ ?_
 refine cond_false kj ?_
 refine wp_skip ?_
 refine hK3 _ _ ?_
 refine wp_block ?_
 have hyb2:∀ {k:Nat},Qav (ys.drop k):=fun x hx=>hyb x (List.mem_of_mem_drop hx)
 refine Qa0 (fun (s1:Nat×Option Addr×Nat)=>[(0,.pointer (some ⟨g,0,none⟩)),(1,.slice s1.2.1 (ys.length-s1.1) s1.2.2)]) (fun (s1:Nat×Option Addr×Nat) W=>(s1.1≤ys.length)∧(RdK .u8 B (ys.drop s1.1) (.slice s1.2.1 (ys.length-s1.1) s1.2.2) W)∧(s1.1<ys.length→(Value.slice s1.2.1 (ys.length-s1.1) s1.2.2).ownBlock≠some g)∧(HasD g (t++ys.take s1.1) W)∧(ExtB g w W)) (fun (s1:Nat×Option Addr×Nat)=>ys.length-s1.1) (0,a0,c0) ⟨rfl,rfl,trivial⟩ ⟨(Nat.zero_le _),hy,(fun h=>hB.resolve_left (fun e=>by rw [e] at h; exact absurd h (Nat.lt_irrefl _))),(by simpa using hd),(ExtB.refl g w)⟩ fun s1 X1 V1 hI1=>?_
 obtain ⟨k,a,c⟩:=s1
 obtain ⟨hk,hr,hnb,hD,xx1⟩:=hI1
 replace hk:k≤ys.length:=hk
 replace hr:RdK .u8 B (ys.drop k) (.slice a (ys.length-k) c) V1:=hr
 replace hnb:k<ys.length→(Value.slice a (ys.length-k) c).ownBlock≠some g:=hnb
 replace hD:HasD g (t++ys.take k) V1:=hD
 replace xx1:ExtB g w V1:=xx1
 refine wp_seq_k fun K5 hK5=>?_
 refine wp_seq_k fun K6 hK6=>?_
 refine Qab ?_
 refine Qaa (.slice a (ys.length-k) c) 7 rfl kj kj ?_
 refine Qaa (.int .i64 ((ys.length-k:Nat):Int)) 8 rfl kj kj ?_
 refine Qaa (.bool (decide (((ys.length-k:Nat):Int)>0))) 9 rfl kj kj ?_
 refine Qaf ?_
 refine hK6 _ _ ?_
 refine Qar (t:=decide (((ys.length-k:Nat):Int)>0)) kj (fun c7=>?_) (fun c7=>?_)
 ·skip
  have hk2:k<ys.length:=by have:=of_decide_eq_true c7; omega
  obtain ⟨b,hbl,hbb,hbp,hmany,hrow⟩:=hD
  obtain ⟨t1,ht1⟩:∃ z,z=t++ys.take k:=⟨_,rfl⟩
  rw [←ht1] at hbp hmany hrow
  have hlt1:t1.length=t.length+k:=by rw [ht1,List.length_append,List.length_take]; omega
  obtain ⟨m,hm⟩:∃ z,z=t1.length:=⟨_,rfl⟩
  obtain ⟨s,hs⟩:∃ z,z=absorb S0 t1 (t1.length/64):=⟨_,rfl⟩
  obtain ⟨n,hn⟩:∃ z,z=min (ys.drop k).length (64-m%64):=⟨_,rfl⟩
  have hn0:0<n:=by rw [hn,List.length_drop]; omega
  have hn1:n≤ys.length-k:=by rw [hn,List.length_drop]; omega
  have hn2:n≤64-m%64:=by rw [hn]; omega
  rw [←hs,←hm] at hrow
  replace hrow:V1.heap[g]? = some (.cells (cat [ints .u32 ([wv s.a,wv s.b,wv s.c,wv s.d,wv s.e,wv s.f,wv s.g,wv s.h]),ints .u8 (b),#[.int .i64 ((m:Nat):Int)]]) 99):=hrow
  refine wp_skip ?_
  refine hK5 _ _ ?_
  refine wp_block ?_
  refine wp_seq_k fun K8 hK8=>?_
  refine QaX 10 [⟨none,[(0,none)]⟩,⟨none,[(10,some 0)]⟩,⟨none,[(11,some 1)]⟩,⟨none,[(0,none)]⟩,⟨none,[(13,some 3)]⟩,⟨none,[(14,some 4)]⟩,⟨none,[(15,some 5)]⟩,⟨none,[(16,some 6)]⟩,⟨none,[(12,some 2),(17,some 7)]⟩,⟨none,[(1,none)]⟩] kj kj fun F hF=>?_
  refine Qaz (Qam _) (.pointer (some ⟨g,0,none⟩)) kj kj (fun W=>by kernel_rfl) ?_
  refine Qaz (Qam _) (.pointer (some ⟨g,0,none⟩)) kj kj (fun W=>by kernel_rfl) ?_
  refine Qaz (Qam _) (.pointer (some ⟨g,8,none⟩)) kj kj (fun W=>by kernel_rfl) ?_
  refine Qaz (Qam _) (.pointer (some ⟨g,0,none⟩)) kj kj (fun W=>by kernel_rfl) ?_
  refine Qaz (Qam _) (.pointer (some ⟨g,0,none⟩)) kj kj (fun W=>by kernel_rfl) ?_
  refine Qaz (Qam _) (.pointer (some ⟨g,72,none⟩)) kj kj (fun W=>by kernel_rfl) ?_
  refine QaK (Qam _) (.int .i64 ((m:Nat):Int)) kj kj (fun W hR=>(Qag 3 _ g 72 99 _ (.int .i64 ((m:Nat):Int)) _ (Qah (Qah hrow (Qax _)) hR) rfl kj (Qaj [ints .u32 ([wv s.a,wv s.b,wv s.c,wv s.d,wv s.e,wv s.f,wv s.g,wv s.h]),ints .u8 (b)] [#[.int .i64 ((m:Nat):Int)]] [] 72 (by rw [Qac,Qac]; simp only [qS,cat,((Qae _ _).trans hbl)]; rfl) 0 _ rfl) kj)) ?_
  refine Qaz (Qam _) (.int .i64 ((m%64:Nat):Int)) kj kj (fun W=>(Qai (u:=.int .i64 (Int.tmod (((m:Nat):Int)) (64))) kj (congrArg (Value.int .i64) (Qbl _ 64)))) ?_
  refine Qaz (Qam _) (.slice (some ⟨g,8+(m%64),none⟩) (64-(m%64)) (64-(m%64))) kj kj (fun W=>(Qe9 97 _ _ _ (m%64) 64 64 g 8 5 rfl kj kj kj ⟨.i64,by kernel_rfl⟩ rfl (by omega) (by omega) (by omega))) ?_
  refine Qaz (Qam _) (.slice a (ys.length-k) c) kj kj (fun W=>by kernel_rfl) ?_
  refine QcZ (hF _ fun W2 e2=>?_)
  simp only [List.nil_append,List.cons_append,List.take_succ_cons,List.take_zero,List.drop_succ_cons,List.drop_zero,finE,up]
  clear hF
  have x2:ExtB g w W2:=ExtB.ext xx1 e2
  have r2_2:=(Qah hrow e2)
  have f9_2:=(hr.ext e2)
  have hbl2:(into b (ys.drop k) (m%64) n).length=64:=Qg7 hbl (by rw [List.length_drop]; omega) (by omega)
  refine Qh4 (.tmp 18) (.tmp 19) 59 59 20 rfl kj rfl kj (q:=m%64) (n:=n) (b:=b) rfl hbl kj kj f9_2 r2_2 (by omega) hn (by rw [List.length_drop]; omega) fun W3 p3 r2_3=>?_
  have x3:ExtB g w W3:=ExtB.puts x2 p3
  refine Qaa (.int .i64 ((n:Nat):Int)) 4 rfl kj kj ?_
  refine Qaf ?_
  refine hK8 _ _ ?_
  refine wp_seq_k fun K10 hK10=>?_
  refine Qab ?_
  refine Qaa (.slice a (ys.length-k) c) 21 rfl kj kj ?_
  refine Qaa (.int .i64 ((n:Nat):Int)) 22 rfl kj kj ?_
  have f11_3:=(f9_2.putsN p3 (hnb hk2))
  refine QeT 59 (.tmp 21) (.tmp 22) n (ys.length-k-n) 5 23 rfl rfl kj kj f11_3 kj kj .i64 kj (by rw [List.length_drop]; omega) (by rw [List.length_drop]) fun a2 c2 hr2 hob=>?_
  have hnb2:(Value.slice a2 (ys.length-k-n) c2).ownBlock≠some g:=by rw [hob]; exact hnb hk2
  refine Qaa (.slice a2 (ys.length-k-n) c2) 1 rfl kj kj ?_
  refine Qaf ?_
  refine hK10 _ _ ?_
  refine wp_seq_k fun K12 hK12=>?_
  refine Qab ?_
  refine Qaa (.pointer (some ⟨g,0,none⟩)) 24 rfl kj kj ?_
  refine Qaa (.pointer (some ⟨g,0,none⟩)) 25 rfl kj kj ?_
  refine Qaa (.pointer (some ⟨g,72,none⟩)) 26 rfl kj kj ?_
  refine Qaa (.int .i64 ((m:Nat):Int)) 27 rfl kj (Qag 3 _ g 72 99 _ (.int .i64 ((m:Nat):Int)) _ r2_3 rfl kj (Qaj [ints .u32 ([wv s.a,wv s.b,wv s.c,wv s.d,wv s.e,wv s.f,wv s.g,wv s.h]),ints .u8 (into b (ys.drop k) (m%64) n)] [#[.int .i64 ((m:Nat):Int)]] [] 72 (by rw [Qac,Qac]; simp only [qS,cat,((Qae _ _).trans hbl2)]; rfl) 0 _ rfl) kj) ?_
  refine Qaa (.int .i64 ((n:Nat):Int)) 28 rfl kj kj ?_
  refine Qaa (.int .i64 ((m+n:Nat):Int)) 29 rfl kj (Qai (u:=.int .i64 (IntKind.i64.wrap (((m:Nat):Int)+((n:Nat):Int)))) kj (congrArg (Value.int .i64) (i64n _ _ (by omega) (by omega)))) ?_
  refine Qaa (.pointer (some ⟨g,0,none⟩)) 30 rfl kj kj ?_
  refine Qaa (.pointer (some ⟨g,72,none⟩)) 31 rfl kj kj ?_
  refine Qau g _ (cat [ints .u32 ([wv s.a,wv s.b,wv s.c,wv s.d,wv s.e,wv s.f,wv s.g,wv s.h]),ints .u8 (into b (ys.drop k) (m%64) n),#[.int .i64 ((m+n:Nat):Int)]]) 99 r2_3 rfl kj (run_storeQ 3 _ _ g 72 99 [ints .u32 ([wv s.a,wv s.b,wv s.c,wv s.d,wv s.e,wv s.f,wv s.g,wv s.h]),ints .u8 (into b (ys.drop k) (m%64) n)] [] _ (.int .i64 ((m+n:Nat):Int)) r2_3 rfl kj kj kj (by rw [Qac,Qac]; simp only [qS,cat,((Qae _ _).trans hbl2)]; rfl) rfl rfl) fun W4 p4 r2_4=>?_
  have x4:ExtB g w W4:=ExtB.puts x3 p4
  refine Qaf ?_
  refine hK12 _ _ ?_
  refine wp_seq_k fun K13 hK13=>?_
  refine Qab ?_
  refine Qaa (.pointer (some ⟨g,0,none⟩)) 32 rfl kj kj ?_
  refine Qaa (.pointer (some ⟨g,0,none⟩)) 33 rfl kj kj ?_
  refine Qaa (.pointer (some ⟨g,72,none⟩)) 34 rfl kj kj ?_
  refine Qaa (.int .i64 ((m+n:Nat):Int)) 35 rfl kj (Qag 3 _ g 72 99 _ (.int .i64 ((m+n:Nat):Int)) _ r2_4 rfl kj (Qaj [ints .u32 ([wv s.a,wv s.b,wv s.c,wv s.d,wv s.e,wv s.f,wv s.g,wv s.h]),ints .u8 (into b (ys.drop k) (m%64) n)] [#[.int .i64 ((m+n:Nat):Int)]] [] 72 (by rw [Qac,Qac]; simp only [qS,cat,((Qae _ _).trans hbl2)]; rfl) 0 _ rfl) kj) ?_
  refine Qaa (.int .i64 (((m+n)%64:Nat):Int)) 36 rfl kj (Qai (u:=.int .i64 (Int.tmod (((m+n:Nat):Int)) (64))) kj (congrArg (Value.int .i64) (Qbl _ 64))) ?_
  refine Qaa (.bool (((((m+n)%64:Nat):Int)==0))) 37 rfl kj kj ?_
  refine Qaf ?_
  refine hK13 _ _ ?_
  refine Qar (t:=((((m+n)%64:Nat):Int)==0)) kj (fun c14=>?_) (fun c14=>?_)
  ·skip
   have hmod:(m+n)%64=0:=by have:=c14; have h2:=eq_of_beq this; omega
   refine Qab ?_
   refine Qaa (.pointer (some ⟨g,0,none⟩)) 38 rfl kj kj ?_
   have r1_2:=(Qah (ExtB.row xx1 hc hcg) e2)
   have r1_3:=(Puts.row p3 r1_2 hcg)
   have r1_4:=(Puts.row p4 r1_3 hcg)
   refine Qa1 (fun v W'=>v=.tuple #[]∧ExtB g W4 W'∧W'.heap[g]? = some (.cells (cat [ints .u32 ((blk s (into b (ys.drop k) (m%64) n)).l.map wv),ints .u8 (into b (ys.drop k) (m%64) n),#[.int .i64 ((m+n:Nat):Int)]]) 99)) 76 #[.pointer (some ⟨g,0,none⟩)] 39 rfl kj kj ((Qmx g s _ hbl2 (Qd3 hbb hyb2) _ tc _ r1_4 r2_4).mono fun e w' h=>⟨_,h.1,rfl,h.2⟩) fun v W5 h=>?_
   obtain ⟨rfl,q5,r2_5⟩:=h
   have x5:ExtB g w W5:=ExtB.trans x4 q5
   refine Qaf ?_
   have f15_4:=(hr2.putsN p4 hnb2)
   have f16_5:=(f15_4.extN q5 hnb2)
   have hr3:RdK .u8 B (ys.drop (k+n)) (.slice a2 (ys.length-(k+n)) c2) W5:=by
    have h:=f16_5
    rw [List.drop_drop,show ys.length-k-n=ys.length-(k+n) by omega] at h
    exact h
   have hlen3:(t1++(ys.drop k).take n).length=m+n:=by rw [List.length_append,List.length_take,List.length_drop]; omega
   have hnb3:(Value.slice a2 (ys.length-(k+n)) c2).ownBlock≠some g:=by rw [show ys.length-(k+n)=ys.length-k-n by omega]; exact hnb2
   have hT:t++ys.take (k+n)=t1++(ys.drop k).take n:=by rw [ht1,List.append_assoc,List.take_add]
   have hzn:n≤(ys.drop k).length:=by rw [List.length_drop]; omega
   have hb0:(into b (ys.drop k) (m%64) n).take ((t++ys.take (k+n)).length%64)=(t++ys.take (k+n)).drop (64*((t++ys.take (k+n)).length/64)):=by
    rw [hT,hlen3,hmod,List.take_zero,List.drop_of_length_le (by omega)]
   have hst:blk s (into b (ys.drop k) (m%64) n)=absorb S0 (t++ys.take (k+n)) ((t++ys.take (k+n)).length/64):=by rw [hT,hs,hm]; exact Qia hbl hzn hbp (by omega)
   have hD2:HasD g (t++ys.take (k+n)) W5:=⟨_,hbl2,Qd3 hbb hyb2,hb0,by rw [hT,hlen3]; omega,by rw [←hst,hT,hlen3]; exact r2_5⟩
   repeat (first | with_reducible refine goX1 ?_ | with_reducible refine goX2 ?_ | with_reducible refine goX3 ?_)
   exact Qat (k+n,a2,c2) ⟨rfl,(congrArg (fun z=>Value.slice a2 z c2) (by omega)),trivial⟩ ⟨(by omega),hr3,(fun _=>hnb3),hD2,x5⟩ (by show ys.length-(k+n)<ys.length-k; omega)
  ·skip
   have hmod:¬ (m+n)%64=0:=by have:=c14; intro h0; rw [h0] at this; exact absurd this (by decide)
   refine wp_skip ?_
   have f17_4:=(hr2.putsN p4 hnb2)
   have hr3:RdK .u8 B (ys.drop (k+n)) (.slice a2 (ys.length-(k+n)) c2) W4:=by
    have h:=f17_4
    rw [List.drop_drop,show ys.length-k-n=ys.length-(k+n) by omega] at h
    exact h
   have hlen3:(t1++(ys.drop k).take n).length=m+n:=by rw [List.length_append,List.length_take,List.length_drop]; omega
   have hnb3:(Value.slice a2 (ys.length-(k+n)) c2).ownBlock≠some g:=by rw [show ys.length-(k+n)=ys.length-k-n by omega]; exact hnb2
   have hT:t++ys.take (k+n)=t1++(ys.drop k).take n:=by rw [ht1,List.append_assoc,List.take_add]
   have hzn:n≤(ys.drop k).length:=by rw [List.length_drop]; omega
   have hb0:(into b (ys.drop k) (m%64) n).take ((t++ys.take (k+n)).length%64)=(t++ys.take (k+n)).drop (64*((t++ys.take (k+n)).length/64)):=by
    rw [hT,hm]; exact Qib hbl hzn hbp (by omega)
   have hst:s=absorb S0 (t++ys.take (k+n)) ((t++ys.take (k+n)).length/64):=by rw [hT,hs]; exact (QgQ hzn (by omega)).symm
   have hD2:HasD g (t++ys.take (k+n)) W4:=⟨_,hbl2,Qd3 hbb hyb2,hb0,by rw [hT,hlen3]; omega,by rw [←hst,hT,hlen3]; exact r2_4⟩
   repeat (first | with_reducible refine goX1 ?_ | with_reducible refine goX2 ?_ | with_reducible refine goX3 ?_)
   exact Qat (k+n,a2,c2) ⟨rfl,(congrArg (fun z=>Value.slice a2 z c2) (by omega)),trivial⟩ ⟨(by omega),hr3,(fun _=>hnb3),hD2,x4⟩ (by show ys.length-(k+n)<ys.length-k; omega)
 ·skip
  have hk2:k=ys.length:=by have:=of_decide_eq_false c7; omega
  refine wp_exit ?_
  repeat (first | with_reducible refine goX1 ?_ | with_reducible refine goX2 ?_ | with_reducible refine goX3 ?_)
  exact (show bodyPost _ _ _ .normal _ _ from end0 rfl ⟨rfl,xx1,by rw [hk2,List.take_length] at hD; exact hD⟩)
end Go.Proofs.YthfkppjajmjpnaaDoor.Sha
end
section
namespace Go.Proofs.YthfkppjajmjpnaaDoor.Sha
open Go Go.RowKit
open Rely Auto Own
theorem Qeu (n : Nat):Qav (List.replicate n 0):=fun x hx=>by
  have:=List.eq_of_mem_replicate hx
  subst this; decide
theorem Qlb (n : Nat):(64-(n+1+8)%64)%64=QaF n:=by unfold QaF; omega
theorem Ql9 (n : Nat) (h:n≤1000000000):IntKind.u64.wrap ((n:Nat):Int)=((n:Nat):Int):=by
  have:∀ z:Int,IntKind.u64.wrap z=z%2^64:=fun _=>rfl
  rw [this]; omega
theorem Qmw (n : Nat) (h:n≤1000000000):IntKind.u64.wrap (((n:Nat):Int)*2^min (3:Int).toNat IntKind.u64.bits)=((8*n:Nat):Int):=by
  have:∀ z:Int,IntKind.u64.wrap z=z%2^64:=fun _=>rfl
  rw [this,show ((2:Int)^min (3:Int).toNat IntKind.u64.bits)=8 from rfl]; omega
theorem QlA (n : Nat) (h:n≤1000000000):((n:Nat):Int).fdiv (2^min (61:Int).toNat IntKind.u64.bits)=0:=by
  rw [Int.fdiv_eq_ediv_of_nonneg _ (by decide),show ((2:Int)^min (61:Int).toNat IntKind.u64.bits)=2305843009213693952 from rfl]; omega
theorem byteN (m : Nat):IntKind.u8.wrap ((m:Nat):Int)=((m%256:Nat):Int):=by
  have:∀ z:Int,IntKind.u8.wrap z=z%2^8:=fun _=>rfl
  rw [this]; omega
theorem Qmy (n i:Nat):((8*n/256^i:Nat):Int).fdiv (2^min (8:Int).toNat IntKind.u64.bits)=((8*n/256^(i+1):Nat):Int):=by
  rw [Int.fdiv_eq_ediv_of_nonneg _ (by decide),show ((2:Int)^min (8:Int).toNat IntKind.u64.bits)=256 from rfl,Nat.pow_succ,←Nat.div_div_eq_div_mul]; omega
theorem lowlt (n i:Nat) (h:n≤1000000000):8*n/256^(i+1)<18446744073709551616:=Nat.lt_of_le_of_lt (Nat.div_le_self _ _) (by omega)
theorem or0 (m : Nat) (h:m<18446744073709551616):bits .or .u64 ((m:Nat):Int) 0=((m:Nat):Int):=by
  have:=bits_or_u64_nat m 0 h (by decide)
  rw [Nat.or_zero] at this
  exact this
def padL (n i:Nat):List Int:=128::(List.replicate (QaF n) 0++(List.replicate (8-i) 0++(be8 (8*n)).drop (8-i)))
theorem QiQ (n : Nat) {i:Nat} (h:i≤8):(padL n i).length=1+QaF n+8:=by
  have:(be8 (8*n)).length=8:=rfl
  simp [padL,this]; omega
theorem Qde (n : Nat):(QdJ n).length=1+QaF n+8:=by
  have:(be8 (8*n)).length=8:=rfl
  simp [QdJ,this]; omega
theorem QlN (n : Nat):(List.replicate (1+QaF n+8) (0:Int)).set 0 128=padL n 0:=by
  rw [show 1+QaF n+8=(QaF n+8)+1 by omega,List.replicate_succ,List.set_cons_zero,←List.replicate_append_replicate]
  rfl
theorem QiP (n i:Nat) (h:i<8):(padL n i).set (1+QaF n+8-1-i) ((8*n/256^i%256:Nat):Int)=padL n (i+1):=by
  unfold padL
  rw [show 1+QaF n+8-1-i=(QaF n+(7-i))+1 by omega,List.set_cons_succ,List.set_append_right _ _ (by simp),qZ,Nat.add_sub_cancel_left]
  congr 2
  match i,h with
  | 0,_=>rfl
  | 1,_=>rfl
  | 2,_=>rfl
  | 3,_=>rfl
  | 4,_=>rfl
  | 5,_=>rfl
  | 6,_=>rfl
  | 7,_=>rfl
theorem QiN (n : Nat) (hn:n≤1000000000) (w:World):Calls Tryd.prog 77 #[.int .i64 ((n:Nat):Int),.int .i64 64,.int .i64 8] w (QbK w (OwnN .u8 5 w.heap.size (QdJ n))):=by
 have hF:QaF n<64:=by unfold QaF; omega
 refine enter 59 [(0,.int .i64 ((n:Nat):Int)),(1,.int .i64 64),(2,.int .i64 8)] Tryd.func77 rfl rfl kj rfl ?_
 refine wp_seq_k fun K1 hK1=>?_
 refine Qab ?_
 refine Qaa (.slice none 0 0) 6 rfl kj kj ?_
 refine Qaf ?_
 refine hK1 _ _ ?_
 refine wp_seq_k fun K2 hK2=>?_
 refine Qab ?_
 refine Qaa (.int .i64 64) 13 rfl kj kj ?_
 refine Qaa (.int .i64 ((n:Nat):Int)) 14 rfl kj kj ?_
 refine Qaa (.int .i64 ((n+1:Nat):Int)) 15 rfl kj (Qai (u:=.int .i64 (IntKind.i64.wrap (((n:Nat):Int)+1))) kj (congrArg (Value.int .i64) (i64n _ _ (by omega) (by omega)))) ?_
 refine Qaa (.int .i64 8) 16 rfl kj kj ?_
 refine Qaa (.int .i64 (((n+1)+8:Nat):Int)) 17 rfl kj (Qai (u:=.int .i64 (IntKind.i64.wrap (((n+1:Nat):Int)+8))) kj (congrArg (Value.int .i64) (i64n _ _ (by omega) (by omega)))) ?_
 refine Qaa (.int .i64 64) 18 rfl kj kj ?_
 refine Qaa (.int .i64 ((((n+1)+8)%64:Nat):Int)) 19 rfl kj (Qai (u:=.int .i64 (Int.tmod ((((n+1)+8:Nat):Int)) (64))) kj (congrArg (Value.int .i64) (Qbl _ 64))) ?_
 refine Qaa (.int .i64 ((64-(((n+1)+8)%64):Nat):Int)) 20 rfl kj (Qai (u:=.int .i64 (IntKind.i64.wrap (64-((((n+1)+8)%64:Nat):Int)))) kj (congrArg (Value.int .i64) (i64n _ _ (by omega) (by omega)))) ?_
 refine Qaa (.int .i64 64) 21 rfl kj kj ?_
 refine Qaa (.int .i64 (((QaF n:Nat):Int))) 22 rfl kj (Qai (u:=.int .i64 (Int.tmod (((64-(((n+1)+8)%64):Nat):Int)) (64))) kj (congrArg (Value.int .i64) ((Qbl _ 64).trans (congrArg (fun z:Nat=>(z:Int)) (Qlb n))))) ?_
 refine Qaa (.int .i64 (((QaF n:Nat):Int))) 7 rfl kj kj ?_
 refine Qaf ?_
 refine hK2 _ _ ?_
 refine wp_seq_k fun K3 hK3=>?_
 refine Qab ?_
 refine Qaa (.int .i64 (((QaF n:Nat):Int))) 23 rfl kj kj ?_
 refine Qaa (.int .i64 ((1+(QaF n):Nat):Int)) 24 rfl kj (Qai (u:=.int .i64 (IntKind.i64.wrap (1+(((QaF n:Nat):Int))))) kj (congrArg (Value.int .i64) (i64n _ _ (by omega) (by omega)))) ?_
 refine Qaa (.int .i64 8) 25 rfl kj kj ?_
 refine Qaa (.int .i64 (((1+(QaF n))+8:Nat):Int)) 26 rfl kj (Qai (u:=.int .i64 (IntKind.i64.wrap (((1+(QaF n):Nat):Int)+8))) kj (congrArg (Value.int .i64) (i64n _ _ (by omega) (by omega)))) ?_
 refine QaD (ints .u8 (List.replicate ((1+(QaF n))+8) 0)) 5 ((1+(QaF n))+8) 27 rfl kj (Qh6 59 _ _ .i64 .i64 ((1+(QaF n))+8) 5 rfl kj kj kj (.inr kj) (by omega)) fun g4 W1 l4 e1 r4_1=>?_
 have x1:Ext w W1:=Ext.tr (Rely.Ext.refl w) e1
 have b4:w.heap.size≤g4:=qT (Rely.Ext.refl w).size l4
 refine Qaa (.slice (some ⟨g4,0,none⟩) ((1+(QaF n))+8) ((1+(QaF n))+8)) 8 rfl kj kj ?_
 refine Qaf ?_
 refine hK3 _ _ ?_
 refine wp_seq_k fun K5 hK5=>?_
 refine Qab ?_
 refine Qaa (.slice (some ⟨g4,0,none⟩) ((1+(QaF n))+8) ((1+(QaF n))+8)) 28 rfl kj kj ?_
 refine Qaa (.pointer (some ⟨g4,0,none⟩)) 29 rfl kj (QbE 59 _ _ .i64 (0) g4 ((1+(QaF n))+8) ((1+(QaF n))+8) 5 rfl kj kj kj kj (by omega)) ?_
 refine Qau g4 _ (ints .u8 ((List.replicate ((1+(QaF n))+8) 0).set 0 128)) 5 r4_1 rfl kj (Qbe 5 _ _ g4 0 5 _ _ r4_1 rfl kj kj kj (Nat.lt_of_lt_of_eq (by omega) (qZ (n:=((1+(QaF n))+8))).symm)) fun W2 p2 r4_2=>?_
 have x2:Ext w W2:=Puts.ext p2 x1 b4
 refine Qaf ?_
 refine hK5 _ _ ?_
 refine wp_seq_k fun K6 hK6=>?_
 refine Qab ?_
 refine Qaa (.int .i64 ((n:Nat):Int)) 30 rfl kj kj ?_
 refine Qaa (.int .u64 (((n:Nat):Int))) 31 rfl kj (Qai (u:=.int .u64 (IntKind.u64.wrap ((n:Nat):Int))) kj (congrArg (Value.int .u64) (Ql9 n (by omega)))) ?_
 refine Qaa (.int .u64 (((8*n:Nat):Int))) 32 rfl kj (Qbf .shl _ _ _ _ .u64 .u64 _ _ _ rfl kj kj (Qiw _ _ _ _ _ _ (by decide) (Qmw n (by omega)))) ?_
 refine Qaa (.int .i64 ((n:Nat):Int)) 33 rfl kj kj ?_
 refine Qaa (.int .u64 (((n:Nat):Int))) 34 rfl kj (Qai (u:=.int .u64 (IntKind.u64.wrap ((n:Nat):Int))) kj (congrArg (Value.int .u64) (Ql9 n (by omega)))) ?_
 refine Qaa (.int .u64 (0)) 35 rfl kj (Qbf .shr _ _ _ _ .u64 .u64 _ _ _ rfl kj kj (QcN _ _ _ _ _ _ (by decide) (QlA n (by omega)))) ?_
 refine Qaa (.int .u64 (((8*n:Nat):Int))) 9 rfl kj kj ?_
 refine Qaa (.int .u64 (0)) 10 rfl kj kj ?_
 refine Qaf ?_
 refine hK6 _ _ ?_
 refine wp_seq_k fun K7 hK7=>?_
 refine wp_seq_k fun K8 hK8=>?_
 refine Qab ?_
 refine Qaa (.int .i64 8) 36 rfl kj kj ?_
 refine Qaa (.int .i64 0) 37 rfl kj kj ?_
 refine Qaf ?_
 refine hK8 _ _ ?_
 refine wp_block ?_
 refine Qa0 (fun (s1:Nat)=>[(8,.slice (some ⟨g4,0,none⟩) ((1+(QaF n))+8) ((1+(QaF n))+8)),(9,.int .u64 ((8*n/256^s1:Nat):Int)),(10,.int .u64 0),(36,.int .i64 8),(37,.int .i64 ((s1:Nat):Int))]) (fun (s1:Nat) W=>(s1≤8)∧(W.heap[g4]? = some (.cells (ints .u8 (padL n s1)) 5))∧(Qa8 [g4] W2 W)∧(Ext w W)) (fun (s1:Nat)=>8-s1) 0 ⟨rfl,(congrArg (fun z:Nat=>Value.int .u64 (z:Int)) (Nat.div_one _).symm),rfl,rfl,rfl,trivial⟩ ⟨(Nat.zero_le _),(Qba r4_2 (QlN n)),(Qa8.refl [g4] W2),x2⟩ fun s1 X1 V1 hI1=>?_
 obtain ⟨i,hs1⟩:∃ z,z=s1:=⟨_,rfl⟩
 subst hs1
 obtain ⟨hi,q4_1,kk1,xx1⟩:=hI1
 replace hi:i≤8:=hi
 replace q4_1:V1.heap[g4]? = some (.cells (ints .u8 (padL n i)) 5):=q4_1
 replace kk1:Qa8 [g4] W2 V1:=kk1
 replace xx1:Ext w V1:=xx1
 have q3:=kk1
 refine wp_seq_k fun K9 hK9=>?_
 refine Qab ?_
 refine Qaa (.bool (decide (((i:Nat):Int)<8))) 38 rfl kj kj ?_
 refine Qaf ?_
 refine hK9 _ _ ?_
 refine wp_seq_k fun K10 hK10=>?_
 refine Qar (t:=decide (((i:Nat):Int)<8)) kj (fun c11=>?_) (fun c11=>?_)
 ·skip
  have hlt38:i<8:=by have:=of_decide_eq_true c11; omega
  refine wp_skip ?_
  refine hK10 _ _ ?_
  refine wp_seq_k fun K12 hK12=>?_
  refine wp_block ?_
  refine wp_seq_k fun K13 hK13=>?_
  refine Qab ?_
  refine Qaa (.int .i64 ((i:Nat):Int)) 39 rfl kj kj ?_
  refine Qaa (.int .i64 ((i:Nat):Int)) 11 rfl kj kj ?_
  refine Qaf ?_
  refine hK13 _ _ ?_
  refine wp_seq_k fun K14 hK14=>?_
  refine Qab ?_
  refine Qaa (.int .u64 ((8*n/256^i:Nat):Int)) 40 rfl kj kj ?_
  refine Qaa (.int .u8 (((8*n/256^i%256:Nat):Int))) 41 rfl kj (Qai (u:=.int .u8 (IntKind.u8.wrap ((8*n/256^i:Nat):Int))) kj (congrArg (Value.int .u8) (byteN _))) ?_
  refine Qaa (.int .u8 (((8*n/256^i%256:Nat):Int))) 12 rfl kj kj ?_
  refine Qaf ?_
  refine hK14 _ _ ?_
  refine wp_seq_k fun K15 hK15=>?_
  refine Qab ?_
  refine Qaa (.slice (some ⟨g4,0,none⟩) ((1+(QaF n))+8) ((1+(QaF n))+8)) 42 rfl kj kj ?_
  refine Qaa (.slice (some ⟨g4,0,none⟩) ((1+(QaF n))+8) ((1+(QaF n))+8)) 43 rfl kj kj ?_
  refine Qaa (.int .i64 (((1+(QaF n))+8:Nat):Int)) 44 rfl kj kj ?_
  refine Qaa (.int .i64 ((((1+(QaF n))+8)-1:Nat):Int)) 45 rfl kj (Qai (u:=.int .i64 (IntKind.i64.wrap ((((1+(QaF n))+8:Nat):Int)-1))) kj (congrArg (Value.int .i64) (i64n _ _ (by omega) (by omega)))) ?_
  refine Qaa (.int .i64 ((i:Nat):Int)) 46 rfl kj kj ?_
  refine Qaa (.int .i64 (((((1+(QaF n))+8)-1)-i:Nat):Int)) 47 rfl kj (Qai (u:=.int .i64 (IntKind.i64.wrap (((((1+(QaF n))+8)-1:Nat):Int)-((i:Nat):Int)))) kj (congrArg (Value.int .i64) (i64n _ _ (by omega) (by omega)))) ?_
  refine Qaa (.int .u8 (((8*n/256^i%256:Nat):Int))) 48 rfl kj kj ?_
  refine Qaa (.pointer (some ⟨g4,((((1+(QaF n))+8)-1)-i),none⟩)) 49 rfl kj (QbE 59 _ _ .i64 ((((1+(QaF n))+8)-1)-i) g4 ((1+(QaF n))+8) ((1+(QaF n))+8) 5 rfl kj kj kj kj (by omega)) ?_
  refine Qau g4 _ (ints .u8 ((padL n i).set ((((1+(QaF n))+8)-1)-i) (((8*n/256^i%256:Nat):Int)))) 5 q4_1 rfl kj (Qbe 5 _ _ g4 ((((1+(QaF n))+8)-1)-i) 5 _ _ q4_1 rfl kj kj kj (Nat.lt_of_lt_of_eq (by omega) (QiQ n (by omega)).symm)) fun W4 p4 r4_4=>?_
  have x4:Ext w W4:=Puts.ext p4 xx1 b4
  refine Qaf ?_
  refine hK15 _ _ ?_
  refine wp_seq_k fun K16 hK16=>?_
  refine Qab ?_
  refine Qaa (.int .u64 ((8*n/256^i:Nat):Int)) 50 rfl kj kj ?_
  refine Qaa (.int .u64 (((8*n/256^(i+1):Nat):Int))) 51 rfl kj (Qbf .shr _ _ _ _ .u64 .u64 _ _ _ rfl kj kj (QcN _ _ _ _ _ _ (by decide) (Qmy n i))) ?_
  refine Qaa (.int .u64 0) 52 rfl kj kj ?_
  refine Qaa (.int .u64 (0)) 53 rfl kj (Qbf .shl _ _ _ _ .u64 .u64 _ _ _ rfl kj kj (Qiw _ _ _ _ _ _ (by decide) (show IntKind.u64.wrap (0*2^min (56:Int).toNat IntKind.u64.bits)=0 from rfl))) ?_
  refine Qaa (.int .u64 (((8*n/256^(i+1):Nat):Int))) 54 rfl kj (Qai (u:=.int .u64 (bits .or .u64 (((8*n/256^(i+1):Nat):Int)) (0))) kj (congrArg (Value.int .u64) (or0 _ (lowlt n i (by omega))))) ?_
  refine Qaa (.int .u64 (((8*n/256^(i+1):Nat):Int))) 9 rfl kj kj ?_
  refine Qaf ?_
  refine hK16 _ _ ?_
  refine Qab ?_
  refine Qaa (.int .u64 0) 55 rfl kj kj ?_
  refine Qaa (.int .u64 (0)) 56 rfl kj (Qbf .shr _ _ _ _ .u64 .u64 _ _ _ rfl kj kj (QcN _ _ _ _ _ _ (by decide) (show Int.fdiv 0 (2^min (8:Int).toNat IntKind.u64.bits)=0 from rfl))) ?_
  refine Qaa (.int .u64 (0)) 10 rfl kj kj ?_
  refine Qaf ?_
  refine hK12 _ _ ?_
  refine Qab ?_
  refine Qaa (.int .i64 ((i+1:Nat):Int)) 57 rfl kj (Qai (u:=.int .i64 (IntKind.i64.wrap (((i:Nat):Int)+1))) kj (congrArg (Value.int .i64) (i64n _ _ (by omega) (by omega)))) ?_
  refine Qaa (.int .i64 ((i+1:Nat):Int)) 37 rfl kj kj ?_
  refine Qaf ?_
  repeat (first | with_reducible refine goX1 ?_ | with_reducible refine goX2 ?_ | with_reducible refine goX3 ?_)
  exact Qat (i+1) ⟨rfl,rfl,rfl,rfl,rfl,trivial⟩ ⟨(by omega),(Qba r4_4 (QiP n i hlt38)),(Qa8.puts q3 p4 (.inl (by simp))),x4⟩ (by omega)
 ·skip
  have heq38:i=8:=by have:=of_decide_eq_false c11; omega
  have r4_3_17:V1.heap[g4]? = some (.cells (ints .u8 (QdJ n)) 5):=Qba q4_1 (by rw [heq38]; rfl)
  refine wp_exit ?_
  refine hK7 _ _ ?_
  refine wp_seq_k fun K18 hK18=>?_
  refine Qab ?_
  refine Qaa (.slice (some ⟨g4,0,none⟩) ((1+(QaF n))+8) ((1+(QaF n))+8)) 58 rfl kj kj ?_
  refine Qaa (.slice (some ⟨g4,0,none⟩) ((1+(QaF n))+8) ((1+(QaF n))+8)) 6 rfl kj kj ?_
  refine Qaf ?_
  refine hK18 _ _ ?_
  refine wp_ret ?_
  repeat (first | with_reducible refine goR1 ?_ | with_reducible refine goR2 ?_)
  exact (show bodyPost _ _ _ .ret _ _ from ret1 (.slice (some ⟨g4,0,none⟩) ((1+(QaF n))+8) ((1+(QaF n))+8)) rfl (Qaq kj) ⟨_,rfl,xx1,QbY (Qde n) b4 r4_3_17 (by simp only [maxLen]; omega)⟩)
theorem newC (tq : TypeId) (w:World) (hq:w.heap[0]? = some (.cells (ints .u64 QaN) tq)):Calls Tryd.prog 67 #[] w (QbK w (fun v W=>∃ g,v=.pointer (some ⟨g,0,none⟩)∧w.heap.size≤g∧HasD g [] W)):=by
 refine enter 21 [] Tryd.func67 rfl rfl kj rfl ?_
 refine wp_seq_k fun K2 hK2=>?_
 refine Qab ?_
 refine Qaa (.pointer none) 0 rfl kj kj ?_
 refine Qaf ?_
 refine hK2 _ _ ?_
 refine wp_seq_k fun K3 hK3=>?_
 refine Qab ?_
 refine Qaa (.agg (cat [ints .u32 ([0,0,0,0,0,0,0,0]),ints .u8 (List.replicate 64 0),#[.int .i64 0]])) 4 rfl kj kj ?_
 refine Qan (cat [ints .u32 ([0,0,0,0,0,0,0,0]),ints .u8 (List.replicate 64 0),#[.int .i64 0]]) 99 5 rfl kj kj fun g4 W1 l4 e1 r4_1=>?_
 have x1:Ext w W1:=Ext.tr (Rely.Ext.refl w) e1
 have b4:w.heap.size≤g4:=qT (Rely.Ext.refl w).size l4
 refine Qaa (.pointer (some ⟨g4,0,none⟩)) 1 rfl kj kj ?_
 refine Qaf ?_
 refine hK3 _ _ ?_
 refine wp_seq_k fun K5 hK5=>?_
 refine wp_seq_k fun K6 hK6=>?_
 refine Qab ?_
 have r1_1:=(Qah hq e1)
 refine Qaa (.agg (ints .u64 (QaN))) 6 rfl kj (Qa4 100 _ 0 tq _ _ r1_1 rfl kj kj (isz (n:=8) kj ((Qae _ _).trans (show QaN.length=8 from rfl)))) ?_
 refine Qaa (.int .i64 0) 7 rfl kj kj ?_
 refine Qaf ?_
 refine hK6 _ _ ?_
 refine wp_block ?_
 have rz_:W1.heap[g4]? = some (.cells (cat [ints .u32 (fill (S0.l.map wv) 8 0),ints .u8 (List.replicate 64 0),#[.int .i64 0]]) 99):=r4_1
 refine Qa0 (fun (s1:Nat)=>[(1,.pointer (some ⟨g4,0,none⟩)),(4,.agg (cat [ints .u32 ([0,0,0,0,0,0,0,0]),ints .u8 (List.replicate 64 0),#[.int .i64 0]])),(5,.pointer (some ⟨g4,0,none⟩)),(6,.agg (ints .u64 (QaN))),(7,.int .i64 ((s1:Nat):Int))]) (fun (s1:Nat) W=>(s1≤8)∧(W.heap[g4]? = some (.cells (cat [ints .u32 (fill (S0.l.map wv) 8 s1),ints .u8 (List.replicate 64 0),#[.int .i64 0]]) 99))∧(Qa8 [g4] W1 W)∧(Ext w W)) (fun (s1:Nat)=>8-s1) 0 ⟨rfl,rfl,rfl,rfl,rfl,trivial⟩ ⟨(Nat.zero_le _),rz_,(Qa8.refl [g4] W1),x1⟩ fun s1 X1 V1 hI1=>?_
 obtain ⟨p,hs1⟩:∃ z,z=s1:=⟨_,rfl⟩
 subst hs1
 obtain ⟨hp,q4_1,kk1,xx1⟩:=hI1
 replace hp:p≤8:=hp
 replace q4_1:V1.heap[g4]? = some (.cells (cat [ints .u32 (fill (S0.l.map wv) 8 p),ints .u8 (List.replicate 64 0),#[.int .i64 0]]) 99):=q4_1
 replace kk1:Qa8 [g4] W1 V1:=kk1
 replace xx1:Ext w V1:=xx1
 have q2:=kk1
 refine wp_seq_k fun K7 hK7=>?_
 refine Qab ?_
 refine Qaa (.bool (decide (((p:Nat):Int)<8))) 8 rfl kj kj ?_
 refine Qaf ?_
 refine hK7 _ _ ?_
 refine wp_seq_k fun K8 hK8=>?_
 refine Qar (t:=decide (((p:Nat):Int)<8)) kj (fun c9=>?_) (fun c9=>?_)
 ·skip
  have hlt8:p<8:=by have:=of_decide_eq_true c9; omega
  refine wp_skip ?_
  refine hK8 _ _ ?_
  refine wp_seq_k fun K10 hK10=>?_
  refine wp_block ?_
  refine wp_seq_k fun K11 hK11=>?_
  refine Qab ?_
  refine Qaa (.int .i64 ((p:Nat):Int)) 9 rfl kj kj ?_
  refine Qaa (.int .u64 (nth QaN p)) 10 rfl kj (QbW 100 _ _ .i64 .u64 (QaN) p 8 78 (nth QaN p) rfl kj kj kj kj kj (show QaN.length=8 from rfl) (by omega) rfl) ?_
  refine Qaa (.int .i64 ((p:Nat):Int)) 2 rfl kj kj ?_
  refine Qaa (.int .u64 (nth QaN p)) 3 rfl kj kj ?_
  refine Qaf ?_
  refine hK11 _ _ ?_
  refine Qab ?_
  refine Qaa (.pointer (some ⟨g4,0,none⟩)) 11 rfl kj kj ?_
  refine Qaa (.int .i64 ((p:Nat):Int)) 12 rfl kj kj ?_
  refine Qaa (.int .u64 (nth QaN p)) 13 rfl kj kj ?_
  refine Qaa (.int .u64 (nth QaN p/4294967296)) 14 rfl kj (Qbf .shr _ _ _ _ .u64 .u64 _ _ _ rfl kj kj (QcN _ _ _ _ _ _ (by decide) (QlF _))) ?_
  refine Qaa (.int .u32 (nth (S0.l.map wv) p)) 15 rfl kj (Qai (u:=.int .u32 (IntKind.u32.wrap (nth QaN p/4294967296))) kj (congrArg (Value.int .u32) ((by decide +kernel:∀ i:Fin 8,IntKind.u32.wrap (nth QaN i.val/4294967296)=nth (S0.l.map wv) i.val) ⟨p,hlt8⟩))) ?_
  refine Qaa (.pointer (some ⟨g4,0,none⟩)) 16 rfl kj kj ?_
  refine Qaa (.pointer (some ⟨g4,0,none⟩)) 17 rfl kj kj ?_
  refine Qaa (.pointer (some ⟨g4,0+p*1,none⟩)) 18 rfl kj (QbO 77 _ _ .i64 p g4 0 8 76 1 rfl kj kj kj kj (show p<8 by omega)) ?_
  refine Qau g4 _ (cat [ints .u32 ((fill (S0.l.map wv) 8 p).set p (nth (S0.l.map wv) p)),ints .u8 (List.replicate 64 0),#[.int .i64 0]]) 99 q4_1 rfl kj (Qe8 76 _ _ g4 (0+p*1) 99 [] [ints .u8 (List.replicate 64 0),#[.int .i64 0]] (fill (S0.l.map wv) 8 p) 0 p _ q4_1 rfl kj kj kj kj (by omega) (Nat.lt_of_lt_of_eq (show p<8 by omega) (Qbx (n:=8) rfl hp).symm)) fun W3 p3 r4_3=>?_
  have x3:Ext w W3:=Puts.ext p3 xx1 b4
  refine Qaf ?_
  refine hK10 _ _ ?_
  refine Qab ?_
  refine Qaa (.int .i64 ((p+1:Nat):Int)) 19 rfl kj (Qai (u:=.int .i64 (IntKind.i64.wrap (((p:Nat):Int)+1))) kj (congrArg (Value.int .i64) (i64n _ _ (by omega) (by omega)))) ?_
  refine Qaa (.int .i64 ((p+1:Nat):Int)) 7 rfl kj kj ?_
  refine Qaf ?_
  have rg_:W3.heap[g4]? = some (.cells (cat [ints .u32 (fill (S0.l.map wv) 8 (p+1)),ints .u8 (List.replicate 64 0),#[.int .i64 0]]) 99):=by have h9:=r4_3; rw [QcJ (n:=8) rfl hlt8] at h9; exact h9
  repeat (first | with_reducible refine goX1 ?_ | with_reducible refine goX2 ?_ | with_reducible refine goX3 ?_)
  exact Qat (p+1) ⟨rfl,rfl,rfl,rfl,rfl,trivial⟩ ⟨(by omega),rg_,(Qa8.puts q2 p3 (.inl (by simp))),x3⟩ (by show 8-(p+1)<8-p; omega)
 ·skip
  have heq8:p=8:=by have:=of_decide_eq_false c9; omega
  have rh_:V1.heap[g4]? = some (.cells (cat [ints .u32 (S0.l.map wv),ints .u8 (List.replicate 64 0),#[.int .i64 0]]) 99):=by have h9:=q4_1; rw [heq8,Qdp (show (S0.l.map wv).length=8 from rfl)] at h9; exact h9
  refine wp_exit ?_
  refine hK5 _ _ ?_
  refine wp_seq_k fun K12 hK12=>?_
  refine Qab ?_
  refine Qaa (.pointer (some ⟨g4,0,none⟩)) 20 rfl kj kj ?_
  refine Qaa (.pointer (some ⟨g4,0,none⟩)) 0 rfl kj kj ?_
  refine Qaf ?_
  refine hK12 _ _ ?_
  refine wp_ret ?_
  repeat (first | with_reducible refine goR1 ?_ | with_reducible refine goR2 ?_)
  exact (show bodyPost _ _ _ .ret _ _ from ret1 (.pointer (some ⟨g4,0,none⟩)) rfl (Qaq kj) ⟨_,rfl,xx1,_,rfl,b4,List.replicate 64 0,qZ,Qeu 64,rfl,Nat.zero_le _,rh_⟩)
end Go.Proofs.YthfkppjajmjpnaaDoor.Sha
end
section
namespace Go.Proofs.YthfkppjajmjpnaaDoor.Sha
open Go Go.RowKit
open Rely Auto Own
theorem Ql0 (x : Int):IntKind.u8.wrap x=x%256:=by
  have:IntKind.u8.wrap x=x%2^8:=rfl
  rw [this]; rfl
theorem Ql3 (x : Wd) (n d:Nat) (h:2^n=d):IntKind.u8.wrap (wv (x>>>n))=((x.toNat/d%256:Nat):Int):=by
  subst h
  rw [Ql0]; unfold wv; rw [BitVec.toNat_ushiftRight,Nat.shiftRight_eq_div_pow]; omega
theorem Qgv (s : S8) {a b:Nat} (ha:a<8) (hb:b<4):IntKind.u8.wrap (wv (wget s.l a>>>(24-8*b)))=nth s.out (4*a+b):=by
  rcases (show b=0∨b=1∨b=2∨b=3 by omega) with rfl | rfl | rfl | rfl <;> rcases (show a=0∨a=1∨a=2∨a=3∨a=4∨a=5∨a=6∨a=7 by omega) with rfl | rfl | rfl | rfl | rfl | rfl | rfl | rfl <;> exact Ql3 _ _ _ (by decide)
theorem Qef (n : Nat):Qav (QdJ n):=fun x hx=>by
  unfold QdJ at hx
  rcases List.mem_cons.1 hx with h | h
  · omega
  · rcases List.mem_append.1 h with h | h
    · exact Qeu _ x h
    · simp only [be8,List.mem_cons,List.not_mem_nil,or_false] at h
      rcases h with h | h | h | h | h | h | h | h <;> omega
set_option maxHeartbeats 8000000 in
theorem sumC (g : Nat) (t:List Int) (tc:TypeId) (w:World) (hc:w.heap[2]? = some (.cells (ints .u64 Qbk) tc)) (hlen:t.length≤900000000) (hd:HasD g t w):Calls Tryd.prog 69 #[.pointer (some ⟨g,0,none⟩)] w (Ret w (.agg (ints .u8 (dig t)))):=by
 obtain ⟨b,hbl,hbb,hbp,hmany,hrow⟩:=hd
 obtain ⟨s,hs⟩:∃ z,z=absorb S0 t (t.length/64):=⟨_,rfl⟩
 rw [←hs] at hrow
 replace hrow:w.heap[g]? = some (.cells (cat [ints .u32 ([wv s.a,wv s.b,wv s.c,wv s.d,wv s.e,wv s.f,wv s.g,wv s.h]),ints .u8 (b),#[.int .i64 ((t.length:Nat):Int)]]) 99):=hrow
 refine enter 43 [(0,.pointer (some ⟨g,0,none⟩))] Tryd.func69 rfl rfl kj rfl ?_
 refine wp_seq_k fun K3 hK3=>?_
 refine Qab ?_
 refine Qan (ints .u8 (List.replicate 32 0)) 28 2 rfl kj kj fun g4 W1 l4 e1 r4_1=>?_
 have x1:Ext w W1:=Ext.tr (Rely.Ext.refl w) e1
 have b4:w.heap.size≤g4:=qT (Rely.Ext.refl w).size l4
 refine Qaf ?_
 refine hK3 _ _ ?_
 refine wp_seq_k fun K5 hK5=>?_
 refine Qab ?_
 refine Qan (ints .u8 (List.replicate 32 0)) 28 3 rfl kj kj fun g6 W2 l6 e2 r6_2=>?_
 have x2:Ext w W2:=Ext.tr x1 e2
 have b6:w.heap.size≤g6:=qT x1.size l6
 refine Qaf ?_
 refine hK5 _ _ ?_
 refine wp_seq_k fun K7 hK7=>?_
 refine wp_seq_k fun K8 hK8=>?_
 refine Qab ?_
 refine Qaa (.pointer (some ⟨g,0,none⟩)) 8 rfl kj kj ?_
 refine Qaa (.bool false) 9 rfl kj kj ?_
 refine Qaf ?_
 refine hK8 _ _ ?_
 refine cond_false kj ?_
 refine wp_skip ?_
 refine hK7 _ _ ?_
 refine wp_seq_k fun K9 hK9=>?_
 refine Qab ?_
 refine Qaa (.pointer (some ⟨g,0,none⟩)) 11 rfl kj kj ?_
 refine Qaa (.pointer (some ⟨g,0,none⟩)) 12 rfl kj kj ?_
 have r2_1:=(Qah hrow e1)
 have r2_2:=(Qah r2_1 e2)
 refine Qaa (.agg (cat [ints .u32 ([wv s.a,wv s.b,wv s.c,wv s.d,wv s.e,wv s.f,wv s.g,wv s.h]),ints .u8 (b),#[.int .i64 ((t.length:Nat):Int)]])) 13 rfl kj (Qa4 99 _ g 99 _ _ r2_2 rfl kj kj (isz (n:=73) kj (by rw [Qac,Qac,Qac]; simp only [qS,cat,((Qae _ _).trans hbl)]; rfl))) ?_
 refine Qan (cat [ints .u32 ([0,0,0,0,0,0,0,0]),ints .u8 (List.replicate 64 0),#[.int .i64 0]]) 99 4 rfl kj kj fun g10 W3 l10 e3 r10_3=>?_
 have x3:Ext w W3:=Ext.tr x2 e3
 have b10:w.heap.size≤g10:=qT x2.size l10
 refine Qau g10 _ (cat [ints .u32 ([wv s.a,wv s.b,wv s.c,wv s.d,wv s.e,wv s.f,wv s.g,wv s.h]),ints .u8 (b),#[.int .i64 ((t.length:Nat):Int)]]) 99 r10_3 rfl kj (Qas 99 _ _ g10 99 _ _ r10_3 rfl kj kj (isz (n:=73) kj (by rw [Qac,Qac,Qac]; simp only [qS,cat,((Qae _ _).trans hbl)]; rfl)) (eqsz (n:=73) (by rw [Qac,Qac,Qac]; simp only [qS,cat,((Qae _ _).trans (qZ (n:=64)))]; rfl) (by rw [Qac,Qac,Qac]; simp only [qS,cat,((Qae _ _).trans hbl)]; rfl)) (Qbm _ (by intro a ha; simp only [List.mem_cons,List.not_mem_nil,or_false] at ha; rcases ha with rfl | rfl | rfl; exact (Qaw _ _); exact (Qaw _ _); exact (Qa7 _ rfl)))) fun W4 p4 r10_4=>?_
 have x4:Ext w W4:=Puts.ext p4 x3 b10
 refine Qaf ?_
 refine hK9 _ _ ?_
 refine wp_seq_k fun K11 hK11=>?_
 refine Qab ?_
 refine Qaa (.pointer (some ⟨g,0,none⟩)) 14 rfl kj kj ?_
 refine Qaa (.pointer (some ⟨g,0,none⟩)) 15 rfl kj kj ?_
 refine Qaa (.pointer (some ⟨g,72,none⟩)) 16 rfl kj kj ?_
 have r2_3:=(Qah r2_2 e3)
 have r2_4:=(Puts.row p4 r2_3 (Qay r2_2 l10))
 refine Qaa (.int .i64 ((t.length:Nat):Int)) 17 rfl kj (Qag 3 _ g 72 99 _ (.int .i64 ((t.length:Nat):Int)) _ r2_4 rfl kj (Qaj [ints .u32 ([wv s.a,wv s.b,wv s.c,wv s.d,wv s.e,wv s.f,wv s.g,wv s.h]),ints .u8 (b)] [#[.int .i64 ((t.length:Nat):Int)]] [] 72 (by rw [Qac,Qac]; simp only [qS,cat,((Qae _ _).trans hbl)]; rfl) 0 _ rfl) kj) ?_
 refine Qa1 (fun v W'=>(OwnN .u8 5 W4.heap.size (QdJ t.length)) v W'∧Ext W4 W') 77 #[.int .i64 ((t.length:Nat):Int),.int .i64 64,.int .i64 8] 18 rfl kj kj ((QiN t.length (by omega) _).mono (by rintro e w' ⟨v,rfl,e1,hv⟩; exact ⟨v,rfl,hv,e1⟩)) fun vv12 W5 hh12=>?_
 obtain ⟨hv12,e5⟩:=hh12
 have x5:Ext w W5:=Ext.tr x4 e5
 have r10_5:=(Qah r10_4 e5)
 have r1_1:=(Qah hc e1)
 have r1_2:=(Qah r1_1 e2)
 have r1_3:=(Qah r1_2 e3)
 have r1_4:=(Puts.row p4 r1_3 (Qay r1_2 l10))
 have r1_5:=(Qah r1_4 e5)
 have hd4:HasD g10 t W5:=⟨b,hbl,hbb,hbp,hmany,by rw [←hs]; exact r10_5⟩
 have hp4:=hv12
 have hfl:QaF t.length<64:=by unfold QaF; omega
 have hpl:t.length+(QdJ t.length).length≤1000000000:=by rw [Qde]; omega
 refine Qa1 (fun v W'=>v=.tuple #[]∧ExtB g10 W5 W'∧HasD g10 (t++QdJ t.length) W') 68 #[.pointer (some ⟨g10,0,none⟩),vv12] 19 rfl kj kj ((addC g10 _ t (QdJ t.length) _ tc _ r1_5 (Qay r1_2 l10) (.inr (hp4.nb (Qa5 r10_4))) (Qef _) hpl hd4 (OwnN.rd hp4)).mono fun e w' h=>⟨_,h.1,rfl,h.2⟩) fun v W6 h=>?_
 obtain ⟨rfl,q6,hD5⟩:=h
 have x6:Ext w W6:=ExtB.up x5 q6 b10
 obtain ⟨b5,hbl5,hbb5,-,-,hrow5⟩:=hD5
 obtain ⟨s5,hs5⟩:∃ z,z=absorb S0 (padT t) ((padT t).length/64):=⟨_,rfl⟩
 rw [show t++QdJ t.length=padT t from rfl,←hs5] at hrow5
 replace hrow5:W6.heap[g10]? = some (.cells (cat [ints .u32 ([wv s5.a,wv s5.b,wv s5.c,wv s5.d,wv s5.e,wv s5.f,wv s5.g,wv s5.h]),ints .u8 (b5),#[.int .i64 (((padT t).length:Nat):Int)]]) 99):=hrow5
 refine Qaf ?_
 refine hK11 _ _ ?_
 refine wp_seq_k fun K13 hK13=>?_
 refine wp_seq_k fun K14 hK14=>?_
 refine Qab ?_
 refine Qaa (.pointer (some ⟨g10,0,none⟩)) 20 rfl kj kj ?_
 refine Qaa (.agg (ints .u32 ([wv s5.a,wv s5.b,wv s5.c,wv s5.d,wv s5.e,wv s5.f,wv s5.g,wv s5.h]))) 21 rfl kj (Qao 77 _ g10 0 99 _ _ _ hrow5 rfl kj (Qaj [] [ints .u32 ([wv s5.a,wv s5.b,wv s5.c,wv s5.d,wv s5.e,wv s5.f,wv s5.g,wv s5.h])] [ints .u8 (b5),#[.int .i64 (((padT t).length:Nat):Int)]] 0 kj) kj (isz (n:=8) kj kj)) ?_
 refine Qaa (.int .i64 0) 22 rfl kj kj ?_
 refine Qaf ?_
 refine hK14 _ _ ?_
 refine wp_block ?_
 have r6_3:=(Qah r6_2 e3)
 have r6_4:=(Puts.row p4 r6_3 (Qay r6_2 l10))
 have r6_5:=(Qah r6_4 e5)
 have r6_6:=(ExtB.row q6 r6_5 (Qay r6_2 l10))
 refine Qa0 (fun (s1:Nat)=>[(2,.pointer (some ⟨g4,0,none⟩)),(3,.pointer (some ⟨g6,0,none⟩)),(21,.agg (ints .u32 ([wv s5.a,wv s5.b,wv s5.c,wv s5.d,wv s5.e,wv s5.f,wv s5.g,wv s5.h]))),(22,.int .i64 ((s1:Nat):Int))]) (fun (s1:Nat) W=>(s1≤8)∧(W.heap[g6]? = some (.cells (ints .u8 (fill s5.out 32 (4*s1))) 28))∧(Qa8 [g6] W6 W)∧(Ext w W)) (fun (s1:Nat)=>8-s1) 0 ⟨rfl,rfl,rfl,rfl,trivial⟩ ⟨(Nat.zero_le _),(Qba r6_6 (Qdo s5.out 32).symm),(Qa8.refl [g6] W6),x6⟩ fun s1 X1 V1 hI1=>?_
 obtain ⟨i,hs1⟩:∃ z,z=s1:=⟨_,rfl⟩
 subst hs1
 obtain ⟨hi,q6_1,kk1,xx1⟩:=hI1
 replace hi:i≤8:=hi
 replace q6_1:V1.heap[g6]? = some (.cells (ints .u8 (fill s5.out 32 (4*i))) 28):=q6_1
 replace kk1:Qa8 [g6] W6 V1:=kk1
 replace xx1:Ext w V1:=xx1
 have q7:=kk1
 refine wp_seq_k fun K15 hK15=>?_
 refine Qab ?_
 refine Qaa (.bool (decide (((i:Nat):Int)<8))) 23 rfl kj kj ?_
 refine Qaf ?_
 refine hK15 _ _ ?_
 refine wp_seq_k fun K16 hK16=>?_
 refine Qar (t:=decide (((i:Nat):Int)<8)) kj (fun c17=>?_) (fun c17=>?_)
 ·skip
  have hlt23:i<8:=by have:=of_decide_eq_true c17; omega
  refine wp_skip ?_
  refine hK16 _ _ ?_
  refine wp_seq_k fun K18 hK18=>?_
  refine wp_block ?_
  refine wp_seq_k fun K19 hK19=>?_
  refine Qab ?_
  refine Qaa (.int .i64 ((i:Nat):Int)) 24 rfl kj kj ?_
  refine Qaa (.int .u32 (wv (wget s5.l i))) 25 rfl kj (QbW 77 _ _ .i64 .u32 ([wv s5.a,wv s5.b,wv s5.c,wv s5.d,wv s5.e,wv s5.f,wv s5.g,wv s5.h]) i 8 76 (wv (wget s5.l i)) rfl kj kj kj kj kj rfl (by omega) (show nth (s5.l.map wv) i=_ from QbG _ _)) ?_
  refine Qaa (.int .i64 ((i:Nat):Int)) 5 rfl kj kj ?_
  refine Qaa (.int .u32 (wv (wget s5.l i))) 6 rfl kj kj ?_
  refine Qaf ?_
  refine hK19 _ _ ?_
  refine wp_seq_k fun K20 hK20=>?_
  refine Qab ?_
  refine Qaa (.int .i64 0) 26 rfl kj kj ?_
  refine Qaf ?_
  refine hK20 _ _ ?_
  refine wp_block ?_
  refine Qa0 (fun (s2:Nat)=>[(2,.pointer (some ⟨g4,0,none⟩)),(3,.pointer (some ⟨g6,0,none⟩)),(5,.int .i64 ((i:Nat):Int)),(6,.int .u32 (wv (wget s5.l i))),(21,.agg (ints .u32 ([wv s5.a,wv s5.b,wv s5.c,wv s5.d,wv s5.e,wv s5.f,wv s5.g,wv s5.h]))),(22,.int .i64 ((i:Nat):Int)),(26,.int .i64 ((s2:Nat):Int))]) (fun (s2:Nat) W=>(s2≤4)∧(W.heap[g6]? = some (.cells (ints .u8 (fill s5.out 32 (4*i+s2))) 28))∧(Qa8 [g6] V1 W)∧(Ext w W)) (fun (s2:Nat)=>4-s2) 0 ⟨rfl,rfl,rfl,rfl,rfl,rfl,rfl,trivial⟩ ⟨(Nat.zero_le _),(Qba q6_1 (show _=fill s5.out 32 (4*i+0) from rfl)),(Qa8.refl [g6] V1),xx1⟩ fun s2 X2 V2 hI2=>?_
  obtain ⟨j,hs2⟩:∃ z,z=s2:=⟨_,rfl⟩
  subst hs2
  obtain ⟨hj,q6_2,kk2,xx2⟩:=hI2
  replace hj:j≤4:=hj
  replace q6_2:V2.heap[g6]? = some (.cells (ints .u8 (fill s5.out 32 (4*i+j))) 28):=q6_2
  replace kk2:Qa8 [g6] V1 V2:=kk2
  replace xx2:Ext w V2:=xx2
  have q8:=kk2
  refine wp_seq_k fun K21 hK21=>?_
  refine Qab ?_
  refine Qaa (.bool (decide (((j:Nat):Int)<4))) 27 rfl kj kj ?_
  refine Qaf ?_
  refine hK21 _ _ ?_
  refine wp_seq_k fun K22 hK22=>?_
  refine Qar (t:=decide (((j:Nat):Int)<4)) kj (fun c23=>?_) (fun c23=>?_)
  ·skip
   have hlt27:j<4:=by have:=of_decide_eq_true c23; omega
   refine wp_skip ?_
   refine hK22 _ _ ?_
   refine wp_seq_k fun K24 hK24=>?_
   refine wp_block ?_
   refine wp_seq_k fun K25 hK25=>?_
   refine Qab ?_
   refine Qaa (.int .i64 ((j:Nat):Int)) 28 rfl kj kj ?_
   refine Qaa (.int .i64 ((j:Nat):Int)) 7 rfl kj kj ?_
   refine Qaf ?_
   refine hK25 _ _ ?_
   refine Qab ?_
   refine Qaa (.int .i64 ((i:Nat):Int)) 29 rfl kj kj ?_
   refine Qaa (.int .i64 ((4*i:Nat):Int)) 30 rfl kj (Qai (u:=.int .i64 (IntKind.i64.wrap (4*((i:Nat):Int)))) kj (congrArg (Value.int .i64) (i64n _ _ (by omega) (by omega)))) ?_
   refine Qaa (.int .i64 ((j:Nat):Int)) 31 rfl kj kj ?_
   refine Qaa (.int .i64 (((4*i)+j:Nat):Int)) 32 rfl kj (Qai (u:=.int .i64 (IntKind.i64.wrap (((4*i:Nat):Int)+((j:Nat):Int)))) kj (congrArg (Value.int .i64) (i64n _ _ (by omega) (by omega)))) ?_
   refine Qaa (.int .u32 (wv (wget s5.l i))) 33 rfl kj kj ?_
   refine Qaa (.int .i64 ((j:Nat):Int)) 34 rfl kj kj ?_
   refine Qaa (.int .i64 ((8*j:Nat):Int)) 35 rfl kj (Qai (u:=.int .i64 (IntKind.i64.wrap (8*((j:Nat):Int)))) kj (congrArg (Value.int .i64) (i64n _ _ (by omega) (by omega)))) ?_
   refine Qaa (.int .i64 (((24-8*j:Nat):Int))) 36 rfl kj (Qai (u:=.int .i64 (IntKind.i64.wrap (24-((8*j:Nat):Int)))) kj (congrArg (Value.int .i64) (i64n _ _ (by omega) (by omega)))) ?_
   refine Qaa (.int .u32 (wv (wget s5.l i>>>(24-8*j)))) 37 rfl kj (Qbf .shr _ _ _ _ .u32 .i64 _ _ _ rfl kj kj (QcN _ _ _ _ _ _ (by omega) (Qfs _ _ (24-8*j) rfl (by omega)))) ?_
   refine Qaa (.int .u8 (nth s5.out (4*i+j))) 38 rfl kj (Qai (u:=.int .u8 (IntKind.u8.wrap (wv (wget s5.l i>>>(24-8*j))))) kj (congrArg (Value.int .u8) (Qgv s5 hlt23 hlt27))) ?_
   refine Qaa (.pointer (some ⟨g6,(4*i)+j,none⟩)) 39 rfl kj (QaR _ _ _ .i64 ((4*i)+j) _ 32 5 rfl kj kj kj kj (by omega)) ?_
   refine Qau g6 _ (ints .u8 ((fill s5.out 32 (4*i+j)).set ((4*i)+j) (nth s5.out (4*i+j)))) 28 q6_2 rfl kj (Qbe 5 _ _ g6 ((4*i)+j) 28 _ _ q6_2 rfl kj kj kj (Nat.lt_of_lt_of_eq (by omega) (Qbx (show s5.out.length=32 from rfl) (by omega)).symm)) fun W9 p9 r6_9=>?_
   have x9:Ext w W9:=Puts.ext p9 xx2 b6
   refine Qaf ?_
   refine hK24 _ _ ?_
   refine Qab ?_
   refine Qaa (.int .i64 ((j+1:Nat):Int)) 40 rfl kj (Qai (u:=.int .i64 (IntKind.i64.wrap (((j:Nat):Int)+1))) kj (congrArg (Value.int .i64) (i64n _ _ (by omega) (by omega)))) ?_
   refine Qaa (.int .i64 ((j+1:Nat):Int)) 26 rfl kj kj ?_
   refine Qaf ?_
   repeat (first | with_reducible refine goX1 ?_ | with_reducible refine goX2 ?_ | with_reducible refine goX3 ?_)
   exact Qat (j+1) ⟨rfl,rfl,rfl,rfl,rfl,rfl,rfl,trivial⟩ ⟨(by omega),(Qba r6_9 (QcJ (show s5.out.length=32 from rfl) (by omega))),(Qa8.puts q8 p9 (.inl (by simp))),x9⟩ (by show 4-(j+1)<4-j; omega)
  ·skip
   have heq27:j=4:=by have:=of_decide_eq_false c23; omega
   have r6_8_26:V2.heap[g6]? = some (.cells (ints .u8 (fill s5.out 32 (4*(i+1)))) 28):=Qba q6_2 (by rw [heq27]; rfl)
   refine wp_exit ?_
   refine hK18 _ _ ?_
   refine Qab ?_
   refine Qaa (.int .i64 ((i+1:Nat):Int)) 41 rfl kj (Qai (u:=.int .i64 (IntKind.i64.wrap (((i:Nat):Int)+1))) kj (congrArg (Value.int .i64) (i64n _ _ (by omega) (by omega)))) ?_
   refine Qaa (.int .i64 ((i+1:Nat):Int)) 22 rfl kj kj ?_
   refine Qaf ?_
   repeat (first | with_reducible refine goX1 ?_ | with_reducible refine goX2 ?_ | with_reducible refine goX3 ?_)
   exact Qat (i+1) ⟨rfl,rfl,rfl,rfl,trivial⟩ ⟨(by omega),r6_8_26,(Qa8.keeps q7 q8 (Qek (.inl (by simp)) Qf5)),xx2⟩ (by show 8-(i+1)<8-i; omega)
 ·skip
  have heq23:i=8:=by have:=of_decide_eq_false c17; omega
  have r6_7_27:V1.heap[g6]? = some (.cells (ints .u8 (s5.out)) 28):=Qba q6_1 (by rw [heq23]; exact Qdp (show s5.out.length=32 from rfl))
  refine wp_exit ?_
  refine hK13 _ _ ?_
  refine wp_seq_k fun K28 hK28=>?_
  refine Qab ?_
  refine Qaa (.agg (ints .u8 (s5.out))) 42 rfl kj (Qa4 28 _ g6 28 _ _ r6_7_27 rfl kj kj (isz (n:=32) kj ((Qae _ _).trans (show s5.out.length=32 from rfl)))) ?_
  have r4_2:=(Qah r4_1 e2)
  have r4_3:=(Qah r4_2 e3)
  have r4_4:=(Puts.row p4 r4_3 (Qay r4_2 l10))
  have r4_5:=(Qah r4_4 e5)
  have r4_6:=(ExtB.row q6 r4_5 (Qay r4_2 l10))
  have r4_7:=(Qa8.row q7 r4_6 (Qbz (Qay r4_1 l6) Qb9))
  refine Qau g4 _ (ints .u8 (s5.out)) 28 r4_7 rfl kj (Qas 28 _ _ g4 28 _ _ r4_7 rfl kj kj (isz (n:=32) kj ((Qae _ _).trans (show s5.out.length=32 from rfl))) (eqsz (n:=32) ((Qae _ _).trans (qZ (n:=32))) ((Qae _ _).trans (show s5.out.length=32 from rfl))) (Qaw _ _)) fun W8 p8 r4_8=>?_
  have x8:Ext w W8:=Puts.ext p8 xx1 b4
  refine Qaf ?_
  refine hK28 _ _ ?_
  refine wp_ret ?_
  repeat (first | with_reducible refine goR1 ?_ | with_reducible refine goR2 ?_)
  exact (show bodyPost _ _ _ .ret _ _ from ret1 (.agg (ints .u8 (s5.out))) rfl (Qb8 g4 28 _ r4_8 kj kj (isz (n:=32) kj ((Qae _ _).trans (show s5.out.length=32 from rfl)))) ⟨by rw [show dig t=s5.out by rw [hs5]; rfl],x8⟩)
end Go.Proofs.YthfkppjajmjpnaaDoor.Sha
end
section
namespace Go.Proofs.YthfkppjajmjpnaaDoor.Sha
open Go Go.RowKit
open Rely Auto Own
def pat (ps : List (Value×List Int)) (i:Nat):Value×List Int:=ps.getD i (undef,[])
def flat (ps : List (Value×List Int)) (i:Nat):List Int:=((ps.take i).map Prod.snd).flatten
theorem QhF {ps : List (Value×List Int)} {i:Nat} (h:i<ps.length):pat ps i=ps[i]:=by simp [pat,h]
theorem QhE {ps : List (Value×List Int)} {i:Nat} (h:i<ps.length):pat ps i∈ps:=by rw [QhF h]; exact List.getElem_mem h
theorem QlM {ps : List (Value×List Int)} {i:Nat} (h:i<ps.length):(ps.map Prod.fst).toArray[i]? = some (pat ps i).1:=by
  rw [QhF h]; simp [h]
theorem QfG {ps : List (Value×List Int)} {i:Nat} (h:i<ps.length):flat ps (i+1)=flat ps i++(pat ps i).2:=by
  unfold flat
  rw [List.take_add_one,List.getElem?_eq_getElem h,QhF h,List.map_append,List.flatten_append]
  show _++[ps[i].2].flatten=_
  rw [List.flatten_singleton]
theorem QfH {ps : List (Value×List Int)} {n:Nat} (h:ps.length=n):flat ps n=(ps.map Prod.snd).flatten:=by
  subst h; simp [flat]
theorem Qla {ps : List (Value×List Int)} {i:Nat} (h:i<ps.length):(flat ps i).length+(pat ps i).2.length≤((ps.map Prod.snd).flatten).length:=by
  have e:(flat ps (i+1)).length=(flat ps i).length+(pat ps i).2.length:=by rw [QfG h,List.length_append]
  rw [←e]
  have:(ps.map Prod.snd).flatten=flat ps (i+1)++((ps.drop (i+1)).map Prod.snd).flatten:=by
    unfold flat
    rw [←List.flatten_append,←List.map_append,List.take_append_drop]
  rw [this,List.length_append]; omega
theorem QkA (s : S8):s.out.length=32:=rfl
theorem QaE (t : List Int):(dig t).length=32:=QkA _
theorem Qhz (gp n:Nat) (Tp:TypeId) (ps:List (Value×List Int)) (hn:ps.length=n) (hn9:n≤1000000) (tc tq:TypeId) (w:World) (hc:w.heap[2]? = some (.cells (ints .u64 Qbk) tc)) (hq:w.heap[0]? = some (.cells (ints .u64 QaN) tq)) (hrow:w.heap[gp]? = some (.cells (ps.map Prod.fst).toArray Tp)) (hps:∀ p∈ps,RdK .u8 w.heap.size p.2 p.1 w∧Qav p.2) (hlen:((ps.map Prod.snd).flatten).length≤900000000):Calls Tryd.prog 49 #[.slice (some ⟨gp,0,none⟩) n n] w (Ret w (.agg (ints .u8 (dig ((ps.map Prod.snd).flatten))))):=by
 refine enter 19 [(0,.slice (some ⟨gp,0,none⟩) n n)] Tryd.func49 rfl rfl kj rfl ?_
 refine wp_seq_k fun K4 hK4=>?_
 refine Qab ?_
 refine Qan (ints .u8 (List.replicate 32 0)) 28 2 rfl kj kj fun g5 W1 l5 e1 r5_1=>?_
 have x1:Ext w W1:=Ext.tr (Rely.Ext.refl w) e1
 have b5:w.heap.size≤g5:=qT (Rely.Ext.refl w).size l5
 refine Qaf ?_
 refine hK4 _ _ ?_
 refine wp_seq_k fun K6 hK6=>?_
 refine Qab ?_
 have r2_1:=(Qah hq e1)
 refine Qa1 (fun v W'=>(fun v W=>∃ g,v=.pointer (some ⟨g,0,none⟩)∧W1.heap.size≤g∧HasD g [] W) v W'∧Ext W1 W') 67 #[] 6 rfl kj kj ((newC tq _ r2_1).mono (by rintro e w' ⟨v,rfl,e1,hv⟩; exact ⟨v,rfl,hv,e1⟩)) fun vv7 W2 hh7=>?_
 obtain ⟨hv7,e2⟩:=hh7
 have x2:Ext w W2:=Ext.tr x1 e2
 obtain ⟨gd8,rfl,ld8,hD8⟩:=hv7
 have b8:w.heap.size≤gd8:=qT x1.size ld8
 refine Qaa (.pointer (some ⟨gd8,0,none⟩)) 3 rfl kj kj ?_
 refine Qaf ?_
 refine hK6 _ _ ?_
 refine wp_seq_k fun K9 hK9=>?_
 refine wp_seq_k fun K10 hK10=>?_
 refine Qab ?_
 refine Qaa (.slice (some ⟨gp,0,none⟩) n n) 7 rfl kj kj ?_
 refine Qaa (.int .i64 ((n:Nat):Int)) 8 rfl kj kj ?_
 refine Qaa (.int .i64 0) 9 rfl kj kj ?_
 refine Qaf ?_
 refine hK10 _ _ ?_
 refine wp_block ?_
 refine Qa0 (fun (s1:Nat)=>[(7,.slice (some ⟨gp,0,none⟩) n n),(8,.int .i64 ((n:Nat):Int)),(9,.int .i64 ((s1:Nat):Int)),(3,.pointer (some ⟨gd8,0,none⟩)),(2,.pointer (some ⟨g5,0,none⟩))]) (fun (s1:Nat) W=>(s1≤n)∧(HasD gd8 (flat ps s1) W)∧(Qa8 [gd8] W2 W)∧(Ext w W)) (fun (s1:Nat)=>n-s1) 0 ⟨rfl,rfl,rfl,rfl,rfl,trivial⟩ ⟨(Nat.zero_le _),(show HasD _ (flat ps 0) _ from hD8),(Qa8.refl [gd8] W2),x2⟩ fun s1 X1 V1 hI1=>?_
 obtain ⟨i,hs1⟩:∃ z,z=s1:=⟨_,rfl⟩
 subst hs1
 obtain ⟨hi,hDi,kk1,xx1⟩:=hI1
 replace hi:i≤n:=hi
 replace hDi:HasD gd8 (flat ps i) V1:=hDi
 replace kk1:Qa8 [gd8] W2 V1:=kk1
 replace xx1:Ext w V1:=xx1
 have q3:=kk1
 refine wp_seq_k fun K11 hK11=>?_
 refine Qab ?_
 refine Qaa (.bool (decide (((i:Nat):Int)<((n:Nat):Int)))) 10 rfl kj kj ?_
 refine Qaf ?_
 refine hK11 _ _ ?_
 refine wp_seq_k fun K12 hK12=>?_
 refine Qar (t:=decide (((i:Nat):Int)<((n:Nat):Int))) kj (fun c13=>?_) (fun c13=>?_)
 ·skip
  have hlt10:i<n:=by have:=of_decide_eq_true c13; omega
  refine wp_skip ?_
  refine hK12 _ _ ?_
  refine wp_seq_k fun K14 hK14=>?_
  refine wp_block ?_
  refine wp_seq_k fun K15 hK15=>?_
  refine Qab ?_
  have hi2:i<ps.length:=by omega
  refine Qaa (.pointer (some ⟨gp,i,none⟩)) 11 rfl kj (QbE 42 _ _ .i64 i gp n n 59 rfl kj kj kj kj hlt10) ?_
  have r3_1:=(Qah hrow e1)
  have r3_2:=(Qah r3_1 e2)
  have r3_3:=(Qa8.row q3 r3_2 (Qbz (Qay r3_1 ld8) Qb9))
  refine Qaa ((pat ps i).1) 12 rfl kj (Qak 59 _ _ ((pat ps i).1) (Qcs r3_3 (QlM hi2)) rfl kj kj) ?_
  refine Qaa ((pat ps i).1) 5 rfl kj kj ?_
  refine Qaf ?_
  refine hK15 _ _ ?_
  refine Qab ?_
  refine Qaa (.pointer (some ⟨gd8,0,none⟩)) 13 rfl kj kj ?_
  refine Qaa ((pat ps i).1) 14 rfl kj kj ?_
  have r1_1:=(Qah hc e1)
  have r1_2:=(Qah r1_1 e2)
  have r1_3:=(Qa8.row q3 r1_2 (Qbz (Qay r1_1 ld8) Qb9))
  have hp6:=(hps _ (QhE hi2)).1.ext xx1
  have hl6:=Qla hi2
  refine Qa1 (fun v W'=>v=.tuple #[]∧ExtB gd8 V1 W'∧HasD gd8 ((flat ps i)++(pat ps i).2) W') 68 #[.pointer (some ⟨gd8,0,none⟩),(pat ps i).1] 15 rfl kj kj ((addC gd8 _ _ _ _ tc _ r1_3 (Nat.ne_of_lt (qL (Qa5 hc) b8)) (hp6.nb b8) (hps _ (QhE hi2)).2 (by omega) hDi hp6).mono fun e w' h=>⟨_,h.1,rfl,h.2⟩) fun v W4 h=>?_
  obtain ⟨rfl,q4,hDn⟩:=h
  have x4:Ext w W4:=ExtB.up xx1 q4 b8
  refine Qaf ?_
  refine hK14 _ _ ?_
  refine Qab ?_
  refine Qaa (.int .i64 ((i+1:Nat):Int)) 16 rfl kj (Qai (u:=.int .i64 (IntKind.i64.wrap (((i:Nat):Int)+1))) kj (congrArg (Value.int .i64) (i64n _ _ (by omega) (by omega)))) ?_
  refine Qaa (.int .i64 ((i+1:Nat):Int)) 9 rfl kj kj ?_
  refine Qaf ?_
  repeat (first | with_reducible refine goX1 ?_ | with_reducible refine goX2 ?_ | with_reducible refine goX3 ?_)
  exact Qat (i+1) ⟨rfl,rfl,rfl,rfl,rfl,trivial⟩ ⟨(by omega),(by rw [QfG hi2]; exact hDn),(Qa8.but q3 q4 (.inl (by simp))),x4⟩ (by omega)
 ·skip
  have heq10:i=n:=by have:=of_decide_eq_false c13; omega
  refine wp_exit ?_
  refine hK9 _ _ ?_
  refine wp_seq_k fun K16 hK16=>?_
  refine Qab ?_
  refine Qaa (.pointer (some ⟨gd8,0,none⟩)) 17 rfl kj kj ?_
  have r1_1:=(Qah hc e1)
  have r1_2:=(Qah r1_1 e2)
  have r1_3:=(Qa8.row q3 r1_2 (Qbz (Qay r1_1 ld8) Qb9))
  refine Qal (.agg (ints .u8 (dig (flat ps i)))) 69 #[.pointer (some ⟨gd8,0,none⟩)] 18 rfl kj kj (sumC gd8 _ tc _ r1_3 (by rw [heq10,QfH hn]; exact hlen) hDi) fun W4 e4=>?_
  have x4:Ext w W4:=Ext.tr xx1 e4
  have r5_2:=(Qah r5_1 e2)
  have r5_3:=(Qa8.row q3 r5_2 (Qbz (Qay r5_1 ld8) Qb9))
  have r5_4:=(Qah r5_3 e4)
  refine Qau g5 _ (ints .u8 (dig (flat ps i))) 28 r5_4 rfl kj (Qas 28 _ _ g5 28 _ _ r5_4 rfl kj kj (isz (n:=32) kj ((Qae _ _).trans (QaE _))) (eqsz (n:=32) ((Qae _ _).trans (qZ (n:=32))) ((Qae _ _).trans (QaE _))) (Qaw _ _)) fun W5 p5 r5_5=>?_
  have x5:Ext w W5:=Puts.ext p5 x4 b5
  refine Qaf ?_
  refine hK16 _ _ ?_
  refine wp_ret ?_
  repeat (first | with_reducible refine goR1 ?_ | with_reducible refine goR2 ?_)
  exact (show bodyPost _ _ _ .ret _ _ from ret1 (.agg (ints .u8 (dig (flat ps i)))) rfl (Qb8 g5 28 _ r5_5 kj kj (isz (n:=32) kj ((Qae _ _).trans (QaE _)))) ⟨by rw [heq10,QfH hn],x5⟩)
end Go.Proofs.YthfkppjajmjpnaaDoor.Sha
end
section
namespace Go.Proofs.YthfkppjajmjpnaaDoor.Sha
open Go Go.RowKit
open Rely Auto Own
theorem Qhk (x : Wd):Qav (wby x):=fun y hy=>by
  simp only [wby,List.mem_cons,List.not_mem_nil,or_false] at hy
  rcases hy with h | h | h | h <;> omega
theorem QcE (t : List Int):Qav (dig t):=fun y hy=>by
  unfold dig S8.out at hy
  obtain ⟨x,_,h⟩:=List.mem_flatMap.1 hy
  exact Qhk x y h
def puts (xs ys:List Int) (m:Nat):List Int:=xs.take m++ys.drop m
section
variable {ds : List Deferred} {P : Program} {ops : Array Oper} {Q : Exit → Act → World → Prop} {rest : List Oper} {o : Oper} {N : Nat} {L : Env} {W : World}
end
end Go.Proofs.YthfkppjajmjpnaaDoor.Sha
end
section
namespace Go.Proofs.YthfkppjajmjpnaaDoor.Sha
open Go Go.RowKit
open Rely Auto Own
section
variable {P : Program} {ρ : Operand → Value} {o : Oper} {w : World}
end
section
variable {ds : List Deferred} {P : Program} {ops : Array Oper} {Q : Exit → Act → World → Prop} {rest : List Oper} {o : Oper} {N : Nat} {L : Env} {w : World}
end
def Qi2 (T : TypeId) (base:Nat) (t:List Int) (v:Value) (W:World):Prop:=∃ g c,v=.slice (some ⟨g,0,none⟩) t.length c∧OwnN .u8 T base (t++[165,90]) (.slice (some ⟨g,0,none⟩) (t++[165,90]).length c) W
theorem Qi2.ext {T : TypeId} {base:Nat} {t:List Int} {v:Value} {W W':World} (h:Qi2 T base t v W) (e:Ext W W'):Qi2 T base t v W':=by
  obtain ⟨g,c,rfl,h2⟩:=h
  exact ⟨g,c,rfl,h2.ext e⟩
theorem Qi2.rd {T : TypeId} {base:Nat} {t:List Int} {v:Value} {W:World} (h:Qi2 T base t v W):RdK .u8 W.heap.size t v W:=by
  obtain ⟨g,c,rfl,h2⟩:=h
  obtain ⟨a,cap,e,q2,q3,q4,q5⟩:=OwnN.rd h2
  simp only [Value.slice.injEq] at e
  obtain ⟨rfl,-,rfl⟩:=e
  rw [List.length_append] at q2
  refine ⟨_,_,rfl,by omega,q3,q4,.inr ?_⟩
  rcases q5 with q5 | ⟨g',o,e1,e2,e3,e4⟩
  · simp at q5
  · refine ⟨g',o,e1,e2,e3,fun i hi=>?_⟩
    rw [e4 i (by rw [List.length_append]; omega)]
    simp [nth,List.getElem?_append_left hi]
end Go.Proofs.YthfkppjajmjpnaaDoor.Sha
end
section
namespace Go.Proofs.YthfkppjajmjpnaaDoor.Wr
open Go Go.RowKit
open Rely Auto Own Sha
theorem typW {W : World} {a b:Nat} {c d:Array Value} {s t:TypeId} (h:W.heap[a]? = some (.cells c s)) (k:W.heap[b]? = some (.cells d t)) (hn:s≠t):a≠b:=fun e=>by
  subst e
  rw [h] at k
  simp only [Option.some.injEq,Obj.cells.injEq] at k
  exact hn k.2.1
theorem own_typ {k : IntKind} {T:TypeId} {base:Nat} {xs:List Int} {v:Value} {W:World} (h:OwnN k T base xs v W) {g:Nat} (hg:v.ownBlock=some g):∃ cur,W.heap[g]? = some (.cells cur T):=by
  rcases h.1.2 with ⟨rfl,_⟩ | ⟨g',c,cur,rfl,q2,q3,_⟩
  · cases hg
  · obtain rfl:g'=g:=Option.some.inj hg
    exact ⟨cur,q3⟩
theorem nb_typ {k : IntKind} {T T':TypeId} {base g:Nat} {xs:List Int} {v:Value} {W:World} {c:Array Value} (h:OwnN k T base xs v W) (r:W.heap[g]? = some (.cells c T')) (hn:T≠T'):v.ownBlock≠some g:=fun e=>by
  obtain ⟨cur,q⟩:=own_typ h e
  exact typW q r hn rfl
theorem ownN_but {k : IntKind} {T:TypeId} {b g:Nat} {xs:List Int} {v:Value} {W W':World} (h:OwnN k T b xs v W) (q:ExtB g W W') (hn:v.ownBlock≠some g):OwnN k T b xs v W':=h.keep fun k hk=>q.2.2.2.2 k (h.lt hk) (fun e=>hn (by rw [hk,e]))
theorem nb_old {k : IntKind} {T:TypeId} {base g:Nat} {xs:List Int} {v:Value} {W:World} (h:OwnN k T base xs v W) (hg:g<base):v.ownBlock≠some g:=fun e=>by
  have:=h.ge e
  omega
theorem Qcl {a b:List Int} (ha:Qav a) (hb:Qav b):Qav (a++b):=fun x hx=>(List.mem_append.1 hx).elim (ha x) (hb x)
structure GW (base gw : Nat) (w W : World) : Prop where
  os:W.os=w.os
  tape:W.tape=w.tape
  output:W.output=w.output
  size:w.heap.size≤W.heap.size
  block:∀ k,k<w.heap.size→k≠gw→(k<base∨∀ cs fr,w.heap[k]?≠some (.cells cs 5 fr))→W.heap[k]? = w.heap[k]?
theorem GW.refl (base gw:Nat) (w:World):GW base gw w w:=⟨rfl,rfl,rfl,qR _,fun _ _ _ _=>rfl⟩
theorem GW.trans {base gw:Nat} {u w W:World} (h:GW base gw u w) (k:GW base gw w W):GW base gw u W :=
  ⟨k.os.trans h.os,k.tape.trans h.tape,k.output.trans h.output,qT h.size k.size,fun i hi hn hc=>by
    have e:=h.block i hi hn hc
    refine (k.block i (qL hi h.size) hn ?_).trans e
    rcases hc with hc | hc
    · exact .inl hc
    · exact .inr fun cs fr=>by rw [e]; exact hc cs fr⟩
theorem GW.of_ext {base gw:Nat} {w W:World} (e:Ext w W):GW base gw w W:=⟨e.os,e.tape,e.output,e.size,fun k hk _ _=>e.block k hk⟩
theorem GW.ext {base gw:Nat} {u w W:World} (h:GW base gw u w) (e:Ext w W):GW base gw u W:=h.trans (GW.of_ext e)
theorem GW.of_but {base gw:Nat} {w W:World} (e:ExtB gw w W):GW base gw w W:=⟨e.1,e.2.1,e.2.2.1,e.2.2.2.1,fun k hk hn _=>e.2.2.2.2 k hk hn⟩
theorem GW.put {base gw g:Nat} {u w W:World} (h:GW base gw u w) (p:Puts w g W) (hg:u.heap.size≤g):GW base gw u W :=
  ⟨p.1.trans h.os,p.2.1.trans h.tape,p.2.2.1.trans h.output,by have:=h.size; have:=p.2.2.2.1; omega,fun k hk hn hc=>(p.2.2.2.2 k (by omega)).trans (h.block k hk hn hc)⟩
theorem GW.putg {base gw:Nat} {u w W:World} (h:GW base gw u w) (p:Puts w gw W):GW base gw u W :=
  ⟨p.1.trans h.os,p.2.1.trans h.tape,p.2.2.1.trans h.output,by have:=h.size; have:=p.2.2.2.1; omega,fun k hk hn hc=>(p.2.2.2.2 k hn).trans (h.block k hk hn hc)⟩
theorem GW.row {base gw g:Nat} {w W:World} {c:Array Value} {T:TypeId} (h:GW base gw w W) (r:w.heap[g]? = some (.cells c T)) (hT:T≠5) (hn:g≠gw):W.heap[g]? = some (.cells c T) :=
  (h.block g (Qa5 r) hn (.inr fun cs fr e=>by rw [r] at e; simp only [Option.some.injEq,Obj.cells.injEq] at e; exact hT e.2.1)).trans r
def WSt (base gw:Nat) (s:Option (List Int)) (W:World):Prop:=∃ (u:Value) (xs:List Int) (bad:Bool),W.heap[gw]? = some (.cells #[u,.bool bad] 111)∧OwnN .u8 5 base xs u W∧xs.length≤65536∧Qav xs∧s=bif bad then none else some xs
theorem WSt.lt {base gw:Nat} {s:Option (List Int)} {W:World} (h:WSt base gw s W):gw<W.heap.size:=by
  obtain ⟨u,xs,bad,h1,-⟩:=h
  exact Qa5 h1
theorem WSt.ext {base gw:Nat} {s:Option (List Int)} {w W:World} (h:WSt base gw s w) (e:Ext w W):WSt base gw s W:=by
  obtain ⟨u,xs,bad,h1,h2,h3⟩:=h
  exact ⟨u,xs,bad,Qah h1 e,h2.ext e,h3⟩
theorem WSt.put {base gw g:Nat} {s:Option (List Int)} {w W:World} {c:Array Value} {T:TypeId} (h:WSt base gw s w) (p:Puts w g W) (r:w.heap[g]? = some (.cells c T)) (hT:T≠5) (hn:gw≠g):WSt base gw s W:=by
  obtain ⟨u,xs,bad,h1,h2,h3⟩:=h
  exact ⟨u,xs,bad,Puts.row p h1 hn,h2.puts p (nb_typ h2 r (Ne.symm hT)),h3⟩
def rawS (s : Option (List Int)) (ys:List Int):Option (List Int):=s.bind fun xs=>if xs.length+ys.length≤65536 then some (xs++ys) else none
def byV (n : Int) (k:Nat):Int:=IntKind.u8.wrap (n.fdiv (2^(8*k)))
theorem Qev (n : Int) (k:Nat):Qav [byV n k]:=fun x hx=>by
  simp only [List.mem_cons,List.not_mem_nil,or_false] at hx
  subst hx
  have h3:∀ z:Int,IntKind.u8.wrap z=z%256:=fun _=>rfl
  unfold byV
  rw [h3]; omega
def numR (n : Int):Nat→Option (List Int)→Option (List Int)
  | 0,s=>s
  | k+1,s=>numR n k (rawS s [byV n k])
def okN (n : Int) (size:Nat):Bool:=decide (0≤n)&&(n.fdiv (2^(8*size))==0)
def Qbv (s : Option (List Int)) (ok:Bool):Option (List Int):=bif ok then s else none
def numS (s : Option (List Int)) (n:Int) (size:Nat):Option (List Int):=numR n size (Qbv s (okN n size))
def Qch (s : Option (List Int)) (n:Int):Option (List Int):=numS (Qbv s (decide (n<32))) n 1
end Go.Proofs.YthfkppjajmjpnaaDoor.Wr
end
section
namespace Go.Proofs.YthfkppjajmjpnaaDoor.Wr
open Go Go.RowKit
open Rely Auto Own Sha
theorem QlS (gw : Nat) (u:Value) (ok:Bool) (w:World) (hg:w.heap[gw]? = some (.cells #[u,.bool true] 111)):Calls Tryd.prog 85 #[.pointer (some ⟨gw,0,none⟩),.bool ok] w (fun e W=>e=.returned (.tuple #[])∧ExtB gw w W∧W.heap[gw]? = some (.cells (cat [#[u],#[.bool true]]) 111)):=by
  refine enter 15 [(0,.pointer (some ⟨gw,0,none⟩)),(1,.bool ok)] Tryd.func85 rfl rfl kj rfl ?_
  refine Qab ?_
  refine Qaa (.pointer (some ⟨gw,0,none⟩)) 4 rfl kj kj ?_
  refine Qaa (.pointer (some ⟨gw,0,none⟩)) 5 rfl kj kj ?_
  refine Qaa (.pointer (some ⟨gw,0,none⟩)) 6 rfl kj kj ?_
  refine Qaa (.pointer (some ⟨gw,1,none⟩)) 7 rfl kj kj ?_
  refine Qaa (.bool true) 8 rfl kj (Qag 4 _ gw 1 111 _ (.bool true) _ hg rfl kj kj kj) ?_
  refine Qaa (.bool true) 9 rfl kj kj ?_
  refine Qad 10 rfl kj ?_
  refine Qad 11 rfl kj ?_
  refine Qaa (.bool true) 12 rfl kj kj ?_
  refine Qaa (.pointer (some ⟨gw,0,none⟩)) 13 rfl kj kj ?_
  refine Qaa (.pointer (some ⟨gw,1,none⟩)) 14 rfl kj kj ?_
  refine Qau gw _ (cat [#[u],#[.bool true]]) 111 hg rfl kj (QaW 4 _ _ gw 1 111 _ (.bool true) hg rfl kj kj kj kj kj rfl) fun W1 p1 r1_1=>?_
  have x1:ExtB gw w W1:=ExtB.puts (ExtB.refl gw w) p1
  refine Qaf ?_
  repeat (first | with_reducible refine goX1 ?_ | with_reducible refine goX2 ?_ | with_reducible refine goX3 ?_)
  exact (show bodyPost _ _ _ .normal _ _ from end0 rfl ⟨rfl,x1,r1_1⟩)
theorem QlR (gw : Nat) (u:Value) (ok:Bool) (w:World) (hg:w.heap[gw]? = some (.cells #[u,.bool false] 111)):Calls Tryd.prog 85 #[.pointer (some ⟨gw,0,none⟩),.bool ok] w (fun e W=>e=.returned (.tuple #[])∧ExtB gw w W∧W.heap[gw]? = some (.cells (cat [#[u],#[.bool (!ok)]]) 111)):=by
  refine enter 15 [(0,.pointer (some ⟨gw,0,none⟩)),(1,.bool ok)] Tryd.func85 rfl rfl kj rfl ?_
  refine Qab ?_
  refine Qaa (.pointer (some ⟨gw,0,none⟩)) 4 rfl kj kj ?_
  refine Qaa (.pointer (some ⟨gw,0,none⟩)) 5 rfl kj kj ?_
  refine Qaa (.pointer (some ⟨gw,0,none⟩)) 6 rfl kj kj ?_
  refine Qaa (.pointer (some ⟨gw,1,none⟩)) 7 rfl kj kj ?_
  refine Qaa (.bool false) 8 rfl kj (Qag 4 _ gw 1 111 _ (.bool false) _ hg rfl kj kj kj) ?_
  refine Qaa (.bool false) 9 rfl kj kj ?_
  refine Qaa (.bool ok) 10 rfl kj kj ?_
  refine Qaa (.bool (!ok)) 11 rfl kj kj ?_
  refine Qaa (.bool (!ok)) 12 rfl kj kj ?_
  refine Qaa (.pointer (some ⟨gw,0,none⟩)) 13 rfl kj kj ?_
  refine Qaa (.pointer (some ⟨gw,1,none⟩)) 14 rfl kj kj ?_
  refine Qau gw _ (cat [#[u],#[.bool (!ok)]]) 111 hg rfl kj (QaW 4 _ _ gw 1 111 _ (.bool (!ok)) hg rfl kj kj kj kj kj rfl) fun W1 p1 r1_1=>?_
  have x1:ExtB gw w W1:=ExtB.puts (ExtB.refl gw w) p1
  refine Qaf ?_
  repeat (first | with_reducible refine goX1 ?_ | with_reducible refine goX2 ?_ | with_reducible refine goX3 ?_)
  exact (show bodyPost _ _ _ .normal _ _ from end0 rfl ⟨rfl,x1,r1_1⟩)
theorem QiW (gw : Nat) (u:Value) (bad ok:Bool) (w:World) (hg:w.heap[gw]? = some (.cells #[u,.bool bad] 111)):Calls Tryd.prog 85 #[.pointer (some ⟨gw,0,none⟩),.bool ok] w (fun e W=>e=.returned (.tuple #[])∧ExtB gw w W∧W.heap[gw]? = some (.cells #[u,.bool (bad || !ok)] 111)):=by
  cases bad with
  | true=>exact QlS gw u ok w hg
  | false=>exact QlR gw u ok w hg
theorem QgY (base gw:Nat) (s:Option (List Int)) (ok:Bool) (w:World) (h:WSt base gw s w):Calls Tryd.prog 85 #[.pointer (some ⟨gw,0,none⟩),.bool ok] w (fun e W=>e=.returned (.tuple #[])∧GW base gw w W∧WSt base gw (Qbv s ok) W):=by
  obtain ⟨u,xs,bad,h1,h2,h3,h4,rfl⟩:=h
  refine (QiW gw u bad ok w h1).mono fun e W hh=>⟨hh.1,GW.of_but hh.2.1,u,xs,_,hh.2.2,?_,h3,h4,?_⟩
  · exact h2.keep fun g hg=>hh.2.1.2.2.2.2 g (h2.lt hg) (fun e=>nb_typ h2 h1 (by decide) (by rw [hg,e]))
  · cases bad <;> cases ok <;> rfl
end Go.Proofs.YthfkppjajmjpnaaDoor.Wr
end
section
namespace Go.Proofs.YthfkppjajmjpnaaDoor.Wr
open Go Go.RowKit
open Rely Auto Own Sha
section
variable {ds : List Deferred} {P : Program} {ops : Array Oper} {Q : Exit → Act → World → Prop} {rest : List Oper} {o : Oper} {N : Nat} {L : Env} {W : World}
theorem QfQ (base gw b:Nat) (s x:Operand) (t:TypeId) (ho:o.op=.call { callee:=.builtin .append,args:=#[s,x],argTypes:=#[t,t] })
    (ht:P.underlying t=some (.slice 5)) (hi:(P.info? 5).map (fun i=>(i.zero,i.size,i.bytes))=some (some (.int .u8 0),1,b)) (hb8:b≤8) (d:Nat) (hd:o.dst=some d) (hg:Qbu ops o N L=some true) {B:Nat} {v y:Value} {xs ys:List Int}
    (hs:Rely.look (envN N L) s=v) (hx:Rely.look (envN N L) x=y) (h:OwnN .u8 5 base xs v W) (hy:RdK .u8 B ys y W) (hn:xs.length+ys.length≤1000000000) (hV:base≤W.heap.size) {c:Array Value} (r:W.heap[gw]? = some (.cells c 111))
    (kk:∀ (u:Value) (W':World),OwnN .u8 5 base (xs++ys) u W'→GW base gw W W'→W'.heap[gw]? = some (.cells c 111)→WL P ops Q rest (Qa3 ds N ((d,u)::L)) W'):WL P ops Q (o::rest) (Qa3 ds N L) W:=by
  obtain ⟨v',W',h1,h2,h3,h4⟩:=QdU (ρ:=Rely.look (envN N L)) (o:=o) (W:=W) s x t ho ht hi hb8 hs hx h hy hn hV
  refine QbI _ _ d hd hg h1 (kk v' W' h2 ⟨h3.os,h3.tape,h3.output,h3.size,fun i hi hne hc=>h3.block i hi (fun q=>?_)⟩ ((h3.block gw (Qa5 r) (fun q=>nb_typ h r (by decide) q.symm)).trans r))
  rcases hc with hc | hc
  · have:=h.ge q.symm; omega
  · obtain ⟨cur,e⟩:=own_typ h q.symm
    exact hc cur _ e
end
theorem Qm2 (base gw:Nat) (u v:Value) (xs ys:List Int) (w:World) (hbw:base≤w.heap.size) (hg:w.heap[gw]? = some (.cells #[u,.bool true] 111)) (ho:OwnN .u8 5 base xs u w) (hxl:xs.length≤65536) (hyl:ys.length≤1000000) (hst:∀ W,ExtB gw w W→RdK .u8 W.heap.size ys v W) (ok:Bool) (hok:decide (((xs.length+ys.length:Nat):Int)≤65536)=ok) :
    Calls Tryd.prog 87 #[.pointer (some ⟨gw,0,none⟩),v] w (fun e W=>e=.returned (.tuple #[])∧GW base gw w W∧∃ u',W.heap[gw]? = some (.cells (cat [#[u'],#[.bool true]]) 111)∧OwnN .u8 5 base (xs) u' W):=by
  obtain ⟨a_u,c_u,rfl,-⟩:=id (OwnN.rd ho)
  obtain ⟨a_y,c_y,rfl,-⟩:=id (hst _ (ExtB.refl gw w))
  refine enter 29 [(0,.pointer (some ⟨gw,0,none⟩)),(1,.slice a_y ys.length c_y)] Tryd.func87 rfl rfl kj rfl ?_
  refine wp_seq_k fun K2 hK2=>?_
  refine Qab ?_
  refine Qaa (.pointer (some ⟨gw,0,none⟩)) 4 rfl kj kj ?_
  refine Qaa (.pointer (some ⟨gw,0,none⟩)) 5 rfl kj kj ?_
  refine Qaa (.pointer (some ⟨gw,0,none⟩)) 6 rfl kj kj ?_
  refine Qaa (.pointer (some ⟨gw,0,none⟩)) 7 rfl kj kj ?_
  refine Qaa (.slice a_u xs.length c_u) 8 rfl kj (Qag 59 _ gw 0 111 _ (.slice a_u xs.length c_u) _ hg rfl kj kj kj) ?_
  refine Qaa (.int .i64 ((xs.length:Nat):Int)) 9 rfl kj kj ?_
  refine Qaa (.slice a_y ys.length c_y) 10 rfl kj kj ?_
  refine Qaa (.int .i64 ((ys.length:Nat):Int)) 11 rfl kj kj ?_
  refine Qaa (.int .i64 ((xs.length+ys.length:Nat):Int)) 12 rfl kj (Qai (u:=.int .i64 (IntKind.i64.wrap (((xs.length:Nat):Int)+((ys.length:Nat):Int)))) kj (congrArg (Value.int .i64) (i64n _ _ (by omega) (by omega)))) ?_
  refine Qaa (.bool (ok)) 13 rfl kj (Qai (u:=.bool (decide (((xs.length+ys.length:Nat):Int)≤65536))) kj (congrArg Value.bool hok)) ?_
  refine Qa1 (fun v W'=>v=.tuple #[]∧ExtB gw w W'∧W'.heap[gw]? = some (.cells (cat [#[.slice a_u xs.length c_u],#[.bool true]]) 111)) 85 #[.pointer (some ⟨gw,0,none⟩),.bool (ok)] 14 rfl kj kj ((QiW gw _ _ _ _ hg).mono (by intro e w' h; exact ⟨_,h.1,rfl,h.2⟩)) fun v W1 h3=>?_
  obtain ⟨rfl,q1,r1_1⟩:=h3
  have x1:GW base gw w W1:=GW.trans (GW.refl base gw w) (GW.of_but q1)
  refine Qaf ?_
  refine hK2 _ _ ?_
  refine wp_seq_k fun K4 hK4=>?_
  refine Qab ?_
  refine Qaa (.pointer (some ⟨gw,0,none⟩)) 15 rfl kj kj ?_
  refine Qaa (.pointer (some ⟨gw,0,none⟩)) 16 rfl kj kj ?_
  refine Qaa (.pointer (some ⟨gw,1,none⟩)) 17 rfl kj kj ?_
  refine Qaa (.bool true) 18 rfl kj (Qag 4 _ gw 1 111 _ (.bool true) _ r1_1 rfl kj kj kj) ?_
  refine Qaa (.bool false) 19 rfl kj kj ?_
  refine Qaf ?_
  refine hK4 _ _ ?_
  refine cond_false kj ?_
  refine wp_skip ?_
  repeat (first | with_reducible refine goX1 ?_ | with_reducible refine goX2 ?_ | with_reducible refine goX3 ?_)
  have f5_1:=(ownN_but ho q1 (nb_typ ho hg (by decide)))
  exact (show bodyPost _ _ _ .normal _ _ from end0 rfl ⟨rfl,x1,_,r1_1,f5_1⟩)
theorem Qm1 (base gw:Nat) (u v:Value) (xs ys:List Int) (w:World) (hbw:base≤w.heap.size) (hg:w.heap[gw]? = some (.cells #[u,.bool false] 111)) (ho:OwnN .u8 5 base xs u w) (hxl:xs.length≤65536) (hyl:ys.length≤1000000) (hst:∀ W,ExtB gw w W→RdK .u8 W.heap.size ys v W) (h:65536<xs.length+ys.length) :
    Calls Tryd.prog 87 #[.pointer (some ⟨gw,0,none⟩),v] w (fun e W=>e=.returned (.tuple #[])∧GW base gw w W∧∃ u',W.heap[gw]? = some (.cells (cat [#[u'],#[.bool true]]) 111)∧OwnN .u8 5 base (xs) u' W):=by
  obtain ⟨a_u,c_u,rfl,-⟩:=id (OwnN.rd ho)
  obtain ⟨a_y,c_y,rfl,-⟩:=id (hst _ (ExtB.refl gw w))
  refine enter 29 [(0,.pointer (some ⟨gw,0,none⟩)),(1,.slice a_y ys.length c_y)] Tryd.func87 rfl rfl kj rfl ?_
  refine wp_seq_k fun K2 hK2=>?_
  refine Qab ?_
  refine Qaa (.pointer (some ⟨gw,0,none⟩)) 4 rfl kj kj ?_
  refine Qaa (.pointer (some ⟨gw,0,none⟩)) 5 rfl kj kj ?_
  refine Qaa (.pointer (some ⟨gw,0,none⟩)) 6 rfl kj kj ?_
  refine Qaa (.pointer (some ⟨gw,0,none⟩)) 7 rfl kj kj ?_
  refine Qaa (.slice a_u xs.length c_u) 8 rfl kj (Qag 59 _ gw 0 111 _ (.slice a_u xs.length c_u) _ hg rfl kj kj kj) ?_
  refine Qaa (.int .i64 ((xs.length:Nat):Int)) 9 rfl kj kj ?_
  refine Qaa (.slice a_y ys.length c_y) 10 rfl kj kj ?_
  refine Qaa (.int .i64 ((ys.length:Nat):Int)) 11 rfl kj kj ?_
  refine Qaa (.int .i64 ((xs.length+ys.length:Nat):Int)) 12 rfl kj (Qai (u:=.int .i64 (IntKind.i64.wrap (((xs.length:Nat):Int)+((ys.length:Nat):Int)))) kj (congrArg (Value.int .i64) (i64n _ _ (by omega) (by omega)))) ?_
  refine Qaa (.bool false) 13 rfl kj (Qai (u:=.bool (decide (((xs.length+ys.length:Nat):Int)≤65536))) kj (congrArg Value.bool (decide_eq_false (by omega)))) ?_
  refine Qa1 (fun v W'=>v=.tuple #[]∧ExtB gw w W'∧W'.heap[gw]? = some (.cells (cat [#[.slice a_u xs.length c_u],#[.bool true]]) 111)) 85 #[.pointer (some ⟨gw,0,none⟩),.bool false] 14 rfl kj kj ((QiW gw _ _ _ _ hg).mono (by intro e w' h; exact ⟨_,h.1,rfl,h.2⟩)) fun v W1 h3=>?_
  obtain ⟨rfl,q1,r1_1⟩:=h3
  have x1:GW base gw w W1:=GW.trans (GW.refl base gw w) (GW.of_but q1)
  refine Qaf ?_
  refine hK2 _ _ ?_
  refine wp_seq_k fun K4 hK4=>?_
  refine Qab ?_
  refine Qaa (.pointer (some ⟨gw,0,none⟩)) 15 rfl kj kj ?_
  refine Qaa (.pointer (some ⟨gw,0,none⟩)) 16 rfl kj kj ?_
  refine Qaa (.pointer (some ⟨gw,1,none⟩)) 17 rfl kj kj ?_
  refine Qaa (.bool true) 18 rfl kj (Qag 4 _ gw 1 111 _ (.bool true) _ r1_1 rfl kj kj kj) ?_
  refine Qaa (.bool false) 19 rfl kj kj ?_
  refine Qaf ?_
  refine hK4 _ _ ?_
  refine cond_false kj ?_
  refine wp_skip ?_
  repeat (first | with_reducible refine goX1 ?_ | with_reducible refine goX2 ?_ | with_reducible refine goX3 ?_)
  have f5_1:=(ownN_but ho q1 (nb_typ ho hg (by decide)))
  exact (show bodyPost _ _ _ .normal _ _ from end0 rfl ⟨rfl,x1,_,r1_1,f5_1⟩)
theorem Qm0 (base gw:Nat) (u v:Value) (xs ys:List Int) (w:World) (hbw:base≤w.heap.size) (hg:w.heap[gw]? = some (.cells #[u,.bool false] 111)) (ho:OwnN .u8 5 base xs u w) (hxl:xs.length≤65536) (hyl:ys.length≤1000000) (hst:∀ W,ExtB gw w W→RdK .u8 W.heap.size ys v W) (h:xs.length+ys.length≤65536) :
    Calls Tryd.prog 87 #[.pointer (some ⟨gw,0,none⟩),v] w (fun e W=>e=.returned (.tuple #[])∧GW base gw w W∧∃ u',W.heap[gw]? = some (.cells (cat [#[u'],#[.bool false]]) 111)∧OwnN .u8 5 base (xs++ys) u' W):=by
  obtain ⟨a_u,c_u,rfl,-⟩:=id (OwnN.rd ho)
  obtain ⟨a_y,c_y,rfl,-⟩:=id (hst _ (ExtB.refl gw w))
  refine enter 29 [(0,.pointer (some ⟨gw,0,none⟩)),(1,.slice a_y ys.length c_y)] Tryd.func87 rfl rfl kj rfl ?_
  refine wp_seq_k fun K2 hK2=>?_
  refine Qab ?_
  refine Qaa (.pointer (some ⟨gw,0,none⟩)) 4 rfl kj kj ?_
  refine Qaa (.pointer (some ⟨gw,0,none⟩)) 5 rfl kj kj ?_
  refine Qaa (.pointer (some ⟨gw,0,none⟩)) 6 rfl kj kj ?_
  refine Qaa (.pointer (some ⟨gw,0,none⟩)) 7 rfl kj kj ?_
  refine Qaa (.slice a_u xs.length c_u) 8 rfl kj (Qag 59 _ gw 0 111 _ (.slice a_u xs.length c_u) _ hg rfl kj kj kj) ?_
  refine Qaa (.int .i64 ((xs.length:Nat):Int)) 9 rfl kj kj ?_
  refine Qaa (.slice a_y ys.length c_y) 10 rfl kj kj ?_
  refine Qaa (.int .i64 ((ys.length:Nat):Int)) 11 rfl kj kj ?_
  refine Qaa (.int .i64 ((xs.length+ys.length:Nat):Int)) 12 rfl kj (Qai (u:=.int .i64 (IntKind.i64.wrap (((xs.length:Nat):Int)+((ys.length:Nat):Int)))) kj (congrArg (Value.int .i64) (i64n _ _ (by omega) (by omega)))) ?_
  refine Qaa (.bool true) 13 rfl kj (Qai (u:=.bool (decide (((xs.length+ys.length:Nat):Int)≤65536))) kj (congrArg Value.bool (decide_eq_true (by omega)))) ?_
  refine Qa1 (fun v W'=>v=.tuple #[]∧ExtB gw w W'∧W'.heap[gw]? = some (.cells (cat [#[.slice a_u xs.length c_u],#[.bool false]]) 111)) 85 #[.pointer (some ⟨gw,0,none⟩),.bool true] 14 rfl kj kj ((QiW gw _ _ _ _ hg).mono (by intro e w' h; exact ⟨_,h.1,rfl,h.2⟩)) fun v W1 h3=>?_
  obtain ⟨rfl,q1,r1_1⟩:=h3
  have x1:GW base gw w W1:=GW.trans (GW.refl base gw w) (GW.of_but q1)
  refine Qaf ?_
  refine hK2 _ _ ?_
  refine wp_seq_k fun K4 hK4=>?_
  refine Qab ?_
  refine Qaa (.pointer (some ⟨gw,0,none⟩)) 15 rfl kj kj ?_
  refine Qaa (.pointer (some ⟨gw,0,none⟩)) 16 rfl kj kj ?_
  refine Qaa (.pointer (some ⟨gw,1,none⟩)) 17 rfl kj kj ?_
  refine Qaa (.bool false) 18 rfl kj (Qag 4 _ gw 1 111 _ (.bool false) _ r1_1 rfl kj kj kj) ?_
  refine Qaa (.bool true) 19 rfl kj kj ?_
  refine Qaf ?_
  refine hK4 _ _ ?_
  refine cond_true kj ?_
  refine Qab ?_
  refine Qaa (.pointer (some ⟨gw,0,none⟩)) 20 rfl kj kj ?_
  refine Qaa (.pointer (some ⟨gw,0,none⟩)) 21 rfl kj kj ?_
  refine Qaa (.pointer (some ⟨gw,0,none⟩)) 22 rfl kj kj ?_
  refine Qaa (.pointer (some ⟨gw,0,none⟩)) 23 rfl kj kj ?_
  refine Qaa (.slice a_u xs.length c_u) 24 rfl kj (Qag 59 _ gw 0 111 _ (.slice a_u xs.length c_u) _ r1_1 rfl kj kj kj) ?_
  refine Qaa (.slice a_y ys.length c_y) 25 rfl kj kj ?_
  have f5_1:=(ownN_but ho q1 (nb_typ ho hg (by decide)))
  refine QfQ base gw 1 (.tmp 24) (.tmp 25) 59 rfl kj kj (by decide) 26 rfl kj kj kj f5_1 (hst _ q1) (by omega) (qT hbw x1.size) r1_1 fun u2 W2 ho2 q2 r1_2=>?_
  have x2:GW base gw w W2:=GW.trans x1 q2
  have hnb2:u2.ownBlock≠some gw:=nb_typ ho2 r1_2 (by decide)
  obtain ⟨a2_,c2_,rfl,-⟩:=id (OwnN.rd ho2)
  refine Qaa (.pointer (some ⟨gw,0,none⟩)) 27 rfl kj kj ?_
  refine Qaa (.pointer (some ⟨gw,0,none⟩)) 28 rfl kj kj ?_
  refine Qau gw _ (cat [#[.slice a2_ ((xs++ys).length) c2_],#[.bool false]]) 111 r1_2 rfl kj (QaW 59 _ _ gw 0 111 _ (.slice a2_ ((xs++ys).length) c2_) r1_2 rfl kj kj kj kj kj rfl) fun W3 p3 r1_3=>?_
  have x3:GW base gw w W3:=GW.putg x2 p3
  refine Qaf ?_
  repeat (first | with_reducible refine goX1 ?_ | with_reducible refine goX2 ?_ | with_reducible refine goX3 ?_)
  have f7_3:=(ho2.puts p3 hnb2)
  exact (show bodyPost _ _ _ .normal _ _ from end0 rfl ⟨rfl,x3,_,r1_3,f7_3⟩)
theorem rawW (base gw:Nat) (s:Option (List Int)) (ys:List Int) (v:Value) (w:World) (hbw:base≤w.heap.size) (h:WSt base gw s w) (hyl:ys.length≤1000000) (hyb:Qav ys) (hst:∀ W,ExtB gw w W→RdK .u8 W.heap.size ys v W):Calls Tryd.prog 87 #[.pointer (some ⟨gw,0,none⟩),v] w (fun e W=>e=.returned (.tuple #[])∧GW base gw w W∧WSt base gw (rawS s ys) W):=by
  obtain ⟨u,xs,bad,h1,h2,h3,h4,rfl⟩:=h
  cases bad with
  | true =>
    refine (Qm2 base gw u v xs ys w hbw h1 h2 h3 hyl hst _ rfl).mono fun e W ⟨a,b,u',c,d⟩=>⟨a,b,u',xs,true,c,d,h3,h4,rfl⟩
  | false =>
    by_cases hf:xs.length+ys.length≤65536
    · refine (Qm0 base gw u v xs ys w hbw h1 h2 h3 hyl hst hf).mono fun e W ⟨a,b,u',c,d⟩=>⟨a,b,u',xs++ys,false,c,d,by rw [List.length_append]; omega,Qcl h4 hyb,?_⟩
      show rawS (some xs) ys=some (xs++ys)
      exact if_pos hf
    · refine (Qm1 base gw u v xs ys w hbw h1 h2 h3 hyl hst (by omega)).mono fun e W ⟨a,b,u',c,d⟩=>⟨a,b,u',xs,true,c,d,h3,h4,?_⟩
      show rawS (some xs) ys=none
      exact if_neg hf
end Go.Proofs.YthfkppjajmjpnaaDoor.Wr
end
section
namespace Go.Proofs.YthfkppjajmjpnaaDoor.Wr
open Go Go.RowKit
open Rely Auto Own Sha
theorem shrZ (n : Int) (k:Nat) (hk:k≤4):n.fdiv (2^min (((8*k:Nat):Int)).toNat IntKind.i64.bits)=n.fdiv (2^(8*k)):=by
  rw [Int.toNat_natCast,Nat.min_eq_left (show 8*k≤IntKind.i64.bits by show 8*k≤64; omega)]
theorem QiR (base gw:Nat) (s:Option (List Int)) (n:Int) (size:Nat) (w:World) (hbw:base≤w.heap.size) (h:WSt base gw s w) (hsz:size≤4) (hn:0≤n):Calls Tryd.prog 84 #[.pointer (some ⟨gw,0,none⟩),.int .i64 n,.int .i64 ((size:Nat):Int)] w (fun e W=>e=.returned (.tuple #[])∧GW base gw w W∧WSt base gw (numS s n size) W):=by
 have hgw:=h.lt
 have hok:okN n size=(n.fdiv (2^(8*size))==0):=by unfold okN; simp [hn]
 refine enter 29 [(0,.pointer (some ⟨gw,0,none⟩)),(1,.int .i64 n),(2,.int .i64 ((size:Nat):Int))] Tryd.func84 rfl rfl kj rfl ?_
 refine wp_seq_k fun K1 hK1=>?_
 refine Qab ?_
 refine Qaa (.pointer (some ⟨gw,0,none⟩)) 6 rfl kj kj ?_
 refine Qaa (.int .i64 n) 7 rfl kj kj ?_
 refine Qaa (.bool true) 8 rfl kj (Qai (u:=.bool (decide (n≥0))) kj (congrArg Value.bool (decide_eq_true (by omega)))) ?_
 refine Qaa (.bool true) 9 rfl kj kj ?_
 refine Qaa (.int .i64 n) 10 rfl kj kj ?_
 refine Qaa (.int .i64 ((size:Nat):Int)) 11 rfl kj kj ?_
 refine Qaa (.int .i64 ((8*size:Nat):Int)) 12 rfl kj (Qai (u:=.int .i64 (IntKind.i64.wrap (8*((size:Nat):Int)))) kj (congrArg (Value.int .i64) (i64n _ _ (by omega) (by omega)))) ?_
 refine Qaa (.int .i64 (n.fdiv (2^(8*size)))) 13 rfl kj (Qbf .shr _ _ _ _ .i64 .i64 _ _ _ rfl kj kj (QcN _ _ _ _ _ _ (by omega) (shrZ n size (by omega)))) ?_
 refine Qaa (.bool (n.fdiv (2^(8*size))==0)) 14 rfl kj (Qai (u:=.bool (((n.fdiv (2^(8*size)))==0))) kj (congrArg Value.bool rfl)) ?_
 refine Qaa (.bool (n.fdiv (2^(8*size))==0)) 15 rfl kj kj ?_
 refine Qa1 (fun v W'=>v=.tuple #[]∧GW base gw w W'∧WSt base gw (Qbv s (n.fdiv (2^(8*size))==0)) W') 85 #[.pointer (some ⟨gw,0,none⟩),.bool (n.fdiv (2^(8*size))==0)] 16 rfl kj kj ((QgY base gw s (n.fdiv (2^(8*size))==0) _ h).mono (by rintro e w' ⟨rfl,h1,h2⟩; exact ⟨_,rfl,rfl,h1,h2⟩)) fun v2 W1 h2=>?_
 obtain ⟨rfl,q1,ws2⟩:=h2
 have x1:GW base gw w W1:=GW.trans (GW.refl base gw w) q1
 refine Qaf ?_
 refine hK1 _ _ ?_
 refine wp_block ?_
 refine Qa0 (fun (s1:Nat×Option (List Int))=>[(0,.pointer (some ⟨gw,0,none⟩)),(1,.int .i64 n),(2,.int .i64 ((s1.1:Nat):Int))]) (fun (s1:Nat×Option (List Int)) W=>(s1.1≤size)∧(WSt base gw s1.2 W)∧(numR n s1.1 s1.2=numR n size (Qbv s (n.fdiv (2^(8*size))==0)))∧(GW base gw w W)) (fun (s1:Nat×Option (List Int))=>s1.1) (size,Qbv s (n.fdiv (2^(8*size))==0)) ⟨rfl,rfl,rfl,trivial⟩ ⟨(qR _),ws2,rfl,x1⟩ fun s1 X1 V1 hI1=>?_
 obtain ⟨j,sc⟩:=s1
 obtain ⟨hj,hws,hnum,xx1⟩:=hI1
 replace hj:j≤size:=hj
 replace hws:WSt base gw sc V1:=hws
 replace hnum:numR n j sc=numR n size (Qbv s (n.fdiv (2^(8*size))==0)):=hnum
 replace xx1:GW base gw w V1:=xx1
 refine wp_seq_k fun K3 hK3=>?_
 refine wp_seq_k fun K4 hK4=>?_
 refine Qab ?_
 refine Qaa (.int .i64 ((j:Nat):Int)) 17 rfl kj kj ?_
 refine Qaa (.bool (decide (((j:Nat):Int)>0))) 18 rfl kj kj ?_
 refine Qaf ?_
 refine hK4 _ _ ?_
 refine Qar (t:=decide (((j:Nat):Int)>0)) kj (fun c5=>?_) (fun c5=>?_)
 ·skip
  obtain ⟨jp,hjp⟩:∃ jp,j=jp+1:=⟨j-1,by have:=of_decide_eq_true c5; omega⟩
  refine wp_skip ?_
  refine hK3 _ _ ?_
  refine wp_block ?_
  refine wp_seq_k fun K6 hK6=>?_
  refine Qab ?_
  refine Qaa (.int .i64 ((j:Nat):Int)) 19 rfl kj kj ?_
  refine Qaa (.int .i64 (((jp:Nat):Int))) 20 rfl kj (Qai (u:=.int .i64 (IntKind.i64.wrap (((j:Nat):Int)-1))) kj (congrArg (Value.int .i64) (by rw [show ((j:Nat):Int)-1=((jp:Nat):Int) by omega]; exact IntWalk.i64_in _ (by omega)))) ?_
  refine Qaa (.int .i64 (((jp:Nat):Int))) 2 rfl kj kj ?_
  refine Qaf ?_
  refine hK6 _ _ ?_
  refine Qab ?_
  refine Qaa (.pointer (some ⟨gw,0,none⟩)) 21 rfl kj kj ?_
  refine Qaa (.int .i64 n) 22 rfl kj kj ?_
  refine Qaa (.int .i64 (((jp:Nat):Int))) 23 rfl kj kj ?_
  refine Qaa (.int .i64 ((8*jp:Nat):Int)) 24 rfl kj (Qai (u:=.int .i64 (IntKind.i64.wrap (8*(((jp:Nat):Int))))) kj (congrArg (Value.int .i64) (i64n _ _ (by omega) (by omega)))) ?_
  refine Qaa (.int .i64 (n.fdiv (2^(8*jp)))) 25 rfl kj (Qbf .shr _ _ _ _ .i64 .i64 _ _ _ rfl kj kj (QcN _ _ _ _ _ _ (by omega) (shrZ n jp (by omega)))) ?_
  refine Qaa (.int .u8 (byV n jp)) 26 rfl kj (Qai (u:=.int .u8 (IntKind.u8.wrap (n.fdiv (2^(8*jp))))) kj (congrArg (Value.int .u8) rfl)) ?_
  refine QaD (ints .u8 ([(byV n jp)])) 5 1 27 rfl kj kj fun g7 W3 l7 e3 r7_3=>?_
  have x3:GW base gw w W3:=GW.ext xx1 e3
  have ws8:=WSt.ext hws e3
  have b7:w.heap.size≤g7:=qT xx1.size l7
  refine Qa1 (fun v W'=>v=.tuple #[]∧GW base gw W3 W'∧WSt base gw (rawS sc [byV n jp]) W') 87 #[.pointer (some ⟨gw,0,none⟩),.slice (some ⟨g7,0,none⟩) 1 1] 28 rfl kj kj ((rawW base gw sc [byV n jp] _ _ (qT hbw x3.size) ws8 (by show 1≤1000000; decide) (Qev n jp) (fun W e=>QaT (xs:=[byV n jp]) (n:=1) rfl (ExtB.row e r7_3 (Ne.symm (Nat.ne_of_lt (qL hgw b7)))) (Qa5 (ExtB.row e r7_3 (Ne.symm (Nat.ne_of_lt (qL hgw b7))))) (by decide))).mono (by rintro e w' ⟨rfl,h1,h2⟩; exact ⟨_,rfl,rfl,h1,h2⟩)) fun v9 W4 h9=>?_
  obtain ⟨rfl,q4,ws9⟩:=h9
  have x4:GW base gw w W4:=GW.trans x3 q4
  refine Qaf ?_
  repeat (first | with_reducible refine goX1 ?_ | with_reducible refine goX2 ?_ | with_reducible refine goX3 ?_)
  exact Qat (jp,rawS sc [byV n jp]) ⟨rfl,rfl,rfl,trivial⟩ ⟨(by omega),ws9,(by have h7:=hnum; rw [hjp] at h7; exact h7),x4⟩ (by omega)
 ·skip
  have hj0:j=0:=by have:=of_decide_eq_false c5; omega
  refine wp_exit ?_
  repeat (first | with_reducible refine goX1 ?_ | with_reducible refine goX2 ?_ | with_reducible refine goX3 ?_)
  exact (show bodyPost _ _ _ .normal _ _ from end0 rfl ⟨rfl,xx1,by have h9:sc=numR n size (Qbv s (n.fdiv (2^(8*size))==0)):=(by have h7:=hnum; rw [hj0] at h7; exact h7); rw [h9] at hws; have h8:okN n size=(n.fdiv (2^(8*size))==0):=hok; unfold numS; rw [h8]; exact hws⟩)
theorem QiS (base gw:Nat) (s:Option (List Int)) (n:Int) (size:Nat) (w:World) (hbw:base≤w.heap.size) (h:WSt base gw s w) (hsz:size≤4) (hn:n<0):Calls Tryd.prog 84 #[.pointer (some ⟨gw,0,none⟩),.int .i64 n,.int .i64 ((size:Nat):Int)] w (fun e W=>e=.returned (.tuple #[])∧GW base gw w W∧WSt base gw (numS s n size) W):=by
 have hgw:=h.lt
 have hok:okN n size=false:=by unfold okN; simp [show ¬ 0≤n by omega]
 refine enter 29 [(0,.pointer (some ⟨gw,0,none⟩)),(1,.int .i64 n),(2,.int .i64 ((size:Nat):Int))] Tryd.func84 rfl rfl kj rfl ?_
 refine wp_seq_k fun K1 hK1=>?_
 refine Qab ?_
 refine Qaa (.pointer (some ⟨gw,0,none⟩)) 6 rfl kj kj ?_
 refine Qaa (.int .i64 n) 7 rfl kj kj ?_
 refine Qaa (.bool false) 8 rfl kj (Qai (u:=.bool (decide (n≥0))) kj (congrArg Value.bool (decide_eq_false (by omega)))) ?_
 refine Qaa (.bool false) 9 rfl kj kj ?_
 refine Qad 10 rfl kj ?_
 refine Qad 11 rfl kj ?_
 refine Qad 12 rfl kj ?_
 refine Qad 13 rfl kj ?_
 refine Qad 14 rfl kj ?_
 refine Qaa (.bool false) 15 rfl kj kj ?_
 refine Qa1 (fun v W'=>v=.tuple #[]∧GW base gw w W'∧WSt base gw (Qbv s false) W') 85 #[.pointer (some ⟨gw,0,none⟩),.bool false] 16 rfl kj kj ((QgY base gw s false _ h).mono (by rintro e w' ⟨rfl,h1,h2⟩; exact ⟨_,rfl,rfl,h1,h2⟩)) fun v2 W1 h2=>?_
 obtain ⟨rfl,q1,ws2⟩:=h2
 have x1:GW base gw w W1:=GW.trans (GW.refl base gw w) q1
 refine Qaf ?_
 refine hK1 _ _ ?_
 refine wp_block ?_
 refine Qa0 (fun (s1:Nat×Option (List Int))=>[(0,.pointer (some ⟨gw,0,none⟩)),(1,.int .i64 n),(2,.int .i64 ((s1.1:Nat):Int))]) (fun (s1:Nat×Option (List Int)) W=>(s1.1≤size)∧(WSt base gw s1.2 W)∧(numR n s1.1 s1.2=numR n size (Qbv s false))∧(GW base gw w W)) (fun (s1:Nat×Option (List Int))=>s1.1) (size,Qbv s false) ⟨rfl,rfl,rfl,trivial⟩ ⟨(qR _),ws2,rfl,x1⟩ fun s1 X1 V1 hI1=>?_
 obtain ⟨j,sc⟩:=s1
 obtain ⟨hj,hws,hnum,xx1⟩:=hI1
 replace hj:j≤size:=hj
 replace hws:WSt base gw sc V1:=hws
 replace hnum:numR n j sc=numR n size (Qbv s false):=hnum
 replace xx1:GW base gw w V1:=xx1
 refine wp_seq_k fun K3 hK3=>?_
 refine wp_seq_k fun K4 hK4=>?_
 refine Qab ?_
 refine Qaa (.int .i64 ((j:Nat):Int)) 17 rfl kj kj ?_
 refine Qaa (.bool (decide (((j:Nat):Int)>0))) 18 rfl kj kj ?_
 refine Qaf ?_
 refine hK4 _ _ ?_
 refine Qar (t:=decide (((j:Nat):Int)>0)) kj (fun c5=>?_) (fun c5=>?_)
 ·skip
  obtain ⟨jp,hjp⟩:∃ jp,j=jp+1:=⟨j-1,by have:=of_decide_eq_true c5; omega⟩
  refine wp_skip ?_
  refine hK3 _ _ ?_
  refine wp_block ?_
  refine wp_seq_k fun K6 hK6=>?_
  refine Qab ?_
  refine Qaa (.int .i64 ((j:Nat):Int)) 19 rfl kj kj ?_
  refine Qaa (.int .i64 (((jp:Nat):Int))) 20 rfl kj (Qai (u:=.int .i64 (IntKind.i64.wrap (((j:Nat):Int)-1))) kj (congrArg (Value.int .i64) (by rw [show ((j:Nat):Int)-1=((jp:Nat):Int) by omega]; exact IntWalk.i64_in _ (by omega)))) ?_
  refine Qaa (.int .i64 (((jp:Nat):Int))) 2 rfl kj kj ?_
  refine Qaf ?_
  refine hK6 _ _ ?_
  refine Qab ?_
  refine Qaa (.pointer (some ⟨gw,0,none⟩)) 21 rfl kj kj ?_
  refine Qaa (.int .i64 n) 22 rfl kj kj ?_
  refine Qaa (.int .i64 (((jp:Nat):Int))) 23 rfl kj kj ?_
  refine Qaa (.int .i64 ((8*jp:Nat):Int)) 24 rfl kj (Qai (u:=.int .i64 (IntKind.i64.wrap (8*(((jp:Nat):Int))))) kj (congrArg (Value.int .i64) (i64n _ _ (by omega) (by omega)))) ?_
  refine Qaa (.int .i64 (n.fdiv (2^(8*jp)))) 25 rfl kj (Qbf .shr _ _ _ _ .i64 .i64 _ _ _ rfl kj kj (QcN _ _ _ _ _ _ (by omega) (shrZ n jp (by omega)))) ?_
  refine Qaa (.int .u8 (byV n jp)) 26 rfl kj (Qai (u:=.int .u8 (IntKind.u8.wrap (n.fdiv (2^(8*jp))))) kj (congrArg (Value.int .u8) rfl)) ?_
  refine QaD (ints .u8 ([(byV n jp)])) 5 1 27 rfl kj kj fun g7 W3 l7 e3 r7_3=>?_
  have x3:GW base gw w W3:=GW.ext xx1 e3
  have ws8:=WSt.ext hws e3
  have b7:w.heap.size≤g7:=qT xx1.size l7
  refine Qa1 (fun v W'=>v=.tuple #[]∧GW base gw W3 W'∧WSt base gw (rawS sc [byV n jp]) W') 87 #[.pointer (some ⟨gw,0,none⟩),.slice (some ⟨g7,0,none⟩) 1 1] 28 rfl kj kj ((rawW base gw sc [byV n jp] _ _ (qT hbw x3.size) ws8 (by show 1≤1000000; decide) (Qev n jp) (fun W e=>QaT (xs:=[byV n jp]) (n:=1) rfl (ExtB.row e r7_3 (Ne.symm (Nat.ne_of_lt (qL hgw b7)))) (Qa5 (ExtB.row e r7_3 (Ne.symm (Nat.ne_of_lt (qL hgw b7))))) (by decide))).mono (by rintro e w' ⟨rfl,h1,h2⟩; exact ⟨_,rfl,rfl,h1,h2⟩)) fun v9 W4 h9=>?_
  obtain ⟨rfl,q4,ws9⟩:=h9
  have x4:GW base gw w W4:=GW.trans x3 q4
  refine Qaf ?_
  repeat (first | with_reducible refine goX1 ?_ | with_reducible refine goX2 ?_ | with_reducible refine goX3 ?_)
  exact Qat (jp,rawS sc [byV n jp]) ⟨rfl,rfl,rfl,trivial⟩ ⟨(by omega),ws9,(by have h7:=hnum; rw [hjp] at h7; exact h7),x4⟩ (by omega)
 ·skip
  have hj0:j=0:=by have:=of_decide_eq_false c5; omega
  refine wp_exit ?_
  repeat (first | with_reducible refine goX1 ?_ | with_reducible refine goX2 ?_ | with_reducible refine goX3 ?_)
  exact (show bodyPost _ _ _ .normal _ _ from end0 rfl ⟨rfl,xx1,by have h9:sc=numR n size (Qbv s false):=(by have h7:=hnum; rw [hj0] at h7; exact h7); rw [h9] at hws; have h8:okN n size=false:=hok; unfold numS; rw [h8]; exact hws⟩)
theorem Qdz (base gw:Nat) (s:Option (List Int)) (n:Int) (size:Nat) (w:World) (hbw:base≤w.heap.size) (h:WSt base gw s w) (hsz:size≤4):Calls Tryd.prog 84 #[.pointer (some ⟨gw,0,none⟩),.int .i64 n,.int .i64 ((size:Nat):Int)] w (fun e W=>e=.returned (.tuple #[])∧GW base gw w W∧WSt base gw (numS s n size) W):=by
  by_cases hn:0≤n
  · exact QiR base gw s n size w hbw h hsz hn
  · exact QiS base gw s n size w hbw h hsz (by omega)
theorem Qm6 (base gw:Nat) (s:Option (List Int)) (n:Int) (w:World) (hbw:base≤w.heap.size) (h:WSt base gw s w):Calls Tryd.prog 90 #[.pointer (some ⟨gw,0,none⟩),.int .i64 n] w (fun e W=>e=.returned (.tuple #[])∧GW base gw w W∧WSt base gw (Qch s n) W):=by
  have hgw:=h.lt
  refine enter 11 [(0,.pointer (some ⟨gw,0,none⟩)),(1,.int .i64 n)] Tryd.func90 rfl rfl kj rfl ?_
  refine wp_seq_k fun K1 hK1=>?_
  refine Qab ?_
  refine Qaa (.pointer (some ⟨gw,0,none⟩)) 4 rfl kj kj ?_
  refine Qaa (.int .i64 n) 5 rfl kj kj ?_
  refine Qaa (.bool (decide (n<32))) 6 rfl kj kj ?_
  refine Qa1 (fun v W'=>v=.tuple #[]∧GW base gw w W'∧WSt base gw (Qbv s (decide (n<32))) W') 85 #[.pointer (some ⟨gw,0,none⟩),.bool (decide (n<32))] 7 rfl kj kj ((QgY base gw s (decide (n<32)) _ h).mono (by rintro e w' ⟨rfl,h1,h2⟩; exact ⟨_,rfl,rfl,h1,h2⟩)) fun v2 W1 h2=>?_
  obtain ⟨rfl,q1,ws2⟩:=h2
  have x1:GW base gw w W1:=GW.trans (GW.refl base gw w) q1
  refine Qaf ?_
  refine hK1 _ _ ?_
  refine Qab ?_
  refine Qaa (.pointer (some ⟨gw,0,none⟩)) 8 rfl kj kj ?_
  refine Qaa (.int .i64 n) 9 rfl kj kj ?_
  refine Qa1 (fun v W'=>v=.tuple #[]∧GW base gw W1 W'∧WSt base gw (numS (Qbv s (decide (n<32))) n 1) W') 84 #[.pointer (some ⟨gw,0,none⟩),.int .i64 n,.int .i64 1] 10 rfl kj kj ((Qdz base gw _ n 1 _ (qT hbw x1.size) ws2 (by decide)).mono (by rintro e w' ⟨rfl,h1,h2⟩; exact ⟨_,rfl,rfl,h1,h2⟩)) fun v3 W2 h3=>?_
  obtain ⟨rfl,q2,ws3⟩:=h3
  have x2:GW base gw w W2:=GW.trans x1 q2
  refine Qaf ?_
  repeat (first | with_reducible refine goX1 ?_ | with_reducible refine goX2 ?_ | with_reducible refine goX3 ?_)
  exact (show bodyPost _ _ _ .normal _ _ from end0 rfl ⟨rfl,x2,ws3⟩)
end Go.Proofs.YthfkppjajmjpnaaDoor.Wr
end
section
namespace Go.Proofs.YthfkppjajmjpnaaDoor.Wr
open Go Go.RowKit
open Rely Auto Own Sha
theorem GW.back {base gw:Nat} {u w W:World} (h:Ext u w) (q:GW base gw w W) (hb:u.heap.size≤base) (hg:u.heap.size≤gw):Ext u W :=
  ⟨q.os.trans h.os,q.tape.trans h.tape,q.output.trans h.output,qT h.size q.size,fun k hk=>(q.block k (qL hk h.size) (by omega) (.inl (by omega))).trans (h.block k hk)⟩
def PutR (base : Nat):Option (List Int)→Value→World→Prop
  | none=>fun v W=>v=.tuple #[.slice none 0 0,.iface 68 (.int .i64 3)]
  | some xs=>fun v W=>∃ u,v=.tuple #[u,.nilIface]∧OwnN .u8 5 base xs u W
end Go.Proofs.YthfkppjajmjpnaaDoor.Wr
end
section
namespace Go.Proofs.YthfkppjajmjpnaaDoor.Wr
open Go Go.RowKit
open Rely Auto Own Sha
end Go.Proofs.YthfkppjajmjpnaaDoor.Wr
end
section
namespace Go.Proofs.YthfkppjajmjpnaaDoor.Wr
open Go Go.RowKit
open Rely Auto Own Sha
def beV (n : Int):Nat→List Int
  | 0=>[]
  | k+1=>byV n k::beV n k
theorem Qiv (n : Int):∀ k,(beV n k).length=k
  | 0=>rfl
  | k+1=>by unfold beV; rw [List.length_cons,Qiv n k]
theorem Qdr (n : Int):∀ k,Qav (beV n k)
  | 0=>fun x hx=>by cases hx
  | k+1=>fun x hx=>by
    unfold beV at hx
    rcases List.mem_cons.1 hx with h | h
    · exact Qev n k x (by simp [h])
    · exact Qdr n k x h
def inB (n last:Int):Bool:=decide (0≤n)&&decide (n≤last)
theorem Qid {n last:Int} (h:inB n last=true):0≤n∧n≤last:=by
  unfold inB at h
  simpa using h
def fitV (ys : List Int):Option (List Int):=if ys.length≤65536 then some ys else none
end Go.Proofs.YthfkppjajmjpnaaDoor.Wr
end
section
namespace Go.Proofs.YthfkppjajmjpnaaDoor.Wr
open Go Go.RowKit
open Rely Auto Own Sha
structure OncU (base n : Nat) (ys : List Int) (W W' : World) : Prop where
  os:W'.os=W.os
  tape:W'.tape=W.tape
  output:W'.output=W.output
  size:W.heap.size≤W'.heap.size
  block:∀ g,g<W.heap.size→W'.heap[g]? = W.heap[g]?∨(base≤g∧∃ cs cs',W.heap[g]? = some (.cells cs 5)∧W'.heap[g]? = some (.cells cs' 5)∧cs'.size=cs.size∧∀ i,cs'[i]? = cs[i]?∨(n≤i∧cs'[i]? = some (.int .u8 (nth ys (i-n)))))
theorem OncU.refl (base n:Nat) (ys:List Int) (W:World):OncU base n ys W W:=⟨rfl,rfl,rfl,qR _,fun _ _=>.inl rfl⟩
theorem OncU.trans {base n:Nat} {ys:List Int} {a b c:World} (h:OncU base n ys a b) (k:OncU base n ys b c):OncU base n ys a c:=by
  refine ⟨k.os.trans h.os,k.tape.trans h.tape,k.output.trans h.output,qT h.size k.size,fun g hg=>?_⟩
  rcases k.block g (qL hg h.size) with h2 | ⟨hb,cs,cs',r1,r2,r3,r4⟩
  · rw [h2]; exact h.block g hg
  · rcases h.block g hg with h1 | ⟨_,ds,ds',s1,s2,s3,s4⟩
    · exact .inr ⟨hb,cs,cs',h1▸r1,r2,r3,r4⟩
    · rw [s2] at r1
      simp only [Option.some.injEq,Obj.cells.injEq,and_true,true_and] at r1
      obtain rfl:=r1
      refine .inr ⟨hb,ds,cs',s1,r2,r3.trans s3,fun i=>?_⟩
      rcases r4 i with r | ⟨r,r'⟩
      · rw [r]; exact s4 i
      · exact .inr ⟨r,r'⟩
theorem OncU.ext {base n:Nat} {ys:List Int} {a b:World} (e:Ext a b):OncU base n ys a b:=⟨e.os,e.tape,e.output,e.size,fun g hg=>.inl (e.block g hg)⟩
theorem OncU.low {n : Nat} {ys:List Int} {w0 W:World} (h:OncU w0.heap.size n ys w0 W):Ext w0 W :=
  ⟨h.os,h.tape,h.output,h.size,fun g hg=>by
    rcases h.block g hg with h | ⟨hb,_⟩
    · exact h
    · omega⟩
theorem byV0 (n : Int):IntKind.u8.wrap n=byV n 0:=by unfold byV; rw [Nat.mul_zero,Int.pow_zero,Int.fdiv_one]
end Go.Proofs.YthfkppjajmjpnaaDoor.Wr
end
section
namespace Go.Proofs.YthfkppjajmjpnaaDoor.Wk
open Go Go.RowKit
open Rely Auto Own Sha
variable {P : Program} {ops : Array Oper} {Q : Exit → Act → World → Prop}
def allR (P : Program) (ops:Array Oper) (Q:Exit→Act→World→Prop) (Rd:World→Prop):Nat→Array Bool→Act→World→Prop
  | 0,listed,a,w=>Region.ready .any ops listed=[]∧Q .normal a w
  | fuel+1,listed,a,w=>(Region.ready .any ops listed=[]→Q .normal a w)∧∀ i∈Region.ready .any ops listed,wpOp P ops Q i (fun a' w'=>Rd w'∧allR P ops Q Rd fuel (listed.setIfInBounds i true) a' w') a w
theorem Qfm {Rd : World→Prop}:∀ (fuel:Nat) (listed:Array Bool) (a:Act) (w:World),allR P ops Q Rd fuel listed a w→wpAny P .any ops Q fuel listed a w
  | 0,_,_,_,h=>h
  | _+1,_,_,_,h=>⟨h.1,fun i hi=>wpOp_mono (fun a w h=>Qfm _ _ a w h.2) (h.2 i hi)⟩
def QbM (P : Program) (ops:Array Oper) (Rd:World→Prop) (o:Oper) (v:Value) (a:Act):Prop :=
  (Region.wanted o (yielded ops a.tmps)=true∧∀ w,Rd w→(execOp a.eval o).run P w=.ok (.value v) w)∨(Region.wanted o (yielded ops a.tmps)=false∧v=undef)
theorem QbM.wpOp {Rd : World→Prop} {i:Nat} {o:Oper} {v:Value} {a:Act} (hi:ops[i]? = some o) (hy:QbM P ops Rd o v a) {K:Act→World→Prop} {w:World} (hw:Rd w) (h:K (a.put o.dst v) w):wpOp P ops Q i K a w:=by
  unfold Go.wpOp
  simp only [hi]
  rcases hy with ⟨hw1,hv⟩ | ⟨hw1,rfl⟩
  · simp only [hw1,if_true,Oper.wp,hv w hw,Oper.upon]; exact .inl h
  · simp only [hw1,Bool.false_eq_true,if_false]; exact h
theorem QbM.same {Rd : World→Prop} {o:Oper} {v:Value} {a a':Act} (hy:QbM P ops Rd o v a) (he:execOp a'.eval o=execOp a.eval o) (hw:Region.wanted o (yielded ops a'.tmps)=Region.wanted o (yielded ops a.tmps)):QbM P ops Rd o v a':=by
  unfold QbM at *
  rw [he,hw]
  exact hy
theorem QkB {Rd : World→Prop} {j:Nat} {oi oj:Oper} {v:Value} (hj:ops[j]? = some oj) (hap:oi.apart ops oj=true) (hsi:∀ cs b,oi.op≠.select cs b) (hsj:∀ cs b,oj.op≠.select cs b)
    (hQ:∀ c a w,Q (.panic c) (a.put oi.dst v) w→Q (.panic c) a w) {K:Act→World→Prop} {a:Act} {w:World} (hy:QbM P ops Rd oi v a) (h:wpOp P ops Q j K (a.put oi.dst v) w) :
    wpOp P ops Q j (fun a' w'=>QbM P ops Rd oi v a'∧K (a'.put oi.dst v) w') a w:=by
  obtain ⟨h1,h2,h3⟩:=Oper.apart_spec hap
  have keep:∀ (a:Act),QbM P ops Rd oi v a→∀ u,QbM P ops Rd oi v (a.put oj.dst u):=fun a hy u=>hy.same (execOp_put oi hsi a oj.dst u h3) (wanted_put oi a oj.dst u h3)
  have keepD:∀ d,QbM P ops Rd oi v { a with defers:=d::a.defers }:=fun d=>hy.same rfl rfl
  unfold wpOp at *
  simp only [hj] at *
  rw [wanted_put oj a oi.dst v h1] at h
  split
  · rename_i hw
    simp only [hw,if_true] at h
    rcases h with h | ⟨hasks,hlets⟩
    case inr=>exact .inr ⟨by unfold Oper.asks at *; rw [execOp_put oj hsj a oi.dst v h1] at hasks; exact hasks,hlets⟩
    refine .inl ?_
    unfold Oper.wp at *
    rw [execOp_put oj hsj a oi.dst v h1] at h
    generalize (execOp a.eval oj).run P w=r at *
    cases r with
    | ok n w' =>
      cases n <;> simp only [Oper.upon] at h ⊢
      case value u=>exact ⟨keep a hy u,by rw [←Act.put_comm a v u h2]; exact h⟩
      case skip=>exact ⟨keep a hy _,by rw [←Act.put_comm a v undef h2]; exact h⟩
      case defer d =>
        refine ⟨keep _ (keepD d) _,?_⟩
        rw [←Act.put_comm _ v undef h2,←Act.put_defers]
        exact h
      case enter f args =>
        refine Calls.mono h fun e w'' he=>?_
        cases e with
        | returned u=>exact ⟨keep a hy u,by rw [←Act.put_comm a v u h2]; exact he⟩
        | panicked c=>exact hQ _ _ _ he
        | outgrown=>exact he
      case row row args=>exact Rows.mono h fun u w'' he=>⟨keep a hy u,by rw [←Act.put_comm a v u h2]; exact he⟩
    | halt x w' =>
      cases x <;> simp only [Oper.upon] at h ⊢
      case panic u=>exact hQ _ _ _ h
  · rename_i hw
    simp only [hw] at h
    exact ⟨keep a hy _,by rw [←Act.put_comm a v undef h2]; exact h⟩
theorem Qhh {Rd : World→Prop} {i:Nat} {oi:Oper} {v:Value} (hi:ops[i]? = some oi) (hsel:∀ (j:Nat) (o:Oper) cs b,ops[j]? = some o→o.op≠.select cs b) (hQ:∀ c a w,Q (.panic c) (a.put oi.dst v) w→Q (.panic c) a w) :
    ∀ (fuel:Nat) (listed:Array Bool) (a:Act) (w:World),Rd w →
      (∀ j oj,ops[j]? = some oj→j≠i→listed.getD j true=false→(∀ e∈oj.after,Region.binds .any e=true→e.on≠i)→oi.apart ops oj=true) →
      i∈Region.ready .any ops listed→QbM P ops Rd oi v a→allR P ops Q Rd fuel (listed.setIfInBounds i true) (a.put oi.dst v) w→allR P ops Q Rd (fuel+1) listed a w:=by
  intro fuel
  induction fuel with
  | zero =>
    intro listed a w hw _ hr hy H
    refine ⟨fun h=>(by rw [h] at hr; cases hr),fun j hj=>?_⟩
    by_cases hji:j=i
    · subst hji; exact hy.wpOp hi hw ⟨hw,H⟩
    · have:=ready_mono hj hji
      rw [H.1] at this
      cases this
  | succ fuel ih =>
    intro listed a w hw hfree hr hy H
    refine ⟨fun h=>(by rw [h] at hr; cases hr),fun j hj=>?_⟩
    by_cases hji:j=i
    · subst hji; exact hy.wpOp hi hw ⟨hw,H⟩
    · have h1:=H.2 j (ready_mono hj hji)
      obtain ⟨hjun,oj,hoj,hall⟩:=mem_ready.1 hj
      have hnot:∀ e∈oj.after,Region.binds .any e=true→e.on≠i:=fun e he hb heq=>by
        have h1:=hall e he hb
        have h0:=(mem_ready.1 hr).1
        rw [heq] at h1
        rcases Nat.lt_or_ge i listed.size with h' | h'
        · simp [h'] at h0 h1; rw [h0] at h1; cases h1
        · simp [Array.getElem?_eq_none h'] at h1
      have h2:=QkB hoj (hfree j oj hoj hji hjun hnot) (fun cs b=>hsel i oi cs b hi) (fun cs b=>hsel j oj cs b hoj) hQ hy h1
      have hfree':∀ k ok,ops[k]? = some ok→k≠i→(listed.setIfInBounds j true).getD k true=false→(∀ e∈ok.after,Region.binds .any e=true→e.on≠i)→oi.apart ops ok=true:=fun k ok hk hki hun hno=>by
        refine hfree k ok hk hki ?_ hno
        by_cases hjk:j=k
        · subst hjk; exact hjun
        · rw [getD_set_ne true hjk] at hun; exact hun
      refine wpOp_mono (fun a' w' h3=>⟨h3.2.1,ih (listed.setIfInBounds j true) a' w' h3.2.1 hfree' (ready_mono hr (Ne.symm hji)) h3.1 ?_⟩) h2
      rw [Array.setIfInBounds_comm _ _ hji]
      exact h3.2.2
structure WB (P : Program) (ops : Array Oper) (Q : Exit → Act → World → Prop) (Rd : World → Prop) (fuel : Nat) (listed : Array Bool) (a : Act) (w : World) : Prop where
  out:Rd w→allR P ops Q Rd fuel listed a w
structure WO (P : Program) (ops : Array Oper) (Q : Exit → Act → World → Prop) (Rd : World → Prop) (k fuel : Nat) (listed : Array Bool) (a : Act) (w : World) : Prop where
  out:wpOp P ops Q k (fun a' w'=>Rd w'∧allR P ops Q Rd fuel (listed.setIfInBounds k true) a' w') a w
variable {o : Oper} {N : Nat} {L : Env} {w V : World} {ds : List Deferred} {fuel : Nat} {listed : Array Bool} {k : Nat} {a : Act} {Rd : World → Prop}
theorem QdA {id : Nat} {l:List Oper} (hm:P.follows .mixedOrders=true) (h:∀ W,Ext w W→WB P l.toArray Q (Ext W) l.length (Array.replicate l.length false) (Qa3 ds N L) W):(Code.region id l.toArray true).wp P Q (Qa3 ds N L) w:=by
  refine wp_region_any hm ?_
  have:=Qfm _ _ _ _ ((h w.drew (Qax w)).out (Ext.refl _))
  simpa using this
theorem Qc8 {id : Nat} {l:List Oper} (Rd:World→Prop) (hm:P.follows .mixedOrders=true) (h:∀ W,Ext w W→Rd W∧WB P l.toArray Q Rd l.length (Array.replicate l.length false) (Qa3 ds N L) W):(Code.region id l.toArray true).wp P Q (Qa3 ds N L) w:=by
  refine wp_region_any hm ?_
  obtain ⟨h1,h2⟩:=h w.drew (Qax w)
  have:=Qfm _ _ _ _ (h2.out h1)
  simpa using this
theorem QaQ (k : Nat) (v:Value) (d:Nat) (ho:ops[k]? = some o) (hd:o.dst=some d) (hg:Qbu ops o N L=some true) (hc:(Region.noSelect ops&&Region.free .any ops listed k&&(Region.ready .any ops listed).contains k)=true)
    (hQ:∀ c a w,Q (.panic c) (a.put o.dst v) w→Q (.panic c) a w) (h:∀ W,Rd W→(execOp (Rely.look (envN N L)) o).run P W=.ok (.value v) W) (kk:WB P ops Q Rd fuel (listed.setIfInBounds k true) (Qa3 ds N ((d,v)::L)) w):WB P ops Q Rd (fuel+1) listed (Qa3 ds N L) w:=by
  simp only [Bool.and_eq_true] at hc
  refine ⟨fun hw=>Qhh ho (Region.noSelect_spec hc.1.1) hQ fuel listed _ w hw (Region.free_spec ho hc.1.2) (by simpa using hc.2) (.inl ⟨QbS hg,fun W hW=>?_⟩) ?_⟩
  · rw [Qbj]; exact h W hW
  · rw [hd,Qbb]; exact kk.out hw
theorem Qc1 (k : Nat) (hr:Region.ready .any ops listed=[k]) (h:WO P ops Q Rd k fuel listed a w):WB P ops Q Rd (fuel+1) listed a w :=
  ⟨fun _=>⟨fun h0=>(by rw [hr] at h0; cases h0),fun i hi=>by
    rw [hr] at hi; obtain rfl:i=k:=by simpa using hi
    exact h.out⟩⟩
theorem QeM (ho : ops[k]? = some o) (R:Value→World→Prop) (f:FuncId) (args:Array Value) (d:Nat) (hd:o.dst=some d) (hg:Qbu ops o N L=some true)
    (h:(execOp (Rely.look (envN N L)) o).run P w=.ok (.enter f args) w) (hc:Calls P f args w fun e w'=>∃ v,e=.returned v∧R v w') (hR:∀ v W,R v W→Rd W) (kk:∀ (v:Value) (W:World),R v W→WB P ops Q Rd fuel (listed.setIfInBounds k true) (Qa3 ds N ((d,v)::L)) W):WO P ops Q Rd k fuel listed (Qa3 ds N L) w:=by
  refine ⟨?_⟩
  unfold wpOp
  rw [ho]
  simp only [QbS hg,if_true]
  refine .inl ?_
  unfold Oper.wp
  rw [Qbj,h]
  refine hc.mono ?_
  rintro e w' ⟨v,rfl,hw⟩
  show _∧allR _ _ _ _ _ _ _ _
  rw [hd,Qbb]
  exact ⟨hR v w' hw,(kk v w' hw).out (hR v w' hw)⟩
theorem Qj4 (ho : ops[k]? = some o) (R:Value→World→Prop) (d:Nat) (hd:o.dst=some d) (hg:Qbu ops o N L=some true) (h:∃ v W,(execOp (Rely.look (envN N L)) o).run P w=.ok (.value v) W∧R v W) (hR:∀ v W,R v W→Rd W)
    (kk:∀ (v:Value) (W:World),R v W→WB P ops Q Rd fuel (listed.setIfInBounds k true) (Qa3 ds N ((d,v)::L)) W):WO P ops Q Rd k fuel listed (Qa3 ds N L) w:=by
  obtain ⟨v,W,h1,h2⟩:=h
  refine ⟨?_⟩
  unfold wpOp
  rw [ho]
  simp only [QbS hg,if_true]
  refine .inl ?_
  unfold Oper.wp
  rw [Qbj,h1]
  show _∧allR _ _ _ _ _ _ _ _
  rw [hd,Qbb]
  exact ⟨hR v W h2,(kk v W h2).out (hR v W h2)⟩
def Ef (P : Program) (o:Oper) (ρ:Operand→Value) (W:World) (φ:Value→World→Prop):Prop :=
  (∃ v W',(execOp ρ o).run P W=.ok (.value v) W'∧Ext W W'∧φ v W')∨∃ f args,(execOp ρ o).run P W=.ok (.enter f args) W∧Calls P f args W fun e W'=>∃ v,e=.returned v∧Ext W W'∧φ v W'
theorem Ef.put {φ : Value→World→Prop} {d:Nat} {v:Value} (h:Ef P o a.eval w φ) (hs:∀ cs b,o.op≠.select cs b) (hd:∀ e,some d=some e→e∉o.looksAt ops):Ef P o (a.put (some d) v).eval w φ:=by
  unfold Ef
  rw [execOp_put (ops:=ops) o hs a (some d) v hd]
  exact h
theorem Qfr (hr : Region.ready .any ops listed=[]) (h:Q .normal (Qa3 ds N L) w):WB P ops Q Rd fuel listed (Qa3 ds N L) w :=
  ⟨fun _=>by cases fuel with
    | zero=>exact ⟨hr,h⟩
    | succ n=>exact ⟨fun _=>h,by rw [hr]; simp⟩⟩
end Go.Proofs.YthfkppjajmjpnaaDoor.Wk
end
section
namespace Go.Proofs.YthfkppjajmjpnaaDoor.Wr
open Go Go.RowKit
open Rely Auto Own Sha
theorem ExtB.tr {g : Nat} {a b c:World} (h:ExtB g a b) (k:ExtB g b c):ExtB g a c:=⟨k.1.trans h.1,k.2.1.trans h.2.1,k.2.2.1.trans h.2.2.1,qT h.2.2.2.1 k.2.2.2.1,fun i hi hn=>(k.2.2.2.2 i (qL hi h.2.2.2.1) hn).trans (h.2.2.2.2 i hi hn)⟩
end Go.Proofs.YthfkppjajmjpnaaDoor.Wr
end
section
namespace Go.Proofs.YthfkppjajmjpnaaDoor.Wr
open Go Go.RowKit
open Rely Auto Own Sha
theorem or_byte (a b c:Nat) (hb:b<256) (hc:a*256+b=c) (hs:c<4611686018427387904):bits .or .i64 ((a*256:Nat):Int) ((b:Nat):Int)=((c:Nat):Int):=by
  have h:bits .or .i64 ((a*256:Nat):Int) ((b:Nat):Int)=IntKind.i64.wrap (((BitVec.ofInt 64 ((a*256:Nat):Int))|||(BitVec.ofInt 64 ((b:Nat):Int))).toNat:Int):=rfl
  rw [h,BitVec.toNat_or,BitVec.toNat_ofInt,BitVec.toNat_ofInt]
  have e1:(((a*256:Nat):Int)%((2^64:Nat):Int)).toNat=2^8*a:=by omega
  have e2:(((b:Nat):Int)%((2^64:Nat):Int)).toNat=b:=by omega
  rw [e1,e2,←Nat.two_pow_add_eq_or_of_lt (i:=8) (by omega) a,show 2^8*a+b=c by omega]
  exact IntWalk.i64_in _ (by omega)
theorem byteN {ys : List Int} (hb:Qav ys) (i:Nat):IntKind.i64.wrap (nth ys i)=(((nth ys i).toNat:Nat):Int)∧(nth ys i).toNat<256:=by
  have h:0≤nth ys i∧nth ys i≤255:=by
    unfold nth
    rw [List.getD_eq_getElem?_getD]
    cases e:ys[i]? with
    | none=>exact ⟨Int.le_refl _,by decide⟩
    | some x=>exact hb x (List.mem_of_getElem? e)
  exact ⟨(IntWalk.i64_in _ (by omega)).trans (by omega),by omega⟩
end Go.Proofs.YthfkppjajmjpnaaDoor.Wr
end
section
namespace Go.Proofs.YthfkppjajmjpnaaDoor.Wr
open Go Go.RowKit
open Rely Auto Own Sha
open Wk
end Go.Proofs.YthfkppjajmjpnaaDoor.Wr
end
section
namespace Go.Proofs.YthfkppjajmjpnaaDoor.Wr
open Go Go.RowKit
open Rely Auto Own Sha
theorem fill_cat (pl : Nat→Option (Nat×Nat)):∀ (ps:List (Nat×Nat×Value×Array Value)) (pre:List (Array Value)) (rest:Array Value) (off:Nat),(cat pre).size=off→okPl pl off ps→tot ps=rest.size →
    Instr.fill pl (cat pre++rest) (ps.map fun x=>(x.1,x.2.2.1))=some (cat (pre++ps.map fun x=>x.2.2.2))
  | [],pre,rest,off,_,_,ht=>by
    have:rest=#[]:=Array.eq_empty_of_size_eq_zero ht.symm
    subst this
    simp [Instr.fill]
  | (i,n,v,p)::r,pre,rest,off,hoff,⟨h1,h2,h3,h4⟩,ht=>by
    subst h2
    have hn:n≤rest.size:=by rw [←ht,tot]; omega
    simp only [List.map_cons,Instr.fill,h1,h3]
    rw [if_neg (by simp; omega)]
    have hz:(v.cells.zipIdx.foldl (fun cs (x:Value×Nat)=>cs.setIfInBounds (off+x.2) x.1) (cat pre++rest))=cat (pre++[v.cells])++rest.extract n rest.size:=by
      have e1:v.cells.zipIdx=(v.cells.toList.zipIdx 0).toArray:=by
        apply Array.ext'
        simp
      rw [e1,List.foldl_toArray',QcD]
      · have e2:rest=rest.extract 0 n++rest.extract n rest.size:=by
          rw [Array.extract_append_extract,Nat.max_eq_right hn]
          simp
        have e3:(cat pre++rest)=cat (pre++([rest.extract 0 n]++[rest.extract n rest.size])):=by
          rw [QaA]
          congr 1
        rw [Nat.add_zero,e3]
        have:=QeH pre [rest.extract 0 n] [v.cells] [rest.extract n rest.size] off hoff (by show v.cells.size=(rest.extract 0 n).size; simp; omega)
        rw [show (cat [v.cells]).toList=v.cells.toList from rfl] at this
        rw [this,←List.append_assoc,QaA (pre++[v.cells])]
        rfl
      · rfl
    have key:=fill_cat pl r (pre++[v.cells]) (rest.extract n rest.size) (off+n) (by rw [QaA]; show (cat pre++v.cells).size=_; simp; omega) h4 (by simp; rw [←ht,tot]; omega)
    rw [←hz] at key
    rw [List.append_assoc] at key
    exact key
end Go.Proofs.YthfkppjajmjpnaaDoor.Wr
end
section
namespace Go.Proofs.YthfkppjajmjpnaaDoor.Wr
open Go Go.RowKit
open Rely Auto Own Sha
end Go.Proofs.YthfkppjajmjpnaaDoor.Wr
end
section
namespace Go.Proofs.YthfkppjajmjpnaaDoor.Wr
open Go Go.RowKit
open Rely Auto Own Sha
end Go.Proofs.YthfkppjajmjpnaaDoor.Wr
end
section
namespace Go.Proofs.YthfkppjajmjpnaaDoor.Wr
open Go Go.RowKit
open Rely Auto Own Sha
theorem Qct (s : Option (List Int)) (a b:List Int):rawS (rawS s a) b=rawS s (a++b):=by
  cases s with
  | none=>rfl
  | some xs =>
    unfold rawS
    simp only [Option.bind_some]
    by_cases h1:xs.length+a.length≤65536
    · rw [if_pos h1]
      simp only [Option.bind_some,List.length_append]
      by_cases h2:xs.length+a.length+b.length≤65536
      · rw [if_pos h2,if_pos (by omega),List.append_assoc]
      · rw [if_neg h2,if_neg (by omega)]
    · rw [if_neg h1,if_neg (by rw [List.length_append]; omega)]
      rfl
theorem QhJ (n : Int):∀ (k:Nat) (s:Option (List Int)),numR n (k+1) s=rawS s (beV n (k+1))
  | 0,s=>rfl
  | k+1,s=>by
    show numR n (k+1) (rawS s [byV n (k+1)])=_
    rw [QhJ n k,Qct]
    rfl
theorem Qf6 (n : Int):∀ k:Nat,numR n k none=none
  | 0=>rfl
  | k+1=>Qf6 n k
theorem QlP (n : Int) (k:Nat) (m:Int) (hm:(2:Int)^(8*k)=m+1) (h0:0≤m):okN n k=inB n m:=by
  unfold okN inB
  rw [hm,Int.fdiv_eq_ediv_of_nonneg _ (by omega),Bool.eq_iff_iff]
  simp only [Bool.and_eq_true,decide_eq_true_eq,beq_iff_eq]
  constructor
  · rintro ⟨h1,h2⟩
    have h3:=Int.lt_ediv_add_one_mul_self n (show 0<m+1 by omega)
    rw [h2] at h3
    exact ⟨h1,by omega⟩
  · rintro ⟨h1,h2⟩
    exact ⟨h1,Int.ediv_eq_zero_of_lt h1 (by omega)⟩
theorem QcS (s : Option (List Int)) (n:Int) (k:Nat) (m:Int) (hm:(2:Int)^(8*(k+1))=m+1) (h0:0≤m):numS s n (k+1)=bif inB n m then rawS s (beV n (k+1)) else none:=by
  unfold numS
  rw [QlP n (k+1) m hm h0]
  cases inB n m with
  | true=>exact QhJ n k s
  | false=>exact Qf6 n (k+1)
theorem Qg4 (s : Option (List Int)) (n:Int):Qch s n=bif inB n 31 then rawS s (beV n 1) else none:=by
  unfold Qch
  rw [QcS _ n 0 255 (by decide) (by decide)]
  by_cases h:n<32
  · rw [decide_eq_true h]
    by_cases h0:0≤n
    · rw [show inB n 255=true by unfold inB; simp; omega,show inB n 31=true by unfold inB; simp; omega]; rfl
    · rw [show inB n 255=false by unfold inB; simp; omega,show inB n 31=false by unfold inB; simp; omega]; rfl
  · rw [decide_eq_false h,show inB n 31=false by unfold inB; simp; omega]
    cases inB n 255 <;> rfl
theorem QiM (ys : List Int):rawS (some []) ys=fitV ys:=by
  unfold rawS fitV
  simp only [Option.bind_some,List.length_nil,Nat.zero_add,List.nil_append]
end Go.Proofs.YthfkppjajmjpnaaDoor.Wr
end
section
namespace Go.Proofs.YthfkppjajmjpnaaDoor.Wr
open Go Go.RowKit
open Rely Auto Own Sha
def Qb4 (us : Bool) (nm:Int) (key sg pa ms:List Int):Bool:=!us&&(nm==0)&&decide (key=List.replicate 32 0)&&decide (sg=List.replicate 32 0)&&decide (pa=List.replicate 32 0)&&(ms.length==0)
theorem Qlq (nm : Int) (key sg pa ms:List Int) (a_m:Option Addr) (c_m:Nat) (w:World) (hkl:key.length=32) (hgl:sg.length=32) (hpl:pa.length=32)  : Calls Tryd.prog 86 #[.agg (cat [#[.bool true],#[.int .i64 nm],ints .u8 (key),ints .u8 (sg),ints .u8 (pa),#[.slice a_m ms.length c_m]])] w (Ret w (.bool false)):=by
  refine enter 35 [(0,.agg (cat [#[.bool true],#[.int .i64 nm],ints .u8 (key),ints .u8 (sg),ints .u8 (pa),#[.slice a_m ms.length c_m]]))] Tryd.func86 rfl rfl kj rfl ?_
  refine wp_seq_k fun K1 hK1=>?_
  refine Qab ?_
  refine Qan (cat [#[.bool true],#[.int .i64 nm],ints .u8 (key),ints .u8 (sg),ints .u8 (pa),#[.slice a_m ms.length c_m]]) 50 1 rfl kj kj fun g2 W1 l2 e1 r2_1=>?_
  have x1:Ext w W1:=Ext.tr (Rely.Ext.refl w) e1
  have b2:w.heap.size≤g2:=qT (Rely.Ext.refl w).size l2
  refine Qaa (.bool false) 2 rfl kj kj ?_
  refine Qaf ?_
  refine hK1 _ _ ?_
  refine wp_seq_k fun K3 hK3=>?_
  refine Qab ?_
  refine Qaa (.pointer (some ⟨g2,0,none⟩)) 3 rfl kj kj ?_
  refine Qaa (.bool true) 4 rfl kj (Qag 4 _ g2 0 50 _ (.bool true) _ r2_1 rfl kj (Qaj [] [#[.bool true]] [#[.int .i64 nm],ints .u8 (key),ints .u8 (sg),ints .u8 (pa),#[.slice a_m ms.length c_m]] 0 kj 0 _ rfl) kj) ?_
  refine Qaa (.bool false) 5 rfl kj kj ?_
  refine Qaa (.bool false) 6 rfl kj kj ?_
  refine Qad 7 rfl kj ?_
  refine Qad 8 rfl kj ?_
  refine Qad 9 rfl kj ?_
  refine Qaa (.bool false) 10 rfl kj kj ?_
  refine Qaa (.bool false) 11 rfl kj kj ?_
  refine Qad 12 rfl kj ?_
  refine Qad 13 rfl kj ?_
  refine Qad 14 rfl kj ?_
  refine Qad 15 rfl kj ?_
  refine Qaa (.bool false) 16 rfl kj kj ?_
  refine Qaa (.bool false) 17 rfl kj kj ?_
  refine Qad 18 rfl kj ?_
  refine Qad 19 rfl kj ?_
  refine Qad 20 rfl kj ?_
  refine Qad 21 rfl kj ?_
  refine Qaa (.bool false) 22 rfl kj kj ?_
  refine Qaa (.bool false) 23 rfl kj kj ?_
  refine Qad 24 rfl kj ?_
  refine Qad 25 rfl kj ?_
  refine Qad 26 rfl kj ?_
  refine Qad 27 rfl kj ?_
  refine Qaa (.bool false) 28 rfl kj kj ?_
  refine Qaa (.bool false) 29 rfl kj kj ?_
  refine Qad 30 rfl kj ?_
  refine Qad 31 rfl kj ?_
  refine Qad 32 rfl kj ?_
  refine Qad 33 rfl kj ?_
  refine Qaa (.bool false) 34 rfl kj kj ?_
  refine Qaa (.bool false) 2 rfl kj kj ?_
  refine Qaf ?_
  refine hK3 _ _ ?_
  refine wp_ret ?_
  repeat (first | with_reducible refine goR1 ?_ | with_reducible refine goR2 ?_)
  exact (show bodyPost _ _ _ .ret _ _ from ret1 (.bool false) rfl (Qaq kj) ⟨rfl,x1⟩)
theorem Qlp (nm : Int) (key sg pa ms:List Int) (a_m:Option Addr) (c_m:Nat) (w:World) (hkl:key.length=32) (hgl:sg.length=32) (hpl:pa.length=32) (h1:¬ nm=0):Calls Tryd.prog 86 #[.agg (cat [#[.bool false],#[.int .i64 nm],ints .u8 (key),ints .u8 (sg),ints .u8 (pa),#[.slice a_m ms.length c_m]])] w (Ret w (.bool false)):=by
  refine enter 35 [(0,.agg (cat [#[.bool false],#[.int .i64 nm],ints .u8 (key),ints .u8 (sg),ints .u8 (pa),#[.slice a_m ms.length c_m]]))] Tryd.func86 rfl rfl kj rfl ?_
  refine wp_seq_k fun K1 hK1=>?_
  refine Qab ?_
  refine Qan (cat [#[.bool false],#[.int .i64 nm],ints .u8 (key),ints .u8 (sg),ints .u8 (pa),#[.slice a_m ms.length c_m]]) 50 1 rfl kj kj fun g2 W1 l2 e1 r2_1=>?_
  have x1:Ext w W1:=Ext.tr (Rely.Ext.refl w) e1
  have b2:w.heap.size≤g2:=qT (Rely.Ext.refl w).size l2
  refine Qaa (.bool false) 2 rfl kj kj ?_
  refine Qaf ?_
  refine hK1 _ _ ?_
  refine wp_seq_k fun K3 hK3=>?_
  refine Qab ?_
  refine Qaa (.pointer (some ⟨g2,0,none⟩)) 3 rfl kj kj ?_
  refine Qaa (.bool false) 4 rfl kj (Qag 4 _ g2 0 50 _ (.bool false) _ r2_1 rfl kj (Qaj [] [#[.bool false]] [#[.int .i64 nm],ints .u8 (key),ints .u8 (sg),ints .u8 (pa),#[.slice a_m ms.length c_m]] 0 kj 0 _ rfl) kj) ?_
  refine Qaa (.bool true) 5 rfl kj kj ?_
  refine Qaa (.bool true) 6 rfl kj kj ?_
  refine Qaa (.pointer (some ⟨g2,1,none⟩)) 7 rfl kj kj ?_
  refine Qaa (.int .i64 nm) 8 rfl kj (Qag 3 _ g2 1 50 _ (.int .i64 nm) _ r2_1 rfl kj (Qaj [#[.bool false]] [#[.int .i64 nm]] [ints .u8 (key),ints .u8 (sg),ints .u8 (pa),#[.slice a_m ms.length c_m]] 1 kj 0 _ rfl) kj) ?_
  refine Qaa (.bool false) 9 rfl kj (Qai (u:=.bool ((nm==0))) kj (congrArg Value.bool (beq_eq_false_iff_ne.2 h1))) ?_
  refine Qaa (.bool false) 10 rfl kj kj ?_
  refine Qaa (.bool false) 11 rfl kj kj ?_
  refine Qad 12 rfl kj ?_
  refine Qad 13 rfl kj ?_
  refine Qad 14 rfl kj ?_
  refine Qad 15 rfl kj ?_
  refine Qaa (.bool false) 16 rfl kj kj ?_
  refine Qaa (.bool false) 17 rfl kj kj ?_
  refine Qad 18 rfl kj ?_
  refine Qad 19 rfl kj ?_
  refine Qad 20 rfl kj ?_
  refine Qad 21 rfl kj ?_
  refine Qaa (.bool false) 22 rfl kj kj ?_
  refine Qaa (.bool false) 23 rfl kj kj ?_
  refine Qad 24 rfl kj ?_
  refine Qad 25 rfl kj ?_
  refine Qad 26 rfl kj ?_
  refine Qad 27 rfl kj ?_
  refine Qaa (.bool false) 28 rfl kj kj ?_
  refine Qaa (.bool false) 29 rfl kj kj ?_
  refine Qad 30 rfl kj ?_
  refine Qad 31 rfl kj ?_
  refine Qad 32 rfl kj ?_
  refine Qad 33 rfl kj ?_
  refine Qaa (.bool false) 34 rfl kj kj ?_
  refine Qaa (.bool false) 2 rfl kj kj ?_
  refine Qaf ?_
  refine hK3 _ _ ?_
  refine wp_ret ?_
  repeat (first | with_reducible refine goR1 ?_ | with_reducible refine goR2 ?_)
  exact (show bodyPost _ _ _ .ret _ _ from ret1 (.bool false) rfl (Qaq kj) ⟨rfl,x1⟩)
theorem Qlo (nm : Int) (key sg pa ms:List Int) (a_m:Option Addr) (c_m:Nat) (w:World) (hkl:key.length=32) (hgl:sg.length=32) (hpl:pa.length=32) (h1:nm=0) (h2:¬ key=List.replicate 32 0):Calls Tryd.prog 86 #[.agg (cat [#[.bool false],#[.int .i64 nm],ints .u8 (key),ints .u8 (sg),ints .u8 (pa),#[.slice a_m ms.length c_m]])] w (Ret w (.bool false)):=by
  refine enter 35 [(0,.agg (cat [#[.bool false],#[.int .i64 nm],ints .u8 (key),ints .u8 (sg),ints .u8 (pa),#[.slice a_m ms.length c_m]]))] Tryd.func86 rfl rfl kj rfl ?_
  refine wp_seq_k fun K1 hK1=>?_
  refine Qab ?_
  refine Qan (cat [#[.bool false],#[.int .i64 nm],ints .u8 (key),ints .u8 (sg),ints .u8 (pa),#[.slice a_m ms.length c_m]]) 50 1 rfl kj kj fun g2 W1 l2 e1 r2_1=>?_
  have x1:Ext w W1:=Ext.tr (Rely.Ext.refl w) e1
  have b2:w.heap.size≤g2:=qT (Rely.Ext.refl w).size l2
  refine Qaa (.bool false) 2 rfl kj kj ?_
  refine Qaf ?_
  refine hK1 _ _ ?_
  refine wp_seq_k fun K3 hK3=>?_
  refine Qab ?_
  refine Qaa (.pointer (some ⟨g2,0,none⟩)) 3 rfl kj kj ?_
  refine Qaa (.bool false) 4 rfl kj (Qag 4 _ g2 0 50 _ (.bool false) _ r2_1 rfl kj (Qaj [] [#[.bool false]] [#[.int .i64 nm],ints .u8 (key),ints .u8 (sg),ints .u8 (pa),#[.slice a_m ms.length c_m]] 0 kj 0 _ rfl) kj) ?_
  refine Qaa (.bool true) 5 rfl kj kj ?_
  refine Qaa (.bool true) 6 rfl kj kj ?_
  refine Qaa (.pointer (some ⟨g2,1,none⟩)) 7 rfl kj kj ?_
  refine Qaa (.int .i64 nm) 8 rfl kj (Qag 3 _ g2 1 50 _ (.int .i64 nm) _ r2_1 rfl kj (Qaj [#[.bool false]] [#[.int .i64 nm]] [ints .u8 (key),ints .u8 (sg),ints .u8 (pa),#[.slice a_m ms.length c_m]] 1 kj 0 _ rfl) kj) ?_
  refine Qaa (.bool true) 9 rfl kj (Qai (u:=.bool ((nm==0))) kj (congrArg Value.bool (beq_iff_eq.2 h1))) ?_
  refine Qaa (.bool true) 10 rfl kj kj ?_
  refine Qaa (.bool true) 11 rfl kj kj ?_
  refine Qaa (.pointer (some ⟨g2,2,none⟩)) 12 rfl kj kj ?_
  refine Qaa (.agg (ints .u8 (key))) 13 rfl kj (Qao 48 _ g2 2 50 _ _ _ r2_1 rfl kj (Qaj [#[.bool false],#[.int .i64 nm]] [ints .u8 (key)] [ints .u8 (sg),ints .u8 (pa),#[.slice a_m ms.length c_m]] 2 kj) kj (isz (n:=32) kj ((Qae _ _).trans hkl))) ?_
  refine Qaa (.agg (ints .u8 (List.replicate 32 0))) 14 rfl kj kj ?_
  refine Qaa (.bool false) 15 rfl kj (QaB 48 _ _ _ _ _ (.bool false) rfl kj kj kj (QaO 48 (e:=5) (k:=.u8) (key) (List.replicate 32 0) (decide_eq_false h2) hkl (qZ (n:=32)) kj kj kj _)) ?_
  refine Qaa (.bool false) 16 rfl kj kj ?_
  refine Qaa (.bool false) 17 rfl kj kj ?_
  refine Qad 18 rfl kj ?_
  refine Qad 19 rfl kj ?_
  refine Qad 20 rfl kj ?_
  refine Qad 21 rfl kj ?_
  refine Qaa (.bool false) 22 rfl kj kj ?_
  refine Qaa (.bool false) 23 rfl kj kj ?_
  refine Qad 24 rfl kj ?_
  refine Qad 25 rfl kj ?_
  refine Qad 26 rfl kj ?_
  refine Qad 27 rfl kj ?_
  refine Qaa (.bool false) 28 rfl kj kj ?_
  refine Qaa (.bool false) 29 rfl kj kj ?_
  refine Qad 30 rfl kj ?_
  refine Qad 31 rfl kj ?_
  refine Qad 32 rfl kj ?_
  refine Qad 33 rfl kj ?_
  refine Qaa (.bool false) 34 rfl kj kj ?_
  refine Qaa (.bool false) 2 rfl kj kj ?_
  refine Qaf ?_
  refine hK3 _ _ ?_
  refine wp_ret ?_
  repeat (first | with_reducible refine goR1 ?_ | with_reducible refine goR2 ?_)
  exact (show bodyPost _ _ _ .ret _ _ from ret1 (.bool false) rfl (Qaq kj) ⟨rfl,x1⟩)
theorem Qln (nm : Int) (key sg pa ms:List Int) (a_m:Option Addr) (c_m:Nat) (w:World) (hkl:key.length=32) (hgl:sg.length=32) (hpl:pa.length=32) (h1:nm=0) (h2:key=List.replicate 32 0) (h3:¬ sg=List.replicate 32 0):Calls Tryd.prog 86 #[.agg (cat [#[.bool false],#[.int .i64 nm],ints .u8 (key),ints .u8 (sg),ints .u8 (pa),#[.slice a_m ms.length c_m]])] w (Ret w (.bool false)):=by
  refine enter 35 [(0,.agg (cat [#[.bool false],#[.int .i64 nm],ints .u8 (key),ints .u8 (sg),ints .u8 (pa),#[.slice a_m ms.length c_m]]))] Tryd.func86 rfl rfl kj rfl ?_
  refine wp_seq_k fun K1 hK1=>?_
  refine Qab ?_
  refine Qan (cat [#[.bool false],#[.int .i64 nm],ints .u8 (key),ints .u8 (sg),ints .u8 (pa),#[.slice a_m ms.length c_m]]) 50 1 rfl kj kj fun g2 W1 l2 e1 r2_1=>?_
  have x1:Ext w W1:=Ext.tr (Rely.Ext.refl w) e1
  have b2:w.heap.size≤g2:=qT (Rely.Ext.refl w).size l2
  refine Qaa (.bool false) 2 rfl kj kj ?_
  refine Qaf ?_
  refine hK1 _ _ ?_
  refine wp_seq_k fun K3 hK3=>?_
  refine Qab ?_
  refine Qaa (.pointer (some ⟨g2,0,none⟩)) 3 rfl kj kj ?_
  refine Qaa (.bool false) 4 rfl kj (Qag 4 _ g2 0 50 _ (.bool false) _ r2_1 rfl kj (Qaj [] [#[.bool false]] [#[.int .i64 nm],ints .u8 (key),ints .u8 (sg),ints .u8 (pa),#[.slice a_m ms.length c_m]] 0 kj 0 _ rfl) kj) ?_
  refine Qaa (.bool true) 5 rfl kj kj ?_
  refine Qaa (.bool true) 6 rfl kj kj ?_
  refine Qaa (.pointer (some ⟨g2,1,none⟩)) 7 rfl kj kj ?_
  refine Qaa (.int .i64 nm) 8 rfl kj (Qag 3 _ g2 1 50 _ (.int .i64 nm) _ r2_1 rfl kj (Qaj [#[.bool false]] [#[.int .i64 nm]] [ints .u8 (key),ints .u8 (sg),ints .u8 (pa),#[.slice a_m ms.length c_m]] 1 kj 0 _ rfl) kj) ?_
  refine Qaa (.bool true) 9 rfl kj (Qai (u:=.bool ((nm==0))) kj (congrArg Value.bool (beq_iff_eq.2 h1))) ?_
  refine Qaa (.bool true) 10 rfl kj kj ?_
  refine Qaa (.bool true) 11 rfl kj kj ?_
  refine Qaa (.pointer (some ⟨g2,2,none⟩)) 12 rfl kj kj ?_
  refine Qaa (.agg (ints .u8 (key))) 13 rfl kj (Qao 48 _ g2 2 50 _ _ _ r2_1 rfl kj (Qaj [#[.bool false],#[.int .i64 nm]] [ints .u8 (key)] [ints .u8 (sg),ints .u8 (pa),#[.slice a_m ms.length c_m]] 2 kj) kj (isz (n:=32) kj ((Qae _ _).trans hkl))) ?_
  refine Qaa (.agg (ints .u8 (List.replicate 32 0))) 14 rfl kj kj ?_
  refine Qaa (.bool true) 15 rfl kj (QaB 48 _ _ _ _ _ (.bool true) rfl kj kj kj (QaO 48 (e:=5) (k:=.u8) (key) (List.replicate 32 0) (decide_eq_true h2) hkl (qZ (n:=32)) kj kj kj _)) ?_
  refine Qaa (.bool true) 16 rfl kj kj ?_
  refine Qaa (.bool true) 17 rfl kj kj ?_
  refine Qaa (.pointer (some ⟨g2,34,none⟩)) 18 rfl kj kj ?_
  refine Qaa (.agg (ints .u8 (sg))) 19 rfl kj (Qao 48 _ g2 34 50 _ _ _ r2_1 rfl kj (Qaj [#[.bool false],#[.int .i64 nm],ints .u8 (key)] [ints .u8 (sg)] [ints .u8 (pa),#[.slice a_m ms.length c_m]] 34 (by rw [Qac,Qac,Qac]; simp only [qS,cat,((Qae _ _).trans hkl)]; rfl)) kj (isz (n:=32) kj ((Qae _ _).trans hgl))) ?_
  refine Qaa (.agg (ints .u8 (List.replicate 32 0))) 20 rfl kj kj ?_
  refine Qaa (.bool false) 21 rfl kj (QaB 48 _ _ _ _ _ (.bool false) rfl kj kj kj (QaO 48 (e:=5) (k:=.u8) (sg) (List.replicate 32 0) (decide_eq_false h3) hgl (qZ (n:=32)) kj kj kj _)) ?_
  refine Qaa (.bool false) 22 rfl kj kj ?_
  refine Qaa (.bool false) 23 rfl kj kj ?_
  refine Qad 24 rfl kj ?_
  refine Qad 25 rfl kj ?_
  refine Qad 26 rfl kj ?_
  refine Qad 27 rfl kj ?_
  refine Qaa (.bool false) 28 rfl kj kj ?_
  refine Qaa (.bool false) 29 rfl kj kj ?_
  refine Qad 30 rfl kj ?_
  refine Qad 31 rfl kj ?_
  refine Qad 32 rfl kj ?_
  refine Qad 33 rfl kj ?_
  refine Qaa (.bool false) 34 rfl kj kj ?_
  refine Qaa (.bool false) 2 rfl kj kj ?_
  refine Qaf ?_
  refine hK3 _ _ ?_
  refine wp_ret ?_
  repeat (first | with_reducible refine goR1 ?_ | with_reducible refine goR2 ?_)
  exact (show bodyPost _ _ _ .ret _ _ from ret1 (.bool false) rfl (Qaq kj) ⟨rfl,x1⟩)
theorem Qlm (nm : Int) (key sg pa ms:List Int) (a_m:Option Addr) (c_m:Nat) (w:World) (hkl:key.length=32) (hgl:sg.length=32) (hpl:pa.length=32) (h1:nm=0) (h2:key=List.replicate 32 0) (h3:sg=List.replicate 32 0) (h4:¬ pa=List.replicate 32 0):Calls Tryd.prog 86 #[.agg (cat [#[.bool false],#[.int .i64 nm],ints .u8 (key),ints .u8 (sg),ints .u8 (pa),#[.slice a_m ms.length c_m]])] w (Ret w (.bool false)):=by
  refine enter 35 [(0,.agg (cat [#[.bool false],#[.int .i64 nm],ints .u8 (key),ints .u8 (sg),ints .u8 (pa),#[.slice a_m ms.length c_m]]))] Tryd.func86 rfl rfl kj rfl ?_
  refine wp_seq_k fun K1 hK1=>?_
  refine Qab ?_
  refine Qan (cat [#[.bool false],#[.int .i64 nm],ints .u8 (key),ints .u8 (sg),ints .u8 (pa),#[.slice a_m ms.length c_m]]) 50 1 rfl kj kj fun g2 W1 l2 e1 r2_1=>?_
  have x1:Ext w W1:=Ext.tr (Rely.Ext.refl w) e1
  have b2:w.heap.size≤g2:=qT (Rely.Ext.refl w).size l2
  refine Qaa (.bool false) 2 rfl kj kj ?_
  refine Qaf ?_
  refine hK1 _ _ ?_
  refine wp_seq_k fun K3 hK3=>?_
  refine Qab ?_
  refine Qaa (.pointer (some ⟨g2,0,none⟩)) 3 rfl kj kj ?_
  refine Qaa (.bool false) 4 rfl kj (Qag 4 _ g2 0 50 _ (.bool false) _ r2_1 rfl kj (Qaj [] [#[.bool false]] [#[.int .i64 nm],ints .u8 (key),ints .u8 (sg),ints .u8 (pa),#[.slice a_m ms.length c_m]] 0 kj 0 _ rfl) kj) ?_
  refine Qaa (.bool true) 5 rfl kj kj ?_
  refine Qaa (.bool true) 6 rfl kj kj ?_
  refine Qaa (.pointer (some ⟨g2,1,none⟩)) 7 rfl kj kj ?_
  refine Qaa (.int .i64 nm) 8 rfl kj (Qag 3 _ g2 1 50 _ (.int .i64 nm) _ r2_1 rfl kj (Qaj [#[.bool false]] [#[.int .i64 nm]] [ints .u8 (key),ints .u8 (sg),ints .u8 (pa),#[.slice a_m ms.length c_m]] 1 kj 0 _ rfl) kj) ?_
  refine Qaa (.bool true) 9 rfl kj (Qai (u:=.bool ((nm==0))) kj (congrArg Value.bool (beq_iff_eq.2 h1))) ?_
  refine Qaa (.bool true) 10 rfl kj kj ?_
  refine Qaa (.bool true) 11 rfl kj kj ?_
  refine Qaa (.pointer (some ⟨g2,2,none⟩)) 12 rfl kj kj ?_
  refine Qaa (.agg (ints .u8 (key))) 13 rfl kj (Qao 48 _ g2 2 50 _ _ _ r2_1 rfl kj (Qaj [#[.bool false],#[.int .i64 nm]] [ints .u8 (key)] [ints .u8 (sg),ints .u8 (pa),#[.slice a_m ms.length c_m]] 2 kj) kj (isz (n:=32) kj ((Qae _ _).trans hkl))) ?_
  refine Qaa (.agg (ints .u8 (List.replicate 32 0))) 14 rfl kj kj ?_
  refine Qaa (.bool true) 15 rfl kj (QaB 48 _ _ _ _ _ (.bool true) rfl kj kj kj (QaO 48 (e:=5) (k:=.u8) (key) (List.replicate 32 0) (decide_eq_true h2) hkl (qZ (n:=32)) kj kj kj _)) ?_
  refine Qaa (.bool true) 16 rfl kj kj ?_
  refine Qaa (.bool true) 17 rfl kj kj ?_
  refine Qaa (.pointer (some ⟨g2,34,none⟩)) 18 rfl kj kj ?_
  refine Qaa (.agg (ints .u8 (sg))) 19 rfl kj (Qao 48 _ g2 34 50 _ _ _ r2_1 rfl kj (Qaj [#[.bool false],#[.int .i64 nm],ints .u8 (key)] [ints .u8 (sg)] [ints .u8 (pa),#[.slice a_m ms.length c_m]] 34 (by rw [Qac,Qac,Qac]; simp only [qS,cat,((Qae _ _).trans hkl)]; rfl)) kj (isz (n:=32) kj ((Qae _ _).trans hgl))) ?_
  refine Qaa (.agg (ints .u8 (List.replicate 32 0))) 20 rfl kj kj ?_
  refine Qaa (.bool true) 21 rfl kj (QaB 48 _ _ _ _ _ (.bool true) rfl kj kj kj (QaO 48 (e:=5) (k:=.u8) (sg) (List.replicate 32 0) (decide_eq_true h3) hgl (qZ (n:=32)) kj kj kj _)) ?_
  refine Qaa (.bool true) 22 rfl kj kj ?_
  refine Qaa (.bool true) 23 rfl kj kj ?_
  refine Qaa (.pointer (some ⟨g2,66,none⟩)) 24 rfl kj kj ?_
  refine Qaa (.agg (ints .u8 (pa))) 25 rfl kj (Qao 28 _ g2 66 50 _ _ _ r2_1 rfl kj (Qaj [#[.bool false],#[.int .i64 nm],ints .u8 (key),ints .u8 (sg)] [ints .u8 (pa)] [#[.slice a_m ms.length c_m]] 66 (by rw [Qac,Qac,Qac,Qac]; simp only [qS,cat,((Qae _ _).trans hgl),((Qae _ _).trans hkl)]; rfl)) kj (isz (n:=32) kj ((Qae _ _).trans hpl))) ?_
  refine Qaa (.agg (ints .u8 (List.replicate 32 0))) 26 rfl kj kj ?_
  refine Qaa (.bool false) 27 rfl kj (QaB 28 _ _ _ _ _ (.bool false) rfl kj kj kj (QaO 28 (e:=5) (k:=.u8) (pa) (List.replicate 32 0) (decide_eq_false h4) hpl (qZ (n:=32)) kj kj kj _)) ?_
  refine Qaa (.bool false) 28 rfl kj kj ?_
  refine Qaa (.bool false) 29 rfl kj kj ?_
  refine Qad 30 rfl kj ?_
  refine Qad 31 rfl kj ?_
  refine Qad 32 rfl kj ?_
  refine Qad 33 rfl kj ?_
  refine Qaa (.bool false) 34 rfl kj kj ?_
  refine Qaa (.bool false) 2 rfl kj kj ?_
  refine Qaf ?_
  refine hK3 _ _ ?_
  refine wp_ret ?_
  repeat (first | with_reducible refine goR1 ?_ | with_reducible refine goR2 ?_)
  exact (show bodyPost _ _ _ .ret _ _ from ret1 (.bool false) rfl (Qaq kj) ⟨rfl,x1⟩)
theorem Qll (nm : Int) (key sg pa ms:List Int) (a_m:Option Addr) (c_m:Nat) (w:World) (hkl:key.length=32) (hgl:sg.length=32) (hpl:pa.length=32) (h1:nm=0) (h2:key=List.replicate 32 0) (h3:sg=List.replicate 32 0) (h4:pa=List.replicate 32 0) (h5:¬ ms.length=0):Calls Tryd.prog 86 #[.agg (cat [#[.bool false],#[.int .i64 nm],ints .u8 (key),ints .u8 (sg),ints .u8 (pa),#[.slice a_m ms.length c_m]])] w (Ret w (.bool false)):=by
  refine enter 35 [(0,.agg (cat [#[.bool false],#[.int .i64 nm],ints .u8 (key),ints .u8 (sg),ints .u8 (pa),#[.slice a_m ms.length c_m]]))] Tryd.func86 rfl rfl kj rfl ?_
  refine wp_seq_k fun K1 hK1=>?_
  refine Qab ?_
  refine Qan (cat [#[.bool false],#[.int .i64 nm],ints .u8 (key),ints .u8 (sg),ints .u8 (pa),#[.slice a_m ms.length c_m]]) 50 1 rfl kj kj fun g2 W1 l2 e1 r2_1=>?_
  have x1:Ext w W1:=Ext.tr (Rely.Ext.refl w) e1
  have b2:w.heap.size≤g2:=qT (Rely.Ext.refl w).size l2
  refine Qaa (.bool false) 2 rfl kj kj ?_
  refine Qaf ?_
  refine hK1 _ _ ?_
  refine wp_seq_k fun K3 hK3=>?_
  refine Qab ?_
  refine Qaa (.pointer (some ⟨g2,0,none⟩)) 3 rfl kj kj ?_
  refine Qaa (.bool false) 4 rfl kj (Qag 4 _ g2 0 50 _ (.bool false) _ r2_1 rfl kj (Qaj [] [#[.bool false]] [#[.int .i64 nm],ints .u8 (key),ints .u8 (sg),ints .u8 (pa),#[.slice a_m ms.length c_m]] 0 kj 0 _ rfl) kj) ?_
  refine Qaa (.bool true) 5 rfl kj kj ?_
  refine Qaa (.bool true) 6 rfl kj kj ?_
  refine Qaa (.pointer (some ⟨g2,1,none⟩)) 7 rfl kj kj ?_
  refine Qaa (.int .i64 nm) 8 rfl kj (Qag 3 _ g2 1 50 _ (.int .i64 nm) _ r2_1 rfl kj (Qaj [#[.bool false]] [#[.int .i64 nm]] [ints .u8 (key),ints .u8 (sg),ints .u8 (pa),#[.slice a_m ms.length c_m]] 1 kj 0 _ rfl) kj) ?_
  refine Qaa (.bool true) 9 rfl kj (Qai (u:=.bool ((nm==0))) kj (congrArg Value.bool (beq_iff_eq.2 h1))) ?_
  refine Qaa (.bool true) 10 rfl kj kj ?_
  refine Qaa (.bool true) 11 rfl kj kj ?_
  refine Qaa (.pointer (some ⟨g2,2,none⟩)) 12 rfl kj kj ?_
  refine Qaa (.agg (ints .u8 (key))) 13 rfl kj (Qao 48 _ g2 2 50 _ _ _ r2_1 rfl kj (Qaj [#[.bool false],#[.int .i64 nm]] [ints .u8 (key)] [ints .u8 (sg),ints .u8 (pa),#[.slice a_m ms.length c_m]] 2 kj) kj (isz (n:=32) kj ((Qae _ _).trans hkl))) ?_
  refine Qaa (.agg (ints .u8 (List.replicate 32 0))) 14 rfl kj kj ?_
  refine Qaa (.bool true) 15 rfl kj (QaB 48 _ _ _ _ _ (.bool true) rfl kj kj kj (QaO 48 (e:=5) (k:=.u8) (key) (List.replicate 32 0) (decide_eq_true h2) hkl (qZ (n:=32)) kj kj kj _)) ?_
  refine Qaa (.bool true) 16 rfl kj kj ?_
  refine Qaa (.bool true) 17 rfl kj kj ?_
  refine Qaa (.pointer (some ⟨g2,34,none⟩)) 18 rfl kj kj ?_
  refine Qaa (.agg (ints .u8 (sg))) 19 rfl kj (Qao 48 _ g2 34 50 _ _ _ r2_1 rfl kj (Qaj [#[.bool false],#[.int .i64 nm],ints .u8 (key)] [ints .u8 (sg)] [ints .u8 (pa),#[.slice a_m ms.length c_m]] 34 (by rw [Qac,Qac,Qac]; simp only [qS,cat,((Qae _ _).trans hkl)]; rfl)) kj (isz (n:=32) kj ((Qae _ _).trans hgl))) ?_
  refine Qaa (.agg (ints .u8 (List.replicate 32 0))) 20 rfl kj kj ?_
  refine Qaa (.bool true) 21 rfl kj (QaB 48 _ _ _ _ _ (.bool true) rfl kj kj kj (QaO 48 (e:=5) (k:=.u8) (sg) (List.replicate 32 0) (decide_eq_true h3) hgl (qZ (n:=32)) kj kj kj _)) ?_
  refine Qaa (.bool true) 22 rfl kj kj ?_
  refine Qaa (.bool true) 23 rfl kj kj ?_
  refine Qaa (.pointer (some ⟨g2,66,none⟩)) 24 rfl kj kj ?_
  refine Qaa (.agg (ints .u8 (pa))) 25 rfl kj (Qao 28 _ g2 66 50 _ _ _ r2_1 rfl kj (Qaj [#[.bool false],#[.int .i64 nm],ints .u8 (key),ints .u8 (sg)] [ints .u8 (pa)] [#[.slice a_m ms.length c_m]] 66 (by rw [Qac,Qac,Qac,Qac]; simp only [qS,cat,((Qae _ _).trans hgl),((Qae _ _).trans hkl)]; rfl)) kj (isz (n:=32) kj ((Qae _ _).trans hpl))) ?_
  refine Qaa (.agg (ints .u8 (List.replicate 32 0))) 26 rfl kj kj ?_
  refine Qaa (.bool true) 27 rfl kj (QaB 28 _ _ _ _ _ (.bool true) rfl kj kj kj (QaO 28 (e:=5) (k:=.u8) (pa) (List.replicate 32 0) (decide_eq_true h4) hpl (qZ (n:=32)) kj kj kj _)) ?_
  refine Qaa (.bool true) 28 rfl kj kj ?_
  refine Qaa (.bool true) 29 rfl kj kj ?_
  refine Qaa (.pointer (some ⟨g2,98,none⟩)) 30 rfl kj kj ?_
  refine Qaa (.slice a_m ms.length c_m) 31 rfl kj (Qag 24 _ g2 98 50 _ (.slice a_m ms.length c_m) _ r2_1 rfl kj (Qaj [#[.bool false],#[.int .i64 nm],ints .u8 (key),ints .u8 (sg),ints .u8 (pa)] [#[.slice a_m ms.length c_m]] [] 98 (by rw [Qac,Qac,Qac,Qac,Qac]; simp only [qS,cat,((Qae _ _).trans hgl),((Qae _ _).trans hkl),((Qae _ _).trans hpl)]; rfl) 0 _ rfl) kj) ?_
  refine Qaa (.int .i64 ((ms.length:Nat):Int)) 32 rfl kj kj ?_
  refine Qaa (.bool false) 33 rfl kj (Qai (u:=.bool ((((ms.length:Nat):Int)==0))) kj (congrArg Value.bool (beq_eq_false_iff_ne.2 (by omega)))) ?_
  refine Qaa (.bool false) 34 rfl kj kj ?_
  refine Qaa (.bool false) 2 rfl kj kj ?_
  refine Qaf ?_
  refine hK3 _ _ ?_
  refine wp_ret ?_
  repeat (first | with_reducible refine goR1 ?_ | with_reducible refine goR2 ?_)
  exact (show bodyPost _ _ _ .ret _ _ from ret1 (.bool false) rfl (Qaq kj) ⟨rfl,x1⟩)
theorem Qlk (nm : Int) (key sg pa ms:List Int) (a_m:Option Addr) (c_m:Nat) (w:World) (hkl:key.length=32) (hgl:sg.length=32) (hpl:pa.length=32) (h1:nm=0) (h2:key=List.replicate 32 0) (h3:sg=List.replicate 32 0) (h4:pa=List.replicate 32 0) (h5:ms.length=0):Calls Tryd.prog 86 #[.agg (cat [#[.bool false],#[.int .i64 nm],ints .u8 (key),ints .u8 (sg),ints .u8 (pa),#[.slice a_m ms.length c_m]])] w (Ret w (.bool true)):=by
  refine enter 35 [(0,.agg (cat [#[.bool false],#[.int .i64 nm],ints .u8 (key),ints .u8 (sg),ints .u8 (pa),#[.slice a_m ms.length c_m]]))] Tryd.func86 rfl rfl kj rfl ?_
  refine wp_seq_k fun K1 hK1=>?_
  refine Qab ?_
  refine Qan (cat [#[.bool false],#[.int .i64 nm],ints .u8 (key),ints .u8 (sg),ints .u8 (pa),#[.slice a_m ms.length c_m]]) 50 1 rfl kj kj fun g2 W1 l2 e1 r2_1=>?_
  have x1:Ext w W1:=Ext.tr (Rely.Ext.refl w) e1
  have b2:w.heap.size≤g2:=qT (Rely.Ext.refl w).size l2
  refine Qaa (.bool false) 2 rfl kj kj ?_
  refine Qaf ?_
  refine hK1 _ _ ?_
  refine wp_seq_k fun K3 hK3=>?_
  refine Qab ?_
  refine Qaa (.pointer (some ⟨g2,0,none⟩)) 3 rfl kj kj ?_
  refine Qaa (.bool false) 4 rfl kj (Qag 4 _ g2 0 50 _ (.bool false) _ r2_1 rfl kj (Qaj [] [#[.bool false]] [#[.int .i64 nm],ints .u8 (key),ints .u8 (sg),ints .u8 (pa),#[.slice a_m ms.length c_m]] 0 kj 0 _ rfl) kj) ?_
  refine Qaa (.bool true) 5 rfl kj kj ?_
  refine Qaa (.bool true) 6 rfl kj kj ?_
  refine Qaa (.pointer (some ⟨g2,1,none⟩)) 7 rfl kj kj ?_
  refine Qaa (.int .i64 nm) 8 rfl kj (Qag 3 _ g2 1 50 _ (.int .i64 nm) _ r2_1 rfl kj (Qaj [#[.bool false]] [#[.int .i64 nm]] [ints .u8 (key),ints .u8 (sg),ints .u8 (pa),#[.slice a_m ms.length c_m]] 1 kj 0 _ rfl) kj) ?_
  refine Qaa (.bool true) 9 rfl kj (Qai (u:=.bool ((nm==0))) kj (congrArg Value.bool (beq_iff_eq.2 h1))) ?_
  refine Qaa (.bool true) 10 rfl kj kj ?_
  refine Qaa (.bool true) 11 rfl kj kj ?_
  refine Qaa (.pointer (some ⟨g2,2,none⟩)) 12 rfl kj kj ?_
  refine Qaa (.agg (ints .u8 (key))) 13 rfl kj (Qao 48 _ g2 2 50 _ _ _ r2_1 rfl kj (Qaj [#[.bool false],#[.int .i64 nm]] [ints .u8 (key)] [ints .u8 (sg),ints .u8 (pa),#[.slice a_m ms.length c_m]] 2 kj) kj (isz (n:=32) kj ((Qae _ _).trans hkl))) ?_
  refine Qaa (.agg (ints .u8 (List.replicate 32 0))) 14 rfl kj kj ?_
  refine Qaa (.bool true) 15 rfl kj (QaB 48 _ _ _ _ _ (.bool true) rfl kj kj kj (QaO 48 (e:=5) (k:=.u8) (key) (List.replicate 32 0) (decide_eq_true h2) hkl (qZ (n:=32)) kj kj kj _)) ?_
  refine Qaa (.bool true) 16 rfl kj kj ?_
  refine Qaa (.bool true) 17 rfl kj kj ?_
  refine Qaa (.pointer (some ⟨g2,34,none⟩)) 18 rfl kj kj ?_
  refine Qaa (.agg (ints .u8 (sg))) 19 rfl kj (Qao 48 _ g2 34 50 _ _ _ r2_1 rfl kj (Qaj [#[.bool false],#[.int .i64 nm],ints .u8 (key)] [ints .u8 (sg)] [ints .u8 (pa),#[.slice a_m ms.length c_m]] 34 (by rw [Qac,Qac,Qac]; simp only [qS,cat,((Qae _ _).trans hkl)]; rfl)) kj (isz (n:=32) kj ((Qae _ _).trans hgl))) ?_
  refine Qaa (.agg (ints .u8 (List.replicate 32 0))) 20 rfl kj kj ?_
  refine Qaa (.bool true) 21 rfl kj (QaB 48 _ _ _ _ _ (.bool true) rfl kj kj kj (QaO 48 (e:=5) (k:=.u8) (sg) (List.replicate 32 0) (decide_eq_true h3) hgl (qZ (n:=32)) kj kj kj _)) ?_
  refine Qaa (.bool true) 22 rfl kj kj ?_
  refine Qaa (.bool true) 23 rfl kj kj ?_
  refine Qaa (.pointer (some ⟨g2,66,none⟩)) 24 rfl kj kj ?_
  refine Qaa (.agg (ints .u8 (pa))) 25 rfl kj (Qao 28 _ g2 66 50 _ _ _ r2_1 rfl kj (Qaj [#[.bool false],#[.int .i64 nm],ints .u8 (key),ints .u8 (sg)] [ints .u8 (pa)] [#[.slice a_m ms.length c_m]] 66 (by rw [Qac,Qac,Qac,Qac]; simp only [qS,cat,((Qae _ _).trans hgl),((Qae _ _).trans hkl)]; rfl)) kj (isz (n:=32) kj ((Qae _ _).trans hpl))) ?_
  refine Qaa (.agg (ints .u8 (List.replicate 32 0))) 26 rfl kj kj ?_
  refine Qaa (.bool true) 27 rfl kj (QaB 28 _ _ _ _ _ (.bool true) rfl kj kj kj (QaO 28 (e:=5) (k:=.u8) (pa) (List.replicate 32 0) (decide_eq_true h4) hpl (qZ (n:=32)) kj kj kj _)) ?_
  refine Qaa (.bool true) 28 rfl kj kj ?_
  refine Qaa (.bool true) 29 rfl kj kj ?_
  refine Qaa (.pointer (some ⟨g2,98,none⟩)) 30 rfl kj kj ?_
  refine Qaa (.slice a_m ms.length c_m) 31 rfl kj (Qag 24 _ g2 98 50 _ (.slice a_m ms.length c_m) _ r2_1 rfl kj (Qaj [#[.bool false],#[.int .i64 nm],ints .u8 (key),ints .u8 (sg),ints .u8 (pa)] [#[.slice a_m ms.length c_m]] [] 98 (by rw [Qac,Qac,Qac,Qac,Qac]; simp only [qS,cat,((Qae _ _).trans hgl),((Qae _ _).trans hkl),((Qae _ _).trans hpl)]; rfl) 0 _ rfl) kj) ?_
  refine Qaa (.int .i64 ((ms.length:Nat):Int)) 32 rfl kj kj ?_
  refine Qaa (.bool true) 33 rfl kj (Qai (u:=.bool ((((ms.length:Nat):Int)==0))) kj (congrArg Value.bool (by rw [h5]; rfl))) ?_
  refine Qaa (.bool true) 34 rfl kj kj ?_
  refine Qaa (.bool true) 2 rfl kj kj ?_
  refine Qaf ?_
  refine hK3 _ _ ?_
  refine wp_ret ?_
  repeat (first | with_reducible refine goR1 ?_ | with_reducible refine goR2 ?_)
  exact (show bodyPost _ _ _ .ret _ _ from ret1 (.bool true) rfl (Qaq kj) ⟨rfl,x1⟩)
theorem Qml (us : Bool) (nm:Int) (key sg pa ms:List Int) (a_m:Option Addr) (c_m:Nat) (w:World) (hkl:key.length=32) (hgl:sg.length=32) (hpl:pa.length=32):Calls Tryd.prog 86 #[.agg (cat [#[.bool us],#[.int .i64 nm],ints .u8 (key),ints .u8 (sg),ints .u8 (pa),#[.slice a_m ms.length c_m]])] w (Ret w (.bool (Qb4 us nm key sg pa ms))):=by
  unfold Qb4
  cases us with
  | true=>exact Qlq nm key sg pa ms a_m c_m w hkl hgl hpl
  | false =>
    by_cases h1:nm=0
    · rw [beq_iff_eq.2 h1]
      by_cases h2:key=List.replicate 32 0
      · rw [decide_eq_true h2]
        by_cases h3:sg=List.replicate 32 0
        · rw [decide_eq_true h3]
          by_cases h4:pa=List.replicate 32 0
          · rw [decide_eq_true h4]
            by_cases h5:ms.length=0
            · rw [beq_iff_eq.2 h5]; exact Qlk nm key sg pa ms a_m c_m w hkl hgl hpl h1 h2 h3 h4 h5
            · rw [beq_eq_false_iff_ne.2 h5]; exact Qll nm key sg pa ms a_m c_m w hkl hgl hpl h1 h2 h3 h4 h5
          · rw [decide_eq_false h4]; exact Qlm nm key sg pa ms a_m c_m w hkl hgl hpl h1 h2 h3 h4
        · rw [decide_eq_false h3]; exact Qln nm key sg pa ms a_m c_m w hkl hgl hpl h1 h2 h3
      · rw [decide_eq_false h2]; exact Qlo nm key sg pa ms a_m c_m w hkl hgl hpl h1 h2
    · rw [beq_eq_false_iff_ne.2 h1]; exact Qlp nm key sg pa ms a_m c_m w hkl hgl hpl h1
end Go.Proofs.YthfkppjajmjpnaaDoor.Wr
end
section
namespace Go.Proofs.YthfkppjajmjpnaaDoor.Wr
open Go Go.RowKit
open Rely Auto Own Sha
open Wk
def risN (ms : List Int):Nat→Bool
  | 0=>true
  | n+1=>risN ms n&&((n==0) || decide (nth ms (n-1)<nth ms n))
def risV (ms : List Int):Bool:=risN ms ms.length
theorem QeA (ms : List Int) (k:Nat) (h:risN ms k=false):∀ n,k≤n→risN ms n=false
  | 0,hk=>by
      obtain rfl:k=0:=by omega
      exact h
  | n+1,hk=>by
    by_cases e:k=n+1
    · rw [←e]; exact h
    · unfold risN
      rw [QeA ms k h n (by omega)]
      rfl
theorem Qf3 (ms : List Int) (i:Nat) (hr:risN ms (i+1)=true):risN ms (i+1+1)=decide (nth ms i<nth ms (i+1)):=by
  show (risN ms (i+1)&&((i+1==0) || decide (nth ms (i+1-1)<nth ms (i+1))))=_
  rw [hr,beq_eq_false_iff_ne.2 (show i+1≠0 by omega)]
  rfl
theorem QhA (ms : List Int) (a_m:Option Addr) (c_m B:Nat) (w:World) (hml:ms.length≤1000000) (hm:RdK .i64 B ms (.slice a_m ms.length c_m) w):Calls Tryd.prog 88 #[.slice a_m ms.length c_m] w (Ret w (.bool (risV ms))):=by
 refine enter 20 [(0,.slice a_m ms.length c_m)] Tryd.func88 rfl rfl kj rfl ?_
 refine wp_seq_k fun K1 hK1=>?_
 refine Qab ?_
 refine Qaa (.bool false) 2 rfl kj kj ?_
 refine Qaf ?_
 refine hK1 _ _ ?_
 refine wp_seq_k fun K2 hK2=>?_
 refine wp_seq_k fun K3 hK3=>?_
 refine Qab ?_
 refine Qaa (.int .i64 1) 3 rfl kj kj ?_
 refine Qaf ?_
 refine hK3 _ _ ?_
 refine wp_block ?_
 refine Qa0 (fun (s1:Nat)=>[(0,.slice a_m ms.length c_m),(3,.int .i64 (((s1+1):Nat):Int))]) (fun (s1:Nat) W=>(s1+1≤ms.length∨s1=0)∧(risN ms (s1+1)=true)∧(Ext w W)∧(Ext w W)) (fun (s1:Nat)=>ms.length-s1) 0 ⟨rfl,rfl,trivial⟩ ⟨(.inr rfl),rfl,(Rely.Ext.refl w),(Rely.Ext.refl w)⟩ fun s1 X1 V1 hI1=>?_
 obtain ⟨ip,hs1⟩:∃ z,z=s1:=⟨_,rfl⟩
 subst hs1
 obtain ⟨hi,hr,kk1,xx1⟩:=hI1
 replace hi:ip+1≤ms.length∨ip=0:=hi
 replace hr:risN ms (ip+1)=true:=hr
 replace kk1:Ext w V1:=kk1
 replace xx1:Ext w V1:=xx1
 have e1:=kk1
 refine wp_seq_k fun K4 hK4=>?_
 refine wp_seq_k fun K5 hK5=>?_
 refine Qab ?_
 refine Qaa (.int .i64 (((ip+1):Nat):Int)) 4 rfl kj kj ?_
 refine Qaa (.slice a_m ms.length c_m) 5 rfl kj kj ?_
 refine Qaa (.int .i64 ((ms.length:Nat):Int)) 6 rfl kj kj ?_
 refine Qaa (.bool (decide ((((ip+1):Nat):Int)<((ms.length:Nat):Int)))) 7 rfl kj kj ?_
 refine Qaf ?_
 refine hK5 _ _ ?_
 refine Qar (t:=decide ((((ip+1):Nat):Int)<((ms.length:Nat):Int))) kj (fun c6=>?_) (fun c6=>?_)
 ·skip
  have hlt7:ip+1<ms.length:=by have:=of_decide_eq_true c6; omega
  have hnm_7:(ms).length=ms.length:=rfl
  obtain ⟨gcm_7,ocm_7,ham_7,hlm_7,hcm_7⟩:=QaY (RdK.here (RdK.ext hm xx1)) (by rw [hnm_7]; omega)
  refine wp_skip ?_
  refine hK4 _ _ ?_
  refine wp_seq_k fun K8 hK8=>?_
  refine wp_block ?_
  refine wp_seq_k fun K9 hK9=>?_
  refine QdA kj fun W2 e2=>?_
  have x2:Ext w W2:=Ext.tr xx1 e2
  refine QaQ 0 (.slice a_m ms.length c_m) 10 rfl rfl kj kj (fun _ _ _ h=>h) (fun W hR=>by kernel_rfl) ?_
  refine QaQ 1 (.int .i64 (((ip+1):Nat):Int)) 11 rfl rfl kj kj (fun _ _ _ h=>h) (fun W hR=>by kernel_rfl) ?_
  refine QaQ 2 (.int .i64 (((ip:Nat):Int))) 12 rfl rfl kj kj (fun _ _ _ h=>h) (fun W hR=>(Qai (u:=.int .i64 (IntKind.i64.wrap ((((ip+1):Nat):Int)-1))) kj (congrArg (Value.int .i64) (by rw [show (((ip+1:Nat):Int))-1=((ip:Nat):Int) by omega]; exact IntWalk.i64_in _ (by omega))))) ?_
  refine QaQ 3 (.pointer (some ⟨gcm_7,ocm_7+ip,none⟩)) 13 rfl rfl kj kj (fun _ _ _ h=>h) (fun W hR=>(Qa6 24 _ _ .i64 ip gcm_7 ocm_7 ms.length c_m 3 a_m _ ham_7 rfl rfl kj kj kj kj (Nat.lt_of_lt_of_eq (show ip<ms.length by omega) hnm_7.symm))) ?_
  have y1_2:Ext V1 W2:=(Rely.Ext.trans (Rely.Ext.refl V1) e2)
  refine QaQ 4 (.int .i64 (nth (ms) (ip))) 14 rfl rfl kj kj (fun _ _ _ h=>h) (fun W hR=>(Qak 3 _ _ (.int .i64 (nth (ms) (ip))) ((Below.cell (Rely.Ext.trans y1_2 hR) hlm_7).trans (hcm_7 ip (Nat.lt_of_lt_of_eq (show ip<ms.length by omega) hnm_7.symm))) rfl kj kj)) ?_
  refine QaQ 5 (.slice a_m ms.length c_m) 15 rfl rfl kj kj (fun _ _ _ h=>h) (fun W hR=>by kernel_rfl) ?_
  refine QaQ 6 (.int .i64 (((ip+1):Nat):Int)) 16 rfl rfl kj kj (fun _ _ _ h=>h) (fun W hR=>by kernel_rfl) ?_
  refine QaQ 7 (.pointer (some ⟨gcm_7,ocm_7+(ip+1),none⟩)) 17 rfl rfl kj kj (fun _ _ _ h=>h) (fun W hR=>(Qa6 24 _ _ .i64 (ip+1) gcm_7 ocm_7 ms.length c_m 3 a_m _ ham_7 rfl rfl kj kj kj kj (Nat.lt_of_lt_of_eq (show (ip+1)<ms.length by omega) hnm_7.symm))) ?_
  refine QaQ 8 (.int .i64 (nth (ms) ((ip+1)))) 18 rfl rfl kj kj (fun _ _ _ h=>h) (fun W hR=>(Qak 3 _ _ (.int .i64 (nth (ms) ((ip+1)))) ((Below.cell (Rely.Ext.trans y1_2 hR) hlm_7).trans (hcm_7 (ip+1) (Nat.lt_of_lt_of_eq (show (ip+1)<ms.length by omega) hnm_7.symm))) rfl kj kj)) ?_
  refine QaQ 9 (.bool (decide ((nth (ms) (ip))≥(nth (ms) ((ip+1)))))) 19 rfl rfl kj kj (fun _ _ _ h=>h) (fun W hR=>by kernel_rfl) ?_
  refine Qfr kj ?_
  refine hK9 _ _ ?_
  refine Qar (t:=decide ((nth (ms) (ip))≥(nth (ms) ((ip+1))))) kj (fun c10=>?_) (fun c10=>?_)
  ·skip
   have hV:risV ms=false:=by
    have hge:=of_decide_eq_true c10
    exact QeA ms (ip+1+1) (by rw [Qf3 ms ip hr]; exact decide_eq_false (by omega)) _ (by omega)
   refine wp_seq_k fun K11 hK11=>?_
   refine Qab ?_
   refine Qaa (.bool false) 2 rfl kj kj ?_
   refine Qaf ?_
   refine hK11 _ _ ?_
   refine wp_ret ?_
   repeat (first | with_reducible refine goR1 ?_ | with_reducible refine goR2 ?_)
   exact (show bodyPost _ _ _ .ret _ _ from ret1 (.bool false) rfl (Qaq kj) ⟨by rw [hV],x2⟩)
  ·skip
   have hr2:risN ms (ip+1+1)=true:=by
    have hge:=of_decide_eq_false c10
    rw [Qf3 ms ip hr]; exact decide_eq_true (by omega)
   refine wp_skip ?_
   refine hK8 _ _ ?_
   refine Qab ?_
   refine Qaa (.int .i64 (((ip+1):Nat):Int)) 8 rfl kj kj ?_
   refine Qaa (.int .i64 (((ip+1)+1:Nat):Int)) 9 rfl kj (Qai (u:=.int .i64 (IntKind.i64.wrap ((((ip+1):Nat):Int)+1))) kj (congrArg (Value.int .i64) (i64n _ _ (by omega) (by omega)))) ?_
   refine Qaa (.int .i64 (((ip+1)+1:Nat):Int)) 3 rfl kj kj ?_
   refine Qaf ?_
   have y0_2:Ext w W2:=(Rely.Ext.trans e1 e2)
   repeat (first | with_reducible refine goX1 ?_ | with_reducible refine goX2 ?_ | with_reducible refine goX3 ?_)
   exact Qat (ip+1) ⟨rfl,rfl,trivial⟩ ⟨(by omega),hr2,y0_2,x2⟩ (by omega)
 ·skip
  have hV:risV ms=true:=by
   have hge:=of_decide_eq_false c6
   unfold risV
   rcases hi with h | h
   ·rw [show ms.length=ip+1 by omega]; exact hr
   ·rcases Nat.eq_zero_or_pos ms.length with h0 | h0
    ·rw [h0]; rfl
    ·rw [show ms.length=ip+1 by omega]; exact hr
  refine wp_exit ?_
  refine hK2 _ _ ?_
  refine wp_seq_k fun K12 hK12=>?_
  refine Qab ?_
  refine Qaa (.bool true) 2 rfl kj kj ?_
  refine Qaf ?_
  refine hK12 _ _ ?_
  refine wp_ret ?_
  repeat (first | with_reducible refine goR1 ?_ | with_reducible refine goR2 ?_)
  exact (show bodyPost _ _ _ .ret _ _ from ret1 (.bool true) rfl (Qaq kj) ⟨by rw [hV],xx1⟩)
end Go.Proofs.YthfkppjajmjpnaaDoor.Wr
end
section
namespace Go.Proofs.YthfkppjajmjpnaaDoor.Wr
open Go Go.RowKit
open Rely Auto Own Sha
def Qcz (s : Option (List Int)) (ms:List Int):Option (List Int):=ms.foldl Qch (numS s ((ms.length:Nat):Int) 1)
theorem Qhb (n : Int):Qch none n=none:=by rw [Qg4]; cases inB n 31 <;> rfl
theorem Qb2 : ∀ ms:List Int,ms.foldl Qch none=none
  | []=>rfl
  | m::r=>by rw [List.foldl_cons,Qhb]; exact Qb2 r
theorem Qju (ms : List Int) (i:Nat) (h:i<ms.length):ms.drop i=nth ms i::ms.drop (i+1):=by
  rw [List.drop_eq_getElem_cons h]
  congr 1
  unfold nth
  rw [List.getD_eq_getElem?_getD,List.getElem?_eq_getElem h]
  rfl
theorem Qf4 {k : IntKind} {base gw:Nat} {w W:World} {ys:List Int} {v:Value} (h:RdK k base ys v w) (q:GW base gw w W) (hb:base≤gw):RdK k base ys v W:=h.keep q.size fun g hg hl=>q.block g hl (by omega) (.inl hg)
theorem QeB (base gw:Nat) (s:Option (List Int)) (ms:List Int) (a_m:Option Addr) (c_m:Nat) (w:World) (hbw:base≤w.heap.size) (hbg:base≤gw) (h:WSt base gw s w) (hml:ms.length≤1000000) (hm:RdK .i64 base ms (.slice a_m ms.length c_m) w):Calls Tryd.prog 89 #[.pointer (some ⟨gw,0,none⟩),.slice a_m ms.length c_m,.func (.func 90) #[] #[]] w (fun e W=>e=.returned (.tuple #[])∧GW base gw w W∧WSt base gw (Qcz s ms) W):=by
 have hgw:=h.lt
 refine enter 27 [(0,.pointer (some ⟨gw,0,none⟩)),(1,.slice a_m ms.length c_m),(2,.func (.func 90) #[] #[])] Tryd.func89 rfl rfl kj rfl ?_
 refine wp_seq_k fun K1 hK1=>?_
 refine Qab ?_
 refine Qaa (.pointer (some ⟨gw,0,none⟩)) 8 rfl kj kj ?_
 refine Qaa (.slice a_m ms.length c_m) 9 rfl kj kj ?_
 refine Qaa (.int .i64 ((ms.length:Nat):Int)) 10 rfl kj kj ?_
 refine Qa1 (fun v W'=>v=.tuple #[]∧GW base gw w W'∧WSt base gw (numS s ((ms.length:Nat):Int) 1) W') 84 #[.pointer (some ⟨gw,0,none⟩),.int .i64 ((ms.length:Nat):Int),.int .i64 1] 11 rfl kj kj ((Qdz base gw s ((ms.length:Nat):Int) 1 _ (qT hbw (GW.refl base gw w).size) h (by decide)).mono (by rintro e w' ⟨rfl,h1,h2⟩; exact ⟨_,rfl,rfl,h1,h2⟩)) fun v2 W1 h2=>?_
 obtain ⟨rfl,q1,ws2⟩:=h2
 have x1:GW base gw w W1:=GW.trans (GW.refl base gw w) q1
 refine Qaf ?_
 refine hK1 _ _ ?_
 refine wp_seq_k fun K3 hK3=>?_
 refine Qab ?_
 refine Qaa (.slice a_m ms.length c_m) 12 rfl kj kj ?_
 refine Qaa (.int .i64 ((ms.length:Nat):Int)) 13 rfl kj kj ?_
 refine Qaa (.int .i64 0) 14 rfl kj kj ?_
 refine Qaf ?_
 refine hK3 _ _ ?_
 refine wp_block ?_
 refine Qa0 (fun (s1:Nat×Option (List Int))=>[(0,.pointer (some ⟨gw,0,none⟩)),(2,.func (.func 90) #[] #[]),(12,.slice a_m ms.length c_m),(13,.int .i64 ((ms.length:Nat):Int)),(14,.int .i64 ((s1.1:Nat):Int))]) (fun (s1:Nat×Option (List Int)) W=>(s1.1≤ms.length)∧(WSt base gw s1.2 W)∧((ms.drop s1.1).foldl Qch s1.2=Qcz s ms)∧(GW base gw w W)) (fun (s1:Nat×Option (List Int))=>ms.length-s1.1) (0,numS s ((ms.length:Nat):Int) 1) ⟨rfl,rfl,rfl,rfl,rfl,trivial⟩ ⟨(Nat.zero_le _),ws2,rfl,x1⟩ fun s1 X1 V1 hI1=>?_
 obtain ⟨i,sc⟩:=s1
 obtain ⟨hi,hws,hnum,xx1⟩:=hI1
 replace hi:i≤ms.length:=hi
 replace hws:WSt base gw sc V1:=hws
 replace hnum:(ms.drop i).foldl Qch sc=Qcz s ms:=hnum
 replace xx1:GW base gw w V1:=xx1
 refine wp_seq_k fun K4 hK4=>?_
 refine Qab ?_
 refine Qaa (.bool (decide (((i:Nat):Int)<((ms.length:Nat):Int)))) 15 rfl kj kj ?_
 refine Qaf ?_
 refine hK4 _ _ ?_
 refine wp_seq_k fun K5 hK5=>?_
 refine Qar (t:=decide (((i:Nat):Int)<((ms.length:Nat):Int))) kj (fun c6=>?_) (fun c6=>?_)
 ·skip
  have hlt15:i<ms.length:=by have:=of_decide_eq_true c6; omega
  have hnm_7:(ms).length=ms.length:=rfl
  obtain ⟨gcm_7,ocm_7,ham_7,hlm_7,hcm_7⟩:=QaY (RdK.here (Qf4 hm xx1 hbg)) (by rw [hnm_7]; omega)
  obtain ⟨u8,xs8,bad,rb8,-,-,-,hsc⟩:=id hws
  refine wp_skip ?_
  refine hK5 _ _ ?_
  refine wp_seq_k fun K10 hK10=>?_
  refine wp_block ?_
  refine wp_seq_k fun K11 hK11=>?_
  refine Qab ?_
  refine Qaa (.pointer (some ⟨gcm_7,ocm_7+i,none⟩)) 16 rfl kj (Qa6 24 _ _ .i64 i gcm_7 ocm_7 ms.length c_m 3 a_m _ ham_7 rfl rfl kj kj kj kj (Nat.lt_of_lt_of_eq (show i<ms.length by omega) hnm_7.symm)) ?_
  refine Qaa (.int .i64 (nth (ms) (i))) 17 rfl kj (Qak 3 _ _ (.int .i64 (nth (ms) (i))) (hcm_7 i (Nat.lt_of_lt_of_eq (show i<ms.length by omega) hnm_7.symm)) rfl kj kj) ?_
  refine Qaa (.int .i64 (nth (ms) (i))) 7 rfl kj kj ?_
  refine Qaf ?_
  refine hK11 _ _ ?_
  refine wp_seq_k fun K12 hK12=>?_
  refine wp_seq_k fun K13 hK13=>?_
  refine Qab ?_
  refine Qaa (.pointer (some ⟨gw,0,none⟩)) 18 rfl kj kj ?_
  refine Qaa (.pointer (some ⟨gw,0,none⟩)) 19 rfl kj kj ?_
  refine Qaa (.pointer (some ⟨gw,1,none⟩)) 20 rfl kj kj ?_
  refine Qaa (.bool bad) 21 rfl kj (Qag 4 _ gw 1 111 _ (.bool bad) _ rb8 rfl kj kj kj) ?_
  refine Qaf ?_
  refine hK13 _ _ ?_
  refine Qar (t:=bad) kj (fun c14=>?_) (fun c14=>?_)
  ·skip
   have hbad:bad=true:=c14
   have h9:sc=none:=by rw [hsc,hbad]; rfl
   have h8:Qcz s ms=none:=by rw [←hnum,h9]; exact Qb2 _
   refine wp_ret ?_
   repeat (first | with_reducible refine goR1 ?_ | with_reducible refine goR2 ?_)
   exact (show bodyPost _ _ _ .ret _ _ from ret0 rfl ⟨rfl,xx1,by rw [h8]; rw [h9] at hws; exact hws⟩)
  ·skip
   refine wp_skip ?_
   refine hK12 _ _ ?_
   refine Qab ?_
   refine Qaa (.func (.func 90) #[] #[]) 22 rfl kj kj ?_
   refine Qaa (.pointer (some ⟨gw,0,none⟩)) 23 rfl kj kj ?_
   refine Qaa (.int .i64 (nth (ms) (i))) 24 rfl kj kj ?_
   refine Qa1 (fun v W'=>v=.tuple #[]∧GW base gw V1 W'∧WSt base gw (Qch sc (nth ms i)) W') 90 #[.pointer (some ⟨gw,0,none⟩),.int .i64 (nth (ms) (i))] 25 rfl kj kj ((Qm6 base gw sc (nth ms i) _ (qT hbw xx1.size) hws).mono (by rintro e w' ⟨rfl,h1,h2⟩; exact ⟨_,rfl,rfl,h1,h2⟩)) fun v15 W3 h15=>?_
   obtain ⟨rfl,q3,ws15⟩:=h15
   have x3:GW base gw w W3:=GW.trans xx1 q3
   refine Qaf ?_
   refine hK10 _ _ ?_
   refine Qab ?_
   refine Qaa (.int .i64 ((i+1:Nat):Int)) 26 rfl kj (Qai (u:=.int .i64 (IntKind.i64.wrap (((i:Nat):Int)+1))) kj (congrArg (Value.int .i64) (i64n _ _ (by omega) (by omega)))) ?_
   refine Qaa (.int .i64 ((i+1:Nat):Int)) 14 rfl kj kj ?_
   refine Qaf ?_
   repeat (first | with_reducible refine goX1 ?_ | with_reducible refine goX2 ?_ | with_reducible refine goX3 ?_)
   exact Qat ((i+1),Qch sc (nth ms i)) ⟨rfl,rfl,rfl,rfl,rfl,trivial⟩ ⟨(by omega),ws15,(by rw [←hnum,Qju ms i hlt15]; rfl),x3⟩ (by omega)
 ·skip
  have heq15:i=ms.length:=by have:=of_decide_eq_false c6; omega
  refine wp_exit ?_
  repeat (first | with_reducible refine goX1 ?_ | with_reducible refine goX2 ?_ | with_reducible refine goX3 ?_)
  exact (show bodyPost _ _ _ .normal _ _ from end0 rfl ⟨rfl,xx1,by have h9:sc=Qcz s ms:=(by have h7:=hnum; rw [heq15,List.drop_length] at h7; exact h7); rw [h9] at hws; exact hws⟩)
end Go.Proofs.YthfkppjajmjpnaaDoor.Wr
end
section
namespace Go.Proofs.YthfkppjajmjpnaaDoor.Wr
open Go Go.RowKit
open Rely Auto Own Sha
def nodeS (s : Option (List Int)) (us:Bool) (nm:Int) (key sg pa ms:List Int):Option (List Int) :=
  Qcz (Qbv (rawS (rawS (rawS (numS (bif us then numS s 1 1 else numS (Qbv s (Qb4 us nm key sg pa ms)) 0 1) nm 1) key) sg) pa) (risV ms)) ms
theorem QgW (base gw:Nat) (s:Option (List Int)) (nm:Int) (key sg pa ms:List Int) (a_m:Option Addr) (c_m:Nat) (w:World) (hbw:base≤w.heap.size) (hbg:base≤gw) (h:WSt base gw s w) (hkl:key.length=32) (hgl:sg.length=32) (hpl:pa.length=32) (hkb:Qav key) (hgb:Qav sg) (hpb:Qav pa) (hml:ms.length≤1000000) (hm:RdK .i64 base ms (.slice a_m ms.length c_m) w):Calls Tryd.prog 79 #[.pointer (some ⟨gw,0,none⟩),.agg (cat [#[.bool true],#[.int .i64 nm],ints .u8 (key),ints .u8 (sg),ints .u8 (pa),#[.slice a_m ms.length c_m]])] w (fun e W=>e=.returned (.tuple #[])∧GW base gw w W∧WSt base gw (nodeS s true nm key sg pa ms) W):=by
  have hgw:=h.lt
  refine enter 39 [(0,.pointer (some ⟨gw,0,none⟩)),(1,.agg (cat [#[.bool true],#[.int .i64 nm],ints .u8 (key),ints .u8 (sg),ints .u8 (pa),#[.slice a_m ms.length c_m]]))] Tryd.func79 rfl rfl kj rfl ?_
  refine wp_seq_k fun K1 hK1=>?_
  refine Qab ?_
  refine Qan (cat [#[.bool true],#[.int .i64 nm],ints .u8 (key),ints .u8 (sg),ints .u8 (pa),#[.slice a_m ms.length c_m]]) 50 3 rfl kj kj fun g2 W1 l2 e1 r2_1=>?_
  have x1:GW base gw w W1:=GW.ext (GW.refl base gw w) e1
  have ws3:=WSt.ext h e1
  have b2:w.heap.size≤g2:=qT (GW.refl base gw w).size l2
  refine Qaf ?_
  refine hK1 _ _ ?_
  refine wp_seq_k fun K4 hK4=>?_
  refine wp_seq_k fun K5 hK5=>?_
  refine Qab ?_
  refine Qaa (.pointer (some ⟨g2,0,none⟩)) 4 rfl kj kj ?_
  refine Qaa (.bool true) 5 rfl kj (Qag 4 _ g2 0 50 _ (.bool true) _ r2_1 rfl kj (Qaj [] [#[.bool true]] [#[.int .i64 nm],ints .u8 (key),ints .u8 (sg),ints .u8 (pa),#[.slice a_m ms.length c_m]] 0 kj 0 _ rfl) kj) ?_
  refine Qaf ?_
  refine hK5 _ _ ?_
  refine cond_true kj ?_
  refine Qab ?_
  refine Qaa (.pointer (some ⟨gw,0,none⟩)) 6 rfl kj kj ?_
  refine Qa1 (fun v W'=>v=.tuple #[]∧GW base gw W1 W'∧WSt base gw (numS (s) 1 1) W') 84 #[.pointer (some ⟨gw,0,none⟩),.int .i64 1,.int .i64 1] 7 rfl kj kj ((Qdz base gw _ 1 1 _ (qT hbw x1.size) ws3 (by decide)).mono (by rintro e w' ⟨rfl,h1,h2⟩; exact ⟨_,rfl,rfl,h1,h2⟩)) fun v6 W2 h6=>?_
  obtain ⟨rfl,q2,ws6⟩:=h6
  have x2:GW base gw w W2:=GW.trans x1 q2
  refine Qaf ?_
  refine hK4 _ _ ?_
  refine wp_seq_k fun K7 hK7=>?_
  refine Qab ?_
  refine Qaa (.pointer (some ⟨gw,0,none⟩)) 14 rfl kj kj ?_
  refine Qaa (.pointer (some ⟨g2,1,none⟩)) 15 rfl kj kj ?_
  have r2_2:=(GW.row q2 r2_1 (by decide) (Ne.symm (Nat.ne_of_lt (qL hgw b2))))
  refine Qaa (.int .i64 nm) 16 rfl kj (Qag 3 _ g2 1 50 _ (.int .i64 nm) _ r2_2 rfl kj (Qaj [#[.bool true]] [#[.int .i64 nm]] [ints .u8 (key),ints .u8 (sg),ints .u8 (pa),#[.slice a_m ms.length c_m]] 1 kj 0 _ rfl) kj) ?_
  refine Qa1 (fun v W'=>v=.tuple #[]∧GW base gw W2 W'∧WSt base gw (numS (numS (s) 1 1) nm 1) W') 84 #[.pointer (some ⟨gw,0,none⟩),.int .i64 nm,.int .i64 1] 17 rfl kj kj ((Qdz base gw _ nm 1 _ (qT hbw x2.size) ws6 (by decide)).mono (by rintro e w' ⟨rfl,h1,h2⟩; exact ⟨_,rfl,rfl,h1,h2⟩)) fun v8 W3 h8=>?_
  obtain ⟨rfl,q3,ws8⟩:=h8
  have x3:GW base gw w W3:=GW.trans x2 q3
  refine Qaf ?_
  refine hK7 _ _ ?_
  refine wp_seq_k fun K9 hK9=>?_
  refine Qab ?_
  refine Qaa (.pointer (some ⟨gw,0,none⟩)) 18 rfl kj kj ?_
  refine Qaa (.pointer (some ⟨g2,2,none⟩)) 19 rfl kj kj ?_
  refine Qaa (.slice (some ⟨g2,2,none⟩) 32 32) 20 rfl kj kj ?_
  have r2_3:=(GW.row q3 r2_2 (by decide) (Ne.symm (Nat.ne_of_lt (qL hgw b2))))
  refine Qa1 (fun v W'=>v=.tuple #[]∧GW base gw W3 W'∧WSt base gw (rawS (numS (numS (s) 1 1) nm 1) key) W') 87 #[.pointer (some ⟨gw,0,none⟩),.slice (some ⟨g2,2,none⟩) 32 32] 21 rfl kj kj ((rawW base gw _ key _ _ (qT hbw x3.size) ws8 (by omega) hkb (fun W e=>(QbF 2 hkl (ExtB.row e r2_3 (Ne.symm (Nat.ne_of_lt (qL hgw b2)))) (fun i hi=>Qbw [#[.bool true],#[.int .i64 nm]] [ints .u8 (sg),ints .u8 (pa),#[.slice a_m ms.length c_m]] key 2 i (2+i) kj rfl (by rw [hkl]; exact hi)) (Qa5 (ExtB.row e r2_3 (Ne.symm (Nat.ne_of_lt (qL hgw b2))))) (qR _) (by decide)))).mono (by rintro e w' ⟨rfl,h1,h2⟩; exact ⟨_,rfl,rfl,h1,h2⟩)) fun v10 W4 h10=>?_
  obtain ⟨rfl,q4,ws10⟩:=h10
  have x4:GW base gw w W4:=GW.trans x3 q4
  refine Qaf ?_
  refine hK9 _ _ ?_
  refine wp_seq_k fun K11 hK11=>?_
  refine Qab ?_
  refine Qaa (.pointer (some ⟨gw,0,none⟩)) 22 rfl kj kj ?_
  refine Qaa (.pointer (some ⟨g2,34,none⟩)) 23 rfl kj kj ?_
  refine Qaa (.slice (some ⟨g2,34,none⟩) 32 32) 24 rfl kj kj ?_
  have r2_4:=(GW.row q4 r2_3 (by decide) (Ne.symm (Nat.ne_of_lt (qL hgw b2))))
  refine Qa1 (fun v W'=>v=.tuple #[]∧GW base gw W4 W'∧WSt base gw (rawS (rawS (numS (numS (s) 1 1) nm 1) key) sg) W') 87 #[.pointer (some ⟨gw,0,none⟩),.slice (some ⟨g2,34,none⟩) 32 32] 25 rfl kj kj ((rawW base gw _ sg _ _ (qT hbw x4.size) ws10 (by omega) hgb (fun W e=>(QbF 34 hgl (ExtB.row e r2_4 (Ne.symm (Nat.ne_of_lt (qL hgw b2)))) (fun i hi=>Qbw [#[.bool true],#[.int .i64 nm],ints .u8 (key)] [ints .u8 (pa),#[.slice a_m ms.length c_m]] sg 34 i (34+i) (by rw [Qac,Qac,Qac]; simp only [qS,cat,((Qae _ _).trans hkl)]; rfl) rfl (by rw [hgl]; exact hi)) (Qa5 (ExtB.row e r2_4 (Ne.symm (Nat.ne_of_lt (qL hgw b2))))) (qR _) (by decide)))).mono (by rintro e w' ⟨rfl,h1,h2⟩; exact ⟨_,rfl,rfl,h1,h2⟩)) fun v12 W5 h12=>?_
  obtain ⟨rfl,q5,ws12⟩:=h12
  have x5:GW base gw w W5:=GW.trans x4 q5
  refine Qaf ?_
  refine hK11 _ _ ?_
  refine wp_seq_k fun K13 hK13=>?_
  refine Qab ?_
  refine Qaa (.pointer (some ⟨gw,0,none⟩)) 26 rfl kj kj ?_
  refine Qaa (.pointer (some ⟨g2,66,none⟩)) 27 rfl kj kj ?_
  refine Qaa (.slice (some ⟨g2,66,none⟩) 32 32) 28 rfl kj kj ?_
  have r2_5:=(GW.row q5 r2_4 (by decide) (Ne.symm (Nat.ne_of_lt (qL hgw b2))))
  refine Qa1 (fun v W'=>v=.tuple #[]∧GW base gw W5 W'∧WSt base gw (rawS (rawS (rawS (numS (numS (s) 1 1) nm 1) key) sg) pa) W') 87 #[.pointer (some ⟨gw,0,none⟩),.slice (some ⟨g2,66,none⟩) 32 32] 29 rfl kj kj ((rawW base gw _ pa _ _ (qT hbw x5.size) ws12 (by omega) hpb (fun W e=>(QbF 66 hpl (ExtB.row e r2_5 (Ne.symm (Nat.ne_of_lt (qL hgw b2)))) (fun i hi=>Qbw [#[.bool true],#[.int .i64 nm],ints .u8 (key),ints .u8 (sg)] [#[.slice a_m ms.length c_m]] pa 66 i (66+i) (by rw [Qac,Qac,Qac,Qac]; simp only [qS,cat,((Qae _ _).trans hgl),((Qae _ _).trans hkl)]; rfl) rfl (by rw [hpl]; exact hi)) (Qa5 (ExtB.row e r2_5 (Ne.symm (Nat.ne_of_lt (qL hgw b2))))) (qR _) (by decide)))).mono (by rintro e w' ⟨rfl,h1,h2⟩; exact ⟨_,rfl,rfl,h1,h2⟩)) fun v14 W6 h14=>?_
  obtain ⟨rfl,q6,ws14⟩:=h14
  have x6:GW base gw w W6:=GW.trans x5 q6
  refine Qaf ?_
  refine hK13 _ _ ?_
  refine wp_seq_k fun K15 hK15=>?_
  refine Qab ?_
  refine Qaa (.pointer (some ⟨gw,0,none⟩)) 30 rfl kj kj ?_
  refine Qaa (.pointer (some ⟨g2,98,none⟩)) 31 rfl kj kj ?_
  have r2_6:=(GW.row q6 r2_5 (by decide) (Ne.symm (Nat.ne_of_lt (qL hgw b2))))
  refine Qaa (.slice a_m ms.length c_m) 32 rfl kj (Qag 24 _ g2 98 50 _ (.slice a_m ms.length c_m) _ r2_6 rfl kj (Qaj [#[.bool true],#[.int .i64 nm],ints .u8 (key),ints .u8 (sg),ints .u8 (pa)] [#[.slice a_m ms.length c_m]] [] 98 (by rw [Qac,Qac,Qac,Qac,Qac]; simp only [qS,cat,((Qae _ _).trans hgl),((Qae _ _).trans hkl),((Qae _ _).trans hpl)]; rfl) 0 _ rfl) kj) ?_
  refine Qal (.bool (risV ms)) 88 #[.slice a_m ms.length c_m] 33 rfl kj kj (QhA ms _ _ _ _ hml (Qf4 hm x6 hbg)) fun W7 e7=>?_
  have x7:GW base gw w W7:=GW.ext x6 e7
  have ws16:=WSt.ext ws14 e7
  refine Qa1 (fun v W'=>v=.tuple #[]∧GW base gw W7 W'∧WSt base gw (Qbv (rawS (rawS (rawS (numS (numS (s) 1 1) nm 1) key) sg) pa) (risV ms)) W') 85 #[.pointer (some ⟨gw,0,none⟩),.bool (risV ms)] 34 rfl kj kj ((QgY base gw _ (risV ms) _ ws16).mono (by rintro e w' ⟨rfl,h1,h2⟩; exact ⟨_,rfl,rfl,h1,h2⟩)) fun v17 W8 h17=>?_
  obtain ⟨rfl,q8,ws17⟩:=h17
  have x8:GW base gw w W8:=GW.trans x7 q8
  refine Qaf ?_
  refine hK15 _ _ ?_
  refine Qab ?_
  refine Qaa (.pointer (some ⟨gw,0,none⟩)) 35 rfl kj kj ?_
  refine Qaa (.pointer (some ⟨g2,98,none⟩)) 36 rfl kj kj ?_
  have r2_7:=(Qah r2_6 e7)
  have r2_8:=(GW.row q8 r2_7 (by decide) (Ne.symm (Nat.ne_of_lt (qL hgw b2))))
  refine Qaa (.slice a_m ms.length c_m) 37 rfl kj (Qag 24 _ g2 98 50 _ (.slice a_m ms.length c_m) _ r2_8 rfl kj (Qaj [#[.bool true],#[.int .i64 nm],ints .u8 (key),ints .u8 (sg),ints .u8 (pa)] [#[.slice a_m ms.length c_m]] [] 98 (by rw [Qac,Qac,Qac,Qac,Qac]; simp only [qS,cat,((Qae _ _).trans hgl),((Qae _ _).trans hkl),((Qae _ _).trans hpl)]; rfl) 0 _ rfl) kj) ?_
  refine Qa1 (fun v W'=>v=.tuple #[]∧GW base gw W8 W'∧WSt base gw (Qcz (Qbv (rawS (rawS (rawS (numS (numS (s) 1 1) nm 1) key) sg) pa) (risV ms)) ms) W') 89 #[.pointer (some ⟨gw,0,none⟩),.slice a_m ms.length c_m,.func (.func 90) #[] #[]] 38 rfl kj kj ((QeB base gw _ ms _ _ _ (qT hbw x8.size) hbg ws17 hml (Qf4 hm x8 hbg)).mono (by rintro e w' ⟨rfl,h1,h2⟩; exact ⟨_,rfl,rfl,h1,h2⟩)) fun v18 W9 h18=>?_
  obtain ⟨rfl,q9,ws18⟩:=h18
  have x9:GW base gw w W9:=GW.trans x8 q9
  refine Qaf ?_
  repeat (first | with_reducible refine goX1 ?_ | with_reducible refine goX2 ?_ | with_reducible refine goX3 ?_)
  exact (show bodyPost _ _ _ .normal _ _ from end0 rfl ⟨rfl,x9,ws18⟩)
theorem QfY (base gw:Nat) (s:Option (List Int)) (nm:Int) (key sg pa ms:List Int) (a_m:Option Addr) (c_m:Nat) (w:World) (hbw:base≤w.heap.size) (hbg:base≤gw) (h:WSt base gw s w) (hkl:key.length=32) (hgl:sg.length=32) (hpl:pa.length=32) (hkb:Qav key) (hgb:Qav sg) (hpb:Qav pa) (hml:ms.length≤1000000) (hm:RdK .i64 base ms (.slice a_m ms.length c_m) w):Calls Tryd.prog 79 #[.pointer (some ⟨gw,0,none⟩),.agg (cat [#[.bool false],#[.int .i64 nm],ints .u8 (key),ints .u8 (sg),ints .u8 (pa),#[.slice a_m ms.length c_m]])] w (fun e W=>e=.returned (.tuple #[])∧GW base gw w W∧WSt base gw (nodeS s false nm key sg pa ms) W):=by
  have hgw:=h.lt
  refine enter 39 [(0,.pointer (some ⟨gw,0,none⟩)),(1,.agg (cat [#[.bool false],#[.int .i64 nm],ints .u8 (key),ints .u8 (sg),ints .u8 (pa),#[.slice a_m ms.length c_m]]))] Tryd.func79 rfl rfl kj rfl ?_
  refine wp_seq_k fun K1 hK1=>?_
  refine Qab ?_
  refine Qan (cat [#[.bool false],#[.int .i64 nm],ints .u8 (key),ints .u8 (sg),ints .u8 (pa),#[.slice a_m ms.length c_m]]) 50 3 rfl kj kj fun g2 W1 l2 e1 r2_1=>?_
  have x1:GW base gw w W1:=GW.ext (GW.refl base gw w) e1
  have ws3:=WSt.ext h e1
  have b2:w.heap.size≤g2:=qT (GW.refl base gw w).size l2
  refine Qaf ?_
  refine hK1 _ _ ?_
  refine wp_seq_k fun K4 hK4=>?_
  refine wp_seq_k fun K5 hK5=>?_
  refine Qab ?_
  refine Qaa (.pointer (some ⟨g2,0,none⟩)) 4 rfl kj kj ?_
  refine Qaa (.bool false) 5 rfl kj (Qag 4 _ g2 0 50 _ (.bool false) _ r2_1 rfl kj (Qaj [] [#[.bool false]] [#[.int .i64 nm],ints .u8 (key),ints .u8 (sg),ints .u8 (pa),#[.slice a_m ms.length c_m]] 0 kj 0 _ rfl) kj) ?_
  refine Qaf ?_
  refine hK5 _ _ ?_
  refine cond_false kj ?_
  refine wp_seq_k fun K6 hK6=>?_
  refine Qab ?_
  refine Qaa (.pointer (some ⟨gw,0,none⟩)) 8 rfl kj kj ?_
  refine Qaa (.agg (cat [#[.bool false],#[.int .i64 nm],ints .u8 (key),ints .u8 (sg),ints .u8 (pa),#[.slice a_m ms.length c_m]])) 9 rfl kj (Qa4 50 _ g2 50 _ _ r2_1 rfl kj kj (isz (n:=99) kj (by rw [Qac,Qac,Qac,Qac,Qac,Qac]; simp only [qS,cat,((Qae _ _).trans hgl),((Qae _ _).trans hkl),((Qae _ _).trans hpl)]; rfl))) ?_
  refine Qal (.bool (Qb4 false nm key sg pa ms)) 86 #[.agg (cat [#[.bool false],#[.int .i64 nm],ints .u8 (key),ints .u8 (sg),ints .u8 (pa),#[.slice a_m ms.length c_m]])] 10 rfl kj kj (Qml false nm key sg pa ms _ _ _ hkl hgl hpl) fun W2 e2=>?_
  have x2:GW base gw w W2:=GW.ext x1 e2
  have ws7:=WSt.ext ws3 e2
  refine Qa1 (fun v W'=>v=.tuple #[]∧GW base gw W2 W'∧WSt base gw (Qbv (s) (Qb4 false nm key sg pa ms)) W') 85 #[.pointer (some ⟨gw,0,none⟩),.bool (Qb4 false nm key sg pa ms)] 11 rfl kj kj ((QgY base gw _ (Qb4 false nm key sg pa ms) _ ws7).mono (by rintro e w' ⟨rfl,h1,h2⟩; exact ⟨_,rfl,rfl,h1,h2⟩)) fun v8 W3 h8=>?_
  obtain ⟨rfl,q3,ws8⟩:=h8
  have x3:GW base gw w W3:=GW.trans x2 q3
  refine Qaf ?_
  refine hK6 _ _ ?_
  refine Qab ?_
  refine Qaa (.pointer (some ⟨gw,0,none⟩)) 12 rfl kj kj ?_
  refine Qa1 (fun v W'=>v=.tuple #[]∧GW base gw W3 W'∧WSt base gw (numS (Qbv (s) (Qb4 false nm key sg pa ms)) 0 1) W') 84 #[.pointer (some ⟨gw,0,none⟩),.int .i64 0,.int .i64 1] 13 rfl kj kj ((Qdz base gw _ 0 1 _ (qT hbw x3.size) ws8 (by decide)).mono (by rintro e w' ⟨rfl,h1,h2⟩; exact ⟨_,rfl,rfl,h1,h2⟩)) fun v9 W4 h9=>?_
  obtain ⟨rfl,q4,ws9⟩:=h9
  have x4:GW base gw w W4:=GW.trans x3 q4
  refine Qaf ?_
  refine hK4 _ _ ?_
  refine wp_seq_k fun K10 hK10=>?_
  refine Qab ?_
  refine Qaa (.pointer (some ⟨gw,0,none⟩)) 14 rfl kj kj ?_
  refine Qaa (.pointer (some ⟨g2,1,none⟩)) 15 rfl kj kj ?_
  have r2_2:=(Qah r2_1 e2)
  have r2_3:=(GW.row q3 r2_2 (by decide) (Ne.symm (Nat.ne_of_lt (qL hgw b2))))
  have r2_4:=(GW.row q4 r2_3 (by decide) (Ne.symm (Nat.ne_of_lt (qL hgw b2))))
  refine Qaa (.int .i64 nm) 16 rfl kj (Qag 3 _ g2 1 50 _ (.int .i64 nm) _ r2_4 rfl kj (Qaj [#[.bool false]] [#[.int .i64 nm]] [ints .u8 (key),ints .u8 (sg),ints .u8 (pa),#[.slice a_m ms.length c_m]] 1 kj 0 _ rfl) kj) ?_
  refine Qa1 (fun v W'=>v=.tuple #[]∧GW base gw W4 W'∧WSt base gw (numS (numS (Qbv (s) (Qb4 false nm key sg pa ms)) 0 1) nm 1) W') 84 #[.pointer (some ⟨gw,0,none⟩),.int .i64 nm,.int .i64 1] 17 rfl kj kj ((Qdz base gw _ nm 1 _ (qT hbw x4.size) ws9 (by decide)).mono (by rintro e w' ⟨rfl,h1,h2⟩; exact ⟨_,rfl,rfl,h1,h2⟩)) fun v11 W5 h11=>?_
  obtain ⟨rfl,q5,ws11⟩:=h11
  have x5:GW base gw w W5:=GW.trans x4 q5
  refine Qaf ?_
  refine hK10 _ _ ?_
  refine wp_seq_k fun K12 hK12=>?_
  refine Qab ?_
  refine Qaa (.pointer (some ⟨gw,0,none⟩)) 18 rfl kj kj ?_
  refine Qaa (.pointer (some ⟨g2,2,none⟩)) 19 rfl kj kj ?_
  refine Qaa (.slice (some ⟨g2,2,none⟩) 32 32) 20 rfl kj kj ?_
  have r2_5:=(GW.row q5 r2_4 (by decide) (Ne.symm (Nat.ne_of_lt (qL hgw b2))))
  refine Qa1 (fun v W'=>v=.tuple #[]∧GW base gw W5 W'∧WSt base gw (rawS (numS (numS (Qbv (s) (Qb4 false nm key sg pa ms)) 0 1) nm 1) key) W') 87 #[.pointer (some ⟨gw,0,none⟩),.slice (some ⟨g2,2,none⟩) 32 32] 21 rfl kj kj ((rawW base gw _ key _ _ (qT hbw x5.size) ws11 (by omega) hkb (fun W e=>(QbF 2 hkl (ExtB.row e r2_5 (Ne.symm (Nat.ne_of_lt (qL hgw b2)))) (fun i hi=>Qbw [#[.bool false],#[.int .i64 nm]] [ints .u8 (sg),ints .u8 (pa),#[.slice a_m ms.length c_m]] key 2 i (2+i) kj rfl (by rw [hkl]; exact hi)) (Qa5 (ExtB.row e r2_5 (Ne.symm (Nat.ne_of_lt (qL hgw b2))))) (qR _) (by decide)))).mono (by rintro e w' ⟨rfl,h1,h2⟩; exact ⟨_,rfl,rfl,h1,h2⟩)) fun v13 W6 h13=>?_
  obtain ⟨rfl,q6,ws13⟩:=h13
  have x6:GW base gw w W6:=GW.trans x5 q6
  refine Qaf ?_
  refine hK12 _ _ ?_
  refine wp_seq_k fun K14 hK14=>?_
  refine Qab ?_
  refine Qaa (.pointer (some ⟨gw,0,none⟩)) 22 rfl kj kj ?_
  refine Qaa (.pointer (some ⟨g2,34,none⟩)) 23 rfl kj kj ?_
  refine Qaa (.slice (some ⟨g2,34,none⟩) 32 32) 24 rfl kj kj ?_
  have r2_6:=(GW.row q6 r2_5 (by decide) (Ne.symm (Nat.ne_of_lt (qL hgw b2))))
  refine Qa1 (fun v W'=>v=.tuple #[]∧GW base gw W6 W'∧WSt base gw (rawS (rawS (numS (numS (Qbv (s) (Qb4 false nm key sg pa ms)) 0 1) nm 1) key) sg) W') 87 #[.pointer (some ⟨gw,0,none⟩),.slice (some ⟨g2,34,none⟩) 32 32] 25 rfl kj kj ((rawW base gw _ sg _ _ (qT hbw x6.size) ws13 (by omega) hgb (fun W e=>(QbF 34 hgl (ExtB.row e r2_6 (Ne.symm (Nat.ne_of_lt (qL hgw b2)))) (fun i hi=>Qbw [#[.bool false],#[.int .i64 nm],ints .u8 (key)] [ints .u8 (pa),#[.slice a_m ms.length c_m]] sg 34 i (34+i) (by rw [Qac,Qac,Qac]; simp only [qS,cat,((Qae _ _).trans hkl)]; rfl) rfl (by rw [hgl]; exact hi)) (Qa5 (ExtB.row e r2_6 (Ne.symm (Nat.ne_of_lt (qL hgw b2))))) (qR _) (by decide)))).mono (by rintro e w' ⟨rfl,h1,h2⟩; exact ⟨_,rfl,rfl,h1,h2⟩)) fun v15 W7 h15=>?_
  obtain ⟨rfl,q7,ws15⟩:=h15
  have x7:GW base gw w W7:=GW.trans x6 q7
  refine Qaf ?_
  refine hK14 _ _ ?_
  refine wp_seq_k fun K16 hK16=>?_
  refine Qab ?_
  refine Qaa (.pointer (some ⟨gw,0,none⟩)) 26 rfl kj kj ?_
  refine Qaa (.pointer (some ⟨g2,66,none⟩)) 27 rfl kj kj ?_
  refine Qaa (.slice (some ⟨g2,66,none⟩) 32 32) 28 rfl kj kj ?_
  have r2_7:=(GW.row q7 r2_6 (by decide) (Ne.symm (Nat.ne_of_lt (qL hgw b2))))
  refine Qa1 (fun v W'=>v=.tuple #[]∧GW base gw W7 W'∧WSt base gw (rawS (rawS (rawS (numS (numS (Qbv (s) (Qb4 false nm key sg pa ms)) 0 1) nm 1) key) sg) pa) W') 87 #[.pointer (some ⟨gw,0,none⟩),.slice (some ⟨g2,66,none⟩) 32 32] 29 rfl kj kj ((rawW base gw _ pa _ _ (qT hbw x7.size) ws15 (by omega) hpb (fun W e=>(QbF 66 hpl (ExtB.row e r2_7 (Ne.symm (Nat.ne_of_lt (qL hgw b2)))) (fun i hi=>Qbw [#[.bool false],#[.int .i64 nm],ints .u8 (key),ints .u8 (sg)] [#[.slice a_m ms.length c_m]] pa 66 i (66+i) (by rw [Qac,Qac,Qac,Qac]; simp only [qS,cat,((Qae _ _).trans hgl),((Qae _ _).trans hkl)]; rfl) rfl (by rw [hpl]; exact hi)) (Qa5 (ExtB.row e r2_7 (Ne.symm (Nat.ne_of_lt (qL hgw b2))))) (qR _) (by decide)))).mono (by rintro e w' ⟨rfl,h1,h2⟩; exact ⟨_,rfl,rfl,h1,h2⟩)) fun v17 W8 h17=>?_
  obtain ⟨rfl,q8,ws17⟩:=h17
  have x8:GW base gw w W8:=GW.trans x7 q8
  refine Qaf ?_
  refine hK16 _ _ ?_
  refine wp_seq_k fun K18 hK18=>?_
  refine Qab ?_
  refine Qaa (.pointer (some ⟨gw,0,none⟩)) 30 rfl kj kj ?_
  refine Qaa (.pointer (some ⟨g2,98,none⟩)) 31 rfl kj kj ?_
  have r2_8:=(GW.row q8 r2_7 (by decide) (Ne.symm (Nat.ne_of_lt (qL hgw b2))))
  refine Qaa (.slice a_m ms.length c_m) 32 rfl kj (Qag 24 _ g2 98 50 _ (.slice a_m ms.length c_m) _ r2_8 rfl kj (Qaj [#[.bool false],#[.int .i64 nm],ints .u8 (key),ints .u8 (sg),ints .u8 (pa)] [#[.slice a_m ms.length c_m]] [] 98 (by rw [Qac,Qac,Qac,Qac,Qac]; simp only [qS,cat,((Qae _ _).trans hgl),((Qae _ _).trans hkl),((Qae _ _).trans hpl)]; rfl) 0 _ rfl) kj) ?_
  refine Qal (.bool (risV ms)) 88 #[.slice a_m ms.length c_m] 33 rfl kj kj (QhA ms _ _ _ _ hml (Qf4 hm x8 hbg)) fun W9 e9=>?_
  have x9:GW base gw w W9:=GW.ext x8 e9
  have ws19:=WSt.ext ws17 e9
  refine Qa1 (fun v W'=>v=.tuple #[]∧GW base gw W9 W'∧WSt base gw (Qbv (rawS (rawS (rawS (numS (numS (Qbv (s) (Qb4 false nm key sg pa ms)) 0 1) nm 1) key) sg) pa) (risV ms)) W') 85 #[.pointer (some ⟨gw,0,none⟩),.bool (risV ms)] 34 rfl kj kj ((QgY base gw _ (risV ms) _ ws19).mono (by rintro e w' ⟨rfl,h1,h2⟩; exact ⟨_,rfl,rfl,h1,h2⟩)) fun v20 W10 h20=>?_
  obtain ⟨rfl,q10,ws20⟩:=h20
  have x10:GW base gw w W10:=GW.trans x9 q10
  refine Qaf ?_
  refine hK18 _ _ ?_
  refine Qab ?_
  refine Qaa (.pointer (some ⟨gw,0,none⟩)) 35 rfl kj kj ?_
  refine Qaa (.pointer (some ⟨g2,98,none⟩)) 36 rfl kj kj ?_
  have r2_9:=(Qah r2_8 e9)
  have r2_10:=(GW.row q10 r2_9 (by decide) (Ne.symm (Nat.ne_of_lt (qL hgw b2))))
  refine Qaa (.slice a_m ms.length c_m) 37 rfl kj (Qag 24 _ g2 98 50 _ (.slice a_m ms.length c_m) _ r2_10 rfl kj (Qaj [#[.bool false],#[.int .i64 nm],ints .u8 (key),ints .u8 (sg),ints .u8 (pa)] [#[.slice a_m ms.length c_m]] [] 98 (by rw [Qac,Qac,Qac,Qac,Qac]; simp only [qS,cat,((Qae _ _).trans hgl),((Qae _ _).trans hkl),((Qae _ _).trans hpl)]; rfl) 0 _ rfl) kj) ?_
  refine Qa1 (fun v W'=>v=.tuple #[]∧GW base gw W10 W'∧WSt base gw (Qcz (Qbv (rawS (rawS (rawS (numS (numS (Qbv (s) (Qb4 false nm key sg pa ms)) 0 1) nm 1) key) sg) pa) (risV ms)) ms) W') 89 #[.pointer (some ⟨gw,0,none⟩),.slice a_m ms.length c_m,.func (.func 90) #[] #[]] 38 rfl kj kj ((QeB base gw _ ms _ _ _ (qT hbw x10.size) hbg ws20 hml (Qf4 hm x10 hbg)).mono (by rintro e w' ⟨rfl,h1,h2⟩; exact ⟨_,rfl,rfl,h1,h2⟩)) fun v21 W11 h21=>?_
  obtain ⟨rfl,q11,ws21⟩:=h21
  have x11:GW base gw w W11:=GW.trans x10 q11
  refine Qaf ?_
  repeat (first | with_reducible refine goX1 ?_ | with_reducible refine goX2 ?_ | with_reducible refine goX3 ?_)
  exact (show bodyPost _ _ _ .normal _ _ from end0 rfl ⟨rfl,x11,ws21⟩)
theorem Qm4 (base gw:Nat) (s:Option (List Int)) (us:Bool) (nm:Int) (key sg pa ms:List Int) (a_m:Option Addr) (c_m:Nat) (w:World) (hbw:base≤w.heap.size) (hbg:base≤gw) (h:WSt base gw s w) (hkl:key.length=32) (hgl:sg.length=32) (hpl:pa.length=32) (hkb:Qav key) (hgb:Qav sg) (hpb:Qav pa) (hml:ms.length≤1000000) (hm:RdK .i64 base ms (.slice a_m ms.length c_m) w):Calls Tryd.prog 79 #[.pointer (some ⟨gw,0,none⟩),.agg (cat [#[.bool us],#[.int .i64 nm],ints .u8 (key),ints .u8 (sg),ints .u8 (pa),#[.slice a_m ms.length c_m]])] w (fun e W=>e=.returned (.tuple #[])∧GW base gw w W∧WSt base gw (nodeS s us nm key sg pa ms) W):=by
  cases us with
  | true=>exact QgW base gw s nm key sg pa ms a_m c_m w hbw hbg h hkl hgl hpl hkb hgb hpb hml hm
  | false=>exact QfY base gw s nm key sg pa ms a_m c_m w hbw hbg h hkl hgl hpl hkb hgb hpb hml hm
end Go.Proofs.YthfkppjajmjpnaaDoor.Wr
end
section
namespace Go.Proofs.YthfkppjajmjpnaaDoor.Wr
open Go Go.RowKit
open Rely Auto Own Sha
theorem Qk5 (us : Bool) (nm:Int) (key sg pa ms:List Int) (a_m:Option Addr) (c_m:Nat) (w:World) (hkl:key.length=32) (hgl:sg.length=32) (hpl:pa.length=32) (hkb:Qav key) (hgb:Qav sg) (hpb:Qav pa) (hml:ms.length≤1000000) (hm:RdK .i64 w.heap.size ms (.slice a_m ms.length c_m) w):Calls Tryd.prog 78 #[.agg (cat [#[.bool us],#[.int .i64 nm],ints .u8 (key),ints .u8 (sg),ints .u8 (pa),#[.slice a_m ms.length c_m]]),.func (.func 79) #[] #[]] w (QbK w (PutR w.heap.size (nodeS (some []) us nm key sg pa ms))):=by
 refine enter 22 [(0,.agg (cat [#[.bool us],#[.int .i64 nm],ints .u8 (key),ints .u8 (sg),ints .u8 (pa),#[.slice a_m ms.length c_m]])),(1,.func (.func 79) #[] #[])] Tryd.func78 rfl rfl kj rfl ?_
 refine wp_seq_k fun K1 hK1=>?_
 refine Qab ?_
 refine Qan (cat [#[.bool us],#[.int .i64 nm],ints .u8 (key),ints .u8 (sg),ints .u8 (pa),#[.slice a_m ms.length c_m]]) 50 2 rfl kj kj fun g2 W1 l2 e1 r2_1=>?_
 have x1:Ext w W1:=Ext.tr (Rely.Ext.refl w) e1
 have b2:w.heap.size≤g2:=qT (Rely.Ext.refl w).size l2
 refine Qaa (.slice none 0 0) 4 rfl kj kj ?_
 refine Qaa (.nilIface) 5 rfl kj kj ?_
 refine Qaf ?_
 refine hK1 _ _ ?_
 refine wp_seq_k fun K3 hK3=>?_
 refine Qab ?_
 refine Qaa (.agg (cat [#[.slice none 0 0],#[.bool false]])) 7 rfl kj kj ?_
 refine Qan (cat [#[.slice none 0 0],#[.bool false]]) 111 8 rfl kj kj fun g4 W2 l4 e2 r4_2=>?_
 have x2:Ext w W2:=Ext.tr x1 e2
 have b4:w.heap.size≤g4:=qT x1.size l4
 refine Qaa (.pointer (some ⟨g4,0,none⟩)) 6 rfl kj kj ?_
 refine Qaf ?_
 refine hK3 _ _ ?_
 refine wp_seq_k fun K5 hK5=>?_
 refine Qab ?_
 refine Qaa (.func (.func 79) #[] #[]) 9 rfl kj kj ?_
 refine Qaa (.pointer (some ⟨g4,0,none⟩)) 10 rfl kj kj ?_
 have r2_2:=(Qah r2_1 e2)
 refine Qaa (.agg (cat [#[.bool us],#[.int .i64 nm],ints .u8 (key),ints .u8 (sg),ints .u8 (pa),#[.slice a_m ms.length c_m]])) 11 rfl kj (Qa4 50 _ g2 50 _ _ r2_2 rfl kj kj (isz (n:=99) kj (by rw [Qac,Qac,Qac,Qac,Qac,Qac]; simp only [qS,cat,((Qae _ _).trans hgl),((Qae _ _).trans hkl),((Qae _ _).trans hpl)]; rfl))) ?_
 refine Qa1 (fun v W'=>v=.tuple #[]∧GW W1.heap.size g4 W2 W'∧WSt W1.heap.size g4 (nodeS (some []) us nm key sg pa ms) W') 79 #[.pointer (some ⟨g4,0,none⟩),.agg (cat [#[.bool us],#[.int .i64 nm],ints .u8 (key),ints .u8 (sg),ints .u8 (pa),#[.slice a_m ms.length c_m]])] 12 rfl kj kj ((Qm4 W1.heap.size g4 (some []) us nm key sg pa ms a_m c_m _ (qT (qR _) e2.size) l4 ⟨_,[],false,r4_2,Qcw .u8 5 _ _,Nat.zero_le _,(fun x hx=>by cases hx),rfl⟩ hkl hgl hpl hkb hgb hpb hml (RdK.more (RdK.ext hm x2) (qT (qR _) e1.size))).mono (by rintro e w' ⟨rfl,h1,h2⟩; exact ⟨_,rfl,rfl,h1,h2⟩)) fun v6 W3 h6=>?_
 obtain ⟨rfl,q3,u,xs,bad,rb3,ho,-,-,hS⟩:=h6
 have x3:Ext w W3:=GW.back x2 q3 (qT (qR _) e1.size) b4
 obtain ⟨au,cu,rfl,-⟩:=id (OwnN.rd ho)
 refine Qaf ?_
 refine hK5 _ _ ?_
 refine wp_seq_k fun K7 hK7=>?_
 refine wp_seq_k fun K8 hK8=>?_
 refine Qab ?_
 refine Qaa (.pointer (some ⟨g4,0,none⟩)) 13 rfl kj kj ?_
 refine Qaa (.pointer (some ⟨g4,0,none⟩)) 14 rfl kj kj ?_
 refine Qaa (.pointer (some ⟨g4,1,none⟩)) 15 rfl kj kj ?_
 refine Qaa (.bool bad) 16 rfl kj (Qag 4 _ g4 1 111 _ (.bool bad) _ rb3 rfl kj kj kj) ?_
 refine Qaf ?_
 refine hK8 _ _ ?_
 refine Qar (t:=bad) kj (fun c9=>?_) (fun c9=>?_)
 ·skip
  refine wp_seq_k fun K10 hK10=>?_
  refine Qab ?_
  refine Qaa (.iface 68 (.int .i64 3)) 17 rfl kj kj ?_
  refine Qaa (.slice none 0 0) 4 rfl kj kj ?_
  refine Qaa (.iface 68 (.int .i64 3)) 5 rfl kj kj ?_
  refine Qaf ?_
  refine hK10 _ _ ?_
  refine wp_ret ?_
  repeat (first | with_reducible refine goR1 ?_ | with_reducible refine goR2 ?_)
  exact (show bodyPost _ _ _ .ret _ _ from ret2 (.slice none 0 0) (.iface 68 (.int .i64 3)) rfl (Qaq kj) (Qaq kj) ⟨_,rfl,x3,by rw [hS,c9]; exact rfl⟩)
 ·skip
  refine wp_skip ?_
  refine hK7 _ _ ?_
  refine wp_seq_k fun K11 hK11=>?_
  refine Qab ?_
  refine Qaa (.pointer (some ⟨g4,0,none⟩)) 18 rfl kj kj ?_
  refine Qaa (.pointer (some ⟨g4,0,none⟩)) 19 rfl kj kj ?_
  refine Qaa (.pointer (some ⟨g4,0,none⟩)) 20 rfl kj kj ?_
  refine Qaa (.slice au xs.length cu) 21 rfl kj (Qag 59 _ g4 0 111 _ (.slice au xs.length cu) _ rb3 rfl kj kj kj) ?_
  refine Qaa (.slice au xs.length cu) 4 rfl kj kj ?_
  refine Qaa (.nilIface) 5 rfl kj kj ?_
  refine Qaf ?_
  refine hK11 _ _ ?_
  refine wp_ret ?_
  repeat (first | with_reducible refine goR1 ?_ | with_reducible refine goR2 ?_)
  exact (show bodyPost _ _ _ .ret _ _ from ret2 (.slice au xs.length cu) (.nilIface) rfl (Qaq kj) (Qaq kj) ⟨_,rfl,x3,by rw [hS,c9]; exact ⟨_,rfl,OwnN.base (qT (qR _) e1.size) ho⟩⟩)
theorem PutNode_S (us : Bool) (nm:Int) (key sg pa ms:List Int) (a_m:Option Addr) (c_m:Nat) (w:World) (hkl:key.length=32) (hgl:sg.length=32) (hpl:pa.length=32) (hkb:Qav key) (hgb:Qav sg) (hpb:Qav pa) (hml:ms.length≤1000000) (hm:RdK .i64 w.heap.size ms (.slice a_m ms.length c_m) w) (xs:List Int) (hS:nodeS (some []) us nm key sg pa ms=some xs):Calls Tryd.prog 70 #[.agg (cat [#[.bool us],#[.int .i64 nm],ints .u8 (key),ints .u8 (sg),ints .u8 (pa),#[.slice a_m ms.length c_m]])] w (QbK w (PutR w.heap.size (some xs))):=by
  refine enter 8 [(0,.agg (cat [#[.bool us],#[.int .i64 nm],ints .u8 (key),ints .u8 (sg),ints .u8 (pa),#[.slice a_m ms.length c_m]]))] Tryd.func70 rfl rfl kj rfl ?_
  refine wp_seq_k fun K1 hK1=>?_
  refine Qab ?_
  refine Qan (cat [#[.bool us],#[.int .i64 nm],ints .u8 (key),ints .u8 (sg),ints .u8 (pa),#[.slice a_m ms.length c_m]]) 50 1 rfl kj kj fun g2 W1 l2 e1 r2_1=>?_
  have x1:Ext w W1:=Ext.tr (Rely.Ext.refl w) e1
  have b2:w.heap.size≤g2:=qT (Rely.Ext.refl w).size l2
  refine Qaa (.slice none 0 0) 2 rfl kj kj ?_
  refine Qaa (.nilIface) 3 rfl kj kj ?_
  refine Qaf ?_
  refine hK1 _ _ ?_
  refine wp_seq_k fun K3 hK3=>?_
  refine Qab ?_
  refine Qaa (.agg (cat [#[.bool us],#[.int .i64 nm],ints .u8 (key),ints .u8 (sg),ints .u8 (pa),#[.slice a_m ms.length c_m]])) 4 rfl kj (Qa4 50 _ g2 50 _ _ r2_1 rfl kj kj (isz (n:=99) kj (by rw [Qac,Qac,Qac,Qac,Qac,Qac]; simp only [qS,cat,((Qae _ _).trans hgl),((Qae _ _).trans hkl),((Qae _ _).trans hpl)]; rfl))) ?_
  refine Qa1 (fun v W'=>(PutR W1.heap.size (nodeS (some []) us nm key sg pa ms)) v W'∧Ext W1 W') 78 #[.agg (cat [#[.bool us],#[.int .i64 nm],ints .u8 (key),ints .u8 (sg),ints .u8 (pa),#[.slice a_m ms.length c_m]]),.func (.func 79) #[] #[]] 5 rfl kj kj ((Qk5 us nm key sg pa ms a_m c_m _ hkl hgl hpl hkb hgb hpb hml (RdK.here (RdK.ext hm x1))).mono (by rintro e w' ⟨v,rfl,e1,hv⟩; exact ⟨v,rfl,hv,e1⟩)) fun vv4 W2 hh4=>?_
  obtain ⟨hv4,e2⟩:=hh4
  have x2:Ext w W2:=Ext.tr x1 e2
  rw [hS] at hv4
  obtain ⟨u5_,rfl,hu5_⟩:=hv4
  obtain ⟨a5_,c5_,rfl,-⟩:=id (OwnN.rd hu5_)
  refine Qaa (.slice a5_ ((xs).length) c5_) 6 rfl kj kj ?_
  refine Qaa (.nilIface) 7 rfl kj kj ?_
  refine Qaa (.slice a5_ ((xs).length) c5_) 2 rfl kj kj ?_
  refine Qaa (.nilIface) 3 rfl kj kj ?_
  refine Qaf ?_
  refine hK3 _ _ ?_
  refine wp_ret ?_
  repeat (first | with_reducible refine goR1 ?_ | with_reducible refine goR2 ?_)
  exact (show bodyPost _ _ _ .ret _ _ from ret2 (.slice a5_ ((xs).length) c5_) (.nilIface) rfl (Qaq kj) (Qaq kj) ⟨_,rfl,x2,_,rfl,OwnN.base x1.size hu5_⟩)
end Go.Proofs.YthfkppjajmjpnaaDoor.Wr
end
section
namespace Go.Proofs.YthfkppjajmjpnaaDoor.Wr
open Go Go.RowKit
open Rely Auto Own Sha
open Wk
def goodN (ms : List Int):Nat→Bool
  | 0=>true
  | n+1=>goodN ms n&&(inB (nth ms n) 31&&((n==0) || decide (nth ms (n-1)<nth ms n)))
def goodV (us : Bool) (nm:Int) (key sg pa ms:List Int):Bool:=inB nm 255&&decide (ms.length≤32)&&(goodN ms ms.length&&(us || Qb4 us nm key sg pa ms))
end Go.Proofs.YthfkppjajmjpnaaDoor.Wr
end
